import PyProof.Rows.All
import Wide.All
import OpenK.AllK
import Wide.FinOn
import Lean
import PyProof.EqAt
import PyProof.EqKinds
import PyProof.TupleCall
import PyProof.StrLawsTight
import PyProof.FitsReplace
import KE.KSortTup
import PyProof.TupleKey
import PyProof.SetKind
import PyProof.IsRules
import PyProof.Rows.SetFrom
import PyProof.CollectWalk
import PyProof.DictUpdate
import PyProof.AutoListH
import PyProof.SeqI3
import PyProof.EnumStmt
import PyProof.EnumMake
import PyProof.Rows.CallKwBuiltin
import PyProof.NeKinds
import PyProof.StationsW
import PyProof.ExcClass3
import PyProof.PassesOwn
import OpenK.KOwn
import PyProof.RulesAs
import PyProof.RulesDel
import KE.KIsAll
import PyProof.ExcArgsOwn
import PyProof.StrLawsIn
import PyProof.Rows.Range3
import PyProof.Rows.FStr
import PyProof.DictItems
import PyProof.AttrMissHeap
import PyProof.ListCopy
import KE.KDictOf
import KE.KDictSum
import PyProof.Rows.SortRev
import PyProof.Rows.IntMath
import KE.KLam
import KE.KSortKey
import KE.KNestM
import PyProof.ZipIter
import PyProof.Rows.SumAny
import PySem.Challenge.RW_levelbench_k67_least_lateness_of_few
set_option Elab.async false
set_option linter.all false
set_option maxRecDepth 100000
def qAA:=@PySem.wpAny_bind
def qAB:=@if_neg
def qAC:=@if_pos
def qAD:=@List.length_map
def qAE:=@PySem.wpAny_pure
def qAF:=@Nat.le_refl
def qAG:=@PySem.Heap.get?_push_of_some
def qAH:=@PySem.Heap.lt_size
def qAI:=@PySem.sizeLine_eq
def qAJ:=@List.mem_of_getElem?
def qAK:=@List.size_toArray
def qAL:=@Nat.le_trans
def qAM:=@List.mem_cons
def qAN:=@List.map_append
def qAO:=@Nat.ne_of_lt
def qAP:=@List.mem_singleton
def qAQ:=@List.mem_filter
def qAR:=@List.length_take
def qAS:=@decide_eq_true
def qAT:=@List.mem_append
def qAU:=@List.mem_cons_of_mem
def qAV:=@List.getElem?_eq_getElem
def qAW:=@List.mem_map
def qAX:=@PySem.Heap.get?_push_size
def qAY:=@List.mem_cons_self
def qAZ:=@List.getElem?_map
def qAa:=@decide_eq_false
def qAb:=@List.take_length
def qAc:=@List.length_cons
def qAd:=@Nat.zero_le
def qAe:=@Option.some.inj
def qAf:=@List.getElem?_eq_some_iff
def qAg:=@PySem.PassesOwn.never
def qAh:=@PyProof.Rows.wpS_bind
def qAi:=@Nat.lt_of_lt_of_le
def qAj:=@Ne.symm
def qAk:=@List.map_cons
def qAl:=@List.length_append
def qAm:=@congrArg
def qAn:=@Bool.false_ne_true
def qAo:=@of_decide_eq_true
def qAp:=@List.map_map
def qAq:=@List.length_filter_le
def qAr:=@List.getD_eq_getElem?_getD
def qAs:=@List.mem_range
def qAt:=@Nat.ne_of_gt
def qAu:=@List.filter_cons
def qAv:=@List.mem_append_left
def qAw:=@PyProof.Rows.wpS_pure
def qAx:=@PySem.Heap.SameBut.update
def qAy:=@List.filter_sublist
def qAz:=@PySem.wpAny_mono
def qA0:=@List.nodup_cons
def qA1:=@List.mem_iff_getElem
def qA2:=@Array.getElem?_toList
def qA3:=@decide_eq_true_eq
def qA4:=@List.mem_append_right
def qA5:=@List.nodup_nil
def qA6:=@PySem.wpAny_holding
def qA7:=@if_false
def qA8:=@Nat.lt_irrefl
def qA9:=@List.append_nil
def qBA:=@PySem.Heap.get?_update_self
def qBB:=@Bool.and_eq_true
def qBC:=@PySem.Obj.data_mapFields
def qBD:=@beq_eq_false_iff_ne
def qBE:=@PySem.Heap.size_push
def qBF:=@List.all_eq_true
def qBG:=@PySem.Heap.get?_update_other
def qBH:=@Option.map_eq_some_iff
def qBI:=@PySem.codeAny_builtin
def qBJ:=@PySem.wpAny_call_entry
def qBK:=@List.filter_append
def qBL:=@PySem.wpAny_truthy_bool
def qBM:=@List.lookup_cons
def qBN:=@Nat.lt_succ_of_lt
def qBO:=@PySem.typeLookup_type
def qBP:=@PySem.builtinLookup_eq_fast
def qBQ:=@Bool.false_eq_true
def qBR:=@PySem.F.plainAttrs_list
def qBS:=@Nat.lt_succ_self
def qBT:=@PySem.W.kia_one
def qBU:=@Int.toNat_natCast
def qBV:=@List.length_nil
def qBW:=@List.length_range
def qBX:=@List.nodup_append
def qBY:=@Nat.testBit_or
def qBZ:=@Array.length_toList
def qBa:=@PySem.wpAny_attempt
def qBb:=@PySem.wpAny_rule
def qBc:=@List.take_of_length_le
def qBd:=@PySem.Around.under_plainId
def qBe:=@PySem.wpAny_askSetting
def qBf:=@PySem.isSubtype_type
def qBg:=@PySem.wpAny_field
def qBh:=@PySem.wpAny_call
def qBi:=@PySem.codeAny_mono
def qBj:=@if_true
def qBk:=@PySem.wpAny_newObj_type
def qBl:=@List.getElem_mem
def qBm:=@Classical.byContradiction
def qBn:=@List.pairwise_map
def qBo:=@PySem.plainId_quiet
def qBp:=@PySem.wpAny_setField
def qBq:=@Nat.le_succ
def qBr:=@PySem.mem_of_lookup
def qBs:=@List.getElem?_append_left
def qBt:=@List.foldl_cons
def qBu:=@PySem.F.called_set
def qBv:=@PySem.wpAny_callSpecial?_slot
def qBw:=@Nat.zero_testBit
def qBx:=@Nat.eq_of_testBit_eq
def qBy:=@PySem.wpAny_passesOwn
def qBz:=@Bool.eq_iff_iff
def qB0:=@Nat.le_of_eq
def qB1:=@List.getElem?_append_right
def qB2:=@List.length_drop
def qB3:=@List.append_assoc
def qB4:=@PySem.call_meets
def qB5:=@Bool.or_eq_true
def qB6:=@PyProof.Rows.KeyOrd.kle_refl
def qB7:=@Nat.le_add_right
def qB8:=@PySem.wpAny_typeOf
def qB9:=@PySem.wpAny_of_eq
def qCA:=@Nat.not_lt_zero
def qCB:=@PySem.codeAny_call_builtin
def qCC:=@PySem.wpAny_isInstance
def qCD:=@List.length_pos_iff
def qCE:=@PySem.wpAny_setField_rec
def qCF:=@PyProof.Rows.listUpdate_at
def qCG:=@Int.le_refl
def qCH:=@PySem.Paired.length
def qCI:=@Nat.le_of_lt
def qCJ:=@List.filterMap_cons
def qCK:=@PySem.wpAny_standAt
def qCL:=@PySem.wpAny_Call_Name_kw
def qCM:=@List.any_cons
def qCN:=@List.flatten_cons
def qCO:=@List.find?_cons
def qCP:=@PyProof.Rows.wpS_forRange
def qCQ:=@Int.emod_nonneg
def qCR:=@Int.emod_lt_of_pos
def qCS:=@List.mem_of_mem_take
def qCT:=@List.length_eq_zero_iff
def qCU:=@PySem.Obj.isFreed_of_fields
def qCV:=@PySem.wpAny_seqItems
def qCW:=@PySem.wpAny_updateSeq
def qCX:=@List.map_congr_left
def qCY:=@PyProof.Rows.get?_update_seq
def qCZ:=@PySem.F.slot_dict_items
def qCa:=@Sum.inl.inj
def qCb:=@Sum.inr.inj
def qCc:=@PySem.wpAny_pyIter_list
def qCd:=@beq_iff_eq
def qCe:=@List.getElem?_take_of_lt
def qCf:=@List.take_sublist
def qCg:=@PySem.Calls.callWith_builtin
def qCh:=@List.replicate_succ
def qCi:=@List.length_singleton
def qCj:=@Bool.and_false
def qCk:=@Nat.lt_of_le_of_lt
def qCl:=@Nat.lt_trans
def qCm:=@PySem.F.plainAttrs_dict
def qCn:=@List.any_eq_true
def qCo:=@Array.Perm.refl
def qCp:=@PyProof.Rows.wpS_reverse
def qCq:=@Nat.pow_le_pow_right
def qCr:=@List.getElem?_cons_succ
def qCs:=@List.take_append_drop
def qCt:=@List.find?_some
def qCu:=@List.mem_of_find?_eq_some
def qCv:=@List.getElem?_range
def qCw:=@List.not_mem_nil
def qCx:=@Nat.not_lt
def qCy:=@PySem.codeAny_of_tree
def qCz:=@PySem.Obj.cls_mapFields
def qC0:=@Nat.le_of_succ_le
def qC1:=@PySem.F.plain_extend_loop
def qC2:=@PySem.entryFor_of_tree
def qC3:=@List.all_map
def qC4:=@List.length_pos_of_mem
def qC5:=@List.filter_congr
def qC6:=@PyProof.Rows.seqEpoch_at
def qC7:=@decide_eq_decide
def qC8:=@PySem.wpAny_execs_nil
def qC9:=@Bool.or_false
def qDA:=@PySem.SeqAt.EqAt.same
def qDB:=@List.nil_append
def qDC:=@Option.map_some
def qDD:=@PySem.tupleKind_room_in1
def qDE:=@PySem.wpAny_specialOf
def qDF:=@Array.perm_iff_toList_perm
def qDG:=@PyProof.Rows.KeyOrd.kle_trans
def qDH:=@PyProof.Rows.KeyOrd.kle_of_klt
def qDI:=@List.getElem?_drop
def qDJ:=@List.pairwise_iff_getElem
def qDK:=@Array.getElem?_eq_some_iff
def qDL:=@Array.toList_extract
def qDM:=@List.getElem?_eq_none
def qDN:=@Array.forIn_toList
def qDO:=@List.map_take
def qDP:=@PySem.entryFor_alias
def qDQ:=@List.Perm.refl
def qDR:=@PySem.isSubtype_stop
def qDS:=@PySem.wpAny_pyIter_slot
def qDT:=@PySem.wpAny_newTuple
def qDU:=@of_decide_eq_false
def qDV:=@PySem.F.slot_enumerate_next
def qDW:=@PySem.signature?_of
def qDX:=@PySem.F.slot_dict_itemiterator_next
def qDY:=@PySem.F.slot_list_append
def qDZ:=@PySem.F.type_list_append
def qDa:=@List.exists_mem_of_ne_nil
def qDb:=@PySem.wpAny_newList
def qDc:=@PySem.F.slot_list_extend
def qDd:=@PySem.F.type_list_extend
def qDe:=@List.take_succ_cons
def qDf:=@List.countP_eq_length_filter
def qDg:=@Bool.not_eq_true'
def qDh:=@Int.natCast_mul
def qDi:=@List.filter_eq_nil_iff
def qDj:=@Int.le_trans
def qDk:=@Int.ofNat_le
def qDl:=@List.forall_mem_cons
def qDm:=@PyProof.Rows.callWith_type1
def qDn:=@Int.fdiv_eq_ediv_of_nonneg
def qDo:=@Array.mem_toList_iff
def qDp:=@PySem.W.cellsFrom_some
def qDq:=@Option.isSome_iff_exists
def qDr:=@List.length_replicate
def qDs:=@PySem.wpAny_Call_method0_late
def qDt:=@List.length_dropLast
def qDu:=@PySem.F.slot_dict_pop
def qDv:=@Array.getElem?_eq_getElem
def qDw:=@PyProof.Rows.F.plain_set_update_loop
def qDx:=@PySem.weight_type_call_type
def qDy:=@List.getElem?_eq_none_iff
def qDz:=@Option.map_eq_none_iff
def qD0:=@PySem.F.slot_dict_values
def qD1:=@PySem.F.slot_list_insert
def qD2:=@PySem.F.type_list_insert
def qD3:=@List.dropLast_concat_getLast
def qD4:=@Nat.testBit_two_pow_sub_one
namespace L2
open PySem PySem.Spec PyProof.Rows
variable{us:List Value}{x:Str}{u:Value}{a b C:Addr}{P:Program}{w:World}{h base:Heap}{t' i:Nat}{e tg:Expr}{A:Around}{s:Shared}{pos:Pos}{pins:List (Addr×Obj)}{op:CmpOp}{K:PySem.W.Frag}
abbrev Key:=Sum Int Str
def keyIs:Key->Value->Bool
 | .inl k,v=>Value.isInt k v
 | .inr x,v=>Value.isStrOf x v
def keyH(w:World):Key->Int
 | .inl k=>hashInt k
 | .inr x=>hashStr w x
theorem zA6:∀{k:Key}{v:Value},keyIs k v=true->(∃i t,k=Sum.inl i/\v=Value.int i t)\/(∃x t,k=Sum.inr x/\v=Value.str x t)
 | .inl i,v,h=>by
  obtain⟨t,e⟩:=Value.isInt_shape (k:=i) (v:=v) h;exact .inl ⟨i,t,rfl,e⟩
 | .inr x,v,h=>by
  obtain⟨t,e⟩:=Value.isStrOf_shape (x:=x) (v:=v) h;exact .inr ⟨x,t,rfl,e⟩
theorem keyIs_int(i:Int)(t:Tok):keyIs (.inl i) (.int i t)=true:=by simp[keyIs,Value.isInt]
theorem keyIs_str(x:Str)(t:Tok):keyIs (.inr x) (.str x t)=true:=by simp[keyIs,Value.isStrOf]
theorem key_ll(a b:Int):decide ((Sum.inl a:Key)=Sum.inl b)=(a==b):=by
 by_cases e:a=b
 .subst e;simp
 .have h:¬(Sum.inl a:Key)=Sum.inl b:=λq=>e (qCa q);rw[qAa h];exact(qBD.mpr e).symm
theorem key_rr(a b:Str):decide ((Sum.inr a:Key)=Sum.inr b)=decide (a=b):=by
 by_cases e:a=b
 .subst e;simp
 .have h:¬(Sum.inr a:Key)=Sum.inr b:=λq=>e (qCb q);rw[qAa h,qAa e]
theorem key_lr(a:Int)(b:Str):decide ((Sum.inl a:Key)=Sum.inr b)=false:=qAa (λq=>nomatch q)
theorem key_rl(a:Str)(b:Int):decide ((Sum.inr a:Key)=Sum.inl b)=false:=qAa (λq=>nomatch q)
def zAn(prog:Program)(w:World):PySem.KeyKind prog w Key where
 is:=keyIs
 hash:=keyH w
 inj:=λv a b ha hb=>by
  rcases zA6 ha with⟨i,t,rfl,rfl⟩|⟨x,t,rfl,rfl⟩
  .rcases zA6 hb with⟨j,u,rfl,e⟩|⟨y,u,rfl,e⟩
   .injection e with e1 _;rw[e1]
   .exact nomatch e
  .rcases zA6 hb with⟨j,u,rfl,e⟩|⟨y,u,rfl,e⟩
   .exact nomatch e
   .injection e with e1 _;rw[e1]
 byValue:=λk v h=>by
  rcases zA6 h with⟨i,t,rfl,rfl⟩|⟨x,t,rfl,rfl⟩<;>rfl
 pyHash:=λhv h=>by
  rcases zA6 hv with⟨i,t,rfl,rfl⟩|⟨x,t,rfl,rfl⟩
  .exact wpAny_pyHash_int h
  .exact wpAny_pyHash_str h
 eqBool:=λhu hv h=>by
  rcases zA6 hu with⟨i,t,rfl,rfl⟩|⟨x,t,rfl,rfl⟩
  .rcases zA6 hv with⟨j,u,rfl,rfl⟩|⟨y,u,rfl,rfl⟩
   .rw [key_ll]at h;exact wpAny_eqBool_int h
   .rw [key_lr]at h;exact SeqAt.EqAt.int_str i t y u _ _ _ _ h
  .rcases zA6 hv with⟨j,u,rfl,rfl⟩|⟨y,u,rfl,rfl⟩
   .rw [key_rl]at h;exact SeqAt.EqAt.str_int x t j u _ _ _ _ h
   .rw [key_rr]at h;exact wpAny_eqBool_str h
 «strs»:=λk x t v h=>by
  rcases zA6 h with⟨i,u,rfl,e⟩|⟨y,u,rfl,e⟩
  .exact nomatch e
  .injection e with e1 _;subst e1
   cases v<;>rfl
theorem mixKind_int(prog:Program)(w:World)(i:Int)(t:Tok):(zAn prog w).is (.inl i) (.int i t)=true:=keyIs_int i t
theorem mixKind_str(prog:Program)(w:World)(x:Str)(t:Tok):(zAn prog w).is (.inr x) (.str x t)=true:=keyIs_str x t
inductive V where
 |non|bl (b:Bool)|int (i:Int)|str (x:Str)|byt (b:Array UInt8)|flt (b:UInt64)|ref (a:Addr)|ty (n:String)
 deriving DecidableEq
variable{xs:List V}{v y:V}
def RelV:V->Value->Prop
 | .non,u=>u=Value.none
 | .bl b,u=>u=Value.bool b
 | .int i,u=>∃t,u=Value.int i t
 | .str x,u=>∃t,u=Value.str x t
 | .byt b,u=>∃t,u=Value.bytes b t
 | .flt b,u=>∃t,u=Value.float b t
 | .ref a,u=>u=Value.ref a
 | .ty n,u=>u=Value.type n
abbrev Vals:List V->List Value->Prop:=Paired RelV
theorem Vals.length(r:Vals xs us):xs.length=us.length:=qCH r
theorem Vals.get:∀{xs:List V}{us:List Value}{i:Nat}{x:V},Vals xs us->xs[i]?=some x->∃u,us[i]?=some u/\RelV x u
 |_,_,_,_,.nil,e=>by simp at e
 |_,_,0,_,.cons r _,e=>by simp at e;subst e;exact⟨_,rfl,r⟩
 |_,_,i+1,x,.cons _ t,e=>by
  obtain⟨u,h1,h2⟩:=Vals.get (i:=i) (x:=x) t (by simpa using e);exact⟨u,by simpa using h1,h2⟩
theorem Vals.set{x:V}(r:RelV x u):∀{xs:List V}{us:List Value}(i:Nat),Vals xs us->Vals (xs.set i x) (us.set i u)
 |_,_,_,.nil=>.nil
 |_,_,0,.cons _ t=>.cons r t
 |_,_,i+1,.cons q t=>.cons q (Vals.set r i t)
theorem Vals.append:∀{xs ys:List V}{us ws:List Value},Vals xs us->Vals ys ws->Vals (xs++ys) (us++ws)
 |_,_,_,_,.nil,s=>s
 |_,_,_,_,.cons r t,s=>.cons r (Vals.append t s)
theorem Vals.take:∀{xs:List V}{us:List Value}(n:Nat),Vals xs us->Vals (xs.take n) (us.take n)
 |_,_,0,_=>.nil
 |_,_,_+1,.nil=>.nil
 |_,_,n+1,.cons r t=>.cons r (Vals.take n t)
theorem Vals.drop:∀{xs:List V}{us:List Value}(n:Nat),Vals xs us->Vals (xs.drop n) (us.drop n)
 |_,_,0,r=>r
 |_,_,_+1,.nil=>.nil
 |_,_,n+1,.cons _ t=>Vals.drop n t
def RelO:Option V->Option Value->Prop
 |some v,some u=>RelV v u
 |none,none=>True
 |_,_=>False
def KV{κ:Type}:List (κ×V)->List (κ×Value)->Prop:=Paired λ(p:κ×V)(q:κ×Value)=>p.1=q.1/\RelV p.2 q.2
def kV:Key->V
 | .inl i=>.int i
 | .inr x=>.str x
inductive HO where
 |lst (xs:List V)
 |tup (xs:List V)
 |dK (kvs:List (Key×V))|dT (kvs:List (List Key×V))
 |set (S:Int->Bool) (n:Nat)
 |ins (C dx:Addr) (fs:List (Str×V))
 |own (x:Addr)
 |xd (fs:List (Str×V))
 |met (f x:Addr)
 |rng (lo hi:Int)
 |frz (o:Obj) (u:HO)
 |tbl (ps:Array Value)
 |ext (φ:Heap->Prop)
variable{o:HO}
abbrev Hp:=Addr->Option HO
variable{H:Hp}
def upd(H:Hp)(a:Addr)(o:HO):Hp:=λb=>if b=a then some o else H b
theorem upd_same :upd H a o a=some o:=by unfold upd;rw[qAC rfl]
theorem upd_ne(h:b≠a):upd H a o b=H b:=by unfold upd;rw[qAB h]
theorem zAx{u:HO}:upd (upd H a o) a u=upd H a u:=by
 funext b;unfold upd;split<;>rfl
theorem zB8{u:HO}(h:H a=some o)(h':H b=some u)(d:o≠u):a≠b:=by
 intro e;subst e;rw[h]at h';exact d (qAe h')
theorem zAu(h:H a=some o)(h':H b=none):a≠b:=by
 intro e;subst e;rw[h]at h';cases h'
section
variable(P:Program)(w:World)
def zA0(H:Hp)(h:Heap)(a:Addr):HO->Prop
 | .lst xs=>xs.length<=sizeLine/\∃(its:List Value)(n:Nat),Vals xs its/\h.get? a=some {cls:=.type "list",data:=.seq its.toArray n}
 | .tup xs=>xs.length<=sizeLine/\∃its:List Value,Vals xs its/\IsTup h a its.toArray
 | .dK kvs=>kvs.length<=sizeLine/\(a==sysModules)=false/\∃vs,KV kvs vs/\h.DictOf (zAn P w) a vs
 | .dT kvs=>kvs.length<=sizeLine/\(a==sysModules)=false/\∃xs:List (List Key×Addr×Value),
   Paired (λ(p:List Key×V)(q:List Key×Addr×Value)=>p.1=q.1/\H q.2.1=some (.tup (p.1.map kV))/\RelV p.2 q.2.2) kvs xs /\
   ∃o es ep,h.get? a=some o/\o.ExactDict/\o.data= .dict es ep/\es.toList=xs.map (entryOfKey (tupleKind (zAn P w)))/\(xs.map (·.1)).Nodup
 | .set S n=>h.SetOf (intKind P w) a S n
 | .ins C dx fs=>H dx=some (.own a)/\fs.length<=1000/\dx≠a/\h.get? a=some (PySem.W.instObj C dx) /\
   ∃mA,h.Ns1 dx mA/\(∀f,RelO (fs.lookup f) (mA f))/\PySem.Within mA (fs.map (·.1))
 | .own _=>∃o,h.get? a=some o
 | .xd fs=>∃mA,h.Ns1 a mA/\∀f,RelO (fs.lookup f) (mA f)
 | .rng lo hi=>∃t u v,h.get? a=some {cls:=.type "range",data:=.fields #[.int lo t,.int hi u,.int 1 v]}
 | .frz o u=>h.get? a=some o/\zA0 H h a u
 | .tbl ps=>h.get? a=some {cls:=.none,data:=.fields ps}
 | .met f x=>h.get? a=some (PySem.W.methodObj (.ref f) (.ref x))
 | .ext φ=>φ h/\(∃o,h.get? a=some o)/\∀h1 h2:Heap,φ h1->(∀o,h1.get? a=some o->h2.get? a=some o)->φ h2
def HOk(H:Hp)(h:Heap):Prop:=∀a o,H a=some o->zA0 P w H h a o
end
section
variable{P:Program}{w:World}{H H':Hp}{h h':Heap}{a:Addr}{o:HO}
theorem zA0.lt(x:zA0 P w H h a o):a<h.objs.size:=by
 cases o with
 |lst xs=>obtain⟨_,_,_,_,e⟩:=x;exact qAH e
 |tup xs=>obtain⟨_,_,_,p⟩:=x;exact p.lt
 |dK kvs=>obtain⟨_,_,_,_,o,_,_,e,_⟩:=x;exact qAH e
 |dT kvs=>obtain⟨_,_,_,_,o,_,_,e,_⟩:=x;exact qAH e
 |set S n=>obtain⟨o,_,_,_,e,_⟩:=x;exact qAH e
 |ins C dx fs=>obtain⟨_,_,_,e,_⟩:=x;exact qAH e
 |own y=>obtain⟨_,e⟩:=x;exact qAH e
 |xd fs=>obtain⟨_,⟨_,_,_,e,_⟩,_⟩:=x;exact qAH e
 |rng lo hi=>obtain⟨_,_,_,e⟩:=x;exact qAH e
 |frz ob u=>obtain⟨e,_⟩:=x;exact qAH e
 |tbl ps=>exact qAH (show h.get? a=some _ from x)
 |met f y=>exact qAH (show h.get? a=some _ from x)
 |ext φ=>obtain⟨_,⟨_,e⟩,_⟩:=x;exact qAH e
theorem Paired.mapP{α β:Type}{F G:α->β->Prop}:∀{l₁:List α}{l₂:List β},Paired F l₁ l₂->(∀a b,F a b->G a b)->Paired G l₁ l₂
 |_,_,.nil,_=>.nil
 |_,_,.cons r t,f=>.cons (f _ _ r) (Paired.mapP t f)
theorem zA0.stay(x:zA0 P w H h a o)(k:∀b u,(b=a\/H b=some (.own a))->h.get? b=some u->h'.get? b=some u)
  (ho:∀b,H b=some (.own a)->H' b=some (.own a)) (ht:∀b xs,H b=some (.tup xs)->H' b=some (.tup xs)):zA0 P w H' h' a o:=by
 induction o with
 |lst xs=>obtain⟨z,its,n,r,e⟩:=x;exact⟨z,its,n,r,k _ _ (.inl rfl) e⟩
 |tup xs=>obtain⟨z,its,r,ob,e,c⟩:=x;exact⟨z,its,r,ob,k _ _ (.inl rfl) e,c⟩
 |dK kvs=>obtain⟨z,y,vs,r,ob,es,ep,e,c⟩:=x;exact⟨z,y,vs,r,ob,es,ep,k _ _ (.inl rfl) e,c⟩
 |dT kvs=>
  obtain⟨z,y,xs,r,ob,es,ep,e,c⟩:=x;exact⟨z,y,xs,Paired.mapP r λp q z=>⟨z.1,ht _ _ z.2.1,z.2.2⟩,ob,es,ep,k _ _ (.inl rfl) e,c⟩
 |set S n=>obtain⟨ob,es,ep,t,e,c⟩:=x;exact⟨ob,es,ep,t,k _ _ (.inl rfl) e,c⟩
 |ins C dx fs=>
  obtain⟨d,z,ne,e,mA,⟨od,es,ep,e2,c⟩,r⟩:=x;exact⟨ho _ d,z,ne,k _ _ (.inl rfl) e,mA,⟨od,es,ep,k _ _ (.inr d) e2,c⟩,r⟩
 |own y=>obtain⟨ob,e⟩:=x;exact⟨ob,k _ _ (.inl rfl) e⟩
 |xd fs=>obtain⟨mA,⟨od,es,ep,e,c⟩,r⟩:=x;exact⟨mA,⟨od,es,ep,k _ _ (.inl rfl) e,c⟩,r⟩
 |rng lo hi=>obtain⟨t,u,v,e⟩:=x;exact⟨t,u,v,k _ _ (.inl rfl) e⟩
 |frz ob u ih=>obtain⟨e,q⟩:=x;exact⟨k _ _ (.inl rfl) e,ih q⟩
 |tbl ps=>
  have e:h.get? a=some {cls:=.none,data:=.fields ps}:=x;show h'.get? a=some {cls:=.none,data:=.fields ps};exact k a _ (.inl rfl) e
 |met f y=>
  have e:h.get? a=some (PySem.W.methodObj (.ref f) (.ref y)):=x;show h'.get? a=some (PySem.W.methodObj (.ref f) (.ref y));exact k a _ (.inl rfl) e
 |ext φ=>obtain⟨p,⟨o,e⟩,st⟩:=x;exact⟨st _ _ p λo q=>k _ _ (.inl rfl) q,⟨o,k _ _ (.inl rfl) e⟩,st⟩
theorem HOk.lt(x:HOk P w H h)(e:H a=some o):a<h.objs.size:=(x a o e).lt
theorem HOk.fresh(x:HOk P w H h)(e:h.objs.size<=a):H a=none:=by
 cases q:H a with
 |none=>rfl
 |some u=>exact absurd (qAi (x.lt q) e) (qA8 _)
theorem HOk.kept(x:HOk P w H h)(k:∀b u,h.get? b=some u->h'.get? b=some u):HOk P w H h':=λa o e=>
 (x a o e).stay (λb u _ q=>k b u q) (λ_ q=>q) λ_ _ q=>q
theorem HOk.laid(x:HOk P w H h)(k:∀b u,h.get? b=some u->h'.get? b=some u)(hp:h.objs.size<=a)(new:zA0 P w (upd H a o) h' a o):HOk P w (upd H a o) h':=λb u e=>by
 have hn:=x.fresh hp
 by_cases hb:b=a
 .subst hb;rw[upd_same]at e;cases e;exact new
 .rw [upd_ne hb]at e;exact(x b u e).stay (λc v _ q=>k c v q) (λc q=>by rw[upd_ne (zAu q hn)];exact q) λc xs q=>by rw[upd_ne (zAu q hn)];exact q
end
def Rd(H:Hp)(a:Addr)(u:HO):Prop:=H a=some u\/∃o,H a=some (.frz o u)
theorem Rd.ok{u:HO}(r:Rd H a u)(x:HOk P w H h):zA0 P w H h a u:=by
 rcases r with r|⟨o,r⟩
 .exact x a u r
 .obtain ⟨_,q⟩:=x a _ r;exact q
def Mut:Option HO->Prop
 |some (.lst _)=>True
 |some (.dK _)=>True
 |some (.dT _)=>True
 |some (.set _ _)=>True
 |some (.ins _ _ _)=>True
 |some (.ext _)=>True
 |_=>False
section
variable{P:Program}{w:World}{H:Hp}{h h':Heap}{x e:Addr}{o':HO}
theorem HOk.write(ok:HOk P w H h)(mu:Mut (H x))(he:e=x\/H e=some (.own x))(k:∀b u,b≠e->h.get? b=some u->h'.get? b=some u)(heo:∃u,h'.get? e=some u)
  (new:zA0 P w (upd H x o') h' x o'):HOk P w (upd H x o') h':=λb u q=>by
 have nown:∀c y,H c=some (.own y)->c≠x:=λc y r z=>by subst z;rw[r]at mu;exact mu
 have ntup:∀c xs,H c=some (.tup xs)->c≠x:=λc xs r z=>by subst z;rw[r]at mu;exact mu
 by_cases hb:b=x
 .subst hb;rw[upd_same]at q;cases q;exact new
 .rw [upd_ne hb]at q
  by_cases hbe:b=e
  .have q':H b=some (.own x):=by
    rcases he with z|z
    .exact absurd (hbe.trans z) hb
    .rw [hbe];exact z
   rw[q]at q';cases q';obtain⟨v,hv⟩:=heo;exact⟨v,by rw[hbe];exact hv⟩
  .refine (ok b u q).stay (λc v hc r=>k c v ?_ r) (λc r=>by rw[upd_ne (nown c b r)];exact r) λc xs r=>by rw[upd_ne (ntup c xs r)];exact r
   rcases hc with rfl|hc
   .exact hbe
   .rintro rfl;rcases he with z|z
    .exact nown c b hc z
    .rw [hc]at z;cases z;exact hb rfl
end
structure Un(fs ex:List Addr)(H H':Hp)(h h':Heap):Prop where
 keep:∀b o,h.get? b=some o->H b=none->b∉fs->b∉ex->h'.get? b=some o
 slot:∀b o,h.get? b=some o->H b=none->b∈fs->b∉ex->∃sl,h'.get? b=some {o with slots:=sl}
 free:∀b o,h.get? b=some o->H b=none->b∉ex->H' b=none
 there:∀b o,h.get? b=some o->b∉ex->∃o',h'.get? b=some o'
 tups:∀b xs,H b=some (.tup xs)->H' b=some (.tup xs)
 frzs:∀b o u,H b=some (.frz o u)->H' b=some (.frz o u)
 tbls:∀b ps,H b=some (.tbl ps)->∃more,H' b=some (.tbl (ps++more))
section
variable{fs fs' ex ex':List Addr}{H H1 H2:Hp}{h h1 h2 h':Heap}{a x e:Addr}{o:HO}
theorem Un.any(u:Un fs ex H H1 h h1){ob:Obj}(q:h.get? b=some ob)(n:H b=none)(hx:b∉ex):∃sl,h1.get? b=some {ob with slots:=sl}:=by
 by_cases hb:b∈fs
 .exact u.slot b ob q n hb hx
 .exact ⟨ob.slots,u.keep b ob q n hb hx⟩
theorem Un.kept(k:∀b u,h.get? b=some u->h'.get? b=some u):Un fs ex H H h h' :=
 ⟨λb ob q _ _ _=>k b ob q,λb ob q _ _ _=>⟨ob.slots,k b ob q⟩,λ_ _ _ n _=>n,λb ob q _=>⟨ob,k b ob q⟩,λ_ _ q=>q,λ_ _ _ q=>q,λ_ ps q=>⟨#[],by rw[q];simp⟩⟩
theorem Un.refl:Un fs ex H H h h:=Un.kept λ_ _ q=>q
theorem Un.laid(k:∀b u,h.get? b=some u->h'.get? b=some u)(hp:h.objs.size<=a)(hn:H a=none):Un fs ex H (upd H a o) h h' where
 keep:=λb u q _ _ _=>k b u q
 slot:=λb u q _ _ _=>⟨u.slots,k b u q⟩
 free:=λb u q n _=>by rw[upd_ne (qAO (qAi (qAH q) hp))];exact n
 there:=λb u q _=>⟨u,k b u q⟩
 tups:=λb xs q=>by rw[upd_ne (zAu q hn)];exact q
 frzs:=λb u xs q=>by rw[upd_ne (zAu q hn)];exact q
 tbls:=λb ps q=>⟨#[],by rw[upd_ne (zAu q hn),q];simp⟩
theorem Un.write(mu:Mut (H x))(he:e=x\/H e=some (.own x))(k:∀b u,b≠e->h.get? b=some u->h'.get? b=some u)(heo:∃u,h'.get? e=some u):Un fs ex H (upd H x o) h h':=by
 have hx:∀b,H b=none->b≠x:=λb n z=>by subst z;rw[n]at mu;exact mu
 have hb:∀b,H b=none->b≠e:=λb n z=>by
  subst z;rcases he with r|r
  .exact hx b n r
  .rw [n]at r;cases r
 have hm:∀b u,H b=some u->¬Mut (some u)->b≠x:=λb u q nm z=>by subst z;rw[q]at mu;exact nm mu
 refine⟨λb u q n _ _=>k b u (hb b n) q,λb u q n _ _=>⟨u.slots,k b u (hb b n) q⟩,λb u q n _=>by rw[upd_ne (hx b n)];exact n,λb u q _=>?_,
  λb xs q=>by rw[upd_ne (hm b _ q λz=>z)];exact q,λb u xs q=>by rw[upd_ne (hm b _ q λz=>z)];exact q,λb ps q=>⟨#[],by rw[upd_ne (hm b _ q λz=>z),q];simp⟩⟩
 by_cases hbe:b=e
 .subst hbe;exact heo
 .exact ⟨u,k b u hbe q⟩
end
def trk(h:Heap)(H:Hp):List Addr:=(List.range h.objs.size).filter λa=>(H a).isSome
def hidT(h:Heap)(H:Hp):Heap:=PySem.W.hideAll h (trk h H)
theorem hidT_size(h:Heap)(H:Hp):(hidT h H).objs.size=h.objs.size:=PySem.W.hideAll_size _ _
theorem hidT_get{o:Obj}(e:h.get? b=some o)(n:H b=none):(hidT h H).get? b=some o :=
 PySem.W.hideAll_get _ e λhm=>by
  have q:(H b).isSome=true:=(qAQ.mp hm).2;rw[n]at q;simp at q
theorem of_hidT{o:Obj}(e:(hidT h H).get? b=some o):h.get? b=some o/\H b=none:=by
 have e':h.get? b=some o:=PySem.W.of_hideAll (trk h H) e;refine⟨e',?_⟩
 cases q:H b with
 |none=>rfl
 |some x=>
  have hm:b∈trk h H:=qAQ.mpr ⟨qAs.mpr (qAH e'),by simp[q]⟩;have z:(hidT h H).get? b=none:=PySem.W.hideAll_none (trk h H) hm;rw[z]at e;cases e
structure Mod(K:PySem.W.Frag)(mg:Str->Option Value)(base:Heap):Prop where
 kin:K.In base
 glob:base.Ns mainGlobals mg
 blt:∃mb,base.Ns builtinsNs mb/\∀x:Str,x≠ "__name__"->mb x=bootBuiltins x
 nolimit:base.NoLimit
structure Cx where
 prog:Program
 w:World
 K:PySem.W.Frag
 mg:Str->Option Value
 base:Heap
 A:Around
 N:List Str
 s₀:Shared
 H₀:Hp
 env:Env
 outer:List Env
 stack:List Env
 ex:List Addr
 fn:Str->Bool
 calm:Bool
 pn:List (Addr×Obj)
 xe:Value->Shared->Prop
variable{X:Cx}
def frs(l:List Env):List Addr:=l.filterMap (·.frame)
abbrev Cx.fs(X:Cx):List Addr:=frs X.outer
def Vis(sc:Scope)(x:Str):Prop:=sc.names.lookup x=some .local\/sc.names.lookup x=some .cell\/sc.names.lookup x=some .free
def Loc(sc:Scope)(x:Str):Prop:=sc.names.lookup x=some .local\/sc.names.lookup x=some .cell
def Look(env:Env)(h:Heap)(m:Str->Option Value)(x:Str)(u:Value):Prop :=
 (env.kindOf x=some .local/\m x=some u)\/((env.kindOf x=some .cell\/env.kindOf x=some .free)/\∃c,env.cells.lookup x=some c/\h.IsCell c (some u))
structure Cx.Ok(X:Cx):Prop where
 mod:Mod X.K X.mg X.base
 kind:X.env.scope.kind= .function
 glob:X.env.globals=mainGlobals
 blt:X.env.builtins=builtinsNs
 above:X.s₀.heap.objs.size<=X.env.locals
 inj:∀x y c,X.env.cells.lookup x=some c->X.env.cells.lookup y=some c->x=y
 has:∀x,(X.env.kindOf x=some .cell\/X.env.kindOf x=some .free)->∃c,X.env.cells.lookup x=some c
 cab:∀x c,X.fn x=true->X.env.cells.lookup x=some c->X.s₀.heap.objs.size<=c
 hd:X.calm=true->X.A.handled=none
 frames:X.A.frames=some X.stack
 stk:X.stack=X.outer\/(X.stack=X.env::X.outer/\X.env.frame=some X.env.locals)
 exf:∀b∈X.ex,b≠X.env.locals/\∀x c,X.env.cells.lookup x=some c->c≠b
 bs:∀b o,X.base.get? b=some o->X.s₀.heap.get? b=some o/\X.H₀ b=none
 bsz:X.base.objs.size<=X.s₀.heap.objs.size
 noex:∀b o,X.base.get? b=some o->b∉X.ex
 exfs:∀b∈X.ex,b∉X.fs
 funs:X.s₀.heap.FunFrames X.base X.outer
 frf:∀b∈X.fs,X.H₀ b=none
structure Inv(X:Cx)(pins:List (Addr×Obj))(σ:List (Option V))(H:Hp)(s:Shared):Prop where
 ok:X.Ok
 os:s.os=X.s₀.os
 bare:AllBare s.gens
 base:Un X.fs X.ex X.H₀ H X.s₀.heap s.heap
 loc:∃m,s.heap.Ns X.env.locals m/\∀(i:Nat)(x:Str)(v:V),X.N[i]?=some x->σ[i]?=some (some v)->Vis X.env.scope x->∃u,RelV v u/\Look X.env s.heap m x u
 cell:∀x c,X.env.cells.lookup x=some c->∃v,s.heap.IsCell c v
 free:H X.env.locals=none
 freeC:∀x c,X.env.cells.lookup x=some c->H c=none
 pin:∀p∈X.pn++pins,s.heap.get? p.1=some p.2/\H p.1=none/\p.1≠X.env.locals/\p.1∉X.fs/\∀v,p.2.data≠.cell v
 hok:HOk X.prog X.w H s.heap
 len:σ.length=X.N.length
section
variable{X:Cx}{pins:List (Addr×Obj)}{σ:List (Option V)}{H H':Hp}{s:Shared}{h':Heap}
theorem Cx.Ok.nofr(ok:X.Ok){o:Obj}(e:X.base.get? b=some o):b∉X.fs:=λhb=>by
 have:=(ok.funs.mem hb).1;rw[e]at this;cases this
theorem Inv.bs(I:Inv X pins σ H s):∀b o,X.base.get? b=some o->s.heap.get? b=some o/\H b=none:=λb o e=>
 ⟨I.base.keep b o (I.ok.bs b o e).1 (I.ok.bs b o e).2 (I.ok.nofr e) (I.ok.noex b o e),I.base.free b o (I.ok.bs b o e).1 (I.ok.bs b o e).2 (I.ok.noex b o e)⟩
theorem Inv.bk(I:Inv X pins σ H s):∀b o,X.base.get? b=some o->s.heap.get? b=some o:=λb o e=>(I.bs b o e).1
theorem Inv.mod(I:Inv X pins σ H s):Mod X.K X.mg X.base:=I.ok.mod
theorem Inv.kIn(I:Inv X pins σ H s):X.K.In s.heap:=I.ok.mod.kin.keeps I.bk
theorem Inv.nolimit(I:Inv X pins σ H s):s.heap.NoLimit:=I.ok.mod.nolimit.keeps I.bk
theorem Inv.lt(I:Inv X pins σ H s):X.env.locals<s.heap.objs.size:=let⟨_,hn,_⟩:=I.loc;hn.lt
theorem Inv.sz(I:Inv X pins σ H s):X.s₀.heap.objs.size<=s.heap.objs.size:=qAL I.ok.above (qCI I.lt)
theorem Inv.nofs(I:Inv X pins σ H s)(h:s.heap.objs.size<=a):a∉X.fs:=λhb=>by
 obtain⟨_,o,ho,_⟩:=I.ok.funs.mem hb;exact absurd (qAi (qAH ho) (qAL I.sz h)) (qA8 _)
theorem Inv.cne(I:Inv X pins σ H s):∀x c,X.env.cells.lookup x=some c->c≠X.env.locals:=λx c e z=>by
 obtain⟨v,o,ho,hd⟩:=I.cell x c e;obtain⟨m,⟨o',es,ep,ho',hd',_⟩,_⟩:=I.loc;rw[z,ho']at ho;cases ho;rw[hd']at hd;cases hd
theorem Inv.funs(I:Inv X pins σ H s):s.heap.FunFrames X.base X.outer:=by
 have all:∀(l:List Env),(∀b∈frs l,b∈X.fs)->X.s₀.heap.FunFrames X.base l->s.heap.FunFrames X.base l:=by
  intro l
  induction l with
  |nil=>intro _ _;trivial
  |cons env r ih=>
   intro hs hl;obtain⟨hk,⟨L,o,hf,hn,ho,hd⟩,hr⟩:=hl;have hL:L∈X.fs:=hs L (by unfold frs;rw[qCJ,hf];exact qAY);obtain⟨sl,e⟩:=I.base.slot L o ho (I.ok.frf L hL) hL λz=>I.ok.exfs L z hL;exact⟨hk,⟨L,_,hf,hn,e,hd⟩,ih (λb hb=>hs b (by unfold frs;rw[qCJ,hf];exact qAU _ hb)) hr⟩
 exact all X.outer (λ_ hb=>hb) I.ok.funs
theorem Inv.stack(I:Inv X pins σ H s):s.heap.FunFrames X.base X.stack:=by
 rcases I.ok.stk with e|⟨e,hf⟩
 .rw [e];exact I.funs
 .rw [e];obtain⟨m,hn,_⟩:=I.loc;refine .cons (by rw[I.ok.kind];decide) hf hn ?_ I.funs;exact Heap.get?_none_of_le (qAL I.ok.bsz I.ok.above)
theorem Inv.stkSub(I:Inv X pins σ H s):∀b∈frs X.stack,b∈X.env.locals::X.fs:=λb hb=>by
 rcases I.ok.stk with e|⟨e,hf⟩
 .rw [e]at hb;exact qAU _ hb
 .rw [e]at hb;unfold frs at hb;rw[qCJ,hf]at hb;exact hb
theorem Inv.stkFree(I:Inv X pins σ H s):∀b∈frs X.stack,H b=none:=λb hb=>by
 rcases qAM.mp (I.stkSub b hb)with e|hb
 .rw [e];exact I.free
 .obtain ⟨_,o,ho,_⟩:=I.ok.funs.mem hb;exact I.base.free b o ho (I.ok.frf b hb) λz=>I.ok.exfs b z hb
theorem Inv.step{g':Array GenState}{t':Nat}{d':Drawn}{ch:List Addr}(I:Inv X pins σ H s)
  (hch:∀b∈ch,(b∈X.ex\/X.s₀.heap.objs.size<=b)/\b≠X.env.locals/\(∀x c,X.env.cells.lookup x=some c->c≠b)/\∀p∈X.pn++pins,p.1≠b)
  (keep:∀b o,b≠X.env.locals->b∉X.fs->b∉ch->s.heap.get? b=some o->H b=none->h'.get? b=some o)
  (slot:∀b o,b≠X.env.locals->b∈X.fs->b∉ch->s.heap.get? b=some o->H b=none->∃sl,h'.get? b=some {o with slots:=sl}) (free:∀b o,b∉ch->s.heap.get? b=some o->H b=none->H' b=none)
  (there:∀b o,b∉ch->s.heap.get? b=some o->∃o',h'.get? b=some o')
  (tups:∀b xs,H b=some (.tup xs)->H' b=some (.tup xs)) (frzs:∀b o u,H b=some (.frz o u)->H' b=some (.frz o u)) (tbls:∀b ps,H b=some (.tbl ps)->∃more,H' b=some (.tbl (ps++more)))
  (ns:∀m,s.heap.Ns X.env.locals m->h'.Ns X.env.locals m) (hok:HOk X.prog X.w H' h') (hg:AllBare g') :
  Inv X pins σ H' {s with heap:=h',gens:=g',drawn:=d',toks:=t'}:=by
 have neL:∀b o,X.s₀.heap.get? b=some o->b≠X.env.locals:=λb o e=>qAO (qAi (qAH e) I.ok.above)
 have neC:∀b o,X.s₀.heap.get? b=some o->b∉X.ex->b∉ch:=λb o e hx hb=>by
  rcases(hch b hb).1 with z|z
  .exact hx z
  .exact absurd (qAi (qAH e) z) (qA8 _)
 have cellK:∀x c,X.env.cells.lookup x=some c->∀v,s.heap.IsCell c v->h'.IsCell c v:=λx c e v ⟨o,ho,hd⟩=>by
  have nch:c∉ch:=λz=>(hch c z).2.2.1 x c e rfl
  by_cases hc:c∈X.fs
  .obtain ⟨sl,q⟩:=slot c o (I.cne x c e) hc nch ho (I.freeC x c e);exact⟨_,q,hd⟩
  .exact ⟨o,keep c o (I.cne x c e) hc nch ho (I.freeC x c e),hd⟩
 refine⟨I.ok,I.os,hg,⟨λb o e n hb hx=>?_,λb o e n hb hx=>?_,λb o e n hx=>?_,λb o e hx=>?_,λb xs e=>tups b xs (I.base.tups b xs e),λb o xs e=>frzs b o xs (I.base.frzs b o xs e),λb ps e=>?_⟩,?_,λx c e=>?_,?_,λx c e=>?_,λp hp=>?_,hok,I.len⟩
 .exact keep b o (neL b o e) hb (neC b o e hx) (I.base.keep b o e n hb hx) (I.base.free b o e n hx)
 .obtain ⟨sl,e1⟩:=I.base.slot b o e n hb hx;obtain⟨sl',e2⟩:=slot b _ (neL b o e) hb (neC b o e hx) e1 (I.base.free b o e n hx);exact⟨sl',e2⟩
 .obtain ⟨o',e1⟩:=I.base.there b o e hx;exact free b o' (neC b o e hx) e1 (I.base.free b o e n hx)
 .obtain ⟨o',e1⟩:=I.base.there b o e hx;exact there b o' (neC b o e hx) e1
 .obtain ⟨m1,e1⟩:=I.base.tbls b ps e;obtain⟨m2,e2⟩:=tbls b _ e1;exact⟨m1++m2,by rw[e2,Array.append_assoc]⟩
 .obtain ⟨m,hn,hl⟩:=I.loc;refine⟨m,ns m hn,λi x v e1 e2 e3=>?_⟩;obtain⟨u,r,l⟩:=hl i x v e1 e2 e3;refine⟨u,r,?_⟩;rcases l with l|⟨k,c,e,z⟩
  .exact .inl l
  .exact .inr ⟨k,c,e,cellK x c e _ z⟩
 .obtain ⟨v,z⟩:=I.cell x c e;exact⟨v,cellK x c e v z⟩
 .obtain ⟨m,⟨o,_,_,ho,_⟩,_⟩:=I.loc;exact free _ o (λz=>(hch _ z).2.1 rfl) ho I.free
 .obtain ⟨v,o,ho,hd⟩:=I.cell x c e;exact free c o (λz=>(hch c z).2.2.1 x c e rfl) ho (I.freeC x c e)
 .obtain ⟨e,n,ne,nf,d⟩:=I.pin p hp;have nch:p.1∉ch:=λz=>(hch p.1 z).2.2.2 p hp rfl;exact⟨keep p.1 p.2 ne nf nch e n,free p.1 p.2 nch e n,ne,nf,d⟩
theorem Inv.un{t':Nat}(I:Inv X pins σ H s)(u:Un X.fs [] H H' s.heap h')(hok:HOk X.prog X.w H' h'):Inv X pins σ H' {s with heap:=h',toks:=t'}:=by
 obtain⟨m,⟨o,es,ep,ho,r⟩,_⟩:=id I.loc;obtain⟨sl,hL⟩:=u.any ho I.free (by simp)
 exact I.step (g':=s.gens) (d':=s.drawn) (ch:=[]) (λ_ z=>nomatch z) (λb o _ hb _ e n=>u.keep b o e n hb (by simp)) (λb o _ hb _ e n=>u.slot b o e n hb (by simp)) (λb o _ e n=>u.free b o e n (by simp)) (λb o _ e=>u.there b o e (by simp)) u.tups u.frzs u.tbls (λm' hm=>by
  obtain⟨o',es',ep',ho',r'⟩:=hm;rw[ho]at ho';cases ho';exact⟨_,es',ep',hL,r'⟩) hok I.bare
theorem Inv.call{g':Array GenState}{t':Nat}{d':Drawn}{ch:List Addr}(I:Inv X pins σ H s)(u:Un (frs X.stack) ch H H' s.heap h')(hok:HOk X.prog X.w H' h')(hg:AllBare g')
  (hch:∀b∈ch,(b∈X.ex\/X.s₀.heap.objs.size<=b)/\b≠X.env.locals/\(∀x c,X.env.cells.lookup x=some c->c≠b)/\∀p∈X.pn++pins,p.1≠b) :
  Inv X pins σ H' {s with heap:=h',gens:=g',drawn:=d',toks:=t'}:=by
 obtain⟨m,⟨o,es,ep,ho,r⟩,_⟩:=id I.loc;obtain⟨sl,hL⟩:=u.any ho I.free λz=>(hch _ z).2.1 rfl
 exact I.step (ch:=ch) hch (λb o hL hb hc e n=>u.keep b o e n (λz=>(qAM.mp (I.stkSub b z)).elim hL hb) hc) (λb o _ _ hc e n=>u.any e n hc) (λb o hc e n=>u.free b o e n hc) (λb o hc e=>u.there b o e hc) u.tups u.frzs u.tbls (λm' hm=>by
  obtain⟨o',es',ep',ho',r'⟩:=hm;rw[ho]at ho';cases ho';exact⟨_,es',ep',hL,r'⟩) hok hg
theorem Inv.turned{t':Nat}{it:Addr}(I:Inv X pins σ H s)(k:∀b o,b≠it->s.heap.get? b=some o->h'.get? b=some o)(hn:H it=none)(hL:it≠X.env.locals)
  (h1:it∈X.ex\/X.s₀.heap.objs.size<=it) (h2:∀x c,X.env.cells.lookup x=some c->c≠it) (h3:∀p∈X.pn++pins,p.1≠it):Inv X pins σ H {s with heap:=h',toks:=t'}:=by
 have nit:∀b u,H b=some u->b≠it:=λb u e z=>by rw[z,hn]at e;cases e
 refine I.step (g':=s.gens) (d':=s.drawn) (ch:=[it]) (λb hb=>?_) (λb o _ _ hc e _=>k b o (λz=>hc (by simp[z])) e) (λb o _ _ hc e _=>⟨o.slots,k b o (λz=>hc (by simp[z])) e⟩) (λ_ _ _ _ n=>n)
  (λb o hc e=>⟨o,k b o (λz=>hc (by simp[z])) e⟩) (λ_ _ e=>e) (λ_ _ _ e=>e) (λb ps e=>⟨#[],by rw[e];simp⟩) (λm hm=>?_) (λb u e=>?_) I.bare
 .have e:b=it:=by simpa using hb
  subst e;exact⟨h1,hL,h2,h3⟩
 .obtain ⟨o,es,ep,ho,r⟩:=hm;exact⟨o,es,ep,k _ o (qAj hL) ho,r⟩
 .refine (I.hok b u e).stay (λc v hc q=>k c v ?_ q) (λ_ q=>q) λ_ _ q=>q;rcases hc with z|z
  .rw [z];exact nit b u e
  .exact nit c _ z
theorem Inv.tok(I:Inv X pins σ H s)(t:Nat):Inv X pins σ H {s with toks:=t}:=I.un (h':=s.heap) (t':=t) Un.refl I.hok
theorem Inv.kept{t':Nat}(I:Inv X pins σ H s)(k:∀b u,s.heap.get? b=some u->h'.get? b=some u):Inv X pins σ H {s with heap:=h',toks:=t'}:=I.un (Un.kept k) (I.hok.kept k)
theorem Inv.laid{a:Addr}{o:HO}{t':Nat}(I:Inv X pins σ H s)(k:∀b u,s.heap.get? b=some u->h'.get? b=some u)(hp:s.heap.objs.size<=a)(new:zA0 X.prog X.w (upd H a o) h' a o) :
  Inv X pins σ (upd H a o) {s with heap:=h',toks:=t'}:=I.un (Un.laid k hp (I.hok.fresh hp)) (I.hok.laid k hp new)
theorem Inv.write{x e:Addr}{t':Nat}(I:Inv X pins σ H s)(mu:Mut (H x))(he:e=x\/H e=some (.own x))(k:∀b u,b≠e->s.heap.get? b=some u->h'.get? b=some u)(heo:∃u,h'.get? e=some u)
  (new:zA0 X.prog X.w (upd H x o) h' x o):Inv X pins σ (upd H x o) {s with heap:=h',toks:=t'}:=I.un (Un.write mu he k heo) (I.hok.write mu he k heo new)
theorem Inv.pins_of{pins':List (Addr×Obj)}(I:Inv X pins σ H s)(h:∀p∈pins',s.heap.get? p.1=some p.2/\H p.1=none/\p.1≠X.env.locals/\p.1∉X.fs/\∀v,p.2.data≠.cell v):Inv X pins' σ H s :=
 ⟨I.ok,I.os,I.bare,I.base,I.loc,I.cell,I.free,I.freeC,λp hp=>(qAT.mp hp).elim (λz=>I.pin p (qAv _ z)) (h p),I.hok,I.len⟩
theorem nodup_ix{N:List Str}(hN:N.Nodup){j:Nat}(a:N[i]?=some x)(b:N[j]?=some x):i=j:=by
 obtain⟨h1,e1⟩:=qAf.mp a;obtain⟨h2,e2⟩:=qAf.mp b;exact(List.getElem_inj hN).mp (e1.trans e2.symm)
theorem store_ok2{M:Model}{E:Value->Shared->Prop}{Q:Unit->Shared->Prop}(I:Inv X pins σ H s)(hN:X.N.Nodup)(hi:X.N[i]?=some x)(hx:Loc X.env.scope x)(r:RelV v u)
  (h:∀s',Inv X pins (σ.set i (some v)) H s'->(∃a,Heap.SameBut a s.heap s'.heap/\(a=X.env.locals\/X.env.cells.lookup x=some a))->Q () s') (hf:X.fn x=true\/X.env.scope.names.lookup x=some .local:=by first|exact .inl rfl|exact .inr rfl|assumption):wpAny M A (storeName X.env x u) Q E s:=by
 obtain⟨m,hn,hl⟩:=id I.loc;have hcls:(X.env.scope.kind== .class||(X.env.scope.kind== .module&&X.env.locals != X.env.globals))=false:=by rw[I.ok.kind];rfl
 have hiσ:i<σ.length:=by rw[I.len];exact(qAf.mp hi).1
 have cne:=I.cne
 have tracked:∀{a:Addr}{h':Heap},(∃o,s.heap.get? a=some o/\H a=none)->Heap.SameBut a s.heap h'->HOk X.prog X.w H h':=λ{a h'} ha hs b ob e=>by
  obtain⟨_,_,hfree⟩:=ha;refine(I.hok b ob e).stay (λc w' hc q=>(hs.2 c ?_).trans q) (λ_ q=>q) λ_ _ q=>q;rintro rfl;rcases hc with rfl|hc
  .rw [hfree]at e;cases e
  .rw [hfree]at hc;cases hc
 rcases hx with hk|hk
 .refine wpAny_storeName_local hk hn (λh' hn' hs=>?_) hcls;obtain⟨oL,_,_,hoL,_⟩:=id hn;refine h _ ⟨I.ok,I.os,I.bare,⟨λb o e n hb hx=>?_,λb o e n hb hx=>?_,I.base.free,λb o e hx=>?_,I.base.tups,I.base.frzs,I.base.tbls⟩,⟨_,hn',λj y v' e1 e2 e3=>?_⟩,λy c e=>?_,I.free,I.freeC,λp hp=>?_,tracked ⟨oL,hoL,I.free⟩ hs,by simpa using I.len⟩ ⟨_,hs,.inl rfl⟩
  .exact (hs.2 b (qAO (qAi (qAH e) I.ok.above))).trans (I.base.keep b o e n hb hx)
  .obtain ⟨sl,e1⟩:=I.base.slot b o e n hb hx;exact⟨sl,(hs.2 b (qAO (qAi (qAH e) I.ok.above))).trans e1⟩
  .obtain ⟨o',e1⟩:=I.base.there b o e hx;exact⟨o',(hs.2 b (qAO (qAi (qAH e) I.ok.above))).trans e1⟩
  .by_cases hj:j=i
   .subst hj;rw[hi]at e1;cases e1;rw[List.getElem?_set_self hiσ]at e2
    cases e2
    exact⟨u,r,.inl ⟨hk,by simp⟩⟩
   .rw [List.getElem?_set_ne (qAj hj)]at e2;obtain⟨u',r',q⟩:=hl j y v' e1 e2 e3;refine⟨u',r',?_⟩;rcases q with⟨k,e⟩|⟨k,c,e,z⟩
    .refine .inl ⟨k,?_⟩;have:y≠x:=λe=>hj (nodup_ix hN e1 (e▸hi));simp[this,e]
    .exact .inr ⟨k,c,e,z.sameBut hs (cne y c e)⟩
  .obtain ⟨w',z⟩:=I.cell y c e;exact⟨w',z.sameBut hs (cne y c e)⟩
  .obtain ⟨e,n,ne,nf,d⟩:=I.pin p hp;exact⟨(hs.2 p.1 ne).trans e,n,ne,nf,d⟩
 .have hfn:X.fn x=true:=by
   rcases hf with z|z
   .exact z
   .rw [z]at hk;cases hk
  obtain⟨c,hc⟩:=I.ok.has x (.inl hk);obtain⟨w',z⟩:=I.cell x c hc;refine wpAny_storeName_cell I.ok.kind hk hc z (λh' hc' hs=>?_);obtain⟨oc,hoc,hocd⟩:=id z;refine h {s with heap:=h'} ⟨I.ok,I.os,I.bare,⟨λb o e n hb hx=>?_,λb o e n hb hx=>?_,I.base.free,λb o e hx=>?_,I.base.tups,I.base.frzs,I.base.tbls⟩,⟨m,hn.sameBut hs (qAj (cne x c hc)),λj y v' e1 e2 e3=>?_⟩,λy c' e=>?_,I.free,I.freeC,λp hp=>?_,tracked ⟨oc,hoc,I.freeC x c hc⟩ hs,by simpa using I.len⟩ ⟨c,hs,.inr hc⟩
  .exact (hs.2 b (qAO (qAi (qAH e) (I.ok.cab x c hfn hc)))).trans (I.base.keep b o e n hb hx)
  .obtain ⟨sl,e1⟩:=I.base.slot b o e n hb hx;exact⟨sl,(hs.2 b (qAO (qAi (qAH e) (I.ok.cab x c hfn hc)))).trans e1⟩
  .obtain ⟨o',e1⟩:=I.base.there b o e hx;exact⟨o',(hs.2 b (qAO (qAi (qAH e) (I.ok.cab x c hfn hc)))).trans e1⟩
  .by_cases hj:j=i
   .subst hj;rw[hi]at e1;cases e1;rw[List.getElem?_set_self hiσ]at e2
    cases e2
    exact⟨u,r,.inr ⟨.inl hk,c,hc,hc'⟩⟩
   .rw [List.getElem?_set_ne (qAj hj)]at e2;obtain⟨u',r',q⟩:=hl j y v' e1 e2 e3;refine⟨u',r',?_⟩;rcases q with q|⟨k,c',e,z'⟩
    .exact .inl q
    .refine .inr ⟨k,c',e,z'.sameBut hs ?_⟩;rintro rfl;exact hj (nodup_ix hN e1 (I.ok.inj _ _ _ e hc▸hi))
  .by_cases hcc:c'=c
   .subst hcc;exact⟨_,hc'⟩
   .obtain ⟨w2,z2⟩:=I.cell y c' e;exact⟨w2,z2.sameBut hs hcc⟩
  .obtain ⟨e,n,ne,nf,d⟩:=I.pin p hp;refine⟨(hs.2 p.1 ?_).trans e,n,ne,nf,d⟩;intro q;rw[q,hoc]at e;have q':oc=p.2:=qAe e;exact d w' (by rw[<-q'];exact hocd)
theorem store_ok{M:Model}{E:Value->Shared->Prop}{Q:Unit->Shared->Prop}(I:Inv X pins σ H s)(hN:X.N.Nodup)(hi:X.N[i]?=some x)(hx:Loc X.env.scope x)(r:RelV v u)
  (h:∀s',Inv X pins (σ.set i (some v)) H s'->Q () s') (hf:X.fn x=true\/X.env.scope.names.lookup x=some .local:=by first|exact .inl rfl|exact .inr rfl|assumption):wpAny M A (storeName X.env x u) Q E s :=
 store_ok2 I hN hi hx r (λs' I' _=>h s' I') hf
theorem Inv.call'{s':Shared}{ch:List Addr}(I:Inv X pins σ H s)(ho:s'.os=s.os)(u:Un (frs X.stack) ch H H' s.heap s'.heap)(hok:HOk X.prog X.w H' s'.heap)(hg:AllBare s'.gens)
  (hch:∀b∈ch,(b∈X.ex\/X.s₀.heap.objs.size<=b)/\b≠X.env.locals/\(∀x c,X.env.cells.lookup x=some c->c≠b)/\∀p∈X.pn++pins,p.1≠b):Inv X pins σ H' s':=by
 obtain⟨h',g',d',t',o'⟩:=s';have e:o'=s.os:=ho;subst e;exact I.call (g':=g') (t':=t') (d':=d') u hok hg hch
end
abbrev XK:=Value->Option Addr->Hp->Prop
abbrev St:=List (Option V)
variable{σ:St}
abbrev VK:=V->Hp->Prop
abbrev TE:=St->Hp->VK->Prop
variable{t:TE}
abbrev TT:=St->Hp->(Bool->Hp->Prop)->Prop
abbrev TA:=St->Hp->(List V->Hp->Prop)->Prop
structure Ends where
 nx:St->Hp->Prop
 rt:VK
 bk:St->Hp->Prop:=λ_ _=>False
 ct:St->Hp->Prop:=λ_ _=>False
variable{D:Ends}
abbrev TS:=Ends->St->Hp->Prop
variable{tb:TS}
def EP(X:Cx)(pins:List (Addr×Obj))(σ:St)(Q:VK)(u:Value)(s':Shared):Prop:=∃v H',Inv X pins σ H' s'/\RelV v u/\Q v H'
def TP(X:Cx)(pins:List (Addr×Obj))(σ:St)(Q:Bool->Hp->Prop)(b:Bool)(s':Shared):Prop:=∃H',Inv X pins σ H' s'/\Q b H'
def AP(X:Cx)(pins:List (Addr×Obj))(σ:St)(Q:List V->Hp->Prop)(us:List Value)(s':Shared):Prop:=∃vs H',Inv X pins σ H' s'/\Vals vs us/\Q vs H'
def SP(X:Cx)(pins:List (Addr×Obj))(D:Ends)(f:Flow)(s':Shared):Prop :=
 match f with
 | .next=>∃σ' H',Inv X pins σ' H' s'/\D.nx σ' H'
 | .brk=>∃σ' H',Inv X pins σ' H' s'/\D.bk σ' H'
 | .cont=>∃σ' H',Inv X pins σ' H' s'/\D.ct σ' H'
 | .ret u=>∃v σ' H',Inv X pins σ' H' s'/\RelV v u/\D.rt v H'
def PE(X:Cx)(e:Expr)(t:TE):Prop :=
 ∀(pins:List (Addr×Obj)) (s:Shared) (σ:St) (H:Hp) (Q:VK),Inv X pins σ H s->t σ H Q->wpAny (model X.prog X.w) X.A (eval e X.env) (EP X pins σ Q) X.xe s
def PT(X:Cx)(e:Expr)(t:TT):Prop :=
 ∀(pins:List (Addr×Obj)) (s:Shared) (σ:St) (H:Hp) (Q:Bool->Hp->Prop),Inv X pins σ H s->t σ H Q->wpAny (model X.prog X.w) X.A (isTrue e X.env (eval e X.env)) (TP X pins σ Q) X.xe s
def PW(X:Cx)(e:Expr)(t:TT):Prop :=
 ∀(whole:Sem Value) (pins:List (Addr×Obj)) (s:Shared) (σ:St) (H:Hp) (Q:Bool->Hp->Prop),Inv X pins σ H s->t σ H Q->wpAny (model X.prog X.w) X.A (isTrue e X.env whole) (TP X pins σ Q) X.xe s
theorem PW.pt{t:TT}(h:PW X e t):PT X e t:=h _
def PA(X:Cx)(es:List Expr)(t:TA):Prop :=
 ∀(pos:Pos) (pins:List (Addr×Obj)) (s:Shared) (σ:St) (H:Hp) (Q:List V->Hp->Prop),Inv X pins σ H s->t σ H Q->wpAny (model X.prog X.w) X.A (spliced (backTo pos (starEach es X.env))) (AP X pins σ Q) X.xe s
def PS(X:Cx)(st:Stmt)(t:TS):Prop :=
 ∀(pins:List (Addr×Obj)) (s:Shared) (σ:St) (H:Hp) (D:Ends),Inv X pins σ H s->t D σ H->wpAny (model X.prog X.w) X.A (exec st X.env) (SP X pins D) X.xe s
def PSs(X:Cx)(st:List Stmt)(t:TS):Prop :=
 ∀(pins:List (Addr×Obj)) (s:Shared) (σ:St) (H:Hp) (D:Ends),Inv X pins σ H s->t D σ H->wpAny (model X.prog X.w) X.A (execs st X.env) (SP X pins D) X.xe s
theorem thn{α:Type}{t:Sem α}{Q Q':α->Shared->Prop}{M:Model}{E:Value->Shared->Prop}(h:wpAny M A t Q E s)(hQ:∀a s,Q a s->Q' a s):wpAny M A t Q' E s:=qAz h hQ λ_ _ x=>x
section
variable{X:Cx}
def tVar(i:Nat):TE:=λσ H Q=>∃v,σ[i]?=some (some v)/\Q v H
def tC(v:V):TE:=λ_ H Q=>Q v H
theorem pe_var(hN:X.N[i]?=some x)(hv:Vis X.env.scope x)(hd:(x==("__debug__": Str))=false:=by decide)(hcd:(x==("__classdict__": Str))=false:=by decide):PE X (.Name x pos) (tVar i):=by
 intro pins s σ H Q I h;obtain⟨v,e,h⟩:=h;obtain⟨m,hn,hl⟩:=I.loc;obtain⟨u,r,l⟩:=hl i x v hN e hv;have fin:EP X pins σ Q u s:=⟨v,H,I,r,h⟩;rcases l with⟨hk,hm⟩|⟨hk,c,hc,hcell⟩
 .exact wpAny_Name (wpAny_loadName_local I.ok.kind hk hn hm fin) hd
 .rcases hk with hk|hk
  .exact wpAny_Name (wpAny_loadName_cell I.ok.kind hk hc hcell fin) hd
  .exact wpAny_Name (wpAny_loadName_free I.ok.kind hk hc hcell fin hcd) hd
theorem zAf{i j pos}:PE X (.Constant (.int i) j pos) (tC (.int i)):=λ_ _ _ H _ I h=>wpAny_Constant_int ⟨.int i,H,I.tok _,⟨_,rfl⟩,h⟩
theorem zIb{b j pos}:PE X (.Constant (.bool b) j pos) (tC (.bl b)):=λ_ _ _ H _ I h=>Constant_bool ⟨.bl b,H,I,rfl,h⟩
theorem pe_non{j pos}:PE X (.Constant .none j pos) (tC .non):=λ_ _ _ H _ I h=>Constant_none ⟨.non,H,I,rfl,h⟩
theorem pe_str{x j pos}:PE X (.Constant (.str x) j pos) (tC (.str x)):=λ_ _ _ H _ I h=>Calls.Constant_str ⟨.str x,H,I.tok _,⟨_,rfl⟩,h⟩
def Gl(X:Cx)(x:Str):Prop:=X.env.kindOf x=some .globalImplicit
theorem ld_glob{E:Value->Shared->Prop}{Q:Value->Shared->Prop}(I:Inv X pins σ H s)(hg:Gl X x)(hm:X.mg x=some u)(h:Q u s)
  (hd:(x==("__debug__": Str))=false:=by decide):wpAny (model X.prog X.w) X.A (eval (.Name x pos) X.env) Q E s :=
 Calls.Name_function_global I.ok.kind hg (Calls.loadGlobal_global (by rw[I.ok.glob];exact I.mod.glob.keeps I.bk) hm h) hd
theorem zHy{E:Value->Shared->Prop}{Q:Value->Shared->Prop}(I:Inv X pins σ H s)(hg:Gl X x)(hm:X.mg x=none)(hv:bootBuiltins x=some u)(h:Q u s)
  (hn:x≠ "__name__":= by decide) (hd:(x==("__debug__": Str))=false:=by decide):wpAny (model X.prog X.w) X.A (eval (.Name x pos) X.env) Q E s:=by
 obtain⟨mb,h1,h2⟩:=I.mod.blt;exact Calls.Name_function_global I.ok.kind hg (Calls.loadGlobal_builtin (by rw[I.ok.glob];exact I.mod.glob.keeps I.bk) hm (by rw[I.ok.blt];exact h1.keeps I.bk) ((h2 x hn).trans hv) h) hd
theorem pe_glob(hg:Gl X x)(hm:X.mg x=some u)(r:RelV v u)(hd:(x==("__debug__": Str))=false:=by decide):PE X (.Name x pos) (tC v) :=
 λ_ _ _ H _ I h=>ld_glob I hg hm ⟨v,H,I,r,h⟩ hd
theorem zGc(hg:Gl X x)(hm:X.mg x=none)(hv:bootBuiltins x=some u)(r:RelV v u)(hn:x≠ "__name__":= by decide)(hd:(x==("__debug__": Str))=false:=by decide):PE X (.Name x pos) (tC v) :=
 λ_ _ _ H _ I h=>zHy I hg hm hv ⟨v,H,I,r,h⟩ hn hd
variable{a b:Expr}{ta tb:TE}{pos:Pos}
def PC(X:Cx)(op:CmpOp)(a b:Expr)(t:TE):Prop :=
 ∀(pins:List (Addr×Obj)) (s:Shared) (σ:St) (H:Hp) (Q:VK),Inv X pins σ H s->t σ H Q ->
  wpAny (model X.prog X.w) X.A (eval a X.env) (λv s₁=>wpAny (model X.prog X.w) X.A (eval b X.env) (λu s₂=>wpAny (model X.prog X.w) X.A (compareOp op v u) (EP X pins σ Q) X.xe s₂) X.xe s₁) X.xe s
theorem nobehind(b:Expr)(h:op≠.In)(h2:op≠.NotIn):behindInMarks op b=false:=by
 have e1:(op==CmpOp.In)=false:=by cases op<;>first|rfl|exact absurd rfl h
 have e2:(op==CmpOp.NotIn)=false:=by cases op<;>first|rfl|exact absurd rfl h2
 cases b<;>simp[behindInMarks,e1,e2]
def tIsN(ta:TE):TE:=λσ H Q=>ta σ H λx H1=>Q (.bl (decide (x= .non))) H1
def tNotN(ta:TE):TE:=λσ H Q=>ta σ H λx H1=>Q (.bl (!decide (x= .non))) H1
theorem RelV.none_iff{x:V}{v:Value}(r:RelV x v):(v==Value.none)=decide (x= .non):=by
 cases x with
 |non=>cases r;rfl
 |bl _=>cases r;rfl
 |int _=>obtain⟨t,rfl⟩:=r;rfl
 |str _=>obtain⟨t,rfl⟩:=r;rfl
 |byt _=>obtain⟨t,rfl⟩:=r;rfl
 |flt _=>obtain⟨t,rfl⟩:=r;rfl
 |ref _=>cases r;rfl
 |ty _=>cases r;rfl
theorem pc_isN{j pos'}(ha:PE X a ta):PC X .Is a (.Constant .none j pos') (tIsN ta):=by
 intro pins s σ H Q I h;refine thn (ha pins s σ H _ I h) λv s1 ⟨x,H1,I1,r1,q1⟩=>?_;exact Constant_none (is_none_gen ⟨.bl _,H1,I1,by rw[r1.none_iff];rfl,q1⟩)
theorem pc_notN{j pos'}(ha:PE X a ta):PC X .IsNot a (.Constant .none j pos') (tNotN ta):=by
 intro pins s σ H Q I h;refine thn (ha pins s σ H _ I h) λv s1 ⟨x,H1,I1,r1,q1⟩=>?_;exact Constant_none (isnot_none_gen ⟨.bl _,H1,I1,by rw[r1.none_iff];rfl,q1⟩)
def tB(t:TE):TT:=λσ H Q=>t σ H λx H1=>∃c,x= .bl c/\Q c H1
theorem pe_cmp(h:PC X op a b t)(h1:behindInMarks op b=false:=by first|exact nobehind _ (by decide) (by decide)|rfl):PE X (.Compare a [op] [b] pos) t:=λpins s σ H Q I hw=>wpAny_Compare1 (h pins s σ H Q I hw) h1
theorem zD2(h:PC X op a b t)(h1:behindInMarks op b=false:=by first|exact nobehind _ (by decide) (by decide)|rfl):PT X (.Compare a [op] [b] pos) (tB t):=by
 intro pins s σ H Q I hw;refine wpAny_isTrue_Compare1 (thn (h pins s σ H _ I hw) λv s1 h1=>thn h1 λu s2 h2=>thn h2 λc s3 ⟨x,H1,I1,r1,q1⟩=>?_) h1;obtain⟨d,rfl,q⟩:=q1
 cases r1
 exact qBL ⟨H1,I1,q⟩
theorem zC4(h:PE X e t)(he:∀whole,isTrue e X.env whole=(do let v<-whole;standAt e.pos;holding [v] (truthy v)):=by intro _;rfl):PT X e (tB t):=by
 intro pins s σ H Q I hw;refine isTrue_plain (thn (h pins s σ H _ I hw) λv s1 ⟨x,H1,I1,r1,q1⟩=>?_) (he _);obtain⟨d,rfl,q⟩:=q1
 cases r1
 exact qBL ⟨H1,I1,q⟩
variable{tA tB':TT}{rest:List Expr}
def tAnd(t u:TT):TT:=λσ H Q=>t σ H λc H1=>if c=true then u σ H1 Q else Q false H1
def tOr(t u:TT):TT:=λσ H Q=>t σ H λc H1=>if c=true then Q true H1 else u σ H1 Q
def tNot(t:TT):TT:=λσ H Q=>t σ H λc H1=>Q (!c) H1
theorem zGa(ha:PT X a tA):PW X (.BoolOp .And [a] pos) tA:=by
 intro wh pins s σ H Q I h;refine isTrue_and (thn (ha pins s σ H Q I h) λc s1 e=>?_)
 cases c with
 |true=>exact isTrue_and_nil e
 |false=>exact e
theorem zHk(ha:PT X a tA):PW X (.BoolOp .Or [a] pos) tA:=by
 intro wh pins s σ H Q I h;refine isTrue_or (thn (ha pins s σ H Q I h) λc s1 e=>?_)
 cases c with
 |false=>exact isTrue_or_nil e
 |true=>exact e
theorem zIr(ha:PT X a tA)(hb:PW X (.BoolOp .And (b::rest) pos) tB'):PW X (.BoolOp .And (a::b::rest) pos) (tAnd tA tB'):=by
 intro wh pins s σ H Q I h;refine isTrue_and (thn (ha pins s σ H _ I h) λc s1 ⟨H1,I1,q1⟩=>?_)
 cases c with
 |true=>exact hb wh pins s1 σ H1 Q I1 q1
 |false=>exact⟨H1,I1,q1⟩
theorem pw_or(ha:PT X a tA)(hb:PW X (.BoolOp .Or (b::rest) pos) tB'):PW X (.BoolOp .Or (a::b::rest) pos) (tOr tA tB'):=by
 intro wh pins s σ H Q I h;refine isTrue_or (thn (ha pins s σ H _ I h) λc s1 ⟨H1,I1,q1⟩=>?_)
 cases c with
 |true=>exact⟨H1,I1,q1⟩
 |false=>exact hb wh pins s1 σ H1 Q I1 q1
theorem zDc(ha:PT X a tA):PT X (.UnaryOp .Not a pos) (tNot tA):=by
 intro pins s σ H Q I h;exact isTrue_not (ha pins s σ H (λc H1=>Q (!c) H1) I h)
def tAndV(ta tb:TE):TE:=λσ H Q=>ta σ H λx H1=>∃c,x= .bl c/\if c=true then tb σ H1 Q else Q (.bl false) H1
def tOrV(ta tb:TE):TE:=λσ H Q=>ta σ H λx H1=>∃c,x= .bl c/\if c=true then Q (.bl true) H1 else tb σ H1 Q
def tNotV(ta:TE):TE:=λσ H Q=>ta σ H λx H1=>∃c,x= .bl c/\Q (.bl (!c)) H1
theorem pe_one{op}(h:PE X a t):PE X (.BoolOp op [a] pos) t:=λpins s σ H Q I hw=>BoolOp_one (h pins s σ H Q I hw)
theorem pe_and(ha:PE X a ta)(hb:PE X (.BoolOp .And (b::rest) pos) tb):PE X (.BoolOp .And (a::b::rest) pos) (tAndV ta tb):=by
 intro pins s σ H Q I h;refine BoolOp_and (thn (ha pins s σ H _ I h) λv s1 ⟨x,H1,I1,r1,q1⟩=>?_);obtain⟨c,rfl,q1⟩:=q1
 cases r1
 refine qBL ?_
 cases c with
 |true=>exact hb pins s1 σ H1 Q I1 q1
 |false=>exact⟨.bl false,H1,I1,rfl,q1⟩
theorem pe_or(ha:PE X a ta)(hb:PE X (.BoolOp .Or (b::rest) pos) tb):PE X (.BoolOp .Or (a::b::rest) pos) (tOrV ta tb):=by
 intro pins s σ H Q I h;refine BoolOp_or (thn (ha pins s σ H _ I h) λv s1 ⟨x,H1,I1,r1,q1⟩=>?_);obtain⟨c,rfl,q1⟩:=q1
 cases r1
 refine qBL ?_
 cases c with
 |false=>exact hb pins s1 σ H1 Q I1 q1
 |true=>exact⟨.bl true,H1,I1,rfl,q1⟩
theorem pe_not(ha:PE X a ta):PE X (.UnaryOp .Not a pos) (tNotV ta):=by
 intro pins s σ H Q I h;refine UnaryOp_ (thn (ha pins s σ H _ I h) λv s1 ⟨x,H1,I1,r1,q1⟩=>?_);obtain⟨c,rfl,q1⟩:=q1
 cases r1
 exact not_of (qBL ⟨.bl (!c),H1,I1,rfl,q1⟩)
def tIf(t:TT)(ta tb:TE):TE:=λσ H Q=>t σ H λc H1=>if c=true then ta σ H1 Q else tb σ H1 Q
theorem pe_ifExp{c:Expr}(hc:PT X c tA)(ha:PE X a ta)(hb:PE X b tb):PE X (.IfExp c a b pos) (tIf tA ta tb):=by
 intro pins s σ H Q I h;refine wpAny_IfExp (thn (hc pins s σ H _ I h) λd s1 ⟨H1,I1,q1⟩=>?_)
 cases d with
 |true=>exact ha pins s1 σ H1 Q I1 q1
 |false=>exact hb pins s1 σ H1 Q I1 q1
end
def SqL(K:PySem.W.Frag)(H:Hp)(a:Addr)(xs:List V):Prop :=
 Rd H a (.lst xs) \/
  ∃(o:Obj)(its:Array Value)(n:Nat),K.lookup a=some o/\o.cls= .type "list"/\o.dict=none/\o.data= .seq its n/\its.size<=sizeLine/\Vals xs its.toList
def SqT(K:PySem.W.Frag)(H:Hp)(a:Addr)(xs:List V):Prop :=
 Rd H a (.tup xs) \/
  ∃(o:Obj)(its:Array Value)(n:Nat),K.lookup a=some o/\o.cls= .type "tuple"/\o.data= .seq its n/\its.size<=sizeLine/\Vals xs its.toList
def absV:Value->Option V
 | .none=>some .non
 | .bool b=>some (.bl b)
 | .int i _=>some (.int i)
 | .str x _=>some (.str x)
 | .bytes b _=>some (.byt b)
 | .float b _=>some (.flt b)
 | .ref a=>some (.ref a)
 | .type n=>some (.ty n)
 |_=>none
theorem RelV.abs{x:V}(r:RelV x u):absV u=some x:=by
 cases x with
 |non=>cases r;rfl
 |bl _=>cases r;rfl
 |int _=>obtain⟨t,rfl⟩:=r;rfl
 |str _=>obtain⟨t,rfl⟩:=r;rfl
 |byt _=>obtain⟨t,rfl⟩:=r;rfl
 |flt _=>obtain⟨t,rfl⟩:=r;rfl
 |ref _=>cases r;rfl
 |ty _=>cases r;rfl
theorem RelV.inj{x:V}(r:RelV x u)(q:RelV y u):x=y:=qAe (r.abs.symm.trans q.abs)
theorem Vals.inj:∀{xs ys:List V}{us:List Value},Vals xs us->Vals ys us->xs=ys
 |_,_,_,.nil,.nil=>rfl
 |_,_,_,.cons r t,.cons r' t'=>by rw[r.inj r',Vals.inj t t']
section
variable{X:Cx}{pins:List (Addr×Obj)}{σ:St}{H:Hp}{s:Shared}{a:Addr}{xs ys:List V}
theorem SqL.of{K:PySem.W.Frag}(h:H a=some (.lst xs)):SqL K H a xs:=.inl (.inl h)
theorem SqT.of{K:PySem.W.Frag}(h:H a=some (.tup xs)):SqT K H a xs:=.inl (.inl h)
theorem Inv.list(I:Inv X pins σ H s)(h:SqL X.K H a xs):∃its:List Value,Vals xs its/\PlainL s.heap a its.toArray/\xs.length<=sizeLine:=by
 rcases h with h|⟨o,its,n,hk,hc,hd,hs,hz,r⟩
 .obtain ⟨z,its,n,r,e⟩:=h.ok I.hok;exact⟨its,r,⟨_,n,e,rfl,rfl,rfl⟩,z⟩
 .refine ⟨its.toList,r,⟨o,n,I.kIn a o hk,hc,hd,by simpa using hs⟩,?_⟩;have e:=r.length;simp only[qBZ]at e;lia
theorem Inv.tuple(I:Inv X pins σ H s)(h:SqT X.K H a xs):∃its:List Value,Vals xs its/\IsTup s.heap a its.toArray/\xs.length<=sizeLine:=by
 rcases h with h|⟨o,its,n,hk,hc,hs,hz,r⟩
 .obtain ⟨z,its,r,p⟩:=h.ok I.hok;exact⟨its,r,p,z⟩
 .refine ⟨its.toList,r,⟨o,I.kIn a o hk,hc,n,by simpa using hs⟩,?_⟩;have e:=r.length;simp only[qBZ]at e;lia
theorem Inv.list_inj(I:Inv X pins σ H s)(h:SqL X.K H a xs)(h':SqL X.K H a ys):xs=ys:=by
 obtain⟨its,r,⟨o,n,e,_,_,d⟩,_⟩:=I.list h;obtain⟨its',r',⟨o',n',e',_,_,d'⟩,_⟩:=I.list h';rw[e]at e';cases e';rw[d]at d';injection d' with d1 _;have:its=its':=by simpa using qAm Array.toList d1
 subst this;exact r.inj r'
theorem Inv.tuple_inj(I:Inv X pins σ H s)(h:SqT X.K H a xs)(h':SqT X.K H a ys):xs=ys:=by
 obtain⟨its,r,⟨o,e,_,n,d⟩,_⟩:=I.tuple h;obtain⟨its',r',⟨o',e',_,n',d'⟩,_⟩:=I.tuple h';rw[e]at e';cases e';rw[d]at d';injection d' with d1 _;have:its=its':=by simpa using qAm Array.toList d1
 subst this;exact r.inj r'
end
abbrev Cx.wish(X:Cx)(E:Value->Shared->Prop):Cx:={X with xe:=E}
abbrev Cx.nox(X:Cx):Cx:=X.wish λ_ _=>False
theorem Cx.Ok.wish(ok:X.Ok)(E:Value->Shared->Prop):(X.wish E).Ok :=
 ⟨ok.mod,ok.kind,ok.glob,ok.blt,ok.above,ok.inj,ok.has,ok.cab,ok.hd,ok.frames,ok.stk,ok.exf,ok.bs,ok.bsz,ok.noex,ok.exfs,ok.funs,ok.frf⟩
theorem Cx.Ok.unwish{E:Value->Shared->Prop}(ok:(X.wish E).Ok):X.Ok :=
 ⟨ok.mod,ok.kind,ok.glob,ok.blt,ok.above,ok.inj,ok.has,ok.cab,ok.hd,ok.frames,ok.stk,ok.exf,ok.bs,ok.bsz,ok.noex,ok.exfs,ok.funs,ok.frf⟩
section
variable{X:Cx}{pins:List (Addr×Obj)}{σ:St}{H:Hp}{s:Shared}{E:Value->Shared->Prop}
theorem Inv.wish(I:Inv X pins σ H s)(E:Value->Shared->Prop):Inv (X.wish E) pins σ H s:=⟨I.ok.wish E,I.os,I.bare,I.base,I.loc,I.cell,I.free,I.freeC,I.pin,I.hok,I.len⟩
theorem Inv.unwish(I:Inv (X.wish E) pins σ H s):Inv X pins σ H s:=⟨I.ok.unwish,I.os,I.bare,I.base,I.loc,I.cell,I.free,I.freeC,I.pin,I.hok,I.len⟩
theorem SP.unwish{f:Flow}{s':Shared}(h:SP (X.wish E) pins D f s'):SP X pins D f s':=by
 cases f with
 |next=>obtain⟨σ',H',I,q⟩:=h;exact⟨σ',H',I.unwish,q⟩
 |brk=>obtain⟨σ',H',I,q⟩:=h;exact⟨σ',H',I.unwish,q⟩
 |cont=>obtain⟨σ',H',I,q⟩:=h;exact⟨σ',H',I.unwish,q⟩
 |ret u=>obtain⟨v,σ',H',I,r,q⟩:=h;exact⟨v,σ',H',I.unwish,r,q⟩
theorem PSs.nox{st:List Stmt}{t:TS}(h:PSs X.nox st t):PSs X st t:=λpins s σ H D I hw=>
 qAz (h pins s σ H D (I.wish _) hw) (λ_ _ q=>q.unwish) λ_ _ z=>False.elim z
end
section
variable{X:Cx}{st:Stmt}{rest:List Stmt}{t u:TS}{e:Expr}{te:TE}{pos:Pos}
def tNext:TS:=λD σ H=>D.nx σ H
def tSeq(t u:TS):TS:=λD σ H=>t {D with nx:=u D} σ H
theorem zAr:PSs X [] tNext:=λ_ _ σ H _ I h=>qC8 ⟨σ,H,I,h⟩
theorem zAb(h1:PS X st t)(h2:PSs X rest u):PSs X (st::rest) (tSeq t u):=by
 intro pins s σ H D I h;refine wpAny_execs_cons (thn (h1 pins s σ H {D with nx:=u D} I h) λf s1 q=>?_)
 cases f with
 |next=>
  obtain⟨σ',H',I',q⟩:=q;exact h2 pins s1 σ' H' D I' q
 |ret v=>exact q
 |brk=>exact q
 |cont=>exact q
theorem zAe(h1:PS X st t):PSs X [st] t:=by
 intro pins s σ H D I h;refine wpAny_execs_cons (thn (h1 pins s σ H D I h) λf s1 q=>?_)
 cases f with
 |next=>exact qC8 q
 |ret v=>exact q
 |brk=>exact q
 |cont=>exact q
theorem Inv.quiet(I:Inv X pins σ H s):interactive X.env=false:=by simp[interactive,I.ok.kind]
def tDrop(te:TE):TS:=λD σ H=>te σ H λ_ H1=>D.nx σ H1
theorem zA2(he:PE X e te)(hs:swapsWith e none pos.line X.env=pure false:=by rfl):PS X (.Expr e pos) (tDrop te):=by
 intro pins s σ H D I h;exact wpAny_Expr_any (thn (he pins s σ H _ I h) λv s1 ⟨x,H1,I1,r1,q1⟩=>⟨σ,H1,I1,q1⟩) I.quiet hs
def tRet(te:TE):TS:=λD σ H=>te σ H D.rt
theorem zAm(he:PE X e te):PS X (.Return (some e) pos) (tRet te):=by
 intro pins s σ H D I h;exact wpAny_Return_some (thn (he pins s σ H _ I h) λv s1 ⟨x,H1,I1,r1,q1⟩=>⟨x,σ,H1,I1,r1,q1⟩)
def tIfS(c:TT)(t u:TS):TS:=λD σ H=>c σ H λb H1=>if b=true then t D σ H1 else u D σ H1
theorem zB5{c:Expr}{a b:List Stmt}{tc:TT}(hc:PT X c tc)(ha:PSs X a t)(hb:PSs X b u):PS X (.If c a b pos) (tIfS tc t u):=by
 intro pins s σ H D I h;refine wpAny_If (thn (hc pins s σ H _ I h) λd s1 ⟨H1,I1,q1⟩=>?_)
 cases d with
 |true=>exact ha pins s1 σ H1 D I1 q1
 |false=>exact hb pins s1 σ H1 D I1 q1
def tNever:TS:=λ_ _ _=>False
theorem zBq:PS X st tNever:=λ_ _ _ _ _ _ h=>h.elim
end
abbrev TG:=V->St->Hp->(St->Hp->Prop)->Prop
variable{g:TG}
abbrev TGs:=List V->St->Hp->(St->Hp->Prop)->Prop
def PG(X:Cx)(target:Expr)(t:TG):Prop :=
 ∀(pins:List (Addr×Obj)) (s:Shared) (σ:St) (H:Hp) (v:V) (u:Value) (Q:St->Hp->Prop),Inv X pins σ H s->RelV v u->t v σ H Q ->
  wpAny (model X.prog X.w) X.A (assign target X.env u) (λ_ s'=>∃σ' H',Inv X pins σ' H' s'/\Q σ' H') X.xe s
def PGs(X:Cx)(ts:List Expr)(t:TGs):Prop :=
 ∀(pins:List (Addr×Obj)) (s:Shared) (σ:St) (H:Hp) (vs:List V) (us:List Value) (Q:St->Hp->Prop),Inv X pins σ H s->Vals vs us->t vs σ H Q ->
  wpAny (model X.prog X.w) X.A (assignInOrder ((assignEach ts X.env).map (·.2)) us) (λ_ s'=>∃σ' H',Inv X pins σ' H' s'/\Q σ' H') X.xe s
abbrev TSet:=V->V->V->Hp->(Hp->Prop)->Prop
def PSet(X:Cx)(t:TSet):Prop :=
 ∀(pins:List (Addr×Obj)) (s:Shared) (σ:St) (H:Hp) (o i v:V) (ov iv u:Value) (Q:Hp->Prop),Inv X pins σ H s->RelV o ov->RelV i iv->RelV v u->t o i v H Q ->
  wpAny (model X.prog X.w) X.A (setItem ov iv u) (λ_ s'=>∃H',Inv X pins σ H' s'/\Q H') X.xe s
section
variable{X:Cx}{pos:Pos}
def gName(i:Nat):TG:=λv σ H Q=>Q (σ.set i (some v)) H
theorem pg_name(hN:X.N.Nodup)(hi:X.N[i]?=some x)(hx:Loc X.env.scope x)(hf:X.fn x=true\/X.env.scope.names.lookup x=some .local:=by first|exact .inl rfl|exact .inr rfl|assumption):PG X (.Name x pos) (gName i):=by
 intro pins s σ H v u Q I r h;exact wpAny_assign_Name (store_ok I hN hi hx r (λs' I'=>⟨_,H,I',h⟩) hf)
def gNil:TGs:=λvs σ H Q=>vs=[]/\Q σ H
def gCons(t:TG)(u:TGs):TGs:=λvs σ H Q=>∃v r,vs=v::r/\t v σ H λσ' H'=>u r σ' H' Q
theorem zEf:PGs X [] gNil:=by
 intro pins s σ H vs us Q I r h;obtain⟨e,h⟩:=h;subst e
 cases r
 exact assignInOrder_nil ⟨σ,H,I,h⟩
theorem zA7{es:List Expr}{t:TG}{u:TGs}(h1:PG X e t)(h2:PGs X es u)
  (hs:(assignEach (e::es) X.env).map (·.2)=assign e X.env::(assignEach es X.env).map (·.2):=by rfl):PGs X (e::es) (gCons t u):=by
 intro pins s σ H vs us Q I r h;obtain⟨v,vr,e1,h⟩:=h;subst e1
 cases r with
 |cons r rr=>
  rw[hs];refine assignInOrder_cons (thn (h1 pins s σ H _ _ _ I r h) λ_ s1 ⟨σ1,H1,I1,q1⟩=>?_);exact h2 pins s1 σ1 H1 _ _ Q I1 rr q1
def gTup(K:PySem.W.Frag)(n:Nat)(t:TGs):TG:=λv σ H Q=>∃a xs,v= .ref a/\SqT K H a xs/\xs.length=n/\t xs σ H Q
theorem zIs{es:List Expr}{k:Nat}{t:TGs}{n:Nat}(hc:X.calm=true)(h:PGs X es t)
  (hn:(assignEach es X.env).length=n:=by rfl) (hst:(assignEach es X.env).findIdx? (·.1)=none:=by rfl):PG X (.Tuple es k pos) (gTup X.K n t):=by
 intro pins s σ H v u Q I r hw;obtain⟨a,xs,e1,hq,hl,hw⟩:=hw;subst e1
 cases r
 obtain⟨its,rv,ht,hz⟩:=I.tuple hq;refine assign_Tuple_tuple (I.ok.hd hc) ht (by simp[hn,<-hl,rv.length]) hst λh' hx=>?_;have I1:Inv X pins σ H {s with heap:=h'}:=I.kept (t':=s.toks) λb o e=>hx b o (qAO (qAH e)) e;exact h pins _ σ H xs _ Q I1 (by simpa using rv) hw
def gSub(to ti:TE)(t:TSet):TG:=λv σ H Q=>to σ H λo H1=>ti σ H1 λi H2=>t o i v H2 λH3=>Q σ H3
theorem pg_sub{o i:Expr}{to ti:TE}{t:TSet}(ho:PE X o to)(hi:PE X i ti)(hs:PSet X t)
  (ha:∀v,assign (.Subscript o i pos) X.env v=(do
   let ov<-holding [v] (eval o X.env)
   let iv<-holding [v,ov] (eval i X.env)
   standAt pos
   holding [v,ov,iv] (setItem ov iv v)
   release [v,ov,iv] []):=by intro _;rfl):PG X (.Subscript o i pos) (gSub to ti t):=by
 intro pins s σ H v u Q I r h;rw[ha];refine qAA (qA6 (thn (ho pins s σ H _ I h) λov s1 ⟨x,H1,I1,r1,q1⟩=>?_));refine qAA (qA6 (thn (hi pins s1 σ H1 _ I1 q1) λiv s2 ⟨y,H2,I2,r2,q2⟩=>?_));refine qAA (qCK (qAA (qA6 (thn (hs pins s2 σ H2 x y v ov iv u _ I2 r1 r2 r q2) λ_ s3 ⟨H3,I3,q3⟩=>?_))));exact wpAny_release ⟨σ,H3,I3,q3⟩
def tAsg(te:TE)(g:TG):TS:=λD σ H=>te σ H λx H1=>g x σ H1 D.nx
theorem ps_asg{te:TE}(he:PE X e te)(hg:PG X tg g)(hs:swapsWithSole [tg] e pos.line X.env=pure false:=by rfl)(hw:swappedStores [tg] e X.env=pure none:=by rfl)
  (h1:(assignEach [tg] X.env).map (·.2)=[assign tg X.env]:=by rfl):PS X (.Assign [tg] e pos) (tAsg te g):=by
 intro pins s σ H D I h;refine wpAny_Assign_stores (thn (he pins s σ H _ I h) λv s1 ⟨x,H1,I1,r1,q1⟩=>?_) hs hw;rw[h1];exact thn (hg pins s1 σ H1 x v _ I1 r1 q1) λ_ s2 q=>q
theorem ps_set{te:TE}{pos':Pos}(hN:X.N.Nodup)(hi:X.N[i]?=some x)(hx:Loc X.env.scope x)(he:PE X e te)(hs:swapsWith e (some (.Name x pos')) pos.line X.env=pure false:=by rfl)(hf:X.fn x=true\/X.env.scope.names.lookup x=some .local:=by first|exact .inl rfl|exact .inr rfl|assumption) :
  PS X (.Assign [.Name x pos'] e pos) (tAsg te (gName i)):=by
 intro pins s σ H D I h;refine wpAny_Assign_Name (thn (he pins s σ H _ I h) λv s1 ⟨y,H1,I1,r1,q1⟩=>?_) hs;exact store_ok I1 hN hi hx r1 (λs2 I2=>⟨_,H1,I2,q1⟩) hf
end
section
variable{X:Cx}{pos:Pos}
def tWhile(c:TT)(tb:TS):TS:=λD σ H=>∃W:Nat->St->Hp->Prop,(∃m,W m σ H)/\∀m σ H,W m σ H ->
 c σ H λb H1=>if b=true then∃N:St->Hp->Prop,(∀σ' H',N σ' H'->∃m',m'<m/\W m' σ' H')/\tb {D with nx:=N,ct:=N,bk:=D.nx} σ H1 else D.nx σ H1
theorem zJh{c:Expr}{body:List Stmt}{tc:TT}(hp:PassesOwn (model X.prog X.w) X.A X.env X.xe)(hc:PT X c tc)(hb:PSs X body tb):PS X (.While c body [] pos) (tWhile tc tb):=by
 intro pins s σ H D I h;obtain⟨W,⟨m0,w0⟩,turn⟩:=h;refine wpAny_While (codeAny_whileLoop (λn s'=>∃σ' H',Inv X pins σ' H' s'/\W n σ' H') ?_ m0 ⟨σ,H,I,w0⟩);rintro n s1 ⟨σ1,H1,I1,w1⟩;refine qBy hp (thn (hc pins s1 σ1 H1 _ I1 (turn n σ1 H1 w1)) λb s2 ⟨H2,I2,q2⟩=>?_)
 cases b with
 |true=>
  obtain⟨N,hN,q2⟩:=q2;rw[qAC rfl];refine qBy hp (thn (hb pins s2 σ1 H2 _ I2 q2) λf s3 q3=>?_)
  cases f with
  |next=>
   obtain⟨σ3,H3,I3,n3⟩:=q3;obtain⟨m',hm,w3⟩:=hN σ3 H3 n3;exact⟨m',hm,σ3,H3,I3,w3⟩
  |cont=>
   obtain⟨σ3,H3,I3,n3⟩:=q3;obtain⟨m',hm,w3⟩:=hN σ3 H3 n3;exact⟨m',hm,σ3,H3,I3,w3⟩
  |brk=>exact q3
  |ret v=>exact q3
 |false=>
  rw[qAB qAn];exact qC8 ⟨σ1,H2,I2,q2⟩
end
structure It where
 go:Nat->Hp->Prop
 yld:Nat->Hp->V->Hp->Prop
 stop:Nat->Hp->Prop
def FpOk(X:Cx)(pins:List (Addr×Obj))(H:Hp)(b:Addr):Prop :=
 H b=none/\b≠X.env.locals/\b∉X.fs/\(b∈X.ex\/X.s₀.heap.objs.size<=b)/\(∀x c,X.env.cells.lookup x=some c->c≠b)/\∀p∈X.pn++pins,p.1≠b
theorem Inv.fpOk{H':Hp}{b:Addr}(I:Inv X pins σ H s)(hb:s.heap.objs.size<=b)(hn:H' b=none):FpOk X pins H' b:=by
 refine⟨hn,qAt (qAi I.lt hb),I.nofs hb,.inr (qAL I.sz hb),λx c e z=>?_,λp hp z=>?_⟩
 .obtain ⟨v,q⟩:=I.cell x c e;exact absurd (qAi q.lt (by rw[z];exact hb)) (qA8 _)
 .exact absurd (qAi (qAH (I.pin p hp).1) (by rw[z];exact hb)) (qA8 _)
structure Turn(P:Program)(w:World)(K:PySem.W.Frag)(tg:Expr)(J:It)(fp:List Addr)(it:Addr)(tn:Nat->Heap->Prop):Prop where
 mem:it∈fp
 obj:∀i h,tn i h->∀b∈fp,∃o,h.get? b=some o/\∀v,o.data≠.cell v
 keep:∀i h h',tn i h->(∀b∈fp,∀o,h.get? b=some o->h'.get? b=some o)->tn i h'
 item:∀(X:Cx),X.prog=P->X.w=w->X.K=K->X.calm=true->∀(i:Nat) (pins:List (Addr×Obj)) (s:Shared) (σ:St) (H:Hp) (E:Value->Shared->Prop),Inv X pins σ H s->(∀b∈fp,FpOk X pins H b)->tn i s.heap->J.go i H ->
  wpAny (model P w) X.A (pyNext (.ref it)) (λr s1=>∃u,r=some u /\ wpAny (model P w) X.A (letOwnedTupleGo tg (.ref it) u) (λ_ s2=>∃x H',Inv X pins σ H' s2/\RelV x u/\J.yld i H x H'/\tn (i+1) s2.heap/\∀b∈fp,H' b=none) E s1) E s
 done:∀(X:Cx),X.prog=P->X.w=w->X.K=K->X.calm=true->∀(i:Nat) (pins:List (Addr×Obj)) (s:Shared) (σ:St) (H:Hp) (E:Value->Shared->Prop),Inv X pins σ H s->(∀b∈fp,FpOk X pins H b)->tn i s.heap->J.stop i H ->
  wpAny (model P w) X.A (pyNext (.ref it)) (λr s1=>r=none/\Inv X pins σ H s1) E s
 self:∀(A:Around)(i:Nat)(s:Shared)(Q:Value->Shared->Prop)(E:Value->Shared->Prop),tn i s.heap->Q (.ref it) s->wpAny (model P w) A (pyIter (.ref it)) Q E s
abbrev TI:=St->Hp->(It->Hp->Prop)->Prop
def PIE(X:Cx)(pins:List (Addr×Obj))(σ:St)(tg:Expr)(R:It->Hp->Prop)(itv:Value)(s2:Shared):Prop :=
 ∃(it:Addr)(fp:List Addr)(tn:Nat->Heap->Prop)(J:It)(H':Hp),itv= .ref it/\Inv X pins σ H' s2/\Turn X.prog X.w X.K tg J fp it tn/\tn 0 s2.heap/\(∀b∈fp,FpOk X pins H' b)/\R J H'
def PI(X:Cx)(tg iter:Expr)(wi:TI):Prop :=
 ∀(pins:List (Addr×Obj)) (s:Shared) (σ:St) (H:Hp) (R:It->Hp->Prop),Inv X pins σ H s->wi σ H R ->
  wpAny (model X.prog X.w) X.A (eval iter X.env) (λv s1=>wpAny (model X.prog X.w) X.A (pyIter v) (PIE X pins σ tg R) X.xe s1) X.xe s
theorem go_of{M:Model}{E:Value->Shared->Prop}{s:Shared}{it:Addr}{o:Obj}{n:String}{vs:Array Value}{Q:Unit->Shared->Prop}(ho:s.heap.get? it=some o)(hc:o.cls= .type n)(hd:o.data= .fields vs)
  (hn:["enumerate","zip","dict_itemiterator","dict_reverseitemiterator","odict_iterator","itertools.zip_longest","itertools.pairwise"].contains n=false) (hQ:Q () s):wpAny M A (letOwnedTupleGo tg (.ref it) u) Q E s:=by
 unfold letOwnedTupleGo
 cases tg<;>first
  |exact qAE hQ
  | (cases u<;>first
    |exact qAE hQ
    | (refine qAA (wpAny_load ho ?_)
       rw[hc,hd];show wpAny M A (if(["enumerate","zip","dict_itemiterator","dict_reverseitemiterator","odict_iterator","itertools.zip_longest","itertools.pairwise"].contains n&&vs[0]?==some (rawInt _))=true then _ else _) Q E s;rw[qAB (by intro h;rw[hn,Bool.false_and]at h;cases h)];exact qAE hQ))
def Itl(K:PySem.W.Frag)(a:Addr):It :=
 ⟨λi H=>∃xs x,SqL K H a xs/\xs[i]?=some x,λi H x H'=>H'=H/\∀xs,SqL K H a xs->xs[i]?=some x,λi H=>∃xs,SqL K H a xs/\xs.length<=i⟩
def Itt(K:PySem.W.Frag)(a:Addr):It :=
 ⟨λi H=>∃xs x,SqT K H a xs/\xs[i]?=some x,λi H x H'=>H'=H/\∀xs,SqT K H a xs->xs[i]?=some x,λi H=>∃xs,SqT K H a xs/\xs.length<=i⟩
def Itr(lo:Int)(n:Nat):It:=⟨λi _=>i<n,λi H x H'=>H'=H/\x= .int (lo+i),λi _=>n<=i⟩
theorem turn_list(a it:Addr):Turn P w K tg (Itl K a) [it] it (λi h=>h.IsListIter it a i) where
 mem:=by simp
 obj:=λi h st b hb=>by
  have e:b=it:=by simpa using hb
  subst e;obtain⟨o,e,c,d⟩:=st;exact⟨o,e,λv z=>by rw[d]at z;cases z⟩
 keep:=λi h h' st k=>st.at λo e=>k it (by simp) o e
 item:=by
  intro X hP hw hK hc i pins s σ H E I hf st hg;subst hP hw hK;obtain⟨xs,x,hq,hx⟩:=hg;obtain⟨its,rv,p,hz⟩:=I.list hq;obtain⟨u,hu,ru⟩:=rv.get hx;obtain⟨f0,f1,f2,f3,f4,f5⟩:=hf it (by simp);refine wpAny_pyNext_list_item st p.isList (x:=u) (by simpa using hu) λh' st' sb=>?_;have I1:Inv X pins σ H {s with heap:=h'}:=I.turned (t':=s.toks) (λb o hb e=>(sb.2 b hb).trans e) f0 f1 f3 f4 f5;obtain⟨o,e,c,d⟩:=id st';exact⟨u,rfl,go_of (s:={s with heap:=h'}) e c d (by decide) ⟨x,H,I1,ru,⟨rfl,λys hy=>by rw[I.list_inj hy hq];exact hx⟩,st',λb hb=>(hf b hb).1⟩⟩
 done:=by
  intro X hP hw hK hc i pins s σ H E I hf st hg;subst hP hw hK;obtain⟨xs,hq,hx⟩:=hg;obtain⟨its,rv,p,hz⟩:=I.list hq;obtain⟨f0,f1,f2,f3,f4,f5⟩:=hf it (by simp);have hl:=rv.length;exact wpAny_pyNext_list_end (I.ok.hd hc) st p.isList (by simp;lia) λh' eb=>⟨rfl,I.turned (t':=s.toks) (λb o hb e=>eb b o hb e) f0 f1 f3 f4 f5⟩
 self:=λ_ _ _ _ _ st h=>wpAny_pyIter_listiter st h
theorem turn_tuple(a it:Addr):Turn P w K tg (Itt K a) [it] it (λi h=>h.IsTupleIter it a i) where
 mem:=by simp
 obj:=λi h st b hb=>by
  have e:b=it:=by simpa using hb
  subst e;obtain⟨o,e,c,d⟩:=st;exact⟨o,e,λv z=>by rw[d]at z;cases z⟩
 keep:=λi h h' st k=>st.at λo e=>k it (by simp) o e
 item:=by
  intro X hP hw hK hc i pins s σ H E I hf st hg;subst hP hw hK;obtain⟨xs,x,hq,hx⟩:=hg;obtain⟨its,rv,p,hz⟩:=I.tuple hq;obtain⟨u,hu,ru⟩:=rv.get hx;obtain⟨f0,f1,f2,f3,f4,f5⟩:=hf it (by simp);refine wpAny_pyNext_tuple_item st (show s.heap.IsTuple a its.toArray from p) (x:=u) (by simpa using hu) λh' st' sb=>?_;have I1:Inv X pins σ H {s with heap:=h'}:=I.turned (t':=s.toks) (λb o hb e=>(sb.2 b hb).trans e) f0 f1 f3 f4 f5;obtain⟨o,e,c,d⟩:=id st';exact⟨u,rfl,go_of (s:={s with heap:=h'}) e c d (by decide) ⟨x,H,I1,ru,⟨rfl,λys hy=>by rw[I.tuple_inj hy hq];exact hx⟩,st',λb hb=>(hf b hb).1⟩⟩
 done:=by
  intro X hP hw hK hc i pins s σ H E I hf st hg;subst hP hw hK;obtain⟨xs,hq,hx⟩:=hg;obtain⟨its,rv,p,hz⟩:=I.tuple hq;obtain⟨f0,f1,f2,f3,f4,f5⟩:=hf it (by simp);have hl:=rv.length;exact wpAny_pyNext_tuple_end (I.ok.hd hc) st (show s.heap.IsTuple a its.toArray from p) (by simp;lia) λh' eb=>⟨rfl,I.turned (t':=s.toks) (λb o hb e=>eb b o hb e) f0 f1 f3 f4 f5⟩
 self:=λ_ _ _ _ _ st h=>wpAny_pyIter_tupleiter st h
theorem turn_range(it:Addr)(lo:Int)(n:Nat):Turn P w K tg (Itr lo n) [it] it (λi h=>IsRangeIter h it (lo+(i:Nat)*1) ((n:Int)-(i:Nat)) 1) where
 mem:=by simp
 obj:=λi h st b hb=>by
  have e:b=it:=by simpa using hb
  subst e
  exact⟨_,st,λv z=>by
   have z':Data.fields _=Data.cell v:=z
   cases z'⟩
 keep:=λi h h' st k=>k it (by simp) _ st
 item:=by
  intro X hP hw hK hc i pins s σ H E I hf st hg;subst hP hw hK;obtain⟨f0,f1,f2,f3,f4,f5⟩:=hf it (by simp);have W:=Walks.range (prog:=X.prog) (w:=X.w) (I.ok.hd hc) it lo 1 n;refine W.item i s _ _ hg st λv h' tk hv st' kk=>?_;obtain⟨t,rfl⟩:=hv;have I1:Inv X pins σ H {s with heap:=h',toks:=tk}:=I.turned (λb o hb e=>kk b o (by simpa using hb) e) f0 f1 f3 f4 f5;refine⟨_,rfl,go_of (s:={s with heap:=h',toks:=tk}) (n:="range_iterator") st' rfl rfl (by decide) ⟨.int (lo+i),H,I1,⟨t,?_⟩,⟨rfl,rfl⟩,st',λb hb=>(hf b hb).1⟩⟩;rw[Int.mul_one]
 done:=by
  intro X hP hw hK hc i pins s σ H E I hf st hg;subst hP hw hK;obtain⟨f0,f1,f2,f3,f4,f5⟩:=hf it (by simp);exact wpAny_pyNext_range_end (I.ok.hd hc) st (by have:n<=i:=hg;lia) λh' eb=>⟨rfl,I.turned (t':=s.toks) (λb o hb e=>eb b o hb e) f0 f1 f3 f4 f5⟩
 self:=λ_ _ _ _ _ st h=>wpAny_pyIter_rangeiter st h
section
variable{X:Cx}{tg:Expr}
def iList(K:PySem.W.Frag)(tl:TE):TI:=λσ H R=>tl σ H λx H1=>∃a,x= .ref a/\(∃xs,SqL K H1 a xs)/\R (Itl K a) H1
def iTup(K:PySem.W.Frag)(tl:TE):TI:=λσ H R=>tl σ H λx H1=>∃a,x= .ref a/\(∃xs,SqT K H1 a xs)/\R (Itt K a) H1
theorem zAj{l:Expr}{tl:TE}(hl:PE X l tl):PI X tg l (iList X.K tl):=by
 intro pins s σ H R I h;refine thn (hl pins s σ H _ I h) λv s1 ⟨x,H1,I1,r1,q1⟩=>?_;obtain⟨a,e,⟨xs,hq⟩,q⟩:=q1;subst e
 cases r1
 obtain⟨its,rv,p,hz⟩:=I1.list hq;refine qCc p.isList ?_;refine⟨s1.heap.objs.size,[s1.heap.objs.size],_,_,H1,rfl,I1.kept (t':=s1.toks) λb o e=>qAG _ e,turn_list a _,⟨_,qAX _ rfl,rfl,rfl⟩,λb hb=>?_,q⟩;have e:b=s1.heap.objs.size:=by simpa using hb
 subst e;exact I1.fpOk (qAF _) (I1.hok.fresh (qAF _))
theorem pi_tup{l:Expr}{tl:TE}(hl:PE X l tl):PI X tg l (iTup X.K tl):=by
 intro pins s σ H R I h;refine thn (hl pins s σ H _ I h) λv s1 ⟨x,H1,I1,r1,q1⟩=>?_;obtain⟨a,e,⟨xs,hq⟩,q⟩:=q1;subst e
 cases r1
 obtain⟨its,rv,p,hz⟩:=I1.tuple hq;refine wpAny_pyIter_tuple (show s1.heap.IsTuple a its.toArray from p) ?_;refine⟨s1.heap.objs.size,[s1.heap.objs.size],_,_,H1,rfl,I1.kept (t':=s1.toks) λb o e=>qAG _ e,turn_tuple a _,⟨_,qAX _ rfl,rfl,rfl⟩,λb hb=>?_,q⟩;have e:b=s1.heap.objs.size:=by simpa using hb
 subst e;exact I1.fpOk (qAF _) (I1.hok.fresh (qAF _))
theorem range_it{R:It->Hp->Prop}{E:Value->Shared->Prop}{lo hi:Int}{t u v:Tok}{tk:Nat}(I:Inv X pins σ H s)(h1:-(2^62)<=lo)(h2:lo<2^62)(h3:-(2^62)<=hi)(h4:hi<2^62)
  (q:R (Itr lo (hi-lo).toNat) H):wpAny (model X.prog X.w) X.A (pyIter (.ref s.heap.objs.size)) (PIE X pins σ tg R) E {s with heap:=s.heap.push {cls:=.type "range",data:=.fields #[.int lo t,.int hi u,.int 1 v]},toks:=tk}:=by
 refine wpAny_pyIter_range (IsRange.new ..) (small_one h1 h2 h3 h4) ?_;have I1:Inv X pins σ H {s with heap:=s.heap.push {cls:=.type "range",data:=.fields #[.int lo t,.int hi u,.int 1 v]},toks:=tk}:=I.kept λb o e=>qAG _ e
 refine⟨(s.heap.push {cls:=.type "range",data:=.fields #[.int lo t,.int hi u,.int 1 v]}).objs.size,[(s.heap.push {cls:=.type "range",data:=.fields #[.int lo t,.int hi u,.int 1 v]}).objs.size],_,_,H,rfl,I1.kept (t':=tk) λb o e=>qAG _ e,turn_range _ lo (hi-lo).toNat,?_,λb hb=>?_,q⟩
 .have e1:lo+((0:Nat):Int)*1=lo:=by simp
  have e2:(((hi-lo).toNat:Nat):Int)-((0:Nat):Int)=Builtin.Range.rangeSize lo hi 1:=by rw[rangeSize_one];split<;>lia
  show IsRangeIter _ _ (lo+((0:Nat):Int)*1) ((((hi-lo).toNat:Nat):Int)-((0:Nat):Int)) 1;rw[e1,e2];exact qAX _ rfl
 .have e:b=(s.heap.push {cls:=.type "range",data:=.fields #[.int lo t,.int hi u,.int 1 v]}).objs.size:=by simpa using hb
  subst e;exact I1.fpOk (qAF _) (I1.hok.fresh (qAF _))
def iRng1(ta:TA):TI:=λσ H R=>ta σ H λvs H1=>∃j:Int,vs=[.int j]/\-(2^62)<=j/\j<2^62/\R (Itr 0 j.toNat) H1
def iRng2(ta:TA):TI:=λσ H R=>ta σ H λvs H1=>∃i j:Int,vs=[.int i,.int j]/\(-(2^62)<=i/\i<2^62/\-(2^62)<=j/\j<2^62)/\R (Itr i (j-i).toNat) H1
theorem zBm{a:Expr}{ta:TA}{p:Pos}(hg:Gl X "range")(hm:X.mg "range"=none)(ha:PA X [a] ta)(hs:starEach [a] X.env=[(false,eval a X.env)]:=by rfl):PI X tg (.Call (.Name "range" p) [a] [] pos) (iRng1 ta):=by
 intro pins s σ H R I h;refine Call_ (zHy I hg hm boot_range (qDm (thn (ha pos pins s σ H _ I h) λus s1 ⟨vs,H1,I1,r1,q1⟩=>?_) hs rfl));obtain⟨j,e,q1,q2,q⟩:=q1;subst e
 cases r1 with
 |cons r rr=>
  cases rr
  obtain⟨t,rfl⟩:=r;exact call_range_1 (range_it I1 (by lia) (by lia) q1 q2 (by simpa using q))
theorem pi_range2{a b:Expr}{ta:TA}{p pos:Pos}(hg:Gl X "range")(hm:X.mg "range"=none)(ha:PA X [a,b] ta)(hs:starEach [a,b] X.env=[(false,eval a X.env),(false,eval b X.env)]:=by rfl)(hs2:starEach [b] X.env=[(false,eval b X.env)]:=by rfl) :
  PI X tg (.Call (.Name "range" p) [a,b] [] pos) (iRng2 ta):=by
 intro pins s σ H R I h;refine Call_ (zHy I hg hm boot_range (qDm (thn (ha pos pins s σ H _ I h) λus s1 ⟨vs,H1,I1,r1,q1⟩=>?_) (by rw[hs,hs2]) (by rw[hs2];rfl)));obtain⟨i,j,e,⟨q1,q2,q3,q4⟩,q⟩:=q1;subst e
 cases r1 with
 |cons r rr=>
  cases rr with
  |cons r' rr=>
   cases rr
   obtain⟨t,rfl⟩:=r;obtain⟨t',rfl⟩:=r';exact call_range_2 (range_it I1 q1 q2 q3 q4 q)
def tFor(wi:TI)(g:TG)(tb:TS):TS:=λD σ H=>wi σ H λJ H1=>∃W:Nat->Nat->St->Hp->Prop,(∃m,W 0 m σ H1)/\∀i m σ H,W i m σ H ->
 (J.stop i H/\D.nx σ H)\/(J.go i H/\∃N:St->Hp->Prop,(∀σ' H',N σ' H'->∃m',m'<m/\W (i+1) m' σ' H')/\∀x H',J.yld i H x H'->g x σ H' λσ2 H2=>tb {D with nx:=N,ct:=N,bk:=D.nx} σ2 H2)
def pinsAt(fp:List Addr)(h:Heap):List (Addr×Obj):=fp.filterMap λb=>(h.get? b).map λo=>(b,o)
theorem zEt{fp:List Addr}{o:Obj}(hb:b∈fp)(e:h.get? b=some o):(b,o)∈pinsAt fp h:=List.mem_filterMap.mpr ⟨b,hb,by rw[e];rfl⟩
theorem of_pinsAt{fp:List Addr}{p:Addr×Obj}(hp:p∈pinsAt fp h):p.1∈fp/\h.get? p.1=some p.2:=by
 obtain⟨b,hb,e⟩:=List.mem_filterMap.mp hp
 cases q:h.get? b with
 |none=>rw[q]at e;cases e
 |some o=>
  rw[q]at e;have e':(b,o)=p:=qAe e;subst e';exact⟨hb,q⟩
theorem Inv.pinned{fp:List Addr}(I:Inv X pins σ H s)(hf:∀b∈fp,FpOk X pins H b)(ho:∀b∈fp,∃o,s.heap.get? b=some o/\∀v,o.data≠.cell v):Inv X (pins++pinsAt fp s.heap) σ H s :=
 I.pins_of λp hp=>(qAT.mp hp).elim (λz=>I.pin p (qA4 _ z)) λz=>by
  obtain⟨hb,e⟩:=of_pinsAt z;obtain⟨f0,f1,f2,_⟩:=hf p.1 hb;obtain⟨o,e',d⟩:=ho p.1 hb;rw[e]at e';cases e';exact⟨e,f0,f1,f2,d⟩
theorem Inv.unpinned{pl:List (Addr×Obj)}(I:Inv X (pins++pl) σ H s):Inv X pins σ H s:=I.pins_of λp hp=>I.pin p (qA4 _ (qAv _ hp))
theorem zA1{iter:Expr}{body:List Stmt}{wi:TI}(hp:PassesOwn (model X.prog X.w) X.A X.env X.xe)(hc:X.calm=true)(hi:PI X tg iter wi)(hg:PG X tg g)(hb:PSs X body tb)
  (hs:∀x,foldedSetIterable iter X.env x=pure x:=by intro _;rfl):PS X (.For tg iter body [] pos) (tFor wi g tb):=by
 intro pins s σ H D I h;refine wpAny_For (thn (hi pins s σ H _ I h) λv s1 h1=>thn h1 λitv s2 h2=>?_) hs;obtain⟨it,fp,tn,J,H2,e,I2,T,st2,f2,W,⟨m0,w0⟩,turn⟩:=h2;subst e;have stat:∀{H':Hp},(∀b∈fp,H' b=none)->∀b∈fp,FpOk X pins H' b:=λhn b hb=>⟨hn b hb,(f2 b hb).2⟩;refine codeAny_forLoop_any (λn s'=>∃i σ' H',Inv X pins σ' H' s'/\tn i s'.heap/\(∀b∈fp,H' b=none)/\W i n σ' H') ?_ m0 ⟨0,σ,H2,I2,st2,λb hb=>(f2 b hb).1,w0⟩;rintro n s3 ⟨i,σ3,H3,I3,st3,fr3,w3⟩;rcases turn i n σ3 H3 w3 with⟨stop,qn⟩|⟨go,N,hN,step⟩
 .refine qBy hp (thn (T.done X rfl rfl rfl hc i pins s3 σ3 H3 X.xe I3 (stat fr3) st3 stop) λr s4 ⟨hr,I4⟩=>?_);subst hr;exact qC8 ⟨σ3,H3,I4,qn⟩
 .refine qBy hp (thn (T.item X rfl rfl rfl hc i pins s3 σ3 H3 X.xe I3 (stat fr3) st3 go) λr s4 ⟨u,hr,h4⟩=>?_);subst hr;refine qBy hp (thn h4 λ_ s5 ⟨x,H5,I5,r5,y5,st5,fr5⟩=>?_);have I5':=I5.pinned (stat fr5) (T.obj _ _ st5);refine qBy hp (thn (hg _ s5 σ3 H5 x u _ I5' r5 (step x H5 y5)) λ_ s6 ⟨σ6,H6,I6,q6⟩=>?_);refine qBy hp (thn (hb _ s6 σ6 H6 _ I6 q6) λf s7 q7=>?_)
  have again:∀{σ7:St}{H7:Hp},Inv X (pins++pinsAt fp s5.heap) σ7 H7 s7->N σ7 H7->∃m,m<n/\∃i σ' H',Inv X pins σ' H' s7/\tn i s7.heap/\(∀b∈fp,H' b=none)/\W i m σ' H':=λ{σ7 H7} I7 n7=>by
   obtain⟨m',hm,w7⟩:=hN σ7 H7 n7;refine⟨m',hm,i+1,σ7,H7,I7.unpinned,T.keep _ _ _ st5 λb hb o e=>(I7.pin (b,o) (qA4 _ (qA4 _ (zEt hb e)))).1,λb hb=>?_,w7⟩;obtain⟨o,e,d⟩:=T.obj _ _ st5 b hb;exact(I7.pin (b,o) (qA4 _ (qA4 _ (zEt hb e)))).2.1
  cases f with
  |next=>obtain⟨σ7,H7,I7,n7⟩:=q7;exact again I7 n7
  |cont=>obtain⟨σ7,H7,I7,n7⟩:=q7;exact again I7 n7
  |brk=>obtain⟨σ7,H7,I7,q7⟩:=q7;exact⟨σ7,H7,I7.unpinned,q7⟩
  |ret v=>obtain⟨x7,σ7,H7,I7,r7,q7⟩:=q7;exact⟨x7,σ7,H7,I7.unpinned,r7,q7⟩
end
theorem zA8{xs:List V}(Pv:Nat->St->Hp->Prop)(h0:Pv 0 σ H)(hl:∀i σ H,i<=xs.length->Pv i σ H->SqL K H a xs)
  (hs:∀i x σ H,xs[i]?=some x->Pv i σ H->g x σ H λσ2 H2=>tb {D with nx:=Pv (i+1),ct:=Pv (i+1),bk:=D.nx} σ2 H2) (hd:∀σ H,Pv xs.length σ H->D.nx σ H) :
  ∃W:Nat->Nat->St->Hp->Prop,(∃m,W 0 m σ H)/\∀i m σ H,W i m σ H ->
   ((Itl K a).stop i H/\D.nx σ H)\/((Itl K a).go i H/\∃N:St->Hp->Prop,(∀σ' H',N σ' H'->∃m',m'<m/\W (i+1) m' σ' H')/\∀x H',(Itl K a).yld i H x H'->g x σ H' λσ2 H2=>tb {D with nx:=N,ct:=N,bk:=D.nx} σ2 H2):=by
 refine⟨λi m σ H=>m=xs.length-i/\i<=xs.length/\Pv i σ H,⟨xs.length,by simp,qAd _,h0⟩,?_⟩;rintro i m σ H ⟨rfl,hi,p⟩;have q:=hl i σ H hi p
 by_cases hlt:i<xs.length
 .refine .inr ⟨⟨xs,xs[i],q,by simp[hlt]⟩,Pv (i+1),λσ' H' p'=>⟨xs.length-(i+1),by lia,rfl,hlt,p'⟩,λx H' y=>?_⟩;obtain⟨e,y⟩:=y;subst e;exact hs i x σ _ (y xs q) p
 .have e:i=xs.length:=by lia
  subst e;exact .inl ⟨⟨xs,q,qAF _⟩,hd σ H p⟩
theorem for_tup(Pv:Nat->St->Hp->Prop)(h0:Pv 0 σ H)(hl:∀i σ H,i<=xs.length->Pv i σ H->SqT K H a xs)
  (hs:∀i x σ H,xs[i]?=some x->Pv i σ H->g x σ H λσ2 H2=>tb {D with nx:=Pv (i+1),ct:=Pv (i+1),bk:=D.nx} σ2 H2) (hd:∀σ H,Pv xs.length σ H->D.nx σ H) :
  ∃W:Nat->Nat->St->Hp->Prop,(∃m,W 0 m σ H)/\∀i m σ H,W i m σ H ->
   ((Itt K a).stop i H/\D.nx σ H)\/((Itt K a).go i H/\∃N:St->Hp->Prop,(∀σ' H',N σ' H'->∃m',m'<m/\W (i+1) m' σ' H')/\∀x H',(Itt K a).yld i H x H'->g x σ H' λσ2 H2=>tb {D with nx:=N,ct:=N,bk:=D.nx} σ2 H2):=by
 refine⟨λi m σ H=>m=xs.length-i/\i<=xs.length/\Pv i σ H,⟨xs.length,by simp,qAd _,h0⟩,?_⟩;rintro i m σ H ⟨rfl,hi,p⟩;have q:=hl i σ H hi p
 by_cases hlt:i<xs.length
 .refine .inr ⟨⟨xs,xs[i],q,by simp[hlt]⟩,Pv (i+1),λσ' H' p'=>⟨xs.length-(i+1),by lia,rfl,hlt,p'⟩,λx H' y=>?_⟩;obtain⟨e,y⟩:=y;subst e;exact hs i x σ _ (y xs q) p
 .have e:i=xs.length:=by lia
  subst e;exact .inl ⟨⟨xs,q,qAF _⟩,hd σ H p⟩
theorem zB2{lo:Int}{n:Nat}(Pv:Nat->St->Hp->Prop)(h0:Pv 0 σ H)
  (hs:∀i σ H,i<n->Pv i σ H->g (.int (lo+i)) σ H λσ2 H2=>tb {D with nx:=Pv (i+1),ct:=Pv (i+1),bk:=D.nx} σ2 H2) (hd:∀σ H,Pv n σ H->D.nx σ H) :
  ∃W:Nat->Nat->St->Hp->Prop,(∃m,W 0 m σ H)/\∀i m σ H,W i m σ H ->
   ((Itr lo n).stop i H/\D.nx σ H)\/((Itr lo n).go i H/\∃N:St->Hp->Prop,(∀σ' H',N σ' H'->∃m',m'<m/\W (i+1) m' σ' H')/\∀x H',(Itr lo n).yld i H x H'->g x σ H' λσ2 H2=>tb {D with nx:=N,ct:=N,bk:=D.nx} σ2 H2):=by
 refine⟨λi m σ H=>m=n-i/\i<=n/\Pv i σ H,⟨n,by simp,qAd _,h0⟩,?_⟩;rintro i m σ H ⟨rfl,hi,p⟩
 by_cases hlt:i<n
 .refine .inr ⟨hlt,Pv (i+1),λσ' H' p'=>⟨n-(i+1),by lia,rfl,hlt,p'⟩,λx H' y=>?_⟩;obtain⟨e,y⟩:=y;subst e y;exact hs i σ _ hlt p
 .have e:i=n:=by lia
  subst e;exact .inl ⟨qAF _,hd σ H p⟩
theorem zI3{c:TT}(Pv:St->Hp->Prop)(μ:St->Hp->Nat)(h0:Pv σ H)
  (hs:∀σ H,Pv σ H->c σ H λb H1=>if b=true then tb {D with nx:=λσ' H'=>Pv σ' H'/\μ σ' H'<μ σ H,ct:=λσ' H'=>Pv σ' H'/\μ σ' H'<μ σ H,bk:=D.nx} σ H1 else D.nx σ H1)
  (mono:∀σ H Q Q',(∀b H1,Q b H1->Q' b H1)->c σ H Q->c σ H Q'):tWhile c tb D σ H:=by
 refine⟨λm σ H=>m=μ σ H/\Pv σ H,⟨_,rfl,h0⟩,?_⟩;rintro m σ H ⟨rfl,p⟩;refine mono σ H _ _ (λb H1 q=>?_) (hs σ H p)
 cases b with
 |true=>exact⟨_,λσ' H' ⟨p',l⟩=>⟨_,l,rfl,p'⟩,q⟩
 |false=>exact q
abbrev R2:=V->V->Hp->VK->Prop
variable{r:R2}
def OpR(X:Cx)(f:Value->Value->Sem Value)(r:R2):Prop :=
 ∀(pins:List (Addr×Obj)) (s:Shared) (σ:St) (H:Hp) (x y:V) (v u:Value) (Q:VK),Inv X pins σ H s->RelV x v->RelV y u->r x y H Q ->
  wpAny (model X.prog X.w) X.A (f v u) (EP X pins σ Q) X.xe s
def zCa(X:Cx)(f:Value)(r:List V->Hp->VK->Prop):Prop :=
 ∀(pins:List (Addr×Obj)) (s:Shared) (σ:St) (H:Hp) (xs:List V) (us:List Value) (Q:VK),Inv X pins σ H s->Vals xs us->r xs H Q ->
  wpAny (model X.prog X.w) X.A (call f us) (EP X pins σ Q) X.xe s
def TruR(X:Cx)(r:V->Hp->(Bool->Hp->Prop)->Prop):Prop :=
 ∀(pins:List (Addr×Obj)) (s:Shared) (σ:St) (H:Hp) (x:V) (v:Value) (Q:Bool->Hp->Prop),Inv X pins σ H s->RelV x v->r x H Q ->
  wpAny (model X.prog X.w) X.A (truthy v) (TP X pins σ Q) X.xe s
def tOp(r:R2)(ta tb:TE):TE:=λσ H Q=>ta σ H λx H1=>tb σ H1 λy H2=>r x y H2 Q
def rI(C:Int->Int->Prop)(g:Int->Int->V):R2:=λx y H Q=>∃i j,x= .int i/\y= .int j/\C i j/\Q (g i j) H
def rI0(g:Int->Int->V):R2:=λx y H Q=>∃i j,x= .int i/\y= .int j/\Q (g i j) H
section
variable{X:Cx}{a b c:Expr}{ta tb tc:TE}{pos:Pos}
theorem binT(ha:PE X a ta)(hb:PE X b tb){R:V->V->Hp->Prop}(I:Inv X pins σ H s)
  (h:ta σ H λx H1=>tb σ H1 λy H2=>R x y H2) {Q:Value->Shared->Prop} {f:Value->Value->Sem Value}
  (hf:∀v u s2 x y H2,Inv X pins σ H2 s2->RelV x v->RelV y u->R x y H2->wpAny (model X.prog X.w) X.A (f v u) Q X.xe s2) :
  wpAny (model X.prog X.w) X.A (eval a X.env) (λv s₁=>wpAny (model X.prog X.w) X.A (eval b X.env) (λu s₂=>wpAny (model X.prog X.w) X.A (f v u) Q X.xe s₂) X.xe s₁) X.xe s:=by
 refine thn (ha pins s σ H _ I h) λv s1 ⟨x,H1,I1,r1,q1⟩=>?_;refine thn (hb pins s1 σ H1 _ I1 q1) λu s2 ⟨y,H2,I2,r2,q2⟩=>?_;exact hf v u s2 x y H2 I2 r1 r2 q2
theorem zAk{op:Operator}(ho:OpR X (binaryOp op) r)(ha:PE X a ta)(hb:PE X b tb):PE X (.BinOp a op b pos) (tOp r ta tb):=by
 intro pins s σ H Q I h;exact wpAny_BinOp (binT ha hb I h λv u s2 x y H2 I2 rx ry q=>ho pins s2 σ H2 x y v u Q I2 rx ry q)
theorem opI{f:Value->Value->Sem Value}{C:Int->Int->Prop}{g:Int->Int->Int}
  (rule:∀(i j:Int)(t u:Tok)(s:Shared)(Q:Value->Shared->Prop)(E:Value->Shared->Prop),C i j->Q (.int (g i j) s.toks) {s with toks:=s.toks+1}->wpAny (model X.prog X.w) X.A (f (.int i t) (.int j u)) Q E s) :
  OpR X f (rI C λi j=>.int (g i j)):=by
 intro pins s σ H x y v u Q I rx ry h;obtain⟨i,j,rfl,rfl,hc,q⟩:=h;obtain⟨t,rfl⟩:=rx;obtain⟨t',rfl⟩:=ry;exact rule i j t t' s _ _ hc ⟨.int (g i j),H,I.tok _,⟨_,rfl⟩,q⟩
theorem opI0{f:Value->Value->Sem Value}{g:Int->Int->Int}
  (rule:∀(i j:Int)(t u:Tok)(s:Shared)(Q:Value->Shared->Prop)(E:Value->Shared->Prop),Q (.int (g i j) s.toks) {s with toks:=s.toks+1}->wpAny (model X.prog X.w) X.A (f (.int i t) (.int j u)) Q E s) :
  OpR X f (rI0 λi j=>.int (g i j)):=by
 intro pins s σ H x y v u Q I rx ry h;obtain⟨i,j,rfl,rfl,q⟩:=h;obtain⟨t,rfl⟩:=rx;obtain⟨t',rfl⟩:=ry;exact rule i j t t' s _ _ ⟨.int (g i j),H,I.tok _,⟨_,rfl⟩,q⟩
theorem opB0{f:Value->Value->Sem Value}{g:Int->Int->Bool}
  (rule:∀(i j:Int)(t u:Tok)(s:Shared)(Q:Value->Shared->Prop)(E:Value->Shared->Prop),Q (.bool (g i j)) s->wpAny (model X.prog X.w) X.A (f (.int i t) (.int j u)) Q E s) :
  OpR X f (rI0 λi j=>.bl (g i j)):=by
 intro pins s σ H x y v u Q I rx ry h;obtain⟨i,j,rfl,rfl,q⟩:=h;obtain⟨t,rfl⟩:=rx;obtain⟨t',rfl⟩:=ry;exact rule i j t t' s _ _ ⟨.bl (g i j),H,I,rfl,q⟩
def CDiv(i j:Int):Prop:=0<j/\j<1073741824
def CPow(i j:Int):Prop:=0<=j/\j<=1000000/\i.natAbs<2^64
def CMul(i j:Int):Prop:=(-(2^64)<i/\i<2^64)\/(-(2^64)<j/\j<2^64)
theorem CMul.ok{i j:Int}(h:CMul i j):IntMulOk i j:=by
 rcases h with⟨h1,h2⟩|⟨h1,h2⟩
 .exact .of_left (intBits_le_64 h1 h2)
 .exact .of_right (intBits_le_64 h1 h2)
theorem two_pow_nn(k:Nat):(0:Int)<=2^k:=by
 rw[two_pow_cast];exact Int.natCast_nonneg _
theorem zBn:OpR X (binaryOp .Add) (rI0 λi j=>.int (i+j)):=opI0 λ_ _ _ _ _ _ _ q=>add_int q
theorem zCt:OpR X (binaryOp .Sub) (rI0 λi j=>.int (i-j)):=opI0 λ_ _ _ _ _ _ _ q=>sub_int q
theorem zD3:OpR X (binaryOp .Mult) (rI CMul λi j=>.int (i*j)):=opI λ_ _ _ _ _ _ _ hc q=>mul_int q hc.ok
theorem op_fdiv:OpR X (binaryOp .FloorDiv) (rI CDiv λi j=>.int (i / j)):=opI λi j _ _ _ _ _ hc q=>by
 have h1:(0:Int)<j:=hc.1;have h2:j<1073741824:=hc.2;exact floordiv_int (by lia) (by rw[qDn i (by lia)];exact q) (.inl (PyProof.noPylong_small (by lia)))
theorem zHm:OpR X (binaryOp .Mod) (rI (λ_ j=>0<j) λi j=>.int (i % j)):=opI λi j _ _ _ _ _ hc q=>by
 have h1:(0:Int)<j:=hc;exact mod_int' (by lia) (by rw[Int.fmod_eq_emod_of_nonneg i (by lia)];exact q)
theorem zIu:OpR X (binaryOp .Pow) (rI CPow λi j=>.int (i^j.toNat)):=opI λ_ _ _ _ _ _ _ hc q=>pow_int_small hc.1 hc.2.1 hc.2.2 q
theorem op_shl:OpR X (binaryOp .LShift) (rI CPow λi j=>.int (i*2^j.toNat)):=opI λ_ _ _ _ _ _ _ hc q=>lshift_int_small hc.1 hc.2.1 hc.2.2 q
theorem op_shr:OpR X (binaryOp .RShift) (rI (λ_ j=>0<=j) λi j=>.int (i / 2^j.toNat)):=opI λi j _ _ _ _ _ hc q=>
 rshift_int hc (by rw[qDn i (two_pow_nn _)];exact q)
theorem op_and:OpR X (binaryOp .BitAnd) (rI0 λi j=>.int (Builtin.bitAnd i j)):=opI0 λ_ _ _ _ _ _ _ q=>and_int q
theorem op_or:OpR X (binaryOp .BitOr) (rI0 λi j=>.int (Builtin.bitOr i j)):=opI0 λ_ _ _ _ _ _ _ q=>or_int q
end
def scal:V->V->Bool
 | .non,.non=>true| .non,.int _=>true| .int _,.non=>true| .non,.bl _=>true| .bl _,.non=>true| .non,.str _=>true| .str _,.non=>true
 | .int _,.int _=>true| .bl _,.bl _=>true| .str _,.str _=>true| .byt _,.byt _=>true
 | .int _,.str _=>true| .str _,.int _=>true| .bl _,.str _=>true| .str _,.bl _=>true
 |_,_=>false
def rEq:R2:=λx y H Q=>scal x y=true/\Q (.bl (decide (x=y))) H
def rNe:R2:=λx y H Q=>scal x y=true/\Q (.bl (!decide (x=y))) H
theorem dec_int{i j:Int}:decide (V.int i=V.int j)=(i==j):=by
 rw[qBz];simp
theorem dec_bl{i j:Bool}:decide (V.bl i=V.bl j)=(i==j):=by
 rw[qBz];simp
theorem dec_str{i j:Str}:decide (V.str i=V.str j)=(i==j):=by
 rw[qBz];simp
theorem dec_byt{i j:Array UInt8}:decide (V.byt i=V.byt j)=(i.toList==j.toList):=by
 rw[qBz]
 cases i
 cases j
 simp
section
variable{X:Cx}{a b c:Expr}{ta tb tc:TE}{pos:Pos}
theorem zA4{Q:VK}{k k':Bool}(I:Inv X pins σ H s)(q:Q (.bl k) H)(e:k=k'):EP X pins σ Q (.bool k') s:=by
 subst e;exact⟨.bl k,H,I,rfl,q⟩
theorem zHo:OpR X (compareOp .Eq) rEq:=by
 intro pins s σ H x y v u Q I rx ry h;obtain⟨hs,q⟩:=h
 cases x with
 |non=>
  cases rx
  cases y with
  |non=>cases ry;exact PySem.EqNone.eq_none_none (zA4 I q (by simp))
  |bl j=>cases ry;exact PySem.EqNone.eq_none_bool (zA4 I q (by simp))
  |int j=>obtain⟨t',rfl⟩:=ry;exact PySem.EqNone.eq_none_int (zA4 I q (by simp))
  |str j=>obtain⟨t',rfl⟩:=ry;exact PySem.EqNone.eq_none_str (zA4 I q (by simp))
  |_=>exact absurd (show false=true from hs) qAn
 |bl i=>
  cases rx
  cases y with
  |non=>cases ry;exact PySem.EqNone.eq_bool_none (zA4 I q (by simp))
  |bl j=>cases ry;exact eq_bool (zA4 I q dec_bl)
  |str j=>obtain⟨t',rfl⟩:=ry;exact PySem.EqMixed.eq_bool_str (zA4 I q (by simp))
  |_=>exact absurd (show false=true from hs) qAn
 |int i=>
  obtain⟨t,rfl⟩:=rx
  cases y with
  |non=>cases ry;exact PySem.EqNone.eq_int_none (zA4 I q (by simp))
  |int j=>obtain⟨t',rfl⟩:=ry;exact eq_int (zA4 I q dec_int)
  |str j=>obtain⟨t',rfl⟩:=ry;exact PySem.EqMixed.eq_int_str (zA4 I q (by simp))
  |_=>exact absurd (show false=true from hs) qAn
 |str i=>
  obtain⟨t,rfl⟩:=rx
  cases y with
  |non=>cases ry;exact PySem.EqNone.eq_str_none (zA4 I q (by simp))
  |bl j=>cases ry;exact PySem.EqMixed.eq_str_bool (zA4 I q (by simp))
  |int j=>obtain⟨t',rfl⟩:=ry;exact PySem.EqMixed.eq_str_int (zA4 I q (by simp))
  |str j=>obtain⟨t',rfl⟩:=ry;exact eq_str (zA4 I q dec_str)
  |_=>exact absurd (show false=true from hs) qAn
 |byt i=>
  obtain⟨t,rfl⟩:=rx
  cases y with
  |byt j=>obtain⟨t',rfl⟩:=ry;exact PySem.W.eq_bytes (zA4 I q dec_byt)
  |_=>exact absurd (show false=true from hs) qAn
 |_=>cases y<;>exact absurd (show false=true from hs) qAn
theorem op_ne:OpR X (compareOp .NotEq) rNe:=by
 intro pins s σ H x y v u Q I rx ry h;obtain⟨hs,q⟩:=h
 cases x with
 |non=>
  cases rx
  cases y with
  |non=>cases ry;exact PySem.EqNone.ne_none_none (zA4 I q (by simp))
  |bl j=>cases ry;exact PySem.EqNone.ne_none_bool (zA4 I q (by simp))
  |int j=>obtain⟨t',rfl⟩:=ry;exact PySem.EqNone.ne_none_int (zA4 I q (by simp))
  |str j=>obtain⟨t',rfl⟩:=ry;exact PySem.EqNone.ne_none_str (zA4 I q (by simp))
  |_=>exact absurd (show false=true from hs) qAn
 |bl i=>
  cases rx
  cases y with
  |non=>cases ry;exact PySem.EqNone.ne_bool_none (zA4 I q (by simp))
  |bl j=>cases ry;exact ne_bool (zA4 I q (qAm not dec_bl))
  |str j=>obtain⟨t',rfl⟩:=ry;exact PySem.EqMixed.ne_bool_str (zA4 I q (by simp))
  |_=>exact absurd (show false=true from hs) qAn
 |int i=>
  obtain⟨t,rfl⟩:=rx
  cases y with
  |non=>cases ry;exact PySem.EqNone.ne_int_none (zA4 I q (by simp))
  |int j=>obtain⟨t',rfl⟩:=ry;exact ne_int (zA4 I q (qAm not dec_int))
  |str j=>obtain⟨t',rfl⟩:=ry;exact PySem.EqMixed.ne_int_str (zA4 I q (by simp))
  |_=>exact absurd (show false=true from hs) qAn
 |str i=>
  obtain⟨t,rfl⟩:=rx
  cases y with
  |non=>cases ry;exact PySem.EqNone.ne_str_none (zA4 I q (by simp))
  |bl j=>cases ry;exact PySem.EqMixed.ne_str_bool (zA4 I q (by simp))
  |int j=>obtain⟨t',rfl⟩:=ry;exact PySem.EqMixed.ne_str_int (zA4 I q (by simp))
  |str j=>obtain⟨t',rfl⟩:=ry;exact ne_str (zA4 I q (qAm not dec_str))
  |_=>exact absurd (show false=true from hs) qAn
 |byt i=>
  obtain⟨t,rfl⟩:=rx
  cases y with
  |byt j=>obtain⟨t',rfl⟩:=ry;exact PySem.W.ne_bytes (zA4 I q (qAm not dec_byt))
  |_=>exact absurd (show false=true from hs) qAn
 |_=>cases y<;>exact absurd (show false=true from hs) qAn
theorem op_lt:OpR X (compareOp .Lt) (rI0 λi j=>.bl (decide (i<j))):=opB0 λ_ _ _ _ _ _ _ q=>lt_int q
theorem op_le:OpR X (compareOp .LtE) (rI0 λi j=>.bl (decide (i<=j))):=opB0 λ_ _ _ _ _ _ _ q=>le_int q
theorem op_gt:OpR X (compareOp .Gt) (rI0 λi j=>.bl (decide (j<i))):=opB0 λ_ _ _ _ _ _ _ q=>gt_int q
theorem zAq(b:Expr)(h:op≠.In:=by decide)(h2:op≠.NotIn:=by decide):behindInMarks op b=false:=by
 have e1:(op==CmpOp.In)=false:=by cases op<;>first|rfl|exact absurd rfl h
 have e2:(op==CmpOp.NotIn)=false:=by cases op<;>first|rfl|exact absurd rfl h2
 cases b<;>simp[behindInMarks,e1,e2]
theorem zCi(ho:OpR X (compareOp op) r)(ha:PE X a ta)(hb:PE X b tb)(hm:behindInMarks op b=false):PE X (.Compare a [op] [b] pos) (tOp r ta tb):=by
 intro pins s σ H Q I h;exact wpAny_Compare1 (binT ha hb I h λv u s2 x y H2 I2 rx ry q=>ho pins s2 σ H2 x y v u Q I2 rx ry q) hm
def tTest(t:TE):TT:=λσ H Q=>t σ H λx H'=>∃k,x= .bl k/\Q k H'
theorem zAo(ho:OpR X (compareOp op) r)(ha:PE X a ta)(hb:PE X b tb)(hm:behindInMarks op b=false):PT X (.Compare a [op] [b] pos) (tTest (tOp r ta tb)):=by
 intro pins s σ H Q I h
 refine wpAny_isTrue_Compare1 (thn (ha pins s σ H _ I h) λv s1 ⟨x,H1,I1,r1,q1⟩=>thn (hb pins s1 σ H1 _ I1 q1) λu s2 ⟨y,H2,I2,r2,q2⟩=>thn (ho pins s2 σ H2 x y v u _ I2 r1 r2 q2) λc s3 ⟨z,H3,I3,r3,k,e,q3⟩=>?_) hm
 subst e
 cases r3
 exact qBL ⟨H3,I3,q3⟩
def tChain(r r':R2)(ta tb tc:TE):TE:=λσ H Q=>ta σ H λx H1=>tb σ H1 λy H2=>r x y H2 λz H3=>∃k,z= .bl k /\
 (if k=true then tc σ H3 λw' H4=>r' y w' H4 Q else Q (.bl false) H3)
theorem pe_chain{op':CmpOp}{r':R2}(ho:OpR X (compareOp op) r)(ho':OpR X (compareOp op') r')(ha:PE X a ta)(hb:PE X b tb)(hc:PE X c tc)
  (hm:lastMarks [op,op'] [b,c]=false:=by with_unfolding_all rfl):PE X (.Compare a [op,op'] [b,c] pos) (tChain r r' ta tb tc):=by
 intro pins s σ H Q I h
 refine Compare_chain (thn (ha pins s σ H _ I h) λv s1 ⟨x,H1,I1,r1,q1⟩=>chain_link (thn (hb pins s1 σ H1 _ I1 q1) λu s2 ⟨y,H2,I2,r2,q2⟩=>thn (ho pins s2 σ H2 x y v u _ I2 r1 r2 q2) λd s3 ⟨z,H3,I3,r3,k,e,q3⟩=>?_)) hm
 subst e
 cases r3
 refine qBL ?_
 cases k with
 |false=>exact ite_ff ⟨.bl false,H3,I3,rfl,q3⟩
 |true=>exact ite_tt (chain_last (thn (hc pins s3 σ H3 _ I3 q3) λw' s4 ⟨z',H4,I4,r4,q4⟩=>ho' pins s4 σ H4 y z' u w' Q I4 r2 r4 q4))
theorem pt_chain{op':CmpOp}{r':R2}(ho:OpR X (compareOp op) r)(ho':OpR X (compareOp op') r')(ha:PE X a ta)(hb:PE X b tb)(hc:PE X c tc)
  (hm:lastMarks [op,op'] [b,c]=false:=by with_unfolding_all rfl):PT X (.Compare a [op,op'] [b,c] pos) (tTest (tChain r r' ta tb tc)):=by
 intro pins s σ H Q I h
 refine isTrue_chain (thn (ha pins s σ H _ I h) λv s1 ⟨x,H1,I1,r1,q1⟩=>test_link (thn (hb pins s1 σ H1 _ I1 q1) λu s2 ⟨y,H2,I2,r2,q2⟩=>thn (ho pins s2 σ H2 x y v u _ I2 r1 r2 q2) λd s3 ⟨z,H3,I3,r3,k,e,q3⟩=>?_)) hm
 subst e
 cases r3
 refine qBL ?_
 cases k with
 |false=>
  obtain⟨k',e',q'⟩:=q3
  cases e'
  exact ite_ff ⟨H3,I3,q'⟩
 |true=>
  refine ite_tt (test_last (thn (hc pins s3 σ H3 _ I3 q3) λw' s4 ⟨z',H4,I4,r4,q4⟩=>thn (ho' pins s4 σ H4 y z' u w' _ I4 r2 r4 q4) λd' s5 ⟨z2,H5,I5,r5,k2,e2,q5⟩=>?_));subst e2
  cases r5
  exact qBL ⟨H5,I5,q5⟩
def TruV(K:PySem.W.Frag)(x:V)(H:Hp)(k:Bool):Prop :=
 match x with
 | .non=>k=false
 | .bl b=>k=b
 | .int i=>k=(i != 0)
 | .str y=>y.length<=sizeLine/\k=((y.length:Int) != 0)
 | .byt y=>y.size<=sizeLine/\k=((y.size:Int) != 0)
 | .ref p=>(∃xs,SqL K H p xs/\k= !xs.isEmpty)\/(∃xs,SqT K H p xs/\k= !xs.isEmpty)\/∃kvs,H p=some (.dK kvs)/\k= !kvs.isEmpty
 |_=>False
theorem isEmpty_kv{κ:Type}{kvs:List (κ×V)}{vs:List (κ×Value)}(r:KV kvs vs):(!vs.isEmpty)= !kvs.isEmpty:=by
 cases r<;>rfl
theorem zIx{its:List Value}(r:Vals xs its):(!its.toArray.isEmpty)= !xs.isEmpty:=by
 cases r<;>simp
theorem zHv:(sizeLine:Nat)<2^63:=by rw[qAI];decide
theorem tru_ok:TruR X (λx H Q=>∃k,TruV X.K x H k/\Q k H):=by
 intro pins s σ H x v Q I rx h;obtain⟨k,e,q⟩:=h;have hl:=zHv;have hs:sizeLine=16777216:=qAI
 cases x with
 |non=>
  cases rx
  have e':k=false:=e;subst e';exact truthy_none ⟨H,I,q⟩
 |bl b=>
  cases rx
  have e':k=b:=e;subst e';exact qBL ⟨H,I,q⟩
 |int i=>
  obtain⟨t,rfl⟩:=rx;have e':k=(i != 0):=e;subst e';exact PySem.P.truthy_int ⟨H,I,q⟩
 |str y=>
  obtain⟨t,rfl⟩:=rx;obtain⟨hy,e'⟩:y.length<=sizeLine/\k=((y.length:Int) != 0):=e;subst e';exact PySem.P.truthy_str (by lia) ⟨H,I.tok _,q⟩
 |byt y=>
  obtain⟨t,rfl⟩:=rx;obtain⟨hy,e'⟩:y.size<=sizeLine/\k=((y.size:Int) != 0):=e;subst e';exact PySem.W.truthy_bytes (by lia) ⟨H,I.tok _,q⟩
 |ref p=>
  cases rx
  have e':(∃xs,SqL X.K H p xs/\k= !xs.isEmpty)\/(∃xs,SqT X.K H p xs/\k= !xs.isEmpty)\/∃kvs,H p=some (.dK kvs)/\k= !kvs.isEmpty:=e;rcases e' with⟨xs,hx,e'⟩|⟨xs,hx,e'⟩|⟨kvs,hx,e'⟩
  .subst e';obtain⟨its,r,pl,hz⟩:=I.list hx;have hlen:=r.length;exact wpAny_truthy_list pl.isList (by simp only[qAK];lia) ⟨H,I.tok _,by rw[zIx r];exact q⟩
  .subst e';obtain⟨its,r,pl,hz⟩:=I.tuple hx;have hlen:=r.length;exact truthy_tuple pl (by simp only[qAK];lia) ⟨H,I.tok _,by rw[zIx r];exact q⟩
  .subst e';obtain⟨hz,hS,vs,r,m⟩:kvs.length<=sizeLine/\(p==sysModules)=false/\∃vs,KV kvs vs/\s.heap.DictOf (zAn X.prog X.w) p vs:=I.hok p _ hx;have hlen:kvs.length=vs.length:=qCH r;exact wpAny_truthy_dict hS m (by lia) ⟨H,I.tok _,by rw[isEmpty_kv r];exact q⟩
 |_=>exact(show False from e).elim
theorem zG5(ha:PE X a ta)(he:∀whole,isTrue a X.env whole=(do let v<-whole;standAt a.pos;holding [v] (truthy v))) :
  PT X a (λσ H Q=>ta σ H λx H'=>∃k,TruV X.K x H' k/\Q k H'):=by
 intro pins s σ H Q I h;exact isTrue_plain (thn (ha pins s σ H _ I h) λv s1 ⟨x,H1,I1,r1,q1⟩=>tru_ok pins s1 σ H1 x v Q I1 r1 q1) (he _)
theorem op_add_str:OpR X (binaryOp .Add) (λx y H Q=>∃i j,x= .str i/\y= .str j/\i.length+j.length<=sizeLine/\Q (.str (i++j)) H):=by
 intro pins s σ H x y v u Q I rx ry h;obtain⟨i,j,rfl,rfl,hz,q⟩:=h;obtain⟨t,rfl⟩:=rx;obtain⟨t',rfl⟩:=ry;exact add_str (λt' tk=>⟨.str (i++j),H,I.tok _,⟨_,rfl⟩,q⟩) hz
theorem zH9{x:V}(r:Vals [x] us):∃u,us=[u]/\RelV x u:=by
 cases r with
 |cons r1 r2=>cases r2;exact⟨_,rfl,r1⟩
theorem vals2{x:V}(r:Vals [x,y] us):∃u w',us=[u,w']/\RelV x u/\RelV y w':=by
 cases r with
 |cons r1 r2=>
  cases r2 with
  |cons r3 r4=>cases r4;exact⟨_,_,rfl,r1,r3⟩
theorem call_max2(hc:X.calm=true):zCa X (.builtin "max") (λxs H Q=>∃i j,xs=[.int i,.int j]/\Q (.int (if j>i then j else i)) H):=by
 intro pins s σ H xs us Q I r h;obtain⟨i,j,rfl,q⟩:=h;obtain⟨u,w',rfl,⟨t,rfl⟩,⟨t',rfl⟩⟩:=vals2 r;refine max_two_ints (I.ok.hd hc) λh' tk k=>⟨_,H,I.kept k,?_,q⟩
 by_cases hj:j>i
 .rw [qAC hj,qAC hj];exact⟨_,rfl⟩
 .rw [qAB hj,qAB hj];exact⟨_,rfl⟩
theorem call_min2(hc:X.calm=true):zCa X (.builtin "min") (λxs H Q=>∃i j,xs=[.int i,.int j]/\Q (.int (if j<i then j else i)) H):=by
 intro pins s σ H xs us Q I r h;obtain⟨i,j,rfl,q⟩:=h;obtain⟨u,w',rfl,⟨t,rfl⟩,⟨t',rfl⟩⟩:=vals2 r;refine min_two_ints (I.ok.hd hc) λh' tk k=>⟨_,H,I.kept k,?_,q⟩
 by_cases hj:j<i
 .rw [qAC hj,qAC hj];exact⟨_,rfl⟩
 .rw [qAB hj,qAB hj];exact⟨_,rfl⟩
theorem zEm:zCa X (.type "int") (λxs H Q=>(∃i,xs=[.int i]/\Q (.int i) H)\/∃k,xs=[.bl k]/\Q (.int (if k then 1 else 0)) H):=by
 intro pins s σ H xs us Q I r h;rcases h with⟨i,rfl,q⟩|⟨k,rfl,q⟩
 .obtain ⟨u,rfl,t,rfl⟩:=zH9 r;exact call_int_int ⟨.int i,H,I,⟨_,rfl⟩,q⟩
 .obtain ⟨u,rfl,r1⟩:=zH9 r
  cases r1
  exact call_int_bool ⟨.int (if k then 1 else 0),H,I.tok _,⟨_,rfl⟩,q⟩
end
structure ObjM(h:Heap)(x dx C:Addr)(mA:Str->Option Value):Prop where
 obj:h.get? x=some (PySem.W.instObj C dx)
 ns:h.Ns1 dx mA
 ne:dx≠x
theorem lookIn_ns{dx:Addr}{mA:Str->Option Value}(n:h.Ns1 dx mA):∃od,h.get? dx=some od/\∀name,PySem.W.lookIn name od=some (mA name):=by
 obtain⟨o,es,ep,ho,hd,hk,_,hm⟩:=n;refine⟨o,ho,λname=>?_⟩;have e:=hm name;unfold nsFind findBy at e;rw[<-Array.find?_toList]at e;unfold PySem.W.lookIn;rw[hd];dsimp only;split
 .rename_i y q;rw[q]at e;exact qAm some e
 .rename_i q;rw[q]at e
  have a:es.toList.any (·.refKey)=false:=by
   rw[List.any_eq_false];intro y hy;obtain⟨z,t,hkey⟩:=hk y (qDo.mp hy);simp[DictEntry.refKey,hkey]
  have a':¬es.toList.any (·.refKey)=true:=by rw[a];exact qAn
  rw[qAB a'];exact qAm some e
theorem ObjM.look{x dx:Addr}{mA:Str->Option Value}(I:ObjM h x dx C mA):∃od,PySem.W.InstAt h x (PySem.W.instObj C dx) C (some od)/\∀name,PySem.W.lookIn name od=some (mA name) :=
 let⟨od,ho,hl⟩:=lookIn_ns I.ns
 ⟨od,⟨I.obj,rfl,rfl,ho⟩,hl⟩
section
variable{prog:Program}{w:World}{A:Around}{E:Value->Shared->Prop}{s:Shared}{K:PySem.W.Frag}{x dx C f:Addr}{mA:Str->Option Value}{name:Str}{v:Value}
theorem get_map{expr:Bool}{Q:Value->Shared->Prop}(X:K.In s.heap)(I:ObjM s.heap x dx C mA)(hg:PySem.W.plainGet K C name=true)(hh:PySem.W.hasDictIn K C=true)
  (ha:PySem.W.findIn K (.ref C) name=some none) (hv:mA name=some v) (hv':PySem.W.handedIn v=true) (h:Q v {s with toks:=s.toks+1}) :
  wpAny (model prog w) A (getAttr (.ref x) name expr) Q E s:=by
 obtain⟨od,J,hl⟩:=I.look;exact PySem.W.get_value X J (PySem.W.plainGet_of hg).1 (PySem.W.findObj_own hh ha rfl (by rw[hl,hv])) hv' h
theorem get_meth{pl:Sem Bool}{Q:Value×List Value->Shared->Prop}(X:K.In s.heap)(I:ObjM s.heap x dx C mA)(hg:PySem.W.plainGet K C name=true)
  (hf:PySem.W.findIn K (.ref C) name=some (some (.ref f))) (ht:PySem.W.isFn K (.ref f)=true) (hv:mA name=none) (h:Q (.ref f,[.ref x]) s) :
  wpAny (model prog w) A (getMethod (.ref x) name pl) Q E s:=by
 obtain⟨od,J,hl⟩:=I.look;exact PySem.W.method_fn X J (PySem.W.plainGet_of hg).1 (PySem.W.plainGet_of hg).2 hf (qCd.mp ht) (by show(PySem.W.lookIn name od).map (·.isSome)=some false;rw[hl,hv];rfl) h
theorem set_map{ns:List Str}{Q:Unit->Shared->Prop}(X:K.In s.heap)(I:ObjM s.heap x dx C mA)
  (hs:PySem.W.findIn K (.ref C) "__setattr__"=some (some (.builtin "object.__setattr__"))) (hp:PySem.W.plainOver K C=true) (ht:PySem.W.takerIn K C name=some none) (hh:PySem.W.hasDictIn K C=true)
  (hw:PySem.Within mA ns) (hsz:ns.length<=sizeLine)
  (h:∀h',ObjM h' x dx C (λy=>if y=name then some v else mA y)->Heap.SameBut dx s.heap h'->Q () {s with heap:=h',toks:=s.toks+2}) :
  wpAny (model prog w) A (setAttr (.ref x) name v) Q E s:=by
 obtain⟨od,J,hl⟩:=I.look;refine PySem.W.set_plain X J hs (PySem.W.osa_open (s:={s with toks:=s.toks+1}) (r:=none) X J hp ht λb=>?_);obtain⟨cd,hc,hd'⟩:=PySem.W.any_some hh;have hx:s.heap.get? x=some ⟨.ref C,some dx,.plain,#[]⟩:=I.obj;refine qAA (qAE (qAA (qAA (wpAny_loadPart hx (qAA (PySem.W.Looks.here (s:={s with toks:=s.toks+1}) (PySem.W.looks_clsIn X hc) ?_))))));rw[hd'];refine qAE (a:=some dx) (qAA (qAE (qAA ?_)));refine wpAny_nsSet1 (s:={s with toks:=s.toks+1}) I.ns λh' hn2 hs2=>?_;obtain⟨oD,esD,epD,hoD,hdD,hcD⟩:=hn2.count (PySem.Within.cons name v hw);refine qAA (wpAny_lookBehind hoD (by rw[hdD];exact pastItsLine_dict (qAL hcD (by rw[qAc];lia))) ?_);exact qAE (h _ ⟨(hs2.2 _ (qAj I.ne)).trans I.obj,hn2,I.ne⟩ hs2)
theorem make_map{R:Result->Shared->Prop}{vs:List Value}{kw:List (Str×Value)}(X:K.In s.heap)(hm:PySem.W.makesIn K C=true)
  (hi:PySem.W.findIn K (.ref C) "__init__"=some (some (.ref f))) (hf:PySem.W.typeIn K (.ref f)=some (.type "function"))
  (h:codeAny (model prog w) (A.under (.builtin "type.__call__" ⟨.ref C::vs,kw⟩)) (.call (.ref f) ⟨.ref (s.heap.objs.size+1)::vs,kw⟩) (PySem.W.InitBack (s.heap.objs.size+1) R)
   {s with heap:=(s.heap.push PySem.W.emptyDict).push (PySem.W.instObj C s.heap.objs.size)}) :
  codeAny (model prog w) A (.call (.ref C) ⟨vs,kw⟩) R s:=by
 obtain⟨hh,g,d,t,os⟩:=s;exact PySem.W.make_core (PySem.W.makes_of X hm) (PySem.W.looks_findIn X hi) (λself=>PySem.W.bind_fn X self hf) (.inl rfl) h
end
def putF(f:Str)(v:V):List (Str×V)->List (Str×V)
 |[]=>[(f,v)]
 |(g,x)::r=>if g=f then(g,v)::r else(g,x)::putF f v r
theorem zAy(f g:Str)(v:V):∀fs:List (Str×V),(putF f v fs).lookup g=if g=f then some v else fs.lookup g
 |[]=>by
  show List.lookup g [(f,v)]=_
  by_cases h:g=f
  .have hb:(g==f)=true:=qCd.mpr h;simp only[List.lookup,hb,qAC h]
  .have hb:(g==f)=false:=qBD.mpr h;simp only[List.lookup,hb,qAB h]
 |(k,x)::r=>by
  have ih:=zAy f g v r;rw[show putF f v ((k,x)::r)=(if k=f then(k,v)::r else(k,x)::putF f v r)from rfl]
  by_cases hk:k=f
  .rw [qAC hk]
   by_cases h:g=k
   .have hb:(g==k)=true:=qCd.mpr h;simp only[List.lookup,hb,qAC (h.trans hk)]
   .have hb:(g==k)=false:=qBD.mpr h;simp only[List.lookup,hb,qAB (λe:g=f=>h (e.trans hk.symm))]
  .rw [qAB hk]
   by_cases h:g=k
   .have hb:(g==k)=true:=qCd.mpr h;simp only[List.lookup,hb,qAB (λe:g=f=>hk (h.symm.trans e))]
   .have hb:(g==k)=false:=qBD.mpr h;simp only[List.lookup,hb];exact ih
theorem zH0(f:Str)(v:V):∀fs:List (Str×V),f∈(putF f v fs).map (·.1)/\∀g,g∈fs.map (·.1)->g∈(putF f v fs).map (·.1)
 |[]=>⟨by simp[putF],λg h=>by simp at h⟩
 |(k,x)::r=>by
  obtain⟨i1,i2⟩:=zH0 f v r;rw[show putF f v ((k,x)::r)=(if k=f then(k,v)::r else(k,x)::putF f v r)from rfl]
  by_cases hk:k=f
  .rw [qAC hk];subst hk;exact⟨by simp,λg h=>by simpa using h⟩
  .rw [qAB hk];refine⟨?_,λg h=>?_⟩
   .rw [qAk];exact qAU _ i1
   .rw [qAk]at h ⊢;rcases qAM.mp h with e|e
    .exact qAM.mpr (.inl e)
    .exact qAU _ (i2 g e)
theorem zHw(f:Str)(v:V):∀fs:List (Str×V),(putF f v fs).length<=fs.length+1
 |[]=>by simp[putF]
 |(k,x)::r=>by
  have ih:=zHw f v r;rw[show putF f v ((k,x)::r)=(if k=f then(k,v)::r else(k,x)::putF f v r)from rfl]
  by_cases hk:k=f
  .rw [qAC hk,qAc,qAc];lia
  .rw [qAB hk,qAc,qAc];lia
theorem RelO.some_of{v:V}{o:Option Value}(r:RelO (some v) o):∃u,o=some u/\RelV v u:=by
 cases o with
 |none=>exact(show False from r).elim
 |some u=>exact⟨u,rfl,r⟩
theorem RelO.none_of{o:Option Value}(r:RelO none o):o=none:=by
 cases o with
 |none=>rfl
 |some u=>exact(show False from r).elim
theorem handed_of(r:RelV v u):PySem.W.handedIn u=true:=by
 cases v with
 |non=>cases (show u=Value.none from r);rfl
 |bl b=>cases (show u=Value.bool b from r);rfl
 |int i=>obtain⟨t,e⟩:=(show∃t,u=Value.int i t from r);cases e;rfl
 |str x=>obtain⟨t,e⟩:=(show∃t,u=Value.str x t from r);cases e;rfl
 |byt b=>obtain⟨t,e⟩:=(show∃t,u=Value.bytes b t from r);cases e;rfl
 |flt b=>obtain⟨t,e⟩:=(show∃t,u=Value.float b t from r);cases e;rfl
 |ref a=>cases (show u=Value.ref a from r);rfl
 |ty n=>cases (show u=Value.type n from r);rfl
section
variable{P:Program}{w:World}{H H':Hp}{h h':Heap}{a C dx:Addr}{fs fs':List (Str×V)}
theorem zGg(hok:HOk P w H h)(e:H a=some (.ins C dx fs)):∃mA,ObjM h a dx C mA/\(∀f,RelO (fs.lookup f) (mA f))/\PySem.Within mA (fs.map (·.1))/\fs.length<=1000/\H dx=some (.own a):=by
 obtain⟨d,z,ne,ob,mA,n,r,q⟩:=(show zA0 P w H h a (.ins C dx fs)from hok a _ e);exact⟨mA,⟨ob,n,ne⟩,r,q,z,d⟩
end
structure Cls(K:PySem.W.Frag)(C:Addr):Prop where
 pg:PySem.W.plainGet K C Str.empty=true
 hd:PySem.W.hasDictIn K C=true
 po:PySem.W.plainOver K C=true
 sa:PySem.W.findIn K (.ref C) "__setattr__"=some (some (.builtin "object.__setattr__"))
theorem Cls.get(c:Cls K C)(f:Str):PySem.W.plainGet K C f=true:=c.pg
def zF6(K:PySem.W.Frag)(C:Addr)(f:Str):Prop:=PySem.W.findIn K (.ref C) f=some none
theorem zF6.taker{f:Str}(n:zF6 K C f):PySem.W.takerIn K C f=some none:=by
 unfold PySem.W.takerIn;rw[show PySem.W.findIn K (.ref C) f=some none from n];rfl
structure Meth(K:PySem.W.Frag)(C:Addr)(m:Str)(f:Addr):Prop where
 at_:PySem.W.findIn K (.ref C) m=some (some (.ref f))
 fn:PySem.W.isFn K (.ref f)=true
 kp:PySem.W.keepIn K (.ref f)=true
section
variable{X:Cx}{pins:List (Addr×Obj)}{σ:St}{H:Hp}{s:Shared}{a C dx:Addr}{fs:List (Str×V)}{f:Str}{v:V}{A:Around}{E:Value->Shared->Prop}
theorem getattr_ok{b:Bool}{Q:Value->Shared->Prop}(I:Inv X pins σ H s)(e:H a=some (.ins C dx fs))(c:Cls X.K C)(n:zF6 X.K C f)(l:fs.lookup f=some v)
  (h:∀u s',Inv X pins σ H s'->RelV v u->Q u s'):wpAny (model X.prog X.w) A (getAttr (.ref a) f b) Q E s:=by
 obtain⟨mA,O,r,_,_,_⟩:=zGg I.hok e;obtain⟨u,hu,ru⟩:=RelO.some_of (v:=v) (o:=mA f) (by rw[<-l];exact r f);exact get_map I.kIn O (c.get f) c.hd n hu (handed_of ru) (h u _ (I.tok _) ru)
theorem zIy{m:Str}{g:Addr}{pl:Sem Bool}{Q:Value×List Value->Shared->Prop}(I:Inv X pins σ H s)(e:H a=some (.ins C dx fs))(c:Cls X.K C)(k:Meth X.K C m g)(l:fs.lookup m=none)
  (h:Q (.ref g,[.ref a]) s):wpAny (model X.prog X.w) A (getMethod (.ref a) m pl) Q E s:=by
 obtain⟨mA,O,r,_,_,_⟩:=zGg I.hok e;have hn:mA m=none:=RelO.none_of (by rw[<-l];exact r m);exact get_meth I.kIn O (c.get m) k.at_ k.fn hn h
theorem setattr_ok{Q:Unit->Shared->Prop}(I:Inv X pins σ H s)(e:H a=some (.ins C dx fs))(c:Cls X.K C)(n:zF6 X.K C f)(hl:fs.length<1000)(ry:RelV y u)
  (h:∀s',Inv X pins σ (upd H a (.ins C dx (putF f y fs))) s'->Q () s'):wpAny (model X.prog X.w) A (setAttr (.ref a) f u) Q E s:=by
 obtain⟨mA,O,r,wi,_,ho⟩:=zGg I.hok e;have hz:(fs.map (·.1)).length<=sizeLine:=by rw[qAD,qAI];lia
 refine set_map I.kIn O c.sa c.po n.taker c.hd wi hz λh' O' sb=>h _ ?_;have hd:∃o,h'.get? dx=some o:=let⟨o,_,_,e',_⟩:=O'.ns;⟨o,e'⟩;refine I.write (x:=a) (e:=dx) (by rw[e];exact True.intro) (.inr ho) (λb q hb z=>(sb.2 b hb).trans z) hd ?_;refine⟨by rw[upd_ne O.ne];exact ho,?_,O.ne,O'.obj,_,O'.ns,λg=>?_,λg hg=>?_⟩
 .have:=zHw f y fs;lia
 .show RelO ((putF f y fs).lookup g) (if g=f then some u else mA g);rw[zAy]
  by_cases q:g=f
  .rw [qAC q,qAC q];exact ry
  .rw [qAB q,qAB q];exact r g
 .by_cases q:g=f
  .rw [q];exact(zH0 f y fs).1
  .refine (zH0 f y fs).2 g (wi g λz=>hg ?_);show(if g=f then some u else mA g)=none;rw[qAB q];exact z
theorem Inv.made(I:Inv X pins σ H s):Inv X pins σ (upd (upd H s.heap.objs.size (.own (s.heap.objs.size+1))) (s.heap.objs.size+1) (.ins C s.heap.objs.size []))
  {s with heap:=(s.heap.push PySem.W.emptyDict).push (PySem.W.instObj C s.heap.objs.size)}:=by
 have e1:(s.heap.push PySem.W.emptyDict).get? s.heap.objs.size=some PySem.W.emptyDict:=qAX s.heap rfl
 have e2:((s.heap.push PySem.W.emptyDict).push (PySem.W.instObj C s.heap.objs.size)).get? (s.heap.objs.size+1)=some (PySem.W.instObj C s.heap.objs.size):=by
  have:=qAX (s.heap.push PySem.W.emptyDict) (o:=PySem.W.instObj C s.heap.objs.size) rfl
  rwa [qBE]at this
 have e3:(s.heap.push PySem.W.emptyDict).Ns s.heap.objs.size (λ_=>none):=⟨PySem.W.emptyDict,#[],_,e1,rfl,(λe he=>absurd he (by simp)),λ_=>rfl⟩;have I1:=I.laid (a:=s.heap.objs.size) (o:=.own (s.heap.objs.size+1)) (h':=s.heap.push PySem.W.emptyDict) (t':=s.toks) (λb u q=>qAG _ q) (qAF _) ⟨_,e1⟩;refine I1.laid (a:=s.heap.objs.size+1) (o:=.ins C s.heap.objs.size []) (t':=s.toks) (λb u q=>qAG _ q) (qB0 (qBE _ _)) ?_;have ne:s.heap.objs.size≠s.heap.objs.size+1:=qAO (qBS _);refine⟨by rw[upd_ne ne,upd_same],qAd _,ne,e2,λ_=>none,(Heap.Ns1.of_empty e3).at λo q=>qAG _ q,λ_=>True.intro,λy hy=>absurd rfl hy⟩
theorem attr_of{prog:Program}{env:Env}{f:Str}{Q:Value->Shared->Prop}(hb:attributeBase e f env (eval e env)=eval e env)
  (h:wpAny (model prog w) A (eval e env) (λo s₁=>wpAny (model prog w) A (getAttr o f true) Q E s₁) E s):wpAny (model prog w) A (eval (.Attribute e f pos) env) Q E s :=
 Attribute_any_ h (by rw[arm_eval_Attribute,hb])
end
def tFld(K:PySem.W.Frag)(ta:TE)(f:Str):TE:=λσ H Q=>ta σ H λx H1=>∃a C dx fs v,x= .ref a/\H1 a=some (.ins C dx fs)/\Cls K C/\zF6 K C f/\fs.lookup f=some v/\Q v H1
def sFld(K:PySem.W.Frag)(ta tv:TE)(f:Str):TS:=λD σ H=>tv σ H λy H1=>ta σ H1 λx H2=>∃a C dx fs,x= .ref a/\H2 a=some (.ins C dx fs)/\Cls K C/\zF6 K C f/\fs.length<1000 /\
 D.nx σ (upd H2 a (.ins C dx (putF f y fs)))
section
variable{X:Cx}{o e value:Expr}{f:Str}{pos pos' tpos:Pos}{ta tv:TE}
theorem zFp(he:PE X e ta)(hb:attributeBase e f X.env (eval e X.env)=eval e X.env):PE X (.Attribute e f pos) (tFld X.K ta f):=by
 intro pins s σ H Q I h;refine attr_of hb (thn (he pins s σ H _ I h) λu s1 ⟨x,H1,I1,rx,a,C,dx,fs,v,ex,ea,c,n,l,q⟩=>?_);subst ex;obtain rfl:u=Value.ref a:=rx;exact getattr_ok I1 ea c n l λu' s2 I2 ru=>⟨v,H1,I2,ru,q⟩
theorem ps_fld(ha:PE X o ta)(hv:PE X value tv)(hs:swapsWith value (some (.Attribute o f pos')) pos.line X.env=pure false):PS X (.Assign [.Attribute o f pos'] value pos) (sFld X.K ta tv f):=by
 intro pins s σ H D I h;refine plainObj_wpAny_Assign_Attribute (thn (hv pins s σ H _ I h) λu s1 ⟨y,H1,I1,ry,q⟩=>thn (ha pins s1 σ H1 _ I1 q) λov s2 ⟨x,H2,I2,rx,a,C,dx,fs,ex,ea,c,n,l,q2⟩=>?_) hs;subst ex;obtain rfl:ov=Value.ref a:=rx;exact setattr_ok I2 ea c n l ry λs3 I3=>⟨σ,_,I3,q2⟩
end
section
variable{X:Cx}{pins:List (Addr×Obj)}{σ:St}{H:Hp}{s:Shared}{A:Around}{E:Value->Shared->Prop}{Q:Value->Shared->Prop}{c:Value}{b:Bool}
inductive TyOf(K:PySem.W.Frag)(H:Hp):V->Value->Prop where
 |non:TyOf K H .non (.type "NoneType")
 |bl (x:Bool):TyOf K H (.bl x) (.type "bool")
 |int (i:Int):TyOf K H (.int i) (.type "int")
 |str (x:Str):TyOf K H (.str x) (.type "str")
 |flt (x:UInt64):TyOf K H (.flt x) (.type "float")
 |lst {a:Addr} {xs:List V} (e:H a=some (.lst xs)):TyOf K H (.ref a) (.type "list")
 |frz {a:Addr} {o:Obj} {xs:List V} (e:H a=some (.frz o (.lst xs))):TyOf K H (.ref a) (.type "list")
 |tup {a:Addr} {xs:List V} (e:H a=some (.tup xs)):TyOf K H (.ref a) (.type "tuple")
 |dK {a:Addr} {kvs:List (Key×V)} (e:H a=some (.dK kvs)):TyOf K H (.ref a) (.type "dict")
 |dT {a:Addr} {kvs:List (List Key×V)} (e:H a=some (.dT kvs)):TyOf K H (.ref a) (.type "dict")
 |ins {a C dx:Addr} {fs:List (Str×V)} (e:H a=some (.ins C dx fs)) (cl:Cls K C) (ha:PySem.W.findIn K (.ref C) "__class__"=some (some (.builtin "object.__class__")))
   (hn:PySem.W.specialIn K (.builtin "object.__class__") "__get__"=some (some (.builtin "getset_descriptor.__get__"))) (htk:PySem.W.takesIn K (.builtin "object.__class__")=some true)
   (hm:PySem.W.mroIn K C (.type "object")=some true):TyOf K H (.ref a) (.ref C)
theorem isinst_ok{x:V}{t:Value}(I:Inv X pins σ H s)(rx:RelV x u)(ty:TyOf X.K H x t)(e:PySem.W.kitOne X.K t c=some b)(h:∀tk,Q (.bool b) {s with toks:=tk}) :
  wpAny (model X.prog X.w) A (call (.builtin "isinstance") [u,c]) Q E s:=by
 cases ty with
 |non=>cases (show u=Value.none from rx);exact qBT PySem.W.kitx_none I.kIn True.intro e (λz=>nomatch z) h
 |bl y=>cases (show u=Value.bool y from rx);exact qBT PySem.W.kitx_bool I.kIn True.intro e (λz=>nomatch z) h
 |int i=>obtain⟨t,q⟩:=(show∃t,u=Value.int i t from rx);cases q;exact qBT PySem.W.kitx_int I.kIn True.intro e (λz=>nomatch z) h
 |str y=>obtain⟨t,q⟩:=(show∃t,u=Value.str y t from rx);cases q;exact qBT PySem.W.kitx_str I.kIn True.intro e (λz=>nomatch z) h
 |flt y=>obtain⟨t,q⟩:=(show∃t,u=Value.float y t from rx);cases q;exact qBT PySem.W.kitx_float I.kIn True.intro e (λz=>nomatch z) h
 |@lst a xs ea=>
  cases (show u=Value.ref a from rx)
  obtain⟨_,_,n,_,h1⟩:=(show zA0 X.prog X.w H s.heap a (.lst xs)from I.hok a _ ea);exact qBT PySem.W.kitx_list I.kIn ⟨_,h1,rfl⟩ e (λz=>nomatch z) h
 |@frz a ob xs ea=>
  cases (show u=Value.ref a from rx)
  obtain⟨_,_,_,n,_,h1⟩:=(show zA0 X.prog X.w H s.heap a (.frz ob (.lst xs))from I.hok a _ ea);exact qBT PySem.W.kitx_list I.kIn ⟨_,h1,rfl⟩ e (λz=>nomatch z) h
 |@tup a xs ea=>
  cases (show u=Value.ref a from rx)
  obtain⟨_,_,_,p⟩:=(show zA0 X.prog X.w H s.heap a (.tup xs)from I.hok a _ ea);obtain⟨o,h1,h2,_⟩:=p;exact qBT PySem.W.kitx_tuple I.kIn ⟨o,h1,h2⟩ e (λz=>nomatch z) h
 |@dK a kvs ea=>
  cases (show u=Value.ref a from rx)
  obtain⟨_,_,vs,_,p⟩:=(show zA0 X.prog X.w H s.heap a (.dK kvs)from I.hok a _ ea);obtain⟨o,es,ep,h1,h2,_⟩:=p;exact qBT PySem.W.kitx_dict I.kIn ⟨o,h1,h2.1⟩ e (λz=>nomatch z) h
 |@dT a kvs ea=>
  cases (show u=Value.ref a from rx)
  obtain⟨_,_,xs,_,o,es,ep,h1,h2,_⟩:=(show zA0 X.prog X.w H s.heap a (.dT kvs)from I.hok a _ ea);exact qBT PySem.W.kitx_dict I.kIn ⟨o,h1,h2.1⟩ e (λz=>nomatch z) h
 |@ins a C dx fs ea cl ha hn htk hm=>
  cases (show u=Value.ref a from rx)
  obtain⟨mA,O,_⟩:=zGg I.hok ea;obtain⟨od,J,_⟩:=O.look;exact qBT (PySem.W.kitx_own (cl.get _) cl.hd ha hn htk hm) I.kIn J e (λz=>nomatch z) h
end
structure Room(k:Nat)(A:Around):Prop where
 hd:A.handled=none
 dp:A.depth+3*k+5<recursionLimit
 un:A.units+16*k+200<cLine
 gd:A.guards=some []
theorem Room.mono{j k:Nat}(r:Room k A)(h:j<=k):Room j A:=⟨r.hd,by have:=r.dp;lia,by have:=r.un;lia,r.gd⟩
theorem Room.deeper{k:Nat}(r:Room (k+1) A)(env:Env):Room k (A.deeper env) :=
 ⟨r.hd,by have:=r.dp;show A.depth+1+3*k+5<_;lia,by have:=r.un;show A.units+3+16*k+200<_;lia,r.gd⟩
theorem Room.in1{k:Nat}(r:Room (k+1) A):Room k A.in1 :=
 ⟨r.hd,by have:=r.dp;show A.depth+3*k+5<_;lia,by have:=r.un;show A.units+1+16*k+200<_;lia,r.gd⟩
theorem make_depth{kw:List (Str×Value)}:(A.under (.builtin "type.__call__" ⟨.ref C::us,kw⟩)).depth=A.depth+1:=by
 first|rfl|simp[Around.under,Code.weight,Code.isCreation,Code.isGuard,Code.isCaller,Code.frames,Code.isFrame,guardIds]
theorem make_units{kw:List (Str×Value)}:(A.under (.builtin "type.__call__" ⟨.ref C::us,kw⟩)).units=A.units+1:=by
 first|rfl|simp[Around.under,Code.cUnits,Code.frames,Code.isFrame]
theorem Room.make{k:Nat}(r:Room (k+1) A)(C:Addr)(us:List Value)(kw:List (Str×Value)):Room k (A.under (.builtin "type.__call__" ⟨.ref C::us,kw⟩)) :=
 ⟨r.hd,by have:=r.dp;rw[make_depth];lia,by have:=r.un;rw[make_units];lia,(by unfold Around.under;dsimp only;rw[r.gd];rfl)⟩
theorem Room.depth{k:Nat}(r:Room k A):A.depth<recursionLimit:=by have:=r.dp;lia
theorem Room.units{k:Nat}(r:Room k A):A.units+64<cLine:=by have:=r.un;lia
def tNil:TA:=λ_ H Q=>Q [] H
def tCons(ta:TE)(tr:TA):TA:=λσ H Q=>ta σ H λx H1=>tr σ H1 λxs H2=>Q (x::xs) H2
section
variable{X:Cx}{e:Expr}{es:List Expr}{te:TE}{t:TA}{pos:Pos}
theorem zAc:PA X [] tNil:=λ_ _ _ _ H Q I h=>Calls.spliced_nil ⟨[],H,I,.nil,h⟩
theorem zAa(ha:PE X e te)(hr:PA X es t)(hs:starEach (e::es) X.env=(false,eval e X.env)::starEach es X.env:=by rfl):PA X (e::es) (tCons te t):=by
 intro pos pins s σ H Q I h;rw[hs];show wpAny _ _ (spliced ((false,eval e X.env)::backTo pos (starEach es X.env))) _ _ s;refine Calls.spliced_cons (thn (ha pins s σ H _ I h) λu s1 ⟨x,H1,I1,r1,q1⟩=>?_);exact thn (hr pos pins s1 σ H1 _ I1 q1) λus s2 ⟨xs,H2,I2,r2,q2⟩=>⟨x::xs,H2,I2,.cons r1 r2,q2⟩
def tTup(t:TA):TE:=λσ H Q=>t σ H λxs H1=>xs.length<=sizeLine/\∀p,H1 p=none->Q (.ref p) (upd H1 p (.tup xs))
def tLst(t:TA):TE:=λσ H Q=>t σ H λxs H1=>xs.length<=sizeLine/\∀p,H1 p=none->Q (.ref p) (upd H1 p (.lst xs))
theorem zGo{x1}(h:PA X es t):PE X (.Tuple es x1 pos) (tTup t):=by
 intro pins s σ H Q I hq;refine wpAny_Tuple_spliced (thn (h pos pins s σ H _ I hq) λus s1 ⟨xs,H1,I1,r,z,q⟩=>⟨by rw[<-r.length];exact z,?_⟩);have hf:H1 s1.heap.objs.size=none:=I1.hok.fresh (qAF _);refine⟨.ref s1.heap.objs.size,upd H1 s1.heap.objs.size (.tup xs),I1.laid (t':=s1.toks) (λb u e=>qAG _ e) (qAF _) ?_,rfl,q _ hf⟩;exact⟨z,us,r,⟨_,qAX _ rfl,rfl,_,rfl⟩⟩
theorem zBv(h:PA X es t):PE X (.List es pos) (tLst t):=by
 intro pins s σ H Q I hq;refine wpAny_List_spliced (thn (h pos pins s σ H _ I hq) λus s1 ⟨xs,H1,I1,r,z,q⟩=>⟨by rw[<-r.length];exact z,?_⟩);have hf:H1 s1.heap.objs.size=none:=I1.hok.fresh (qAF _);refine⟨.ref s1.heap.objs.size,upd H1 s1.heap.objs.size (.lst xs),I1.laid (t':=s1.toks) (λb u e=>qAG _ e) (qAF _) ?_,rfl,q _ hf⟩;exact⟨z,us,0,r,qAX _ rfl⟩
end
abbrev Sp:=List V->Hp->VK->XK->Prop
abbrev CXT:=List Env->Hp->Shared->XK->Value->Shared->Prop
structure Env0(P:Program)(w:World)(K:PySem.W.Frag)(mg:Str->Option Value)(base:Heap)(A:Around)(outer:List Env)(s:Shared)(H:Hp):Prop where
 frames:A.frames=some outer
 mod:Mod K mg base
 bs:∀b o,base.get? b=some o->s.heap.get? b=some o/\H b=none
 bsz:base.objs.size<=s.heap.objs.size
 funs:s.heap.FunFrames base outer
 frf:∀b∈frs outer,H b=none
 hok:HOk P w H s.heap
 bare:AllBare s.gens
def CE(outer:List Env)(P:Program)(w:World)(H:Hp)(s:Shared)(Q:VK)(u:Value)(s':Shared):Prop :=
 ∃v H',s'.os=s.os/\AllBare s'.gens/\Un (frs outer) [] H H' s.heap s'.heap/\HOk P w H' s'.heap/\RelV v u/\Q v H'
def CR(CX:CXT)(outer:List Env)(P:Program)(w:World)(H:Hp)(s:Shared)(Q:VK)(E:XK)(r:Result)(s':Shared):Prop :=
 match r with
 | .ok (.ret u)=>CE outer P w H s Q u s'
 | .ok _=>False
 | .error e=>CX outer H s E e s'
structure FnOk(P:Program)(w:World)(K:PySem.W.Frag)(mg:Str->Option Value)(base:Heap)(CX:CXT)(k:Nat)(f:Addr)(fd:FuncData)(ps:List Str)(sp:Sp):Prop where
 len:∀vs H Q E,sp vs H Q E->vs.length=ps.length
 run:∀(A:Around)(outer:List Env)(s:Shared)(H:Hp)(args:Args)(us:List Value)(vs:List V)(Q:VK)(E:XK),Room k A->Env0 P w K mg base A outer s H->BindsTo s fd args (ps.zip us)->Vals vs us->sp vs H Q E ->
  codeAny (model P w) A (.call (.ref f) args) (CR CX outer P w H s Q E) s
theorem Env0.make{mg:Str->Option Value}{outer:List Env}(e:Env0 P w K mg base A outer s H)(C:Addr)(us:List Value)(kw:List (Str×Value)) :
  Env0 P w K mg base (A.under (.builtin "type.__call__" ⟨.ref C::us,kw⟩)) outer s H:=⟨by first|exact e.frames|(simpa[Around.under,Code.envs,Code.isFrame,pushEnvs]using e.frames),e.mod,e.bs,e.bsz,e.funs,e.frf,e.hok,e.bare⟩
section
variable{X:Cx}{pins:List (Addr×Obj)}{σ:St}{H:Hp}{s s':Shared}
theorem Inv.env0(I:Inv X pins σ H s):Env0 X.prog X.w X.K X.mg X.base X.A X.stack s H :=
 ⟨I.ok.frames,I.ok.mod,I.bs,qAL I.ok.bsz I.sz,I.stack,I.stkFree,I.hok,I.bare⟩
theorem Inv.after{Q:VK}(I:Inv X pins σ H s)(h:CE X.stack X.prog X.w H s Q u s'):EP X pins σ Q u s':=by
 obtain⟨v,H',os,bare,un,hok,r,q⟩:=h;obtain⟨hh,g,d,t,os'⟩:=s';obtain rfl:os'=s.os:=os;exact⟨v,H',I.call (h':=hh) (g':=g) (d':=d) (t':=t) (ch:=[]) un hok bare (λb z=>absurd z (by simp)),r,q⟩
end
def tCall(sp:Sp)(dvs:List V)(E:XK)(t:TA):TE:=λσ H Q=>t σ H λvs H1=>sp (vs++dvs) H1 Q E
def tMeth(C:Addr)(m:Str)(sp:Sp)(dvs:List V)(E:XK)(ta:TE)(t:TA):TE:=λσ H Q=>ta σ H λx H1=>∃a dx fs,x= .ref a/\H1 a=some (.ins C dx fs)/\fs.lookup m=none /\
 t σ H1 λvs H2=>sp (x::(vs++dvs)) H2 Q E
def tMake(C:Addr)(sp:Sp)(dvs:List V)(E:XK)(t:TA):TE:=λσ H Q=>t σ H λvs H1=>∀x dx,H1 x=none->H1 dx=none->dx≠x ->
 sp (.ref x::(vs++dvs)) (upd (upd H1 dx (.own x)) x (.ins C dx [])) (λv H2=>v= .non/\Q (.ref x) H2) E
def zD7(K:PySem.W.Frag)(fd:FuncData)(ps:List Str)(ds:List Value):Prop :=
 ∀(s:Shared)(us:List Value),K.In s.heap->(us++ds).length=ps.length->BindsTo s fd ⟨us,[]⟩ (ps.zip (us++ds))
theorem zD7.all{fd:FuncData}{ps:List Str}(h:∀us:List Value,us.length=ps.length->bindArgs fd ⟨us,[]⟩=pure (ps.zip us)):zD7 K fd ps []:=λs us _ hl=>by
 rw[qA9]at hl ⊢;exact .of_eq (h us hl)
def zH8(CX:CXT)(X:Cx)(E:XK):Prop:=∀(pins:List (Addr×Obj)) (σ:St) (H:Hp) (s:Shared) (e:Value) (s':Shared),Inv X pins σ H s->CX X.stack H s E e s'->X.xe e s'
section
variable{X:Cx}{CX:CXT}{k:Nat}{f C:Addr}{fd:FuncData}{ps:List Str}{sp:Sp}{dvs:List V}{ds:List Value}{E:XK}{x m:Str}{p pos apos:Pos}{e o:Expr}{es:List Expr}{ta:TE}{t:TA}
theorem run_fn{Q:VK}{us:List Value}{vs:List V}(F:FnOk X.prog X.w X.K X.mg X.base CX k f fd ps sp)(hr:Room k X.A)(hb:zD7 X.K fd ps ds)(hd:Vals dvs ds)(hx:zH8 CX X E)
  (I:Inv X pins σ H s) (r:Vals vs us) (h:sp (vs++dvs) H Q E):wpAny (model X.prog X.w) X.A (call (.ref f) us) (EP X pins σ Q) X.xe s:=by
 have r2:Vals (vs++dvs) (us++ds):=r.append hd;have hl:(us++ds).length=ps.length:=by rw[<-r2.length];exact F.len _ _ _ _ h
 refine qBh (qBi (F.run X.A X.stack s H ⟨us,[]⟩ (us++ds) (vs++dvs) Q E hr I.env0 (hb s us I.kIn hl) r2 h) λr s' hq=>?_)
 cases r with
 |error e=>exact hx pins σ H s e s' I hq
 |ok fl=>
  cases fl with
  |ret u=>exact I.after hq
  |next=>exact False.elim hq
  |brk=>exact False.elim hq
  |cont=>exact False.elim hq
theorem pe_call(F:FnOk X.prog X.w X.K X.mg X.base CX k f fd ps sp)(hr:Room k X.A)(hg:Gl X x)(hm:X.mg x=some (.ref f))(hk:PySem.W.keepIn X.K (.ref f)=true)(hb:zD7 X.K fd ps ds)(hd:Vals dvs ds)(hx:zH8 CX X E)
  (ha:PA X (e::es) t) (hdb:(x==("__debug__": Str))=false:=by decide) (he:starEach (e::es) X.env=(false,eval e X.env)::starEach es X.env:=by rfl) (hpl:(backTo pos (starEach es X.env)).any (·.1)=false:=by rfl) :
  PE X (.Call (.Name x p) (e::es) [] pos) (tCall sp dvs E t):=by
 intro pins s σ H Q I h;refine qCL (ld_glob I hg hm ?_ hdb);refine PySem.W.callWith_K (h₀:=X.base) I.ok.mod.kin hk (thn (ha pos pins s σ H _ I h) λus s1 ⟨vs,H1,I1,r,q⟩=>⟨I1.kIn,?_⟩) he hpl;exact run_fn F hr hb hd hx I1 r q
theorem pe_meth{pl:Sem Bool}(he:PE X o ta)(c:Cls X.K C)(hm:Meth X.K C m f)(F:FnOk X.prog X.w X.K X.mg X.base CX k f fd ps sp)(hr:Room k X.A)(hb:zD7 X.K fd ps ds)(hd:Vals dvs ds)(hx:zH8 CX X E)(ha:PA X (e::es) t)
  (hst:starEach (e::es) X.env=(false,eval e X.env)::starEach es X.env:=by rfl) (hpl:(backTo pos (starEach es X.env)).any (·.1)=false:=by rfl)
  (ht:eval (.Call (.Attribute o m apos) (e::es) [] pos) X.env=(do
   let ov<-eval o X.env
   standAt apos.atName
   let(f,first)<-holding [ov] (getMethod ov m pl)
   callWith pos f first (backTo pos (starEach (e::es) X.env)) (backToKw pos (keywordEach [] X.env))):=by rfl) :
  PE X (.Call (.Attribute o m apos) (e::es) [] pos) (tMeth C m sp dvs E ta t):=by
 intro pins s σ H Q I h;refine PySem.W.methodCall_KW (pl:=pl) (thn (he pins s σ H _ I h) λu s1 ⟨x,H1,I1,rx,a,dx,fs,ex,ea,l,q⟩=>?_) ht;subst ex;obtain rfl:u=Value.ref a:=rx;refine zIy I1 ea c hm l ?_;refine PySem.W.callWith_K (first:=[.ref a]) (h₀:=X.base) I.ok.mod.kin hm.kp (thn (ha pos pins s1 σ H1 _ I1 q) λus s2 ⟨vs,H2,I2,r,q2⟩=>⟨I2.kIn,?_⟩) hst hpl;exact run_fn (us:=.ref a::us) (vs:=.ref a::vs) F hr hb hd hx I2 (.cons rfl r) q2
theorem pe_meth0{pl:Sem Bool}(he:PE X o ta)(c:Cls X.K C)(hm:Meth X.K C m f)(F:FnOk X.prog X.w X.K X.mg X.base CX k f fd ps sp)(hr:Room k X.A)(hb:zD7 X.K fd ps ds)(hd:Vals dvs ds)(hx:zH8 CX X E)
  (ht:eval (.Call (.Attribute o m apos) [] [] pos) X.env=(do
   let ov<-eval o X.env
   standAt apos.atName
   let(f,first)<-holding [ov] (getMethod ov m pl)
   callWith pos f first (backTo pos (starEach [] X.env)) (backToKw pos (keywordEach [] X.env))):=by rfl) :
  PE X (.Call (.Attribute o m apos) [] [] pos) (tMeth C m sp dvs E ta tNil):=by
 intro pins s σ H Q I h;refine PySem.W.methodCall_KW (pl:=pl) (thn (he pins s σ H _ I h) λu s1 ⟨x,H1,I1,rx,a,dx,fs,ex,ea,l,q⟩=>?_) ht;subst ex;obtain rfl:u=Value.ref a:=rx;refine zIy I1 ea c hm l ?_;exact PySem.W.callWith_K0 (first:=[.ref a]) I1.kIn hm.kp (run_fn (us:=[.ref a]) (vs:=[.ref a]) F hr hb hd hx I1 (.cons rfl .nil) q)
structure Mk(K:PySem.W.Frag)(C f:Addr):Prop where
 makes:PySem.W.makesIn K C=true
 init:PySem.W.findIn K (.ref C) "__init__"=some (some (.ref f))
 fn:PySem.W.isFn K (.ref f)=true
 kp:PySem.W.keepIn K (.ref C)=true
theorem run_make{Q:VK}{vs:List V}(M:Mk X.K C f)(F:FnOk X.prog X.w X.K X.mg X.base CX k f fd ps sp)(hr:Room (k+1) X.A)(hb:zD7 X.K fd ps ds)(hd:Vals dvs ds)
  (hx:zH8 CX X E) (I:Inv X pins σ H s) (r:Vals vs us)
  (h:∀x dx,H x=none->H dx=none->dx≠x->sp (.ref x::(vs++dvs)) (upd (upd H dx (.own x)) x (.ins C dx [])) (λv H2=>v= .non/\Q (.ref x) H2) E) :
  wpAny (model X.prog X.w) X.A (call (.ref C) us) (EP X pins σ Q) X.xe s:=by
 have hq:=h (s.heap.objs.size+1) s.heap.objs.size (I.hok.fresh (qBq _)) (I.hok.fresh (qAF _)) (qAO (qBS _));have I2:=Inv.made (C:=C) I;have r2:Vals (V.ref (s.heap.objs.size+1)::(vs++dvs)) (Value.ref (s.heap.objs.size+1)::(us++ds)):=.cons rfl (r.append hd)
 have hl:(Value.ref (s.heap.objs.size+1)::us++ds).length=ps.length:=by
  have e:=r2.length;rw[F.len _ _ _ _ hq]at e;exact e.symm
 refine qBh (make_map (f:=f) I.kIn M.makes M.init (qCd.mp M.fn) (qBi (F.run _ X.stack _ _ ⟨Value.ref (s.heap.objs.size+1)::us,[]⟩ (Value.ref (s.heap.objs.size+1)::(us++ds)) _ _ E (hr.make C us []) (I2.env0.make C us []) (hb _ (Value.ref (s.heap.objs.size+1)::us) I2.kIn hl) r2 hq) λr s' hq'=>?_))
 cases r with
 |error e=>exact hx pins σ _ _ e s' I2 hq'
 |ok fl=>
  cases fl with
  |ret u=>
   obtain⟨v,H',I3,rv,ev,q3⟩:=I2.after hq';subst ev;exact⟨rv,⟨V.ref (s.heap.objs.size+1),H',I3,rfl,q3⟩⟩
  |next=>exact False.elim hq'
  |brk=>exact False.elim hq'
  |cont=>exact False.elim hq'
theorem pe_make(M:Mk X.K C f)(F:FnOk X.prog X.w X.K X.mg X.base CX k f fd ps sp)(hr:Room (k+1) X.A)(hg:Gl X x)(hm:X.mg x=some (.ref C))(hb:zD7 X.K fd ps ds)(hd:Vals dvs ds)(hx:zH8 CX X E)
  (ha:PA X (e::es) t) (hdb:(x==("__debug__": Str))=false:=by decide) (he:starEach (e::es) X.env=(false,eval e X.env)::starEach es X.env:=by rfl) (hpl:(backTo pos (starEach es X.env)).any (·.1)=false:=by rfl) :
  PE X (.Call (.Name x p) (e::es) [] pos) (tMake C sp dvs E t):=by
 intro pins s σ H Q I h;refine qCL (ld_glob I hg hm ?_ hdb);refine PySem.W.callWith_K (h₀:=X.base) I.ok.mod.kin M.kp (thn (ha pos pins s σ H _ I h) λus s1 ⟨vs,H1,I1,r,q⟩=>⟨I1.kIn,?_⟩) he hpl;exact run_make M F hr hb hd hx I1 r q
end
def PK(X:Cx)(kws:List Keyword)(t:TA):Prop :=
 ∀(pos:Pos) (pins:List (Addr×Obj)) (s:Shared) (σ:St) (H:Hp) (Q:List V->Hp->Prop),Inv X pins σ H s->t σ H Q->wpAny (model X.prog X.w) X.A (evalAll ((backToKw pos (keywordEach kws X.env)).map (·.2))) (AP X pins σ Q) X.xe s
section
variable{X:Cx}{CX:CXT}{k:Nat}{f C:Addr}{fd:FuncData}{ps ks:List Str}{sp:Sp}{E:XK}{x m:Str}{p pos apos kpos:Pos}{e o:Expr}{es:List Expr}{kws:List Keyword}{te ta:TE}{t tk:TA}{nm:Option Str}
theorem pk_nil:PK X [] tNil:=λ_ _ _ _ H Q I h=>wpAny_evalAll_nil ⟨[],H,I,.nil,h⟩
theorem pk_cons(ha:PE X e te)(hr:PK X kws t):PK X (⟨nm,e,kpos⟩::kws) (tCons te t):=by
 intro pos pins s σ H Q I h;show wpAny _ _ (evalAll ((do let v<-eval e X.env;standAt pos;pure v)::(backToKw pos (keywordEach kws X.env)).map (·.2))) _ _ s;refine wpAny_evalAll_cons (qAA (thn (ha pins s σ H _ I h) λu s1 ⟨x,H1,I1,r1,q1⟩=>qAA (qCK (qAE ?_))));exact thn (hr pos pins s1 σ H1 _ I1 q1) λus s2 ⟨xs,H2,I2,r2,q2⟩=>⟨x::xs,H2,I2,.cons r1 r2,q2⟩
variable{g:List Value->List Value->List Value}{gV:List V->List V->List V}
end
structure FnScope(N P:List Str)(sc:Scope):Prop where
 kind:sc.kind= .function
 co:sc.isCoroutine=false
 gen:sc.isGenerator=false
 nd:N.Nodup
 pre:N.take P.length=P
 par:∀x∈P,sc.names.lookup x=some .local\/sc.names.lookup x=some .cell
 nofree:∀y∈sc.names,y.2≠.free
theorem bindL_out{kindOf:Str->Option NameKind} :∀{binds:List (Str×Value)} {m:Str->Option Value},(∀v,(x,v)∉binds)->bindL kindOf binds m x=m x
 |[],_,_=>rfl
 |(n,v)::r,m,h=>by
  unfold bindL;rw[bindL_out λw hw=>h w (qAU _ hw)];split
  .have:x≠n:=by rintro rfl;exact h v qAY
   simp[this]
  .rfl
theorem bindC_out{kindOf:Str->Option NameKind} :∀{binds:List (Str×Value)} {m:Str->Option Value},(∀v,(x,v)∉binds)->bindC kindOf binds m x=m x
 |[],_,_=>rfl
 |(n,v)::r,m,h=>by
  unfold bindC;rw[bindC_out λw hw=>h w (qAU _ hw)];split
  .rfl
  .have:x≠n:=by rintro rfl;exact h v qAY
   simp[this]
theorem bindL_get{kindOf:Str->Option NameKind}{v:Value}:∀{P:List Str}{vs:List Value}{i:Nat}{m:Str->Option Value},P.Nodup->P[i]?=some x->vs[i]?=some v->kindOf x=some .local ->
  bindL kindOf (P.zip vs) m x=some v
 |[],_,_,_,_,h,_,_=>by simp at h
 |_::_,[],_,_,_,_,h,_=>by simp at h
 |p::P,w::vs,0,m,nd,h1,h2,hk=>by
  simp at h1 h2;subst h1;subst h2;show bindL kindOf ((p,w)::P.zip vs) m p=_;unfold bindL;rw[bindL_out λv hv=>(qA0.mp nd).1 (List.of_mem_zip hv).1,qAC hk];simp
 |p::P,w::vs,i+1,m,nd,h1,h2,hk=>by
  show bindL kindOf ((p,w)::P.zip vs) m x=_;unfold bindL;exact bindL_get (i:=i) (qA0.mp nd).2 (by simpa using h1) (by simpa using h2) hk
theorem bindC_get{kindOf:Str->Option NameKind}{v:Value}:∀{P:List Str}{vs:List Value}{i:Nat}{m:Str->Option Value},P.Nodup->P[i]?=some x->vs[i]?=some v->kindOf x≠some .local ->
  bindC kindOf (P.zip vs) m x=some v
 |[],_,_,_,_,h,_,_=>by simp at h
 |_::_,[],_,_,_,_,h,_=>by simp at h
 |p::P,w::vs,0,m,nd,h1,h2,hk=>by
  simp at h1 h2;subst h1;subst h2;show bindC kindOf ((p,w)::P.zip vs) m p=_;unfold bindC;rw[bindC_out λv hv=>(qA0.mp nd).1 (List.of_mem_zip hv).1,qAB hk];simp
 |p::P,w::vs,i+1,m,nd,h1,h2,hk=>by
  show bindC kindOf ((p,w)::P.zip vs) m x=_;unfold bindC;exact bindC_get (i:=i) (qA0.mp nd).2 (by simpa using h1) (by simpa using h2) hk
def start(N:List Str)(vs:List V):St:=vs.map some++List.replicate (N.length-vs.length) none
def cxOf(CX:CXT)(P:Program)(w:World)(K:PySem.W.Frag)(mg:Str->Option Value)(base:Heap)(N:List Str)(qual:Str)(scope:Scope)(f:Addr)(cd:Value)(A:Around)(outer:List Env)(s:Shared)(H:Hp)(E:XK):Cx where
 prog:=P
 w:=w
 K:=K
 mg:=mg
 base:=base
 A:=A.deeper (envOfC qual scope s.heap.objs.size f cd)
 N:=N
 s₀:=s
 H₀:=H
 env:=envOfC qual scope s.heap.objs.size f cd
 outer:=outer
 stack:=envOfC qual scope s.heap.objs.size f cd::outer
 ex:=[]
 calm:=true
 fn:=λ_=>true
 pn:=[]
 xe:=λe s'=>wpAny (model P w) (A.deeper (envOfC qual scope s.heap.objs.size f cd)) (leaving (envOfC qual scope s.heap.objs.size f cd) e) (λ_ s''=>CX outer H s E e s'') (λe' s''=>CX outer H s E e' s'') s'
theorem cell_has{sc:Scope}{n:Nat}(h:sc.names.lookup x=some .cell):∃c,(cellsFrom n sc.names []).lookup x=some c:=by
 have q:=qDp sc.names n [] (.inl h);exact qDq.mp q
theorem inv_start{CX:CXT}{mg:Str->Option Value}{N ps:List Str}{qual:Str}{scope:Scope}{f:Addr}{cd:Value}{outer:List Env}{s1:Shared}{E:XK}{vs:List V}
  (S:FnScope N ps scope) (hd:A.handled=none) (e0:Env0 P w K mg base A outer s H) (hl:vs.length=ps.length) (r:Vals vs us)
  (x:InCallC s s.heap.objs.size (bindL (envOfC qual scope s.heap.objs.size f cd).kindOf (ps.zip us) λ_=>none) (cellsFrom (s.heap.objs.size+1) scope.names []) (bindC (envOfC qual scope s.heap.objs.size f cd).kindOf (ps.zip us) λ_=>none) s1) :
  Inv (cxOf CX P w K mg base N qual scope f cd A outer s H E) [] (start N vs) H s1:=by
 have hpl:ps.length<=N.length:=by have:=qAm List.length S.pre;rw[qAR]at this;lia
 obtain⟨h1,tk,rfl,hk⟩:=x.done;have noA:∀b:Addr,b∉(cxOf CX P w K mg base N qual scope f cd A outer s H E).ex:=λb z=>absurd (show b∈([]:List Addr)from z) (by simp)
 refine⟨⟨e0.mod,S.kind,rfl,rfl,qAF _,λy z c h1 h2=>?_,λy hy=>?_,λy c _ h=>?_,λ_=>hd,Around.frames_deeper e0.frames,.inr ⟨rfl,rfl⟩,λb z=>absurd z (noA b),e0.bs,e0.bsz,λb _ _=>noA b,λb z=>absurd z (noA b),e0.funs,e0.frf⟩,rfl,e0.bare,Un.kept hk,⟨_,x.toInCall.ns,λi y v h1 h2 h3=>?_⟩,λy c h=>⟨_,x.cell y c h⟩,e0.hok.fresh (qAF _),λy c h=>?_,λp hp=>absurd (show p∈([]:List (Addr×Obj))from hp) (by simp),e0.hok.kept hk,?_⟩
 .exact name_of_addr x.apart (qBr h1) (qBr h2)
 .have hy:scope.names.lookup y=some .cell\/scope.names.lookup y=some .free:=hy;rcases hy with hy|hy
  .exact cell_has hy
  .exact absurd rfl (S.nofree _ (qBr hy))
 .exact qCI (x.above y c (qBr h))
 .have hi:i<vs.length:=by
   unfold start at h2
   by_cases hi:i<vs.length
   .exact hi
   .rw [qB1 (by simpa using hi)]at h2;rw[List.getElem?_replicate]at h2;split at h2<;>cases h2
  have ha:vs[i]?=some v:=by
   unfold start at h2;rw[qBs (by simpa using hi),qAZ]at h2
   cases e:vs[i]? with
   |none=>rw[e]at h2;cases h2
   |some a=>rw[e]at h2;cases h2;rfl
  obtain⟨u,hu,rv⟩:=r.get ha
  have hp:ps[i]?=some y:=by
   rw[<-S.pre,qCe (by lia)];exact h1
  have ndP:ps.Nodup:=by rw[<-S.pre];exact S.nd.sublist (qCf _ _)
  refine⟨u,rv,?_⟩;rcases S.par y (qAJ hp)with k|k
  .exact .inl ⟨k,bindL_get ndP hp hu k⟩
  .obtain ⟨c,e⟩:=cell_has (n:=s.heap.objs.size+1) k;refine .inr ⟨.inl k,c,e,?_⟩;have q:=x.cell y c e;rw[bindC_get ndP hp hu (by show scope.names.lookup y≠_;rw[k];decide)]at q;exact q
 .exact e0.hok.fresh (qCI (x.above y c (qBr h)))
 .unfold start;show _=N.length;rw[qAl,qAD,qDr];lia
theorem fn_of{CX:CXT}{mg:Str->Option Value}{k:Nat}{f:Addr}{name qual:Str}{params:Arguments}{body:List Stmt}{scope:Scope}{dV kV doc pm cdv ct oc:Value}{an od:Option Addr}
  {osl:Array (Option Value)} {N ps:List Str} {sp:Sp} (lk:K.lookup f=some ⟨oc,od,.func (PySem.W.fnOf name qual params body scope dV kV doc pm an cdv ct),osl⟩) (hcd:PySem.W.codeIn K cdv qual=true) (S:FnScope N ps scope)
  (len:∀vs H Q E,sp vs H Q E->vs.length=ps.length)
  (hbody:∀(A:Around) (outer:List Env) (s:Shared) (H:Hp) (vs:List V) (Q:VK) (E:XK),Room k (A.deeper (envOfC qual scope s.heap.objs.size f cdv))->sp vs H Q E ->
   ∃t,PSs (cxOf CX P w K mg base N qual scope f cdv A outer s H E) body t/\t {nx:=λ_ H'=>Q .non H',rt:=Q} (start N vs) H) :
  FnOk P w K mg base CX (k+1) f (PySem.W.fnOf name qual params body scope dV kV doc pm an cdv ct) ps sp:=by
 refine⟨len,λA outer s H args us vs Q E hr e0 hb r hsp=>?_⟩;have hl:=len _ _ _ _ hsp;have KX:K.In s.heap:=e0.mod.kin.keeps λb o e=>(e0.bs b o e).1;have lim:s.heap.NoLimit:=e0.mod.nolimit.keeps λb o e=>(e0.bs b o e).1
 have hkind:∀y∈ps.zip us,scope.names.lookup y.1=some .local\/(scope.names.lookup y.1=some .cell/\((cellsFrom (s.heap.objs.size+1) scope.names []).lookup y.1).isSome=true):=λ⟨n,v⟩ hy=>by
  rcases S.par n (List.of_mem_zip hy).1 with q|q
  .exact .inl q
  .exact .inr ⟨q,qDp _ _ _ (.inl q)⟩
 refine codeAny_call_function hr.depth (KX _ _ lk) rfl S.co S.gen rfl (PySem.W.codeRec_of KX hcd) (hb _ _ _ _ ?_);refine wpAny_newFunctionEnv_cells S.kind hkind λenv he s1 x=>?_;subst he;refine⟨lim.keeps x.toInCall.keep,codeAny_func ?_⟩;obtain⟨t,ht,hq⟩:=hbody A outer s H vs Q E (hr.deeper _) hsp;have I:Inv (cxOf CX P w K mg base N qual scope f cdv A outer s H E) [] (start N vs) H s1:=inv_start S hr.hd e0 hl r x;refine qAz (ht [] s1 (start N vs) H _ I hq) (λfl s' hs=>?_) λe s' hs=>hs
 have fin:∀{σ':St}{H':Hp}{v:V}{u:Value},Inv (cxOf CX P w K mg base N qual scope f cdv A outer s H E) [] σ' H' s'->RelV v u->Q v H'->CE outer P w H s Q u s' :=
  λ{σ' H' v u} J rv q=>⟨v,H',J.os,J.bare,J.base,J.hok,rv,q⟩
 cases fl with
 |ret u=>
  obtain⟨v,σ',H',J,rv,q⟩:=hs;exact fin J rv q
 |next=>
  obtain⟨σ',H',J,q⟩:=hs;exact fin (v:=V.non) (u:=Value.none) J rfl q
 |brk=>
  obtain⟨_,_,_,q⟩:=hs;exact False.elim q
 |cont=>
  obtain⟨_,_,_,q⟩:=hs;exact False.elim q
section
variable{X:Cx}{x:Str}{p pos:Pos}{e:Expr}{es:List Expr}{t:TA}{id T:String}{r:List V->Hp->VK->Prop}
def tCB(r:List V->Hp->VK->Prop)(t:TA):TE:=λσ H Q=>t σ H λvs H1=>r vs H1 Q
theorem zAi(hc:zCa X (.builtin id) r)(hg:Gl X x)(hm:X.mg x=none)(hv:bootBuiltins x=some (.builtin id))(ha:PA X (e::es) t)(hn:x≠ "__name__":= by decide)(hdb:(x==("__debug__": Str))=false:=by decide)
  (he:starEach (e::es) X.env=(false,eval e X.env)::starEach es X.env:=by rfl) (hpl:(backTo pos (starEach es X.env)).any (·.1)=false:=by rfl):PE X (.Call (.Name x p) (e::es) [] pos) (tCB r t):=by
 intro pins s σ H Q I h;refine qCL (zHy I hg hm hv ?_ hn hdb);exact PyProof.Rows.callWith_builtin1 (thn (ha pos pins s σ H _ I h) λus s1 ⟨vs,H1,I1,r1,q1⟩=>hc pins s1 σ H1 vs us Q I1 r1 q1) he hpl
theorem zAv(hc:zCa X (.type T) r)(hg:Gl X x)(hm:X.mg x=none)(hv:bootBuiltins x=some (.type T))(ha:PA X (e::es) t)(hn:x≠ "__name__":= by decide)(hdb:(x==("__debug__": Str))=false:=by decide)
  (he:starEach (e::es) X.env=(false,eval e X.env)::starEach es X.env:=by rfl) (hpl:(backTo pos (starEach es X.env)).any (·.1)=false:=by rfl):PE X (.Call (.Name x p) (e::es) [] pos) (tCB r t):=by
 intro pins s σ H Q I h;refine qCL (zHy I hg hm hv ?_ hn hdb);exact qDm (thn (ha pos pins s σ H _ I h) λus s1 ⟨vs,H1,I1,r1,q1⟩=>hc pins s1 σ H1 vs us Q I1 r1 q1) he hpl
end
end L2
namespace HT
open PySem PyProof.Rows
section
open PySem.SeqAt
open PySem.AutoSeq1 (wpAny_loadPart')
open PySem.MeetsSeq PySem.MeetsSeq2 PySem.MeetsSeq3
end
section
variable{prog:Program}{w:World}{A:Around}{E:Value->Shared->Prop}{s:Shared}
def sIx(n d:Nat):Option Int->Nat
 |none=>d
 |some v=>if v<0 then(v+(n:Int)).toNat else min v.toNat n
theorem sIx_none(n d:Nat):sIx n d none=d:=rfl
theorem sIx_nat(n d k:Nat):sIx n d (some (k:Int))=min k n:=by
 show(if(k:Int)<0 then((k:Int)+(n:Int)).toNat else min (k:Int).toNat n)=min k n;rw[qAB (by lia),qBU]
end
end HT
namespace L2
open PySem PySem.Spec PyProof.Rows
variable{α:Type}{n:Nat}{x:V}
abbrev TO:=St->Hp->(Option Int->Hp->Prop)->Prop
def PO(X:Cx)(e:Option Expr)(t:TO):Prop :=
 ∀(pins:List (Addr×Obj)) (s:Shared) (σ:St) (H:Hp) (Q:Option Int->Hp->Prop),Inv X pins σ H s->t σ H Q ->
  wpAny (model X.prog X.w) X.A (evalPart e X.env) (λu s'=>∃o H',Inv X pins σ H' s'/\IsPart u o/\Q o H') X.xe s
def tNoPart:TO:=λ_ H Q=>Q none H
def tPart(t:TE):TO:=λσ H Q=>t σ H λx H1=>∃i,x= .int i/\Q (some i) H1
section
variable{X:Cx}{e:Expr}{te:TE}{lo hi:Option Expr}{tl th:TO}{pos p2:Pos}
theorem po_none:PO X none tNoPart:=by
 intro pins s σ H Q I h;rw[evalPart_none];exact qAE ⟨none,H,I,.none,h⟩
theorem po_some(h:PE X e te):PO X (some e) (tPart te):=by
 intro pins s σ H Q I hw;rw[evalPart_some];refine thn (h pins s σ H _ I hw) λu s1 ⟨x,H1,I1,r1,q1⟩=>?_;obtain⟨i,rfl,q⟩:=q1;obtain⟨t,rfl⟩:=r1;exact⟨some i,H1,I1,.int i t,q⟩
def SlR(X:Cx)(r:V->Option Int->Option Int->Hp->VK->Prop):Prop :=
 ∀(pins:List (Addr×Obj)) (s:Shared) (σ:St) (H:Hp) (x:V) (v vl vu:Value) (lo hi:Option Int) (sl:Addr) (Q:VK),Inv X pins σ H s->RelV x v->s.heap.IsSliceOf sl vl vu .none->IsPart vl lo->IsPart vu hi->r x lo hi H Q ->
  ∃T id,typeLookup (.type T) "__getitem__"=pure (some (.builtin id))/\s.TypeIs v T/\wpAny (model X.prog X.w) X.A (getItem v (.ref sl)) (EP X pins σ Q) X.xe s
def tSl(r:V->Option Int->Option Int->Hp->VK->Prop)(te:TE)(tl th:TO):TE:=λσ H Q=>te σ H λx H1=>tl σ H1 λl H2=>th σ H2 λu H3=>r x l u H3 Q
theorem pe_slice{r:V->Option Int->Option Int->Hp->VK->Prop}(hr:SlR X r)(he:PE X e te)(hl:PO X lo tl)(hu:PO X hi th):PE X (.Subscript e (.Slice lo hi none p2) pos) (tSl r te tl th):=by
 intro pins s σ H Q I h;refine Subscript_ (thn (he pins s σ H _ I h) λv s1 ⟨x,H1,I1,r1,q1⟩=>?_);refine wpAny_Slice (thn (hl pins s1 σ H1 _ I1 q1) λvl s2 ⟨l,H2,I2,pl,q2⟩=>thn (hu pins s2 σ H2 _ I2 q2) λvu s3 ⟨u,H3,I3,pu,q3⟩=>?_);rw[evalPart_none];refine qAE ?_;have I4:Inv X pins σ H3 {s3 with heap:=s3.heap.push {cls:=.type "slice",data:=.fields #[vl,vu,.none]}}:=I3.kept (t':=s3.toks) λb ob q=>qAG _ q;obtain⟨T,id,hT,ht,hg⟩:=hr pins {s3 with heap:=s3.heap.push {cls:=.type "slice",data:=.fields #[vl,vu,.none]}} σ H3 x v vl vu l u s3.heap.objs.size Q I4 r1 (Heap.IsSliceOf.new ..) pl pu q3;show wpAny (model X.prog X.w) X.A (subscriptTail e (.Slice lo hi none p2) v (.ref s3.heap.objs.size)) (EP X pins σ Q) X.xe {s3 with heap:=s3.heap.push {cls:=.type "slice",data:=.fields #[vl,vu,.none]}};exact tail_any (ops:=[.ref s3.heap.objs.size,v]) ht hT hg (by with_unfolding_all rfl)
def cutV(xs:List V)(lo hi:Option Int):List V:=(xs.drop (HT.sIx xs.length 0 lo)).take (HT.sIx xs.length xs.length hi-HT.sIx xs.length 0 lo)
theorem cutV_length(xs:List V)(lo hi:Option Int):(cutV xs lo hi).length<=xs.length:=by
 unfold cutV;rw[qAR,qB2];lia
end
def ixN(n:Nat)(i:Int):Option Nat:=if 0<=i then(if i<n then some i.toNat else none)else if -(n:Int)<=i then some (i+n).toNat else none
def atI(xs:List α)(i:Int):Option α:=(ixN xs.length i).bind λj=>xs[j]?
theorem ixN_seq{i:Int}{j:Nat}(h:ixN n i=some j):seqIndex? i n=some j/\j<n/\-(n:Int)<=i/\i<n:=by
 unfold ixN at h
 by_cases h0:0<=i
 .rw [qAC h0]at h
  by_cases h1:i<n
  .rw [qAC h1]at h;have e:i.toNat=j:=qAe h;exact⟨by rw[seqIndex_of h0 h1,e],by lia,by lia,h1⟩
  .rw [qAB h1]at h;cases h
 .rw [qAB h0]at h
  by_cases h1:-(n:Int)<=i
  .rw [qAC h1]at h;have e:(i+n).toNat=j:=qAe h;exact⟨by rw[seqIndex_neg (by lia) h1,e],by lia,h1,by lia⟩
  .rw [qAB h1]at h;cases h
theorem atI_get{xs:List α}{i:Int}{v:α}(h:atI xs i=some v):∃j,seqIndex? i xs.length=some j/\xs[j]?=some v/\j<xs.length/\-(xs.length:Int)<=i/\i<xs.length:=by
 unfold atI at h
 cases e:ixN xs.length i with
 |none=>rw[e]at h;cases h
 |some j=>
  rw[e]at h;obtain⟨h1,h2,h3,h4⟩:=ixN_seq e;exact⟨j,h1,h,h2,h3,h4⟩
def PlainIx(b:Expr):Prop:=∀o i,subscripted b false o i=operate [o,i] (getItem o i)
def IxR(X:Cx)(r:R2):Prop :=
 ∀(value slice:Expr) (pins:List (Addr×Obj)) (s:Shared) (σ:St) (H:Hp) (x y:V) (v u:Value) (Q:VK),Inv X pins σ H s->RelV x v->RelV y u->r x y H Q ->
  subscripted slice false v u=operate [v,u] (getItem v u)->wpAny (model X.prog X.w) X.A (subscriptTail value slice v u) (EP X pins σ Q) X.xe s
def MtR(X:Cx)(id:String)(r:V->List V->Hp->VK->Prop):Prop :=
 ∀(pins:List (Addr×Obj)) (s:Shared) (σ:St) (H:Hp) (x:V) (xs:List V) (v:Value) (us:List Value) (Q:VK),Inv X pins σ H s->RelV x v->Vals xs us->r x xs H Q ->
  wpAny (model X.prog X.w) X.A (call (.builtin id) (v::us)) (EP X pins σ Q) X.xe s
section
variable{X:Cx}{a b:Expr}{ta tb:TE}{pos:Pos}
theorem zCh{r:R2}(hr:IxR X r)(ha:PE X a ta)(hb:PE X b tb)(hs:PlainIx b):PE X (.Subscript a b pos) (tOp r ta tb):=by
 intro pins s σ H Q I h;exact Subscript_ (binT ha hb I h λv u s2 x y H2 I2 rx ry q=>hr a b pins s2 σ H2 x y v u Q I2 rx ry q (hs _ _))
def rIxL(K:PySem.W.Frag):R2:=λx y H Q=>∃p xs i v,x= .ref p/\y= .int i/\SqL K H p xs/\atI xs i=some v/\Q v H
def rIxT(K:PySem.W.Frag):R2:=λx y H Q=>∃p xs i v,x= .ref p/\y= .int i/\SqT K H p xs/\atI xs i=some v/\Q v H
def rIxS:R2:=λx y H Q=>∃z i c,x= .str z/\y= .int i/\z.length<=sizeLine/\atI z.cps.toList i=some c/\Q (.str ⟨#[c]⟩) H
theorem zBt:IxR X (rIxL X.K):=by
 intro value slice pins s σ H x y v u Q I rx ry h hs;obtain⟨p,xs,i,z,rfl,rfl,hq,he,q⟩:=h
 cases rx
 obtain⟨t,rfl⟩:=ry;obtain⟨its,r,pl,hz⟩:=I.list hq;obtain⟨j,h1,h2,h3,h4,h5⟩:=atI_get he;obtain⟨w,ew,rw'⟩:=r.get h2;have hl:=r.length;have hn:=zHv;have fin:EP X pins σ Q w s:=⟨z,H,I,rw',q⟩
 by_cases h0:0<=i
 .have hj:i.toNat=j:=by
   rw[seqIndex_of h0 h5]at h1;exact qAe h1
  exact item_listR pl.isList h0 (by lia) (by rw[hj];simpa using ew) fin hs
 .have hj:(i+(its.toArray.size:Int)).toNat=j:=by
   rw[seqIndex_neg (by lia) h4]at h1;rw[qAK,<-hl];exact qAe h1
  exact subscriptTail_builtinR (x:=w) pl.isList.typeIs slot_list_getitem.lookup
   (wpAny_getItem_list_neg (Q:=λr s'=>r=w/\EP X pins σ Q r s') pl.isList (by lia) (by rw[qAK]<;>lia) (by lia) (by rw[hj];simpa using ew) ⟨rfl,fin⟩) hs
theorem ix_tup:IxR X (rIxT X.K):=by
 intro value slice pins s σ H x y v u Q I rx ry h hs;obtain⟨p,xs,i,z,rfl,rfl,hq,he,q⟩:=h
 cases rx
 obtain⟨t,rfl⟩:=ry;obtain⟨its,r,pl,hz⟩:=I.tuple hq;obtain⟨j,h1,h2,h3,h4,h5⟩:=atI_get he;obtain⟨w,ew,rw'⟩:=r.get h2;have hl:=r.length;have hn:=zHv;have fin:EP X pins σ Q w s:=⟨z,H,I,rw',q⟩
 exact subscriptTail_builtinR (x:=w) pl.typeIs slot_tuple_getitem.lookup
  (getItem_tuple (j:=j) (Q:=λr s'=>r=w/\EP X pins σ Q r s') pl (by lia) (by lia) (by rw[qAK,<-hl];exact h1) (by simpa using ew) ⟨rfl,fin⟩) hs
theorem ix_str:IxR X rIxS:=by
 intro value slice pins s σ H x y v u Q I rx ry h hs;obtain⟨z,i,c,rfl,rfl,hz,he,q⟩:=h;obtain⟨t,rfl⟩:=rx;obtain⟨t',rfl⟩:=ry;obtain⟨j,h1,h2,h3,h4,h5⟩:=atI_get he;have hl:z.cps.toList.length=z.length:=by simp[Str.length]
 rw[hl]at h1 h4 h5;have hn:=zHv
 exact tail_any (typeIs_str s z t) slot_str_getitem.lookup (getItem_str (c:=c) (by
  have e1:decide (i< -(2^63:Int))=false:=qAa (by lia);have e2:decide (i>=2^63)=false:=qAa (by lia);rw[e1,e2,qC9]) (by rw[h1];simpa using h2) ⟨.str ⟨#[c]⟩,H,I.tok _,⟨_,rfl⟩,q⟩) hs
theorem mapSeq_set(its:List Value)(n j:Nat)(u:Value):Obj.mapSeq (·.setIfInBounds j u) {cls:=.type "list",data:=.seq its.toArray n}={cls:=.type "list",data:=.seq (its.set j u).toArray n}:=by
 simp[Obj.mapSeq]
theorem Inv.lst{pins:List (Addr×Obj)}{σ:St}{H:Hp}{s:Shared}{p:Addr}{xs:List V}(I:Inv X pins σ H s)(h:H p=some (.lst xs)) :
  ∃(its:List Value)(n:Nat),Vals xs its/\s.heap.get? p=some {cls:=.type "list",data:=.seq its.toArray n}/\xs.length<=sizeLine:=by
 obtain⟨z,its,n,r,e⟩:=I.hok p _ h;exact⟨its,n,r,e,z⟩
theorem Inv.lstUpd{pins:List (Addr×Obj)}{σ:St}{H:Hp}{s:Shared}{p:Addr}{xs ys:List V}{its its':List Value}{n':Nat}{f:Obj->Obj}(I:Inv X pins σ H s)(h:H p=some (.lst xs))
  (ho:s.heap.get? p=some {cls:=.type "list",data:=.seq its.toArray n}) (hf:f {cls:=.type "list",data:=.seq its.toArray n}={cls:=.type "list",data:=.seq its'.toArray n'}) (r:Vals ys its') (hz:ys.length<=sizeLine) (t:Nat) :
  Inv X pins σ (upd H p (.lst ys)) {s with heap:=s.heap.update p f,toks:=t}:=by
 have e:(s.heap.update p f).get? p=some {cls:=.type "list",data:=.seq its'.toArray n'}:=by
  rw[qBA f ho (by rw[hf]<;>rfl),hf]
 refine I.write (x:=p) (e:=p) (by rw[h];trivial) (.inl rfl) (λb u hb q=>(qBG _ _ (qAj hb)).trans q) ⟨_,e⟩ ?_;exact⟨hz,its',n',r,e⟩
def rSetL:V->V->V->Hp->(Hp->Prop)->Prop:=λo i v H Q=>∃p xs k j,o= .ref p/\i= .int k/\H p=some (.lst xs)/\ixN xs.length k=some j/\Q (upd H p (.lst (xs.set j v)))
theorem set_list:PSet X rSetL:=by
 intro pins s σ H o i v ov iv u Q I ro ri rv h;obtain⟨p,xs,k,j,rfl,rfl,hp,hj,q⟩:=h
 cases ro
 obtain⟨t,rfl⟩:=ri;obtain⟨its,n,r,ho,hz⟩:=I.lst hp;obtain⟨h1,h2,h3,h4⟩:=ixN_seq hj;have hl:=r.length;have hn:=zHv
 have I':Inv X pins σ (upd H p (.lst (xs.set j v))) {s with heap:=s.heap.update p (Obj.mapSeq (·.setIfInBounds j u))} :=
  I.lstUpd hp ho (mapSeq_set its n j u) (r.set rv j) (by rw[List.length_set];exact hz) s.toks
 by_cases h0:0<=k
 .have hk:k.toNat=j:=by
   rw[seqIndex_of h0 h4]at h1;exact qAe h1
  exact PySem.W.ki_setAt ho h0 (by lia) (by rw[qAK,<-hl];exact h4) (by rw[hk];exact⟨_,I',q⟩)
 .have hk:(k+(its.toArray.size:Int)).toNat=j:=by
   rw[seqIndex_neg (by lia) h3]at h1;rw[qAK,<-hl];exact qAe h1
  exact PySem.W.ki_setBack ho (by lia) (by rw[qAK,<-hl];exact h3) (by lia) (by rw[hk];exact⟨_,I',q⟩)
theorem slice_bounds(lo hi:Option Int)(n:Nat):(sliceBounds lo hi none n).1=((HT.sIx n 0 lo:Nat):Int)/\(sliceBounds lo hi none n).2.1=((HT.sIx n n hi:Nat):Int)/\(sliceBounds lo hi none n).2.2=1:=by
 refine⟨?_,?_,rfl⟩
 .cases lo with
  |none=>simp[sliceBounds,HT.sIx]
  |some i=>
   simp only[sliceBounds,HT.sIx,Option.getD_none,show(1:Int)>0 by decide,qBj]
   by_cases h:i<0
   .simp only[h,qBj]<;>lia
   .simp only[h,qA7]<;>lia
 .cases hi with
  |none=>simp[sliceBounds,HT.sIx]
  |some i=>
   simp only[sliceBounds,HT.sIx,Option.getD_none,show(1:Int)>0 by decide,qBj]
   by_cases h:i<0
   .simp only[h,qBj]<;>lia
   .simp only[h,qA7]<;>lia
theorem zI9(its:List Value)(lo hi:Option Int):slicePick its.toArray lo hi none=((its.drop (HT.sIx its.length 0 lo)).take (HT.sIx its.length its.length hi-HT.sIx its.length 0 lo)).toArray:=by
 obtain⟨h1,h2,h3⟩:=slice_bounds lo hi its.toArray.size;unfold slicePick;rw[h1,h2,h3];simp only[sliceRange_one,pick_run,qAK]<;>rfl
def rSlL(K:PySem.W.Frag):V->Option Int->Option Int->Hp->VK->Prop:=λx lo hi H Q=>∃a xs,x= .ref a/\SqL K H a xs/\∀p,H p=none->Q (.ref p) (upd H p (.lst (cutV xs lo hi)))
theorem sl_list:SlR X (rSlL X.K):=by
 intro pins s σ H x v vl vu lo hi sl Q I rx hs pl pu h;obtain⟨a,xs,rfl,hx,q⟩:=h
 cases rx
 obtain⟨its,r,ht,hz⟩:=I.list hx;have hlen:=r.length;refine⟨"list",_,slot_list_getitem.lookup,ht.isList.typeIs,?_⟩;refine wpAny_getItem_list_slice ht.isList hs pl pu .none (by simp) ?_ (by rw[qAK]<;>lia);rw[zI9,<-hlen];refine⟨.ref s.heap.objs.size,_,I.laid (t':=s.toks) (o:=.lst (cutV xs lo hi)) (λb ob q=>qAG _ q) (qAF _) ?_,rfl,q _ (I.hok.fresh (qAF _))⟩;exact⟨qAL (cutV_length xs lo hi) hz,_,0,(r.drop (HT.sIx xs.length 0 lo)).take (HT.sIx xs.length xs.length hi-HT.sIx xs.length 0 lo),qAX _ rfl⟩
def zEk:V->Bool
 | .non=>true
 | .bl _=>true
 | .int _=>true
 | .str _=>true
 |_=>false
def eqV:V->V->Bool
 | .non,.non=>true
 | .bl a,.bl b=>a==b
 | .bl a,.int b=>(if a then 1 else 0)==b
 | .int a,.bl b=>a==(if b then 1 else 0)
 | .int a,.int b=>a==b
 | .str a,.str b=>a==b
 |_,_=>false
theorem eqAt_V{A:Around}{s:Shared}{y:V}{u v:Value}(ry:RelV y u)(rx:RelV x v)(fy:zEk y=true)(fx:zEk x=true):SeqAt.EqAt A s u v (eqV y x):=by
 cases y with
 |non=>
  cases ry
  cases x with
  |non=>cases rx;exact qDA _
  |bl b=>cases rx;exact SeqAt.EqAt.none_bool b
  |int b=>obtain⟨t,rfl⟩:=rx;exact SeqAt.EqAt.none_int b t
  |str b=>obtain⟨t,rfl⟩:=rx;exact SeqAt.EqAt.none_str b t
  |_=>exact absurd (show false=true from fx) qAn
 |bl a=>
  cases ry
  cases x with
  |non=>cases rx;exact SeqAt.EqAt.bool_none a
  |bl b=>cases rx;exact SeqAt.EqAt.bool_bool a b
  |int b=>obtain⟨t,rfl⟩:=rx;exact SeqAt.EqAt.bool_int a b t
  |str b=>obtain⟨t,rfl⟩:=rx;exact SeqAt.EqAt.bool_str a b t
  |_=>exact absurd (show false=true from fx) qAn
 |int a=>
  obtain⟨t',rfl⟩:=ry
  cases x with
  |non=>cases rx;exact SeqAt.EqAt.int_none a t'
  |bl b=>cases rx;exact SeqAt.EqAt.int_bool a t' b
  |int b=>obtain⟨t,rfl⟩:=rx;exact SeqAt.EqAt.int_int a t' b t
  |str b=>obtain⟨t,rfl⟩:=rx;exact SeqAt.EqAt.int_str a t' b t
  |_=>exact absurd (show false=true from fx) qAn
 |str a=>
  obtain⟨t',rfl⟩:=ry
  cases x with
  |non=>cases rx;exact SeqAt.EqAt.str_none a t'
  |bl b=>cases rx;exact SeqAt.EqAt.str_bool a t' b
  |int b=>obtain⟨t,rfl⟩:=rx;exact SeqAt.EqAt.str_int a t' b t
  |str b=>obtain⟨t,rfl⟩:=rx;exact SeqAt.EqAt.str_str a t' b t
  |_=>exact absurd (show false=true from fx) qAn
 |_=>exact absurd (show false=true from fy) qAn
def eqU(x:V)(u:Value):Bool:=match u with
 | .none=>eqV .non x
 | .bool b=>eqV (.bl b) x
 | .int i _=>eqV (.int i) x
 | .str z _=>eqV (.str z) x
 |_=>false
theorem eqU_of{y:V}{u:Value}(r:RelV y u)(f:zEk y=true):eqU x u=eqV y x:=by
 cases y with
 |non=>cases r;rfl
 |bl b=>cases r;rfl
 |int i=>obtain⟨t,rfl⟩:=r;rfl
 |str z=>obtain⟨t,rfl⟩:=r;rfl
 |_=>exact absurd (show false=true from f) qAn
theorem zH7 :∀{xs:List V}{us:List Value},Vals xs us->xs.all zEk=true->us.any (eqU x)=xs.any λy=>eqV y x
 |_,_,.nil,_=>rfl
 |y::xs,u::us,.cons r t,f=>by
  rw[List.all_cons,qBB]at f;rw[qCM,qCM,eqU_of r f.1,zH7 t f.2]
theorem zFv{A:Around}{s:Shared}{v:Value}(rx:RelV x v)(fx:zEk x=true):∀{xs:List V}{us:List Value},Vals xs us->xs.all zEk=true->∀u∈us,SeqAt.EqAt A s u v (eqU x u)
 |_,_,.nil,_=>λu hu=>by cases hu
 |y::xs,u::us,.cons r t,f=>λu' hu=>by
  rw[List.all_cons,qBB]at f;rcases qAM.mp hu with rfl|hu
  .rw [eqU_of r f.1];exact eqAt_V r rx f.1 fx
  .exact zFv rx fx t f.2 u' hu
def inV(x:V)(xs:List V):Bool:=xs.any λy=>eqV y x
def rIn(K:PySem.W.Frag)(neg:Bool):R2:=λx y H Q=>∃p xs,y= .ref p/\(SqL K H p xs\/SqT K H p xs)/\zEk x=true/\xs.all zEk=true/\Q (.bl (if neg then !inV x xs else inV x xs)) H
theorem zHn:OpR X (compareOp .In) (rIn X.K false):=by
 intro pins s σ H x y v u Q I rx ry h;obtain⟨p,xs,rfl,hq,fx,fs,q⟩:=h
 cases ry
 rcases hq with hq|hq
 .obtain ⟨its,r,pl,hz⟩:=I.list hq;refine SeqAt.in_listAt (eqU x) pl.isList (λw hw=>zFv rx fx r fs w (by simpa using hw)) ⟨.bl _,H,I,rfl,?_⟩;rw[show its.toArray.any (eqU x)=its.any (eqU x) by simp,zH7 r fs];exact q
 .obtain ⟨its,r,pl,hz⟩:=I.tuple hq;refine SeqAt.in_tupleAt (eqU x) pl (λw hw=>zFv rx fx r fs w (by simpa using hw)) ⟨.bl _,H,I,rfl,?_⟩;rw[show its.toArray.any (eqU x)=its.any (eqU x) by simp,zH7 r fs];exact q
theorem zGp:OpR X (compareOp .NotIn) (rIn X.K true):=by
 intro pins s σ H x y v u Q I rx ry h;obtain⟨p,xs,rfl,hq,fx,fs,q⟩:=h
 cases ry
 rcases hq with hq|hq
 .obtain ⟨its,r,pl,hz⟩:=I.list hq;refine SeqAt.notIn_listAt (eqU x) pl.isList (λw hw=>zFv rx fx r fs w (by simpa using hw)) ⟨.bl _,H,I,rfl,?_⟩;rw[show its.toArray.any (eqU x)=its.any (eqU x) by simp,zH7 r fs];exact q
 .obtain ⟨its,r,pl,hz⟩:=I.tuple hq;refine SeqAt.notIn_tupleAt (eqU x) pl (λw hw=>zFv rx fx r fs w (by simpa using hw)) ⟨.bl _,H,I,rfl,?_⟩;rw[show its.toArray.any (eqU x)=its.any (eqU x) by simp,zH7 r fs];exact q
theorem zAl:zCa X (.builtin "len") (λxs H Q=>∃p ys,xs=[.ref p]/\(SqL X.K H p ys\/SqT X.K H p ys)/\Q (.int ys.length) H):=by
 intro pins s σ H xs us Q I r h;obtain⟨p,ys,rfl,hq,q⟩:=h;obtain⟨u,rfl,rx⟩:=zH9 r
 cases rx
 have hn:=zHv;rcases hq with hq|hq
 .obtain ⟨its,r',pl,hz⟩:=I.list hq;have hlen:=r'.length;exact Calls.call_len_list pl.isList (by simp only[qAK]<;>lia) ⟨.int ys.length,H,I.tok _,⟨s.toks+1,by rw[qAK,hlen]⟩,q⟩
 .obtain ⟨its,r',pl,hz⟩:=I.tuple hq;have hlen:=r'.length;exact len_tuple pl (by simp only[qAK]<;>lia) ⟨.int ys.length,H,I.tok _,⟨s.toks+1,by rw[qAK,hlen]⟩,q⟩
theorem call_len_str:zCa X (.builtin "len") (λxs H Q=>∃z,xs=[.str z]/\z.length<=sizeLine/\Q (.int z.length) H):=by
 intro pins s σ H xs us Q I r h;obtain⟨z,rfl,hz,q⟩:=h;obtain⟨u,rfl,t,rfl⟩:=zH9 r;have hn:=zHv;exact len_str (by lia) ⟨.int z.length,H,I.tok _,⟨_,rfl⟩,q⟩
theorem zBi:zCa X (.type "list") (λxs H Q=>∃p ys,xs=[.ref p]/\(SqL X.K H p ys\/SqT X.K H p ys)/\∀l,H l=none->Q (.ref l) (upd H l (.lst ys))):=by
 intro pins s σ H xs us Q I r h;obtain⟨p,ys,rfl,hq,q⟩:=h;obtain⟨u,rfl,rx⟩:=zH9 r
 cases rx
 have fin:∀(its:List Value),Vals ys its->ys.length<=sizeLine->∀(h':Heap)(c':Nat),(∀b o',s.heap.get? b=some o'->h'.get? b=some o') ->
   h'.get? s.heap.objs.size=some {cls:=.type "list",dict:=none,data:=.seq its.toArray c',slots:=#[]}->EP X pins σ Q (.ref s.heap.objs.size) {s with heap:=h'}:=λits r' hz h' c' kp e=>
  ⟨.ref s.heap.objs.size,_,I.laid (t':=s.toks) kp (qAF _) (show zA0 X.prog X.w _ h' _ (.lst ys)from⟨hz,its,c',r',e⟩),rfl,q _ (I.hok.fresh (qAF _))⟩
 rcases hq with hq|hq
 .obtain ⟨its,r',pl,hz⟩:=I.list hq;have hlen:=r'.length;obtain⟨o,ho,hc,n,hd⟩:=pl.isList;exact call_list_seq p (.inl rfl) ho hc hd (λh' c' kp e=>fin its r' hz h' c' kp e) (by simp only[qAK]<;>lia)
 .obtain ⟨its,r',pl,hz⟩:=I.tuple hq;have hlen:=r'.length;obtain⟨o,ho,hc,n,hd⟩:=pl;exact call_list_seq p (.inr rfl) ho hc hd (λh' c' kp e=>fin its r' hz h' c' kp e) (by simp only[qAK]<;>lia)
def tyV(K:PySem.W.Frag)(T:String)(x:V)(H:Hp):Prop:=match x with
 | .str _=>T="str"
 | .int _=>T="int"
 | .ref p=>(T="list"/\∃xs,SqL K H p xs)\/(T="tuple"/\∃o,K.lookup p=some o/\o.cls= .type "tuple"/\o.dict=none) \/
   (T="dict"/\((∃kvs,H p=some (.dK kvs))\/∃kvs,H p=some (.dT kvs)))\/(T="set"/\∃S n,H p=some (.set S n))
 |_=>False
theorem tyV_is{pins:List (Addr×Obj)}{σ:St}{H:Hp}{s:Shared}{T:String}{v:Value}(I:Inv X pins σ H s)(r:RelV x v)(ty:tyV X.K T x H) :
  s.TypeIs v T/\∀a,v= .ref a->∃ob,s.heap.get? a=some ob/\ob.dict=none:=by
 cases x with
 |str z=>
  obtain⟨t,rfl⟩:=r
  cases (show T="str" from ty)
  exact⟨typeIs_str s z t,λ_ e=>nomatch e⟩
 |int i=>
  obtain⟨t,rfl⟩:=r
  cases (show T="int" from ty)
  exact⟨typeIs_int s i t,λ_ e=>nomatch e⟩
 |ref p=>
  cases r
  rcases ty with⟨rfl,xs,hq⟩|⟨rfl,o,hk,hc,hd⟩|⟨rfl,hk⟩|⟨rfl,S,n,hk⟩
  .obtain ⟨its,_,pl,_⟩:=I.list hq;refine⟨pl.isList.typeIs,λa e=>?_⟩
   cases e
   obtain⟨o,n,e,c,hd,_⟩:=pl;exact⟨o,e,hd⟩
  .refine ⟨⟨o,I.kIn p o hk,hc⟩,λa e=>?_⟩
   cases e
   exact⟨o,I.kIn _ o hk,hd⟩
  .have z:∃o,s.heap.get? p=some o/\o.ExactDict:=by
    rcases hk with⟨kvs,hk⟩|⟨kvs,hk⟩
    .obtain ⟨_,_,_,_,o,_,_,e,ex,_⟩:=I.hok p _ hk;exact⟨o,e,ex⟩
    .obtain ⟨_,_,_,_,o,_,_,e,ex,_⟩:=I.hok p _ hk;exact⟨o,e,ex⟩
   obtain⟨o,e,ex⟩:=z;refine⟨⟨o,e,ex.1⟩,λa e2=>?_⟩
   cases e2
   exact⟨o,e,ex.2.1⟩
  .obtain ⟨o,_,_,_,e,ex,_⟩:=I.hok p _ hk;refine⟨⟨o,e,ex.1⟩,λa e2=>?_⟩
   cases e2
   exact⟨o,e,ex.2.1⟩
 |_=>exact False.elim ty
def tBM0(K:PySem.W.Frag)(T:String)(r:V->List V->Hp->VK->Prop)(to:TE):TE:=λσ H Q=>to σ H λx H1=>tyV K T x H1/\r x [] H1 Q
def tBM(K:PySem.W.Frag)(T:String)(r:V->List V->Hp->VK->Prop)(to:TE)(t:TA):TE:=λσ H Q=>to σ H λx H1=>tyV K T x H1/\t σ H1 λxs H2=>r x xs H2 Q
variable{o e:Expr}{es:List Expr}{to:TE}{t:TA}{name:Str}{apos cpos:Pos}{T id:String}{r:V->List V->Hp->VK->Prop}
theorem pe_bm0(pa:PlainAttrs T)(slot:Slot T name id)(hty:typeOf (.builtin id)=pure (.type "method_descriptor"))(hm:MtR X id r)(ho:PE X o to)
  (hbase:attributeBase o name X.env (eval o X.env)=eval o X.env:=by rfl) (hline:(apos.endLine==cpos.line)=true:=by rfl):PE X (.Call (.Attribute o name apos) [] [] cpos) (tBM0 X.K T r to):=by
 intro pins s σ H Q I h;refine qDs hbase hline (thn (ho pins s σ H _ I h) λv s1 ⟨x,H1,I1,r1,ty,q1⟩=>?_);obtain⟨h1,h2⟩:=tyV_is I1 r1 ty;exact⟨T,id,pa,slot,hty,h1,h2,qCg rfl (PySem.evalArgs_none (hm pins s1 σ H1 x [] v [] Q I1 r1 .nil q1))⟩
theorem zGv(pa:PlainAttrs T)(slot:Slot T name id)(hty:typeOf (.builtin id)=pure (.type "method_descriptor"))(hm:MtR X id r)(ho:PE X o to)(ha:PA X (e::es) t)
  (hbase:attributeBase o name X.env (eval o X.env)=eval o X.env:=by rfl)
  (hfew:((backTo cpos (starEach (e::es) X.env)).all (fun x=>!x.1)&&(backToKw cpos (keywordEach [] X.env)).all (fun x=>x.1.isSome)
   &&decide ((e::es).length+([]:List Keyword).length+(if([]:List Keyword).isEmpty then 0 else 1)<30))=true:=by rfl)
  (hline:(apos.endLine==cpos.line)=true:=by rfl) (hs:starEach (e::es) X.env=(false,eval e X.env)::starEach es X.env:=by rfl) (hplain:(backTo cpos (starEach es X.env)).any (·.1)=false:=by rfl) :
  PE X (.Call (.Attribute o name apos) (e::es) [] cpos) (tBM X.K T r to t):=by
 intro pins s σ H Q I h;refine wpAny_Call_method_late hbase hfew hline rfl (thn (ho pins s σ H _ I h) λv s1 ⟨x,H1,I1,r1,ty,q1⟩=>?_);obtain⟨h1,h2⟩:=tyV_is I1 r1 ty;refine⟨T,id,pa,slot,hty,h1,h2,?_⟩;have hA:=ha cpos pins s1 σ H1 _ I1 q1;rw[hs]at hA ⊢;refine qCg (by show(false||(backTo cpos (starEach es X.env)).any (·.1))=false;rw[hplain]<;>rfl) (Calls.evalArgs_plain ?_);exact thn hA λus s2 ⟨vs,H2,I2,r2,q2⟩=>hm pins s2 σ H2 x vs v us Q I2 r1 r2 q2
end
def MtM(X:Cx)(id:String)(r:V->List V->Hp->VK->Prop):Prop :=
 ∀(pins:List (Addr×Obj)) (s:Shared) (σ:St) (H:Hp) (x:V) (xs:List V) (v:Value) (us:List Value) (Q:VK),Inv X pins σ H s->RelV x v->Vals xs us->r x xs H Q ->
  wpAny (model X.prog X.w) X.A (call (.builtin id) (v::us)) (EP X pins σ Q) X.xe s
theorem Vals.one:∀{x:V}{us:List Value},Vals [x] us->∃u,us=[u]/\RelV x u
 |_,_,.cons r .nil=>⟨_,rfl,r⟩
theorem Vals.two:∀{x y:V}{us:List Value},Vals [x,y] us->∃u v,us=[u,v]/\RelV x u/\RelV y v
 |_,_,_,.cons r (.cons q .nil)=>⟨_,_,rfl,r,q⟩
theorem Vals.zero:∀{us:List Value},Vals [] us->us=[]
 |_,.nil=>rfl
theorem Vals.dropLast{xs:List V}{us:List Value}(h:Vals xs us):Vals xs.dropLast us.dropLast:=by
 induction h with
 |nil=>exact .nil
 |cons r t ih=>
  cases t with
  |nil=>exact .nil
  |cons q t'=>exact .cons r ih
theorem Vals.rep{xs:List V}{us:List Value}(h:Vals xs us):∀k:Nat,Vals (List.replicate k xs).flatten (List.replicate k us).flatten
 |0=>.nil
 |k+1=>by
  rw[qCh,qCh,qCN,qCN];exact Vals.append h (Vals.rep h k)
theorem erase_last(l:List α):l.eraseIdx (l.length-1)=l.dropLast:=by
 induction l with
 |nil=>rfl
 |cons a r ih=>
  cases r with
  |nil=>rfl
  |cons b r=>
   have e:(a::b::r).length-1=((b::r).length-1)+1:=by
    have h1:(a::b::r).length=r.length+2:=rfl;have h2:(b::r).length=r.length+1:=rfl;lia
   rw[e,List.eraseIdx_cons_succ,ih]
   all_goals rfl
theorem foldl_rep(its:List Value):∀(k:Nat)(acc:List Value),
  List.foldl (λx1 x2=>x1++x2) acc.toArray (List.replicate k its.toArray)=(acc++(List.replicate k its).flatten).toArray
 |0,acc=>by simp
 |k+1,acc=>by
  have e:acc.toArray++its.toArray=(acc++its).toArray:=by simp
  have e2:(acc++its)++(List.replicate k its).flatten=acc++(List.replicate (k+1) its).flatten:=by
   rw[qCh,qCN,qB3]
  rw[<-e2,<-foldl_rep its k (acc++its),<-e,qCh,qBt]
section
variable{X:Cx}{pins:List (Addr×Obj)}{σ:St}{H:Hp}{s:Shared}{l b:Addr}{xs ys zs:List V}
theorem Inv.lset{its its':List Value}{f:Array Value->Array Value}{t':Nat}(I:Inv X pins σ H s)(hH:H l=some (.lst xs))
  (e:s.heap.get? l=some {cls:=.type "list",data:=.seq its.toArray n}) (hf:f its.toArray=its'.toArray) (hv:Vals ys its') (hz:ys.length<=sizeLine) :
  Inv X pins σ (upd H l (.lst ys)) {s with heap:=s.heap.update l (Obj.mapSeq f),toks:=t'}:=by
 have q:=PySem.IsL.update e f;rw[hf]at q;refine I.write (x:=l) (e:=l) (by rw[hH];exact trivial) (.inl rfl) (λb' u hb hu=>(qBG s.heap (Obj.mapSeq f) (qAj hb)).trans hu) ⟨_,q⟩ ?_;exact⟨hz,its',_,hv,q⟩
theorem Inv.lnew{its:List Value}{t':Nat}(I:Inv X pins σ H s)(hv:Vals ys its)(hz:ys.length<=sizeLine) :
  Inv X pins σ (upd H s.heap.objs.size (.lst ys)) {s with heap:=s.heap.push {cls:=.type "list",data:=.seq its.toArray},toks:=t'} :=
 I.laid (λ_ _ q=>qAG _ q) (qAF _) ⟨hz,its,0,hv,qAX _ rfl⟩
theorem Inv.fresh(I:Inv X pins σ H s):H s.heap.objs.size=none:=I.hok.fresh (qAF _)
theorem Inv.lstM(I:Inv X pins σ H s)(hH:H l=some (.lst xs)):xs.length<=sizeLine/\∃(its:List Value)(n:Nat),Vals xs its/\xs.length=its.length/\s.heap.get? l=some {cls:=.type "list",data:=.seq its.toArray n}:=by
 obtain⟨z,its,n,r,e⟩:=I.hok l _ hH;exact⟨z,its,n,r,r.length,e⟩
theorem notLongL(h:n<=sizeLine):Builtin.List.listTooLong n=false:=by
 unfold Builtin.List.listTooLong;exact qAa (by lia)
end
section
variable{X:Cx}
def rAppend:V->List V->Hp->VK->Prop:=λx vs H Q=>∃l xs y,x= .ref l/\vs=[y]/\H l=some (.lst xs)/\xs.length<sizeLine/\Q .non (upd H l (.lst (xs++[y])))
theorem zEh:MtM X "list.append" rAppend:=by
 intro pins s σ H x vs v us Q I rx rv h;obtain⟨l,xs,y,rfl,rfl,hH,hz,q⟩:=h
 cases rx
 obtain⟨u,rfl,ru⟩:=rv.one;obtain⟨z,its,n,r,hl,e⟩:=I.lstM hH;refine qB4 F.slot_list_append ⟨_,e,rfl⟩ F.entry_list_append (F.args_list_append_2 _ _) (PySem.list_append l its.toArray n u (by rw[qAK];lia)) ⟨e,?_⟩;refine⟨.non,_,I.lset (its':=its++[u]) hH e (by simp) (r.append (.cons ru .nil)) ?_,rfl,q⟩;rw[qAl,qCi];lia
def rExtend:V->List V->Hp->VK->Prop:=λx vs H Q=>∃l b xs zs,x= .ref l/\vs=[.ref b]/\H l=some (.lst xs)/\H b=some (.lst zs)/\xs.length+zs.length<=sizeLine/\Q .non (upd H l (.lst (xs++zs)))
theorem zFt:MtM X "list.extend" rExtend:=by
 intro pins s σ H x vs v us Q I rx rv h;obtain⟨l,b,xs,zs,rfl,rfl,hH,hB,hz,q⟩:=h
 cases rx
 obtain⟨u,rfl,ru⟩:=rv.one
 cases ru
 obtain⟨z,its,n,r,hl,e⟩:=I.lstM hH;obtain⟨z2,its2,n2,r2,hl2,e2⟩:=I.lstM hB;have hsz:its.toArray.size+its2.toArray.size<=sizeLine:=by rw[qAK,qAK];lia
 have hlong:¬(!its.toArray.isEmpty&&Builtin.List.listTooLong (its.toArray.size+its2.toArray.size))=true:=by
  rw[notLongL hsz,qCj];exact qAn
 refine qB4 F.slot_list_extend ⟨_,e,rfl⟩ F.entry_list_extend (F.args_list_extend_2 _ _)
  (AutoSeq1.list_extend_list_list_0 l its.toArray n b its2.toArray n2 hlong (by rw[qAK];lia) (by lia)) ⟨e,e2,?_⟩
 refine⟨.non,_,I.lset (its':=its++its2) hH e (by simp) (r.append r2) ?_,rfl,q⟩;rw[qAl];lia
def rPop:V->List V->Hp->VK->Prop:=λx vs H Q=>∃l xs y,x= .ref l/\vs=[]/\H l=some (.lst xs)/\xs[xs.length-1]?=some y/\Q y (upd H l (.lst xs.dropLast))
theorem mt_pop:MtM X "list.pop" rPop:=by
 intro pins s σ H x vs v us Q I rx rv h;obtain⟨l,xs,y,rfl,rfl,hH,hy,q⟩:=h
 cases rx
 have hus:=rv.zero;subst hus;obtain⟨z,its,n,r,hl,e⟩:=I.lstM hH;obtain⟨u,hu,ru⟩:=r.get hy
 have hy':its.toArray[its.toArray.size-1]?=some u:=by
  show its.toArray[its.length-1]?=some u;rw[<-qA2,<-hl];exact hu
 refine qB4 F.slot_list_pop ⟨_,e,rfl⟩ F.entry_list_pop (F.args_list_pop_1 _) (MeetsSeq.list_pop_last l its.toArray n u hy' (by rw[qAK];lia)) ⟨e,?_⟩;refine⟨y,_,I.lset (its':=its.dropLast) hH e ?_ r.dropLast ?_,ru,q⟩
 .show its.toArray.eraseIdxIfInBounds (its.toArray.size-1)=its.dropLast.toArray;rw[qAK,List.eraseIdxIfInBounds_toArray,erase_last]
 .rw [qDt];lia
def rCat:R2:=λx y H Q=>∃l b xs zs,x= .ref l/\y= .ref b/\H l=some (.lst xs)/\H b=some (.lst zs)/\xs.length+zs.length<=sizeLine/\∀p,H p=none->Q (.ref p) (upd H p (.lst (xs++zs)))
theorem op_cat:OpR X (binaryOp .Add) rCat:=by
 intro pins s σ H x y v u Q I rx ry h;obtain⟨l,b,xs,zs,rfl,rfl,hH,hB,hz,q⟩:=h
 cases rx
 cases ry
 obtain⟨z,its,n,r,hl,e⟩:=I.lstM hH;obtain⟨z2,its2,n2,r2,hl2,e2⟩:=I.lstM hB;refine PySem.P.add_list e e2 ?_ (by rw[qAK,qAK];lia);have ea:its.toArray++its2.toArray=(its++its2).toArray:=by simp
 rw[ea];exact⟨.ref _,_,I.lnew (t':=s.toks) (r.append r2) (by rw[qAl];lia),rfl,q _ I.fresh⟩
def rRep:R2:=λx y H Q=>∃l k xs,x= .ref l/\y= .int k/\H l=some (.lst xs)/\-(2^63)<=k/\k<2^63/\xs.length*k.toNat<=sizeLine /\
 ∀p,H p=none->Q (.ref p) (upd H p (.lst (List.replicate k.toNat xs).flatten))
theorem len_rep(xs:List α)(k:Nat):(List.replicate k xs).flatten.length=k*xs.length:=by
 induction k with
 |zero=>simp
 |succ k ih=>rw[qCh,qCN,qAl,ih,Nat.succ_mul,Nat.add_comm]
theorem op_rep:OpR X (binaryOp .Mult) rRep:=by
 intro pins s σ H x y v u Q I rx ry h;obtain⟨l,k,xs,rfl,rfl,hH,h1,h2,hz,q⟩:=h
 cases rx
 obtain⟨t,rfl⟩:=ry;obtain⟨z,its,n,r,hl,e⟩:=I.lstM hH;have hlen:its.toArray.size*k.toNat<=sizeLine:=by rw[qAK,<-hl];exact hz
 have hcap:¬its.toArray.size*k.toNat>(2^63-1) / 8:=by
  have:(sizeLine:Nat)<=(2^63-1) / 8:=by decide
  lia
 have hfit:¬(!Builtin.List.listFitsIndex k)=true:=by
  rw[fitsIndex_both h1 h2];exact qAn
 have hlong:¬Builtin.List.listTooLong (its.toArray.size*k.toNat)=true:=by
  rw[notLongL hlen];exact qAn
 have hnew:List.foldl (λx1 x2=>x1++x2) #[] (List.replicate (if its.toArray.isEmpty=true then 0 else k.toNat) its.toArray)=(List.replicate k.toNat its).flatten.toArray:=by
  have f0:∀m:Nat,List.foldl (λx1 x2=>x1++x2) #[] (List.replicate m its.toArray)=(List.replicate m its).flatten.toArray:=λm=>by
   have:=foldl_rep its m [];rw[qDB]at this;exact this
  rw[f0]
  cases its with
  |nil=>simp
  |cons a r'=>rw[qAB (by simp)]
 refine wpAny_binaryOp_repeat_ref (T:="list") (U:="int") (by decide) ⟨_,e,rfl⟩ (λs'=>typeIs_int s' k t) noFill_list_mul F.fills_int_mul F.slot_int_rmul repeat_list F.slot_int_index.lookup
  (qB4 F.slot_int_rmul (typeIs_int s k t) F.entry_int_rmul (F.args_int_rmul_2 _ _) (int___rmul___int_list k t l its.toArray n)
   ⟨e,rfl,⟨_,e,rfl⟩,qB4 F.slot_list_mul ⟨_,e,rfl⟩ F.entry_list_mul (F.args_list_mul_2 _ _) (AutoListH.list___mul___list_int_3 l its.toArray n k t hfit hcap hlong) ⟨e,?_⟩⟩)
 rw[hnew];exact⟨.ref _,_,I.lnew (t':=s.toks) (r.rep k.toNat) (by rw[len_rep,Nat.mul_comm];exact hz),rfl,q _ I.fresh⟩
end
section
variable{prog:Program}{w:World}{A:Around}{E:Value->Shared->Prop}{s:Shared}
set_option maxRecDepth 100000 in
end
end L2
namespace Att
open PySem PySem.W PySem.Calls PyProof.Rows
theorem zH2{P:Params}{h:Heap}:∀(ns:List Int)(vs:List Value),WellAll P h vs (ns.map WData.int)->IntsAre vs ns:=by
 intro ns
 induction ns with
 |nil=>
  intro vs w;rw[List.map_nil]at w
  cases w
  exact .nil
 |cons n ns ih=>
  intro vs w;rw[qAk]at w
  cases w with
  |cons a b=>
   cases a
   exact .cons _ _ (ih _ b)
theorem script_of{l:OpenLaw}{n:Nat}(hn:l.most=some n){P:Params}{h:Heap}{args:List WData}{vals:List Value}
  (hpre:l.row.toRowW.claim.pre args=true) (hwl:WellAll P h vals args) :
  ∃a vs ns,vals=[Value.ref a]/\args=[WData.list (ns.map WData.int)]/\h.get? a=some {cls:=.type "list",data:=.seq vs.toArray}/\IntsAre vs ns/\ns.length<=n:=by
 have hsh:WShape.hasAll [] args [.list .int]=true:=(pre_splitW hpre).1;have hc:l.pre.holds [] {args:=args}=true:=(pre_splitW hpre).2;obtain⟨d,r,rfl,h1,h2⟩:=hasAllW_cons hsh;obtain rfl:=hasAllW_nil h2;obtain⟨xs,rfl,h3⟩:=hasW_list h1;obtain⟨ns,rfl⟩:=items_int h3
 have hlen:ns.length<=n:=by
  unfold OpenLaw.pre at hc
  have h4:(WTm.not (.lt (.lit (.int (n:Int))) (.len (.arg 0)))).holds [] {args:=[.list (ns.map .int)]}=true:=by
   have h4:=(holds_andW hc).1;rw[hn]at h4;exact h4
  have h5:=condW_of h4 (w_not (w_lt w_lit (w_len_list (w_arg rfl))));rw[qAD]at h5;refine Nat.le_of_not_lt λq=>?_;have q':(n:Int)<((ns.length:Nat):Int):=by lia
  first
   |(rw[qAS q']at h5;exact absurd h5 (by decide))
   |(simp at h5;lia)
 cases hwl with
 |cons w1 w2=>
  cases w2
  cases w1 with
  |list ho hall=>exact⟨_,_,ns,rfl,rfl,ho,zH2 ns _ hall,hlen⟩
theorem post_true(l:OpenLaw)(args:List WData):l.row.toRowW.claim.post args (.bool true) args=true :=
 postW_of (r:=l.row.toRowW) (X:=(true==true))
  (show WShape.has [] (.bool true) .bool=true by first|rfl|decide|simp[WShape.has,WShape.arms,WShape.armsAll])
  (show(WTm.eq .res (.lit (.bool true))).value [] {args:=args,res:=some (.bool true),after:=args}=some (.bool (true==true))from w_eq_bool (w_res rfl) w_lit) rfl
theorem attach_call{l:OpenLaw}{n:Nat}{q:Program}{loose:List Str}{XP:(Str->Option Value)->Heap->Prop}{YP:World->Heap->Prop}{d:DefRec}
  (hn:l.most=some n) (hdf:d.params.defaults=[])
  (call:∀(w:World) (s₀ s₁:Shared) (mg mb:Str->Option Value) (fa:Addr) (o:Obj) (pm cd doc:Value) (a:Addr) (vs:List Value) (ns:List Int),
   Ground q loose [] XP w s₀ mg mb s₁.heap->YP w s₁.heap ->
   s₁.heap.get? fa=some o->o.data= .func (docDef d.name d.params d.body d.scope pm cd doc)->s₁.heap.CodeRec cd d.name->mg d.name=some (.ref fa) ->
   s₁.heap.get? a=some {cls:=.type "list",data:=.seq vs.toArray}->IntsAre vs ns->ns.length<=n->s₁.gens=#[] ->
   codeAny (model l.prog w) callerA (.call (.ref fa) ⟨[.ref a],[]⟩) (λr s'=>r= .ok (.ret (.bool true))/\OldK s₁.heap s'.heap/\s'.os=s₁.os/\AllBare s'.gens) s₁) :
  WalkO q loose XP YP l.row.toRowW d [] (λf vs=>PySem.call f vs):=by
 intro w s₀ s₁ mg mb G Y fa o pm cd doc dV kV ho hd hcd hD hmg hg args vals as hpre hlay hrd hwl hlo;obtain rfl:dV= .none:=Dflts.none hD hdf;obtain rfl:kV= .none:=Dflts.noKw hD;obtain⟨a,vs,ns,rfl,rfl,hobj,hints,hlen⟩:=script_of hn hpre hwl;refine enter_call (qBi (call w s₀ s₁ mg mb fa o pm cd doc a vs ns G Y ho (fd_plain hd) hcd hmg hobj hints hlen hg) λr s' hq=>?_);obtain⟨rfl,h2,h3,h4⟩:=hq;exact⟨.inl ⟨.bool true,.bool true,[],rfl,λ_=>rfl,.bool true,post_true l _,λ_=>⟨List.Pairwise.nil,λ_ hm=>(nomatch hm)⟩⟩,h2,h3,h4⟩
end Att
namespace L2
open PySem PySem.Spec PyProof.Rows
variable{X:Cx}{x qual:Str}{pos:Pos}{u:Value}{y:V}{P:Program}{w:World}{H H':Hp}{a:Addr}
theorem vals_ints:∀{vs:List Value}{ns:List Int},IntsAre vs ns->Vals (ns.map V.int) vs
 |_,_,.nil=>.nil
 |_,_,.cons n t h=>.cons ⟨t,rfl⟩ (vals_ints h)
def zGh(s:Stmt)(j:Nat):Stmt:=match s with
 | .ClassDef _ _ _ body _ _ _ _ _ _ _=>body.getD j (.Pass ⟨0,0,0,0⟩)
 |_=>.Pass ⟨0,0,0,0⟩
def zBh(s:Stmt):Arguments:=match s with
 | .FunctionDef _ a _ _ _ _ _ _ _ _=>a
 |_=>{posonlyargs:=[],args:=[],vararg:=none,kwonlyargs:=[],kw_defaults:=[],kwarg:=none,defaults:=[]}
def zBa(s:Stmt):List Stmt:=match s with
 | .FunctionDef _ _ b _ _ _ _ _ _ _=>b
 |_=>[]
def zAd(s:Stmt):Scope:=match s with
 | .FunctionDef _ _ _ _ _ _ sc _ _ _=>sc
 |_=>{kind:=.function,names:=[],isGenerator:=false,isCoroutine:=false}
abbrev CX0:CXT:=λ_ _ _ _ _ _=>False
abbrev E0:XK:=λ_ _ _=>False
theorem pass0 :zH8 CX0 X E0:=λ_ _ _ _ _ _ _ h=>h.elim
structure Fun(K:PySem.W.Frag)(x qual:Str)(st:Stmt)(f:Addr)(fd:FuncData):Prop where
 ex:∃(oc:Value)(od:Option Addr)(kV doc pm:Value)(an:Option Addr)(cdv ct:Value) (osl:Array (Option Value)),
  fd=PySem.W.fnOf x qual (zBh st) (zBa st) (zAd st) .none kV doc pm an cdv ct/\K.lookup f=some ⟨oc,od,.func fd,osl⟩/\PySem.W.codeIn K cdv qual=true
 kp:PySem.W.keepIn K (.ref f)=true
section
variable{P:Program}{w:World}{K:PySem.W.Frag}{mg:Str->Option Value}{base:Heap}
theorem Fun.ok{st:Stmt}{f:Addr}{fd:FuncData}{N ps:List Str}{k:Nat}{sp:Sp}(F:Fun K x qual st f fd)(S:FnScope N ps (zAd st))(len:∀vs H Q E,sp vs H Q E->vs.length=ps.length)
  (hbody:∀(cdv:Value) (A:Around) (outer:List Env) (s:Shared) (H:Hp) (vs:List V) (Q:VK) (E:XK),Room k (A.deeper (envOfC qual (zAd st) s.heap.objs.size f cdv))->sp vs H Q E ->
   ∃t,PSs (cxOf CX0 P w K mg base N qual (zAd st) f cdv A outer s H E).nox (zBa st) t/\t {nx:=λ_ H'=>Q .non H',rt:=Q} (start N vs) H):FnOk P w K mg base CX0 (k+1) f fd ps sp:=by
 obtain⟨oc,od,kV,doc,pm,an,cdv,ct,osl,rfl,lk,hcd⟩:=F.ex;refine fn_of lk hcd S len λA outer s H vs Q E hr hsp=>?_;obtain⟨t,h,q⟩:=hbody cdv A outer s H vs Q E hr hsp;exact⟨t,h.nox,q⟩
theorem Fun.binds{st:Stmt}{f:Addr}{fd:FuncData}{ps:List Str}(F:Fun K x qual st f fd)
  (h:∀(kV doc pm:Value)(an:Option Addr)(cdv ct:Value)(us:List Value),us.length=ps.length->bindArgs (PySem.W.fnOf x qual (zBh st) (zBa st) (zAd st) .none kV doc pm an cdv ct) ⟨us,[]⟩=pure (ps.zip us)):zD7 K fd ps []:=by
 obtain⟨oc,od,kV,doc,pm,an,cdv,ct,osl,rfl,lk,hcd⟩:=F.ex;exact .all (h kV doc pm an cdv ct)
theorem fun_mk{st:Stmt}{f:Addr}{oc:Value}{od an:Option Addr}{osl:Array (Option Value)}{kV doc pm cdv ct:Value}(l:K.lookup f=some ⟨oc,od,.func (PySem.W.fnOf x qual (zBh st) (zBa st) (zAd st) .none kV doc pm an cdv ct),osl⟩)
  (c:PySem.W.codeIn K cdv qual=true) (k:PySem.W.keepIn K (.ref f)=true):Fun K x qual st f (PySem.W.fnOf x qual (zBh st) (zBa st) (zAd st) .none kV doc pm an cdv ct):=⟨⟨oc,od,kV,doc,pm,an,cdv,ct,osl,rfl,l,c⟩,k⟩
end
theorem zCn{A:Around}{k:Nat}(hr:Room k A):A.units+1<cLine:=qCk (Nat.add_le_add_left (by decide:1<=64) _) hr.units
section
variable{X:Cx}
theorem pv(i:Nat){pos:Pos}(hN:X.N[i]?=some x:=by rfl)(hv:Vis X.env.scope x:=by first|exact Or.inl rfl|exact Or.inr (Or.inl rfl)|exact Or.inr (Or.inr rfl))(hd:(x==("__debug__": Str))=false:=by decide)
  (hcd:(x==("__classdict__": Str))=false:=by decide):PE X (.Name x pos) (tVar i):=pe_var hN hv hd hcd
end
theorem iteF{A B:Prop}(h:B):if false=true then A else B:=by
 rw[qAB qAn];exact h
theorem iteT{A B:Prop}(h:A):if true=true then A else B:=by
 rw[qAC rfl];exact h
theorem ite2{c A B:Prop}[Decidable c](h1:c->A)(h2:¬c->B):if c then A else B:=by
 by_cases h:c
 .rw [qAC h];exact h1 h
 .rw [qAB h];exact h2 h
section
variable{κ:Type}[DecidableEq κ]
def valV(kvs:List (κ×V))(k:κ):Option V:=(kvs.find? λkv=>decide (kv.1=k)).map (·.2)
def putK(kvs:List (κ×V))(k:κ)(v:V):List (κ×V) :=
 if(kvs.any λkv=>decide (kv.1=k))=true then kvs.map (λkv=>if kv.1=k then(kv.1,v)else kv)else kvs++[(k,v)]
def zJ0(kvs:List (κ×V))(k:κ):List (κ×V):=kvs.filter λkv=>decide (kv.1≠k)
theorem zBo{p:κ×V}{r:List (κ×V)}{k:κ}(e:p.1=k):valV (p::r) k=some p.2:=by simp[valV,qCO,e]
theorem zBp{p:κ×V}{r:List (κ×V)}{k:κ}(e:¬p.1=k):valV (p::r) k=valV r k:=by simp[valV,qCO,e]
theorem zCw(k:κ):∀kvs:List (κ×V),(kvs.any λkv=>decide (kv.1=k))=(valV kvs k).isSome
 |[]=>rfl
 |p::r=>by
  rw[qCM]
  by_cases e:p.1=k
  .simp only[zBo e,qAS e,Bool.true_or,Option.isSome_some]
  .rw [zBp e,qAa e,Bool.false_or];exact zCw k r
theorem valV_map(k j:κ)(y:V):∀kvs:List (κ×V),valV (kvs.map λkv=>if kv.1=k then(kv.1,y)else kv) j=(valV kvs j).map λx=>if j=k then y else x
 |[]=>rfl
 |p::r=>by
  have ih:=valV_map k j y r;rw[qAk]
  by_cases h:p.1=k
  .rw [qAC h]
   by_cases e:p.1=j
   .rw [zBo (p:=(p.1,y)) e,zBo e,qDC,qAC (e.symm.trans h)]
   .rw [zBp (p:=(p.1,y)) e,zBp e,ih]
  .rw [qAB h]
   by_cases e:p.1=j
   .rw [zBo (p:=p) e,zBo e,qDC,qAB (λz=>h (e.trans z))]
   .rw [zBp (p:=p) e,zBp e,ih]
theorem valV_snoc(k j:κ)(y:V):∀kvs:List (κ×V),valV kvs k=none->valV (kvs++[(k,y)]) j=if j=k then some y else valV kvs j
 |[],_=>by
  by_cases e:k=j
  .rw [qAC e.symm];exact zBo (p:=(k,y)) e
  .rw [qAB (λz=>e z.symm)];exact zBp (p:=(k,y)) e
 |p::r,hn=>by
  rw[List.cons_append];have hk:¬p.1=k:=λz=>by rw[zBo z]at hn;cases hn
  rw[zBp hk]at hn;have ih:=valV_snoc k j y r hn
  by_cases e:p.1=j
  .rw [zBo e,zBo e,qAB (λz=>hk (e.trans z))]
  .rw [zBp e,zBp e,ih]
theorem zI4(kvs:List (κ×V))(k j:κ)(y:V):valV (putK kvs k y) j=if j=k then some y else valV kvs j:=by
 unfold putK
 by_cases a:(kvs.any λkv=>decide (kv.1=k))=true
 .rw [qAC a,valV_map];rw[zCw]at a
  by_cases e:j=k
  .obtain ⟨x,hx⟩:=qDq.mp a;rw[qAC e,e,hx,qDC,qAC rfl]
  .rw [qAB e]
   cases valV kvs j with
   |none=>rfl
   |some x=>rw[qDC,qAB e]
 .rw [qAB a];refine valV_snoc k j y kvs ?_;rw[zCw]at a
  cases q:valV kvs k with
  |none=>rfl
  |some x=>rw[q]at a;exact(a rfl).elim
theorem zDt(kvs:List (κ×V))(k:κ)(v:V):(putK kvs k v).length<=kvs.length+1:=by
 unfold putK;split
 .rw [qAD];lia
 .rw [qAl,qAc,qBV];lia
theorem putK_new{kvs:List (κ×V)}{k:κ}(v:V)(h:valV kvs k=none):putK kvs k v=kvs++[(k,v)]:=by
 unfold putK;rw[zCw,h];exact qAB (by decide)
theorem RelO.isSome_eq{o:Option V}{u:Option Value}(r:RelO o u):o.isSome=u.isSome:=by
 cases o with
 |none=>cases u with
  |none=>rfl
  |some _=>exact(show False from r).elim
 |some _=>cases u with
  |none=>exact(show False from r).elim
  |some _=>rfl
theorem KV.val{kvs:List (κ×V)}{vs:List (κ×Value)}(r:KV kvs vs)(k:κ):RelO (valV kvs k) (valueAt vs k):=by
 unfold KV at r
 induction r with
 |nil=>exact True.intro
 |@cons p q ps qs h t ih=>
  obtain⟨h1,h2⟩:=h
  by_cases e:p.1=k
  .have e':q.1=k:=h1.symm.trans e;have b:valueAt (q::qs) k=some q.2:=by simp[valueAt,qCO,e']
   rw[zBo e,b];exact h2
  .have e':¬q.1=k:=λz=>e (h1.trans z);have b:valueAt (q::qs) k=valueAt qs k:=by simp[valueAt,qCO,e']
   rw[zBp e,b];exact ih
theorem KV.any{kvs:List (κ×V)}{vs:List (κ×Value)}(r:KV kvs vs)(k:κ):(kvs.any λkv=>decide (kv.1=k))=vs.any λkv=>decide (kv.1=k):=by
 unfold KV at r
 induction r with
 |nil=>rfl
 |cons h t ih=>rw[qCM,qCM,ih,h.1]
theorem KV.repl{kvs:List (κ×V)}{vs:List (κ×Value)}(r:KV kvs vs)(k:κ)(ry:RelV y u) :
  KV (kvs.map λkv=>if kv.1=k then(kv.1,y)else kv) (vs.map λkv=>if kv.1=k then(kv.1,u)else kv):=by
 unfold KV at r ⊢
 induction r with
 |nil=>exact .nil
 |@cons p q ps qs h t ih=>
  rw[qAk,qAk];refine .cons ?_ ih;obtain⟨h1,h2⟩:=h
  by_cases e:p.1=k
  .rw [qAC e,qAC (h1.symm.trans e)];exact⟨h1,ry⟩
  .rw [qAB e,qAB (λz=>e (h1.trans z))];exact⟨h1,h2⟩
theorem KV.put{kvs:List (κ×V)}{vs:List (κ×Value)}(r:KV kvs vs)(k:κ)(ry:RelV y u):KV (putK kvs k y) (stored vs k u):=by
 unfold putK stored;rw[r.any k]
 by_cases e:(vs.any λkv=>decide (kv.1=k))=true
 .rw [qAC e,qAC e];exact r.repl k ry
 .rw [qAB e,qAB e];exact Paired.snoc r ⟨rfl,ry⟩
theorem KV.drop{kvs:List (κ×V)}{vs:List (κ×Value)}(r:KV kvs vs)(k:κ):KV (zJ0 kvs k) (without vs k):=by
 unfold KV at r ⊢;unfold zJ0 without
 induction r with
 |nil=>exact .nil
 |@cons p q ps qs h t ih=>
  obtain⟨h1,h2⟩:=h;rw[qAu,qAu]
  by_cases e:p.1=k
  .have a:¬decide (p.1≠k)=true:=by simp[e]
   have b:¬decide (q.1≠k)=true:=by simp[h1.symm.trans e]
   rw[qAB a,qAB b];exact ih
  .have e':¬q.1=k:=λz=>e (h1.trans z);have a:decide (p.1≠k)=true:=by simp[e]
   have b:decide (q.1≠k)=true:=by simp[e']
   rw[qAC a,qAC b];exact .cons ⟨h1,h2⟩ ih
theorem KV.length{kvs:List (κ×V)}{vs:List (κ×Value)}(r:KV kvs vs):kvs.length=vs.length:=qCH r
theorem dropK_le(kvs:List (κ×V))(k:κ):(zJ0 kvs k).length<=kvs.length:=qAq _ _
end
theorem zJu{k:Key}(r:RelV (kV k) u):(zAn P w).is k u=true:=by
 cases k with
 |inl i=>obtain⟨t,e⟩:=(show∃t,u=Value.int i t from r);subst e;exact mixKind_int P w i t
 |inr x=>obtain⟨t,e⟩:=(show∃t,u=Value.str x t from r);subst e;exact mixKind_str P w x t
theorem items_are :∀{ks:List Key}{us:List Value},Vals (ks.map kV) us->ItemsAre (zAn P w) ks us
 |[],_,r=>by rw[List.map_nil]at r;cases r;exact .nil
 |k::ks,_,r=>by
  rw[qAk]at r
  cases r with
  |cons h t=>exact .cons (zJu h) (items_are t)
abbrev KT(H:Hp):List (List Key×V)->List (List Key×Addr×Value)->Prop:=Paired λp q=>p.1=q.1/\H q.2.1=some (.tup (p.1.map kV))/\RelV p.2 q.2.2
theorem KT.val{kvs:List (List Key×V)}{xs:List (List Key×Addr×Value)}(r:KT H kvs xs)(k:List Key):RelO (valV kvs k) ((atKey xs k).map (·.2)):=by
 induction r with
 |nil=>exact True.intro
 |@cons p q ps qs h t ih=>
  obtain⟨h1,_,h2⟩:=h
  by_cases e:p.1=k
  .have e':q.1=k:=h1.symm.trans e;have b:atKey (q::qs) k=some q.2:=by simp[atKey,qCO,e']
   rw[zBo e,b];exact h2
  .have e':¬q.1=k:=λz=>e (h1.trans z);have b:atKey (q::qs) k=atKey qs k:=by simp[atKey,qCO,e']
   rw[zBp e,b];exact ih
theorem KT.repl{kvs:List (List Key×V)}{xs:List (List Key×Addr×Value)}(r:KT H kvs xs)(k:List Key)(ry:RelV y u) :
  KT H (kvs.map λkv=>if kv.1=k then(kv.1,y)else kv) (xs.map (putAt k u)):=by
 induction r with
 |nil=>exact .nil
 |@cons p q ps qs h t ih=>
  rw[qAk,qAk];refine .cons ?_ ih;obtain⟨h1,h2,h3⟩:=h;unfold putAt
  by_cases e:p.1=k
  .rw [qAC e,qAC (h1.symm.trans e)];exact⟨h1,h2,ry⟩
  .rw [qAB e,qAB (λz=>e (h1.trans z))];exact⟨h1,h2,h3⟩
theorem KT.put{kvs:List (List Key×V)}{xs:List (List Key×Addr×Value)}(r:KT H kvs xs)(k:List Key){b:Addr}(hb:H b=some (.tup (k.map kV)))(ry:RelV y u) :
  KT H (putK kvs k y) (storedH xs k b u):=by
 have e:(kvs.any λkv=>decide (kv.1=k))=(atKey xs k).isSome:=by
  rw[zCw,(r.val k).isSome_eq,Option.isSome_map]
 unfold putK storedH;rw[e]
 by_cases q:(atKey xs k).isSome=true
 .rw [qAC q,qAC q];exact r.repl k ry
 .rw [qAB q,qAB q];exact Paired.snoc r ⟨rfl,hb,ry⟩
theorem KT.keeps{kvs:List (List Key×V)}{xs:List (List Key×Addr×Value)}(r:KT H kvs xs)(ht:∀b ys,H b=some (.tup ys)->H' b=some (.tup ys)):KT H' kvs xs :=
 Paired.mapP r λ_ _ z=>⟨z.1,ht _ _ z.2.1,z.2.2⟩
section
variable{P:Program}{w:World}{H:Hp}{h:Heap}{a:Addr}
theorem rd_of{u:HO}(ok:HOk P w H h)(e:Rd H a u):zA0 P w H h a u:=e.ok ok
theorem dk_rd{kvs:List (Key×V)}(ok:HOk P w H h)(e:Rd H a (.dK kvs)):kvs.length<=sizeLine/\(a==sysModules)=false/\∃vs,KV kvs vs/\h.DictOf (zAn P w) a vs :=
 show zA0 P w H h a (.dK kvs)from rd_of ok e
theorem dk_of{kvs:List (Key×V)}(ok:HOk P w H h)(e:H a=some (.dK kvs)):kvs.length<=sizeLine/\(a==sysModules)=false/\∃vs,KV kvs vs/\h.DictOf (zAn P w) a vs:=dk_rd ok (.inl e)
theorem key_of{ks:List Key}(ok:HOk P w H h)(e:H a=some (.tup (ks.map kV))):(tupleKind (zAn P w)).is h ks a:=by
 obtain⟨_,its,r,o,h1,h2,n,h3⟩:=(show zA0 P w H h a (.tup (ks.map kV))from ok a _ e);exact⟨o,its.toArray,n,h1,h2,h3,by simpa using items_are r⟩
theorem dt_rd{kvs:List (List Key×V)}(ok:HOk P w H h)(e:Rd H a (.dT kvs)):kvs.length<=sizeLine/\(a==sysModules)=false /\
  ∃xs,KT H kvs xs/\h.DictOfH (tupleKind (zAn P w)) a xs:=by
 obtain⟨z,y,xs,r,o,es,ep,h1,h2,h3,h4,h5⟩:=(show zA0 P w H h a (.dT kvs)from rd_of ok e);refine⟨z,y,xs,r,o,es,ep,h1,h2,h3,h4,λx hx=>?_,h5⟩
 have all:∀{l:List (List Key×V)} {m:List (List Key×Addr×Value)},KT H l m->∀x∈m,(tupleKind (zAn P w)).is h x.1 x.2.1:=by
  intro l m q
  induction q with
  |nil=>intro x hx;exact nomatch hx
  |@cons p q ps qs hq t ih=>
   intro x hx;rcases qAM.mp hx with e|hx
   .subst e;exact key_of ok (by rw[<-hq.1];exact hq.2.1)
   .exact ih x hx
 exact all r x hx
theorem dt_of{kvs:List (List Key×V)}(ok:HOk P w H h)(e:H a=some (.dT kvs)):kvs.length<=sizeLine/\(a==sysModules)=false /\
  ∃xs,KT H kvs xs/\h.DictOfH (tupleKind (zAn P w)) a xs:=dt_rd ok (.inl e)
end
def DGet(H:Hp)(a:Addr)(y:V)(r:Option V):Prop :=
 (∃kvs k,Rd H a (.dK kvs)/\y=kV k/\r=valV kvs k)\/∃kvs k b,Rd H a (.dT kvs)/\y= .ref b/\H b=some (.tup (k.map kV))/\r=valV kvs k
def DPut(H:Hp)(a:Addr)(y v:V)(H':Hp):Prop :=
 (∃kvs k,H a=some (.dK kvs)/\y=kV k/\kvs.length<sizeLine/\H'=upd H a (.dK (putK kvs k v))) \/
 ∃kvs k b,H a=some (.dT kvs)/\y= .ref b/\H b=some (.tup (k.map kV))/\kvs.length<sizeLine/\H'=upd H a (.dT (putK kvs k v))
theorem DGet.k{kvs:List (Key×V)}{k:Key}(e:H a=some (.dK kvs)):DGet H a (kV k) (valV kvs k):=.inl ⟨kvs,k,.inl e,rfl,rfl⟩
theorem DPut.k{kvs:List (Key×V)}{k:Key}{v:V}(e:H a=some (.dK kvs))(hl:kvs.length<sizeLine):DPut H a (kV k) v (upd H a (.dK (putK kvs k v))):=.inl ⟨kvs,k,e,rfl,hl,rfl⟩
section
variable{X:Cx}{pins:List (Addr×Obj)}{σ:St}{H:Hp}{s:Shared}{a:Addr}{y v:V}{u r:Value}{o:Option V}{A:Around}{E:Value->Shared->Prop}
theorem Inv.big(I:Inv X pins σ H s):sysModules<s.heap.objs.size:=by
 have h:mainGlobals<s.heap.objs.size:=(I.mod.glob.keeps I.bk).lt;exact qCl (by decide) h
theorem d_getItem{Q:Value->Shared->Prop}(hu:A.units+1<cLine)(I:Inv X pins σ H s)(g:DGet H a y (some v))(ry:RelV y u)(h:∀w' s',Inv X pins σ H s'->RelV v w'->Q w' s') :
  wpAny (model X.prog X.w) A (getItem (.ref a) u) Q E s:=by
 rcases g with⟨kvs,k,e,ey,l⟩|⟨kvs,k,b,e,ey,eb,l⟩
 .subst ey;obtain⟨z,hd,vs,rel,dd⟩:=dk_rd I.hok e;obtain⟨w',hw,rw'⟩:=RelO.some_of (v:=v) (o:=valueAt vs k) (by rw[l];exact rel.val k);exact wpAny_getItem_of (zJu ry) dd.mapOf hw (h w' _ (I.tok _) rw')
 .subst ey
  cases (show u=Value.ref b from ry)
  obtain⟨z,hd,xs,rel,dd⟩:=dt_rd I.hok e;obtain⟨w',hw,rw'⟩:=RelO.some_of (v:=v) (o:=(atKey xs k).map (·.2)) (by rw[l];exact rel.val k);obtain⟨p,hp,hp2⟩:=qBH.mp hw;refine wpAny_getItem_heap (qDD hu) (key_of I.hok eb) dd hp ?_;rw[hp2];exact h w' _ (I.tok _) rw'
theorem d_in{Q:Value->Shared->Prop}(hu:A.units+1<cLine)(I:Inv X pins σ H s)(g:DGet H a y o)(ry:RelV y u)(h:∀s',Inv X pins σ H s'->Q (.bool o.isSome) s') :
  wpAny (model X.prog X.w) A (compareOp .In u (.ref a)) Q E s:=by
 rcases g with⟨kvs,k,e,ey,l⟩|⟨kvs,k,b,e,ey,eb,l⟩
 .subst ey;obtain⟨z,hd,vs,rel,dd⟩:=dk_rd I.hok e;refine wpAny_in_of (zJu ry) hd dd.mapOf ?_;rw[<-(rel.val k).isSome_eq,<-l];exact h _ (I.tok _)
 .subst ey
  cases (show u=Value.ref b from ry)
  obtain⟨z,hd,xs,rel,dd⟩:=dt_rd I.hok e;refine wpAny_in_heap (qDD hu) (key_of I.hok eb) hd dd ?_;have q:=(rel.val k).isSome_eq;rw[Option.isSome_map]at q;rw[<-q,<-l];exact h _ (I.tok _)
theorem d_notIn{Q:Value->Shared->Prop}(hu:A.units+1<cLine)(I:Inv X pins σ H s)(g:DGet H a y o)(ry:RelV y u)(h:∀s',Inv X pins σ H s'->Q (.bool (!o.isSome)) s') :
  wpAny (model X.prog X.w) A (compareOp .NotIn u (.ref a)) Q E s:=by
 rcases g with⟨kvs,k,e,ey,l⟩|⟨kvs,k,b,e,ey,eb,l⟩
 .subst ey;obtain⟨z,hd,vs,rel,dd⟩:=dk_rd I.hok e;refine wpAny_notIn_of (zJu ry) hd dd.mapOf ?_;rw[<-(rel.val k).isSome_eq,<-l];exact h _ (I.tok _)
 .subst ey
  cases (show u=Value.ref b from ry)
  obtain⟨z,hd,xs,rel,dd⟩:=dt_rd I.hok e;refine wpAny_notIn_heap (qDD hu) (key_of I.hok eb) hd dd ?_;have q:=(rel.val k).isSome_eq;rw[Option.isSome_map]at q;rw[<-q,<-l];exact h _ (I.tok _)
theorem zJ1{h':Heap}{t':Nat}{ob:HO}(I:Inv X pins σ H s)(mu:Mut (H a))(hs:Heap.SameBut a s.heap h')(he:∃q,h'.get? a=some q)(new:zA0 X.prog X.w (upd H a ob) h' a ob) :
  Inv X pins σ (upd H a ob) {s with heap:=h',toks:=t'} :=
 I.write (x:=a) (e:=a) mu (.inl rfl) (λb q hb z=>(hs.2 b hb).trans z) he new
theorem dk_new{h':Heap}{kvs:List (Key×V)}{vs:List (Key×Value)}(z:kvs.length<=sizeLine)(hd:(a==sysModules)=false)(rel:KV kvs vs)(dd:h'.DictOf (zAn P w) a vs) :
  zA0 P w H' h' a (.dK kvs):=⟨z,hd,vs,rel,dd⟩
theorem d_setItem{Q:Unit->Shared->Prop}(hu:A.units+1<cLine)(I:Inv X pins σ H s)(g:DPut H a y v H')(ry:RelV y u)(rv:RelV v r)(h:∀s',Inv X pins σ H' s'->Q () s') :
  wpAny (model X.prog X.w) A (setItem (.ref a) u r) Q E s:=by
 rcases g with⟨kvs,k,e,ey,l,eH⟩|⟨kvs,k,b,e,ey,eb,l,eH⟩
 .subst ey eH;obtain⟨z,hd,vs,rel,dd⟩:=dk_of I.hok e;have hz:vs.length<=sizeLine:=by rw[<-rel.length];exact z
  have hl:(putK kvs k v).length<=sizeLine:=by have:=zDt kvs k v;lia
  refine wpAny_setItem_pairs (hsz:=hz) (zJu ry) dd λh' dd' hs=>h _ ?_;have he:∃q,h'.get? a=some q:=let⟨q,_,_,hq,_⟩:=dd';⟨q,hq⟩;exact zJ1 I (by rw[e];exact True.intro) hs he (dk_new hl hd (rel.put k rv) dd')
 .subst ey eH
  cases (show u=Value.ref b from ry)
  obtain⟨z,hd,xs,rel,dd⟩:=dt_of I.hok e;have hz:xs.length<=sizeLine:=by rw[<-qCH rel];exact z
  have hl:(putK kvs k v).length<=sizeLine:=by have:=zDt kvs k v;lia
  refine wpAny_setItem_heap (hsz:=hz) (qDD hu) (key_of I.hok eb) dd λh' dd' hs=>h _ ?_;obtain⟨q,es,ep,hq,h2,h3,h4,_,h5⟩:=dd';refine zJ1 I (by rw[e];exact True.intro) hs ⟨q,hq⟩ ⟨hl,hd,_,(rel.put k eb rv).keeps λc ys ec=>?_,q,es,ep,hq,h2,h3,h4,h5⟩;rw[upd_ne (zB8 ec e (λz=>nomatch z))];exact ec
end
section
variable{X:Cx}{pins:List (Addr×Obj)}{σ:St}{H:Hp}{s:Shared}{a:Addr}{kvs:List (Key×V)}{k:Key}{u:Value}{A:Around}{E:Value->Shared->Prop}
theorem d_pop{v:V}{more:List Value}{Q:Value->Shared->Prop}(I:Inv X pins σ H s)(e:H a=some (.dK kvs))(ry:RelV (kV k) u)(l:valV kvs k=some v)(hm:more=[]\/∃x,more=[x])
  (h:∀w' s',Inv X pins σ (upd H a (.dK (zJ0 kvs k))) s'->RelV v w'->Q w' s'):wpAny (model X.prog X.w) A (call (.builtin "dict.pop") (.ref a::u::more)) Q E s:=by
 obtain⟨z,hd,vs,rel,dd⟩:=dk_of I.hok e;obtain⟨w',hw,rw'⟩:=RelO.some_of (v:=v) (o:=valueAt vs k) (by rw[<-l];exact rel.val k)
 have hp:(keyPart u).isSome=true:=by
  cases k with
  |inl i=>obtain⟨t,q⟩:=(show∃t,u=Value.int i t from ry);subst q;rfl
  |inr x=>obtain⟨t,q⟩:=(show∃t,u=Value.str x t from ry);subst q;rfl
 have ha:argsOk "dict.pop" ⟨.ref a::u::more,[]⟩:=by
  rcases hm with q|⟨x,q⟩
  .subst q;exact PySem.F.args_dict_pop_2 _ _
  .subst q;exact PySem.F.args_dict_pop_3 _ _ _
 refine call_meetsIn qDu dd.typeIs PySem.F.entry_dict_pop ha (meets_dict_pop_there (zAn X.prog X.w) a (zJu ry) more hm hp)
  ⟨vs,w',dd,by rw[<-rel.length];exact z,hw,λh' dd' hs=>h w' _ ?_ rw'⟩
 have he:∃q,h'.get? a=some q:=let⟨q,_,_,hq,_⟩:=dd';⟨q,hq⟩;exact zJ1 I (by rw[e];exact True.intro) hs he (dk_new (qAL (dropK_le kvs k) z) hd (rel.drop k) dd')
theorem d_popD{r:Value}{Q:Value->Shared->Prop}(I:Inv X pins σ H s)(e:H a=some (.dK kvs))(ry:RelV (kV k) u)(l:valV kvs k=none)(h:∀s',Inv X pins σ H s'->Q r s') :
  wpAny (model X.prog X.w) A (call (.builtin "dict.pop") [.ref a,u,r]) Q E s:=by
 obtain⟨z,hd,vs,rel,dd⟩:=dk_of I.hok e;have hn:valueAt vs k=none:=RelO.none_of (by rw[<-l];exact rel.val k)
 have hp:(keyPart u).isSome=true:=by
  cases k with
  |inl i=>obtain⟨t,q⟩:=(show∃t,u=Value.int i t from ry);subst q;rfl
  |inr x=>obtain⟨t,q⟩:=(show∃t,u=Value.str x t from ry);subst q;rfl
 exact call_meetsIn qDu dd.typeIs PySem.F.entry_dict_pop (PySem.F.args_dict_pop_3 _ _ _) (meets_dict_pop_default (zAn X.prog X.w) a (zJu ry) hd hp r) ⟨vs,dd,hn,h _ (I.tok _)⟩
theorem d_len{Q:Value->Shared->Prop}(I:Inv X pins σ H s)(e:Rd H a (.dK kvs))(h:∀t s',Inv X pins σ H s'->Q (.int kvs.length t) s'):wpAny (model X.prog X.w) A (call (.builtin "len") [.ref a]) Q E s:=by
 obtain⟨z,hd,vs,rel,dd⟩:=dk_rd I.hok e;refine call_len_dict hd dd (by rw[<-rel.length];rw[qAI]at z;lia) ?_;rw[<-rel.length];exact h _ _ (I.tok _)
end
def NoSl(i:Expr):Prop:=∀ov iv,subscripted i false ov iv=operate [ov,iv] (getItem ov iv)
theorem subD_of{prog:Program}{A:Around}{E:Value->Shared->Prop}{s:Shared}{env:Env}{value slice:Expr}{T id:String}{Q:Value->Shared->Prop}
  (hl:typeLookup (.type T) "__getitem__"=pure (some (.builtin id))) (hs:NoSl slice)
  (h:wpAny (model prog w) A (eval value env) (λo s₁=>wpAny (model prog w) A (eval slice env) (λi s₂=>s₂.TypeIs o T/\wpAny (model prog w) A (getItem o i) Q E s₂) E s₁) E s) :
  wpAny (model prog w) A (eval (.Subscript value slice pos) env) Q E s:=by
 refine Subscript_ (qAz h (λo s₁ h₁=>qAz h₁ (λi s₂ h₂=>?_) λ_ _ x=>x) λ_ _ x=>x);obtain⟨hT,h₂⟩:=h₂;unfold subscriptTail;refine qAA ?_;rw[getitemInPython_of_ne hT.not_modules];refine qAA (qDE hT hl ?_)
 have fin:wpAny (model prog w) A (subscripted slice false o i) (λr s₃=>wpAny (model prog w) A (letTemporaryGo value o r >>= λ_=>pure r) Q E s₃) E s₂:=by
  rw[hs o i];exact wpAny_operating (qAz h₂ (λr s₃ h₃=>qAA (wpAny_letTemporaryGo (qAE h₃))) λ_ _ x=>x)
 first
  |exact qAE (qAA fin)
  |exact qAA (qAE (qAA fin))
  |exact qAA fin
theorem dict_typeIs{pins:List (Addr×Obj)}{σ:St}{s:Shared}{o:Option V}(I:Inv X pins σ H s)(g:DGet H a y o):s.TypeIs (.ref a) "dict":= by
 rcases g with⟨kvs,k,e,_,_⟩|⟨kvs,k,b,e,_,_,_⟩
 .obtain ⟨_,_,vs,_,dd⟩:=dk_rd I.hok e;exact dd.typeIs
 .obtain ⟨_,_,xs,_,dd⟩:=dt_rd I.hok e;exact dd.typeIs
def tDGet(td ty:TE):TE:=λσ H Q=>td σ H λx H1=>ty σ H1 λy H2=>∃a v,x= .ref a/\DGet H2 a y (some v)/\Q v H2
def tDIn(ty td:TE):TE:=λσ H Q=>ty σ H λy H1=>td σ H1 λx H2=>∃a o,x= .ref a/\DGet H2 a y o/\Q (.bl o.isSome) H2
def tDNotIn(ty td:TE):TE:=λσ H Q=>ty σ H λy H1=>td σ H1 λx H2=>∃a o,x= .ref a/\DGet H2 a y o/\Q (.bl (!o.isSome)) H2
def sDPut(td ty tv:TE):TS:=λD σ H=>tv σ H λv H1=>td σ H1 λx H2=>ty σ H2 λy H3=>∃a H4,x= .ref a/\DPut H3 a y v H4/\D.nx σ H4
section
variable{X:Cx}{o i e value:Expr}{pos pos' tpos:Pos}{td ty tv:TE}
theorem zAs(hu:X.A.units+1<cLine)(ho:PE X o td)(hi:PE X i ty)(hs:NoSl i):PE X (.Subscript o i pos) (tDGet td ty):=by
 intro pins s σ H Q I h;refine subD_of PySem.F.slot_dict_getitem.lookup hs (thn (ho pins s σ H _ I h) λu s1 ⟨x,H1,I1,rx,q1⟩=>thn (hi pins s1 σ H1 _ I1 q1) λiv s2 ⟨y,H2,I2,ry,a,v,ex,g,q2⟩=>?_);subst ex;obtain rfl:u=Value.ref a:=rx;exact⟨dict_typeIs I2 g,d_getItem hu I2 g ry λw' s3 I3 rw'=>⟨v,H2,I3,rw',q2⟩⟩
theorem zFq(hu:X.A.units+1<cLine)(hi:PE X i ty)(ho:PE X o td):PC X .In i o (tDIn ty td):=by
 intro pins s σ H Q I h;refine thn (hi pins s σ H _ I h) λiv s1 ⟨y,H1,I1,ry,q1⟩=>thn (ho pins s1 σ H1 _ I1 q1) λu s2 ⟨x,H2,I2,rx,a,ov,ex,g,q2⟩=>?_;subst ex;obtain rfl:u=Value.ref a:=rx;exact d_in hu I2 g ry λs3 I3=>⟨.bl ov.isSome,H2,I3,rfl,q2⟩
theorem zEg(hu:X.A.units+1<cLine)(hi:PE X i ty)(ho:PE X o td):PC X .NotIn i o (tDNotIn ty td):=by
 intro pins s σ H Q I h;refine thn (hi pins s σ H _ I h) λiv s1 ⟨y,H1,I1,ry,q1⟩=>thn (ho pins s1 σ H1 _ I1 q1) λu s2 ⟨x,H2,I2,rx,a,ov,ex,g,q2⟩=>?_;subst ex;obtain rfl:u=Value.ref a:=rx;exact d_notIn hu I2 g ry λs3 I3=>⟨.bl (!ov.isSome),H2,I3,rfl,q2⟩
theorem zB6(hu:X.A.units+1<cLine)(ho:PE X o td)(hi:PE X i ty)(hv:PE X value tv)(hs:swapsWith value (some (.Subscript o i pos')) pos.line X.env=pure false) :
  PS X (.Assign [.Subscript o i pos'] value pos) (sDPut td ty tv):=by
 intro pins s σ H D I h;refine wpAny_Assign_Subscript (thn (hv pins s σ H _ I h) λr s1 ⟨v,H1,I1,rv,q1⟩=>thn (ho pins s1 σ H1 _ I1 q1) λu s2 ⟨x,H2,I2,rx,q2⟩=>thn (hi pins s2 σ H2 _ I2 q2) λiv s3 ⟨y,H3,I3,ry,a,H4,ex,g,q3⟩=>?_) hs;subst ex;obtain rfl:u=Value.ref a:=rx;exact d_setItem hu I3 g ry rv λs4 I4=>⟨σ,H4,I4,q3⟩
end
theorem dk_empty(h:Heap)(hb:sysModules<h.objs.size):zA0 P w H (h.push {cls:=.type "dict",data:=.dict #[]}) h.objs.size (.dK []) :=
 ⟨qAd _,qBD.mpr (qAj (qAO hb)),[],.nil,Heap.DictOf.new h⟩
def tDNewK:TE:=λ_ H Q=>∀p,H p=none->Q (.ref p) (upd H p (.dK []))
section
variable{X:Cx}{pos:Pos}
theorem zBr:PE X (.Dict [] [] pos) tDNewK:=λpins s σ H Q I h=>
 wpAny_Dict_empty ⟨.ref s.heap.objs.size,_,I.laid (a:=s.heap.objs.size) (o:=.dK []) (t':=s.toks) (λ_ _ q=>qAG _ q) (qAF _) (dk_empty s.heap I.big),rfl,h _ (I.hok.fresh (qAF _))⟩
end
def tPairs:List (TE×TE)->St->Hp->(List (V×V)->Hp->Prop)->Prop
 |[],_,H,Q=>Q [] H
 |(tk,tv)::r,σ,H,Q=>tk σ H λx H1=>tv σ H1 λy H2=>tPairs r σ H2 λps H3=>Q ((x,y)::ps) H3
abbrev VV:List (V×V)->List (Value×Value)->Prop:=Paired λp q=>RelV p.1 q.1/\RelV p.2 q.2
def PPs(X:Cx)(pos:Pos)(keys:List (Option Expr))(values:List Expr)(trs:List (TE×TE)):Prop :=
 ∀(pins:List (Addr×Obj)) (s:Shared) (σ:St) (H:Hp) (Q:List (V×V)->Hp->Prop),Inv X pins σ H s->tPairs trs σ H Q ->
  wpAny (model X.prog X.w) X.A (evalPairs (pairTrees keys values X.env pos)) (λvs s'=>∃ps H',Inv X pins σ H' s'/\VV ps vs/\Q ps H') X.xe s
theorem pps_nil :PPs X pos [] [] []:=λpins s σ H Q I h=>pairTrees_nil_walk ⟨[],H,I,.nil,h⟩
theorem pps_cons{k v:Expr}{ks:List (Option Expr)}{vs:List Expr}{tk tv:TE}{trs:List (TE×TE)}(hk:PE X k tk)(hv:PE X v tv)(hr:PPs X pos ks vs trs) :
  PPs X pos (some k::ks) (v::vs) ((tk,tv)::trs):=λpins s σ H Q I h=>
 pairTrees_cons_walk (thn (hk pins s σ H _ I h) λu s1 ⟨x,H1,I1,rx,q1⟩=>thn (hv pins s1 σ H1 _ I1 q1) λw2 s2 ⟨y,H2,I2,ry,q2⟩=>thn (hr pins s2 σ H2 _ I2 q2) λws s3 ⟨ps,H3,I3,rel,q3⟩=>⟨(x,y)::ps,H3,I3,.cons ⟨rx,ry⟩ rel,q3⟩)
def mergeK(kvs more:List (Key×V)):List (Key×V):=more.foldl (λacc kv=>putK acc kv.1 kv.2) kvs
theorem KV.merge:∀{more:List (Key×V)} {rs:List (Key×Value)} {kvs:List (Key×V)} {vs:List (Key×Value)},KV more rs->KV kvs vs->KV (mergeK kvs more) (merged vs rs):=by
 intro more rs kvs vs r;unfold KV at r
 induction r generalizing kvs vs with
 |nil=>intro q;exact q
 |@cons p q ps qs h t ih=>
  intro r0
  have e:KV (putK kvs p.1 p.2) (stored vs q.1 q.2):=by
   have:=r0.put p.1 h.2;rw[<-h.1];exact this
  exact ih e
theorem zFw:∀(more kvs:List (Key×V)),(mergeK kvs more).length<=kvs.length+more.length
 |[],kvs=>by show kvs.length<=kvs.length+0;lia
 |p::r,kvs=>by
  have h1:=zFw r (putK kvs p.1 p.2);have h2:=zDt kvs p.1 p.2;show(mergeK (putK kvs p.1 p.2) r).length<=_;rw[qAc];lia
theorem zI0{P:Program}{w:World}:∀{kvs:List (Key×V)} {ws:List (Value×Value)},VV (kvs.map λkv=>(kV kv.1,kv.2)) ws->∃rs,Carries (zAn P w) ws rs/\KV kvs rs
 |[],_,r=>by rw[List.map_nil]at r;cases r;exact⟨[],True.intro,.nil⟩
 |p::kvs,_,r=>by
  rw[qAk]at r
  cases r with
  |@cons a b as bs h t=>
   obtain⟨rs,c,q⟩:=zI0 (P:=P) (w:=w) t;obtain⟨b1,b2⟩:=b;exact⟨(p.1,b2)::rs,⟨zJu h.1,rfl,c⟩,.cons ⟨rfl,h.2⟩ q⟩
def tDisp(trs:List (TE×TE)):TE:=λσ H Q=>∀p,H p=none->tPairs trs σ (upd H p (.dK [])) λps H2=>H2 p=some (.dK [])/\∃kvs:List (Key×V),ps=kvs.map (λkv=>(kV kv.1,kv.2))/\kvs.length<=15/\Q (.ref p) (upd H2 p (.dK (mergeK [] kvs)))
theorem pe_disp{keys:List (Option Expr)}{values:List Expr}{trs:List (TE×TE)}(h:PPs X pos keys values trs)(hall:keys.all (·.isSome)=true)(hl:keys.length=values.length)(h0:keys≠[])
  (h15:keys.length<=15):PE X (.Dict keys values pos) (tDisp trs):=by
 intro pins s σ H Q I q;have hn:=I.hok.fresh (qAF s.heap.objs.size);have I1:=I.laid (a:=s.heap.objs.size) (o:=.dK []) (h':=s.heap.push {cls:=.type "dict",data:=.dict #[]}) (t':=s.toks) (λ_ _ q=>qAG _ q) (qAF _) (dk_empty s.heap I.big);refine wpAny_Dict_walk (knd:=zAn X.prog X.w) hall hl h0 h15 (thn (h pins _ σ _ _ I1 (q _ hn)) λws s2 ⟨ps,H2,I2,rel,e,kvs,ep,lk,q2⟩=>?_);subst ep;obtain⟨rs,c,rk⟩:=zI0 (P:=X.prog) (w:=X.w) rel;obtain⟨z,hd,vs0,r0,dd⟩:=dk_of I2.hok e
 cases r0
 refine⟨rs,c,dd,λh' dd' hs=>⟨.ref s.heap.objs.size,_,?_,rfl,q2⟩⟩
 have hz:(mergeK [] kvs).length<=sizeLine:=by
  have h1:=zFw kvs [];rw[qBV]at h1;rw[qAI];lia
 have he:∃q,h'.get? s.heap.objs.size=some q:=let⟨q,_,_,hq,_⟩:=dd';⟨q,hq⟩;exact zJ1 I2 (by rw[e];exact True.intro) hs he (dk_new hz hd (rk.merge .nil) dd')
structure M2(X:Cx)(o:Expr)(m:Str)(apos:Pos)(e f:Expr)(cpos:Pos):Prop where
 base:attributeBase o m X.env (eval o X.env)=eval o X.env
 few:((backTo cpos (starEach [e,f] X.env)).all (λx=>!x.1)&&(backToKw cpos (keywordEach [] X.env)).all (λx=>x.1.isSome) &&decide (([e,f]:List Expr).length+([]:List Keyword).length+(if([]:List Keyword).isEmpty then 0 else 1)<30))=true
 line:(apos.endLine==cpos.line)=true
 trees:backTo cpos (starEach [e,f] X.env)=[(false,eval e X.env),(false,eval f X.env)]
def IsD(H:Hp)(a:Addr):Prop:=(∃kvs,Rd H a (.dK kvs))\/∃kvs,Rd H a (.dT kvs)
theorem isD_at{pins:List (Addr×Obj)}{σ:St}{s:Shared}(I:Inv X pins σ H s)(d:IsD H a) :
  s.TypeIs (.ref a) "dict"/\(∀b,Value.ref a= .ref b->∃ob,s.heap.get? b=some ob/\ob.dict=none)/\(a==sysModules)=false:=by
 rcases d with⟨kvs,e⟩|⟨kvs,e⟩
 .obtain ⟨_,hd,vs,_,dd⟩:=dk_rd I.hok e;refine⟨dd.typeIs,λb q=>?_,hd⟩
  cases q
  obtain⟨ob,_,_,h1,h2,_⟩:=dd;exact⟨ob,h1,h2.2.1⟩
 .obtain ⟨_,hd,xs,_,dd⟩:=dt_rd I.hok e;refine⟨dd.typeIs,λb q=>?_,hd⟩
  cases q
  obtain⟨ob,_,_,h1,h2,_⟩:=dd;exact⟨ob,h1,h2.2.1⟩
def tDPop2(td ty tx:TE):TE:=λσ H Q=>td σ H λx H1=>∃a,x= .ref a/\IsD H1 a/\ty σ H1 λy H2=>tx σ H2 λz H3=>∃kvs k,H3 a=some (.dK kvs)/\y=kV k /\
 (∀v,valV kvs k=some v->Q v (upd H3 a (.dK (zJ0 kvs k))))/\(valV kvs k=none->Q z H3)
section
variable{X:Cx}{o e f:Expr}{apos cpos:Pos}{td ty tx:TE}
theorem pe_dpop2(ho:PE X o td)(he:PE X e ty)(hf:PE X f tx)(m:M2 X o "pop" apos e f cpos):PE X (.Call (.Attribute o "pop" apos) [e,f] [] cpos) (tDPop2 td ty tx):=by
 intro pins s σ H Q I h;refine wpAny_Call_method m.base m.few m.line qCm qDu PySem.F.type_dict_pop (thn (ho pins s σ H _ I h) λu s1 ⟨x,H1,I1,rx,a,ex,d,q1⟩=>?_);subst ex;obtain rfl:u=Value.ref a:=rx;obtain⟨t1,t2,_⟩:=isD_at I1 d;refine⟨t1,t2,?_⟩;rw[m.trees]
 refine qCg rfl (Calls.evalArgs_plain (Calls.spliced_cons (thn (he pins s1 σ H1 _ I1 q1) λiv s2 ⟨y,H2,I2,ry,q2⟩=>Calls.spliced_cons (thn (hf pins s2 σ H2 _ I2 q2) λfv s3 ⟨z,H3,I3,rz,kvs,k,ea,ey,q3,q4⟩=>Calls.spliced_nil ?_))))
 subst ey
 cases l:valV kvs k with
 |some v=>exact d_pop I3 ea ry l (.inr ⟨fv,rfl⟩) λw' s4 I4 rw'=>⟨v,_,I4,rw',q3 v l⟩
 |none=>exact d_popD I3 ea ry l λs4 I4=>⟨z,H3,I4,rz,q4 l⟩
end
section
variable{X:Cx}{pins:List (Addr×Obj)}{σ:St}{H:Hp}{s:Shared}{a:Addr}{kvs:List (Key×V)}{A:Around}{E:Value->Shared->Prop}
theorem d_copyOf{Q:Value->Shared->Prop}(I:Inv X pins σ H s)(e:Rd H a (.dK kvs))(h:∀p s',H p=none->Inv X pins σ (upd H p (.dK kvs)) s'->Q (.ref p) s'):wpAny (model X.prog X.w) A (call (.type "dict") [.ref a]) Q E s:=by
 obtain⟨z,hd,vs,rel,dd⟩:=dk_rd I.hok e;refine kt_call_dict hd dd (by rw[<-rel.length];exact z) λh' dd' hs=>?_;refine h _ _ (I.hok.fresh (qAF _)) (I.laid (a:=s.heap.objs.size) (o:=.dK kvs) (t':=s.toks) (λb q hq=>?_) (qAF _) (dk_new z (qBD.mpr (qAj (qAO I.big))) rel dd'));exact(hs.2 b (qAO (qAH hq))).trans (qAG _ hq)
end
section
variable{X:Cx}
theorem call_lenD:zCa X (.builtin "len") (λxs H Q=>∃a kvs,xs=[V.ref a]/\H a=some (.dK kvs)/\Q (.int kvs.length) H):=by
 intro pins s σ H xs us Q I r h;obtain⟨a,kvs,rfl,ha,q⟩:=h;obtain⟨u,rfl,ru⟩:=zH9 r
 cases ru
 exact d_len I (.inl ha) λt s' I'=>⟨.int kvs.length,H,I',⟨t,rfl⟩,q⟩
end
section
variable{κ:Type}[DecidableEq κ]
theorem valV_not{kvs:List (κ×V)}{k:κ}(h:valV kvs k=none):¬k∈kvs.map (·.1):=by
 intro m;obtain⟨p,hp,e⟩:=qAW.mp m;have q:(kvs.any λkv=>decide (kv.1=k))=true:=qCn.mpr ⟨p,hp,qAS e⟩;rw[zCw,h]at q;exact absurd q (by simp)
theorem nd_snoc:∀{l:List κ}{k:κ},l.Nodup->¬k∈l->(l++[k]).Nodup
 |[],k,_,_=>by simp
 |a::r,k,h,hk=>by
  obtain⟨h1,h2⟩:=qA0.mp h;show(a::(r++[k])).Nodup;refine qA0.mpr ⟨λm=>?_,nd_snoc h2 λm=>hk (qAM.mpr (Or.inr m))⟩;rcases qAT.mp m with q|q
  .exact h1 q
  .exact hk (qAM.mpr (Or.inl (qAP.mp q).symm))
theorem nd_putK{kvs:List (κ×V)}{k:κ}(v:V)(hn:(kvs.map (·.1)).Nodup)(h:valV kvs k=none):((putK kvs k v).map (·.1)).Nodup:=by
 rw[putK_new v h,qAN];exact nd_snoc hn (valV_not h)
end
end L2
set_option maxHeartbeats 4000000
namespace L2
open PySem PySem.Spec PyProof.Rows
variable{env:Env}{scope:Scope}{x:Str}{c:Addr}{X:Cx}{elt iter tg:Expr}{ifs:List Expr}{pos:Pos}{g:TG}{tt:TT}{te:TE}{wi:TI}
def clOf(env:Env):List (Str×NameKind)->List (Str×Addr)->List (Str×Addr)
 |[],cs=>cs
 |(n,k)::r,cs=>if(k==NameKind.free)=true then(match env.cells.lookup n with|some c=>clOf env r ((n,c)::cs)|none=>clOf env r cs)else clOf env r cs
theorem zEl{env:Env}:∀(l:List (Str×NameKind)) (cs:List (Str×Addr)),(∀x∈l,x.2= .free->∃c,env.cells.lookup x.1=some c) ->
  (forIn l cs (fun (x:Str×NameKind) (cs:List (Str×Addr))=>match x with
   |(name,kind)=>if(kind==NameKind.free)=true then(do let c<-cellOf env name;pure (ForInStep.yield ((name,c)::cs)))else pure (ForInStep.yield cs)):Sem (List (Str×Addr)))=pure (clOf env l cs)
 |[],_,_=>rfl
 |(n,k)::r,cs,h=>by
  rw[List.forIn_cons];have hr:∀x∈r,x.2= .free->∃c,env.cells.lookup x.1=some c:=λx hx=>h x (qAU _ hx)
  by_cases hk:(k==NameKind.free)=true
  .obtain ⟨c,hc⟩:=h (n,k) qAY (by simpa using hk)
   have e1:clOf env ((n,k)::r) cs=clOf env r ((n,c)::cs):=by
    show(if(k==NameKind.free)=true then _ else _)=_;rw[qAC hk];have hc:env.cells.lookup n=some c:=hc;rw[hc]
   have e2:cellOf env n=pure c:=by
    have hc:env.cells.lookup n=some c:=hc;unfold cellOf;rw[hc]
   rw[e1,<-zEl r ((n,c)::cs) hr];show(if(k==NameKind.free)=true then(do let c<-cellOf env n;pure (ForInStep.yield ((n,c)::cs)))else pure (ForInStep.yield cs)) >>= _=_;rw[qAC hk,e2,pure_bind,pure_bind]
  .have e1:clOf env ((n,k)::r) cs=clOf env r cs:=by
    show(if(k==NameKind.free)=true then _ else _)=_;rw[qAB hk]
   rw[e1,<-zEl r cs hr];show(if(k==NameKind.free)=true then(do let c<-cellOf env n;pure (ForInStep.yield ((n,c)::cs)))else pure (ForInStep.yield cs)) >>= _=_;rw[qAB hk,pure_bind]
theorem zJ2(h:∀x∈scope.names,x.2= .free->∃c,env.cells.lookup x.1=some c):closureFor scope env=pure (clOf env scope.names []):=by
 unfold closureFor;have e:=zEl (env:=env) scope.names [] h
 first
  |exact e
  |(refine Eq.trans ?_ e;rfl)
  |(rw[bind_pure];exact e)
  |simpa using e
theorem zEv :∀{l:List (Str×NameKind)} {cs:List (Str×Addr)},(∀y d,cs.lookup y=some d->env.cells.lookup y=some d)->(clOf env l cs).lookup x=some c->env.cells.lookup x=some c
 |[],cs,h,e=>h x c e
 |(n,k)::r,cs,h,e=>by
  unfold clOf at e
  by_cases hk:(k==NameKind.free)=true
  .rw [qAC hk]at e
   cases q:env.cells.lookup n with
   |none=>rw[q]at e;exact zEv h e
   |some d=>
    rw[q]at e;refine zEv (λy z hy=>?_) e;rw[qBM]at hy
    cases hyn:y==n with
    |true=>
     rw[hyn]at hy;have:y=n:=by simpa using hyn
     subst this;rw[q];exact hy
    |false=>rw[hyn]at hy;exact h y z hy
  .rw [qAB hk]at e;exact zEv h e
theorem zEw(hx:env.cells.lookup x=some c):∀{l:List (Str×NameKind)} {cs:List (Str×Addr)},cs.lookup x=some c->(clOf env l cs).lookup x=some c
 |[],_,h=>h
 |(n,k)::r,cs,h=>by
  unfold clOf
  by_cases hk:(k==NameKind.free)=true
  .rw [qAC hk]
   cases q:env.cells.lookup n with
   |none=>exact zEw hx h
   |some d=>
    refine zEw hx ?_;rw[qBM]
    cases hxn:x==n with
    |true=>
     have:x=n:=by simpa using hxn
     subst this;rw[<-q,hx]
    |false=>exact h
  .rw [qAB hk];exact zEw hx h
theorem zF4(hx:env.cells.lookup x=some c):∀{l:List (Str×NameKind)} {cs:List (Str×Addr)},(x,NameKind.free)∈l->(clOf env l cs).lookup x=some c
 |[],_,h=>nomatch h
 |(n,k)::r,cs,h=>by
  unfold clOf;rcases qAM.mp h with e|h
  .cases e
   rw[qAC (show(NameKind.free==NameKind.free)=true by decide),hx];exact zEw hx (by rw[qBM];simp)
  .by_cases hk:(k==NameKind.free)=true
   .rw [qAC hk]
    cases q:env.cells.lookup n with
    |none=>exact zF4 hx h
    |some d=>exact zF4 hx h
   .rw [qAB hk];exact zF4 hx h
theorem zDw :∀{l:List (Str×NameKind)} {n:Nat} {acc:List (Str×Addr)},(∀y∈l,y.2= .cell->y.1≠x)->(cellsFrom n l acc).lookup x=acc.lookup x
 |[],_,_,_=>rfl
 |(y,k)::r,n,acc,h=>by
  have hr:∀z∈r,z.2= .cell->z.1≠x:=λz hz=>h z (qAU _ hz);unfold cellsFrom;split
  .rename_i hk;rw[zDw hr,qBM]
   have:(x==y)=false:=by
    have:=h (y,k) qAY (by simpa using hk);exact qBD.mpr (λz=>this z.symm)
   rw[this]
  .exact zDw hr
theorem zCg :∀{l:List (Str×NameKind)} {n:Nat} {acc:List (Str×Addr)},(cellsFrom n l acc).lookup x=some c->acc.lookup x=some c\/(n<=c/\(x,NameKind.cell)∈l)
 |[],_,_,h=>.inl h
 |(y,k)::r,n,acc,h=>by
  unfold cellsFrom at h;split at h
  .rename_i hk;have hk':k= .cell:=by simpa using hk
   rcases zCg h with z|⟨z1,z2⟩
   .rw [qBM]at z
    cases hx:x==y with
    |true=>
     rw[hx]at z;have e:n=c:=qAe z;have e2:x=y:=by simpa using hx
     subst e2;subst hk';exact .inr ⟨qB0 e,qAY⟩
    |false=>rw[hx]at z;exact .inl z
   .exact .inr ⟨qAL (qBq _) z1,qAU _ z2⟩
  .rcases zCg h with z|⟨z1,z2⟩
   .exact .inl z
   .exact .inr ⟨z1,qAU _ z2⟩
theorem zDx:∀{l:List (Str×NameKind)} {n:Nat} {acc:List (Str×Addr)},(∀x y c,acc.lookup x=some c->acc.lookup y=some c->x=y)->(∀z d,acc.lookup z=some d->d<n)->∀x y c,(cellsFrom n l acc).lookup x=some c->(cellsFrom n l acc).lookup y=some c->x=y
 |[],_,_,p,_=>p
 |(w,k)::r,n,acc,p,lt=>by
  unfold cellsFrom;split
  .refine zDx (l:=r) (n:=n+1) (acc:=(w,n)::acc) (λx y c h1 h2=>?_) (λz d h=>?_)
   .rw [qBM]at h1 h2
    cases hx:x==w with
    |true=>
     rw[hx]at h1;have e1:n=c:=qAe h1
     cases hy:y==w with
     |true=>exact(by simpa using hx:x=w).trans (by simpa using hy:y=w).symm
     |false=>
      rw[hy]at h2;have:=lt y c h2;rw[<-e1]at this;exact absurd this (qA8 _)
    |false=>
     rw[hx]at h1
     cases hy:y==w with
     |true=>
      rw[hy]at h2;have e2:n=c:=qAe h2;have:=lt x c h1;rw[<-e2]at this;exact absurd this (qA8 _)
     |false=>rw[hy]at h2;exact p x y c h1 h2
   .rw [qBM]at h
    cases hz:z==w with
    |true=>
     rw[hz]at h;have e:n=d:=qAe h;rw[<-e];exact qBS _
    |false=>
     rw[hz]at h;exact qBN (lt z d h)
  .exact zDx p lt
theorem zDa :∀{l:List (Str×NameKind)} {h:Heap} {acc:List (Str×Addr)},(∀y d,acc.lookup y=some d->∃v,h.IsCell d v)->(cellsFrom h.objs.size l acc).lookup x=some c->∃v,(pushCells h l).IsCell c v
 |[],_,_,hA,e=>hA x c e
 |(y,k)::r,h,acc,hA,e=>by
  unfold cellsFrom at e;unfold pushCells;split at e
  .rename_i hk;rw[qAC hk];have hs:(h.push {cls:=.type "cell",data:=.cell none}:Heap).objs.size=h.objs.size+1:=qBE ..;rw[<-hs]at e;refine zDa (λz d hz=>?_) e;rw[qBM]at hz
   cases hzy:z==y with
   |true=>
    rw[hzy]at hz;have e:h.objs.size=d:=qAe hz;subst e;exact⟨none,_,qAX _ rfl,rfl⟩
   |false=>
    rw[hzy]at hz;obtain⟨v,o,ho,hd⟩:=hA z d hz;exact⟨v,o,qAG _ ho,hd⟩
  .rename_i hk;rw[qAB hk];exact zDa hA e
theorem zFe{M:Model}{A:Around}{E:Value->Shared->Prop}{s:Shared}{globals:Addr}{cl:List (Str×Addr)}{qual:Str}{outer:Env}{Q:Env->Shared->Prop}
  (h:Q (newEnv scope s.heap.objs.size globals (cellsFrom (s.heap.objs.size+1) scope.names cl) qual none .none (some outer) builtinsNs) {s with heap:=pushCells (s.heap.push {cls:=.type "dict",data:=.dict #[]}) scope.names}) :
  wpAny M A (newFunctionEnv scope globals cl [] qual none .none (some outer)) Q E s:=by
 simp only[newFunctionEnv,Option.isSome_some,qBj];refine qAA (wpAny_alloc ?_);refine qAA (wpAny_layCells _ (λname kind cells=>by cases hkc:kind==NameKind.cell<;>simp[hkc]) _ _ _ _ ?_);rw[show({s with heap:=s.heap.push {cls:=.type "dict",data:=.dict #[]}}:Shared).heap.objs.size=s.heap.objs.size+1 from qBE ..];rw[List.forIn_nil];exact qAA (qAE (qAE h))
theorem zF3 :∀{l:List (Str×NameKind)} {cs:List (Str×Addr)},(∀y∈l,y.2= .free->y.1≠x)->(clOf env l cs).lookup x=cs.lookup x
 |[],_,_=>rfl
 |(n,k)::r,cs,h=>by
  have hr:∀z∈r,z.2= .free->z.1≠x:=λz hz=>h z (qAU _ hz);unfold clOf
  by_cases hk:(k==NameKind.free)=true
  .rw [qAC hk];have nx:(x==n)=false:=qBD.mpr λz=>h (n,k) qAY (by simpa using hk) z.symm
   cases q:env.cells.lookup n with
   |none=>exact zF3 hr
   |some d=>
    rw[show(clOf env r ((n,d)::cs)).lookup x=((n,d)::cs).lookup x from zF3 hr,qBM,nx]
  .rw [qAB hk];exact zF3 hr
def Cx.block(X:Cx)(scope:Scope)(C:Addr)(s₀:Shared)(H₀:Hp)(ex:List Addr)(N:List Str):Cx where
 prog:=X.prog
 w:=X.w
 K:=X.K
 mg:=X.mg
 base:=X.base
 A:=X.A
 N:=N
 s₀:=s₀
 H₀:=H₀
 env:=compEnvC scope (cellsFrom (C+1) scope.names (clOf X.env scope.names [])) C X.env
 outer:=X.stack
 stack:=X.stack
 ex:=ex
 fn:=λx=>scope.names.lookup x==some .cell
 calm:=X.calm
 pn:=[]
 xe:=λ_ _=>False
structure BlkSc(X:Cx)(scope:Scope):Prop where
 kind:scope.kind= .function
 apart:∀y∈scope.names,∀z∈scope.names,y.2= .cell->z.2= .free->y.1≠z.1
 owns:∀y∈scope.names,y.2= .cell->scope.names.lookup y.1=some .cell
 free:∀y∈scope.names,y.2= .free->X.env.kindOf y.1=some .cell\/X.env.kindOf y.1=some .free
 locs:∀y∈scope.names,y.2= .local->scope.names.lookup y.1=some .local
theorem zC3{scope:Scope}{k:NameKind}:∀{l:List (Str×NameKind)}, 
  (l.map λ(n,k)=>if(k==NameKind.free&&env.scope.kind== .function&&env.kindOf n==some .cell)then(n,NameKind.cell)else(n,k)).lookup x=some k ->
  k= .cell\/k= .free->∃k',(x,k')∈l/\(k'= .cell\/k'= .free)
 |[],h,_=>by simp at h
 |(n,j)::r,h,hk=>by
  have h:List.lookup x ((if(j==NameKind.free&&env.scope.kind== .function&&env.kindOf n==some .cell)=true then(n,NameKind.cell)else(n,j))::(r.map λ(n,k)=>if(k==NameKind.free&&env.scope.kind== .function&&env.kindOf n==some .cell)then(n,NameKind.cell)else(n,k)))=some k:=h
  by_cases hc:(j==NameKind.free&&env.scope.kind== .function&&env.kindOf n==some .cell)=true
  .rw [qAC hc,qBM]at h
   have hj:j= .free:=by
    simp only[qBB]at hc;simpa using hc.1.1
   cases hx:x==n with
   |true=>
    have:x=n:=by simpa using hx
    subst this;exact⟨j,qAY,.inr hj⟩
   |false=>
    rw[hx]at h;obtain⟨k',m,q⟩:=zC3 (scope:=scope) h hk;exact⟨k',qAU _ m,q⟩
  .rw [qAB hc,qBM]at h
   cases hx:x==n with
   |true=>
    rw[hx]at h;have e:j=k:=qAe h;have:x=n:=by simpa using hx
    subst this;exact⟨j,qAY,by rw[e];exact hk⟩
   |false=>
    rw[hx]at h;obtain⟨k',m,q⟩:=zC3 (scope:=scope) h hk;exact⟨k',qAU _ m,q⟩
inductive Draws(X:Cx)(scope:Scope):List Str->List (Option Nat)->Prop
 |nil:Draws X scope [] []
 |own {x:Str} {N:List Str} {ix:List (Option Nat)}:Draws X scope N ix->Draws X scope (x::N) (Option.none::ix)
 |tk {x:Str} {N:List Str} {ix:List (Option Nat)} {i:Nat} (hN:X.N[i]?=some x) (hv:Vis X.env.scope x) (hk:(relabel scope X.env).names.lookup x=some .cell\/(relabel scope X.env).names.lookup x=some .free) (hf:(x,NameKind.free)∈scope.names) :
   Draws X scope N ix->Draws X scope (x::N) (some i::ix)
def zCj(σ:St)(ix:List (Option Nat)):St:=ix.map λo=>o.bind λi=>(σ[i]?).join
theorem Draws.len{N:List Str}{ix:List (Option Nat)}(D:Draws X scope N ix):ix.length=N.length:=by
 induction D with
 |nil=>rfl
 |own _ ih=>simp[ih]
 |tk _ _ _ _ _ ih=>simp[ih]
theorem Draws.get{N:List Str}{ix:List (Option Nat)}{σ:St}(D:Draws X scope N ix):∀(j:Nat)(x:Str)(v:V),N[j]?=some x->(zCj σ ix)[j]?=some (some v) ->
  ∃(i:Nat),X.N[i]?=some x/\σ[i]?=some (some v)/\Vis X.env.scope x/\((relabel scope X.env).names.lookup x=some .cell\/(relabel scope X.env).names.lookup x=some .free)/\(x,NameKind.free)∈scope.names:=by
 induction D with
 |nil=>intro j x v h;simp at h
 |own d ih=>
  intro j x v h1 h2
  cases j with
  |zero=>simp[zCj]at h2
  |succ j=>exact ih j x v (by simpa using h1) (by simpa[zCj]using h2)
 |@tk y N ix i hN hv hk hf d ih=>
  intro j x v h1 h2
  cases j with
  |zero=>
   have e:y=x:=by simpa using h1
   subst e;refine⟨i,hN,?_,hv,hk,hf⟩;have h2:((σ[i]?).join)=some v:=by simpa[zCj]using h2
   cases q:σ[i]? with
   |none=>rw[q]at h2;cases h2
   |some o=>rw[q]at h2;exact qAm some h2
  |succ j=>exact ih j x v (by simpa using h1) (by simpa[zCj]using h2)
section
variable{X:Cx}{pins:List (Addr×Obj)}{σ:St}{H:Hp}{s:Shared}{scope:Scope}{N:List Str}{ix:List (Option Nat)}{fp:List Addr}
theorem Inv.nostk(I:Inv X pins σ H s){b:Addr}(h1:b≠X.env.locals)(h2:b∉X.fs):b∉frs X.stack:=λz=>(qAM.mp (I.stkSub b z)).elim h1 h2
theorem Inv.blockStart{h':Heap}{tk:Nat}{m:Str->Option Value}(I:Inv X pins σ H s)(B:BlkSc X scope)(D:Draws X scope N ix)(hfp:∀b∈fp,FpOk X pins H b)(hfo:∀b∈fp,∃o,s.heap.get? b=some o)
  (hns:h'.Ns s.heap.objs.size m) (hk:∀b o,s.heap.get? b=some o->h'.get? b=some o) (hcl:∀x c,(cellsFrom (s.heap.objs.size+1) scope.names (clOf X.env scope.names [])).lookup x=some c->∃v,h'.IsCell c v) :
  Inv (X.block scope s.heap.objs.size s H fp N) (X.pn++pins) (zCj σ ix) H {s with heap:=h',toks:=tk}:=by
 have sub:∀{x:Str}{c:Addr},(clOf X.env scope.names []).lookup x=some c->X.env.cells.lookup x=some c:=λ{x c} e=>zEv (λy d z=>by simp at z) e
 have old:∀{x:Str}{c:Addr},(clOf X.env scope.names []).lookup x=some c->c<s.heap.objs.size:=λ{x c} e=>by
  obtain⟨v,o,ho,_⟩:=I.cell x c (sub e);exact qAH ho
 have two:∀{x:Str}{c:Addr},(cellsFrom (s.heap.objs.size+1) scope.names (clOf X.env scope.names [])).lookup x=some c->X.env.cells.lookup x=some c\/s.heap.objs.size<c:=λ{x c} e=>by
  rcases zCg e with z|⟨z,_⟩
  .exact .inl (sub z)
  .exact .inr z
 have own:∀{x:Str},(x,NameKind.free)∈scope.names->(cellsFrom (s.heap.objs.size+1) scope.names (clOf X.env scope.names [])).lookup x=(clOf X.env scope.names []).lookup x:=λ{x} hx=>zDw λy hy e=>B.apart y hy _ hx e rfl
 have okB:(X.block scope s.heap.objs.size s H fp N).Ok:=by
  refine⟨I.ok.mod,B.kind,I.ok.glob,I.ok.blt,qAF _,zDx (λx y c h1 h2=>I.ok.inj x y c (sub h1) (sub h2)) (λz d h=>qBN (old h)),λx hx=>?_,(λx c z e=>?_),I.ok.hd,I.ok.frames,.inl rfl,λb hb=>⟨?_,λx c e=>?_⟩,I.bs,qAL I.ok.bsz I.sz,λb o e hb=>?_,λb hb=>I.nostk (hfp b hb).2.1 (hfp b hb).2.2.1,I.stack,I.stkFree⟩
  .have hx':(relabel scope X.env).names.lookup x=some .cell\/(relabel scope X.env).names.lookup x=some .free:=hx
   have key:∃k',(x,k')∈scope.names/\(k'= .cell\/k'= .free):=by
    rcases hx' with e|e
    .exact zC3 (scope:=scope) e (.inl rfl)
    .exact zC3 (scope:=scope) e (.inr rfl)
   obtain⟨k',m1,q⟩:=key;rcases q with q|q
   .subst q;exact qDq.mp (qDp _ _ _ (.inl (B.owns _ m1 rfl)))
   .subst q;obtain⟨c,hc⟩:=I.ok.has x (B.free _ m1 rfl);exact⟨c,(own m1).trans (zF4 hc m1)⟩
  .rcases zCg e with q|⟨q,_⟩
   .have z:scope.names.lookup x=some .cell:=by
     have z:(scope.names.lookup x==some NameKind.cell)=true:=z;simpa using z
    have hm:=qBr z;have:(x,NameKind.free)∈scope.names\/True:=.inr trivial
    exact absurd q (by
     rw[zF3 (λy hy e1 e2=>B.apart _ hm y hy rfl e1 e2.symm)];intro h;cases h)
   .exact qCI q
  .obtain ⟨o,e⟩:=hfo b hb;exact qAO (qAH e)
  .rcases two e with z|z
   .exact (hfp b hb).2.2.2.2.1 x c z
   .obtain ⟨o,e⟩:=hfo b hb;exact qAt (qCl (qAH e) z)
  .rcases (hfp b hb).2.2.2.1 with z|z
   .exact I.ok.noex b o e z
   .exact absurd (qAi (qAH (I.ok.bs b o e).1) z) (qA8 _)
 refine⟨okB,rfl,I.bare,Un.kept hk,⟨m,hns,λj x v h1 h2 h3=>?_⟩,λx c e=>?_,I.hok.fresh (qAF _),λx c e=>(two e).elim (λz=>I.freeC x c z) (λz=>I.hok.fresh (qCI z)),λp hp=>?_,I.hok.kept hk,?_⟩
 .obtain ⟨i,e1,e2,vis,kd,fr⟩:=D.get j x v h1 h2;obtain⟨m0,hn0,hl⟩:=I.loc;obtain⟨u,r,l⟩:=hl i x v e1 e2 vis;refine⟨u,r,?_⟩;rcases l with⟨k,_⟩|⟨_,c,hc,o,ho,hd⟩
  .rcases B.free _ fr rfl with z|z
   .have z:X.env.kindOf x=some .cell:=z;rw[k]at z;cases z
   .have z:X.env.kindOf x=some .free:=z;rw[k]at z;cases z
  .exact .inr ⟨kd,c,(own fr).trans (zF4 hc fr),o,hk c o ho,hd⟩
 .exact hcl x c e
 .have hp':p∈X.pn++pins:=by simpa[Cx.block]using hp
  obtain⟨e,n,ne,nf,d⟩:=I.pin p hp';exact⟨hk _ _ e,n,qAO (qAH e),I.nostk ne nf,d⟩
 .show (zCj σ ix).length=N.length;unfold zCj;rw[qAD];exact D.len
end
def PTs(X:Cx)(ifs:List Expr)(t:TT):Prop :=
 ∀(pins:List (Addr×Obj)) (s:Shared) (σ:St) (H:Hp) (Q:Bool->Hp->Prop),Inv X pins σ H s->t σ H Q ->
  wpAny (model X.prog X.w) X.A (forIn ifs true λc r=>if r=true then do let ok<-isTrue c X.env (eval c X.env);pure (ForInStep.yield ok)else pure (ForInStep.yield r)) (TP X pins σ Q) X.xe s
def tTrue:TT:=λ_ H Q=>Q true H
theorem zBl :PTs X [] tTrue:=λ_ _ _ H _ I h=>wpAny_tests_nil ⟨H,I,h⟩
theorem zBg{c:Expr}{t:TT}(h:PT X c t):PTs X [c] t:=λpins s σ H Q I hw=>wpAny_tests_one (h pins s σ H Q I hw)
theorem comp_loop{prog:Program}{w:World}{A:Around}{R:Result->Shared->Prop}{s:Shared}{elt target iter:Expr}{ifs:List Expr}{scope:Scope}{pos:Pos}{it acc:Value}{env:Env}(I:Nat->Shared->Prop)
  (turn:∀n s,I n s->wpAny (model prog w) A (pyNext it) (fun r s₁=>match r with
   |none=>R (.ok .next) s₁
   |some v=>wpAny (model prog w) A (letOwnedTupleGo target it v) (λ_ s₁'=>wpAny (model prog w) A (assign target env v) (λ_ s₂ =>
     wpAny (model prog w) A (forIn ifs true λc r=>if r=true then do let ok<-isTrue c env (eval c env);pure (ForInStep.yield ok)else pure (ForInStep.yield r)) (λok s₃ =>
      if ok=true then wpAny (model prog w) A (eval elt env) (λx s₄ =>
       wpAny (model prog w) A (call (.builtin "list.append") [acc,x]) (λ_ s₅=>∃m,m<n/\I m s₅) (λ_ _=>False) s₄) (λ_ _=>False) s₃
      else∃m,m<n/\I m s₃) (λ_ _=>False) s₂) (λ_ _=>False) s₁') (λ_ _=>False) s₁) (λ_ _=>False) s)
  (n:Nat) (h:I n s) :
  codeAny (model prog w) A (.compLoop (.ListComp elt [⟨target,iter,ifs,0⟩] scope pos) 0 it acc env) R s:=by
 refine codeAny_loop rfl I (λn s hI=>?_) n h;show wpAny _ A ((compTurn (.ListComp elt [⟨target,iter,ifs,0⟩] scope pos) 0 it acc env).onRaise (λx=>do noteFrame x env;theTreesLotGoes x)) _ _ s;refine wpAny_noted ?_;rw[compTurn_list];refine qAA (qCK (qAA (qAz (turn n s hI) (λr s₁ h₁=>?_) λ_ _ h'=>h'.elim)))
 cases r with
 |none=>exact qAE h₁
 |some v=>
  refine qAA (qAz h₁ (λ_ s₁' h₁'=>?_) λ_ _ h'=>h'.elim);refine qAA (qAz h₁' (λ_ s₂ h₂=>qAA (qAz h₂ (λok s₃ h₃=>?_) λ_ _ h'=>h'.elim)) λ_ _ h'=>h'.elim)
  cases ok with
  |false=>exact qAE ⟨rfl,h₃⟩
  |true=>
   exact qAA (qAA (qAz h₃ (λx s₄ h₄=>qAA (qAz h₄ (λ_ s₅ h₅=>qAE (qAE ⟨rfl,h₅⟩)) λ_ _ h'=>h'.elim)) λ_ _ h'=>h'.elim))
def tComp(wi:TI)(ix:List (Option Nat))(g:TG)(tt:TT)(te:TE):TE:=λσ H Q=>wi σ H λJ H1=>∀D,H1 D=none->∃W:Nat->Nat->List V->St->Hp->Prop,
 (∃m,W 0 m [] (zCj σ ix) (upd H1 D (.lst [])))/\∀i m ys τ H2,W i m ys τ H2 ->
  (J.stop i H2/\Q (.ref D) H2)\/(J.go i H2/\∃N:List V->St->Hp->Prop,(∀ys' τ' H',N ys' τ' H'->∃m',m'<m/\W (i+1) m' ys' τ' H')/\∀x H3,J.yld i H2 x H3->g x τ H3 λτ' H4=>tt τ' H4 λb H5=>if b=true then te τ' H5 λv H6=>H6 D=some (.lst ys)/\ys.length<sizeLine/\N (ys++[v]) τ' (upd H6 D (.lst (ys++[v]))) else N ys τ' H5)
theorem block_loop{Y:Cx}{J:It}{fp:List Addr}{it D:Addr}{tn:Nat->Heap->Prop}{P:List (Addr×Obj)}{W:Nat->Nat->List V->St->Hp->Prop}{m0:Nat}
  {R:Result->Shared->Prop} {QD:Hp->Prop} {s4:Shared} {τ0:St} {H4:Hp}
  (hc:Y.calm=true) (hx:∀e s,Y.xe e s->False) (hg:PG Y tg g) (ht:PTs Y ifs tt) (he:PE Y elt te) (T:Turn Y.prog Y.w Y.K tg J fp it tn)
  (stat:∀{H':Hp},(∀b∈fp,H' b=none)->∀b∈fp,FpOk Y P H' b)
  (turn:∀i m ys τ H2,W i m ys τ H2->(J.stop i H2/\QD H2)\/(J.go i H2/\∃N:List V->St->Hp->Prop,(∀ys' τ' H',N ys' τ' H'->∃m',m'<m/\W (i+1) m' ys' τ' H')/\∀x H3,J.yld i H2 x H3->g x τ H3 fun τ' H4=>tt τ' H4 fun b H5 =>
   if b=true then te τ' H5 λv H6=>H6 D=some (.lst ys)/\ys.length<sizeLine/\N (ys++[v]) τ' (upd H6 D (.lst (ys++[v])))
   else N ys τ' H5))
  (fin:∀τ H' s',Inv Y P τ H' s'->QD H'->R (.ok .next) s')
  (I0:Inv Y P τ0 H4 s4) (t0:tn 0 s4.heap) (n0:∀b∈fp,H4 b=none) (w0:W 0 m0 [] τ0 H4) :
  codeAny (model Y.prog Y.w) Y.A (.compLoop (.ListComp elt [⟨tg,iter,ifs,0⟩] scope pos) 0 (.ref it) (.ref D) Y.env) R s4:=by
 have nx:∀{α:Type}{t:Sem α}{Q:α->Shared->Prop}{s:Shared},wpAny (model Y.prog Y.w) Y.A t Q Y.xe s->wpAny (model Y.prog Y.w) Y.A t Q (λ_ _=>False) s:=λh=>qAz h (λ_ _ q=>q) hx;refine comp_loop (λn s'=>∃i ys τ H',Inv Y P τ H' s'/\tn i s'.heap/\(∀b∈fp,H' b=none)/\W i n ys τ H') ?_ m0 ⟨0,[],τ0,H4,I0,t0,n0,w0⟩;rintro n s5 ⟨i,ys,τ,H5,I5,st5,fr5,w5⟩;rcases turn i n ys τ H5 w5 with⟨stop,q⟩|⟨go,N,hN,step⟩
 .refine thn (T.done Y rfl rfl rfl hc i P s5 τ H5 _ I5 (stat fr5) st5 stop) λr s6 ⟨hr,I6⟩=>?_;subst hr;exact fin τ H5 s6 I6 q
 .refine thn (T.item Y rfl rfl rfl hc i P s5 τ H5 _ I5 (stat fr5) st5 go) λr s6 ⟨u,hr,h6⟩=>?_;subst hr;refine thn h6 λ_ s7 ⟨x,H7,I7,r7,y7,st7,fr7⟩=>?_;have I7':=I7.pinned (stat fr7) (T.obj _ _ st7);refine nx (thn (hg _ s7 τ H7 x u _ I7' r7 (step x H7 y7)) λ_ s8 ⟨τ8,H8,I8,q8⟩=>?_);refine nx (thn (ht _ s8 τ8 H8 _ I8 q8) λok s9 ⟨H9,I9,q9⟩=>?_)
  have again:∀{ys':List V}{H':Hp}{s':Shared},Inv Y (P++pinsAt fp s7.heap) τ8 H' s'->(∃m',m'<n/\W (i+1) m' ys' τ8 H')->∃m,m<n/\∃i ys τ H',Inv Y P τ H' s'/\tn i s'.heap/\(∀b∈fp,H' b=none)/\W i m ys τ H':=λ{ys' H' s'} I' ⟨m',hm,w'⟩=>by
   refine⟨m',hm,i+1,ys',τ8,H',I'.unpinned,T.keep _ _ _ st7 λb hb o e=>(I'.pin (b,o) (qA4 _ (qA4 _ (zEt hb e)))).1,λb hb=>?_,w'⟩;obtain⟨o,e,d⟩:=T.obj _ _ st7 b hb;exact(I'.pin (b,o) (qA4 _ (qA4 _ (zEt hb e)))).2.1
  cases ok with
  |false=>
   rw[qAB qAn]at q9 ⊢;exact again I9 (hN _ _ _ q9)
  |true=>
   rw[qAC rfl]at q9 ⊢;refine nx (thn (he _ s9 τ8 H9 _ I9 q9) λy s10 ⟨v,H10,I10,r10,hD,hz,w10⟩=>?_);refine nx (thn (zEh (X:=Y) _ s10 τ8 H10 (.ref D) [v] (.ref D) [y] (λ_ H'=>H'=upd H10 D (.lst (ys++[v]))) I10 rfl (.cons r10 .nil) ⟨D,ys,v,rfl,rfl,hD,hz,rfl⟩) λ_ s11 ⟨z,H11,I11,_,e11⟩=>?_);subst e11;exact again I11 (hN _ _ _ w10)
theorem run_comp{pos p1:Pos}{N:List Str}{ix:List (Option Nat)}{pins:List (Addr×Obj)}{s:Shared}{σ:St}{H:Hp}{Q:VK}{use:Option (Value->Sem Unit)}
  {Z:Value->Shared->Prop}
  (hc:X.calm=true) (B:BlkSc X scope) (Dr:Draws X scope N ix) (hi:PI X tg iter wi)
  (hg:∀C s₀ H₀ ex,PG (X.block scope C s₀ H₀ ex N) tg g) (ht:∀C s₀ H₀ ex,PTs (X.block scope C s₀ H₀ ex N) ifs tt) (he:∀C s₀ H₀ ex,PE (X.block scope C s₀ H₀ ex N) elt te)
  (hs:∀x,foldedSetIterable iter X.env x=pure x)
  (I:Inv X pins σ H s) (h:tComp wi ix g tt te σ H Q)
  (fin:∀(D C:Addr) (H':Hp) (s':Shared) (m:Str->Option Value),Inv X pins σ H' s'->Q (.ref D) H'->s'.heap.Ns C m->(∀h',Heap.SameBut C s'.heap h'->Inv X pins σ H' {s' with heap:=h'})->C≠X.env.locals->(∀x c,X.env.cells.lookup x=some c->c≠C)->H' C=none ->
   (∀p∈X.pn++pins,p.1≠C)->X.s₀.heap.objs.size<=C->compPost (model X.prog X.w) X.A X.xe use Z (.ref D) C (.ok .next) s') :
  wpAny (model X.prog X.w) X.A (comprehension (.ListComp elt [⟨tg,iter,ifs,0⟩] scope pos) scope X.env p1 (newList []) false (eval iter X.env) use) Z X.xe s:=by
 have hfree:∀x∈scope.names,x.2= .free->∃c,X.env.cells.lookup x.1=some c:=λx hx e=>I.ok.has _ (B.free x hx e);refine wpAny_comprehension_free (use:=use) rfl hs (zJ2 hfree) B.kind B.locs ?_;refine thn (hi pins s σ H _ I h) λv s1 h1=>thn h1 λitv s2 h2=>?_;obtain⟨it,fp,tn,J,H2,e,I2,T,st2,f2,R⟩:=h2;subst e;have hDf:H2 s2.heap.objs.size=none:=I2.hok.fresh (qAF _);obtain⟨W,⟨m0,w0⟩,turn⟩:=R _ hDf;refine qBk ?_ (by show(0:Nat)<=sizeLine;exact qAd _);have I3:Inv X pins σ (upd H2 s2.heap.objs.size (.lst [])) {s2 with heap:=s2.heap.push {cls:=.type "list",data:=.seq ([]:List Value).toArray}}:=I2.lnew (t':=s2.toks) (ys:=[]) (its:=[]) .nil (qAd _);generalize hD:s2.heap.objs.size=D at *
 have fpo:∀b∈fp,∃o,s2.heap.get? b=some o:=λb hb=>let⟨o,q,_⟩:=T.obj _ _ st2 b hb;⟨o,q⟩
 have fpD:∀b∈fp,b≠D:=λb hb=>by
  obtain⟨o,q⟩:=fpo b hb;rw[<-hD];exact qAO (qAH q)
 have f3:∀b∈fp,FpOk X pins (upd H2 D (.lst [])) b:=λb hb=>⟨by rw[upd_ne (fpD b hb)];exact(f2 b hb).1,(f2 b hb).2⟩;generalize hs3:({s2 with heap:=s2.heap.push {cls:=.type "list",data:=.seq ([]:List Value).toArray}}:Shared)=s3 at I3 ⊢;have k23:∀b o,s2.heap.get? b=some o->s3.heap.get? b=some o:=λb o q=>by rw[<-hs3];exact qAG _ q
 have fpo3:∀b∈fp,∃o,s3.heap.get? b=some o:=λb hb=>let⟨o,q⟩:=fpo b hb;⟨o,k23 b o q⟩;have st3:tn 0 s3.heap:=T.keep _ _ _ st2 λb hb o q=>k23 b o q;refine zFe ?_;have k34:∀b o,s3.heap.get? b=some o->(pushCells (s3.heap.push {cls:=.type "dict",data:=.dict #[]}) scope.names).get? b=some o:=λb o q=>pushCells_keeps _ _ b o (qAG _ q);have hns4:(pushCells (s3.heap.push {cls:=.type "dict",data:=.dict #[]}) scope.names).Ns s3.heap.objs.size (λ_=>none):=(Heap.Ns.new s3.heap (.type "dict")).keeps (pushCells_keeps _ _)
 have hcl4:∀x c,(cellsFrom (s3.heap.objs.size+1) scope.names (clOf X.env scope.names [])).lookup x=some c->∃v,(pushCells (s3.heap.push {cls:=.type "dict",data:=.dict #[]}) scope.names).IsCell c v:=λx c e=>by
  refine zDa (h:=s3.heap.push {cls:=.type "dict",data:=.dict #[]}) (acc:=clOf X.env scope.names []) (λy d hy=>?_) (by rw[qBE];exact e);obtain⟨v,o,ho,hd⟩:=I3.cell y d (zEv (λy d z=>by simp at z) hy);exact⟨v,o,qAG _ ho,hd⟩
 have IB:=I3.blockStart (tk:=s3.toks) B Dr f3 fpo3 hns4 k34 hcl4;generalize hh4:pushCells (s3.heap.push {cls:=.type "dict",data:=.dict #[]}) scope.names=h4 at *
 generalize hC:s3.heap.objs.size=C at *
 have hCX:X.s₀.heap.objs.size<=C:=by rw[<-hC];exact I3.sz
 have CL:C≠X.env.locals:=by rw[<-hC];exact qAt I3.lt
 have Cc:∀x c,X.env.cells.lookup x=some c->c≠C:=λx c q=>by
  obtain⟨v,o,ho,_⟩:=I3.cell x c q;rw[<-hC];exact qAO (qAH ho)
 have Cp:∀p∈X.pn++pins,p.1≠C:=λp hp=>by
  rw[<-hC];exact qAO (qAH (I3.pin p hp).1)
 have fpC:∀b∈fp,b≠C:=λb hb=>by
  obtain⟨o,q⟩:=fpo3 b hb;rw[<-hC];exact qAO (qAH q)
 have stat:∀{H':Hp},(∀b∈fp,H' b=none)->∀b∈fp,FpOk (X.block scope C s3 (upd H2 D (.lst [])) fp N) (X.pn++pins) H' b:=λ{H'} hn b hb=>by
  obtain⟨_,q1,q2,q3,q4,q5⟩:=f2 b hb;exact⟨hn b hb,fpC b hb,I3.nostk q1 q2,.inl hb,λx c e=>(zCg e).elim (λz=>q4 x c (zEv (λy d z=>by simp at z) z)) (λz=>by obtain⟨o,q⟩:=fpo3 b hb;have:=qAH q;rw[hC]at this;exact qAt (qAi (qBN this) z.1)),λp hp=>q5 p (by simpa[Cx.block]using hp)⟩
 have st4:tn 0 h4:=T.keep _ _ _ st3 λb hb o q=>k34 b o q;have n4:∀b∈fp,(upd H2 D (.lst [])) b=none:=λb hb=>(f3 b hb).1
 have loop:=block_loop (Y:=X.block scope C s3 (upd H2 D (.lst [])) fp N) (iter:=iter) (pos:=pos) (scope:=scope) (D:=D) (R:=compPost (model X.prog X.w) X.A X.xe use Z (.ref D) C) hc (λ_ _ z=>z) (hg C s3 _ fp) (ht C s3 _ fp) (he C s3 _ fp) T stat turn
  (fun τ H' s' I' q=>by
   have I5:Inv X pins σ H' s':=I3.call' (ch:=fp) I'.os I'.base I'.hok I'.bare λb hb=>by
    obtain⟨_,q1,q2,q3,q4,q5⟩:=f2 b hb;exact⟨q3,q1,q4,q5⟩
   obtain⟨m,hn,_⟩:=I'.loc;have hC0:H' C=none:=I'.free;exact fin D C H' s' m I5 q hn (λh'' hs''=>I5.turned (t':=s'.toks) (λb o hb e=>hs''.extBut b o hb e) hC0 CL (.inr hCX) Cc Cp) CL Cc hC0 Cp hCX) IB st4 n4 w0
 exact codeAny_compStart_list loop (T.self _ 0 _ _ _ st4 loop)
theorem zAt{N:List Str}{ix:List (Option Nat)}(hc:X.calm=true)(B:BlkSc X scope)(Dr:Draws X scope N ix)(hi:PI X tg iter wi)
  (hg:∀C s₀ H₀ ex,PG (X.block scope C s₀ H₀ ex N) tg g) (ht:∀C s₀ H₀ ex,PTs (X.block scope C s₀ H₀ ex N) ifs tt) (he:∀C s₀ H₀ ex,PE (X.block scope C s₀ H₀ ex N) elt te)
  (hs:∀x,foldedSetIterable iter X.env x=pure x:=by intro _;rfl):PE X (.ListComp elt [⟨tg,iter,ifs,0⟩] scope pos) (tComp wi ix g tt te):=by
 intro pins s σ H Q I h;rw[eval_ListComp];exact run_comp (use:=none) hc B Dr hi hg ht he hs I h λD C H' s' m I' q hn k _ _ _ _ _=>⟨m,hn,λh' hs'=>⟨.ref D,H',k h' hs',rfl,q⟩⟩
theorem zGb{spos py:Pos}{N:List Str}{ix:List (Option Nat)}{i:Nat}{y:Str}(hc:X.calm=true)(B:BlkSc X scope)(Dr:Draws X scope N ix)(hi:PI X tg iter wi)
  (hg:∀C s₀ H₀ ex,PG (X.block scope C s₀ H₀ ex N) tg g) (ht:∀C s₀ H₀ ex,PTs (X.block scope C s₀ H₀ ex N) ifs tt) (he:∀C s₀ H₀ ex,PE (X.block scope C s₀ H₀ ex N) elt te)
  (hN:X.N.Nodup) (hy:X.N[i]?=some y) (hl:X.env.scope.names.lookup y=some .local)
  (hsw:swapsWith (.ListComp elt [⟨tg,iter,ifs,0⟩] scope pos) (some (.Name y py)) spos.line X.env=pure true:=by rfl)
  (hs:∀x,foldedSetIterable iter X.env x=pure x:=by intro _;rfl):PS X (.Assign [.Name y py] (.ListComp elt [⟨tg,iter,ifs,0⟩] scope pos) spos) (tAsg (tComp wi ix g tt te) (gName i)):=by
 intro pins s σ H Dn I h;rw[exec_Assign_Name_used _ _ _ _ hsw];refine qAA (qCK (qAA ?_));show wpAny _ X.A (do let _<-comprehension (.ListComp elt [⟨tg,iter,ifs,0⟩] scope pos) scope X.env _ (newList []) false (eval iter X.env) (some (assign (.Name y py) X.env))) _ _ s;refine qAA (thn (run_comp (use:=some (assign (.Name y py) X.env)) (Z:=λ_ s'=>SP X pins Dn .next s') hc B Dr hi hg ht he hs I h λD C H' s' m I' q hn k CL Cc C0 Cp CX=>?_) λ_ s' hq=>qAE (qAE hq));show wpAny _ _ (assign (.Name y py) X.env (.ref D)) _ _ s';refine wpAny_assign_Name (store_ok2 I' hN hy (.inl hl) (v:=.ref D) rfl (λs'' I'' ⟨a,sb,ha⟩=>?_) (.inr hl))
 have aC:C≠a:=by
  rcases ha with z|z
  .rw [z];exact CL
  .exact (Cc _ _ z).symm
 exact⟨m,hn.sameBut sb aC,λh' hs'=>⟨_,H',I''.turned (t':=s''.toks) (λb o hb e=>hs'.extBut b o hb e) C0 CL (.inr CX) Cc Cp,q⟩⟩
theorem comp_by{J:It}{ix:List (Option Nat)}{Q:VK}{σ:St}{H1:Hp}{D:Addr}(xs:List V)(Pv:Nat->List V->St->Hp->Prop)(h0:Pv 0 [] (zCj σ ix) (upd H1 D (.lst [])))
  (hJ:∀i ys τ H,Pv i ys τ H->(∀x,xs[i]?=some x->J.go i H/\∀y H',J.yld i H y H'->H'=H/\y=x)/\(i=xs.length->J.stop i H))
  (hs:∀i x ys τ H,xs[i]?=some x->Pv i ys τ H->g x τ H λτ' H4=>tt τ' H4 λb H5=>if b=true then te τ' H5 λv H6=>H6 D=some (.lst ys)/\ys.length<sizeLine/\Pv (i+1) (ys++[v]) τ' (upd H6 D (.lst (ys++[v])))else Pv (i+1) ys τ' H5)
  (hd:∀ys τ H,Pv xs.length ys τ H->Q (.ref D) H) :
  ∃W:Nat->Nat->List V->St->Hp->Prop,(∃m,W 0 m [] (zCj σ ix) (upd H1 D (.lst [])))/\∀i m ys τ H2,W i m ys τ H2 ->
   (J.stop i H2/\Q (.ref D) H2)\/(J.go i H2/\∃N:List V->St->Hp->Prop,(∀ys' τ' H',N ys' τ' H'->∃m',m'<m/\W (i+1) m' ys' τ' H')/\∀x H3,J.yld i H2 x H3->g x τ H3 λτ' H4=>tt τ' H4 λb H5=>if b=true then te τ' H5 λv H6=>H6 D=some (.lst ys)/\ys.length<sizeLine/\N (ys++[v]) τ' (upd H6 D (.lst (ys++[v]))) else N ys τ' H5):=by
 refine⟨λi m ys τ H=>m=xs.length-i/\i<=xs.length/\Pv i ys τ H,⟨xs.length,by simp,qAd _,h0⟩,?_⟩;rintro i m ys τ H ⟨rfl,hi,p⟩;obtain⟨j1,j2⟩:=hJ i ys τ H p
 by_cases hlt:i<xs.length
 .have hx:xs[i]?=some xs[i]:=by simp[hlt]
  obtain⟨go,yl⟩:=j1 _ hx;refine .inr ⟨go,Pv (i+1),λys' τ' H' p'=>⟨xs.length-(i+1),by lia,rfl,hlt,p'⟩,λy H' yd=>?_⟩;obtain⟨e1,e2⟩:=yl y H' yd;subst e1 e2;exact hs i _ ys τ _ hx p
 .have e:i=xs.length:=by lia
  subst e;exact .inl ⟨j2 rfl,hd ys τ H p⟩
def blkOk(scope sc:Scope):Bool:=(scope.kind== .function)&&(scope.names.all (λy=>scope.names.all λz=>y.2 != .cell||z.2 != .free||y.1 != z.1)&&scope.names.all (λy=>y.2 != .cell||scope.names.lookup y.1==some .cell))&&scope.names.all (λy=>y.2 != .free||sc.names.lookup y.1==some .cell||sc.names.lookup y.1==some .free)&&scope.names.all (λy=>y.2 != .local||scope.names.lookup y.1==some .local)
theorem zAz{scope sc:Scope}(hsc:X.env.scope=sc)(h:blkOk scope sc=true):BlkSc X scope:=by
 unfold blkOk at h;simp only[qBB,qBF,qB5]at h;obtain⟨⟨⟨h1,h2,h5⟩,h3⟩,h4⟩:=h;refine⟨by simpa using h1,λy hy z hz e1 e2=>?_,λy hy e=>?_,λy hy e=>?_,λy hy e=>?_⟩
 .rcases h2 y hy z hz with(q|q)|q
  .rw [e1]at q;simp at q
  .rw [e2]at q;simp at q
  .simpa using q
 .rcases h5 y hy with q|q
  .rw [e]at q;simp at q
  .simpa using q
 .have q:=h3 y hy;show X.env.scope.names.lookup y.1=some .cell\/X.env.scope.names.lookup y.1=some .free;rw[hsc];rcases q with(q|q)|q
  .rw [e]at q;simp at q
  .exact .inl (by simpa using q)
  .exact .inr (by simpa using q)
 .have q:=h4 y hy;rcases q with q|q
  .rw [e]at q;simp at q
  .simpa using q
def relS(scope sc:Scope):Scope:={scope with names:=scope.names.map λ(n,k)=>if(k== .free&&sc.kind== .function&&sc.names.lookup n==some .cell)then(n,.cell)else(n,k)}
theorem blk_in{e0:Env}{outer scope sc:Scope}(hX:X.env.scope=relabel outer e0)(h0:e0.scope=sc)(h:blkOk scope (relS outer sc)=true):BlkSc X scope :=
 zAz (sc:=relS outer sc) (by rw[hX];subst h0;rfl) h
def Its(z:Str):It:=⟨λi _=>i<z.cps.size,λi H x H'=>H'=H/\∃c,z.cps[i]?=some c/\x= .str ⟨#[c]⟩,λi _=>z.cps.size<=i⟩
theorem turn_str{P:Program}{w:World}{K:PySem.W.Frag}(it:Addr)(z:Str)(t:Tok)(ty:String)(hty:ty="str_ascii_iterator"\/ty="str_iterator"):Turn P w K tg (Its z) [it] it (λi h=>h.IsStrIter it ty z t i) where
 mem:=by simp
 obj:=λi h st b hb=>by
  have e:b=it:=by simpa using hb
  subst e;obtain⟨o,e,c,d⟩:=st;exact⟨o,e,λv z=>by rw[d]at z;cases z⟩
 keep:=λi h h' st k=>by
  obtain⟨o,e,c,d⟩:=st;exact⟨o,k it (by simp) o e,c,d⟩
 item:=by
  intro X hP hw hK hc i pins s σ H E I hf st hg;subst hP hw hK;obtain⟨f0,f1,f2,f3,f4,f5⟩:=hf it (by simp);have hlt:i<z.cps.size:=hg;have hx:z.cps[i]?=some z.cps[i]:=by simp[hlt]
  have fin:∀h':Heap,h'.IsStrIter it ty z t (i+1)->Heap.SameBut it s.heap h'->∃u,some (Value.str ⟨#[z.cps[i]]⟩ s.toks)=some u /\
    wpAny (model X.prog X.w) X.A (letOwnedTupleGo tg (.ref it) u) (λ_ s2=>∃x H',Inv X pins σ H' s2/\RelV x u/\(Its z).yld i H x H'/\s2.heap.IsStrIter it ty z t (i+1)/\∀b∈[it],H' b=none) E {s with heap:=h',toks:=s.toks+1}:=λh' st' sb=>by
   have I1:Inv X pins σ H {s with heap:=h',toks:=s.toks+1}:=I.turned (t':=s.toks+1) (λb o hb e=>(sb.2 b hb).trans e) f0 f1 f3 f4 f5;obtain⟨o,e,c,d⟩:=id st';exact⟨_,rfl,go_of (s:={s with heap:=h',toks:=s.toks+1}) e c d (by rcases hty with rfl|rfl<;>decide) ⟨.str ⟨#[z.cps[i]]⟩,H,I1,⟨_,rfl⟩,⟨rfl,_,hx,rfl⟩,st',λb hb=>(hf b hb).1⟩⟩
  rcases hty with rfl|rfl
  .exact wpAny_pyNext_ascii_item st hx fin
  .exact wpAny_pyNext_wide_item st hx fin
 done:=by
  intro X hP hw hK hc i pins s σ H E I hf st hg;subst hP hw hK;obtain⟨f0,f1,f2,f3,f4,f5⟩:=hf it (by simp);have hle:z.cps.size<=i:=hg;have hx:z.cps[i]?=none:=by simp[hle]
  have fin:∀h':Heap,Heap.ExtBut it s.heap h'->(none:Option Value)=none/\Inv X pins σ H {s with heap:=h'}:=λh' eb=>⟨rfl,I.turned (t':=s.toks) (λb o hb e=>eb b o hb e) f0 f1 f3 f4 f5⟩;rcases hty with rfl|rfl
  .exact wpAny_pyNext_ascii_end (I.ok.hd hc) st hx fin
  .exact wpAny_pyNext_wide_end (I.ok.hd hc) st hx fin
 self:=λ_ _ _ _ _ st h=>by
  rcases hty with rfl|rfl
  .exact wpAny_pyIter_striter_ascii st h
  .exact wpAny_pyIter_striter_wide st h
def iStr(tl:TE):TI:=λσ H R=>tl σ H λx H1=>∃z,x= .str z/\R (Its z) H1
theorem pi_str{l:Expr}{tl:TE}(hl:PE X l tl):PI X tg l (iStr tl):=by
 intro pins s σ H R I h;refine thn (hl pins s σ H _ I h) λv s1 ⟨x,H1,I1,r1,q1⟩=>?_;obtain⟨z,e,q⟩:=q1;subst e;obtain⟨t,rfl⟩:=r1
 have fin:∀(ty:String),(ty="str_ascii_iterator"\/ty="str_iterator")->PIE X pins σ tg R (.ref s1.heap.objs.size) {s1 with heap:=s1.heap.push {cls:=.type ty,data:=.fields #[.str z t,.int 0 0]}}:=λty hty=>
  ⟨s1.heap.objs.size,[s1.heap.objs.size],_,_,H1,rfl,I1.kept (t':=s1.toks) λb o e=>qAG _ e,turn_str _ z t ty hty,⟨_,qAX _ rfl,rfl,rfl⟩,λb hb=>by
   have e:b=s1.heap.objs.size:=by simpa using hb
   subst e;exact I1.fpOk (qAF _) (I1.hok.fresh (qAF _)),q⟩
 cases ha:z.cps.all (·<128)
 .exact wpAny_pyIter_wide ha (fin _ (.inr rfl))
 .exact wpAny_pyIter_ascii ha (fin _ (.inl rfl))
theorem bls_get{bs:List Bool}{its:List Value}(r:Vals (bs.map V.bl) its){i:Nat}{v:Value}(h:its[i]?=some v):v= .bool (bs.getD i false)/\i<bs.length:=by
 have hl:=r.length;rw[qAD]at hl;have hi:i<its.length:=(qAf.mp h).1;have hb:i<bs.length:=by lia
 have e:(bs.map V.bl)[i]?=some (V.bl bs[i]):=by simp[hb]
 obtain⟨u,hu,ru⟩:=r.get e;rw[h]at hu
 cases hu
 refine⟨?_,hb⟩;have:v= .bool bs[i]:=ru;rw[this,qAr];simp[hb]
theorem all_range(bs:List Bool):(List.range bs.length).all (λi=>bs.getD i false)=bs.all id:=by
 rw[qBz];simp only[qBF,qAs];constructor
 .intro h x hx;obtain⟨i,hi,rfl⟩:=qA1.mp hx;have:=h i hi;simpa[qAr,hi]using this
 .intro h i hi;have:=h bs[i] (qBl hi);simpa[qAr,hi]using this
theorem any_range(bs:List Bool):(List.range bs.length).any (λi=>bs.getD i false)=bs.any id:=by
 rw[qBz];simp only[qCn,qAs];constructor
 .rintro ⟨i,hi,h⟩;exact⟨bs[i],qBl hi,by simpa[qAr,hi]using h⟩
 .rintro ⟨x,hx,h⟩;obtain⟨i,hi,rfl⟩:=qA1.mp hx;exact⟨i,hi,by simpa[qAr,hi]using h⟩
theorem zDz(X:Cx)(hc:X.calm=true):zCa X (.builtin "all") (λxs H Q=>∃(p:Addr)(bs:List Bool),xs=[.ref p]/\SqL X.K H p (bs.map V.bl)/\Q (.bl (bs.all id)) H):=by
 intro pins s σ H xs us Q I rv h;obtain⟨p,bs,rfl,hq,q⟩:=h;obtain⟨u,rfl,ru⟩:=rv.one
 cases ru
 obtain⟨its,r,pl,hz⟩:=I.list hq;have hl:=r.length;rw[qAD]at hl;refine call_all_walk (qCc pl.isList ?_);have hp:p<s.heap.objs.size:=by obtain⟨o,n,e,_⟩:=pl;exact qAH e
 have I1:Inv X pins σ H {s with heap:=s.heap.push {cls:=.type "list_iterator",data:=.fields #[.ref p,.int 0 0]}}:=I.kept (t':=s.toks) λb o e=>qAG _ e;refine⟨s.heap.objs.size,_,_,_,_,_,λi=>bs.getD i false,rfl,Walks.list (A:=X.A.in1) (show X.A.in1.handled=none from I.ok.hd hc) s.heap.objs.size p (qAO hp) its.toArray,⟨⟨_,qAX _ rfl,rfl,rfl⟩,pl.isList.at λo e=>qAG _ e⟩,?_,λh' tk hk=>?_⟩
 .intro i v s' E' Q' hv hq';obtain⟨rfl,_⟩:=bls_get r (by simpa using hv);exact qBL hq'
 .have e:(List.range its.toArray.size).all (λi=>bs.getD i false)=bs.all id:=by
   rw[qAK,<-hl];exact all_range bs
  refine⟨.bl (bs.all id),H,?_,by rw[e];rfl,q⟩;obtain⟨f0,f1,f2,f3,f4,f5⟩:=I.fpOk (b:=s.heap.objs.size) (qAF _) (I.hok.fresh (qAF _));exact I1.turned (t':=tk) (λb o hb e=>hk b o (by simpa using hb) e) f0 f1 f3 f4 f5
theorem call_any(X:Cx)(hc:X.calm=true):zCa X (.builtin "any") (λxs H Q=>∃(p:Addr)(bs:List Bool),xs=[.ref p]/\SqL X.K H p (bs.map V.bl)/\Q (.bl (bs.any id)) H):=by
 intro pins s σ H xs us Q I rv h;obtain⟨p,bs,rfl,hq,q⟩:=h;obtain⟨u,rfl,ru⟩:=rv.one
 cases ru
 obtain⟨its,r,pl,hz⟩:=I.list hq;have hl:=r.length;rw[qAD]at hl;refine call_any_walk (qCc pl.isList ?_);have hp:p<s.heap.objs.size:=by obtain⟨o,n,e,_⟩:=pl;exact qAH e
 have I1:Inv X pins σ H {s with heap:=s.heap.push {cls:=.type "list_iterator",data:=.fields #[.ref p,.int 0 0]}}:=I.kept (t':=s.toks) λb o e=>qAG _ e;refine⟨s.heap.objs.size,_,_,_,_,_,λi=>bs.getD i false,rfl,Walks.list (A:=X.A.in1) (show X.A.in1.handled=none from I.ok.hd hc) s.heap.objs.size p (qAO hp) its.toArray,⟨⟨_,qAX _ rfl,rfl,rfl⟩,pl.isList.at λo e=>qAG _ e⟩,?_,λh' tk hk=>?_⟩
 .intro i v s' E' Q' hv hq';obtain⟨rfl,_⟩:=bls_get r (by simpa using hv);exact qBL hq'
 .have e:(List.range its.toArray.size).any (λi=>bs.getD i false)=bs.any id:=by
   rw[qAK,<-hl];exact any_range bs
  refine⟨.bl (bs.any id),H,?_,by rw[e];rfl,q⟩;obtain⟨f0,f1,f2,f3,f4,f5⟩:=I.fpOk (b:=s.heap.objs.size) (qAF _) (I.hok.fresh (qAF _));exact I1.turned (t':=tk) (λb o hb e=>hk b o (by simpa using hb) e) f0 f1 f3 f4 f5
theorem zEx :zCa X (.builtin "isinstance") (λxs H Q=>∃x n t b,xs=[x,.ty n]/\TyOf X.K H x t/\PySem.W.kitOne X.K t (.type n)=some b/\Q (.bl b) H):=by
 intro pins s σ H xs us Q I rv h;obtain⟨x,n,t,b,rfl,ty,e,q⟩:=h;obtain⟨u,c,rfl,rx,rc⟩:=rv.two
 cases (show c=Value.type n from rc)
 exact isinst_ok I rx ty e λtk=>⟨.bl b,H,I.tok tk,rfl,q⟩
theorem op_le_str :OpR X (compareOp .LtE) (λx y H Q=>∃i j,x= .str i/\y= .str j/\Q (.bl (!(decide (j.cps.toList<i.cps.toList)))) H):=by
 intro pins s σ H x y v u Q I rx ry h;obtain⟨i,j,rfl,rfl,q⟩:=h;obtain⟨t,rfl⟩:=rx;obtain⟨t',rfl⟩:=ry;exact PySem.P.le_str ⟨.bl _,H,I,rfl,q⟩
inductive Alike(K:PySem.W.Frag)(H:Hp):Nat->V->V->Prop
 |flat {n:Nat} {x:V} (fx:zEk x=true):Alike K H n x x
 |same {n:Nat} {a:Addr}:Alike K H n (.ref a) (.ref a)
 |lists {n:Nat} {a b:Addr} {xs ys:List V} (hx:SqL K H a xs) (hy:SqL K H b ys) (hl:xs.length=ys.length) (he:∀(i:Nat)(x y:V),xs[i]?=some x->ys[i]?=some y->Alike K H n x y):Alike K H (n+1) (.ref a) (.ref b)
 |tups {n:Nat} {a b:Addr} {xs ys:List V} (hx:SqT K H a xs) (hy:SqT K H b ys) (hl:xs.length=ys.length) (he:∀(i:Nat)(x y:V),xs[i]?=some x->ys[i]?=some y->Alike K H n x y):Alike K H (n+1) (.ref a) (.ref b)
theorem eqV_refl{x:V}(h:zEk x=true):eqV x x=true:=by
 cases x<;>simp[eqV]<;>simp[zEk]at h
section
variable{X:Cx}{pins:List (Addr×Obj)}{σ:St}{H:Hp}{s:Shared}
theorem zJ6(n:Nat):(List.range n).all (λ_=>true)=true:=by simp
theorem alike_at(I:Inv X pins σ H s){n:Nat}{x y:V}(h:Alike X.K H n x y):∀{u v:Value}{A:Around},RelV x u->RelV y v->A.units+n<cLine->SeqAt.EqAt A s u v true:=by
 induction h with
 |flat fx=>
  intro u v A ru rv _;have q:=eqAt_V (A:=A) (s:=s) ru rv fx fx
  rwa [eqV_refl fx]at q
 |same=>
  intro u v A ru rv _
  cases ru
  cases rv
  exact qDA _
 |@lists n a b xs ys hx hy hl he ih=>
  intro u v A ru rv hu
  cases ru
  cases rv
  by_cases ab:a=b
  .subst ab;exact qDA _
  .obtain ⟨its,r,pl,hz⟩:=I.list hx;obtain⟨its2,r2,pl2,hz2⟩:=I.list hy;have e1:=r.length;have e2:=r2.length
   have q:=SeqAt.RcAt.lists (A:=A) (s:=s) (e:=λ_=>true) pl.isList pl2.isList (by rw[qAK,qAK];lia) (by lia) (λj h1 h2=>by
    rw[qAK]at h1 h2;have hjx:xs[j]?=some (xs[j]'(by lia)):=by simp
    have hjy:ys[j]?=some (ys[j]'(by lia)):=by simp
    obtain⟨u1,q1,ru1⟩:=r.get hjx;obtain⟨v1,q2,rv1⟩:=r2.get hjy
    have e3:its.toArray[j]=u1:=by
     have:its[j]?=some its[j]:=by simp
     rw[this]at q1;simpa using q1
    have e4:its2.toArray[j]=v1:=by
     have:its2[j]?=some its2[j]:=by simp
     rw[this]at q2;simpa using q2
    rw[e3,e4];exact ih j _ _ hjx hjy ru1 rv1 (by show A.units+1+n<cLine;lia))
   rw[zJ6]at q;exact SeqAt.EqAt.of_refs ab q
 |@tups n a b xs ys hx hy hl he ih=>
  intro u v A ru rv hu
  cases ru
  cases rv
  by_cases ab:a=b
  .subst ab;exact qDA _
  .obtain ⟨its,r,pl,hz⟩:=I.tuple hx;obtain⟨its2,r2,pl2,hz2⟩:=I.tuple hy;have e1:=r.length;have e2:=r2.length
   have q:=SeqAt.RcAt.tuples (A:=A) (s:=s) (e:=λ_=>true) (show s.heap.IsTuple a its.toArray from pl) (show s.heap.IsTuple b its2.toArray from pl2) (by lia) (λj h1 h2=>by
    rw[qAK]at h1 h2;have hjx:xs[j]?=some (xs[j]'(by lia)):=by simp
    have hjy:ys[j]?=some (ys[j]'(by lia)):=by simp
    obtain⟨u1,q1,ru1⟩:=r.get hjx;obtain⟨v1,q2,rv1⟩:=r2.get hjy
    have e3:its.toArray[j]=u1:=by
     have:its[j]?=some its[j]:=by simp
     rw[this]at q1;simpa using q1
    have e4:its2.toArray[j]=v1:=by
     have:its2[j]?=some its2[j]:=by simp
     rw[this]at q2;simpa using q2
    rw[e3,e4];exact ih j _ _ hjx hjy ru1 rv1 (by show A.units+1+n<cLine;lia))
   rw[zJ6,Bool.true_and,qAK,qAK,<-e1,<-e2,hl,beq_self_eq_true]at q;exact SeqAt.EqAt.of_refs ab q
theorem alike_items(I:Inv X pins σ H s){n:Nat}{xs ys:List V}{its its2:List Value}{A:Around}(r:Vals xs its)(r2:Vals ys its2)(he:∀(i:Nat)(x y:V),xs[i]?=some x->ys[i]?=some y->Alike X.K H n x y)(hu:A.units+n<cLine) :
  ∀j (h1:j<its.toArray.size) (h2:j<its2.toArray.size),SeqAt.EqAt A s its.toArray[j] its2.toArray[j] true:=λj h1 h2=>by
 have e1:=r.length;have e2:=r2.length;rw[qAK]at h1 h2;have hjx:xs[j]?=some (xs[j]'(by lia)):=by simp
 have hjy:ys[j]?=some (ys[j]'(by lia)):=by simp
 obtain⟨u1,q1,ru1⟩:=r.get hjx;obtain⟨v1,q2,rv1⟩:=r2.get hjy
 have e3:its.toArray[j]=u1:=by
  have:its[j]?=some its[j]:=by simp
  rw[this]at q1;simpa using q1
 have e4:its2.toArray[j]=v1:=by
  have:its2[j]?=some its2[j]:=by simp
  rw[this]at q2;simpa using q2
 rw[e3,e4];exact alike_at I (he j _ _ hjx hjy) ru1 rv1 hu
end
def rAlike(K:PySem.W.Frag)(n:Nat)(b:Bool):R2:=λx y H Q=>∃a c xs ys,x= .ref a/\y= .ref c/\SqL K H a xs/\SqL K H c ys/\xs.length=ys.length/\(∀(i:Nat)(x y:V),xs[i]?=some x->ys[i]?=some y->Alike K H n x y)/\Q (.bl b) H
def rUnlen(K:PySem.W.Frag)(b:Bool):R2:=λx y H Q=>∃a c xs ys,x= .ref a/\y= .ref c/\SqL K H a xs/\SqL K H c ys/\xs.length≠ys.length/\Q (.bl b) H
section
variable{X:Cx}
theorem op_neA{n:Nat}(hu:X.A.units+1+n<cLine):OpR X (compareOp .NotEq) (rAlike X.K n false):=by
 intro pins s σ H x y v u Q I rx ry h;obtain⟨a,c,xs,ys,rfl,rfl,hx,hy,hl,he,q⟩:=h
 cases rx
 cases ry
 obtain⟨its,r,pl,hz⟩:=I.list hx;obtain⟨its2,r2,pl2,hz2⟩:=I.list hy;have e1:=r.length;have e2:=r2.length;refine SeqAt.RcNeAt.lists (e:=λ_=>true) pl.isList pl2.isList (by rw[qAK,qAK];lia) (by lia) (alike_items I r r2 he (by show X.A.units+1+n<cLine;lia)) X.prog X.w X.xe _ ?_;rw[zJ6];exact⟨.bl false,H,I,rfl,q⟩
theorem OpR.either{f:Value->Value->Sem Value}{r r':R2}(h:OpR X f r)(h':OpR X f r'):OpR X f (λx y H Q=>r x y H Q\/r' x y H Q):=by
 intro pins s σ H x y v u Q I rx ry q;rcases q with q|q
 .exact h pins s σ H x y v u Q I rx ry q
 .exact h' pins s σ H x y v u Q I rx ry q
end
end L2
namespace SM
open PySem PySem.StrLaws PySem.Builtin PySem.Builtin.Str
end SM
namespace L2
open PySem PySem.Spec PyProof.Rows
variable{M:List Addr}{H H1 H':Hp}{a D:Addr}{σ:St}{g:TG}{tt:TT}{te:TE}{QD:Hp->Prop}
structure Cal(P:Program)(w:World)(K:PySem.W.Frag)(mg:Str->Option Value)(base:Heap)(x:Str)(k:Nat)(ps:List Str)(sp:Sp):Prop where
 to:∃(f:Addr)(fd:FuncData),mg x=some (.ref f)/\PySem.W.keepIn K (.ref f)=true/\zD7 K fd ps []/\FnOk P w K mg base CX0 k f fd ps sp
theorem zAg{X:Cx}{x:Str}{k:Nat}{ps:List Str}{sp:Sp}{e:Expr}{es:List Expr}{p pos:Pos}{t:TA}(C:Cal X.prog X.w X.K X.mg X.base x k ps sp)(hr:Room k X.A)(hg:Gl X x)(ha:PA X (e::es) t)
  (hdb:(x==("__debug__": Str))=false:=by decide) (he:starEach (e::es) X.env=(false,eval e X.env)::starEach es X.env:=by rfl) (hpl:(backTo pos (starEach es X.env)).any (·.1)=false:=by rfl) :
  PE X (.Call (.Name x p) (e::es) [] pos) (tCall sp [] E0 t):=by
 obtain⟨f,fd,h1,h2,h3,h4⟩:=C.to;exact pe_call h4 hr hg h1 h2 h3 .nil pass0 ha hdb he hpl
theorem bo_max:bootBuiltins "max"=some (.builtin "max"):=by decide +kernel
theorem bo_min:bootBuiltins "min"=some (.builtin "min"):=by decide +kernel
theorem zH6:bootBuiltins "all"=some (.builtin "all"):=by decide +kernel
theorem bo_any:bootBuiltins "any"=some (.builtin "any"):=by decide +kernel
theorem zBj:bootBuiltins "isinstance"=some (.builtin "isinstance"):=by decide +kernel
theorem zCv:bootBuiltins "sorted"=some (.builtin "sorted"):=by decide +kernel
theorem bo_sum:bootBuiltins "sum"=some (.builtin "sum"):=by decide +kernel
theorem zBw:bootBuiltins "len"=some (.builtin "len"):=by decide +kernel
theorem zI2:bootBuiltins "int"=some (.type "int"):=by decide +kernel
theorem bo_str:bootBuiltins "str"=some (.type "str"):=by decide +kernel
theorem zEn:bootBuiltins "list"=some (.type "list"):=by decide +kernel
theorem bo_set:bootBuiltins "set"=some (.type "set"):=by decide +kernel
theorem bo_bool:bootBuiltins "bool"=some (.type "bool"):=by decide +kernel
def Fre(H:Hp)(l:Addr):Prop:=H l=none
def Kp(M:List Addr)(H H':Hp):Prop:=∀b o,H b=some o->b∉M->H' b=some o
theorem Kp.refl :Kp M H H:=λ_ _ h _=>h
theorem Kp.trans{H2:Hp}(a:Kp M H H1)(b:Kp M H1 H2):Kp M H H2:=λc o h n=>b c o (a c o h n) n
theorem Kp.weak{M M':List Addr}(k:Kp M H H')(s:∀b,b∈M->b∈M'):Kp M' H H':=λb o h n=>k b o h λz=>n (s b z)
theorem Kp.of0(k:Kp [] H H'):Kp M H H':=λb o h _=>k b o h (by simp)
theorem Kp.new{M:List Addr}{l:Addr}{o:HO}(k:Kp M H H')(f:Fre H l):Kp M H (upd H' l o):=λb u h n=>by
 rw[upd_ne (zAu h f)];exact k b u h n
theorem Kp.put{l:Addr}{o:HO}(k:Kp M H H')(f:l∈M):Kp M H (upd H' l o):=λb u h n=>by
 rw[upd_ne (by intro e;subst e;exact n f)];exact k b u h n
theorem Kp.fre{l:Addr}(k:Kp M H H')(f:Fre H' l)(n:l∉M):Fre H l:=by
 unfold Fre
 cases q:H l with
 |none=>rfl
 |some o=>
  have:=k l o q n;unfold Fre at f;rw[f]at this;cases this
theorem ne_fre{b:Addr}{o:HO}(f:Fre H b)(h:H a=some o):a≠b:=zAu h f
theorem nm1{b:Addr}(h:a≠b):a∉[b]:=by simpa using h
theorem nm2{b c:Addr}(h:a≠b)(h':a≠c):a∉[b,c]:=by simp;exact⟨h,h'⟩
theorem zDe{α:Type}{xs:List α}{i:Int}{v:α}(h0:0<=i)(h:xs[i.toNat]?=some v):atI xs i=some v:=by
 have hl:i.toNat<xs.length:=(qAf.mp h).1;unfold atI ixN;rw[qAC h0,qAC (by lia)];exact h
theorem hu2{A:Around}{k n:Nat}(hr:Room k A)(h:n<=60:=by decide):A.units+1+n<cLine:=by
 have:=hr.units;lia
theorem hu0{A:Around}{k:Nat}(hr:Room k A):A.units<cLine:=by
 have:=hr.units;lia
theorem zFx{K:PySem.W.Frag}{t:Value}(h:(t==t)=true:=by rfl):PySem.W.kitOne K t t=some true:=by
 unfold PySem.W.kitOne;rw[qAC h]
theorem seq_mid{t u:TS}{D:Ends}(Mid:St->Hp->Prop)(h1:∀N:St->Hp->Prop,(∀σ H,Mid σ H->N σ H)->t {D with nx:=N} σ H)(h2:∀σ H,Mid σ H->u D σ H):tSeq t u D σ H:=h1 (u D) h2
theorem if_mid{tb:TS}{D:Ends}{b:Bool}(Mid:St->Hp->Prop)(h1:∀N:St->Hp->Prop,(∀σ H,Mid σ H->N σ H)->if b=true then tb {D with nx:=N} σ H else N σ H)(h2:∀σ H,Mid σ H->D.nx σ H) :
  if b=true then tb D σ H else tNext D σ H:=h1 D.nx h2
theorem zA9{K:PySem.W.Frag}{ix:List (Option Nat)}{tt:TT}(xs:List V)(Pv:Nat->List V->St->Hp->Prop)(h0:Pv 0 [] (zCj σ ix) (upd H1 D (.lst [])))
  (hl:∀i ys τ H,Pv i ys τ H->SqL K H a xs)
  (hs:∀i x ys τ H,xs[i]?=some x->Pv i ys τ H->g x τ H λτ' H4=>tt τ' H4 λb H5=>if b=true then te τ' H5 λv H6=>H6 D=some (.lst ys)/\ys.length<sizeLine/\Pv (i+1) (ys++[v]) τ' (upd H6 D (.lst (ys++[v])))else Pv (i+1) ys τ' H5)
  (hd:∀ys τ H,Pv xs.length ys τ H->QD H) :
  ∃W:Nat->Nat->List V->St->Hp->Prop,(∃m,W 0 m [] (zCj σ ix) (upd H1 D (.lst [])))/\∀i m ys τ H2,W i m ys τ H2 ->
   ((Itl K a).stop i H2/\QD H2)\/((Itl K a).go i H2/\∃N:List V->St->Hp->Prop,(∀ys' τ' H',N ys' τ' H'->∃m',m'<m/\W (i+1) m' ys' τ' H')/\∀x H3,(Itl K a).yld i H2 x H3->g x τ H3 λτ' H4=>tt τ' H4 λb H5=>if b=true then te τ' H5 λv H6=>H6 D=some (.lst ys)/\ys.length<sizeLine/\N (ys++[v]) τ' (upd H6 D (.lst (ys++[v]))) else N ys τ' H5):=by
 refine comp_by (Q:=λ_ H=>QD H) xs Pv h0 (λi ys τ H p=>⟨λx hx=>⟨⟨xs,x,hl i ys τ H p,hx⟩,λy H' yl=>?_⟩,λe=>⟨xs,hl i ys τ H p,by lia⟩⟩) hs hd;obtain⟨e,z⟩:=yl;subst e;have:=z xs (hl i ys τ _ p);rw[hx]at this;exact⟨rfl,(qAe this).symm⟩
theorem zGj{lo:Int}{n:Nat}{ix:List (Option Nat)}(Pv:Nat->List V->St->Hp->Prop)(h0:Pv 0 [] (zCj σ ix) (upd H1 D (.lst [])))
  (hs:∀i ys τ H,i<n->Pv i ys τ H->g (.int (lo+i)) τ H λτ' H4=>tt τ' H4 λb H5=>if b=true then te τ' H5 λv H6=>H6 D=some (.lst ys)/\ys.length<sizeLine/\Pv (i+1) (ys++[v]) τ' (upd H6 D (.lst (ys++[v])))else Pv (i+1) ys τ' H5)
  (hd:∀ys τ H,Pv n ys τ H->QD H) :
  ∃W:Nat->Nat->List V->St->Hp->Prop,(∃m,W 0 m [] (zCj σ ix) (upd H1 D (.lst [])))/\∀i m ys τ H2,W i m ys τ H2 ->
   ((Itr lo n).stop i H2/\QD H2)\/((Itr lo n).go i H2/\∃N:List V->St->Hp->Prop,(∀ys' τ' H',N ys' τ' H'->∃m',m'<m/\W (i+1) m' ys' τ' H')/\∀x H3,(Itr lo n).yld i H2 x H3->g x τ H3 λτ' H4=>tt τ' H4 λb H5=>if b=true then te τ' H5 λv H6=>H6 D=some (.lst ys)/\ys.length<sizeLine/\N (ys++[v]) τ' (upd H6 D (.lst (ys++[v]))) else N ys τ' H5):=by
 refine⟨λi m ys τ H=>m=n-i/\i<=n/\Pv i ys τ H,⟨n,by simp,qAd _,h0⟩,?_⟩;rintro i m ys τ H ⟨rfl,hi,p⟩
 by_cases hlt:i<n
 .refine .inr ⟨hlt,Pv (i+1),λys' τ' H' p'=>⟨n-(i+1),by lia,rfl,hlt,p'⟩,λy H' yd=>?_⟩;obtain⟨e1,e2⟩:=yd;subst e1 e2;exact hs i ys τ _ hlt p
 .have e:i=n:=by lia
  subst e;exact .inl ⟨qAF _,hd ys τ H p⟩
theorem comp_str{z:Str}{ix:List (Option Nat)}{tt:TT}(Pv:Nat->List V->St->Hp->Prop)(h0:Pv 0 [] (zCj σ ix) (upd H1 D (.lst [])))
  (hs:∀i c ys τ H,z.cps.toList[i]?=some c->Pv i ys τ H->g (.str ⟨#[c]⟩) τ H λτ' H4=>tt τ' H4 λb H5=>if b=true then te τ' H5 λv H6=>H6 D=some (.lst ys)/\ys.length<sizeLine/\Pv (i+1) (ys++[v]) τ' (upd H6 D (.lst (ys++[v])))else Pv (i+1) ys τ' H5)
  (hd:∀ys τ H,Pv z.length ys τ H->QD H) :
  ∃W:Nat->Nat->List V->St->Hp->Prop,(∃m,W 0 m [] (zCj σ ix) (upd H1 D (.lst [])))/\∀i m ys τ H2,W i m ys τ H2 ->
   ((Its z).stop i H2/\QD H2)\/((Its z).go i H2/\∃N:List V->St->Hp->Prop,(∀ys' τ' H',N ys' τ' H'->∃m',m'<m/\W (i+1) m' ys' τ' H')/\∀x H3,(Its z).yld i H2 x H3->g x τ H3 λτ' H4=>tt τ' H4 λb H5=>if b=true then te τ' H5 λv H6=>H6 D=some (.lst ys)/\ys.length<sizeLine/\N (ys++[v]) τ' (upd H6 D (.lst (ys++[v]))) else N ys τ' H5):=by
 refine⟨λi m ys τ H=>m=z.length-i/\i<=z.length/\Pv i ys τ H,⟨z.length,by simp,qAd _,h0⟩,?_⟩;rintro i m ys τ H ⟨rfl,hi,p⟩
 by_cases hlt:i<z.length
 .refine .inr ⟨hlt,Pv (i+1),λys' τ' H' p'=>⟨z.length-(i+1),by lia,rfl,hlt,p'⟩,λy H' yd=>?_⟩;obtain⟨e1,c,e2,e3⟩:=yd;subst e1 e3;exact hs i c ys τ _ (by simpa using e2) p
 .have e:i=z.length:=by lia
  subst e;exact .inl ⟨qAF _,hd ys τ H p⟩
theorem zAw{K:PySem.W.Frag}{ix:List (Option Nat)}(xs:List V)(Pv:Nat->List V->St->Hp->Prop)(h0:Pv 0 [] (zCj σ ix) (upd H1 D (.lst [])))
  (hl:∀i ys τ H,Pv i ys τ H->SqL K H a xs)
  (hs:∀i x ys τ H,xs[i]?=some x->Pv i ys τ H->g x τ H λτ' H4=>te τ' H4 λv H6=>H6 D=some (.lst ys)/\ys.length<sizeLine/\Pv (i+1) (ys++[v]) τ' (upd H6 D (.lst (ys++[v]))))
  (hd:∀ys τ H,Pv xs.length ys τ H->QD H) :
  ∃W:Nat->Nat->List V->St->Hp->Prop,(∃m,W 0 m [] (zCj σ ix) (upd H1 D (.lst [])))/\∀i m ys τ H2,W i m ys τ H2 ->
   ((Itl K a).stop i H2/\QD H2)\/((Itl K a).go i H2/\∃N:List V->St->Hp->Prop,(∀ys' τ' H',N ys' τ' H'->∃m',m'<m/\W (i+1) m' ys' τ' H')/\∀x H3,(Itl K a).yld i H2 x H3->g x τ H3 λτ' H4=>tTrue τ' H4 λb H5=>if b=true then te τ' H5 λv H6=>H6 D=some (.lst ys)/\ys.length<sizeLine/\N (ys++[v]) τ' (upd H6 D (.lst (ys++[v]))) else N ys τ' H5):=zA9 (tt:=tTrue) xs Pv h0 hl hs hd
theorem comp_str0{z:Str}{ix:List (Option Nat)}(Pv:Nat->List V->St->Hp->Prop)(h0:Pv 0 [] (zCj σ ix) (upd H1 D (.lst [])))
  (hs:∀i c ys τ H,z.cps.toList[i]?=some c->Pv i ys τ H->g (.str ⟨#[c]⟩) τ H λτ' H4=>te τ' H4 λv H6=>H6 D=some (.lst ys)/\ys.length<sizeLine/\Pv (i+1) (ys++[v]) τ' (upd H6 D (.lst (ys++[v]))))
  (hd:∀ys τ H,Pv z.length ys τ H->QD H) :
  ∃W:Nat->Nat->List V->St->Hp->Prop,(∃m,W 0 m [] (zCj σ ix) (upd H1 D (.lst [])))/\∀i m ys τ H2,W i m ys τ H2 ->
   ((Its z).stop i H2/\QD H2)\/((Its z).go i H2/\∃N:List V->St->Hp->Prop,(∀ys' τ' H',N ys' τ' H'->∃m',m'<m/\W (i+1) m' ys' τ' H')/\∀x H3,(Its z).yld i H2 x H3->g x τ H3 λτ' H4=>tTrue τ' H4 λb H5=>if b=true then te τ' H5 λv H6=>H6 D=some (.lst ys)/\ys.length<sizeLine/\N (ys++[v]) τ' (upd H6 D (.lst (ys++[v]))) else N ys τ' H5):=comp_str (tt:=tTrue) Pv h0 hs hd
section
variable{X:Cx}{K:PySem.W.Frag}
theorem zC5(hK:X.K=K:=by rfl):IxR X (rIxL K):=by subst hK;exact zBt
theorem zDy(hK:X.K=K:=by rfl):zCa X (.builtin "len") (λxs H Q=>∃p ys,xs=[.ref p]/\(SqL K H p ys\/SqT K H p ys)/\Q (.int ys.length) H):=by subst hK;exact zAl
theorem zJi(hK:X.K=K:=by rfl):OpR X (compareOp .NotIn) (rIn K true):=by subst hK;exact zGp
end
theorem Kp.drop{H2:Hp}{p:Addr}(k1:Kp [] H H1)(f:Fre H p)(k2:Kp [p] H1 H2):Kp [] H H2:=λb o h _=>k2 b o (k1 b o h (by simp)) (nm1 (ne_fre f h))
end L2
namespace Tim
open PySem PyProof.Rows
variable{i lo n nrem:Nat}{st:SortSt}
def kk(κ:KeyKind)(p:Keyed):κ.α:=(κ.keyOf p.1).getD κ.dflt
def Has(κ:KeyKind)(p:Keyed):Prop:=∃a,κ.keyOf p.1=some a
theorem Has.key{κ:KeyKind}{p:Keyed}(h:Has κ p):κ.keyOf p.1=some (kk κ p):=by
 obtain⟨a,e⟩:=h;unfold kk;rw[e];rfl
theorem KK_at{κ:KeyKind}{xs:Array Keyed}{p:Keyed}(h:xs[i]?=some p):KK κ xs i=kk κ p:=by
 unfold KK kk;rw[h]
def CmpOk(prog:Program)(w:World)(A:Around)(s:Shared)(kd:SortKind)(κ:KeyKind):Prop :=
 ∀(E:Value->Shared->Prop)(x y:Value)(a b:κ.α)(Q:Bool->Shared->Prop),κ.keyOf x=some a->κ.keyOf y=some b->Q (κ.blt a b) s->wpAny (model prog w) A (keyLt' kd x y) Q E s
section
variable{prog:Program}{w:World}{A:Around}{E:Value->Shared->Prop}{s:Shared}{kd:SortKind}{κ:KeyKind}
theorem w_lt{x y:Keyed}{Q:Option Bool->SortSt->Prop}(C:CmpOk prog w A s kd κ)(hk:kindOf st=kd)(hx:Has κ x)(hy:Has κ y)(h:Q (some (κ.blt (kk κ x) (kk κ y))) st):wpS (model prog w) A E s (lt' x y) Q st:=by
 rw[lt'_eq];refine qAh (wpS_get ?_);rw[hk];exact qAh (wpS_lift (qBa (C _ x.1 y.1 _ _ _ hx.key hy.key ⟨rfl,qAw h⟩)))
theorem w_elem{arr:Array Keyed}{p:Keyed}{Q:Keyed->SortSt->Prop}(e:arr[i]?=some p)(h:Q p st):wpS (model prog w) A E s (elem' arr i) Q st:=by
 rw[elem'_eq,e];exact qAw h
theorem w_ltAt{j:Nat}{Q:Option Bool->SortSt->Prop}(C:CmpOk prog w A s kd κ)(hk:kindOf st=kd)(hi:∃p,(arrOf st)[i]?=some p/\Has κ p)(hj:∃p,(arrOf st)[j]?=some p/\Has κ p)
  (h:Q (some (κ.blt (KK κ (arrOf st) i) (KK κ (arrOf st) j))) st):wpS (model prog w) A E s (ltAt' i j) Q st:=by
 obtain⟨p,e1,h1⟩:=hi;obtain⟨q,e2,h2⟩:=hj;rw[KK_at e1,KK_at e2]at h;rw[ltAt'_eq];exact qAh (wpS_get (qAh (w_elem e1 (qAh (w_elem e2 (w_lt C hk h1 h2 h))))))
end
section
variable{κ:KeyKind}
def le(κ:KeyKind)(x y:Keyed):Prop:=κ.kle (kk κ x) (kk κ y)
abbrev Srt(κ:KeyKind)(l:List Keyed):Prop:=l.Pairwise (le κ)
end
section
variable{prog:Program}{w:World}{A:Around}{E:Value->Shared->Prop}{s:Shared}{kd:SortKind}{κ:KeyKind}{a b:Array Keyed}
theorem has_at{a:Array Keyed}(ha:∀x∈a.toList,Has κ x)(hi:i<a.size):∃p,a[i]?=some p/\Has κ p :=
 ⟨a[i],by simp,ha _ (by simp)⟩
end
section
variable{prog:Program}{w:World}{A:Around}{E:Value->Shared->Prop}{s:Shared}{kd:SortKind}{κ:KeyKind}
structure Fr(lo:Nat)(st st':SortSt):Prop where
 kd:kindOf st'=kindOf st
 pn:pendingOf st'=pendingOf st
 fl:failedOf st'=failedOf st
 perm:(arrOf st').Perm (arrOf st)
 low:∀k,k<lo->(arrOf st')[k]?=(arrOf st)[k]?
theorem Fr.refl(lo:Nat)(st:SortSt):Fr lo st st:=⟨rfl,rfl,rfl,qCo _,λ_ _=>rfl⟩
theorem Fr.trans{a b c:SortSt}(h:Fr lo a b)(k:Fr lo b c):Fr lo a c:=⟨k.kd.trans h.kd,k.pn.trans h.pn,k.fl.trans h.fl,k.perm.trans h.perm,λi hi=>(k.low i hi).trans (h.low i hi)⟩
theorem Fr.size{a b:SortSt}(h:Fr lo a b):(arrOf b).size=(arrOf a).size:=h.perm.size_eq
theorem Fr.rev{lo:Nat}(st:SortSt)(i j:Nat)(hi:lo<=i)(hj:j<=(arrOf st).size):Fr lo st (setArr st (mirror (arrOf st) i j ((j-i) / 2))) :=
 ⟨rfl,rfl,rfl,mirror_perm _ _ _ _,λk hk=>by
  show(mirror (arrOf st) i j ((j-i) / 2))[k]?=_;rw[getElem?_mirror_all hj,qAB (by lia)]⟩
def All(κ:KeyKind)(st:SortSt):Prop:=∀x∈(arrOf st).toList,Has κ x
theorem All.fr{a b:SortSt}(h:All κ a)(f:Fr lo a b):All κ b:=λx hx=>h x ((qDF.mp f.perm).mem_iff.mp hx)
theorem All.at(h:All κ st)(hi:i<(arrOf st).size):∃p,(arrOf st)[i]?=some p/\Has κ p:=has_at h hi
def Up(κ:KeyKind)(st:SortSt)(lo n:Nat):Prop:=∀i j,i<=j->j<n->κ.kle (KK κ (arrOf st) (lo+i)) (KK κ (arrOf st) (lo+j))
def Dn(κ:KeyKind)(st:SortSt)(lo n:Nat):Prop:=∀i j,i<=j->j<n->κ.kle (KK κ (arrOf st) (lo+j)) (KK κ (arrOf st) (lo+i))
theorem Up.one(st:SortSt)(lo:Nat):Up κ st lo 1:=λi j h1 h2=>by
 have e:i=j:=by lia
 rw[e];exact qB6 _
theorem Up.more(h:Up κ st lo n)(h1:1<=n)(e:κ.kle (KK κ (arrOf st) (lo+n-1)) (KK κ (arrOf st) (lo+n))):Up κ st lo (n+1):=λi j hij hj=>by
 by_cases c:j<n
 .exact h i j hij c
 .have ej:j=n:=by lia
  by_cases ci:i=n
  .rw [ej,ci];exact qB6 _
  .rw [ej];have q:=h i (n-1) (by lia) (by lia);rw[show lo+(n-1)=lo+n-1 by lia]at q;exact qDG q e
theorem Dn.more(h:Dn κ st lo n)(h1:1<=n)(e:κ.kle (KK κ (arrOf st) (lo+n)) (KK κ (arrOf st) (lo+n-1))):Dn κ st lo (n+1):=λi j hij hj=>by
 by_cases c:j<n
 .exact h i j hij c
 .have ej:j=n:=by lia
  by_cases ci:i=n
  .rw [ej,ci];exact qB6 _
  .rw [ej];have q:=h i (n-1) (by lia) (by lia);rw[show lo+(n-1)=lo+n-1 by lia]at q;exact qDG e q
theorem w_asc{n0:Nat}{α:Type}{Q:α->SortSt->Prop}(C:CmpOk prog w A s kd κ)(hk:kindOf st=kd)(al:All κ st)(hn:lo+nrem<=(arrOf st).size)(h1:1<=n0)(h2:n0<=nrem)(up:Up κ st lo n0)
  (F:Nat->Option (Option Nat)×Nat->StateT SortSt Sem (ForInStep (Option (Option Nat)×Nat))) (hF:∀x n,F x (none,n)=(do
   let c<-ltAt' (lo+n) (lo+n-1)
   match c with
   |some c=>if c=true then pure (ForInStep.done (none,n))else pure (ForInStep.yield (none,n+1))
   |_=>pure (ForInStep.done (some none,n)))) (G:Option (Option Nat)×Nat->StateT SortSt Sem α)
  (hG:∀n,n0<=n->n<=nrem->Up κ st lo n->(n=nrem\/κ.klt (KK κ (arrOf st) (lo+n)) (KK κ (arrOf st) (lo+n-1)))->wpS (model prog w) A E s (G (none,n)) Q st) :
  wpS (model prog w) A E s (forIn [n0:nrem] ((none,n0):Option (Option Nat)×Nat) F >>= G) Q st:=by
 refine qAh (qCP (I:=λx c st'=>st'=st/\c=(none,x)/\x<=nrem/\Up κ st lo x) ?step ?fin ⟨rfl,rfl,h2,up⟩)
 case fin=>
  rintro c st' ⟨rfl,rfl,h3,h4⟩;rw[show max n0 nrem=nrem by lia]at h4 ⊢;exact hG nrem h2 (qAF _) h4 (.inl rfl)
 case step=>
  rintro x c st' hx1 hx2 ⟨rfl,rfl,h3,h4⟩;rw[hF];refine qAh (w_ltAt C hk (al.at (by lia)) (al.at (by lia)) ?_)
  cases e:κ.blt (KK κ (arrOf st') (lo+x)) (KK κ (arrOf st') (lo+x-1))with
  |true=>
   show wpS _ _ _ _ (if true=true then _ else _) _ _;rw[qAC rfl];exact qAw (hG x hx1 h3 h4 (.inr e))
  |false=>
   show wpS _ _ _ _ (if false=true then _ else _) _ _;rw[qAB (by decide)];exact qAw ⟨rfl,rfl,by lia,h4.more (by lia) e⟩
theorem rev_up(h:Dn κ st lo n)(hn:lo+n<=(arrOf st).size):Up κ (setArr st (mirror (arrOf st) lo (lo+n) ((lo+n-lo) / 2))) lo n:=λi j hij hj=>by
 show κ.kle (KK κ (mirror (arrOf st) lo (lo+n) _) (lo+i)) (KK κ (mirror (arrOf st) lo (lo+n) _) (lo+j));rw[KK_mirror hn,KK_mirror hn,qAC (by lia),qAC (by lia)];have q:=h (n-1-j) (n-1-i) (by lia) (by lia);rw[show lo+(lo+n)-1-(lo+i)=lo+(n-1-i) by lia,show lo+(lo+n)-1-(lo+j)=lo+(n-1-j) by lia];exact q
theorem w_tail{Q:Option Nat->SortSt->Prop}(C:CmpOk prog w A s kd κ)(hk:kindOf st=kd)(al:All κ st)(hn:lo+nrem<=(arrOf st).size)(h1:1<=n)(h2:n<=nrem)(dn:Dn κ st lo n)
  (F:Nat->Option (Option Nat)×Nat->StateT SortSt Sem (ForInStep (Option (Option Nat)×Nat))) (hF:∀x n,F x (none,n)=(do
   let c<-ltAt' (lo+n) (lo+n-1)
   match c with
   |some c=>if c=true then pure (ForInStep.done (none,n))else pure (ForInStep.yield (none,n+1))
   |_=>pure (ForInStep.done (some none,n)))) (G:Option (Option Nat)×Nat->StateT SortSt Sem (Option Nat)) (hG:∀n,G (none,n)=pure (some n))
  (h:∀m st',Fr lo st st'->1<=m->m<=nrem->Up κ st' lo m->Q (some m) st') :
  wpS (model prog w) A E s (reverseSlice' lo (lo+n) >>= λ_=>forIn [n:nrem] ((none,n):Option (Option Nat)×Nat) F >>= G) Q st:=by
 have f:=Fr.rev (lo:=lo) st lo (lo+n) (qAF _) (by lia);refine qAh (qCp ?_);refine w_asc C (f.kd.trans hk) (al.fr f) (by rw[f.size];exact hn) h1 h2 (rev_up dn (by lia)) F hF G λm m1 m2 m3 _=>?_;rw[hG];exact qAw (h m _ f (by lia) m2 m3)
theorem eq_rev{j:Nat}(hj:j<=(arrOf st).size)(he:∀k,i<=k->k<j->KK κ (arrOf st) k=KK κ (arrOf st) (j-1))(k:Nat) :
  KK κ (arrOf (setArr st (mirror (arrOf st) i j ((j-i) / 2)))) k=KK κ (arrOf st) k:=KK_mirror_equal hj he k
theorem Dn.same{st':SortSt}(h:Dn κ st lo n)(e:∀k,KK κ (arrOf st') k=KK κ (arrOf st) k):Dn κ st' lo n:=λi j h1 h2=>by rw[e,e];exact h i j h1 h2
theorem w_desc{n0:Nat}{α:Type}{Q:α->SortSt->Prop}(C:CmpOk prog w A s kd κ)(hk:kindOf st=kd)(al:All κ st)(hn:lo+nrem<=(arrOf st).size)(h1:1<=n0)(h2:n0<=nrem)(dn:Dn κ st lo n0)
  (F:Nat->Option (Option Nat)×Nat×Nat->StateT SortSt Sem (ForInStep (Option (Option Nat)×Nat×Nat))) (hF:∀x n q,F x (none,n,q)=(ltAt' (lo+n) (lo+n-1) >>= λc=>match c with
   |some c=>(if c=true then(if q>0 then(reverseSlice' (lo+n-(q+1)) (lo+n) >>= λ_=>pure (ForInStep.yield (none,n+1,0)))else pure (ForInStep.yield (none,n+1,0)))
    else(ltAt' (lo+n-1) (lo+n) >>= λd=>match d with
     |some d=>(if d=true then pure (ForInStep.done (none,n,q))else pure (ForInStep.yield (none,n+1,q+1)))
     |_=>pure (ForInStep.done (some none,n,q))))
   |_=>pure (ForInStep.done (some none,n,q)))) (G:Option (Option Nat)×Nat×Nat->StateT SortSt Sem α)
  (hG:∀n q st',Fr lo st st'->n0<=n->n<=nrem->Dn κ st' lo n->q+1<=n->(∀k,lo+n-(q+1)<=k->k<lo+n->KK κ (arrOf st') k=KK κ (arrOf st') (lo+n-1))->wpS (model prog w) A E s (G (none,n,q)) Q st') :
  wpS (model prog w) A E s (forIn [n0:nrem] ((none,n0,0):Option (Option Nat)×Nat×Nat) F >>= G) Q st:=by
 refine qAh (qCP (I:=λx c st'=>Fr lo st st'/\∃q,c=(none,x,q)/\x<=nrem/\Dn κ st' lo x/\q+1<=x/\∀k,lo+x-(q+1)<=k->k<lo+x->KK κ (arrOf st') k=KK κ (arrOf st') (lo+x-1)) ?step ?fin ⟨Fr.refl _ _,0,rfl,h2,dn,by lia,λk k1 k2=>by rw[show k=lo+n0-1 by lia]⟩)
 case fin=>
  rintro c st' ⟨f,q,rfl,h3,h4,h5,h6⟩;have e:max n0 nrem=nrem:=by lia
  rw[e]at h4 h5 h6 ⊢;exact hG nrem q st' f h2 (qAF _) h4 h5 h6
 case step=>
  rintro x c st' hx1 hx2 ⟨f,q,rfl,h3,h4,h5,h6⟩;have hz:(arrOf st').size=(arrOf st).size:=f.size;have al':=al.fr f;have hk':=f.kd.trans hk;rw[hF];refine qAh (w_ltAt C hk' (al'.at (by lia)) (al'.at (by lia)) ?_)
  cases e:κ.blt (KK κ (arrOf st') (lo+x)) (KK κ (arrOf st') (lo+x-1))with
  |true=>
   show wpS _ _ _ _ (if true=true then _ else _) _ _;rw[qAC rfl];have d2:Dn κ st' lo (x+1):=h4.more (by lia) (qDH e)
   by_cases hq:q>0
   .rw [qAC hq];have f2:=Fr.rev (lo:=lo) st' (lo+x-(q+1)) (lo+x) (by lia) (by lia);exact qAh (qCp (qAw ⟨f.trans f2,0,rfl,by lia,d2.same (eq_rev (by lia) h6),by lia,λk k1 k2=>by rw[show k=lo+(x+1)-1 by lia]⟩))
   .rw [qAB hq];exact qAw ⟨f,0,rfl,by lia,d2,by lia,λk k1 k2=>by rw[show k=lo+(x+1)-1 by lia]⟩
  |false=>
   show wpS _ _ _ _ (if false=true then _ else _) _ _;rw[qAB (by decide)];refine qAh (w_ltAt C hk' (al'.at (by lia)) (al'.at (by lia)) ?_)
   cases e2:κ.blt (KK κ (arrOf st') (lo+x-1)) (KK κ (arrOf st') (lo+x))with
   |true=>
    show wpS _ _ _ _ (if true=true then _ else _) _ _;rw[qAC rfl];exact qAw (hG x q st' f hx1 h3 h4 h5 h6)
   |false=>
    show wpS _ _ _ _ (if false=true then _ else _) _ _;rw[qAB (by decide)];have eq:KK κ (arrOf st') (lo+x)=KK κ (arrOf st') (lo+x-1):=KeyOrd.kle_antisymm e2 e;refine qAw ⟨f,q+1,rfl,by lia,h4.more (by lia) e2,by lia,λk k1 k2=>?_⟩;rw[show lo+(x+1)-1=lo+x by lia]
    by_cases ck:k=lo+x
    .rw [ck]
    .rw [eq];exact h6 k (by lia) (by lia)
theorem w_count{Q:Option Nat->SortSt->Prop}(C:CmpOk prog w A s kd κ)(hk:kindOf st=kd)(al:All κ st)(hn:lo+nrem<=(arrOf st).size)(h1:1<=nrem)
  (h:∀m st',Fr lo st st'->1<=m->m<=nrem->Up κ st' lo m->Q (some m) st'):wpS (model prog w) A E s (countRun' lo nrem) Q st:=by
 refine w_asc C hk al hn (qAF 1) h1 (Up.one _ _) _ (λx n=>rfl) _ λn n1 n2 up ho=>?_;show wpS _ _ _ _ (if(n==nrem)=true then _ else _) _ _
 by_cases c:(n==nrem)=true
 .rw [qAC c];exact qAw (h n st (Fr.refl _ _) n1 n2 up)
 rw[qAB c];have c':¬n=nrem:=by simpa using c
 have hlt:=ho.resolve_left c';show wpS _ _ _ _ (if n>1 then _ else _) _ _
 by_cases g:n>1
 .rw [qAC g];refine qAh (w_ltAt C hk (al.at (by lia)) (al.at (by lia)) ?_)
  cases e:κ.blt (KK κ (arrOf st) lo) (KK κ (arrOf st) (lo+n-1))with
  |true=>
   show wpS _ _ _ _ (if true=true then _ else _) _ _;rw[qAC rfl];exact qAw (h n st (Fr.refl _ _) n1 n2 up)
  |false=>
   show wpS _ _ _ _ (if false=true then _ else _) _ _;rw[qAB (by decide)]
   have hall:∀k,lo<=k->k<lo+n->KK κ (arrOf st) k=KK κ (arrOf st) (lo+n-1):=λk k1 k2=>by
    have a1:=up 0 (k-lo) (by lia) (by lia);have a2:=up (k-lo) (n-1) (by lia) (by lia);rw[show lo+(k-lo)=k by lia]at a1 a2;rw[show lo+(n-1)=lo+n-1 by lia]at a2;exact KeyOrd.kle_antisymm a2 (qDG e a1)
   have f1:=Fr.rev (lo:=lo) st lo (lo+n) (qAF _) (by lia);refine qAh (qCp ?_);have same:=eq_rev (κ:=κ) (st:=st) (i:=lo) (j:=lo+n) (by lia) hall
   have dn:Dn κ (setArr st (mirror (arrOf st) lo (lo+n) ((lo+n-lo) / 2))) lo (n+1):=by
    have d0:Dn κ st lo n:=λi j i1 i2=>by
     rw[hall (lo+i) (by lia) (by lia),hall (lo+j) (by lia) (by lia)];exact qB6 _
    exact(d0.more n1 (qDH hlt)).same same
   refine qAh (wpS_lift (qBb ⟨rfl,?_⟩));refine w_desc C (f1.kd.trans hk) (al.fr f1) (by rw[f1.size];exact hn) (by lia) (by lia) dn _ (λx n q=>rfl) _ λm q st2 f2 m1 m2 dm q1 q2=>?_;have hz:(arrOf st2).size=(arrOf st).size:=(f1.trans f2).size;show wpS _ _ _ _ (if q>0 then _ else _) _ _
   by_cases hq:q>0
   .rw [qAC hq];have f3:=Fr.rev (lo:=lo) st2 (lo+m-(q+1)) (lo+m) (by lia) (by lia);refine qAh (qCp ?_);refine w_tail C (f3.kd.trans ((f1.trans f2).kd.trans hk)) ((al.fr (f1.trans f2)).fr f3) (by rw[f3.size,hz];exact hn) (by lia) m2 (dm.same (eq_rev (by lia) q2)) _ (λx n=>rfl) _ (λn=>rfl) λm' st' f'=>h m' st' (((f1.trans f2).trans f3).trans f')
   .rw [qAB hq];refine w_tail C ((f1.trans f2).kd.trans hk) (al.fr (f1.trans f2)) (by rw[hz];exact hn) (by lia) m2 dm _ (λx n=>rfl) _ (λn=>rfl) λm' st' f'=>h m' st' ((f1.trans f2).trans f')
 .rw [qAB g];have en:n=1:=by lia
  subst en
  have dn:Dn κ st lo (1+1):=Dn.more (λi j i1 i2=>by
   have e:i=j:=by lia
   rw[e];exact qB6 _) (qAF _) (qDH hlt)
  refine qAh (wpS_lift (qBb ⟨rfl,?_⟩));refine w_desc C hk al hn (by lia) (by lia) dn _ (λx n q=>rfl) _ λm q st2 f2 m1 m2 dm q1 q2=>?_;have hz:(arrOf st2).size=(arrOf st).size:=f2.size;show wpS _ _ _ _ (if q>0 then _ else _) _ _
  by_cases hq:q>0
  .rw [qAC hq];have f3:=Fr.rev (lo:=lo) st2 (lo+m-(q+1)) (lo+m) (by lia) (by lia);refine qAh (qCp ?_);refine w_tail C (f3.kd.trans (f2.kd.trans hk)) ((al.fr f2).fr f3) (by rw[f3.size,hz];exact hn) (by lia) m2 (dm.same (eq_rev (by lia) q2)) _ (λx n=>rfl) _ (λn=>rfl) λm' st' f'=>h m' st' ((f2.trans f3).trans f')
  .rw [qAB hq];refine w_tail C (f2.kd.trans hk) (al.fr f2) (by rw[hz];exact hn) (by lia) m2 dm _ (λx n=>rfl) _ (λn=>rfl) λm' st' f'=>h m' st' (f2.trans f')
theorem w_ins{ok:Nat}{Q:Bool->SortSt->Prop}(C:CmpOk prog w A s kd κ)(hk:kindOf st=kd)(al:All κ st)(hn:lo+n<=(arrOf st).size)(ho:ok<=n)(h1:1<=ok)(up:Up κ st lo ok)
  (h:∀st',Fr lo st st'->Up κ st' lo n->Q true st'):wpS (model prog w) A E s (binarySort' lo n ok) Q st:=by
 refine qAh (wpS_mono (qCP (I:=λk c st'=>c=(none,())/\Fr lo st st'/\k<=n/\Up κ st' lo k) (Q:=λc st'=>c=(none,())/\Fr lo st st'/\Up κ st' lo n) ?step ?fin ⟨rfl,Fr.refl _ _,by lia,by rw[show max ok 1=ok by lia];exact up⟩) ?post)
 case post=>
  rintro c st' ⟨rfl,f,u⟩;exact qAw (h st' f u)
 case fin=>
  rintro c st' ⟨hc,f,_,u⟩;rw[show max (max ok 1) n=n by lia]at u;exact⟨hc,f,u⟩
 case step=>
  rintro k c st' hk1 hk2 ⟨rfl,f,_,u⟩;have hz:(arrOf st').size=(arrOf st).size:=f.size;have al':=al.fr f;have hkd:=f.kd.trans hk
  refine qAh (wpS_mono (qCP (I:=λx c st2=>st2=st'/\∃l r,c=(none,l,r)/\l<=r/\r<=k/\r-l<=k-x/\(∀i,i<l->κ.kle (KK κ (arrOf st') (lo+i)) (KK κ (arrOf st') (lo+k)))/\(∀i,r<=i->i<k->κ.klt (KK κ (arrOf st') (lo+k)) (KK κ (arrOf st') (lo+i)))) (Q:=λc st2=>st2=st'/\∃l r,c=(none,l,r)/\l<=k/\(∀i,i<l->κ.kle (KK κ (arrOf st') (lo+i)) (KK κ (arrOf st') (lo+k)))/\(∀i,l<=i->i<k->κ.klt (KK κ (arrOf st') (lo+k)) (KK κ (arrOf st') (lo+i)))) ?s2 ?f2 ⟨rfl,0,k,rfl,by lia,by lia,by lia,λi hi=>by lia,λi i1 i2=>by lia⟩) ?p2)
  case f2=>
   rintro c st2 ⟨rfl,l,r,rfl,a1,a2,a3,a4,a5⟩;have e:l=r:=by lia
   subst e;exact⟨rfl,l,l,rfl,a2,a4,a5⟩
  case s2=>
   rintro x c st2 _ hx ⟨rfl,l,r,rfl,a1,a2,a3,a4,a5⟩;dsimp only
   by_cases g:l>=r
   .rw [qAC g];have e:l=r:=by lia
    subst e;exact qAw ⟨rfl,l,l,rfl,a2,a4,a5⟩
   .rw [qAB g];refine qAh (w_ltAt C hkd (al'.at (by lia)) (al'.at (by lia)) ?_)
    cases e:κ.blt (KK κ (arrOf st2) (lo+k)) (KK κ (arrOf st2) (lo+(l+r) / 2))with
    |true=>
     show wpS _ _ _ _ (if true=true then _ else _) _ _;rw[qAC rfl];exact qAw ⟨rfl,l,(l+r) / 2,rfl,by lia,by lia,by lia,a4,λi i1 i2=>KeyOrd.klt_of_klt_of_kle e (u _ _ i1 i2)⟩
    |false=>
     show wpS _ _ _ _ (if false=true then _ else _) _ _;rw[qAB (by decide)];exact qAw ⟨rfl,(l+r) / 2+1,r,rfl,by lia,by lia,by lia,λi i1=>qDG (u i ((l+r) / 2) (by lia) (by lia)) (show κ.kle _ _ from e),a5⟩
  case p2=>
   rintro c st2 ⟨rfl,l,r,rfl,a1,a2,a3⟩;show wpS _ _ _ _ (moveDown' (lo+k) (lo+l) >>= λ_=>pure (ForInStep.yield (none,()))) _ _;rw[moveDown'_eq];have hs:lo+k<(arrOf st2).size:=by lia
   refine qAh (wpS_modify (qAw ⟨rfl,f.trans ⟨rfl,rfl,rfl,bubble_perm _ _ _,λi hi=>?_⟩,by lia,λi j i1 i2=>?_⟩))
   .show (bubble (arrOf st2) (lo+k) (lo+k-(lo+l)))[i]?=_;rw[getElem?_bubble hs _ (by lia),qAB (by lia),qAB (by lia)]
   .show κ.kle (KK κ (bubble (arrOf st2) (lo+k) (lo+k-(lo+l))) (lo+i)) (KK κ (bubble (arrOf st2) (lo+k) (lo+k-(lo+l))) (lo+j));rw[KK_bubble hs (by lia),KK_bubble hs (by lia),show lo+k-(lo+k-(lo+l))=lo+l by lia]
    by_cases c1:lo+i=lo+l
    .rw [qAC c1]
     by_cases c2:lo+j=lo+l
     .rw [qAC c2];exact qB6 _
     .rw [qAB c2,qAC (by lia)];have q:=a3 (j-1) (by lia) (by lia);rw[show lo+(j-1)=lo+j-1 by lia]at q;exact qDH q
    .rw [qAB c1]
     by_cases c2:lo+j=lo+l
     .rw [qAC c2,qAB (by lia)];exact a2 i (by lia)
     .rw [qAB c2]
      by_cases c3:lo+l<lo+i/\lo+i<=lo+k
      .rw [qAC c3,qAC (by lia)];have q:=u (i-1) (j-1) (by lia) (by lia);rw[show lo+(i-1)=lo+i-1 by lia,show lo+(j-1)=lo+j-1 by lia]at q;exact q
      .rw [qAB c3]
       by_cases c4:lo+l<lo+j/\lo+j<=lo+k
       .rw [qAC c4];have q:=u i (j-1) (by lia) (by lia);rw[show lo+(j-1)=lo+j-1 by lia]at q;exact q
       .rw [qAB c4];exact u i j i1 (by lia)
end
section
variable{prog:Program}{w:World}{A:Around}{E:Value->Shared->Prop}{s:Shared}{kd:SortKind}{κ:KeyKind}
def seg(arr:Array Keyed)(lo n:Nat):List Keyed:=(arr.toList.drop lo).take n
theorem seg_at{arr:Array Keyed}(hi:i<n):(seg arr lo n)[i]?=arr[lo+i]?:=by
 unfold seg;rw[qCe hi,qDI];simp
theorem seg_len{arr:Array Keyed}(h:lo+n<=arr.size):(seg arr lo n).length=n:=by
 unfold seg;rw[qAR,qB2];simp;lia
theorem up_srt(h:lo+n<=(arrOf st).size):Up κ st lo n↔Srt κ (seg (arrOf st) lo n):=by
 have hl:=seg_len h
 have at':∀i (hi:i<(seg (arrOf st) lo n).length),KK κ (arrOf st) (lo+i)=kk κ (seg (arrOf st) lo n)[i]:=λi hi=>by
  have e:(seg (arrOf st) lo n)[i]?=some (seg (arrOf st) lo n)[i]:=by simp
  rw[seg_at (by lia)]at e;exact KK_at e
 constructor
 .intro u;refine qDJ.mpr λi j hi hj hij=>?_;show κ.kle _ _;rw[<-at' i hi,<-at' j hj];exact u i j (by lia) (by lia)
 .intro p i j hij hj;rw[at' i (by lia),at' j (by lia)]
  by_cases e:i=j
  .subst e;exact qB6 _
  .exact qDJ.mp p i j (by lia) (by lia) (by lia)
end
end Tim
namespace ST
open PySem PySem.SetTable
variable{xs:Array Nat}{i j mask N:Nat}{α:Type}{hs:List Int}{b:Addr}
abbrev Rise(l:List Nat):Prop:=l.Pairwise (·<·)
theorem zEr(hr:Rise xs.toList){k:Nat}{x y:Nat}(hik:i<k)(ex:xs[i]?=some x)(ey:xs[k]?=some y):x<y:=by
 rw[<-qA2]at ex ey;obtain⟨hi,rfl⟩:=qAf.mp ex;obtain⟨hk,rfl⟩:=qAf.mp ey;exact qDJ.mp hr i k hi hk hik
structure Bel(xs:Array Nat)(j r:Nat):Prop where
 le:r<=xs.size
 lo:∀i x,i<r->xs[i]?=some x->x<j
 hi:∀i x,r<=i->xs[i]?=some x->j<=x
theorem zJ5(hr:Rise xs.toList) :∀(fuel lo hi:Nat),hi-lo<=fuel->lo<=hi->hi<=xs.size->(∀i x,i<lo->xs[i]?=some x->x<j)->(∀i x,hi<=i->xs[i]?=some x->j<=x)->Bel xs j (below.go xs j fuel lo hi)
 |0,lo,hi,h1,h2,h3,h4,h5=>by
  have e:lo=hi:=by lia
  subst e;exact⟨h3,h4,h5⟩
 |fuel+1,lo,hi,h1,h2,h3,h4,h5=>by
  unfold below.go
  by_cases c:lo<hi
  .rw [qAC c];have hm:(lo+hi) / 2<xs.size:=by lia
   have em:xs[(lo+hi) / 2]?=some xs[(lo+hi) / 2]:=by simp
   have eD:xs.getD ((lo+hi) / 2) j=xs[(lo+hi) / 2]:=by simp[Array.getD,hm]
   show Bel xs j (if xs.getD ((lo+hi) / 2) j<j then _ else _);rw[eD]
   by_cases d:xs[(lo+hi) / 2]<j
   .rw [qAC d];refine zJ5 hr fuel _ hi (by lia) (by lia) h3 (λi x hi' ex=>?_) h5
    by_cases q:i=(lo+hi) / 2
    .subst q;rw[em]at ex;cases ex;exact d
    .have:=zEr hr (show i<(lo+hi) / 2 by lia) ex em;lia
   .rw [qAB d];refine zJ5 hr fuel lo _ (by lia) (by lia) (by lia) h4 (λi x hi' ex=>?_)
    by_cases q:i=(lo+hi) / 2
    .subst q;rw[em]at ex;cases ex;lia
    .have:=zEr hr (show(lo+hi) / 2<i by lia) em ex;lia
  .rw [qAB c];have e:lo=hi:=by lia
   subst e;exact⟨h3,h4,h5⟩
theorem zEy(hr:Rise xs.toList)(j:Nat):Bel xs j (below xs j) :=
 zJ5 hr xs.size 0 xs.size (by lia) (by lia) (qAF _) (λi x h=>by lia) (λi x h e=>by
  have:=(qDK.mp e).1;lia)
theorem Bel.at(hr:Rise xs.toList){r:Nat}(B:Bel xs j r)(e:xs[i]?=some j):r=i:=by
 rcases Nat.lt_trichotomy r i with z|z|z
 .have hi:i<xs.size:=(qDK.mp e).1;have er:xs[r]?=some (xs[r]'(by lia)):=by simp
  have h1:=B.hi r _ (qAF _) er;have h2:=zEr hr z er e;lia
 .exact z
 .have:=B.lo i j z e;lia
def Tb(mask:Nat):SetTable:={mask:=mask,place:=#[],dummies:=#[],finger:=0,led:=false,moves:=0,plain:=false}
def pr(mask:Nat)(h:Int):Nat->Probe
 |0=>(Tb mask).probeStart h
 |n+1=>(Tb mask).advance (pr mask h n)
def rs(mask:Nat)(h:Int):Nat->Nat×Nat
 |0=>(bits h % (mask+1),bits h)
 |r+1=>leap mask (rs mask h r).1 (rs mask h r).2
def stt(mask:Nat)(h:Int):Nat->Nat
 |0=>0
 |r+1=>stt mask h r+(runEnd mask (rs mask h r).1-(rs mask h r).1+1)
theorem rs_le(mask:Nat)(h:Int):∀r,(rs mask h r).1<=mask
 |0=>Nat.le_of_lt_succ (Nat.mod_lt _ (Nat.succ_pos _))
 |r+1=>Nat.le_of_lt_succ (Nat.mod_lt _ (Nat.succ_pos _))
theorem run_le(mask i:Nat)(hi:i<=mask):i<=runEnd mask i/\runEnd mask i<=mask/\runEnd mask i-i<=9:=by
 unfold runEnd;split<;>lia
theorem stt_le(mask:Nat)(h:Int):∀r,stt mask h r<=10*r
 |0=>qAF _
 |r+1=>by
  have h1:=stt_le mask h r;have h2:=(run_le mask _ (rs_le mask h r)).2.2;show stt mask h r+(runEnd mask (rs mask h r).1-(rs mask h r).1+1)<=_;lia
theorem adv_more(mask:Nat)(p:Probe)(h:p.more>0):(Tb mask).advance p={p with j:=p.j+1,more:=p.more-1}:=by
 unfold advance;rw[qAC h]
theorem adv_leap(mask:Nat)(p:Probe)(h:p.more=0):(Tb mask).advance p={p with j:=(leap mask p.i p.perturb).1,more:=runEnd mask (leap mask p.i p.perturb).1-(leap mask p.i p.perturb).1,i:=(leap mask p.i p.perturb).1,perturb:=(leap mask p.i p.perturb).2}:=by
 unfold advance;rw[qAB (by lia)];rfl
theorem zFo(mask:Nat)(h:Int):∀(r k:Nat),k<=runEnd mask (rs mask h r).1-(rs mask h r).1 ->
  pr mask h (stt mask h r+k)={j:=(rs mask h r).1+k,more:=runEnd mask (rs mask h r).1-(rs mask h r).1-k,i:=(rs mask h r).1,perturb:=(rs mask h r).2,dummy:=none}
 |0,0,_=>rfl
 |r+1,0,_=>by
  have ih:=zFo mask h r (runEnd mask (rs mask h r).1-(rs mask h r).1) (qAF _);show pr mask h (stt mask h r+(runEnd mask (rs mask h r).1-(rs mask h r).1)+1)=_;show(Tb mask).advance (pr mask h (stt mask h r+(runEnd mask (rs mask h r).1-(rs mask h r).1)))=_;rw[ih,adv_leap _ _ (by simp)];rfl
 |r,k+1,hk=>by
  have ih:=zFo mask h r k (by lia);show(Tb mask).advance (pr mask h (stt mask h r+k))=_;rw[ih,adv_more _ _ (by show _-k>0;lia)];simp only[Probe.mk.injEq];exact⟨by lia,by lia,trivial,trivial,trivial⟩
theorem pr_at(mask:Nat)(h:Int)(n:Nat):∃r k,n=stt mask h r+k/\k<=runEnd mask (rs mask h r).1-(rs mask h r).1:=by
 induction n with
 |zero=>exact⟨0,0,rfl,qAd _⟩
 |succ n ih=>
  obtain⟨r,k,e,hk⟩:=ih
  by_cases c:k<runEnd mask (rs mask h r).1-(rs mask h r).1
  .exact ⟨r,k+1,by lia,c⟩
  .refine ⟨r+1,0,?_,qAd _⟩;show n+1=stt mask h r+(runEnd mask (rs mask h r).1-(rs mask h r).1+1)+0;lia
theorem pr_le(mask:Nat)(h:Int)(n:Nat):(pr mask h n).j<=mask:=by
 obtain⟨r,k,e,hk⟩:=pr_at mask h n;rw[e,zFo mask h r k hk];have:=run_le mask _ (rs_le mask h r);show(rs mask h r).1+k<=mask;lia
theorem pr_dummy(mask:Nat)(h:Int)(n:Nat):(pr mask h n).dummy=none:=by
 obtain⟨r,k,e,hk⟩:=pr_at mask h n;rw[e,zFo mask h r k hk]
theorem bits_lt(h:Int):bits h<2^64:=by
 unfold bits;have h1:=qCQ h (show(2^64:Int)≠0 by decide);have h2:=qCR h (show(0:Int)<2^64 by decide);lia
theorem rs_pert(mask:Nat)(h:Int):∀r,(rs mask h r).2=bits h / 32^r
 |0=>by simp[rs]
 |r+1=>by
  show(rs mask h r).2 / 32=_;rw[rs_pert mask h r,Nat.div_div_eq_div_mul,Nat.pow_succ]
theorem rs_pert0(mask:Nat)(h:Int)(r:Nat)(hr:13<=r):(rs mask h r).2=0:=by
 rw[rs_pert];have h1:=bits_lt h;have h2:32^13<=32^r:=qCq (by decide) hr;have h3:(2:Nat)^64<32^13:=by decide
 exact Nat.div_eq_of_lt (by lia)
def f5(mask i:Nat):Nat:=(i*5+1) % (mask+1)
def it5(mask:Nat):Nat->Nat->Nat
 |0,i=>i
 |n+1,i=>it5 mask n (f5 mask i)
theorem zH1(mask:Nat):∀(a b i:Nat),it5 mask (a+b) i=it5 mask b (it5 mask a i)
 |0,b,i=>by rw[Nat.zero_add];rfl
 |a+1,b,i=>by
  rw[show a+1+b=(a+b)+1 by lia];show it5 mask (a+b) (f5 mask i)=it5 mask b (it5 mask a (f5 mask i));exact zH1 mask a b _
theorem rs_it5(mask:Nat)(h:Int)(n:Nat):(rs mask h (13+n)).1=it5 mask n (rs mask h 13).1:=by
 induction n with
 |zero=>rfl
 |succ n ih=>
  show(leap mask (rs mask h (13+n)).1 (rs mask h (13+n)).2).1=_;rw[rs_pert0 mask h (13+n) (by lia),ih,show n+1=n+1 from rfl,zH1 mask n 1];show((it5 mask n _)*5+1+0 / 32) % (mask+1)=f5 mask (it5 mask n _);unfold f5;simp
def Msk(mask:Nat):Prop:=mask=7\/mask=31\/mask=127\/mask=511
def orb(mask:Nat):Nat->Nat->List Nat
 |0,_=>[]
 |n+1,i=>i::orb mask n (f5 mask i)
theorem orb_mem(mask:Nat):∀(n i s:Nat),s∈orb mask n i->∃a,a<n/\it5 mask a i=s
 |0,i,s,h=>by simp[orb]at h
 |n+1,i,s,h=>by
  rcases qAM.mp h with z|z
  .exact ⟨0,by lia,z.symm⟩
  .obtain ⟨a,ha,e⟩:=orb_mem mask n (f5 mask i) s z;exact⟨a+1,by lia,e⟩
theorem orb_all(hm:Msk mask):(List.range (mask+1)).all (λs=>(orb mask (mask+1) 0).contains s)=true/\it5 mask (mask+1) 0=0:=by
 rcases hm with rfl|rfl|rfl|rfl
 .exact ⟨by decide +kernel,by decide +kernel⟩
 .exact ⟨by decide +kernel,by decide +kernel⟩
 .exact ⟨by decide +kernel,by decide +kernel⟩
 .exact ⟨by decide +kernel,by decide +kernel⟩
theorem cyc(hm:Msk mask)(i s:Nat)(hi:i<=mask)(hs:s<=mask):∃r,r<=mask/\it5 mask r i=s:=by
 obtain⟨h1,h2⟩:=orb_all hm
 have get:∀x,x<=mask->∃a,a<mask+1/\it5 mask a 0=x:=λx hx=>by
  have:=qBF.mp h1 x (qAs.mpr (by lia));exact orb_mem mask (mask+1) 0 x (by simpa using this)
 obtain⟨a,ha,ea⟩:=get i hi;obtain⟨b,hb,eb⟩:=get s hs
 by_cases c:a<=b
 .refine ⟨b-a,by lia,?_⟩;rw[<-ea,<-zH1,show a+(b-a)=b by lia,eb]
 .refine ⟨mask+1-a+b,by lia,?_⟩;rw[<-ea,<-zH1,show a+(mask+1-a+b)=mask+1+b by lia,zH1,h2,eb]
theorem pr_all(hm:Msk mask)(h:Int)(s:Nat)(hs:s<=mask):∃r,r<=13+mask/\(rs mask h r).1=s:=by
 obtain⟨r,hr,e⟩:=cyc hm (rs mask h 13).1 s (rs_le mask h 13) hs;exact⟨13+r,by lia,by rw[rs_it5,e]⟩
theorem free_slot{L:List Nat}(hL:L.length<=mask):∃s,s<=mask/\s∉L:=by
 apply qBm;intro h
 have sub:∀s,s∈List.range (mask+1)->s∈L:=λs hs=>by
  apply qBm;intro q;exact h ⟨s,by have:=qAs.mp hs;lia,q⟩
 have:=(List.nodup_range (n:=mask+1)).length_le_of_subset sub;rw[qBW]at this;lia
theorem pr_free(hm:Msk mask)(h:Int){L:List Nat}(hL:L.length<=mask):∃n,n<10*turns mask/\(pr mask h n).j∉L:=by
 obtain⟨s,hs,q⟩:=free_slot hL;obtain⟨r,hr,e⟩:=pr_all hm h s hs;refine⟨stt mask h r,?_,?_⟩
 .have:=stt_le mask h r;unfold turns;lia
 .have:=zFo mask h r 0 (qAd _);rw[Nat.add_zero]at this;rw[this];show(rs mask h r).1+0∉L;rw[Nat.add_zero,e];exact q
theorem zIz(hm:Msk mask)(h:Int){L:List Nat}(hL:L.length<=mask):∃n,n<10*turns mask/\(pr mask h n).j∉L/\∀m,m<n->(pr mask h m).j∈L:=by
 obtain⟨n,hn,q⟩:=pr_free hm h hL
 induction n using Nat.strongRecOn with
 |_ n ih=>
  by_cases c:∃m,m<n/\(pr mask h m).j∉L
  .obtain ⟨m,hm',qm⟩:=c;exact ih m hm' (by lia) qm
  .refine ⟨n,hn,q,λm hmn=>?_⟩;apply qBm;intro z;exact c ⟨m,hmn,z⟩
structure TOk(t:SetTable)(hs:List Int):Prop where
 m:Msk t.mask
 d:t.dummies=#[]
 r:Rise t.place.toList
 l:∀j∈t.place.toList,j<=t.mask
 n:t.place.size=hs.length
 f:t.place.size<=t.mask
 reach:∀(i j:Nat)(h:Int),t.place[i]?=some j->hs[i]?=some h->∃n,(pr t.mask h n).j=j/\∀m,m<n->(pr t.mask h m).j∈t.place.toList
theorem fresh_ok(fi mo:Nat)(led:Bool):TOk (SetTable.fresh fi mo led) [] :=
 ⟨.inl rfl,rfl,List.Pairwise.nil,(λj h=>absurd (show j∈([]:List Nat)from h) (by simp)),rfl,qAd _,(λi j h _ e=>by simp at e)⟩
theorem has_nil(j:Nat):has #[] j=false:=by
 unfold SetTable.has;simp
section
variable{t:SetTable}{hs:List Int}
theorem slot_live(T:TOk t hs)(e:t.place[i]?=some j):t.slot j= .live i:=by
 have b:=(zEy T.r j).at T.r e;unfold slot;rw[b];show(if(t.place[i]?==some j)=true then _ else _)=_;rw[e];simp
theorem slot_empty(T:TOk t hs)(h:j∉t.place.toList):t.slot j= .empty:=by
 unfold slot
 have e:(t.place[below t.place j]?==some j)=false:=by
  rw[qBD];intro z;exact h (qAJ (i:=below t.place j) (by rw[qA2];exact z))
 simp only[e,T.d,has_nil];simp
theorem mem_at(h:j∈xs.toList):∃i:Nat,xs[i]?=some j:=by
 obtain⟨i,hi,e⟩:=qA1.mp h;exact⟨i,by rw[<-qA2];exact qAf.mpr ⟨hi,e⟩⟩
def Oth(t:SetTable)(hashAt:Nat->Int)(h:Int)(m:Nat):Prop:=∃i:Nat,t.place[i]?=some (pr t.mask h m).j/\hashAt i≠h
theorem adv_pr(t:SetTable)(h:Int)(n:Nat):t.advance (pr t.mask h n)=pr t.mask h (n+1):=rfl
theorem go_ok(T:TOk t hs)(hashAt:Nat->Int)(h:Int)(hN:(pr t.mask h N).j∉t.place.toList)(hb:∀m,m<N->(pr t.mask h m).j∈t.place.toList):∀(d n fuel:Nat),N=n+d->d<fuel ->
  (probe.go t hashAt h fuel (pr t.mask h n)=some (.empty (pr t.mask h N).j none)/\∀m,n<=m->m<N->Oth t hashAt h m) \/
  ∃m i,n<=m/\m<N/\t.place[i]?=some (pr t.mask h m).j/\hashAt i=h/\probe.go t hashAt h fuel (pr t.mask h n)=some (.candidate (pr t.mask h m).j i (pr t.mask h (m+1)))/\∀m',n<=m'->m'<m->Oth t hashAt h m'
 |0,n,fuel+1,e,_=>by
  have e:N=n:=by lia
  subst e;left;refine⟨?_,λm h1 h2=>by lia⟩;unfold probe.go;rw[slot_empty T hN];show some (Met.empty _ (pr t.mask h N).dummy)=_;rw[pr_dummy]
 |d+1,n,fuel+1,e,hf=>by
  obtain⟨i,ei⟩:=mem_at (hb n (by lia));unfold probe.go;rw[slot_live T ei]
  by_cases c:hashAt i=h
  .right;refine⟨n,i,qAF _,by lia,ei,c,?_,λm' h1 h2=>by lia⟩;show(if(hashAt i==h)=true then _ else _)=_;rw[qAC (by simpa using c),adv_pr]
  .have q:(if(hashAt i==h)=true then some (Met.candidate (pr t.mask h n).j i (t.advance (pr t.mask h n)))else probe.go t hashAt h fuel (t.advance (pr t.mask h n)))=probe.go t hashAt h fuel (pr t.mask h (n+1)):=by
    rw[qAB (by simpa using c),adv_pr]
   rcases go_ok T hashAt h hN hb d (n+1) fuel (by lia) (by lia)with⟨z1,z2⟩|⟨m,i',z1,z2,z3,z4,z5,z6⟩
   .left;refine⟨q.trans z1,λm h1 h2=>?_⟩
    by_cases cm:m=n
    .subst cm;exact⟨i,ei,c⟩
    .exact z2 m (by lia) h2
   .right;refine⟨m,i',by lia,z2,z3,z4,q.trans z5,λm' h1 h2=>?_⟩
    by_cases cm:m'=n
    .subst cm;exact⟨i,ei,c⟩
    .exact z6 m' (by lia) h2
 |_,_,0,_,h=>by lia
theorem zJw(xs:Array α)(p:Nat)(x:α)(hp:p<=xs.size):(insertAt xs p x).toList=xs.toList.take p++x::xs.toList.drop p:=by
 unfold insertAt;rw[Array.toList_append,Array.toList_push,qDL,qDL,List.extract_eq_drop_take,List.extract_eq_drop_take];rw[qBc (l:=xs.toList.drop p) (by simp)];simp
theorem ins_rise(hr:Rise xs.toList)(hj:j∉xs.toList):Rise (insertAt xs (below xs j) j).toList:=by
 have B:=zEy hr j;rw[zJw _ _ _ B.le];refine List.pairwise_append.mpr ⟨hr.sublist (qCf _ _),List.pairwise_cons.mpr ⟨λy hy=>?_,hr.sublist (List.drop_sublist _ _)⟩,λx hx y hy=>?_⟩
 .obtain ⟨i,hi,rfl⟩:=qA1.mp hy;rw[qB2]at hi
  have e:xs[below xs j+i]?=some (xs.toList.drop (below xs j))[i]:=by
   rw[<-qA2,<-qDI];simp
  have h1:=B.hi _ _ (qB7 _ i) e;have h2:(xs.toList.drop (below xs j))[i]≠j:=λz=>hj (z▸List.mem_of_mem_drop hy);lia
 .have hxj:x<j:=by
   obtain⟨i,hi,rfl⟩:=qA1.mp hx;rw[qAR]at hi
   have e:xs[i]?=some (xs.toList.take (below xs j))[i]:=by
    rw[<-qA2,<-qCe (show i<below xs j by lia)];exact qAV _
   exact B.lo i _ (by lia) e
  rcases qAM.mp hy with z|z
  .rw [z];exact hxj
  .obtain ⟨i,hi,rfl⟩:=qA1.mp z;rw[qB2]at hi
   have e:xs[below xs j+i]?=some (xs.toList.drop (below xs j))[i]:=by
    rw[<-qA2,<-qDI];simp
   have h1:=B.hi _ _ (qB7 _ i) e;lia
theorem zGg{β:Type}{L:List α}{M:List β}(hl:L.length=M.length){p:Nat}(hp:p<=L.length){x:α}{y:β}{u:α}{v:β}(h1:(L.take p++x::L.drop p)[i]?=some u)(h2:(M.take p++y::M.drop p)[i]?=some v) :
  (u=x/\v=y)\/∃i':Nat,L[i']?=some u/\M[i']?=some v:=by
 have l1:(L.take p).length=p:=by rw[qAR];lia
 have l2:(M.take p).length=p:=by rw[qAR];lia
 by_cases c:i<p
 .rw [qBs (by lia),qCe c]at h1 h2;exact .inr ⟨i,h1,h2⟩
 .rw [qB1 (by lia)]at h1 h2;rw[l1]at h1;rw[l2]at h2
  cases e:i-p with
  |zero=>
   rw[e]at h1 h2;exact .inl ⟨(by simpa using h1.symm),(by simpa using h2.symm)⟩
  |succ k=>
   rw[e]at h1 h2;rw[qCr,qDI]at h1 h2;exact .inr ⟨p+k,h1,h2⟩
theorem put_ok(T:TOk t hs)(h:Int)(hN:(pr t.mask h N).j∉t.place.toList)(hb:∀m,m<N->(pr t.mask h m).j∈t.place.toList)(hf:t.place.size+1<=t.mask) :
  TOk (t.put (pr t.mask h N).j).1 (hs.take (t.put (pr t.mask h N).j).2++h::hs.drop (t.put (pr t.mask h N).j).2):=by
 have B:=zEy T.r (pr t.mask h N).j;have ep:(t.put (pr t.mask h N).j).2=below t.place (pr t.mask h N).j:=rfl;have el:(t.put (pr t.mask h N).j).1.place=insertAt t.place (below t.place (pr t.mask h N).j) (pr t.mask h N).j:=rfl;have em:(t.put (pr t.mask h N).j).1.mask=t.mask:=rfl;have tl:=zJw t.place (below t.place (pr t.mask h N).j) (pr t.mask h N).j B.le
 have mem:∀j,j∈t.place.toList->j∈(insertAt t.place (below t.place (pr t.mask h N).j) (pr t.mask h N).j).toList:=λj hj=>by
  rw[tl];have:j∈t.place.toList.take (below t.place (pr t.mask h N).j)++t.place.toList.drop (below t.place (pr t.mask h N).j):=by rw[qCs];exact hj
  rcases qAT.mp this with z|z
  .exact qAv _ z
  .exact qA4 _ (qAU _ z)
 have sz:(insertAt t.place (below t.place (pr t.mask h N).j) (pr t.mask h N).j).size=t.place.size+1:=by
  have:=qAm List.length tl;simp only[qBZ,qAl,qAc,qAR,qB2]at this;have:=B.le;lia
 refine⟨T.m,?_,ins_rise T.r hN,λj hj=>?_,?_,?_,λi j h' e1 e2=>?_⟩
 .show (if has t.dummies (pr t.mask h N).j then _ else t.dummies)=#[];rw[T.d,has_nil];rfl
 .rw [em];rw[el,tl]at hj;rcases qAT.mp hj with z|z
  .exact T.l j (qCS z)
  .rcases qAM.mp z with z|z
   .rw [z];exact pr_le _ _ _
   .exact T.l j (List.mem_of_mem_drop z)
 .rw [el,sz,ep,qAl,qAc,qAR,qB2];have:=B.le;have:=T.n;lia
 .rw [el,sz];exact hf
 .rw [em];rw[el,<-qA2,tl]at e1;rw[ep]at e2;rw[el];rcases zGg (L:=t.place.toList) (M:=hs) (by simpa using T.n) (by simpa using B.le) e1 e2 with⟨z1,z2⟩|⟨i',z1,z2⟩
  .subst z1 z2;exact⟨N,rfl,λm hm=>mem _ (hb m hm)⟩
  .obtain ⟨n,q1,q2⟩:=T.reach i' j h' (by rw[<-qA2];exact z1) z2;exact⟨n,q1,λm hm=>mem _ (q2 m hm)⟩
end
structure Ow(mask:Nat)(hs:List Int)(owner:Array (Option Nat))(sl:List Nat):Prop where
 z:owner.size=mask+1
 n:sl.length=hs.length
 nd:sl.Nodup
 l:∀j∈sl,j<=mask
 a:∀(k j:Nat),sl[k]?=some j->owner[j]?=some (some k)
 e:∀j,j<=mask->j∉sl->owner[j]?=some none
 reach:∀(k j:Nat)(h:Int),sl[k]?=some j->hs[k]?=some h->∃n,(pr mask h n).j=j/\∀m,m<n->(pr mask h m).j∈sl
theorem none_iff{owner:Array (Option Nat)}{sl:List Nat}(O:Ow mask hs owner sl)(hj:j<=mask):((owner.getD j (some 0)).isNone=true)↔j∉sl:=by
 have hz:j<owner.size:=by rw[O.z];lia
 have eD:owner.getD j (some 0)=owner[j]:=by simp[Array.getD,hz]
 rw[eD];constructor
 .intro h q;obtain⟨k,hk,e⟩:=qA1.mp q;have:=O.a k j (qAf.mpr ⟨hk,e⟩);rw[qDv hz]at this;rw[qAe this]at h;simp at h
 .intro q;have:=O.e j hj q;rw[qDv hz]at this;rw[qAe this];rfl
theorem free_go{owner:Array (Option Nat)}{sl:List Nat}(hm:Msk mask)(O:Ow mask hs owner sl)(hl:sl.length<=mask)(h:Int)(hN:(pr mask h N).j∉sl)(hb:∀m,m<N->(pr mask h m).j∈sl){R:Nat}(hR:(rs mask h R).1∉sl) :
  ∀(fuel r:Nat),stt mask h r<=N->R<r+fuel->layClean.free mask owner fuel (rs mask h r).1 (rs mask h r).2=some (pr mask h N).j
 |0,r,h1,h2=>by
  exfalso
  have key:∀d,stt mask h R<=stt mask h (R+d)/\(0<d->stt mask h R<stt mask h (R+d)):=by
   intro d
   induction d with
   |zero=>exact⟨qAF _,λz=>by lia⟩
   |succ d ih=>
    have e:stt mask h (R+(d+1))=stt mask h (R+d)+(runEnd mask (rs mask h (R+d)).1-(rs mask h (R+d)).1+1):=rfl;exact⟨by lia,λ_=>by lia⟩
  obtain⟨d,rfl⟩:∃d,r=R+d:=⟨r-R,by lia⟩;have hd:0<d:=by lia
  have:=(key d).2 hd;have q:=hb (stt mask h R) (by lia);have e:=zFo mask h R 0 (qAd _);rw[Nat.add_zero]at e;rw[e]at q;exact hR (by simpa using q)
 |fuel+1,r,h1,h2=>by
  have rl:=run_le mask _ (rs_le mask h r);unfold layClean.free
  cases q:(List.range (runEnd mask (rs mask h r).1+1-(rs mask h r).1)).find? λk=>(owner.getD ((rs mask h r).1+k) (some 0)).isNone with
  |some k=>
   have q1:=qCt q;have q2:=qCu q;rw[qAs]at q2;have q1:((owner.getD ((rs mask h r).1+k) (some 0)).isNone)=true:=q1;rw[none_iff O (by lia)]at q1;have e:=zFo mask h r k (by lia);have hk:(pr mask h (stt mask h r+k)).j=(rs mask h r).1+k:=by rw[e]
   have c1:¬stt mask h r+k<N:=λz=>q1 (hk▸hb _ z)
   have c2:¬N<stt mask h r+k:=λz=>by
    obtain⟨d,hd⟩:∃d,N=stt mask h r+d:=⟨N-stt mask h r,by lia⟩;have hdk:d<k:=by lia
    rw[List.find?_eq_some_iff_append]at q;obtain⟨_,as,bs,e1,e2⟩:=q
    have la:as.length=k:=by
     have:=qAm (λl=>l[as.length]?) e1;simp at this
     by_cases cc:as.length<runEnd mask (rs mask h r).1+1-(rs mask h r).1
     .rw [qCv cc]at this;exact qAe this
     .rw [qDM (by simp;lia)]at this
      cases this
    have mem:d∈as:=by
     have hd':(List.range (runEnd mask (rs mask h r).1+1-(rs mask h r).1))[d]?=some d:=qCv (by lia);rw[e1,qBs (by lia)]at hd';exact qAJ hd'
    have z1:=e2 d mem;have ed:=zFo mask h r d (by lia);have hjd:(pr mask h N).j=(rs mask h r).1+d:=by rw[hd,ed]
    have z2:((owner.getD ((rs mask h r).1+d) (some 0)).isNone)=true:=(none_iff O (by lia)).mpr (hjd▸hN);rw[z2]at z1;simp at z1
   have eN:N=stt mask h r+k:=by lia
   show some ((rs mask h r).1+k)=_;rw[eN,hk]
  |none=>
   have q1:=List.find?_eq_none.mp q;refine free_go hm O hl h hN hb hR fuel (r+1) ?_ (by lia);show stt mask h r+(runEnd mask (rs mask h r).1-(rs mask h r).1+1)<=N;apply qBm;intro c;obtain⟨d,hd⟩:∃d,N=stt mask h r+d:=⟨N-stt mask h r,by lia⟩;have ed:=zFo mask h r d (by lia);have hjd:(pr mask h N).j=(rs mask h r).1+d:=by rw[hd,ed]
   have z1:=q1 d (qAs.mpr (by lia));have z2:((owner.getD ((rs mask h r).1+d) (some 0)).isNone)=true:=(none_iff O (by lia)).mpr (hjd▸hN);exact z1 z2
theorem free_ok{owner:Array (Option Nat)}{sl:List Nat}(hm:Msk mask)(O:Ow mask hs owner sl)(hl:sl.length<=mask)(h:Int) :
  ∃N,(pr mask h N).j∉sl/\(∀m,m<N->(pr mask h m).j∈sl)/\layClean.free mask owner (turns mask) (bits h % (mask+1)) (bits h)=some (pr mask h N).j:=by
 obtain⟨N,_,hN,hb⟩:=zIz hm h hl;obtain⟨s,hs',q⟩:=free_slot hl;obtain⟨R,hR,e⟩:=pr_all hm h s hs';exact⟨N,hN,hb,free_go hm O hl h hN hb (R:=R) (by rw[e];exact q) (turns mask) 0 (qAd _) (by unfold turns;lia)⟩
theorem Ow.more{owner:Array (Option Nat)}{sl:List Nat}(O:Ow mask hs owner sl)(h:Int)(hN:(pr mask h N).j∉sl)(hb:∀m,m<N->(pr mask h m).j∈sl) :
  Ow mask (hs++[h]) (owner.setIfInBounds (pr mask h N).j (some hs.length)) (sl++[(pr mask h N).j]):=by
 have hj:=pr_le mask h N;have hz:(pr mask h N).j<owner.size:=by rw[O.z];lia
 have one:∀{k j:Nat},(sl++[(pr mask h N).j])[k]?=some j->(k<sl.length/\sl[k]?=some j)\/(k=sl.length/\j=(pr mask h N).j):=λ{k j} e=>by
  by_cases c:k<sl.length
  .rw [qBs c]at e;exact .inl ⟨c,e⟩
  .rw [qB1 (by lia)]at e
   have hk:k=sl.length:=by
    have:=(qAf.mp e).1;simp at this;lia
   subst hk;exact .inr ⟨rfl,by simpa using e.symm⟩
 refine⟨by rw[Array.size_setIfInBounds];exact O.z,by simp[O.n],?_,λj hj'=>?_,λk j e=>?_,λj hj1 hj2=>?_,λk j h' e1 e2=>?_⟩
 .refine qBX.mpr ⟨O.nd,qA0.mpr ⟨by simp,qA5⟩,λa ha b hb'=>?_⟩;have:b=(pr mask h N).j:=by simpa using hb'
  subst this;intro z;subst z;exact hN ha
 .rcases qAT.mp hj' with z|z
  .exact O.l j z
  .have:j=(pr mask h N).j:=by simpa using z
   rw[this];exact hj
 .rcases one e with⟨_,z⟩|⟨z1,z2⟩
  .have hne:j≠(pr mask h N).j:=λq=>hN (q▸qAJ z);rw[Array.getElem?_setIfInBounds_ne (qAj hne)];exact O.a k j z
  .subst z1 z2;rw[Array.getElem?_setIfInBounds_self_of_lt hz,O.n]
 .have h1:j∉sl:=λq=>hj2 (qAv _ q);have h2:j≠(pr mask h N).j:=λq=>hj2 (qA4 _ (by simp[q]));rw[Array.getElem?_setIfInBounds_ne (qAj h2)];exact O.e j hj1 h1
 .rcases one e1 with⟨c,z⟩|⟨z1,z2⟩
  .rw [qBs (by rw[<-O.n];exact c)]at e2;obtain⟨n,q1,q2⟩:=O.reach k j h' z e2;exact⟨n,q1,λm hm=>qAv _ (q2 m hm)⟩
  .subst z1 z2;rw[qB1 (by rw[O.n];exact qAF _),O.n]at e2;have:h'=h:=by simpa using e2.symm
   subst this;exact⟨N,rfl,λm hm=>qAv _ (hb m hm)⟩
theorem lay_ok(hm:Msk mask)(hs:List Int)(hl:hs.length<=mask):∃owner sl,Ow mask hs owner sl/\layClean mask hs.toArray=some owner:=by
 have key:∀(rest done:List Int) (owner:Array (Option Nat)) (sl:List Nat),Ow mask done owner sl->done.length+rest.length<=mask ->
   ∃owner' sl',Ow mask (done++rest) owner' sl'/\rest.foldl (λ(acc:Option (Array (Option Nat)×Nat)) h=>do
    let(owner,k)<-acc
    let j<-layClean.free mask owner (turns mask) (bits h % (mask+1)) (bits h)
    pure (owner.setIfInBounds j (some k),k+1)) (some (owner,done.length))=some (owner',(done++rest).length):=by
  intro rest
  induction rest with
  |nil=>intro done owner sl O _;exact⟨owner,sl,by rw[qA9];exact O,by rw[qA9];rfl⟩
  |cons h rest ih=>
   intro done owner sl O hl;rw[qAc]at hl;obtain⟨N,hN,hb,ef⟩:=free_ok hm O (by rw[O.n];lia) h;have O2:=O.more h hN hb;obtain⟨o',s',O3,e3⟩:=ih (done++[h]) _ _ O2 (by rw[qAl];simp;lia);refine⟨o',s',by simpa using O3,?_⟩;rw[qBt]
   have e4:(do
    let(owner,k)<-(some (owner,done.length):Option (Array (Option Nat)×Nat))
    let j<-layClean.free mask owner (turns mask) (bits h % (mask+1)) (bits h)
    pure (owner.setIfInBounds j (some k),k+1))=some (owner.setIfInBounds (pr mask h N).j (some done.length),(done++[h]).length):=by
    show(do
     let j<-layClean.free mask owner (turns mask) (bits h % (mask+1)) (bits h)
     pure (owner.setIfInBounds j (some done.length),done.length+1))=_
    rw[ef];simp
   rw[e4,e3];simp
 have O0:Ow mask [] (Array.replicate (mask+1) none) []:=⟨Array.size_replicate,rfl,qA5,(λj h=>absurd h qCw),(λk j e=>by rw[List.getElem?_nil]at e;cases e),(λj hj _=>by rw[Array.getElem?_replicate,qAC (by lia)]),(λk j h e=>by rw[List.getElem?_nil]at e;cases e)⟩;obtain⟨o,sl,O,e⟩:=key hs [] _ _ O0 (by simpa using hl);refine⟨o,sl,by simpa using O,?_⟩;unfold layClean;rw[List.foldl_toArray];have e':=e;simp only[qDB,qBV]at e';show Option.map _ (hs.foldl _ (some (Array.replicate (mask+1) none,0)))=_;rw[e'];rfl
theorem laid_ok(hm:Msk mask)(hs:List Int)(hl:hs.length<=mask)(fi mo:Nat)(led plain:Bool):∃t order,laid mask fi mo led plain hs.toArray=some (t,order)/\t.mask=mask/\t.led=led/\t.plain=plain/\order.toList.Perm (List.range hs.length) /\
  TOk t (order.toList.map λk=>hs.getD k 0):=by
 obtain⟨owner,sl,O,e⟩:=lay_ok hm hs hl
 have hg:∀j,j<=mask->owner.getD j none=(owner[j]?).getD none:=λj hj=>by
  have hz:j<owner.size:=by rw[O.z];lia
  simp[Array.getD,hz]
 have el:∀j,j<=mask->((owner.getD j none).map (j,·)=none↔j∉sl):=λj hj=>by
  rw[hg j hj];constructor
  .intro q z;obtain⟨k,hk,ek⟩:=qA1.mp z;rw[O.a k j (qAf.mpr ⟨hk,ek⟩)]at q
   cases q
  .intro q;rw[O.e j hj q];rfl
 have es:∀j k,j<=mask->((owner.getD j none).map (j,·)=some (j,k)↔sl[k]?=some j):=λj k hj=>by
  rw[hg j hj];constructor
  .intro q
   by_cases c:j∈sl
   .obtain ⟨k',hk,ek⟩:=qA1.mp c;have ek':=qAf.mpr ⟨hk,ek⟩;rw[O.a k' j ek']at q;have q:some (j,k')=some (j,k):=q;injection q with q;injection q with _ q;rw[<-q];exact ek'
   .rw [O.e j hj c]at q;cases q
  .intro q;rw[O.a k j q];rfl
 generalize hlive:(List.range (mask+1)).filterMap (λj=>(owner.getD j none).map (j,·))=live
 have mem:∀p,p∈live↔sl[p.2]?=some p.1:=λp=>by
  rw[<-hlive,List.mem_filterMap];constructor
  .rintro ⟨j,hj,q⟩;have hj':j<=mask:=by have:=qAs.mp hj;lia
   have:p.1=j:=by
    cases h:owner.getD j none with
    |none=>rw[h]at q;cases q
    |some k=>rw[h]at q;have q:some (j,k)=some p:=q;injection q with q;rw[<-q]
   subst this;exact(es p.1 p.2 hj').mp q
  .intro q;have hj:p.1<=mask:=O.l _ (qAJ q);exact⟨p.1,qAs.mpr (by lia),(es p.1 p.2 hj).mpr q⟩
 have rise:Rise (live.map (·.1)):=by
  have h1:(List.range (mask+1)).Pairwise (·<·):=List.pairwise_lt_range;rw[<-hlive,List.map_filterMap];refine List.Pairwise.filterMap _ (λa b hab x hx y hy=>?_) h1
  cases ha:owner.getD a none with
  |none=>rw[ha]at hx;cases hx
  |some k=>
   rw[ha]at hx;have hx:some a=some x:=hx
   cases hb:owner.getD b none with
   |none=>rw[hb]at hy;cases hy
   |some k'=>
    rw[hb]at hy;have hy:some b=some y:=hy;injection hx with hx;injection hy with hy;lia
 have nd2:(live.map (·.2)).Nodup:=by
  have hr:live.Pairwise (λa b=>a.1<b.1):=qBn.mp rise;refine qBn.mpr (hr.imp_of_mem λ{a b} ha hb hab q=>?_);have h1:=(mem a).mp ha;have h2:=(mem b).mp hb;rw[q]at h1;rw[h1]at h2;have:=qAe h2;lia
 have perm:(live.map (·.2)).Perm (List.range hs.length):=by
  refine(List.perm_ext_iff_of_nodup nd2 List.nodup_range).mpr λk=>?_;rw[qAs,qAW];constructor
  .rintro ⟨p,hp,rfl⟩;have:=(qAf.mp ((mem p).mp hp)).1;rw[O.n]at this;exact this
  .intro hk;have hk':k<sl.length:=by rw[O.n];exact hk
   exact⟨(sl[k],k),(mem _).mpr (by simp),rfl⟩
 have pmem:∀j,j∈live.map (·.1)↔j∈sl:=λj=>by
  rw[qAW];constructor
  .rintro ⟨p,hp,rfl⟩;exact qAJ ((mem p).mp hp)
  .intro q;obtain⟨k,hk,ek⟩:=qA1.mp q;exact⟨(j,k),(mem _).mpr (qAf.mpr ⟨hk,ek⟩),rfl⟩
 have llen:live.length=hs.length:=by
  have:=perm.length_eq;simpa using this
 refine⟨{mask,place:=(live.map (·.1)).toArray,dummies:=#[],finger:=fi,led,moves:=mo,plain},(live.map (·.2)).toArray,?_,rfl,rfl,rfl,by simpa using perm,?_⟩
 .unfold laid;rw[e];show some (_,_)=some (_,_);rw[hlive]
 .refine ⟨hm,rfl,by simpa using rise,λj hj=>?_,by simp[llen],by simp[llen];exact hl,λi j h e1 e2=>?_⟩
  .exact O.l j ((pmem j).mp (by simpa using hj))
  .have e1:(live.map (·.1))[i]?=some j:=by simpa using e1
   have e2:((live.map (·.2)).map λk=>hs.getD k 0)[i]?=some h:=by simpa using e2
   cases q:live[i]? with
   |none=>rw[qAZ,q]at e1;cases e1
   |some p=>
    rw[qAZ,q]at e1;rw[qAZ,qAZ,q]at e2;have e1:p.1=j:=by simpa using e1
    have e2:hs.getD p.2 0=h:=by simpa using e2
    have hp:=(mem p).mp (qAJ q);rw[e1]at hp;have hk:p.2<hs.length:=by rw[<-O.n];exact(qAf.mp hp).1
    have hh:hs[p.2]?=some h:=by
     rw[<-e2,qAr];simp[hk]
    obtain⟨n,q1,q2⟩:=O.reach p.2 j h hp hh
    exact⟨n,q1,λm hm=>by
     have:=(pmem _).mpr (q2 m hm);simpa using this⟩
section
variable{prog:Program}{w:World}{K:Type}[DecidableEq K]{knd:KeyKind prog w K}{A:Around}{E:Value->Shared->Prop}{s:Shared}
theorem byv_noref{v:Value}(h:carriedByValue v=true):∀a,v≠.ref a:=by
 intro a e;subst e;simp[carriedByValue]at h
theorem cls_byv(n:Nat){v:Value}(h:carriedByValue v=true):ofAClassStatement n v=pure false:=by
 cases v with
 |ref a=>exact absurd rfl (byv_noref h a)
 |_=>cases n<;>(unfold ofAClassStatement;rfl)
theorem w_cls{k:List K}{Q:Bool->Shared->Prop}(hk:IsTupleKey knd s.heap k b)(h:Q false s):wpAny (model prog w) A (ofAClassStatement 8 (.ref b)) Q E s:=by
 have hT:=hk.typeIs;obtain⟨o,items,n,ho,_,hd,hi⟩:=hk;unfold ofAClassStatement;refine qAA (qB8 hT ?_);show wpAny _ _ (if("tuple"=="tuple")=true then _ else _) _ _ _;rw[qAC (by decide)];refine qAA (qAE ?_);show wpAny _ _ (if(!true)=true then _ else _) _ _ _;rw[qAB (by decide)];show wpAny _ _ (seqItems? (.ref b) >>= _) _ _ _;refine qAA ?_;show wpAny _ _ (load b >>= _) _ _ _;refine qAA (wpAny_load ho ?_);rw[hd];refine qAE ?_;dsimp only;refine qAA ?_;show wpAny _ _ (forIn items _ _) _ _ s;rw[<-qDN];refine wpAny_forIn_list _ (λrest r s'=>r.1=none/\s'=s/\∀v∈rest,carriedByValue v=true) _ ?_ ?_ _ _ ⟨rfl,rfl,hi.byValue⟩
 .rintro v rest r s' ⟨hr,rfl,hall⟩;refine qAA (qB9 (cls_byv _ (hall v qAY)) ?_);rw[qAB (by decide)];exact qAE ⟨rfl,rfl,λu hu'=>hall u (qAU _ hu')⟩
 .rintro ⟨r1,r2⟩ s' ⟨hr,rfl,_⟩;have hr:r1=none:=hr;subst hr;exact qAE h
theorem w_seen{k:List K}{stored:List Value}{Q:Bool->Shared->Prop}(hk:IsTupleKey knd s.heap k b)(hs:∀v∈stored,∃k' b',v= .ref b'/\IsTupleKey knd s.heap k' b')(h:Q false s):wpAny (model prog w) A (searchCouldBeSeen (.ref b) stored) Q E s:=by
 unfold searchCouldBeSeen;refine qAA ?_;refine wpAny_forIn_list _ (λrest r s'=>r.1=none/\s'=s/\∀v∈rest,∃k' b',v= .ref b'/\IsTupleKey knd s.heap k' b') _ ?_ ?_ _ _ ⟨rfl,rfl,hs⟩
 .rintro v rest r s' ⟨hr,rfl,hall⟩;obtain⟨k',b',rfl,hk'⟩:=hall v qAY;have hall':∀u∈rest,∃k' b',u= .ref b'/\IsTupleKey knd s'.heap k' b':=λu hu'=>hall u (qAU _ hu');dsimp only
  by_cases c:((b==b')||(carriedByValue (.ref b)&&carriedByValue (.ref b')))=true
  .rw [qAC c];exact qAE ⟨rfl,rfl,hall'⟩
  .rw [qAB c];refine qAA (wpAny_eqIsQuiet_tuple hk ?_);rw[qAB (by decide)];refine qAA (wpAny_eqIsQuiet_tuple hk' ?_);rw[qAB (by decide)];refine qAA (w_cls hk ?_);rw[qAB (by decide)];refine qAA (w_cls hk' ?_);rw[qAB (by decide)];exact qAE ⟨rfl,rfl,hall'⟩
 .rintro ⟨r1,r2⟩ s' ⟨hr,rfl,_⟩;have hr:r1=none:=hr;subst hr;exact qAE h
theorem hbv_byv(n:Nat){v:Value}(h:carriedByValue v=true):∃c,hashByValue n v=pure c:=by
 cases v with
 |ref a=>exact absurd rfl (byv_noref h a)
 |_=>cases n<;>(unfold hashByValue;exact⟨_,rfl⟩)
theorem w_hbv{k:List K}{Q:Bool->Shared->Prop}(hk:IsTupleKey knd s.heap k b)(h:∀c,Q c s):wpAny (model prog w) A (hashByValue 8 (.ref b)) Q E s:=by
 have hT:=hk.typeIs;obtain⟨o,items,n,ho,_,hd,hi⟩:=hk;unfold hashByValue;refine qAA (qDE hT F.slot_tuple_hash.lookup ?_);show wpAny _ _ (seqItems? (.ref b) >>= _) _ _ _;refine qAA ?_;show wpAny _ _ (load b >>= _) _ _ _;refine qAA (wpAny_load ho ?_);rw[hd];refine qAE ?_;dsimp only;refine qAA ?_;show wpAny _ _ (forIn items _ _) _ _ s;rw[<-qDN];refine wpAny_forIn_list _ (λrest r s'=>s'=s/\∀v∈rest,carriedByValue v=true) _ ?_ ?_ _ _ ⟨rfl,hi.byValue⟩
 .rintro v rest r s' ⟨rfl,hall⟩;obtain⟨c,ec⟩:=hbv_byv 7 (hall v qAY);rw[ec];refine qAA (qAE ?_);split
  .exact qAE (qAE (h _))
  .exact qAE ⟨rfl,λu hu'=>hall u (qAU _ hu')⟩
 .rintro ⟨r1,r2⟩ s' ⟨rfl,_⟩
  cases r1 with
  |none=>exact qAE (h _)
  |some c=>exact qAE (h _)
end
section
variable{prog:Program}{w:World}{K:Type}[DecidableEq K]{knd:KeyKind prog w K}{A:Around}{E:Value->Shared->Prop}{s:Shared}
def en(knd:KeyKind prog w K)(p:List K×Addr):Int×Value:=(tupleKeyHash knd p.1,.ref p.2)
def byt(w:World):Bool:=w.params.followText "set-order"
structure SetX(knd:KeyKind prog w K)(h:Heap)(a:Addr)(xs:List (List K×Addr))(o:Obj)(es:Array (Int×Value))(ep:Nat)(t:SetTable):Prop where
 ho:h.get? a=some o
 ex:o.ExactSet
 hd:o.data= .set es ep t
 el:es.toList=xs.map (en knd)
 ok:TOk t (xs.map λp=>tupleKeyHash knd p.1)
 room:xs.length*5<t.mask*3
 nd:(xs.map (·.1)).Nodup
 ky:∀p∈xs,IsTupleKey knd h p.1 p.2
 ld:t.led= !byt w
section
variable{a:Addr}{xs:List (List K×Addr)}{o:Obj}{es:Array (Int×Value)}{ep:Nat}{t:SetTable}
theorem SetX.at(X:SetX knd s.heap a xs o es ep t)(i:Nat):es[i]?=(xs[i]?).map (en knd):=by
 rw[<-qA2,X.el,qAZ]
theorem SetX.size(X:SetX knd s.heap a xs o es ep t):es.size=xs.length:=by
 have:=qAm List.length X.el;simpa using this
theorem SetX.fits(X:SetX knd s.heap a xs o es ep t):t.fits es.size=true:=by
 unfold SetTable.fits;have h1:t.place.size=es.size:=by rw[X.ok.n,X.size];simp
 have h2:t.fill<=t.mask:=by
  unfold fill;rw[X.ok.d];exact X.ok.f
 rw[h1];simp[h2]
theorem SetX.state(X:SetX knd s.heap a xs o es ep t){Q:(Array (Int×Value)×Nat×SetTable)->Shared->Prop}(h:Q (es,ep,t) s):wpAny (model prog w) A (setState a) Q E s:=wpAny_setState_of X.ho X.hd X.fits h
theorem msk_odd{m:Nat}(h:Msk m):(m % 2==0)=false:=by
 rcases h with rfl|rfl|rfl|rfl<;>decide
theorem SetX.has(X:SetX knd s.heap a xs o es ep t)(e:t.place[i]?=some j):∃p,xs[i]?=some p:=by
 have h1:i<t.place.size:=(qDK.mp e).1;have h2:=X.ok.n;rw[qAD]at h2;exact⟨xs[i]'(by lia),by simp⟩
theorem split_seen{c:Bool}{m:Sem Bool}{u:String}{jp:Unit->Sem α}{Q:α->Shared->Prop}(hm:∀f:Bool->Sem α,wpAny (model prog w) A (f false) Q E s->wpAny (model prog w) A (m >>= f) Q E s)(h:wpAny (model prog w) A (jp ()) Q E s) :
  wpAny (model prog w) A (if c=true then(m >>= λl=>if l=true then(unsupported u >>= jp)else jp ())else jp ()) Q E s:=by
 by_cases z:c=true
 .rw [qAC z];exact hm _ h
 .rw [qAB z];exact h
theorem w_search(hu:A.units<cLine)(X:SetX knd s.heap a xs o es ep t){k:List K}(hk:IsTupleKey knd s.heap k b)(hN:(pr t.mask (tupleKeyHash knd k) N).j∉t.place.toList)(hb:∀m,m<N->(pr t.mask (tupleKeyHash knd k) m).j∈t.place.toList)(hNf:N<10*turns t.mask)
  {Q:SetFound->Shared->Prop} (h1:k∈xs.map (·.1)->Q (.there none) s) (h2:k∉xs.map (·.1)->Q (.free (pr t.mask (tupleKeyHash knd k) N).j false) s) :
  ∀(d n fuel:Nat)(stand:Option Probe),N=n+d->d<fuel->stand.getD (t.probeStart (tupleKeyHash knd k))=pr t.mask (tupleKeyHash knd k) n ->
   (∀m,m<n->∃(i:Nat)(p:List K×Addr),t.place[i]?=some (pr t.mask (tupleKeyHash knd k) m).j/\xs[i]?=some p/\p.1≠k)->wpAny (model prog w) A (setSearchFrom a (.ref b) (tupleKeyHash knd k) true fuel stand) Q E s:=by
 intro d
 induction d using Nat.strongRecOn with
 |_ d ih=>
  intro n fuel stand e hf hst hseen;obtain⟨fuel,rfl⟩:∃f,fuel=f+1:=⟨fuel-1,by lia⟩;unfold setSearchFrom;refine qAA (X.state ?_);show wpAny _ _ (if(t.mask % 2==0)=true then _ else _) _ _ _;rw[msk_odd X.ok.m,qAB (by decide)]
  have oth:∀m,Oth t (λi=>(es[i]?.map (·.1)).getD 0) (tupleKeyHash knd k) m->∃(i:Nat)(p:List K×Addr),t.place[i]?=some (pr t.mask (tupleKeyHash knd k) m).j/\xs[i]?=some p/\p.1≠k:=λm ⟨i,ei,hi⟩=>by
   obtain⟨p,ep'⟩:=X.has ei;refine⟨i,p,ei,ep',λz=>hi ?_⟩;show(es[i]?.map (·.1)).getD 0=_;rw[X.at i,ep',<-z];rfl
  rw[hst];rcases go_ok X.ok (λi=>(es[i]?.map (·.1)).getD 0) (tupleKeyHash knd k) hN hb d n (10*turns t.mask) e (by lia)with⟨z1,z2⟩|⟨m,i,z1,z2,z3,z4,z5,z6⟩
  .have z1:t.probe (λi=>(es[i]?.map (·.1)).getD 0) (tupleKeyHash knd k) (pr t.mask (tupleKeyHash knd k) n)=some (.empty (pr t.mask (tupleKeyHash knd k) N).j none):=z1
   erw [z1]
   refine qAE (h2 λhm=>?_);obtain⟨p,hp,rfl⟩:=qAW.mp hm;obtain⟨i,hi,ei⟩:=qA1.mp hp;have exi:xs[i]?=some p:=qAf.mpr ⟨hi,ei⟩;have hpl:i<t.place.size:=by rw[X.ok.n,qAD];exact hi
   have epl:t.place[i]?=some t.place[i]:=by simp
   obtain⟨q,q1,q2⟩:=X.ok.reach i t.place[i] (tupleKeyHash knd p.1) epl (by rw[qAZ,exi];rfl)
   have hqN:q<N:=by
    apply qBm;intro c
    by_cases cq:q=N
    .subst cq;exact hN (by rw[q1];exact qAJ (i:=i) (by rw[qA2];exact epl))
    .exact hN (q2 N (by lia))
   have:∃(i':Nat)(p':List K×Addr),t.place[i']?=some (pr t.mask (tupleKeyHash knd p.1) q).j/\xs[i']?=some p'/\p'.1≠p.1:=by
    by_cases c:q<n
    .exact hseen q c
    .exact oth q (z2 q (by lia) hqN)
   obtain⟨i',p',w1,w2,w3⟩:=this;rw[q1]at w1
   have:i'=i:=by
    rcases Nat.lt_trichotomy i' i with z|z|z
    .have:=zEr X.ok.r z w1 epl;lia
    .exact z
    .have:=zEr X.ok.r z epl w1;lia
   subst this;rw[exi]at w2
   cases w2
   exact w3 rfl
  .have z5:t.probe (λi=>(es[i]?.map (·.1)).getD 0) (tupleKeyHash knd k) (pr t.mask (tupleKeyHash knd k) n)=some (.candidate (pr t.mask (tupleKeyHash knd k) m).j i (pr t.mask (tupleKeyHash knd k) (m+1))):=z5
   erw [z5]
   obtain⟨p,exi⟩:=X.has z3;have hp:=X.ky p (qAJ exi);have eei:es[i]?=some (tupleKeyHash knd p.1,.ref p.2):=by rw[X.at i,exi];rfl
   refine split_seen (λf hf=>qAA (w_seen hk ?_ hf)) ?_
   .intro v hv;obtain⟨q,hq,rfl⟩:=qAW.mp hv
    have hq:q∈es.toList:=by
     have:=(Array.mem_filter.mp (qDo.mp hq)).1;exact qDo.mpr this
    rw[X.el]at hq;obtain⟨p',hp',rfl⟩:=qAW.mp hq;exact⟨p'.1,p'.2,rfl,X.ky p' hp'⟩
   dsimp only;rw[eei];dsimp only;refine qAA (qA6 (wpAny_eqBool_tuple hu hp hk ?_));refine qAA (X.state ?_);dsimp only
   by_cases c:p.1=k
   .rw [qAC (by simp[c])];exact qAE (h1 (qAW.mpr ⟨p,qAJ exi,c⟩))
   .rw [qAB (by simp[c])];have esm:t.sameMemory t.moves t.mask=some true:=by unfold SetTable.sameMemory;simp
    rw[esm];dsimp only;rw[qAC rfl,slot_live X.ok z3];dsimp only;rw[eei];dsimp only;refine qAA (wpAny_isSame_ref_self ?_);rw[qAC rfl];refine qAA (qAE ?_);dsimp only;rw[qAB (by simp[c])];refine ih (N-(m+1)) (by lia) (m+1) fuel (some _) (by lia) (by lia) rfl ?_;intro q hq
    by_cases cq:q<n
    .exact hseen q cq
    by_cases cm:q=m
    .subst cm;exact⟨i,p,z3,exi,c⟩
    .exact oth q (z6 q (by lia) (by lia))
end
end
section
variable{prog:Program}{w:World}{K:Type}[DecidableEq K]{knd:KeyKind prog w K}{A:Around}{E:Value->Shared->Prop}{s:Shared}
variable{a:Addr}{xs:List (List K×Addr)}{o:Obj}{es:Array (Int×Value)}{ep:Nat}{t:SetTable}
theorem key_but{h h':Heap}{k:List K}(x:IsTupleKey knd h k b)(ho:h.get? a=some o)(hd:o.data= .set es ep t)(hs:Heap.SameBut a h h'):IsTupleKey knd h' k b:=by
 obtain⟨o1,its,n,p1,p2,p3,p4⟩:=x;refine⟨o1,its,n,(hs.2 b λz=>?_).trans p1,p2,p3,p4⟩;subst z;have:=qAe (p1.symm.trans ho);subst this;rw[hd]at p3;exact nomatch p3
theorem put_get{h:Heap}(ho:h.get? a=some o)(hd:o.data= .set es ep t)(es':Array (Int×Value))(t':SetTable):(h.update a (Obj.putSet es' t')).get? a=some {o with data:=.set es' (ep+1) t'}:=by
 have:=qBA (Obj.putSet es' t') ho (by rw[putSet_of es' t' hd];rfl)
 rwa [putSet_of es' t' hd]at this
theorem put_X{h:Heap}(ho:h.get? a=some o)(ex:o.ExactSet)(hd:o.data= .set es ep t){es':Array (Int×Value)}{t':SetTable}{ys:List (List K×Addr)}(e1:es'.toList=ys.map (en knd))(e2:TOk t' (ys.map λp=>tupleKeyHash knd p.1))(e3:ys.length*5<t'.mask*3)(e4:(ys.map (·.1)).Nodup)(e5:∀p∈ys,IsTupleKey knd h p.1 p.2)(e6:t'.led= !byt w) :
  SetX knd (h.update a (Obj.putSet es' t')) a ys {o with data:=.set es' (ep+1) t'} es' (ep+1) t' :=
 ⟨put_get ho hd es' t',ex,rfl,e1,e2,e3,e4,λp hp=>key_but (e5 p hp) ho hd (qAx h a _),e6⟩
theorem not_scan(b:Addr)(es:Array (Int×Value)):byScan (.ref b) es=false:=by
 unfold byScan;rfl
theorem grow_mask{m n:Nat}(hm:Msk m)(h0:n*5<m*3)(h1:m*3<=(n+1)*5)(hc:n+1<=306):Msk (sizeAbove (grown (n+1))-1)/\n+1<=sizeAbove (grown (n+1))-1/\(n+1)*5<(sizeAbove (grown (n+1))-1)*3/\sizeAbove (grown (n+1))<=512:=by
 rcases hm with rfl|rfl|rfl|rfl
 .obtain rfl:n=4:=by lia
  refine⟨by unfold Msk;decide +kernel,by decide +kernel,by decide +kernel,by decide +kernel⟩
 .obtain rfl:n=18:=by lia
  refine⟨by unfold Msk;decide +kernel,by decide +kernel,by decide +kernel,by decide +kernel⟩
 .obtain rfl:n=76:=by lia
  refine⟨by unfold Msk;decide +kernel,by decide +kernel,by decide +kernel,by decide +kernel⟩
 .lia
theorem getD_hash(ys:List (List K×Addr))(order:List Nat)(hp:order.Perm (List.range ys.length)):(order.filterMap (ys[·]?)).map (λp=>tupleKeyHash knd p.1)=order.map (λk=>(ys.map λp=>tupleKeyHash knd p.1).getD k 0):=by
 have hall:∀k∈order,k<ys.length:=λk hk=>qAs.mp (hp.mem_iff.mp hk);clear hp
 induction order with
 |nil=>rfl
 |cons k ks ih=>
  have hk:=hall k qAY;have e:ys[k]?=some ys[k]:=by simp[hk]
  rw[qCJ,e];show tupleKeyHash knd ys[k].1::_=_::_;rw[ih (λq hq=>hall q (qAU _ hq))];congr 1;show _=(List.map (λp=>tupleKeyHash knd p.fst) ys).getD k 0;rw[qAr,qAZ,e];rfl
theorem range_get(ys:List α):(List.range ys.length).filterMap (ys[·]?)=ys:=by
 induction ys with
 |nil=>rfl
 |cons y ys ih=>
  rw[qAc,List.range_succ_eq_map,qCJ];show y::_=_;rw[List.filterMap_map];congr 1
theorem perm_get(ys:List α){order:List Nat}(hp:order.Perm (List.range ys.length)):(order.filterMap (ys[·]?)).Perm ys:=by
 have:=hp.filterMap (ys[·]?)
 rwa [range_get]at this
theorem w_relay{s:Shared}{m n:Nat}(ho:s.heap.get? a=some o)(ex:o.ExactSet)(hd:o.data= .set es ep t)(e1:es.toList=xs.map (en knd))(e2:TOk t (xs.map λp=>tupleKeyHash knd p.1))(hn:xs.length=n+1)(h0:n*5<t.mask*3)(h1:t.mask*3<=(n+1)*5)(hc:n+1<=306)
  (e4:(xs.map (·.1)).Nodup) (e5:∀p∈xs,IsTupleKey knd s.heap p.1 p.2) (e6:t.led= !byt w) {Q:Unit->Shared->Prop} (h:∀h' ys o' es' ep' t',Heap.SameBut a s.heap h'->ys.Perm xs->SetX knd h' a ys o' es' ep' t'->Q () {s with heap:=h'}) :
  wpAny (model prog w) A (setRelay a (grown (n+1))) Q E s:=by
 obtain⟨g1,g2,g3,g4⟩:=grow_mask e2.m h0 h1 hc;have ez:es.size=xs.length:=by have:=qAm List.length e1;simpa using this
 have hfit:t.fits es.size=true:=by
  unfold SetTable.fits;have z1:t.place.size=es.size:=by rw[e2.n,ez];simp
  have z2:t.fill<=t.mask:=by unfold fill;rw[e2.d];exact e2.f
  rw[z1];simp[z2]
 unfold setRelay;refine qAA (wpAny_setState_of ho hd hfit ?_);dsimp only;have hsl:sizeAbove (grown (n+1))<=sizeLine:=qAL g4 (by decide +kernel);rw[qAB (qCx.mpr hsl)];obtain⟨t',order,l1,l2,l3,l4,l5,l6⟩:=laid_ok g1 (xs.map λp=>tupleKeyHash knd p.1) (by rw[qAD];lia) t.finger (t.movedTo (sizeAbove (grown (n+1))-1)) t.led t.plain
 have lr:t.relaid (es.map (·.1)) (grown (n+1))=some (t',order):=by
  unfold relaid
  have:es.map (·.1)=(xs.map λp=>tupleKeyHash knd p.1).toArray:=by
   apply Array.ext';rw[Array.toList_map,e1,qAp];rfl
  rw[this];exact l1
 rw[lr];rw[qAD]at l5;have lp:=perm_get xs l5
 have el':(order.filterMap (es[·]?)).toList=(order.toList.filterMap (xs[·]?)).map (en knd):=by
  rw[Array.toList_filterMap,List.map_filterMap];congr 1;funext k;rw[<-qA2,e1,qAZ]
 have ez':(order.filterMap (es[·]?)).size=es.size:=by
  rw[<-qBZ,el',qAD,lp.length_eq,ez]
 refine qAA ?_;show wpAny _ _ (if((order.filterMap (es[·]?)).size != es.size)=true then _ else _) _ _ _;rw[qAB (by rw[ez'];simp)];refine qAE ?_;dsimp only;refine wpAny_storeSet_of ho hd ?_ (by rw[ez',ez,hn];exact qAL hc (by decide +kernel));refine h _ _ _ _ _ _ (qAx _ a _) lp (put_X ho ex hd el' ?_ ?_ ?_ (λp hp=>e5 p (lp.mem_iff.mp hp)) (l3.trans e6))
 .rw [getD_hash xs order.toList l5];exact l6
 .rw [lp.length_eq,hn,l2];exact g3
 .exact (lp.map (·.1)).nodup_iff.mpr e4
theorem ins_perm(L:List α)(p:Nat)(x:α):(L.take p++x::L.drop p).Perm (x::L):=by
 have h1:(L.take p++x::L.drop p).Perm (x::(L.take p++L.drop p)):=List.perm_middle
 rwa [qCs]at h1
theorem plain_off{t:SetTable}(T:TOk t hs)(c:Bool):TOk (if c=true then t else {t with plain:=false}) hs/\(if c=true then t else {t with plain:=false}).mask=t.mask/\(if c=true then t else {t with plain:=false}).tooFull=t.tooFull/\(if c=true then t else {t with plain:=false}).led=t.led:=by
 cases c
 .exact ⟨⟨T.m,T.d,T.r,T.l,T.n,T.f,T.reach⟩,rfl,rfl,rfl⟩
 .exact ⟨T,rfl,rfl,rfl⟩
theorem w_add(hu:A.units<cLine)(X:SetX knd s.heap a xs o es ep t){k:List K}(hk:IsTupleKey knd s.heap k b)(hc:xs.length+1<=306){Q:Bool->Shared->Prop}(h1:k∈xs.map (·.1)->Q false s)
  (h2:k∉xs.map (·.1)->∀h' ys o' es' ep' t',Heap.SameBut a s.heap h'->ys.Perm ((k,b)::xs)->SetX knd h' a ys o' es' ep' t'->Q true {s with heap:=h'}) :
  wpAny (model prog w) A (setAddHashed a (.ref b) (tupleKeyHash knd k)) Q E s:=by
 unfold setAddHashed setAddHashedIn;refine qA6 (qAA (X.state ?_));dsimp only;rw[not_scan,qAB (by decide)]
 have hpl:t.place.toList.length=xs.length:=by
  have:=X.ok.n;rw[qAD]at this;simpa using this
 have hroom:=X.room;obtain⟨N,hNf,hN,hb⟩:=zIz X.ok.m (tupleKeyHash knd k) (L:=t.place.toList) (by rw[hpl];lia)
 have hT:10*turns t.mask<100000:=by
  rcases X.ok.m with z|z|z|z<;>rw[z]<;>decide +kernel
 unfold setSearch;refine qAA (w_search hu X hk hN hb hNf ?_ ?_ N 0 100000 none (by lia) (by lia) rfl (λm hm=>absurd hm (qCA m)))
 .intro z;exact qAE (h1 z)
 .intro z;dsimp only;refine qAA (X.state ?_);dsimp only
  have hf1:t.place.size+1<=t.mask:=by
   have:t.place.size=xs.length:=by simpa using hpl
   rcases X.ok.m with z|z|z|z<;>lia
  have T1:=put_ok X.ok (tupleKeyHash knd k) hN hb hf1;have em:(t.put (pr t.mask (tupleKeyHash knd k) N).j).1.mask=t.mask:=rfl;have ed:(t.put (pr t.mask (tupleKeyHash knd k) N).j).1.led=t.led:=rfl;have B:=(zEy X.ok.r (pr t.mask (tupleKeyHash knd k) N).j).le;have ep2:(t.put (pr t.mask (tupleKeyHash knd k) N).j).2=below t.place (pr t.mask (tupleKeyHash knd k) N).j:=rfl
  have fin:∀c:Bool,wpAny (model prog w) A (do
    storeSet a (SetTable.insertAt es (t.put (pr t.mask (tupleKeyHash knd k) N).j).2 (tupleKeyHash knd k,.ref b)) (if c=true then(t.put (pr t.mask (tupleKeyHash knd k) N).j).1 else {(t.put (pr t.mask (tupleKeyHash knd k) N).j).1 with plain:=false})
    if(!false&&(if c=true then(t.put (pr t.mask (tupleKeyHash knd k) N).j).1 else {(t.put (pr t.mask (tupleKeyHash knd k) N).j).1 with plain:=false}).tooFull)=true then do
     setRelay a (SetTable.grown (es.size+1))
     pure true
    else pure true) Q E s:=by
   intro c;generalize hp:(t.put (pr t.mask (tupleKeyHash knd k) N).j).2=p at *
   generalize ht:(t.put (pr t.mask (tupleKeyHash knd k) N).j).1=t1 at *
   have hple:p<=es.size:=by
    rw[X.size,ep2];have:t.place.size=xs.length:=by simpa using hpl
    lia
   obtain⟨T2,m2,f2,d2⟩:=plain_off T1 c;generalize ht2:(if c=true then t1 else {t1 with plain:=false})=t2 at *
   have el:(SetTable.insertAt es p (tupleKeyHash knd k,Value.ref b)).toList=(xs.take p++(k,b)::xs.drop p).map (en knd):=by
    rw[zJw es p _ hple,X.el,qAN,qAk,qDO,List.map_drop];rfl
   have ip:=ins_perm xs p (k,b)
   have eT:(xs.map λp=>tupleKeyHash knd p.1).take p++tupleKeyHash knd k::(xs.map λp=>tupleKeyHash knd p.1).drop p=(xs.take p++(k,b)::xs.drop p).map λp=>tupleKeyHash knd p.1:=by
    rw[qAN,qAk,qDO,List.map_drop]
   rw[eT]at T2;have len:(xs.take p++(k,b)::xs.drop p).length=xs.length+1:=by rw[ip.length_eq];rfl
   have nd:((xs.take p++(k,b)::xs.drop p).map (·.1)).Nodup:=by
    refine(ip.map (·.1)).nodup_iff.mpr ?_;exact qA0.mpr ⟨z,X.nd⟩
   have ky:∀q∈xs.take p++(k,b)::xs.drop p,IsTupleKey knd s.heap q.1 q.2:=λq hq=>by
    rcases qAM.mp (ip.mem_iff.mp hq)with y|y
    .subst y;exact hk
    .exact X.ky q y
   have sz:(SetTable.insertAt es p (tupleKeyHash knd k,Value.ref b)).size=xs.length+1:=by
    have:=qAm List.length el;rw[qAD,len]at this;simpa using this
   refine qAA (wpAny_storeSet_of X.ho X.hd ?_ (by rw[sz];exact qAL hc (by decide +kernel)))
   have fl:t2.tooFull=decide (t.mask*3<=(xs.length+1)*5):=by
    unfold tooFull fill;rw[T2.d,T2.n,qAD,len,m2,em];rfl
   by_cases cf:t.mask*3<=(xs.length+1)*5
   .rw [qAC (by rw[fl];simp[cf])];rw[X.size];refine qAA ?_;refine w_relay (m:=0) (o:={o with data:=.set (insertAt es p (tupleKeyHash knd k,Value.ref b)) (ep+1) t2}) (put_get X.ho X.hd _ _) X.ex rfl el T2 len ?_ ?_ hc nd ?_ (d2.trans (ed.trans X.ld)) ?_
    .rw [m2,em];exact hroom
    .rw [m2,em];exact cf
    .intro q hq;exact key_but (ky q hq) X.ho X.hd (qAx _ a _)
    .intro h' ys o' es' ep' t' q1 q2 q3;exact qAE (h2 z h' ys o' es' ep' t' ((qAx _ a _).trans q1) (q2.trans ip) q3)
   .rw [qAB (by rw[fl];simp[cf])];refine qAE (h2 z _ _ _ _ _ _ (qAx _ a _) ip (put_X X.ho X.ex X.hd el T2 ?_ nd ky (d2.trans (ed.trans X.ld))));rw[len,m2,em];lia
  by_cases cp:(t.put (pr t.mask (tupleKeyHash knd k) N).j).1.plain=true
  .rw [qAC cp];exact qAA (w_hbv hk fin)
  .rw [qAB cp];exact qAA (qAE (fin true))
end
end ST
namespace ST
open PySem PySem.SetTable PyProof.Rows
variable{h:Heap}{α:Type}
section
variable{prog:Program}{w:World}{K:Type}[DecidableEq K]{knd:KeyKind prog w K}{A:Around}{E:Value->Shared->Prop}{s:Shared}
variable{a:Addr}{xs:List (List K×Addr)}{o:Obj}{es:Array (Int×Value)}{ep:Nat}{t:SetTable}
theorem key_kept{h':Heap}{k:List K}{b:Addr}(x:IsTupleKey knd h k b)(e:∀o,h.get? b=some o->h'.get? b=some o):IsTupleKey knd h' k b :=
 let⟨o,its,n,p1,r⟩:=x;⟨o,its,n,e o p1,r⟩
theorem SetX.kept{h h':Heap}(X:SetX knd h a xs o es ep t)(e:∀b o,(b=a\/∃p∈xs,p.2=b)->h.get? b=some o->h'.get? b=some o):SetX knd h' a xs o es ep t :=
 ⟨e a o (.inl rfl) X.ho,X.ex,X.hd,X.el,X.ok,X.room,X.nd,λp hp=>key_kept (X.ky p hp) λo q=>e _ o (.inr ⟨p,hp,rfl⟩) q,X.ld⟩
def Got(knd:KeyKind prog w K)(h:Heap)(a:Addr)(ks:List (List K×Addr)):Prop :=
 ∃xs o es ep t,SetX knd h a xs o es ep t/\(∀p∈xs,p∈ks)/\(∀p∈ks,p.1∈xs.map (·.1))/\xs.length<=ks.length
theorem Got.kept{h h':Heap}{ks:List (List K×Addr)}(g:Got knd h a ks)(e:∀b o,(b=a\/∃p∈ks,p.2=b)->h.get? b=some o->h'.get? b=some o):Got knd h' a ks:=by
 obtain⟨xs,o,es,ep,t,X,g1,g2,g3⟩:=g;exact⟨xs,o,es,ep,t,X.kept λb o hb=>e b o (hb.imp id λ⟨p,hp,q⟩=>⟨p,g1 p hp,q⟩),g1,g2,g3⟩
theorem Got.fresh{a:Addr}(ho:h.get? a=some {cls:=.type "set",dict:=none,data:=.set #[] 0 (.fresh 0 0 (!byt w))}):Got knd h a [] :=
 ⟨[],_,_,_,_,⟨ho,⟨rfl,rfl,rfl⟩,rfl,rfl,fresh_ok 0 0 _,(show 0*5<7*3 by decide),qA5,(λp hp=>nomatch hp),rfl⟩,(λp hp=>nomatch hp),(λp hp=>nomatch hp),qAF _⟩
theorem w_more{ks:List (List K×Addr)}{k:List K}{b:Addr}(hu:A.units<cLine)(g:Got knd s.heap a ks)(hk:IsTupleKey knd s.heap k b)(hc:ks.length+1<=306){Q:Bool->Shared->Prop}
  (h:∀c h',Heap.SameBut a s.heap h'->Got knd h' a (ks++[(k,b)])->Q c {s with heap:=h',toks:=s.toks+(k.length+1)}):wpAny (model prog w) A (setAdd a (.ref b)) Q E s:=by
 obtain⟨xs,o,es,ep,t,X,g1,g2,g3⟩:=g;unfold setAdd;refine qA6 (qAA (wpAny_pyHash_tuple hu hk ?_));refine w_add (s:={s with toks:=s.toks+(k.length+1)}) hu X hk (by lia) (λz=>?_) λz h' ys o' es' ep' t' q1 q2 q3=>?_
 .refine h false s.heap (Heap.SameBut.refl a s.heap) ⟨xs,o,es,ep,t,X,λp hp=>qAv _ (g1 p hp),λp hp=>?_,by rw[qAl];exact Nat.le_succ_of_le g3⟩;rcases qAT.mp hp with y|y
  .exact g2 p y
  .rw [qAP.mp y];exact z
 .refine h true h' q1 ⟨ys,o',es',ep',t',q3,λp hp=>?_,λp hp=>?_,?_⟩
  .rcases qAM.mp (q2.mem_iff.mp hp)with y|y
   .rw [y];exact qA4 _ (qAP.mpr rfl)
   .exact qAv _ (g1 p y)
  .have m:=(q2.map (·.1)).mem_iff (a:=p.1);refine m.mpr ?_;rcases qAT.mp hp with y|y
   .exact qAU _ (g2 p y)
   .rw [qAP.mp y];exact qAY
  .rw [q2.length_eq,qAl];exact Nat.succ_le_succ g3
end
section
variable{prog:Program}{w:World}{K:Type}[DecidableEq K]{knd:KeyKind prog w K}{A:Around}{R:Result->Shared->Prop}{I:Addr}{fp wr:List Addr}{G:Array GenState->Array GenState->Prop}{P:Nat->Value->Prop}{St:Nat->Shared->Prop}
theorem c_fill{ks:List (List K×Addr)}(hu:A.in1.units<cLine)(W:WalksS prog w A.in1 I fp wr G ks.length P St)(a:Addr)(haf:a∉fp)(hP:∀i v,P i v->∃p,ks[i]?=some p/\v= .ref p.2)(hka:∀p∈ks,p.2≠a/\p.2∉wr)(hc:ks.length<=306) :
  ∀(k i:Nat)(s:Shared),ks.length=i+k->St i s->Got knd s.heap a (ks.take i)->(∀p∈ks,IsTupleKey knd s.heap p.1 p.2) ->
   (∀s',Moved (a::wr) G s s'->Got knd s'.heap a ks->R (.ok (.ret .none)) s')->codeAny (model prog w) A (.builtin "set.update.loop" ⟨[.ref a,.ref I],[]⟩) R s:=by
 have haw:a∉wr:=λz=>haf (W.sub a z);intro k
 induction k with
 |zero=>
  intro i s e st g ky hR;have e:i=ks.length:=by lia
  subst e;rw[qAb]at g;refine qBI PyProof.Rows.F.entry_set_update_loop ?_;rw[qBd qDw _];change wpAny _ A.in1 (pyNext (Value.ref I) >>= _) _ _ s;refine qAA (W.done s _ _ st λs1 mv=>?_);refine qAE (hR s1 (mv.mono λb hb=>qAU a hb) (g.kept λb o hb q=>mv.heap b o ?_ q));rcases hb with rfl|⟨p,hp,rfl⟩
  .exact haw
  .exact (hka p hp).2
 |succ k ih=>
  intro i s e st g ky hR;have hi:i<ks.length:=by lia
  refine qBI PyProof.Rows.F.entry_set_update_loop ?_;rw[qBd qDw _];change wpAny _ A.in1 (pyNext (Value.ref I) >>= _) _ _ s;refine qAA (W.item i s _ _ hi st λv s1 pv st1 mv=>?_);obtain⟨p,ep,rfl⟩:=hP i v pv;have pm:p∈ks:=qAJ ep
  have up:∀b o,(b=a\/∃q∈ks,q.2=b)->s.heap.get? b=some o->s1.heap.get? b=some o:=λb o hb q=>mv.heap b o (by
   rcases hb with rfl|⟨p,hp,rfl⟩
   .exact haw
   .exact (hka p hp).2) q
  have g1:=g.kept (h':=s1.heap) λb o hb=>up b o (hb.imp id λ⟨q,hq,z⟩=>⟨q,qCS hq,z⟩);have ky1:∀q∈ks,IsTupleKey knd s1.heap q.1 q.2:=λq hq=>key_kept (ky q hq) λo=>up _ o (.inr ⟨q,hq,rfl⟩);change wpAny _ A.in1 (holding [Value.ref p.2] (setAdd a (.ref p.2)) >>= _) _ _ s1;refine qAA (qA6 (w_more (knd:=knd) hu g1 (ky1 p pm) (by rw[qAR];lia) λc h' sb g2=>?_))
  have et:ks.take i++[(p.1,p.2)]=ks.take (i+1):=by
   rw[List.take_succ,ep];rfl
  rw[et]at g2
  have st2:=W.frame (i+1) s1 h' (s1.toks+(p.1.length+1)) st1 (qB7 _ _) λb hb o q=>by
   rw[sb.2 b λz=>haf (z▸hb)];exact q
  refine qAE ⟨qBo qDw _,ih (i+1) _ (by lia) st2 g2 (λq hq=>key_kept (ky1 q hq) λo z=>(sb.2 _ (hka q hq).1).trans z) λs2 mv2 g3=>hR s2 ?_ g3⟩;refine Moved.trans W.gtrans ((mv.mono λb hb=>qAU a hb).then_heap (qB7 _ _) λb o hb z=>?_) mv2;exact(sb.2 b λy=>hb (y▸qAY)).trans z
end
section
variable{prog:Program}{w:World}{K:Type}[DecidableEq K]{knd:KeyKind prog w K}{A:Around}{E:Value->Shared->Prop}{s:Shared}
def set0(w:World):Obj:={cls:=.type "set",dict:=none,data:=.set #[] 0 (.fresh 0 0 (!byt w))}
theorem c_new(v:Value){Q:Value->Shared->Prop}(h:Q (.ref s.heap.objs.size) {s with heap:=s.heap.push (set0 w)}):codeAny (model prog w) A (.call (.builtin "set.__new__") ⟨[.type "set",v],[]⟩) (wants Q E) s:=by
 refine qCy ?_;change wpAny _ A.in1 (checkBuiltinCall "set.__new__" ⟨[.type "set",v],[]⟩ >>= λ_=>again (.builtin "set.__new__" ⟨[.type "set",v],[]⟩)) _ _ s;refine qAA (qB9 (F.newCall_set_1 v) (qAE ⟨qBo F.plain_set_new _,qBI F.entry_set_new ?_⟩));rw[qBd F.plain_set_new _];unfold Builtin.«set.__new__» Builtin.Frozenset.newClass;have q:=sub_set_self;obtain⟨hp,g,d,tk,os⟩:=s;dsimp only
 wp_walk
 refine qBe (qAE ?_);dsimp only;simp only[newObj];refine qAA (wpAny_alloc (qAE (qAE ?_)));exact h
theorem w_setBy{l:Addr}{its:Array Value}{Z:Heap->Prop}{Q:Value->Shared->Prop}(hh:A.handled=none)(hl:s.heap.IsList l its)
  (fill:∀(A1:Around) (R:Result->Shared->Prop) (s3:Shared) (fp:List Addr) (G:Array GenState->Array GenState->Prop) (St:Nat->Shared->Prop),A1.in1.units<=A.units+3->WalksS prog w A1.in1 (s.heap.objs.size+1) fp [s.heap.objs.size+1] G its.size (fun i v=>its[i]?=some v) St->s.heap.objs.size∉fp ->
   s3.heap.get? s.heap.objs.size=some (set0 w)->(∀b o,s.heap.get? b=some o->s3.heap.get? b=some o)->St 0 s3->(∀s',Moved [s.heap.objs.size,s.heap.objs.size+1] G s3 s'->Z s'.heap->R (.ok (.ret .none)) s') ->
   codeAny (model prog w) A1 (.builtin "set.update.loop" ⟨[.ref s.heap.objs.size,.ref (s.heap.objs.size+1)],[]⟩) R s3)
  (h:∀(h':Heap)(tk:Nat),s.toks<=tk->Z h'->(∀b o,s.heap.get? b=some o->h'.get? b=some o)->Q (.ref s.heap.objs.size) {s with heap:=h',toks:=tk}) :
  wpAny (model prog w) A (call (.type "set") [.ref l]) Q E s:=by
 obtain⟨c,tl,hmro⟩:=qBu.mro;have k1:=qBu.made;have k2:=qBu.sub;refine qBh (qCy ?_);change wpAny _ _ (callAny (.type "set") _) _ _ _;refine qAE ⟨Code.quiet_builtin _ (by decide +kernel),qBI F.entry_type_call ?_⟩;rw[Around.under_plain (qDx "set" [.ref l] []) rfl];have k3:=qBu.notType;have k4:=qBu.canCreate;have k5:=F.typeCall_set_1 (.ref l)
 repeat (any_goals (first|assumption|wp_step))
 have hne:∀b o,s.heap.get? b=some o->b≠s.heap.objs.size:=λb o q=>qAO (qAH q);refine qBi (c_new (w:=w) (.ref l) (E:=E) (Q:=λob s1=>ob= .ref s.heap.objs.size/\s1={s with heap:=s.heap.push (set0 w)}) ⟨rfl,rfl⟩) λr s1 hr=>?_
 cases r with
 |error e=>exact hr
 |ok fl=>
  cases fl with
  |ret ob=>
   obtain⟨rfl,rfl⟩:=hr;have hS:(s.heap.push (set0 w)).get? s.heap.objs.size=some (set0 w):=qAX _ rfl;have hT:Shared.TypeIs {s with heap:=s.heap.push (set0 w)} (.ref s.heap.objs.size) "set":= ⟨_,hS,rfl⟩;have k6:=qBu.init.lookup;have k7:=qBu.init.bind (.ref s.heap.objs.size)
   repeat (any_goals (first|assumption|wp_step))
   refine qBi (qCB (R:=wants (λr s2=>r= .none/\∃h' tk,s2={s with heap:=h',toks:=tk}/\s.toks<=tk/\Z h'/\(∀b o,s.heap.get? b=some o->h'.get? b=some o)) E) qBu.init.plain F.entry_set_init (check_set_init_1 hT ?_)) λr2 s2 hr2=>?_
   .obtain ⟨ol,hol,hcl,nl,hdl⟩:=hl;obtain⟨o1,o2,o3,o4⟩:=ol;simp only at hcl hdl;subst hcl hdl;have hol1:(s.heap.push (set0 w)).get? l=some {cls:=.type "list",dict:=o2,data:=.seq its nl,slots:=o4}:=qAG _ hol;have k8:=F.sub_list_set;have k9:=F.sub_list_frozenset;have k10:(Value.type "list"== Value.type "dict")=false:=by decide
    have hl1:(s.heap.push (set0 w)).IsList l its:=⟨_,hol1,rfl,nl,rfl⟩;unfold Builtin.«set.__init__» noKeywords Builtin.Frozenset.updateFrom;generalize hPI:pyIter=PI
    wp_walk
    subst hPI;refine qCc hl1 ?_;refine qAA (wpAny_runValue ?_);have esz:(s.heap.push (set0 w)).objs.size=s.heap.objs.size+1:=qBE _ _;have hls:l<s.heap.objs.size:=qAH hol;have W:=(Walks.list (prog:=prog) (w:=w) (A:=A.in1.in1.in1) (by simpa using hh) (s.heap.push (set0 w)).objs.size l (by rw[esz];exact qAO (qBN hls)) its).toS;rw[esz]at W;rw[esz];refine fill A.in1.in1 _ _ _ _ _ (by show A.units+1+1+1<=A.units+3;lia) W ?_ (qAG _ hS) (λb o q=>qAG _ (qAG _ q)) ⟨⟨_,by rw[<-esz];exact qAX _ rfl,rfl,rfl⟩,hl1.push _⟩ ?_
    .simp only[qAM,qCw,or_false,not_or];exact⟨qAO (qBS _),qAt hls⟩
    .intro s1 mv g;obtain⟨h1,g1,d1,tk1,os1⟩:=s1;have e1:g1=s.gens:=mv.gens;have e2:d1=s.drawn:=mv.drawn;have e3:os1=s.os:=mv.os;subst e1 e2 e3;show wpAny _ _ _ _ _ _;refine qAE (qAE ⟨rfl,h1,tk1,rfl,mv.toks,g,λb o q=>?_⟩);have:=qAH q
     exact mv.heap b o (by
      simp only[qAM,qCw,or_false,not_or];exact⟨qAO this,qAO (qBN this)⟩) (qAG _ (qAG _ q))
   .cases r2 with
    |error e=>exact hr2
    |ok f2=>
     cases f2 with
     |ret r=>
      obtain⟨rfl,h',tk,rfl,q1,q2,q3⟩:=hr2
      repeat (any_goals (first|assumption|wp_step))
      exact h _ _ q1 q2 q3
     |_=>exact hr2.elim
  |_=>exact hr.elim
theorem w_mkset{l:Addr}{its:Array Value}{ks:List (List K×Addr)}{Q:Value->Shared->Prop}(hh:A.handled=none)(hu:A.units+8<cLine)(hl:s.heap.IsList l its)(ei:its.toList=ks.map λp=>.ref p.2)(ky:∀p∈ks,IsTupleKey knd s.heap p.1 p.2)(hc:ks.length<=306)
  (h:∀(h':Heap)(tk:Nat),s.toks<=tk->Got knd h' s.heap.objs.size ks->(∀b o,s.heap.get? b=some o->h'.get? b=some o)->Q (.ref s.heap.objs.size) {s with heap:=h',toks:=tk}) :
  wpAny (model prog w) A (call (.type "set") [.ref l]) Q E s:=by
 refine w_setBy hh hl (λA1 R s3 fp G St hv W hf hS kp st hR=>?_) h
 have ez:its.size=ks.length:=by
  have:=qAm List.length ei;simpa using this
 rw[ez]at W;refine c_fill (knd:=knd) (by lia) W s.heap.objs.size hf (λi v hv=>?_) (λp hp=>?_) hc ks.length 0 _ (by lia) st (Got.fresh hS) (λp hp=>key_kept (ky p hp) λo q=>kp _ o q) hR
 .have:its.toList[i]?=some v:=by rw[qA2];exact hv
  rw[ei,qAZ]at this
  cases hk:ks[i]? with
  |none=>rw[hk]at this;exact nomatch this
  |some p=>rw[hk]at this;exact⟨p,rfl,(qAe this).symm⟩
 .obtain ⟨o,_,_,ho,_⟩:=ky p hp;have:=qAH ho;simp only[qAM,qCw,or_false];exact⟨qAO this,qAO (qBN this)⟩
end
theorem zE2:Slot "set_iterator" "__next__" "set_iterator.__next__":=
 .of (owner:="set_iterator") (n:="__next__") (by rw[qBO,qBP];kernel_rfl) (by decide +kernel) (by decide +kernel) (by decide +kernel) (by first|exact .inl (by decide +kernel)|exact .inr (by decide +kernel)) (by rw[qBf];kernel_rfl)
theorem sl_self:Slot "set_iterator" "__iter__" "set_iterator.__iter__":=
 .of (owner:="set_iterator") (n:="__iter__") (by rw[qBO,qBP];kernel_rfl) (by decide +kernel) (by decide +kernel) (by decide +kernel) (by first|exact .inl (by decide +kernel)|exact .inr (by decide +kernel)) (by rw[qBf];kernel_rfl)
theorem en_next:entryFor table "set_iterator.__next__"=some Builtin.«set_iterator.__next__»:=entryFor_of_fast (by kernel_rfl)
theorem en_self:entryFor table "set_iterator.__iter__"=some Builtin.«dict_keyiterator.__iter__»:=qDP (id':="dict_keyiterator.__iter__") (by kernel_rfl) rfl (by decide +kernel) (by kernel_rfl)
theorem en_iter:entryFor table "set.__iter__"=some Builtin.«frozenset.__iter__»:=qDP (id':="frozenset.__iter__") (by kernel_rfl) rfl (by decide +kernel) (by kernel_rfl)
theorem ar_next(a:Value):argsOk "set_iterator.__next__" ⟨[a],[]⟩:=by unfold argsOk;kernel_rfl
theorem ar_self(a:Value):argsOk "set_iterator.__iter__" ⟨[a],[]⟩:=by unfold argsOk;kernel_rfl
theorem zC6{M:Model}{A:Around}{E:Value->Shared->Prop}{s:Shared}{c:Prop}[Decidable c]{x y:Sem α}{Q:α->Shared->Prop}(hc:¬c)(h:wpAny M A y Q E s):wpAny M A (if c then x else y) Q E s:=by rw[qAB hc];exact h
theorem zFc{M:Model}{A:Around}{E:Value->Shared->Prop}{s:Shared}{c:Prop}[Decidable c]{x y:Sem α}{Q:α->Shared->Prop}(hc:c)(h:wpAny M A x Q E s):wpAny M A (if c then x else y) Q E s:=by rw[qAC hc];exact h
theorem zGi :∀{L:List α}{i:Nat}{x:α},L[i]?=some x->(x::L.eraseIdx i).Perm L
 |[],i,x,h=>by simp at h
 |y::r,0,x,h=>by
  have:y=x:=qAe h;subst this;exact qDQ _
 |y::r,i+1,x,h=>by
  rw[qCr]at h;exact(List.Perm.swap y x _).trans (List.Perm.cons y (zGi h))
theorem pick_go(next:Nat->Nat):∀(fuel k:Nat)(left:List α)(out:Array α),left.length<=fuel->(pickOrder.go next fuel k left out).toList.Perm (out.toList++left)
 |0,k,left,out,h=>by
  have:left=[]:=qCT.mp (Nat.le_zero.mp h);subst this;unfold pickOrder.go;rw[qA9]
 |fuel+1,k,left,out,h=>by
  unfold pickOrder.go
  cases e:left[next k % left.length]? with
  |none=>
   have:left=[]:=by
    cases left with
    |nil=>rfl
    |cons x r=>
     have:=qDy.mp e;have h2:=Nat.mod_lt (next k) (show 0<(x::r).length from Nat.succ_pos _);exact absurd h2 (qCx.mpr this)
   subst this;dsimp only;rw[qA9]
  |some x=>
   dsimp only;have p:=zGi e;have hl:=p.length_eq;rw[qAc]at hl;refine(pick_go next fuel (k+1) _ _ (by lia)).trans ?_;rw[Array.toList_push,qB3];exact List.Perm.append_left _ p
theorem pick_perm(next:Nat->Nat)(xs:Array α):(pickOrder next xs).toList.Perm xs.toList:=by
 have:=pick_go next xs.size 0 xs.toList #[] (by simp);show(pickOrder.go next xs.size 0 xs.toList #[]).toList.Perm _;simpa using this
section
variable{prog:Program}{w:World}{K:Type}[DecidableEq K]{knd:KeyKind prog w K}{A:Around}{E:Value->Shared->Prop}
theorem w_choose{s:Shared}{src:Source}{n:Nat}(hn:n≠0){Q:Nat->Shared->Prop}(h:∀i d,i<n->Q i {s with drawn:=d}):wpAny (model prog w) A (choose src n) Q E s:=λ_ _ _=>⟨hn,h _ _ (Nat.mod_lt _ (Nat.pos_of_ne_zero hn))⟩
theorem w_draw :∀(n:Nat)(L:List α)(s:Shared)(Q:List α->Shared->Prop),L.length=n->(∀M d,M.Perm L->Q M {s with drawn:=d})->wpAny (model prog w) A (drawOrder n L) Q E s
 |0,L,s,Q,hl,h=>by
  have:L=[]:=qCT.mp hl;subst this;unfold drawOrder;exact qAE (h [] s.drawn (qDQ _))
 |n+1,[],s,Q,hl,h=>nomatch hl
 |n+1,x::r,s,Q,hl,h=>by
  unfold drawOrder;refine qAA (w_choose (by rw[hl];exact Nat.succ_ne_zero n) λi d hi=>?_);obtain⟨y,ey⟩:∃y,(x::r)[i]?=some y:=⟨(x::r)[i],qAV hi⟩;rw[ey];dsimp only;have p:=zGi ey;have hl2:=p.length_eq;rw[qAc]at hl2;refine qAA (w_draw n _ _ _ (by lia) λM d' hM=>qAE ?_);exact h (y::M) d' ((List.Perm.cons y hM).trans p)
end
def dr(es:Array (Int×Value))(t:SetTable):Bool:=!t.plain&&decide (es.size>1)
def ItM(w:World)(h:Heap)(a:Addr)(es:Array (Int×Value))(ep:Nat)(t:SetTable)(ord:List Value)(i:Nat)(first:Value):Prop :=
 (byt w=true/\(∃j:Nat,first= .int j 0)/\ord=(pickOrder (w.params.setOrder a ep) es).toList.map (·.2)) \/
 (byt w=false/\∃(T:Addr)(oT:Obj)(c:Nat)(pl:List Nat),first= .ref T/\h.get? T=some oT/\oT.data= .seq (pl.map λ(p:Nat)=>Value.int p 0).toArray c/\pl.Perm (List.range es.size)/\ord=pl.filterMap λp=>(es[p]?).map (·.2)) \/
 (byt w=false/\dr es t=false/\∃slot:Nat,first= .int slot 0/\below t.place slot=i/\ord=es.toList.map (·.2))
structure ItS(w:World)(h:Heap)(I a:Addr)(es:Array (Int×Value))(ep:Nat)(t:SetTable)(ord:List Value)(i:Nat)(o:Obj)(first:Value):Prop where
 ho:h.get? I=some o
 hc:o.cls= .type "set_iterator"
 hd:o.data= .fields #[first,.int i 0,.ref a,.int es.size 0,.int ep 0]
 hm:ItM w h a es ep t ord i first
section
variable{prog:Program}{w:World}{K:Type}[DecidableEq K]{knd:KeyKind prog w K}{A:Around}{E:Value->Shared->Prop}{s:Shared}
variable{a I:Addr}{xs:List (List K×Addr)}{o oI:Obj}{es:Array (Int×Value)}{ep i:Nat}{t:SetTable}{ord:List Value}{first:Value}
theorem below_zero(hr:Rise t.place.toList):below t.place 0=0:=by
 have B:=zEy hr 0;rcases Nat.eq_zero_or_pos (below t.place 0)with z|z
 .exact z
 .have hs:0<t.place.size:=qAi z B.le;have e:t.place[0]?=some t.place[0]:=by simp[hs]
  exact absurd (B.lo 0 _ z e) (qCA _)
theorem below_next(hr:Rise t.place.toList){i j:Nat}(e:t.place[i]?=some j):below t.place (j+1)=i+1:=by
 have B:=zEy hr (j+1);have hi:i<t.place.size:=(qDK.mp e).1;have h1:i<below t.place (j+1):=Nat.lt_of_not_le λz=>by have:=B.hi i j z e;lia
 rcases Nat.lt_or_ge (i+1) (below t.place (j+1))with z|z
 .have hs:i+1<t.place.size:=qAi z B.le;have e2:t.place[i+1]?=some t.place[i+1]:=by simp[hs]
  have q1:=B.lo (i+1) _ z e2;have q2:=zEr hr (qBS i) e e2;lia
 .lia
theorem ItM.perm(m:ItM w h a es ep t ord i first):ord.Perm (es.toList.map (·.2)):=by
 rcases m with⟨_,_,rfl⟩|⟨_,T,oT,c,pl,_,_,_,hp,rfl⟩|⟨_,_,slot,_,_,rfl⟩
 .exact (pick_perm _ es).map _
 .have:=hp.filterMap λp=>(es[p]?).map (·.2);refine this.trans (List.Perm.of_eq ?_);rw[<-List.map_filterMap];congr 1;have:=range_get es.toList;rw[qBZ]at this;simpa using this
 .exact qDQ _
theorem ItM.len(m:ItM w h a es ep t ord i first):ord.length=es.size:=by
 rw[m.perm.length_eq];simp
theorem ItS.typeIs(it:ItS w s.heap I a es ep t ord i oI first):s.TypeIs (.ref I) "set_iterator":= ⟨_,it.ho,it.hc⟩
theorem fm_at{pl:List Nat}(hp:pl.Perm (List.range es.size))(i:Nat):(pl.filterMap λp=>(es[p]?).map (·.2))[i]?=(pl[i]?).bind λp=>(es[p]?).map (·.2):=by
 have hall:∀k∈pl,k<es.size:=λk hk=>qAs.mp (hp.mem_iff.mp hk);clear hp
 induction pl generalizing i with
 |nil=>simp
 |cons k ks ih=>
  have hk:=hall k qAY;have e:es[k]?=some es[k]:=by simp[hk]
  have ih':=λi=>ih i λq hq=>hall q (qAU _ hq);rw[qCJ,e]
  cases i with
  |zero=>simp[e]
  |succ i=>
   show(_::_)[i+1]?=_;rw[qCr,ih' i,qCr]
theorem w_item(X:SetX knd s.heap a xs o es ep t)(it:ItS w s.heap I a es ep t ord i oI first)(hne:I≠a){v:Value}(hv:ord[i]?=some v){Q:Option Value->Shared->Prop}
  (h:∀h' o' f',Heap.SameBut I s.heap h'->ItS w h' I a es ep t ord (i+1) o' f'->(∀T,f'= .ref T->first= .ref T)->Q (some v) {s with heap:=h'}):wpAny (model prog w) A (pyNext (.ref I)) Q E s:=by
 unfold pyNext;refine qAA (qBa (qBv (name:=Str.ofString "__next__") it.typeIs zE2 (qBJ zE2 it.typeIs en_next ?_ (ar_next _))));unfold Builtin.«set_iterator.__next__»;refine qAA (m:=slotArgs "__next__" 0 _) (qAE ?_);refine qAA (wpAny_fieldsOf it.ho it.hd ?_);dsimp only;refine qAA (wpAny_setEntries_of X.ho X.hd X.fits ?_);refine zC6 (by simp) ?_;rcases it.hm with⟨m1,⟨j,rfl⟩,m3⟩|⟨m1,T,oT,c,pl,rfl,m3,m4,m5,m6⟩|⟨m1,m2,slot,rfl,m4,m5⟩
 .dsimp only;refine qAA ?_;unfold setNext;refine qAA (X.state ?_);dsimp only;refine qAA (qAA (qBe (qAE ?_)));refine zFc m1 ?_;refine zC6 (by simp) ?_;refine qAA ?_;unfold setWalk;refine qAA (X.state ?_);dsimp only;refine qAA (qAA (qBe (qAE ?_)));refine zFc m1 ?_;refine qAA (qBe (qAE (qAE ?_)))
  have e1:(pickOrder (w.params.setOrder a ep) es)[i]?.map (·.2)=some v:=by
   rw[m3,qAZ]at hv;rw[<-qA2];exact hv
  obtain⟨q,q1,q2⟩:=qBH.mp e1;subst q2;have e2:(pickOrder ((model prog w).w.params.setOrder a ep) es)[(i:Int).toNat]?=some q:=q1
  erw [e2]
  show wpAny _ _ (setField (.ref I) 0 (rawInt _) >>= _) _ _ _;refine qAA (qBp it.ho it.hd (by simp) ?_);have g1:=qBA (Obj.mapFields (·.setIfInBounds 0 (rawInt (j:Int).toNat))) it.ho (qCU (qBC it.hd _));refine qAA (qBp g1 (qBC it.hd _) (by simp) ?_);refine qAE ⟨_,rfl,qAE (h _ _ _ ((qAx ..).trans (qAx ..)) ⟨qBA _ g1 (qCU (qBC (qBC it.hd _) _)),?_,?_,.inl ⟨m1,⟨j,rfl⟩,m3⟩⟩ (λT z=>nomatch z))⟩
  .rw [qCz,qCz];exact it.hc
  .rw [qBC (qBC it.hd _)];simp[rawInt]
 .dsimp only
  have hTI:T≠I:=λz=>by
   subst z;have:=qAe (m3.symm.trans it.ho);subst this;rw[it.hd]at m4;exact nomatch m4
  refine qAA (m:=seqItems? (.ref T)) (qCV m3 m4 ?_);dsimp only;rw[m6,fm_at m5]at hv;obtain⟨p,p1,p2⟩:=Option.bind_eq_some_iff.mp hv;obtain⟨q,q1,q2⟩:=qBH.mp p2;subst q2
  have e1:(pl.map λ(p:Nat)=>Value.int p 0).toArray[(i:Int).toNat]?=some (.int p 0):=by
   simp[p1]
  rw[e1];dsimp only;refine qAA ?_;unfold setNextDrawn;refine qAA (X.state ?_);dsimp only;refine zC6 (by simp) ?_;have e2:es[(p:Int).toNat]?=some q:=q1;rw[e2];refine qAE ?_;refine qAA (qBp it.ho it.hd (by simp) ?_);refine qAE ⟨_,rfl,qAE (h _ _ _ (qAx ..) ⟨qBA _ it.ho (qCU (qBC it.hd _)),(qCz ..).trans it.hc,?_,.inr (.inl ⟨m1,T,oT,c,pl,rfl,?_,m4,m5,m6⟩)⟩ (λT z=>z))⟩
  .rw [qBC it.hd];simp[rawInt]
  .exact ((qAx s.heap I _).2 T hTI).trans m3
 .dsimp only;refine qAA ?_;unfold setNext;refine qAA (X.state ?_);dsimp only;refine qAA (qAA (qBe (qAE ?_)));refine zC6 (by show¬(byt w=true);rw[m1];decide) ?_;refine zC6 (show¬(dr es t=true) by rw[m2];decide) ?_;refine qAA (zC6 (show¬((!t.led&& !es.isEmpty)=true) by rw[X.ld,m1];simp) (qAE ?_))
  have hl:i<es.size:=by
   rw[<-it.hm.len];exact(qAf.mp hv).1
  have hl2:i<t.place.size:=by
   rw[X.ok.n,qAD,<-X.size];exact hl
  have e1:es[i]?=some es[i]:=by simp[hl]
  have e2:t.place[i]?=some t.place[i]:=by simp[hl2]
  have e3:es[i].2=v:=by
   rw[m5,qAZ,qA2,e1]at hv;exact qAe hv
  have e4:below t.place (slot:Int).toNat=i:=m4;rw[e4,e1,e2];refine qAE ?_;show wpAny _ _ (setField (.ref I) 0 (rawInt _) >>= _) _ _ _;refine qAA (qBp it.ho it.hd (by simp) ?_);have g1:=qBA (Obj.mapFields (·.setIfInBounds 0 (rawInt ((t.place[i]+1:Nat):Int)))) it.ho (qCU (qBC it.hd _));refine qAA (qBp g1 (qBC it.hd _) (by simp) ?_);subst e3;refine qAE ⟨_,rfl,qAE (h _ _ _ ((qAx ..).trans (qAx ..)) ⟨qBA _ g1 (qCU (qBC (qBC it.hd _) _)),?_,?_,.inr (.inr ⟨m1,m2,t.place[i]+1,rfl,below_next X.ok.r e2,m5⟩)⟩ (λT z=>nomatch z))⟩
  .rw [qCz,qCz];exact it.hc
  .rw [qBC (qBC it.hd _)];simp[rawInt]
theorem w_stop{s:Shared}{Q:Option Value->Shared->Prop}(hh:A.handled=none)(h:∀h',(∀b o,s.heap.get? b=some o->h'.get? b=some o)->Q none {s with heap:=h'}) :
  wpAny (model prog w) A.in1 (newExc (.type "StopIteration") [] >>= λe=>(raiseNew e:Sem Fin)) (λfin s'=>∃r,fin= .done (.ret r)/\wpAny (model prog w) A (pure (some r)) Q E s')
   (λe s'=>wpAny (model prog w) A (isInstance e (.type "StopIteration") >>= λb=>if b=true then pure none else throw e) Q E s') s:=by
 refine qAA ?_;simp only[newExc,newTuple];refine qAA (qBk ?_ (by size_fits));refine qAA (m:=firstArgMember _ _) (qB9 (a:=Value.none) (by first|rfl|(simp only[firstArgMember];rfl)) ?_);refine qBk ?_ (by size_fits);simp only[raiseNew];refine qAA (wpAny_handled ?_);rw[show A.in1.handled=none from hh];refine qAA (qAE (wpAny_throw ?_));refine qAA (qCC (T:="StopIteration") (b:=true) ⟨_,qAX _ rfl,rfl⟩ qDR ?_);exact qAE (h _ λb o q=>qAG _ (qAG _ q))
theorem w_done(hh:A.handled=none)(X:SetX knd s.heap a xs o es ep t)(it:ItS w s.heap I a es ep t ord i oI first)(hv:ord[i]?=none){Q:Option Value->Shared->Prop}
  (h:∀h',(∀b o,b≠I->s.heap.get? b=some o->h'.get? b=some o)->Q none {s with heap:=h'}):wpAny (model prog w) A (pyNext (.ref I)) Q E s:=by
 unfold pyNext;refine qAA (qBa (qBv (name:=Str.ofString "__next__") it.typeIs zE2 (qBJ zE2 it.typeIs en_next ?_ (ar_next _))));unfold Builtin.«set_iterator.__next__»;refine qAA (m:=slotArgs "__next__" 0 _) (qAE ?_);refine qAA (wpAny_fieldsOf it.ho it.hd ?_);dsimp only;refine qAA (wpAny_setEntries_of X.ho X.hd X.fits ?_);refine zC6 (by simp) ?_;have up:∀h1,Heap.SameBut I s.heap h1->∀h',(∀b o,h1.get? b=some o->h'.get? b=some o)->Q none {s with heap:=h'}:=λh1 sb h' q=>h h' λb o hb z=>q b o ((sb.2 b hb).trans z);rcases it.hm with⟨m1,⟨j,rfl⟩,m3⟩|⟨m1,T,oT,c,pl,rfl,m3,m4,m5,m6⟩|⟨m1,m2,slot,rfl,m4,m5⟩
 .dsimp only;refine qAA ?_;unfold setNext;refine qAA (X.state ?_);dsimp only;refine qAA (qAA (qBe (qAE ?_)));refine zFc m1 ?_;refine zC6 (by simp) ?_;refine qAA ?_;unfold setWalk;refine qAA (X.state ?_);dsimp only;refine qAA (qAA (qBe (qAE ?_)));refine zFc m1 ?_;refine qAA (qBe (qAE (qAE ?_)))
  have e1:(pickOrder (w.params.setOrder a ep) es)[i]?.map (·.2)=none:=by
   rw[m3,qAZ]at hv;rw[<-qA2];exact hv
  have e2:(pickOrder ((model prog w).w.params.setOrder a ep) es)[(i:Int).toNat]?=none:=qDz.mp e1
  erw [e2]
  show wpAny _ _ (setField (.ref I) 2 Value.none >>= _) _ _ _;refine qAA (qBp it.ho it.hd (by simp) ?_);refine w_stop hh ?_;exact up _ (qAx ..)
 .dsimp only;refine qAA (m:=seqItems? (.ref T)) (qCV m3 m4 ?_);dsimp only
  have e1:(pl.map λ(p:Nat)=>Value.int p 0).toArray[(i:Int).toNat]?=none:=by
   have h1:ord.length<=i:=qDy.mp hv;rw[it.hm.len]at h1;have h2:=m5.length_eq;rw[qBW]at h2;simp only[qBU,List.getElem?_toArray,qAZ,qDz,qDy];lia
  rw[e1];dsimp only;refine qAA (qBp it.ho it.hd (by simp) ?_);have g1:=qBA (Obj.mapFields (·.setIfInBounds 0 (rawInt 0))) it.ho (qCU (qBC it.hd _));refine qAA (qBp g1 (qBC it.hd _) (by simp) ?_);refine w_stop hh ?_;exact up _ ((qAx ..).trans (qAx ..))
 .dsimp only;refine qAA ?_;unfold setNext;refine qAA (X.state ?_);dsimp only;refine qAA (qAA (qBe (qAE ?_)));refine zC6 (by show¬(byt w=true);rw[m1];decide) ?_;refine zC6 (show¬(dr es t=true) by rw[m2];decide) ?_;refine qAA (zC6 (show¬((!t.led&& !es.isEmpty)=true) by rw[X.ld,m1];simp) (qAE ?_))
  have e1:es[i]?=none:=by
   rw[m5,qAZ,qA2]at hv;exact qDz.mp hv
  have e4:below t.place (slot:Int).toNat=i:=m4;rw[e4,e1];refine qAE ?_;show wpAny _ _ (setField (.ref I) 2 Value.none >>= _) _ _ _;refine qAA (qBp it.ho it.hd (by simp) ?_);refine w_stop hh ?_;exact up _ (qAx ..)
theorem w_self(it:ItS w s.heap I a es ep t ord i oI first){Q:Value->Shared->Prop}(h:Q (.ref I) s):wpAny (model prog w) A (pyIter (.ref I)) Q E s:=by
 refine qDS it.typeIs sl_self (qBJ sl_self it.typeIs en_self ?_ (ar_self _));show wpAny _ _ (ret (.ref I)) _ _ s;exact qAE ⟨_,rfl,"set_iterator",_,it.typeIs,zE2.lookup,h⟩
theorem SetX.typeIs(X:SetX knd s.heap a xs o es ep t):s.TypeIs (.ref a) "set":= ⟨_,X.ho,X.ex.1⟩
theorem w_iter(X:SetX knd s.heap a xs o es ep t)(hn:xs.length<=306){Q:Value->Shared->Prop}
  (h:∀I h' d ord oI first,(∀b o,s.heap.get? b=some o->h'.get? b=some o)->s.heap.objs.size<=I->ItS w h' I a es ep t ord 0 oI first->(∀T,first= .ref T->s.heap.objs.size<=T)->Q (.ref I) {s with heap:=h',drawn:=d}):wpAny (model prog w) A (pyIter (.ref a)) Q E s:=by
 refine qDS X.typeIs F.slot_set_iter (qBJ F.slot_set_iter X.typeIs en_iter ?_ (F.args_set_iter_1 _));unfold Builtin.«frozenset.__iter__» Builtin.Frozenset.slot0;refine qAA (qAA (m:=slotArgs "__iter__" 0 _) (qAE (qAE ?_)));dsimp only;unfold Builtin.Frozenset.sizeOf;refine qAA (qAA (wpAny_setEntries_of X.ho X.hd X.fits (qAE ?_)));unfold setDrawn;refine qAA (qAA (X.state (qAA (qAA (qBe (qAE (qAE ?_)))))));have hsz:es.size<=306:=by rw[X.size];exact hn
 by_cases c:(!byt w&&dr es t)=true
 .refine zFc c ?_;have c1:byt w=false:=by cases z:byt w<;>simp[z]at c ⊢
  refine qAA (w_draw es.size (List.range es.size) s _ (by simp) λpl d hp=>?_);have hpl:pl.length=es.size:=by rw[hp.length_eq];simp
  refine qAA (qDT ?_ (by rw[qAD,hpl];exact qAL hsz (by decide +kernel)));refine qAA (wpAny_setEpoch_of (qAG _ X.ho) X.hd X.fits ?_);refine qAA (qBk (qAE ⟨_,rfl,"set_iterator",_,⟨_,qAX _ rfl,rfl⟩,zE2.lookup,?_⟩));refine h _ _ d (pl.filterMap λp=>(es[p]?).map (·.2)) _ (.ref s.heap.objs.size) (λb o q=>qAG _ (qAG _ q)) ?_ ⟨qAX _ rfl,rfl,rfl,.inr (.inl ⟨c1,_,_,_,pl,rfl,qAG _ (qAX _ rfl),rfl,hp,rfl⟩)⟩ (λT z=>by cases z;exact qAF _);show s.heap.objs.size<=(s.heap.push _).objs.size;rw[qBE];exact qBq _
 .refine zC6 c ?_;refine qAA (qAE ?_);refine qAA (wpAny_setEpoch_of X.ho X.hd X.fits ?_);refine qAA (qBk (qAE ⟨_,rfl,"set_iterator",_,⟨_,qAX _ rfl,rfl⟩,zE2.lookup,?_⟩))
  cases z:byt w with
  |true=>
   exact h _ _ s.drawn ((pickOrder (w.params.setOrder a ep) es).toList.map (·.2)) _ (.int 0 0) (λb o q=>qAG _ q) (qAF _) ⟨qAX _ rfl,rfl,rfl,.inl ⟨z,⟨0,rfl⟩,rfl⟩⟩ (λT z=>nomatch z)
  |false=>
   have c2:dr es t=false:=by rw[z]at c;simpa using c
   exact h _ _ s.drawn (es.toList.map (·.2)) _ (.int 0 0) (λb o q=>qAG _ q) (qAF _) ⟨qAX _ rfl,rfl,rfl,.inr (.inr ⟨z,c2,0,rfl,below_zero X.ok.r,rfl⟩)⟩ (λT z=>nomatch z)
end
theorem len_set:typeLookup (.type "set") "__len__"=pure (some (.builtin "set.__len__")):=by rw[qBO,qBP];kernel_rfl
section
variable{prog:Program}{w:World}{K:Type}[DecidableEq K]{knd:KeyKind prog w K}{A:Around}{E:Value->Shared->Prop}{s:Shared}
variable{a I:Addr}{xs:List (List K×Addr)}{o oI:Obj}{es:Array (Int×Value)}{ep i:Nat}{t:SetTable}{ord:List Value}{first:Value}
def WSt(knd:KeyKind prog w K)(a I:Addr)(xs:List (List K×Addr))(o:Obj)(es:Array (Int×Value))(ep:Nat)(t:SetTable)(ord:List Value)(Ts:List Addr)(i:Nat)(s:Shared):Prop :=
 ∃oI first,SetX knd s.heap a xs o es ep t/\ItS w s.heap I a es ep t ord i oI first/\∀T,first= .ref T->T∈Ts
theorem w_walks(hh:A.handled=none)(a I:Addr)(hne:I≠a)(xs:List (List K×Addr))(hx:∀p∈xs,p.2≠I)(o:Obj)(es:Array (Int×Value))(ep:Nat)(t:SetTable)(ord:List Value)(Ts:List Addr)(hT:I∉Ts) :
  WalksS prog w A I (I::a::(xs.map (·.2)++Ts)) [I] (λa b=>b=a) ord.length (λi v=>ord[i]?=some v) (WSt knd a I xs o es ep t ord Ts) where
 sub:=λb hb=>by rw[qAP.mp hb];exact qAY
 grefl:=λ_=>rfl
 gtrans:=λ_ _ _ x y=>y.trans x
 frame:=λi s h' tk ⟨oI,first,X,it,hf⟩ _ hk=>by
  refine⟨oI,first,X.kept λb o hb q=>hk b ?_ o q,⟨hk I qAY _ it.ho,it.hc,it.hd,?_⟩,hf⟩
  .rcases hb with rfl|⟨p,hp,rfl⟩
   .exact qAU _ qAY
   .exact qAU _ (qAU _ (qAv _ (qAW.mpr ⟨p,hp,rfl⟩)))
  .rcases it.hm with m|⟨m1,T,oT,c,pl,m2,m3,m4⟩|m
   .exact .inl m
   .exact .inr (.inl ⟨m1,T,oT,c,pl,m2,hk T (qAU _ (qAU _ (qA4 _ (hf T m2)))) _ m3,m4⟩)
   .exact .inr (.inr m)
 item:=λi s Q E hi ⟨oI,first,X,it,hf⟩ hQ=>by
  refine w_item X it hne (v:=ord[i]) (by simp[hi]) λh' o' f' sb it' hf'=>hQ _ _ (by simp[hi]) ⟨o',f',X.kept λb o hb q=>?_,it',λT z=>hf T (hf' T z)⟩ ⟨λb o hb q=>(sb.2 b λz=>hb (z▸qAY)).trans q,rfl,rfl,rfl,qAF _⟩;rcases hb with rfl|⟨p,hp,rfl⟩
  .exact (sb.2 _ (qAj hne)).trans q
  .exact (sb.2 _ (hx p hp)).trans q
 done:=λs Q E ⟨oI,first,X,it,hf⟩ hQ=>w_done hh X it (by simp) λh' q=>hQ _ ⟨λb o hb=>q b o λz=>hb (z▸qAY),rfl,rfl,rfl,qAF _⟩
 self:=λi s Q E ⟨oI,first,X,it,hf⟩ hQ=>w_self it hQ
theorem items_ord{acc:Array Value}(h:ItemsOf (λi v=>ord[i]?=some v) acc ord.length):acc.toList=ord:=by
 refine List.ext_getElem? λi=>?_;rw[qA2]
 cases e:acc[i]? with
 |some v=>exact(h.2 i v e).symm
 |none=>
  have:=Array.getElem?_eq_none_iff.mp e;rw[h.1]at this;exact(qDM this).symm
theorem w_collect(hh:A.handled=none)(X:SetX knd s.heap a xs o es ep t)(hn:xs.length<=306){Q:List Value->Shared->Prop}
  (h:∀s' vs,vs.Perm (xs.map λp=>.ref p.2)->(∀b o,s.heap.get? b=some o->s'.heap.get? b=some o)->s'.gens=s.gens->s'.os=s.os->s.toks<=s'.toks->Q vs s'):wpAny (model prog w) A (collect (.ref a)) Q E s:=by
 unfold collect;refine qAA (wpAny_runValue (qBI F.entry_proto_collect ?_));rw[qBd F.plain_proto_collect _];change wpAny _ A.in1 (newList [] >>= λl=>again (.builtin "list.__iadd__" ⟨[l,Value.ref a],[]⟩)) _ _ s;refine qAA (qBk ?_);refine qAE ⟨qBo F.plain_list_iadd _,qBI F.entry_list_iadd ?_⟩;rw[qBd F.plain_list_iadd _];generalize hL:s.heap.objs.size=L;have hS1:(s.heap.push {cls:=.type "list",data:=.seq ([]:List Value).toArray}).get? L=some {cls:=.type "list",data:=.seq ([]:List Value).toArray}:=by rw[<-hL];exact qAX _ rfl
 generalize hH1:s.heap.push {cls:=.type "list",data:=.seq ([]:List Value).toArray}=H1 at hS1 ⊢;have up1:∀b o,s.heap.get? b=some o->H1.get? b=some o:=λb o q=>by rw[<-hH1];exact qAG _ q
 have sz1:H1.objs.size=L+1:=by rw[<-hH1,qBE,hL]
 have below:∀b o,s.heap.get? b=some o->b<L:=λb o q=>by rw[<-hL];exact qAH q
 have X1:SetX knd H1 a xs o es ep t:=X.kept λb o _ q=>up1 b o q;have haL:a≠L:=qAO (below a _ X.ho);change wpAny _ A.in1 (Builtin.List.listExtendWith (Value.ref L) (.ref a) (.ref L)) _ _ _;unfold Builtin.List.listExtendWith;refine qAA (qB8 (T:="set") ⟨_,X1.ho,X1.ex.1⟩ ?_);have n1:Builtin.List.listSameRef (.ref L) (.ref a)=false:=by simp[Builtin.List.listSameRef,qAj haL]
 refine zC6 (by rw[n1];decide) ?_;refine qAA (w_iter (s:={s with heap:=H1}) X1 hn λI h2 d ord oI first up2 hI it hf=>?_);have hI:L+1<=I:=by rw[<-sz1];exact hI
 have X2:SetX knd h2 a xs o es ep t:=X1.kept λb o _ q=>up2 b o q;refine qAA (qA6 ?_);unfold Builtin.List.listLengthHint;have T2:Shared.TypeIs {s with heap:=h2,drawn:=d} (.ref a) "set":= ⟨_,X2.ho,X2.ex.1⟩;refine qAA (qDE T2 len_set ?_);generalize hid:("set.__len__": String)=id0;dsimp only;rw[show splitId id0=some ("set","__len__")from by subst hid;decide +kernel];subst hid;dsimp only;refine qAA (qCC (b:=true) T2 sub_set_self ?_);refine zC6 (by decide) ?_;refine zFc (by decide +kernel) ?_;refine qAA (qB8 T2 ?_);refine qAE ?_;refine zFc (by decide +kernel) ?_;refine qAA (qBb ?_);have hS2:=up2 L _ hS1;refine qAA ?_;change wpAny _ A.in1 (updateSeq L (·.push Value.none) >>= λ_=>updateSeq L (·.pop)) _ _ _;refine qAA (qCW hS2 rfl ?_);have hS3:=qBA (Obj.mapSeq (·.push Value.none)) hS2 rfl;refine qCW hS3 rfl ?_;have hS4:=qBA (Obj.mapSeq (·.pop)) hS3 rfl;dsimp only;have sb:Heap.SameBut L h2 ((h2.update L (Obj.mapSeq (·.push Value.none))).update L (Obj.mapSeq (·.pop))):=(qAx ..).trans (qAx ..);generalize hH4:(h2.update L (Obj.mapSeq (·.push Value.none))).update L (Obj.mapSeq (·.pop))=H4 at hS4 sb ⊢
 have hIa:I≠a:=λz=>by
  have:=below a _ X.ho;rw[<-z]at this;exact absurd this (qCx.mpr (qC0 hI))
 have hxI:∀p∈xs,p.2≠I:=λp hp z=>by
  obtain⟨ob,_,_,q,_⟩:=X.ky p hp;have:=below _ _ q;rw[z]at this;exact absurd this (qCx.mpr (qC0 hI))
 obtain⟨Ts,hTs,hT1⟩:∃Ts:List Addr,(∀T,first= .ref T->T∈Ts)/\∀T∈Ts,first= .ref T:=by
  cases first with
  |ref T=>exact⟨[T],λT' z=>by cases z;exact qAP.mpr rfl,λT' z=>by rw[qAP.mp z]⟩
  |_=>exact⟨[],(λT z=>nomatch z),(λT z=>nomatch z)⟩
 have hTge:∀T∈Ts,L+1<=T:=λT hT=>by rw[<-sz1];exact hf T (hT1 T hT)
 have hTI:I∉Ts:=λz=>by
  rcases it.hm with⟨_,⟨j,e⟩,_⟩|⟨_,T,oT,c,pl,e,m3,m4,_⟩|⟨_,_,j,e,_⟩
  .have:=(hT1 _ z).symm.trans e;exact nomatch this
  .have:=(hT1 _ z).symm.trans e
   cases this
   have:=qAe (m3.symm.trans it.ho);subst this;rw[it.hd]at m4;exact nomatch m4
  .have:=(hT1 _ z).symm.trans e;exact nomatch this
 have W:=w_walks (prog:=prog) (w:=w) (knd:=knd) (A:=A.in1) hh a I hIa xs hxI o es ep t ord Ts hTI
 have hLf:L∉I::a::(xs.map (·.2)++Ts):=λz=>by
  rcases qAM.mp z with z|z
  .rw [<-z]at hI;exact absurd hI (Nat.not_succ_le_self L)
  rcases qAM.mp z with z|z
  .exact haL z.symm
  rcases qAT.mp z with z|z
  .obtain ⟨p,hp,e⟩:=qAW.mp z;obtain⟨ob,_,_,q,_⟩:=X.ky p hp;have:=below _ _ q;rw[e]at this;exact qA8 _ this
  .exact absurd (hTge _ z) (Nat.not_succ_le_self L)
 have hol:ord.length<=sizeLine:=by
  rw[it.hm.len,X.size];exact qAL hn (by decide +kernel)
 have st2:WSt knd a I xs o es ep t ord Ts 0 {s with heap:=h2,drawn:=d}:=⟨oI,first,X2,it,hTs⟩;have st4:=W.frame 0 _ H4 s.toks st2 (qAF _) λb hb ob q=>(sb.2 b λz=>hLf (z▸hb)).trans q;refine qAE ⟨qBo qC1 _,codeAny_extend_loopS W hol L hLf _ ord.length 0 _ _ _ rfl (qAd _) st4 hS4 (ItemsOf.nil _) λs' acc c' mv hS' hacc=>?_⟩;change wpAny _ A (load L >>= _) _ _ s';refine qAA (wpAny_load hS' ?_);refine qAE (h s' acc.toList ?_ (λb ob q=>?_) mv.gens mv.os mv.toks)
 .rw [items_ord hacc];refine it.hm.perm.trans (List.Perm.of_eq ?_);rw[X.el,qAp];rfl
 .have hb:=below b ob q;refine mv.heap b ob ?_ ((sb.2 b (qAO hb)).trans (up2 b ob (up1 b ob q)));intro z;rcases qAM.mp z with z|z
  .exact qAO hb z
  .rw [qAP.mp z]at hb;exact absurd hb (qCx.mpr (qC0 hI))
end
end ST
namespace ST
open PySem PyProof.Rows PySem.W
variable{vs:List Value}
abbrev sg(x:Str):List Nat:=x.cps.toList
theorem sg_inj{x y:Str}(h:sg x=sg y):x=y:=by
 cases x;cases y
 exact qAm Str.mk (Array.toList_inj.mp h)
def tlt:List Str->List Str->Bool
 |[],[]=>false
 |[],_::_=>true
 |_::_,[]=>false
 |x::r,y::q=>if x=y then tlt r q else decide (sg x<sg y)
theorem sg_tri(x y:Str):sg x<sg y\/x=y\/sg y<sg x:=by
 by_cases h1:sg x<sg y
 .exact .inl h1
 by_cases h2:sg y<sg x
 .exact .inr (.inr h2)
 .exact .inr (.inl (sg_inj (List.le_antisymm (List.not_lt.mp h2) (List.not_lt.mp h1))))
theorem tlt_irr:∀a,tlt a a=false
 |[]=>rfl
 |x::r=>by unfold tlt;rw[qAC rfl];exact tlt_irr r
theorem zHa:∀a b c,tlt a b=true->tlt b c=true->tlt a c=true
 |[],[],c,h1,h2=>h2
 |[],_::_,[],h1,h2=>by simp[tlt]at h2
 |[],_::_,_::_,h1,h2=>rfl
 |_::_,[],c,h1,h2=>by simp[tlt]at h1
 |x::r,y::q,[],h1,h2=>by simp[tlt]at h2
 |x::r,y::q,z::p,h1,h2=>by
  unfold tlt at h1 h2 ⊢
  by_cases e1:x=y
  .subst e1;rw[qAC rfl]at h1
   by_cases e2:x=z
   .subst e2;rw[qAC rfl]at h2 ⊢;exact zHa r q p h1 h2
   .rw [qAB e2]at h2 ⊢;exact h2
  .rw [qAB e1]at h1
   by_cases e2:y=z
   .subst e2;rw[qAB e1];exact h1
   .rw [qAB e2]at h2;have q1:=qAo h1;have q2:=qAo h2;have q3:=List.lt_trans q1 q2;rw[qAB λe=>by subst e;exact List.lt_irrefl _ q3];exact qAS q3
theorem zI6:∀a b,tlt a b=false->tlt b a=false->a=b
 |[],[],_,_=>rfl
 |[],_::_,h,_=>by simp[tlt]at h
 |_::_,[],_,h=>by simp[tlt]at h
 |x::r,y::q,h1,h2=>by
  unfold tlt at h1 h2
  by_cases e:x=y
  .subst e;rw[qAC rfl]at h1 h2;rw[zI6 r q h1 h2]
  .rw [qAB e]at h1;rw[qAB (qAj e)]at h2;rcases sg_tri x y with z|z|z
   .exact absurd z (qDU h1)
   .exact absurd z e
   .exact absurd z (qDU h2)
theorem tlt_neg(a b c:List Str)(h:tlt a c=true):tlt a b=true\/tlt b c=true:=by
 cases h1:tlt a b with
 |true=>exact .inl rfl
 |false=>
  right
  cases h2:tlt b a with
  |true=>exact zHa b a c h2 h
  |false=>rw[<-zI6 a b h1 h2];exact h
@[reducible] def tupK(f:Addr->Option (List Str)):PyProof.Rows.KeyKind where
 α:=List Str
 blt:=tlt
 irrefl:=tlt_irr
 trans:=zHa
 negTrans:=tlt_neg
 total:=zI6
 keyOf v:=match v with| .ref b=>f b|_=>none
 dflt:=[]
section
variable{prog:Program}{w:World}{A:Around}{E:Value->Shared->Prop}{s:Shared}
theorem zGf{ks:List Str}(h:ItemsAre (PySem.strKind prog w) ks vs):StrsAre vs ks:=by
 induction h with
 |nil=>exact .nil
 |@cons k v ks vs h1 _ ih=>
  obtain⟨t,rfl⟩:=Value.isStrOf_shape h1;exact .cons k t ih
theorem kat_strs{b fin:Bool}{Q:Bool->Shared->Prop}:∀{xs ys:List Value}{ax ay:List Str},StrsAre xs ax->StrsAre ys ay->∀i,fin=decide (xs.length<ys.length)->Q (tlt ax ay) s->KatLex prog w A b fin Q (xs.zip ys) i s
 |_,_,_,_,.nil,.nil,i,e,h=>by subst e;exact kat_nil h
 |_,_,_,_,.nil,.cons y t hy,i,e,h=>by subst e;exact kat_nil h
 |_,_,_,_,.cons x t hx,.nil,i,e,h=>by subst e;exact kat_nil h
 |_,_,_,_,.cons x t hx,.cons y u hy,i,e,h=>by
  rw[List.zip_cons_cons];refine kat_cons (wpAny_eqBool_str ?_);unfold tlt at h
  by_cases c:x=y
  .rw [qAC c]at h;rw[qAS c];refine kat_yes (kat_strs hx hy (i+1) ?_ h);rw[e];simp
  .rw [qAB c]at h;rw[qAa c];refine kat_no ?_
   cases z:(b&&i==0)with
   |true=>exact oneLt_str h
   |false=>exact kat_one _ _ (lt_str h)
theorem strs_len{ss:List Str}(h:StrsAre vs ss):vs.length=ss.length:=by
 induction h with
 |nil=>rfl
 |cons _ _ _ ih=>simp[ih]
theorem tup_cmp(f:Addr->Option (List Str))(hf:∀b k,f b=some k->IsTupleKey (PySem.strKind prog w) s.heap k b)(b:Bool):Tim.CmpOk prog w A s (tuples' b) (tupK f):=by
 intro E x y a c Q hx hy h
 cases x<;>simp only[reduceCtorEq]at hx
 cases y<;>simp only[reduceCtorEq]at hy
 obtain⟨ox,ix,nx,x1,_,x2,x3⟩:=hf _ _ hx;obtain⟨oy,iy,ny,y1,_,y2,y3⟩:=hf _ _ hy;exact kat_lt x1 x2 y1 y2 (kat_strs (zGf x3) (zGf y3) 0 (by simp) h)
end
theorem zG1{xs:Array Keyed}(hp:xs.Perm (pairsOf vs)):(xs.map (·.2)).toList.Perm vs:=by
 have hl:xs.toList.Perm (vs.zip vs):=by rw[<-pairsOf_toList];exact qDF.mp hp
 have:=hl.map (·.2);rw[List.map_snd_zip (qAF _)]at this
 rwa [Array.toList_map]
theorem snd_srt{κ:PyProof.Rows.KeyKind}{xs:Array Keyed}(hp:xs.Perm (pairsOf vs))(hs:Tim.Srt κ xs.toList):(xs.map (·.2)).toList.Pairwise λx y=>κ.kle ((κ.keyOf x).getD κ.dflt) ((κ.keyOf y).getD κ.dflt):=by
 have hl:xs.toList.Perm (vs.zip vs):=by rw[<-pairsOf_toList];exact qDF.mp hp
 have hm:∀p∈xs.toList,p.1=p.2:=λp h=>(mem_zip_self (hl.mem_iff.mp h)).1
 have e:(xs.map (·.2)).toList=xs.toList.map (·.1):=by
  rw[Array.toList_map];exact qCX λp h=>(hm p h).symm
 rw[e,qBn];exact hs
theorem pw_small{α:Type}{R:α->α->Prop}{l:List α}(h:l.length<2):l.Pairwise R:=by
 match l,h with
 |[],_=>exact List.Pairwise.nil
 |[x],_=>exact List.pairwise_singleton _ _
section
variable{prog:Program}{w:World}{A:Around}{E:Value->Shared->Prop}{s:Shared}
structure Sortable(prog:Program)(w:World)(A:Around)(κ:PyProof.Rows.KeyKind)(kd:SortKind)(vs:List Value)(s:Shared):Prop where
 cmp:Tim.CmpOk prog w A s kd κ
 kind:2<=vs.length->∀(E:Value->Shared->Prop)(Q:SortKind->Shared->Prop),Q kd s->wpAny (model prog w) A (keyKind' vs.toArray) Q E s
 has:∀v∈vs,∃k,κ.keyOf v=some k
theorem srt_heap{h:Heap}{a:Addr}{n:Nat}{out:Array Value}(ho:h.get? a=some (seqObj "list" vs.toArray n)):(∃c,(sortedHeap h a vs out).get? a=some (seqObj "list" out c))/\∀b o,b≠a->h.get? b=some o->(sortedHeap h a vs out).get? b=some o:=by
 have ha:a<h.objs.size:=qAH ho;have h1:(h.update a (Obj.mapSeq λ_=>#[])).get? a=some (seqObj "list" #[] _):=qCY ho λ_=>#[];have h2:=qAG (seqObj "list" #[] 0) (qAG (seqObj "tuple" vs.toArray 0) h1);refine⟨⟨_,qCY h2 λ_=>out⟩,λb o hb q=>?_⟩;unfold sortedHeap;rw[qBG _ _ (qAj hb)];refine qAG _ (qAG _ ?_);rw[qBG _ _ (qAj hb)];exact q
end
section
variable{prog:Program}{w:World}{A:Around}{E:Value->Shared->Prop}{s:Shared}
abbrev Up(h h':Heap):Prop:=∀b o,h.get? b=some o->h'.get? b=some o
end
section
variable{prog:Program}{w:World}{A:Around}{E:Value->Shared->Prop}{s:Shared}
theorem tups_sortable{ks:List (List Str×Addr)}(hv:vs.Perm (ks.map λp=>.ref p.2))(ky:∀p∈ks,IsTupleKey (PySem.strKind prog w) s.heap p.1 p.2)(hne:∀p∈ks,p.1≠[]) :
  Sortable prog w A (tupK λb=>(ks.find? λp=>p.2==b).map (·.1)) (tuples' true) vs s:=by
 have look:∀p∈ks,∃q∈ks,(ks.find? λp'=>p'.2==p.2)=some q/\q.2=p.2:=λp hp=>by
  cases e:ks.find? λp'=>p'.2==p.2 with
  |none=>exact absurd (List.find?_eq_none.mp e p hp) (by simp)
  |some q=>exact⟨q,qCu e,rfl,by simpa using qCt e⟩
 refine⟨tup_cmp _ (λb k e=>?_) true,λh2 E Q h=>?_,λv hvm=>?_⟩
 .obtain ⟨p,p1,p2⟩:=qBH.mp e;have p3:p.2=b:=by simpa using qCt p1
  rw[<-p2,<-p3];exact ky p (qCu p1)
 .have go:∀(us:List Value),(∀u∈us,∃p∈ks,u= .ref p.2)->∃fs:List Value,KatTups s.heap us fs/\fs.length=us.length/\∀f∈fs,∃x t,f= .str x t:=by
   intro us
   induction us with
   |nil=>intro _;exact⟨[],.nil,rfl,(λf hf=>nomatch hf)⟩
   |cons u us ih=>
    intro hu;obtain⟨fs,t1,t2,t3⟩:=ih λu hu'=>hu u (qAU _ hu');obtain⟨p,hp,rfl⟩:=hu u qAY;obtain⟨ob,its,n,q1,q2,q3,q4⟩:=ky p hp;have q5:=zGf q4;have q6:=hne p hp;generalize hk:p.1=k at q5 q6;generalize hl:its.toList=l at q5
    cases q5 with
    |nil=>exact absurd rfl q6
    |cons x t r=>
     refine⟨.str x t::fs,.cons q1 q2 q3 ?_ t1,by simp[t2],λf hf=>?_⟩
     .rw [<-qA2,hl];rfl
     .rcases qAM.mp hf with z|z
      .exact ⟨x,t,z⟩
      .exact t3 f z
  obtain⟨fs,t1,t2,t3⟩:=go vs λu hu=>by
   obtain⟨p,hp,e⟩:=qAW.mp (hv.mem_iff.mp hu);exact⟨p,hp,e.symm⟩
  refine kat_kind (T:=.type "str") t1 (by lia) (λf hf=>?_) (by decide) h;obtain⟨x,t,rfl⟩:=t3 f hf;exact .now
 .obtain ⟨p,hp,rfl⟩:=qAW.mp (hv.mem_iff.mp hvm);obtain⟨q,hq,e,_⟩:=look p hp;exact⟨q.1,by show Option.map _ _=_;rw[e];rfl⟩
end
end ST
namespace L2
open PySem PySem.Spec PyProof.Rows
def TSt(P:Program)(w:World)(a:Addr)(xs:List (List Str×Addr)):HO :=
 .ext λh=>∃o es ep t,h.get? a=some o/\o.ExactSet/\o.data= .set es ep t/\es.toList=xs.map (ST.en (PySem.strKind P w))/\ST.TOk t (xs.map λp=>tupleKeyHash (PySem.strKind P w) p.1)/\xs.length*5<t.mask*3/\(xs.map (·.1)).Nodup/\t.led= !ST.byt w
def RowT(K:PySem.W.Frag)(H:Hp)(p:List Str×Addr):Prop:=SqT K H p.2 (p.1.map V.str)
section
variable{X:Cx}{pins:List (Addr×Obj)}{σ:St}{H:Hp}{s:Shared}
theorem zIk{prog:Program}{w:World}:∀{ks:List Str}{its:List Value},Vals (ks.map V.str) its->ItemsAre (PySem.strKind prog w) ks its
 |[],_,.nil=>.nil
 |k::ks,_,.cons ⟨t,e⟩ r=>by
  subst e;exact .cons (by show Value.isStrOf k (.str k t)=true;simp[Value.isStrOf]) (zIk r)
theorem Inv.rowT(I:Inv X pins σ H s){p:List Str×Addr}(h:RowT X.K H p):IsTupleKey (PySem.strKind X.prog X.w) s.heap p.1 p.2:=by
 obtain⟨its,r,⟨o,ho,hc,n,hd⟩,_⟩:=I.tuple h;exact⟨o,its.toArray,n,ho,hc,hd,by simpa using zIk r⟩
theorem vals_refs:∀{ks:List (List Str×Addr)} {its:List Value},Vals (ks.map λp=>V.ref p.2) its->its=ks.map λp=>Value.ref p.2
 |[],_,.nil=>rfl
 |k::ks,_,.cons e r=>by
  have e:_=Value.ref k.2:=e;subst e;rw[vals_refs r];rfl
theorem refs_vals:∀(ks:List (List Str×Addr)),Vals (ks.map λp=>V.ref p.2) (ks.map λp=>Value.ref p.2)
 |[]=>.nil
 |k::ks=>.cons rfl (refs_vals ks)
theorem got_ok{h:Heap}{H:Hp}{a:Addr}{xs:List (List Str×Addr)}{o:Obj}{es:Array (Int×Value)}{ep:Nat}{t:SetTable}(Z:ST.SetX (PySem.strKind X.prog X.w) h a xs o es ep t):zA0 X.prog X.w H h a (TSt X.prog X.w a xs) :=
 ⟨⟨o,es,ep,t,Z.ho,Z.ex,Z.hd,Z.el,Z.ok,Z.room,Z.nd,Z.ld⟩,⟨o,Z.ho⟩,λh1 h2 ⟨o,es,ep,t,q,r⟩ k=>⟨o,es,ep,t,k o q,r⟩⟩
theorem call_setT{k:Nat}(hr:Room k X.A):zCa X (.type "set") (λxs H Q=>∃(l:Addr) (ks:List (List Str×Addr)),xs=[.ref l]/\SqL X.K H l (ks.map λp=>V.ref p.2)/\(∀p∈ks,RowT X.K H p)/\ks.length<=306 /\ ∀a ys,H a=none->(∀p∈ys,p∈ks)->(∀p∈ks,p.1∈ys.map (·.1))->(ys.map (·.1)).Nodup->ys.length<=ks.length->Q (.ref a) (upd H a (TSt X.prog X.w a ys))):=by
 intro pins s σ H xs us Q I r h;obtain⟨l,ks,rfl,hl,hk,hc,q⟩:=h;obtain⟨u,rfl,rx⟩:=zH9 r
 cases rx
 obtain⟨its,r',pl,hz⟩:=I.list hl;have ei:=vals_refs r';refine ST.w_mkset (knd:=PySem.strKind X.prog X.w) (ks:=ks) hr.hd (by have:=hr.un;lia) pl.isList (by rw[ei]) (λp hp=>I.rowT (hk p hp)) hc λh' tk _ g kp=>?_;obtain⟨ys,o,es,ep,t,Z,g1,g2,g3⟩:=g;exact⟨.ref s.heap.objs.size,_,I.laid (t':=tk) kp (qAF _) (got_ok Z),rfl,q _ ys (I.hok.fresh (qAF _)) g1 g2 Z.nd g3⟩
theorem perm_back{α β:Type}(f:α->β):∀{vs:List β}{ks:List α},vs.Perm (ks.map f)->∃zs:List α,zs.Perm ks/\vs=zs.map f:=by
 intro vs ks h;generalize hm:ks.map f=ms at h
 induction h generalizing ks with
 |nil=>exact⟨[],by rw[List.map_eq_nil_iff.mp hm],rfl⟩
 |@cons x l₁ l₂ _ ih=>
  cases ks with
  |nil=>exact nomatch hm
  |cons k ks=>
   rw[qAk]at hm;obtain⟨e1,e2⟩:=List.cons.inj hm;obtain⟨zs,p,e⟩:=ih e2;exact⟨k::zs,.cons k p,by rw[qAk,<-e,e1]⟩
 |swap x y l=>
  match ks,hm with
  |a::b::ks,hm=>
   simp only[qAk,List.cons.injEq]at hm;obtain⟨e1,e2,e3⟩:=hm;exact⟨b::a::ks,.swap a b ks,by simp[e1,e2,e3]⟩
 |trans _ _ ih1 ih2=>
  obtain⟨zs,p,e⟩:=ih2 hm;obtain⟨zs',p',e'⟩:=ih1 e.symm;exact⟨zs',p'.trans p,e'⟩
def RiseT(zs:List (List Str×Addr)):Prop:=zs.Pairwise λp q=>ST.tlt q.1 p.1=false
theorem rise_of{prog:Program}{w:World}{h:Heap}{ys zs:List (List Str×Addr)}(hp:zs.Perm ys)(ky:∀p∈ys,IsTupleKey (PySem.strKind prog w) h p.1 p.2)
  (hs:(zs.map λp=>Value.ref p.2).Pairwise λx y=>(ST.tupK λb=>(ys.find? λp=>p.2==b).map (·.1)).kle (((ST.tupK λb=>(ys.find? λp=>p.2==b).map (·.1)).keyOf x).getD []) (((ST.tupK λb=>(ys.find? λp=>p.2==b).map (·.1)).keyOf y).getD [])):RiseT zs:=by
 rw[qBn]at hs
 have key:∀p∈zs,((ys.find? λq=>q.2==p.2).map (·.1)).getD []=p.1:=λp hpz=>by
  have hpy:=hp.mem_iff.mp hpz
  cases e:ys.find? λq=>q.2==p.2 with
  |none=>exact absurd (List.find?_eq_none.mp e p hpy) (by simp)
  |some q=>
   have q1:q.2=p.2:=by simpa using qCt e
   have k1:=ky q (qCu e);rw[q1]at k1;exact k1.inj (ky p hpy)
 refine hs.imp_of_mem λ{p q} hp' hq' z=>?_;have z:ST.tlt (((ys.find? λr=>r.2==q.2).map (·.1)).getD []) (((ys.find? λr=>r.2==p.2).map (·.1)).getD [])=false:=z;rw[key p hp',key q hq']at z;exact z
theorem Inv.kept1{h':Heap}(I:Inv X pins σ H s)(k:∀b u,s.heap.get? b=some u->h'.get? b=some u):Inv X pins σ H {s with heap:=h'}:=I.kept (t':=s.toks) k
end
end L2
namespace ST
theorem strict_of{xs:List (List PySem.Str)}(h:xs.Pairwise λp q=>tlt q p=false)(hn:xs.Nodup):xs.Pairwise λa b=>tlt a b=true:=by
 refine(List.pairwise_and_iff.mpr ⟨h,hn⟩).imp λ{a b} ⟨q1,q2⟩=>?_
 cases z:tlt a b with
 |true=>rfl
 |false=>exact absurd (zI6 a b z q1) q2
section
open PySem PyProof.Rows
variable{prog:Program}{w:World}{A:Around}{s:Shared}
theorem strs_sortable{vs:List Value}{ss:List Str}(h:StrsAre vs ss):Sortable prog w A PyProof.Rows.strKind oneType' vs s:=by
 refine⟨λE x y a b Q ha hb q=>?_,λh2 E Q q=>?_,λv hv=>?_⟩
 .rw [keyLt'_oneType];exact strKind_oneLt prog w A E s x y a b ha hb q
 .match vs,h2,h with
  |v₁::v₂::r,_,h=>rw[keyKind_strs h];exact qAE q
 .obtain ⟨x,t,rfl⟩:=h.all v hv;exact⟨_,rfl⟩
end
end ST
namespace L2
open PySem PySem.Spec PyProof.Rows
variable{i:Nat}{l a:Addr}{H:Hp}
section
variable{X:Cx}{pins:List (Addr×Obj)}{σ:St}{H:Hp}{s:Shared}
theorem zG9:∀{xs:List Str}{its:List Value},Vals (xs.map V.str) its->StrsAre its xs
 |[],_,.nil=>.nil
 |k::ks,_,.cons ⟨t,e⟩ r=>by subst e;exact .cons k t (zG9 r)
theorem zFf:∀{xs:List Str}{its:List Value},StrsAre its xs->Vals (xs.map V.str) its
 |_,_,.nil=>.nil
 |_,_,.cons y t r=>.cons ⟨t,rfl⟩ (zFf r)
def RiseS(xs:List Str):Prop:=xs.Pairwise λx y=>¬(ST.sg y<ST.sg x)
end
section
variable{X:Cx}
def rInsert:V->List V->Hp->VK->Prop:=λx vs H Q=>∃l xs i y,x= .ref l/\vs=[.int i,y]/\H l=some (.lst xs)/\xs.length<sizeLine/\0<=i/\i<=xs.length/\Q .non (upd H l (.lst (xs.take i.toNat++y::xs.drop i.toNat)))
theorem zHs:MtM X "list.insert" rInsert:=by
 intro pins s σ H x vs v us Q I rx rv h;obtain⟨l,xs,i,y,rfl,rfl,hH,hz,h0,h1,q⟩:=h
 cases rx
 obtain⟨u1,u,rfl,r1,ru⟩:=rv.two;obtain⟨t,rfl⟩:=r1;obtain⟨z,its,n,r,hl,e⟩:=I.lstM hH;have hsl:sizeLine<2^62:=by decide +kernel
 have hfit:¬(!Builtin.List.listFitsIndex i)=true:=by
  unfold Builtin.List.listFitsIndex;have a1:-(2^63:Int)<=i:=by lia
  have a2:i<2^63:=by lia
  rw[qAS a1,qAS a2];decide
 refine qB4 F.slot_list_insert ⟨_,e,rfl⟩ F.entry_list_insert (F.args_list_insert_3 _ _ _) (PySem.AutoListH.list_insert_list_int_val_1 l its.toArray n i t u hfit (by rw[qAK];lia)) ⟨e,?_⟩;refine⟨.non,_,I.lset (its':=its.take i.toNat++u::its.drop i.toNat) hH e ?_ ((r.take _).append (.cons ru (r.drop _))) ?_,rfl,q⟩
 .have hk:(if i<0 then(i+((its.toArray.size:Nat):Int)).toNat else min i.toNat its.toArray.size)=i.toNat:=by
   rw[qAB (by lia),qAK];lia
  show(its.toArray.extract 0 _).push u++its.toArray.extract _=_;rw[hk];apply Array.ext';rw[Array.toList_append,Array.toList_push,qDL,qDL,qB3];simp[List.extract_eq_drop_take,qBc]
 .rw [qAl,qAc,qAR,qB2];lia
def mrg(kvs more:List (Key×V)):List (Key×V):=more.foldl (λacc p=>putK acc p.1 p.2) kvs
theorem KV.mrg{kvs:List (Key×V)}{vs:List (Key×Value)}(r:KV kvs vs):∀{more:List (Key×V)} {ms:List (Key×Value)},KV more ms->KV (mrg kvs more) (merged vs ms):=by
 intro more ms r2;unfold L2.mrg merged;unfold KV at r2
 induction r2 generalizing kvs vs with
 |nil=>exact r
 |@cons p q l₁ l₂ h _ ih=>
  rw[qBt,qBt,h.1];exact ih (r.put q.1 h.2)
theorem mrg_len(kvs more:List (Key×V)):(mrg kvs more).length<=kvs.length+more.length:=by
 unfold mrg
 induction more generalizing kvs with
 |nil=>exact qAF _
 |cons p r ih=>
  rw[qBt,qAc];have h1:=ih (putK kvs p.1 p.2);have h2:=zDt kvs p.1 p.2;lia
def rDUpd:V->List V->Hp->VK->Prop:=λx vs H Q=>∃a b kvs more,x= .ref a/\vs=[.ref b]/\H a=some (.dK kvs)/\H b=some (.dK more)/\a≠b/\kvs.length+more.length<=sizeLine/\Q .non (upd H a (.dK (mrg kvs more)))
theorem mt_dupd:MtR X "dict.update" rDUpd:=by
 intro pins s σ H x vs v us Q I rx rv h;obtain⟨a,b,kvs,more,rfl,rfl,hA,hB,hne,hz,q⟩:=h
 cases rx
 obtain⟨u,rfl,ru⟩:=rv.one
 cases ru
 obtain⟨_,a2,vs1,a3,a4⟩:=I.hok a _ hA;obtain⟨_,b2,vs2,b3,b4⟩:=I.hok b _ hB;have l1:kvs.length=vs1.length:=qCH a3;have l2:more.length=vs2.length:=qCH b3;refine call_meetsIn F.slot_dict_update a4.typeIs F.entry_dict_update (F.args_dict_update_2 _ _) (meets_dict_update (zAn X.prog X.w) a b hne b2) ⟨vs1,vs2,a4,b4,by lia,λh' d1 d2 sb=>?_⟩;have new:zA0 X.prog X.w (upd H a (.dK (mrg kvs more))) h' a (.dK (mrg kvs more)):=⟨qAL (mrg_len kvs more) hz,a2,_,a3.mrg b3,d1⟩;refine⟨.non,_,I.write (x:=a) (e:=a) (t':=s.toks) (by rw[hA];exact trivial) (.inl rfl) (λc o hc z=>(sb.2 c hc).trans z) ?_ new,rfl,q⟩;obtain⟨o,_,_,e,_⟩:=d1;exact⟨o,e⟩
end
section
variable{X:Cx}
theorem op_neU(hu:X.A.units<cLine):OpR X (compareOp .NotEq) (rUnlen X.K true):=by
 intro pins s σ H x y v u Q I rx ry h;obtain⟨a,c,xs,ys,rfl,rfl,hx,hy,hl,q⟩:=h
 cases rx
 cases ry
 obtain⟨its,r,pl,hz⟩:=I.list hx;obtain⟨its2,r2,pl2,hz2⟩:=I.list hy;have e1:=r.length;have e2:=r2.length;exact SeqAt.RcNeAt.lists_lengths pl.isList pl2.isList (by rw[qAK,qAK];simp;lia) hu X.prog X.w X.xe _ ⟨.bl true,H,I,rfl,q⟩
end
theorem zJj{X:Cx}{k:Nat}(hr:Room k X.A):OpR X (compareOp .NotEq) (λx y H Q=>rAlike X.K 8 false x y H Q\/rUnlen X.K true x y H Q):=(op_neA (hu2 hr)).either (op_neU (hu0 hr))
theorem ints_of{ns:List Int}:∀{its:List Value},Vals (ns.map V.int) its->∃xs:List (Int×Tok),its=(xs.map λp=>Value.int p.1 p.2)/\xs.map (·.1)=ns:=by
 induction ns with
 |nil=>
  intro its r
  cases r
  exact⟨[],rfl,rfl⟩
 |cons n ns ih=>
  intro its r
  cases r with
  |cons r1 r2=>
   obtain⟨t,rfl⟩:=r1;obtain⟨xs,rfl,e⟩:=ih r2;exact⟨(n,t)::xs,rfl,by rw[qAk,e]⟩
theorem zG6{xs:List (Int×Tok)}(h:i<xs.length):numAt xs.toArray i∈xs.map (·.1)/\(xs.map (·.1))[i]?=some (numAt xs.toArray i):=by
 have e:numAt xs.toArray i=(xs[i]).1:=by
  unfold numAt;rw[List.getElem?_toArray,qAV h];rfl
 rw[e];exact⟨qAW.mpr ⟨xs[i],qBl h,rfl⟩,by rw[qAZ,qAV h];rfl⟩
section
variable{X:Cx}
theorem call_max1(hc:X.calm=true):zCa X (.builtin "max") (λxs H Q=>∃(p:Addr)(ns:List Int),xs=[.ref p]/\SqL X.K H p (ns.map V.int)/\ns≠[]/\∀M,M∈ns->(∀a∈ns,a<=M)->Q (.int M) H):=by
 intro pins s σ H xs us Q I rv h;obtain⟨p,ns,rfl,hq,hne,q⟩:=h;obtain⟨u,rfl,ru⟩:=rv.one
 cases ru
 obtain⟨its,r,pl,hz⟩:=I.list hq;obtain⟨xs,rfl,e⟩:=ints_of r
 have hpos:0<xs.length:=by
  have:=qCD.mpr hne;rw[<-e,qAD]at this;exact this
 have hI:s.heap.IsList p (intItems xs.toArray):=by
  have:=pl.isList
  rwa [show(xs.map λp=>Value.int p.1 p.2).toArray=intItems xs.toArray from by unfold intItems;simp]at this
 refine max_intList (I.ok.hd hc) hI (by simpa using hpos) λv h' tk hv hk=>?_;obtain⟨t,rfl⟩:=intItems_at hv;obtain⟨b1,b2⟩:=argBest_gt (numAt xs.toArray) (xs.toArray.size-1);rw[qAK]at b1 b2;have hb:argBest (λi j=>decide (numAt xs.toArray i>numAt xs.toArray j)) (xs.length-1)<xs.length:=by lia
 refine⟨.int _,H,I.kept (t':=tk) hk,⟨t,rfl⟩,q _ ?_ λa ha=>?_⟩
 .rw [<-e,qAK];exact(zG6 hb).1
 .rw [<-e]at ha;obtain⟨i,hi,rfl⟩:=qA1.mp ha;rw[qAD]at hi;have h1:=(zG6 hi).2;rw[qAV (by rw[qAD];exact hi)]at h1;rw[qAe h1,qAK];exact b2 i (by lia)
theorem call_min1(hc:X.calm=true):zCa X (.builtin "min") (λxs H Q=>∃(p:Addr)(ns:List Int),xs=[.ref p]/\SqL X.K H p (ns.map V.int)/\ns≠[]/\∀M,M∈ns->(∀a∈ns,M<=a)->Q (.int M) H):=by
 intro pins s σ H xs us Q I rv h;obtain⟨p,ns,rfl,hq,hne,q⟩:=h;obtain⟨u,rfl,ru⟩:=rv.one
 cases ru
 obtain⟨its,r,pl,hz⟩:=I.list hq;obtain⟨xs,rfl,e⟩:=ints_of r
 have hpos:0<xs.length:=by
  have:=qCD.mpr hne;rw[<-e,qAD]at this;exact this
 have hI:s.heap.IsList p (intItems xs.toArray):=by
  have:=pl.isList
  rwa [show(xs.map λp=>Value.int p.1 p.2).toArray=intItems xs.toArray from by unfold intItems;simp]at this
 refine min_intList (I.ok.hd hc) hI (by simpa using hpos) λv h' tk hv hk=>?_;obtain⟨t,rfl⟩:=intItems_at hv;obtain⟨b1,b2⟩:=argBest_lt (numAt xs.toArray) (xs.toArray.size-1);rw[qAK]at b1 b2;have hb:argBest (λi j=>decide (numAt xs.toArray i<numAt xs.toArray j)) (xs.length-1)<xs.length:=by lia
 refine⟨.int _,H,I.kept (t':=tk) hk,⟨t,rfl⟩,q _ ?_ λa ha=>?_⟩
 .rw [<-e,qAK];exact(zG6 hb).1
 .rw [<-e]at ha;obtain⟨i,hi,rfl⟩:=qA1.mp ha;rw[qAD]at hi;have h1:=(zG6 hi).2;rw[qAV (by rw[qAD];exact hi)]at h1;rw[qAe h1,qAK];exact b2 i (by lia)
end
section
variable{P:Program}{w:World}{A:Around}{E:Value->Shared->Prop}{s:Shared}
theorem enum_step{e it:Addr}{c:Int}{ys:Array Value}{x old:Value}{Q:Value->Shared->Prop}(he:IsEnum s.heap e it c old)(hi:s.heap.IsListIter it l i)(hl:s.heap.IsList l ys)(hx:ys[i]?=some x)(ne:e≠it)
  (q:∀k,IsEnumOut k e it (c+1) x s.heap.objs.size->k.IsListIter it l (i+1)->k.get? s.heap.objs.size=some {cls:=.type "tuple",data:=.seq #[.int c s.toks,x]}->k.objs.size=s.heap.objs.size+1 ->
   (∀b o,b≠e->b≠it->s.heap.get? b=some o->k.get? b=some o)->Q (.ref s.heap.objs.size) {s with heap:=k,toks:=s.toks+1}) :
  wpAny (model P w) A (Builtin.«enumerate.__next__» ⟨[.ref e],[]⟩) (λr s'=>∃v,r= .done (.ret v)/\Q v s') E s:=by
 obtain⟨h0,g,d,tk,os⟩:=s;have esz:e<h0.objs.size:=qAH he;show wpAny _ _ (field (Value.ref e) 2 >>= _) _ _ ⟨h0,g,d,tk,os⟩;refine qAA (qBg he rfl (x:=Value.ref it) rfl ?_);refine qAA (wpAny_nextOf_list_item hi hl hx λk1 i1 b1=>?_);have b1:Heap.SameBut it h0 k1:=b1;have e1:IsEnum k1 e it c old:=(b1.2 e ne).trans he;show wpAny _ _ (field (Value.ref e) 3 >>= _) _ _ ⟨k1,g,d,tk,os⟩;refine qAA (qBg (s:=⟨k1,g,d,tk,os⟩) e1 rfl (x:=rawInt c) rfl ?_);show wpAny _ _ (field (Value.ref e) 4 >>= _) _ _ ⟨k1,g,d,tk,os⟩;refine qAA (qBg (s:=⟨k1,g,d,tk,os⟩) e1 rfl (x:=Value.none) rfl ?_);show wpAny _ _ (mkInt c >>= _) _ _ ⟨k1,g,d,tk,os⟩;refine qAA (wpAny_mkInt ?_);show wpAny _ _ (setField (Value.ref e) 3 (rawInt (c+1)) >>= _) _ _ ⟨k1,g,d,tk+1,os⟩;refine qAA (qCE (s:=⟨k1,g,d,tk+1,os⟩) e1 (by simp) λk2 e2 b2=>?_);have b2:Heap.SameBut e k1 k2:=b2;have e2:IsEnum k2 e it (c+1) old:=e2;show wpAny _ _ (setField (Value.ref e) 4 Value.none >>= _) _ _ ⟨k2,g,d,tk+1,os⟩;refine qAA (qCE (s:=⟨k2,g,d,tk+1,os⟩) e2 (by simp) λk3 e3 b3=>?_);have b3:Heap.SameBut e k2 k3:=b3;have e3:IsEnum k3 e it (c+1) old:=e3;show wpAny _ _ (newTuple [Value.int c tk,x] >>= _) _ _ ⟨k3,g,d,tk+1,os⟩;refine qAA (qDT ?_);have z3:k3.objs.size=h0.objs.size:=b3.1.trans (b2.1.trans b1.1);have i3:k3.IsListIter it l (i+1):=(i1.extBut b2.extBut ne.symm).extBut b3.extBut ne.symm;have t4:(k3.push {cls:=.type "tuple",data:=.seq #[Value.int c tk,x]}).get? h0.objs.size=some {cls:=.type "tuple",data:=.seq #[Value.int c tk,x]}:=by rw[<-z3];exact qAX _ rfl
 have z4:(k3.push {cls:=.type "tuple",data:=.seq #[Value.int c tk,x]}).objs.size=h0.objs.size+1:=by rw[qBE,z3]
 have o4:∀b o,b≠e->b≠it->h0.get? b=some o->(k3.push {cls:=.type "tuple",data:=.seq #[Value.int c tk,x]}).get? b=some o:=λb o n1 n2 y=>qAG _ (b3.extBut b o n1 (b2.extBut b o n1 (b1.extBut b o n2 y)));have i4:(k3.push {cls:=.type "tuple",data:=.seq #[Value.int c tk,x]}).IsListIter it l (i+1):=i3.at λo y=>qAG _ y;have e4:IsEnum (k3.push {cls:=.type "tuple",data:=.seq #[Value.int c tk,x]}) e it (c+1) old:=qAG _ e3;show wpAny _ _ (Builtin.SmallTypes.ownedTupleIsFree (.ref e) >>= _) _ _ ⟨k3.push {cls:=.type "tuple",data:=.seq #[Value.int c tk,x]},g,d,tk+1,os⟩;have z3':(Shared.heap ⟨k3,g,d,tk+1,os⟩).objs.size=h0.objs.size:=z3;rw[z3'];generalize k3.push {cls:=.type "tuple",data:=.seq #[Value.int c tk,x]}=k4 at t4 z4 o4 i4 e4 ⊢;refine qAA ?_;unfold Builtin.SmallTypes.ownedTupleIsFree;refine qAA (qBg e4 rfl (x:=Value.none) rfl (qAE ?_));simp only[qBj];refine qAA (qBb ?_);refine qAA (qBg (s:=⟨k4,g,d,tk+1,os⟩) e4 rfl (x:=old) rfl ?_);refine qAA (qCE (s:=⟨k4,g,d,tk+1,os⟩) e4 (by simp) λk5 e5 b5=>?_);have b5:Heap.SameBut e k4 k5:=b5;have e5:IsEnum k5 e it (c+1) x:=e5;refine qAA ?_;unfold Builtin.SmallTypes.ownedTupleHandOut;refine qAA (qCE (s:=⟨k5,g,d,tk+1,os⟩) e5 (by simp) λk6 e6 b6=>?_);have b6:Heap.SameBut e k5 k6:=b6;have e6:IsEnumOut k6 e it (c+1) x h0.objs.size:=e6;refine qCE (s:=⟨k6,g,d,tk+1,os⟩) e6 (by simp) λk7 e7 b7=>?_;have b7:Heap.SameBut e k6 k7:=b7;have e7:IsEnumOut k7 e it (c+1) x h0.objs.size:=e7;have on:∀b o,b≠e->k4.get? b=some o->k7.get? b=some o:=λb o n y=>b7.extBut b o n (b6.extBut b o n (b5.extBut b o n y));refine qAA (wpAny_letGo (qAE ⟨_,rfl,q k7 e7 (i4.at λo y=>on it o ne.symm y) (on _ _ (qAt esz) t4) (by rw[b7.1,b6.1,b5.1,z4]) λb o n1 n2 y=>on b o n1 (o4 b o n1 n2 y)⟩))
theorem enum_next{e it:Addr}{c:Int}{ys:Array Value}{x old:Value}{Q:Option Value->Shared->Prop}(he:IsEnum s.heap e it c old)(hi:s.heap.IsListIter it l i)(hl:s.heap.IsList l ys)(hx:ys[i]?=some x)(ne:e≠it)
  (q:∀k,IsEnumOut k e it (c+1) x s.heap.objs.size->k.IsListIter it l (i+1)->k.get? s.heap.objs.size=some {cls:=.type "tuple",data:=.seq #[.int c s.toks,x]}->k.objs.size=s.heap.objs.size+1 ->
   (∀b o,b≠e->b≠it->s.heap.get? b=some o->k.get? b=some o)->Q (some (.ref s.heap.objs.size)) {s with heap:=k,toks:=s.toks+1}):wpAny (model P w) A (pyNext (.ref e)) Q E s:=by
 have ty:s.TypeIs (.ref e) "enumerate":= ⟨_,he,rfl⟩;unfold pyNext;refine qAA (qBa (qBv (name:=Str.ofString "__next__") ty qDV ?_));exact qBJ qDV ty F.entry_enumerate_next (enum_step he hi hl hx ne λk a b c d y=>qAE (q k a b c d y)) (F.args_enumerate_next_1 _)
theorem enum_end{e it:Addr}{c:Int}{ys:Array Value}{old:Value}{Q:Option Value->Shared->Prop}(hh:A.handled=none)(he:IsEnum s.heap e it c old)(hi:s.heap.IsListIter it l i)(hl:s.heap.IsList l ys)(hx:ys[i]?=none)
  (q:∀k,Heap.ExtBut it s.heap k->Q none {s with heap:=k}):wpAny (model P w) A (pyNext (.ref e)) Q E s:=by
 have ty:s.TypeIs (.ref e) "enumerate":= ⟨_,he,rfl⟩;unfold pyNext;refine qAA (qBa (qBv (name:=Str.ofString "__next__") ty qDV ?_));refine qBJ qDV ty F.entry_enumerate_next ?_ (F.args_enumerate_next_1 _);show wpAny _ _ (field (Value.ref e) 2 >>= _) _ _ s;refine qAA (qBg he rfl (x:=Value.ref it) rfl ?_);refine qAA (wpAny_nextOf_list_end hh hi hl hx λk y b ⟨o,ho,hc⟩=>?_);exact qAA (qCC (T:="StopIteration") (b:=true) ⟨o,ho,hc⟩ qDR (qAE (q _ b)))
end
def Ite(K:PySem.W.Frag)(a:Addr)(lo:Int):It :=
 ⟨λi H=>∃xs x,SqL K H a xs/\xs[i]?=some x,λi H v H'=>∃t x,v= .ref t/\H t=none/\H'=upd H t (.tup [.int (lo+i),x])/\∀xs,SqL K H a xs->xs[i]?=some x,λi H=>∃xs,SqL K H a xs/\xs.length<=i⟩
theorem un_laid{fs ex:List Addr}{h h':Heap}{o:HO}(k:∀b u,b∉ex->h.get? b=some u->h'.get? b=some u)(hp:h.objs.size<=a)(hn:H a=none):Un fs ex H (upd H a o) h h' where
 keep:=λb u q _ _ hx=>k b u hx q
 slot:=λb u q _ _ hx=>⟨u.slots,k b u hx q⟩
 free:=λb u q n _=>by rw[upd_ne (qAO (qAi (qAH q) hp))];exact n
 there:=λb u q hx=>⟨u,k b u hx q⟩
 tups:=λb xs q=>by rw[upd_ne (zAu q hn)];exact q
 frzs:=λb u xs q=>by rw[upd_ne (zAu q hn)];exact q
 tbls:=λb ps q=>⟨#[],by rw[upd_ne (zAu q hn),q];simp⟩
theorem hok_laid{P:Program}{w:World}{h h':Heap}{ex:List Addr}{o:HO}(x:HOk P w H h)(k:∀b u,b∉ex->h.get? b=some u->h'.get? b=some u)(hex:∀b∈ex,H b=none)(hp:h.objs.size<=a)(new:zA0 P w (upd H a o) h' a o):HOk P w (upd H a o) h':=λb u e=>by
 have hn:=x.fresh hp
 by_cases hb:b=a
 .subst hb;rw[upd_same]at e;cases e;exact new
 .rw [upd_ne hb]at e;refine(x b u e).stay (λc v hc q=>k c v (λz=>?_) q) (λc q=>by rw[upd_ne (zAu q hn)];exact q) λc xs q=>by rw[upd_ne (zAu q hn)];exact q
  have hz:=hex c z;rcases hc with y|y
  .rw [y,e]at hz;cases hz
  .rw [y]at hz;cases hz
theorem turn_enum{P:Program}{w:World}{K:PySem.W.Frag}{elts:List Expr}{kk:Nat}{tp:Pos}(a e it:Addr)(lo:Int)(ne:e≠it):Turn P w K (.Tuple elts kk tp) (Ite K a lo) [e,it] e (λi h=>∃old,IsEnum h e it (lo+(i:Nat)) old/\h.IsListIter it a i) where
 mem:=by simp
 obj:=λi h st b hb=>by
  obtain⟨old,s1,o,s2,s3,s4⟩:=st;have cs:b=e\/b=it:=by simpa using hb
  rcases cs with z|z
  .rw [z];exact⟨_,s1,λv y=>by cases y⟩
  .rw [z];exact⟨o,s2,λv y=>by rw[s4]at y;cases y⟩
 keep:=λi h h' ⟨old,s1,s2⟩ k=>⟨old,k e (by simp) _ s1,s2.at λo y=>k it (by simp) o y⟩
 item:=by
  intro X hP hw hK hc i pins s σ H E I hf st hg;subst hP hw hK;obtain⟨xs,x,hq,hx⟩:=hg;obtain⟨old,s1,s2⟩:=st;obtain⟨its,rv,p,hz⟩:=I.list hq;obtain⟨u,hu,ru⟩:=rv.get hx;refine enum_next s1 s2 p.isList (x:=u) (by simpa using hu) ne λk eo i1 t1 z1 o1=>?_;refine⟨_,rfl,wpAny_letOwnedTupleGo_enum eo λk2 e2 b2=>?_⟩;have b2:Heap.SameBut e k k2:=b2;have esz:e<s.heap.objs.size:=qAH s1;have t2:k2.get? s.heap.objs.size=some {cls:=.type "tuple",data:=.seq #[.int (lo+(i:Nat)) s.toks,u]}:=b2.extBut _ _ (qAt esz) t1;have on:∀b o,b∉[e,it]->s.heap.get? b=some o->k2.get? b=some o:=λb o nb y=>b2.extBut b o (λz=>nb (by simp[z])) (o1 b o (λz=>nb (by simp[z])) (λz=>nb (by simp[z])) y);have hn:∀b∈[e,it],H b=none:=λb hb=>(hf b hb).1;have new:zA0 X.prog X.w (upd H s.heap.objs.size (.tup [.int (lo+(i:Nat)),x])) k2 s.heap.objs.size (.tup [.int (lo+(i:Nat)),x]):=⟨by show(2:Nat)<=sizeLine;decide,[.int (lo+(i:Nat)) s.toks,u],.cons ⟨_,rfl⟩ (.cons ru .nil),⟨_,t2,rfl,_,rfl⟩⟩
  have I2:Inv X pins σ (upd H s.heap.objs.size (.tup [.int (lo+(i:Nat)),x])) {s with heap:=k2,toks:=s.toks+1}:=I.call' (ch:=[e,it]) rfl (un_laid on (qAF _) (I.hok.fresh (qAF _))) (hok_laid I.hok on hn (qAF _) new) I.bare λb hb=>by
   obtain⟨_,f1,_,f3,f4,f5⟩:=hf b hb;exact⟨f3,f1,f4,f5⟩
  refine⟨.ref s.heap.objs.size,_,I2,rfl,⟨_,x,rfl,I.hok.fresh (qAF _),rfl,λys hy=>by rw[I.list_inj hy hq];exact hx⟩,⟨u,?_,i1.extBut b2.extBut ne.symm⟩,λb hb=>?_⟩
  .have e2:IsEnum k2 e it (lo+(i:Nat)+1) u:=e2;show IsEnum k2 e it (lo+((i+1:Nat):Int)) u;rw[show lo+((i+1:Nat):Int)=lo+(i:Nat)+1 by lia];exact e2
  .have hb':=hn b hb
   have:b≠s.heap.objs.size:=by
    have cs:b=e\/b=it:=by simpa using hb
    rcases cs with z|z
    .rw [z];exact qAO esz
    .obtain ⟨o,y,_⟩:=s2;rw[z];exact qAO (qAH y)
   rw[upd_ne this];exact hb'
 done:=by
  intro X hP hw hK hc i pins s σ H E I hf st hg;subst hP hw hK;obtain⟨xs,hq,hx⟩:=hg;obtain⟨old,s1,s2⟩:=st;obtain⟨its,rv,p,hz⟩:=I.list hq;obtain⟨f0,f1,f2,f3,f4,f5⟩:=hf it (by simp);have hl:=rv.length;exact enum_end (I.ok.hd hc) s1 s2 p.isList (by simp;lia) λh' eb=>⟨rfl,I.turned (t':=s.toks) (λb o hb y=>eb b o hb y) f0 f1 f3 f4 f5⟩
 self:=λ_ _ _ _ _ ⟨_,st,_⟩ h=>wpAny_pyIter_enum st h
section
variable{X:Cx}{elts:List Expr}{kk:Nat}{tp:Pos}
theorem boot_enum:bootBuiltins "enumerate"=some (.type "enumerate"):=by decide +kernel
theorem enum_it{pins:List (Addr×Obj)}{σ:St}{s:Shared}{R:It->Hp->Prop}{E:Value->Shared->Prop}{lo:Int}{h':Heap}{tk:Nat}(I:Inv X pins σ H s)(he:IsEnum h' (s.heap.objs.size+1) s.heap.objs.size lo .none)(hi:h'.IsListIter s.heap.objs.size a 0)
  (k:∀b o,s.heap.get? b=some o->h'.get? b=some o) (q:R (Ite X.K a lo) H) :
  wpAny (model X.prog X.w) X.A (pyIter (.ref (s.heap.objs.size+1))) (PIE X pins σ (.Tuple elts kk tp) R) E {s with heap:=h',toks:=tk}:=by
 refine wpAny_pyIter_enum he ?_;refine⟨s.heap.objs.size+1,[s.heap.objs.size+1,s.heap.objs.size],_,_,H,rfl,I.kept (t':=tk) k,turn_enum a (s.heap.objs.size+1) s.heap.objs.size lo (Nat.succ_ne_self _),⟨.none,by simpa using he,hi⟩,λb hb=>?_,q⟩;have cs:b=s.heap.objs.size+1\/b=s.heap.objs.size:=by simpa using hb
 rcases cs with e|e
 .subst e;exact I.fpOk (by lia) (I.hok.fresh (by lia))
 .subst e;exact I.fpOk (qAF _) (I.hok.fresh (qAF _))
theorem ite_any{α:Type}{M:Model}{A:Around}{c:Prop}[Decidable c]{x y:Sem α}{Q:α->Shared->Prop}{E:Value->Shared->Prop}{s:Shared}(h1:wpAny M A x Q E s)(h2:wpAny M A y Q E s):wpAny M A (if c then x else y) Q E s:=by
 split
 .exact h1
 .exact h2
open AutoSeq1 (wpAny_loadPart') in
theorem zJt(l:Addr)(items:Array Value)(n:Nat)(dct:Option Addr)(sl:Array (Option Value))(j:Int)(t:Tok)(hj:Builtin.SmallTypes.fitsIndex j=true) :
  Meets (Builtin.«enumerate.__new__» ⟨[.type "enumerate",.ref l],[(Str.ofString "start",.int j t)]⟩) (λ_ R s=>s.heap.get? l=some ⟨.type "list",dct,.seq items n,sl⟩ /\ R (.ok (.ret (.ref (s.heap.push {cls:=.type "list_iterator",data:=.fields #[.ref l,.int 0 0]}).objs.size))) {s with heap:=(s.heap.push {cls:=.type "list_iterator",data:=.fields #[.ref l,.int 0 0]}).push {cls:=.type "enumerate",data:=.fields #[.none,.bool false,.ref s.heap.objs.size,rawInt j,.none,.none]}}) :=
 .of_wp λprog w A R s h=>by
  obtain⟨h0,g,d,tk,os⟩:=s;obtain⟨hl,h⟩:=h;have hsub:=sub_enumerate;have hL:Heap.IsList (Shared.heap ⟨h0,g,d,tk,os⟩) l items:=⟨_,hl,rfl,n,rfl⟩
  wp_walk using wpAny_loadPart' hl
  refine wpAny_stack_any λst=>qAE ?_;refine ite_any ?_ ?_
  all_goals
   refine qAA (qB9 (a:=(.ref l,some (.int j t))) (by with_unfolding_all rfl) ?_)
   wp_walk using wpAny_loadPart' hl,qCc hL
   exact⟨_,rfl,h⟩
theorem oinit_kw{T mk:String}{me:Value}{rest:List Value}{kw:List (Str×Value)}(look:typeLookup (.type T) "__init__"=pure (some (.builtin "object.__init__")))(made:Bind.madeBy (.type T)=pure (some mk))(other:(some mk != some "object.__new__")=true) :
  Meets (Builtin.«object.__init__» ⟨me::rest,kw⟩) (λ_ R s=>s.TypeIs me T/\R (.ok (.ret .none)) s):=by
 refine Meets.of_wp λprog w A R s ⟨ty,q⟩=>?_;show wpAny _ _ (if(!rest.isEmpty|| !kw.isEmpty)=true then _ else _) _ _ s;refine ite_any ?_ (qAE ⟨_,rfl,q⟩)
 repeat (any_goals (first|assumption|wp_step))
 exact⟨_,rfl,q⟩
section
variable{P:Program}{w:World}{A:Around}{E:Value->Shared->Prop}{s:Shared}
theorem typed_kw{T mk:String}{B:Builtin}{xs:List Value}{kw:List (Str×Value)}{S:PySem.Spec}{Q:Value->Shared->Prop}(ft:TypeCalled T mk "object.__init__")(other:(some mk != some "object.__new__")=true)
  (c1:checkTypeCall T ⟨xs,kw⟩=pure ()) (c2:checkBuiltinCall mk ⟨.type T::xs,kw⟩=pure ()) (c3:∀o,argsOk "object.__init__" ⟨o::xs,kw⟩) (en:entryFor table mk=some B) (g:Meets (B ⟨.type T::xs,kw⟩) S)
  (h:S A.in1 (wants (λo s1=>s1.TypeIs o T/\Q o s1) E) s):wpAny (model P w) A (call (.type T) xs kw) Q E s:=by
 obtain⟨c,tl,mro⟩:=ft.mro;have m1:=ft.made;have m2:=ft.sub;have m3:=ft.notType;have m4:=ft.canCreate;refine qBh (qCy ?_);show wpAny _ _ (callAny (.type T) _) _ _ _;refine qAE ⟨Code.quiet_builtin _ (by decide +kernel),qBI F.entry_type_call ?_⟩;rw[Around.under_plain (qDx T xs kw) (units_type_call_type T xs kw)]
 repeat (any_goals (first|assumption|wp_step))
 refine qBi (qCB ft.plain en (qB9 c2 (g P w A.in1 _ s h))) λr s1 hr=>?_
 cases r with
 |error e=>exact hr
 |ok f1=>
  cases f1 with
  |next=>exact hr.elim
  |brk=>exact hr.elim
  |cont=>exact hr.elim
  |ret o=>
   obtain⟨ty,q⟩:=hr;have l1:=ft.init.lookup;have l2:=ft.init.bind o
   repeat (any_goals (first|assumption|wp_step))
   have io:=oinit_kw (me:=o) (rest:=xs) (kw:=kw) ft.init.lookup ft.made other P w A.in1 (wants (λr s2=>r= .none/\Q o s2) E) s1 ⟨ty,rfl,q⟩;refine qBi (qCB ft.init.plain F.entry_object_init (ft.init.check _ _ _ _ _ _ _ _ ty (c3 o) io)) λr2 s2 hr2=>?_
   cases r2 with
   |error e=>exact hr2
   |ok f2=>
    cases f2 with
    |next=>exact hr2.elim
    |brk=>exact hr2.elim
    |cont=>exact hr2.elim
    |ret v=>
     obtain⟨z,q2⟩:=hr2;subst z
     repeat (any_goals (first|assumption|wp_step))
theorem tw_kw{pos:Pos}{T:String}{first:List Value}{args:List (Bool×Sem Value)}{kws:List (Option Str×Sem Value)}{Q:Value->Shared->Prop}{M:Model}(h1:args.any (·.1)=false)(h2:kws.any (·.1.isNone)=false)
  (h:wpAny M A (evalArgs (.type T) true args kws) (λa s1=>wpAny M A (call (.type T) (first++a.pos) a.kw) Q E s1) E s):wpAny M A (callWith pos (.type T) first args kws) Q E s:=by
 unfold callWith;refine qAA (qA6 (thn h λa s1 h1'=>qAA (qCK ?_)));simp only[h1,h2,qC9];exact qAA (qAE (qAA (thn h1' λr s2 hr=>qAA (qA6 (wpAny_point (qAE hr))))))
theorem call_enum_kw{items:Array Value}{j:Int}{t:Tok}{Q:Value->Shared->Prop}(hj:Builtin.SmallTypes.fitsIndex j=true)(hL:s.heap.IsList l items)
  (h:∀h',IsEnum h' (s.heap.objs.size+1) s.heap.objs.size j .none->h'.IsListIter s.heap.objs.size l 0->(∀b o,s.heap.get? b=some o->h'.get? b=some o)->Q (.ref (s.heap.objs.size+1)) {s with heap:=h'}) :
  wpAny (model P w) A (call (.type "enumerate") [.ref l] [(Str.ofString "start",.int j t)]) Q E s:=by
 obtain⟨⟨c,dct,dt,sl⟩,hl,hc,n,hd⟩:=hL;have hc:c= .type "list":= hc;have hd:dt= .seq items n:=hd;subst hc hd;refine typed_kw F.called_enumerate (by decide) (by kernel_rfl) (by kernel_rfl) (λo=>by kernel_rfl) F.entry_enumerate_new (zJt l items n dct sl j t hj) ⟨hl,?_⟩;have z:(s.heap.push {cls:=.type "list_iterator",data:=.fields #[.ref l,.int 0 0]}).objs.size=s.heap.objs.size+1:=qBE ..;show _/\_;rw[z];generalize hk:(s.heap.push {cls:=.type "list_iterator",data:=.fields #[.ref l,.int 0 0]})=k at z;have k0:k.IsListIter s.heap.objs.size l 0:=by rw[<-hk];exact⟨_,qAX _ rfl,rfl,rfl⟩
 have ko:∀b o,s.heap.get? b=some o->k.get? b=some o:=λb o x=>by rw[<-hk];exact qAG _ x
 have he:IsEnum (k.push {cls:=.type "enumerate",data:=.fields #[.none,.bool false,.ref s.heap.objs.size,rawInt j,.none,.none]}) (s.heap.objs.size+1) s.heap.objs.size j .none:=by
  rw[<-z];exact qAX _ rfl
 exact⟨⟨_,he,rfl⟩,h _ he (k0.at λo x=>qAG _ x) λb o x=>qAG _ (ko b o x)⟩
end
def iEnumS(K:PySem.W.Frag)(j:Int)(ta:TA):TI:=λσ H R=>ta σ H λvs H1=>∃a,vs=[.ref a]/\(∃xs,SqL K H1 a xs)/\R (Ite K a j) H1
theorem pi_enumS{a:Expr}{ta:TA}{p pos kp ip:Pos}{j:Int}{jj:Nat}(hg:Gl X "enumerate")(hm:X.mg "enumerate"=none)(ha:PA X [a] ta)(hj:Builtin.SmallTypes.fitsIndex j=true:=by rfl)(hs:starEach [a] X.env=[(false,eval a X.env)]:=by rfl) :
  PI X (.Tuple elts kk tp) (.Call (.Name "enumerate" p) [a] [⟨some (Str.ofString "start"),.Constant (.int j) jj ip,kp⟩] pos) (iEnumS X.K j ta):=by
 intro pins s σ H R I h;refine qCL (zHy I hg hm boot_enum ?_);refine tw_kw (by rw[hs];rfl) rfl ?_;have ha':=ha pos pins s σ H _ I h;have e0:backTo pos (starEach [a] X.env)=(false,eval a X.env)::[]:=by rw[hs];rfl
 rw[e0]at ha' ⊢;refine evalArgs_kwB rfl (thn ha' λus s1 ⟨vs,H1,I1,r1,q1⟩=>?_);refine thn (pk_cons zAf pk_nil pos pins s1 σ H1 (λzs H2=>zs=[.int j]/\H2=H1) I1 ⟨rfl,rfl⟩) λws s2 ⟨zs,H2,I2,rz,ez,eh⟩=>?_;subst ez eh;obtain⟨a,e,⟨xs,hq⟩,q⟩:=q1;subst e;obtain⟨u,rfl,ru⟩:=r1.one
 cases ru
 obtain⟨w1,rfl,rw1⟩:=rz.one;obtain⟨t,rfl⟩:=rw1;obtain⟨its,r,pl,hz⟩:=I2.list hq;exact call_enum_kw hj pl.isList λh' e1 e2 e4=>enum_it (tk:=s2.toks) I2 e1 e2 e4 q
theorem for_enum{K:PySem.W.Frag}{lo:Int}{xs:List V}{g:TG}{tb:TS}{D:Ends}{σ:St}(Pv:Nat->St->Hp->Prop)(h0:Pv 0 σ H)(hl:∀i σ H,i<=xs.length->Pv i σ H->SqL K H a xs)
  (hs:∀i x σ H t,xs[i]?=some x->Pv i σ H->H t=none->g (.ref t) σ (upd H t (.tup [.int (lo+i),x])) λσ2 H2=>tb {D with nx:=Pv (i+1),ct:=Pv (i+1),bk:=D.nx} σ2 H2) (hd:∀σ H,Pv xs.length σ H->D.nx σ H) :
  ∃W:Nat->Nat->St->Hp->Prop,(∃m,W 0 m σ H)/\∀i m σ H,W i m σ H ->
   ((Ite K a lo).stop i H/\D.nx σ H)\/((Ite K a lo).go i H/\∃N:St->Hp->Prop,(∀σ' H',N σ' H'->∃m',m'<m/\W (i+1) m' σ' H')/\∀x H',(Ite K a lo).yld i H x H'->g x σ H' λσ2 H2=>tb {D with nx:=N,ct:=N,bk:=D.nx} σ2 H2):=by
 refine⟨λi m σ H=>m=xs.length-i/\i<=xs.length/\Pv i σ H,⟨xs.length,by simp,qAd _,h0⟩,?_⟩;rintro i m σ H ⟨rfl,hi,p⟩;have q:=hl i σ H hi p
 by_cases hlt:i<xs.length
 .refine .inr ⟨⟨xs,xs[i],q,by simp[hlt]⟩,Pv (i+1),λσ' H' p'=>⟨xs.length-(i+1),by lia,rfl,hlt,p'⟩,λv H' y=>?_⟩;obtain⟨t,x,rfl,hn,rfl,y⟩:=y;exact hs i x σ H t (y xs q) p hn
 .have e:i=xs.length:=by lia
  subst e;exact .inl ⟨⟨xs,q,qAF _⟩,hd σ H p⟩
end
open AutoSeq1 (wpAny_loadPart')
section
variable{X:Cx}
theorem call_dict1:zCa X (.type "dict") (λxs H Q=>∃a kvs,xs=[.ref a]/\Rd H a (.dK kvs)/\∀p,H p=none->Q (.ref p) (upd H p (.dK kvs))):=by
 intro pins s σ H xs us Q I rv h;obtain⟨a,kvs,rfl,e,q⟩:=h;obtain⟨u,rfl,ru⟩:=rv.one
 cases ru
 exact d_copyOf I e λp s' hp I'=>⟨.ref p,_,I',rfl,q p hp⟩
end
end L2
namespace L2
open PySem PySem.Spec PyProof.Rows PySem.W PySem.Builtin PySem.Builtin.ObjectAttr PySem.Builtin.Getset_descriptor
end L2
namespace L2
open PySem PySem.Spec PyProof.Rows
section
variable{X:Cx}
theorem strs_all(as bs:List Str)(h:as.length=bs.length):((List.range as.length).all λj=>eqV ((as.map V.str).getD j .non) ((bs.map V.str).getD j .non))=decide (as=bs):=by
 rw[qBz,qBF,qA3];constructor
 .intro q;refine List.ext_getElem h λj h1 h2=>?_;have:=q j (qAs.mpr h1);simp[eqV,h1,h2]at this;exact this
 .rintro rfl j hj;have hj:=qAs.mp hj;simp[eqV,hj]
theorem flat_items{A:Around}{s:Shared}{xs ys:List V}{its its2:List Value}(r:Vals xs its)(r2:Vals ys its2)(fx:xs.all zEk=true)(fy:ys.all zEk=true)(hl:xs.length=ys.length) :
  ∀j (h1:j<its.toArray.size) (h2:j<its2.toArray.size),SeqAt.EqAt A s its.toArray[j] its2.toArray[j] (eqV (xs.getD j .non) (ys.getD j .non)):=λj h1 h2=>by
 have e1:=r.length;have e2:=r2.length;rw[qAK]at h1 h2;have hjx:xs[j]?=some (xs[j]'(by lia)):=by simp
 have hjy:ys[j]?=some (ys[j]'(by lia)):=by simp
 obtain⟨u1,q1,ru1⟩:=r.get hjx;obtain⟨v1,q2,rv1⟩:=r2.get hjy
 have e3:its.toArray[j]=u1:=by
  have:its[j]?=some its[j]:=by simp
  rw[this]at q1;simpa using q1
 have e4:its2.toArray[j]=v1:=by
  have:its2[j]?=some its2[j]:=by simp
  rw[this]at q2;simpa using q2
 rw[e3,e4];have g1:xs.getD j .non=xs[j]'(by lia):=by rw[qAr,hjx];rfl
 have g2:ys.getD j .non=ys[j]'(by lia):=by rw[qAr,hjy];rfl
 rw[g1,g2];exact eqAt_V ru1 rv1 (qBF.mp fx _ (qBl _)) (qBF.mp fy _ (qBl _))
def rStrs(K:PySem.W.Frag)(neg:Bool):R2:=λx y H Q=>∃(a c:Addr)(as bs:List Str),x= .ref a/\y= .ref c/\SqL K H a (as.map V.str)/\SqL K H c (bs.map V.str)/\Q (.bl (if neg then !decide (as=bs)else decide (as=bs))) H
theorem flatS(ns:List Str):(ns.map V.str).all zEk=true:=by simp[zEk]
theorem op_neS(hu:X.A.units<cLine):OpR X (compareOp .NotEq) (rStrs X.K true):=by
 intro pins s σ H x y v u Q I rx ry h;obtain⟨a,c,as,bs,rfl,rfl,hx,hy,q⟩:=h
 cases rx
 cases ry
 obtain⟨its,r,pl,hz⟩:=I.list hx;obtain⟨its2,r2,pl2,hz2⟩:=I.list hy;have e1:=r.length;have e2:=r2.length;rw[qAD]at e1 e2
 by_cases hl:as.length=bs.length
 .refine SeqAt.RcNeAt.lists (e:=λj=>eqV ((as.map V.str).getD j .non) ((bs.map V.str).getD j .non)) pl.isList pl2.isList (by rw[qAK,qAK];lia) hu (flat_items r r2 (flatS as) (flatS bs) (by simpa using hl)) X.prog X.w X.xe _ ?_;rw[qAK,<-e1,strs_all as bs hl];exact⟨.bl _,H,I,rfl,q⟩
 .rw [qAC rfl,qAa (λz=>hl (by rw[z]))]at q;exact SeqAt.RcNeAt.lists_lengths pl.isList pl2.isList (by rw[qAK,qAK];simp;lia) hu X.prog X.w X.xe _ ⟨.bl true,H,I,rfl,q⟩
end
theorem cut_to(xs:List V){b:Int}(h:0<=b):cutV xs none (some b)=xs.take b.toNat:=by
 obtain⟨k,rfl⟩:∃k:Nat,b=k:=⟨b.toNat,by lia⟩;unfold cutV;rw[HT.sIx_nat,HT.sIx_none,List.drop_zero,Nat.sub_zero];show xs.take (min k xs.length)=xs.take k;rw[List.take_eq_take_min (i:=k)]
open AutoSeq1 (wpAny_loadPart')
section
variable{X:Cx}
theorem op_fdivB:OpR X (binaryOp .FloorDiv) (rI (λ_ j=>0<j/\j<10^100) λi j=>.int (i / j)):=opI λi j _ _ _ _ _ hc q=>by
 have h1:(0:Int)<j:=hc.1;have h2:j<10^100:=hc.2;refine floordiv_int (by lia) (by rw[qDn i (by lia)];exact q) (.inl (PyProof.noPylong_of_log2 ?_));have hj:j.natAbs≠0:=by lia
 rw[Nat.log2_lt hj];have:j.natAbs<10^100:=by lia
 exact qAi this (by decide +kernel)
end
end L2
namespace RV
open PySem
variable{r l d it:Addr}{i ep:Nat}{ys:Array Value}{K:Type}
theorem s_next:Slot "list_reverseiterator" "__next__" "list_reverseiterator.__next__":=
 .of (owner:="list_reverseiterator") (n:="__next__") (by rw[qBO,qBP];kernel_rfl) (by decide +kernel) (by decide +kernel) (by decide +kernel) (by first|exact .inl (by decide +kernel)|exact .inr (by decide +kernel)) (by rw[qBf];kernel_rfl)
theorem e_next:entryFor table "list_reverseiterator.__next__"=some Builtin.«list_reverseiterator.__next__»:=qC2 (by kernel_rfl)
theorem s_iter:Slot "list_reverseiterator" "__iter__" "list_reverseiterator.__iter__":=
 .of (owner:="list_reverseiterator") (n:="__iter__") (by rw[qBO,qBP];kernel_rfl) (by decide +kernel) (by decide +kernel) (by decide +kernel) (by first|exact .inl (by decide +kernel)|exact .inr (by decide +kernel)) (by rw[qBf];kernel_rfl)
theorem e_iter:entryFor table "list_reverseiterator.__iter__"=some Builtin.«dict_keyiterator.__iter__» :=
 qDP (id':="dict_keyiterator.__iter__") (by kernel_rfl) (by decide +kernel) (by decide +kernel) (by kernel_rfl)
theorem s_ga:Slot "list_reverseiterator" "__getattribute__" "object.__getattribute__":=
 .of (owner:="object") (n:="__getattribute__") (by rw[qBO,qBP];kernel_rfl) (by decide +kernel) (by decide +kernel) (by decide +kernel) (by first|exact .inl (by decide +kernel)|exact .inr (by decide +kernel)) (by rw[qBf];kernel_rfl)
theorem no_ga:typeLookup (.type "list_reverseiterator") "__getattr__"=pure none:=by rw[qBO,qBP];kernel_rfl
theorem no_keys:typeLookup (.type "list_reverseiterator") "keys"=pure none:=by rw[qBO,qBP];kernel_rfl
theorem s_rev:Slot "list" "__reversed__" "list.__reversed__":=
 .of (owner:="list") (n:="__reversed__") (by rw[qBO,qBP];kernel_rfl) (by decide +kernel) (by decide +kernel) (by decide +kernel) (by first|exact .inl (by decide +kernel)|exact .inr (by decide +kernel)) (by rw[qBf];kernel_rfl)
theorem e_rev:entryFor table "list.__reversed__"=some Builtin.«list.__reversed__»:=qC2 (by kernel_rfl)
theorem mro_rev:mroOf (.type "reversed")=pure [.type "reversed",.type "object"]:=by rw[mroOf_type];kernel_rfl
theorem new_rev:typeLookup (.type "reversed") "__new__"=pure (some (.builtin "reversed.__new__")):=by rw[qBO,qBP];kernel_rfl
theorem tc_rev(a:Value):checkTypeCall "reversed" ⟨[a],[]⟩=pure ():=by kernel_rfl
theorem nc_rev(a:Value):checkBuiltinCall "reversed.__new__" ⟨[.type "reversed",a],[]⟩=pure ():=by kernel_rfl
theorem en_rev:entryFor table "reversed.__new__"=some Builtin.«reversed.__new__»:=qC2 (by kernel_rfl)
theorem pl_rev:plainId "reversed.__new__"=true:=by decide +kernel
theorem s_init:Slot "reversed" "__init__" "object.__init__":=
 .of (owner:="object") (n:="__init__") (by rw[qBO,qBP];kernel_rfl) (by decide +kernel) (by decide +kernel) (by decide +kernel) (by first|exact .inl (by decide +kernel)|exact .inr (by decide +kernel)) (by rw[qBf];kernel_rfl)
theorem zCo:TypeCalled "reversed" "reversed.__new__" "object.__init__":=
 ⟨by decide +kernel,by decide +kernel,⟨_,_,mro_rev⟩,madeBy_type mro_rev new_rev (by decide +kernel),by decide +kernel,by rw[qBf];kernel_rfl,s_init⟩
theorem sub_rev:isSubtype (.type "list_reverseiterator") (.type "reversed")=pure false:=by rw[qBf];kernel_rfl
theorem view_len:typeLookup (.type "dict_items") "__len__"=pure (some (.builtin "dict_items.__len__")):=by rw[qBO,qBP];kernel_rfl
theorem view_sub:isSubtype (.type "dict_items") (.type "dict_items")=pure true:=by rw[qBf];kernel_rfl
theorem own_rev:Manifest.owners.lookup (String.ofList "list_reverseiterator".toList.reverse.reverse)=some Manifest.sig_list_reverseiterator:=by kernel_rfl
theorem a_next(a:Value):argsOk "list_reverseiterator.__next__" ⟨[a],[]⟩:=by
 unfold argsOk;rw[qDW (id:="list_reverseiterator.__next__") (n:="__next__".toList.reverse) (o:="list_reverseiterator".toList.reverse) (by kernel_rfl) own_rev];kernel_rfl
theorem a_iter(a:Value):argsOk "list_reverseiterator.__iter__" ⟨[a],[]⟩:=by
 unfold argsOk;rw[qDW (id:="list_reverseiterator.__iter__") (n:="__iter__".toList.reverse) (o:="list_reverseiterator".toList.reverse) (by kernel_rfl) own_rev];kernel_rfl
theorem a_rev(a:Value):argsOk "list.__reversed__" ⟨[a],[]⟩:=by
 unfold argsOk;rw[qDW (id:="list.__reversed__") (n:="__reversed__".toList.reverse) (o:=['t','s','i','l']) (by kernel_rfl) F.owner_list];kernel_rfl
abbrev IsRev(h:Heap)(r l:Addr)(i:Int):Prop:=h.get? r=some {cls:=.type "list_reverseiterator",dict:=none,data:=.fields #[.ref l,.int i 0],slots:=#[]}
section
variable{P:Program}{w:World}{A:Around}{E:Value->Shared->Prop}{s:Shared}
theorem rev_next{x:Value}{Q:Option Value->Shared->Prop}(hr:IsRev s.heap r l i)(hl:s.heap.IsList l ys)(hx:ys[i]?=some x)
  (q:∀k,IsRev k r l ((i:Int)-1)->Heap.SameBut r s.heap k->Q (some x) {s with heap:=k}):wpAny (model P w) A (pyNext (.ref r)) Q E s:=by
 have ty:s.TypeIs (.ref r) "list_reverseiterator":= ⟨_,hr,rfl⟩;obtain⟨o,ho,hc,n,hd⟩:=id hl;unfold pyNext;refine qAA (qBa (qBv (name:=Str.ofString "__next__") ty s_next (qBJ s_next ty e_next ?_ (a_next _))));unfold Builtin.«list_reverseiterator.__next__»;refine qAA (qAE ?_);refine qAA (qBg hr rfl (x:=.int i 0) rfl ?_);simp only[show¬((i:Int)<0)from by lia,qA7];refine qAA (qBg hr rfl (x:=.ref l) rfl ?_);refine qAA (qCV ho hd ?_);simp only[qBU,hx];refine qAA (qCE hr (by simp) λk h1 h2=>?_);exact qAE ⟨_,rfl,qAE (q k (by simpa[rawInt]using h1) h2)⟩
theorem rev_end{i:Int}{Q:Option Value->Shared->Prop}(hh:A.handled=none)(hr:IsRev s.heap r l i)(hi:i<0)
  (q:∀k,(∀b o,s.heap.get? b=some o->k.get? b=some o)->Q none {s with heap:=k}):wpAny (model P w) A (pyNext (.ref r)) Q E s:=by
 have ty:s.TypeIs (.ref r) "list_reverseiterator":= ⟨_,hr,rfl⟩;unfold pyNext;refine qAA (qBa (qBv (name:=Str.ofString "__next__") ty s_next (qBJ s_next ty e_next ?_ (a_next _))));unfold Builtin.«list_reverseiterator.__next__»;refine qAA (qAE ?_);refine qAA (qBg hr rfl (x:=.int i 0) rfl ?_);simp only[hi,qBj];refine qAA (qBb ?_);refine qAA ?_;unfold Builtin.SmallTypes.stopIteration;refine qAA ?_;simp only[newExc,newTuple];refine qAA (qBk ?_ (by size_fits));refine qAA (m:=firstArgMember _ _) (qB9 (a:=Value.none) (by first|rfl|(simp only[firstArgMember];rfl)) ?_);refine qBk ?_ (by size_fits);simp only[raiseNew];refine qAA (wpAny_handled ?_);rw[show A.in1.handled=none from hh];refine qAA (qAE (wpAny_throw ?_));refine qAA (qCC (T:="StopIteration") (b:=true) ⟨_,qAX _ rfl,rfl⟩ qDR ?_);exact qAE (q _ λb o y=>qAG _ (qAG _ y))
theorem rev_self{i:Int}{Q:Value->Shared->Prop}(hr:IsRev s.heap r l i)(q:Q (.ref r) s):wpAny (model P w) A (pyIter (.ref r)) Q E s:=by
 have ty:s.TypeIs (.ref r) "list_reverseiterator":= ⟨_,hr,rfl⟩;refine qDS ty s_iter (qBJ s_iter ty e_iter ?_ (a_iter _));exact qAA (qAE (qAE ⟨_,rfl,"list_reverseiterator",_,ty,s_next.lookup,q⟩))
theorem rev_code{Q:Value->Shared->Prop}(hl:s.heap.IsList l ys)
  (q:Q (.ref s.heap.objs.size) {s with heap:=s.heap.push {cls:=.type "list_reverseiterator",data:=.fields #[.ref l,rawInt ((ys.size:Int)-1)]}}) :
  codeAny (model P w) A (.call (.builtin "reversed.__new__") ⟨[.type "reversed",.ref l],[]⟩) (wants Q E) s:=by
 obtain⟨h0,g,d,tk,os⟩:=s;obtain⟨o,ho,hc,n,hd⟩:=id hl;have ho:h0.get? l=some o:=ho;have ty:Shared.TypeIs ⟨h0,g,d,tk,os⟩ (.ref l) "list":= ⟨o,ho,hc⟩;have f1:=s_rev.lookup;have f2:=s_rev.bind (.ref l);have f3:=zCo.sub;refine qCy ?_;show wpAny _ A.in1 (do checkBuiltinCall "reversed.__new__" ⟨[.type "reversed",.ref l],[]⟩;again (.builtin "reversed.__new__" ⟨[.type "reversed",.ref l],[]⟩)) _ _ _;refine qAA (qB9 (nc_rev _) (qAE ⟨qBo pl_rev _,qBI en_rev ?_⟩));rw[qBd pl_rev _];unfold Builtin.«reversed.__new__»
 repeat (any_goals (first|assumption|wp_step))
 refine qCB s_rev.plain e_rev (s_rev.check _ _ _ _ _ _ _ _ ty (a_rev _) ?_);unfold Builtin.«list.__reversed__»;refine qAA (qAE ?_);refine qAA ?_;unfold Builtin.List.listItems;refine qAA (qCV ho hd (qAE ?_));exact qAA (qBk (qAE (qAE q)) (by size_fits))
theorem rev_new{ys:Array Value}{Q:Value->Shared->Prop}(hl:s.heap.IsList l ys)
  (q:∀k,(∀b o,s.heap.get? b=some o->k.get? b=some o)->IsRev k s.heap.objs.size l ((ys.size:Int)-1)->k.objs.size=s.heap.objs.size+1->Q (.ref s.heap.objs.size) {s with heap:=k}):wpAny (model P w) A (call (.type "reversed") [.ref l]) Q E s:=by
 obtain⟨h0,g,d,tk,os⟩:=s;obtain⟨o,ho,hc,n,hd⟩:=id hl;have ho:h0.get? l=some o:=ho;have ty:Shared.TypeIs ⟨h0,g,d,tk,os⟩ (.ref l) "list":= ⟨o,ho,hc⟩;obtain⟨c,tl,hmro⟩:=zCo.mro;have hmade:=zCo.made;have hsub:=zCo.sub;have h1:=zCo.notType;have h2:=zCo.canCreate;refine qBh (qCy ?_);show wpAny _ _ (callAny (.type "reversed") _) _ _ _;refine qAE ⟨Code.quiet_builtin _ (by decide +kernel),qBI F.entry_type_call ?_⟩;rw[Around.under_plain (qDx "reversed" [.ref l] []) rfl];have hct:=tc_rev (.ref l)
 repeat (any_goals (first|assumption|wp_step))
 refine qBi (rev_code (E:=E) (Q:=λv s1=>v= .ref h0.objs.size/\s1=⟨h0.push {cls:=.type "list_reverseiterator",data:=.fields #[.ref l,rawInt ((ys.size:Int)-1)]},g,d,tk,os⟩) hl ⟨rfl,rfl⟩) λr s1 hr=>?_
 cases r with
 |error e=>exact hr
 |ok fl=>
  cases fl with
  |ret v=>
   obtain⟨rfl,rfl⟩:=hr;have t1:Shared.TypeIs ⟨h0.push {cls:=.type "list_reverseiterator",data:=.fields #[.ref l,rawInt ((ys.size:Int)-1)]},g,d,tk,os⟩ (.ref h0.objs.size) "list_reverseiterator":= ⟨_,qAX _ rfl,rfl⟩;refine qAA (qCC t1 sub_rev ?_);simp only[Bool.not_false,qBj];exact qAA (qBb (qAE (q _ (λb o y=>qAG _ y) (qAX _ rfl) (qBE ..))))
  |_=>exact hr.elim
end
theorem own_obj:Manifest.owners.lookup (String.ofList "object".toList.reverse.reverse)=some Manifest.sig_object:=by kernel_rfl
theorem a_ga(a b:Value):argsOk "object.__getattribute__" ⟨[a,b],[]⟩:=by
 unfold argsOk;rw[qDW (id:="object.__getattribute__") (n:="__getattribute__".toList.reverse) (o:="object".toList.reverse) (by kernel_rfl) own_obj];kernel_rfl
theorem e_ga:entryFor table "object.__getattribute__"=some Builtin.«object.__getattribute__»:=qC2 (by kernel_rfl)
theorem miss_m(r l:Addr)(i:Int)(u:Tok) :
  Meets (Builtin.«object.__getattribute__» ⟨[.ref r,.str "keys" u],[]⟩) (λA R s=>IsRev s.heap r l i/\raisesAttr (.ref r) "keys" A R s) :=
 Meets.of_wp λP w A R s hs=>by
  obtain⟨h0,g,d,tk,os⟩:=s;obtain⟨hx,hs⟩:=hs;have hx:h0.get? r=some {cls:=.type "list_reverseiterator",dict:=none,data:=.fields #[.ref l,.int i 0],slots:=#[]}:=hx;have ty:Shared.TypeIs ⟨h0,g,d,tk,os⟩ (.ref r) "list_reverseiterator":= ⟨_,hx,rfl⟩;have nk:=no_keys;unfold Builtin.«object.__getattribute__»
  repeat (any_goals (first|assumption|wp_step))
  exact wpAny_raiseAttrError hs.1 hs.2 (attrMsg_fits (by decide +kernel) (by decide +kernel))
section
variable{P:Program}{w:World}{A:Around}{E:Value->Shared->Prop}{s:Shared}
theorem miss_keys{i:Int}{Q:Option Value->Shared->Prop}(hh:A.handled=none)(hr:IsRev s.heap r l i)(q:∀k tk,(∀b o,s.heap.get? b=some o->k.get? b=some o)->Q none {s with heap:=k,toks:=tk}) :
  wpAny (model P w) A (getAttr? (.ref r) "keys") Q E s:=by
 obtain⟨h0,g,d,tk,os⟩:=s;have hr:h0.get? r=some {cls:=.type "list_reverseiterator",dict:=none,data:=.fields #[.ref l,.int i 0],slots:=#[]}:=hr;have ty:∀t,Shared.TypeIs ⟨h0,g,d,t,os⟩ (.ref r) "list_reverseiterator":= λ_=>⟨_,hr,rfl⟩;have f1:=sub_AttributeError;have f3:=s_ga.lookup;have f4:=s_ga.bind (.ref r);have f5:=no_ga;unfold getAttr? getAttrBy? getAttrBy
 repeat (any_goals (first|assumption|exact ty _|((with_reducible show wpAny _ _ (call (Value.builtin "object.__getattribute__") _ _) _ _ _);refine qB4 s_ga (ty _) e_ga (a_ga _ _) (miss_m r l i _) ⟨hr,hh,λh' tk' e hx'=>?_⟩)|wp_step))
 obtain⟨t',u',he⟩:=hx'.there;show wpAny _ _ (getattributeRaised _ _ _ _ _ _ _) _ _ _;unfold getattributeRaised
 repeat (any_goals (first|assumption|wp_step))
 exact q _ _ hx'.keeps
def PairsIn[DecidableEq K](knd:KeyKind P w K)(h:Heap)(ys:Array Value)(vs:List (K×Value)):Prop :=
 ys.size=vs.length/\∀(j:Nat)(k:K)(v:Value),vs[j]?=some (k,v)->∃(t:Addr)(key:Value)(n:Nat),ys[j]?=some (.ref t)/\knd.is k key=true/\∃o,h.get? t=some o/\o.cls= .type "tuple"/\o.data= .seq #[key,v] n
theorem e_loop:entryFor table "dict.update.loop"=some Builtin.«dict.update.loop»:=qC2 (by kernel_rfl)
theorem p_loop:plainId "dict.update.loop"=true:=by decide +kernel
theorem stored_new[DecidableEq K]{kvs:List (K×Value)}{k:K}{v:Value}(h:k∉kvs.map (·.1)):stored kvs k v=kvs++[(k,v)]:=by
 unfold stored;rw[qAB];intro z;rw[qCn]at z;obtain⟨kv,h1,h2⟩:=z;exact h (qAW.mpr ⟨kv,h1,by simpa using h2⟩)
theorem fill_loop[DecidableEq K]{knd:KeyKind P w K}{R:Result->Shared->Prop}{d r l:Addr}{ys:Array Value}{vs:List (K×Value)}{res:Value}(hh:A.handled=none)(dr:d≠r)(sz:vs.length<=sizeLine) :
  ∀(i:Nat)(s:Shared) (done:List (K×Value)) (c:Int),i<=vs.length->IsRev s.heap r l ((i:Int)-1)->s.heap.IsList l ys->PairsIn knd s.heap ys vs->s.heap.DictOf knd d done->((done++(vs.take i).reverse).map (·.1)).Nodup->done.length+i<=vs.length ->
  (∀k tk,(∀b o,b≠d->b≠r->s.heap.get? b=some o->k.get? b=some o)->(∃o,k.get? r=some o)->k.DictOf knd d (done++(vs.take i).reverse)->R (.ok (.ret res)) {s with heap:=k,toks:=tk}) ->
  codeAny (model P w) A (.builtin "dict.update.loop" ⟨[.ref d,.ref r,.int c 0,res],[]⟩) R s:=by
 intro i
 induction i with
 |zero=>
  intro s done c hi hr hl hp hd nd hz q;refine qBI e_loop ?_;rw[qBd p_loop _];unfold Builtin.«dict.update.loop»;refine qAA (rev_end (A:=A.in1) hh hr (by lia) λk hk=>?_);refine qAA (qAE (qAE ?_));exact q k s.toks (λb o _ _ y=>hk b o y) ⟨_,hk _ _ hr⟩ (by simpa using hd.at λo y=>hk _ o y)
 |succ i ih=>
  intro s done c hi hr hl hp hd nd hz q;obtain⟨h0,g,dd,tk,os⟩:=s;refine qBI e_loop ?_;rw[qBd p_loop _];unfold Builtin.«dict.update.loop»;have hlt:i<vs.length:=hi;obtain⟨t,key,n,e1,e2,ot,e3,e3c,e3d⟩:=hp.2 i (vs[i]).1 (vs[i]).2 (qAV hlt);have hr:IsRev h0 r l (i:Nat):=by have:=hr;simpa using this
  refine qAA (rev_next hr hl e1 λk hr1 sb=>?_);have sb:Heap.SameBut r h0 k:=sb;have ne_t:t≠r:=λz=>by rw[z]at e3;have:=e3.symm.trans hr;cases this;simp at e3c
  have e4:k.get? t=some ot:=(sb.2 t ne_t).trans e3;have hd1:k.DictOf knd d done:=hd.at λo y=>(sb.2 d dr).trans y;refine qAA ?_;refine qA6 ?_;refine qAA (wpAny_tryCatch ?_);unfold Builtin.Dict.pairItems;refine qAA (qB8 (T:="tuple") ⟨_,e4,e3c⟩ ?_);rw[qAC (by decide)];refine qAA (qCV e4 e3d (qAE ?_));have tk1:(vs.take (i+1)).reverse=vs[i]::(vs.take i).reverse:=by rw[List.take_succ_eq_append_getElem hlt,List.reverse_append];rfl
  have cut:done++(vs.take (i+1)).reverse=(done++[((vs[i]).1,(vs[i]).2)])++(vs.take i).reverse:=by rw[tk1,qB3];rfl
  rw[cut]at nd q
  have nw:(vs[i]).1∉done.map (·.1):=by
   have n1:=nd;rw[qAN,qAN]at n1;have n2:=(qBX.mp n1).1;have n3:=(qBX.mp n2).2.2;intro z;exact n3 _ z _ (by simp) rfl
  show wpAny _ _ (holding [key,(vs[i]).2] (dictSet d key (vs[i]).2)) _ _ _;refine qA6 (wpAny_dictSet_pairs e2 hd1 (λk2 hd2 sb2=>?_) (by lia));have sb2:Heap.SameBut d k k2:=sb2;rw[stored_new nw]at hd2
  have ne_dl:l≠d:=λz=>by
   obtain⟨o,es,ep,y,ex,_⟩:=hd;obtain⟨o',y',c',_⟩:=hl;rw[z]at y';have:=y.symm.trans y'
   cases this
   have:=ex.1.symm.trans c';simp at this
  have ne_rl:l≠r:=λz=>by
   obtain⟨o',y',c',_⟩:=hl;rw[z]at y';have:=y'.symm.trans hr
   cases this
   simp at c'
  refine qAE ⟨qBo p_loop _,ih ⟨k2,g,dd,tk+1,os⟩ _ (c+1) (by lia) ((sb2.2 r dr.symm).trans hr1) (hl.at λo y=>(sb2.2 l ne_dl).trans ((sb.2 l ne_rl).trans y)) ⟨hp.1,λj kk v e=>?_⟩ hd2 nd (by simp;lia) λk3 tk3 k4 k5 hd3=>?_⟩
  .obtain ⟨t',key',n',e1',e2',o',e3',e4',e5'⟩:=hp.2 j kk v e;have n1:t'≠r:=λz=>by rw[z]at e3';have:=e3'.symm.trans hr;cases this;simp at e4'
   have n2:t'≠d:=λz=>by
    obtain⟨o,es,ep,y,ex,_⟩:=hd;rw[z]at e3';have:=y.symm.trans e3'
    cases this
    have:=ex.1.symm.trans e4';simp at this
   exact⟨t',key',n',e1',e2',o',(sb2.2 t' n2).trans ((sb.2 t' n1).trans e3'),e4',e5'⟩
  .exact q k3 tk3 (λb o h1 h2 y=>k4 b o h1 h2 ((sb2.2 b h1).trans ((sb.2 b h2).trans y))) k5 hd3
theorem dict_rev[DecidableEq K]{knd:KeyKind P w K}{r l:Addr}{ys:Array Value}{vs:List (K×Value)}{Q:Value->Shared->Prop}(hh:A.handled=none)(hr:IsRev s.heap r l ((ys.size:Int)-1))(hl:s.heap.IsList l ys)(hp:PairsIn knd s.heap ys vs)(nd:(vs.map (·.1)).Nodup)(sz:vs.length<=sizeLine)
  (q:∀k tk,(∀b o,b≠r->s.heap.get? b=some o->k.get? b=some o)->(∃o,k.get? r=some o)->k.DictOf knd s.heap.objs.size vs.reverse->Q (.ref s.heap.objs.size) {s with heap:=k,toks:=tk}):wpAny (model P w) A (call (.type "dict") [.ref r]) Q E s:=by
 refine callType_codes (Q₁:=λobj s₁=>obj= .ref s.heap.objs.size/\s₁={s with heap:=s.heap.push {cls:=.type "dict",data:=.dict #[]}}) F.kt_called_dict (F.kt_typeCall_dict_1 _) F.entry_dict_init (kt_code_dict_new _ ⟨rfl,rfl⟩) λobj s1 h1=>?_;obtain⟨rfl,rfl⟩:=h1;have hnew:(s.heap.push {cls:=.type "dict",data:=.dict #[]}).DictOf knd s.heap.objs.size []:=Heap.DictOf.new s.heap;refine⟨hnew.typeIs,F.args_dict_init_2 _ _,?_⟩;unfold Builtin.«dict.__init__»;refine qAA ?_;unfold Builtin.Dict.selfAndRest;refine qAA (wpAny_notOrdered_dict hnew.typeIs ?_);show wpAny _ _ (pure (s.heap.objs.size,[Value.ref r])) _ _ _;refine qAE ?_;show wpAny _ _ (Builtin.Dict.updateFrom "dict.__init__" s.heap.objs.size (.ref r) [] .none) _ _ _;unfold Builtin.Dict.updateFrom;have hr1:IsRev (s.heap.push {cls:=.type "dict",data:=.dict #[]}) r l ((ys.size:Int)-1):=qAG _ hr;refine qAA (qB8 (T:="list_reverseiterator") ⟨_,hr1,rfl⟩ ?_);rw[qAC (by decide)];refine qAA (miss_keys (A:=A.in1.in1) hh hr1 λk tk hk=>?_);have hk:∀b o,(s.heap.push {cls:=.type "dict",data:=.dict #[]}).get? b=some o->k.get? b=some o:=hk;simp only[Option.isNone_none,qBj];refine qAA (qBb ?_);have hr2:IsRev k r l ((ys.size:Int)-1):=hk _ _ hr1;refine qAA (rev_self (i:=(ys.size:Int)-1) hr2 ?_);have up:∀b o,s.heap.get? b=some o->k.get? b=some o:=λb o y=>hk b o (qAG _ y);have tk0:vs.take vs.length=vs:=qAb;refine qAE ⟨qBo p_loop _,fill_loop (A:=A.in1) (knd:=knd) (vs:=vs) (l:=l) (ys:=ys) hh (qAt (qAH hr)) sz vs.length _ [] 0 (qAF _) (by rw[<-hp.1];exact hr2) (hl.at λo y=>up l o y) ⟨hp.1,λj kk v e=>?_⟩ (hnew.at λo y=>hk _ o y) ?_ (by simp) λk2 tk2 k3 k5 hd=>?_⟩
 .obtain ⟨t',key',n',e1',e2',o',e3',e4'⟩:=hp.2 j kk v e;exact⟨t',key',n',e1',e2',o',up _ _ e3',e4'⟩
 .rw [tk0,qDB,List.map_reverse];exact(List.reverse_perm _).nodup_iff.mpr nd
 .rw [tk0,qDB]at hd;exact⟨rfl,q k2 tk2 (λb o n y=>k3 b o (qAO (qAH y)) n (up b o y)) k5 hd⟩
end
abbrev IsIt(h:Heap)(it d:Addr)(z0 z1:Value)(i n ep:Nat)(ok ov:Value):Prop :=
 h.get? it=some {cls:=.type "dict_itemiterator",dict:=none,data:=.fields #[z0,z1,.ref d,.int i 0,.int n 0,.int ep 0,ok,ov],slots:=#[]}
section
variable{P:Program}{w:World}{A:Around}{E:Value->Shared->Prop}{s:Shared}
theorem alive{a:Addr}{Q:Option Obj->Shared->Prop}(q:Q (s.heap.get? a) s):wpAny (model P w) A (loadIfAlive a) Q E s:=λ_ _ _=>q
theorem it_again[DecidableEq K]{knd:KeyKind P w K}{a:Addr}{kvs:List (K×Value)}{k:K}{v ok ov:Value}{b:Bool}{oa:Obj}{Q:Option Value->Shared->Prop}(hit:IsIt s.heap it d (rawInt a) (.bool b) i kvs.length ep ok ov)
  (ha:s.heap.get? a=some oa) (hm:s.heap.DictAt knd d kvs ep) (hx:kvs[i]?=some (k,v))
  (q:∀key h',knd.is k key=true->IsIt h' it d (rawInt a) (.bool true) (i+1) kvs.length ep ok ov->h'.get? s.heap.objs.size=some {cls:=.type "tuple",data:=.seq #[key,v]}->h'.objs.size=s.heap.objs.size+1 ->
   (∀b o,b≠it->s.heap.get? b=some o->h'.get? b=some o)->Q (some (.ref s.heap.objs.size)) {s with heap:=h'}):wpAny (model P w) A (pyNext (.ref it)) Q E s:=by
 obtain⟨h0,g,dr,tk,os⟩:=s;have hit:h0.get? it=some {cls:=.type "dict_itemiterator",dict:=none,data:=.fields #[rawInt a,.bool b,.ref d,.int i 0,.int kvs.length 0,.int ep 0,ok,ov],slots:=#[]}:=hit;have ty:Shared.TypeIs ⟨h0,g,dr,tk,os⟩ (.ref it) "dict_itemiterator":= ⟨_,hit,rfl⟩;have f1:=mroOf_itemiter;obtain⟨od,es,hod,hcd,hdd,hk,hpr,hn⟩:=id hm;obtain⟨oc,oq,odt,osl⟩:=od;have hdd:odt= .dict es ep:=hdd;subst hdd;have hod:h0.get? d=some {cls:=oc,dict:=oq,data:=.dict es ep,slots:=osl}:=hod;have hsz:es.size=kvs.length:=by rw[<-hpr.length];simp
 have hlt:i<es.size:=by rw[hsz];exact(qAf.mp hx).1
 obtain⟨hkey,hval⟩:=hpr.get? (e:=es[i]) (by simp[hlt]) hx;have c1:((es.size:Int) != (kvs.length:Int))=false:=by rw[hsz];simp
 have c2:((ep:Int) != (ep:Int))=false:=by simp
 unfold pyNext;refine qAA (qBa (qBv (name:=Str.ofString "__next__") ty qDX (qBJ qDX ty F.entry_dict_itemiterator_next ?_ (F.args_dict_itemiterator_next_1 _))));unfold Builtin.«dict_itemiterator.__next__»
 repeat (any_goals (first|assumption|wp_step|simp only[c1,qBQ,qA7]|simp only[c2,qBQ,qA7]|simp only[show¬((i:Int)<0)from by lia,qA7,qBU,qDv hlt]))
 rw[qAC (c:=(Builtin.Dict_items.ownsTuple _=true)) ?own,qAB (c:=(List.any _ _=true)) ?bw]
 case own=>decide +kernel
 case bw=>decide +kernel
 have e1:(h0.update it (Obj.mapFields λx=>x.setIfInBounds (2+1) (rawInt ((i:Int)+1)))).get? it=some {cls:=.type "dict_itemiterator",dict:=none,data:=.fields #[rawInt a,.bool b,.ref d,.int ((i:Int)+1) 0,.int kvs.length 0,.int ep 0,ok,ov],slots:=#[]}:=qBA _ hit rfl;have o1:∀b o,b≠it->h0.get? b=some o->(h0.update it (Obj.mapFields λx=>x.setIfInBounds (2+1) (rawInt ((i:Int)+1)))).get? b=some o:=λb o nb y=>(qBG _ _ (qAj nb)).trans y;have z1:(h0.update it (Obj.mapFields λx=>x.setIfInBounds (2+1) (rawInt ((i:Int)+1)))).objs.size=h0.objs.size:=by simp
 generalize h0.update it (Obj.mapFields λx=>x.setIfInBounds (2+1) (rawInt ((i:Int)+1)))=h1 at e1 o1 z1 ⊢
 obtain⟨oa',ha'⟩:∃o,h1.get? a=some o:=by
  by_cases z:a=it
  .exact ⟨_,by rw[z];exact e1⟩
  .exact ⟨oa,o1 a oa z ha⟩
 rw[<-hval]at q;have ci:((i:Int)+1)=((i+1:Nat):Int):=by lia
 rw[ci]at e1;have ilt:it<h0.objs.size:=qAH hit;have e2:=qAG {cls:=.type "tuple",data:=.seq #[es[i].key,es[i].val]} e1;have a2:=qAG {cls:=.type "tuple",data:=.seq #[es[i].key,es[i].val]} ha';have o2:∀b o,b≠it->h0.get? b=some o->(h1.push {cls:=.type "tuple",data:=.seq #[es[i].key,es[i].val]}).get? b=some o:=λb o nb y=>qAG _ (o1 b o nb y);have t2:(h1.push {cls:=.type "tuple",data:=.seq #[es[i].key,es[i].val]}).get? h0.objs.size=some {cls:=.type "tuple",data:=.seq #[es[i].key,es[i].val]}:=by rw[<-z1];exact qAX _ rfl
 have z2:(h1.push {cls:=.type "tuple",data:=.seq #[es[i].key,es[i].val]}).objs.size=h0.objs.size+1:=by rw[qBE,z1]
 rw[z1];generalize h1.push {cls:=.type "tuple",data:=.seq #[es[i].key,es[i].val]}=h2 at e2 a2 o2 t2 z2 ⊢;show wpAny _ _ (loadIfAlive a) _ _ _;refine alive ?_;rw[show(Shared.heap ⟨h2,g,dr,tk,os⟩).get? a=some oa' from a2];simp only[Option.isNone_some,qBQ,qA7];refine qAA (qBg (s:=⟨h2,g,dr,tk,os⟩) e2 rfl (x:=.bool b) rfl ?_)
 cases b with
 |true=>
  rw[qAB (by decide)];refine qAE ?_;rw[qAB (by decide)];exact qAE (qAE ⟨_,rfl,qAE (q _ h2 hkey e2 t2 z2 o2)⟩)
 |false=>
  rw[qAC (by decide)];refine qAA (qCE (s:=⟨h2,g,dr,tk,os⟩) e2 (by simp) λh3 e3 b3=>?_);have b3:Heap.SameBut it h2 h3:=b3;refine qAE ?_;rw[qAB (by decide)];exact qAE (qAE ⟨_,rfl,qAE (q _ h3 hkey e3 (b3.extBut _ _ (qAt ilt) t2) (by rw[b3.1];exact z2) λb o nb y=>b3.extBut b o nb (o2 b o nb y))⟩)
def ItSt(h:Heap)(it d:Addr)(i n ep:Nat):Prop:=∃z0 b ok ov,IsIt h it d z0 (.bool b) i n ep ok ov/\((z0= .none/\b=false)\/∃a oa,z0=rawInt (a:Nat)/\h.get? a=some oa)
theorem it_next[DecidableEq K]{knd:KeyKind P w K}{kvs:List (K×Value)}{k:K}{v:Value}{Q:Option Value->Shared->Prop}(hit:ItSt s.heap it d i kvs.length ep)(hm:s.heap.DictAt knd d kvs ep)(hx:kvs[i]?=some (k,v))
  (q:∀key h',knd.is k key=true->ItSt h' it d (i+1) kvs.length ep->h'.get? s.heap.objs.size=some {cls:=.type "tuple",data:=.seq #[key,v]}->h'.objs.size=s.heap.objs.size+1 ->
   (∀b o,b≠it->s.heap.get? b=some o->h'.get? b=some o)->Q (some (.ref s.heap.objs.size)) {s with heap:=h'}):wpAny (model P w) A (pyNext (.ref it)) Q E s:=by
 obtain⟨z0,b,ok,ov,h1,h2⟩:=hit;rcases h2 with⟨rfl,rfl⟩|⟨a,oa,rfl,ha⟩
 .exact wpAny_pyNext_items_item h1 hm hx λkey h' x1 x2 x3 x4 x5=>q key h' x1 ⟨_,false,_,_,x2,.inr ⟨_,_,rfl,x3⟩⟩ x3 x4 x5
 .refine it_again h1 ha hm hx λkey h' x1 x2 x3 x4 x5=>q key h' x1 ⟨_,true,_,_,x2,.inr ⟨a,?_⟩⟩ x3 x4 x5
  by_cases z:a=it
  .exact ⟨_,rfl,by rw[z];exact x2⟩
  .exact ⟨oa,rfl,x5 a oa z ha⟩
theorem it_end[DecidableEq K]{knd:KeyKind P w K}{kvs:List (K×Value)}{Q:Option Value->Shared->Prop}(hh:A.handled=none)(hit:ItSt s.heap it d i kvs.length ep)(hm:s.heap.DictAt knd d kvs ep)(hx:kvs[i]?=none)
  (q:∀h',(∀b o,b≠it->s.heap.get? b=some o->h'.get? b=some o)->Q none {s with heap:=h'}):wpAny (model P w) A (pyNext (.ref it)) Q E s:=by
 obtain⟨h0,g,dr,tk,os⟩:=s;obtain⟨z0,b,ok,ov,hit,_⟩:=hit;have hit:h0.get? it=some {cls:=.type "dict_itemiterator",dict:=none,data:=.fields #[z0,.bool b,.ref d,.int i 0,.int kvs.length 0,.int ep 0,ok,ov],slots:=#[]}:=hit;have ty:Shared.TypeIs ⟨h0,g,dr,tk,os⟩ (.ref it) "dict_itemiterator":= ⟨_,hit,rfl⟩;have f1:=mroOf_itemiter;obtain⟨od,es,hod,hcd,hdd,hk,hpr,hn⟩:=id hm;obtain⟨oc,oq,odt,osl⟩:=od;have hdd:odt= .dict es ep:=hdd;subst hdd;have hod:h0.get? d=some {cls:=oc,dict:=oq,data:=.dict es ep,slots:=osl}:=hod;have hsz:es.size=kvs.length:=by rw[<-hpr.length];simp
 have hge:es.size<=i:=by rw[hsz];simpa using hx
 have c1:((es.size:Int) != (kvs.length:Int))=false:=by rw[hsz];simp
 have c2:((ep:Int) != (ep:Int))=false:=by simp
 unfold pyNext;refine qAA (qBa (qBv (name:=Str.ofString "__next__") ty qDX (qBJ qDX ty F.entry_dict_itemiterator_next ?_ (F.args_dict_itemiterator_next_1 _))));unfold Builtin.«dict_itemiterator.__next__»;have hh1:A.in1.handled=none:=hh
 repeat (any_goals (first|assumption|wp_step|simp only[c1,qBQ,qA7]|simp only[c2,qBQ,qA7]|simp only[show¬((i:Int)<0)from by lia,qA7,qBU,Array.getElem?_eq_none hge]))
 simp only[raiseNew];refine qAA (wpAny_handled ?_);rw[hh1];refine qAA (qAE (wpAny_throw ?_));refine qAA (qCC (T:="StopIteration") (b:=true) ⟨_,qAX _ rfl,rfl⟩ qDR ?_);exact qAE (q _ λb o nb y=>qAG _ (qAG _ ((qBG _ _ (qAj nb)).trans y)))
end
section
variable{P:Program}{w:World}{A:Around}{E:Value->Shared->Prop}{s:Shared}
def Tups[DecidableEq K](knd:KeyKind P w K)(h:Heap)(lo:Nat)(ts:List Addr)(vs:List (K×Value)):Prop :=
 ts.length=vs.length/\ts.Nodup/\(∀t∈ts,lo<=t/\t<h.objs.size)/\∀(j:Nat)(t:Addr)(k:K)(v:Value),ts[j]?=some t->vs[j]?=some (k,v)->∃key,knd.is k key=true/\h.get? t=some {cls:=.type "tuple",data:=.seq #[key,v]}
theorem gather[DecidableEq K]{knd:KeyKind P w K}{R:Result->Shared->Prop}{S it d:Addr}{ep lo:Nat}{vs:List (K×Value)}{res:Value}(hh:A.handled=none)(nS:S≠it)(nd:d≠S)(nd':d≠it)(sz:vs.length<=sizeLine) :
  ∀(j i:Nat)(s:Shared)(ts:List Addr)(c:Nat),vs.length-i=j->i<=vs.length->lo<=s.heap.objs.size->S<lo->ItSt s.heap it d i vs.length ep->s.heap.DictAt knd d vs ep->s.heap.get? S=some {cls:=.type "list",dict:=none,data:=.seq (ts.map Value.ref).toArray c,slots:=#[]} ->
  it<lo->Tups knd s.heap lo ts (vs.take i)->(∀k ts' c',(∀b o,b≠S->b≠it->s.heap.get? b=some o->k.get? b=some o)->k.get? S=some {cls:=.type "list",dict:=none,data:=.seq (ts'.map Value.ref).toArray c',slots:=#[]}->Tups knd k lo ts' vs->R (.ok (.ret res)) {s with heap:=k}) ->
  codeAny (model P w) A (.builtin "list.extend.loop" ⟨[.ref S,.ref it,res],[]⟩) R s:=by
 intro j
 induction j with
 |zero=>
  intro i s ts c hj hi hlo hS hit hm hl hil tu q;have e:i=vs.length:=by lia
  subst e;refine qBI F.entry_extend_loop ?_;rw[qBd qC1 _];show wpAny _ A.in1 (pyNext (.ref it) >>= _) _ _ s;refine qAA (it_end (A:=A.in1) hh hit hm (by simp) λk hk=>qAE ?_);rw[qAb]at tu;refine q k ts c (λb o _ n y=>hk b o n y) (hk _ _ nS hl) ?_;obtain⟨a1,a2,a3,a4⟩:=tu;refine⟨a1,a2,λt ht=>⟨(a3 t ht).1,?_⟩,λj t kk v x y=>?_⟩
  .obtain ⟨n,hn,e⟩:=qA1.mp ht;obtain⟨key,_,z⟩:=a4 n t vs[n].1 vs[n].2 (by rw[<-e];exact qAV hn) (qAV (by lia));exact qAH (hk t _ (qAt (qAi hil (a3 t ht).1)) z)
  .obtain ⟨key,z1,z2⟩:=a4 j t kk v x y;exact⟨key,z1,hk t _ (qAt (qAi hil (a3 t (qAJ x)).1)) z2⟩
 |succ j ih=>
  intro i s ts c hj hi hlo hS hit hm hl hil tu q;have hlt:i<vs.length:=by lia
  obtain⟨h0,g,dd,tk,os⟩:=s;have hl:h0.get? S=some {cls:=.type "list",dict:=none,data:=.seq (ts.map Value.ref).toArray c,slots:=#[]}:=hl;refine qBI F.entry_extend_loop ?_;rw[qBd qC1 _];show wpAny _ A.in1 (pyNext (.ref it) >>= _) _ _ _;refine qAA (it_next hit hm (k:=vs[i].1) (v:=vs[i].2) (qAV hlt) λkey k hkey hit1 ht hz hk=>?_);have hk:∀b o,b≠it->h0.get? b=some o->k.get? b=some o:=hk;have ht:k.get? h0.objs.size=some {cls:=.type "tuple",data:=.seq #[key,vs[i].2]}:=ht;have hz:k.objs.size=h0.objs.size+1:=hz;have hl1:=hk _ _ nS hl;obtain⟨a1,a2,a3,a4⟩:=tu;have tl:ts.length=i:=by rw[a1,qAR];lia
  show wpAny _ A.in1 (updateSeq S (·.push (.ref h0.objs.size)) >>= _) _ _ _;refine qAA (qCW hl1 rfl (qAE ⟨qBo qC1 _,?_⟩) (by simp;lia) (by show((ts.map Value.ref).toArray.push (.ref h0.objs.size)).size<=sizeLine+1;simp;lia));have oth:∀b o,b≠S->k.get? b=some o->(k.update S (Obj.mapSeq (·.push (Value.ref h0.objs.size)))).get? b=some o:=λb o n y=>(qBG _ _ (qAj n)).trans y;have lo':lo<=h0.objs.size:=hlo
  obtain⟨c9,SS⟩:∃c9,(k.update S (Obj.mapSeq (·.push (Value.ref h0.objs.size)))).get? S=some {cls:=.type "list",dict:=none,data:=.seq ((ts++[h0.objs.size]).map Value.ref).toArray c9,slots:=#[]}:=by
   have:=qBA (Obj.mapSeq (·.push (Value.ref h0.objs.size))) hl1 rfl;exact⟨_,this.trans (by simp[Obj.mapSeq];rfl)⟩
  refine ih (i+1) _ (ts++[h0.objs.size]) c9 (by lia) hlt (by show lo<=(k.update S _).objs.size;simp[hz];lia) hS ?_ (Heap.DictAt.at hm λo y=>oth d o nd (hk d o nd' y)) ?_ hil ?_ λk2 ts2 c2 o2 l2 t2=>q k2 ts2 c2 (λb o n1 n2 y=>o2 b o n1 n2 (oth b o n1 (hk b o n2 y))) l2 t2
  .obtain ⟨z0,b,ok,ov,x1,x2⟩:=hit1;refine⟨z0,b,ok,ov,oth _ _ nS.symm x1,?_⟩;rcases x2 with x2|⟨a,oa,x3,x4⟩
   .exact .inl x2
   .refine .inr ⟨a,?_⟩
    by_cases z:a=S
    .exact ⟨_,x3,by rw[z];exact qBA _ hl1 rfl⟩
    .exact ⟨oa,x3,oth a oa z x4⟩
  .exact SS
  .have up:∀t o,lo<=t->k.get? t=some o->(k.update S (Obj.mapSeq (·.push (Value.ref h0.objs.size)))).get? t=some o:=λt o h y=>oth t o (qAt (qAi hS h)) y;refine⟨by simp[tl];lia,?_,λt ht'=>?_,λj t kk v x y=>?_⟩
   .rw [qBX]
    exact⟨a2,by simp,λx hx y hy e=>by
     have hy:y=h0.objs.size:=by simpa using hy
     have hx:x<h0.objs.size:=(a3 x hx).2;rw[e,hy]at hx;exact qA8 _ hx⟩
   .show lo<=t/\t<(k.update S _).objs.size;rw[show(k.update S (Obj.mapSeq (·.push (Value.ref h0.objs.size)))).objs.size=k.objs.size by simp,hz];rcases qAT.mp ht' with z|z
    .have:t<h0.objs.size:=(a3 t z).2;exact⟨(a3 t z).1,qBN this⟩
    .have z:t=h0.objs.size:=by simpa using z
     rw[z];exact⟨lo',qBS _⟩
   .by_cases c':j<i
    .have x':ts[j]?=some t:=by rw[qBs (by lia)]at x;exact x
     have y':(vs.take i)[j]?=some (kk,v):=by
      rw[List.getElem?_take]at y ⊢;rw[qAC c'];rw[qAC (by lia)]at y;exact y
     obtain⟨key',z1,z2⟩:=a4 j t kk v x' y';exact⟨key',z1,up t _ (a3 t (qAJ x')).1 (hk t _ (qAt (qAi hil (a3 t (qAJ x')).1)) z2)⟩
    .have jl:j<(ts++[h0.objs.size]).length:=(qAf.mp x).1;have je:j=i:=by simp[tl]at jl;lia
     subst je;rw[qB1 (by lia),tl]at x;have x:h0.objs.size=t:=by simpa using x
     rw[List.getElem?_take,qAC (by lia),qAV hlt]at y;have y:vs[j]=(kk,v):=by simpa using y
     refine⟨key,by rw[y]at hkey;exact hkey,?_⟩;rw[<-x];refine up _ _ lo' ?_;rw[ht,y]
theorem sp_len:splitId "dict_items.__len__"=some ("dict_items","__len__"):=by decide +kernel
theorem list_view[DecidableEq K]{knd:KeyKind P w K}{v:Addr}{vs:List (K×Value)}{Q:Value->Shared->Prop}(hh:A.handled=none)(hv:s.heap.IsItemsView v d)(hm:s.heap.DictAt knd d vs ep)(sz:vs.length<=sizeLine)
  (q:∀k ts c,(∀b o,s.heap.get? b=some o->k.get? b=some o)->k.get? s.heap.objs.size=some {cls:=.type "list",dict:=none,data:=.seq (ts.map Value.ref).toArray c,slots:=#[]}->Tups knd k (s.heap.objs.size+1) ts vs->Q (.ref s.heap.objs.size) {s with heap:=k}) :
  wpAny (model P w) A (call (.type "list") [.ref v]) Q E s:=by
 obtain⟨h0,g,dd,tk,os⟩:=s;have hv:h0.IsItemsView v d:=hv;have hm:h0.DictAt knd d vs ep:=hm;have nv:v<h0.objs.size:=by obtain⟨o,y,_⟩:=hv;exact qAH y
 have ndd:d<h0.objs.size:=hm.lt_size;refine callType_codes (Q₁:=λobj s₁=>obj= .ref h0.objs.size/\s₁=⟨h0.push {cls:=.type "list",data:=.seq #[]},g,dd,tk,os⟩) F.called_list (F.typeCall_list_1 _) F.entry_list_init (code_list_new _ ⟨rfl,rfl⟩) λobj s1 h1=>?_;obtain⟨rfl,rfl⟩:=h1;have hS:(h0.push {cls:=.type "list",data:=.seq #[]}).get? h0.objs.size=some {cls:=.type "list",data:=.seq #[]}:=qAX _ rfl;refine⟨⟨_,hS,rfl⟩,F.args_list_init_2 _ _,?_⟩;show wpAny _ A.in1.in1 (do let old<-Builtin.List.listItems (.ref h0.objs.size);Builtin.List.listUpdate (.ref h0.objs.size) (λ_=>#[]);letGo old.toList.reverse;Builtin.List.listExtendWith (.ref h0.objs.size) (.ref v) .none) _ _ _;refine qAA ?_;unfold Builtin.List.listItems;refine qAA (qCV hS rfl (qAE ?_));show wpAny _ A.in1.in1 (updateSeq h0.objs.size (λ_=>#[]) >>= λ_=>letGo (#[]:Array Value).toList.reverse >>= λ_=>Builtin.List.listExtendWith (.ref h0.objs.size) (.ref v) .none) _ _ _;refine qAA (qCW hS rfl ?_);have S1:=qBA (Obj.mapSeq (λ_=>(#[]:Array Value))) hS rfl;have o1:∀b o,h0.get? b=some o->((h0.push {cls:=.type "list",data:=.seq #[]}).update h0.objs.size (Obj.mapSeq (λ_=>(#[]:Array Value)))).get? b=some o:=λb o y=>(qBG _ _ (qAt (qAH y))).trans (qAG _ y);have z1:((h0.push {cls:=.type "list",data:=.seq #[]}).update h0.objs.size (Obj.mapSeq (λ_=>(#[]:Array Value)))).objs.size=h0.objs.size+1:=by simp
 generalize (h0.push {cls:=.type "list",data:=.seq #[]}).update h0.objs.size (Obj.mapSeq (λ_=>(#[]:Array Value)))=h1 at S1 o1 z1 ⊢;refine qAA (wpAny_letGo ?_);have hv1:h1.IsItemsView v d:=by obtain⟨o,y,r⟩:=hv;exact⟨o,o1 _ _ y,r⟩
 have hm1:h1.DictAt knd d vs ep:=Heap.DictAt.at hm λo y=>o1 _ _ y;unfold Builtin.List.listExtendWith;refine qAA (qB8 (T:="dict_items") hv1.typeIs ?_)
 have d1:Builtin.List.listSameRef (.ref h0.objs.size) (.ref v)=false:=by
  show(h0.objs.size==v)=false;exact qBD.mpr (qAt nv)
 have d2:(Value.type "dict_items"== Value.type "list")=false:=by decide
 have d3:(Value.type "dict_items"== Value.type "tuple")=false:=by decide
 simp only[d1,d2,d3,qC9,qBQ,qA7];refine qAA (wpAny_pyIter_items hv1 hm1 ?_);have S2:=qAG {cls:=.type "dict_itemiterator",data:=.fields #[.none,.bool false,.ref d,.int 0 0,.int vs.length 0,.int ep 0,.none,.none]} S1;have o2:∀b o,h0.get? b=some o->(h1.push {cls:=.type "dict_itemiterator",data:=.fields #[.none,.bool false,.ref d,.int 0 0,.int vs.length 0,.int ep 0,.none,.none]}).get? b=some o:=λb o y=>qAG _ (o1 b o y);have i2:ItSt (h1.push {cls:=.type "dict_itemiterator",data:=.fields #[.none,.bool false,.ref d,.int 0 0,.int vs.length 0,.int ep 0,.none,.none]}) h1.objs.size d 0 vs.length ep:=⟨_,_,_,_,qAX _ rfl,.inl ⟨rfl,rfl⟩⟩;have z2:(h1.push {cls:=.type "dict_itemiterator",data:=.fields #[.none,.bool false,.ref d,.int 0 0,.int vs.length 0,.int ep 0,.none,.none]}).objs.size=h0.objs.size+2:=by rw[qBE,z1]
 show wpAny _ _ (_ >>= _) _ _ ⟨h1.push {cls:=.type "dict_itemiterator",data:=.fields #[.none,.bool false,.ref d,.int 0 0,.int vs.length 0,.int ep 0,.none,.none]},g,dd,tk,os⟩;generalize h1.push {cls:=.type "dict_itemiterator",data:=.fields #[.none,.bool false,.ref d,.int 0 0,.int vs.length 0,.int ep 0,.none,.none]}=h2 at S2 o2 i2 z2 ⊢;have ty2:Shared.TypeIs ⟨h2,g,dd,tk,os⟩ (.ref v) "dict_items":= by obtain⟨o,y,c,_⟩:=hv;exact⟨o,o2 _ _ y,c⟩
 have f1:=view_len;have f2:=view_sub;refine qAA (qA6 ?_);unfold Builtin.List.listLengthHint;refine qAA (qDE ty2 view_len ?_);simp only[sp_len];refine qAA (qCC ty2 view_sub ?_);simp only[Bool.not_true,qBQ,qA7];rw[qAC ?si]
 case si=>decide +kernel
 refine qAA (qB8 ty2 (qAE ?_));rw[qAC ?rs]
 case rs=>decide +kernel
 refine qAA (qBb (qAA ?_));show wpAny _ _ (updateSeq h0.objs.size (·.push .none) >>= λ_=>updateSeq h0.objs.size (·.pop)) _ _ _;refine qAA (qCW S2 rfl ?_);have S3:=qBA (Obj.mapSeq (·.push Value.none)) S2 rfl;refine qCW (hz:=by seq_fits) S3 rfl ?_;have S4:=qBA (Obj.mapSeq (·.pop)) S3 rfl;have oth:∀b o,b≠h0.objs.size->h2.get? b=some o->((h2.update h0.objs.size (Obj.mapSeq (·.push Value.none))).update h0.objs.size (Obj.mapSeq (·.pop))).get? b=some o:=λb o n y=>(qBG _ _ (qAj n)).trans ((qBG _ _ (qAj n)).trans y);have z4:((h2.update h0.objs.size (Obj.mapSeq (·.push Value.none))).update h0.objs.size (Obj.mapSeq (·.pop))).objs.size=h0.objs.size+2:=by simp[z2]
 refine qAE ⟨qBo qC1 _,gather (A:=A.in1) (knd:=knd) (vs:=vs) (lo:=h0.objs.size+2) (d:=d) (ep:=ep) hh (by rw[z1];exact qAO (qBS _)) (qAO ndd) (by rw[z1];exact qAO (qBN ndd)) sz vs.length 0 _ [] _ (by lia) (qAd _) (by show h0.objs.size+2<=_;rw[z4];exact qAF _) (qBN (qBS _)) ?_ (Heap.DictAt.at hm λo y=>oth d o (qAO ndd) (o2 d o y)) S4 (by rw[z1];exact qBS _) ⟨by simp,by simp,by simp,by simp⟩ λk ts c ko kl kt=>?_⟩
 .obtain ⟨x0,b,ok,ov,x1,x2⟩:=i2;refine⟨x0,b,ok,ov,oth _ _ (by rw[z1];exact qAt (qBS _)) x1,?_⟩;rcases x2 with x2|⟨a,oa,x3,x4⟩
  .exact .inl x2
  .refine .inr ⟨a,?_⟩
   by_cases z:a=h0.objs.size
   .exact ⟨_,x3,by rw[z];exact S4⟩
   .exact ⟨oa,x3,oth a oa z x4⟩
 .refine ⟨rfl,q k ts c (λb o y=>ko b o (qAO (qAH y)) (by rw[z1];exact qAO (qBN (qAH y))) (oth b o (qAO (qAH y)) (o2 b o y))) kl ?_⟩;obtain⟨a1,a2,a3,a4⟩:=kt;exact⟨a1,a2,λt ht=>⟨qC0 (a3 t ht).1,(a3 t ht).2⟩,a4⟩
end
end RV
namespace L2
open PySem PySem.Spec PyProof.Rows
def vwO(p a:Addr):HO:=.ext λh=>h.IsItemsView p a
def rvO(r l:Addr)(n:Nat):HO:=.ext λh=>RV.IsRev h r l ((n:Int)-1)
def anyO(r:Addr):HO:=.ext λh=>∃o,h.get? r=some o
def lay(H:Hp):List Addr->List HO->Hp
 |t::ts,o::os=>lay (upd H t o) ts os
 |_,_=>H
theorem lay_ne{b:Addr}:∀{ts:List Addr}{os:List HO}{H:Hp},b∉ts->lay H ts os b=H b
 |[],_,_,_=>by unfold lay;rfl
 |_::_,[],_,_=>by unfold lay;rfl
 |t::ts,o::os,H,h=>by
  show lay (upd H t o) ts os b=H b;rw[lay_ne (λz=>h (qAU _ z)),upd_ne (λz=>h (by rw[z];exact qAY))]
theorem lay_at:∀{ts:List Addr}{os:List HO}{H:Hp}{j:Nat}{t:Addr}{o:HO},ts.Nodup->ts[j]?=some t->os[j]?=some o->lay H ts os t=some o
 |[],_,_,_,_,_,_,h,_=>by simp at h
 |_::_,[],_,_,_,_,_,_,h=>by simp at h
 |t::ts,o::os,H,0,t',o',nd,h,h'=>by
  have e:t=t':=by simpa using h
  have e':o=o':=by simpa using h'
  subst e e';show lay (upd H t o) ts os t=some o;rw[lay_ne (qA0.mp nd).1,upd_same]
 |t::ts,o::os,H,j+1,t',o',nd,h,h'=>lay_at (H:=upd H t o) (qA0.mp nd).2 (by simpa using h) (by simpa using h')
section
variable{X:Cx}{pins:List (Addr×Obj)}{σ:St}{H H':Hp}{s:Shared}
theorem Inv.grow{k:Heap}{tk:Nat}(I:Inv X pins σ H s)(kept:∀b u,s.heap.get? b=some u->k.get? b=some u)(old:∀b,b<s.heap.objs.size->H' b=H b)(new:∀b o,s.heap.objs.size<=b->H' b=some o->zA0 X.prog X.w H' k b o):Inv X pins σ H' {s with heap:=k,toks:=tk}:=by
 have lt:∀b o,H b=some o->H' b=some o:=λb o e=>by rw[old b (I.hok.lt e)];exact e
 refine I.call' (ch:=[]) rfl ⟨λb o q _ _ _=>kept b o q,λb o q _ _ _=>⟨o.slots,kept b o q⟩,λb o q n _=>by rw[old b (qAH q)];exact n,λb o q _=>⟨o,kept b o q⟩,λb xs e=>lt b _ e,λb o u e=>lt b _ e,λb ps e=>⟨#[],by rw[Array.append_empty];exact lt b _ e⟩⟩ (λb o e=>?_) I.bare (λb hb=>by cases hb)
 by_cases z:b<s.heap.objs.size
 .rw [old b z]at e;exact(I.hok b o e).stay (λc u _ q=>kept c u q) (λc e=>lt c _ e) λc xs e=>lt c _ e
 .exact new b o (Nat.le_of_not_lt z) e
end
section
variable{X:Cx}
theorem mt_items:MtM X "dict.items" (λx xs H Q=>∃a kvs,x= .ref a/\xs=[]/\H a=some (.dK kvs)/\∀p,H p=none->Q (.ref p) (upd H p (vwO p a))):=by
 intro pins s σ H x xs v us Q I rx rv h;obtain⟨a,kvs,rfl,rfl,e,q⟩:=h
 cases rx
 cases rv.zero
 obtain⟨z,hd,vs,rel,dd⟩:=dk_of I.hok e;have ty:s.TypeIs (.ref a) "dict":= dd.typeIs;refine qBh (qCB qCZ.plain PySem.F.entry_dict_items (qCZ.check _ _ _ _ _ _ _ _ ty (PySem.F.args_dict_items_1 _) (meets_dict_items (zAn X.prog X.w) a hd X.A (wants (EP X pins σ Q) X.xe) s ⟨⟨vs,dd⟩,?_⟩)));refine⟨.ref s.heap.objs.size,_,I.laid (o:=vwO s.heap.objs.size a) (t':=s.toks) (λb u y=>qAG _ y) (qAF _) ?_,rfl,q _ (I.hok.fresh (qAF _))⟩;exact⟨⟨_,qAX _ rfl,rfl,rfl⟩,⟨_,qAX _ rfl⟩,λh1 h2 ⟨o,y,r⟩ k=>⟨o,k _ y,r⟩⟩
theorem zJf{P:Program}{w:World}{k:Key}{u:Value}(h:(zAn P w).is k u=true):RelV (kV k) u:=by
 rcases zA6 (show keyIs k u=true from h)with⟨i,t,rfl,rfl⟩|⟨x,t,rfl,rfl⟩
 .exact ⟨t,rfl⟩
 .exact ⟨t,rfl⟩
theorem kv_at:∀{kvs:List (Key×V)} {vs:List (Key×Value)} {j:Nat} {k:Key} {v:V},KV kvs vs->kvs[j]?=some (k,v)->∃u,vs[j]?=some (k,u)/\RelV v u
 |_,_,j,_,_,.nil,h=>by simp at h
 |_,_,0,k,v,.cons (a:=a) (b:=b) r _,h=>by
  have e:a=(k,v):=by simpa using h
  subst e;exact⟨b.2,by simp;exact Prod.ext r.1.symm rfl,r.2⟩
 |_,_,j+1,k,v,.cons r rr,h=>by
  obtain⟨u,h1,h2⟩:=kv_at rr (show _=some (k,v) by simpa using h);exact⟨u,by simpa using h1,h2⟩
theorem valsRef:∀ts:List Addr,Vals (ts.map V.ref) (ts.map Value.ref)
 |[]=>.nil
 |t::ts=>.cons rfl (valsRef ts)
theorem call_listV(hc:X.calm=true):zCa X (.type "list") (λxs H Q=>∃p a kvs,xs=[.ref p]/\H p=some (vwO p a)/\H a=some (.dK kvs)/\∀(l:Addr)(ts:List Addr)(H':Hp),Kp [] H H'->H l=none->H' l=some (.lst (ts.map V.ref))->ts.length=kvs.length ->(∀(j:Nat)(t:Addr)(k:Key)(v:V),ts[j]?=some t->kvs[j]?=some (k,v)->H t=none/\H' t=some (.tup [kV k,v]))->Q (.ref l) H'):=by
 intro pins s σ H xs us Q I rv h;obtain⟨p,a,kvs,rfl,ep,ea,q⟩:=h;obtain⟨u,rfl,ru⟩:=rv.one
 cases ru
 obtain⟨z,hd,vs,rel,dd⟩:=dk_of I.hok ea;obtain⟨hv,_,_⟩:zA0 X.prog X.w H s.heap p (vwO p a):=I.hok p _ ep;obtain⟨o,es,ep',y1,y2,y3,y4,y5,y6⟩:=id dd;have hl:=rel.length;refine RV.list_view (knd:=zAn X.prog X.w) (I.ok.hd hc) hv (vs:=vs) (ep:=ep') ⟨o,es,y1,y2,y3,y4,y5,y6⟩ (by lia) λk ts c ko kl kt=>?_;obtain⟨a1,a2,a3,a4⟩:=kt;have tin:∀b,b<s.heap.objs.size->b∉ts:=λb hb z=>qA8 _ (qAi (qBN hb) (a3 b z).1);have tl:s.heap.objs.size∉ts:=λz=>qA8 _ (a3 _ z).1;have tne:∀t∈ts,t≠s.heap.objs.size:=λt ht e=>tl (e▸ht)
 have at':∀(j:Nat)(t:Addr)(kk:Key)(v:V),ts[j]?=some t->kvs[j]?=some (kk,v)->upd (lay H ts (kvs.map λkv=>.tup [kV kv.1,kv.2])) s.heap.objs.size (.lst (ts.map V.ref)) t=some (.tup [kV kk,v]):=λj t kk v e1 e2=>by
  rw[upd_ne (tne t (qAJ e1))];exact lay_at a2 e1 (by rw[qAZ,e2];rfl)
 have old:∀b,b<s.heap.objs.size->upd (lay H ts (kvs.map λkv=>.tup [kV kv.1,kv.2])) s.heap.objs.size (.lst (ts.map V.ref)) b=H b:=λb hb=>by rw[upd_ne (qAO hb),lay_ne (tin b hb)]
 refine⟨.ref s.heap.objs.size,upd (lay H ts (kvs.map λkv=>.tup [kV kv.1,kv.2])) s.heap.objs.size (.lst (ts.map V.ref)),I.grow (tk:=s.toks) ko old λb o hb e=>?_,rfl,q _ ts _ (λb o e _=>by rw[old b (I.hok.lt e)];exact e) (I.hok.fresh (qAF _)) upd_same (by lia) λj t kk v e1 e2=>⟨I.hok.fresh (qC0 (a3 t (qAJ e1)).1),at' j t kk v e1 e2⟩⟩
 by_cases c1:b=s.heap.objs.size
 .subst c1;rw[upd_same]at e
  cases e
  exact⟨by rw[qAD];lia,ts.map Value.ref,c,valsRef ts,kl⟩
 .by_cases c2:b∈ts
  .obtain ⟨j,hj,ej⟩:=qA1.mp c2;have e1:ts[j]?=some b:=by rw[<-ej];exact qAV hj
   have hjk:j<kvs.length:=by lia
   have e2:kvs[j]?=some (kvs[j].1,kvs[j].2):=qAV hjk;rw[at' j b _ _ e1 e2]at e
   cases e
   obtain⟨u,e3,r3⟩:=kv_at rel e2;obtain⟨key,r4,e4⟩:=a4 j b _ _ e1 e3;exact⟨by show(2:Nat)<=sizeLine;decide,[key,u],.cons (zJf r4) (.cons r3 .nil),⟨_,e4,rfl,_,rfl⟩⟩
  .rw [upd_ne c1,lay_ne c2,I.hok.fresh hb]at e
   cases e
theorem zJ4:zCa X (.type "reversed") (λxs H Q=>∃l ys,xs=[.ref l]/\H l=some (.lst ys)/\∀r,H r=none->Q (.ref r) (upd H r (rvO r l ys.length))):=by
 intro pins s σ H xs us Q I rv h;obtain⟨l,ys,rfl,e,q⟩:=h;obtain⟨u,rfl,ru⟩:=rv.one
 cases ru
 obtain⟨z,its,n,rel,hl⟩:zA0 X.prog X.w H s.heap l (.lst ys):=I.hok l _ e;have len:=rel.length;refine RV.rev_new (ys:=its.toArray) ⟨_,hl,rfl,n,rfl⟩ λk ko kr _=>?_;rw[show its.toArray.size=ys.length by simp[len]]at kr;refine⟨.ref s.heap.objs.size,_,I.laid (o:=rvO s.heap.objs.size l ys.length) (t':=s.toks) ko (qAF _) ?_,rfl,q _ (I.hok.fresh (qAF _))⟩;exact⟨kr,⟨_,kr⟩,λh1 h2 x y=>y _ x⟩
theorem valsRefs:∀(ts:List Addr){its:List Value},Vals (ts.map V.ref) its->its=ts.map Value.ref
 |[],_,.nil=>rfl
 |t::ts,_,.cons r rr=>by rw[valsRefs ts rr,show _=Value.ref t from r];rfl
theorem kv_keys:∀{kvs:List (Key×V)} {vs:List (Key×Value)},KV kvs vs->kvs.map (·.1)=vs.map (·.1)
 |_,_,.nil=>rfl
 |_,_,.cons r rr=>by rw[qAk,qAk,kv_keys rr,r.1]
theorem kv_app:∀{a c:List (Key×V)} {b d:List (Key×Value)},KV a b->KV c d->KV (a++c) (b++d)
 |_,_,_,_,.nil,h=>h
 |_,_,_,_,.cons r rr,h=>.cons r (kv_app rr h)
theorem kv_rev:∀{kvs:List (Key×V)} {vs:List (Key×Value)},KV kvs vs->KV kvs.reverse vs.reverse
 |_,_,.nil=>.nil
 |_,_,.cons r rr=>by rw[List.reverse_cons,List.reverse_cons];exact kv_app (kv_rev rr) (.cons r .nil)
theorem pairs_of{pins:List (Addr×Obj)}{σ:St}{H:Hp}{s:Shared}(I:Inv X pins σ H s):∀{kvs:List (Key×V)} {ts:List Addr},ts.length=kvs.length ->
  (∀(j:Nat)(t:Addr)(k:Key)(v:V),ts[j]?=some t->kvs[j]?=some (k,v)->H t=some (.tup [kV k,v]))->∃vs,KV kvs vs/\∀(j:Nat)(t:Addr)(k:Key)(u:Value),ts[j]?=some t->vs[j]?=some (k,u)->∃key n o,(zAn X.prog X.w).is k key=true/\s.heap.get? t=some o/\o.cls= .type "tuple"/\o.data= .seq #[key,u] n
 |[],[],_,_=>⟨[],.nil,λj t k u h _=>by simp at h⟩
 |[],_::_,h,_=>by simp at h
 |_::_,[],h,_=>by simp at h
 |(k,v)::kvs,t::ts,h,f=>by
  obtain⟨vs,h1,h2⟩:=pairs_of I (kvs:=kvs) (ts:=ts) (by simpa using h) λj t' k' v' x y=>f (j+1) t' k' v' (by simpa using x) (by simpa using y);obtain⟨_,its,rr,o,g1,g2,n,g3⟩:zA0 X.prog X.w H s.heap t (.tup [kV k,v]):=I.hok t _ (f 0 t k v rfl rfl);obtain⟨key,u,rfl,r1,r2⟩:=rr.two;refine⟨(k,u)::vs,.cons ⟨rfl,r2⟩ h1,λj t' k' u' x y=>?_⟩
  cases j with
  |zero=>
   have x:t=t':=by simpa using x
   have y:k=k'/\u=u':=by simpa using y
   obtain⟨rfl,rfl⟩:=y;subst x;exact⟨key,n,o,zJu r1,g1,g2,g3⟩
  |succ j=>exact h2 j t' k' u' (by simpa using x) (by simpa using y)
theorem call_dictR(hc:X.calm=true):zCa X (.type "dict") (λxs H Q=>∃(r l:Addr)(ts:List Addr) (kvs:List (Key×V)),xs=[.ref r]/\H r=some (rvO r l ts.length)/\H l=some (.lst (ts.map V.ref))/\ts.length=kvs.length/\(kvs.map (·.1)).Nodup /\ (∀(j:Nat)(t:Addr)(k:Key)(v:V),ts[j]?=some t->kvs[j]?=some (k,v)->H t=some (.tup [kV k,v]))/\∀p,H p=none->Q (.ref p) (upd (upd H r (anyO r)) p (.dK kvs.reverse))):=by
 intro pins s σ H xs us Q I rv h;obtain⟨r,l,ts,kvs,rfl,er,el,len,nd,tu,q⟩:=h;obtain⟨u,rfl,ru⟩:=rv.one
 cases ru
 obtain⟨hr,_,_⟩:zA0 X.prog X.w H s.heap r (rvO r l ts.length):=I.hok r _ er;obtain⟨z,its,n,rel,hl⟩:zA0 X.prog X.w H s.heap l (.lst (ts.map V.ref)):=I.hok l _ el;have hi:=valsRefs ts rel;subst hi;obtain⟨vs,kv,vt⟩:=pairs_of I len tu;have kl:=kv.length;have z':vs.length<=sizeLine:=by rw[qAD]at z;lia
 have nd':(vs.map (·.1)).Nodup:=by rw[<-kv_keys kv];exact nd
 refine RV.dict_rev (knd:=zAn X.prog X.w) (l:=l) (ys:=(ts.map Value.ref).toArray) (vs:=vs) (I.ok.hd hc) (by have:=hr;simpa using this) ⟨_,hl,rfl,n,rfl⟩ ⟨by simp;lia,λj k v e=>?_⟩ nd' z' λk tk ko kr kd=>?_
 .have jl:j<ts.length:=by have:=(qAf.mp e).1;lia
  obtain⟨key,n,o,h1,h2⟩:=vt j ts[j] k v (qAV jl) e;exact⟨ts[j],key,n,by simp[jl],h1,o,h2⟩
 .have rlt:r<s.heap.objs.size:=I.hok.lt er;have pr:s.heap.objs.size≠r:=qAt rlt;have old:∀b,b≠r->b<s.heap.objs.size->upd (upd H r (anyO r)) s.heap.objs.size (.dK kvs.reverse) b=H b:=λb h1 h2=>by rw[upd_ne (qAO h2),upd_ne h1]
  have atr:upd (upd H r (anyO r)) s.heap.objs.size (.dK kvs.reverse) r=some (anyO r):=by rw[upd_ne (qAj pr),upd_same]
  have lt:∀b o,b≠r->H b=some o->upd (upd H r (anyO r)) s.heap.objs.size (.dK kvs.reverse) b=some o:=λb o h1 e=>by rw[old b h1 (I.hok.lt e)];exact e
  have nr:∀b o,H b=some o->o≠rvO r l ts.length->b≠r:=λb o e h1 h2=>by rw[h2,er]at e;cases e;exact h1 rfl
  refine⟨.ref s.heap.objs.size,_,I.call' (s':={s with heap:=k,toks:=tk}) (ch:=[]) rfl ⟨λb o y h1 _ _=>ko b o (zAu er h1).symm y,λb o y h1 _ _=>⟨o.slots,ko b o (zAu er h1).symm y⟩,λb o y h1 _=>by rw[old b (zAu er h1).symm (qAH y)];exact h1,λb o y _=>?_,λb xs e=>lt b _ (nr b _ e (λz=>by unfold rvO at z;cases z)) e,λb o u e=>lt b _ (nr b _ e (λz=>by unfold rvO at z;cases z)) e,λb ps e=>⟨#[],by rw[Array.append_empty];exact lt b _ (nr b _ e (λz=>by unfold rvO at z;cases z)) e⟩⟩ (λb o e=>?_) I.bare (λb hb=>by cases hb),rfl,q _ (I.hok.fresh (qAF _))⟩
  .by_cases c:b=r
   .rw [c];exact kr
   .exact ⟨o,ko b o c y⟩
  .by_cases c1:b=s.heap.objs.size
   .subst c1;rw[upd_same]at e
    cases e
    exact dk_new (by simp;lia) (qBD.mpr (qAj (qAO I.big))) (kv_rev kv) kd
   .by_cases c2:b=r
    .subst c2;rw[atr]at e
     cases e
     exact⟨kr,kr,λh1 h2 ⟨o,y⟩ x=>⟨o,x o y⟩⟩
    .rw [upd_ne c1,upd_ne c2]at e;refine(I.hok b o e).stay (λc u h y=>ko c u ?_ y) (λc e'=>lt c _ (nr c _ e' (λz=>by unfold rvO at z;cases z)) e') λc xs e'=>lt c _ (nr c _ e' (λz=>by unfold rvO at z;cases z)) e';rcases h with h|h
     .rw [h];exact c2
     .exact nr c _ h (λz=>by unfold rvO at z;cases z)
end
section
variable{X:Cx}{pins:List (Addr×Obj)}{σ:St}{H:Hp}{s:Shared}{a:Addr}{u o':HO}
theorem Inv.retell(I:Inv X pins σ H s)(e:H a=some u)(nt:∀xs,u≠.tup xs)(no:∀x,u≠.own x)(nb:∀ps,u≠.tbl ps)(nf:∀o v,X.H₀ a≠some (.frz o v))(new:zA0 X.prog X.w (upd H a o') s.heap a o'):Inv X pins σ (upd H a o') s:=by
 have ne:∀b,H b=none->b≠a:=λb h z=>by rw[z,e]at h;cases h
 refine⟨I.ok,I.os,I.bare,⟨I.base.keep,I.base.slot,λb o q n x=>?_,I.base.there,λb xs q=>?_,λb o v q=>?_,λb ps q=>?_⟩,I.loc,I.cell,?_,λx c h=>?_,λp hp=>?_,λb o q=>?_,I.len⟩
 .have:=I.base.free b o q n x;rw[upd_ne (ne b this)];exact this
 .have:=I.base.tups b xs q;rw[upd_ne (λz=>by rw[z,e]at this;exact nt xs (qAe this))];exact this
 .have:=I.base.frzs b o v q;rw[upd_ne (λz=>nf o v (by rw[<-z];exact q))];exact this
 .obtain ⟨more,this⟩:=I.base.tbls b ps q;exact⟨more,by rw[upd_ne (λz=>by rw[z,e]at this;exact nb _ (qAe this))];exact this⟩
 .rw [upd_ne (ne _ I.free)];exact I.free
 .rw [upd_ne (ne _ (I.freeC x c h))];exact I.freeC x c h
 .obtain ⟨h1,h2,h3⟩:=I.pin p hp;exact⟨h1,by rw[upd_ne (ne _ h2)];exact h2,h3⟩
 .by_cases z:b=a
  .subst z;rw[upd_same]at q;cases q;exact new
  .rw [upd_ne z]at q;refine(I.hok b o q).stay (λc v _ y=>y) (λc y=>?_) λc xs y=>?_
   .rw [upd_ne (λz=>by rw[z,e]at y;exact no _ (qAe y))];exact y
   .rw [upd_ne (λz=>by rw[z,e]at y;exact nt _ (qAe y))];exact y
end
def thawE(D:Ends)(a:Addr)(o:Obj)(kvs:List (Key×V)):Ends where
 nx:=λσ H=>H a=some (.frz o (.dK kvs))/\D.nx σ (upd H a (.dK kvs))
 rt:=λv H=>H a=some (.frz o (.dK kvs))/\D.rt v (upd H a (.dK kvs))
 bk:=λσ H=>H a=some (.frz o (.dK kvs))/\D.bk σ (upd H a (.dK kvs))
 ct:=λσ H=>H a=some (.frz o (.dK kvs))/\D.ct σ (upd H a (.dK kvs))
section
variable{X:Cx}
theorem Inv.thaw{pins:List (Addr×Obj)}{σ:St}{H:Hp}{s:Shared}{a:Addr}{o:Obj}{kvs:List (Key×V)}(I:Inv X pins σ H s)(e:H a=some (.frz o (.dK kvs)))(nf:∀o v,X.H₀ a≠some (.frz o v)):Inv X pins σ (upd H a (.dK kvs)) s:=by
 obtain⟨_,z⟩:zA0 X.prog X.w H s.heap a (.frz o (.dK kvs)):=I.hok a _ e;exact I.retell e (λ_ h=>nomatch h) (λ_ h=>nomatch h) (λ_ h=>nomatch h) nf z
theorem ps_frz{st:Stmt}{t:TS}(h:PS X st t):PS X st (λD σ H=>∃a kvs,H a=some (.dK kvs)/\∀o,t (thawE D a o kvs) σ (upd H a (.frz o (.dK kvs)))):=by
 intro pins s σ H D I ⟨a,kvs,e,q⟩;have ok:zA0 X.prog X.w H s.heap a (.dK kvs):=I.hok a _ e;obtain⟨_,_,_,_,o,_,_,ho,_⟩:=id ok
 have nf:∀o v,X.H₀ a≠some (.frz o v):=λo v z=>by
  have:=I.base.frzs a o v z;rw[e]at this;cases this
 have I1:Inv X pins σ (upd H a (.frz o (.dK kvs))) s:=I.retell e (λ_ h=>nomatch h) (λ_ h=>nomatch h) (λ_ h=>nomatch h) nf ⟨ho,ok⟩;refine thn (h pins s σ _ _ I1 (q o)) λf s' r=>?_
 cases f with
 |next=>obtain⟨σ',H',I',e',d'⟩:=r;exact⟨σ',_,I'.thaw e' nf,d'⟩
 |brk=>obtain⟨σ',H',I',e',d'⟩:=r;exact⟨σ',_,I'.thaw e' nf,d'⟩
 |cont=>obtain⟨σ',H',I',e',d'⟩:=r;exact⟨σ',_,I'.thaw e' nf,d'⟩
 |ret u=>obtain⟨v,σ',H',I',rv,e',d'⟩:=r;exact⟨v,σ',_,I'.thaw e' nf,rv,d'⟩
end
end L2
namespace RV
open PySem
theorem e_itemIter:entryFor table "dict_itemiterator.__iter__"=some Builtin.«dict_keyiterator.__iter__» :=
 qDP (id':="dict_keyiterator.__iter__") (by kernel_rfl) (by decide +kernel) (by decide +kernel) (by kernel_rfl)
end RV
namespace L2
open PySem PySem.Spec PyProof.Rows
def Itm(a:Addr)(o:Obj)(kvs:List (Key×V)):It :=
 ⟨λi H=>H a=some (.frz o (.dK kvs))/\i<kvs.length,λi H v H'=>∃t k x,v= .ref t/\H t=none/\kvs[i]?=some (k,x)/\H'=upd H t (.tup [kV k,x]),λi H=>H a=some (.frz o (.dK kvs))/\kvs.length<=i⟩
theorem zFz{X:Cx}{pins:List (Addr×Obj)}{σ:St}{H:Hp}{s:Shared}{a:Addr}{o:Obj}{kvs:List (Key×V)}(I:Inv X pins σ H s)(e:H a=some (.frz o (.dK kvs))) :
  ∃vs es ep,KV kvs vs/\o.data= .dict es ep/\es.size=kvs.length/\s.heap.DictAt (zAn X.prog X.w) a vs ep/\(a==sysModules)=false/\kvs.length<=sizeLine/\s.heap.get? a=some o/\o.ExactDict:=by
 obtain⟨ho,z,hd,vs,rel,o1,es,ep,y1,y2,y3,y4,y5,y6⟩:zA0 X.prog X.w H s.heap a (.frz o (.dK kvs)):=I.hok a _ e;rw[ho]at y1
 cases y1
 have l1:=y5.length;have l2:=rel.length;exact⟨vs,es,ep,rel,y3,by simp only[qBZ]at l1;lia,⟨o,es,ho,y2,y3,y4,y5,y6⟩,hd,z,ho,y2⟩
theorem turn_items{P:Program}{w:World}{K:PySem.W.Frag}{elts:List Expr}{kk:Nat}{tp:Pos}(a it:Addr)(o:Obj)(es:Array DictEntry)(ep:Nat)(kvs:List (Key×V))(hd:o.data= .dict es ep)(sz:es.size=kvs.length):Turn P w K (.Tuple elts kk tp) (Itm a o kvs) [it] it (λi h=>∃ok ov,IsItemIter h it a i kvs.length ep ok ov) where
 mem:=by simp
 obj:=λi h ⟨ok,ov,st⟩ b hb=>by
  have:b=it:=by simpa using hb
  subst this;exact⟨_,st,λv y=>by cases y⟩
 keep:=λi h h' ⟨ok,ov,st⟩ k=>⟨ok,ov,k it (by simp) _ st⟩
 item:=by
  intro X hP hw hK hc i pins s σ H E I hf st hg;subst hP hw hK;obtain⟨e,hi⟩:=hg;obtain⟨ok,ov,st⟩:=st;obtain⟨vs,es',ep',rel,hd',_,da,_,_,ho,_⟩:=zFz I e;have ee:ep'=ep:=by rw[hd]at hd';cases hd';rfl
  subst ee;have len:=rel.length;have ek:kvs[i]?=some (kvs[i].1,kvs[i].2):=qAV hi;obtain⟨v,ev,rv⟩:=kv_at rel ek;rw[len]at st;refine wpAny_pyNext_items_item st da ev λkey h1 hk eo t1 z1 o1=>?_;refine⟨_,rfl,wpAny_letOwnedTupleGo_items eo λh2 e2 b2=>?_⟩;have b2:Heap.SameBut it h1 h2:=b2;have ilt:it<s.heap.objs.size:=qAH st;have t2:h2.get? s.heap.objs.size=some {cls:=.type "tuple",data:=.seq #[key,v]}:=b2.extBut _ _ (qAt ilt) t1;have on:∀b u,b∉[it]->s.heap.get? b=some u->h2.get? b=some u:=λb u nb y=>b2.extBut b u (λz=>nb (by simp[z])) (o1 b u (λz=>nb (by simp[z])) y);have hn:∀b∈[it],H b=none:=λb hb=>(hf b hb).1;have new:zA0 X.prog X.w (upd H s.heap.objs.size (.tup [kV kvs[i].1,kvs[i].2])) h2 s.heap.objs.size (.tup [kV kvs[i].1,kvs[i].2]):=⟨by show(2:Nat)<=sizeLine;decide,[key,v],.cons (zJf hk) (.cons rv .nil),⟨_,t2,rfl,_,rfl⟩⟩
  have I2:Inv X pins σ (upd H s.heap.objs.size (.tup [kV kvs[i].1,kvs[i].2])) {s with heap:=h2}:=I.call' (ch:=[it]) rfl (un_laid on (qAF _) (I.hok.fresh (qAF _))) (hok_laid I.hok on hn (qAF _) new) I.bare λb hb=>by
   obtain⟨_,f1,_,f3,f4,f5⟩:=hf b hb;exact⟨f3,f1,f4,f5⟩
  rw[<-len]at e2;refine⟨.ref s.heap.objs.size,_,I2,rfl,⟨_,_,_,rfl,I.hok.fresh (qAF _),ek,rfl⟩,⟨_,_,e2⟩,λb hb=>?_⟩;have hb':=hn b hb;have:b=it:=by simpa using hb
  rw[upd_ne (by rw[this];exact qAO ilt)];exact hb'
 done:=by
  intro X hP hw hK hc i pins s σ H E I hf st hg;subst hP hw hK;obtain⟨e,hi⟩:=hg;obtain⟨ok,ov,st⟩:=st;obtain⟨vs,es',ep',rel,hd',_,da,_,_,ho,_⟩:=zFz I e;have ee:ep'=ep:=by rw[hd]at hd';cases hd';rfl
  subst ee;have len:=rel.length;rw[len]at st;obtain⟨f0,f1,f2,f3,f4,f5⟩:=hf it (by simp);exact wpAny_pyNext_items_end (I.ok.hd hc) st da (by simp;lia) λh' eb=>⟨rfl,I.turned (t':=s.toks) (λb o hb y=>eb b o hb y) f0 f1 f3 f4 f5⟩
 self:=λA i s Q E ⟨ok,ov,st⟩ h=>by
  have ty:s.TypeIs (.ref it) "dict_itemiterator":= ⟨_,st,rfl⟩;refine qDS ty PySem.F.slot_dict_itemiterator_iter (qBJ PySem.F.slot_dict_itemiterator_iter ty RV.e_itemIter ?_ (PySem.F.args_dict_itemiterator_iter_1 _));exact qAA (qAE (qAE ⟨_,rfl,"dict_itemiterator",_,ty,PySem.F.slot_dict_itemiterator_next.lookup,h⟩))
section
variable{X:Cx}{elts:List Expr}{kk:Nat}{tp:Pos}
theorem pi_items{o:Expr}{to:TE}{apos cpos:Pos}(ho:PE X o to)(hbase:attributeBase o "items" X.env (eval o X.env)=eval o X.env:=by rfl)(hline:(apos.endLine==cpos.line)=true:=by rfl) :
  PI X (.Tuple elts kk tp) (.Call (.Attribute o "items" apos) [] [] cpos) (λσ H R=>to σ H λx H1=>∃a ob kvs,x= .ref a/\H1 a=some (.frz ob (.dK kvs))/\R (Itm a ob kvs) H1):=by
 intro pins s σ H R I h;refine qDs hbase hline (thn (ho pins s σ H _ I h) λv s1 ⟨x,H1,I1,r1,a,ob,kvs,ex,e,q⟩=>?_);subst ex
 cases r1
 obtain⟨vs,es,ep,rel,hd,sz,da,nsys,z,hget,exd⟩:=zFz I1 e;have ty:s1.TypeIs (.ref a) "dict":= ⟨_,hget,exd.1⟩;have len:=rel.length;refine⟨"dict","dict.items",qCm,qCZ,PySem.F.type_dict_items,ty,(λb y=>by cases y;exact⟨ob,hget,exd.2.1⟩),qCg rfl (PySem.evalArgs_none ?_)⟩;obtain⟨o2,es2,y1,y2,y3,y4,y5,y6⟩:=id da;refine qBh (qCB qCZ.plain PySem.F.entry_dict_items (qCZ.check _ _ _ _ _ _ _ _ ty (PySem.F.args_dict_items_1 _) (meets_dict_items (zAn X.prog X.w) a nsys X.A (wants (λv s1=>wpAny (model X.prog X.w) X.A (pyIter v) (PIE X pins σ (.Tuple elts kk tp) R) X.xe s1) X.xe) s1 ⟨⟨vs,o2,es2,ep,y1,y2,y3,y4,y5,y6⟩,?_⟩)));show wpAny _ _ (pyIter _) _ _ _;have hv:(s1.heap.push {cls:=.type "dict_items",data:=.fields #[.ref a]}).IsItemsView s1.heap.objs.size a:=⟨_,qAX _ rfl,rfl,rfl⟩;have da':(s1.heap.push {cls:=.type "dict_items",data:=.fields #[.ref a]}).DictAt (zAn X.prog X.w) a vs ep:=⟨o2,es2,qAG _ y1,y2,y3,y4,y5,y6⟩;refine wpAny_pyIter_items (s:={s1 with heap:=s1.heap.push {cls:=.type "dict_items",data:=.fields #[.ref a]}}) hv da' ?_;have k1:∀b u,s1.heap.get? b=some u->((s1.heap.push {cls:=.type "dict_items",data:=.fields #[.ref a]}).push {cls:=.type "dict_itemiterator",data:=.fields #[.none,.bool false,.ref a,.int 0 0,.int vs.length 0,.int ep 0,.none,.none]}).get? b=some u:=λb u y=>qAG _ (qAG _ y);refine⟨_,[(s1.heap.push {cls:=.type "dict_items",data:=.fields #[.ref a]}).objs.size],_,_,H1,rfl,I1.kept (t':=s1.toks) k1,turn_items a _ ob es ep kvs hd sz,⟨_,_,by rw[len];exact qAX _ rfl⟩,λb hb=>?_,q⟩;have:b=(s1.heap.push {cls:=.type "dict_items",data:=.fields #[.ref a]}).objs.size:=by simpa using hb
 subst this;have ge:s1.heap.objs.size<=(s1.heap.push {cls:=.type "dict_items",data:=.fields #[.ref a]}).objs.size:=by rw[qBE];exact qBq _
 exact I1.fpOk ge (I1.hok.fresh ge)
end
theorem for_items{a:Addr}{o:Obj}{kvs:List (Key×V)}{g:TG}{tb:TS}{D:Ends}{σ:St}{H:Hp}(Pv:Nat->St->Hp->Prop)(h0:Pv 0 σ H)(hl:∀i σ H,i<=kvs.length->Pv i σ H->H a=some (.frz o (.dK kvs)))
  (hs:∀i k v σ H t,kvs[i]?=some (k,v)->Pv i σ H->H t=none->g (.ref t) σ (upd H t (.tup [kV k,v])) λσ2 H2=>tb {D with nx:=Pv (i+1),ct:=Pv (i+1),bk:=D.nx} σ2 H2) (hd:∀σ H,Pv kvs.length σ H->D.nx σ H) :
  ∃W:Nat->Nat->St->Hp->Prop,(∃m,W 0 m σ H)/\∀i m σ H,W i m σ H ->
   ((Itm a o kvs).stop i H/\D.nx σ H)\/((Itm a o kvs).go i H/\∃N:St->Hp->Prop,(∀σ' H',N σ' H'->∃m',m'<m/\W (i+1) m' σ' H')/\∀x H',(Itm a o kvs).yld i H x H'->g x σ H' λσ2 H2=>tb {D with nx:=N,ct:=N,bk:=D.nx} σ2 H2):=by
 refine⟨λi m σ H=>m=kvs.length-i/\i<=kvs.length/\Pv i σ H,⟨kvs.length,by simp,qAd _,h0⟩,?_⟩;rintro i m σ H ⟨rfl,hi,p⟩
 by_cases hlt:i<kvs.length
 .refine .inr ⟨⟨hl i σ H hi p,hlt⟩,Pv (i+1),λσ' H' p'=>⟨_,?_,rfl,hlt,p'⟩,λx H' y=>?_⟩
  .show kvs.length-(i+1)<kvs.length-i;lia
  .obtain ⟨t,k,v,rfl,ft,ek,rfl⟩:=y;exact hs i k v σ H t ek p ft
 .have e:i=kvs.length:=by lia
  subst e;exact .inl ⟨⟨hl _ σ H hi p,qAF _⟩,hd σ H p⟩
section
variable{X:Cx}
theorem strs_of:∀(vs:List Value)(ks:List Str),vs.length=ks.length->(∀(j:Nat)(v:Value),vs[j]?=some v->∃x t,ks[j]?=some x/\v= .str x t)->StrsAre vs ks
 |[],[],_,_=>.nil
 |[],_::_,h,_=>by simp at h
 |_::_,[],h,_=>by simp at h
 |v::vs,k::ks,h,f=>by
  obtain⟨x,t,e1,e2⟩:=f 0 v rfl;have e1:k=x:=by simpa using e1
  subst e1 e2
  exact .cons k t (strs_of vs ks (by simpa using h) λj v e=>by
   obtain⟨x,t,e1,e2⟩:=f (j+1) v (by simpa using e);exact⟨x,t,by simpa using e1,e2⟩)
end
end L2
namespace ST
open PySem PyProof.Rows PySem.W
end ST
namespace L2
open PySem PySem.Spec PyProof.Rows
variable{c:Addr}
def Itk(a:Addr)(o:Obj)(kvs:List (Key×V)):It :=
 ⟨λi H=>H a=some (.frz o (.dK kvs))/\i<kvs.length,λi H v H'=>H'=H/\∃k x,kvs[i]?=some (k,x)/\v=kV k,λi H=>H a=some (.frz o (.dK kvs))/\kvs.length<=i⟩
theorem turn_keys{P:Program}{w:World}{K:PySem.W.Frag}{tg:Expr}(a it:Addr)(o:Obj)(es:Array DictEntry)(ep:Nat)(kvs:List (Key×V))(hd:o.data= .dict es ep):Turn P w K tg (Itk a o kvs) [it] it (λi h=>h.IsKeyIter it a i kvs.length ep) where
 mem:=by simp
 obj:=λi h ⟨o,st,c,dt⟩ b hb=>by
  have:b=it:=by simpa using hb
  subst this;exact⟨_,st,λv y=>by rw[dt]at y;cases y⟩
 keep:=λi h h' st k=>st.at λo e=>k it (by simp) o e
 item:=by
  intro X hP hw hK hc i pins s σ H E I hf st hg;subst hP hw hK;obtain⟨e,hi⟩:=hg;obtain⟨vs,es',ep',rel,hd',_,da,_,_,ho,_⟩:=zFz I e;have ee:ep'=ep:=by rw[hd]at hd';cases hd';rfl
  subst ee;have len:=rel.length;have ek:kvs[i]?=some (kvs[i].1,kvs[i].2):=qAV hi;obtain⟨v,ev,rv⟩:=kv_at rel ek;rw[len]at st;obtain⟨f0,f1,f2,f3,f4,f5⟩:=hf it (by simp);refine wpAny_pyNext_dict_item st da ev λkey h' hk st' sb=>?_;have I1:Inv X pins σ H {s with heap:=h',toks:=s.toks}:=I.turned (t':=s.toks) (λb o hb y=>sb.extBut b o hb y) f0 f1 f3 f4 f5;rw[<-len]at st';obtain⟨o2,g1,g2,g3⟩:=id st';exact⟨_,rfl,go_of (s:={s with heap:=h'}) (n:="dict_keyiterator") g1 g2 g3 (by decide) ⟨kV kvs[i].1,H,I1,zJf hk,⟨rfl,_,_,ek,rfl⟩,st',λb hb=>(hf b hb).1⟩⟩
 done:=by
  intro X hP hw hK hc i pins s σ H E I hf st hg;subst hP hw hK;obtain⟨e,hi⟩:=hg;obtain⟨vs,es',ep',rel,hd',_,da,_,_,ho,_⟩:=zFz I e;have ee:ep'=ep:=by rw[hd]at hd';cases hd';rfl
  subst ee;have len:=rel.length;rw[len]at st;obtain⟨f0,f1,f2,f3,f4,f5⟩:=hf it (by simp);exact wpAny_pyNext_dict_end (I.ok.hd hc) st da (by simp;lia) λh' eb=>⟨rfl,I.turned (t':=s.toks) (λb o hb y=>eb b o hb y) f0 f1 f3 f4 f5⟩
 self:=λ_ _ _ _ _ st h=>wpAny_pyIter_keyiter st h
section
variable{X:Cx}
theorem pi_keys{tg o:Expr}{to:TE}(ho:PE X o to):PI X tg o (λσ H R=>to σ H λx H1=>∃a ob kvs,x= .ref a/\H1 a=some (.frz ob (.dK kvs))/\R (Itk a ob kvs) H1):=by
 intro pins s σ H R I h;refine thn (ho pins s σ H _ I h) λv s1 ⟨x,H1,I1,r1,a,ob,kvs,ex,e,q⟩=>?_;subst ex
 cases r1
 obtain⟨vs,es,ep,rel,hd,sz,da,nsys,z,hget,exd⟩:=zFz I1 e;have len:=rel.length;refine wpAny_pyIter_dict nsys da ?_;refine⟨s1.heap.objs.size,[s1.heap.objs.size],_,_,H1,rfl,I1.kept (t':=s1.toks) λb o e=>qAG _ e,turn_keys a _ ob es ep kvs hd,⟨_,qAX _ rfl,rfl,by rw[len];rfl⟩,λb hb=>?_,q⟩;have e:b=s1.heap.objs.size:=by simpa using hb
 subst e;exact I1.fpOk (qAF _) (I1.hok.fresh (qAF _))
theorem for_keys{a:Addr}{o:Obj}{kvs:List (Key×V)}{g:TG}{tb:TS}{D:Ends}{σ:St}{H:Hp}(Pv:Nat->St->Hp->Prop)(h0:Pv 0 σ H)(hl:∀i σ H,i<=kvs.length->Pv i σ H->H a=some (.frz o (.dK kvs)))
  (hs:∀i k v σ H,kvs[i]?=some (k,v)->Pv i σ H->g (kV k) σ H λσ2 H2=>tb {D with nx:=Pv (i+1),ct:=Pv (i+1),bk:=D.nx} σ2 H2) (hd:∀σ H,Pv kvs.length σ H->D.nx σ H) :
  ∃W:Nat->Nat->St->Hp->Prop,(∃m,W 0 m σ H)/\∀i m σ H,W i m σ H ->
   ((Itk a o kvs).stop i H/\D.nx σ H)\/((Itk a o kvs).go i H/\∃N:St->Hp->Prop,(∀σ' H',N σ' H'->∃m',m'<m/\W (i+1) m' σ' H')/\∀x H',(Itk a o kvs).yld i H x H'->g x σ H' λσ2 H2=>tb {D with nx:=N,ct:=N,bk:=D.nx} σ2 H2):=by
 refine⟨λi m σ H=>m=kvs.length-i/\i<=kvs.length/\Pv i σ H,⟨kvs.length,by simp,qAd _,h0⟩,?_⟩;rintro i m σ H ⟨rfl,hi,p⟩
 by_cases hlt:i<kvs.length
 .refine .inr ⟨⟨hl i σ H hi p,hlt⟩,Pv (i+1),λσ' H' p'=>⟨_,?_,rfl,hlt,p'⟩,λx H' y=>?_⟩
  .show kvs.length-(i+1)<kvs.length-i;lia
  .obtain ⟨rfl,k,v,ek,rfl⟩:=y;exact hs i k v σ H' ek p
 .have e:i=kvs.length:=by lia
  subst e;exact .inl ⟨⟨hl _ σ H hi p,qAF _⟩,hd σ H p⟩
theorem comp_keys{a:Addr}{o:Obj}{kvs:List (Key×V)}{ix:List (Option Nat)}{g:TG}{tt:TT}{te:TE}{QD:Hp->Prop}{σ:St}{H1:Hp}{D:Addr}(Pv:Nat->List V->St->Hp->Prop)(h0:Pv 0 [] (zCj σ ix) (upd H1 D (.lst [])))
  (hl:∀i ys τ H,Pv i ys τ H->H a=some (.frz o (.dK kvs)))
  (hs:∀i k v ys τ H,kvs[i]?=some (k,v)->Pv i ys τ H->g (kV k) τ H λτ' H4=>tt τ' H4 λb H5=>if b=true then te τ' H5 λv H6=>H6 D=some (.lst ys)/\ys.length<sizeLine/\Pv (i+1) (ys++[v]) τ' (upd H6 D (.lst (ys++[v])))else Pv (i+1) ys τ' H5)
  (hd:∀ys τ H,Pv kvs.length ys τ H->QD H) :
  ∃W:Nat->Nat->List V->St->Hp->Prop,(∃m,W 0 m [] (zCj σ ix) (upd H1 D (.lst [])))/\∀i m ys τ H2,W i m ys τ H2 ->
   ((Itk a o kvs).stop i H2/\QD H2)\/((Itk a o kvs).go i H2/\∃N:List V->St->Hp->Prop,(∀ys' τ' H',N ys' τ' H'->∃m',m'<m/\W (i+1) m' ys' τ' H')/\∀x H3,(Itk a o kvs).yld i H2 x H3->g x τ H3 λτ' H4=>tt τ' H4 λb H5=>if b=true then te τ' H5 λv H6=>H6 D=some (.lst ys)/\ys.length<sizeLine/\N (ys++[v]) τ' (upd H6 D (.lst (ys++[v]))) else N ys τ' H5):=by
 refine⟨λi m ys τ H=>m=kvs.length-i/\i<=kvs.length/\Pv i ys τ H,⟨kvs.length,by simp,qAd _,h0⟩,?_⟩;rintro i m ys τ H ⟨rfl,hi,p⟩
 by_cases hlt:i<kvs.length
 .refine .inr ⟨⟨hl i ys τ H p,hlt⟩,Pv (i+1),λys' τ' H' p'=>⟨_,?_,rfl,hlt,p'⟩,λx H' y=>?_⟩
  .show kvs.length-(i+1)<kvs.length-i;lia
  .obtain ⟨rfl,k,v,ek,rfl⟩:=y;exact hs i k v ys τ H' ek p
 .have e:i=kvs.length:=by lia
  subst e;exact .inl ⟨⟨hl _ ys τ H p,qAF _⟩,hd ys τ H p⟩
end
def cxLam(X:Cx)(N:List Str)(qual:Str)(scope:Scope)(f:Addr)(cd:Value)(cl:List (Str×Addr))(A:Around)(s:Shared)(H:Hp):Cx where
 prog:=X.prog
 w:=X.w
 K:=X.K
 mg:=X.mg
 base:=X.base
 A:=A.deeper (PySem.W.envX qual scope s.heap.objs.size f cd cl)
 N:=N
 s₀:=s
 H₀:=H
 env:=PySem.W.envX qual scope s.heap.objs.size f cd cl
 outer:=X.stack
 stack:=PySem.W.envX qual scope s.heap.objs.size f cd cl::X.stack
 ex:=[]
 calm:=true
 fn:=λ_=>false
 pn:=[]
 xe:=λ_ _=>False
structure LamScope(x y:Str)(sc:Scope):Prop where
 kind:sc.kind= .function
 co:sc.isCoroutine=false
 gen:sc.isGenerator=false
 px:sc.names.lookup x=some .local
 fy:sc.names.lookup y=some .free
 nocell:∀z∈sc.names,z.2≠.cell
 onlyy:∀z∈sc.names,z.2= .free->z.1=y
section
variable{X:Cx}{pins:List (Addr×Obj)}{σ:St}{H:Hp}{s:Shared}
theorem zGr{h h':Heap}{v:Option Value}(x:h.IsCell c v)(k:∀b o,h.get? b=some o->h'.get? b=some o):h'.IsCell c v:=by
 obtain⟨o,e,r⟩:=x;exact⟨o,k _ _ e,r⟩
theorem look1{y z:Str}{d:Addr}(h:([(y,c)]:List (Str×Addr)).lookup z=some d):z=y/\d=c:=by
 rw[qBM]at h
 cases e:(z==y)with
 |true=>rw[e]at h;cases h;exact⟨by simpa using e,rfl⟩
 |false=>rw[e]at h;cases h
theorem inv_lam{A:Around}{f c:Addr}{cd:Value}{qual x y:Str}{scope:Scope}{vx vy:V}{ux uy:Value}{h₁:Heap}{tk:Nat}(I:Inv X pins σ H s)(hA:A.frames=some X.stack)(hh:A.handled=none)(S:LamScope x y scope)(ne:x≠y)
  {y':Str} (hy:X.env.cells.lookup y'=some c) (iy:s.heap.IsCell c (some uy)) (ry:RelV vy uy) (rx:RelV vx ux) (hns:h₁.Ns s.heap.objs.size (λz=>([(x,ux)]:List (Str×Value)).reverse.lookup z)) (hk:∀b o,s.heap.get? b=some o->h₁.get? b=some o) :
  Inv (cxLam X [x,y] qual scope f cd [(y,c)] A s H) [] [some vx,some vy] H {s with heap:=h₁,toks:=tk}:=by
 have e0:=I.env0;have noA:∀b:Addr,b∉(cxLam X [x,y] qual scope f cd [(y,c)] A s H).ex:=λb z=>absurd (show b∈([]:List Addr)from z) (by simp);have hc0:=I.freeC y' c hy
 refine⟨⟨e0.mod,S.kind,rfl,rfl,qAF _,λa b d h1 h2=>?_,λz hz=>?_,λz d h _=>Bool.noConfusion h,λ_=>hh,Around.frames_deeper hA,.inr ⟨rfl,rfl⟩,λb z=>absurd z (noA b),e0.bs,e0.bsz,λb _ _=>noA b,λb z=>absurd z (noA b),e0.funs,e0.frf⟩,rfl,e0.bare,Un.kept hk,⟨_,hns,λi z v h1 h2 h3=>?_⟩,λz d h=>?_,e0.hok.fresh (qAF _),λz d h=>?_,λp hp=>absurd (show p∈([]:List (Addr×Obj))from hp) (by simp),e0.hok.kept hk,rfl⟩
 .rw [(look1 h1).1,(look1 h2).1]
 .have hz:scope.names.lookup z=some .cell\/scope.names.lookup z=some .free:=hz;rcases hz with hz|hz
  .exact absurd rfl (S.nocell _ (qBr hz))
  .have:z=y:=S.onlyy _ (qBr hz) rfl;subst this;exact⟨c,by show([(z,c)]:List (Str×Addr)).lookup z=some c;simp⟩
 .match i,h1,h2 with
  |0,h1,h2=>
   have h1:some x=some z:=h1;have h2:some (some vx)=some (some v):=h2
   cases h1
   cases h2
   exact⟨ux,rx,.inl ⟨S.px,by simp⟩⟩
  |1,h1,h2=>
   have h1:some y=some z:=h1;have h2:some (some vy)=some (some v):=h2
   cases h1
   cases h2
   exact⟨uy,ry,.inr ⟨.inr S.fy,c,by show([(y,c)]:List (Str×Addr)).lookup y=some c;simp,zGr iy hk⟩⟩
  |n+2,h1,_=>exact absurd (show([]:List Str)[n]?=some z from h1) (by simp)
 .obtain ⟨_,rfl⟩:=look1 h;exact⟨_,zGr iy hk⟩
 .obtain ⟨_,rfl⟩:=look1 h;exact hc0
theorem lam_call{A:Around}{f c':Addr}{qual x y:Str}{params:Arguments}{body:Expr}{scope:Scope}{pm ctv:Value}{vx vy:V}{ux uy:Value}{te:TE}{Q:VK}(I:Inv X pins σ H s)(hA:A.frames=some X.stack)(hh:A.handled=none)(room:A.depth<recursionLimit)
  (ho:s.heap.get? f=some (PySem.W.kla_obj "<lambda>" qual params body scope [(y,c)] pm c' ctv)) (hcd:s.heap.CodeRec (.ref c') qual) (S:LamScope x y scope) (ne:x≠y)
  (hb:bindArgs (PySem.W.kla_fn "<lambda>" qual params body scope [(y,c)] pm (.ref c') ctv) ⟨[ux],[]⟩=pure [(x,ux)])
  {y':Str} (hy:X.env.cells.lookup y'=some c) (iy:s.heap.IsCell c (some uy)) (ry:RelV vy uy) (rx:RelV vx ux)
  (ht:PE (cxLam X [x,y] qual scope f (.ref c') [(y,c)] A s H) body te) (hq:te [some vx,some vy] H Q) :
  wpAny (model X.prog X.w) A (call (.ref f) [ux]) (CE X.stack X.prog X.w H s Q) (λ_ _=>False) s:=by
 refine qBh (PySem.W.kla_callFunE room ho rfl S.co S.gen rfl hcd ?_);rw[hb];refine qAE (wpAny_newFunctionEnv S.nocell (λz hz=>?_) (λh₁ hns hsb=>⟨I.nolimit.fresh _ hsb,?_⟩) S.kind)
 .have:z=(x,ux):=by simpa using hz
  subst this;exact S.px
 .show codeAny _ _ (.expr body (PySem.W.envX qual scope s.heap.objs.size f (.ref c') [(y,c)])) _ _;have hk₁:∀b o,s.heap.get? b=some o->h₁.get? b=some o:=λb o e=>hsb.extBut b o (qAO (qAH e)) (qAG _ e);have J:=inv_lam (qual:=qual) (f:=f) (cd:=.ref c') (tk:=s.toks+[(x,ux)].length) I hA hh S ne hy iy ry rx hns hk₁;refine PySem.W.kla_codeExpr (qAz (ht [] _ _ H _ J hq) (λv s' hs=>?_) λ_ _ h=>h.elim);obtain⟨v',H',J',rv,q⟩:=hs;exact⟨v',H',J'.os,J'.bare,J'.base,J'.hok,rv,q⟩
end
end L2
namespace ST
open PySem PyProof.Rows
end ST
namespace L2
open PySem PySem.Spec PyProof.Rows
variable{qual:Str}
def zIj(mg:Str->Option Value)(h:Heap):Prop:=∃bm o,mg "__builtins__"=some (.ref bm)/\bm≠builtinsNs/\h.get? bm=some o/\o.cls= .type "module"/\o.dict=some builtinsNs/\o.data= .plain
def zF2(c:Addr)(qual:Str):HO:=.ext λh=>h.CodeRec (.ref c) qual
def Tab1(H:Hp)(P:Addr)(qual:Str)(pos:Pos):Prop:=∃c',H P=some (.tbl #[rawInt pos.line,rawInt pos.col,.ref c'])/\H c'=some (zF2 c' qual)
def Tab0(H:Hp)(P:Addr)(qual:Str)(pos:Pos):Prop:=H P=some (.tbl #[])\/Tab1 H P qual pos
section
variable{X:Cx}{pins:List (Addr×Obj)}{σ:St}{H:Hp}{s:Shared}
theorem codeO_rec(I:Inv X pins σ H s){c:Addr}(e:H c=some (zF2 c qual)):s.heap.CodeRec (.ref c) qual:=by
 obtain⟨x,_,_⟩:zA0 X.prog X.w H s.heap c (zF2 c qual):=I.hok c _ e;exact x
theorem codeO_ok{P:Program}{w:World}{c:Addr}{h:Heap}(x:h.CodeRec (.ref c) qual):zA0 P w H h c (zF2 c qual):=by
 refine⟨x,?_,λh1 h2 y k=>?_⟩
 .obtain ⟨d,o,vs,t,e,g,_⟩:=x
  cases e
  exact⟨o,g⟩
 .obtain ⟨d,o,vs,t,e,g,r⟩:=y
  cases e
  exact⟨c,o,vs,t,rfl,k o g,r⟩
theorem among1(pos:Pos)(c:Addr):codeAmong pos [rawInt pos.line,rawInt pos.col,.ref c]=some (.ref c):=by
 unfold rawInt codeAmong;simp
theorem lam_make{E:Value->Shared->Prop}{params:Arguments}{body:Expr}{scope:Scope}{clos:List (Str×Addr)}{c0 P:Addr}{pos:Pos}{Q:Value->Shared->Prop}(I:Inv X pins σ H s)(hcl:closureFor scope X.env=pure clos)(hcode:X.env.code= .ref c0)(C:PySem.W.CodeHd X.base c0 P)(B:zIj X.mg X.base)(T:Tab0 H P qual pos)
  (h:∀f c' ctv pm H2 s2,Inv X pins σ H2 s2->Kp [P] H H2->Tab1 H2 P qual pos->H2 c'=some (zF2 c' qual)->s2.heap.get? f=some (PySem.W.kla_obj "<lambda>" qual params body scope clos pm c' ctv)->FpOk X pins H2 f->Q (.ref f) s2) :
  wpAny (model X.prog X.w) X.A (makeFunction "<lambda>" qual params (.expr body) scope X.env [] [] [] pos pos.line) Q E s:=by
 obtain⟨bm,ob,b1,b2,b3,b4,b5,b6⟩:=B
 have tbl:∃ps,H P=some (.tbl ps):=by
  rcases T with e|⟨c',e,_⟩
  .exact ⟨_,e⟩
  .exact ⟨_,e⟩
 obtain⟨ps0,eP⟩:=tbl;have pP:s.heap.get? P=some (PySem.W.tabObj ps0):=I.hok P _ eP;have hgs:s.heap.Ns mainGlobals X.mg:=I.mod.glob.keeps I.bk
 have hgP:mainGlobals≠P:=λq=>by
  obtain⟨o,es,ep,e,hd,_⟩:=hgs;rw[q,pP]at e;cases e;cases hd
 have hbP:bm≠P:=λq=>by
  have e:=I.bk _ _ b3;rw[q,pP]at e;cases e;cases b4
 have hbG:bm≠mainGlobals:=λq=>by
  obtain⟨o,es,ep,e,hd,_⟩:=I.mod.glob;rw[q,e]at b3;cases b3;rw[hd]at b6;cases b6
 have hB:s.heap.BuiltinsAt X.mg P:=⟨bm,ob,b1,b2,hbG,hbP,I.bk _ _ b3,b4,b5,b6⟩;rcases T with e|⟨c',e,ec⟩
 .rw [e]at eP
  cases eP
  refine PySem.W.kla_makeFunction (mg:=X.mg) hcl I.ok.glob hgs hcode (C.keeps I.bk) pP trivial rfl hgP hB λc' ctv h' tk hx hge hlt hrec htb=>?_;have htb:h'.get? P=some (PySem.W.tabObj #[rawInt pos.line,rawInt pos.col,.ref c']):=by simpa using htb
  have fc:H c'=none:=I.hok.fresh hge;have nPc:c'≠P:=λz=>by rw[z,e]at fc;cases fc
  have hk:∀b o,b≠P->s.heap.get? b=some o->(h'.push (PySem.W.kla_obj "<lambda>" qual params body scope clos ((X.mg "__name__").getD .none) c' ctv)).get? b=some o:=λb o n q=>qAG _ (hx b o n q);have nP:∀b,H b=none->b≠P:=λb n z=>by rw[z,e]at n;cases n
  have old:∀b,b≠P->b≠c'->upd (upd H P (.tbl #[rawInt pos.line,rawInt pos.col,.ref c'])) c' (zF2 c' qual) b=H b:=λb n1 n2=>by rw[upd_ne n2,upd_ne n1]
  have eP2:upd (upd H P (.tbl #[rawInt pos.line,rawInt pos.col,.ref c'])) c' (zF2 c' qual) P=some (.tbl #[rawInt pos.line,rawInt pos.col,.ref c']):=by rw[upd_ne nPc.symm,upd_same]
  have ec2:upd (upd H P (.tbl #[rawInt pos.line,rawInt pos.col,.ref c'])) c' (zF2 c' qual) c'=some (zF2 c' qual):=upd_same
  have un:Un (frs X.stack) [] H (upd (upd H P (.tbl #[rawInt pos.line,rawInt pos.col,.ref c'])) c' (zF2 c' qual)) s.heap (h'.push (PySem.W.kla_obj "<lambda>" qual params body scope clos ((X.mg "__name__").getD .none) c' ctv)):=by
   refine⟨λb o q n _ _=>hk b o (nP b n) q,λb o q n _ _=>⟨o.slots,hk b o (nP b n) q⟩,λb o q n _=>?_,λb o q _=>?_,λb xs q=>?_,λb o u q=>?_,λb ps q=>?_⟩
   .rw [old b (nP b n) (qAO (qAi (qAH q) hge))];exact n
   .by_cases z:b=P
    .rw [z];exact⟨_,qAG _ htb⟩
    .exact ⟨o,hk b o z q⟩
   .rw [old b (λz=>by rw[z,e]at q;cases q) (λz=>by rw[z,fc]at q;cases q)];exact q
   .rw [old b (λz=>by rw[z,e]at q;cases q) (λz=>by rw[z,fc]at q;cases q)];exact q
   .by_cases z:b=P
    .rw [z,e]at q
     cases q
     exact⟨#[rawInt pos.line,rawInt pos.col,.ref c'],by rw[z,eP2];simp⟩
    .exact ⟨#[],by rw[old b z (λz=>by rw[z,fc]at q;cases q),q];simp⟩
  have hok:HOk X.prog X.w (upd (upd H P (.tbl #[rawInt pos.line,rawInt pos.col,.ref c'])) c' (zF2 c' qual)) (h'.push (PySem.W.kla_obj "<lambda>" qual params body scope clos ((X.mg "__name__").getD .none) c' ctv)):=λb o q=>by
   by_cases z1:b=c'
   .subst z1;rw[ec2]at q;cases q;obtain⟨d,oc,vs,t,e3,g,r⟩:=hrec;exact codeO_ok ⟨d,oc,vs,t,e3,qAG _ g,r⟩
   .by_cases z2:b=P
    .subst z2;rw[eP2]at q;cases q;exact qAG _ htb
    .rw [old b z2 z1]at q;refine(I.hok b o q).stay (λc v hc y=>hk c v (λz=>?_) y) (λc y=>?_) λc xs y=>?_
     .rcases hc with hc|hc
      .exact z2 (hc.symm.trans z)
      .rw [z,e]at hc;cases hc
     .rw [old c (λz=>by rw[z,e]at y;cases y) (λz=>by rw[z,fc]at y;cases y)];exact y
     .rw [old c (λz=>by rw[z,e]at y;cases y) (λz=>by rw[z,fc]at y;cases y)];exact y
  have J:Inv X pins σ (upd (upd H P (.tbl #[rawInt pos.line,rawInt pos.col,.ref c'])) c' (zF2 c' qual)) {s with heap:=h'.push (PySem.W.kla_obj "<lambda>" qual params body scope clos ((X.mg "__name__").getD .none) c' ctv),toks:=tk}:=I.call' rfl un hok I.bare λb z=>nomatch z
  have kp:Kp [P] H (upd (upd H P (.tbl #[rawInt pos.line,rawInt pos.col,.ref c'])) c' (zF2 c' qual)):=λb o q n=>by
   rw[old b (λz=>n (by simp[z])) (λz=>by rw[z,fc]at q;cases q)];exact q
  have fs:s.heap.objs.size<=h'.objs.size:=qAL hge (qCI hlt)
  have ff:upd (upd H P (.tbl #[rawInt pos.line,rawInt pos.col,.ref c'])) c' (zF2 c' qual) h'.objs.size=none:=by
   have n1:h'.objs.size≠P:=λz=>by
    have:=qAH htb;rw[<-z]at this;exact qA8 _ this
   rw[old _ n1 (qAt hlt)];exact I.hok.fresh fs
  exact h h'.objs.size c' ctv _ _ _ J kp ⟨c',eP2,ec2⟩ ec2 (qAX _ rfl) (I.fpOk fs ff)
 .rw [e]at eP
  cases eP
  refine PySem.W.kla_makeFunctionHit (mg:=X.mg) hcl I.ok.glob hgs hcode (C.keeps I.bk) pP trivial (among1 pos c') hB λctv h' tk hk hsz=>?_;have J:Inv X pins σ H {s with heap:=h'.push (PySem.W.kla_obj "<lambda>" qual params body scope clos ((X.mg "__name__").getD .none) c' ctv),toks:=tk}:=I.kept λb o q=>qAG _ (hk b o q);exact h h'.objs.size c' ctv _ _ _ J Kp.refl ⟨c',e,ec⟩ ec (qAX _ rfl) (I.fpOk hsz (I.hok.fresh hsz))
end
section
variable{X:Cx}{pins:List (Addr×Obj)}{σ:St}{H:Hp}{s:Shared}
theorem Inv.adopt{a:Addr}{o':HO}(I:Inv X pins σ H s)(f:FpOk X pins H a)(new:zA0 X.prog X.w (upd H a o') s.heap a o'):Inv X pins σ (upd H a o') s:=by
 obtain⟨f0,f1,f2,f3,f4,f5⟩:=f;have ne:∀b u,H b=some u->b≠a:=λb u q z=>by rw[z,f0]at q;cases q
 refine⟨I.ok,I.os,I.bare,⟨I.base.keep,I.base.slot,λb o q n x=>?_,I.base.there,λb xs q=>?_,λb o v q=>?_,λb ps q=>?_⟩,I.loc,I.cell,?_,λx c h=>?_,λp hp=>?_,λb o q=>?_,I.len⟩
 .have:=I.base.free b o q n x
  have nb:b≠a:=λz=>by
   rcases f3 with y|y
   .exact x (by rw[z];exact y)
   .exact absurd (qAi (qAH q) (by rw[z];exact y)) (qA8 _)
  rw[upd_ne nb];exact this
 .have:=I.base.tups b xs q;rw[upd_ne (ne b _ this)];exact this
 .have:=I.base.frzs b o v q;rw[upd_ne (ne b _ this)];exact this
 .obtain ⟨more,this⟩:=I.base.tbls b ps q;exact⟨more,by rw[upd_ne (ne b _ this)];exact this⟩
 .rw [upd_ne f1.symm];exact I.free
 .rw [upd_ne (f4 x c h)];exact I.freeC x c h
 .obtain ⟨h1,h2,h3⟩:=I.pin p hp;exact⟨h1,by rw[upd_ne (f5 p hp)];exact h2,h3⟩
 .by_cases z:b=a
  .subst z;rw[upd_same]at q;cases q;exact new
  .rw [upd_ne z]at q;refine(I.hok b o q).stay (λc v _ y=>y) (λc y=>?_) λc xs y=>?_
   .rw [upd_ne (ne c _ y)];exact y
   .rw [upd_ne (ne c _ y)];exact y
theorem FpOk.nstk{b:Addr}(I:Inv X pins σ H s)(f:FpOk X pins H b):b∉frs X.stack:=λz=>by
 obtain⟨f0,f1,f2,_⟩:=f;rcases qAM.mp (I.stkSub b z)with y|y
 .exact f1 y
 .exact f2 y
theorem Inv.cellAt{iy:Nat}{y:Str}{c:Addr}{vy:V}(I:Inv X pins σ H s)(hN:X.N[iy]?=some y)(hσ:σ[iy]?=some (some vy))(hk:X.env.kindOf y=some .cell)(hy:X.env.cells.lookup y=some c):∃u,RelV vy u/\s.heap.IsCell c (some u):=by
 obtain⟨m,_,l⟩:=I.loc;obtain⟨u,r,lk⟩:=l iy y vy hN hσ (.inr (.inl hk));rcases lk with⟨z,_⟩|⟨_,d,e,ic⟩
 .rw [hk]at z;cases z
 .rw [hy]at e;cases e;exact⟨u,r,ic⟩
theorem zip_strs{g:Str->Int}:∀{vs:List Value}{ks:List Str},StrsAre vs ks->∀p∈(ks.map g).zip vs,∃x t,x∈ks/\p=(g x,.str x t)
 |_,_,.nil,p,hp=>by simp at hp
 |_,_,.cons x t h,p,hp=>by
  rw[qAk,List.zip_cons_cons]at hp;rcases qAM.mp hp with z|z
  .exact ⟨x,t,qAY,z⟩
  .obtain ⟨x',t',h1,h2⟩:=zip_strs h p z;exact⟨x',t',qAU _ h1,h2⟩
end
theorem law_callT{P:Program}{w:World}{K:PySem.W.Frag}{mg mb:Str->Option Value}{CX:CXT}{k:Nat}{fa a:Addr}{fd:FuncData}{x:Str}{sp:Sp}{s₁:Shared}{vs:List Value}{ns:List Int}{tabs:List (Addr×Addr)}
  (KX:K.In s₁.heap) (hns:s₁.heap.Ns mainGlobals mg) (hb:s₁.heap.Ns builtinsNs mb) (hbb:∀x:Str,x≠ "__name__"->mb x=bootBuiltins x) (hlim:s₁.heap.NoLimit) (hg:s₁.gens=#[]) (hB:zIj mg s₁.heap) (hT:PySem.W.TabsAt tabs s₁.heap) (hKT:∀q∈tabs,K.lookup q.2=none)
  (ha:s₁.heap.get? a=some {cls:=.type "list",data:=.seq vs.toArray}) (hi:IntsAre vs ns) (hl:ns.length<=sizeLine) (hr:Room k callerA)
  (F:∀base:Heap,K.In base->base.Ns mainGlobals mg->zIj mg base->(∀q∈tabs,PySem.W.CodeHd base q.1 q.2)->FnOk P w K mg base CX k fa fd [x] sp) (hbind:∀(s:Shared)(u:Value),BindsTo s fd ⟨[u],[]⟩ [(x,u)])
  (hsp:∀H:Hp,SqL K H a (ns.map V.int)->(∀q∈tabs,H q.2=some (.tbl #[]))->sp [.ref a] H (λv _=>v= .bl true) λ_ _ _=>False)
  (hCX:∀H e s',CX [] H s₁ (λ_ _ _=>False) e s'->False) :
  codeAny (model P w) callerA (.call (.ref fa) ⟨[.ref a],[]⟩) (λr s'=>r= .ok (.ret (.bool true))/\OldK s₁.heap s'.heap/\s'.os=s₁.os/\AllBare s'.gens) s₁:=by
 have rv:=vals_ints hi;have lenV:=hi.length
 have naT:∀q∈tabs,q.2≠a:=λq hq z=>by
  have:=(hT q hq).2;rw[z,ha]at this;cases this
 have core:∀H:Hp,(∀b,H b=none\/(∃o xs,H b=some (.frz o (.lst xs)))\/(H b=some (.tbl #[])/\∃q∈tabs,q.2=b))->SqL K H a (ns.map V.int)->(∀q∈tabs,H q.2=some (.tbl #[]))->HOk P w H s₁.heap->(∀b,H b≠none->b=a\/∃q∈tabs,q.2=b)->(H a≠none->K.lookup a=none) ->
   codeAny (model P w) callerA (.call (.ref fa) ⟨[.ref a],[]⟩) (λr s'=>r= .ok (.ret (.bool true))/\OldK s₁.heap s'.heap/\s'.os=s₁.os/\AllBare s'.gens) s₁:=by
  intro H hO hS hH hok hA hK;have base_of:∀{b:Addr}{o:Obj},s₁.heap.get? b=some o->H b=none->(hidT s₁.heap H).get? b=some o:=λe n=>hidT_get e n
  have non:∀{b:Addr}{o:Obj},s₁.heap.get? b=some o->(∀xs n,o.data≠.seq xs n)->(∀ps,o.data≠.fields ps\/o.cls≠.none)->H b=none:=λ{b o} e n1 n2=>by
   cases q:H b with
   |none=>rfl
   |some u=>
    rcases hA b (by rw[q];simp)with z|⟨r,hr,z⟩
    .subst z;rw[ha]at e;cases e;exact absurd rfl (n1 _ _)
    .subst z;rw[(hT r hr).2]at e;cases e;rcases n2 #[]with z|z<;>exact absurd rfl z
  have noA:∀{b:Addr}{o:Obj}{es:Array DictEntry}{ep:Nat},s₁.heap.get? b=some o->o.data= .dict es ep->H b=none:=λ{b o es ep} e d=>non e (λxs n z=>by rw[d]at z;cases z) λps=>.inl λz=>by rw[d]at z;cases z
  have nsK:∀{b:Addr}{m:Str->Option Value},s₁.heap.Ns b m->(hidT s₁.heap H).Ns b m:=λ{b m} ⟨o,es,ep,e,d,r⟩=>⟨o,es,ep,base_of e (noA e d),d,r⟩
  have hKb:K.In (hidT s₁.heap H):=λb o e=>base_of (KX b o e) (by
   cases q:H b with
   |none=>rfl
   |some u=>
    rcases hA b (by rw[q];simp)with z|⟨r,hr,z⟩
    .subst z;rw[hK (by rw[q];simp)]at e;cases e
    .subst z;rw[hKT r hr]at e;cases e)
  have hBb:zIj mg (hidT s₁.heap H):=by
   obtain⟨bm,o,b1,b2,b3,b4,b5,b6⟩:=hB;exact⟨bm,o,b1,b2,base_of b3 (non b3 (λxs n z=>by rw[b6]at z;cases z) λps=>.inl λz=>by rw[b6]at z;cases z),b4,b5,b6⟩
  have hCb:∀q∈tabs,PySem.W.CodeHd (hidT s₁.heap H) q.1 q.2:=λq hq=>by
   obtain⟨o,vs',file,tf,flags,tg,inF,text,tt,c1,c2,c3,c4⟩:=(hT q hq).1;exact⟨o,vs',file,tf,flags,tg,inF,text,tt,base_of c1 (non c1 (λxs n z=>by rw[c3]at z;cases z) λps=>.inr λz=>by rw[c2]at z;cases z),c2,c3,c4⟩
  have hM:Mod K mg (hidT s₁.heap H):=⟨hKb,nsK hns,⟨mb,nsK hb,hbb⟩,let⟨mc,h1,h2⟩:=hlim;⟨mc,nsK h1,h2⟩⟩;have e0:Env0 P w K mg (hidT s₁.heap H) callerA [] s₁ H:=⟨rfl,hM,λb o e=>of_hidT e,qB0 (hidT_size _ _),trivial,λb hb=>absurd (show b∈([]:List Addr)from hb) (by simp),hok,.of_eq hg⟩;refine qBi ((F _ hKb (nsK hns) hBb hCb).run callerA [] s₁ H ⟨[.ref a],[]⟩ [.ref a] [.ref a] _ _ hr e0 (hbind s₁ (.ref a)) (.cons rfl .nil) (hsp H hS hH)) λr s' h=>?_
  cases r with
  |error e=>exact(hCX H e s' h).elim
  |ok fl=>
   cases fl with
   |next=>exact False.elim h
   |brk=>exact False.elim h
   |cont=>exact False.elim h
   |ret u=>
    obtain⟨v,H',os,bare,un,hok',r',q⟩:=h;have q':v= .bl true:=q;subst q';obtain rfl:u=Value.bool true:=r'
    have kept:∀b o,s₁.heap.get? b=some o->(∀r∈tabs,r.2≠b)->s'.heap.get? b=some o:=λb o e nt=>by
     cases q:H b with
     |none=>exact un.keep b o e q (by intro z;exact absurd (show b∈([]:List Addr)from z) (by simp)) (by simp)
     |some u=>
      rcases hO b with z|⟨ob,xs,z⟩|⟨z,r,hr,y⟩
      .rw [q]at z;cases z
      .have z2:=un.frzs b ob _ z;obtain⟨e1,_⟩:=hok b _ z;obtain⟨e2,_⟩:=hok' b _ z2;rw[e]at e1;cases e1;exact e2
      .exact absurd y (nt r hr)
    refine⟨rfl,⟨λb o e=>?_,λb o e=>?_⟩,os,bare⟩
    .by_cases t:∃r∈tabs,r.2=b
     .obtain ⟨r,hr,rfl⟩:=t;obtain⟨c1,c2⟩:=hT r hr;rw[c2]at e;cases e;obtain⟨more,z⟩:=un.tbls _ _ (hH r hr);have z2:s'.heap.get? r.2=some {cls:=.none,data:=.fields (#[]++more)}:=hok' _ _ z;exact .inr (.inl ⟨(c1.tab c2).isCodeTable,rfl,#[],more,rfl,z2⟩)
     .exact .inl (kept b o e λr hr z=>t ⟨r,hr,z⟩)
    .by_cases t:∃r∈tabs,r.2=b
     .obtain ⟨r,hr,rfl⟩:=t;obtain⟨more,z⟩:=un.tbls _ _ (hH r hr);exact⟨_,hok' _ _ z⟩
     .exact ⟨o,kept b o e λr hr z=>t ⟨r,hr,z⟩⟩
 have hTb:∀b:Addr,(∃q∈tabs,q.2=b)->s₁.heap.get? b=some (PySem.W.tabObj #[]):=λb ⟨q,hq,e⟩=>by rw[<-e];exact(hT q hq).2
 open Classical in
 cases hk:K.lookup a with
 |some o=>
  have e:=KX a o hk;rw[ha]at e
  cases e
  refine core (λb=>if(∃q∈tabs,q.2=b)then some (.tbl #[])else none) (λb=>?_) (.inr ⟨_,vs.toArray,_,hk,rfl,rfl,rfl,by rw[qAK,lenV];exact hl,by simpa using rv⟩) (λq hq=>qAC ⟨q,hq,rfl⟩) (λb u z=>?_) (λb z=>?_) λz=>?_
  .by_cases t:∃q∈tabs,q.2=b
   .exact .inr (.inr ⟨qAC t,t⟩)
   .exact .inl (qAB t)
  .by_cases t:∃q∈tabs,q.2=b
   .have z':=(qAC t).symm.trans z
    cases z'
    exact hTb b t
   .have z':=(qAB t).symm.trans z
    cases z'
  .by_cases t:∃q∈tabs,q.2=b
   .exact .inr t
   .exact absurd (qAB t) z
  .by_cases t:∃q∈tabs,q.2=a
   .obtain ⟨q,hq,e⟩:=t;exact absurd e (naT q hq)
   .exact absurd (qAB t) z
 |none=>
  have nta:¬∃q∈tabs,q.2=a:=λ⟨q,hq,e⟩=>naT q hq e;refine core (λb=>if b=a then some (.frz {cls:=.type "list",data:=.seq vs.toArray} (.lst (ns.map V.int)))else if(∃q∈tabs,q.2=b)then some (.tbl #[])else none) (λb=>?_) (.inl (.inr ⟨{cls:=.type "list",data:=.seq vs.toArray},qAC rfl⟩)) (λq hq=>(qAB (naT q hq)).trans (qAC ⟨q,hq,rfl⟩)) (λb u z=>?_) (λb z=>?_) λ_=>hk
  .by_cases hb:b=a
   .exact .inr (.inl ⟨_,_,qAC hb⟩)
   .by_cases t:∃q∈tabs,q.2=b
    .exact .inr (.inr ⟨(qAB hb).trans (qAC t),t⟩)
    .exact .inl ((qAB hb).trans (qAB t))
  .by_cases hb:b=a
   .have z':=(qAC hb).symm.trans z
    cases z'
    subst hb;exact⟨ha,by rw[qAD];exact hl,vs,_,rv,ha⟩
   .by_cases t:∃q∈tabs,q.2=b
    .have z':=((qAB hb).trans (qAC t)).symm.trans z
     cases z'
     exact hTb b t
    .have z':=((qAB hb).trans (qAB t)).symm.trans z
     cases z'
  .by_cases hb:b=a
   .exact .inl hb
   .by_cases t:∃q∈tabs,q.2=b
    .exact .inr t
    .exact absurd ((qAB hb).trans (qAB t)) z
theorem walk_ofT{l:PySem.W.OpenLaw}{n k:Nat}{q:Program}{loose:List Str}{XP:(Str->Option Value)->Heap->Prop}{YP:World->Heap->Prop}{d:DefRec}{K:Params->PySem.W.Frag}{CX:World->CXT}{sp:World->Sp}{x:Str}{tabs:List (Addr×Addr)}
  (hn:l.most=some n) (hn2:n<=sizeLine) (hdf:d.params.defaults=[]) (hr:Room k callerA)
  (hY:∀(w:World)(h:Heap),YP w h->(K w.params).In h) (hT:∀(w:World)(h:Heap),YP w h->PySem.W.TabsAt tabs h) (hKT:∀(w:World),∀q∈tabs,(K w.params).lookup q.2=none)
  (F:∀(w:World) (mg:Str->Option Value) (fa:Addr) (h:Heap),(K w.params).In h->h.Ns mainGlobals mg->mg d.name=some (.ref fa) ->
   ∃fd:FuncData,(∀(s:Shared)(u:Value),BindsTo s fd ⟨[u],[]⟩ [(x,u)]) /\
    ∀base:Heap,(K w.params).In base->base.Ns mainGlobals mg->zIj mg base->(∀q∈tabs,PySem.W.CodeHd base q.1 q.2)->FnOk l.prog w (K w.params) mg base (CX w) k fa fd [x] (sp w))
  (hsp:∀(w:World)(H:Hp)(a:Addr)(ns:List Int),ns.length<=n->SqL (K w.params) H a (ns.map V.int)->(∀q∈tabs,H q.2=some (.tbl #[]))->sp w [.ref a] H (λv _=>v= .bl true) λ_ _ _=>False)
  (hCX:∀(w:World)(H:Hp)(s:Shared)(e:Value)(s':Shared),CX w [] H s (λ_ _ _=>False) e s'->False) :
  PySem.W.WalkO q loose XP YP l.row.toRowW d [] (λf vs=>PySem.call f vs):=by
 refine Att.attach_call hn hdf λw s₀ s₁ mg mb fa o pm cd doc a vs ns G Y ho hd hcd hmg hobj hints hlen hg=>?_;have KX:=hY w _ Y;obtain⟨fd,hb,hF⟩:=F w mg fa _ KX G.T.g hmg;exact law_callT KX G.T.g G.T.b G.T.builtins G.T.nolimit hg G.T.bmain (hT w _ Y) (hKT w) hobj hints (qAL hlen hn2) hr hF hb (λH hS hH=>hsp w H a ns hlen hS hH) λH e s'=>hCX w H s₁ e s'
end L2
namespace RV
open PySem
end RV
namespace L2
open PySem PySem.Spec PyProof.Rows
def Itv(a:Addr)(o:Obj)(kvs:List (Key×V)):It :=
 ⟨λi H=>H a=some (.frz o (.dK kvs))/\i<kvs.length,λi H v H'=>H'=H/\∃k,kvs[i]?=some (k,v),λi H=>H a=some (.frz o (.dK kvs))/\kvs.length<=i⟩
theorem turn_vals{P:Program}{w:World}{K:PySem.W.Frag}{tg:Expr}(a it:Addr)(o:Obj)(es:Array DictEntry)(ep:Nat)(kvs:List (Key×V))(hd:o.data= .dict es ep):Turn P w K tg (Itv a o kvs) [it] it (λi h=>h.IsValIter it a i kvs.length ep) where
 mem:=by simp
 obj:=λi h ⟨o,st,c,dt⟩ b hb=>by
  have:b=it:=by simpa using hb
  subst this;exact⟨_,st,λv y=>by rw[dt]at y;cases y⟩
 keep:=λi h h' st k=>st.at λo e=>k it (by simp) o e
 item:=by
  intro X hP hw hK hc i pins s σ H E I hf st hg;subst hP hw hK;obtain⟨e,hi⟩:=hg;obtain⟨vs,es',ep',rel,hd',_,da,_,_,ho,_⟩:=zFz I e;have ee:ep'=ep:=by rw[hd]at hd';cases hd';rfl
  subst ee;have len:=rel.length;have ek:kvs[i]?=some (kvs[i].1,kvs[i].2):=qAV hi;obtain⟨v,ev,rv⟩:=kv_at rel ek;rw[len]at st;obtain⟨f0,f1,f2,f3,f4,f5⟩:=hf it (by simp);refine wpAny_pyNext_values_item st da ev λh' st' sb=>?_;have I1:Inv X pins σ H {s with heap:=h',toks:=s.toks}:=I.turned (t':=s.toks) (λb o hb y=>sb.extBut b o hb y) f0 f1 f3 f4 f5;rw[<-len]at st';obtain⟨o2,g1,g2,g3⟩:=id st';exact⟨_,rfl,go_of (s:={s with heap:=h'}) (n:="dict_valueiterator") g1 g2 g3 (by decide) ⟨kvs[i].2,H,I1,rv,⟨rfl,_,ek⟩,st',λb hb=>(hf b hb).1⟩⟩
 done:=by
  intro X hP hw hK hc i pins s σ H E I hf st hg;subst hP hw hK;obtain⟨e,hi⟩:=hg;obtain⟨vs,es',ep',rel,hd',_,da,_,_,ho,_⟩:=zFz I e;have ee:ep'=ep:=by rw[hd]at hd';cases hd';rfl
  subst ee;have len:=rel.length;rw[len]at st;obtain⟨f0,f1,f2,f3,f4,f5⟩:=hf it (by simp);exact wpAny_pyNext_values_end (I.ok.hd hc) st da (by simp;lia) λh' eb=>⟨rfl,I.turned (t':=s.toks) (λb o hb y=>eb b o hb y) f0 f1 f3 f4 f5⟩
 self:=λ_ _ _ _ _ st h=>wpAny_pyIter_valiter st h
section
variable{X:Cx}
theorem pi_vals{tg o:Expr}{to:TE}{apos cpos:Pos}(ho:PE X o to)(hbase:attributeBase o "values" X.env (eval o X.env)=eval o X.env:=by rfl)(hline:(apos.endLine==cpos.line)=true:=by rfl) :
  PI X tg (.Call (.Attribute o "values" apos) [] [] cpos) (λσ H R=>to σ H λx H1=>∃a ob kvs,x= .ref a/\H1 a=some (.frz ob (.dK kvs))/\R (Itv a ob kvs) H1):=by
 intro pins s σ H R I h;refine qDs hbase hline (thn (ho pins s σ H _ I h) λv s1 ⟨x,H1,I1,r1,a,ob,kvs,ex,e,q⟩=>?_);subst ex
 cases r1
 obtain⟨vs,es,ep,rel,hd,sz,da,nsys,z,hget,exd⟩:=zFz I1 e;have ty:s1.TypeIs (.ref a) "dict":= ⟨_,hget,exd.1⟩;have len:=rel.length;refine⟨"dict","dict.values",qCm,qD0,PySem.F.type_dict_values,ty,(λb y=>by cases y;exact⟨ob,hget,exd.2.1⟩),qCg rfl (PySem.evalArgs_none ?_)⟩;obtain⟨o2,es2,y1,y2,y3,y4,y5,y6⟩:=id da;refine qBh (qCB qD0.plain PySem.F.entry_dict_values (qD0.check _ _ _ _ _ _ _ _ ty (PySem.F.args_dict_values_1 _) (meets_dict_values (zAn X.prog X.w) a nsys X.A (wants (λv s1=>wpAny (model X.prog X.w) X.A (pyIter v) (PIE X pins σ tg R) X.xe s1) X.xe) s1 ⟨⟨vs,o2,es2,ep,y1,y2,y3,y4,y5,y6⟩,?_⟩)));show wpAny _ _ (pyIter _) _ _ _;have hv:(s1.heap.push {cls:=.type "dict_values",data:=.fields #[.ref a]}).IsValuesView s1.heap.objs.size a:=⟨_,qAX _ rfl,rfl,rfl⟩;have da':(s1.heap.push {cls:=.type "dict_values",data:=.fields #[.ref a]}).DictAt (zAn X.prog X.w) a vs ep:=⟨o2,es2,qAG _ y1,y2,y3,y4,y5,y6⟩;refine wpAny_pyIter_values (s:={s1 with heap:=s1.heap.push {cls:=.type "dict_values",data:=.fields #[.ref a]}}) hv da' ?_;have k1:∀b u,s1.heap.get? b=some u->((s1.heap.push {cls:=.type "dict_values",data:=.fields #[.ref a]}).push {cls:=.type "dict_valueiterator",data:=.fields #[.ref a,.int 0 0,.int vs.length 0,.int ep 0]}).get? b=some u:=λb u y=>qAG _ (qAG _ y);refine⟨_,[(s1.heap.push {cls:=.type "dict_values",data:=.fields #[.ref a]}).objs.size],_,_,H1,rfl,I1.kept (t':=s1.toks) k1,turn_vals a _ ob es ep kvs hd,⟨_,qAX _ rfl,rfl,by rw[len];rfl⟩,λb hb=>?_,q⟩;have:b=(s1.heap.push {cls:=.type "dict_values",data:=.fields #[.ref a]}).objs.size:=by simpa using hb
 subst this;have ge:s1.heap.objs.size<=(s1.heap.push {cls:=.type "dict_values",data:=.fields #[.ref a]}).objs.size:=by rw[qBE];exact qBq _
 exact I1.fpOk ge (I1.hok.fresh ge)
theorem comp_vals{a:Addr}{o:Obj}{kvs:List (Key×V)}{ix:List (Option Nat)}{g:TG}{tt:TT}{te:TE}{QD:Hp->Prop}{σ:St}{H1:Hp}{D:Addr}(Pv:Nat->List V->St->Hp->Prop)(h0:Pv 0 [] (zCj σ ix) (upd H1 D (.lst [])))
  (hl:∀i ys τ H,Pv i ys τ H->H a=some (.frz o (.dK kvs)))
  (hs:∀i k v ys τ H,kvs[i]?=some (k,v)->Pv i ys τ H->g v τ H λτ' H4=>tt τ' H4 λb H5=>if b=true then te τ' H5 λv H6=>H6 D=some (.lst ys)/\ys.length<sizeLine/\Pv (i+1) (ys++[v]) τ' (upd H6 D (.lst (ys++[v])))else Pv (i+1) ys τ' H5)
  (hd:∀ys τ H,Pv kvs.length ys τ H->QD H) :
  ∃W:Nat->Nat->List V->St->Hp->Prop,(∃m,W 0 m [] (zCj σ ix) (upd H1 D (.lst [])))/\∀i m ys τ H2,W i m ys τ H2 ->
   ((Itv a o kvs).stop i H2/\QD H2)\/((Itv a o kvs).go i H2/\∃N:List V->St->Hp->Prop,(∀ys' τ' H',N ys' τ' H'->∃m',m'<m/\W (i+1) m' ys' τ' H')/\∀x H3,(Itv a o kvs).yld i H2 x H3->g x τ H3 λτ' H4=>tt τ' H4 λb H5=>if b=true then te τ' H5 λv H6=>H6 D=some (.lst ys)/\ys.length<sizeLine/\N (ys++[v]) τ' (upd H6 D (.lst (ys++[v]))) else N ys τ' H5):=by
 refine⟨λi m ys τ H=>m=kvs.length-i/\i<=kvs.length/\Pv i ys τ H,⟨kvs.length,by simp,qAd _,h0⟩,?_⟩;rintro i m ys τ H ⟨rfl,hi,p⟩
 by_cases hlt:i<kvs.length
 .refine .inr ⟨⟨hl i ys τ H p,hlt⟩,Pv (i+1),λys' τ' H' p'=>⟨_,?_,rfl,hlt,p'⟩,λx H' y=>?_⟩
  .show kvs.length-(i+1)<kvs.length-i;lia
  .obtain ⟨rfl,k,ek⟩:=y;exact hs i k x ys τ H' ek p
 .have e:i=kvs.length:=by lia
  subst e;exact .inl ⟨⟨hl _ ys τ H p,qAF _⟩,hd ys τ H p⟩
end
end L2
namespace L2
variable{t1 t2 t3 t4 t5 t6:TS}
theorem hid2{D σ H}(h:let d:=D;let r2:=t2;tSeq t1 r2 d σ H):tSeq t1 t2 D σ H:=h
theorem hid3{D σ H}(h:let d:=D;let r3:=t3;let r2:=tSeq t2 r3;tSeq t1 r2 d σ H):tSeq t1 (tSeq t2 t3) D σ H:=h
theorem hid4{D σ H}(h:let d:=D;let r4:=t4;let r3:=tSeq t3 r4;let r2:=tSeq t2 r3;tSeq t1 r2 d σ H):tSeq t1 (tSeq t2 (tSeq t3 t4)) D σ H:=h
theorem hid5{D σ H}(h:let d:=D;let r5:=t5;let r4:=tSeq t4 r5;let r3:=tSeq t3 r4;let r2:=tSeq t2 r3;tSeq t1 r2 d σ H):tSeq t1 (tSeq t2 (tSeq t3 (tSeq t4 t5))) D σ H:=h
theorem hid6{D σ H}(h:let d:=D;let r6:=t6;let r5:=tSeq t5 r6;let r4:=tSeq t4 r5;let r3:=tSeq t3 r4;let r2:=tSeq t2 r3;tSeq t1 r2 d σ H):tSeq t1 (tSeq t2 (tSeq t3 (tSeq t4 (tSeq t5 t6)))) D σ H:=h
theorem hid7{t7:TS}{D σ H}(h:let d:=D;let r7:=t7;let r6:=tSeq t6 r7;let r5:=tSeq t5 r6;let r4:=tSeq t4 r5;let r3:=tSeq t3 r4;let r2:=tSeq t2 r3;tSeq t1 r2 d σ H):tSeq t1 (tSeq t2 (tSeq t3 (tSeq t4 (tSeq t5 (tSeq t6 t7))))) D σ H:=h
theorem hid9{t7 t8 t9:TS}{D σ H}(h:let d:=D;let r9:=t9;let r8:=tSeq t8 r9;let r7:=tSeq t7 r8;let r6:=tSeq t6 r7;let r5:=tSeq t5 r6;let r4:=tSeq t4 r5;let r3:=tSeq t3 r4;let r2:=tSeq t2 r3;tSeq t1 r2 d σ H):tSeq t1 (tSeq t2 (tSeq t3 (tSeq t4 (tSeq t5 (tSeq t6 (tSeq t7 (tSeq t8 t9))))))) D σ H:=h
end L2
local macro_rules|`(tactic|walk_at"lc")=>`(tactic|first|exact Or.inl rfl|exact Or.inr rfl)
local macro_rules|`(tactic|walk_at"nm")=>`(tactic|first|assumption|exact qCw|(refine L2.nm1 ?_;walk_at"ne")|(refine L2.nm2 ?_ ?_<;>walk_at"ne")|(refine L2.nm3 ?_ ?_ ?_<;>walk_at"ne"))
local macro_rules|`(tactic|walk_at"lk")=>`(tactic|first|assumption|exact L2.upd_same|(refine(L2.upd_ne ?_).trans ?_;walk_at"ne";walk_at"lk")|(refine L2.Kp.look (by assumption) ?_ ?_;walk_at"lk";walk_at"nm"))
local macro_rules|`(tactic|walk_at"ne")=>`(tactic|first|assumption|(refine qAj ?_;assumption)|(refine L2.ne_fre (by assumption) ?_;walk_at"lk")|(refine qAj (L2.ne_fre (by assumption) ?_);walk_at"lk"))
local macro_rules|`(tactic|walk_at"bd")=>`(tactic|first|decide|lia|(dsimp only;first|decide|lia))
local macro_rules|`(tactic|walk_at"ml")=>`(tactic|first|exact Or.inr ⟨by decide,by decide⟩|exact Or.inl ⟨by lia,by lia⟩|exact Or.inr ⟨by lia,by lia⟩)
local macro_rules|`(tactic|walk_at"ln")=>`(tactic|first|decide|(have hsz:=PySem.sizeLine_eq;simp only[qAc,qBV,qAD,qAl]at *;lia))
local macro_rules|`(tactic|walk_at"ix")=>`(tactic|first|rfl|assumption|(refine L2.atI_natc ?_;assumption))
local macro_rules|`(tactic|walk_at"vs")=>`(tactic|first|exact Or.inl rfl|exact Or.inr (Or.inl rfl)|exact Or.inr (Or.inr rfl))
local macro_rules|`(tactic|walk_at"vk")=>`(tactic|first|exact Or.inl rfl|exact Or.inr rfl)
local macro_rules|`(tactic|walk_at"vf")=>`(tactic|first|decide +kernel|(simp only[qAM];decide))
namespace My
open PySem L2
variable{P:Program}{w:World}{K:PySem.W.Frag}{mg:Str->Option Value}{base:Heap}{C:Addr}
variable{H H':Hp}{f:Addr}{fd:FuncData}{ns:List Str}{α:Type}{i:Nat}{y:Str}
section
variable{X:Cx}{scope sc:Scope}{C:Addr}{s₀:Shared}{H₀:Hp}{ex:List Addr}{N P:List Str}{i:Nat}{x:Str}{e:Expr}{te:TE}{pos pos':Pos}{ix:List (Option Nat)}
theorem psS(hN:X.N.Nodup)(he:PE X e te)(hi:X.N[i]?=some x:=by rfl)(hx:Loc X.env.scope x:=by walk_at"lc")(hs:swapsWith e (some (.Name x pos')) pos.line X.env=pure false:=by rfl)(hf:X.fn x=true\/X.env.scope.names.lookup x=some .local:=by first|exact .inl rfl|exact .inr rfl|assumption):PS X (.Assign [.Name x pos'] e pos) (tAsg te (gName i)):=ps_set hN hi hx he hs hf
theorem pgN(hN:X.N.Nodup)(hi:X.N[i]?=some x:=by rfl)(hx:Loc X.env.scope x:=by walk_at"lc")(hf:X.fn x=true\/X.env.scope.names.lookup x=some .local:=by first|exact .inl rfl|exact .inr rfl|assumption):PG X (.Name x pos) (gName i):=pg_name hN hi hx hf
theorem pgB(hi:(X.block scope C s₀ H₀ ex N).N[i]?=some x:=by rfl)(hN:N.Nodup:=by decide +kernel)(hx:Loc (X.block scope C s₀ H₀ ex N).env.scope x:=by walk_at"lc")(hf:(X.block scope C s₀ H₀ ex N).fn x=true\/(X.block scope C s₀ H₀ ex N).env.scope.names.lookup x=some .local:=by first|exact .inl rfl|exact .inr rfl|assumption):PG (X.block scope C s₀ H₀ ex N) (.Name x pos) (gName i):=pg_name hN hi hx hf
theorem dtk(hN:X.N[i]?=some x)(D:Draws X scope N ix)(hv:Vis X.env.scope x:=by walk_at"vs")(hk:(relabel scope X.env).names.lookup x=some .cell\/(relabel scope X.env).names.lookup x=some .free:=by walk_at"vk")(hf:(x,NameKind.free)∈scope.names:=by walk_at"vf"):Draws X scope (x::N) (some i::ix):=.tk hN hv hk hf D
theorem fnS(a:sc.kind= .function:=by rfl)(b:sc.isCoroutine=false:=by rfl)(c:sc.isGenerator=false:=by rfl)(d:N.Nodup:=by decide +kernel)(e:N.take P.length=P:=by rfl)(f:∀x∈P,sc.names.lookup x=some .local\/sc.names.lookup x=some .cell:=by decide +kernel)(g:∀y∈sc.names,y.2≠.free:=by decide +kernel):FnScope N P sc:=⟨a,b,c,d,e,f,g⟩
end
def top(i:Nat):Stmt:=PySem.Challenge.pw_levelbench_k67_least_lateness_of_few.main.body.getD i (.Pass ⟨0,0,0,0⟩)
structure Txt(K:PySem.W.Frag)(mg:Str->Option Value):Prop where
 z_len:mg "len"=none
 z_max:mg "max"=none
 z_range:mg "range"=none
 z_int:mg "int"=none
 z_str:mg "str"=none
 z_list:mg "list"=none
 z_all:mg "all"=none
 z_min:mg "min"=none
 z_dict:mg "dict"=none
 z_bool:mg "bool"=none
 z_abs:mg "abs"=none
 z_reversed:mg "reversed"=none
 z_enumerate:mg "enumerate"=none
 z_any:mg "any"=none
 z_sum:mg "sum"=none
 z_isinstance:mg "isinstance"=none
 z_sorted:mg "sorted"=none
 z_set:mg "set"=none
 z_tuple:mg "tuple"=none
 c_MOST_JOBS:∃t,mg "MOST_JOBS"=some (.int 20 t)
 c_LONGEST_NAME:∃t,mg "LONGEST_NAME"=some (.int 8 t)
section
def zBk(H:Hp)(p:Addr):Prop:=∃a b:Int,H p=some (.lst [.int a,.int b])/\0<=a/\0<=b/\b<2147483629
theorem zBk.kp{M:List Addr}{p:Addr}(h:zBk H p)(k:Kp M H H')(n:p∉M):zBk H' p:=by
 obtain⟨a,b,e,r⟩:=h;exact⟨a,b,k p _ e n,r⟩
def zHc:Sp:=λvs H Q _=>∃(p:Addr)(m:Int),vs=[.ref p,.int m]/\zBk H p/\1<=m/\m<10^100/\∀(d:Int)(H':Hp),0<=d->d<m->zBk H' p->Kp [p] H H'->Q (.int d) H'
abbrev s_take:Stmt:=top 56
theorem sc_take:FnScope ["_law_purse_here","_law_many","_law_digit"] ["_law_purse_here","_law_many"] (zAd s_take):=fnS
theorem ok_take(F:Fun K "_law_take" "_law_take" s_take f fd):FnOk P w K mg base CX0 1 f fd ["_law_purse_here","_law_many"] zHc:=by
 refine F.ok sc_take (λvs H Q E h=>?_) (λcdv A outer s H vs Q E hr h=>?_)
 .obtain ⟨p,m,rfl,_⟩:=h;rfl
 .obtain ⟨p,m,rfl,⟨a,b,hp,ha,hb,hb'⟩,hm,hm',k⟩:=h
  refine⟨_,(zAb (zB5 (zAo op_gt (zCh zBt (pv 0) zAf (λ_ _=>rfl)) zAf (zAq _)) (zAb (psS (i:=2) sc_take.nd (zAk zHm (zCh zBt (pv 0) zAf (fun _ _=>rfl)) (pv 1)))
    (zAb (ps_asg (zAk op_fdivB (zCh zBt (pv 0) zAf (fun _ _=>rfl)) (pv 1)) (pg_sub (pv 0) zAf set_list))
    (zAe (zAm (pv 2))))) zAr) (zAb (ps_asg (zAk zHm (zAk zBn (zAk zD3 (zCh zBt (pv 0) zAf (fun _ _=>rfl)) zAf) zAf) zAf) (pg_sub (pv 0) zAf set_list))
   (zAe (zAm (zAk zHm (zAk op_fdiv (zAk zHm (zAk zD3 (zCh zBt (pv 0) zAf (λ_ _=>rfl)) (zCh zBt (pv 0) zAf (λ_ _=>rfl))) zAf) zAf) (pv 1)))))),?_⟩
  refine hid3 ?_;intro _ _ _;refine⟨_,rfl,_,_,_,_,rfl,rfl,SqL.of (by walk_at"lk"),(by walk_at"ix"),_,_,rfl,rfl,_,rfl,?_⟩;refine ite2 (λc=>?_) (λc=>?_)
  .have c':0<a:=by simpa using c
   refine⟨_,rfl,_,_,_,_,rfl,rfl,SqL.of (by walk_at"lk"),(by walk_at"ix"),_,rfl,_,_,rfl,rfl,(by walk_at"bd"),?_⟩;refine⟨_,rfl,_,_,_,_,rfl,rfl,SqL.of (by walk_at"lk"),(by walk_at"ix"),_,rfl,_,_,rfl,rfl,⟨by walk_at"bd",hm'⟩,_,rfl,_,_,_,_,rfl,rfl,(by walk_at"lk"),(by walk_at"ix"),?_⟩;refine⟨_,rfl,?_⟩;refine k _ _ (qCQ _ (by lia)) (qCR _ (by lia)) ⟨a / m,b,upd_same,Int.ediv_nonneg ha (by lia),hb,hb'⟩ (Kp.put Kp.refl (by simp))
  .refine ⟨_,rfl,_,_,_,_,rfl,rfl,SqL.of (by walk_at"lk"),(by walk_at"ix"),_,_,rfl,rfl,(by walk_at"ml"),_,_,rfl,rfl,_,_,rfl,rfl,(by walk_at"bd"),_,rfl,_,_,_,_,rfl,rfl,(by walk_at"lk"),(by walk_at"ix"),?_⟩;have h1:=qCQ (b*39373+7919) (show(2147483629:Int)≠0 by decide);have h2:=qCR (b*39373+7919) (show(0:Int)<2147483629 by decide);refine⟨_,rfl,_,_,_,_,rfl,rfl,SqL.of (by walk_at"lk"),(by walk_at"ix"),_,rfl,_,_,_,_,rfl,rfl,SqL.of (by walk_at"lk"),(by walk_at"ix"),_,_,rfl,rfl,(by walk_at"ml"),_,_,rfl,rfl,(by walk_at"bd"),_,_,rfl,rfl,⟨by walk_at"bd",by walk_at"bd"⟩,_,rfl,_,_,rfl,rfl,(by walk_at"bd"),?_⟩;refine k _ _ (qCQ _ (by lia)) (qCR _ (by lia)) ⟨a,_,upd_same,ha,h1,h2⟩ (Kp.put Kp.refl (by simp))
def spPurse:Sp:=λvs H Q _=>∃(c k:Int),vs=[.int c,.int k]/\-(2^31)<k/\k<2^31/\∀(p:Addr)(H':Hp),Fre H p->zBk H' p->Kp [] H H'->Q (.ref p) H'
abbrev s_purse:Stmt:=top 55
theorem sc_purse:FnScope ["_law_cell_here","_law_k","_law_number"] ["_law_cell_here","_law_k"] (zAd s_purse):=fnS
theorem ok_purse(F:Fun K "_law_purse" "_law_purse" s_purse f fd)(T:Txt K mg):FnOk P w K mg base CX0 1 f fd ["_law_cell_here","_law_k"] spPurse:=by
 refine F.ok sc_purse (λvs H Q E h=>?_) (λcdv A outer s H vs Q E hr h=>?_)
 .obtain ⟨p,m,rfl,_⟩:=h;rfl
 .obtain ⟨c,n,rfl,hn,hn',k⟩:=h
  refine⟨_,(zAb (psS (i:=2) sc_purse.nd (zAk zHm (zAk zBn (zAk zBn (zAk zD3 (zAk zHm (pv 0) zAf) zAf) (zAk zD3 (zAk zD3 (pv 1) (pv 1)) zAf)) zAf) zAf)) (zAe (zAm (zBv (zAa (zAi (call_max2 rfl) (by rfl) T.z_max bo_max (zAa zAf (zAa (zAk zCt (pv 0) (zAk zIu zAf zAf)) zAc))) (zAa (zAk zHm (zAk zD3 (pv 2) (pv 2)) zAf) zAc)))))),?_⟩
  refine hid2 ?_;intro _ _;refine⟨_,rfl,_,_,rfl,rfl,(by walk_at"bd"),_,_,rfl,rfl,(by walk_at"ml"),_,rfl,_,rfl,_,_,rfl,rfl,(by walk_at"ml"),_,_,rfl,rfl,(by walk_at"ml"),_,_,rfl,rfl,_,_,rfl,rfl,_,_,rfl,rfl,(by walk_at"bd"),?_⟩;generalize c % 2147483629*48271+n*n*69623+11=y;have h1:=qCQ y (show(2147483647:Int)≠0 by decide);have h2:=qCR y (show(0:Int)<2147483647 by decide);refine⟨_,rfl,_,_,rfl,rfl,⟨by decide,by decide,by decide⟩,_,_,rfl,rfl,_,_,rfl,_,rfl,_,rfl,_,_,rfl,rfl,(by walk_at"ml"),_,_,rfl,rfl,(by walk_at"bd"),(by walk_at"ln"),λp hp=>?_⟩;refine k p _ hp ⟨_,_,upd_same,?_,qCQ _ (by decide),qCR _ (by decide)⟩ (Kp.new Kp.refl hp);split<;>lia
def spCell(K:PySem.W.Frag):Sp:=λvs H Q _=>∃(a:Addr)(ns:List Int)(k:Int),vs=[.ref a,.int k]/\SqL K H a (ns.map V.int)/\0<=k/\∀c:Int,Q (.int c) H
abbrev s_cell:Stmt:=top 54
theorem sc_cell:FnScope ["_law_script","_law_k"] ["_law_script","_law_k"] (zAd s_cell):=fnS
theorem ok_cell(F:Fun K "_law_cell" "_law_cell" s_cell f fd)(T:Txt K mg):FnOk P w K mg base CX0 1 f fd ["_law_script","_law_k"] (spCell K):=by
 refine F.ok sc_cell (λvs H Q E h=>?_) (λcdv A outer s H vs Q E hr h=>?_)
 .obtain ⟨p,m,n,rfl,_⟩:=h;rfl
 .obtain ⟨a,ns,n,rfl,hS,hn,k⟩:=h;refine⟨_,(zAe (zAm (pe_ifExp (zAo op_lt (pv 1) (zAi zAl (by rfl) T.z_len zBw (zAa (pv 0) zAc)) (zAq _)) (zCh zBt (pv 0) (pv 1) (λ_ _=>rfl)) zAf))),?_⟩;refine⟨_,rfl,_,rfl,_,_,rfl,.inl hS,_,_,rfl,rfl,_,rfl,?_⟩;refine ite2 (λc=>?_) (λc=>?_)
  .have c':n<ns.length:=by simpa using c
   have hx:(ns.map V.int)[n.toNat]?=some (V.int (ns[n.toNat]'(by lia))):=by simp
   refine⟨_,rfl,_,rfl,_,_,_,_,rfl,rfl,hS,zDe hn hx,k _⟩
  .exact k _
end
def zIi(s:Str):Prop:=1<=s.length/\s.length<=8/\∀c∈s.cps.toList,97<=c/\c<=122
def WordS(n:Nat)(s:Str):Prop:=s.length=n/\∀c∈s.cps.toList,97<=c/\c<=122
theorem len_app(a b:Str):(a++b).length=a.length+b.length:=by
 show(a++b).cps.size=_;rw[Str.cps_append,Array.size_append];rfl
theorem WordS.more{n:Nat}{s:Str}(h:WordS n s){c:Nat}(h1:97<=c)(h2:c<=122):WordS (n+1) (s++⟨#[c]⟩):=by
 refine⟨by rw[len_app,h.1];rfl,λx hx=>?_⟩;rw[Str.cps_append,Array.toList_append]at hx;rcases qAT.mp hx with z|z
 .exact h.2 x z
 .have:x=c:=by simpa using z
  lia
def zEj:Str:="abcdefghijklmnopqrstuvwxyz"
theorem zEi:zEj.cps.toList=(List.range 26).map (97+·):=by decide +kernel
theorem letters_at{d:Int}(h0:0<=d)(h1:d<26):atI zEj.cps.toList d=some (97+d.toNat):=by
 refine zDe h0 ?_;have:d.toNat<26:=by lia
 rw[zEi,qAZ,qCv this];rfl
theorem zE7(a c:Nat):(!(decide (([c]:List Nat)<[a])))=decide (a<=c):=by
 have:(([c]:List Nat)<[a])↔c<a:=by
  constructor
  .intro h
   cases h with
   |rel h=>exact h
   |cons h=>cases h
  .intro h;exact List.Lex.rel h
 by_cases h:c<a
 .rw [qAS (this.mpr h),qAa (by lia)];rfl
 .rw [qAa (λz=>h (this.mp z)),qAS (by lia)];rfl
section
def zJq(s:Str):Bool:=decide (1<=s.length)&&decide (s.length<=8)&&s.cps.toList.all λc=>decide (97<=c)&&decide (c<=122)
theorem nameB_iff(s:Str):zJq s=true↔zIi s:=by
 unfold zJq zIi;simp only[qBB,qA3,qBF];exact⟨λ⟨⟨a,b⟩,c⟩=>⟨a,b,c⟩,λ⟨a,b,c⟩=>⟨⟨a,b⟩,c⟩⟩
def spIsName:Sp:=λvs H Q _=>∃(x:Str),vs=[.str x]/\x.length<=1000000/\∀H',Kp [] H H'->Q (.bl (zJq x)) H'
abbrev zFm:Stmt:=top 19
theorem sc_is_name:FnScope ["thing"] ["thing"] (zAd zFm):=fnS
theorem ok_is_name(F:Fun K "is_name" "is_name" zFm f fd)(T:Txt K mg):FnOk P w K mg base CX0 1 f fd ["thing"] spIsName:=by
 refine F.ok sc_is_name (λvs H Q E h=>?_) (λcdv A outer s H vs Q E hr h=>?_)
 .obtain ⟨x,rfl,_⟩:=h;rfl
 .obtain ⟨x,rfl,hx,k⟩:=h;obtain⟨tL,hL⟩:=T.c_LONGEST_NAME
  refine⟨_,(zAb (zB5 (PW.pt (pw_or (zDc (zC4 (zAi zEx (by rfl) T.z_isinstance zBj (zAa (pv 0) (zAa (zGc (by rfl) T.z_str bo_str (v:=.ty "str") rfl) zAc))))) (zHk (zDc (pt_chain op_le op_le zAf (zAi call_len_str (by rfl) T.z_len zBw (zAa (pv 0) zAc)) (pe_glob rfl hL (v:=.int 8) ⟨_,rfl⟩)))))) (zAe (zAm zIb)) zAr) (zAe (zAm (zAi (zDz _ rfl) (by rfl) T.z_all zH6 (zAa (zAt rfl (zAz (sc:=zAd zFm) rfl (by decide +kernel)) (Draws.own (x:="sign") Draws.nil) (pi_str (pv 0)) (λ_ _ _ _=>(pgB (i:=0))) (λ_ _ _ _=>zBl) (λ_ _ _ _=>(pe_chain op_le_str op_le_str pe_str (pv 0) pe_str))) zAc))))),?_⟩
  refine hid2 ?_;intro _ _;refine⟨_,rfl,_,_,_,_,rfl,TyOf.str x,zFx,_,rfl,iteF ?_⟩;refine⟨_,rfl,_,rfl,?_,_,_,rfl,rfl,_,rfl,?_⟩
  .rw [qAI];lia
  refine ite2 (λc=>?_) (λc=>?_)
  .have c1:1<=x.length:=by
    have:=qAo c;lia
   refine⟨_,_,rfl,rfl,_,rfl,?_⟩;refine ite2 (λc=>?_) (λc=>?_)
   .-- too long
    have c2:¬(x.length<=8):=λz=>by
     have:decide ((x.length:Int)<=8)=true:=qAS (by lia);rw[this]at c;cases c
    have e:zJq x=false:=by
     unfold zJq;rw[qAa c2];simp
    rw[<-e];exact k H Kp.refl
   .have c2:x.length<=8:=by
     by_cases z:(x.length:Int)<=8
     .lia
     .rw [qAa z]at c;exact absurd rfl c
    refine⟨_,rfl,_,rfl,λD hD=>comp_str0 (z:=x) (λi ys τ H'=>(∃o0,τ=[o0])/\ys=((x.cps.toList.take i).map λc=>V.bl (decide (97<=c)&&decide (c<=122)))/\H'=upd H D (.lst ys)) ⟨⟨_,rfl⟩,rfl,rfl⟩ ?_ ?_⟩
    .rintro i c ys τ H' hc ⟨⟨o0,rfl⟩,rfl,rfl⟩;have ei:x.cps.toList.take (i+1)=x.cps.toList.take i++[c]:=by rw[List.take_succ,hc];rfl
     have hi:i<x.cps.toList.length:=(qAf.mp hc).1;have hlen:x.cps.toList.length=x.length:=by simp[Str.length]
     have fin:∀b:Bool,b=(decide (97<=c)&&decide (c<=122))->(upd H D (.lst ((x.cps.toList.take i).map λc=>V.bl (decide (97<=c)&&decide (c<=122))))) D=some (.lst ((x.cps.toList.take i).map λc=>V.bl (decide (97<=c)&&decide (c<=122))))/\((x.cps.toList.take i).map λc=>V.bl (decide (97<=c)&&decide (c<=122))).length<sizeLine /\
       ((∃o0,([some (V.str ⟨#[c]⟩)]:St)=[o0])/\((x.cps.toList.take i).map fun c=>V.bl (decide (97<=c)&&decide (c<=122)))++[V.bl b]=((x.cps.toList.take (i+1)).map fun c=>V.bl (decide (97<=c)&&decide (c<=122))) /\
       upd (upd H D (.lst ((x.cps.toList.take i).map λc=>V.bl (decide (97<=c)&&decide (c<=122))))) D (.lst (((x.cps.toList.take i).map λc=>V.bl (decide (97<=c)&&decide (c<=122)))++[V.bl b]))=upd H D (.lst (((x.cps.toList.take i).map λc=>V.bl (decide (97<=c)&&decide (c<=122)))++[V.bl b]))):=λb hb=>by
      refine⟨upd_same,?_,⟨_,rfl⟩,?_,zAx⟩
      .rw [qAD,qAR,qAI];lia
      .rw [ei,qAN,hb];rfl
     refine⟨_,rfl,_,_,rfl,rfl,_,rfl,?_⟩;refine ite2 (λc1=>?_) (λc1=>?_)
     .refine ⟨_,_,rfl,rfl,fin _ ?_⟩;have c1:(!(decide (([c]:List Nat)<[97])))=true:=c1;rw[zE7]at c1;show(!(decide (([122]:List Nat)<[c])))=_;rw[zE7,c1];rfl
     .refine fin _ ?_;have c1:¬(!(decide (([c]:List Nat)<[97])))=true:=c1;rw[zE7]at c1;rw[Bool.not_eq_true]at c1;rw[c1];rfl
    .rintro ys τ H' ⟨⟨o0,rfl⟩,rfl,rfl⟩;have hlen:x.cps.toList.take x.length=x.cps.toList:=qBc (by simp[Str.length]);refine⟨D,x.cps.toList.map (λc=>decide (97<=c)&&decide (c<=122)),rfl,SqL.of ?_,?_⟩
     .rw [upd_same,hlen,qAp];rfl
     .have e:((x.cps.toList.map (λc=>decide (97<=c)&&decide (c<=122))).all id)=zJq x:=by
       unfold zJq;rw[qAS c1,qAS c2,qC3];rfl
      rw[e];exact k _ (Kp.new Kp.refl hD)
  .-- empty
   have c1:¬(1<=x.length):=λz=>c (qAS (by lia));refine⟨_,rfl,?_⟩;refine iteT ?_
   have e:zJq x=false:=by
    unfold zJq;rw[qAa c1];simp
   rw[<-e];exact k H Kp.refl
end
abbrev Txs(H:Hp)(l:Addr)(ns:List Str):Prop:=H l=some (.lst (ns.map V.str))
structure Ords(H:Hp)(l:Addr)(qs:List (List Str×Addr)):Prop where
 top:H l=some (.lst (qs.map λq=>V.ref q.2))
 row:∀q∈qs,H q.2=some (.tup (q.1.map V.str))
 two:∀q∈qs,∃a b,q.1=[a,b]
theorem zJx(x:Str)(ns:List Str):inV (.str x) (ns.map V.str)=decide (x∈ns):=by
 unfold inV
 induction ns with
 |nil=>rfl
 |cons n r ih=>
  rw[qAk,qCM,ih];show((n==x)||_)=_
  by_cases e:n=x
  .subst e;simp
  .have e':¬x=n:=λz=>e z.symm;rw[qBD.mpr e];simp[e']
theorem zF0(ns:List Str):(ns.map V.str).all zEk=true:=by simp[zEk]
section
def spIsOneOf:Sp:=λvs H Q _=>∃(x:Str)(l:Addr)(ns:List Str),vs=[.str x,.ref l]/\Txs H l ns/\Q (.bl (decide (x∈ns))) H
abbrev zDl:Stmt:=top 20
theorem zGn:FnScope ["thing","names"] ["thing","names"] (zAd zDl):=fnS
theorem ok_is_one_of(F:Fun K "is_one_of" "is_one_of" zDl f fd)(T:Txt K mg):FnOk P w K mg base CX0 1 f fd ["thing","names"] spIsOneOf:=by
 refine F.ok zGn (λvs H Q E h=>?_) (λcdv A outer s H vs Q E hr h=>?_)
 .obtain ⟨x,l,ns,rfl,_⟩:=h;rfl
 .obtain ⟨x,l,ns,rfl,hl,k⟩:=h;refine⟨_,(zAe (zAm (pe_and (zAi zEx (by rfl) T.z_isinstance zBj (zAa (pv 0) (zAa (zGc (by rfl) T.z_str bo_str (v:=.ty "str") rfl) zAc))) (pe_one (zCi zHn (pv 0) (pv 1) (by rfl)))))),?_⟩;refine⟨_,rfl,_,_,_,_,rfl,TyOf.str x,zFx,_,rfl,iteT ?_⟩;refine⟨_,rfl,_,rfl,_,_,rfl,.inl (SqL.of hl),rfl,zF0 ns,?_⟩;rw[zJx];exact k
def zEo:Sp:=λvs H Q _=>∃(x:Str)(l:Addr)(ns:List Str),vs=[.ref l,.str x]/\Txs H l ns/\x∈ns/\Q .non H
abbrev zE6:Stmt:=top 46
theorem sc_check_job:FnScope ["names","thing"] ["names","thing"] (zAd zE6):=fnS
theorem ok_check_job(F:Fun K "check_job" "check_job" zE6 f fd)(T:Txt K mg)(C_is_one_of:Cal P w K mg base "is_one_of" 1 ["thing","names"] spIsOneOf):FnOk P w K mg base CX0 2 f fd ["names","thing"] zEo:=by
 refine F.ok sc_check_job (λvs H Q E h=>?_) (λcdv A outer s H vs Q E hr h=>?_)
 .obtain ⟨x,l,ns,rfl,_⟩:=h;rfl
 .obtain ⟨x,l,ns,rfl,hl,hx,k⟩:=h;have HR_is_one_of:=hr
  refine⟨_,(zAe (zB5 (zDc (zC4 (zAg C_is_one_of HR_is_one_of rfl (zAa (pv 1) (zAa (pv 0) zAc))))) (zAe zBq) zAr)),?_⟩
  refine⟨_,rfl,_,rfl,x,l,ns,rfl,hl,?_⟩;rw[qAS hx];exact⟨_,rfl,iteF k⟩
end
abbrev dT1(ns:List Str)(g:Str->V):List (Key×V):=ns.map λn=>(Sum.inr n,g n)
theorem zBf(g:Str->V)(x:Str):∀ns:List Str,valV (dT1 ns g) (.inr x)=if x∈ns then some (g x)else none
 |[]=>rfl
 |n::r=>by
  by_cases e:n=x
  .subst e;have h1:valV (dT1 (n::r) g) (.inr n)=some (g n):=zBo rfl;rw[h1];simp
  .have h1:valV (dT1 (n::r) g) (.inr x)=valV (dT1 r g) (.inr x):=zBp λz=>e (qCb z);rw[h1,zBf g x r];have e':¬x=n:=λz=>e z.symm;simp[e']
theorem zEe{g:Str->V}{x:Str}(v:V)(h:x∉ns):putK (dT1 ns g) (.inr x) v=dT1 ns g++[(.inr x,v)]:=putK_new v (by rw[zBf];simp[h])
theorem zAh{xs:List α}{x:α}(h:xs[i]?=some x):xs.take (i+1)=xs.take i++[x]:=by rw[List.take_succ,h];rfl
theorem zA3{v:V}(h:(ns.map V.str)[i]?=some v):∃n,ns[i]?=some n/\v= .str n:=by
 rw[qAZ]at h;obtain⟨n,e,r⟩:=qBH.mp h;exact⟨n,e,r.symm⟩
theorem zDq{xs:List α}(h:xs.Nodup){x:α}(e:xs[i]?=some x):x∉xs.take i:=λz=>by
 obtain⟨hi,rfl⟩:=qAf.mp e;obtain⟨j,hj,e2⟩:=qA1.mp z;rw[qAR]at hj;rw[List.getElem_take]at e2;have:=(List.getElem_inj h).mp e2;lia
section
def zGm:Sp:=λvs H Q _=>∃(l:Addr)(ns:List Str),vs=[.ref l]/\Txs H l ns/\ns.length<=20/\(∀n∈ns,zIi n)/\ns.Nodup/\∀H',Kp [] H H'->Q .non H'
abbrev zDp:Stmt:=top 44
theorem zCb:FnScope ["names","thing","seen","name"] ["names"] (zAd zDp):=fnS
theorem zIe(F:Fun K "check_names" "check_names" zDp f fd)(T:Txt K mg)(C_is_name:Cal P w K mg base "is_name" 1 ["thing"] spIsName):FnOk P w K mg base CX0 2 f fd ["names"] zGm:=by
 refine F.ok zCb (λvs H Q E h=>?_) (λcdv A outer s H vs Q E hr h=>?_)
 .obtain ⟨l,ns,rfl,_⟩:=h;rfl
 .obtain ⟨l,ns,rfl,hl,hn,hN,hD,k⟩:=h;have HR_is_name:=hr;have hu:=zCn hr;obtain⟨tM,hM⟩:=T.c_MOST_JOBS
  refine⟨_,(zAb (zB5 (zAo op_gt (zAi zAl (by rfl) T.z_len zBw (zAa (pv 0) zAc)) (pe_glob rfl hM (v:=.int 20) ⟨_,rfl⟩) (zAq _)) (zAe zBq) zAr) (zAb (zA1 qAg rfl (zAj (pv 0)) (pgN (i:=1) zCb.nd)
    (zAe (zB5 (zDc (zC4 (zAg C_is_name HR_is_name rfl (zAa (pv 1) zAc))))
     (zAe zBq)
     zAr)))
   (zAb (psS (i:=2) zCb.nd zBr)
   (zAe (zA1 qAg rfl (zAj (pv 0)) (pgN (i:=3) zCb.nd)
    (zAb (zB5 (zD2 (zFq hu (pv 3) (pv 2)))
     (zAe zBq)
     zAr)
    (zAe (zB6 hu (pv 2) (pv 3) zIb rfl)))))))),?_⟩
  refine hid4 ?_;intro _ _ _ _;refine⟨_,rfl,_,_,rfl,.inl (SqL.of hl),_,_,rfl,rfl,_,rfl,?_⟩;rw[qAa (by rw[qAD];lia)];refine iteF ?_;refine⟨_,rfl,_,rfl,⟨_,SqL.of hl⟩,zA8 (λi σ H2=>(∃o1 o2 o3:Option V,σ=[some (.ref l),o1,o2,o3])/\Kp [] H H2) ⟨⟨_,_,_,rfl⟩,Kp.refl⟩ (λi σ H2 _ ⟨_,k2⟩=>SqL.of (k2 l _ hl (by simp))) ?_ ?_⟩
  .rintro i v σ H2 hv ⟨⟨o1,o2,o3,rfl⟩,k2⟩;obtain⟨n,en,rfl⟩:=zA3 hv;have nn:=hN n (qAJ en);refine⟨_,rfl,n,rfl,by have:=nn.2.1;lia,λH3 k3=>?_⟩;rw[(nameB_iff n).mpr nn];exact⟨_,rfl,iteF ⟨⟨_,_,_,rfl⟩,k2.trans k3⟩⟩
  .rintro σ H2 ⟨⟨o1,o2,o3,rfl⟩,k2⟩;have hl2:Txs H2 l ns:=k2 l _ hl (by simp);refine λd hd=>?_;have fd:Fre H2 d:=hd;have fdH:Fre H d:=k2.fre fd (by simp);refine⟨_,rfl,_,rfl,⟨_,SqL.of ((Kp.new (M:=[]) Kp.refl fd) l _ hl2 (by simp))⟩,zA8 (λi σ H3=>(∃o1 o3:Option V,σ=[some (.ref l),o1,some (.ref d),o3])/\Kp [] H H3/\H3 d=some (.dK (dT1 (ns.take i) λ_=>.bl true))) ⟨⟨_,_,rfl⟩,Kp.new k2 fdH,upd_same⟩ (λi σ H3 _ ⟨_,k3,_⟩=>SqL.of (k3 l _ hl (by simp))) ?_ ?_⟩
   .rintro i v σ H3 hv ⟨⟨o1,o3,rfl⟩,k3,h3⟩;refine hid2 ?_;intro _ _;obtain⟨n,en,rfl⟩:=zA3 hv;have ni:=zDq hD en;refine⟨_,rfl,_,rfl,_,_,rfl,DGet.k (k:=Sum.inr n) h3,_,rfl,?_⟩;rw[zBf,qAB ni];refine iteF ?_;refine⟨_,rfl,_,rfl,_,_,rfl,DPut.k (k:=Sum.inr n) h3 ?_,?_⟩
    .rw [qAD,qAR,qAI];lia
    .refine ⟨⟨_,_,rfl⟩,Kp.new k3 fdH,?_⟩;rw[upd_same,zEe _ ni,zAh en];unfold dT1;rw[qAN];rfl
   .rintro σ H3 ⟨⟨o1,o3,rfl⟩,k3,h3⟩;exact k H3 k3
end
theorem ref_at{qs:List (List Str×Addr)}{v:V}(h:(qs.map λq=>V.ref q.2)[i]?=some v):∃q,qs[i]?=some q/\v= .ref q.2:=by
 rw[qAZ]at h;obtain⟨n,e,r⟩:=qBH.mp h;exact⟨n,e,r.symm⟩
theorem Ords.kp{M:List Addr}{l:Addr}{qs:List (List Str×Addr)}(o:Ords H l qs)(k:Kp M H H')(h1:l∉M)(h2:∀q∈qs,q.2∉M):Ords H' l qs:=⟨k l _ o.top h1,λq hq=>k _ _ (o.row q hq) (h2 q hq),o.two⟩
section
def zGl:Sp:=λvs H Q _=>∃(l m:Addr)(ns:List Str) (qs:List (List Str×Addr)),vs=[.ref l,.ref m]/\Txs H l ns/\Ords H m qs/\(∀q∈qs,∀x∈q.1,x∈ns)/\Q .non H
abbrev zDo:Stmt:=top 45
theorem zC7:FnScope ["names","orders","order","part"] ["names","orders"] (zAd zDo):=fnS
theorem zId(F:Fun K "check_parts" "check_parts" zDo f fd)(T:Txt K mg)(C_check_job:Cal P w K mg base "check_job" 2 ["names","thing"] zEo):FnOk P w K mg base CX0 3 f fd ["names","orders"] zGl:=by
 refine F.ok zC7 (λvs H Q E h=>?_) (λcdv A outer s H vs Q E hr h=>?_)
 .obtain ⟨l,m,ns,qs,rfl,_⟩:=h;rfl
 .obtain ⟨l,m,ns,qs,rfl,hl,hm,hq,k⟩:=h;have HR_check_job:=hr
  refine⟨_,(zAe (zA1 qAg rfl (zAj (pv 1)) (pgN (i:=2) zC7.nd) (zAe (zA1 qAg rfl (pi_tup (pv 2)) (pgN (i:=3) zC7.nd)
     (zAe (zA2 (zAg C_check_job HR_check_job rfl (zAa (pv 0) (zAa (pv 3) zAc))))))))),?_⟩
  refine⟨_,rfl,_,rfl,⟨_,SqL.of hm.top⟩,zA8 (λi σ H2=>(∃o2 o3:Option V,σ=[some (.ref l),some (.ref m),o2,o3])/\H2=H) ⟨⟨_,_,rfl⟩,rfl⟩ (λi σ H2 _ ⟨_,e⟩=>by subst e;exact SqL.of hm.top) ?_ ?_⟩
  .rintro i v σ H2 hv ⟨⟨o2,o3,rfl⟩,rfl⟩;obtain⟨q,eq,rfl⟩:=ref_at hv;have mq:=qAJ eq;refine⟨_,rfl,_,rfl,⟨_,.inl (.inl (hm.row q mq))⟩,for_tup (λj σ H3=>(∃o3:Option V,σ=[some (.ref l),some (.ref m),some (.ref q.2),o3])/\H3=H2) ⟨⟨_,rfl⟩,rfl⟩ (λj σ H3 _ ⟨_,e⟩=>by subst e;exact .inl (.inl (hm.row q mq))) ?_ ?_⟩
   .rintro j v σ H3 hv ⟨⟨o3,rfl⟩,rfl⟩;obtain⟨x,ex,rfl⟩:=zA3 hv;exact⟨_,rfl,_,rfl,x,l,ns,rfl,hl,hq q mq x (qAJ ex),⟨_,rfl⟩,rfl⟩
   .rintro σ H3 ⟨⟨o3,rfl⟩,rfl⟩;exact⟨⟨_,_,rfl⟩,rfl⟩
  .rintro σ H2 ⟨⟨o2,o3,rfl⟩,rfl⟩;exact k
end
def fst(q:List Str×Addr):Str:=q.1.getD 0 Str.empty
def snd(q:List Str×Addr):Str:=q.1.getD 1 Str.empty
def told(qs:List (List Str×Addr))(n:Str):List Str:=(qs.filter λq=>decide (snd q=n)).map fst
theorem told_snoc(qs:List (List Str×Addr))(q:List Str×Addr)(n:Str):told (qs++[q]) n=if snd q=n then told qs n++[fst q]else told qs n:=by
 unfold told;rw[qBK]
 by_cases e:snd q=n
 .rw [qAC e];simp[e]
 .rw [qAB e];simp[e]
theorem told_len(qs:List (List Str×Addr))(n:Str):(told qs n).length<=qs.length:=by
 unfold told;rw[qAD];exact qAq _ _
structure DL(H0 H:Hp)(d:Addr)(ns:List Str)(la:Str->Addr)(f:Str->List Str):Prop where
 top:H d=some (.dK (dT1 ns λn=>.ref (la n)))
 row:∀n∈ns,Txs H (la n) (f n)
 ne:∀n∈ns,la n≠d
 inj:∀n∈ns,∀m∈ns,la n=la m->n=m
 fr:Fre H0 d
 frs:∀n∈ns,Fre H0 (la n)
theorem zF1{g g':Str->V}(h:∀n∈ns,g n=g' n):dT1 ns g=dT1 ns g':=qCX λn hn=>by rw[h n hn]
section
def zHb:Sp:=λvs H Q _=>∃(l m:Addr)(ns:List Str) (qs:List (List Str×Addr)),vs=[.ref l,.ref m]/\Txs H l ns/\Ords H m qs/\ns.Nodup/\ns.length<=20/\qs.length<=4096/\(∀q∈qs,∀x∈q.1,x∈ns) /\
 ∀d la H',DL H H' d ns la (told qs)->Kp [] H H'->Q (.ref d) H'
abbrev zEa:Stmt:=top 47
theorem zBx:FnScope ["names","orders","told","name","one","other"] ["names","orders"] (zAd zEa):=fnS
theorem zJk(F:Fun K "told_ahead" "told_ahead" zEa f fd):FnOk P w K mg base CX0 1 f fd ["names","orders"] zHb:=by
 refine F.ok zBx (λvs H Q E h=>?_) (λcdv A outer s H vs Q E hr h=>?_)
 .obtain ⟨l,m,ns,qs,rfl,_⟩:=h;rfl
 .obtain ⟨l,m,ns,qs,rfl,hl,hm,hN,hn,hz,hq,k⟩:=h;have hu:=zCn hr
  refine⟨_,(zAb (psS (i:=2) zBx.nd zBr) (zAb (zA1 qAg rfl (zAj (pv 0)) (pgN (i:=3) zBx.nd)
    (zAe (zB6 hu (pv 2) (pv 3) (zBv zAc) rfl)))
   (zAb (zA1 qAg rfl (zAj (pv 1)) (zIs rfl (zA7 (pgN (i:=4) zBx.nd) (zA7 (pgN (i:=5) zBx.nd) zEf)))
    (zAe (zA2 (zGv qBR qDY qDZ zEh (zAs hu (pv 2) (pv 5) (λ_ _=>rfl)) (zAa (pv 4) zAc)))))
   (zAe (zAm (pv 2)))))),?_⟩
  refine hid4 ?_;intro _ _ _ _;refine λd hd=>?_;have fd:Fre H d:=hd
  refine⟨_,rfl,_,rfl,⟨_,SqL.of ((Kp.new (M:=[]) Kp.refl fd) l _ hl (by simp))⟩,zA8 (λi σ H2=>(∃o3 o4 o5:Option V,σ=[some (.ref l),some (.ref m),some (.ref d),o3,o4,o5])/\Kp [] H H2/\∃la,DL H H2 d (ns.take i) la λ_=>[]) ⟨⟨_,_,_,rfl⟩,Kp.new Kp.refl fd,λ_=>0,upd_same,(λn h=>nomatch h),(λn h=>nomatch h),(λn h=>nomatch h),fd,(λn h=>nomatch h)⟩ (λi σ H2 _ ⟨_,k2,_⟩=>SqL.of (k2 l _ hl (by simp))) ?_ ?_⟩
  .rintro i v σ H2 hv ⟨⟨o3,o4,o5,rfl⟩,k2,la,D⟩;obtain⟨n,en,rfl⟩:=zA3 hv;have ni:=zDq hN en;refine⟨(by walk_at"ln"),λb hb=>?_⟩;have fb:Fre H2 b:=hb;have ndb:d≠b:=ne_fre fb D.top;have fbH:Fre H b:=k2.fre fb (by simp);refine⟨_,rfl,_,rfl,_,_,rfl,DPut.k (k:=Sum.inr n) ((upd_ne ndb).trans D.top) ?_,?_⟩
   .rw [qAD,qAR,qAI];lia
   .have nlb:∀x∈ns.take i,la x≠b:=λx hx=>ne_fre fb (D.row x hx);refine⟨⟨_,_,_,rfl⟩,Kp.new (Kp.new k2 fbH) fd,λx=>if x=n then b else la x,?_,λx hx=>?_,λx hx=>?_,λx hx y hy e=>?_,fd,λx hx=>?_⟩
    .rw [upd_same,zEe _ ni,zAh en];have:dT1 (ns.take i) (λn=>V.ref (la n))=dT1 (ns.take i) (λx=>V.ref (if x=n then b else la x)):=zF1 λx hx=>by rw[qAB λ(z:x=n)=>ni (z▸hx)]
     rw[this];unfold dT1;rw[qAN];simp
    .rw [zAh en]at hx
     by_cases z:x=n
     .rw [qAC z];exact(upd_ne ndb.symm).trans upd_same
     .rw [qAB z]
      have hx':x∈ns.take i:=by
       rcases qAT.mp hx with y|y
       .exact y
       .exact absurd (qAP.mp y) z
      exact(upd_ne (D.ne x hx')).trans ((upd_ne (nlb x hx')).trans (D.row x hx'))
    .rw [zAh en]at hx
     by_cases z:x=n
     .rw [qAC z];exact ndb.symm
     .rw [qAB z];rcases qAT.mp hx with y|y
      .exact D.ne x y
      .exact absurd (qAP.mp y) z
    .rw [zAh en]at hx hy
     have mem:∀x,x∈ns.take i++[n]->x≠n->x∈ns.take i:=λx hx z=>by
      rcases qAT.mp hx with y|y
      .exact y
      .exact absurd (qAP.mp y) z
     by_cases z:x=n
     .by_cases z':y=n
      .rw [z,z']
      .rw [qAC z,qAB z']at e;exact absurd e.symm (nlb y (mem y hy z'))
     .by_cases z':y=n
      .rw [qAB z,qAC z']at e;exact absurd e (nlb x (mem x hx z))
      .rw [qAB z,qAB z']at e;exact D.inj x (mem x hx z) y (mem y hy z') e
    .rw [zAh en]at hx
     by_cases z:x=n
     .rw [qAC z];exact fbH
     .rw [qAB z];rcases qAT.mp hx with y|y
      .exact D.frs x y
      .exact absurd (qAP.mp y) z
  .rintro σ H2 ⟨⟨o3,o4,o5,rfl⟩,k2,la,D⟩;have eN:ns.take (ns.map V.str).length=ns:=by rw[qAD,qAb]
   rw[eN]at D
   refine⟨_,rfl,_,rfl,⟨_,SqL.of (k2 m _ hm.top (by simp))⟩,zA8 (λi σ H3=>(∃o3 o4 o5:Option V,σ=[some (.ref l),some (.ref m),some (.ref d),o3,o4,o5])/\Kp [] H H3/\DL H H3 d ns la (told (qs.take i))) ⟨⟨_,_,_,rfl⟩,k2,D⟩ (λi σ H3 _ ⟨_,k3,_⟩=>SqL.of (k3 m _ hm.top (by simp))) ?_ ?_⟩
   .rintro i v σ H3 hv ⟨⟨o3,o4,o5,rfl⟩,k3,D⟩;obtain⟨q,eq,rfl⟩:=ref_at hv;have mq:=qAJ eq;obtain⟨a,b,eab⟩:=hm.two q mq
    have hrow:H3 q.2=some (.tup [.str a,.str b]):=by
     have:=k3 q.2 _ (hm.row q mq) (by simp);rw[eab]at this;exact this
    have hb:b∈ns:=hq q mq b (by rw[eab];simp);have esnd:snd q=b:=by unfold snd;rw[eab];rfl
    have efst:fst q=a:=by unfold fst;rw[eab];rfl
    refine⟨_,_,rfl,.inl (.inl hrow),rfl,_,_,rfl,_,_,rfl,rfl,?_⟩;refine⟨_,rfl,_,rfl,_,.ref (la b),rfl,?_,.inl ⟨rfl,_,SqL.of (D.row b hb)⟩,_,rfl,_,_,_,rfl,rfl,D.row b hb,?_,?_⟩
    .have:=DGet.k (k:=Sum.inr b) D.top;rw[zBf,qAC hb]at this;exact this
    .have:=told_len (qs.take i) b;rw[qAR]at this;rw[qAD,qAI];lia
    .refine ⟨⟨_,_,_,rfl⟩,Kp.new k3 (D.frs b hb),?_⟩;rw[zAh eq];refine⟨(upd_ne (D.ne b hb).symm).trans D.top,λx hx=>?_,D.ne,D.inj,D.fr,D.frs⟩;show upd H3 (la b) _ (la x)=some (.lst ((told (qs.take i++[q]) x).map V.str));rw[told_snoc,esnd,efst]
     by_cases z:b=x
     .subst z;rw[qAC rfl,upd_same,qAN];rfl
     .rw [qAB z,upd_ne λy=>z (D.inj b hb x hx y.symm)];exact D.row x hx
   .rintro σ H3 ⟨⟨o3,o4,o5,rfl⟩,k3,D⟩;have eQ:qs.take (qs.map λq=>V.ref q.2).length=qs:=by rw[qAD,qAb]
    rw[eQ]at D;exact⟨_,rfl,k d la H3 D k3⟩
end
def addA(A:List Str)(x:Str):List Str:=if x∈A then A else A++[x]
theorem zG8{A:List Str}{x:Str}:y∈addA A x↔y∈A\/y=x:=by
 unfold addA
 by_cases h:x∈A
 .rw [qAC h];exact⟨.inl,λz=>z.elim id λe=>e▸h⟩
 .rw [qAB h];simp
theorem zGd{A:List Str}{x:Str}(h:A.Nodup):(addA A x).Nodup:=by
 unfold addA
 by_cases hx:x∈A
 .rw [qAC hx];exact h
 .rw [qAB hx];refine qBX.mpr ⟨h,by simp,λa ha b hb=>?_⟩;rw[qAP.mp hb];rintro rfl;exact hx ha
theorem zB1 :∀(B A:List Str),y∈B.foldl addA A↔y∈A\/y∈B
 |[],A=>by simp
 |b::B,A=>by
  rw[qBt,zB1 B (addA A b),zG8,qAM,or_assoc]
theorem zE9:∀(B A:List Str),A.Nodup->(B.foldl addA A).Nodup
 |[],A,h=>h
 |b::B,A,h=>zE9 B _ (zGd h)
def zB3(S:Str->List Str)(ms:List Str):List Str:=ms.foldl (λA m=>(S m).foldl addA (addA A m)) []
theorem joinA_snoc(S:Str->List Str)(ms:List Str)(m:Str):zB3 S (ms++[m])=(S m).foldl addA (addA (zB3 S ms) m):=by unfold zB3;rw[List.foldl_append];rfl
theorem zIv{S:Str->List Str} :∀(ms A:List Str),y∈ms.foldl (λA m=>(S m).foldl addA (addA A m)) A↔y∈A\/y∈ms\/∃m∈ms,y∈S m
 |[],A=>by simp
 |m::ms,A=>by
  rw[qBt,zIv ms,zB1,zG8];constructor
  .rintro (((h|h)|h)|h|⟨q,h1,h2⟩)
   .exact .inl h
   .exact .inr (.inl (h▸qAY))
   .exact .inr (.inr ⟨m,qAY,h⟩)
   .exact .inr (.inl (qAU _ h))
   .exact .inr (.inr ⟨q,qAU _ h1,h2⟩)
  .rintro (h|h|⟨q,h1,h2⟩)
   .exact .inl (.inl (.inl h))
   .rcases qAM.mp h with e|e
    .exact .inl (.inl (.inr e))
    .exact .inr (.inl e)
   .rcases qAM.mp h1 with e|e
    .exact .inl (.inr (e▸h2))
    .exact .inr (.inr ⟨q,e,h2⟩)
theorem zHt{S:Str->List Str}{ms:List Str} :y∈zB3 S ms↔y∈ms\/∃m∈ms,y∈S m:=by
 unfold zB3;rw[zIv];simp
theorem zGq{S:Str->List Str}:∀(ms A:List Str),A.Nodup->(ms.foldl (λA m=>(S m).foldl addA (addA A m)) A).Nodup
 |[],A,h=>h
 |m::ms,A,h=>zGq ms _ (zE9 _ _ (zGd h))
theorem zHr(S:Str->List Str)(ms:List Str):(zB3 S ms).Nodup:=zGq ms [] qA5
theorem zDi:∀{A B:List Str},A.Nodup->(∀x∈A,x∈B)->A.length<=B.length
 |[],B,_,_=>qAd _
 |a::A,B,h,hs=>by
  obtain⟨h1,h2⟩:=qA0.mp h;have hb:=hs a qAY;have:=zDi (B:=B.erase a) h2 λx hx=>(List.mem_erase_of_ne λe=>h1 (by rw[<-e];exact hx)).mpr (hs x (qAU _ hx));rw[List.length_erase_of_mem hb]at this;have:=qC4 hb;rw[qAc];lia
abbrev SetD(H:Hp)(e:Addr)(A:List Str):Prop:=H e=some (.dK (dT1 A λ_=>.bl true))
theorem zJg(A:List Str)(x:Str):putK (dT1 A λ_=>.bl true) (.inr x) (.bl true)=dT1 (addA A x) λ_=>.bl true:=by
 unfold addA
 by_cases h:x∈A
 .rw [qAC h];unfold putK;rw[zCw,zBf,qAC h];refine(qAC (by rfl)).trans ?_;unfold dT1;rw[qAp];refine qCX λy _=>?_;show(if(Sum.inr y:Key)=Sum.inr x then((Sum.inr y:Key),V.bl true)else(Sum.inr y,V.bl true))=_;split<;>rfl
 .rw [qAB h,zEe _ h];unfold dT1;rw[qAN];rfl
theorem mrg_set:∀(B A:List Str),mrg (dT1 A λ_=>.bl true) (dT1 B λ_=>.bl true)=dT1 (B.foldl addA A) λ_=>.bl true
 |[],A=>rfl
 |b::B,A=>by
  show mrg (putK (dT1 A λ_=>.bl true) (.inr b) (.bl true)) (dT1 B λ_=>.bl true)=_;rw[zJg,mrg_set B];rfl
section
def spHasAll:Sp:=λvs H Q _=>∃(d l:Addr) (kvs:List (Key×V)) (ms:List Str),vs=[.ref d,.ref l]/\H d=some (.dK kvs)/\Txs H l ms/\ms.length<=4096/\∀H',Kp [] H H'->Q (.bl (ms.all λm=>(valV kvs (.inr m)).isSome)) H'
abbrev zFn:Stmt:=top 48
theorem sc_has_all:FnScope ["done","names"] ["done","names"] (zAd zFn):=fnS
theorem ok_has_all(F:Fun K "has_all" "has_all" zFn f fd)(T:Txt K mg):FnOk P w K mg base CX0 1 f fd ["done","names"] spHasAll:=by
 refine F.ok sc_has_all (λvs H Q E h=>?_) (λcdv A outer s H vs Q E hr h=>?_)
 .obtain ⟨d,l,kvs,ms,rfl,_⟩:=h;rfl
 .obtain ⟨d,l,kvs,ms,rfl,hd,hl,hz,k⟩:=h;have hu:=zCn hr;refine⟨_,(zAe (zAm (zAi (zDz _ rfl) (by rfl) T.z_all zH6 (zAa (zAt rfl (zAz (sc:=zAd zFn) rfl (by decide +kernel)) (Draws.own (x:="name") (dtk (i:=0) rfl Draws.nil)) (zAj (pv 1)) (λ_ _ _ _=>(pgB (i:=0))) (λ_ _ _ _=>zBl) (λ_ _ _ _=>(pe_cmp (zFq hu (pv 0) (pv 1))))) zAc)))),?_⟩;refine⟨_,rfl,_,rfl,⟨_,SqL.of hl⟩,λD hD=>zAw (ms.map V.str) (λi ys τ H'=>(∃o0,τ=[o0,some (.ref d)])/\ys=((ms.take i).map λm=>V.bl (valV kvs (.inr m)).isSome)/\H'=upd H D (.lst ys)) ⟨⟨_,rfl⟩,rfl,rfl⟩ (λi ys τ H' ⟨_,_,e⟩=>by subst e;exact SqL.of ((upd_ne (ne_fre (show Fre H D from hD) hl)).trans hl)) ?_ ?_⟩
  .rintro i v ys τ H' hv ⟨⟨o0,rfl⟩,rfl,rfl⟩;obtain⟨m,em,rfl⟩:=zA3 hv;refine⟨_,rfl,_,rfl,_,_,rfl,DGet.k (k:=Sum.inr m) ((upd_ne (ne_fre (show Fre H D from hD) hd)).trans hd),upd_same,?_,⟨_,rfl⟩,?_,zAx⟩
   .rw [qAD,qAR,qAI];lia
   .rw [zAh em,qAN];rfl
  .rintro ys τ H' ⟨_,rfl,rfl⟩;have eM:ms.take (ms.map V.str).length=ms:=by rw[qAD,qAb]
   refine⟨D,ms.map λm=>(valV kvs (.inr m)).isSome,rfl,SqL.of ?_,?_⟩
   .rw [upd_same,eM,qAp];rfl
   .rw [qC3];exact k _ (Kp.new Kp.refl hD)
def spJoined:Sp:=λvs H Q _=>∃(l d:Addr)(ms D0 ns:List Str)(fa:Str->Addr)(S:Str->List Str),vs=[.ref l,.ref d]/\Txs H l ms/\H d=some (.dK (dT1 D0 λn=>.ref (fa n)))/\(∀m∈ms,m∈D0/\m∈ns/\SetD H (fa m) (S m)/\∀x∈S m,x∈ns)/\ns.length<=20/\(∀m∈ms,(S m).length<=20) /\
 ∀e H',Fre H e->SetD H' e (zB3 S ms)->Kp [] H H'->Q (.ref e) H'
abbrev zJe:Stmt:=top 50
theorem zHe:FnScope ["near","far","found","name"] ["near","far"] (zAd zJe):=fnS
theorem ok_joined(F:Fun K "joined" "joined" zJe f fd):FnOk P w K mg base CX0 1 f fd ["near","far"] spJoined:=by
 refine F.ok zHe (λvs H Q E h=>?_) (λcdv A outer s H vs Q E hr h=>?_)
 .obtain ⟨l,d,ms,D0,ns,fa,S,rfl,_⟩:=h;rfl
 .obtain ⟨l,d,ms,D0,ns,fa,S,rfl,hl,hd,hm,hn,hS,k⟩:=h;have hu:=zCn hr
  refine⟨_,(zAb (psS (i:=2) zHe.nd zBr) (zAb (zA1 qAg rfl (zAj (pv 0)) (pgN (i:=3) zHe.nd)
    (zAb (zB6 hu (pv 2) (pv 3) zIb rfl)
    (zAe (zA2 (zGv qCm PySem.F.slot_dict_update PySem.F.type_dict_update mt_dupd (pv 2) (zAa (zAs hu (pv 1) (pv 3) (λ_ _=>rfl)) zAc))))))
   (zAe (zAm (pv 2))))),?_⟩
  refine hid3 ?_;intro _ _ _;refine λe he=>?_;have fe:Fre H e:=he
  have hsub:∀i x,x∈zB3 S (ms.take i)->x∈ns:=λi x hx=>by
   rcases zHt.mp hx with z|⟨m,z,z'⟩
   .exact (hm x (qCS z)).2.1
   .exact (hm m (qCS z)).2.2.2 x z'
  have hlen:∀i,(zB3 S (ms.take i)).length<=20:=λi=>qAL (zDi (zHr S _) (hsub i)) hn
  refine⟨_,rfl,_,rfl,⟨_,SqL.of ((Kp.new (M:=[]) Kp.refl fe) l _ hl (by simp))⟩,zA8 (λi σ H2=>(∃o3:Option V,σ=[some (.ref l),some (.ref d),some (.ref e),o3])/\Kp [] H H2/\SetD H2 e (zB3 S (ms.take i))) ⟨⟨_,rfl⟩,Kp.new Kp.refl fe,upd_same⟩ (λi σ H2 _ ⟨_,k2,_⟩=>SqL.of (k2 l _ hl (by simp))) ?_ ?_⟩
  .rintro i v σ H2 hv ⟨⟨o3,rfl⟩,k2,h2⟩;refine hid2 ?_;intro _ _;obtain⟨m,em,rfl⟩:=zA3 hv;obtain⟨m1,m2,m3,m4⟩:=hm m (qAJ em);have l2:=hlen i;refine⟨_,rfl,_,rfl,_,_,rfl,DPut.k (k:=Sum.inr m) h2 (by rw[qAD,qAI];lia),?_⟩;rw[zJg];have k3:Kp [] H (upd H2 e (.dK (dT1 (addA (zB3 S (ms.take i)) m) λ_=>.bl true))):=Kp.new k2 fe;have nfa:fa m≠e:=ne_fre fe m3;refine⟨_,rfl,.inr (.inr (.inl ⟨rfl,.inl ⟨_,upd_same⟩⟩)),_,rfl,_,rfl,_,.ref (fa m),rfl,?_,_,fa m,_,_,rfl,rfl,upd_same,k3 _ _ m3 (by simp),nfa.symm,?_,?_⟩
   .have:=DGet.k (k:=Sum.inr m) (k3 d _ hd (by simp));rw[zBf,qAC m1]at this;exact this
   .have:=hS m (qAJ em);rw[qAD,qAD,qAI]
    have:(addA (zB3 S (ms.take i)) m).length<=(zB3 S (ms.take i)).length+1:=by
     unfold addA;split
     .lia
     .rw [qAl];exact qAF _
    lia
   .rw [mrg_set];refine⟨⟨_,rfl⟩,Kp.new k3 fe,?_⟩;rw[zAh em,joinA_snoc];exact upd_same
  .rintro σ H2 ⟨⟨o3,rfl⟩,k2,h2⟩;have eM:ms.take (ms.map V.str).length=ms:=by rw[qAD,qAb]
   rw[eM]at h2;exact⟨_,rfl,k e H2 fe h2 k2⟩
end
structure Fp(H0 H:Hp)(e:Addr)(ns D:List Str)(fa:Str->Addr)(S f:Str->List Str):Prop where
 top:H e=some (.dK (dT1 D λn=>.ref (fa n)))
 nd:D.Nodup
 sub:∀n∈D,n∈ns
 row:∀n∈D,SetD H (fa n) (S n)
 snd:∀n∈D,(S n).Nodup
 sns:∀n∈D,∀x∈S n,x∈ns
 mem:∀n∈D,∀x,x∈S n↔x∈f n\/∃m∈f n,x∈S m
 cl:∀n∈D,∀x∈f n,x∈D
 ne:∀n∈D,fa n≠e
 fr:Fre H0 e
 frs:∀n∈D,Fre H0 (fa n)
theorem Fp.kp{H0:Hp}{e:Addr}{D:List Str}{fa:Str->Addr}{S f:Str->List Str}(F:Fp H0 H e ns D fa S f)(k:Kp [] H H'):Fp H0 H' e ns D fa S f :=
 ⟨k e _ F.top (by simp),F.nd,F.sub,λn hn=>k _ _ (F.row n hn) (by simp),F.snd,F.sns,F.mem,F.cl,F.ne,F.fr,F.frs⟩
theorem Fp.more{H0:Hp}{e b:Addr}{D:List Str}{fa:Str->Addr}{S f:Str->List Str}{n:Str}(F:Fp H0 H e ns D fa S f)(hn:n∈ns)(hD:n∉D)(hf:∀x∈f n,x∈D)(hs:∀x∈f n,x∈ns)(hb:SetD H b (zB3 S (f n)))(nb:b≠e)(fb:Fre H0 b) :
  Fp H0 (upd H e (.dK (putK (dT1 D λn=>.ref (fa n)) (.inr n) (.ref b)))) e ns (D++[n]) (λx=>if x=n then b else fa x) (λx=>if x=n then zB3 S (f n)else S x) f:=by
 have hx:∀x∈D,¬x=n:=λx h z=>hD (z▸h)
 have cs:∀x,x∈D++[n]->x∈D\/x=n:=λx h=>by
  rcases qAT.mp h with z|z
  .exact .inl z
  .exact .inr (qAP.mp z)
 have eqS:∀{x},x∈D->(if x=n then zB3 S (f n)else S x)=S x:=λ{x} h=>qAB (hx x h);have eqn:(if n=n then zB3 S (f n)else S n)=zB3 S (f n):=qAC rfl;refine⟨?_,?_,λx h=>?_,λx h=>?_,λx h=>?_,λx h y hy=>?_,λx h y=>?_,λx h y hy=>?_,λx h=>?_,F.fr,λx h=>?_⟩
 .rw [upd_same,zEe _ hD];have:dT1 D (λn=>V.ref (fa n))=dT1 D (λx=>V.ref (if x=n then b else fa x)):=zF1 λx h=>by rw[qAB (hx x h)]
  rw[this];unfold dT1;rw[qAN];simp
 .refine qBX.mpr ⟨F.nd,by simp,λa ha c hc=>?_⟩;rw[qAP.mp hc];exact hx a ha
 .rcases cs x h with z|z
  .exact F.sub x z
  .rw [z];exact hn
 .rcases cs x h with z|z
  .show upd H e _ (if x=n then b else fa x)=some (.dK (dT1 (if x=n then zB3 S (f n)else S x) λ_=>.bl true));rw[qAB (hx x z),qAB (hx x z),upd_ne (F.ne x z)];exact F.row x z
  .subst z;show upd H e _ (if x=x then b else fa x)=some (.dK (dT1 (if x=x then zB3 S (f x)else S x) λ_=>.bl true));rw[qAC rfl,qAC rfl,upd_ne nb];exact hb
 .rcases cs x h with z|z
  .show (if x=n then zB3 S (f n)else S x).Nodup;rw[eqS z];exact F.snd x z
  .subst z;show(if x=x then zB3 S (f x)else S x).Nodup;rw[qAC rfl];exact zHr _ _
 .rcases cs x h with z|z
  .have hy:y∈(if x=n then zB3 S (f n)else S x):=hy;rw[eqS z]at hy;exact F.sns x z y hy
  .subst z;have hy:y∈(if x=x then zB3 S (f x)else S x):=hy;rw[qAC rfl]at hy;rcases zHt.mp hy with q|⟨m,q1,q2⟩
   .exact hs y q
   .exact F.sns m (hf m q1) y q2
 .rcases cs x h with z|z
  .show y∈(if x=n then zB3 S (f n)else S x)↔y∈f x\/∃m∈f x,y∈(if m=n then zB3 S (f n)else S m);rw[eqS z,F.mem x z y];constructor
   .rintro (q|⟨m,q1,q2⟩)
    .exact .inl q
    .exact .inr ⟨m,q1,by rw[eqS (F.cl x z m q1)];exact q2⟩
   .rintro (q|⟨m,q1,q2⟩)
    .exact .inl q
    .rw [eqS (F.cl x z m q1)]at q2;exact .inr ⟨m,q1,q2⟩
  .subst z;show y∈(if x=x then zB3 S (f x)else S x)↔y∈f x\/∃m∈f x,y∈(if m=x then zB3 S (f x)else S m);rw[qAC rfl,zHt];constructor
   .rintro (q|⟨m,q1,q2⟩)
    .exact .inl q
    .exact .inr ⟨m,q1,by rw[eqS (hf m q1)];exact q2⟩
   .rintro (q|⟨m,q1,q2⟩)
    .exact .inl q
    .rw [eqS (hf m q1)]at q2;exact .inr ⟨m,q1,q2⟩
 .rcases cs x h with z|z
  .exact qAv _ (F.cl x z y hy)
  .subst z;exact qAv _ (hf y hy)
 .rcases cs x h with z|z
  .show (if x=n then b else fa x)≠e;rw[qAB (hx x z)];exact F.ne x z
  .subst z;show(if x=x then b else fa x)≠e;rw[qAC rfl];exact nb
 .rcases cs x h with z|z
  .show Fre H0 (if x=n then b else fa x);rw[qAB (hx x z)];exact F.frs x z
  .subst z;show Fre H0 (if x=x then b else fa x);rw[qAC rfl];exact fb
theorem zHx(r:Str->Nat):∀(L:List Str),L≠[]->∃n∈L,∀m∈L,r n<=r m
 |[],h=>absurd rfl h
 |[x],_=>⟨x,by simp,λm hm=>by rw[qAP.mp hm];exact qAF _⟩
 |x::y::L,_=>by
  obtain⟨n,hn,h⟩:=zHx r (y::L) (by simp)
  by_cases c:r x<=r n
  .refine ⟨x,qAY,λm hm=>?_⟩;rcases qAM.mp hm with z|z
   .rw [z];exact qAF _
   .exact qAL c (h m z)
  .refine ⟨n,qAU _ hn,λm hm=>?_⟩;rcases qAM.mp hm with z|z
   .rw [z];lia
   .exact h m z
theorem zH5{p:α->Bool}{x:α}:∀{L:List α},x∈L->p x=false->(L.filter p).length<L.length
 |a::L,h,hp=>by
  rcases qAM.mp h with z|z
  .subst z;rw[qAu,qAB (by rw[hp];decide),qAc];exact Nat.lt_succ_of_le (qAq _ _)
  .have:=zH5 z hp;rw[qAu,qAc];split
   .rw [qAc];lia
   .lia
theorem zH3(D:List Str)(g:Str->V)(x:Str):(valV (dT1 D g) (.inr x)).isSome=decide (x∈D):=by
 rw[zBf]
 by_cases h:x∈D
 .rw [qAC h,qAS h];rfl
 .rw [qAB h,qAa h];rfl
section
def zIp:Sp:=λvs H Q _=>∃(l d:Addr)(ns:List Str)(la:Str->Addr)(f:Str->List Str)(r:Str->Nat),vs=[.ref l,.ref d]/\Txs H l ns/\ns.Nodup/\ns.length<=20/\H d=some (.dK (dT1 ns λn=>.ref (la n)))/\(∀n∈ns,Txs H (la n) (f n)/\(f n).length<=4096/\∀x∈f n,x∈ns/\r x<r n) /\
 ∀e D fa S H',Fp H H' e ns D fa S f->(∀n∈ns,n∈D)->Kp [] H H'->Q (.ref e) H'
abbrev zCs:Stmt:=top 49
theorem zBu:FnScope ["names","told","far","left","free","name"] ["names","told"] (zAd zCs):=fnS
def leftN(σ:St)(H:Hp):Nat:=match (σ[3]?:Option (Option V))with
 |some (some (.ref a))=>match H a with
  |some (.lst xs)=>xs.length
  |_=>0
 |_=>0
theorem ok_all_ahead(F:Fun K "all_ahead" "all_ahead" zCs f fd)(T:Txt K mg)(C_has_all:Cal P w K mg base "has_all" 1 ["done","names"] spHasAll)(C_joined:Cal P w K mg base "joined" 1 ["near","far"] spJoined):FnOk P w K mg base CX0 2 f fd ["names","told"] zIp:=by
 refine F.ok zBu (λvs H Q E h=>?_) (λcdv A outer s H vs Q E hr h=>?_)
 .obtain ⟨l,d,ns,la,f,r,rfl,_⟩:=h;rfl
 .obtain ⟨l,d,ns,la,f,r,rfl,hl,hN,hn,hd,hf,k⟩:=h;have hu:=zCn hr;have HR_has_all:=hr;have HR_joined:=hr
  refine⟨_,(zAb (psS (i:=2) zBu.nd zBr) (zAb (psS (i:=3) zBu.nd (zAv zBi (by rfl) T.z_list zEn (zAa (pv 0) zAc)))
   (zAb (zJh qAg (zG5 (pv 3) (fun _=>rfl))
    (zAb (zGb (i:=4) rfl (zAz (sc:=zAd zCs) rfl (by decide +kernel)) (Draws.own (x:= "name") (dtk (i:=2) rfl (dtk (i:=1) rfl Draws.nil))) (zAj (pv 3)) (fun _ _ _ _=>(pgB (i:=0))) (fun _ _ _ _=>(zBg (zC4 (zAg C_has_all HR_has_all rfl (zAa (pv 1) (zAa (zAs hu (pv 2) (pv 0) (fun _ _=>rfl)) zAc)))))) (fun _ _ _ _=>(pv 0)) zBu.nd rfl rfl)
    (zAb (zB5 (zDc (zG5 (pv 4) (fun _=>rfl)))
     (zAe zBq)
     zAr)
    (zAb (zA1 qAg rfl (zAj (pv 4)) (pgN (i:=5) zBu.nd)
     (zAe (zB6 hu (pv 2) (pv 5) (zAg C_joined HR_joined rfl (zAa (zAs hu (pv 1) (pv 5) (λ_ _=>rfl)) (zAa (pv 2) zAc))) rfl)))
    (zAe (zGb (i:=3) rfl (zAz (sc:=zAd zCs) rfl (by decide +kernel)) (Draws.own (x:="name") (dtk (i:=2) rfl Draws.nil)) (zAj (pv 3)) (λ_ _ _ _=>(pgB (i:=0))) (λ_ _ _ _=>(zBg (zD2 (zEg hu (pv 0) (pv 1))))) (λ_ _ _ _=>(pv 0)) zBu.nd rfl rfl))))))
   (zAe (zAm (pv 2)))))),?_⟩
  refine hid4 ?_;intro _ _ _ _;refine λe he=>?_;have fe:Fre H e:=he;refine⟨_,rfl,_,_,rfl,.inl (SqL.of ((Kp.new (M:=[]) Kp.refl fe) l _ hl (by simp))),λlf hlf=>?_⟩;have k0:Kp [] H (upd H e (.dK [])):=Kp.new Kp.refl fe;have flf:Fre H lf:=k0.fre hlf (by simp);have nel:e≠lf:=ne_fre (show Fre (upd H e (.dK [])) lf from hlf) upd_same;show tWhile (λσ H Q=>tVar 3 σ H λx H'=>∃k,TruV K x H' k/\Q k H') _ _ _ _
  refine zI3 (λσ H2=>∃(lf:Addr)(D:List Str)(fa:Str->Addr)(S:Str->List Str)(o4 o5:Option V),σ=[some (.ref l),some (.ref d),some (.ref e),some (.ref lf),o4,o5]/\Kp [] H H2/\Fp H H2 e ns D fa S f/\Txs H2 lf (ns.filter λn=>decide (n∉D))) leftN
   ⟨lf,[],λ_=>0,λ_=>[],none,none,rfl,Kp.new k0 flf,⟨(upd_ne nel).trans upd_same,qA5,(λn h=>nomatch h),(λn h=>nomatch h),(λn h=>nomatch h),(λn h=>nomatch h),(λn h=>nomatch h),(λn h=>nomatch h),(λn h=>nomatch h),fe,(λn h=>nomatch h)⟩,by
    have ef:(ns.filter λn=>decide (n∉([]:List Str)))=ns:=by simp
    show upd _ lf _ lf=some (.lst ((ns.filter λn=>decide (n∉([]:List Str))).map V.str));rw[ef];exact upd_same⟩ ?_ (λσ H Q Q' hq hc=>by
    obtain⟨x,e,b,t,q⟩:=hc;exact⟨x,e,b,t,hq _ _ q⟩)
  rintro σ H2 ⟨lf,D,fa,S,o4,o5,rfl,k2,FP,hlf⟩;refine⟨_,rfl,_,.inl ⟨_,SqL.of hlf,rfl⟩,?_⟩;have hLs:∀n,n∈(ns.filter λn=>decide (n∉D))↔n∈ns/\n∉D:=λn=>by simp[qAQ]
  have hLl:(ns.filter λn=>decide (n∉D)).length<=20:=qAL (qAq _ _) hn;generalize hL:(ns.filter λn=>decide (n∉D))=L at *
  refine ite2 (λc=>?_) (λc=>?_)
  .have cL:L≠[]:=λz=>by rw[z]at c;simp at c
   refine⟨_,rfl,_,rfl,⟨_,SqL.of hlf⟩,λB hB=>zA9 (L.map V.str) (λi ys τ H3=>(∃o0,τ=[o0,some (.ref e),some (.ref d)])/\ys=((L.take i).filter λn=>(f n).all λm=>decide (m∈D)).map V.str/\Kp [] H2 H3/\H3 B=some (.lst ys)) ⟨⟨_,rfl⟩,rfl,Kp.new Kp.refl hB,upd_same⟩ (λi ys τ H3 ⟨_,_,k3,_⟩=>SqL.of (k3 lf _ hlf (by simp))) ?_ ?_⟩
   .rintro i v ys τ H3 hv ⟨⟨o0,rfl⟩,rfl,k3,h3⟩;obtain⟨n,en,rfl⟩:=zA3 hv;have mn:=(hLs n).mp (qAJ en);obtain⟨n1,n2,n3⟩:=hf n mn.1;have k23:=k2.trans k3;refine⟨_,rfl,_,rfl,_,rfl,_,.ref (la n),rfl,?_,e,la n,_,f n,rfl,k3 e _ FP.top (by simp),k23 _ _ n1 (by simp),n2,λH4 k4=>?_⟩
    .have:=DGet.k (k:=Sum.inr n) (k23 d _ hd (by simp));rw[zBf,qAC mn.1]at this;exact this
    have eall:((f n).all λm=>(valV (dT1 D λn=>V.ref (fa n)) (.inr m)).isSome)=(f n).all λm=>decide (m∈D):=by
     congr 1;funext m;exact zH3 D _ m
    rw[eall];have h4:=k4 B _ h3 (by simp);have et:=zAh en;refine⟨_,rfl,ite2 (λc=>?_) (λc=>?_)⟩
    .refine ⟨_,rfl,h4,?_,⟨_,rfl⟩,?_,Kp.new (k3.trans k4) hB,upd_same⟩
     .rw [qAD,qAI];have h1:=qAq (λn=>(f n).all λm=>decide (m∈D)) (L.take i);rw[qAR]at h1;lia
     .rw [et,qBK,qAN];have:[n].filter (λn=>(f n).all λm=>decide (m∈D))=[n]:=by rw[qAu,qAC c];rfl
      rw[this];rfl
    .refine ⟨⟨_,rfl⟩,?_,k3.trans k4,?_⟩
     .rw [et,qBK];have:[n].filter (λn=>(f n).all λm=>decide (m∈D))=[]:=by rw[qAu,qAB c];rfl
      rw[this,qA9]
     .exact h4
   .rintro ys τ H3 ⟨_,rfl,k3,h3⟩;have eT:L.take (L.map V.str).length=L:=by rw[qAD,qAb]
    rw[eT]at h3;have hFr:∀n,n∈(L.filter λn=>(f n).all λm=>decide (m∈D))↔n∈L/\∀m∈f n,m∈D:=λn=>by simp[qAQ]
    have hFl:(L.filter λn=>(f n).all λm=>decide (m∈D)).length<=20:=qAL (qAq _ _) hLl
    have hFn:(L.filter λn=>(f n).all λm=>decide (m∈D)).Nodup:=by
     have:L.Nodup:=by rw[<-hL];exact hN.sublist qAy
     exact this.sublist qAy
    have hF0:(L.filter λn=>(f n).all λm=>decide (m∈D))≠[]:=by
     obtain⟨n,n1,n2⟩:=zHx r L cL;refine List.ne_nil_of_mem ((hFr n).mpr ⟨n1,λm hm=>?_⟩);have mn:=(hLs n).mp n1;obtain⟨q1,q2⟩:=(hf n mn.1).2.2 m hm;apply qBm;intro z;have:=n2 m ((hLs m).mpr ⟨q1,z⟩);lia
    generalize hFE:(L.filter λn=>(f n).all λm=>decide (m∈D))=FR at *
    have k23:=k2.trans k3;refine⟨_,rfl,_,.inl ⟨_,SqL.of h3,rfl⟩,?_⟩
    have e0:(!(FR.map V.str).isEmpty)=true:=by
     cases FR with
     |nil=>exact absurd rfl hF0
     |cons _ _=>rfl
    rw[e0];refine iteF ?_
    refine⟨_,rfl,_,rfl,⟨_,SqL.of h3⟩,zA8 (λi σ H4=>∃(fa:Str->Addr)(S:Str->List Str)(o5:Option V),σ=[some (.ref l),some (.ref d),some (.ref e),some (.ref lf),some (.ref B),o5]/\Kp [] H H4/\Fp H H4 e ns (D++FR.take i) fa S f/\Txs H4 lf L/\Txs H4 B FR) ⟨fa,S,_,rfl,k23,by rw[List.take_zero,qA9];exact FP.kp k3,k3 lf _ hlf (by simp),h3⟩ (λi σ H4 _ ⟨_,_,_,_,_,_,_,h⟩=>SqL.of h) ?_ ?_⟩
    .rintro i v σ H4 hv ⟨fa4,S4,o5',rfl,k4,F4,hlf4,hB4⟩;obtain⟨n,en,rfl⟩:=zA3 hv;have mF:=(hFr n).mp (qAJ en);have mn:=(hLs n).mp mF.1;obtain⟨n1,n2,n3⟩:=hf n mn.1
     have nD:n∉D++FR.take i:=λz=>by
      rcases qAT.mp z with y|y
      .exact mn.2 y
      .exact zDq hFn en y
     have fD:∀x∈f n,x∈D++FR.take i:=λx hx=>qAv _ (mF.2 x hx);refine⟨_,rfl,_,rfl,_,.ref (la n),rfl,?_,_,rfl,la n,e,f n,D++FR.take i,ns,fa4,S4,rfl,k4 _ _ n1 (by simp),F4.top,λm hm=>⟨fD m hm,(n3 m hm).1,F4.row m (fD m hm),F4.sns m (fD m hm)⟩,hn,λm hm=>qAL (zDi (F4.snd m (fD m hm)) (F4.sns m (fD m hm))) hn,λb H5 fb hb k5=>?_⟩
     .have:=DGet.k (k:=Sum.inr n) (k4 d _ hd (by simp));rw[zBf,qAC mn.1]at this;exact this
     have F5:=F4.kp k5;have fbH:Fre H b:=k4.fre fb (by simp);refine⟨_,rfl,_,rfl,_,_,rfl,DPut.k (k:=Sum.inr n) F5.top ?_,?_⟩
     .have:=zDi F5.nd F5.sub;rw[qAD,qAI];lia
     .have FM:=F5.more mn.1 nD fD (λx hx=>(n3 x hx).1) hb (qAj (ne_fre fb F4.top)) fbH;rw[qB3,<-zAh en]at FM;exact⟨_,_,_,rfl,Kp.new (k4.trans k5) fe,FM,(upd_ne (zB8 hlf4 F4.top (λz=>nomatch z))).trans (k5 lf _ hlf4 (by simp)),(upd_ne (zB8 hB4 F4.top (λz=>nomatch z))).trans (k5 B _ hB4 (by simp))⟩
    .rintro σ H4 ⟨fa4,S4,o5',rfl,k4,F4,hlf4,hB4⟩;have eF:FR.take (FR.map V.str).length=FR:=by rw[qAD,qAb]
     rw[eF]at F4
     refine⟨_,rfl,_,rfl,⟨_,SqL.of hlf4⟩,λG hG=>zA9 (L.map V.str) (λi ys τ H5=>(∃o0,τ=[o0,some (.ref e)])/\ys=((L.take i).filter λn=>decide (n∉D++FR)).map V.str/\H5=upd H4 G (.lst ys)) ⟨⟨_,rfl⟩,rfl,rfl⟩ (λi ys τ H5 ⟨_,_,z⟩=>by subst z;exact SqL.of ((upd_ne (ne_fre (show Fre H4 G from hG) hlf4)).trans hlf4)) ?_ ?_⟩
     .rintro i v ys τ H5 hv ⟨⟨o0,rfl⟩,rfl,rfl⟩;obtain⟨n,en,rfl⟩:=zA3 hv;refine⟨_,rfl,_,rfl,_,_,rfl,DGet.k (k:=Sum.inr n) ((upd_ne (ne_fre (show Fre H4 G from hG) F4.top)).trans F4.top),_,rfl,?_⟩;rw[zH3];have et:=zAh en;refine ite2 (λc=>?_) (λc=>?_)
      .have c':n∉D++FR:=λz=>by rw[qAS z]at c;exact nomatch c
       refine⟨_,rfl,upd_same,?_,⟨_,rfl⟩,?_,zAx⟩
       .rw [qAD,qAI];have h1:=qAq (λn=>decide (n∉D++FR)) (L.take i);rw[qAR]at h1;lia
       .rw [et,qBK,qAN];have:[n].filter (λn=>decide (n∉D++FR))=[n]:=by rw[qAu,qAC (qAS c')];rfl
        rw[this];rfl
      .have c':n∈D++FR:=by
        apply qBm;intro z;rw[qAa z]at c;exact c rfl
       have e2:(L.take (i+1)).filter (λn=>decide (n∉D++FR))=(L.take i).filter (λn=>decide (n∉D++FR)):=by
        rw[et,qBK];have:[n].filter (λn=>decide (n∉D++FR))=[]:=by rw[qAu,qAB (by rw[qAa (λz=>z c')];decide)];rfl
        rw[this,qA9]
       refine⟨⟨_,rfl⟩,?_,?_⟩
       .rw [e2]
       .rfl
     .rintro ys τ H5 ⟨_,rfl,rfl⟩;have eT:L.take (L.map V.str).length=L:=by rw[qAD,qAb]
      rw[eT];have nGe:e≠G:=ne_fre (show Fre H4 G from hG) F4.top
      have eFF:(L.filter λn=>decide (n∉D++FR))=ns.filter λn=>decide (n∉D++FR):=by
       rw[<-hL,List.filter_filter];refine qC5 λn _=>?_
       by_cases z:n∈D
       .have:n∈D++FR:=qAv _ z;rw[qAa (λy=>y this)];rfl
       .rw [qAS z,Bool.and_true]
      refine⟨⟨G,D++FR,fa4,S4,_,_,rfl,Kp.new k4 (k4.fre (show Fre H4 G from hG) (by simp)),F4.kp (Kp.new Kp.refl hG),?_⟩,?_⟩
      .rw [<-eFF];exact upd_same
      .have m1:leftN [some (V.ref l),some (.ref d),some (.ref e),some (.ref lf),o4,o5] H2=L.length:=by
        show(match H2 lf with|some (.lst xs)=>xs.length|_=>0)=_;rw[hlf];simp
       have m2:∀o4 o5,leftN [some (V.ref l),some (.ref d),some (.ref e),some (.ref G),o4,o5] (upd H4 G (.lst ((L.filter λn=>decide (n∉D++FR)).map V.str)))=(L.filter λn=>decide (n∉D++FR)).length:=λo4 o5=>by
        show(match upd H4 G (.lst ((L.filter λn=>decide (n∉D++FR)).map V.str)) G with|some (.lst xs)=>xs.length|_=>0)=_;rw[upd_same];simp
       rw[m1];refine qCk (qB0 (m2 _ _)) ?_;obtain⟨n,hnF⟩:=qDa FR hF0;have hnL:=((hFr n).mp hnF).1;exact zH5 hnL (qAa λz=>z (qA4 _ hnF))
  .have cL:L=[]:=by
    cases L with
    |nil=>rfl
    |cons _ _=>exact absurd rfl c
   refine⟨_,rfl,k e D fa S H2 FP (λn hn'=>?_) k2⟩;apply qBm;intro z;have:=(hLs n).mpr ⟨hn',z⟩;rw[cL]at this;exact nomatch this
end
def jf(r p e:Addr):List (Str×V):=putF "above" (.ref e) (putF "pairs" (.ref p) (putF "row" (.ref r) []))
theorem jf_row(r p e:Addr):(jf r p e).lookup ("row": Str)=some (.ref r):=by
 unfold jf;rw[zAy,qAB (by decide +kernel),zAy,qAB (by decide +kernel),zAy,qAC rfl]
theorem zJv(r p e:Addr):(jf r p e).lookup ("above": Str)=some (.ref e):=by
 unfold jf;rw[zAy,qAC rfl]
theorem zGz(r p e:Addr){m:Str}(h1:¬m="above")(h2:¬m="pairs")(h3:¬m="row"):(jf r p e).lookup m=none:=by
 unfold jf;rw[zAy,qAB h1,zAy,qAB h2,zAy,qAB h3];rfl
structure JC(K:PySem.W.Frag)(mg:Str->Option Value)(C:Addr):Prop where
 cl:Cls K C
 n_row:zF6 K C "row"
 n_pairs:zF6 K C "pairs"
 n_above:zF6 K C "above"
 mgC:mg "Jobs"=some (.ref C)
structure JR where
 dx:Addr
 r:Addr
 p:Addr
 e:Addr
 ns:List Str
 zs:List (List Str×Addr)
 D:List Str
 fa:Str->Addr
 S:Str->List Str
structure JobsAt(C:Addr)(H:Hp)(j:Addr)(J:JR):Prop where
 ob:H j=some (.ins C J.dx (jf J.r J.p J.e))
 row:Txs H J.r J.ns
 prs:Ords H J.p J.zs
 abv:H J.e=some (.dK (dT1 J.D λn=>.ref (J.fa n)))
 all:∀n∈J.ns,n∈J.D
 sets:∀n∈J.D,SetD H (J.fa n) (J.S n)
 few:J.ns.length<=20
 zfew:J.zs.length<=63
 nd:J.ns.Nodup
 rise:(J.zs.map (·.1)).Pairwise λa b=>ST.tlt a b=true
 zin:∀q∈J.zs,∀x∈q.1,x∈J.ns
 mem:∀n∈J.ns,∀x,x∈J.S n↔x∈told J.zs n\/∃m∈told J.zs n,x∈J.S m
theorem JobsAt.kp{M:List Addr}{C:Addr}{j:Addr}{J:JR}(A:JobsAt C H j J)(k:Kp M H H')(h:∀a o,H a=some o->a∈M->a≠j/\a≠J.r/\a≠J.p/\a≠J.e/\(∀q∈J.zs,a≠q.2)/\∀n∈J.D,a≠J.fa n):JobsAt C H' j J where
 ob:=k _ _ A.ob λz=>(h _ _ A.ob z).1 rfl
 row:=k _ _ A.row λz=>(h _ _ A.row z).2.1 rfl
 prs:=⟨k _ _ A.prs.top λz=>(h _ _ A.prs.top z).2.2.1 rfl,λq hq=>k _ _ (A.prs.row q hq) λz=>(h _ _ (A.prs.row q hq) z).2.2.2.2.1 q hq rfl,A.prs.two⟩
 abv:=k _ _ A.abv λz=>(h _ _ A.abv z).2.2.2.1 rfl
 all:=A.all
 sets:=λn hn=>k _ _ (A.sets n hn) λz=>(h _ _ (A.sets n hn) z).2.2.2.2.2 n hn rfl
 few:=A.few
 zfew:=A.zfew
 nd:=A.nd
 rise:=A.rise
 zin:=A.zin
 mem:=A.mem
theorem JobsAt.kp0{C:Addr}{j:Addr}{J:JR}(A:JobsAt C H j J)(k:Kp [] H H'):JobsAt C H' j J:=A.kp k λ_ _ _ z=>nomatch z
section
def zE1(C:Addr):Sp:=λvs H Q _=>∃(j:Addr)(J:JR),vs=[.ref j]/\JobsAt C H j J/\∀l H',Fre H l->Txs H' l J.ns->Kp [] H H'->Q (.ref l) H'
abbrev zEd:Stmt:=zGh (top 52) 1
theorem zJa:FnScope ["self"] ["self"] (zAd zEd):=fnS
theorem zJo(F:Fun K "names" "Jobs.names" zEd f fd)(T:Txt K mg)(U:JC K mg C):FnOk P w K mg base CX0 1 f fd ["self"] (zE1 C):=by
 refine F.ok zJa (λvs H Q E h=>?_) (λcdv A outer s H vs Q E hr h=>?_)
 .obtain ⟨j,J,rfl,_⟩:=h;rfl
 .obtain ⟨j,J,rfl,A0,k⟩:=h;refine⟨_,(zAe (zAm (zAv zBi (by rfl) T.z_list zEn (zAa (zFp (pv 0) rfl) zAc)))),?_⟩;refine⟨_,rfl,_,_,_,_,_,rfl,A0.ob,U.cl,U.n_row,jf_row _ _ _,_,_,rfl,.inl (SqL.of A0.row),λl hl=>?_⟩;exact k l _ hl upd_same (Kp.new Kp.refl hl)
theorem abv_get{j:Addr}{J:JR}(A:JobsAt C H j J)(hy:y∈J.ns):DGet H J.e (.str y) (some (.ref (J.fa y))):=by
 have:=DGet.k (k:=Sum.inr y) A.abv;rw[zBf,qAC (A.all y hy)]at this;exact this
theorem zF8{e:Addr}{B:List Str}(h:SetD H e B)(x:Str):∃o,DGet H e (.str x) o/\o.isSome=decide (x∈B):=⟨_,DGet.k (k:=Sum.inr x) h,zH3 B _ x⟩
end
section
theorem pe_fldK{X:Cx}{K:PySem.W.Frag}{e:Expr}{f:Str}{pos:Pos}{ta:TE}(he:PE X e ta)(hb:attributeBase e f X.env (eval e X.env)=eval e X.env)(hK:X.K=K:=by rfl):PE X (.Attribute e f pos) (tFld K ta f):=by
 subst hK;exact zFp he hb
theorem zDv{p:α->Bool}{xs:List α}{x:α}(e:xs[i]?=some x)(h:p x=true):(xs.take (i+1)).filter p=(xs.take i).filter p++[x]:=by
 rw[zAh e,qBK,qAu,qAC h];rfl
theorem zFd{p:α->Bool}{xs:List α}{x:α}(e:xs[i]?=some x)(h:¬p x=true):(xs.take (i+1)).filter p=(xs.take i).filter p:=by
 rw[zAh e,qBK,qAu,qAB h];simp
theorem zEu{p:α->Bool}{xs:List α}(h:xs.length<=4096):(((xs.take i).filter p)).length<sizeLine:=by
 have h1:=qAq p (xs.take i);rw[qAR]at h1;rw[qAI];lia
def zG0(C:Addr):Sp:=λvs H Q _=>∃(j:Addr)(J:JR)(x:Str),vs=[.ref j,.str x]/\JobsAt C H j J/\x∈J.ns/\∀l H',Fre H l->Txs H' l (J.ns.filter λn=>decide (x∈J.S n))->Kp [] H H'->Q (.ref l) H'
abbrev zCm:Stmt:=zGh (top 52) 4
theorem zIa:FnScope ["self","name"] ["self","name"] (zAd zCm):=fnS
theorem zIf(F:Fun K "behind" "Jobs.behind" zCm f fd)(T:Txt K mg)(U:JC K mg C)(C_check_job:Cal P w K mg base "check_job" 2 ["names","thing"] zEo):FnOk P w K mg base CX0 3 f fd ["self","name"] (zG0 C):=by
 refine F.ok zIa (λvs H Q E h=>?_) (λcdv A outer s H vs Q E hr h=>?_)
 .obtain ⟨j,J,x,rfl,_⟩:=h;rfl
 .obtain ⟨j,J,x,rfl,A0,hx,k⟩:=h;have HR_check_job:=hr;have hu:=zCn hr
  refine⟨_,(zAb (zA2 (zAg C_check_job HR_check_job rfl (zAa (zFp (pv 0) rfl) (zAa (pv 1) zAc)))) (zAe (zAm (zAt rfl (zAz (sc:=zAd zCm) rfl (by decide +kernel)) (Draws.own (x:="other") (dtk (i:=1) rfl (dtk (i:=0) rfl Draws.nil))) (zAj (zFp (pv 0) rfl)) (λ_ _ _ _=>(pgB (i:=0))) (λ_ _ _ _=>(zBg (zD2 (zFq hu (pv 1) (zAs hu (pe_fldK (K:=K) (pv 2) rfl) (pv 0) (λ_ _=>rfl)))))) (λ_ _ _ _=>(pv 0)))))),?_⟩
  refine hid2 ?_;intro _ _;refine⟨_,rfl,_,_,_,_,_,rfl,A0.ob,U.cl,U.n_row,jf_row _ _ _,_,rfl,x,_,_,rfl,A0.row,hx,?_⟩
  refine⟨_,rfl,_,_,_,_,_,rfl,A0.ob,U.cl,U.n_row,jf_row _ _ _,_,rfl,⟨_,SqL.of A0.row⟩,λB hB=>zA9 (J.ns.map V.str) (λi ys τ H3=>(∃o0,τ=[o0,some (.str x),some (.ref j)])/\ys=((J.ns.take i).filter λn=>decide (x∈J.S n)).map V.str/\H3=upd H B (.lst ys)) ⟨⟨_,rfl⟩,rfl,rfl⟩ (λi ys τ H3 ⟨_,_,z⟩=>by subst z;exact SqL.of ((Kp.new (M:=[]) Kp.refl hB) _ _ A0.row (by simp))) ?_ ?_⟩
  .rintro i v ys τ H3 hv ⟨⟨o0,rfl⟩,rfl,rfl⟩;obtain⟨n,en,rfl⟩:=zA3 hv;have mn:=qAJ en;have A3:=A0.kp0 (Kp.new (l:=B) (o:=.lst (((J.ns.take i).filter λn=>decide (x∈J.S n)).map V.str)) Kp.refl hB);obtain⟨o,g1,g2⟩:=zF8 (A3.sets n (A3.all n mn)) x;refine⟨_,rfl,_,rfl,_,_,_,_,_,rfl,A3.ob,U.cl,U.n_above,zJv _ _ _,_,rfl,_,_,rfl,abv_get A3 mn,_,o,rfl,g1,_,rfl,?_⟩;rw[g2];refine ite2 (λc=>?_) (λc=>?_)
   .refine ⟨_,rfl,upd_same,?_,⟨_,rfl⟩,?_,zAx⟩
    .rw [qAD];exact zEu (by have:=A0.few;lia)
    .rw [zDv en c,qAN];rfl
   .refine ⟨⟨_,rfl⟩,?_,?_⟩
    .rw [zFd en c]
    .rfl
  .rintro ys τ H3 ⟨_,rfl,rfl⟩;have eT:J.ns.take (J.ns.map V.str).length=J.ns:=by rw[qAD,qAb]
   rw[eT];exact k B _ hB upd_same (Kp.new Kp.refl hB)
def spAhead(C:Addr):Sp:=λvs H Q _=>∃(j:Addr)(J:JR)(x:Str),vs=[.ref j,.str x]/\JobsAt C H j J/\x∈J.ns/\∀l H',Fre H l->Txs H' l (J.ns.filter λn=>decide (n∈J.S x))->Kp [] H H'->Q (.ref l) H'
abbrev zC2:Stmt:=zGh (top 52) 5
theorem zJb:FnScope ["self","name"] ["self","name"] (zAd zC2):=fnS
theorem zJp(F:Fun K "ahead" "Jobs.ahead" zC2 f fd)(T:Txt K mg)(U:JC K mg C)(C_check_job:Cal P w K mg base "check_job" 2 ["names","thing"] zEo):FnOk P w K mg base CX0 3 f fd ["self","name"] (spAhead C):=by
 refine F.ok zJb (λvs H Q E h=>?_) (λcdv A outer s H vs Q E hr h=>?_)
 .obtain ⟨j,J,x,rfl,_⟩:=h;rfl
 .obtain ⟨j,J,x,rfl,A0,hx,k⟩:=h;have HR_check_job:=hr;have hu:=zCn hr
  refine⟨_,(zAb (zA2 (zAg C_check_job HR_check_job rfl (zAa (zFp (pv 0) rfl) (zAa (pv 1) zAc)))) (zAe (zAm (zAt rfl (zAz (sc:=zAd zC2) rfl (by decide +kernel)) (Draws.own (x:="other") (dtk (i:=1) rfl (dtk (i:=0) rfl Draws.nil))) (zAj (zFp (pv 0) rfl)) (λ_ _ _ _=>(pgB (i:=0))) (λ_ _ _ _=>(zBg (zD2 (zFq hu (pv 0) (zAs hu (pe_fldK (K:=K) (pv 2) rfl) (pv 1) (λ_ _=>rfl)))))) (λ_ _ _ _=>(pv 0)))))),?_⟩
  refine hid2 ?_;intro _ _;refine⟨_,rfl,_,_,_,_,_,rfl,A0.ob,U.cl,U.n_row,jf_row _ _ _,_,rfl,x,_,_,rfl,A0.row,hx,?_⟩
  refine⟨_,rfl,_,_,_,_,_,rfl,A0.ob,U.cl,U.n_row,jf_row _ _ _,_,rfl,⟨_,SqL.of A0.row⟩,λB hB=>zA9 (J.ns.map V.str) (λi ys τ H3=>(∃o0,τ=[o0,some (.str x),some (.ref j)])/\ys=((J.ns.take i).filter λn=>decide (n∈J.S x)).map V.str/\H3=upd H B (.lst ys)) ⟨⟨_,rfl⟩,rfl,rfl⟩ (λi ys τ H3 ⟨_,_,z⟩=>by subst z;exact SqL.of ((Kp.new (M:=[]) Kp.refl hB) _ _ A0.row (by simp))) ?_ ?_⟩
  .rintro i v ys τ H3 hv ⟨⟨o0,rfl⟩,rfl,rfl⟩;obtain⟨n,en,rfl⟩:=zA3 hv;have A3:=A0.kp0 (Kp.new (l:=B) (o:=.lst (((J.ns.take i).filter λn=>decide (n∈J.S x)).map V.str)) Kp.refl hB);obtain⟨o,g1,g2⟩:=zF8 (A3.sets x (A3.all x hx)) n;refine⟨_,rfl,_,rfl,_,_,_,_,_,rfl,A3.ob,U.cl,U.n_above,zJv _ _ _,_,rfl,_,_,rfl,abv_get A3 hx,_,o,rfl,g1,_,rfl,?_⟩;rw[g2];refine ite2 (λc=>?_) (λc=>?_)
   .refine ⟨_,rfl,upd_same,?_,⟨_,rfl⟩,?_,zAx⟩
    .rw [qAD];exact zEu (by have:=A0.few;lia)
    .rw [zDv en c,qAN];rfl
   .refine ⟨⟨_,rfl⟩,?_,?_⟩
    .rw [zFd en c]
    .rfl
  .rintro ys τ H3 ⟨_,rfl,rfl⟩;have eT:J.ns.take (J.ns.map V.str).length=J.ns:=by rw[qAD,qAb]
   rw[eT];exact k B _ hB upd_same (Kp.new Kp.refl hB)
end
end My
namespace Tim
open PySem PyProof.Rows
section
variable{prog:Program}{w:World}{A:Around}{E:Value->Shared->Prop}{s:Shared}{kd:SortKind}{κ:KeyKind}{a₀:Array Keyed}
theorem w_sortS{st:SortSt}{Q:Unit->SortSt->Prop}(C:CmpOk prog w A s kd κ)(ha:∀x∈a₀.toList,Has κ x)(hk:kindOf st=kd)(hf:failedOf st=none)(hp:(arrOf st).Perm a₀)(hpn:pendingOf st=#[])(h1:1<=a₀.size)(h64:a₀.size<64)
  (h:∀st',failedOf st'=none->(arrOf st').Perm a₀->Srt κ (arrOf st').toList->Q () st'):wpS (model prog w) A E s sortRuns' Q st:=by
 have hz:(arrOf st).size=a₀.size:=hp.size_eq;have mr:∀n,n<64->minRun' n n 0=n:=by decide +kernel
 refine qAh (wpS_get ?_)
 refine qAh (wpS_mono (qCP (I:=λx c st'=>(c=((none,0):Option Unit×Nat)/\x=0/\st'=st)\/(c=(none,a₀.size)/\(pendingOf st').size<=1/\failedOf st'=none/\(arrOf st').Perm a₀/\Srt κ (arrOf st').toList)) (Q:=λc st'=>c=((none,a₀.size):Option Unit×Nat)/\(pendingOf st').size<=1/\failedOf st'=none/\(arrOf st').Perm a₀/\Srt κ (arrOf st').toList) ?step ?fin (.inl ⟨rfl,rfl,rfl⟩)) ?post)
 case fin=>
  rintro c st' (⟨_,z,_⟩|z)
  .have:max 0 (arrOf st).size=0:=z;lia
  .exact z
 case step=>
  rintro x c st1 _ hx (⟨rfl,rfl,rfl⟩|⟨rfl,z⟩)
  .show wpS _ _ _ _ (if 0>=(arrOf st1).size then _ else _) _ _;rw[qAB (by lia)];have al:All κ st1:=λx hx=>ha x ((qDF.mp hp).mem_iff.mp hx)
   have fin:∀(n:Nat)(st3:SortSt),n=a₀.size->Fr 0 st1 st3->Up κ st3 0 n->(((none,0+n):Option Unit×Nat)=(none,0)/\0+1=0/\setPending st3 ((pendingOf st3).push (0,n,0))=st1)\/(((none,0+n):Option Unit×Nat)=(none,a₀.size)/\(pendingOf (setPending st3 ((pendingOf st3).push (0,n,0)))).size<=1/\failedOf (setPending st3 ((pendingOf st3).push (0,n,0)))=none/\(arrOf (setPending st3 ((pendingOf st3).push (0,n,0)))).Perm a₀/\Srt κ (arrOf (setPending st3 ((pendingOf st3).push (0,n,0)))).toList):=by
    intro n st3 en f u;subst en;have hz3:(arrOf st3).size=a₀.size:=f.size.trans hz;refine .inr ⟨by rw[Nat.zero_add],?_,f.fl.trans hf,f.perm.trans hp,?_⟩
    .show ((pendingOf st3).push (0,a₀.size,0)).size<=1;rw[f.pn,hpn];simp
    .have q:=(up_srt (κ:=κ) (st:=st3) (lo:=0) (n:=a₀.size) (by lia)).mp u;unfold seg at q;rw[List.drop_zero,qBc (by simp;lia)]at q;exact q
   refine qAh (w_count C hk al (nrem:=(arrOf st1).size-0) (by lia) (by lia) λm st2 f2 m1 m2 u2=>?_)
   by_cases c1:m<minRun' (arrOf st1).size (arrOf st1).size 0
   .refine (show wpS _ _ _ _ (if m<minRun' (arrOf st1).size (arrOf st1).size 0 then _ else _) _ _ from ?_);rw[qAC c1];refine qAh (wpS_lift (qBb ⟨rfl,?_⟩));have em:min ((arrOf st1).size-0) (minRun' (arrOf st1).size (arrOf st1).size 0)=a₀.size:=by rw[mr _ (by lia)];lia
    refine qAh (w_ins (n:=min ((arrOf st1).size-0) (minRun' (arrOf st1).size (arrOf st1).size 0)) C (f2.kd.trans hk) (al.fr f2) (by rw[f2.size];lia) (by lia) m1 u2 λst3 f3 u3=>?_);show wpS _ _ _ _ (if false=true then _ else _) _ _;rw[qAB (by decide)];refine qAh (wpS_get ?_);have f13:=f2.trans f3;rcases hb:(pendingOf st3).back? with _|⟨s1,q1,t1⟩
    case some=>rw[f13.pn,hpn]at hb;exact nomatch hb
    exact qAh (wpS_modify (qAw (fin _ st3 em f13 u3)))
   .refine (show wpS _ _ _ _ (if m<minRun' (arrOf st1).size (arrOf st1).size 0 then _ else _) _ _ from ?_);rw[qAB c1];rw[mr _ (by lia)]at c1;refine qAh (wpS_get ?_);rcases hb:(pendingOf st2).back? with _|⟨s1,q1,t1⟩
    case some=>rw[f2.pn,hpn]at hb;exact nomatch hb
    exact qAh (wpS_modify (qAw (fin _ st2 (by lia) f2 u2)))
  .show wpS _ _ _ _ (if a₀.size>=(arrOf st).size then _ else _) _ _;rw[qAC (by lia)];exact qAw ⟨rfl,z⟩
 case post=>
  rintro c st1 ⟨rfl,z1,z2,z3,z4⟩;refine qAh (wpS_mono (qCP (I:=λx c st'=>c=(none,())/\st'=st1) (Q:=λc st'=>c=((none,()):Option Unit×Unit)/\st'=st1) ?s3 ?f3 ⟨rfl,rfl⟩) ?p3)
  case f3=>exact λc st' h=>h
  case p3=>
   rintro c st' ⟨rfl,rfl⟩;exact qAw (h st' z2 z3 z4)
  case s3=>
   rintro y c st2 _ hy ⟨rfl,rfl⟩;refine qAh (wpS_get ?_);show wpS _ _ _ _ (if(pendingOf st2).size<=1 then _ else _) _ _;rw[qAC z1];exact qAw ⟨rfl,rfl⟩
end
end Tim
namespace ST
open PySem PyProof.Rows PySem.W
section
variable{prog:Program}{w:World}{A:Around}{E:Value->Shared->Prop}{s:Shared}
theorem w_lsortS{κ:PyProof.Rows.KeyKind}{kd:SortKind}{a:Addr}{vs:List Value}{n:Nat}{P:Fin->Shared->Prop}(ho:s.heap.get? a=some (seqObj "list" vs.toArray n))(hz:vs.length<64)
  (hS:∀h',(∀b o,b≠a->s.heap.get? b=some o->h'.get? b=some o)->Sortable prog w A κ kd vs {s with heap:=h'})
  (h:∀out:Array Value,out.toList.Perm vs->(out.toList.Pairwise λx y=>κ.kle ((κ.keyOf x).getD κ.dflt) ((κ.keyOf y).getD κ.dflt))->P (.done (.ret .none)) {s with heap:=sortedHeap s.heap a vs out}) :
  wpAny (model prog w) A (Builtin.«list.sort» ⟨[.ref a],[]⟩) P E s:=by
 rw[list_sort_plain];have hsl:(4096:Nat)<=sizeLine:=by decide +kernel
 have ha:a<s.heap.objs.size:=qAH ho;have hsz:vs.toArray.size=vs.length:=by simp
 refine qAA (listItems_at ho rfl ?_);refine qAA (qCF ho rfl ?_ (by lia) (qAd _));have h1:(s.heap.update a (Obj.mapSeq λ_=>#[])).get? a=some (seqObj "list" #[] _):=qCY ho λ_=>#[];refine qAA (qC6 h1 rfl ?_);refine qAA (qDT ?_ (by show vs.toArray.toList.length<=_;simp;lia));refine qAA (qDb ?_ (qAd _));refine qA6 ?_;have h6:=qAG (seqObj "list" #[] 0) (qAG (seqObj "tuple" vs.toArray 0) h1);change wpAny (model prog w) A _ P E {s with heap:=((s.heap.update a (Obj.mapSeq λ_=>#[])).push (seqObj "tuple" vs.toArray 0)).push (seqObj "list" #[] 0)};dsimp only
 have S6:=hS (((s.heap.update a (Obj.mapSeq λ_=>#[])).push (seqObj "tuple" vs.toArray 0)).push (seqObj "list" #[] 0)) λb o hb q=>by
  refine qAG _ (qAG _ ?_);rw[qBG _ _ (qAj hb)];exact q
 by_cases c:vs.toArray.size<2
 .rw [qAC c,qAC c];refine qAA (qAE ?_);rw[StateT.run_pure];refine qAA (qAE ?_);dsimp only;refine qAA (qC6 h6 rfl ?_);refine qAA (qCF h6 rfl ?_ (qAd _) (by rw[Array.size_map];show(pairsOf vs).size<=_;rw[pairsOf_size];lia));simp only[bne_self_eq_false,qBQ,qA7];have e:(arrOf (SortSt.mk' general' (vs.toArray.zip vs.toArray) #[] 7 none)).Perm (pairsOf vs):=qCo _;refine qAE (h _ (zG1 e) ?_);exact pw_small (by rw[(zG1 e).length_eq];lia)
 .rw [qAB c,qAB c];refine qAA (S6.kind (by lia) _ _ ?_)
  have W:=Tim.w_sortS (E:=E) (a₀:=pairsOf vs) (st:=SortSt.mk' kd (vs.toArray.zip vs.toArray) #[] 7 none) (Q:=λ_ st'=>failedOf st'=none/\(arrOf st').Perm (pairsOf vs)/\Tim.Srt κ (arrOf st').toList) S6.cmp (λp hp=>by
   rw[pairsOf_toList]at hp;exact S6.has _ (mem_zip_self hp).2) rfl rfl (qCo _) rfl (by rw[pairsOf_size];lia) (by rw[pairsOf_size];lia) λst' q1 q2 q3=>⟨q1,q2,q3⟩
  refine qAA (qAz W ?_ λ_ _ e=>e);rintro⟨⟨⟩,st'⟩ s' ⟨rfl,q1,q2,q3⟩;dsimp only;refine qAA (qC6 h6 rfl ?_);have zz:=(zG1 q2).length_eq;refine qAA (qCF h6 rfl ?_ (qAd _) (by simp at zz ⊢;lia));rw[q1];simp only[bne_self_eq_false,qBQ,qA7];exact qAE (h _ (zG1 q2) (snd_srt q2 q3))
theorem w_sortedCS{κ:PyProof.Rows.KeyKind}{kd:SortKind}{v:Value}{Q:Value->Shared->Prop}{J:List Value->Shared->Prop}(hc:wpAny (model prog w) A.in1 (collect v) J E s)
  (hJ:∀vs s1,J vs s1->vs.length<64/\(∀h',Up s1.heap h'->Sortable prog w A.in1.in1 κ kd vs {s1 with heap:=h'}) /\
   ∀(out:List Value) c h',out.Perm vs->(out.Pairwise λx y=>κ.kle ((κ.keyOf x).getD κ.dflt) ((κ.keyOf y).getD κ.dflt))->h'.get? s1.heap.objs.size=some (seqObj "list" out.toArray c)->Up s1.heap h'->Q (.ref s1.heap.objs.size) {s1 with heap:=h'}) :
  wpAny (model prog w) A (call (.builtin "sorted") [v]) Q E s:=by
 refine Calls.call_function_entry kind_sorted plain_sorted entry_sorted (args_sorted1 _) ?_;unfold Builtin.«sorted»;refine qAA (m:=checkCount "sorted" 1 1 _) (qAE ?_);refine qAA (qAz hc (λvs s1 j=>?_) λ_ _ x=>x);obtain⟨j1,j2,j3⟩:=hJ vs s1 j;have hsl:(4096:Nat)<=sizeLine:=by decide +kernel
 refine qAA (qDb ?_ (by lia));have hD:(s1.heap.push (seqObj "list" vs.toArray 0)).get? s1.heap.objs.size=some (seqObj "list" vs.toArray 0):=qAX _ rfl;change wpAny _ _ _ _ _ {s1 with heap:=s1.heap.push (seqObj "list" vs.toArray 0)};have ne:∀b o,s1.heap.get? b=some o->b≠s1.heap.objs.size:=λb o q=>qAO (qAH q);refine qAA (qA6 (qBJ slot_list_sort ⟨_,hD,rfl⟩ entry_list_sort ?body (args_list_sort _)))
 case body=>
  refine w_lsortS (s:={s1 with heap:=s1.heap.push (seqObj "list" vs.toArray 0)}) hD j1 (λh' q=>j2 h' λb o e=>q b o (ne b o e) (qAG _ e)) λout p1 p2=>?_;obtain⟨⟨c,g1⟩,g2⟩:=srt_heap (out:=out) hD;refine⟨_,rfl,qAE ⟨_,rfl,j3 out.toList c _ p1 p2 (by simpa using g1) λb o e=>g2 b o (ne b o e) (qAG _ e)⟩⟩
end
end ST
namespace L2
open PySem PySem.Spec PyProof.Rows
section
variable{X:Cx}{pins:List (Addr×Obj)}{s:Shared}{σ:St}{H:Hp}
theorem zIg{k:Nat}(hr:Room k X.A):zCa X (.builtin "sorted") (λxs H Q=>∃(a:Addr) (ys:List (List Str×Addr)),xs=[.ref a]/\H a=some (TSt X.prog X.w a ys)/\(∀p∈ys,RowT X.K H p)/\(∀p∈ys,p.1≠[])/\ys.length<=63 /\ ∀b zs,H b=none->zs.Perm ys->RiseT zs->Q (.ref b) (upd H b (.lst (zs.map λp=>V.ref p.2)))):=by
 intro pins s σ H xs us Q I r h;obtain⟨a,ys,rfl,ha,hk,hne,hc,q⟩:=h;obtain⟨u,rfl,rx⟩:=zH9 r
 cases rx
 obtain⟨⟨o,es,ep,t,z1,z2,z3,z4,z5,z6,z7,z8⟩,_⟩:=I.hok a _ ha;have Z:ST.SetX (PySem.strKind X.prog X.w) s.heap a ys o es ep t:=⟨z1,z2,z3,z4,z5,z6,z7,λp hp=>I.rowT (hk p hp),z8⟩
 refine ST.w_sortedCS (kd:=tuples' true) (κ:=ST.tupK λb=>(ys.find? λp=>p.2==b).map (·.1))
  (J:=λvs s1=>vs.Perm (ys.map λp=>Value.ref p.2)/\(∀b o,s.heap.get? b=some o->s1.heap.get? b=some o)/\s1.gens=s.gens/\s1.os=s.os)
  (ST.w_collect (A:=X.A.in1) hr.hd Z (qAL hc (by decide)) λs' vs v1 v2 v3 v4 _=>⟨v1,v2,v3,v4⟩) λvs s1 ⟨v1,v2,v3,v4⟩=>?_
 have hvl:vs.length=ys.length:=by rw[v1.length_eq,qAD]
 refine⟨by lia,λh' up=>ST.tups_sortable v1 (λp hp=>ST.key_kept (I.rowT (hk p hp)) λo e=>up _ o (v2 _ o e)) hne,λout c h' p1 p2 p3 up=>?_⟩;obtain⟨zs,e1,e2⟩:=perm_back _ (p1.trans v1);subst e2;have I1:Inv X pins σ H s1:=I.call' (ch:=[]) v4 (Un.kept v2) (I.hok.kept v2) (by rw[v3];exact I.bare) (λ_ z=>nomatch z)
 have hz:(zs.map λp=>V.ref p.2).length<=sizeLine:=by
  rw[qAD,e1.length_eq];exact qAL hc (by decide +kernel)
 exact⟨.ref s1.heap.objs.size,_,I1.laid (t':=s1.toks) up (qAF _) (show zA0 X.prog X.w _ h' _ (.lst (zs.map λp=>V.ref p.2))from⟨hz,_,c,refs_vals zs,p3⟩),rfl,q _ zs (I1.hok.fresh (qAF _)) e1 (rise_of (h:=s.heap) e1 (λp hp=>I.rowT (hk p hp)) p2)⟩
end
end L2
namespace My
open PySem L2
variable{P:Program}{w:World}{K:PySem.W.Frag}{mg:Str->Option Value}{base:Heap}{C:Addr}
variable{X:Cx}{n x:Str}{pos:Pos}{qs:List (List Str×Addr)}{f C d:Addr}{fd:FuncData}{H H':Hp}{ns:List Str}{sp:Sp}
theorem zG4(f:Str)(v:V):∀fs:List (Str×V),(putF f v fs).length<=fs.length+1
 |[]=>qAF _
 |(g,x)::r=>by
  unfold putF;split
  .exact qBq _
  .have:=zG4 f v r;simp only[qAc];lia
theorem call_setTP{P:Program}{w:World}{K:PySem.W.Frag}{k:Nat}(hr:Room k X.A)(hP:X.prog=P:=by rfl)(hw:X.w=w:=by rfl)(hK:X.K=K:=by rfl):zCa X (.type "set") (λxs H Q=>∃(l:Addr) (ks:List (List Str×Addr)),xs=[.ref l]/\SqL K H l (ks.map λp=>V.ref p.2)/\(∀p∈ks,RowT K H p)/\ks.length<=306 /\ ∀a ys,H a=none->(∀p∈ys,p∈ks)->(∀p∈ks,p.1∈ys.map (·.1))->(ys.map (·.1)).Nodup->ys.length<=ks.length->Q (.ref a) (upd H a (TSt P w a ys))):=by
 subst hP hw hK;exact call_setT hr
theorem zIh{P:Program}{w:World}{K:PySem.W.Frag}{k:Nat}(hr:Room k X.A)(hP:X.prog=P:=by rfl)(hw:X.w=w:=by rfl)(hK:X.K=K:=by rfl):zCa X (.builtin "sorted") (λxs H Q=>∃(a:Addr) (ys:List (List Str×Addr)),xs=[.ref a]/\H a=some (TSt P w a ys)/\(∀p∈ys,RowT K H p)/\(∀p∈ys,p.1≠[])/\ys.length<=63 /\ ∀b zs,H b=none->zs.Perm ys->RiseT zs->Q (.ref b) (upd H b (.lst (zs.map λp=>V.ref p.2)))):=by
 subst hP hw hK;exact zIg hr
theorem pg_tupK{K:PySem.W.Frag}{es:List Expr}{k:Nat}{t:TGs}{n:Nat}(hc:X.calm=true)(h:PGs X es t)
  (hn:(assignEach es X.env).length=n:=by rfl) (hst:(assignEach es X.env).findIdx? (·.1)=none:=by rfl) (hK:X.K=K:=by rfl):PG X (.Tuple es k pos) (gTup K n t):=by
 subst hK;exact zIs hc h hn hst
theorem zG7 :x∈told qs n↔∃q∈qs,snd q=n/\fst q=x:=by
 unfold told;simp only[qAW,qAQ,qA3];exact⟨λ⟨q,⟨a,b⟩,c⟩=>⟨q,a,b,c⟩,λ⟨q,a,b,c⟩=>⟨q,⟨a,b⟩,c⟩⟩
theorem fst_of{q q':List Str×Addr}(h:q.1=q'.1):fst q=fst q'/\snd q=snd q':=by unfold fst snd;rw[h];exact⟨rfl,rfl⟩
section
structure Good(ns:List Str)(qs:List (List Str×Addr))(r:Str->Nat):Prop where
 nm:∀n∈ns,zIi n
 nd:ns.Nodup
 few:ns.length<=20
 qfew:qs.length<=63
 qin:∀q∈qs,∀x∈q.1,x∈ns
 rk:∀q∈qs,r (fst q)<r (snd q)
structure JNew(H:Hp)(J:JR):Prop where
 r:Fre H J.r
 p:Fre H J.p
 e:Fre H J.e
 z:∀q∈J.zs,Fre H q.2
 s:∀n∈J.D,Fre H (J.fa n)
def spInit(C:Addr):Sp:=λvs H Q _=>∃(x dx l m:Addr)(ns:List Str) (qs:List (List Str×Addr)) (r:Str->Nat),vs=[.ref x,.ref l,.ref m]/\H x=some (.ins C dx [])/\Txs H l ns/\Ords H m qs/\Good ns qs r /\
 ∀J H',JobsAt C H' x J->JNew H J->J.ns=ns->(∀k,k∈J.zs.map (·.1)↔k∈qs.map (·.1))->Kp [x] H H'->Q .non H'
abbrev zB0:Stmt:=zGh (top 52) 0
theorem zGu:FnScope ["self","names","orders"] ["self","names","orders"] (zAd zB0):=fnS
theorem ok_Jobs_init(F:Fun K "__init__" "Jobs.__init__" zB0 f fd)(T:Txt K mg)(U:JC K mg C)(C_check_names:Cal P w K mg base "check_names" 2 ["names"] zGm)(C_check_parts:Cal P w K mg base "check_parts" 3 ["names","orders"] zGl)
  (C_all_ahead:Cal P w K mg base "all_ahead" 2 ["names","told"] zIp) (C_told_ahead:Cal P w K mg base "told_ahead" 1 ["names","orders"] zHb):FnOk P w K mg base CX0 4 f fd ["self","names","orders"] (spInit C):=by
 refine F.ok zGu (λvs H Q E h=>?_) (λcdv A outer s H vs Q E hr h=>?_)
 .obtain ⟨x,dx,l,m,ns,qs,r,rfl,_⟩:=h;rfl
 .obtain ⟨x,dx,l,m,ns,qs,r,rfl,hx,hl,hm,G,k⟩:=h;have HR_check_parts:=hr;have HR_check_names:=hr.mono (j:=2) (by decide);have HR_all_ahead:=hr.mono (j:=2) (by decide);have HR_told_ahead:=hr.mono (j:=1) (by decide)
  refine⟨_,(zAb (zA2 (zAg C_check_names HR_check_names rfl (zAa (pv 1) zAc))) (zAb (zA2 (zAg C_check_parts HR_check_parts rfl (zAa (pv 1) (zAa (pv 2) zAc))))
   (zAb (ps_fld (pv 0) (zAv zBi (by rfl) T.z_list zEn (zAa (pv 1) zAc)) rfl)
   (zAb (ps_fld (pv 0) (zAi (zIh (P:=P) (w:=w) (K:=K) HR_told_ahead) (by rfl) T.z_sorted zCv (zAa (zAv (call_setTP (P:=P) (w:=w) (K:=K) HR_told_ahead) (by rfl) T.z_set bo_set (zAa (zAt rfl (zAz (sc:=zAd zB0) rfl (by decide +kernel)) (Draws.own (x:= "one") (Draws.own (x:= "other") Draws.nil)) (zAj (pv 2)) (fun _ _ _ _=>(pg_tupK (K:=K) (n:=2) rfl (zA7 (pgB (i:=0)) (zA7 (pgB (i:=1)) zEf)))) (fun _ _ _ _=>zBl) (fun _ _ _ _=>(zGo (zAa (pv 0) (zAa (pv 1) zAc))))) zAc)) zAc)) rfl)
   (zAe (ps_fld (pv 0) (zAg C_all_ahead HR_all_ahead rfl (zAa (zFp (pv 0) rfl) (zAa (zAg C_told_ahead HR_told_ahead rfl (zAa (zFp (pv 0) rfl) (zAa (zFp (pv 0) rfl) zAc))) zAc))) rfl)))))),?_⟩
  refine hid5 ?_;intro _ _ _ _ _;refine⟨_,rfl,l,ns,rfl,hl,G.few,G.nm,G.nd,λH1 k1=>?_⟩;have hm1:=hm.kp k1 (by simp) (by simp);refine⟨_,rfl,_,rfl,l,m,ns,qs,rfl,k1 l _ hl (by simp),hm1,G.qin,?_⟩;have hx1:=k1 x _ hx (by simp);refine⟨_,rfl,_,_,rfl,.inl (SqL.of (k1 l _ hl (by simp))),λr1 hr1=>?_⟩;have nxr:x≠r1:=ne_fre hr1 hx1;refine⟨_,rfl,_,_,_,_,rfl,(upd_ne nxr).trans hx1,U.cl,U.n_row,(by decide),?_⟩
  have hm2:∀o1 o2,Ords (upd (upd H1 r1 o1) x o2) m qs:=λo1 o2=>
   ⟨(upd_ne (zB8 hm1.top hx1 (λz=>nomatch z))).trans ((upd_ne (ne_fre hr1 hm1.top)).trans hm1.top),λq hq=>(upd_ne (zB8 (hm1.row q hq) hx1 (λz=>nomatch z))).trans ((upd_ne (ne_fre hr1 (hm1.row q hq))).trans (hm1.row q hq)),hm1.two⟩
  have hrow2:∀o2,Txs (upd (upd H1 r1 (.lst (ns.map V.str))) x o2) r1 ns:=λo2=>(upd_ne nxr.symm).trans upd_same;have k2:∀o1 o2,Kp [x] H (upd (upd H1 r1 o1) x o2):=λo1 o2=>Kp.put (Kp.new (k1.weak (by simp)) (k1.fre hr1 (by simp))) (by simp);have hx2:∀o1 o2,(upd (upd H1 r1 o1) x o2) x=some o2:=λo1 o2=>upd_same;have hm2:=hm2 (.lst (ns.map V.str)) (.ins C dx (putF "row" (.ref r1) []));have hrow2:=hrow2 (.ins C dx (putF "row" (.ref r1) []));have k2:=k2 (.lst (ns.map V.str)) (.ins C dx (putF "row" (.ref r1) []));have hx2:=hx2 (.lst (ns.map V.str)) (.ins C dx (putF "row" (.ref r1) []));generalize hH2:upd (upd H1 r1 (.lst (ns.map V.str))) x (.ins C dx (putF "row" (.ref r1) []))=H2 at hm2 hrow2 k2 hx2 ⊢
  refine⟨_,rfl,_,rfl,⟨_,SqL.of hm2.top⟩,λB hB=>zAw (qs.map λq=>V.ref q.2) (λi ys τ H3=>∃ks:List (List Str×Addr),(∃o0 o1,τ=[o0,o1])/\ys=(ks.map λq=>V.ref q.2)/\ks.map (·.1)=(qs.take i).map (·.1)/\(∀q∈ks,H3 q.2=some (.tup (q.1.map V.str)))/\(∀q∈ks,Fre H2 q.2)/\Kp [] H2 H3/\H3 B=some (.lst ys)) ⟨[],⟨_,_,rfl⟩,rfl,rfl,(λq h=>nomatch h),(λq h=>nomatch h),Kp.new Kp.refl hB,upd_same⟩ (λi ys τ H3 ⟨_,_,_,_,_,_,k3,_⟩=>SqL.of (k3 m _ hm2.top (by simp))) ?_ ?_⟩
  .rintro i v ys τ H3 hv ⟨ks,⟨o0,o1,rfl⟩,rfl,ek,hk,fk,k3,h3⟩;obtain⟨q,eq,rfl⟩:=ref_at hv;have mq:=qAJ eq;obtain⟨a,b,eab⟩:=hm2.two q mq
   have hrow:H3 q.2=some (.tup [.str a,.str b]):=by
    have:=k3 q.2 _ (hm2.row q mq) (by simp);rw[eab]at this;exact this
   refine⟨_,_,rfl,.inl (.inl hrow),rfl,_,_,rfl,_,_,rfl,rfl,?_⟩;have hlen:ks.length=(qs.take i).length:=by have:=qAm List.length ek;simpa using this
   refine⟨_,rfl,_,rfl,(by walk_at"ln"),λt ht=>?_⟩;have ft:Fre H3 t:=ht;have nBt:B≠t:=ne_fre ft h3;refine⟨(upd_ne nBt).trans h3,?_,ks++[([a,b],t)],⟨_,_,rfl⟩,?_,?_,λq' hq'=>?_,λq' hq'=>?_,?_,?_⟩
   .rw [qAD,hlen,qAR,qAI];have:=G.qfew;lia
   .rw [qAN];rfl
   .rw [qAN,ek,zAh eq,qAN,qAk,qAk,eab]
   .rcases qAT.mp hq' with z|z
    .exact (upd_ne (zB8 (hk q' z) h3 (λy=>nomatch y))).trans ((upd_ne (ne_fre ft (hk q' z))).trans (hk q' z))
    .rw [qAP.mp z];exact(upd_ne nBt.symm).trans upd_same
   .rcases qAT.mp hq' with z|z
    .exact fk q' z
    .rw [qAP.mp z];exact k3.fre ft (by simp)
   .exact Kp.new (Kp.new k3 (k3.fre ft (by simp))) hB
   .exact upd_same
  .rintro ys τ H3 ⟨ks,_,rfl,ek,hk,fk,k3,h3⟩;have eT:qs.take (qs.map λq=>V.ref q.2).length=qs:=by rw[qAD,qAb]
   rw[eT]at ek;have hlen:ks.length=qs.length:=by have:=qAm List.length ek;simpa using this
   have ktwo:∀q∈ks,∃a b,q.1=[a,b]:=λq hq=>by
    have:q.1∈ks.map (·.1):=qAW.mpr ⟨q,hq,rfl⟩;rw[ek]at this;obtain⟨q',hq',e⟩:=qAW.mp this;rw[<-e];exact hm2.two q' hq'
   refine⟨B,ks,rfl,SqL.of h3,λq hq=>.inl (.inl (hk q hq)),by rw[hlen];have:=G.qfew;lia,λsa yk hsa y1 y2 y3 y4=>?_⟩;have fsa:Fre H3 sa:=hsa;refine⟨sa,yk,rfl,upd_same,λq hq=>.inl (.inl ((upd_ne (ne_fre fsa (hk q (y1 q hq)))).trans (hk q (y1 q hq)))),λq hq=>?_,by have:=G.qfew;lia,λp zs hp z1 z2=>?_⟩
   .obtain ⟨a,b,e⟩:=ktwo q (y1 q hq);rw[e];simp
   have fp:Fre (upd H3 sa (TSt P w sa yk)) p:=hp;have zk:∀q∈zs,q∈ks:=λq hq=>y1 q (z1.mem_iff.mp hq)
   have zq:∀q∈zs,∃q'∈qs,q'.1=q.1:=λq hq=>by
    have:q.1∈ks.map (·.1):=qAW.mpr ⟨q,zk q hq,rfl⟩;rw[ek]at this;exact qAW.mp this
   have zin:∀q∈zs,∀x∈q.1,x∈ns:=λq hq x hx=>by
    obtain⟨q',h1,h2⟩:=zq q hq;exact G.qin q' h1 x (by rw[h2];exact hx)
   have zrk:∀q∈zs,r (fst q)<r (snd q):=λq hq=>by
    obtain⟨q',h1,h2⟩:=zq q hq;obtain⟨e1,e2⟩:=fst_of h2;rw[<-e1,<-e2];exact G.rk q' h1
   have zlen:zs.length<=63:=by rw[z1.length_eq];have:=G.qfew;lia
   have z3:(zs.map (·.1)).Pairwise λa b=>ST.tlt a b=true:=ST.strict_of (qBn.mpr z2) ((z1.map (·.1)).nodup_iff.mpr y3)
   have zset:∀k,k∈zs.map (·.1)↔k∈qs.map (·.1):=λk=>by
    rw[<-ek,(z1.map (·.1)).mem_iff]
    exact⟨λh=>by
     obtain⟨q,h1,h2⟩:=qAW.mp h;exact qAW.mpr ⟨q,y1 q h1,h2⟩,λh=>by
     obtain⟨q,h1,h2⟩:=qAW.mp h;rw[<-h2];exact y2 q h1⟩
   have k4:Kp [] H2 (upd (upd H3 sa (TSt P w sa yk)) p (.lst (zs.map λq=>V.ref q.2))):=by
    have h1:Kp [] H2 (upd H3 sa (TSt P w sa yk)):=Kp.new k3 (k3.fre fsa (by simp));exact Kp.new h1 (h1.fre fp (by simp))
   have hzs4:Ords (upd (upd H3 sa (TSt P w sa yk)) p (.lst (zs.map λq=>V.ref q.2))) p zs:=⟨upd_same,λq hq=>by
    have h1:upd H3 sa (TSt P w sa yk) q.2=some (.tup (q.1.map V.str)):=(upd_ne (ne_fre fsa (hk q (zk q hq)))).trans (hk q (zk q hq));exact(upd_ne (ne_fre fp h1)).trans h1,λq hq=>ktwo q (zk q hq)⟩
   generalize hH4:upd (upd H3 sa (TSt P w sa yk)) p (.lst (zs.map λq=>V.ref q.2))=H4 at k4 hzs4 ⊢;have hx4:=k4 x _ hx2 (by simp);refine⟨_,rfl,_,_,_,_,rfl,hx4,U.cl,U.n_pairs,(by have:=zG4 "row" (V.ref r1) [];simp only[qBV]at this;lia),?_⟩;have hx5:(upd H4 x (.ins C dx (putF "pairs" (.ref p) (putF "row" (.ref r1) [])))) x=some (.ins C dx (putF "pairs" (.ref p) (putF "row" (.ref r1) []))):=upd_same;have hrow5:Txs (upd H4 x (.ins C dx (putF "pairs" (.ref p) (putF "row" (.ref r1) [])))) r1 ns:=(upd_ne nxr.symm).trans (k4 r1 _ hrow2 (by simp));have hzs5:Ords (upd H4 x (.ins C dx (putF "pairs" (.ref p) (putF "row" (.ref r1) [])))) p zs:=⟨(upd_ne (zB8 hzs4.top hx4 (λz=>nomatch z))).trans hzs4.top,λq hq=>(upd_ne (zB8 (hzs4.row q hq) hx4 (λz=>nomatch z))).trans (hzs4.row q hq),hzs4.two⟩;have k5:Kp [x] H (upd H4 x (.ins C dx (putF "pairs" (.ref p) (putF "row" (.ref r1) [])))):=Kp.put (k2.trans (k4.weak (by simp))) (by simp);generalize hH5:upd H4 x (.ins C dx (putF "pairs" (.ref p) (putF "row" (.ref r1) [])))=H5 at hx5 hrow5 hzs5 k5 ⊢
   have e_row:(putF "pairs" (.ref p) (putF "row" (.ref r1) [])).lookup ("row": Str)=some (.ref r1):=by
    rw[zAy,qAB (by decide +kernel),zAy,qAC rfl]
   have e_prs:(putF "pairs" (.ref p) (putF "row" (.ref r1) [])).lookup ("pairs": Str)=some (.ref p):=by
    rw[zAy,qAC rfl]
   refine⟨_,rfl,_,_,_,_,_,rfl,hx5,U.cl,U.n_row,e_row,_,rfl,_,_,_,_,_,rfl,hx5,U.cl,U.n_row,e_row,_,rfl,_,_,_,_,_,rfl,hx5,U.cl,U.n_pairs,e_prs,r1,p,ns,zs,rfl,hrow5,hzs5,G.nd,G.few,by lia,zin,λd la H6 DD k6=>?_⟩;refine⟨r1,d,ns,la,told zs,r,rfl,k6 r1 _ hrow5 (by simp),G.nd,G.few,DD.top,λn hn=>⟨DD.row n hn,qAL (told_len zs n) (by lia),λy hy=>?_⟩,λe D fa S H7 FF all k7=>?_⟩
   .obtain ⟨q,h1,h2,h3⟩:=zG7.mp hy;obtain⟨a,b,eab⟩:=hzs5.two q h1;refine⟨?_,by rw[<-h2,<-h3];exact zrk q h1⟩;rw[<-h3];refine zin q h1 _ ?_;unfold fst;rw[eab];simp
   have k57:Kp [] H5 H7:=k6.trans k7;have hx7:=k57 x _ hx5 (by simp);refine⟨_,rfl,_,_,_,_,rfl,hx7,U.cl,U.n_above,?_,?_⟩
   .have h1:=zG4 "row" (V.ref r1) [];have h2:=zG4 "pairs" (V.ref p) (putF "row" (V.ref r1) []);simp only[qBV]at h1;lia
   have f2H:∀a,Fre H2 a->Fre H a:=λa ha=>k2.fre ha (nm1 λz=>by
    subst z;have:H2 a=some _:=hx2;unfold Fre at ha;rw[ha]at this;exact nomatch this)
   have k3p:Kp [] H2 (upd H3 sa (TSt P w sa yk)):=Kp.new k3 (k3.fre fsa (by simp));have fpx:Fre H2 p:=k3p.fre fp (by simp)
   have f52:∀a,Fre H5 a->Fre H2 a:=λa ha=>by
    have h1:Fre H4 a:=by
     have nax:a≠x:=λz=>by
      subst z;unfold Fre at ha;rw[ha]at hx5;exact nomatch hx5
     have:H5 a=H4 a:=by rw[<-hH5];exact upd_ne nax
     unfold Fre at ha ⊢;rw[<-this];exact ha
    exact k4.fre h1 (by simp)
   have fex:Fre H2 e:=f52 e (k6.fre FF.fr (by simp));have ffx:∀n∈D,Fre H2 (fa n):=λn hn=>f52 _ (k6.fre (FF.frs n hn) (by simp));refine k ⟨dx,r1,p,e,ns,zs,D,fa,S⟩ _ ⟨upd_same,?_,⟨?_,λq hq=>?_,hzs5.two⟩,?_,all,λn hn=>?_,G.few,zlen,G.nd,z3,zin,λn hn y=>FF.mem n (all n hn) y⟩ ⟨k1.fre hr1 (by simp),f2H p fpx,f2H e fex,λq hq=>f2H q.2 (fk q (zk q hq)),λn hn=>f2H _ (ffx n hn)⟩ rfl zset (Kp.put (k5.trans (k57.weak (by simp))) (by simp))
   .exact (upd_ne nxr.symm).trans (k57 r1 _ hrow5 (by simp))
   .have h1:=k57 p _ hzs5.top (by simp);exact(upd_ne (zB8 h1 hx7 (λz=>nomatch z))).trans h1
   .have h1:=k57 _ _ (hzs5.row q hq) (by simp);exact(upd_ne (zB8 h1 hx7 (λz=>nomatch z))).trans h1
   .exact (upd_ne (zB8 FF.top hx7 (λz=>nomatch z))).trans FF.top
   .exact (upd_ne (zB8 (FF.row n hn) hx7 (λz=>nomatch z))).trans (FF.row n hn)
end
def zBs:List Str:=zEj.cps.toList.map λc=>⟨#[c]⟩
theorem zE3:zBs.length=26:=by
 unfold zBs;rw[zEi];simp
theorem singles_nd:zBs.Nodup:=by decide +kernel
theorem single_ok(h:x∈zBs):zIi x:=by
 unfold zBs at h;rw[zEi]at h;obtain⟨c,hc,rfl⟩:=qAW.mp h;obtain⟨i,hi,rfl⟩:=qAW.mp hc;have:=qAs.mp hi;refine⟨qAF 1,by show 1<=8;decide,λd hd=>?_⟩;have:d=97+i:=by simpa using hd
 lia
theorem some_single{found:List Str}(h:found.length<=20):(zBs.filter λx=>decide (x∉found))≠[]:=λz=>by
 have:zBs.length<=found.length:=zDi singles_nd λx hx=>by
  apply qBm;intro y;have:x∈zBs.filter λx=>decide (x∉found):=qAQ.mpr ⟨hx,qAS y⟩;rw[z]at this;exact nomatch this
 rw[zE3]at this;lia
section
def spLNames:Sp:=λvs H Q _=>∃(p:Addr)(m:Int),vs=[.ref p,.int m]/\zBk H p/\0<=m/\m<=20/\∀(l:Addr)(ns:List Str)(H':Hp),Fre H l->Txs H' l ns->ns.length=m.toNat->ns.Nodup->(∀n∈ns,zIi n)->zBk H' p->Kp [p] H H'->Q (.ref l) H'
abbrev zJc:Stmt:=top 57
theorem zC0:FnScope ["_law_purse_here","_law_many","_law_letters","_law_found","_law_k","_law_word","_law_j"] ["_law_purse_here","_law_many"] (zAd zJc):=fnS
theorem ok_names(F:Fun K "_law_names" "_law_names" zJc f fd)(T:Txt K mg)(C_take:Cal P w K mg base "_law_take" 1 ["_law_purse_here","_law_many"] zHc):FnOk P w K mg base CX0 2 f fd ["_law_purse_here","_law_many"] spLNames:=by
 refine F.ok zC0 (λvs H Q E h=>?_) (λcdv A outer s H vs Q E hr h=>?_)
 .obtain ⟨p,m,rfl,_⟩:=h;rfl
 .obtain ⟨p,m,rfl,hP,h0,h1,k⟩:=h;have HR_take:=hr
  refine⟨_,(zAb (psS (i:=2) zC0.nd pe_str) (zAb (psS (i:=3) zC0.nd (zBv zAc))
   (zAb (zA1 qAg rfl (zBm rfl T.z_range (zAa (pv 1) zAc)) (pgN (i:=4) zC0.nd)
    (zAb (psS (i:=5) zC0.nd pe_str)
    (zAb (zA1 qAg rfl (zBm rfl T.z_range (zAa (zAk zBn zAf (zAk zD3 (zAg C_take HR_take rfl (zAa (pv 0) (zAa zAf zAc))) (zAg C_take HR_take rfl (zAa (pv 0) (zAa zAf zAc))))) zAc)) (pgN (i:=6) zC0.nd)
     (zAe (psS (i:=5) zC0.nd (zAk op_add_str (pv 5) (zCh ix_str (pv 2) (zAg C_take HR_take rfl (zAa (pv 0) (zAa zAf zAc))) (λ_ _=>rfl))))))
    (zAb (zB5 (zAo zHn (pv 5) (pv 3) (by rfl))
     (zAe (psS (i:=5) zC0.nd (zCh zBt (zAt rfl (zAz (sc:=zAd zJc) rfl (by decide +kernel)) (Draws.own (x:="_law_letter") (dtk (i:=3) rfl Draws.nil)) (pi_str (pv 2)) (λ_ _ _ _=>(pgB (i:=0))) (λ_ _ _ _=>(zBg (zAo (zJi (K:=K)) (pv 0) (pv 1) (by rfl)))) (λ_ _ _ _=>(pv 0))) zAf (λ_ _=>rfl))))
     zAr)
    (zAe (zA2 (zGv qBR qDY qDZ zEh (pv 3) (zAa (pv 5) zAc))))))))
   (zAe (zAm (pv 3)))))),?_⟩
  refine hid4 ?_;intro _ _ _ _;refine⟨(by walk_at"ln"),λl hl=>?_⟩;have fl:Fre H l:=hl;have npl:p≠l:=by obtain⟨a,b,e,_⟩:=hP;exact ne_fre fl e
  have hP1:zBk (upd H l (.lst [])) p:=hP.kp (M:=[]) (Kp.new Kp.refl fl) (by simp)
  refine⟨_,rfl,_,rfl,by lia,by lia,zB2 (lo:=0) (n:=m.toNat) (λi σ H2=>∃(o4 o5 o6:Option V)(ws:List Str),σ=[some (.ref p),some (.int m),some (.str zEj),some (.ref l),o4,o5,o6]/\zBk H2 p/\Kp [p] H H2/\Txs H2 l ws/\ws.length=i/\ws.Nodup/\∀s∈ws,zIi s)
   ⟨none,none,none,[],rfl,hP1,Kp.new Kp.refl fl,upd_same,rfl,qA5,λs h=>nomatch h⟩ ?_ ?_⟩
  .rintro i σ H2 hi ⟨o4,o5,o6,ws,rfl,P2,K2,R2,e2,n2,q2⟩;refine hid4 ?_;intro _ _ _ _;refine⟨_,rfl,p,2,rfl,P2,by decide,by decide,λd1 H3 a0 a1 P3 K3=>?_⟩;refine⟨_,rfl,p,8,rfl,P3,by decide,by decide,λd2 H4 b0 b1 P4 K4=>?_⟩;have hm0:0<=d1*d2:=Int.mul_nonneg a0 b0
   have hm1:d1*d2<=7:=by
    have:d1*d2<=1*7:=Int.mul_le_mul (by lia) (by lia) b0 (by decide);lia
   have K24:Kp [p] H2 H4:=K3.trans K4
   refine⟨_,_,rfl,rfl,(by walk_at"ml"),_,_,rfl,rfl,_,rfl,by lia,by lia,zB2 (lo:=0) (n:=(1+d1*d2).toNat) (λn σ H7=>∃(o4 o6:Option V)(x:Str),σ=[some (.ref p),some (.int m),some (.str zEj),some (.ref l),o4,some (.str x),o6]/\zBk H7 p/\Kp [p] H2 H7/\WordS n x)
    ⟨_,_,_,rfl,P4,K24,rfl,(λc h=>absurd (show c∈([]:List Nat)from h) (by simp))⟩ ?_ ?_⟩
   .rintro n σ H7 hn ⟨o4,o6,x,rfl,P8,K7,W⟩;refine⟨_,rfl,_,rfl,_,rfl,p,26,rfl,P8,by decide,by decide,λd4 H8 e0 e1 P9 K8=>?_⟩;refine⟨_,_,_,rfl,rfl,by decide,letters_at e0 e1,_,_,rfl,rfl,?_,?_⟩
    .rw [W.1];show n+1<=sizeLine;rw[qAI];lia
    .exact ⟨_,_,_,rfl,P9,K7.trans K8,W.more (by lia) (by lia)⟩
   .rintro σ H7 ⟨o4,o6,x,rfl,P8,K7,W⟩;have h7:Txs H7 l ws:=K7 l _ R2 (nm1 npl.symm);have NX:zIi x:=⟨by have:=W.1;lia,by have:=W.1;lia,W.2⟩;refine⟨_,rfl,_,rfl,_,_,rfl,.inl (SqL.of h7),rfl,zF0 ws,_,rfl,?_⟩;rw[qAB (by decide),zJx];refine if_mid (λσ H8=>∃(y:Str),σ=[some (.ref p),some (.int m),some (.str zEj),some (.ref l),o4,some (.str y),o6]/\Kp [] H7 H8/\zIi y/\y∉ws) (λN hN=>ite2 (λc=>?_) (λc=>?_)) ?_
    .-- _law_word=[..][0]
     refine⟨_,rfl,_,rfl,λB hB=>comp_str (z:=zEj) (λi ys τ H8=>(∃o0,τ=[o0,some (.ref l)])/\ys=((zBs.take i).filter λx=>decide (x∉ws)).map V.str/\H8=upd H7 B (.lst ys)) ⟨⟨_,rfl⟩,rfl,rfl⟩ ?_ ?_⟩
     .rintro i c ys τ H8 hc ⟨⟨o0,rfl⟩,rfl,rfl⟩;have en:zBs[i]?=some ⟨#[c]⟩:=by unfold zBs;rw[qAZ,hc];rfl
      refine⟨_,rfl,_,rfl,_,_,rfl,.inl (SqL.of ((upd_ne (ne_fre (show Fre H7 B from hB) h7)).trans h7)),rfl,zF0 ws,_,rfl,?_⟩;rw[qAC rfl,zJx]
      have ed:(!decide ((⟨#[c]⟩:Str)∈ws))=decide ((⟨#[c]⟩:Str)∉ws):=by
       by_cases z:(⟨#[c]⟩:Str)∈ws
       .simp [z]
       .simp [z]
      rw[ed];refine ite2 (λc=>?_) (λc=>?_)
      .refine ⟨_,rfl,upd_same,?_,⟨_,rfl⟩,?_,zAx⟩
       .rw [qAD];exact zEu (by rw[zE3];decide)
       .rw [zDv (p:=λx=>decide (x∉ws)) en c,qAN];rfl
      .refine ⟨⟨_,rfl⟩,?_,?_⟩
       .rw [zFd (p:=λx=>decide (x∉ws)) en c]
       .rfl
     .rintro ys τ H8 ⟨_,rfl,rfl⟩;have eT:zBs.take zEj.length=zBs:=qBc (by rw[zE3];decide);rw[eT];have hne:=some_single (found:=ws) (by lia)
      have hmm:∀y,y∈(zBs.filter λx=>decide (x∉ws))->zIi y/\y∉ws:=λy hy=>by
       have:=qAQ.mp hy;exact⟨single_ok this.1,qAo this.2⟩
      generalize (zBs.filter λx=>decide (x∉ws))=L at hne hmm
      obtain⟨y,r,rfl⟩:∃y r,L=y::r:=by
       cases L with
       |nil=>exact absurd rfl hne
       |cons y r=>exact⟨y,r,rfl⟩
      refine⟨_,_,_,.str y,rfl,rfl,SqL.of upd_same,zDe (by decide) rfl,?_⟩;exact hN _ _ ⟨y,rfl,Kp.new Kp.refl hB,(hmm y qAY).1,(hmm y qAY).2⟩
    .exact hN _ _ ⟨x,rfl,Kp.refl,NX,λz=>c (qAS z)⟩
    .rintro σ H8 ⟨y,rfl,K8,NY,ny⟩;have h8:Txs H8 l ws:=K8 l _ h7 (by simp);refine⟨_,rfl,.inl ⟨rfl,_,SqL.of h8⟩,_,rfl,_,_,_,rfl,rfl,h8,?_,?_⟩
     .rw [qAI,qAD];lia
     .refine ⟨_,_,_,ws++[y],rfl,(P8.kp K8 (by simp)).kp (M:=[l]) (Kp.put Kp.refl (by simp)) (nm1 npl),Kp.new (K2.trans (K7.trans (K8.weak (by simp)))) fl,?_,by simp[e2],?_,λs hs=>?_⟩
      .show upd H8 l _ l=some (.lst ((ws++[y]).map V.str));rw[upd_same,qAN];rfl
      .refine qBX.mpr ⟨n2,by simp,λa ha b hb=>?_⟩;rw[qAP.mp hb];rintro rfl;exact ny ha
      .rcases qAT.mp hs with z|z
       .exact q2 s z
       .rw [qAP.mp z];exact NY
  .rintro σ H2 ⟨o4,o5,o6,ws,rfl,P2,K2,R2,e2,n2,q2⟩;exact⟨_,rfl,k l ws H2 fl R2 e2 n2 q2 P2 K2⟩
end
structure ITs(H:Hp)(l:Addr)(ts:List ((Int×Int)×Addr)):Prop where
 top:H l=some (.lst (ts.map λt=>V.ref t.2))
 row:∀t∈ts,H t.2=some (.tup [.int t.1.1,.int t.1.2])
theorem ITs.kp{M:List Addr}{l:Addr}{ts:List ((Int×Int)×Addr)}(I:ITs H l ts)(k:Kp M H H')(h1:l∉M)(h2:∀t∈ts,t.2∉M):ITs H' l ts:=⟨k l _ I.top h1,λt ht=>k _ _ (I.row t ht) (h2 t ht)⟩
theorem tri_step(i:Nat):i*(i+1)+2*(i+1)=(i+1)*(i+2):=by
 rw[<-Nat.add_mul,Nat.mul_comm]
theorem inV12(w:Int):inV (.int w) [.int 1,.int 2]=(decide (w=1)||decide (w=2)):=by
 show((1==w)||((2==w)||false))=_
 by_cases h1:w=1
 .subst h1;rfl
 .by_cases h2:w=2
  .subst h2;rfl
  .rw [qAa h1,qAa h2,qBD.mpr (qAj h1),qBD.mpr (qAj h2)];rfl
def PairsOk(m:Int)(ts:List ((Int×Int)×Addr)):Prop:=∀t∈ts,0<=t.1.1/\t.1.1<t.1.2/\t.1.2<m
theorem newO{a:Addr}{o:HO}(h:H a=none):∃H',upd H a o=H'/\Kp [] H H'/\H' a=some o:=⟨_,rfl,Kp.new Kp.refl h,upd_same⟩
structure PB(H0:Hp)(p l:Addr)(m:Int)(H:Hp)(ts:List ((Int×Int)×Addr)):Prop where
 pu:zBk H p
 kp:Kp [p] H0 H
 it:ITs H l ts
 fr:∀t∈ts,Fre H0 t.2
 ok:PairsOk m ts
 pl:p≠l
 fl:Fre H0 l
section
variable{H0 H H':Hp}{p l t:Addr}{m a b:Int}{ts:List ((Int×Int)×Addr)}(B:PB H0 p l m H ts)
include B
theorem PB.go(k:Kp [p] H H')(P:zBk H' p):PB H0 p l m H' ts:=⟨P,B.kp.trans k,B.it.kp k (nm1 B.pl.symm) λt ht=>nm1 (by obtain⟨x,y,e,_⟩:=B.pu;exact zB8 (B.it.row t ht) e (λz=>nomatch z)),B.fr,B.ok,B.pl,B.fl⟩
theorem PB.go0(k:Kp [] H H'):PB H0 p l m H' ts:=B.go k.of0 (B.pu.kp k (by simp))
theorem PB.fre(f:H t=none):Fre H0 t:=B.kp.fre f (nm1 (by obtain⟨x,y,e,_⟩:=B.pu;exact(ne_fre f e).symm))
theorem PB.add(ht:H t=some (.tup [.int a,.int b]))(ft:Fre H0 t)(h1:0<=a)(h2:a<b)(h3:b<m):PB H0 p l m (upd H l (.lst (ts.map (λt=>V.ref t.2)++[.ref t]))) (ts++[((a,b),t)]):=by
 have g:∀q∈ts++[((a,b),t)],H q.2=some (.tup [.int q.1.1,.int q.1.2])/\Fre H0 q.2/\0<=q.1.1/\q.1.1<q.1.2/\q.1.2<m:=λq hq=>by
  rcases qAT.mp hq with z|z
  .exact ⟨B.it.row q z,B.fr q z,B.ok q z⟩
  .rw [qAP.mp z];exact⟨ht,ft,h1,h2,h3⟩
 exact⟨B.pu.kp (M:=[l]) (Kp.put Kp.refl (by simp)) (nm1 B.pl),Kp.new B.kp B.fl,⟨by rw[upd_same,qAN];rfl,λq hq=>(upd_ne (zB8 (g q hq).1 B.it.top (λy=>nomatch y))).trans (g q hq).1⟩,λq hq=>(g q hq).2.1,λq hq=>(g q hq).2.2,B.pl,B.fl⟩
theorem PB.ext(c:Bool)(ht:H t=some (.tup [.int a,.int b]))(ft:Fre H0 t)(h:c=true->0<=a/\a<b/\b<m):∃ts1,PB H0 p l m (upd H l (.lst (ts.map (λt=>V.ref t.2)++(List.replicate (if c=true then(1:Int)else 0).toNat [V.ref t]).flatten))) ts1/\ts1.length<=ts.length+1:=by
 cases c with
 |true=>exact⟨_,B.add ht ft (h rfl).1 (h rfl).2.1 (h rfl).2.2,by rw[qAl];exact qAF _⟩
 |false=>
  refine⟨ts,?_,qBq _⟩;show PB H0 p l m (upd H l (.lst (ts.map (λt=>V.ref t.2)++[]))) ts;rw[qA9];exact⟨B.pu.kp (M:=[l]) (Kp.put Kp.refl (by simp)) (nm1 B.pl),Kp.new B.kp B.fl,⟨upd_same,λq hq=>(upd_ne (zB8 (B.it.row q hq) B.it.top (λy=>nomatch y))).trans (B.it.row q hq)⟩,B.fr,B.ok,B.pl,B.fl⟩
end
section
def spLPairs:Sp:=λvs H Q _=>∃(p:Addr)(m way thin:Int),vs=[.ref p,.int m,.int way,.int thin]/\zBk H p/\0<=m/\m<=9/\2<=thin/\thin<=12/\∀(l:Addr) (ts:List ((Int×Int)×Addr)) (H':Hp),Fre H l->ITs H' l ts->(∀t∈ts,Fre H t.2)->ts.length<=36->PairsOk m ts->zBk H' p->Kp [p] H H'->Q (.ref l) H'
abbrev s_pairs:Stmt:=top 58
theorem zCz:FnScope ["_law_purse_here","_law_many","_law_way","_law_thin","_law_pairs_here","_law_j","_law_far","_law_i","_law_near"] ["_law_purse_here","_law_many","_law_way","_law_thin"] (zAd s_pairs):=fnS
theorem ok_pairs(F:Fun K "_law_pairs" "_law_pairs" s_pairs f fd)(T:Txt K mg)(C_take:Cal P w K mg base "_law_take" 1 ["_law_purse_here","_law_many"] zHc):FnOk P w K mg base CX0 2 f fd ["_law_purse_here","_law_many","_law_way","_law_thin"] spLPairs:=by
 refine F.ok zCz (λvs H Q E h=>?_) (λcdv A outer s H vs Q E hr h=>?_)
 .obtain ⟨p,m,way,thin,rfl,_⟩:=h;rfl
 .obtain ⟨p,m,way,thin,rfl,hP,h0,h1,t0,t1,k⟩:=h;have HR_take:=hr
  refine⟨_,(zAb (psS (i:=4) zCz.nd (zBv zAc)) (zAb (zA1 qAg rfl (pi_range2 rfl T.z_range (zAa zAf (zAa (pv 1) zAc))) (pgN (i:=5) zCz.nd)
    (zAb (psS (i:=6) zCz.nd zAf)
    (zAb (zB5 (zAo zHo (pv 2) zAf (zAq _))
     (zAb (psS (i:=6) zCz.nd (zAg C_take HR_take rfl (zAa (pv 0) (zAa (zAk zBn (zAk zCt (pv 1) (pv 5)) zAf) zAc))))
     (zAe (zA2 (zGv qBR qDc qDd zFt (pv 4) (zAa (zAk op_rep (zBv (zAa (zGo (zAa (zAk zCt (pv 5) zAf) (zAa (zAk zBn (zAk zCt (pv 5) zAf) (pv 6)) zAc))) zAc)) (zAv zEm (by rfl) T.z_int zI2 (zAa (zCi op_gt (pv 6) zAf (zAq _)) zAc))) zAc)))))
     zAr)
    (zAb (zB5 (zAo zHo (pv 2) zAf (zAq _))
     (zAb (psS (i:=6) zCz.nd (zAg C_take HR_take rfl (zAa (pv 0) (zAa (zAk zBn (pv 5) zAf) zAc))))
     (zAe (zA2 (zGv qBR qDc qDd zFt (pv 4) (zAa (zAk op_rep (zBv (zAa (zGo (zAa (zAk zCt (pv 5) (pv 6)) (zAa (pv 5) zAc))) zAc)) (zAv zEm (by rfl) T.z_int zI2 (zAa (zCi op_gt (pv 6) zAf (zAq _)) zAc))) zAc)))))
     zAr)
    (zAe (zA1 qAg rfl (zBm rfl T.z_range (zAa (zAk zD3 (pv 5) (zAv zEm (by rfl) T.z_int zI2 (zAa (zCi zGp (pv 2) (zBv (zAa zAf (zAa zAf zAc))) (by rfl)) zAc))) zAc)) (pgN (i:=7) zCz.nd)
     (zAb (psS (i:=8) zCz.nd (pe_or (zCi op_ne (pv 2) zAf (zAq _)) (pe_one (zCi zHo (zAk zBn (zAk op_fdiv (pv 7) (pv 3)) zAf) (zAk op_fdiv (pv 5) (pv 3)) (zAq _)))))
     (zAe (zB5 (PW.pt (zIr (zC4 (pv 8)) (zGa (zAo zHo (zCi zHo (zAg C_take HR_take rfl (zAa (pv 0) (zAa (pv 3) zAc))) zAf (zAq _)) (zCi op_ne (pv 2) zAf (zAq _)) (zAq _)))))
      (zAe (zA2 (zGv qBR qDY qDZ zEh (pv 4) (zAa (zGo (zAa (pv 7) (zAa (pv 5) zAc))) zAc))))
      zAr)))))))))
   (zAe (zAm (pv 4))))),?_⟩
  refine hid3 ?_;intro _ _ _;refine⟨(by walk_at"ln"),λl hl=>?_⟩;have npl:p≠l:=by obtain⟨a,b,e,_⟩:=hP;exact ne_fre hl e
  have Kl:∀{M},Kp M H (upd H l (.lst [])):=Kp.new Kp.refl hl
  refine⟨_,rfl,_,_,rfl,⟨by decide,by decide,by lia,by lia⟩,zB2 (lo:=1) (n:=(m-1).toNat) (λi σ H2=>∃(o5 o6 o7 o8:Option V) (ts:List ((Int×Int)×Addr)),σ=[some (.ref p),some (.int m),some (.int way),some (.int thin),some (.ref l),o5,o6,o7,o8]/\PB H p l m H2 ts/\ts.length*2<=i*(i+1)) ⟨none,none,none,none,[],rfl,⟨hP.kp (Kl (M:=[])) (by simp),Kl,⟨upd_same,(λt h=>nomatch h)⟩,(λt h=>nomatch h),(λt h=>nomatch h),npl,hl⟩,qAd _⟩ ?_ ?_⟩
  .rintro i σ H2 hi ⟨o5,o6,o7,o8,ts,rfl,B,e2⟩;refine hid4 ?_;intro _ _ _ _;have hi19:i<=18:=by lia
   have hle:ts.length*2<=8*9:=qAL e2 (Nat.mul_le_mul (by lia) (by lia));refine⟨_,rfl,rfl,_,rfl,if_mid (λσ H3=>∃(v6:Int) (ts1:List ((Int×Int)×Addr)),σ=[some (.ref p),some (.int m),some (.int way),some (.int thin),some (.ref l),some (.int (1+(i:Int))),some (.int v6),o7,o8]/\PB H p l m H3 ts1/\ts1.length<=ts.length+1/\(way≠1->ts1.length<=ts.length)) (λN hN=>ite2 (λc=>?_) (λc=>hN _ _ ⟨0,ts,rfl,B,qBq _,λ_=>qAF _⟩)) ?_⟩
   .have cw:way=1:=by simpa using c
    refine⟨_,rfl,_,rfl,_,rfl,_,_,rfl,rfl,_,_,rfl,rfl,p,m-(1+(i:Int))+1,rfl,B.pu,by lia,by lia,λd H3 d0 d1 P3 K3=>?_⟩;have B:=B.go K3 P3;refine⟨_,rfl,.inl ⟨rfl,_,SqL.of B.it.top⟩,_,rfl,_,_,rfl,rfl,_,rfl,_,_,rfl,rfl,_,rfl,_,_,rfl,rfl,(by walk_at"ln"),λt ht=>?_⟩;have ft:=B.fre ht;obtain⟨H4,e4,k4,h4⟩:=newO (o:=.tup [.int (1+(i:Int)-1),.int (1+(i:Int)-1+d)]) ht;rw[e4];refine⟨(by walk_at"ln"),λq hq=>?_⟩;obtain⟨H5,e5,k5,h5⟩:=newO (o:=.lst [.ref t]) hq;rw[e5];refine⟨_,rfl,_,_,rfl,rfl,.inr ⟨_,rfl,_,_,_,rfl,rfl,h5,by split<;>decide,by split<;>decide,by rw[qAI];show 1*_<=_;split<;>decide,λr hr'=>?_⟩⟩;obtain⟨H6,e6,k6,h6⟩:=newO (o:=.lst (List.replicate (if decide (0<d)=true then(1:Int)else 0).toNat [V.ref t]).flatten) hr';rw[e6];have B:=(B.go0 k4).go0 (k5.trans k6);obtain⟨ts2,B2,l2⟩:=B.ext (decide (0<d)) ((k5.trans k6) _ _ h4 (by simp)) ft λz=>by have:=qAo z;lia
    refine⟨_,_,_,_,rfl,rfl,B.it.top,h6,?_,hN _ _ ⟨d,ts2,rfl,B2,by lia,λz=>absurd cw z⟩⟩;rw[qAD,len_rep,qAI];have:(if decide (0<d)=true then(1:Int)else 0).toNat<=1:=by split<;>decide
    simp only[qAc,qBV];lia
   .rintro σ H4 ⟨v6,ts1,rfl,B,e3,e4⟩;refine⟨_,rfl,rfl,_,rfl,if_mid (λσ H3=>∃(v6:Int) (ts2:List ((Int×Int)×Addr)),σ=[some (.ref p),some (.int m),some (.int way),some (.int thin),some (.ref l),some (.int (1+(i:Int))),some (.int v6),o7,o8]/\PB H p l m H3 ts2/\ts2.length<=ts.length+1/\(way≠1->way≠2->ts2.length<=ts.length)) (λN hN=>ite2 (λc=>?_) (λc=>hN _ _ ⟨v6,ts1,rfl,B,e3,λz _=>e4 z⟩)) ?_⟩
    .have cw:way=2:=by simpa using c
     have e5:=e4 (by lia);refine⟨_,rfl,_,rfl,_,_,rfl,rfl,p,1+(i:Int)+1,rfl,B.pu,by lia,by lia,λd H3 d0 d1 P3 K3=>?_⟩;have B:=B.go K3 P3;refine⟨_,rfl,.inl ⟨rfl,_,SqL.of B.it.top⟩,_,rfl,_,rfl,_,_,rfl,rfl,_,rfl,(by walk_at"ln"),λt ht=>?_⟩;have ft:=B.fre ht;obtain⟨H4,e4,k4,h4⟩:=newO (o:=.tup [.int (1+(i:Int)-d),.int (1+(i:Int))]) ht;rw[e4];refine⟨(by walk_at"ln"),λq hq=>?_⟩;obtain⟨H5,e5,k5,h5⟩:=newO (o:=.lst [.ref t]) hq;rw[e5];refine⟨_,rfl,_,_,rfl,rfl,.inr ⟨_,rfl,_,_,_,rfl,rfl,h5,by split<;>decide,by split<;>decide,by rw[qAI];show 1*_<=_;split<;>decide,λr hr'=>?_⟩⟩;obtain⟨H6,e6,k6,h6⟩:=newO (o:=.lst (List.replicate (if decide (0<d)=true then(1:Int)else 0).toNat [V.ref t]).flatten) hr';rw[e6];have B:=(B.go0 k4).go0 (k5.trans k6);obtain⟨ts2,B2,l2⟩:=B.ext (decide (0<d)) ((k5.trans k6) _ _ h4 (by simp)) ft λz=>by have:=qAo z;lia
     refine⟨_,_,_,_,rfl,rfl,B.it.top,h6,?_,hN _ _ ⟨d,ts2,rfl,B2,by lia,λ_ z=>absurd cw z⟩⟩;rw[qAD,len_rep,qAI];have:(if decide (0<d)=true then(1:Int)else 0).toNat<=1:=by split<;>decide
     simp only[qAc,qBV];lia
    .rintro σ H5 ⟨v6,ts2,rfl,B,e5,e6⟩;refine⟨_,rfl,_,rfl,(by walk_at"ln"),λb hb=>?_⟩;obtain⟨H6,e7,k6,h6⟩:=newO (o:=.lst [.int 1,.int 2]) hb;rw[e7];refine⟨_,_,rfl,.inl (SqL.of h6),rfl,rfl,.inr ⟨_,rfl,?_⟩⟩;rw[qAC rfl,inV12]
     have hb2:(if(!(decide (way=1)||decide (way=2)))=true then(1:Int)else 0)=0\/((if(!(decide (way=1)||decide (way=2)))=true then(1:Int)else 0)=1/\way≠1/\way≠2):=by
      by_cases z:way=1
      .left;simp[z]
      .by_cases y:way=2
       .left;simp[y]
       .right;simp[z,y]
     generalize (if(!(decide (way=1)||decide (way=2)))=true then(1:Int)else 0)=nn at hb2 ⊢;have hm:(1+(i:Int))*nn=0\/((1+(i:Int))*nn=1+i/\ts2.length<=ts.length):=hb2.imp (λz=>by rw[z];lia) λ⟨z,y,x⟩=>⟨by rw[z];lia,e6 y x⟩;refine⟨_,_,rfl,rfl,.inl ⟨by lia,by lia⟩,_,rfl,by lia,by lia,zB2 (lo:=0) (n:=((1+(i:Int))*nn).toNat) (λa σ H6=>∃(o7 o8:Option V) (ts3:List ((Int×Int)×Addr)),σ=[some (.ref p),some (.int m),some (.int way),some (.int thin),some (.ref l),some (.int (1+(i:Int))),some (.int v6),o7,o8]/\PB H p l m H6 ts3/\ts3.length<=ts2.length+a) ⟨_,_,ts2,rfl,B.go0 k6,qAF _⟩ ?_ ?_⟩
     .rintro a σ H7 ha ⟨o7',o8',ts3,rfl,B,e8⟩;refine hid2 ?_;intro _ _;have ha':(a:Int)<1+i:=by lia
      refine seq_mid (λσ H8=>∃bN:Bool,σ=[some (.ref p),some (.int m),some (.int way),some (.int thin),some (.ref l),some (.int (1+(i:Int))),some (.int v6),some (.int (0+(a:Int))),some (.bl bN)]/\H8=H7) (λN hN=>⟨_,rfl,rfl,_,rfl,ite2 (λc=>hN _ _ ⟨true,rfl,rfl⟩) (λc=>⟨_,rfl,_,rfl,_,_,rfl,rfl,⟨by lia,by lia⟩,_,_,rfl,rfl,_,rfl,_,rfl,_,_,rfl,rfl,⟨by lia,by lia⟩,rfl,hN _ _ ⟨_,rfl,rfl⟩⟩)⟩) ?_;rintro σ H8 ⟨bN,rfl,rfl⟩;refine⟨_,rfl,_,rfl,ite2 (λc=>⟨_,rfl,_,rfl,p,thin,rfl,B.pu,by lia,by lia,λd H9 d0 d1 P9 K9=>?_⟩) (λc=>⟨_,_,ts3,rfl,B,by lia⟩)⟩;have B:=B.go K9 P9;refine⟨rfl,_,rfl,rfl,rfl,_,rfl,ite2 (λc=>⟨_,rfl,.inl ⟨rfl,_,SqL.of B.it.top⟩,_,rfl,_,rfl,(by walk_at"ln"),λt ht=>?_⟩) (λc=>⟨_,_,ts3,rfl,B,by lia⟩)⟩;have ft:=B.fre ht;obtain⟨H10,e10,k10,h10⟩:=newO (o:=.tup [.int (0+(a:Int)),.int (1+(i:Int))]) ht;rw[e10];have B:=B.go0 k10;refine⟨_,_,_,rfl,rfl,B.it.top,by rw[qAD,qAI];lia,_,_,_,rfl,B.add h10 ft (by lia) (by lia) (by lia),?_⟩;rw[qAl];simp only[qAc,qBV];lia
     .rintro σ H7 ⟨o7',o8',ts3,rfl,B,e8⟩;refine⟨_,_,_,_,ts3,rfl,B,?_⟩;have:=tri_step i;show _<=(i+1)*(i+2);rw[<-this];lia
  .rintro σ H2 ⟨o5,o6,o7,o8,ts,rfl,B,e2⟩;have hle:(m-1).toNat*((m-1).toNat+1)<=8*9:=Nat.mul_le_mul (by lia) (by lia);exact⟨_,rfl,k l ts H2 B.fl B.it B.fr (by lia) B.ok B.pu B.kp⟩
end
theorem zFy{α:Type}[BEq α][LawfulBEq α]:∀{L:List α}{i:Nat}{x:α},L.Nodup->L[i]?=some x->L.idxOf x=i
 |[],i,x,_,h=>by simp at h
 |y::L,0,x,_,h=>by
  have:y=x:=qAe h;subst this;simp
 |y::L,i+1,x,hn,h=>by
  rw[qCr]at h;obtain⟨h1,h2⟩:=qA0.mp hn;have hne:y≠x:=λz=>h1 (z▸qAJ h);rw[List.idxOf_cons,qBD.mpr hne];show L.idxOf x+1=i+1;rw[zFy h2 h]
theorem map_nodup{α β:Type}{f:α->β}:∀{L:List α},L.Nodup->(∀a∈L,∀b∈L,f a=f b->a=b)->(L.map f).Nodup
 |[],_,_=>qA5
 |x::L,h,hi=>by
  obtain⟨h1,h2⟩:=qA0.mp h;rw[qAk];refine qA0.mpr ⟨λz=>?_,map_nodup h2 λa ha b hb=>hi a (qAU _ ha) b (qAU _ hb)⟩;obtain⟨y,hy,e⟩:=qAW.mp z;rw[hi y (qAU _ hy) x qAY e]at hy;exact h1 hy
theorem zFb{K:PySem.W.Frag}{c e:Addr}{xs:List V}{Q:VK}(h1:SqL K H c xs)(h2:SqL K H e [])(h:∀bb:Bool,(bb=true->xs≠[])->Q (.bl bb) H):rAlike K 8 false (.ref c) (.ref e) H Q\/rUnlen K true (.ref c) (.ref e) H Q:=by
 by_cases z:xs=[]
 .subst z;exact .inl ⟨c,e,_,_,rfl,rfl,h1,h2,rfl,(λi x y h=>by simp at h),h false (λz=>nomatch z)⟩
 .refine .inr ⟨c,e,_,_,rfl,rfl,h1,h2,λy=>z (qCT.mp y),h true λ_=>z⟩
structure Spots(Is:List Int)(m:Nat):Prop where
 len:Is.length=m
 nd:Is.Nodup
 lt:∀x∈Is,0<=x/\x<m
theorem Spots.put{Is:List Int}{m:Nat}(S:Spots Is m)(d:Nat):Spots (Is.take d++(m:Int)::Is.drop d) (m+1):=by
 have hp:=ST.ins_perm Is d (m:Int);refine⟨by rw[hp.length_eq,qAc,S.len],hp.nodup_iff.mpr (qA0.mpr ⟨λz=>?_,S.nd⟩),λx hx=>?_⟩
 .have:=(S.lt _ z).2;lia
 .rcases qAM.mp (hp.mem_iff.mp hx)with z|z
  .subst z;lia
  .have:=S.lt x z;lia
def rowOf(ns:List Str)(Is:List Int):List Str:=Is.map λk=>ns.getD k.toNat Str.empty
theorem rowOf_nd{Is:List Int}(hn:ns.Nodup)(S:Spots Is ns.length):(rowOf ns Is).Nodup:=by
 refine map_nodup S.nd λa ha b hb e=>?_;have h1:=S.lt a ha;have h2:=S.lt b hb;have e1:ns.getD a.toNat Str.empty=ns[a.toNat]'(by lia):=by rw[qAr,qAV (by lia)];rfl
 have e2:ns.getD b.toNat Str.empty=ns[b.toNat]'(by lia):=by rw[qAr,qAV (by lia)];rfl
 rw[e1,e2]at e;have:=(List.getElem_inj hn).mp e;lia
theorem rowOf_at{Is:List Int}(S:Spots Is ns.length){i:Int}(h0:0<=i)(h1:i<ns.length):∃s n,Is[i.toNat]?=some s/\0<=s/\ns[s.toNat]?=some n/\(rowOf ns Is)[i.toNat]?=some n:=by
 have hi:i.toNat<Is.length:=by rw[S.len];lia
 have hs:=S.lt Is[i.toNat] (qBl hi);have hs':Is[i.toNat].toNat<ns.length:=by lia
 refine⟨Is[i.toNat],ns[Is[i.toNat].toNat],qAV hi,hs.1,qAV hs',?_⟩;unfold rowOf;rw[qAZ,qAV hi];show some (ns.getD _ _)=_;rw[qAr,qAV hs'];rfl
theorem ins_map{α β:Type}(f:α->β)(L:List α)(d:Nat)(x:α):(L.map f).take d++f x::(L.map f).drop d=(L.take d++x::L.drop d).map f:=by
 rw[qAN,qAk,qDO,List.map_drop]
theorem it_at{ts:List ((Int×Int)×Addr)}{i:Nat}{v:V}(h:(ts.map λq=>V.ref q.2)[i]?=some v):∃q,ts[i]?=some q/\v= .ref q.2:=by
 rw[qAZ]at h;obtain⟨n,e,r⟩:=qBH.mp h;exact⟨n,e,r.symm⟩
section
def spLJobs:Sp:=λvs H Q _=>∃(p:Addr)(mo:Int),vs=[.ref p,.int mo]/\0<=mo/\mo<=9/\zBk H p/\∀(t l m:Addr)(ns:List Str) (qs:List (List Str×Addr)) (r:Str->Nat) (H':Hp),(ns.length:Int)<=mo->qs.length<=38->H' t=some (.tup [.ref l,.ref m])->Fre H t->Fre H l->Fre H m->(∀q∈qs,Fre H q.2)->Txs H' l ns->Ords H' m qs->Good ns qs r->zBk H' p->Kp [p] H H'->Q (.ref t) H'
abbrev s_jobs:Stmt:=top 59
theorem zDk:FnScope ["_law_purse_here","_law_most","_law_many","_law_names_here","_law_way","_law_thin","_law_pairs_here","_law_k","_law_spots"] ["_law_purse_here","_law_most"] (zAd s_jobs):=fnS
theorem ok_jobs(F:Fun K "_law_jobs" "_law_jobs" s_jobs f fd)(T:Txt K mg)(C_take:Cal P w K mg base "_law_take" 1 ["_law_purse_here","_law_many"] zHc)(C_names:Cal P w K mg base "_law_names" 2 ["_law_purse_here","_law_many"] spLNames)
  (C_pairs:Cal P w K mg base "_law_pairs" 2 ["_law_purse_here","_law_many","_law_way","_law_thin"] spLPairs):FnOk P w K mg base CX0 3 f fd ["_law_purse_here","_law_most"] spLJobs:=by
 refine F.ok zDk (λvs H Q E h=>?_) (λcdv A outer s H vs Q E hr h=>?_)
 .obtain ⟨p,mo,rfl,_⟩:=h;rfl
 .obtain ⟨p,mo,rfl,mo0,mo1,hP,k⟩:=h;have HR_names:=hr;have HR_pairs:=hr;have HR_take:=hr.mono (j:=1) (by decide)
  refine⟨_,(zAb (psS (i:=2) zDk.nd (zAg C_take HR_take rfl (zAa (pv 0) (zAa (zAk zBn (pv 1) zAf) zAc)))) (zAb (psS (i:=3) zDk.nd (zAg C_names HR_names rfl (zAa (pv 0) (zAa (pv 2) zAc))))
   (zAb (psS (i:=4) zDk.nd (zAg C_take HR_take rfl (zAa (pv 0) (zAa zAf zAc))))
   (zAb (psS (i:=5) zDk.nd (zCh zBt (zBv (zAa zAf (zAa zAf (zAa zAf (zAa zAf (zAa zAf zAc)))))) (zAg C_take HR_take rfl (zAa (pv 0) (zAa zAf zAc))) (fun _ _=>rfl)))
   (zAb (psS (i:=6) zDk.nd (zAg C_pairs HR_pairs rfl (zAa (pv 0) (zAa (pv 2) (zAa (pv 4) (zAa (pv 5) zAc))))))
   (zAb (zA1 qAg rfl (zBm rfl T.z_range (zAa (zAk zD3 (zAv zEm (by rfl) T.z_int zI2 (zAa (zCi (zJj HR_take) (pv 6) (zBv zAc) (zAq _)) zAc)) (zAg C_take HR_take rfl (zAa (pv 0) (zAa zAf zAc)))) zAc)) (pgN (i:=7) zDk.nd)
    (zAe (zA2 (zGv qBR qD1 qD2 zHs (pv 6) (zAa (zAg C_take HR_take rfl (zAa (pv 0) (zAa (zAk zBn (zAi zAl (by rfl) T.z_len zBw (zAa (pv 6) zAc)) zAf) zAc))) (zAa (zCh zBt (pv 6) (zAg C_take HR_take rfl (zAa (pv 0) (zAa (zAi zAl (by rfl) T.z_len zBw (zAa (pv 6) zAc)) zAc))) (λ_ _=>rfl)) zAc))))))
   (zAb (psS (i:=8) zDk.nd (zBv zAc))
   (zAb (zA1 qAg rfl (zBm rfl T.z_range (zAa (pv 2) zAc)) (pgN (i:=7) zDk.nd)
    (zAe (zA2 (zGv qBR qD1 qD2 zHs (pv 8) (zAa (zAg C_take HR_take rfl (zAa (pv 0) (zAa (zAk zBn (pv 7) zAf) zAc))) (zAa (pv 7) zAc))))))
   (zAe (zAm (zGo (zAa (pv 3) (zAa (zAt rfl (zAz (sc:=zAd s_jobs) rfl (by decide +kernel)) (Draws.own (x:="_law_i") (Draws.own (x:="_law_j") (dtk (i:=3) rfl (dtk (i:=8) rfl Draws.nil)))) (zAj (pv 6)) (λ_ _ _ _=>(pg_tupK (K:=K) (n:=2) rfl (zA7 (pgB (i:=0)) (zA7 (pgB (i:=1)) zEf)))) (λ_ _ _ _=>zBl) (λ_ _ _ _=>(zGo (zAa (zCh (zC5 (K:=K)) (pv 2) (zCh (zC5 (K:=K)) (pv 3) (pv 0) (λ_ _=>rfl)) (λ_ _=>rfl)) (zAa (zCh (zC5 (K:=K)) (pv 2) (zCh (zC5 (K:=K)) (pv 3) (pv 1) (λ_ _=>rfl)) (λ_ _=>rfl)) zAc))))) zAc))))))))))))),?_⟩
  refine hid9 ?_;intro _ _ _ _ _ _ _ _ _;refine⟨_,rfl,_,rfl,_,_,rfl,rfl,p,mo+1,rfl,hP,by lia,by lia,λm H1 m0 m1 P1 K1=>?_⟩;refine⟨_,rfl,_,rfl,p,m,rfl,P1,m0,by lia,λl ns H2 fl hl en nd nm P2 K2=>?_⟩;have npl:p≠l:=by obtain⟨a,b,e,_⟩:=P1;exact ne_fre fl e
  refine⟨_,rfl,p,6,rfl,P2,by decide,by decide,λway H3 w0 w1 P3 K3=>?_⟩;refine⟨(by walk_at"ln"),λb hb=>?_⟩;have fb:Fre H3 b:=hb;have npb:p≠b:=by obtain⟨x,y,e,_⟩:=P3;exact ne_fre fb e
  refine⟨_,rfl,p,5,rfl,P3.kp (M:=[]) (Kp.new Kp.refl fb) (by simp),by decide,by decide,λd H4 d0 d1 P4 K4=>?_⟩
  obtain⟨th,hth,th2,th12⟩:∃th:Int,([V.int 2,.int 3,.int 4,.int 6,.int 12])[d.toNat]?=some (.int th)/\2<=th/\th<=12:=by
   have:d=0\/d=1\/d=2\/d=3\/d=4:=by lia
   rcases this with rfl|rfl|rfl|rfl|rfl
   .exact ⟨2,rfl,by decide,by decide⟩
   .exact ⟨3,rfl,by decide,by decide⟩
   .exact ⟨4,rfl,by decide,by decide⟩
   .exact ⟨6,rfl,by decide,by decide⟩
   .exact ⟨12,rfl,by decide,by decide⟩
  refine⟨_,_,_,.int th,rfl,rfl,SqL.of (K4 b _ upd_same (nm1 npb.symm)),zDe d0 hth,?_⟩;have K34:Kp [p] H3 H4:=Kp.trans (Kp.new Kp.refl fb) K4;have K14:Kp [p] H1 H4:=K2.trans (K3.trans K34);have hl4:Txs H4 l ns:=(K3.trans K34) l _ hl (nm1 npl.symm);refine⟨_,rfl,_,rfl,_,rfl,_,rfl,p,m,way,th,rfl,P4,m0,by lia,th2,th12,λc ts H5 fc I5 ft5 tl5 ok5 P5 K5=>?_⟩;have npc:p≠c:=by obtain⟨x,y,e,_⟩:=P4;exact ne_fre fc e
  have hl5:Txs H5 l ns:=K5 l _ hl4 (nm1 npl.symm);have nlc:l≠c:=ne_fre fc hl4;have K05:Kp [p] H H5:=K1.trans (K14.trans K5);have fcH:Fre H c:=(K1.trans K14).fre fc (nm1 npc.symm);have flH:Fre H l:=K1.fre fl (nm1 npl.symm);refine⟨_,rfl,(by walk_at"ln"),λe he=>?_⟩;have fe:Fre H5 e:=he;have npe:p≠e:=by obtain⟨x,y,q,_⟩:=P5;exact ne_fre fe q
  have k5e:Kp [] H5 (upd H5 e (.lst [])):=Kp.new Kp.refl fe;have I5e:=I5.kp k5e (by simp) (by simp);refine zFb (xs:=ts.map λt=>V.ref t.2) (SqL.of I5e.top) (SqL.of upd_same) λbb hbb=>?_;refine .inr ⟨bb,rfl,?_⟩;refine⟨_,rfl,p,3,rfl,P5.kp k5e (by simp),by decide,by decide,λdd H6 dd0 dd1 P6 K6=>?_⟩;have K56:Kp [p] H5 H6:=Kp.trans (k5e.weak (by simp)) K6;have ntp:∀t∈ts,t.2∉[p]:=λt ht=>nm1 (by obtain⟨x,y,q,_⟩:=P4;exact(ne_fre (ft5 t ht) q).symm);have I6:ITs H6 c ts:=I5e.kp K6 (nm1 npc.symm) ntp
  have hmul:(if bb=true then(1:Int)else 0)*dd=0\/((if bb=true then(1:Int)else 0)*dd=dd/\ts≠[]):=by
   cases bb with
   |false=>left;rw[qAB (by decide)];lia
   |true=>right;rw[qAC rfl];exact⟨by lia,λz=>hbb rfl (by rw[z];rfl)⟩
  have hml:(if bb=true then(1:Int)else 0)=0\/(if bb=true then(1:Int)else 0)=1:=by cases bb<;>simp
  generalize (if bb=true then(1:Int)else 0)=n01 at hmul hml ⊢
  refine⟨_,_,rfl,rfl,?_,_,rfl,by rcases hmul with z|⟨z,_⟩<;>lia,by rcases hmul with z|⟨z,_⟩<;>lia,zB2 (lo:=0) (n:=(n01*dd).toNat) (λi σ H7=>∃(o7 o8:Option V) (ts':List ((Int×Int)×Addr)),σ=[some (.ref p),some (.int mo),some (.int m),some (.ref l),some (.int way),some (.int th),some (.ref c),o7,o8]/\zBk H7 p/\Kp [p] H H7/\Txs H7 l ns/\ITs H7 c ts'/\(∀t∈ts',t∈ts)/\ts'.length=ts.length+i)
   ⟨_,_,ts,rfl,P6,K05.trans K56,K56 l _ hl5 (nm1 npl.symm),I6,λt h=>h,rfl⟩ ?_ ?_⟩
  .rcases hml with z|z
   .exact Or.inl ⟨by lia,by lia⟩
   .exact Or.inl ⟨by lia,by lia⟩
  .rintro i σ H7 hi ⟨o7,o8,ts',rfl,P7,K7,hl7,I7,s7,e7⟩
   have ne:ts≠[]:=by
    rcases hmul with z|⟨_,z⟩
    .rw [z]at hi;exact absurd hi (qCA _)
    .exact z
   have pos:0<ts'.length:=by
    have:=qCD.mpr ne;lia
   have ntp':∀t∈ts',t.2∉[p]:=λt ht=>ntp t (s7 t ht);have nlc':l≠c:=nlc;refine⟨_,rfl,.inl ⟨rfl,_,SqL.of I7.top⟩,_,rfl,_,rfl,_,_,rfl,.inl (SqL.of I7.top),_,_,rfl,rfl,p,_,rfl,P7,?_,?_,λd1 H8 x0 x1 P8 K8=>?_⟩
   .lia
   .rw [qAD];have:i<3:=by rcases hmul with z|⟨z,_⟩<;>lia
    lia
   have I8:ITs H8 c ts':=I7.kp K8 (nm1 npc.symm) ntp';refine⟨_,rfl,_,rfl,_,rfl,_,_,rfl,.inl (SqL.of I8.top),p,_,rfl,P8,?_,?_,λd2 H9 y0 y1 P9 K9=>?_⟩
   .rw [qAD];lia
   .rw [qAD];have:i<3:=by rcases hmul with z|⟨z,_⟩<;>lia
    lia
   have I9:ITs H9 c ts':=I8.kp K9 (nm1 npc.symm) ntp';rw[qAD]at x1 y1;obtain⟨t,et⟩:∃t,ts'[d2.toNat]?=some t:=⟨ts'[d2.toNat]'(by lia),qAV (by lia)⟩;have evt:(ts'.map λt=>V.ref t.2)[d2.toNat]?=some (V.ref t.2):=by rw[qAZ,et];rfl
   refine⟨_,_,_,.ref t.2,rfl,rfl,SqL.of I9.top,zDe y0 evt,_,_,_,_,rfl,rfl,I9.top,?_,x0,?_,?_⟩
   .rw [qAD,qAI];have:i<3:=by rcases hmul with z|⟨z,_⟩<;>lia
    lia
   .rw [qAD];lia
   .have hp:=ST.ins_perm ts' d1.toNat t;refine⟨_,_,ts'.take d1.toNat++t::ts'.drop d1.toNat,rfl,P9.kp (M:=[c]) (Kp.put Kp.refl (by simp)) (nm1 npc),Kp.new (K7.trans (K8.trans K9)) fcH,(upd_ne nlc).trans ((K8.trans K9) l _ hl7 (nm1 npl.symm)),⟨?_,λu hu=>?_⟩,λu hu=>?_,?_⟩
    .rw [upd_same,ins_map (λt:(Int×Int)×Addr=>V.ref t.2)]
    .have hu':u∈ts':=by
      rcases qAM.mp (hp.mem_iff.mp hu)with z|z
      .rw [z];exact qAJ et
      .exact z
     exact(upd_ne (zB8 (I9.row u hu') I9.top (λy=>nomatch y))).trans (I9.row u hu')
    .rcases qAM.mp (hp.mem_iff.mp hu)with z|z
     .rw [z];exact s7 t (qAJ et)
     .exact s7 u z
    .rw [hp.length_eq,qAc,e7];lia
  .rintro σ H7 ⟨o7,o8,ts',rfl,P7,K7,hl7,I7,s7,e7⟩;have hts:ts'.length<=38:=by rcases hmul with z|⟨z,_⟩<;>lia
   refine⟨(by walk_at"ln"),λg hg=>?_⟩;have fg:Fre H7 g:=hg;have npg:p≠g:=by obtain⟨x,y,q,_⟩:=P7;exact ne_fre fg q
   have nlg:l≠g:=ne_fre fg hl7;have ncg:c≠g:=ne_fre fg I7.top;have fgH:Fre H g:=K7.fre fg (nm1 npg.symm);have k7g:Kp [] H7 (upd H7 g (.lst [])):=Kp.new Kp.refl fg;have ntp':∀t∈ts',t.2∉[p]:=λt ht=>ntp t (s7 t ht)
   refine⟨_,rfl,_,rfl,by lia,by lia,zB2 (lo:=0) (n:=m.toNat) (λi σ H8=>∃(o7:Option V)(Is:List Int),σ=[some (.ref p),some (.int mo),some (.int m),some (.ref l),some (.int way),some (.int th),some (.ref c),o7,some (.ref g)]/\zBk H8 p/\Kp [p] H H8/\Txs H8 l ns/\ITs H8 c ts'/\H8 g=some (.lst (Is.map V.int))/\Spots Is i)
    ⟨_,[],rfl,P7.kp k7g (by simp),Kp.new K7 fgH,k7g l _ hl7 (by simp),I7.kp k7g (by simp) (by simp),upd_same,rfl,qA5,(λx h=>nomatch h)⟩ ?_ ?_⟩
   .rintro i σ H8 hi ⟨o7,Is,rfl,P8,K8,hl8,I8,hg8,S8⟩;refine⟨_,rfl,.inl ⟨rfl,_,SqL.of hg8⟩,_,rfl,_,rfl,_,_,rfl,rfl,p,_,rfl,P8,?_,?_,λd1 H9 x0 x1 P9 K9=>?_⟩
    .lia
    .lia
    have hg9:=K9 g _ hg8 (nm1 npg.symm);refine⟨_,rfl,_,_,_,_,rfl,rfl,hg9,?_,x0,?_,?_⟩
    .rw [qAD,S8.len,qAI];lia
    .rw [qAD,S8.len];lia
    .have e1:(Is.map V.int).take d1.toNat++V.int (0+(i:Int))::(Is.map V.int).drop d1.toNat=(Is.take d1.toNat++(i:Int)::Is.drop d1.toNat).map V.int:=by
      rw[Int.zero_add];exact ins_map V.int Is d1.toNat (i:Int)
     rw[e1];have hl9:=K9 l _ hl8 (nm1 npl.symm);have I9:=I8.kp K9 (nm1 npc.symm) ntp';exact⟨_,_,rfl,P9.kp (M:=[g]) (Kp.put Kp.refl (by simp)) (nm1 npg),Kp.new (K8.trans K9) fgH,(upd_ne nlg).trans hl9,⟨(upd_ne ncg).trans I9.top,λu hu=>(upd_ne (zB8 (I9.row u hu) hg9 (λy=>nomatch y))).trans (I9.row u hu)⟩,upd_same,S8.put _⟩
   .rintro σ H8 ⟨o7,Is,rfl,P8,K8,hl8,I8,hg8,S8⟩;rw[<-en]at S8;have hmn:(ns.length:Int)=m:=by rw[en];lia
    refine⟨_,rfl,_,rfl,_,rfl,⟨_,SqL.of I8.top⟩,λB hB=>zAw (ts'.map λt=>V.ref t.2) (λi ys τ H9=>∃ks:List (List Str×Addr),(∃o0 o1,τ=[o0,o1,some (.ref l),some (.ref g)])/\ys=(ks.map λq=>V.ref q.2)/\ks.length=i/\(∀q∈ks,H9 q.2=some (.tup (q.1.map V.str))/\Fre H q.2/\∃(a b:Str)(x y:Nat),q.1=[a,b]/\x<y/\(rowOf ns Is)[x]?=some a/\(rowOf ns Is)[y]?=some b)/\Kp [] H8 H9/\H9 B=some (.lst ys)) ⟨[],⟨_,_,rfl⟩,rfl,rfl,(λq h=>nomatch h),Kp.new Kp.refl hB,upd_same⟩ (λi ys τ H9 ⟨_,_,_,_,_,k9,_⟩=>SqL.of (k9 c _ I8.top (by simp))) ?_ ?_⟩
    .rintro i v ys τ H9 hv ⟨ks,⟨o0,o1,rfl⟩,rfl,ek,hk,k9,h9⟩;obtain⟨t,eq,rfl⟩:=it_at hv;have mt:=qAJ eq;have okt:=ok5 t (s7 t mt);have hrow:H9 t.2=some (.tup [.int t.1.1,.int t.1.2]):=k9 t.2 _ (I8.row t mt) (by simp);refine⟨_,_,rfl,.inl (.inl hrow),rfl,_,_,rfl,_,_,rfl,rfl,?_⟩;obtain⟨s1,n1,a1,a2,a3,a4⟩:=rowOf_at S8 okt.1 (by lia);obtain⟨s2,n2,b1,b2,b3,b4⟩:=rowOf_at S8 (i:=t.1.2) (by lia) (by lia);have hl9:=k9 l _ hl8 (by simp);have hg9:=k9 g _ hg8 (by simp);have ai:∀{x:Int}{s:Int},0<=x->Is[x.toNat]?=some s->atI (Is.map V.int) x=some (.int s):=λh0 h=>zDe h0 (by rw[qAZ,h];rfl);have an:∀{x:Int}{n:Str},0<=x->ns[x.toNat]?=some n->atI (ns.map V.str) x=some (.str n):=λh0 h=>zDe h0 (by rw[qAZ,h];rfl);refine⟨_,rfl,_,rfl,_,rfl,_,_,_,_,rfl,rfl,SqL.of hg9,ai okt.1 a1,_,_,_,_,rfl,rfl,SqL.of hl9,an a2 a3,_,rfl,_,rfl,_,rfl,_,_,_,_,rfl,rfl,SqL.of hg9,ai (by lia) b1,_,_,_,_,rfl,rfl,SqL.of hl9,an b2 b3,(by walk_at"ln"),λu hu=>?_⟩;have fu:Fre H9 u:=hu;have nBu:B≠u:=ne_fre fu h9;have hu8:Fre H8 u:=k9.fre fu (by simp);have npu:p≠u:=by obtain⟨x,y,q,_⟩:=P8;exact ne_fre hu8 q
     have fuH:Fre H u:=K8.fre hu8 (nm1 npu.symm);refine⟨(upd_ne nBu).trans h9,?_,ks++[([n1,n2],u)],⟨_,_,rfl⟩,?_,by rw[qAl,ek];rfl,λq hq=>?_,Kp.new (Kp.new k9 (k9.fre fu (by simp))) hB,upd_same⟩
     .have:=(qAf.mp eq).1;rw[qAD,ek,qAI];lia
     .rw [qAN];rfl
     .rcases qAT.mp hq with z|z
      .obtain ⟨z1,z2⟩:=hk q z;exact⟨(upd_ne (zB8 z1 h9 (λy=>nomatch y))).trans ((upd_ne (ne_fre fu z1)).trans z1),z2⟩
      .rw [qAP.mp z];exact⟨(upd_ne nBu.symm).trans upd_same,fuH,n1,n2,t.1.1.toNat,t.1.2.toNat,rfl,by lia,a4,b4⟩
    .rintro ys τ H9 ⟨ks,_,rfl,ek,hk,k9,h9⟩;rw[qAD]at ek;refine⟨(by walk_at"ln"),λt ht=>?_⟩;have ft:Fre H9 t:=ht;have k10:Kp [] H9 (upd H9 t (.tup [.ref l,.ref B])):=Kp.new Kp.refl ft;have ft8:Fre H8 t:=k9.fre ft (by simp);have npt:p≠t:=by obtain⟨x,y,q,_⟩:=P8;exact ne_fre ft8 q
     have npB:p≠B:=by obtain⟨x,y,q,_⟩:=P8;exact ne_fre (show Fre H8 B from hB) q
     have rnd:=rowOf_nd nd S8
     have rin:∀{x:Nat}{a:Str},(rowOf ns Is)[x]?=some a->a∈ns:=λ{x a} h=>by
      obtain⟨s,hs,e⟩:=qAW.mp (qAJ h);have:=S8.lt s hs;rw[<-e,qAr,qAV (by lia)];exact qBl _
     refine k t l B ns ks (λn=>(rowOf ns Is).idxOf n) _ (by rw[en];lia) (by lia) upd_same (K8.fre ft8 (nm1 npt.symm)) flH (K8.fre (show Fre H8 B from hB) (nm1 npB.symm)) (λq hq=>(hk q hq).2.1) ((k9.trans k10) l _ hl8 (by simp)) ⟨k10 B _ h9 (by simp),λq hq=>k10 _ _ (hk q hq).1 (by simp),λq hq=>?_⟩ ⟨nm,nd,by rw[en];lia,by lia,λq hq x hx=>?_,λq hq=>?_⟩ (P8.kp (k9.trans k10) (by simp)) (K8.trans ((k9.trans k10).weak (by simp)))
     .obtain ⟨a,b,x,y,e,_⟩:=(hk q hq).2.2;exact⟨a,b,e⟩
     .obtain ⟨a,b,i,j,e,_,h1,h2⟩:=(hk q hq).2.2;rw[e]at hx;rcases qAM.mp hx with z|z
      .rw [z];exact rin h1
      .rw [qAP.mp z];exact rin h2
     .obtain ⟨a,b,i,j,e,hij,h1,h2⟩:=(hk q hq).2.2;have e1:fst q=a:=by unfold fst;rw[e];rfl
      have e2:snd q=b:=by unfold snd;rw[e];rfl
      rw[e1,e2,zFy rnd h1,zFy rnd h2];exact hij
end
structure Mth(P:Program)(w:World)(K:PySem.W.Frag)(mg:Str->Option Value)(base:Heap)(C:Addr)(m:Str)(k:Nat)(ps:List Str)(sp:Sp):Prop where
 to:∃(f:Addr)(fd:FuncData),Meth K C m f/\zD7 K fd ps []/\FnOk P w K mg base CX0 k f fd ps sp
theorem zEs{m:Str}{k:Nat}{ps:List Str}{o e:Expr}{es:List Expr}{apos pos:Pos}{ta:TE}{t:TA}{pl:Sem Bool}(M:Mth X.prog X.w X.K X.mg X.base C m k ps sp)(c:Cls X.K C)(hr:Room k X.A)(he:PE X o ta)(ha:PA X (e::es) t)
  (hst:starEach (e::es) X.env=(false,eval e X.env)::starEach es X.env:=by rfl) (hpl:(backTo pos (starEach es X.env)).any (·.1)=false:=by rfl)
  (ht:eval (.Call (.Attribute o m apos) (e::es) [] pos) X.env=(do
   let ov<-eval o X.env
   standAt apos.atName
   let(f,first)<-holding [ov] (getMethod ov m pl)
   callWith pos f first (backTo pos (starEach (e::es) X.env)) (backToKw pos (keywordEach [] X.env))):=by rfl):PE X (.Call (.Attribute o m apos) (e::es) [] pos) (tMeth C m sp [] E0 ta t):=by
 obtain⟨f,fd,h1,h2,h3⟩:=M.to;exact pe_meth he c h1 h3 hr h2 .nil pass0 ha hst hpl ht
theorem zDd{m:Str}{k:Nat}{ps:List Str}{o:Expr}{apos:Pos}{ta:TE}{pl:Sem Bool}(M:Mth X.prog X.w X.K X.mg X.base C m k ps sp)(c:Cls X.K C)(hr:Room k X.A)(he:PE X o ta)
  (ht:eval (.Call (.Attribute o m apos) [] [] pos) X.env=(do
   let ov<-eval o X.env
   standAt apos.atName
   let(f,first)<-holding [ov] (getMethod ov m pl)
   callWith pos f first (backTo pos (starEach [] X.env)) (backToKw pos (keywordEach [] X.env))):=by rfl):PE X (.Call (.Attribute o m apos) [] [] pos) (tMeth C m sp [] E0 ta tNil):=by
 obtain⟨f,fd,h1,h2,h3⟩:=M.to;exact pe_meth0 he c h1 h3 hr h2 .nil pass0 ht
theorem S_rank{j:Addr}{J:JR}{r:Str->Nat}(A:JobsAt C H j J)(G:Good J.ns qs r)(hz:∀k,k∈J.zs.map (·.1)↔k∈qs.map (·.1)):∀(b:Nat)(n x:Str),r n<=b->n∈J.ns->x∈J.S n->r x<r n:=by
 have tk:∀n x,x∈told J.zs n->x∈J.ns/\r x<r n:=λn x hx=>by
  obtain⟨q,q1,q2,q3⟩:=zG7.mp hx;have:q.1∈qs.map (·.1):=(hz q.1).mp (qAW.mpr ⟨q,q1,rfl⟩);obtain⟨q',h1,h2⟩:=qAW.mp this;obtain⟨e1,e2⟩:=fst_of h2;obtain⟨a,b,eab⟩:=A.prs.two q q1;refine⟨?_,by rw[<-q2,<-q3,<-e1,<-e2];exact G.rk q' h1⟩;rw[<-q3];refine A.zin q q1 _ ?_;unfold fst;rw[eab];simp
 intro b
 induction b with
 |zero=>
  intro n x hb hn hx;rcases(A.mem n hn x).mp hx with z|⟨m,z,_⟩
  .exact (tk n x z).2
  .have:=(tk n m z).2;lia
 |succ b ih=>
  intro n x hb hn hx;rcases(A.mem n hn x).mp hx with z|⟨m,z,z'⟩
  .exact (tk n x z).2
  .have h1:=tk n m z;exact qCl (ih m x (by lia) h1.1 z') h1.2
structure Mkr(P:Program)(w:World)(K:PySem.W.Frag)(mg:Str->Option Value)(base:Heap)(C:Addr)(x:Str)(k:Nat)(ps:List Str)(sp:Sp):Prop where
 to:∃(f:Addr)(fd:FuncData),Mk K C f/\mg x=some (.ref C)/\zD7 K fd ps []/\FnOk P w K mg base CX0 k f fd ps sp
theorem pe_makeC{k:Nat}{ps:List Str}{e:Expr}{es:List Expr}{p:Pos}{t:TA}(M:Mkr X.prog X.w X.K X.mg X.base C x k (("self": Str)::ps) sp)(hr:Room (k+1) X.A)(hg:Gl X x)(ha:PA X (e::es) t)
  (hdb:(x==("__debug__": Str))=false:=by decide) (he:starEach (e::es) X.env=(false,eval e X.env)::starEach es X.env:=by rfl) (hpl:(backTo pos (starEach es X.env)).any (·.1)=false:=by rfl):PE X (.Call (.Name x p) (e::es) [] pos) (tMake C sp [] E0 t):=by
 obtain⟨f,fd,h1,h2,h3,h4⟩:=M.to;exact pe_make h1 h4 hr hg h2 h3 .nil pass0 ha hdb he hpl
def TA(qs:List (List Str×Addr))(a b:Str):Prop:=∃q∈qs,fst q=a/\snd q=b
inductive Way(qs:List (List Str×Addr)):Str->Str->Prop
 |one {a b:Str}:TA qs a b->Way qs a b
 |more {a b c:Str}:Way qs a b->TA qs b c->Way qs a c
theorem Way.trans{a b c:Str}(h:Way qs a b)(w:Way qs b c):Way qs a c:=by
 induction w with
 |one h'=>exact .more h h'
 |more _ h' ih=>exact .more ih h'
theorem TA.to(two:∀q∈qs,∃a b,q.1=[a,b])(qin:∀q∈qs,∀x∈q.1,x∈ns){a b:Str}(h:TA qs a b):a∈ns/\b∈ns:=by
 obtain⟨q,hq,rfl,rfl⟩:=h;obtain⟨a,b,e⟩:=two q hq;unfold fst snd;rw[e];exact⟨qin q hq a (by rw[e];simp),qin q hq b (by rw[e];simp)⟩
theorem Way.to(two:∀q∈qs,∃a b,q.1=[a,b])(qin:∀q∈qs,∀x∈q.1,x∈ns){a b:Str}(h:Way qs a b):a∈ns/\b∈ns:=by
 induction h with
 |one h=>exact h.to two qin
 |more _ h ih=>exact⟨ih.1,(h.to two qin).2⟩
theorem zJ7{j:Addr}{J:JR}{r:Str->Nat}(A:JobsAt C H j J)(G:Good J.ns qs r)(hz:∀k,k∈J.zs.map (·.1)↔k∈qs.map (·.1))(hn:n∈J.ns):x∈J.S n↔Way qs x n:=by
 have tk:∀n x,x∈told J.zs n↔TA qs x n:=λn x=>by
  rw[zG7];constructor
  .rintro ⟨q,h1,h2,h3⟩;obtain⟨q',h4,h5⟩:=qAW.mp ((hz q.1).mp (qAW.mpr ⟨q,h1,rfl⟩));obtain⟨e1,e2⟩:=fst_of h5;exact⟨q',h4,e1.trans h3,e2.trans h2⟩
  .rintro ⟨q,h1,h2,h3⟩;obtain⟨q',h4,h5⟩:=qAW.mp ((hz q.1).mpr (qAW.mpr ⟨q,h1,rfl⟩));obtain⟨e1,e2⟩:=fst_of h5;exact⟨q',h4,e2.trans h3,e1.trans h2⟩
 have tin:∀n x,TA qs x n->x∈J.ns/\r x<r n:=λn x h=>by
  have hT:=(tk n x).mpr h;obtain⟨q,q1,q2,q3⟩:=zG7.mp hT;obtain⟨a,b,e⟩:=A.prs.two q q1;refine⟨?_,?_⟩
  .rw [<-q3];refine A.zin q q1 _ ?_;unfold fst;rw[e];simp
  .obtain ⟨q',h1,h2,h3⟩:=h;rw[<-h2,<-h3];exact G.rk q' h1
 constructor
 .have:∀(b:Nat)(n:Str),r n<=b->n∈J.ns->∀x,x∈J.S n->Way qs x n:=by
   intro b
   induction b with
   |zero=>
    intro n hb hn x hx;rcases(A.mem n hn x).mp hx with z|⟨m,z,_⟩
    .exact .one ((tk n x).mp z)
    .have:=(tin n m ((tk n m).mp z)).2;lia
   |succ b ih=>
    intro n hb hn x hx;rcases(A.mem n hn x).mp hx with z|⟨m,z,z'⟩
    .exact .one ((tk n x).mp z)
    .have h1:=tin n m ((tk n m).mp z);exact .more (ih m (by lia) h1.1 x z') ((tk n m).mp z)
  exact this (r n) n (qAF _) hn x
 .intro w
  induction w with
  |one h=>exact(A.mem _ hn _).mpr (.inl ((tk _ _).mpr h))
  |more _ h ih=>exact(A.mem _ hn _).mpr (.inr ⟨_,(tk _ _).mpr h,ih (tin _ _ h).1⟩)
section
def zGk(C:Addr):Sp:=λvs H Q _=>∃(j l:Addr)(J:JR)(ls:List Str)(y:Str),vs=[.ref j,.ref l,.str y]/\JobsAt C H j J/\Txs H l ls/\ls.length<=4096/\y∈J.ns/\∀H',Kp [] H H'->Q (.bl (ls.any λn=>decide (n∈J.S y))) H'
abbrev zBe:Stmt:=zGh (top 52) 7
theorem zE4:FnScope ["self","later","other"] ["self","later","other"] (zAd zBe):=fnS
theorem zE8(F:Fun K "has_between" "Jobs.has_between" zBe f fd)(T:Txt K mg)(U:JC K mg C):FnOk P w K mg base CX0 1 f fd ["self","later","other"] (zGk C):=by
 refine F.ok zE4 (λvs H Q E h=>?_) (λcdv A outer s H vs Q E hr h=>?_)
 .obtain ⟨j,l,J,ls,y,rfl,_⟩:=h;rfl
 .obtain ⟨j,l,J,ls,y,rfl,A0,hl,hlen,hy,k⟩:=h;have hu:=zCn hr;refine⟨_,(zAe (zAm (zAi (call_any _ rfl) (by rfl) T.z_any bo_any (zAa (zAt rfl (zAz (sc:=zAd zBe) rfl (by decide +kernel)) (Draws.own (x:="name") (dtk (i:=2) rfl (dtk (i:=0) rfl Draws.nil))) (zAj (pv 1)) (λ_ _ _ _=>(pgB (i:=0))) (λ_ _ _ _=>zBl) (λ_ _ _ _=>(pe_cmp (zFq hu (pv 0) (zAs hu (pe_fldK (K:=K) (pv 2) rfl) (pv 1) (λ_ _=>rfl)))))) zAc)))),?_⟩
  refine⟨_,rfl,_,rfl,⟨_,SqL.of hl⟩,λB hB=>zAw (ls.map V.str) (λi ys τ H3=>(∃o0,τ=[o0,some (.str y),some (.ref j)])/\ys=((ls.take i).map λn=>V.bl (decide (n∈J.S y)))/\H3=upd H B (.lst ys)) ⟨⟨_,rfl⟩,rfl,rfl⟩ (λi ys τ H3 ⟨_,_,z⟩=>by subst z;exact SqL.of ((Kp.new (M:=[]) Kp.refl hB) _ _ hl (by simp))) ?_ ?_⟩
  .rintro i v ys τ H3 hv ⟨⟨o0,rfl⟩,rfl,rfl⟩;obtain⟨n,en,rfl⟩:=zA3 hv;have A3:=A0.kp0 (Kp.new (l:=B) (o:=.lst ((ls.take i).map λn=>V.bl (decide (n∈J.S y)))) Kp.refl hB);obtain⟨o,g1,g2⟩:=zF8 (A3.sets y (A3.all y hy)) n;refine⟨_,rfl,_,rfl,_,_,_,_,_,rfl,A3.ob,U.cl,U.n_above,zJv _ _ _,_,rfl,_,_,rfl,abv_get A3 hy,_,o,rfl,g1,?_⟩;rw[g2];refine⟨upd_same,?_,⟨_,rfl⟩,?_,zAx⟩
   .rw [qAD,qAR,qAI];lia
   .rw [zAh en,qAN];rfl
  .rintro ys τ H3 ⟨_,rfl,rfl⟩;have eT:ls.take (ls.map V.str).length=ls:=by rw[qAD,qAb]
   rw[eT];refine⟨B,ls.map λn=>decide (n∈J.S y),rfl,SqL.of ?_,?_⟩
   .rw [upd_same,qAp];rfl
   .have e:((ls.map λn=>decide (n∈J.S y)).any id)=ls.any λn=>decide (n∈J.S y):=by rw[List.any_map];rfl
    rw[e];exact k _ (Kp.new Kp.refl hB)
def strB(J:JR)(x:Str):List Str:=(J.ns.filter λn=>decide (x∈J.S n)).filter λo=>!((J.ns.filter λn=>decide (x∈J.S n)).any λn=>decide (n∈J.S o))
def zIm(C:Addr):Sp:=λvs H Q _=>∃(j:Addr)(J:JR)(x:Str),vs=[.ref j,.str x]/\JobsAt C H j J/\x∈J.ns/\∀l H',Fre H l->Txs H' l (strB J x)->Kp [] H H'->Q (.ref l) H'
abbrev zBz:Stmt:=zGh (top 52) 6
theorem zD1:FnScope ["self","name","later"] ["self","name"] (zAd zBz):=fnS
theorem zGy(F:Fun K "straight" "Jobs.straight" zBz f fd)(T:Txt K mg)(U:JC K mg C)(M_behind:Mth P w K mg base C "behind" 3 ["self","name"] (zG0 C))(M_has_between:Mth P w K mg base C "has_between" 1 ["self","later","other"] (zGk C)):FnOk P w K mg base CX0 4 f fd ["self","name"] (zIm C):=by
 refine F.ok zD1 (λvs H Q E h=>?_) (λcdv A outer s H vs Q E hr h=>?_)
 .obtain ⟨j,J,x,rfl,_⟩:=h;rfl
 .obtain ⟨j,J,x,rfl,A0,hx,k⟩:=h;have hr1:=hr.mono (j:=1) (by decide)
  refine⟨_,(zAb (psS (i:=2) zD1.nd (zEs M_behind U.cl hr (pv 0) (zAa (pv 1) zAc))) (zAe (zAm (zAt rfl (zAz (sc:=zAd zBz) rfl (by decide +kernel)) (Draws.own (x:="other") (dtk (i:=2) rfl (dtk (i:=0) rfl Draws.nil))) (zAj (pv 2)) (λ_ _ _ _=>(pgB (i:=0))) (λC₀ s₀ H₀ ex=>(zBg (zDc (zC4 (zEs M_has_between U.cl hr1 (pv 2) (zAa (pv 1) (zAa (pv 0) zAc))))))) (λ_ _ _ _=>(pv 0)))))),?_⟩
  refine hid2 ?_;intro _ _;refine⟨_,rfl,j,J.dx,_,rfl,A0.ob,zGz _ _ _ (by decide +kernel) (by decide +kernel) (by decide +kernel),_,rfl,j,J,x,rfl,A0,hx,λl H1 fl hl k1=>?_⟩;have A1:=A0.kp0 k1;have hLn:∀n∈(J.ns.filter λn=>decide (x∈J.S n)),n∈J.ns:=λn hn=>(qAQ.mp hn).1;have hLl:(J.ns.filter λn=>decide (x∈J.S n)).length<=20:=qAL (qAq _ _) A0.few;have eS:strB J x=(J.ns.filter λn=>decide (x∈J.S n)).filter λo=>!((J.ns.filter λn=>decide (x∈J.S n)).any λn=>decide (n∈J.S o)):=rfl;rw[eS]at k;generalize (J.ns.filter λn=>decide (x∈J.S n))=L at *
  refine⟨_,rfl,_,rfl,⟨_,SqL.of hl⟩,λB hB=>zA9 (L.map V.str) (λi ys τ H3=>(∃o0,τ=[o0,some (.ref l),some (.ref j)])/\ys=((L.take i).filter λo=>!(L.any λn=>decide (n∈J.S o))).map V.str/\Kp [] H1 H3/\H3 B=some (.lst ys)) ⟨⟨_,rfl⟩,rfl,Kp.new Kp.refl hB,upd_same⟩ (λi ys τ H3 ⟨_,_,k3,_⟩=>SqL.of (k3 l _ hl (by simp))) ?_ ?_⟩
  .rintro i v ys τ H3 hv ⟨⟨o0,rfl⟩,rfl,k3,h3⟩;obtain⟨n,en,rfl⟩:=zA3 hv;have A3:=A1.kp0 k3;refine⟨_,rfl,j,J.dx,_,rfl,A3.ob,zGz _ _ _ (by decide +kernel) (by decide +kernel) (by decide +kernel),_,rfl,_,rfl,j,l,J,L,n,rfl,A3,k3 l _ hl (by simp),by lia,hLn n (qAJ en),λH4 k4=>⟨_,rfl,?_⟩⟩;have h4:=k4 B _ h3 (by simp);refine ite2 (λc=>?_) (λc=>?_)
   .refine ⟨_,rfl,h4,?_,⟨_,rfl⟩,?_,Kp.new (k3.trans k4) hB,upd_same⟩
    .rw [qAD];exact zEu (by lia)
    .rw [zDv en c,qAN];rfl
   .refine ⟨⟨_,rfl⟩,?_,k3.trans k4,?_⟩
    .rw [zFd en c]
    .exact h4
  .rintro ys τ H3 ⟨_,rfl,k3,h3⟩;have eT:L.take (L.map V.str).length=L:=by rw[qAD,qAb]
   rw[eT]at h3;exact k B H3 (k1.fre hB (by simp)) h3 (k1.trans k3)
end
structure DS(H0 H:Hp)(d:Addr)(ns:List Str)(la:Str->Addr)(L:Str->List Str):Prop where
 top:H d=some (.dK (dT1 ns λn=>.ref (la n)))
 row:∀n∈ns,SetD H (la n) (L n)
 ne:∀n∈ns,la n≠d
 fr:Fre H0 d
 frs:∀n∈ns,Fre H0 (la n)
theorem ne_nil_is{K:PySem.W.Frag}{c e:Addr}{xs:List V}{Q:VK}(h1:SqL K H c xs)(h2:SqL K H e [])(h:Q (.bl (decide (xs≠[]))) H):rAlike K 8 false (.ref c) (.ref e) H Q\/rUnlen K true (.ref c) (.ref e) H Q:=by
 by_cases z:xs=[]
 .subst z;exact .inl ⟨c,e,_,_,rfl,rfl,h1,h2,rfl,(λi x y h=>by simp at h),h⟩
 .rw [qAS z]at h;exact .inr ⟨c,e,_,_,rfl,rfl,h1,h2,λy=>z (qCT.mp y),h⟩
def szAt(H:Hp)(a:Addr):Nat:=match H a with
 |some (.lst xs)=>xs.length
 |some (.dK kvs)=>kvs.length
 |_=>0
theorem zI8{a:Addr}{xs:List V}(h:H a=some (.lst xs)):szAt H a=xs.length:=by unfold szAt;rw[h]
theorem szAt_dK{a:Addr}{kvs:List (Key×V)}(h:H a=some (.dK kvs)):szAt H a=kvs.length:=by unfold szAt;rw[h]
theorem dT1_snoc(B:List Str)(x:Str)(g:Str->V):dT1 (B++[x]) g=dT1 B g++[(.inr x,g x)]:=by unfold dT1;rw[qAN];rfl
theorem zC9(B:List Str)(g:Str->V):(dT1 B g).length=B.length:=by unfold dT1;rw[qAD]
structure DR(H:Hp)(d:Addr)(ns:List Str)(la:Str->Addr)(L:Str->List Str):Prop where
 top:H d=some (.dK (dT1 ns λn=>.ref (la n)))
 row:∀n∈ns,SetD H (la n) (L n)
theorem DS.rd{H0:Hp}{la:Str->Addr}{L:Str->List Str}(D:DS H0 H d ns la L):DR H d ns la L:=⟨D.top,D.row⟩
theorem DR.kp0{la:Str->Addr}{L:Str->List Str}(D:DR H d ns la L)(k:Kp [] H H'):DR H' d ns la L:=⟨k d _ D.top (by simp),λn hn=>k _ _ (D.row n hn) (by simp)⟩
theorem DR.get{la:Str->Addr}{L:Str->List Str}(D:DR H d ns la L){y:Str}(hy:y∈ns):DGet H d (.str y) (some (.ref (la y))):=by
 have:=DGet.k (k:=Sum.inr y) D.top;rw[zBf,qAC hy]at this;exact this
def zBc(qs:List (List Str×Addr))(n:Str):List Str:=(qs.filter λq=>decide (fst q=n)).map snd
theorem zFu{y:Str}:y∈zBc qs n↔TA qs n y:=by
 unfold zBc TA;simp only[qAW,qAQ,qA3];exact⟨λ⟨q,⟨a,b⟩,c⟩=>⟨q,a,b,c⟩,λ⟨q,a,b,c⟩=>⟨q,⟨a,b⟩,c⟩⟩
theorem zFs(qs:List (List Str×Addr))(n:Str):(zBc qs n).length<=qs.length:=by
 unfold zBc;rw[qAD];exact qAq _ _
structure NR(H:Hp)(d:Addr)(ns:List Str)(na:Str->Addr)(f:Str->List Str):Prop where
 top:H d=some (.dK (dT1 ns λn=>.ref (na n)))
 row:∀n∈ns,Txs H (na n) (f n)
theorem NR.kp{M:List Addr}{na:Str->Addr}{f:Str->List Str}(D:NR H d ns na f)(k:Kp M H H')(h1:d∉M)(h2:∀n∈ns,na n∉M):NR H' d ns na f:=⟨k d _ D.top h1,λn hn=>k _ _ (D.row n hn) (h2 n hn)⟩
theorem NR.get{na:Str->Addr}{f:Str->List Str}(D:NR H d ns na f){y:Str}(hy:y∈ns):DGet H d (.str y) (some (.ref (na y))):=by
 have:=DGet.k (k:=Sum.inr y) D.top;rw[zBf,qAC hy]at this;exact this
structure BK(qs:List (List Str×Addr))(ns:List Str)(n:Str)(B W:List Str):Prop where
 nd:B.Nodup
 sub:∀x∈B,x∈ns
 way:∀x∈B,Way qs n x
 wl:∀x∈W,Way qs n x
 c0:∀y,TA qs n y->y∈B\/y∈W
 cl:∀x∈B,∀y,TA qs x y->y∈B\/y∈W
 cap:W.length+307*(20-B.length)<=6447
theorem BK.start(h:qs.length<=306):BK qs ns n [] (zBc qs n) :=
 ⟨qA5,(λx h=>nomatch h),(λx h=>nomatch h),λx h=>.one (zFu.mp h),λy h=>.inr (zFu.mpr h),(λx h=>nomatch h),by
  have:=zFs qs n;simp only[qBV];lia⟩
theorem BK.old{x0:Str}{B W:List Str}(b:BK qs ns n B (W++[x0]))(h:x0∈B):BK qs ns n B W:=by
 have mv:∀y,(y∈B\/y∈W++[x0])->y∈B\/y∈W:=λy hy=>by
  rcases hy with z|z
  .exact .inl z
  .rcases qAT.mp z with z|z
   .exact .inr z
   .rw [qAP.mp z];exact .inl h
 refine⟨b.nd,b.sub,b.way,λx hx=>b.wl x (qAv _ hx),λy hy=>mv y (b.c0 y hy),λx hx y hy=>mv y (b.cl x hx y hy),?_⟩;have:=b.cap;rw[qAl,qCi]at this;lia
theorem BK.new{x0:Str}{B W:List Str}(b:BK qs ns n B (W++[x0]))(h:x0∉B)(hx:x0∈ns)(hn:ns.length<=20)(hq:qs.length<=306):BK qs ns n (B++[x0]) (W++zBc qs x0)/\(W++zBc qs x0).length+307*(20-(B++[x0]).length)<W.length+1+307*(20-B.length):=by
 have nd:(B++[x0]).Nodup:=qBX.mpr ⟨b.nd,by simp,λa ha d hd=>by
  rw[qAP.mp hd];exact λz=>h (z▸ha)⟩
 have sub:∀x∈B++[x0],x∈ns:=λx h=>by
  rcases qAT.mp h with z|z
  .exact b.sub x z
  .rw [qAP.mp z];exact hx
 have w0:Way qs n x0:=b.wl x0 (by simp)
 have mv:∀y,(y∈B\/y∈W++[x0])->y∈B++[x0]\/y∈W++zBc qs x0:=λy hy=>by
  rcases hy with z|z
  .exact .inl (qAv _ z)
  .rcases qAT.mp z with z|z
   .exact .inr (qAv _ z)
   .exact .inl (qA4 _ z)
 have less:(W++zBc qs x0).length+307*(20-(B++[x0]).length)<W.length+1+307*(20-B.length):=by
  have h1:=zDi nd sub;have h2:=zFs qs x0;simp only[qAl,qCi]at *
  lia
 refine⟨⟨nd,sub,λx hx=>?_,λx hx=>?_,λy hy=>mv y (b.c0 y hy),λx hx y hy=>?_,?_⟩,less⟩
 .rcases qAT.mp hx with z|z
  .exact b.way x z
  .rw [qAP.mp z];exact w0
 .rcases qAT.mp hx with z|z
  .exact b.wl x (qAv _ z)
  .exact .more w0 (zFu.mp z)
 .rcases qAT.mp hx with z|z
  .exact mv y (b.cl x z y hy)
  .rw [qAP.mp z]at hy;exact .inr (qA4 _ (zFu.mpr hy))
 .have:=b.cap;rw[qAl,qCi]at this;lia
theorem BK.all{B:List Str}(b:BK qs ns n B [])(x:Str):x∈B↔Way qs n x:=by
 refine⟨b.way x,λh=>?_⟩
 induction h with
 |one h=>exact(b.c0 _ h).elim id (λz=>nomatch z)
 |more _ h ih=>exact(b.cl _ ih _ h).elim id (λz=>nomatch z)
theorem dT1_more{b:Addr}{la:Str->Addr}(h:n∉ns):dT1 ns (λn=>V.ref (la n))++[(Sum.inr n,V.ref b)]=dT1 (ns++[n]) (λx=>V.ref (if x=n then b else la x)):=by
 rw[dT1_snoc,qAC rfl];congr 1;exact zF1 λx hx=>by rw[qAB (show¬x=n from λz=>h (z▸hx))]
section
def spLBehind:Sp:=λvs H Q _=>∃(l m:Addr)(ns:List Str) (qs:List (List Str×Addr)),vs=[.ref l,.ref m]/\Txs H l ns/\Ords H m qs/\ns.Nodup/\ns.length<=20/\qs.length<=306/\(∀q∈qs,∀x∈q.1,x∈ns) /\
 ∀d la L H',DS H H' d ns la L->(∀n∈ns,(L n).Nodup/\∀x,x∈L n↔Way qs n x)->Kp [] H H'->Q (.ref d) H'
abbrev zG3:Stmt:=top 60
theorem zCq:FnScope ["_law_names_here","_law_orders","_law_near","_law_name","_law_found","_law_waiting","_law_here"] ["_law_names_here","_law_orders"] (zAd zG3):=fnS
theorem ok_behind(F:Fun K "_law_behind" "_law_behind" zG3 f fd)(T:Txt K mg):FnOk P w K mg base CX0 1 f fd ["_law_names_here","_law_orders"] spLBehind:=by
 refine F.ok zCq (λvs H Q E h=>?_) (λcdv A outer s H vs Q E hr h=>?_)
 .obtain ⟨l,m,ns,qs,rfl,_⟩:=h;rfl
 .obtain ⟨l,m,ns,qs,rfl,hl,hm,hN,hn,hz,hq,k⟩:=h;have hu:=zCn hr
  refine⟨_,(zAb (psS (i:=2) zCq.nd zBr) (zAb (zA1 qAg rfl (zAj (pv 0)) (pgN (i:=3) zCq.nd)
    (zAe (zB6 hu (pv 2) (pv 3) (zAt rfl (zAz (sc:=zAd zG3) rfl (by decide +kernel)) (Draws.own (x:="_law_one") (Draws.own (x:="_law_other") (dtk (i:=3) rfl Draws.nil))) (zAj (pv 1)) (λ_ _ _ _=>(pg_tupK (K:=K) (n:=2) rfl (zA7 (pgB (i:=0)) (zA7 (pgB (i:=1)) zEf)))) (λ_ _ _ _=>(zBg (zAo zHo (pv 0) (pv 2) (zAq _)))) (λ_ _ _ _=>(pv 1))) rfl)))
   (zAb (psS (i:=4) zCq.nd zBr)
   (zAb (zA1 qAg rfl (zAj (pv 0)) (pgN (i:=3) zCq.nd)
    (zAb (zB6 hu (pv 4) (pv 3) zBr rfl)
    (zAb (psS (i:=5) zCq.nd (zAv zBi (by rfl) T.z_list zEn (zAa (zAs hu (pv 2) (pv 3) (fun _ _=>rfl)) zAc)))
    (zAe (zJh qAg (zAo (zJj hr) (pv 5) (zBv zAc) (zAq _))
     (zAb (psS (i:=6) zCq.nd (pe_bm0 qBR PySem.F.slot_list_pop PySem.F.type_list_pop mt_pop (pv 5)))
     (zAe (zB5 (zD2 (zEg hu (pv 6) (zAs hu (pv 4) (pv 3) (fun _ _=>rfl))))
      (zAb (zB6 hu (zAs hu (pv 4) (pv 3) (fun _ _=>rfl)) (pv 6) zIb rfl)
      (zAe (zA2 (zGv qBR qDc qDd zFt (pv 5) (zAa (zAs hu (pv 2) (pv 6) (λ_ _=>rfl)) zAc)))))
      zAr))))))))
   (zAe (zAm (pv 4))))))),?_⟩
  refine hid5 ?_;intro _ _ _ _ _;refine λd0 hd0=>?_;have fd0:Fre H d0:=hd0
  refine⟨_,rfl,_,rfl,⟨_,SqL.of ((Kp.new (M:=[]) Kp.refl fd0) l _ hl (by simp))⟩,zA8 (λi σ H2=>(∃o3 o4 o5 o6:Option V,σ=[some (.ref l),some (.ref m),some (.ref d0),o3,o4,o5,o6])/\Kp [] H H2/\∃na,NR H2 d0 (ns.take i) na (zBc qs)) ⟨⟨_,_,_,_,rfl⟩,Kp.new Kp.refl fd0,λ_=>0,upd_same,(λn h=>nomatch h)⟩ (λi σ H2 _ ⟨_,k2,_⟩=>SqL.of (k2 l _ hl (by simp))) ?_ ?_⟩
  .rintro i v σ H2 hv ⟨⟨o3,o4,o5,o6,rfl⟩,k2,na,N⟩;obtain⟨n,en,rfl⟩:=zA3 hv;have ni:=zDq hN en;have hm2:=hm.kp k2 (by simp) (by simp)
   refine⟨_,rfl,_,rfl,⟨_,SqL.of hm2.top⟩,λB hB=>zA9 (qs.map λq=>V.ref q.2) (λi ys τ H3=>(∃o0 o1,τ=[o0,o1,some (.str n)])/\ys=(zBc (qs.take i) n).map V.str/\H3=upd H2 B (.lst ys)) ⟨⟨_,_,rfl⟩,rfl,rfl⟩ (λi ys τ H3 ⟨_,_,z⟩=>by subst z;exact SqL.of ((Kp.new (M:=[]) Kp.refl hB) _ _ hm2.top (by simp))) ?_ ?_⟩
   .rintro i v ys τ H3 hv ⟨⟨o0,o1,rfl⟩,rfl,rfl⟩;obtain⟨q,eq,rfl⟩:=ref_at hv;have mq:=qAJ eq;obtain⟨x,y,exy⟩:=hm.two q mq
    have hrow:(upd H2 B (.lst ((zBc (qs.take i) n).map V.str))) q.2=some (.tup [.str x,.str y]):=by
     have:=(Kp.new (l:=B) (o:=.lst ((zBc (qs.take i) n).map V.str)) (M:=[]) Kp.refl hB) q.2 _ (hm2.row q mq) (by simp);rw[exy]at this;exact this
    have e1:fst q=x:=(by unfold fst;rw[exy];rfl);have e2:snd q=y:=(by unfold snd;rw[exy];rfl);refine⟨_,_,rfl,.inl (.inl hrow),rfl,_,_,rfl,_,_,rfl,rfl,?_⟩;refine⟨_,rfl,_,rfl,rfl,_,rfl,ite2 (λc=>?_) (λc=>?_)⟩
    .have c':x=n:=by simpa using c
     refine⟨_,rfl,upd_same,?_,⟨_,_,rfl⟩,?_,zAx⟩
     .have:=zFs (qs.take i) n;rw[qAR]at this;rw[qAD,qAI];lia
     .have:zBc (qs.take (i+1)) n=zBc (qs.take i) n++[y]:=by
       unfold zBc;rw[zDv eq (qAS (e1.trans c')),qAN,qAk,e2];rfl
      rw[this,qAN];rfl
    .have c':¬x=n:=λz=>c (by simpa using z);refine⟨⟨_,_,rfl⟩,?_,?_⟩
     .have:zBc (qs.take (i+1)) n=zBc (qs.take i) n:=by
       unfold zBc;rw[zFd eq (by rw[e1];simpa using c')]
      rw[this]
     .rfl
   .rintro ys τ H3 ⟨_,rfl,rfl⟩;have eT:qs.take (qs.map λq=>V.ref q.2).length=qs:=by rw[qAD,qAb]
    rw[eT];have fB:Fre H2 B:=hB;have nB:d0≠B:=ne_fre fB N.top;have k3:Kp [] H2 (upd H2 B (.lst ((zBc qs n).map V.str))):=Kp.new Kp.refl fB;have hd3:=k3 d0 _ N.top (by simp);refine⟨_,rfl,_,rfl,_,_,rfl,DPut.k (k:=Sum.inr n) hd3 ?_,?_⟩
    .rw [zC9,qAR,qAI];lia
    rw[zEe _ ni,dT1_more ni,<-zAh en];refine⟨⟨_,_,_,_,rfl⟩,Kp.new (k2.trans k3) fd0,λx=>if x=n then B else na x,upd_same,λx hx=>?_⟩;show Txs _ (if x=n then B else na x) (zBc qs x)
    by_cases z:x=n
    .rw [qAC z,z];exact(upd_ne nB.symm).trans upd_same
    .rw [qAB z];rw[zAh en]at hx;rcases qAT.mp hx with y|y
     .have h1:=k3 _ _ (N.row x y) (by simp);exact(upd_ne (zB8 h1 hd3 (λz=>nomatch z))).trans h1
     .exact absurd (qAP.mp y) z
  .rintro σ H1 ⟨⟨o3,o4,o5,o6,rfl⟩,k1,na,N⟩;have eT:ns.take (ns.map V.str).length=ns:=by rw[qAD,qAb]
   rw[eT]at N;refine λd hd=>?_;have fd1:Fre H1 d:=hd;have fd:Fre H d:=k1.fre fd1 (by simp);have nd0:d0≠d:=ne_fre fd1 N.top;have N1:NR (upd H1 d (.dK [])) d0 ns na (zBc qs):=N.kp (M:=[]) (Kp.new Kp.refl fd1) (by simp) (by simp)
   refine⟨_,rfl,_,rfl,⟨_,SqL.of ((Kp.new (M:=[]) k1 fd) l _ hl (by simp))⟩,zA8 (λi σ H2=>(∃o3 o5 o6:Option V,σ=[some (.ref l),some (.ref m),some (.ref d0),o3,some (.ref d),o5,o6])/\Kp [] H H2/\Kp [d] H1 H2/\∃la L,DS H H2 d (ns.take i) la L/\∀n∈ns.take i,(L n).Nodup/\∀x,x∈L n↔Way qs n x) ⟨⟨_,_,_,rfl⟩,Kp.new k1 fd,Kp.put Kp.refl (by simp),λ_=>0,λ_=>[],⟨upd_same,(λn h=>nomatch h),(λn h=>nomatch h),fd,(λn h=>nomatch h)⟩,(λn h=>nomatch h)⟩ (λi σ H2 _ ⟨_,k2,_⟩=>SqL.of (k2 l _ hl (by simp))) ?_ ?_⟩
   .rintro i0 v σ H2 hv ⟨⟨o3,o5,o6,rfl⟩,k2,q2,la,L,D,hL⟩;refine hid3 ?_;intro _ _ _;obtain⟨n,en,rfl⟩:=zA3 hv;have mn:=qAJ en;have ni:=zDq hN en;have nnd:∀x∈ns,na x≠d:=λx hx=>ne_fre fd1 (N.row x hx);have N2:NR H2 d0 ns na (zBc qs):=N.kp q2 (nm1 nd0) (λx hx=>nm1 (nnd x hx));refine λb hb=>?_;have fb:Fre H2 b:=hb;have ndb:d≠b:=ne_fre fb D.top;have fbH:Fre H b:=k2.fre fb (by simp);refine⟨_,rfl,_,rfl,_,_,rfl,DPut.k (k:=Sum.inr n) ((upd_ne ndb).trans D.top) ?_,?_⟩
    .rw [zC9,qAR,qAI];lia
    rw[zEe _ ni,dT1_more ni,<-zAh en];have k3:Kp [] H (upd (upd H2 b (.dK [])) d (.dK (dT1 (ns.take (i0+1)) (λx=>.ref (if x=n then b else la x))))):=Kp.new (Kp.new k2 fbH) fd;have q3:Kp [d] H2 (upd (upd H2 b (.dK [])) d (.dK (dT1 (ns.take (i0+1)) (λx=>.ref (if x=n then b else la x))))):=Kp.put (Kp.new Kp.refl fb) (by simp);have hd3:(upd (upd H2 b (.dK [])) d (.dK (dT1 (ns.take (i0+1)) (λx=>.ref (if x=n then b else la x))))) d=some (.dK (dT1 (ns.take (i0+1)) (λx=>.ref (if x=n then b else la x)))):=upd_same;have hb3:(upd (upd H2 b (.dK [])) d (.dK (dT1 (ns.take (i0+1)) (λx=>.ref (if x=n then b else la x))))) b=some (.dK []):=(upd_ne ndb.symm).trans upd_same;generalize upd (upd H2 b (.dK [])) d (.dK (dT1 (ns.take (i0+1)) (λx=>.ref (if x=n then b else la x))))=H3 at k3 q3 hd3 hb3 ⊢;have N3:NR H3 d0 ns na (zBc qs):=N2.kp q3 (nm1 nd0) (λx hx=>nm1 (nnd x hx));have hs3:∀x∈ns.take i0,SetD H3 (la x) (L x):=λx hx=>q3 _ _ (D.row x hx) (nm1 (D.ne x hx));have nlb:∀x∈ns.take i0,la x≠b:=λx hx=>ne_fre fb (D.row x hx);refine⟨_,rfl,_,rfl,_,_,rfl,N3.get mn,_,_,rfl,.inl (SqL.of (N3.row n mn)),λwa hwa=>?_⟩;have fw:Fre H3 wa:=hwa;have k4:Kp [] H3 (upd H3 wa (.lst ((zBc qs n).map V.str))):=Kp.new Kp.refl fw;have hw4:Txs (upd H3 wa (.lst ((zBc qs n).map V.str))) wa (zBc qs n):=upd_same;have nwb:b≠wa:=ne_fre fw hb3;have nwd:d≠wa:=ne_fre fw hd3;have fwH:Fre H wa:=k3.fre fw (by simp);generalize upd H3 wa (.lst ((zBc qs n).map V.str))=H4 at k4 hw4 ⊢;have hb4:SetD H4 b []:=k4 b _ hb3 (by simp);have hd4:=k4 d _ hd3 (by simp);have N4:NR H4 d0 ns na (zBc qs):=N3.kp k4 (by simp) (by simp);have k04:=k3.trans k4;have nab:∀x∈ns,na x∉[b,wa]:=λx hx=>nm2 (zB8 (N3.row x hx) hb3 (λz=>nomatch z)) (ne_fre fw (N3.row x hx));have n0b:d0∉[b,wa]:=nm2 (ne_fre fb N2.top) (ne_fre fw N3.top)
    have gd:∀{Hx:Hp},Hx d=some (.dK (dT1 (ns.take (i0+1)) (λx=>.ref (if x=n then b else la x))))->DGet Hx d (.str n) (some (.ref b)):=λh=>by
     have h1:=DGet.k (k:=Sum.inr n) h;rw[zBf,qAC (by rw[zAh en];simp),qAC rfl]at h1;exact h1
    refine zI3 (λσ H5=>(∃o6:Option V,σ=[some (.ref l),some (.ref m),some (.ref d0),some (.str n),some (.ref d),some (.ref wa),o6])/\Kp [b,wa] H4 H5/\∃B W,SetD H5 b B/\Txs H5 wa W/\BK qs ns n B W) (λ_ H5=>307*(20-szAt H5 b)+szAt H5 wa)
     ⟨⟨_,rfl⟩,Kp.refl,[],zBc qs n,hb4,hw4,BK.start hz⟩ ?_ (λσ H Q Q' hq hc=>?_)
    .rintro σ H5 ⟨⟨o6',rfl⟩,k5,B,W,hB,hW,I5⟩;refine⟨_,rfl,(by walk_at"ln"),λe he=>?_⟩;have fe:Fre H5 e:=he;have k5e:Kp [] H5 (upd H5 e (.lst [])):=Kp.new Kp.refl fe;have hB6:SetD (upd H5 e (.lst [])) b B:=k5e b _ hB (by simp);have hW6:Txs (upd H5 e (.lst [])) wa W:=k5e wa _ hW (by simp);have hE6:(upd H5 e (.lst [])) e=some (.lst []):=upd_same;have k46:Kp [b,wa] H4 (upd H5 e (.lst [])):=λc o h z=>k5e c o (k5 c o h z) (by simp);generalize upd H5 e (.lst [])=H6 at k5e hB6 hW6 hE6 k46 ⊢;refine ne_nil_is (SqL.of hW6) (SqL.of hE6) ?_;refine⟨_,rfl,ite2 (λc=>?_) (λc=>?_)⟩
     .obtain ⟨W0,x0,rfl⟩:∃W0 x0,W=W0++[x0]:=by
       have:W≠[]:=λz=>by rw[z]at c;exact absurd c (by decide)
       exact⟨W.dropLast,W.getLast this,(qD3 this).symm⟩
      have eW:(W0++[x0]).map V.str=W0.map V.str++[.str x0]:=by rw[qAN];rfl
      have hW6:H6 wa=some (.lst (W0.map V.str++[.str x0])):=by rw[<-eW];exact hW6
      have cap0:=I5.cap;rw[qAl,qCi]at cap0;have hx0:x0∈ns:=((I5.wl x0 (by simp)).to hm.two hq).2;refine⟨_,rfl,.inl ⟨rfl,_,SqL.of hW6⟩,_,_,.str x0,rfl,rfl,hW6,(by simp),?_⟩;rw[List.dropLast_concat];have k7:Kp [b,wa] H4 (upd H6 wa (.lst (W0.map V.str))):=Kp.put k46 (by simp);have hW7:Txs (upd H6 wa (.lst (W0.map V.str))) wa W0:=upd_same;have hB7:SetD (upd H6 wa (.lst (W0.map V.str))) b B:=(upd_ne nwb).trans hB6;generalize upd H6 wa (.lst (W0.map V.str))=H7 at k7 hW7 hB7 ⊢;have s3:szAt H5 b=B.length:=by rw[szAt_dK hB,zC9]
      have s4:szAt H5 wa=W0.length+1:=by rw[zI8 hW,qAD,qAl];rfl
      obtain⟨o,g1,g2⟩:=zF8 hB7 x0;have hd7:=k7 d _ hd4 (nm2 ndb nwd);refine⟨_,rfl,_,rfl,_,rfl,_,_,rfl,gd hd7,_,o,rfl,g1,_,rfl,?_⟩;rw[g2];refine ite2 (λc2=>?_) (λc2=>?_)
      .have c2':x0∉B:=by simpa using c2
       obtain⟨I7,less⟩:=I5.new c2' hx0 hn hz;refine⟨_,rfl,_,rfl,_,_,rfl,gd hd7,_,rfl,_,_,rfl,DPut.k (k:=Sum.inr x0) hB7 ?_,?_⟩
       .have:=zDi I5.nd I5.sub;rw[zC9,qAI];lia
       rw[zEe _ c2',<-dT1_snoc B x0 λ_=>.bl true];have hW8:Txs (upd H7 b (.dK (dT1 (B++[x0]) λ_=>.bl true))) wa W0:=(upd_ne nwb.symm).trans hW7;have k8:Kp [b,wa] H4 (upd H7 b (.dK (dT1 (B++[x0]) λ_=>.bl true))):=Kp.put k7 (by simp);have hB8:SetD (upd H7 b (.dK (dT1 (B++[x0]) λ_=>.bl true))) b (B++[x0]):=upd_same;generalize upd H7 b (.dK (dT1 (B++[x0]) λ_=>.bl true))=H8 at k8 hW8 hB8 ⊢;have N8:NR H8 d0 ns na (zBc qs):=N4.kp k8 n0b nab;refine⟨_,rfl,.inl ⟨rfl,_,SqL.of hW8⟩,_,rfl,_,rfl,_,_,rfl,N8.get hx0,_,_,_,_,rfl,rfl,hW8,N8.row x0 hx0,?_,?_⟩
       .have:=zFs qs x0;rw[qAD,qAD,qAI];lia
       have hW9:∀Hx:Hp,Txs (upd Hx wa (.lst (W0.map V.str++(zBc qs x0).map V.str))) wa (W0++zBc qs x0):=λHx=>by
        show upd _ wa _ wa=some (.lst ((W0++zBc qs x0).map V.str));rw[upd_same,qAN]
       refine⟨⟨⟨_,rfl⟩,Kp.put k8 (by simp),B++[x0],W0++zBc qs x0,(upd_ne nwb).trans hB8,hW9 _,I7⟩,?_⟩;have s1:∀o,szAt (upd H8 wa o) b=(B++[x0]).length:=λo=>by rw[szAt_dK ((upd_ne nwb).trans hB8),zC9]
       have s2:szAt (upd H8 wa (.lst (W0.map V.str++(zBc qs x0).map V.str))) wa=(W0++zBc qs x0).length:=by rw[zI8 (hW9 H8),qAD]
       show 307*(20-szAt _ b)+szAt _ wa<307*(20-szAt H5 b)+szAt H5 wa;rw[s1,s2,s3,s4];lia
      .have c2':x0∈B:=by simpa using c2
       refine⟨⟨⟨_,rfl⟩,k7,B,W0,hB7,hW7,I5.old c2'⟩,?_⟩;have s1:szAt H7 b=B.length:=by rw[szAt_dK hB7,zC9]
       have s2:szAt H7 wa=W0.length:=by rw[zI8 hW7,qAD]
       show 307*(20-szAt H7 b)+szAt H7 wa<307*(20-szAt H5 b)+szAt H5 wa;rw[s1,s2,s3,s4];lia
     .have eW:W=[]:=by
       cases W with
       |nil=>rfl
       |cons _ _=>exact absurd (qAS (by simp)) c
      subst eW;have k6:Kp [] H H6:=λc o h _=>k46 c o (k04 c o h (by simp)) (nm2 (ne_fre fbH h) (ne_fre fwH h))
      have q6:Kp [d] H1 H6:=λc o h z=>by
       have h2:=q2 c o h z;have h3:=q3 c o h2 z;exact k46 c o (k4 c o h3 (by simp)) (nm2 (ne_fre fb h2) (ne_fre fw h3))
      have hd6:=k46 d _ hd4 (nm2 ndb nwd)
      have cs:∀x,x∈ns.take (i0+1)->(x∈ns.take i0/\x≠n)\/x=n:=λx h=>by
       rw[zAh en]at h;rcases qAT.mp h with z|z
       .exact .inl ⟨z,λy=>ni (y▸z)⟩
       .exact .inr (qAP.mp z)
      refine⟨⟨_,_,_,rfl⟩,k6,q6,λx=>if x=n then b else la x,λx=>if x=n then B else L x,⟨hd6,λx hx=>?_,λx hx=>?_,D.fr,λx hx=>?_⟩,λx hx=>?_⟩
      .show SetD H6 (if x=n then b else la x) (if x=n then B else L x);rcases cs x hx with⟨z1,z2⟩|z
       .rw [qAB z2,qAB z2];have h3:=hs3 x z1;exact k46 _ _ (k4 _ _ h3 (by simp)) (nm2 (nlb x z1) (ne_fre fw h3))
       .rw [qAC z,qAC z];exact hB6
      .show (if x=n then b else la x)≠d;rcases cs x hx with⟨z1,z2⟩|z
       .rw [qAB z2];exact D.ne x z1
       .rw [qAC z];exact ndb.symm
      .show Fre H (if x=n then b else la x);rcases cs x hx with⟨z1,z2⟩|z
       .rw [qAB z2];exact D.frs x z1
       .rw [qAC z];exact fbH
      .show (if x=n then B else L x).Nodup/\∀y,y∈(if x=n then B else L x)↔_;rcases cs x hx with⟨z1,z2⟩|z
       .rw [qAB z2];exact hL x z1
       .rw [qAC z,z];exact⟨I5.nd,I5.all⟩
    .obtain ⟨x,e,h1,h2⟩:=hc;refine⟨x,e,h1,λl hl=>?_⟩;rcases h2 l hl with⟨a,c,xs,ys,q1,q2,q3,q4,q5,q6,b,q7,q8⟩|⟨a,c,xs,ys,q1,q2,q3,q4,q5,b,q7,q8⟩
     .exact .inl ⟨a,c,xs,ys,q1,q2,q3,q4,q5,q6,b,q7,hq _ _ q8⟩
     .exact .inr ⟨a,c,xs,ys,q1,q2,q3,q4,q5,b,q7,hq _ _ q8⟩
   .rintro σ H2 ⟨⟨o3,o5,o6,rfl⟩,k2,q2,la,L,D,hL⟩;rw[eT]at D hL;exact⟨_,rfl,k d la L H2 D hL k2⟩
end
def zJy(J:JR):Bool:=J.ns.all λn=>decide ((strB J n).length<=1)
section
def spGath(C:Addr):Sp:=λvs H Q _=>∃(j:Addr)(J:JR),vs=[.ref j]/\JobsAt C H j J/\∀H',Kp [] H H'->Q (.bl (zJy J)) H'
abbrev zCc:Stmt:=top 30
theorem zHf:FnScope ["jobs"] ["jobs"] (zAd zCc):=fnS
theorem zHq(F:Fun K "is_gathering" "is_gathering" zCc f fd)(T:Txt K mg)(U:JC K mg C)(M_names:Mth P w K mg base C "names" 1 ["self"] (zE1 C))(M_straight:Mth P w K mg base C "straight" 4 ["self","name"] (zIm C)):FnOk P w K mg base CX0 5 f fd ["jobs"] (spGath C):=by
 refine F.ok zHf (λvs H Q E h=>?_) (λcdv A outer s H vs Q E hr h=>?_)
 .obtain ⟨j,J,rfl,_⟩:=h;rfl
 .obtain ⟨j,J,rfl,A0,k⟩:=h;have hr1:=hr.mono (j:=1) (by decide);refine⟨_,(zAe (zAm (zAi (zDz _ rfl) (by rfl) T.z_all zH6 (zAa (zAt rfl (zAz (sc:=zAd zCc) rfl (by decide +kernel)) (Draws.own (x:="name") (dtk (i:=0) rfl Draws.nil)) (zAj (zDd M_names U.cl hr1 (pv 0))) (λ_ _ _ _=>(pgB (i:=0))) (λ_ _ _ _=>zBl) (λC₀ s₀ H₀ ex=>(zCi op_le (zAi (zDy (K:=K)) (by rfl) T.z_len zBw (zAa (zEs M_straight U.cl hr (pv 1) (zAa (pv 0) zAc)) zAc)) zAf (zAq _)))) zAc)))),?_⟩;refine⟨_,rfl,j,J.dx,_,rfl,A0.ob,zGz _ _ _ (by decide +kernel) (by decide +kernel) (by decide +kernel),j,J,rfl,A0,λa H1 fa h1 k1=>?_⟩
  refine⟨_,rfl,⟨_,SqL.of h1⟩,λB hB=>zAw (J.ns.map V.str) (λi ys τ H3=>(∃o0,τ=[o0,some (.ref j)])/\ys=((J.ns.take i).map λn=>V.bl (decide ((strB J n).length<=1)))/\Kp [] H1 H3/\H3 B=some (.lst ys)) ⟨⟨_,rfl⟩,rfl,Kp.new Kp.refl hB,upd_same⟩ (λi ys τ H3 ⟨_,_,k3,_⟩=>SqL.of (k3 a _ h1 (by simp))) ?_ ?_⟩
  .rintro i v ys τ H3 hv ⟨⟨o0,rfl⟩,rfl,k3,h3⟩;obtain⟨n,en,rfl⟩:=zA3 hv;have mn:=qAJ en;have A3:=A0.kp0 (k1.trans k3);refine⟨_,rfl,j,J.dx,_,rfl,A3.ob,zGz _ _ _ (by decide +kernel) (by decide +kernel) (by decide +kernel),_,rfl,j,J,n,rfl,A3,mn,λb H4 fb hb k4=>?_⟩;refine⟨_,_,rfl,.inl (SqL.of hb),_,_,rfl,rfl,?_⟩;have h4:=k4 B _ h3 (by simp);refine⟨h4,?_,⟨_,rfl⟩,?_,Kp.new (k3.trans k4) hB,upd_same⟩
   .have:=A0.few;rw[qAD,qAR,qAI];lia
   .rw [zAh en,qAN,qAD];have:decide (((strB J n).length:Int)<=1)=decide ((strB J n).length<=1):=by rw[qC7];lia
    show _++[V.bl (decide (((strB J n).length:Int)<=1))]=_;rw[this];rfl
  .rintro ys τ H3 ⟨_,rfl,k3,h3⟩;have eT:J.ns.take (J.ns.map V.str).length=J.ns:=by rw[qAD,qAb]
   rw[eT]at h3;refine⟨B,J.ns.map λn=>decide ((strB J n).length<=1),rfl,SqL.of ?_,?_⟩
   .rw [h3,qAp];rfl
   .have e:((J.ns.map λn=>decide ((strB J n).length<=1)).all id)=zJy J:=by unfold zJy;rw[qC3];rfl
    rw[e];exact k _ (k1.trans k3)
end
theorem bo_dict:bootBuiltins "dict"=some (.type "dict"):=by decide +kernel
theorem kit_ib{K:PySem.W.Frag}:PySem.W.kitOne K (.type "int") (.type "bool")=some false:=by rfl
section
def spOneOf:Sp:=λvs H Q _=>∃(x:Str)(l:Addr)(ns:List Str),vs=[.str x,.ref l]/\Txs H l ns/\Q (.bl (decide (x∈ns))) H
theorem ok_one_of(F:Fun K "is_one_of" "is_one_of" zDl f fd)(T:Txt K mg):FnOk P w K mg base CX0 1 f fd ["thing","names"] spOneOf:=by
 refine F.ok zGn (λvs H Q E h=>?_) (λcdv A outer s H vs Q E hr h=>?_)
 .obtain ⟨v,l,ns,rfl,_⟩:=h;rfl
 .obtain ⟨x,l,ns,rfl,hl,k⟩:=h;refine⟨_,(zAe (zAm (pe_and (zAi zEx (by rfl) T.z_isinstance zBj (zAa (pv 0) (zAa (zGc (by rfl) T.z_str bo_str (v:=.ty "str") rfl) zAc))) (pe_one (zCi zHn (pv 0) (pv 1) (by rfl)))))),?_⟩;refine⟨_,rfl,_,_,_,_,rfl,TyOf.str x,zFx,_,rfl,iteT ?_⟩;refine⟨_,rfl,_,rfl,_,_,rfl,.inl (SqL.of hl),rfl,zF0 ns,?_⟩;rw[qAB (by decide),zJx];exact k
def spWhole:Sp:=λvs H Q _=>∃n:Int,vs=[.int n]/\Q (.bl true) H
abbrev zF9:Stmt:=top 18
theorem sc_is_whole:FnScope ["thing"] ["thing"] (zAd zF9):=fnS
theorem ok_is_whole(F:Fun K "is_whole" "is_whole" zF9 f fd)(T:Txt K mg):FnOk P w K mg base CX0 1 f fd ["thing"] spWhole:=by
 refine F.ok sc_is_whole (λvs H Q E h=>?_) (λcdv A outer s H vs Q E hr h=>?_)
 .obtain ⟨n,rfl,_⟩:=h;rfl
 .obtain ⟨n,rfl,k⟩:=h;refine⟨_,(zAe (zAm (pe_and (zAi zEx (by rfl) T.z_isinstance zBj (zAa (pv 0) (zAa (zGc (by rfl) T.z_int zI2 (v:=.ty "int") rfl) zAc))) (pe_one (pe_not (zAi zEx (by rfl) T.z_isinstance zBj (zAa (pv 0) (zAa (zGc (by rfl) T.z_bool bo_bool (v:=.ty "bool") rfl) zAc)))))))),?_⟩;exact⟨_,rfl,_,_,_,_,rfl,TyOf.int n,zFx,_,rfl,iteT ⟨_,rfl,_,_,_,_,rfl,TyOf.int n,kit_ib,_,rfl,k⟩⟩
def spBench:Sp:=λvs H Q _=>∃b:Int,vs=[.int b]/\1<=b/\Q .non H
abbrev zCr:Stmt:=top 21
theorem zGt:FnScope ["benches"] ["benches"] (zAd zCr):=fnS
theorem zGx(F:Fun K "check_benches" "check_benches" zCr f fd)(C_is_whole:Cal P w K mg base "is_whole" 1 ["thing"] spWhole):FnOk P w K mg base CX0 2 f fd ["benches"] spBench:=by
 refine F.ok zGt (λvs H Q E h=>?_) (λcdv A outer s H vs Q E hr h=>?_)
 .obtain ⟨n,rfl,_⟩:=h;rfl
 .obtain ⟨n,rfl,h1,k⟩:=h
  refine⟨_,(zAe (zB5 (PW.pt (pw_or (zDc (zC4 (zAg C_is_whole hr rfl (zAa (pv 0) zAc)))) (zHk (zAo op_lt (pv 0) zAf (zAq _))))) (zAe zBq) zAr)),?_⟩
  refine⟨_,rfl,n,rfl,_,rfl,iteF ⟨_,rfl,_,_,rfl,rfl,_,rfl,?_⟩⟩;rw[qAa (by lia)];exact iteF k
def rdyB(J:JR)(A:List Str)(n:Str):Bool:=(J.ns.filter λm=>decide (m∈J.S n)).all λm=>decide (m∈A)
def spReady(C:Addr):Sp:=λvs H Q _=>∃(j d:Addr)(J:JR)(A:List Str)(n:Str),vs=[.ref j,.ref d,.str n]/\JobsAt C H j J/\SetD H d A/\n∈J.ns/\∀H',Kp [] H H'->Q (.bl (rdyB J A n)) H'
abbrev zEq:Stmt:=top 24
theorem sc_is_ready:FnScope ["jobs","earlier","name"] ["jobs","earlier","name"] (zAd zEq):=fnS
theorem ok_is_ready(F:Fun K "is_ready" "is_ready" zEq f fd)(T:Txt K mg)(U:JC K mg C)(M_ahead:Mth P w K mg base C "ahead" 3 ["self","name"] (spAhead C)):FnOk P w K mg base CX0 4 f fd ["jobs","earlier","name"] (spReady C):=by
 refine F.ok sc_is_ready (λvs H Q E h=>?_) (λcdv A outer s H vs Q E hr h=>?_)
 .obtain ⟨j,d,J,A,n,rfl,_⟩:=h;rfl
 .obtain ⟨j,d,J,D0,n,rfl,A0,hd,hn,k⟩:=h;have hu:=zCn hr;refine⟨_,(zAe (zAm (zAi (zDz _ rfl) (by rfl) T.z_all zH6 (zAa (zAt rfl (zAz (sc:=zAd zEq) rfl (by decide +kernel)) (Draws.own (x:="one") (dtk (i:=1) rfl Draws.nil)) (zAj (zEs M_ahead U.cl hr (pv 0) (zAa (pv 2) zAc))) (λ_ _ _ _=>(pgB (i:=0))) (λ_ _ _ _=>zBl) (λ_ _ _ _=>(pe_cmp (zFq hu (pv 0) (pv 1))))) zAc)))),?_⟩;refine⟨_,rfl,j,J.dx,_,rfl,A0.ob,zGz _ _ _ (by decide +kernel) (by decide +kernel) (by decide +kernel),_,rfl,j,J,n,rfl,A0,hn,λa H1 fa h1 k1=>?_⟩;have hd1:=k1 d _ hd (by simp);have hml:(J.ns.filter λm=>decide (m∈J.S n)).length<=20:=qAL (qAq _ _) A0.few;have ek:rdyB J D0 n=(J.ns.filter λm=>decide (m∈J.S n)).all λm=>decide (m∈D0):=rfl;rw[ek]at k;generalize (J.ns.filter λm=>decide (m∈J.S n))=ms at h1 hml k;refine⟨_,rfl,⟨_,SqL.of h1⟩,λB hB=>zAw (ms.map V.str) (λi ys τ H'=>(∃o0,τ=[o0,some (.ref d)])/\ys=((ms.take i).map λm=>V.bl (decide (m∈D0)))/\H'=upd H1 B (.lst ys)) ⟨⟨_,rfl⟩,rfl,rfl⟩ (λi ys τ H' ⟨_,_,e⟩=>by subst e;exact SqL.of ((upd_ne (ne_fre (show Fre H1 B from hB) h1)).trans h1)) ?_ ?_⟩
  .rintro i v ys τ H' hv ⟨⟨o0,rfl⟩,rfl,rfl⟩;obtain⟨m,em,rfl⟩:=zA3 hv;refine⟨_,rfl,_,rfl,_,_,rfl,DGet.k (k:=Sum.inr m) ((upd_ne (ne_fre (show Fre H1 B from hB) hd1)).trans hd1),upd_same,?_,⟨_,rfl⟩,?_,zAx⟩
   .rw [qAD,qAR,qAI];lia
   .rw [zAh em,qAN,zH3];rfl
  .rintro ys τ H' ⟨_,rfl,rfl⟩;have eM:ms.take (ms.map V.str).length=ms:=by rw[qAD,qAb]
   refine⟨B,ms.map λm=>decide (m∈D0),rfl,SqL.of ?_,?_⟩
   .rw [upd_same,eM,qAp];rfl
   .rw [qC3];exact k _ (Kp.new k1 (k1.fre hB (by simp)))
theorem len_foldA:∀(B A:List Str),(B.foldl addA A).length<=A.length+B.length
 |[],A=>by simp
 |b::B,A=>by
  have h1:=len_foldA B (addA A b)
  have h2:(addA A b).length<=A.length+1:=by
   unfold addA;split
   .lia
   .simp
  rw[qBt,qAc];lia
def spPTake:Sp:=λvs H Q _=>∃(d l:Addr)(A ws:List Str),vs=[.ref d,.ref l]/\SetD H d A/\Txs H l ws/\A.length+ws.length<=4096/\∀H',SetD H' d (ws.foldl addA A)->Kp [d] H H'->Q .non H'
abbrev s_ptake:Stmt:=top 25
theorem sc_ptake:FnScope ["taken","row","name"] ["taken","row"] (zAd s_ptake):=fnS
theorem ok_ptake(F:Fun K "take" "take" s_ptake f fd):FnOk P w K mg base CX0 1 f fd ["taken","row"] spPTake:=by
 refine F.ok sc_ptake (λvs H Q E h=>?_) (λcdv A outer s H vs Q E hr h=>?_)
 .obtain ⟨d,l,A,ws,rfl,_⟩:=h;rfl
 .obtain ⟨d,l,D0,ws,rfl,hd,hl,hz,k⟩:=h;have hu:=zCn hr
  have ndl:l≠d:=λz=>by
   have h2:H d=some (.lst (ws.map V.str)):=by rw[<-z];exact hl
   rw[show H d=_ from hd]at h2
   cases h2
  refine⟨_,(zAe (zA1 qAg rfl (zAj (pv 1)) (pgN (i:=2) sc_ptake.nd) (zAe (zB6 hu (pv 0) (pv 2) zIb rfl)))),?_⟩
  refine⟨_,rfl,_,rfl,⟨_,SqL.of hl⟩,zA8 (xs:=ws.map V.str) (λi σ H2=>(∃o2,σ=[some (.ref d),some (.ref l),o2])/\SetD H2 d ((ws.take i).foldl addA D0)/\Kp [d] H H2) ⟨⟨_,rfl⟩,hd,Kp.refl⟩ (λi σ H2 _ ⟨_,_,k2⟩=>SqL.of (k2 l _ hl (nm1 ndl))) ?_ ?_⟩
  .rintro i v σ H2 hv ⟨⟨o2,rfl⟩,h2,k2⟩;obtain⟨m,em,rfl⟩:=zA3 hv;have hlf:=len_foldA (ws.take i) D0;rw[qAR]at hlf;refine⟨_,rfl,_,rfl,_,_,rfl,DPut.k (k:=Sum.inr m) h2 (by rw[qAD,qAI];lia),?_⟩;refine⟨⟨_,rfl⟩,?_,Kp.put k2 (by simp)⟩;rw[zJg,zAh em,List.foldl_append];exact upd_same
  .rintro σ H2 ⟨_,h2,k2⟩;rw[qAD,qAb]at h2;exact k H2 h2 k2
end
end My
namespace L2
open PySem PySem.Spec PyProof.Rows
section
variable{X:Cx}{pins:List (Addr×Obj)}{s:Shared}{σ:St}{H:Hp}
theorem zD5:zCa X (.builtin "sorted") (λxs H Q=>∃(l:Addr)(ys:List Str),xs=[.ref l]/\SqL X.K H l (ys.map V.str)/\ys.length<64/\∀b zs,H b=none->zs.Perm ys->RiseS zs->Q (.ref b) (upd H b (.lst (zs.map V.str)))):=by
 intro pins s σ H xs us Q I r h;obtain⟨l,ys,rfl,hl,hc,q⟩:=h;obtain⟨u,rfl,rx⟩:=zH9 r
 cases rx
 obtain⟨its,r',pl,hz⟩:=I.list hl;have hS:=zG9 r';have hsl:(4096:Nat)<=sizeLine:=by decide +kernel
 have hln:its.length=ys.length:=ST.strs_len hS
 refine ST.w_sortedCS (kd:=oneType') (κ:=PyProof.Rows.strKind)
  (J:=λvs s1=>vs=its/\∃h1,s1={s with heap:=h1}/\∀b o,s.heap.get? b=some o->h1.get? b=some o)
  (collect_list pl.isList ⟨rfl,_,rfl,λb o e=>?_⟩ (by lia)) λvs s1 ⟨v1,h1,v2,v3⟩=>?_
 .have hlt:=qAH e;rw[qBG _ _ (qAt hlt)];exact qAG _ e
 .subst v1 v2;refine⟨by lia,λh' up=>ST.strs_sortable hS,λout c h' p1 p2 p3 up=>?_⟩;have hall:∀v∈out,∃x t,v= .str x t:=λv hv=>hS.all v (p1.mem_iff.mp hv);have hO:=strsAre_map out hall
  have hpz:(out.map strOf).Perm ys:=by
   have:=p1.map strOf
   rwa [hS.strs]at this
  have hri:RiseS (out.map strOf):=by
   unfold RiseS;rw[qBn];refine p2.imp_of_mem λ{x y} hx hy z=>?_;obtain⟨x',t,rfl⟩:=hall x hx;obtain⟨y',u,rfl⟩:=hall y hy;have z:decide (ST.sg y'<ST.sg x')=false:=z;exact qDU z
  have I1:=I.kept1 v3
  have hz:((out.map strOf).map V.str).length<=sizeLine:=by
   rw[qAD,hpz.length_eq];lia
  exact⟨.ref h1.objs.size,_,I1.laid (t':=s.toks) up (qAF _) (show zA0 X.prog X.w _ h' _ (.lst ((out.map strOf).map V.str))from⟨hz,_,c,zFf hO,p3⟩),rfl,q _ _ (I1.hok.fresh (qAF _)) hpz hri⟩
end
end L2
namespace My
open PySem L2
variable{H0 H:Hp}{l:Addr}{J:JR}{n:Str}
theorem rise_one:∀{xs ys:List Str},RiseS xs->RiseS ys->xs.Perm ys->xs=ys
 |[],ys,_,_,p=>by rw[List.nil_perm.mp p]
 |x::xs,ys,h1,h2,p=>by
  cases ys with
  |nil=>exact absurd p (by simp)
  |cons y ys=>
   obtain⟨a1,a2⟩:=List.pairwise_cons.mp h1;obtain⟨b1,b2⟩:=List.pairwise_cons.mp h2
   have ex:x=y:=by
    rcases qAM.mp (p.mem_iff.mp qAY)with z|z
    .exact z
    rcases qAM.mp (p.mem_iff.mpr (qAY (a:=y) (l:=ys)))with z'|z'
    .exact z'.symm
    .rcases ST.sg_tri x y with q|q|q
     .exact absurd q (b1 x z)
     .exact q
     .exact absurd q (a1 y z')
   subst ex;rw[rise_one a2 b2 (List.Perm.cons_inv p)]
section
variable{P:Program}{w:World}{K:PySem.W.Frag}{mg:Str->Option Value}{base:Heap}{C:Addr}
def zIo:Sp:=λvs H Q _=>∃(l m:Addr)(ns ws:List Str),vs=[.ref l,.ref m]/\Txs H l ns/\ns.length<=20/\Txs H m ws/\ws.Perm ns/\∀H',Kp [] H H'->Q .non H'
abbrev zDn:Stmt:=top 28
theorem sc_check_row:FnScope ["names","row"] ["names","row"] (zAd zDn):=fnS
theorem ok_check_row{f:Addr}{fd:FuncData}(F:Fun K "check_row" "check_row" zDn f fd)(T:Txt K mg)(C_is_one_of:Cal P w K mg base "is_one_of" 1 ["thing","names"] spOneOf):FnOk P w K mg base CX0 2 f fd ["names","row"] zIo:=by
 refine F.ok sc_check_row (λvs H Q E h=>?_) (λcdv A outer s H vs Q E hr h=>?_)
 .obtain ⟨l,m,ns,xs,rfl,_⟩:=h;rfl
 .obtain ⟨l,m,ns,ws,rfl,hl,hn,hm,pm,k⟩:=h;have HR_is_one_of:=hr;have hwl:ws.length<=20:=by rw[pm.length_eq];exact hn
  refine⟨_,(zAe (zB5 (PW.pt (pw_or (zDc (zC4 (zAi (zDz _ rfl) (by rfl) T.z_all zH6 (zAa (zAt rfl (zAz (sc:=zAd zDn) rfl (by decide +kernel)) (Draws.own (x:="thing") (dtk (i:=0) rfl Draws.nil)) (zAj (pv 1)) (λ_ _ _ _=>(pgB (i:=0))) (λ_ _ _ _=>zBl) (λ_ _ _ _=>(zAg C_is_one_of HR_is_one_of rfl (zAa (pv 0) (zAa (pv 1) zAc))))) zAc)))) (zHk (zAo (op_neS (hu0 hr)) (zAi zD5 (by rfl) T.z_sorted zCv (zAa (pv 1) zAc)) (zAi zD5 (by rfl) T.z_sorted zCv (zAa (pv 0) zAc)) (zAq _))))) (zAe zBq) zAr)),?_⟩
  refine⟨_,rfl,_,rfl,⟨_,SqL.of hm⟩,λB hB=>zAw (ws.map V.str) (λi ys τ H'=>(∃o0,τ=[o0,some (.ref l)])/\ys=((ws.take i).map λv=>V.bl (decide (v∈ns)))/\H'=upd H B (.lst ys)) ⟨⟨_,rfl⟩,rfl,rfl⟩ (λi ys τ H' ⟨_,_,e⟩=>by subst e;exact SqL.of ((upd_ne (ne_fre (show Fre H B from hB) hm)).trans hm)) ?_ ?_⟩
  .rintro i v ys τ H' hv ⟨⟨o0,rfl⟩,rfl,rfl⟩;obtain⟨n,en,rfl⟩:=zA3 hv;have kB:Kp [] H (upd H B (.lst ((ws.take i).map λv=>V.bl (decide (v∈ns))))):=Kp.new Kp.refl hB;refine⟨_,rfl,_,rfl,n,l,ns,rfl,kB l _ hl (by simp),upd_same,?_,⟨_,rfl⟩,?_,zAx⟩
   .rw [qAD,qAR,qAI];lia
   .rw [zAh en,qAN];rfl
  .rintro ys τ H' ⟨_,rfl,rfl⟩;have eM:ws.take (ws.map V.str).length=ws:=by rw[qAD,qAb]
   refine⟨B,ws.map λv=>decide (v∈ns),rfl,SqL.of ?_,?_⟩
   .rw [upd_same,eM,qAp];rfl
   .rw [eM]
    have ea:((ws.map λv=>decide (v∈ns)).all id)=true:=by
     rw[qC3,qBF];exact λx hx=>qAS (pm.mem_iff.mp hx)
    rw[ea];have kB:Kp [] H (upd H B (.lst (ws.map λv=>V.bl (decide (v∈ns))))):=Kp.new Kp.refl hB;generalize upd H B (.lst (ws.map λv=>V.bl (decide (v∈ns))))=H1 at kB;refine⟨_,rfl,iteF ?_⟩;refine⟨_,rfl,_,ws,rfl,SqL.of (kB m _ hm (by simp)),by lia,λb zs hb p1 r1=>?_⟩;have fb:Fre H1 b:=hb;refine⟨_,rfl,_,ns,rfl,SqL.of ((upd_ne (ne_fre fb (kB l _ hl (by simp)))).trans (kB l _ hl (by simp))),by lia,λc yz hc p2 r2=>?_⟩;have fc:=(show Fre _ c from hc);refine⟨_,_,zs,yz,rfl,rfl,SqL.of ((upd_ne (ne_fre fc upd_same)).trans upd_same),SqL.of upd_same,_,rfl,?_⟩;have K2:Kp [] H1 (upd (upd H1 b (.lst (zs.map V.str))) c (.lst (yz.map V.str))):=Kp.trans (Kp.new Kp.refl fb) (Kp.new Kp.refl fc);have e:zs=yz:=rise_one r1 r2 (p1.trans (pm.trans p2.symm));rw[qAC rfl,qAS e];exact iteF (k _ (kB.trans K2))
end
structure RowsAt(H0 H:Hp)(l:Addr)(as:List Addr)(rs:List (List Str)):Prop where
 top:H l=some (.lst (as.map V.ref))
 len:as.length=rs.length
 row:∀(i:Nat)(a:Addr)(r:List Str),as[i]?=some a->rs[i]?=some r->H a=some (.lst (r.map V.str))
 ne:∀a∈as,a≠l
 fr:Fre H0 l
 frs:∀a∈as,Fre H0 a
theorem RowsAt.mem{as:List Addr}{rs:List (List Str)}(R:RowsAt H0 H l as rs){a:Addr}(h:a∈as):∃r,r∈rs/\H a=some (.lst (r.map V.str)):=by
 obtain⟨i,hi,rfl⟩:=qA1.mp h;have hi':i<rs.length:=by rw[<-R.len];exact hi
 exact⟨rs[i],qBl hi',R.row i _ _ (by simp) (by simp)⟩
theorem RowsAt.kp{M:List Addr}{H':Hp}{as:List Addr}{rs:List (List Str)}(R:RowsAt H0 H l as rs)(k:Kp M H H')(h1:l∉M)(h2:∀a∈as,a∉M):RowsAt H0 H' l as rs :=
 ⟨k l _ R.top h1,R.len,λi a r e1 e2=>k a _ (R.row i a r e1 e2) (h2 a (qAJ e1)),R.ne,R.fr,R.frs⟩
theorem RowsAt.nil(h:H l=some (.lst []))(f:Fre H0 l):RowsAt H0 H l [] [] :=
 ⟨h,rfl,(λi a r e=>by simp at e),(λa h=>by simp at h),f,(λa h=>by simp at h)⟩
theorem RowsAt.more{b:Addr}{as:List Addr}{rs:List (List Str)}{r:List Str}(R:RowsAt H0 H l as rs)(hb:H b=some (.lst (r.map V.str)))(n:b≠l)(f:Fre H0 b):RowsAt H0 (upd H l (.lst (as.map V.ref++[.ref b]))) l (as++[b]) (rs++[r]):=by
 refine⟨by rw[upd_same];simp,by simp[R.len],λi a q e1 e2=>?_,λa h=>?_,R.fr,λa h=>?_⟩
 .by_cases hi:i<as.length
  .rw [qBs hi]at e1;rw[qBs (by rw[<-R.len];exact hi)]at e2;rw[upd_ne (R.ne a (qAJ e1))];exact R.row i a q e1 e2
  .rw [qB1 (by lia)]at e1;rw[qB1 (by rw[<-R.len];lia)]at e2;have hl:=R.len
   have h0:i-as.length=0:=by
    have:=(qAf.mp e1).1;simp at this;lia
   rw[h0]at e1;rw[<-hl,h0]at e2;have e1:b=a:=by simpa using e1
   have e2:r=q:=by simpa using e2
   subst e1 e2;rw[upd_ne n];exact hb
 .rcases qAT.mp h with z|z
  .exact R.ne a z
  .have:a=b:=by simpa using z
   subst this;exact n
 .rcases qAT.mp h with z|z
  .exact R.frs a z
  .have:a=b:=by simpa using z
   subst this;exact f
def zCd(J:JR)(b:Nat)(A L:List Str):List Str:=(L.filter (rdyB J A)).take b
def zDr(J:JR)(b:Nat)(A L:List Str):List Str:=(zCd J b A L).foldl addA A
def zFa(J:JR)(b:Nat)(A L:List Str):List Str:=L.filter λn=>decide (n∉zDr J b A L)
def zDs(J:JR)(b:Nat):Nat->List Str->List Str->List (List Str)
 |0,_,_=>[]
 |f+1,A,L=>if L=[]then[]else zCd J b A L::zDs J b f (zDr J b A L) (zFa J b A L)
theorem zHu(J:JR)(b f:Nat)(A:List Str):zDs J b f A []=[]:=by
 cases f with
 |zero=>rfl
 |succ f=>exact qAC rfl
structure ListI(J:JR)(r:Str->Nat)(A L:List Str):Prop where
 rk:∀n∈J.ns,∀x∈J.S n,r x<r n
 an:A.Nodup
 ai:∀n∈A,n∈J.ns
 li:∀n∈L,n∈J.ns
 al:∀n∈J.ns,n∈A\/n∈L
theorem ListI.turn{r:Str->Nat}{A L:List Str}(I:ListI J r A L){b:Nat}(hb:1<=b)(h:L≠[]):zCd J b A L≠[]:=by
 obtain⟨n,n1,n2⟩:=zHx r L h
 have hr:rdyB J A n=true:=by
  unfold rdyB;rw[qBF];intro m hm;obtain⟨m1,m2⟩:=qAQ.mp hm;refine qAS ?_;rcases I.al m m1 with z|z
  .exact z
  .have h1:=n2 m z;have h2:=I.rk n (I.li n n1) m (qAo m2);lia
 have hn:n∈L.filter (rdyB J A):=qAQ.mpr ⟨n1,hr⟩;unfold zCd
 cases e:L.filter (rdyB J A)with
 |nil=>rw[e]at hn;cases hn
 |cons x xs=>
  cases b with
  |zero=>lia
  |succ b=>simp
theorem zD8{b:Nat}{A L:List Str}(h:n∈zCd J b A L):n∈L:=(qAQ.mp (qCS h)).1
theorem ListI.next{r:Str->Nat}{A L:List Str}(I:ListI J r A L)(b:Nat):ListI J r (zDr J b A L) (zFa J b A L) where
 rk:=I.rk
 an:=zE9 _ _ I.an
 ai:=λn hn=>by
  rcases(zB1 _ _).mp hn with z|z
  .exact I.ai n z
  .exact I.li n (zD8 z)
 li:=λn hn=>I.li n (qAQ.mp hn).1
 al:=λn hn=>by
  by_cases z:n∈zDr J b A L
  .exact .inl z
  .refine .inr (qAQ.mpr ⟨?_,qAS z⟩);rcases I.al n hn with q|q
   .exact absurd ((zB1 _ _).mpr (.inl q)) z
   .exact q
theorem ListI.less{r:Str->Nat}{A L:List Str}(I:ListI J r A L){b:Nat}(hb:1<=b)(h:L≠[]):(zFa J b A L).length<L.length:=by
 cases e:zCd J b A L with
 |nil=>exact absurd e (I.turn hb h)
 |cons x xs=>
  have hx:x∈zCd J b A L:=by rw[e];exact qAY
  exact zH5 (zD8 hx) (qAa λz=>z ((zB1 _ _).mpr (.inr hx)))
def lenAt(i:Nat)(σ:St)(H:Hp):Nat:=match (σ[i]?:Option (Option V))with
 |some (some (.ref a))=>match H a with
  |some (.lst xs)=>xs.length
  |_=>0
 |_=>0
section
variable{P:Program}{w:World}{K:PySem.W.Frag}{mg:Str->Option Value}{base:Heap}{C:Addr}
def spListed(C:Addr):Sp:=λvs H Q _=>∃(j m:Addr)(b:Int)(J:JR)(r:Str->Nat)(ws:List Str),vs=[.ref j,.int b,.ref m]/\JobsAt C H j J/\(∀n∈J.ns,∀x∈J.S n,r x<r n)/\Txs H m ws/\1<=b/\ws.Perm J.ns/\∀(pl:Addr)(as:List Addr)(H':Hp),RowsAt H H' pl as (zDs J b.toNat ws.length [] ws)->Kp [] H H'->Q (.ref pl) H'
abbrev zFk:Stmt:=top 27
theorem zCp:FnScope ["jobs","benches","row","plan","taken","left","ready","turn"] ["jobs","benches","row"] (zAd zFk):=fnS
theorem ok_listed{f:Addr}{fd:FuncData}(F:Fun K "listed" "listed" zFk f fd)(T:Txt K mg)(U:JC K mg C)(M_names:Mth P w K mg base C "names" 1 ["self"] (zE1 C))(C_check_benches:Cal P w K mg base "check_benches" 2 ["benches"] spBench)
  (C_check_row:Cal P w K mg base "check_row" 2 ["names","row"] zIo) (C_is_ready:Cal P w K mg base "is_ready" 4 ["jobs","earlier","name"] (spReady C)) (C_take:Cal P w K mg base "take" 1 ["taken","row"] spPTake):FnOk P w K mg base CX0 5 f fd ["jobs","benches","row"] (spListed C):=by
 refine F.ok zCp (λvs H Q E h=>?_) (λcdv A outer s H vs Q E hr h=>?_)
 .obtain ⟨j,m,b,J,r,ws,rfl,_⟩:=h;rfl
 .obtain ⟨j,m,b,J,r,ws,rfl,A0,hrk,hm,hb,hp,k⟩:=h;have hu:=zCn hr;have hr2:=hr.mono (j:=2) (by decide);have hr1:=hr.mono (j:=1) (by decide);have HR_is_ready:Room 4 _:=hr
  refine⟨_,(zAb (zA2 (zAg C_check_benches hr2 rfl (zAa (pv 1) zAc))) (zAb (zA2 (zAg C_check_row hr2 rfl (zAa (zDd M_names U.cl hr1 (pv 0)) (zAa (pv 2) zAc))))
   (zAb (psS (i:=3) zCp.nd (zBv zAc))
   (zAb (psS (i:=4) zCp.nd zBr)
   (zAb (psS (i:=5) zCp.nd (zAv zBi (by rfl) T.z_list zEn (zAa (pv 2) zAc)))
   (zAb (zJh qAg (zG5 (pv 5) (fun _=>rfl))
    (zAb (zGb (i:=6) rfl (zAz (sc:=zAd zFk) rfl (by decide +kernel)) (Draws.own (x:= "name") (dtk (i:=0) rfl (dtk (i:=4) rfl Draws.nil))) (zAj (pv 5)) (fun _ _ _ _=>(pgB (i:=0))) (fun _ _ _ _=>(zBg (zC4 (zAg C_is_ready HR_is_ready rfl (zAa (pv 1) (zAa (pv 2) (zAa (pv 0) zAc))))))) (fun _ _ _ _=>(pv 0)) zCp.nd rfl rfl)
    (zAb (psS (i:=7) zCp.nd (pe_slice sl_list (pv 6) po_none (po_some (pv 1))))
    (zAb (zA2 (zGv qBR qDY qDZ zEh (pv 3) (zAa (pv 7) zAc)))
    (zAb (zA2 (zAg C_take hr1 rfl (zAa (pv 4) (zAa (pv 7) zAc))))
    (zAe (zGb (i:=5) rfl (zAz (sc:=zAd zFk) rfl (by decide +kernel)) (Draws.own (x:="name") (dtk (i:=4) rfl Draws.nil)) (zAj (pv 5)) (λ_ _ _ _=>(pgB (i:=0))) (λ_ _ _ _=>(zBg (zD2 (zEg hu (pv 0) (pv 1))))) (λ_ _ _ _=>(pv 0)) zCp.nd rfl rfl)))))))
   (zAe (zAm (pv 3))))))))),?_⟩
  refine hid7 ?_;intro _ _ _ _ _ _ _;refine⟨_,rfl,b,rfl,hb,?_⟩;refine⟨_,rfl,j,J.dx,_,rfl,A0.ob,zGz _ _ _ (by decide +kernel) (by decide +kernel) (by decide +kernel),j,J,rfl,A0,λa H1 fa h1 k1=>?_⟩;refine⟨_,rfl,a,m,J.ns,ws,rfl,h1,A0.few,k1 m _ hm (by simp),hp,λH2 k2=>?_⟩;have k12:=k1.trans k2;refine⟨(by walk_at"ln"),λpl hpl=>?_⟩;have fpl:Fre H2 pl:=hpl;refine λtk htk=>?_;have ftk:Fre (upd H2 pl (.lst [])) tk:=htk;have npt:pl≠tk:=ne_fre ftk upd_same;have k3:Kp [] H (upd (upd H2 pl (.lst [])) tk (.dK [])):=Kp.trans k12 (Kp.trans (Kp.new Kp.refl fpl) (Kp.new Kp.refl ftk));refine⟨_,rfl,_,_,rfl,.inl (SqL.of (k3 m _ hm (by simp))),λlf hlf=>?_⟩;have flf:=(show Fre _ lf from hlf);have ntl:tk≠lf:=ne_fre flf upd_same;have npl:pl≠lf:=ne_fre flf ((upd_ne npt).trans upd_same);have fpl0:Fre H pl:=k12.fre fpl (by simp);have ftk0:Fre H tk:=(Kp.trans k12 (Kp.new Kp.refl fpl)).fre ftk (by simp);have hwl:ws.length<=20:=by rw[hp.length_eq];exact A0.few
  show tWhile (λσ H Q=>tVar 5 σ H λx H'=>∃k,TruV K x H' k/\Q k H') _ _ _ _
  refine zI3 (λσ H3=>∃(lf:Addr)(D L:List Str)(as:List Addr) (rs:List (List Str)) (f:Nat) (o6 o7:Option V),σ=[some (.ref j),some (.int b),some (.ref m),some (.ref pl),some (.ref tk),some (.ref lf),o6,o7]/\Kp [] H H3/\SetD H3 tk D/\Txs H3 lf L/\RowsAt H H3 pl as rs/\ListI J r D L/\L.length<=f/\f<=20/\rs.length+f<=20/\rs++zDs J b.toNat f D L=zDs J b.toNat ws.length [] ws) (lenAt 5)
   ⟨lf,[],ws,[],[],ws.length,none,none,rfl,Kp.trans k3 (Kp.new Kp.refl flf),(upd_ne ntl).trans upd_same,upd_same,RowsAt.nil ((upd_ne npl).trans ((upd_ne npt).trans upd_same)) fpl0,⟨hrk,qA5,(λ_ h=>nomatch h),λn hn=>hp.mem_iff.mp hn,λn hn=>.inr (hp.mem_iff.mpr hn)⟩,qAF _,hwl,by simpa using hwl,rfl⟩ ?_ (λσ H Q Q' hq hc=>by
    obtain⟨x,e,b,t,q⟩:=hc;exact⟨x,e,b,t,hq _ _ q⟩)
  rintro σ H3 ⟨lf,D,L,as,rs,f,o6,o7,rfl,kh,hD,hL,R,I,hf,hf20,hrf,el⟩;refine⟨_,rfl,_,.inl ⟨_,SqL.of hL,rfl⟩,?_⟩;have hLl:L.length<=20:=by lia
  have A3:=A0.kp0 kh;refine ite2 (λc=>?_) (λc=>?_)
  .have cL:L≠[]:=λz=>by rw[z]at c;simp at c
   refine⟨_,rfl,_,rfl,⟨_,SqL.of hL⟩,λB hB=>zA9 (L.map V.str) (λi ys τ H4=>(∃o0,τ=[o0,some (.ref j),some (.ref tk)])/\ys=((L.take i).filter (rdyB J D)).map V.str/\Kp [] H3 H4/\H4 B=some (.lst ys)) ⟨⟨_,rfl⟩,rfl,Kp.new Kp.refl hB,upd_same⟩ (λi ys τ H4 ⟨_,_,k4,_⟩=>SqL.of (k4 lf _ hL (by simp))) ?_ ?_⟩
   .rintro i y ys τ H4 hy ⟨⟨o0,rfl⟩,rfl,k4,h4⟩;obtain⟨n,en,rfl⟩:=zA3 hy;have mn:=I.li n (qAJ en);refine⟨_,rfl,_,rfl,_,rfl,j,tk,J,D,n,rfl,A3.kp0 k4,k4 tk _ hD (by simp),mn,λH5 k5=>?_⟩;have h5:=k5 B _ h4 (by simp);refine⟨_,rfl,ite2 (λc=>?_) (λc=>?_)⟩
    .refine ⟨_,rfl,h5,?_,⟨_,rfl⟩,?_,Kp.new (k4.trans k5) hB,upd_same⟩
     .rw [qAD];exact zEu (by lia)
     .rw [zDv en c,qAN];rfl
    .refine ⟨⟨_,rfl⟩,?_,k4.trans k5,h5⟩;rw[zFd en c]
   .rintro ys τ H4 ⟨_,rfl,k4,h4⟩;have eT:L.take (L.map V.str).length=L:=by rw[qAD,qAb]
    rw[eT]at h4;refine⟨_,rfl,_,rfl,_,rfl,_,_,rfl,SqL.of h4,λtn htn=>?_⟩;have ftn:Fre H4 tn:=htn
    have ecut:cutV ((L.filter (rdyB J D)).map V.str) none (some b)=(zCd J b.toNat D L).map V.str:=by
     rw[cut_to _ (by lia),<-qDO];rfl
    rw[ecut];have k5:Kp [] H3 (upd H4 tn (.lst ((zCd J b.toNat D L).map V.str))):=Kp.trans k4 (Kp.new Kp.refl ftn);have e5:upd H4 tn (.lst ((zCd J b.toNat D L).map V.str)) tn=some (.lst ((zCd J b.toNat D L).map V.str)):=upd_same;have ftn3:Fre H3 tn:=k4.fre ftn (by simp);have ntp:tn≠pl:=(ne_fre ftn3 R.top).symm;have ntt:tn≠tk:=(ne_fre ftn3 hD).symm;generalize upd H4 tn (.lst ((zCd J b.toNat D L).map V.str))=H5 at k5 e5;have R5:=R.kp k5 (by simp) (λ_ _=>by simp);refine⟨_,rfl,.inl ⟨rfl,_,SqL.of R5.top⟩,_,rfl,_,_,_,rfl,rfl,R5.top,?_,?_⟩
    .rw [qAD,R5.len,qAI];lia
    have fD5:SetD H5 tk D:=k5 tk _ hD (by simp)
    have ntpl:tk≠pl:=λz=>by
     have h2:H5 pl=some (.dK (dT1 D λ_=>.bl true)):=by rw[<-z];exact fD5
     rw[R5.top]at h2;cases h2
    have nlpl:lf≠pl\/True:=.inr trivial;have k6:Kp [pl] H5 (upd H5 pl (.lst (as.map V.ref++[.ref tn]))):=Kp.put Kp.refl (by simp);have R6:=R5.more e5 ntp (kh.fre ftn3 (by simp));have e6:upd H5 pl (.lst (as.map V.ref++[.ref tn])) tn=some (.lst ((zCd J b.toNat D L).map V.str)):=(upd_ne ntp).trans e5;have hL5:=k5 lf _ hL (by simp);have D6:SetD (upd H5 pl (.lst (as.map V.ref++[.ref tn]))) tk D:=(upd_ne ntpl).trans fD5;generalize hH6:upd H5 pl (.lst (as.map V.ref++[.ref tn]))=H6 at k6 R6 e6 D6;have hDl:D.length<=20:=qAL (zDi I.an I.ai) A0.few
    have htl:(zCd J b.toNat D L).length<=20:=by
     have h1:(zCd J b.toNat D L).length<=(L.filter (rdyB J D)).length:=by
      unfold zCd;rw[qAR];lia
     have h2:=qAq (rdyB J D) L;lia
    refine⟨_,rfl,_,rfl,tk,tn,D,zCd J b.toNat D L,rfl,D6,e6,by lia,λH7 h7 k7=>?_⟩
    have K56:Kp [] H H6:=by
     rw[<-hH6];exact Kp.new (kh.trans k5) fpl0
    have K7:Kp [] H H7:=Kp.drop K56 ftk0 k7
    have nast:∀x∈as++[tn],x∉[tk]:=λx hx=>nm1 λz=>by
     obtain⟨q,_,e⟩:=R6.mem hx;rw[z,show H6 tk=_ from D6]at e;cases e
    have R7:=R6.kp k7 (nm1 ntpl.symm) nast;have hfin:∀(lf7:Txs H7 lf L),True:=λ_=>trivial
    by_cases nlp:lf=pl
    .exfalso;rw[nlp,R5.top]at hL5
     cases as with
     |nil=>
      have:L=[]:=by
       have h2:([]:List V)=L.map V.str:=by injection hL5 with h;injection h
       exact List.map_eq_nil_iff.mp h2.symm
      exact cL this
     |cons x xs=>
      cases L with
      |nil=>exact cL rfl
      |cons y ys=>
       injection hL5 with h;injection h with h;simp at h
    have nlt:lf≠tk:=λz=>by
     rw[z,show H5 tk=_ from fD5]at hL5;cases hL5
    have hL7:Txs H7 lf L:=k7 lf _ (by rw[<-hH6];exact(upd_ne nlp).trans hL5) (nm1 nlt);have hnA:SetD H7 tk (zDr J b.toNat D L):=h7
    refine⟨_,rfl,_,rfl,⟨_,SqL.of hL7⟩,λB2 hB2=>zA9 (L.map V.str) (λi ys τ H8=>(∃o0,τ=[o0,some (.ref tk)])/\ys=((L.take i).filter λn=>decide (n∉zDr J b.toNat D L)).map V.str/\H8=upd H7 B2 (.lst ys)) ⟨⟨_,rfl⟩,rfl,rfl⟩ (λi ys τ H8 ⟨_,_,e⟩=>by subst e;exact SqL.of ((upd_ne (ne_fre (show Fre H7 B2 from hB2) hL7)).trans hL7)) ?_ ?_⟩
    .rintro i y ys τ H8 hy ⟨⟨o0,rfl⟩,rfl,rfl⟩;obtain⟨n,en,rfl⟩:=zA3 hy;refine⟨_,rfl,_,rfl,_,_,rfl,DGet.k (k:=Sum.inr n) ((upd_ne (ne_fre (show Fre H7 B2 from hB2) hnA)).trans hnA),_,rfl,?_⟩;rw[zH3]
     have ed:(!decide (n∈zDr J b.toNat D L))=decide (n∉zDr J b.toNat D L):=by
      by_cases z:n∈zDr J b.toNat D L<;>simp[z]
     rw[ed];refine ite2 (λc=>?_) (λc=>?_)
     .refine ⟨_,rfl,upd_same,?_,⟨_,rfl⟩,?_,zAx⟩
      .rw [qAD];exact zEu (by lia)
      .rw [zDv en c,qAN];rfl
     .refine ⟨⟨_,rfl⟩,?_,rfl⟩;rw[zFd en c]
    .rintro ys τ H8 ⟨_,rfl,rfl⟩;rw[eT];have fB2:Fre H7 B2:=hB2;have k8:Kp [] H7 (upd H7 B2 (.lst ((zFa J b.toNat D L).map V.str))):=Kp.new Kp.refl fB2;have hless:=I.less (b:=b.toNat) (by lia) cL
     obtain⟨f',rfl⟩:∃f',f=f'+1:=⟨f-1,by
      have:1<=L.length:=qCD.mpr cL;lia⟩
     refine⟨⟨B2,zDr J b.toNat D L,zFa J b.toNat D L,as++[tn],rs++[zCd J b.toNat D L],f',_,_,rfl,K7.trans k8,k8 tk _ hnA (by simp),upd_same,R7.kp k8 (by simp) (λ_ _=>by simp),I.next _,by lia,by lia,by simp;lia,?_⟩,?_⟩
     .rw [<-el];show _=rs++(if L=[]then[]else _);rw[qAB cL,qB3];rfl
     .show lenAt 5 [_,_,_,_,_,some (V.ref B2),_,_] _<lenAt 5 [_,_,_,_,_,some (V.ref lf),_,_] _
      have e1:lenAt 5 [some (V.ref j),some (.int b),some (.ref m),some (.ref pl),some (.ref tk),some (V.ref B2),some (.ref B),some (.ref tn)] (upd H7 B2 (.lst ((zFa J b.toNat D L).map V.str)))=(zFa J b.toNat D L).length:=by
       show(match (upd H7 B2 (.lst ((zFa J b.toNat D L).map V.str))) B2 with|some (.lst xs)=>xs.length|_=>0)=_;rw[upd_same];simp
      have e2:lenAt 5 [some (V.ref j),some (.int b),some (.ref m),some (.ref pl),some (.ref tk),some (V.ref lf),o6,o7] H3=L.length:=by
       show(match H3 lf with|some (.lst xs)=>xs.length|_=>0)=_;rw[hL];simp
      show lenAt 5 [some (V.ref j),some (.int b),some (.ref m),some (.ref pl),some (.ref tk),some (V.ref B2),some (.ref B),some (.ref tn)] _<lenAt 5 [some (V.ref j),some (.int b),some (.ref m),some (.ref pl),some (.ref tk),some (V.ref lf),o6,o7] H3;rw[e2];exact qCk (qB0 e1) hless
  .have cL:L=[]:=by
    cases L with
    |nil=>rfl
    |cons x xs=>exact absurd rfl c
   subst cL;rw[zHu,qA9]at el;subst el;exact⟨_,rfl,k pl as H3 R kh⟩
end
structure RowsR(H:Hp)(l:Addr)(as:List Addr)(rs:List (List Str)):Prop where
 top:H l=some (.lst (as.map V.ref))
 len:as.length=rs.length
 row:∀(i:Nat)(a:Addr)(r:List Str),as[i]?=some a->rs[i]?=some r->H a=some (.lst (r.map V.str))
theorem RowsR.kp{H':Hp}{as:List Addr}{rs:List (List Str)}(R:RowsR H l as rs)(k:Kp [] H H'):RowsR H' l as rs :=
 ⟨k l _ R.top (by simp),R.len,λi a r e1 e2=>k a _ (R.row i a r e1 e2) (by simp)⟩
structure TurnOk(J:JR)(b:Int)(A r:List Str):Prop where
 ns:∀n∈r,n∈J.ns
 nd:r.Nodup
 nw:∀n∈r,n∉A
 rd:∀n∈r,rdyB J A n=true
 fit:(r.length:Int)<=b
theorem rdy_congr{A B:List Str}(h:∀n,n∈A↔n∈B)(n:Str):rdyB J A n=rdyB J B n:=by
 unfold rdyB;congr 1;funext m;exact qC7.mpr (h m)
abbrev AF(rs:List (List Str))(A:List Str):List Str:=rs.foldl (λA r=>r.foldl addA A) A
structure RightI(J:JR)(b:Int)(rs:List (List Str)):Prop where
 at':∀(i:Nat)(r:List Str),rs[i]?=some r->TurnOk J b (AF (rs.take i) []) r
 all:∀n∈J.ns,n∈AF rs []
theorem zI7{H2:Hp}{d:Addr}{kvs:List (Key×V)}(hd:H d=some (.dK kvs))(k:Kp [d] H H2):Kp [] H (upd H2 d (.dK kvs)):=λc o h n=>by
 by_cases e:c=d
 .subst e;rw[hd]at h;cases h;exact upd_same
 .rw [upd_ne e];exact k c o h (nm1 e)
def tFrz(t:TS):TS:=λD σ H=>∃a kvs,H a=some (.dK kvs)/\∀o,t (thawE D a o kvs) σ (upd H a (.frz o (.dK kvs)))
theorem zHl{X:Cx}{st:Stmt}{t:TS}(h:PS X st t):PS X st (tFrz t):=ps_frz h
theorem key_at{B:List Str}{m:Nat}{kk:Key}{v:V}(h:(dT1 B λ_=>V.bl true)[m]?=some (kk,v)):∃y,B[m]?=some y/\kk=Sum.inr y:=by
 unfold dT1 at h;rw[qAZ]at h;obtain⟨y,e,r⟩:=qBH.mp h
 cases r
 exact⟨y,e,rfl⟩
theorem zD4 :∀(rs:List (List Str)) (A:List Str),n∈AF rs A↔n∈A\/∃r∈rs,n∈r
 |[],A=>by simp
 |q::rs,A=>by
  show n∈AF rs (q.foldl addA A)↔_;rw[zD4 rs,zB1];constructor
  .rintro ((h|h)|⟨r,hr,h⟩)
   .exact .inl h
   .exact .inr ⟨q,qAY,h⟩
   .exact .inr ⟨r,qAU _ hr,h⟩
  .rintro (h|⟨r,hr,h⟩)
   .exact .inl (.inl h)
   .rcases qAM.mp hr with z|z
    .subst z;exact .inl (.inr h)
    .exact .inr ⟨r,z,h⟩
def tI:List (List Str)->Str->Nat
 |[],_=>0
 |r::rs,n=>if n∈r then 0 else tI rs n+1
theorem tI_eq :∀{rs:List (List Str)} {i:Nat} {r:List Str},rs[i]?=some r->n∈r->(∀q∈rs.take i,n∉q)->tI rs n=i
 |[],i,r,h,_,_=>by simp at h
 |q::rs,0,r,h,hn,_=>by
  have e:q=r:=by simpa using h
  subst e;exact qAC hn
 |q::rs,i+1,r,h,hn,hq=>by
  have:n∉q:=hq q (by rw[qDe];exact qAY);show(if n∈q then 0 else tI rs n+1)=i+1;rw[qAB this,tI_eq (by simpa using h) hn λp hp=>hq p (by rw[qDe];exact qAU _ hp)]
theorem tI_lt :∀{rs:List (List Str)} {i:Nat} {q:List Str},q∈rs.take i->n∈q->tI rs n<i
 |[],i,q,h,_=>by simp at h
 |p::rs,0,q,h,_=>by simp at h
 |p::rs,i+1,q,h,hn=>by
  show(if n∈p then 0 else tI rs n+1)<i+1;rw[qDe]at h
  by_cases c:n∈p
  .rw [qAC c];lia
  .rw [qAB c];rcases qAM.mp h with z|z
   .subst z;exact absurd hn c
   .have:=tI_lt z hn;lia
theorem tI_at :∀{rs:List (List Str)},(∃r∈rs,n∈r)->∃r,rs[tI rs n]?=some r/\n∈r
 |[],⟨r,h,_⟩=>nomatch h
 |p::rs,⟨r,h,hn⟩=>by
  by_cases c:n∈p
  .have e:tI (p::rs) n=0:=qAC c;rw[e];exact⟨p,rfl,c⟩
  .have e:tI (p::rs) n=tI rs n+1:=qAB c;rw[e];rcases qAM.mp h with z|z
   .subst z;exact absurd hn c
   .obtain ⟨r',h1,h2⟩:=tI_at ⟨r,z,hn⟩;exact⟨r',by simpa using h1,h2⟩
theorem right_lt{b:Int}{rs:List (List Str)}(R:RightI J b rs){y:Str}(hn:n∈J.ns)(hy:y∈J.ns)(h:n∈J.S y):tI rs n<tI rs y:=by
 have h1:=(zD4 rs []).mp (R.all y hy);obtain⟨r,e,hr⟩:=tI_at (h1.resolve_left (by simp));have ok:=R.at' _ r e;have rd:=ok.rd y hr;unfold rdyB at rd;have:=qAo (qBF.mp rd n (qAQ.mpr ⟨hn,qAS h⟩));obtain⟨q,hq,hnq⟩:=((zD4 _ []).mp this).resolve_left (by simp);exact tI_lt hq hnq
end My
namespace SM
open PySem PyProof.Rows ST
section
variable{prog:Program}{w:World}{A:Around}{E:Value->Shared->Prop}{s:Shared}{a kS:Addr}{vs:List Value}{kz:List Int}{keys:Array Value}{e e1:Nat}{P:PySem.Fin->Shared->Prop}
theorem k_tail{st:SortSt}(nk:s.heap.get? kS=some (seqObj "list" keys e))(na:s.heap.get? a=some (seqObj "list" #[] e1))(hka:kS≠a)
  (hk:IntsAre keys.toList kz) (hlen:kz.length=vs.length) (h64:vs.length<64) (hp:(arrOf st).Perm (keys.zip vs.toArray)) (hs:SortedTo (arrOf st) (arrOf st).size) (hfl:failedOf st=none)
  (h:∀h' tk out c,(∀b o,b≠kS->b≠a->s.heap.get? b=some o->h'.get? b=some o)->h'.get? a=some (seqObj "list" out c)->KskOut false kz vs out.toList->P (.done (.ret .none)) {s with heap:=h',toks:=tk}) :
  wpAny (model prog w) A (ksk_tail a false e1 (.ref kS) st) P E s:=by
 have hsz:keys.size=vs.length:=by
  have h1:=hk.length;rw[qBZ]at h1;lia
 have hsz2:(arrOf st).size=vs.length:=by rw[hp.size_eq,Array.size_zip,hsz,qAK,Nat.min_self]
 have hout:((arrOf st).map (·.2)).size=vs.length:=by rw[Array.size_map];exact hsz2
 have ko:KskOut false kz vs ((arrOf st).map (·.2)).toList:=ksk_out (b:=false) hk hp hs;unfold ksk_tail;simp only[qBQ,qA7];generalize (arrOf st).map (·.2)=out at hout ko;have s1:=qAx s.heap kS (Obj.mapSeq λ_=>(#[]:Array Value));have na1:(s.heap.update kS (Obj.mapSeq λ_=>(#[]:Array Value))).get? a=some (seqObj "list" #[] e1):=(s1.2 a hka.symm).trans na;have s2:=qAx (s.heap.update kS (Obj.mapSeq λ_=>(#[]:Array Value))) a (Obj.mapSeq λ_=>out);have hc2:=qCY na1 λ_=>out;refine qAA (qCF nk rfl ?_ (by rw[hsz,qAI];lia) (qAd _));refine qAA (wpAny_letGo ?_);refine qAA (qC6 na1 rfl ?_);refine qAA (qCF na1 rfl ?_ (qAd _) (qAL (qB0 hout) (by rw[qAI];lia)));rw[hfl];simp only[bne_self_eq_false,qBQ,qA7];exact qAE (h _ _ out _ (λb o n1 n2 q=>(s2.2 b n2).trans ((s1.2 b n1).trans q)) hc2 ko)
theorem k_end(nk:s.heap.get? kS=some (seqObj "list" keys e))(na:s.heap.get? a=some (seqObj "list" #[] e1))(hka:kS≠a)
  (hk:IntsAre keys.toList kz) (hlen:kz.length=vs.length) (h64:vs.length<64)
  (h:∀h' tk out c,(∀b o,b≠kS->b≠a->s.heap.get? b=some o->h'.get? b=some o)->h'.get? a=some (seqObj "list" out c)->KskOut false kz vs out.toList->P (.done (.ret .none)) {s with heap:=h',toks:=tk}) :
  wpAny (model prog w) A (ksk_end a false vs.toArray e1 (.ref kS) keys) P E s:=by
 have hsz:keys.size=vs.length:=by
  have h1:=hk.length;rw[qBZ]at h1;lia
 have hzs:(keys.zip vs.toArray).size=vs.length:=by rw[Array.size_zip,hsz,qAK,Nat.min_self]
 unfold ksk_end;simp only[qBQ,qA7]
 by_cases h2:vs.toArray.size<2
 .rw [qAC h2,qAC h2];refine qAA (qAE ?_);rw[StateT.run_pure];refine qAA (qAE ?_)
  try dsimp only
  refine k_tail (st:=SortSt.mk' general' (keys.zip vs.toArray) #[] 7 none) nk na hka hk hlen h64 (qCo _) ?_ rfl h;intro i j hij hj;have hj2:j<(keys.zip vs.toArray).size:=hj;rw[hzs]at hj2;rw[qAK]at h2;have:i=j:=by lia
  subst this;exact qCG _
 .rw [qAB h2,qAB h2];rw[qAK]at h2;rw[ksk_kind hk (by rw[hsz];lia)];refine qAA (qAE ?_)
  refine qAA (qAz (wpS_sortRuns (a₀:=keys.zip vs.toArray) (st:=SortSt.mk' oneType' (keys.zip vs.toArray) #[] 7 none) (Q:=λ_ st'=>(arrOf st').Perm (keys.zip vs.toArray)/\failedOf st'=none/\SortedTo (arrOf st') (keys.zip vs.toArray).size) (ksk_intKeys hk) ⟨qCo _,rfl,rfl,rfl⟩ (by rw[hzs];lia) (by rw[hzs];exact h64) λst' a1 a2 a3=>⟨a1,a2,a3⟩) ?_ λ_ _ e=>e)
  rintro⟨⟨⟩,st'⟩ s' ⟨rfl,hp,hf,hs⟩
  try dsimp only
  exact k_tail nk na hka hk hlen h64 hp (by rw[hp.size_eq];exact hs) hf h
theorem k_rest{f:Value}(J:Shared->Prop)(hJ:J s)(nk:s.heap.get? kS=some (seqObj "list" #[] 0))(na:s.heap.get? a=some (seqObj "list" #[] e1))(hka:kS≠a)(hlen:kz.length=vs.length)(h64:vs.length<64)
  (turn:∀(i:Nat) (v:Value) (k:Int),vs[i]?=some v->kz[i]?=some k->∀s',J s' ->
   wpAny (model prog w) A (call f [v]) (λr s2=>(∃t,r= .int k t)/\J s2/\∀b,b=kS\/b=a->∀o,s'.heap.get? b=some o->s2.heap.get? b=some o) (λ_ _=>False) s')
  (put:∀s' h',J s'->(∀b o,b≠kS->s'.heap.get? b=some o->h'.get? b=some o)->(∃o,h'.get? kS=some o)->J {s' with heap:=h'})
  (h:∀s' h' tk out c,J s'->(∀b o,b≠kS->b≠a->s'.heap.get? b=some o->h'.get? b=some o)->h'.get? a=some (seqObj "list" out c)->KskOut false kz vs out.toList->P (.done (.ret .none)) {s' with heap:=h',toks:=tk}) :
  wpAny (model prog w) A (ksk_rest a f false vs.toArray e1 (.ref kS)) P E s:=by
 unfold ksk_rest;refine qAA (qBb ?_)
 first
  |rw[List.forIn_toArray]
  |(rw[<-qDN];simp only[List.toList_toArray])
  |rw[<-qDN]
 refine qAA (ksk_fold (λi s'=>J s'/\∃kA e,s'.heap.get? kS=some (seqObj "list" kA e)/\s'.heap.get? a=some (seqObj "list" #[] e1)/\IntsAre kA.toList (kz.take i)) vs 0 s ⟨hJ,#[],0,nk,na,by simpa using IntsAre.nil⟩ ?step ?done)
 case step=>
  rintro j x s' hx ⟨hJ',kA,e,nk',na',hk⟩;simp only[Nat.zero_add]at hk ⊢;have hj:j<vs.length:=(qAf.mp hx).1;obtain⟨k,hkj⟩:∃k,kz[j]?=some k:=⟨_,qAV (by lia)⟩
  have hz:kA.size<=vs.length:=by
   have h1:=hk.length;rw[qBZ,qAR]at h1;lia
  refine qAA (qBa (qAz (turn j x k hx hkj s' hJ') (λv s'' he=>?_) λ_ _ hF=>hF.elim));obtain⟨⟨t2,rfl⟩,J2,kp⟩:=he
  try dsimp only
  have nk2:=kp kS (.inl rfl) _ nk';have na2:=kp a (.inr rfl) _ na';have s1:=qAx s''.heap kS (Obj.mapSeq (·.push (.int k t2)));obtain⟨c2,hc2⟩:∃c2,(s''.heap.update kS (Obj.mapSeq (·.push (.int k t2)))).get? kS=some (seqObj "list" (kA.push (.int k t2)) c2):=⟨_,qCY nk2 (·.push (.int k t2))⟩;have ek:kz.take (j+1)=kz.take j++[k]:=by rw[List.take_add_one,hkj];simp
  have ea:(kA.push (Value.int k t2)).toList=kA.toList++[Value.int k t2]:=by simp
  refine qAA (qCF nk2 rfl ?_ (by rw[qAI];lia) (qAL (qB0 (Array.size_push ..)) (by rw[qAI];lia)));exact qAE ⟨rfl,put s'' _ J2 (λb o n q=>(s1.2 b n).trans q) ⟨_,hc2⟩,kA.push (.int k t2),c2,hc2,(s1.2 a hka.symm).trans na2,by rw[ea,ek];exact ksk_snoc hk⟩
 case done=>
  rintro s' ⟨hJ',kA,e,nk',na',hk⟩
  have hk':IntsAre kA.toList kz:=by
   have e3:kz.take (0+vs.length)=kz:=qBc (by lia);rw[e3]at hk;exact hk
  try dsimp only
  refine qAA (listItems_at nk' rfl ?_);exact k_end nk' na' hka hk' hlen h64 λh3 tk3 out c k3 g3 o3=>h s' h3 tk3 out c hJ' k3 g3 o3
theorem w_sortedK{f:Addr}{v:Value}{Q:Value->Shared->Prop}{Jc:List Value->Shared->Prop}(hc:wpAny (model prog w) A.in1 (collect v) Jc E s)
  (hJ:∀vs s1,Jc vs s1->vs.length<64/\∃(kz:List Int) (J:Shared->Prop),kz.length=vs.length /\
   (∀h',(∀b o,s1.heap.get? b=some o->h'.get? b=some o)->(∃o,h'.get? s1.heap.objs.size=some o)->(∃o,h'.get? (s1.heap.objs.size+2)=some o)->J {s1 with heap:=h'}) /\
   (∀(i:Nat)(v:Value)(k:Int),vs[i]?=some v->kz[i]?=some k->∀s',J s'->wpAny (model prog w) A.in1.in1 (call (.ref f) [v]) (λr s2=>(∃t,r= .int k t)/\J s2/\∀b,b=s1.heap.objs.size+2\/b=s1.heap.objs.size->∀o,s'.heap.get? b=some o->s2.heap.get? b=some o) (λ_ _=>False) s') /\
   (∀s' h',J s'->(∀b o,b≠s1.heap.objs.size+2->s'.heap.get? b=some o->h'.get? b=some o)->(∃o,h'.get? (s1.heap.objs.size+2)=some o)->J {s' with heap:=h'}) /\
   ∀s' h' tk out c,J s'->(∀b o,b≠s1.heap.objs.size+2->b≠s1.heap.objs.size->s'.heap.get? b=some o->h'.get? b=some o)->h'.get? s1.heap.objs.size=some (seqObj "list" out c)->KskOut false kz vs out.toList->Q (.ref s1.heap.objs.size) {s' with heap:=h',toks:=tk}) :
  wpAny (model prog w) A (call (.builtin "sorted") [v] [(Str.ofString "key",.ref f)]) Q E s:=by
 refine call_function_entry_kw kind_sorted plain_sorted entry_sorted (ksk_s1 _ _) ?_;unfold Builtin.«sorted»;refine qAA (m:=checkCount "sorted" 1 1 _) (qAE ?_);refine qAA (qAz hc (λvs s1 j=>?_) λ_ _ x=>x);obtain⟨j1,kz,J,j2,j3,j4,j5,j6⟩:=hJ vs s1 j;refine qAA (qDb ?_ (by rw[qAI];lia));have hD:(s1.heap.push (seqObj "list" vs.toArray 0)).get? s1.heap.objs.size=some (seqObj "list" vs.toArray 0):=qAX _ rfl;change wpAny _ _ _ _ _ {s1 with heap:=s1.heap.push (seqObj "list" vs.toArray 0)};have ne:∀b o,s1.heap.get? b=some o->b≠s1.heap.objs.size:=λb o q=>qAO (qAH q);refine qAA (qA6 (wpAny_call_entry_kw slot_list_sort ⟨_,hD,rfl⟩ entry_list_sort ?body (ksk_l1 _ _)))
 case body=>
  rw[ksk_t1];have ha:s1.heap.objs.size<(s1.heap.push (seqObj "list" vs.toArray 0)).objs.size:=qAH hD;have s2:=qAx (s1.heap.push (seqObj "list" vs.toArray 0)) s1.heap.objs.size (Obj.mapSeq λ_=>(#[]:Array Value));obtain⟨e1,ho1⟩:∃e1,((s1.heap.push (seqObj "list" vs.toArray 0)).update s1.heap.objs.size (Obj.mapSeq λ_=>(#[]:Array Value))).get? s1.heap.objs.size=some (seqObj "list" #[] e1):=⟨_,qCY hD λ_=>#[]⟩;have hkS:(((s1.heap.push (seqObj "list" vs.toArray 0)).update s1.heap.objs.size (Obj.mapSeq λ_=>(#[]:Array Value))).push (seqObj "tuple" vs.toArray 0)).objs.size=s1.heap.objs.size+2:=by rw[size_push',Heap.size_update,size_push']
  unfold ksk_tree;refine qAA (listItems_at hD rfl ?_);refine qAA (qCF hD rfl ?_ (by rw[qAK,qAI];lia) (qAd _));refine qAA (qC6 ho1 rfl ?_);refine qAA (qDT ?_ (by show vs.length<=_;rw[qAI];lia));refine qAA (qDb ?_ (qAd _));refine qA6 ?_;rw[hkS];refine k_rest (kS:=s1.heap.objs.size+2) (a:=s1.heap.objs.size) (s:={s1 with heap:=(((s1.heap.push (seqObj "list" vs.toArray 0)).update s1.heap.objs.size (Obj.mapSeq λ_=>(#[]:Array Value))).push (seqObj "tuple" vs.toArray 0)).push (seqObj "list" #[] 0)}) J (j3 _ (λb o q=>?_) ⟨_,qAG _ (qAG _ ho1)⟩ ⟨seqObj "list" #[] 0,by rw[<-hkS];exact qAX _ rfl⟩) (by rw[<-hkS];exact qAX _ rfl) (qAG _ (qAG _ ho1)) (qAt (qBN (qBS _))) j2 j1 j4 j5 λs' h' tk out c jj kk gg oo=>?_
  .exact qAG _ (qAG _ ((s2.2 b (ne b o q)).trans (qAG _ q)))
  .exact ⟨_,rfl,qAE ⟨_,rfl,j6 s' h' tk out c jj kk gg oo⟩⟩
end
end SM
namespace L2
open PySem PySem.Spec PyProof.Rows
section
variable{X:Cx}{pins:List (Addr×Obj)}{σ:St}{H:Hp}{s:Shared}
def tSortM(ta:TA)(iy:Nat)(P:Addr)(qual:Str)(lp:Pos)(te:TE):TE:=λσ H Q=>ta σ H λxs H1=>∃(a:Addr)(ks:List Str)(g:Str->Int)(vy:V),xs=[.ref a]/\σ[iy]?=some (some vy)/\H1 a=some (.lst (ks.map V.str))/\ks.length<64/\Tab0 H1 P qual lp /\
 ∀H2,Kp [P] H1 H2->Tab1 H2 P qual lp->(∀x∈ks,∀H',Kp [] H2 H'->te [some (.str x),some vy] H' λr H3=>r= .int (g x)/\Kp [] H' H3)/\∀(b:Addr)(zs:List Str)(H3:Hp),Kp [] H2 H3->H3 b=none->zs.Perm ks->zs.Pairwise (λx y=>g x<=g y)->Q (.ref b) (upd H3 b (.lst (zs.map V.str)))
theorem zIt{e:Expr}{ta:TA}{p pos kp lp:Pos}{params:Arguments}{body:Expr}{scope:Scope}{x y qual:Str}{c c0 P:Addr}{iy:Nat}{te:TE}{k:Nat}(hr:Room (k+3) X.A)(hc':X.calm=true)(hg:Gl X "sorted")(hm:X.mg "sorted"=none)(hb:bootBuiltins "sorted"=some (.builtin "sorted"))(ha:PA X [e] ta)
  (S:LamScope x y scope) (ne:x≠y) (hN:X.N[iy]?=some y) (hk:X.env.kindOf y=some .cell) (hy:X.env.cells.lookup y=some c) (hcl:closureFor scope X.env=pure [(y,c)]) (hq:X.env.qual++ "<lambda>"=qual) (hcode:X.env.code= .ref c0) (C:PySem.W.CodeHd X.base c0 P) (B:zIj X.mg X.base)
  (hdef:defaultsOf params X.env=([],[])) (hbind:∀(pm:Value)(c':Addr)(ctv u:Value),bindArgs (PySem.W.kla_fn "<lambda>" qual params body scope [(y,c)] pm (.ref c') ctv) ⟨[u],[]⟩=pure [(x,u)])
  (ht:∀(f:Addr)(cd:Value)(A:Around)(s:Shared)(H:Hp),Room k (A.deeper (PySem.W.envX qual scope s.heap.objs.size f cd [(y,c)]))->PE (cxLam X [x,y] qual scope f cd [(y,c)] A s H) body te) (hs:starEach [e] X.env=[(false,eval e X.env)]:=by rfl) :
  PE X (.Call (.Name "sorted" p) [e] [⟨some (Str.ofString "key"),.Lambda params body scope lp,kp⟩] pos) (tSortM ta iy P qual lp te):=by
 intro pins s σ H Q I h;refine qCL (zHy I hg hm hb ?_);refine callWith_builtin_kwB (by rw[hs];rfl) rfl ?_;have ha':=ha pos pins s σ H _ I h;have e0:backTo pos (starEach [e] X.env)=(false,eval e X.env)::[]:=by rw[hs];rfl
 rw[e0]at ha' ⊢;refine evalArgs_kwB rfl (thn ha' λus s1 ⟨vs,H1,I1,r1,q1⟩=>?_);obtain⟨a,ks,g,vy,e1,hσ,ea,hl64,T,q⟩:=q1;subst e1;obtain⟨u,rfl,ru⟩:=r1.one
 cases ru
 show wpAny _ _ (evalAll ((do let v<-eval (.Lambda params body scope lp) X.env;standAt pos;pure v)::[])) _ _ s1;refine wpAny_evalAll_cons (qAA (PySem.W.kla_eval hdef ?_));rw[hq];refine lam_make I1 hcl hcode C B T λf c' ctv pm H2 s2 I2 k2 T2 ec fo ff=>?_;refine qAA (qCK (qAE (wpAny_evalAll_nil ?_)));obtain⟨qb,qr⟩:=q H2 k2 T2
 have naP:a≠P:=λz=>by
  rcases T with t|⟨_,t,_⟩
  .rw [z,t]at ea;cases ea
  .rw [z,t]at ea;cases ea
 have ea2:H2 a=some (.lst (ks.map V.str)):=k2 a _ ea (by simp[naP]);obtain⟨its0,r',pl,hz0⟩:=I2.list (SqL.of (K:=X.K) ea2);have hS0:=zG9 r';have hln0:its0.length=ks.length:=ST.strs_len hS0
 refine SM.w_sortedK
  (Jc:=λits s1=>StrsAre its ks/\∃h1 tk,s1={s2 with heap:=h1,toks:=tk}/\∀b o,s2.heap.get? b=some o->h1.get? b=some o)
  (collect_list pl.isList ⟨hS0,_,_,rfl,λb o e=>?_⟩ (by rw[qAI];lia)) λits s3 ⟨hS,h1,tk,v2,v3⟩=>?_
 .have hlt:=qAH e;rw[qBG _ _ (qAt hlt)];exact qAG _ e
 .subst v2;have hln:its.length=ks.length:=ST.strs_len hS;have I3:Inv X pins σ H2 {s2 with heap:=h1,toks:=tk}:=I2.kept v3;have fo3:h1.get? f=some _:=v3 _ _ fo;have flt:f<h1.objs.size:=qAH fo3;have fa:FpOk X pins H2 h1.objs.size:=I3.fpOk (qAF _) (I3.hok.fresh (qAF _));have fk:FpOk X pins H2 (h1.objs.size+2):=I3.fpOk (qB7 _ _) (I3.hok.fresh (qB7 _ _));have ff3:H2 f=none:=ff.1;refine⟨by lia,ks.map g,λs'=>∃H',Kp [] H2 H'/\Inv X pins σ H' s'/\s'.heap.get? f=some (PySem.W.kla_obj "<lambda>" qual params body scope [(y,c)] pm c' ctv)/\H' f=none/\H' h1.objs.size=none/\H' (h1.objs.size+2)=none/\(∃o,s'.heap.get? h1.objs.size=some o)/\∃o,s'.heap.get? (h1.objs.size+2)=some o,by rw[qAD,hln],λh' up ha hk=>⟨H2,Kp.refl,I3.kept (t':=tk) up,up _ _ fo3,ff3,fa.1,fk.1,ha,hk⟩,?_,?_,?_⟩
  .rintro i v kx hv hkx s' ⟨H4,k4,I4,fo4,ff4,fa4,fk4,⟨oa,ha4⟩,ok',hk4⟩;rw[qAZ]at hkx;obtain⟨x',ex',rfl⟩:=qBH.mp hkx
   obtain⟨t,rfl⟩:∃t,v= .str x' t:=by
    have h1:=hS.all v (qAJ hv);obtain⟨x2,t,rfl⟩:=h1;have h2:(its.map strOf)[i]?=some x2:=by rw[qAZ,hv];rfl
    rw[hS.strs,ex']at h2
    cases h2
    exact⟨t,rfl⟩
   obtain⟨uy,ry,iy'⟩:=I4.cellAt hN hσ hk hy;have hr2:Room (k+1) X.A.in1.in1:=Room.in1 (Room.in1 hr);have fa':FpOk X pins H4 h1.objs.size:=⟨fa4,fa.2⟩;have fk':FpOk X pins H4 (h1.objs.size+2):=⟨fk4,fk.2⟩;have ff':FpOk X pins H4 f:=⟨ff4,ff.2⟩;refine qAz (lam_call (A:=X.A.in1.in1) (vx:=.str x') I4 I4.ok.frames hr2.hd hr2.depth fo4 (codeO_rec I4 (k4 _ _ ec (by simp))) S ne (hbind _ _ _ _) hy iy' ry ⟨t,rfl⟩ (ht _ _ _ _ _ (hr2.deeper _)) (qb x' (qAJ ex') H4 k4)) (λr s5 hE=>?_) λ_ _ hF=>hF;obtain⟨v,H5,os,bare,un,hok5,rv,qv,qh⟩:=hE;subst qv;obtain⟨t',rfl⟩:=rv;have keepA:=un.keep _ _ ha4 fa'.1 (fa'.nstk I4) (by simp);have keepK:=un.keep _ _ hk4 fk'.1 (fk'.nstk I4) (by simp);refine⟨⟨t',rfl⟩,⟨H5,k4.trans qh,I4.call' os un hok5 bare (λb z=>nomatch z),un.keep _ _ fo4 ff'.1 (ff'.nstk I4) (by simp),un.free _ _ fo4 ff'.1 (by simp),un.free _ _ ha4 fa'.1 (by simp),un.free _ _ hk4 fk'.1 (by simp),⟨_,keepA⟩,_,keepK⟩,λb hb o qo=>?_⟩;rcases hb with rfl|rfl
   .exact un.keep _ _ qo fk'.1 (fk'.nstk I4) (by simp)
   .exact un.keep _ _ qo fa'.1 (fa'.nstk I4) (by simp)
  .rintro s' h' ⟨H4,k4,I4,fo4,ff4,fa4,fk4,⟨oa,ha4⟩,ok',hk4⟩ kk hex;exact⟨H4,k4,I4.turned (t':=s'.toks) kk fk4 fk.2.1 fk.2.2.2.1 fk.2.2.2.2.1 fk.2.2.2.2.2,kk _ _ (qAO (qAi flt (qB7 _ _))) fo4,ff4,fa4,fk4,⟨_,kk _ _ (qAO (Nat.lt_add_of_pos_right (by decide))) ha4⟩,hex⟩
  .rintro s' h' tk' out c2 ⟨H4,k4,I4,fo4,ff4,fa4,fk4,_,_⟩ kk gg ⟨ps,pp,po,pw⟩;have hp':∀p∈ps,∃x t,x∈ks/\p=(g x,.str x t):=λp hp=>zip_strs hS p (pp.mem_iff.mp hp)
   have hall:∀v∈out.toList,∃x t,v= .str x t:=λv hv=>by
    rw[po]at hv;obtain⟨p,hp,rfl⟩:=qAW.mp hv;obtain⟨x,t,_,e⟩:=hp' p hp;exact⟨x,t,by rw[e]⟩
   have hO:=strsAre_map out.toList hall
   have hpz:(out.toList.map strOf).Perm ks:=by
    have h1:(ps.map Prod.snd).Perm its:=by
     have:=pp.map Prod.snd
     rwa [List.map_snd_zip (by rw[qAD,hln];exact qAF _)]at this
    rw[po];have:=h1.map strOf
    rwa [hS.strs]at this
   have hsr:(out.toList.map strOf).Pairwise (λx y=>g x<=g y):=by
    rw[po,qAp,qBn];refine pw.imp_of_mem λ{p q} hp hq z=>?_;obtain⟨x,t,_,e⟩:=hp' p hp;obtain⟨x',t',_,e'⟩:=hp' q hq;subst e e';exact z
   have hz:((out.toList.map strOf).map V.str).length<=sizeLine:=by rw[qAD,hpz.length_eq,qAI];lia
   have un:Un (frs X.stack) [h1.objs.size+2,h1.objs.size] H4 H4 s'.heap h':=by
    have k':∀b o,b∉([h1.objs.size+2,h1.objs.size]:List Addr)->s'.heap.get? b=some o->h'.get? b=some o:=λb o n q=>kk b o (λz=>n (by simp[z])) (λz=>n (by simp[z])) q;exact⟨λb o q n _ x=>k' b o x q,λb o q n _ x=>⟨o.slots,k' b o x q⟩,λb o q n _=>n,λb o q x=>⟨o,k' b o x q⟩,λ_ _ q=>q,λ_ _ _ q=>q,λb ps q=>⟨#[],by rw[q];simp⟩⟩
   have hok2:HOk X.prog X.w H4 h':=λb o q=>by
    refine(I4.hok b o q).stay (λd v hd y=>?_) (λ_ y=>y) λ_ _ y=>y
    have nn:H4 d≠none:=by
     rcases hd with rfl|hd
     .rw [q];simp
     .rw [hd];simp
    exact kk d v (λz=>nn (by rw[z];exact fk4)) (λz=>nn (by rw[z];exact fa4)) y
   have I5:Inv X pins σ H4 {s' with heap:=h',toks:=tk'}:=I4.call' rfl un hok2 I4.bare λb hb=>by
    have:b=h1.objs.size+2\/b=h1.objs.size:=by simpa using hb
    rcases this with rfl|rfl
    .exact ⟨fk.2.2.2.1,fk.2.1,fk.2.2.2.2.1,fk.2.2.2.2.2⟩
    .exact ⟨fa.2.2.2.1,fa.2.1,fa.2.2.2.2.1,fa.2.2.2.2.2⟩
   have new:zA0 X.prog X.w (upd H4 h1.objs.size (.lst ((out.toList.map strOf).map V.str))) h' h1.objs.size (.lst ((out.toList.map strOf).map V.str)):=⟨hz,out.toList,c2,zFf hO,by simpa using gg⟩;exact⟨.ref h1.objs.size,_,I5.adopt (⟨fa4,fa.2⟩:FpOk X pins H4 h1.objs.size) new,rfl,qr _ _ H4 k4 fa4 hpz hsr⟩
end
end L2
namespace My
open PySem L2
variable{P:Program}{w:World}{K:PySem.W.Frag}{mg:Str->Option Value}{base:Heap}{C:Addr}
variable{x y:Str}{v:Int}{J:JR}{H H':Hp}{Pt f:Addr}{F:List Str}{fd:FuncData}
def tf(m b:Int):Int:=(m+b-1) / b
def late(b:Int)(l:List Int)(e:Int):Int:=e-tf ((l.filter λx=>decide (x<=e)).length:Int) b
structure MinOf(l:List Int)(M:Int):Prop where
 mem:M∈l
 le:∀a∈l,M<=a
structure MF(b:Int)(ev:Str->Int)(beh:Str->List Str)(F:List Str)(f:Str->Int):Prop where
 nd:F.Nodup
 sub:∀x∈F,∀y∈beh x,y∈F
 eq:∀x∈F,MinOf (ev x::((beh x).map f).map (late b ((beh x).map f))) (f x)
section
variable{b:Int}{ev:Str->Int}{beh beh':Str->List Str}{F G:List Str}{f g:Str->Int}
theorem MF.nil(b:Int)(ev:Str->Int)(beh:Str->List Str)(f:Str->Int):MF b ev beh [] f:=⟨qA5,(λ_ h=>nomatch h),(λ_ h=>nomatch h)⟩
def addF(f:Str->Int)(x:Str)(v:Int):Str->Int:=λy=>if y=x then v else f y
theorem addF_same :addF f x v x=v:=qAC rfl
theorem addF_old{l:List Str}(h:x∉l):l.map (addF f x v)=l.map f:=qCX λy hy=>qAB λz=>h (by rw[<-z];exact hy)
theorem MF.more(h:MF b ev beh F f){v:Int}(hx:x∉F)(hb:∀y∈beh x,y∈F)(hv:MinOf (ev x::((beh x).map f).map (late b ((beh x).map f))) v):MF b ev beh (F++[x]) (addF f x v):=by
 have nb:∀y,(∀z∈beh y,z∈F)->x∉beh y:=λy hy z=>hx (hy x z);refine⟨?_,λy hy z hz=>?_,λy hy=>?_⟩
 .rw [qBX];refine⟨h.nd,by simp,λa ha b hb' e=>hx ?_⟩;have:b=x:=by simpa using hb'
  rw[<-this,<-e];exact ha
 .rcases qAT.mp hy with w|w
  .exact qAv _ (h.sub y w z hz)
  .rw [qAP.mp w]at hz;exact qAv _ (hb z hz)
 .rcases qAT.mp hy with w|w
  .rw [addF_old (nb y (h.sub y w)),show addF f x v y=f y from qAB λz=>hx (by rw[<-z];exact w)];exact h.eq y w
  .rw [qAP.mp w,addF_old (nb x hb),addF_same];exact hv
def Dec(ns:List Str)(beh:Str->List Str):Prop:=∀x∈ns,∀y∈beh x,y∈ns/\(beh y).length<(beh x).length
end
theorem sort_ahead{zs:List Str}{g:Str->Int}(h:zs.Pairwise λx y=>g x<=g y){i:Nat}(e:zs[i]?=some x)(hy:y∈zs)(hg:g y<g x):y∈zs.take i:=by
 obtain⟨j,hj,ej⟩:=qA1.mp hy;have hi:=(qAf.mp e).1;have ex:=(qAf.mp e).2
 by_cases c:j<i
 .rw [List.mem_take_iff_getElem];exact⟨j,by lia,by rw[<-ej]⟩
 .by_cases c2:j=i
  .subst c2;rw[ej]at ex;rw[ex]at hg;lia
  .have:=qDJ.mp h i j hi hj (by lia);rw[ex,ej]at this;lia
def behJ(J:JR)(x:Str):List Str:=J.ns.filter λn=>decide (x∈J.S n)
theorem zA5 :y∈behJ J x↔y∈J.ns/\x∈J.S y:=by
 unfold behJ;rw[qAQ];simp
theorem dec_J{C:Addr}{j:Addr}{qs:List (List Str×Addr)}{r:Str->Nat}(A:JobsAt C H j J)(G:Good J.ns qs r)(hz:∀k,k∈J.zs.map (·.1)↔k∈qs.map (·.1)):Dec J.ns (behJ J):=λx hx y hy=>by
 obtain⟨y1,y2⟩:=zA5.mp hy;refine⟨y1,?_⟩
 have tr:∀z,z∈behJ J y->z∈behJ J x:=λz hz'=>by
  obtain⟨z1,z2⟩:=zA5.mp hz';exact zA5.mpr ⟨z1,(zJ7 A G hz z1).mpr (((zJ7 A G hz y1).mp y2).trans ((zJ7 A G hz z1).mp z2))⟩
 have ny:y∉behJ J y:=λz=>by
  obtain⟨_,z2⟩:=zA5.mp z;exact absurd (S_rank A G hz _ y y (qAF _) y1 z2) (qA8 _)
 unfold behJ at tr ny hy ⊢;generalize J.ns=ns at tr ny hy
 have key:∀(l:List Str),(∀z∈l,y∈J.S z->x∈J.S z)->y∈l->x∈J.S y->y∉J.S y->(l.filter λn=>decide (y∈J.S n)).length<(l.filter λn=>decide (x∈J.S n)).length:=by
  intro l
  have le:∀(l:List Str),(∀z∈l,y∈J.S z->x∈J.S z)->(l.filter λn=>decide (y∈J.S n)).length<=(l.filter λn=>decide (x∈J.S n)).length:=λl h=>by
   rw[<-qDf,<-qDf];exact List.countP_mono_left λz hz' w=>qAS (h z hz' (qAo w))
  induction l with
  |nil=>intro _ h;cases h
  |cons a l ih=>
   intro h hy' h1 h2;have hl:∀z∈l,y∈J.S z->x∈J.S z:=λz hz'=>h z (qAU _ hz');rw[qAu,qAu];rcases qAM.mp hy' with e|e
   .subst e;rw[qAB (by simpa using h2),qAC (by simpa using h1),qAc];have:=le l hl;lia
   .have:=ih hl e h1 h2
    by_cases c:y∈J.S a
    .rw [qAC (by simpa using c),qAC (by simpa using h a qAY c),qAc,qAc];lia
    .rw [qAB (by simpa using c)];split
     .rw [qAc];lia
     .exact this
 refine key ns (λz hz' w=>?_) (qAQ.mp hy).1 y2 (λw=>ny (qAQ.mpr ⟨(qAQ.mp hy).1,qAS w⟩));have:=tr z (qAQ.mpr ⟨hz',qAS w⟩);exact qAo (qAQ.mp this).2
def lamQ:Str:=Str.ofString "last_ones_first"++ ".<locals>."++ "<lambda>"
def lamPos:Pos:=⟨45,36,45,71⟩
abbrev TabA(H:Hp)(Pt:Addr):Prop:=Tab0 H Pt lamQ lamPos
theorem TabA.kp(h:TabA H Pt)(k:Kp [] H H'):TabA H' Pt:=by
 rcases h with e|⟨c,e,ec⟩
 .exact .inl (k _ _ e (by simp))
 .exact .inr ⟨c,k _ _ e (by simp),k _ _ ec (by simp)⟩
theorem TabA.tbl(h:TabA H Pt):∃ps,H Pt=some (.tbl ps):=by
 rcases h with e|⟨c,e,_⟩
 .exact ⟨_,e⟩
 .exact ⟨_,e⟩
theorem TabA.off{a:Addr}{o:HO}(t:TabA H Pt)(h:H a=some o)(no:∀ps,o≠.tbl ps):a≠Pt:=λz=>by
 obtain⟨ps,e⟩:=t.tbl;rw[z,e]at h;exact no ps (qAe h).symm
theorem JobsAt.kpT{C:Addr}{j:Addr}(A:JobsAt C H j J)(k:Kp [Pt] H H')(t:TabA H Pt):JobsAt C H' j J:=by
 refine A.kp k λa o ha hm=>?_;have e:a=Pt:=by simpa using hm
 subst e;exact⟨(t.off A.ob λ_ z=>nomatch z).symm,(t.off A.row λ_ z=>nomatch z).symm,(t.off A.prs.top λ_ z=>nomatch z).symm,(t.off A.abv λ_ z=>nomatch z).symm,λq hq=>(t.off (A.prs.row q hq) λ_ z=>nomatch z).symm,λn hn=>(t.off (A.sets n hn) λ_ z=>nomatch z).symm⟩
theorem okC{P:Program}{w:World}{K:PySem.W.Frag}{mg:Str->Option Value}{base:Heap}{qual:Str}{st:Stmt}{c0:Addr}{oc:Value}{od an:Option Addr}{osl:Array (Option Value)}{kV doc pm ct:Value}{N ps:List Str}{k:Nat}{sp:Sp}
  (lk:K.lookup f=some ⟨oc,od,.func (PySem.W.fnOf x qual (zBh st) (zBa st) (zAd st) .none kV doc pm an (.ref c0) ct),osl⟩) (hcd:PySem.W.codeIn K (.ref c0) qual=true) (S:FnScope N ps (zAd st)) (len:∀vs H Q E,sp vs H Q E->vs.length=ps.length)
  (hbody:∀(A:Around) (outer:List Env) (s:Shared) (H:Hp) (vs:List V) (Q:VK) (E:XK),Room k (A.deeper (PyProof.Rows.envOfC qual (zAd st) s.heap.objs.size f (.ref c0)))->sp vs H Q E ->
   ∃t,PSs (cxOf CX0 P w K mg base N qual (zAd st) f (.ref c0) A outer s H E).nox (zBa st) t/\t {nx:=λ_ H'=>Q .non H',rt:=Q} (L2.start N vs) H):FnOk P w K mg base CX0 (k+1) f (PySem.W.fnOf x qual (zBh st) (zBa st) (zAd st) .none kV doc pm an (.ref c0) ct) ps sp:=by
 refine fn_of lk hcd S len λA outer s H vs Q E hr hsp=>?_;obtain⟨t,h,q⟩:=hbody A outer s H vs Q E hr hsp;exact⟨t,h.nox,q⟩
theorem zGe{M:List Addr}{e:Addr}{H1 H2:Hp}(a:Kp M H H1)(f:Fre H e)(b:Kp [e] H1 H2):Kp M H H2:=λc o h n=>b c o (a c o h n) (nm1 (ne_fre f h))
def kvI(F:List Str)(f:Str->Int):List (Key×V):=dT1 F λn=>.int (f n)
theorem kvI_put{f:Str->Int}(h:x∉F):putK (kvI F f) (Sum.inr x) (.int v)=kvI (F++[x]) (addF f x v):=by
 unfold kvI;rw[zEe _ h];have e:dT1 (F++[x]) (λn=>V.int (addF f x v n))=dT1 F (λn=>V.int (addF f x v n))++[(.inr x,.int (addF f x v x))]:=by unfold dT1;rw[qAN];rfl
 rw[e]
 have e2:dT1 F (λn=>V.int (addF f x v n))=dT1 F (λn=>V.int (f n)):=zF1 λn hn=>by
  unfold addF;rw[qAB (λz=>h (by rw[<-z];exact hn))]
 rw[e2];unfold addF;rw[qAC rfl]
theorem zDu{f:Str->Int}(h:x∈F):valV (kvI F f) (Sum.inr x)=some (.int (f x)):=by
 unfold kvI;rw[zBf,qAC h]
theorem kvI_no{f:Str->Int}(h:x∉F):valV (kvI F f) (Sum.inr x)=none:=by
 unfold kvI;rw[zBf,qAB h]
theorem zHz(F:List Str)(f:Str->Int):(kvI F f).length=F.length:=by unfold kvI dT1;rw[qAD]
section
def spLast(C Pt:Addr):Sp:=λvs H Q _=>∃(j:Addr)(J:JR),vs=[.ref j]/\JobsAt C H j J/\TabA H Pt/\∀(l:Addr)(zs:List Str)(H':Hp),Kp [Pt] H H'->TabA H' Pt->Txs H' l zs->zs.Perm J.ns->zs.Pairwise (λx y=>((behJ J x).length:Int)<=(behJ J y).length)->Q (.ref l) H'
abbrev zFl:Stmt:=top 15
theorem sc_last:FnScope ["jobs"] ["jobs"] (zAd zFl):=fnS
theorem zCv:bootBuiltins "sorted"=some (.builtin "sorted"):=by decide +kernel
theorem ok_last{c0:Addr}{oc:Value}{od an:Option Addr}{osl:Array (Option Value)}{kV doc pm ct:Value}(lk:K.lookup f=some ⟨oc,od,.func (PySem.W.fnOf "last_ones_first" "last_ones_first" (zBh zFl) (zBa zFl) (zAd zFl) .none kV doc pm an (.ref c0) ct),osl⟩)(hcd:PySem.W.codeIn K (.ref c0) "last_ones_first"=true)(T:Txt K mg)(U:JC K mg C)(B:zIj mg base)(CH:PySem.W.CodeHd base c0 Pt)
  (M_names:Mth P w K mg base C "names" 1 ["self"] (zE1 C)) (M_behind:Mth P w K mg base C "behind" 3 ["self","name"] (zG0 C)):FnOk P w K mg base CX0 7 f (PySem.W.fnOf "last_ones_first" "last_ones_first" (zBh zFl) (zBa zFl) (zAd zFl) .none kV doc pm an (.ref c0) ct) ["jobs"] (spLast C Pt):=by
 refine okC lk hcd sc_last (λvs H Q E h=>?_) (λA outer s H vs Q E hr h=>?_)
 .obtain ⟨j,J,rfl,_⟩:=h;rfl
 .obtain ⟨j,J,rfl,A0,T0,k⟩:=h;have hr1:=hr.mono (j:=1) (by decide);refine⟨_,(zAe (zAm (zIt (x:="name") (y:="jobs") (iy:=0) (P:=Pt) (c0:=c0) (qual:=lamQ) (k:=3) hr rfl (by rfl) T.z_sorted zCv (zAa (zDd M_names U.cl hr1 (pv 0)) zAc) (by exact⟨rfl,rfl,rfl,rfl,rfl,by decide +kernel,by decide +kernel⟩) (by decide) rfl rfl rfl rfl rfl rfl CH B rfl (λ_ _ _ _=>rfl) (λf' cd' A' s' H' hA=>zAi (zDy (K:=K)) (by rfl) T.z_len zBw (zAa (zEs M_behind U.cl hA (pv 1) (zAa (pv 0) zAc)) zAc))))),?_⟩;refine⟨_,rfl,j,J.dx,_,rfl,A0.ob,zGz _ _ _ (by decide +kernel) (by decide +kernel) (by decide +kernel),j,J,rfl,A0,λl H1 fl hl k1=>?_⟩;have A1:=A0.kp0 k1;have T1:=T0.kp k1;have few:=A0.few;refine⟨l,J.ns,λx=>(behJ J x).length,.ref j,rfl,rfl,hl,by lia,T1,λH2 k2 T2=>⟨λx hx H3 k3=>?_,λb zs H3 k3 hb pz sz=>?_⟩⟩
  .have A3:=(A1.kpT k2 T1).kp0 k3;refine⟨_,rfl,j,J.dx,_,rfl,A3.ob,zGz _ _ _ (by decide +kernel) (by decide +kernel) (by decide +kernel),_,rfl,j,J,x,rfl,A3,hx,λm H4 fm hm k4=>?_⟩;refine⟨_,_,rfl,.inl (SqL.of hm),?_,k4⟩;rw[qAD];rfl
  .have fb:Fre H3 b:=hb;have kb:Kp [] H3 (upd H3 b (.lst (zs.map V.str))):=Kp.new Kp.refl fb;have T3:TabA H3 Pt:=TabA.kp (.inr T2) k3;exact k b zs _ (((k1.weak (by simp)).trans k2).trans ((k3.trans kb).weak (by simp))) (T3.kp kb) upd_same pz sz
end
theorem strB_mem(h:y∈strB J x):y∈J.ns/\x∈J.S y:=by
 have h1:=(qAQ.mp (qAQ.mp h).1);exact⟨h1.1,qAo h1.2⟩
structure OrdJ(J:JR)(r:Str->Nat):Prop where
 nd:J.ns.Nodup
 few:J.ns.length<=20
 rk:∀n∈J.ns,∀x∈J.S n,r x<r n
 sub:∀n∈J.ns,∀x∈J.S n,x∈J.ns
 tr:∀n∈J.ns,∀m∈J.S n,∀x∈J.S m,x∈J.S n
theorem ord_of{C:Addr}{j:Addr}{qs:List (List Str×Addr)}{r:Str->Nat}(A:JobsAt C H j J)(G:Good J.ns qs r)(hz:∀k,k∈J.zs.map (·.1)↔k∈qs.map (·.1))(two:∀q∈qs,∃a b,q.1=[a,b]):OrdJ J r:=by
 have sub:∀n∈J.ns,∀x∈J.S n,x∈J.ns:=λn hn x hx=>(Way.to two G.qin ((zJ7 A G hz hn).mp hx)).1;exact⟨A.nd,A.few,λn hn x hx=>S_rank A G hz _ n x (qAF _) hn hx,sub,λn hn m hm x hx=>(zJ7 A G hz hn).mpr (((zJ7 A G hz (sub n hn m hm)).mp hx).trans ((zJ7 A G hz hn).mp hm))⟩
theorem strB_iff :y∈strB J x↔y∈J.ns/\x∈J.S y/\∀z∈J.ns,x∈J.S z->z∉J.S y:=by
 unfold strB;rw[qAQ,qAQ,qA3,qDg,List.any_eq_false];constructor
 .rintro ⟨⟨h1,h2⟩,h3⟩;exact⟨h1,h2,λz hz hx hs=>h3 z (qAQ.mpr ⟨hz,qAS hx⟩) (qAS hs)⟩
 .rintro ⟨h1,h2,h3⟩;refine⟨⟨h1,h2⟩,λz hz c=>?_⟩;obtain⟨z1,z2⟩:=qAQ.mp hz;exact h3 z z1 (qAo z2) (qAo c)
theorem list_at{r:Str->Nat}{b:Nat}(hb:1<=b):∀(f:Nat)(A L:List Str),ListI J r A L->(∀n∈L,n∉A)->L.Nodup->∀(i:Nat)(q:List Str),(zDs J b f A L)[i]?=some q->∃A' L':List Str,ListI J r A' L'/\(∀n∈L',n∉A')/\L'.Nodup/\L'.Sublist L/\L'≠[]/\q=zCd J b A' L'/\∀n,n∈A'↔n∈A\/∃p∈(zDs J b f A L).take i,n∈p
 |0,A,L,_,_,_,i,q,h=>by simp[zDs]at h
 |f+1,A,L,I,dj,nd,i,q,h=>by
  by_cases cL:L=[]
  .rw [cL,zHu]at h;simp at h
  .have e:zDs J b (f+1) A L=zCd J b A L::zDs J b f (zDr J b A L) (zFa J b A L):=qAB cL;rw[e]at h ⊢
   cases i with
   |zero=>
    have:zCd J b A L=q:=by simpa using h
    exact⟨A,L,I,dj,nd,List.Sublist.refl _,cL,this.symm,λn=>by simp⟩
   |succ i=>
    obtain⟨A',L',h1,h2,h3,h4,h5,h6,h7⟩:=list_at hb f (zDr J b A L) (zFa J b A L) (I.next b) (λn hn z=>qAo (qAQ.mp hn).2 z) (nd.sublist qAy) i q (by simpa using h);refine⟨A',L',h1,h2,h3,h4.trans qAy,h5,h6,λn=>?_⟩;rw[h7 n,qDe];unfold zDr;rw[zB1];constructor
    .rintro ((z|z)|⟨p,p1,p2⟩)
     .exact .inl z
     .exact .inr ⟨_,qAY,z⟩
     .exact .inr ⟨p,qAU _ p1,p2⟩
    .rintro (z|⟨p,p1,p2⟩)
     .exact .inl (.inl z)
     .rcases qAM.mp p1 with e|e
      .exact .inl (.inr (e▸p2))
      .exact .inr ⟨p,e,p2⟩
theorem list_all{r:Str->Nat}{b:Nat}(hb:1<=b):∀(f:Nat)(A L:List Str),ListI J r A L->L.length<=f->∀n∈L,n∈A\/∃p∈zDs J b f A L,n∈p
 |0,A,L,_,hf,n,hn=>by
  have:L=[]:=List.eq_nil_of_length_eq_zero (by lia);rw[this]at hn;exact nomatch hn
 |f+1,A,L,I,hf,n,hn=>by
  have cL:L≠[]:=λz=>by rw[z]at hn;exact nomatch hn
  have e:zDs J b (f+1) A L=zCd J b A L::zDs J b f (zDr J b A L) (zFa J b A L):=qAB cL;rw[e]
  by_cases z:n∈zDr J b A L
  .rcases (zB1 _ _).mp z with y|y
   .exact .inl y
   .exact .inr ⟨_,qAY,y⟩
  .have hless:=I.less hb cL;rcases list_all hb f (zDr J b A L) (zFa J b A L) (I.next b) (by lia) n (qAQ.mpr ⟨hn,qAS z⟩)with y|⟨p,p1,p2⟩
   .exact absurd y z
   .exact .inr ⟨p,qAU _ p1,p2⟩
theorem listB_len(J:JR)(b:Nat):∀(f:Nat)(A L:List Str),(zDs J b f A L).length<=f
 |0,_,_=>qAF _
 |f+1,A,L=>by
  show(if L=[]then[]else _).length<=_
  by_cases c:L=[]
  .rw [qAC c];simp
  .rw [qAB c];have:=listB_len J b f (zDr J b A L) (zFa J b A L);simp;lia
theorem flat_sub{J:JR}{b:Nat}:∀(f:Nat)(A L:List Str),L.Nodup->(zDs J b f A L).flatten.Nodup/\∀n∈(zDs J b f A L).flatten,n∈L
 |0,_,_,_=>⟨qA5,(λ_ h=>nomatch h)⟩
 |f+1,A,L,nd=>by
  by_cases c:L=[]
  .rw [c,zHu];exact⟨qA5,(λ_ h=>nomatch h)⟩
  .have e:zDs J b (f+1) A L=zCd J b A L::zDs J b f (zDr J b A L) (zFa J b A L):=qAB c;obtain⟨h1,h2⟩:=flat_sub f (zDr J b A L) (zFa J b A L) (nd.sublist qAy);rw[e,qCN];refine⟨qBX.mpr ⟨(nd.sublist qAy).sublist (qCf _ _),h1,λa ha d hd z=>?_⟩,λn hn=>?_⟩
   .have h3:=qAo (qAQ.mp (h2 d hd)).2;exact h3 ((zB1 _ _).mpr (.inr (z▸ha)))
   .rcases qAT.mp hn with z|z
    .exact zD8 z
    .exact (qAQ.mp (h2 n z)).1
theorem ifT{a b:Prop}(h:a):(if true=true then a else b):=by rw[qAC rfl];exact h
theorem int_at{is:List Int}{i:Nat}{v:V}(h:(is.map V.int)[i]?=some v):∃n,is[i]?=some n/\v= .int n:=by
 rw[qAZ]at h;obtain⟨n,e,r⟩:=qBH.mp h;exact⟨n,e,r.symm⟩
section
def spTf:Sp:=λvs H Q _=>∃m b:Int,vs=[.int m,.int b]/\1<=b/\b<10^100/\Q (.int (tf m b)) H
abbrev zC8:Stmt:=top 26
theorem zHd:FnScope ["many","benches"] ["many","benches"] (zAd zC8):=fnS
theorem zHp(F:Fun K "turns_filled" "turns_filled" zC8 f fd):FnOk P w K mg base CX0 1 f fd ["many","benches"] spTf:=by
 refine F.ok zHd (λvs H Q E h=>?_) (λcdv A outer s H vs Q E hr h=>?_)
 .obtain ⟨m,b,rfl,_⟩:=h;rfl
 .obtain ⟨m,b,rfl,h1,h2,k⟩:=h;exact⟨_,(zAe (zAm (zAk op_fdivB (zAk zCt (zAk zBn (pv 0) (pv 1)) zAf) (pv 1)))),⟨_,rfl,_,rfl,_,_,rfl,rfl,_,_,rfl,rfl,_,rfl,_,_,rfl,rfl,⟨by lia,h2⟩,k⟩⟩
def spLatest:Sp:=λvs H Q _=>∃(b e:Int)(l:Addr)(is:List Int),vs=[.int b,.ref l,.int e]/\1<=b/\b<10^100/\H l=some (.lst (is.map V.int))/\is.length<=20/\∀H',Kp [] H H'->Q (.int (late b is e)) H'
abbrev zCl:Stmt:=top 34
theorem zE0:FnScope ["benches","later","end","many"] ["benches","later","end"] (zAd zCl):=fnS
theorem zIc(F:Fun K "latest_turn" "latest_turn" zCl f fd)(T:Txt K mg)(C_turns_filled:Cal P w K mg base "turns_filled" 1 ["many","benches"] spTf):FnOk P w K mg base CX0 2 f fd ["benches","later","end"] spLatest:=by
 refine F.ok zE0 (λvs H Q E h=>?_) (λcdv A outer s H vs Q E hr h=>?_)
 .obtain ⟨b,e,l,is,rfl,_⟩:=h;rfl
 .obtain ⟨b,e,l,is,rfl,b1,b2,hl,few,k⟩:=h
  refine⟨_,(zAb (psS (i:=3) zE0.nd (zAi zAl (by rfl) T.z_len zBw (zAa (zAt rfl (zAz (sc:=zAd zCl) rfl (by decide +kernel)) (Draws.own (x:="other") (dtk (i:=2) rfl Draws.nil)) (zAj (pv 1)) (λ_ _ _ _=>(pgB (i:=0))) (λ_ _ _ _=>(zBg (zAo op_le (pv 0) (pv 1) (zAq _)))) (λ_ _ _ _=>(pv 0))) zAc))) (zAe (zAm (zAk zCt (pv 2) (zAg C_turns_filled hr rfl (zAa (pv 3) (zAa (pv 0) zAc))))))),?_⟩
  refine hid2 ?_;intro _ _;refine⟨_,rfl,_,rfl,⟨_,SqL.of hl⟩,λD hD=>zA9 (is.map V.int) (λi ys τ H1=>(∃o0,τ=[o0,some (.int e)])/\ys=(((is.take i).filter λx=>decide (x<=e)).map V.int)/\H1=upd H D (.lst ys)) ⟨⟨_,rfl⟩,rfl,rfl⟩ (λi ys τ H1 ⟨_,_,z⟩=>by subst z;exact SqL.of ((Kp.new (M:=[]) Kp.refl hD) _ _ hl (by simp))) ?_ ?_⟩
  .rintro i v ys τ H1 hv ⟨⟨o0,rfl⟩,rfl,rfl⟩;obtain⟨n,en,rfl⟩:=int_at hv;have il:((is.take i).filter λx=>decide (x<=e)).length<=20:=qAL (qAq _ _) (qAL (by rw[qAR];lia) few);refine⟨_,rfl,_,rfl,_,_,rfl,rfl,_,rfl,ite2 (λc=>?_) (λc=>?_)⟩
   .refine ⟨_,rfl,upd_same,by rw[qAD,qAI];lia,⟨_,rfl⟩,?_,zAx⟩;rw[zAh en,qBK,qAu,qAC c,qAN];rfl
   .refine ⟨⟨_,rfl⟩,?_,rfl⟩;rw[zAh en,qBK,qAu,qAB c];simp
  .rintro ys τ H1 ⟨_,rfl,rfl⟩;have eT:is.take (is.map V.int).length=is:=by rw[qAD,qAb]
   rw[eT];refine⟨_,_,rfl,.inl (SqL.of upd_same),?_⟩;rw[qAD];exact⟨_,rfl,_,rfl,_,rfl,_,b,rfl,b1,b2,_,_,rfl,rfl,k _ (Kp.new Kp.refl hD)⟩
def zIn:Sp:=λvs H Q _=>∃p:Addr,vs=[.ref p]/\zBk H p/\∀(b:Int)(H':Hp),1<=b->b<10^100->zBk H' p->Kp [p] H H'->Q (.int b) H'
abbrev zHj:Stmt:=top 61
theorem zIq:FnScope ["_law_purse_here","_law_some"] ["_law_purse_here"] (zAd zHj):=fnS
theorem eight_at{x y z d:Int}(h0:0<=d)(h1:d<8)(Z:Int)(hx:1<=x/\x<Z)(hy:1<=y/\y<Z)(hz:1<=z/\z<Z)(h4:3<Z):∃b,atI [V.int 1,.int 2,.int 2,.int 2,.int 3,.int x,.int y,.int z] d=some (V.int b)/\1<=b/\b<Z:=by
 have:d=0\/d=1\/d=2\/d=3\/d=4\/d=5\/d=6\/d=7:=by lia
 rcases this with rfl|rfl|rfl|rfl|rfl|rfl|rfl|rfl
 .exact ⟨1,rfl,by lia,by lia⟩
 .exact ⟨2,rfl,by lia,by lia⟩
 .exact ⟨2,rfl,by lia,by lia⟩
 .exact ⟨2,rfl,by lia,by lia⟩
 .exact ⟨3,rfl,by lia,by lia⟩
 .exact ⟨x,rfl,hx⟩
 .exact ⟨y,rfl,hy⟩
 .exact ⟨z,rfl,hz⟩
theorem ok_benches(F:Fun K "_law_benches" "_law_benches" zHj f fd)(C_take:Cal P w K mg base "_law_take" 1 ["_law_purse_here","_law_many"] zHc):FnOk P w K mg base CX0 2 f fd ["_law_purse_here"] zIn:=by
 refine F.ok zIq (λvs H Q E h=>?_) (λcdv A outer s H vs Q E hr h=>?_)
 .obtain ⟨p,rfl,_⟩:=h;rfl
 .obtain ⟨p,rfl,hP,k⟩:=h
  refine⟨_,(zAb (psS (i:=1) zIq.nd (zBv (zAa zAf (zAa zAf (zAa zAf (zAa zAf (zAa zAf (zAa (zAk zBn zAf (zAg C_take hr rfl (zAa (pv 0) (zAa zAf zAc)))) (zAa (zAk zBn zAf (zAg C_take hr rfl (zAa (pv 0) (zAa zAf zAc)))) (zAa (zAk zBn zAf (zAg C_take hr rfl (zAa (pv 0) (zAa (zAk zCt (zAk zIu zAf zAf) zAf) zAc)))) zAc)))))))))) (zAe (zAm (zCh zBt (pv 1) (zAg C_take hr rfl (zAa (pv 0) (zAa zAf zAc))) (λ_ _=>rfl))))),?_⟩
  refine hid2 ?_;intro _ _;refine⟨_,rfl,p,3,rfl,hP,by decide,by decide +kernel,λd1 H1 x0 x1 P1 K1=>?_⟩;refine⟨_,_,rfl,rfl,_,rfl,p,20,rfl,P1,by decide,by decide +kernel,λd2 H2 y0 y1 P2 K2=>?_⟩;refine⟨_,_,rfl,rfl,_,rfl,_,_,rfl,rfl,⟨by decide,by decide,by decide⟩,_,_,rfl,rfl,p,_,rfl,P2,by decide +kernel,by decide +kernel,λd3 H3 z0 z1 P3 K3=>?_⟩;refine⟨_,_,rfl,rfl,(by walk_at"ln"),λl hl=>?_⟩;have fl:Fre H3 l:=hl;have nlp:l≠p:=by obtain⟨x,y,e,_⟩:=P3;exact(ne_fre fl e).symm
  have k4:Kp [] H3 (upd H3 l (.lst [.int 1,.int 2,.int 2,.int 2,.int 3,.int (3+d1),.int (1+d2),.int (1+d3)])):=Kp.new Kp.refl fl;have h4:upd H3 l (.lst [.int 1,.int 2,.int 2,.int 2,.int 3,.int (3+d1),.int (1+d2),.int (1+d3)]) l=_:=upd_same;generalize upd H3 l (.lst [.int 1,.int 2,.int 2,.int 2,.int 3,.int (3+d1),.int (1+d2),.int (1+d3)])=H4 at k4 h4;have big:∀n:Int,n<1000->n<10^100:=λn h=>Int.lt_trans h (by decide +kernel);refine⟨_,rfl,_,rfl,p,8,rfl,P3.kp k4 (by simp),by decide,by decide +kernel,λd4 H5 w0 w1 P5 K5=>?_⟩;obtain⟨b,eb,b1,b2⟩:=eight_at w0 w1 (10^100) (x:=3+d1) (y:=1+d2) (z:=1+d3) ⟨by lia,big _ (by lia)⟩ ⟨by lia,big _ (by lia)⟩ ⟨by lia,Int.lt_of_lt_of_le (Int.add_lt_add_left z1 1) (by decide +kernel)⟩ (big 3 (by decide));refine⟨_,_,_,_,rfl,rfl,SqL.of (K5 _ _ h4 (nm1 nlp)),eb,?_⟩;exact k b H5 b1 b2 P5 ((((K1.trans K2).trans K3).trans (k4.weak (by simp))).trans K5)
end
theorem bo_reversed:bootBuiltins "reversed"=some (.type "reversed"):=by decide +kernel
theorem kvI_re{f:Str->Int}(h:x∈F):putK (kvI F f) (Sum.inr x) (.int v)=kvI F (addF f x v):=by
 unfold putK kvI dT1;rw[qAC (by rw[List.any_map,qCn];exact⟨x,h,qAS rfl⟩),qAp];refine qCX λy _=>?_;show(if(Sum.inr y:Key)=Sum.inr x then _ else _)=((Sum.inr y,V.int (addF f x v y)):Key×V)
 by_cases c:y=x
 .subst c;rw[qAC rfl,addF_same]
 .rw [qAB (λz=>c (qCb z)),show addF f x v y=f y from qAB c]
theorem kvI_rev(F:List Str)(f:Str->Int):(kvI F f).reverse=kvI F.reverse f:=by unfold kvI dT1;rw[List.map_reverse]
theorem kvI_keys(F:List Str)(f:Str->Int):(kvI F f).map (·.1)=F.map Sum.inr:=by unfold kvI dT1;rw[qAp];rfl
theorem inr_nd(h:F.Nodup):((F.map Sum.inr:List Key)).Nodup:=qBn.mpr (h.imp λn z=>n (qCb z))
theorem fre_back{p d:Addr}(P:zBk H' p)(k:Kp [p] H H')(f:Fre H' d):Fre H d:=by
 cases z:H d with
 |none=>exact z
 |some o=>
  by_cases c:d=p
  .subst c;obtain⟨x,y,e,_⟩:=P;rw[show H' d=none from f]at e;cases e
  .have:=k d o z (nm1 c);rw[show H' d=none from f]at this;cases this
theorem pl_ne{p l:Addr}{ns:List Str}(hP:zBk H p)(h:Txs H l ns):p≠l:=λe=>by
 obtain⟨a,b,e1,_⟩:=hP;rw[e]at e1;have:=e1.symm.trans h
 cases ns with
 |nil=>simp at this
 |cons n r=>simp at this
section
def spEnds:Sp:=λvs H Q _=>∃(p l:Addr)(ns:List Str),vs=[.ref p,.ref l]/\zBk H p/\Txs H l ns/\ns.Nodup/\ns.length<=20/\∀(d:Addr)(F:List Str)(e:Str->Int)(H':Hp),Fre H d->H' d=some (.dK (kvI F e))->F.Perm ns->zBk H' p->Kp [p] H H'->Q (.ref d) H'
abbrev s_ends:Stmt:=top 62
theorem zHg:FnScope ["_law_purse_here","_law_names_here","_law_base","_law_wide","_law_ends_here","_law_name"] ["_law_purse_here","_law_names_here"] (zAd s_ends):=fnS
theorem four_at{z d:Int}(h0:0<=d)(h1:d<4):∃b,atI [V.int 0,V.int 0,V.int 1,V.int z] d=some (V.int b):=by
 have:d=0\/d=1\/d=2\/d=3:=by lia
 rcases this with rfl|rfl|rfl|rfl
 .exact ⟨0,rfl⟩
 .exact ⟨0,rfl⟩
 .exact ⟨1,rfl⟩
 .exact ⟨z,rfl⟩
theorem ok_ends(F:Fun K "_law_ends" "_law_ends" s_ends f fd)(T:Txt K mg)(C_take:Cal P w K mg base "_law_take" 1 ["_law_purse_here","_law_many"] zHc):FnOk P w K mg base CX0 2 f fd ["_law_purse_here","_law_names_here"] spEnds:=by
 refine F.ok zHg (λvs H Q E h=>?_) (λcdv A outer s H vs Q E hr h=>?_)
 .obtain ⟨p,l,ns,rfl,_⟩:=h;rfl
 .obtain ⟨p,l,ns,rfl,hP,hl,nd,hn,k⟩:=h;have HR_take:=hr;have hu:=zCn hr;have npl:=pl_ne hP hl
  refine⟨_,(zAb (psS (i:=2) zHg.nd (zCh zBt (zBv (zAa zAf (zAa zAf (zAa zAf (zAa (zAk zCt (zAg C_take HR_take rfl (zAa (pv 0) (zAa (zAk zD3 zAf (zAk zIu zAf zAf)) zAc))) (zAk zIu zAf zAf)) zAc))))) (zAg C_take HR_take rfl (zAa (pv 0) (zAa zAf zAc))) (λ_ _=>rfl))) (zAb (psS (i:=3) zHg.nd (zAk zBn zAf (zAg C_take HR_take rfl (zAa (pv 0) (zAa zAf zAc)))))
   (zAb (psS (i:=4) zHg.nd zBr)
   (zAb (zA1 qAg rfl (zAj (pv 1)) (pgN (i:=5) zHg.nd)
    (zAb (zB6 hu (pv 4) (pv 5) (zAk zBn (pv 2) (zAg C_take HR_take rfl (zAa (pv 0) (zAa (pv 3) zAc)))) rfl)
    (zAe (zB5 (zAo zHo (zAg C_take HR_take rfl (zAa (pv 0) (zAa zAf zAc))) zAf (zAq _))
     (zAe (zB6 hu (pv 4) (pv 5) (zAk zBn (zAk zCt (zAg C_take HR_take rfl (zAa (pv 0) (zAa (zAk zCt (zAk zD3 zAf (zAk zIu zAf zAf)) zAf) zAc))) (zAk zIu zAf zAf)) zAf) rfl))
     zAr))))
   (zAb (zB5 (zAo zHo (zAg C_take HR_take rfl (zAa (pv 0) (zAa zAf zAc))) zAf (zAq _))
    (zAe (zAm (zAv (call_dictR rfl) (by rfl) T.z_dict bo_dict (zAa (zAv zJ4 (by rfl) T.z_reversed bo_reversed (zAa (zAv (call_listV rfl) (by rfl) T.z_list zEn (zAa (pe_bm0 qCm qCZ PySem.F.type_dict_items mt_items (pv 4)) zAc)) zAc)) zAc))))
    zAr)
   (zAe (zAm (pv 4)))))))),?_⟩
  refine hid6 ?_;intro _ _ _ _ _ _;refine⟨_,rfl,_,_,rfl,rfl,⟨by decide,by decide,by decide⟩,_,_,rfl,rfl,(by walk_at"ml"),p,_,rfl,hP,by decide +kernel,by decide +kernel,λd1 H1 a0 a1 P1 K1=>?_⟩;refine⟨_,_,rfl,rfl,⟨by decide,by decide,by decide⟩,_,_,rfl,rfl,(by walk_at"ln"),λb hb=>?_⟩;have fb:Fre H1 b:=hb;have KB:Kp [] H1 (upd H1 b (.lst [.int 0,.int 0,.int 1,.int (d1-10^(59:Int).toNat)])):=Kp.new Kp.refl fb;have hbb:upd H1 b (.lst [.int 0,.int 0,.int 1,.int (d1-10^(59:Int).toNat)]) b=_:=upd_same;have nbp:b≠p:=by obtain⟨x,y,e,_⟩:=P1;exact(ne_fre fb e).symm
  generalize upd H1 b (.lst [.int 0,.int 0,.int 1,.int (d1-10^(59:Int).toNat)])=H2 at KB hbb;have P2:zBk H2 p:=P1.kp KB (by simp);have K2:Kp [p] H H2:=K1.trans (KB.weak (by simp));refine⟨_,rfl,p,4,rfl,P2,by decide,by decide,λd2 H3 b0 b1 P3 K3=>?_⟩;obtain⟨bb,e4⟩:=four_at (z:=d1-10^(59:Int).toNat) b0 b1;refine⟨_,_,_,_,rfl,rfl,SqL.of (K3 b _ hbb (nm1 nbp)),e4,?_⟩;refine⟨_,rfl,p,12,rfl,P3,by decide,by decide,λd3 H4 c0 c1 P4 K4=>?_⟩;refine⟨_,_,rfl,rfl,?_⟩;have K5:Kp [p] H H4:=(K2.trans K3).trans K4;refine λd hd=>?_;have fd':Fre H4 d:=hd
  have fd0:Fre H d:=by
   cases z:H d with
   |none=>exact z
   |some o=>
    by_cases c:d=p
    .subst c;obtain⟨x,y,e,_⟩:=P4;rw[show H4 d=none from fd']at e;cases e
    .have:=K5 d o z (nm1 c);rw[show H4 d=none from fd']at this;cases this
  have ndp:p≠d:=by obtain⟨x,y,e,_⟩:=P4;exact ne_fre fd' e
  have KD:Kp [] H4 (upd H4 d (.dK [])):=Kp.new Kp.refl fd';have h4:Txs H4 l ns:=K5 l _ hl (nm1 npl.symm);have ndl:l≠d:=ne_fre fd' h4
  refine⟨_,rfl,_,rfl,⟨_,SqL.of (KD l _ h4 (by simp))⟩,zA8 (xs:=ns.map V.str) (λi σ H6=>∃(ef:Str->Int)(o5:Option V),σ=[some (.ref p),some (.ref l),some (.int bb),some (.int (1+d3)),some (.ref d),o5]/\zBk H6 p/\Kp [p] H H6/\H6 d=some (.dK (kvI (ns.take i) ef))) ⟨λ_=>0,none,rfl,P4.kp KD (by simp),K5.trans (KD.weak (by simp)),upd_same⟩ (λi σ H6 _ ⟨_,_,_,_,K6,_⟩=>SqL.of (K6 l _ hl (nm1 npl.symm))) ?_ ?_⟩
  .rintro i x σ H6 hx ⟨ef,o5,rfl,P6,K6,h6⟩;refine hid2 ?_;intro _ _;obtain⟨nm,en,rfl⟩:=zA3 hx;have hi:i<ns.length:=(qAf.mp en).1;refine⟨_,rfl,_,rfl,_,rfl,p,1+d3,rfl,P6,by lia,by lia,λd4 H7 e0 e1 P7 K7=>?_⟩;have h7:H7 d=some (.dK (kvI (ns.take i) ef)):=K7 d _ h6 (nm1 ndp.symm);have n6:(kvI (ns.take i) ef).length<=20:=by rw[zHz,qAR];lia
   refine⟨_,_,rfl,rfl,_,rfl,_,rfl,_,_,rfl,DPut.k (k:=Sum.inr nm) h7 (by rw[qAI];lia),?_⟩;rw[kvI_put (zDq nd en),<-zAh en];generalize addF ef nm (bb+d4)=e8;have K8:Kp [p] H (upd H7 d (.dK (kvI (ns.take (i+1)) e8))):=zGe (K6.trans K7) fd0 (Kp.put Kp.refl (by simp));have P8:zBk (upd H7 d (.dK (kvI (ns.take (i+1)) e8))) p:=P7.kp (M:=[d]) (Kp.put Kp.refl (by simp)) (nm1 ndp);have h8:upd H7 d (.dK (kvI (ns.take (i+1)) e8)) d=some (.dK (kvI (ns.take (i+1)) e8)):=upd_same;generalize upd H7 d (.dK (kvI (ns.take (i+1)) e8))=H8 at K8 P8 h8;refine⟨_,rfl,p,24,rfl,P8,by decide,by decide,λd5 H9 f0 f1 P9 K9=>?_⟩;have h9:H9 d=some (.dK (kvI (ns.take (i+1)) e8)):=K9 d _ h8 (nm1 ndp.symm);refine⟨rfl,_,rfl,?_⟩;refine ite2 (λc=>?_) (λc=>?_)
   .refine ⟨_,rfl,_,_,rfl,rfl,⟨by decide,by decide,by decide⟩,_,_,rfl,rfl,(by walk_at"ml"),_,_,rfl,rfl,p,_,rfl,P9,by decide +kernel,by decide +kernel,λd6 H10 g0 g1 P10 K10=>?_⟩;refine⟨_,_,rfl,rfl,⟨by decide,by decide,by decide⟩,_,_,rfl,rfl,_,_,rfl,rfl,_,rfl,_,rfl,_,_,rfl,DPut.k (k:=Sum.inr nm) (K10 d _ h9 (nm1 ndp.symm)) (by rw[zHz,qAR,qAI];lia),?_⟩;rw[kvI_re (by rw[zAh en];simp)];refine⟨_,_,rfl,P10.kp (M:=[d]) (Kp.put Kp.refl (by simp)) (nm1 ndp),zGe ((K8.trans K9).trans K10) fd0 (Kp.put Kp.refl (by simp)),upd_same⟩
   .exact ⟨_,_,rfl,P9,K8.trans K9,h9⟩
  .rintro σ H6 ⟨ef,o5,rfl,P6,K6,h6⟩;have eT:ns.take (ns.map V.str).length=ns:=by rw[qAD,qAb]
   rw[eT]at h6;refine⟨_,rfl,p,2,rfl,P6,by decide,by decide,λd4 H7 e0 e1 P7 K7=>?_⟩;have h7:H7 d=some (.dK (kvI ns ef)):=K7 d _ h6 (nm1 ndp.symm);refine⟨rfl,_,rfl,?_⟩;refine ite2 (λc=>?_) (λc=>?_)
   .refine ⟨_,rfl,.inr (.inr (.inl ⟨rfl,.inl ⟨_,h7⟩⟩)),d,kvI ns ef,rfl,rfl,h7,λv hv=>?_⟩;have K8:Kp [] H7 (upd H7 v (vwO v d)):=Kp.new Kp.refl hv;refine⟨v,d,kvI ns ef,rfl,upd_same,K8 d _ h7 (by simp),λl2 ts H9 k9 f9 h9 tl tu=>?_⟩;refine⟨l2,_,rfl,h9,λr hr=>?_⟩;have fr:Fre H9 r:=hr;have K10:Kp [] H9 (upd H9 r (rvO r l2 (ts.map V.ref).length)):=Kp.new Kp.refl fr;have e10:upd H9 r (rvO r l2 (ts.map V.ref).length) r=some (rvO r l2 ts.length):=by rw[upd_same,qAD]
    generalize upd H9 r (rvO r l2 (ts.map V.ref).length)=H10 at K10 e10;have K7':Kp [] H7 H10:=(K8.trans k9).trans K10
    have fr7:Fre H7 r:=by
     cases z:H7 r with
     |none=>exact z
     |some o=>have:=k9 r o (K8 r o z (by simp)) (by simp);rw[show H9 r=none from fr]at this;cases this
    refine⟨r,l2,ts,kvI ns ef,rfl,e10,K10 l2 _ h9 (by simp),tl,by rw[kvI_keys];exact inr_nd nd,λj t kk vv x y=>K10 t _ (tu j t kk vv x y).2 (by simp),λq hq=>?_⟩;have P10:zBk H10 p:=P7.kp K7' (by simp);have K11:Kp [p] H H10:=(K6.trans K7).trans (K7'.weak (by simp));have K12:Kp [] H7 (upd H10 r (anyO r)):=zGe K7' fr7 (Kp.put Kp.refl (by simp));have nq:∀b,H10 b≠none->b≠q:=λb h e=>h (by rw[e];exact hq)
    have K13:Kp [] H7 (upd (upd H10 r (anyO r)) q (.dK (kvI ns ef).reverse)):=λb o e n=>by
     rw[upd_ne (nq b (by rw[K7' b o e n];simp))];exact K12 b o e n
    exact k q ns.reverse ef _ (fre_back P10 K11 hq) (by rw[upd_same,kvI_rev]) (List.reverse_perm ns) (P7.kp K13 (by simp)) ((K6.trans K7).trans (K13.weak (by simp)))
   .exact ⟨_,rfl,k d ns ef H7 fd0 h7 (qDQ _) P7 (K6.trans K7)⟩
end
theorem val_at{f:Str->Int}{i:Nat}{kk:Key}{v:V}(h:(kvI F f)[i]?=some (kk,v)):∃n,v= .int n:=by
 unfold kvI dT1 at h;rw[qAZ]at h;obtain⟨y,e,r⟩:=qBH.mp h
 cases r
 exact⟨_,rfl⟩
theorem has_kvI{f:Str->Int} :(valV (kvI F f) (Sum.inr x)).isSome=decide (x∈F):=by
 by_cases c:x∈F
 .rw [zDu c,qAS c];rfl
 .rw [kvI_no c,qAa c];rfl
theorem all_rep(n:Nat):(List.replicate n true).all id=true:=by simp
section
def spCheckE(C:Addr):Sp:=λvs H Q _=>∃(j d:Addr)(J:JR)(F:List Str)(e:Str->Int),vs=[.ref j,.ref d]/\JobsAt C H j J/\H d=some (.dK (kvI F e))/\F.Perm J.ns/\∀H',Kp [] H H'->Q .non H'
abbrev zCf:Stmt:=top 32
theorem zFi:FnScope ["jobs","ends","names"] ["jobs","ends"] (zAd zCf):=fnS
theorem zJn(F:Fun K "check_ends" "check_ends" zCf f fd)(T:Txt K mg)(U:JC K mg C)(C_is_whole:Cal P w K mg base "is_whole" 1 ["thing"] spWhole)(M_names:Mth P w K mg base C "names" 1 ["self"] (zE1 C)):FnOk P w K mg base CX0 2 f fd ["jobs","ends"] (spCheckE C):=by
 refine F.ok zFi (λvs H Q E h=>?_) (λcdv A outer s H vs Q E hr h=>?_)
 .obtain ⟨j,d,J,F,e,rfl,_⟩:=h;rfl
 .obtain ⟨j,d,J,F,e,rfl,A0,hd,pm,k⟩:=h;have hu:=zCn hr
  refine⟨_,(zAb (psS (i:=2) zFi.nd (zDd M_names U.cl hr (pv 0))) (zAb (zB5 (PW.pt (pw_or (zDc (zC4 (zAi zEx (by rfl) T.z_isinstance zBj (zAa (pv 1) (zAa (zGc (by rfl) T.z_dict bo_dict (v:=.ty "dict") rfl) zAc))))) (zHk (zDc (zC4 (zAi (zDz _ rfl) (by rfl) T.z_all zH6 (zAa (zAt rfl (zAz (sc:=zAd zCf) rfl (by decide +kernel)) (Draws.own (x:= "name") (dtk (i:=1) rfl Draws.nil)) (zAj (pv 2)) (fun _ _ _ _=>(pgB (i:=0))) (fun _ _ _ _=>zBl) (fun _ _ _ _=>(pe_cmp (zFq hu (pv 0) (pv 1))))) zAc)))))))
    (zAe zBq)
    zAr)
   (zAb (zB5 (zAo op_gt (zAi call_lenD (by rfl) T.z_len zBw (zAa (pv 1) zAc)) (zAi zAl (by rfl) T.z_len zBw (zAa (pv 2) zAc)) (zAq _))
    (zAe zBq)
    zAr)
   (zAe (zHl (zB5 (zDc (zC4 (zAi (zDz _ rfl) (by rfl) T.z_all zH6 (zAa (zAt rfl (zAz (sc:=zAd zCf) rfl (by decide +kernel)) (Draws.own (x:= "end") Draws.nil) (pi_vals (pv 1)) (fun _ _ _ _=>(pgB (i:=0))) (fun _ _ _ _=>zBl) (fun _ _ _ _=>(zAg C_is_whole hr rfl (zAa (pv 0) zAc)))) zAc))))
    (zAe zBq)
    zAr)))))),?_⟩
  refine hid4 ?_;intro _ _ _ _;refine⟨_,rfl,j,J.dx,_,rfl,A0.ob,zGz _ _ _ (by decide +kernel) (by decide +kernel) (by decide +kernel),j,J,rfl,A0,λl H1 _ hl k1=>?_⟩;have hd1:=k1 _ _ hd (by simp);have few:=A0.few;have lF:F.length<=20:=by rw[pm.length_eq];exact few
  refine⟨_,rfl,_,_,_,_,rfl,TyOf.dK hd1,zFx,_,rfl,iteF ?_⟩;refine⟨_,rfl,_,rfl,⟨_,SqL.of hl⟩,λD hD=>zAw (J.ns.map V.str) (λi ys τ H2=>(∃o0,τ=[o0,some (.ref d)])/\ys=List.replicate i (.bl true)/\H2=upd H1 D (.lst ys)) ⟨⟨_,rfl⟩,rfl,rfl⟩ (λi ys τ H2 ⟨_,_,z⟩=>by subst z;exact SqL.of ((Kp.new (M:=[]) Kp.refl hD) _ _ hl (by simp))) ?_ ?_⟩
  .rintro i v ys τ H2 hv ⟨⟨o0,rfl⟩,rfl,rfl⟩;obtain⟨n,en,rfl⟩:=zA3 hv;have mn:=pm.mem_iff.mpr (qAJ en);have il:=(qAf.mp en).1;have h2:=(Kp.new (M:=[]) (l:=D) (o:=.lst (List.replicate i (.bl true))) Kp.refl hD) _ _ hd1 (by simp);refine⟨_,rfl,_,rfl,d,_,rfl,DGet.k (k:=Sum.inr n) h2,?_⟩;rw[has_kvI,qAS mn];exact⟨upd_same,by rw[qDr,qAI];lia,⟨_,rfl⟩,by rw[List.replicate_succ'],zAx⟩
  rintro ys τ H2 ⟨_,rfl,rfl⟩;have k2:Kp [] H1 (upd H1 D (.lst (List.replicate (J.ns.map V.str).length (.bl true)))):=Kp.new Kp.refl hD;have e2:upd H1 D (.lst (List.replicate (J.ns.map V.str).length (.bl true))) D=some (.lst ((List.replicate (J.ns.map V.str).length true).map V.bl)):=by rw[upd_same,List.map_replicate]
  generalize upd H1 D (.lst (List.replicate (J.ns.map V.str).length (.bl true)))=H2 at k2 e2;refine⟨D,_,rfl,SqL.of e2,_,rfl,?_⟩;rw[all_rep];refine iteF ?_;have hd2:=k2 _ _ hd1 (by simp);refine⟨_,rfl,d,_,rfl,hd2,_,rfl,_,_,rfl,.inl (SqL.of (k2 _ _ hl (by simp))),_,_,rfl,rfl,_,rfl,?_⟩;rw[qAa (by rw[zHz,qAD,pm.length_eq];lia)];refine iteF ?_;refine⟨d,kvI F e,hd2,λo=>?_⟩;have kf:Kp [d] H2 (upd H2 d (.frz o (.dK (kvI F e)))):=Kp.put Kp.refl (by simp);have ff:upd H2 d (.frz o (.dK (kvI F e))) d=some (.frz o (.dK (kvI F e))):=upd_same;generalize upd H2 d (.frz o (.dK (kvI F e)))=H3 at kf ff;refine⟨_,rfl,d,o,kvI F e,rfl,ff,λB hB=>comp_vals (λi ys τ H4=>(∃o0,τ=[o0])/\ys=List.replicate i (.bl true)/\H4=upd H3 B (.lst ys)) ⟨⟨_,rfl⟩,rfl,rfl⟩ (λi ys τ H4 ⟨_,_,z⟩=>by subst z;exact(Kp.new (M:=[]) Kp.refl hB) _ _ ff (by simp)) ?_ ?_⟩
  .rintro i kk v ys τ H4 hv ⟨⟨o0,rfl⟩,rfl,rfl⟩;have il:i<(kvI F e).length:=(qAf.mp hv).1;rw[zHz]at il;obtain⟨n,rfl⟩:=val_at hv;unfold gName tTrue;exact ifT ⟨_,rfl,n,rfl,upd_same,by rw[qDr,qAI];lia,⟨_,rfl⟩,by rw[List.replicate_succ'],zAx⟩
  .rintro ys τ H4 ⟨_,rfl,rfl⟩;have k4:Kp [] H3 (upd H3 B (.lst (List.replicate (kvI F e).length (.bl true)))):=Kp.new Kp.refl hB;have e4:upd H3 B (.lst (List.replicate (kvI F e).length (.bl true))) B=some (.lst ((List.replicate (kvI F e).length true).map V.bl)):=by rw[upd_same,List.map_replicate]
   generalize upd H3 B (.lst (List.replicate (kvI F e).length (.bl true)))=H4 at k4 e4;refine⟨B,_,rfl,SqL.of e4,_,rfl,?_⟩;rw[all_rep];exact iteF ⟨k4 _ _ ff (by simp),k _ (k1.trans (k2.trans (zI7 hd2 (kf.trans (k4.weak (by simp))))))⟩
def spMended(C Pt:Addr):Sp:=λvs H Q _=>∃(j d:Addr)(J:JR)(b:Int) (qs:List (List Str×Addr)) (r:Str->Nat) (F:List Str) (e:Str->Int),vs=[.ref j,.int b,.ref d]/\JobsAt C H j J/\Good J.ns qs r/\(∀k,k∈J.zs.map (·.1)↔k∈qs.map (·.1))/\1<=b/\b<10^100/\H d=some (.dK (kvI F e))/\F.Perm J.ns/\TabA H Pt /\
 ∀(d':Addr)(G:List Str)(g:Str->Int)(H':Hp),Kp [Pt] H H'->TabA H' Pt->Fre H d'->H' d'=some (.dK (kvI G g))->MF b e (behJ J) G g->G.Perm J.ns->Q (.ref d') H'
abbrev zFj:Stmt:=top 33
theorem zFg:FnScope ["jobs","benches","ends","found","name","later"] ["jobs","benches","ends"] (zAd zFj):=fnS
theorem ok_mended(F:Fun K "mended" "mended" zFj f fd)(T:Txt K mg)(U:JC K mg C)(C_check_benches:Cal P w K mg base "check_benches" 2 ["benches"] spBench)(C_check_ends:Cal P w K mg base "check_ends" 2 ["jobs","ends"] (spCheckE C))(C_last:Cal P w K mg base "last_ones_first" 7 ["jobs"] (spLast C Pt))(C_latest:Cal P w K mg base "latest_turn" 2 ["benches","later","end"] spLatest)(M_behind:Mth P w K mg base C "behind" 3 ["self","name"] (zG0 C)):FnOk P w K mg base CX0 8 f fd ["jobs","benches","ends"] (spMended C Pt):=by
 refine F.ok zFg (λvs H Q E h=>?_) (λcdv A outer s H vs Q E hr h=>?_)
 .obtain ⟨j,d,J,b,qs,r,F,e,rfl,_⟩:=h;rfl
 .obtain ⟨j,de,J,b,qs,r,F,ev,rfl,A0,G,hz,b1,b2,hde,pm,T0,k⟩:=h;have hr3:=hr.mono (j:=3) (by decide);have hr2:=hr.mono (j:=2) (by decide);have hu:=zCn hr
  refine⟨_,(zAb (zA2 (zAg C_check_benches hr2 rfl (zAa (pv 1) zAc))) (zAb (zA2 (zAg C_check_ends hr2 rfl (zAa (pv 0) (zAa (pv 2) zAc))))
   (zAb (psS (i:=3) zFg.nd zBr)
   (zAb (zA1 qAg rfl (zAj (zAg C_last hr rfl (zAa (pv 0) zAc))) (pgN (i:=4) zFg.nd)
    (zAb (psS (i:=5) zFg.nd (zAt rfl (zAz (sc:=zAd zFj) rfl (by decide +kernel)) (Draws.own (x:= "other") (dtk (i:=3) rfl Draws.nil)) (zAj (zEs M_behind U.cl hr3 (pv 0) (zAa (pv 4) zAc))) (fun _ _ _ _=>(pgB (i:=0))) (fun _ _ _ _=>zBl) (fun _ _ _ _=>(zAs hu (pv 1) (pv 0) (fun _ _=>rfl)))))
    (zAe (zB6 hu (pv 3) (pv 4) (zAi (call_min1 rfl) (by rfl) T.z_min bo_min (zAa (zAk op_cat (zBv (zAa (zAs hu (pv 2) (pv 4) (λ_ _=>rfl)) zAc)) (zAt rfl (zAz (sc:=zAd zFj) rfl (by decide +kernel)) (Draws.own (x:="end") (dtk (i:=1) rfl (dtk (i:=5) rfl Draws.nil))) (zAj (pv 5)) (λ_ _ _ _=>(pgB (i:=0))) (λ_ _ _ _=>zBl) (λ_ _ _ _=>(zAg C_latest hr2 rfl (zAa (pv 1) (zAa (pv 2) (zAa (pv 0) zAc))))))) zAc)) rfl))))
   (zAe (zAm (pv 3))))))),?_⟩
  refine hid5 ?_;intro _ _ _ _ _;have few:=A0.few;have D:=dec_J A0 G hz;refine⟨_,rfl,b,rfl,b1,_,rfl,_,rfl,j,de,J,F,ev,rfl,A0,hde,pm,λH0 k0=>?_⟩;refine λd hd=>?_;have fd0:Fre H d:=k0.fre hd (by simp);have k1:Kp [] H (upd H0 d (.dK [])):=k0.trans (Kp.new Kp.refl hd);have e1:upd H0 d (.dK []) d=some (.dK []):=upd_same;generalize upd H0 d (.dK [])=H1 at k1 e1;refine⟨_,rfl,j,J,rfl,A0.kp0 k1,T0.kp k1,λl zs H2 k2 T2 hl pz sz=>?_⟩;have T1:=T0.kp k1;have e2:=k2 d _ e1 (nm1 (T1.off e1 λ_ z=>nomatch z));have de2:=k2 de _ (k1 _ _ hde (by simp)) (nm1 (T1.off (k1 _ _ hde (by simp)) λ_ z=>nomatch z));have nde:de≠d:=ne_fre fd0 hde;have A2:=(A0.kp0 k1).kpT k2 T1;have K2:Kp [Pt] H H2:=(k1.weak (by simp)).trans k2;have zn:zs.Nodup:=pz.nodup_iff.mpr A0.nd;have zl:zs.length<=20:=by rw[pz.length_eq];exact few
  refine⟨_,rfl,⟨_,SqL.of hl⟩,zA8 (xs:=zs.map V.str) (λi σ H3=>∃(o4 o5:Option V)(g:Str->Int),σ=[some (.ref j),some (.int b),some (.ref de),some (.ref d),o4,o5]/\Kp [d] H2 H3/\H3 d=some (.dK (kvI (zs.take i) g))/\MF b ev (behJ J) (zs.take i) g) ⟨none,none,λ_=>0,rfl,Kp.refl,e2,MF.nil _ _ _ _⟩ (λi σ H3 _ ⟨_,_,_,_,k3,_⟩=>SqL.of (k3 _ _ hl (nm1 λz=>by have h:H2 l=_:=hl;rw[z,e2]at h;cases h))) ?_ ?_⟩
  .rintro i v σ H3 hv ⟨o4,o5,g,rfl,k3,h3,hf⟩;refine hid2 ?_;intro _ _;obtain⟨x,ex,rfl⟩:=zA3 hv;have xz:x∈zs:=qAJ ex;have xn:x∈J.ns:=pz.mem_iff.mp xz
   have A3:JobsAt C H3 j J:=A2.kp k3 λa o ha hm=>by
    have e:a=d:=by simpa using hm
    subst e;have nof:∀b,Fre H a->H b≠none->a≠b:=λb h1 h2 e=>h2 (by rw[<-e];exact h1);refine⟨nof _ fd0 (by rw[A0.ob];simp),nof _ fd0 (by rw[A0.row];simp),nof _ fd0 (by rw[A0.prs.top];simp),nof _ fd0 (by rw[A0.abv];simp),λq hq=>nof _ fd0 (by rw[A0.prs.row q hq];simp),λn hn=>nof _ fd0 (by rw[A0.sets n hn];simp)⟩
   have bs:∀y∈behJ J x,y∈zs.take i:=λy hy=>by
    obtain⟨h1,h2⟩:=D x xn y hy;exact sort_ahead sz ex (pz.mem_iff.mpr h1) (by lia)
   have nx:x∉zs.take i:=zDq zn ex;have bl:(behJ J x).length<=J.ns.length:=qAq _ _;refine⟨_,rfl,j,J.dx,_,rfl,A3.ob,zGz _ _ _ (by decide +kernel) (by decide +kernel) (by decide +kernel),_,rfl,j,J,x,rfl,A3,xn,λm H4 fm hm k4=>?_⟩;have hm:Txs H4 m (behJ J x):=hm;have h4:=k4 _ _ h3 (by simp);refine⟨_,rfl,⟨_,SqL.of hm⟩,λE' hE'=>zAw ((behJ J x).map V.str) (λn ys τ H5=>(∃o0,τ=[o0,some (.ref d)])/\ys=(((behJ J x).take n).map λy=>V.int (g y))/\H5=upd H4 E' (.lst ys)) ⟨⟨_,rfl⟩,rfl,rfl⟩ (λn ys τ H5 ⟨_,_,z⟩=>by subst z;exact SqL.of ((Kp.new (M:=[]) Kp.refl hE') _ _ hm (by simp))) ?_ ?_⟩
   .rintro n v ys τ H5 hv ⟨⟨o0,rfl⟩,rfl,rfl⟩;obtain⟨y,ey,rfl⟩:=zA3 hv;have yb:=qAJ ey;have h5:=(Kp.new (M:=[]) (l:=E') (o:=.lst (((behJ J x).take n).map λy=>V.int (g y))) Kp.refl hE') _ _ h4 (by simp);refine⟨_,rfl,_,rfl,d,_,rfl,by have:=DGet.k (k:=Sum.inr y) h5;rw[zDu (bs y yb)]at this;exact this,upd_same,by rw[qAD,qAR,qAI];lia,⟨_,rfl⟩,?_,zAx⟩;rw[zAh ey,qAN];rfl
   rintro ys τ H5 ⟨_,rfl,rfl⟩;have eT:(behJ J x).take ((behJ J x).map V.str).length=behJ J x:=by rw[qAD,qAb]
   rw[eT];have k5:Kp [] H4 (upd H4 E' (.lst ((behJ J x).map λy=>V.int (g y)))):=Kp.new Kp.refl hE';have e5:upd H4 E' (.lst ((behJ J x).map λy=>V.int (g y))) E'=some (.lst (((behJ J x).map g).map V.int)):=by rw[upd_same,qAp];rfl
   generalize upd H4 E' (.lst ((behJ J x).map λy=>V.int (g y)))=H5 at k5 e5;have k35:=k4.trans k5;have h5:=k5 _ _ h4 (by simp);have de5:=k35 _ _ (k3 _ _ de2 (nm1 nde)) (by simp);have hm':=λv=>hf.more (v:=v) nx bs;have li:((behJ J x).map g).length<=20:=by rw[qAD];lia
   generalize (behJ J x).map g=is at e5 hm' li;refine⟨_,rfl,_,rfl,de,_,rfl,by have:=DGet.k (k:=Sum.inr x) de5;rw[zDu (pm.mem_iff.mpr xn)]at this;exact this,(by walk_at"ln"),λZ hZ=>?_⟩;have k6:Kp [] H5 (upd H5 Z (.lst [.int (ev x)])):=Kp.new Kp.refl hZ;have e6:upd H5 Z (.lst [.int (ev x)]) Z=some (.lst [.int (ev x)]):=upd_same;generalize upd H5 Z (.lst [.int (ev x)])=H6 at k6 e6;have e56:=k6 _ _ e5 (by simp);refine⟨_,rfl,_,rfl,⟨_,SqL.of e56⟩,λY hY=>zAw (is.map V.int) (λn ys τ H7=>(∃o0,τ=[o0,some (.int b),some (.ref E')])/\ys=((is.take n).map λy=>V.int (late b is y))/\Kp [] H6 H7/\H7 Y=some (.lst ys)) ⟨⟨_,rfl⟩,rfl,Kp.new Kp.refl hY,upd_same⟩ (λn ys τ H7 ⟨_,_,k7,_⟩=>SqL.of (k7 _ _ e56 (by simp))) ?_ ?_⟩
   .rintro n v ys τ H7 hv ⟨⟨o0,rfl⟩,rfl,k7,h7⟩;obtain⟨y,ey,rfl⟩:=int_at hv;refine⟨_,rfl,_,rfl,_,rfl,b,y,E',is,rfl,b1,b2,k7 _ _ e56 (by simp),li,λH8 k8=>?_⟩;refine⟨k8 _ _ h7 (by simp),by rw[qAD,qAR,qAI];lia,⟨_,rfl⟩,?_,Kp.new (k7.trans k8) hY,upd_same⟩;rw[zAh ey,qAN];rfl
   .rintro ys τ H7 ⟨_,rfl,k7,h7⟩;have eT:is.take (is.map V.int).length=is:=by rw[qAD,qAb]
    rw[eT]at h7;have e7:H7 Y=some (.lst ((is.map (late b is)).map V.int)):=by rw[h7,qAp];rfl
    refine⟨Z,Y,_,_,rfl,rfl,k7 _ _ e6 (by simp),e7,by simp only[qAD,qAc,qBV,qAI];lia,λR hR=>?_⟩;have k8:Kp [] H7 (upd H7 R (.lst ([.int (ev x)]++(is.map (late b is)).map V.int))):=Kp.new Kp.refl hR;have e8:upd H7 R (.lst ([.int (ev x)]++(is.map (late b is)).map V.int)) R=some (.lst ((ev x::is.map (late b is)).map V.int)):=upd_same;generalize upd H7 R (.lst ([.int (ev x)]++(is.map (late b is)).map V.int))=H8 at k8 e8;have k58:=k6.trans (k7.trans k8);have h8:=k58 _ _ h5 (by simp);refine⟨R,_,rfl,SqL.of e8,by simp,λM hM bM=>?_⟩;refine⟨_,rfl,_,rfl,_,_,rfl,DPut.k (k:=Sum.inr x) h8 (by rw[zHz,qAR,qAI];lia),?_⟩;rw[kvI_put nx,<-zAh ex];refine⟨_,_,_,rfl,Kp.put (k3.trans ((k35.trans k58).weak (by simp))) (by simp),upd_same,?_⟩;rw[zAh ex];exact hm' _ ⟨hM,bM⟩
  .rintro σ H3 ⟨o4,o5,g,rfl,k3,h3,hf⟩;have eT:zs.take (zs.map V.str).length=zs:=by rw[qAD,qAb]
   rw[eT]at h3 hf
   have T3:TabA H3 Pt:=by
    have no:∀b o,H2 b=some o->(∀kv,o≠.dK kv)->b∉[d]:=λb o h z=>nm1 λy=>by rw[y,e2]at h;exact z _ (qAe h).symm
    rcases T2 with e|⟨c,e,ec⟩
    .exact .inl (k3 _ _ e (no _ _ e λ_ z=>nomatch z))
    .exact .inr ⟨c,k3 _ _ e (no _ _ e λ_ z=>nomatch z),k3 _ _ ec (no _ _ ec λ_ z=>nomatch z)⟩
   exact⟨_,rfl,k d zs g H3 (zGe K2 fd0 k3) T3 fd0 h3 hf pz⟩
end
end My
namespace L2
open PySem PySem.Spec PyProof.Rows
section
variable{X:Cx}
theorem zJ3(hc':X.calm=true):zCa X (.builtin "sorted") (λxs H Q=>∃(a:Addr) (kvs:List (Key×V)) (ks:List Str),xs=[.ref a]/\H a=some (.dK kvs)/\kvs.map (·.1)=ks.map Sum.inr/\ks.length<64/\∀b zs,H b=none->zs.Perm ks->RiseS zs->Q (.ref b) (upd H b (.lst (zs.map V.str)))):=by
 intro pins s σ H xs us Q I r h;obtain⟨a,kvs,ks,rfl,ea,ek,hc,q⟩:=h;obtain⟨u,rfl,rx⟩:=zH9 r
 cases rx
 obtain⟨z,hd,vs,rel,dd⟩:=dk_of I.hok ea;obtain⟨o,es,ep',y1,y2,y3,y4,y5,y6⟩:=id dd;have len:=rel.length;have kl:ks.length=kvs.length:=by have:=qAm List.length ek;simpa using this.symm
 have K0:=PySem.W.kdl_dict (prog:=X.prog) (w:=X.w) (knd:=zAn X.prog X.w) (d:=a) (kvs:=vs) (ep:=ep') hd;have hok:s.heap.DictAt (zAn X.prog X.w) a vs ep':=⟨o,es,y1,y2,y3,y4,y5,y6⟩;have hsl:(4096:Nat)<=sizeLine:=by decide +kernel
 refine ST.w_sortedCS (kd:=oneType') (κ:=PyProof.Rows.strKind)
  (J:=λits s1=>StrsAre its ks/\∃h1 tk,s1={s with heap:=h1,toks:=tk}/\∀b o,s.heap.get? b=some o->h1.get? b=some o)
  (PySem.W.kdu_collect (A:=X.A.in1) K0 (I.ok.hd hc') hok (by lia) λh' tk acc hk hacc=>⟨?_,h',tk,rfl,hk⟩) λits s1 ⟨hS,h1,tk,v2,v3⟩=>?_
 .refine strs_of _ ks (by rw[qBZ,hacc.1];lia) λj v e=>?_;obtain⟨k,x,e1,e2⟩:=hacc.2 j v (by simpa using e);have jl:j<kvs.length:=by rw[len];exact(qAf.mp e1).1
  obtain⟨u,e3,_⟩:=kv_at rel (qAV jl);rw[e1]at e3;have e3:k=kvs[j].1:=by cases e3;rfl
  have e4:(kvs.map (·.1))[j]?=(ks.map Sum.inr)[j]?:=by rw[ek]
  rw[qAZ,qAZ,qAV jl,qAV (by lia)]at e4;have e4:kvs[j].1=Sum.inr ks[j]:=by simpa using e4
  rw[e3,e4]at e2;obtain⟨t,rfl⟩:RelV (V.str ks[j]) v:=zJf e2;exact⟨ks[j],t,qAV (by lia),rfl⟩
 .subst v2;have hln:its.length=ks.length:=ST.strs_len hS;refine⟨by lia,λh' up=>ST.strs_sortable hS,λout c h' p1 p2 p3 up=>?_⟩;have hall:∀v∈out,∃x t,v= .str x t:=λv hv=>hS.all v (p1.mem_iff.mp hv);have hO:=strsAre_map out hall
  have hpz:(out.map strOf).Perm ks:=by
   have:=p1.map strOf
   rwa [hS.strs]at this
  have hri:RiseS (out.map strOf):=by
   unfold RiseS;rw[qBn];refine p2.imp_of_mem λ{x y} hx hy z=>?_;obtain⟨x',t,rfl⟩:=hall x hx;obtain⟨y',u,rfl⟩:=hall y hy;have z:decide (ST.sg y'<ST.sg x')=false:=z;exact qDU z
  have I1:Inv X pins σ H {s with heap:=h1,toks:=tk}:=I.kept v3;have hz:((out.map strOf).map V.str).length<=sizeLine:=by rw[qAD,hpz.length_eq];lia
  exact⟨.ref h1.objs.size,_,I1.laid (t':=tk) up (qAF _) (show zA0 X.prog X.w _ h' _ (.lst ((out.map strOf).map V.str))from⟨hz,_,c,zFf hO,p3⟩),rfl,q _ _ (I1.hok.fresh (qAF _)) hpz hri⟩
end
end L2
namespace My
open PySem L2
variable{P:Program}{w:World}{K:PySem.W.Frag}{mg:Str->Option Value}{base:Heap}{C:Addr}
variable{H H':Hp}{f Pt Pu:Addr}{fd:FuncData}{D:Int}{i:Nat}{J:JR}
theorem mp_ne{p m:Addr}{qs:List (List Str×Addr)}(hP:zBk H p)(h:H m=some (.lst (qs.map λq=>V.ref q.2))):m≠p:=λe=>by
 obtain⟨a,b,e1,_⟩:=hP;rw[e,e1]at h
 cases qs with
 |nil=>simp at h
 |cons n r=>simp at h
section
def spImplied:Sp:=λvs H Q _=>∃(p m d:Addr)(ns:List Str) (qs:List (List Str×Addr)) (la:Str->Addr) (L:Str->List Str),vs=[.ref p,.ref m,.ref d]/\zBk H p/\Ords H m qs/\DR H d ns la L/\ns.Nodup/\ns.length<=20/\(∀n∈ns,(L n).Nodup/\∀x,x∈L n↔Way qs n x)/\(∀q∈qs,∀x∈q.1,x∈ns)/\qs.length<=57 /\
 ∀(l:Addr) (ks:List (List Str×Addr)) (H':Hp),Fre H l->Ords H' l ks->ks.length<=63->(∀q∈qs,q∈ks)->(∀q∈ks,Way qs (fst q) (snd q))->zBk H' p->Kp [p] H H'->Q (.ref l) H'
abbrev zHi:Stmt:=top 66
theorem zDb:FnScope ["_law_purse_here","_law_orders","_law_behind_here","_law_found","_law_k","_law_one","_law_far"] ["_law_purse_here","_law_orders","_law_behind_here"] (zAd zHi):=fnS
theorem ok_implied(F:Fun K "_law_implied" "_law_implied" zHi f fd)(T:Txt K mg)(C_take:Cal P w K mg base "_law_take" 1 ["_law_purse_here","_law_many"] zHc):FnOk P w K mg base CX0 2 f fd ["_law_purse_here","_law_orders","_law_behind_here"] spImplied:=by
 refine F.ok zDb (λvs H Q E h=>?_) (λcdv A outer s H vs Q E hr h=>?_)
 .obtain ⟨p,m,d,ns,qs,la,L,rfl,_⟩:=h;rfl
 .obtain ⟨p,m,d,ns,qs,la,L,rfl,P0,O0,D0,nd,few,hL,qin,lq,k⟩:=h;have hu:=zCn hr
  refine⟨_,(zAb (psS (i:=3) zDb.nd (zAv zBi (by rfl) T.z_list zEn (zAa (pv 1) zAc))) (zAb (zA1 qAg rfl (zBm rfl T.z_range (zAa (zAk zD3 (zAv zEm (by rfl) T.z_int zI2 (zAa (zCi (zJj hr) (pv 1) (zBv zAc) (zAq _)) zAc)) (zAg C_take hr rfl (zAa (pv 0) (zAa zAf zAc)))) zAc)) (pgN (i:=4) zDb.nd)
    (zAb (psS (i:=5) zDb.nd (zCh ix_tup (zCh zBt (pv 1) (zAg C_take hr rfl (zAa (pv 0) (zAa (zAi zAl (by rfl) T.z_len zBw (zAa (pv 1) zAc)) zAc))) (fun _ _=>rfl)) zAf (fun _ _=>rfl)))
    (zAb (psS (i:=6) zDb.nd (zAi (zJ3 rfl) (by rfl) T.z_sorted zCv (zAa (zAs hu (pv 2) (pv 5) (fun _ _=>rfl)) zAc)))
    (zAe (zA2 (zGv qBR qD1 qD2 zHs (pv 3) (zAa (zAg C_take hr rfl (zAa (pv 0) (zAa (zAk zBn (zAi zAl (by rfl) T.z_len zBw (zAa (pv 3) zAc)) zAf) zAc))) (zAa (zGo (zAa (pv 5) (zAa (zCh zBt (pv 6) (zAg C_take hr rfl (zAa (pv 0) (zAa (zAi zAl (by rfl) T.z_len zBw (zAa (pv 6) zAc)) zAc))) (λ_ _=>rfl)) zAc))) zAc))))))))
   (zAe (zAm (pv 3))))),?_⟩
  refine hid3 ?_;intro _ _ _;have nmp:=mp_ne P0 O0.top;have ntp:∀{a:Addr}{xs:List V},H a=some (.tup xs)->a≠p:=λh=>by obtain⟨_,_,e,_⟩:=P0;exact zB8 h e λz=>nomatch z
  have ndp:∀{a:Addr} {kv:List (Key×V)},H a=some (.dK kv)->a≠p:=λh=>by obtain⟨_,_,e,_⟩:=P0;exact zB8 h e λz=>nomatch z
  refine⟨_,rfl,_,_,rfl,.inl (SqL.of O0.top),λfl hfl=>?_⟩;have ffl:Fre H fl:=hfl;have k1:Kp [] H (upd H fl (.lst (qs.map λq=>V.ref q.2))):=Kp.new Kp.refl ffl;have e1:upd H fl (.lst (qs.map λq=>V.ref q.2)) fl=some (.lst (qs.map λq=>V.ref q.2)):=upd_same;generalize upd H fl (.lst (qs.map λq=>V.ref q.2))=H1 at k1 e1;have nfp:fl≠p:=by obtain⟨_,_,e,_⟩:=P0;exact(ne_fre ffl e).symm
  refine⟨_,rfl,(by walk_at"ln"),λe he=>?_⟩;have k2:Kp [] H1 (upd H1 e (.lst [])):=Kp.new Kp.refl he;refine zFb (xs:=qs.map λq=>V.ref q.2) (SqL.of ((k1.trans k2) _ _ O0.top (by simp))) (SqL.of upd_same) λbb hbb=>?_;refine .inr ⟨bb,rfl,?_⟩;refine⟨_,rfl,p,5,rfl,P0.kp (k1.trans k2) (by simp),by decide,by decide +kernel,λdd H2 dd0 dd1 P2 K2=>?_⟩;have e2:=K2 _ _ (k2 _ _ e1 (by simp)) (nm1 nfp);have K02:Kp [p] H H2:=((k1.trans k2).weak (by simp)).trans K2
  have hmul:(if bb=true then(1:Int)else 0)*dd=0\/((if bb=true then(1:Int)else 0)*dd=dd/\qs≠[]):=by
   cases bb with
   |false=>left;rw[qAB (by decide)];lia
   |true=>right;rw[qAC rfl];exact⟨by lia,λz=>hbb rfl (by rw[z];rfl)⟩
  have hml:(if bb=true then(1:Int)else 0)=0\/(if bb=true then(1:Int)else 0)=1:=by cases bb<;>simp
  generalize (if bb=true then(1:Int)else 0)=n01 at hmul hml ⊢;have hi5:(n01*dd).toNat<=4:=by rcases hmul with z|⟨z,_⟩<;>lia
  refine⟨_,_,rfl,rfl,?_,_,rfl,by rcases hmul with z|⟨z,_⟩<;>lia,by rcases hmul with z|⟨z,_⟩<;>lia,zB2 (lo:=0) (n:=(n01*dd).toNat) (λi σ H3=>∃(o4 o5 o6:Option V) (ks:List (List Str×Addr)),σ=[some (.ref p),some (.ref m),some (.ref d),some (.ref fl),o4,o5,o6]/\zBk H3 p/\Kp [p] H H3/\Ords H3 fl ks/\ks.length=qs.length+i/\(∀q∈qs,q∈ks)/\∀q∈ks,Way qs (fst q) (snd q))
   ⟨_,_,_,qs,rfl,P2,K02,⟨e2,λq hq=>K02 _ _ (O0.row q hq) (nm1 (ntp (O0.row q hq))),O0.two⟩,rfl,λq h=>h,λq hq=>.one ⟨q,hq,rfl,rfl⟩⟩ ?_ ?_⟩
  .rcases hml with z|z
   .exact Or.inl ⟨by lia,by lia⟩
   .exact Or.inl ⟨by lia,by lia⟩
  .rintro i σ H3 hi ⟨o4,o5,o6,ks,rfl,P3,K3,O3,e3,s3,w3⟩;refine hid3 ?_;intro _ _ _
   have ne:qs≠[]:=by
    rcases hmul with z|⟨_,z⟩
    .rw [z]at hi;exact absurd hi (qCA _)
    .exact z
   have pos:0<qs.length:=qCD.mpr ne;have big:∀n:Int,n<1000->n<10^100:=λn h=>Int.lt_trans h (by decide +kernel);refine⟨_,rfl,_,rfl,_,rfl,_,_,rfl,.inl (SqL.of (K3 _ _ O0.top (nm1 nmp))),p,_,rfl,P3,by rw[qAD];lia,big _ (by rw[qAD];lia),λd1 H4 x0 x1 P4 K4=>?_⟩;rw[qAD]at x1;have K04:=K3.trans K4;obtain⟨q,eq⟩:∃q,qs[d1.toNat]?=some q:=⟨_,qAV (by lia)⟩;have mq:=qAJ eq;obtain⟨a,b,eab⟩:=O0.two q mq
   have hrow:H4 q.2=some (.tup [.str a,.str b]):=by
    have:=K04 q.2 _ (O0.row q mq) (nm1 (ntp (O0.row q mq)));rw[eab]at this;exact this
   have ma:a∈ns:=qin q mq a (by rw[eab];simp);have wab:Way qs a b:=.one ⟨q,mq,by unfold fst;rw[eab];rfl,by unfold snd;rw[eab];rfl⟩;refine⟨_,_,_,.ref q.2,rfl,rfl,SqL.of (K04 _ _ O0.top (nm1 nmp)),zDe x0 (by rw[qAZ,eq];rfl),_,_,_,_,rfl,rfl,SqT.of hrow,zDe (v:=.str a) (by decide) rfl,?_⟩;have la0:H (la a)=some (.dK (dT1 (L a) λ_=>.bl true)):=D0.row a ma;have la4:=K04 _ _ la0 (nm1 (ndp la0))
   have dg:DGet H4 d (.str a) (some (.ref (la a))):=by
    have:=DGet.k (k:=Sum.inr a) (K04 _ _ D0.top (nm1 (ndp D0.top)));rw[zBf,qAC ma]at this;exact this
   have Lsub:∀x∈L a,x∈ns:=λx hx=>(Way.to O0.two qin (((hL a ma).2 x).mp hx)).2;have Ll:(L a).length<=20:=qAL (zDi (hL a ma).1 Lsub) few;refine⟨_,rfl,_,rfl,d,_,rfl,dg,la a,_,L a,rfl,la4,by unfold dT1;rw[qAp];rfl,by lia,λfr zs hfr pz _=>?_⟩;have k5:Kp [] H4 (upd H4 fr (.lst (zs.map V.str))):=Kp.new Kp.refl hfr;have e5:upd H4 fr (.lst (zs.map V.str)) fr=some (.lst (zs.map V.str)):=upd_same;have nfr:fr≠p:=by obtain⟨_,_,e,_⟩:=P4;exact(ne_fre hfr e).symm
   generalize upd H4 fr (.lst (zs.map V.str))=H5 at k5 e5;have K05:Kp [p] H H5:=K04.trans (k5.weak (by simp))
   have O5:Ords H5 fl ks:=by
    have nk:∀q∈ks,q.2∉[p]:=λq hq=>nm1 (by obtain⟨_,_,e,_⟩:=P3;exact zB8 (O3.row q hq) e λz=>nomatch z);exact(O3.kp K4 (nm1 nfp) nk).kp k5 (by simp) (by simp)
   have P5:=P4.kp k5 (by simp);have lz:zs.length<=20:=by rw[pz.length_eq];exact Ll
   have pz0:0<zs.length:=by
    rw[pz.length_eq];exact qC4 (((hL a ma).2 b).mpr wab)
   have nk5:∀q∈ks,q.2∉[p]:=λq hq=>nm1 (by obtain⟨_,_,e,_⟩:=P5;exact zB8 (O5.row q hq) e λz=>nomatch z);refine⟨_,rfl,.inl ⟨rfl,_,SqL.of O5.top⟩,_,rfl,_,rfl,_,_,rfl,.inl (SqL.of O5.top),_,_,rfl,rfl,p,_,rfl,P5,by rw[qAD];lia,big _ (by rw[qAD];lia),λd2 H6 y0 y1 P6 K6=>?_⟩;rw[qAD]at y1;have e6:=K6 _ _ e5 (nm1 nfr);refine⟨_,rfl,_,rfl,_,rfl,_,rfl,_,_,rfl,.inl (SqL.of e6),p,_,rfl,P6,by rw[qAD];lia,big _ (by rw[qAD];lia),λd3 H7 z0 z1 P7 K7=>?_⟩;rw[qAD]at z1;obtain⟨c,ec⟩:∃c,zs[d3.toNat]?=some c:=⟨_,qAV (by lia)⟩;refine⟨_,_,_,.str c,rfl,rfl,SqL.of (K7 _ _ e6 (nm1 nfr)),zDe z0 (by rw[qAZ,ec];rfl),(by walk_at"ln"),λt ht=>?_⟩;have K07:=K05.trans (K6.trans K7);have O7:Ords H7 fl ks:=O5.kp (K6.trans K7) (nm1 nfp) nk5;have k8:Kp [] H7 (upd H7 t (.tup [.str a,.str c])):=Kp.new Kp.refl ht;have e8:upd H7 t (.tup [.str a,.str c]) t=some (.tup [.str a,.str c]):=upd_same;generalize upd H7 t (.tup [.str a,.str c])=H8 at k8 e8;have O8:=O7.kp k8 (by simp) (by simp);refine⟨_,_,_,_,rfl,rfl,O8.top,by rw[qAD,qAI];lia,y0,by rw[qAD];lia,?_⟩;have hp:=ST.ins_perm ks d2.toNat ([a,c],t);have K08:Kp [p] H H8:=K07.trans (k8.weak (by simp));refine⟨_,_,_,ks.take d2.toNat++([a,c],t)::ks.drop d2.toNat,rfl,P7.kp (k8.trans Kp.refl) (by simp) |>.kp (M:=[fl]) (Kp.put Kp.refl (by simp)) (nm1 nfp.symm),zGe K08 ffl (Kp.put Kp.refl (by simp)),⟨?_,λu hu=>?_,λu hu=>?_⟩,?_,λu hu=>hp.mem_iff.mpr (qAU _ (s3 u hu)),λu hu=>?_⟩
   .rw [upd_same];exact qAm (λz=>some (HO.lst z)) (ins_map (λt:List Str×Addr=>V.ref t.2) ks d2.toNat ([a,c],t))
   .rcases qAM.mp (hp.mem_iff.mp hu)with z|z
    .rw [z];exact(upd_ne (zB8 e8 O8.top λy=>nomatch y)).trans e8
    .exact (upd_ne (zB8 (O8.row u z) O8.top λy=>nomatch y)).trans (O8.row u z)
   .rcases qAM.mp (hp.mem_iff.mp hu)with z|z
    .rw [z];exact⟨a,c,rfl⟩
    .exact O8.two u z
   .have:=hp.length_eq;rw[qAc]at this;lia
   .rcases qAM.mp (hp.mem_iff.mp hu)with z|z
    .rw [z];exact((hL a ma).2 c).mp (pz.mem_iff.mp (qAJ ec))
    .exact w3 u z
  .rintro σ H3 ⟨o4,o5,o6,ks,rfl,P3,K3,O3,e3,s3,w3⟩;exact⟨_,rfl,k fl ks H3 ffl O3 (by lia) s3 w3 P3 K3⟩
end
section
variable{α:Type}[DecidableEq α]{ns:List α}{S:α->List α}{d:α->Int}{tn:α->Nat}{b:Nat}
structure Due(ns:List α)(S:α->List α)(d:α->Int)(tn:α->Nat)(b:Nat):Prop where
 nd:ns.Nodup
 sub:∀n∈ns,∀m∈S n,m∈ns
 tr:∀n∈ns,∀m∈S n,∀x∈S m,x∈S n
 md:∀p∈ns,∀(v:Int)(q:Nat),b*q<(ns.filter λx=>decide (p∈S x)&&decide (d x<=v)).length->d p+q+1<=v
 od:∀n∈ns,∀m∈S n,tn m<tn n
 mo:∀i,(ns.filter λx=>decide (tn x=i)).length<=b
 gr:∀x∈ns,∀i,i<tn x->(∀m∈S x,tn m<i)->b<=(ns.filter λy=>decide (tn y=i)&&decide (d y<=d x)).length
theorem zCu{β:Type}[DecidableEq β]:∀{A B:List β},A.Nodup->(∀x∈A,x∈B)->A.length<=B.length
 |[],_,_,_=>qAd _
 |a::A,B,nd,h=>by
  obtain⟨n1,n2⟩:=qA0.mp nd;have h1:=zCu (A:=A) (B:=B.erase a) n2 λx hx=>(List.mem_erase_of_ne (λz:x=a=>n1 (z▸hx))).mpr (h x (qAU _ hx));have h2:=List.length_erase_of_mem (h a qAY);have h3:0<B.length:=qC4 (h a qAY);rw[qAc];lia
def atT(ns:List α)(d:α->Int)(tn:α->Nat)(D:Int)(i:Nat):List α:=ns.filter λy=>decide (tn y=i)&&decide (d y<=D)
theorem zD0{x:α}:x∈atT ns d tn D i↔x∈ns/\tn x=i/\d x<=D:=by simp[atT]
theorem gj_run(nd:ns.Nodup){lo:Nat}:∀n,(∀i,lo<=i->i<lo+n->b<=(atT ns d tn D i).length)->b*n<=((List.range' lo n).flatMap (atT ns d tn D)).length/\((List.range' lo n).flatMap (atT ns d tn D)).Nodup/\∀x,x∈(List.range' lo n).flatMap (atT ns d tn D)↔x∈ns/\lo<=tn x/\tn x<lo+n/\d x<=D
 |0,_=>⟨qAd _,qA5,λx=>by simp;lia⟩
 |n+1,h=>by
  obtain⟨h1,h2,h3⟩:=gj_run nd n λi a c=>h i a (by lia);have h4:=h (lo+n) (by lia) (by lia);rw[List.range'_concat,List.flatMap_append,Nat.one_mul];have e:[lo+n].flatMap (atT ns d tn D)=atT ns d tn D (lo+n):=by simp
  rw[e,qAl,Nat.mul_succ];refine⟨by lia,qBX.mpr ⟨h2,nd.sublist qAy,λx hx y hy z=>?_⟩,λx=>?_⟩
  .have a:=(h3 x).mp hx;have c:=zD0.mp hy;rw[z]at a;lia
  .rw [qAT,h3 x,zD0];constructor
   .rintro (⟨a,c,e,f⟩|⟨a,c,e⟩)
    .exact ⟨a,c,by lia,f⟩
    .exact ⟨a,by lia,by lia,e⟩
   .rintro ⟨a,c,e,f⟩
    by_cases z:tn x=lo+n
    .exact .inr ⟨a,z,f⟩
    .exact .inl ⟨a,c,by lia,f⟩
theorem gj_last{D:Int}:∀n,(∀i,i<n->b<=(atT ns d tn D i).length)\/∃t,t<n/\(atT ns d tn D t).length<b/\∀i,t<i->i<n->b<=(atT ns d tn D i).length
 |0=>.inl λi h=>absurd h (qCA _)
 |n+1=>by
  by_cases c:b<=(atT ns d tn D n).length
  .rcases gj_last (D:=D) n with h|⟨t,h1,h2,h3⟩
   .exact .inl λi hi=>(Nat.lt_or_ge i n).elim (h i) λz=>(show i=n by lia)▸c
   .exact .inr ⟨t,by lia,h2,λi a e=>(Nat.lt_or_ge i n).elim (h3 i a) λz=>(show i=n by lia)▸c⟩
  .exact .inr ⟨n,by lia,by lia,λi a e=>by lia⟩
theorem Due.less(W:Due ns S d tn b){p x:α}(hx:x∈ns)(h:p∈S x):d p+1<=d x:=by
 have:=W.md p (W.sub x hx p h) (d x) 0 (by rw[Nat.mul_zero];exact qC4 (qAQ.mpr ⟨hx,by simp[h]⟩));lia
theorem Due.back(W:Due ns S d tn b){t:Nat}(ht:(atT ns d tn D t).length<b):∀(n:Nat)(x:α),tn x<=n->x∈ns->t<tn x->d x<=D->∃p∈S x,p∈atT ns d tn D t
 |n,x,hn,hx,h1,h2=>by
  have nr:¬∀m∈S x,tn m<t:=λz=>by
   have:=W.gr x hx t h1 z
   have h3:=zCu (A:=ns.filter λy=>decide (tn y=t)&&decide (d y<=d x)) (B:=atT ns d tn D t) (W.nd.sublist qAy) λy hy=>by
    simp at hy;exact zD0.mpr ⟨hy.1,hy.2.1,by lia⟩
   lia
  simp only[Classical.not_forall]at nr;obtain⟨m,hm,hl⟩:=nr;have mn:=W.sub x hx m hm;have o:=W.od x hx m hm;have l:=W.less hx hm
  by_cases c:tn m=t
  .exact ⟨m,hm,zD0.mpr ⟨mn,c,by lia⟩⟩
  .match n,hn with
   |0,hn=>lia
   |n+1,hn=>
    obtain⟨p,p1,p2⟩:=W.back ht n m (by lia) mn (by lia) (by lia);exact⟨p,W.tr x hx m hm p p1,p2⟩
theorem gj_pick{β:Type}{R:β->β->Prop}:∀{Y:List β},(∀y∈Y,∃a,R y a)->∃f:β->β,∀y∈Y,R y (f y):=λ{Y} h=>by
 classical
 exact⟨λy=>if hy:y∈Y then(h y hy).choose else y,λy hy=>by
  show R y (if hy:y∈Y then(h y hy).choose else y);rw[dif_pos hy];exact(h y hy).choose_spec⟩
theorem gj_nd{β γ:Type}{f:β->γ}:∀{L:List β},L.Nodup->(∀a∈L,∀b∈L,f a=f b->a=b)->(L.map f).Nodup
 |[],_,_=>qA5
 |a::L,nd,h=>by
  obtain⟨n1,n2⟩:=qA0.mp nd;rw[qAk];refine qA0.mpr ⟨λz=>?_,gj_nd n2 λx hx y hy=>h x (qAU _ hx) y (qAU _ hy)⟩;obtain⟨y,h1,h2⟩:=qAW.mp z;exact n1 (h y (qAU _ h1) a qAY h2▸h1)
theorem Due.many(W:Due ns S d tn b)(hb:1<=b)(hg:b<=2\/∀a∈ns,∀y∈ns,∀z∈ns,a∈S y->a∈S z->y=z\/y∈S z\/z∈S y){j:α}(hj:j∈ns){g:Int}(late:d j+g<tn j+1)(first:∀x∈ns,tn x<tn j->tn x+1<=d x+g):(b:Int)*(d j+g)<((ns.filter λx=>decide (d x<=d j)).length:Int):=by
 have run:∀lo n:Nat,lo+n=tn j->(∀i,lo<=i->i<tn j->b<=(atT ns d tn (d j) i).length)->∃L:List α,b*n+1<=L.length/\L.Nodup/\∀x∈L,x∈ns/\lo<=tn x/\d x<=d j:=λlo n e h=>by
  obtain⟨h1,h2,h3⟩:=gj_run W.nd (D:=d j) (lo:=lo) n λi a c=>h i a (by lia);refine⟨j::(List.range' lo n).flatMap (atT ns d tn (d j)),by rw[qAc];lia,qA0.mpr ⟨λz=>?_,h2⟩,λx hx=>?_⟩
  .have:=(h3 j).mp z;lia
  .rcases qAM.mp hx with z|z
   .rw [z];exact⟨hj,by lia,qCG _⟩
   .have:=(h3 x).mp z;exact⟨this.1,this.2.1,this.2.2.2⟩
 rcases gj_last (ns:=ns) (d:=d) (tn:=tn) (b:=b) (D:=d j) (tn j)with h|⟨t,ht,hs,hf⟩
 .obtain ⟨L,l1,l2,l3⟩:=run 0 (tn j) (by lia) λi _ c=>h i c;have h4:=zCu l2 (B:=ns.filter λx=>decide (d x<=d j)) λx hx=>qAQ.mpr ⟨(l3 x hx).1,by simp[(l3 x hx).2.2]⟩;have h5:(b:Int)*(d j+g)<=(b:Int)*(tn j:Int):=Int.mul_le_mul_of_nonneg_left (by lia) (by lia);have h6:((b*tn j:Nat):Int)=(b:Int)*(tn j:Int):=qDh _ _;lia
 .exfalso
  have bk:∀x∈ns,t<tn x->d x<=d j->∃p,p∈S x/\p∈atT ns d tn (d j) t:=λx hx h1 h2=>by
   obtain⟨p,p1,p2⟩:=W.back hs (tn x) x (qAF _) hx h1 h2;exact⟨p,p1,p2⟩
  rcases hg with h2|ch
  .-- one job of turn t stands ahead of all
   obtain⟨p,p1,p2⟩:=bk j hj ht (qCG _);have p3:=zD0.mp p2
   have one:∀q∈atT ns d tn (d j) t,q=p:=λq hq=>by
    match e:atT ns d tn (d j) t with
    |[]=>rw[e]at hq;cases hq
    |[a]=>rw[e]at hq p2;rw[qAP.mp hq,qAP.mp p2]
    |a::c::r=>rw[e]at hs;simp at hs;lia
   obtain⟨L,l1,l2,l3⟩:=run (t+1) (tn j-(t+1)) (by lia) λi a c=>hf i a c
   have h4:=zCu l2 (B:=ns.filter λx=>decide (p∈S x)&&decide (d x<=d j)) λx hx=>by
    obtain⟨x1,x2,x3⟩:=l3 x hx;obtain⟨q,q1,q2⟩:=bk x x1 (by lia) x3;rw[one q q2]at q1;exact qAQ.mpr ⟨x1,by simp[q1,x3]⟩
   have h5:=W.md p p3.1 (d j) (tn j-(t+1)) (by lia);have h6:=first p p3.1 (by lia);lia
  .by_cases c:t+1=tn j
   .obtain ⟨p,p1,p2⟩:=bk j hj ht (qCG _);have p3:=zD0.mp p2;have h5:=W.less hj p1;have h6:=first p p3.1 (by lia);lia
   .obtain ⟨f,h1⟩:=gj_pick (R:=λx p=>p∈S x/\p∈atT ns d tn (d j) t) (Y:=atT ns d tn (d j) (t+1)) λx hx=>by
     have x1:=zD0.mp hx;exact bk x x1.1 (by lia) x1.2.2
    have h3:=hf (t+1) (by lia) (by lia)
    have h4:=zCu (A:=(atT ns d tn (d j) (t+1)).map f) (B:=atT ns d tn (d j) t) (gj_nd (W.nd.sublist qAy) λx hx y hy e=>by
     have x1:=zD0.mp hx;have y1:=zD0.mp hy;have a1:=(h1 x hx).1;have b1:=(h1 y hy).1;rw[<-e]at b1;rcases ch (f x) (W.sub x x1.1 _ a1) x x1.1 y y1.1 a1 b1 with z|z|z
     .exact z
     .have:=W.od y y1.1 x z;lia
     .have:=W.od x x1.1 y z;lia) λq hq=>by
     obtain⟨x,hx,rfl⟩:=qAW.mp hq;exact(h1 x hx).2
    rw[qAD]at h4;lia
theorem hu_least{g:α->Nat}{Q:α->Prop}{x:α}(hx:Q x):∃y,Q y/\∀z,Q z->g y<=g z:=by
 suffices H:∀n x,Q x->g x<=n->∃y,Q y/\∀z,Q z->g y<=g z from H (g x) x hx (qAF _)
 intro n
 induction n with
 |zero=>exact λx hx h=>⟨x,hx,λz _=>by lia⟩
 |succ n ih=>
  intro x hx h
  by_cases c:∃z,Q z/\g z<g x
  .obtain ⟨z,h1,h2⟩:=c;exact ih z h1 (by lia)
  .exact ⟨x,hx,λz hz=>Nat.le_of_not_lt λy=>c ⟨z,hz,y⟩⟩
end
def rsB(J:JR)(b:Nat)(ws:List Str):List (List Str):=zDs J b ws.length [] ws
section
variable{J:JR}{r:Str->Nat}{ws:List Str}{b:Nat}
theorem list_iB(A:OrdJ J r)(pm:ws.Perm J.ns):ListI J r [] ws:=⟨A.rk,qA5,(λ_ h=>nomatch h),λn hn=>pm.mem_iff.mp hn,λn hn=>.inr (pm.mem_iff.mpr hn)⟩
theorem zI5(A:OrdJ J r)(pm:ws.Perm J.ns)(hb:1<=b){q:List Str}(h:(rsB J b ws)[i]?=some q):∃A' L':List Str,ListI J r A' L'/\(∀n∈L',n∉A')/\L'.Nodup/\L'.Sublist ws/\L'≠[]/\q=zCd J b A' L'/\∀n,n∈A'↔n∈AF ((rsB J b ws).take i) []:=by
 obtain⟨A',L',h1,h2,h3,h4,h5,h6,h7⟩:=list_at (b:=b) hb ws.length [] ws (list_iB A pm) (λ_ _ h=>nomatch h) (pm.nodup_iff.mpr A.nd) i q h;refine⟨A',L',h1,h2,h3,h4,h5,h6,λn=>?_⟩;rw[h7 n,zD4];rfl
theorem zB7(A:OrdJ J r)(pm:ws.Perm J.ns)(hb:1<=b):RightI J (b:Int) (rsB J b ws):=by
 refine⟨λi q h=>?_,λn hn=>(zD4 _ _).mpr (list_all (b:=b) hb ws.length [] ws (list_iB A pm) (qAF _) n (pm.mem_iff.mpr hn))⟩;obtain⟨A',L',h1,h2,h3,h4,h5,rfl,h7⟩:=zI5 A pm hb h;refine⟨λn hn=>h1.li n (zD8 hn),(h3.sublist qAy).sublist (qCf _ _),λn hn z=>h2 n (zD8 hn) ((h7 n).mpr z),λn hn=>?_,?_⟩
 .rw [<-rdy_congr h7];exact(qAQ.mp (qCS hn)).2
 .have:(zCd J b A' L').length<=b:=by unfold zCd;rw[qAR];lia
  lia
theorem tI_isB(A:OrdJ J r)(pm:ws.Perm J.ns)(hb:1<=b){q:List Str}{n:Str}(h:(rsB J b ws)[i]?=some q)(hn:n∈q):tI (rsB J b ws) n=i :=
 tI_eq h hn λp hp z=>((zB7 A pm hb).at' i q h).nw n hn ((zD4 _ _).mpr (.inr ⟨p,hp,z⟩))
theorem gath_ch(A:OrdJ J r)(G:∀n∈J.ns,(strB J n).length<=1):∀(k:Nat)(a y z:Str),a∈J.ns->y∈J.ns->z∈J.ns->a∈J.S y->a∈J.S z->r y<=r a+k->y=z\/y∈J.S z\/z∈J.S y:=by
 have first:∀a∈J.ns,∀y∈J.ns,a∈J.S y->∃s∈strB J a,s=y\/s∈J.S y:=λa ha y hy h=>by
  obtain⟨s,⟨s1,s2,s3⟩,mn⟩:=hu_least (g:=r) (Q:=λs=>s∈J.ns/\a∈J.S s/\(s=y\/s∈J.S y)) (x:=y) ⟨hy,h,.inl rfl⟩;refine⟨s,strB_iff.mpr ⟨s1,s2,λz hz h1 h2=>?_⟩,s3⟩;have g1:=mn z ⟨hz,h1,.inr (s3.elim (λe=>e▸h2) λe=>A.tr y hy s e z h2)⟩;have g2:=A.rk s s1 z h2;lia
 intro k
 induction k with
 |zero=>
  intro a y z ha hy hz h1 h2 hk;have:=A.rk y hy a h1;lia
 |succ k ih=>
  intro a y z ha hy hz h1 h2 hk;obtain⟨s,s1,s2⟩:=first a ha y hy h1;obtain⟨s',t1,t2⟩:=first a ha z hz h2
  have e:s=s':=by
   have:=G a ha;clear s2 t2;generalize strB J a=L at this s1 t1
   match L,this,s1,t1 with
   |[u],_,s1,t1=>exact(qAP.mp s1).trans (qAP.mp t1).symm
   |_::_::_,this,_,_=>simp only[qAc]at this;lia
  subst e;rcases s2 with u|u
  .rcases t2 with v|v
   .exact .inl (u.symm.trans v)
   .rw [u]at v;exact .inr (.inl v)
  .rcases t2 with v|v
   .rw [v]at u;exact .inr (.inr u)
   .have sn:=(strB_mem s1).1;have:=A.rk s sn a (strB_mem s1).2;exact ih s y z sn hy hz u v (by lia)
theorem due_is{d:Str->Int}(A:OrdJ J r)(Md:∀p∈J.ns,∀(v:Int)(q:Nat),b*q<(J.ns.filter λx=>decide (p∈J.S x)&&decide (d x<=v)).length->d p+q+1<=v)(pm:ws.Perm J.ns)(pw:ws.Pairwise (λx y=>d x<=d y))(hb:1<=b):Due J.ns J.S d (tI (rsB J b ws)) b:=by
 have R:=zB7 A pm hb;have inR:∀n∈J.ns,∃q,(rsB J b ws)[tI (rsB J b ws) n]?=some q/\n∈q:=λn hn=>tI_at (((zD4 _ _).mp (R.all n hn)).resolve_left (by simp));refine⟨A.nd,A.sub,A.tr,Md,λn hn m hm=>right_lt R (A.sub n hn m hm) hn hm,λi=>?_,λx hx i hgx hS=>?_⟩
 .cases e:(rsB J b ws)[i]? with
  |none=>
   have:(J.ns.filter λx=>decide (tI (rsB J b ws) x=i))=[]:=qDi.mpr λx hx z=>by
    obtain⟨q,e',_⟩:=inR x hx;rw[qAo z,e]at e';cases e'
   rw[this];exact qAd _
  |some q=>
   have h1:=(R.at' i q e).fit;refine qAL (zCu (B:=q) (A.nd.sublist qAy) λx hx=>?_) (by lia);obtain⟨x1,x2⟩:=qAQ.mp hx;obtain⟨q',e',x3⟩:=inR x x1;rw[qAo x2,e]at e'
   cases e';exact x3
 .obtain ⟨q,e⟩:∃q,(rsB J b ws)[i]?=some q:=⟨_,qAV (qCl hgx (by obtain⟨q,e,_⟩:=inR x hx;exact(qAf.mp e).1))⟩;obtain⟨A',L',h1,h2,h3,h4,_,e',h7⟩:=zI5 A pm hb e
  have nA:x∉A':=λz=>by
   have z:=(zD4 _ _).mp ((h7 x).mp z);obtain⟨q,q1,q2⟩:=z.resolve_left (by simp);have:=tI_lt q1 q2;lia
  have xL:x∈L':=(h1.al x hx).resolve_left nA
  have rd:rdyB J A' x=true:=by
   unfold rdyB;rw[qBF];intro m hm;have hs:=qAo (qAQ.mp hm).2;refine qAS ((h7 m).mpr ((zD4 _ _).mpr (.inr ?_)));have lt:=hS m hs;obtain⟨q,q1,q2⟩:=inR m (A.sub x hx m hs);refine⟨q,qAJ (i:=tI (rsB J b ws) m) ?_,q2⟩;rw[qCe lt];exact q1
  have xF:x∈L'.filter (rdyB J A'):=qAQ.mpr ⟨xL,rd⟩;have pF:=pw.sublist (qAy.trans h4:(L'.filter (rdyB J A')).Sublist ws);have nF:=h3.sublist (qAy (p:=rdyB J A'));have eq:q=(L'.filter (rdyB J A')).take b:=e'
  have xq:x∉q:=λz=>by
   have:=tI_isB A pm hb e z;lia
  generalize L'.filter (rdyB J A')=M at xF pF nF eq
  have xd:x∈M.drop b:=by
   rw[<-qCs b M]at xF;rcases qAT.mp xF with z|z
   .exact absurd (eq▸z) xq
   .exact z
  have bl:b<=q.length:=by
   rw[eq,qAR];have:b<M.length:=Nat.lt_of_not_le λz=>by rw[List.drop_eq_nil_of_le z]at xd;exact nomatch xd
   lia
  have up:∀y∈q,d y<=d x:=λy hy=>by
   rw[<-qCs b M]at pF;exact(List.pairwise_append.mp pF).2.2 y (eq▸hy) x xd
  have nq:q.Nodup:=by rw[eq];exact nF.sublist (qCf _ _)
  refine qAL bl (zCu nq λy hy=>qAQ.mpr ⟨(R.at' i q e).ns y hy,?_⟩);simp only[qBB,qA3];exact⟨tI_isB A pm hb e hy,up y hy⟩
end
theorem md_of{b:Int}{ev d:Str->Int}{G:List Str}(hb:1<=b)(M:MF b ev (behJ J) G d)(pm:G.Perm J.ns):∀p∈J.ns,∀(v:Int)(q:Nat),b.toNat*q<(J.ns.filter λx=>decide (p∈J.S x)&&decide (d x<=v)).length->d p+q+1<=v:=λp hp v q h=>by
 have e:(J.ns.filter λx=>decide (p∈J.S x)&&decide (d x<=v))=(behJ J p).filter λx=>decide (d x<=v):=by
  unfold behJ;rw[List.filter_filter];congr 1;funext x;rw[Bool.and_comm]
 rw[e]at h
 have ex:∀L:List Str,L≠[]->∃x∈L,∀y∈L,d y<=d x:=λL=>by
  induction L with
  |nil=>exact λz=>absurd rfl z
  |cons a L ih=>
   intro _
   by_cases z:L=[]
   .subst z;exact⟨a,by simp,λy hy=>by rw[qAP.mp hy];exact qCG _⟩
   .obtain ⟨x,x1,x2⟩:=ih z
    by_cases c:d a<=d x
    .exact ⟨x,qAU _ x1,λy hy=>(qAM.mp hy).elim (λz=>by rw[z];exact c) (x2 y)⟩
    .exact ⟨a,qAY,λy hy=>(qAM.mp hy).elim (λz=>by rw[z];exact qCG _) λz=>by have:=x2 y z;lia⟩
 obtain⟨x,x1,x2⟩:=ex _ (qCD.mp (qCk (qAd _) h));obtain⟨x3,x4⟩:=qAQ.mp x1;have x4:=qAo x4;have le:=(M.eq p (pm.mem_iff.mpr hp)).le (late b ((behJ J p).map d) (d x)) (qAU _ (qAW.mpr ⟨d x,qAW.mpr ⟨x,x3,rfl⟩,rfl⟩))
 have cnt:((behJ J p).filter λx=>decide (d x<=v)).length<=(((behJ J p).map d).filter λy=>decide (y<=d x)).length:=by
  rw[List.filter_map,qAD];refine(List.Sublist.length_le ?_);have:((behJ J p).filter λx=>decide (d x<=v))=(((behJ J p).filter λx=>decide (d x<=v)).filter ((λy=>decide (y<=d x))∘d)):=(List.filter_eq_self.mpr λy hy=>qAS (x2 y hy)).symm;rw[this];exact(qAy (p:=λx=>decide (d x<=v)) (l:=behJ J p)).filter _
 unfold late tf at le;generalize (((behJ J p).map d).filter λy=>decide (y<=d x)).length=n at le cnt
 have h2:b*((q:Int)+1)<=(n:Int)+b-1:=by
  have e2:b=(b.toNat:Int):=by lia
  have:((b.toNat*q:Nat):Int)=b*q:=by rw[qDh,<-e2]
  rw[Int.mul_add];lia
 have h3:(q:Int)+1<=((n:Int)+b-1) / b:=(Int.le_ediv_iff_mul_le (by lia)).mpr (by rw[Int.mul_comm];exact h2);lia
def lamQ2:Str:=Str.ofString "soonest_first"++ ".<locals>."++ "<lambda>"
def lamPos2:Pos:=⟨123,58,123,80⟩
abbrev TabU(H:Hp)(Pu:Addr):Prop:=Tab0 H Pu lamQ2 lamPos2
theorem zDg{Q:Addr}{q:Str}{ps:Pos}(h:Tab0 H Q q ps):∃xs,H Q=some (.tbl xs):=by
 rcases h with e|⟨c,e,_⟩
 .exact ⟨_,e⟩
 .exact ⟨_,e⟩
theorem zCx{Q a:Addr}{o:HO}(t:∃xs,H Q=some (.tbl xs))(h:H a=some o)(no:∀ps,o≠.tbl ps):a≠Q:=λz=>by
 obtain⟨ps,e⟩:=t;rw[z,e]at h;exact no ps (qAe h).symm
theorem zCy{M:List Addr}{Q:Addr}{q:Str}{ps:Pos}(h:Tab0 H Q q ps)(k:Kp M H H')(n:Q∉M)(n':∀a o,H a=some o->(∀xs,o≠.lst xs)->(∀xs,o≠.tbl xs)->a∉M):Tab0 H' Q q ps:=by
 rcases h with e|⟨c,e,ec⟩
 .exact .inl (k _ _ e n)
 .exact .inr ⟨c,k _ _ e n,k _ _ ec (n' _ _ ec (λ_ z=>nomatch z) λ_ z=>nomatch z)⟩
theorem JobsAt.kp2{C:Addr}{j Pt Pu:Addr}(A:JobsAt C H j J)(k:Kp [Pt,Pu] H H')(t:∃xs,H Pt=some (.tbl xs))(u:∃xs,H Pu=some (.tbl xs)):JobsAt C H' j J:=by
 refine A.kp k λa o ha hm=>?_
 have t':∃xs,H a=some (.tbl xs):=by
  rcases qAM.mp hm with e|e
  .rw [e];exact t
  .rw [qAP.mp e];exact u
 exact⟨(zCx t' A.ob λ_ z=>nomatch z).symm,(zCx t' A.row λ_ z=>nomatch z).symm,(zCx t' A.prs.top λ_ z=>nomatch z).symm,(zCx t' A.abv λ_ z=>nomatch z).symm,λq hq=>(zCx t' (A.prs.row q hq) λ_ z=>nomatch z).symm,λn hn=>(zCx t' (A.sets n hn) λ_ z=>nomatch z).symm⟩
theorem JobsAt.kp1{C:Addr}{j:Addr}(A:JobsAt C H j J)(k:Kp [Pu] H H')(u:∃xs,H Pu=some (.tbl xs)):JobsAt C H' j J:=A.kp2 (Pt:=Pu) (k.weak (by simp)) u u
theorem fre_two{a:Addr}(t:∃xs,H' Pt=some (.tbl xs))(u:∃xs,H' Pu=some (.tbl xs))(k:Kp [Pt,Pu] H H')(f:Fre H' a):Fre H a:=by
 cases z:H a with
 |none=>exact z
 |some o=>
  obtain⟨ps,e⟩:=t;obtain⟨qs,e'⟩:=u;have f:H' a=none:=f;have:=k a o z (nm2 (λy=>by rw[<-y,f]at e;cases e) (λy=>by rw[<-y,f]at e';cases e'));rw[f]at this;cases this
theorem fre_one{a:Addr}(u:∃xs,H' Pu=some (.tbl xs))(k:Kp [Pu] H H')(f:Fre H' a):Fre H a:=fre_two u u (k.weak (by simp)) f
theorem RowsAt.back{H0 H1:Hp}{l:Addr}{as:List Addr}{rs:List (List Str)}(R:RowsAt H1 H l as rs)(f:∀a,Fre H1 a->Fre H0 a):RowsAt H0 H l as rs:=⟨R.top,R.len,R.row,R.ne,f _ R.fr,λa h=>f a (R.frs a h)⟩
def dueL(f:Str->Int):Int->List (List Str)->List Int
 |_,[]=>[]
 |c,r::rs=>r.map (λx=>c-f x)++dueL f (c+1) rs
theorem dueL_app(f:Str->Int):∀(a b:List (List Str)) (c:Int),dueL f c (a++b)=dueL f c a++dueL f (c+a.length) b
 |[],b,c=>by simp[dueL]
 |r::a,b,c=>by
  rw[List.cons_append,dueL,dueL,dueL_app f a b (c+1),qB3,qAc];have:c+1+(a.length:Int)=c+((a.length+1:Nat):Int):=by lia
  rw[this]
theorem dueL_snoc{f:Str->Int}{rs:List (List Str)}{r:List Str}{c:Int}(h:rs[i]?=some r):dueL f c (rs.take (i+1))=dueL f c (rs.take i)++r.map (λx=>c+i-f x):=by
 have hi:=(qAf.mp h).1;rw[zAh h,dueL_app,qAR,Nat.min_eq_left (by lia)];simp[dueL]
theorem zJz(f:Str->Int):∀(rs:List (List Str)) (c:Int),(dueL f c rs).length=rs.flatten.length
 |[],_=>rfl
 |r::rs,c=>by rw[dueL,qAl,zJz f rs,qAD,qCN,qAl]
theorem take_flat(rs:List (List Str))(i:Nat):(rs.take i).flatten.length<=rs.flatten.length:=by
 have:rs.flatten.length=(rs.take i).flatten.length+(rs.drop i).flatten.length:=by rw[<-qAl,<-List.flatten_append,qCs]
 lia
theorem flat_le{rs:List (List Str)}{r:List Str}(h:r∈rs):r.length<=rs.flatten.length:=(List.sublist_flatten_of_mem h).length_le
section
def spSoon(C Pu:Addr):Sp:=λvs H Q _=>∃(j d:Addr)(b:Int)(J:JR)(r:Str->Nat)(F:List Str)(f:Str->Int),vs=[.ref j,.int b,.ref d]/\JobsAt C H j J/\OrdJ J r/\1<=b/\H d=some (.dK (kvI F f))/\F.Perm J.ns/\TabU H Pu /\
 ∀(pl:Addr)(as:List Addr)(ws:List Str)(H':Hp),Kp [Pu] H H'->TabU H' Pu->ws.Perm J.ns->ws.Pairwise (λx y=>f x<=f y)->RowsAt H H' pl as (rsB J b.toNat ws)->Q (.ref pl) H'
abbrev zAp:Stmt:=top 36
theorem zGs:FnScope ["jobs","benches","due"] ["jobs","benches","due"] (zAd zAp):=fnS
theorem zGw{c0:Addr}{oc:Value}{od an:Option Addr}{osl:Array (Option Value)}{kV doc pm ct:Value}(lk:K.lookup f=some ⟨oc,od,.func (PySem.W.fnOf "soonest_first" "soonest_first" (zBh zAp) (zBa zAp) (zAd zAp) .none kV doc pm an (.ref c0) ct),osl⟩)(hcd:PySem.W.codeIn K (.ref c0) "soonest_first"=true)(T:Txt K mg)(U:JC K mg C)(B:zIj mg base)(CH:PySem.W.CodeHd base c0 Pu)
  (M_names:Mth P w K mg base C "names" 1 ["self"] (zE1 C)) (C_listed:Cal P w K mg base "listed" 5 ["jobs","benches","row"] (spListed C)):FnOk P w K mg base CX0 6 f (PySem.W.fnOf "soonest_first" "soonest_first" (zBh zAp) (zBa zAp) (zAd zAp) .none kV doc pm an (.ref c0) ct) ["jobs","benches","due"] (spSoon C Pu):=by
 refine okC lk hcd zGs (λvs H Q E h=>?_) (λA outer s H vs Q E hr h=>?_)
 .obtain ⟨j,d,b,J,r,F,f,rfl,_⟩:=h;rfl
 .obtain ⟨j,d,b,J,r,F,f,rfl,A0,OJ,hb,hd,pmF,U0,k⟩:=h;have hr1:=hr.mono (j:=1) (by decide);have hr3:=hr.mono (j:=0+3) (by decide);refine⟨_,(zAe (zAm (zAg C_listed hr rfl (zAa (pv 0) (zAa (pv 1) (zAa (zIt (x:="name") (y:="due") (iy:=2) (P:=Pu) (c0:=c0) (qual:=lamQ2) (k:=0) hr3 rfl (by rfl) T.z_sorted zCv (zAa (zDd M_names U.cl hr1 (pv 0)) zAc) (by exact⟨rfl,rfl,rfl,rfl,rfl,by decide +kernel,by decide +kernel⟩) (by decide) rfl rfl rfl rfl rfl rfl CH B rfl (λ_ _ _ _=>rfl) (λf' cd' A' s' H' hA=>zAs (zCn hA) (pv 1) (pv 0) (λ_ _=>rfl))) zAc)))))),?_⟩;have few:=A0.few;refine⟨_,rfl,_,rfl,_,rfl,j,J.dx,_,rfl,A0.ob,zGz _ _ _ (by decide +kernel) (by decide +kernel) (by decide +kernel),j,J,rfl,A0,λl H2 fl hl k2=>?_⟩;have U2:TabU H2 Pu:=zCy U0 k2 (by simp) (λ_ _ _ _ _=>by simp);have u2:=zDg U2;have d2:=k2 _ _ hd (by simp);refine⟨l,J.ns,f,.ref d,rfl,rfl,hl,by lia,U2,λH3 k3 U3=>?_⟩;have d3:H3 d=some (.dK (kvI F f)):=k3 _ _ d2 (nm1 (zCx u2 d2 λ_ z=>nomatch z));refine⟨λx hx H' k'=>⟨_,rfl,_,rfl,d,_,rfl,by have:=DGet.k (k:=Sum.inr x) (k' _ _ d3 (by simp));rw[zDu (pmF.mem_iff.mpr hx)]at this;exact this,rfl,Kp.refl⟩,λm ws H4 k4 hm pm' pw=>?_⟩;have fb4:Fre H4 m:=hm;have k5:Kp [] H4 (upd H4 m (.lst (ws.map V.str))):=Kp.new Kp.refl fb4;have e5:Txs (upd H4 m (.lst (ws.map V.str))) m ws:=upd_same;generalize upd H4 m (.lst (ws.map V.str))=H5 at k5 e5;have k35:=k4.trans k5;have K5:Kp [Pu] H H5:=((k2.weak (by simp)).trans k3).trans (k35.weak (by simp));have U5:TabU H5 Pu:=zCy (.inr U3) k35 (by simp) (λ_ _ _ _ _=>by simp);have A5:=A0.kp1 K5 (zDg U0);refine⟨j,m,b,J,r,ws,rfl,A5,OJ.rk,e5,hb,pm',λpl as H6 R6 k6=>?_⟩;exact k pl as ws H6 (K5.trans (k6.weak (by simp))) (zCy U5 k6 (by simp) (λ_ _ _ _ _=>by simp)) pm' pw (RowsAt.back R6 λa=>fre_one (zDg U5) K5)
def spMfp(C Pt:Addr):Sp:=λvs H Q _=>∃(j d:Addr)(J:JR)(b:Int) (qs:List (List Str×Addr)) (r:Str->Nat) (F:List Str) (e:Str->Int),vs=[.ref j,.int b,.ref d]/\JobsAt C H j J/\Good J.ns qs r/\(∀k,k∈J.zs.map (·.1)↔k∈qs.map (·.1))/\1<=b/\b<10^100/\(b<=2\/zJy J=true)/\H d=some (.dK (kvI F e))/\F.Perm J.ns/\TabA H Pt /\
 ∀(d':Addr)(G:List Str)(g:Str->Int)(H':Hp),Kp [Pt] H H'->TabA H' Pt->Fre H d'->H' d'=some (.dK (kvI G g))->MF b e (behJ J) G g->G.Perm J.ns->Q (.ref d') H'
abbrev zB4:Stmt:=top 35
theorem zC1:FnScope ["jobs","benches","ends","due"] ["jobs","benches","ends"] (zAd zB4):=fnS
theorem zFr(F:Fun K "mended_for_plan" "mended_for_plan" zB4 f fd)(C_mended:Cal P w K mg base "mended" 8 ["jobs","benches","ends"] (spMended C Pt))(C_is_gathering:Cal P w K mg base "is_gathering" 5 ["jobs"] (spGath C)):FnOk P w K mg base CX0 9 f fd ["jobs","benches","ends"] (spMfp C Pt):=by
 refine F.ok zC1 (λvs H Q E h=>?_) (λcdv A outer s H vs Q E hr h=>?_)
 .obtain ⟨j,d,J,b,qs,r,F,e,rfl,_⟩:=h;rfl
 .obtain ⟨j,d,J,b,qs,r,F,e,rfl,A0,G,hz,b0,b1,bg,hd,pm,T0,k⟩:=h;have hr5:=hr.mono (j:=5) (by decide)
  refine⟨_,(zAb (psS (i:=3) zC1.nd (zAg C_mended hr rfl (zAa (pv 0) (zAa (pv 1) (zAa (pv 2) zAc))))) (zAb (zB5 (PW.pt (zIr (zAo op_gt (pv 1) zAf (zAq _)) (zGa (zDc (zC4 (zAg C_is_gathering hr5 rfl (zAa (pv 0) zAc)))))))
    (zAe zBq)
    zAr)
   (zAe (zAm (pv 3))))),?_⟩
  refine⟨_,rfl,_,rfl,_,rfl,j,d,J,b,qs,r,F,e,rfl,A0,G,hz,b0,b1,hd,pm,T0,λd' G' g H1 k1 T1 fd' hd' M pm'=>?_⟩;have A1:=A0.kpT k1 T0;refine⟨_,rfl,_,_,rfl,rfl,_,rfl,ite2 (λc=>?_) (λc=>⟨_,rfl,k d' G' g H1 k1 T1 fd' hd' M pm'⟩)⟩;have c:2<b:=by simpa using c
  refine⟨_,rfl,j,J,rfl,A1,λH2 k2=>?_⟩;rw[bg.resolve_left (by lia)];exact⟨_,rfl,⟨_,rfl,k d' G' g H2 (k1.trans (k2.weak (by simp))) (T1.kp k2) fd' (k2 _ _ hd' (by simp)) M pm'⟩⟩
def LateAt(f:Str->Int)(g:Int)(rs:List (List Str))(x:Str):Prop:=∃(i:Nat)(q:List Str),rs[i]?=some q/\x∈q/\f x+g<1+(i:Int)/\∀(i':Nat)(q':List Str),i'<i->rs[i']?=some q'->∀y∈q',1+(i':Int)<=f y+g
def spFirst:Sp:=λvs H Q _=>∃(l d:Addr)(g:Int)(as:List Addr) (rs:List (List Str)) (F:List Str) (f:Str->Int),vs=[.ref l,.ref d,.int g]/\RowsR H l as rs/\H d=some (.dK (kvI F f))/\(∀r∈rs,∀x∈r,x∈F)/\∀H',Kp [] H H'->((∀(i:Nat)(q:List Str),rs[i]?=some q->∀y∈q,1+(i:Int)<=f y+g)->Q .non H')/\∀x,LateAt f g rs x->Q (.str x) H'
abbrev zEc:Stmt:=top 37
theorem zCk:FnScope ["plan","due","grace","number","row","name"] ["plan","due","grace"] (zAd zEc):=fnS
theorem zJm(F:Fun K "first_late" "first_late" zEc f fd)(T:Txt K mg):FnOk P w K mg base CX0 1 f fd ["plan","due","grace"] spFirst:=by
 refine F.ok zCk (λvs H Q E h=>?_) (λcdv A outer s H vs Q E hr h=>?_)
 .obtain ⟨l,d,g,as,rs,F,f,rfl,_⟩:=h;rfl
 .obtain ⟨l,d,g,as,rs,F,f,rfl,R,hd,hF,k⟩:=h;have hu:=zCn hr
  refine⟨_,(zAb (zA1 qAg rfl (pi_enumS rfl T.z_enumerate (zAa (pv 0) zAc)) (zIs rfl (zA7 (pgN (i:=3) zCk.nd) (zA7 (pgN (i:=4) zCk.nd) zEf))) (zAe (zA1 qAg rfl (zAj (pv 4)) (pgN (i:=5) zCk.nd)
     (zAe (zB5 (zAo op_gt (pv 3) (zAk zBn (zAs hu (pv 1) (pv 5) (fun _ _=>rfl)) (pv 2)) (zAq _))
      (zAe (zAm (pv 5)))
      zAr))))) (zAe (zAm pe_non))),?_⟩
  refine⟨_,rfl,_,rfl,⟨_,SqL.of R.top⟩,for_enum (lo:=1) (xs:=as.map V.ref) (λi σ H2=>(∃o3 o4 o5,σ=[some (.ref l),some (.ref d),some (.int g),o3,o4,o5])/\Kp [] H H2/\∀(i':Nat)(q':List Str),i'<i->rs[i']?=some q'->∀y∈q',1+(i':Int)<=f y+g) ⟨⟨_,_,_,rfl⟩,Kp.refl,λi' q' z=>absurd z (qCA _)⟩ (λi σ H2 _ ⟨_,k2,_⟩=>SqL.of (k2 l _ R.top (by simp))) ?_ ?_⟩
  .rintro i v σ H2 t hv ⟨⟨o3,o4,o5,rfl⟩,k2,a2⟩ ht
   have hi:i<as.length:=by
    have:=(qAf.mp hv).1;rw[qAD]at this;exact this
   have ea:as[i]?=some as[i]:=qAV hi;have er:rs[i]?=some (rs[i]'(by rw[<-R.len];exact hi)):=qAV _;generalize as[i]=a at ea;generalize rs[i]'(by rw[<-R.len];exact hi)=r at er;rw[qAZ,ea]at hv
   cases hv
   refine⟨_,_,rfl,.inl (.inl upd_same),rfl,_,_,rfl,_,_,rfl,rfl,?_⟩;have k3:Kp [] H (upd H2 t (.tup [.int (1+(i:Int)),.ref a])):=k2.trans (Kp.new Kp.refl ht);generalize upd H2 t (.tup [.int (1+(i:Int)),.ref a])=H3 at k3 ⊢;have ha:Txs H3 a r:=k3 a _ (R.row i a r ea er) (by simp);refine⟨_,rfl,_,rfl,⟨_,SqL.of ha⟩,zA8 (xs:=r.map V.str) (λn σ H4=>(∃o5,σ=[some (.ref l),some (.ref d),some (.int g),some (.int (1+(i:Int))),some (.ref a),o5])/\H4=H3/\∀y∈r.take n,1+(i:Int)<=f y+g) ⟨⟨_,rfl⟩,rfl,by simp⟩ (λn σ H4 _ ⟨_,e,_⟩=>by subst e;exact SqL.of ha) ?_ ?_⟩
   .rintro n v σ H4 hv ⟨⟨o5,rfl⟩,rfl,a4⟩;obtain⟨y,ey,rfl⟩:=zA3 hv;have my:=qAJ ey;refine⟨_,rfl,_,rfl,_,rfl,d,_,rfl,by have:=DGet.k (k:=Sum.inr y) (k3 _ _ hd (by simp));rw[zDu (hF r (qAJ er) y my)]at this;exact this,_,rfl,_,_,rfl,rfl,_,_,rfl,rfl,_,rfl,ite2 (λc=>?_) (λc=>?_)⟩
    .exact ⟨_,rfl,(k H4 k3).2 y ⟨i,r,er,my,by simpa using c,a2⟩⟩
    .refine ⟨⟨_,rfl⟩,rfl,λz hz=>?_⟩;rw[zAh ey]at hz;rcases qAT.mp hz with z'|z'
     .exact a4 z z'
     .rw [qAP.mp z'];have:¬(f y+g<1+(i:Int)):=by simpa using c
      lia
   .rintro σ H4 ⟨⟨o5,rfl⟩,rfl,a4⟩;rw[qAD,qAb]at a4;refine⟨⟨_,_,_,rfl⟩,k3,λi' q' z e=>?_⟩
    by_cases c:i'=i
    .subst c;rw[er]at e;cases e;exact a4
    .exact a2 i' q' (by lia) e
  .rintro σ H2 ⟨⟨o3,o4,o5,rfl⟩,k2,a2⟩;exact(k H2 k2).1 λi q e=>a2 i q (by rw[qAD,R.len];exact(qAf.mp e).1) e
def spDueBy(C:Addr):Sp:=λvs H Q _=>∃(j d:Addr)(J:JR)(n:Int)(F:List Str)(f:Str->Int),vs=[.ref j,.ref d,.int n]/\JobsAt C H j J/\H d=some (.dK (kvI F f))/\F.Perm J.ns/\∀(l:Addr)(H':Hp),Fre H l->Txs H' l (J.ns.filter λx=>decide (f x<=n))->Kp [] H H'->Q (.ref l) H'
abbrev zG2:Stmt:=top 38
theorem sc_due_by:FnScope ["jobs","due","turn"] ["jobs","due","turn"] (zAd zG2):=fnS
theorem ok_due_by(F:Fun K "due_by" "due_by" zG2 f fd)(U:JC K mg C)(M_names:Mth P w K mg base C "names" 1 ["self"] (zE1 C)):FnOk P w K mg base CX0 2 f fd ["jobs","due","turn"] (spDueBy C):=by
 refine F.ok sc_due_by (λvs H Q E h=>?_) (λcdv A outer s H vs Q E hr h=>?_)
 .obtain ⟨j,d,J,n,F,f,rfl,_⟩:=h;rfl
 .obtain ⟨j,d,J,n,F,f,rfl,A0,hd,pm,k⟩:=h;have hu:=zCn hr;refine⟨_,(zAe (zAm (zAt rfl (zAz (sc:=zAd zG2) rfl (by decide +kernel)) (Draws.own (x:="name") (dtk (i:=2) rfl (dtk (i:=1) rfl Draws.nil))) (zAj (zDd M_names U.cl hr (pv 0))) (λ_ _ _ _=>(pgB (i:=0))) (λ_ _ _ _=>(zBg (zAo op_le (zAs hu (pv 2) (pv 0) (λ_ _=>rfl)) (pv 1) (zAq _)))) (λ_ _ _ _=>(pv 0))))),?_⟩;refine⟨_,rfl,j,J.dx,_,rfl,A0.ob,zGz _ _ _ (by decide +kernel) (by decide +kernel) (by decide +kernel),j,J,rfl,A0,λa H1 fa h1 k1=>?_⟩;have hd1:=k1 _ _ hd (by simp);refine⟨_,rfl,⟨_,SqL.of h1⟩,λB hB=>zA9 (J.ns.map V.str) (λi ys τ H3=>(∃o0,τ=[o0,some (.int n),some (.ref d)])/\ys=(((J.ns.take i).filter λx=>decide (f x<=n)).map V.str)/\H3=upd H1 B (.lst ys)) ⟨⟨_,rfl⟩,rfl,rfl⟩ (λi ys τ H3 ⟨_,_,e⟩=>by subst e;exact SqL.of ((Kp.new (M:=[]) Kp.refl hB) _ _ h1 (by simp))) ?_ ?_⟩
  .rintro i v ys τ H3 hv ⟨⟨o0,rfl⟩,rfl,rfl⟩;obtain⟨x,ex,rfl⟩:=zA3 hv;have mx:=qAJ ex;have hd3:=(Kp.new (M:=[]) (l:=B) (o:=.lst (((J.ns.take i).filter λx=>decide (f x<=n)).map V.str)) Kp.refl hB) d _ hd1 (by simp);refine⟨_,rfl,_,rfl,d,_,rfl,by have:=DGet.k (k:=Sum.inr x) hd3;rw[zDu (pm.mem_iff.mpr mx)]at this;exact this,_,rfl,_,_,rfl,rfl,_,rfl,?_⟩;have few:=A0.few;have ll:((J.ns.take i).filter λx=>decide (f x<=n)).length<=J.ns.length:=qAL (qAq _ _) (by rw[qAR];lia);refine ite2 (λc=>⟨_,rfl,upd_same,by rw[qAD,qAI];lia,⟨_,rfl⟩,?_,zAx⟩) (λc=>⟨⟨_,rfl⟩,?_,rfl⟩)
   .rw [zAh ex,qBK,qAu,qAC c,qAN];rfl
   .rw [zAh ex,qBK,qAu,qAB c];simp
  .rintro ys τ H3 ⟨_,rfl,rfl⟩;have eT:J.ns.take (J.ns.map V.str).length=J.ns:=by rw[qAD,qAb]
   rw[eT];exact k B _ (k1.fre hB (by simp)) upd_same (Kp.new k1 (k1.fre hB (by simp)))
def spLate:Sp:=λvs H Q _=>∃(l d:Addr)(as:List Addr) (rs:List (List Str)) (F:List Str) (e:Str->Int),vs=[.ref l,.ref d]/\RowsR H l as rs/\H d=some (.dK (kvI F e))/\(∀r∈rs,∀x∈r,x∈F)/\0<rs.flatten.length/\rs.flatten.length<=20 /\
 ∀(M:Int)(H':Hp),M∈dueL e 1 rs->(∀a∈dueL e 1 rs,a<=M)->Kp [] H H'->Q (.int M) H'
abbrev zEp:Stmt:=top 40
theorem zDj:FnScope ["plan","ends","found","number","row"] ["plan","ends"] (zAd zEp):=fnS
theorem ok_lateness(F:Fun K "lateness" "lateness" zEp f fd)(T:Txt K mg):FnOk P w K mg base CX0 1 f fd ["plan","ends"] spLate:=by
 refine F.ok zDj (λvs H Q E h=>?_) (λcdv A outer s H vs Q E hr h=>?_)
 .obtain ⟨l,d,as,rs,F,e,rfl,_⟩:=h;rfl
 .obtain ⟨l,d,as,rs,F,e,rfl,R,hd,hv,n0,n1,k⟩:=h;have hu:=zCn hr
  refine⟨_,(zAb (psS (i:=2) zDj.nd (zBv zAc)) (zAb (zA1 qAg rfl (pi_enumS rfl T.z_enumerate (zAa (pv 0) zAc)) (zIs rfl (zA7 (pgN (i:=3) zDj.nd) (zA7 (pgN (i:=4) zDj.nd) zEf)))
    (zAe (zA2 (zGv qBR qDc qDd zFt (pv 2) (zAa (zAt rfl (zAz (sc:=zAd zEp) rfl (by decide +kernel)) (Draws.own (x:="name") (dtk (i:=3) rfl (dtk (i:=1) rfl Draws.nil))) (zAj (pv 4)) (λ_ _ _ _=>(pgB (i:=0))) (λ_ _ _ _=>zBl) (λ_ _ _ _=>(zAk zCt (pv 1) (zAs hu (pv 2) (pv 0) (λ_ _=>rfl))))) zAc)))))
   (zAe (zAm (zAi (call_max1 rfl) (by rfl) T.z_max bo_max (zAa (pv 2) zAc)))))),?_⟩
  refine⟨(by walk_at"ln"),λb hb=>?_⟩;have fb:Fre H b:=hb;have k1:Kp [] H (upd H b (.lst [])):=Kp.new Kp.refl fb;refine⟨_,rfl,_,rfl,⟨_,SqL.of (k1 l _ R.top (by simp))⟩,for_enum (lo:=1) (xs:=as.map V.ref) (λi σ H2=>(∃o3 o4,σ=[some (.ref l),some (.ref d),some (.ref b),o3,o4])/\Kp [] H H2/\H2 b=some (.lst ((dueL e 1 (rs.take i)).map V.int))) ⟨⟨_,_,rfl⟩,k1,upd_same⟩ (λi σ H2 _ ⟨_,k2,_⟩=>SqL.of (k2 l _ R.top (by simp))) ?_ ?_⟩
  .rintro i v σ H2 t hv' ⟨⟨o3,o4,rfl⟩,k2,h2⟩ ht;have ft:Fre H2 t:=ht
   have hi:i<as.length:=by
    have:=(qAf.mp hv').1;rw[qAD]at this;exact this
   have ea:as[i]?=some as[i]:=qAV hi;have er:rs[i]?=some (rs[i]'(by rw[<-R.len];exact hi)):=qAV _;generalize as[i]=a at ea;generalize rs[i]'(by rw[<-R.len];exact hi)=r at er;rw[qAZ,ea]at hv'
   cases hv'
   have ha:=R.row i a r ea er;have mr:r∈rs:=qAJ er;have rl:r.length<=20:=qAL (flat_le mr) n1;have kt:Kp [] H2 (upd H2 t (.tup [.int (1+(i:Int)),.ref a])):=Kp.new Kp.refl ft;refine⟨_,_,rfl,.inl (.inl upd_same),rfl,_,_,rfl,_,_,rfl,rfl,?_⟩;have h3:=kt b _ h2 (by simp);generalize upd H2 t (.tup [.int (1+(i:Int)),.ref a])=H3 at kt h3 ⊢;have k3:=k2.trans kt;have ha3:Txs H3 a r:=k3 a _ ha (by simp);have hd3:=k3 d _ hd (by simp)
   refine⟨_,rfl,.inl ⟨rfl,_,SqL.of h3⟩,_,rfl,_,rfl,⟨_,SqL.of ha3⟩,λB hB=>zAw (r.map V.str) (λj ys τ H4=>(∃o0,τ=[o0,some (.int (1+(i:Int))),some (.ref d)])/\ys=((r.take j).map λx=>V.int (1+(i:Int)-e x))/\H4=upd H3 B (.lst ys)) ⟨⟨_,rfl⟩,rfl,rfl⟩ (λj ys τ H4 ⟨_,_,z⟩=>by subst z;exact SqL.of ((Kp.new (M:=[]) Kp.refl hB) _ _ ha3 (by simp))) ?_ ?_⟩
   .rintro j v ys τ H4 hv4 ⟨⟨o0,rfl⟩,rfl,rfl⟩;obtain⟨n,en,rfl⟩:=zA3 hv4;have ez:=hv r mr n (qAJ en);have hd4:=(Kp.new (M:=[]) (l:=B) (o:=.lst ((r.take j).map λx=>V.int (1+(i:Int)-e x))) Kp.refl hB) d _ hd3 (by simp);refine⟨_,rfl,_,rfl,_,rfl,d,_,rfl,by have:=DGet.k (k:=Sum.inr n) hd4;rw[zDu ez]at this;exact this,_,_,rfl,rfl,upd_same,by rw[qAD,qAI,qAR];lia,⟨_,rfl⟩,?_,zAx⟩;rw[zAh en,qAN];rfl
   .rintro ys τ H4 ⟨_,rfl,rfl⟩;have eT:r.take (r.map V.str).length=r:=by rw[qAD,qAb]
    rw[eT];have fB:Fre H3 B:=hB;have kB:Kp [] H3 (upd H3 B (.lst (r.map λx=>V.int (1+(i:Int)-e x)))):=Kp.new Kp.refl fB;have nb:b≠B:=ne_fre fB h3;have hB4:upd H3 B (.lst (r.map λx=>V.int (1+(i:Int)-e x))) B=some (.lst (r.map λx=>V.int (1+(i:Int)-e x))):=upd_same;generalize upd H3 B (.lst (r.map λx=>V.int (1+(i:Int)-e x)))=H4 at kB hB4 ⊢;have h4:=kB b _ h3 (by simp);have tf:=take_flat rs i;refine⟨b,B,_,_,rfl,rfl,h4,hB4,by rw[qAD,qAD,zJz,qAI];lia,⟨_,_,rfl⟩,zGe (k3.trans kB) fb (Kp.put Kp.refl (by simp)),?_⟩;rw[upd_same,dueL_snoc er,qAN,qAp];rfl
  .rintro σ H2 ⟨⟨o3,o4,rfl⟩,k2,h2⟩;have eT:rs.take (as.map V.ref).length=rs:=by rw[qAD,R.len,qAb]
   rw[eT]at h2;refine⟨_,rfl,b,_,rfl,SqL.of h2,λz=>?_,λM hM hA=>k M H2 hM hA k2⟩;have:=zJz e rs 1;rw[z]at this;rw[<-this]at n0;exact qA8 _ n0
end
structure LstQ(J:JR)(b:Int)(e:Str->Int)(G ws:List Str)(g:Str->Int)(M:Int):Prop where
 mf:MF b e (behJ J) G g
 pg:G.Perm J.ns
 pm:ws.Perm J.ns
 pw:ws.Pairwise (λx y=>g x<=g y)
 mem:M∈dueL e 1 (rsB J b.toNat ws)
 le:∀a∈dueL e 1 (rsB J b.toNat ws),a<=M
theorem zJs{f:Str->Int}{v:Int}:∀{rs:List (List Str)} {c:Int},v∈dueL f c rs↔∃(i:Nat)(q:List Str),rs[i]?=some q/\∃x∈q,v=c+i-f x
 |[],c=>by simp[dueL]
 |r::rs,c=>by
  rw[dueL,qAT,zJs (rs:=rs)];constructor
  .rintro (h|⟨i,q,h1,x,h2,h3⟩)
   .obtain ⟨x,hx,rfl⟩:=qAW.mp h;exact⟨0,r,rfl,x,hx,by simp⟩
   .exact ⟨i+1,q,h1,x,h2,by rw[h3];lia⟩
  .rintro ⟨i,q,h1,x,h2,h3⟩
   cases i with
   |zero=>
    have:r=q:=by simpa using h1
    subst this;exact .inl (qAW.mpr ⟨x,h2,by rw[h3];simp⟩)
   |succ i=>exact .inr ⟨i,q,by simpa using h1,x,h2,by rw[h3];lia⟩
theorem rsB_in{r:Str->Nat}{ws:List Str}{b:Nat}(A:OrdJ J r)(pm:ws.Perm J.ns)(hb:1<=b):∀q∈rsB J b ws,∀x∈q,x∈J.ns:=λq hq x hx=>by
 obtain⟨i,hi⟩:=List.mem_iff_getElem?.mp hq;exact((zB7 A pm hb).at' i q hi).ns x hx
theorem rsB_flat{r:Str->Nat}{ws:List Str}{b:Nat}(A:OrdJ J r)(pm:ws.Perm J.ns)(hb:1<=b):(rsB J b ws).flatten.length<=J.ns.length/\(J.ns≠[]->0<(rsB J b ws).flatten.length):=by
 obtain⟨h1,h2⟩:=flat_sub (J:=J) (b:=b) ws.length [] ws (pm.nodup_iff.mpr A.nd);refine⟨by rw[<-pm.length_eq];exact zCu h1 h2,λz=>?_⟩;obtain⟨n,hn⟩:=qDa _ z;obtain⟨q,q1,q2⟩:=((zD4 _ _).mp ((zB7 A pm hb).all n hn)).resolve_left (by simp);exact qC4 (List.mem_flatten.mpr ⟨q,q1,q2⟩)
section
def spLst(C Pt Pu:Addr):Sp:=λvs H Q _=>∃(j d:Addr)(J:JR)(b:Int) (qs:List (List Str×Addr)) (r:Str->Nat) (F:List Str) (e:Str->Int),vs=[.ref j,.int b,.ref d]/\JobsAt C H j J/\Good J.ns qs r/\(∀k,k∈J.zs.map (·.1)↔k∈qs.map (·.1))/\OrdJ J r/\1<=b/\b<10^100/\(b<=2\/zJy J=true)/\H d=some (.dK (kvI F e))/\F.Perm J.ns/\J.ns≠[]/\TabA H Pt/\TabU H Pu/\Pt≠Pu /\
 ∀(t pl l:Addr)(M:Int)(G ws:List Str)(g:Str->Int)(as:List Addr)(x:Str)(H':Hp),Kp [Pt,Pu] H H'->TabA H' Pt->TabU H' Pu->H' t=some (.tup [.int M,.ref pl,.int (g x),.ref l])->LstQ J b e G ws g M->RowsAt H H' pl as (rsB J b.toNat ws)->LateAt g (M-1) (rsB J b.toNat ws) x->Txs H' l (J.ns.filter λy=>decide (g y<=g x))->Fre H l->Q (.ref t) H'
abbrev zEb:Stmt:=top 41
theorem zBy:FnScope ["jobs","benches","ends","due","plan","most","turn"] ["jobs","benches","ends"] (zAd zEb):=fnS
theorem zJl(F:Fun K "least_late" "least_late" zEb f fd)(C_mfp:Cal P w K mg base "mended_for_plan" 9 ["jobs","benches","ends"] (spMfp C Pt))(C_soon:Cal P w K mg base "soonest_first" 6 ["jobs","benches","due"] (spSoon C Pu))(C_late:Cal P w K mg base "lateness" 1 ["plan","ends"] spLate)(C_first:Cal P w K mg base "first_late" 1 ["plan","due","grace"] spFirst)(C_due_by:Cal P w K mg base "due_by" 2 ["jobs","due","turn"] (spDueBy C)):FnOk P w K mg base CX0 10 f fd ["jobs","benches","ends"] (spLst C Pt Pu):=by
 refine F.ok zBy (λvs H Q E h=>?_) (λcdv A outer s H vs Q E hr h=>?_)
 .obtain ⟨j,d,J,b,qs,r,F,e,rfl,_⟩:=h;rfl
 .obtain ⟨j,d,J,b,qs,r,F,e,rfl,A0,G0,hz,OJ,b0,b1,bg,hd,pm,ne,T0,U0,nPU,k⟩:=h;have hu:=zCn hr;have hr6:=hr.mono (j:=6) (by decide);have hr1:=hr.mono (j:=1) (by decide);have hr2:=hr.mono (j:=2) (by decide)
  refine⟨_,(zAb (psS (i:=3) zBy.nd (zAg C_mfp hr rfl (zAa (pv 0) (zAa (pv 1) (zAa (pv 2) zAc))))) (zAb (zB5 (zDc (zG5 (pv 3) (fun _=>rfl)))
    (zAe zBq)
    zAr)
   (zAb (psS (i:=4) zBy.nd (zAg C_soon hr6 rfl (zAa (pv 0) (zAa (pv 1) (zAa (pv 3) zAc)))))
   (zAb (psS (i:=5) zBy.nd (zAg C_late hr1 rfl (zAa (pv 4) (zAa (pv 2) zAc))))
   (zAb (psS (i:=6) zBy.nd (zAs hu (pv 3) (zAg C_first hr1 rfl (zAa (pv 4) (zAa (pv 3) (zAa (zAk zCt (pv 5) zAf) zAc)))) (fun _ _=>rfl)))
   (zAe (zAm (zGo (zAa (pv 5) (zAa (pv 4) (zAa (pv 6) (zAa (zAg C_due_by hr2 rfl (zAa (pv 0) (zAa (pv 3) (zAa (pv 6) zAc)))) zAc)))))))))))),?_⟩
  have few:=A0.few;have hb:1<=b.toNat:=by lia
  refine⟨_,rfl,_,rfl,_,rfl,j,d,J,b,qs,r,F,e,rfl,A0,G0,hz,b0,b1,bg,hd,pm,T0,λd' G g H1 k1 T1 fd' hd' Mf pmG=>?_⟩;have t0:=T0.tbl;have u0:=zDg U0;have U1:TabU H1 Pu:=zCy U0 k1 (nm1 nPU.symm) λa o h _ no=>nm1 (zCx t0 h no);have K1:Kp [Pt,Pu] H H1:=k1.weak (by simp);have A1:=A0.kp2 K1 t0 u0;have hd1:=k1 _ _ hd (nm1 (zCx t0 hd λ_ z=>nomatch z));refine⟨_,rfl,true,.inr (.inr ⟨_,hd',?_⟩),?_⟩
  .cases G with
   |nil=>exact absurd (List.nil_perm.mp pmG).symm (qAj ne)
   |cons=>rfl
  refine iteF ⟨_,rfl,_,rfl,_,rfl,j,d',b,J,r,G,g,rfl,A1,OJ,b0,hd',pmG,U1,λpl as ws H2 k2 U2 pmW pw R2=>?_⟩;have u1:=zDg U1;have T2:TabA H2 Pt:=zCy T1 k2 (nm1 nPU) λa o h _ no=>nm1 (zCx u1 h no);have K2:Kp [Pt,Pu] H H2:=K1.trans (k2.weak (by simp));have A2:=A0.kp2 K2 t0 u0;have hd2:=k2 _ _ hd1 (nm1 (zCx u1 hd1 λ_ z=>nomatch z));have hg2:=k2 _ _ hd' (nm1 (zCx u1 hd' λ_ z=>nomatch z));have inn:=rsB_in OJ pmW hb;obtain⟨fl,fp⟩:=rsB_flat OJ pmW hb;refine⟨_,rfl,_,rfl,pl,d,as,_,F,e,rfl,⟨R2.top,R2.len,R2.row⟩,hd2,λq hq x hx=>pm.mem_iff.mpr (inn q hq x hx),fp ne,by lia,λM H3 mM lM k3=>?_⟩;refine⟨_,rfl,_,rfl,_,rfl,_,rfl,_,_,rfl,rfl,pl,d',M-1,as,_,G,g,rfl,RowsR.kp ⟨R2.top,R2.len,R2.row⟩ k3,k3 _ _ hg2 (by simp),λq hq x hx=>pmG.mem_iff.mpr (inn q hq x hx),λH4 k4=>⟨λno=>?_,λx lx=>?_⟩⟩
  .-- one of the latest is late by its mended end too
   exfalso;obtain⟨i,q,h1,x,h2,h3⟩:=zJs.mp mM;have:=no i q h1 x h2;have le:=(Mf.eq x (pmG.mem_iff.mpr (inn q (qAJ h1) x h2))).le (e x) qAY;lia
  .have k34:=k3.trans k4;have hg4:=k34 _ _ hg2 (by simp);have xn:x∈J.ns:=by obtain⟨i,q,h1,h2,_⟩:=id lx;exact inn q (qAJ h1) x h2
   have A4:=A2.kp0 k34;refine⟨d',_,rfl,by have:=DGet.k (k:=Sum.inr x) hg4;rw[zDu (pmG.mem_iff.mpr xn)]at this;exact this,_,rfl,_,rfl,_,rfl,_,rfl,_,rfl,_,rfl,j,d',J,_,G,g,rfl,A4,hg4,pmG,λl H5 f5 h5 k5=>⟨(by walk_at"ln"),λt ht=>?_⟩⟩;have k45:Kp [] H2 (upd H5 t (.tup [.int M,.ref pl,.int (g x),.ref l])):=(k34.trans k5).trans (Kp.new Kp.refl ht);have T5:=T2.kp k45;have U5:TabU _ Pu:=zCy U2 k45 (by simp) (λ_ _ _ _ _=>by simp);have K5:=K2.trans (k45.weak (M':=[Pt,Pu]) (by simp));refine k t pl l M G ws g as x _ K5 T5 U5 upd_same ⟨Mf,pmG,pmW,pw,mM,lM⟩ ?_ lx ((Kp.new (M:=[]) Kp.refl ht) _ _ h5 (by simp)) ?_
   .have bk:∀a,Fre H1 a->Fre H a:=λa=>fre_two T1.tbl u1 K1;exact⟨k45 _ _ R2.top (by simp),R2.len,λi a q e1 e2=>k45 _ _ (R2.row i a q e1 e2) (by simp),R2.ne,bk _ R2.fr,λa h=>bk a (R2.frs a h)⟩
   .exact fre_two T2.tbl (zDg U2) K2 (k34.fre f5 (by simp))
end
theorem bit_and(a b:Nat):Builtin.bitAnd (a:Int) (b:Int)=((a &&& b:Nat):Int):=by
 unfold Builtin.bitAnd;rw[qAS (Int.natCast_nonneg a),qAS (Int.natCast_nonneg b)];rfl
theorem bit_or(a b:Nat):Builtin.bitOr (a:Int) (b:Int)=((a ||| b:Nat):Int):=by
 have e:∀x:Int,Builtin.bitNot (Builtin.bitNot x)=x:=λx=>by unfold Builtin.bitNot;lia
 have n:∀a:Nat,¬(0:Int)<=Builtin.bitNot (a:Int):=λa=>by unfold Builtin.bitNot;lia
 unfold Builtin.bitOr Builtin.bitAnd;rw[qAa (n a),qAa (n b)];simp only[e,qBU]
theorem bit_at(D i:Nat):Builtin.bitAnd ((D:Int) / 2^i) 1=if D.testBit i=true then 1 else 0:=by
 have e:(D:Int) / 2^i=((D / 2^i:Nat):Int):=by simp
 rw[e,show(1:Int)=((1:Nat):Int)from rfl,bit_and,Nat.and_one_is_mod,Nat.testBit_eq_decide_div_mod_eq];rcases Nat.mod_two_eq_zero_or_one (D / 2^i)with z|z<;>simp[z]
theorem or_pow(M k:Nat):Builtin.bitOr (M:Int) (1*2^k)=((M ||| 2^k:Nat):Int):=by
 rw[show(1*2^k:Int)=((2^k:Nat):Int) by simp,bit_or]
def zDh(fs:List Nat):List Nat:=fs.foldl (λL k=>L++L.map λM=>M ||| 2^k) [0]
theorem zF7(fs:List Nat)(k:Nat):zDh (fs++[k])=zDh fs++(zDh fs).map λM=>M ||| 2^k:=by unfold zDh;rw[List.foldl_append];rfl
theorem tb_pow{k:Nat}:(2^k).testBit i=decide (k=i):=Nat.testBit_two_pow
theorem subsF_len(n:Nat):∀fs:List Nat,fs.length=n->(zDh fs).length=2^n:=by
 induction n with
 |zero=>intro fs h;rw[qCT.mp h];rfl
 |succ n ih=>
  intro fs h;have ne:fs≠[]:=λz=>by rw[z]at h;cases h
  rw[<-qD3 ne,zF7,qAl,qAD,ih _ (by rw[qDt,h];rfl),Nat.pow_succ];lia
theorem mem_subsF(n:Nat):∀fs:List Nat,fs.length=n->∀M:Nat,M∈zDh fs↔∀k,M.testBit k=true->k∈fs:=by
 induction n with
 |zero=>
  intro fs h M;rw[qCT.mp h];constructor
  .intro z k hk;rw[show M=0 from qAP.mp z,qBw]at hk
   cases hk
  .intro z;refine qAP.mpr (qBx λi=>?_);rw[qBw]
   cases e:M.testBit i with
   |false=>rfl
   |true=>exact absurd (z i e) (by simp)
 |succ n ih=>
  intro fs h M;have ne:fs≠[]:=λz=>by rw[z]at h;cases h
  have ih:=ih fs.dropLast (by rw[qDt,h];rfl);rw[<-qD3 ne];generalize fs.dropLast=gs at ih;generalize fs.getLast ne=q;rw[zF7,qAT,ih];constructor
  .rintro (z|z) k hk
   .exact qAT.mpr (.inl (z k hk))
   .obtain ⟨M',h1,rfl⟩:=qAW.mp z;rw[qBY,tb_pow,qB5]at hk;rcases hk with y|y
    .exact qAT.mpr (.inl ((ih M').mp h1 k y))
    .exact qAT.mpr (.inr (by rw[qAo y];simp))
  .intro z
   cases e:M.testBit q with
   |false=>
    refine .inl λk hk=>(qAT.mp (z k hk)).resolve_right λy=>?_;rw[qAP.mp y,e]at hk;cases hk
   |true=>
    refine .inr (qAW.mpr ⟨M ^^^2^q,(ih _).mpr λk hk=>?_,qBx λi=>?_⟩)
    .rw [Nat.testBit_xor,tb_pow]at hk
     by_cases y:q=k
     .rw [<-y,e]at hk;simp at hk
     .rw [qAa y,Bool.xor_false]at hk;exact(qAT.mp (z k hk)).resolve_right λu=>y (qAP.mp u).symm
    .rw [qBY,Nat.testBit_xor,tb_pow]
     by_cases y:q=i
     .rw [<-y,e];simp
     .rw [qAa y];simp
def zB9(A:List Nat)(D k:Nat):Bool:=!D.testBit k&&decide (A.getD k 0 &&& D=A.getD k 0)
def cardM(n M:Nat):Nat:=((List.range n).filter λk=>M.testBit k).length
def innM(A:List Nat)(n D:Nat)(b:Int):List Nat:=(zDh ((List.range n).filter (zB9 A D))).filter λM=>decide (M≠0)&&decide ((((List.range n).filter (zB9 A D)).filter λk=>M.testBit k).length<=b)
theorem zJr{A:List Nat}{n D M:Nat}{b:Int}:M∈innM A n D b↔M≠0/\(∀k,M.testBit k=true->k<n/\zB9 A D k=true)/\(cardM n M:Int)<=b:=by
 unfold innM;rw[qAQ,mem_subsF _ _ rfl,qBB,qA3,qA3];have m:∀k,k∈(List.range n).filter (zB9 A D)↔k<n/\zB9 A D k=true:=λk=>by rw[qAQ,qAs]
 have c:(∀k,M.testBit k=true->k<n/\zB9 A D k=true)->((List.range n).filter (zB9 A D)).filter (λk=>M.testBit k)=(List.range n).filter λk=>M.testBit k:=λh=>by
  rw[List.filter_filter];refine qC5 λk hk=>?_
  cases e:M.testBit k with
  |false=>rfl
  |true=>rw[(h k e).2];rfl
 constructor
 .rintro ⟨h1,h2,h3⟩;have h1:∀k,M.testBit k=true->k<n/\zB9 A D k=true:=λk hk=>(m k).mp (h1 k hk);rw[c h1]at h3;exact⟨h2,h1,h3⟩
 .rintro ⟨h1,h2,h3⟩;exact⟨λk hk=>(m k).mpr (h2 k hk),h1,by rw[c h2];exact h3⟩
end My
namespace L2
open PySem PySem.Spec PyProof.Rows
section
variable{X:Cx}
theorem call_sum1(hc:X.calm=true):zCa X (.builtin "sum") (λxs H Q=>∃(p:Addr)(ns:List Int),xs=[.ref p]/\SqL X.K H p (ns.map V.int)/\Q (.int ns.sum) H):=by
 intro pins s σ H xs us Q I rv h;obtain⟨p,ns,rfl,hq,q⟩:=h;obtain⟨u,rfl,ru⟩:=rv.one
 cases ru
 obtain⟨its,r,pl,hz⟩:=I.list hq;obtain⟨xs,rfl,e⟩:=ints_of r
 have hI:s.heap.IsList p (intItems xs.toArray):=by
  have:=pl.isList
  rwa [show(xs.map λp=>Value.int p.1 p.2).toArray=intItems xs.toArray from by unfold intItems;simp]at this
 refine sum_intListG (I.ok.hd hc) hI λh' tk tk' hk=>?_
 have es:preSum (numAt xs.toArray) xs.toArray.size=ns.sum:=by
  rw[PySem.preSum_eq,<-e,qAK,qBc (by simp)]
 exact⟨.int ns.sum,H,I.kept (t':=tk) hk,⟨_,by rw[es]⟩,q⟩
end
end L2
namespace My
open PySem L2
variable{P:Program}{w:World}{K:PySem.W.Frag}{mg:Str->Option Value}{base:Heap}{C:Addr}
variable{i:Nat}{v:V}{x:Str}{f:Addr}{G:Int}{kvs:List (Key×V)}{H:Hp}{ns:List Str}
theorem zI1{X:Cx}{K:PySem.W.Frag}(hc:X.calm=true)(hK:X.K=K:=by rfl):zCa X (.builtin "sum") (λxs H Q=>∃(p:Addr)(ns:List Int),xs=[.ref p]/\SqL K H p (ns.map V.int)/\Q (.int ns.sum) H):=by subst hK;exact call_sum1 hc
theorem pi_listK{X:Cx}{K:PySem.W.Frag}{tg l:Expr}{tl:TE}(hl:PE X l tl)(hK:X.K=K:=by rfl):PI X tg l (iList K tl):=by subst hK;exact zAj hl
abbrev vN(x:Nat):V:=.int (x:Int)
theorem nat_at{is:List Nat}(h:(is.map vN)[i]?=some v):∃n,is[i]?=some n/\v=vN n:=by
 rw[qAZ]at h;obtain⟨n,e,r⟩:=qBH.mp h;exact⟨n,e,r.symm⟩
theorem zBb{α:Type}{L:List α}{x:α}(p:α->Bool)(e:L[i]?=some x):(L.take (i+1)).filter p=(L.take i).filter p++if p x=true then[x]else[]:=by
 rw[zAh e,qBK,qAu];split<;>rfl
theorem rng_at{n:Nat}(h:i<n):(List.range n)[i]?=some i:=qCv h
theorem sum_bits(M:Nat):∀fs:List Nat,(fs.map λk=>if M.testBit k=true then(1:Int)else 0).sum=(fs.filter λk=>M.testBit k).length
 |[]=>rfl
 |k::fs=>by
  rw[qAk,List.sum_cons,sum_bits M fs,qAu]
  cases M.testBit k<;>simp
  lia
section
def spInner:Sp:=λvs H Q _=>∃(l m:Addr)(D:Nat)(b:Int)(ns:List Str)(A:List Nat),vs=[.ref l,.ref m,vN D,.int b]/\Txs H l ns/\H m=some (.lst (A.map vN))/\A.length=ns.length/\ns.length<=6/\∀p H',Fre H p->H' p=some (.lst ((innM A ns.length D b).map vN))->Kp [] H H'->Q (.ref p) H'
abbrev zE5:Stmt:=top 67
theorem zFh:FnScope ["_law_names_here","_law_ahead","_law_done","_law_benches_here","_law_free","_law_found","_law_k"] ["_law_names_here","_law_ahead","_law_done","_law_benches_here"] (zAd zE5):=fnS
theorem ok_inner{fd:FuncData}(F:Fun K "_law_inner" "_law_inner" zE5 f fd)(T:Txt K mg):FnOk P w K mg base CX0 1 f fd ["_law_names_here","_law_ahead","_law_done","_law_benches_here"] spInner:=by
 refine F.ok zFh (λvs H Q E h=>?_) (λcdv A outer s H vs Q E hr h=>?_)
 .obtain ⟨l,m,D,b,ns,A,rfl,_⟩:=h;rfl
 .obtain ⟨l,m,D,b,ns,A',rfl,hl,hm,la,few,k⟩:=h
  refine⟨_,(zAb (psS (i:=4) zFh.nd (zAt rfl (zAz (sc:=zAd zE5) rfl (by decide +kernel)) (Draws.own (x:="_law_k") (dtk (i:=2) rfl (dtk (i:=1) rfl Draws.nil))) (zBm rfl T.z_range (zAa (zAi zAl (by rfl) T.z_len zBw (zAa (pv 0) zAc)) zAc)) (λ_ _ _ _=>(pgB (i:=0))) (λ_ _ _ _=>(zBg (PW.pt (zIr (zAo zHo (zAk op_and (zAk op_shr (pv 1) (pv 0)) zAf) zAf (zAq _)) (zGa (zAo zHo (zAk op_and (zCh (zC5 (K:=K)) (pv 2) (pv 0) (λ_ _=>rfl)) (pv 1)) (zCh (zC5 (K:=K)) (pv 2) (pv 0) (λ_ _=>rfl)) (zAq _))))))) (λ_ _ _ _=>(pv 0)))) (zAb (psS (i:=5) zFh.nd (zBv (zAa zAf zAc)))
   (zAb (zA1 qAg rfl (zAj (pv 4)) (pgN (i:=6) zFh.nd)
    (zAe (psS (i:=5) zFh.nd (zAk op_cat (pv 5) (zAt rfl (zAz (sc:=zAd zE5) rfl (by decide +kernel)) (Draws.own (x:="_law_one") (dtk (i:=6) rfl Draws.nil)) (zAj (pv 5)) (λ_ _ _ _=>(pgB (i:=0))) (λ_ _ _ _=>zBl) (λ_ _ _ _=>(zAk op_or (pv 0) (zAk op_shl zAf (pv 1)))))))))
   (zAe (zAm (zAt rfl (zAz (sc:=zAd zE5) rfl (by decide +kernel)) (Draws.own (x:="_law_one") (dtk (i:=3) rfl (dtk (i:=4) rfl Draws.nil))) (zAj (pv 5)) (λ_ _ _ _=>(pgB (i:=0))) (λ_ _ _ _=>(zBg (PW.pt (zIr (zAo op_ne (pv 0) zAf (zAq _)) (zGa (zAo op_le (zAi (zI1 (K:=K) rfl) (by rfl) T.z_sum bo_sum (zAa (zAt rfl (blk_in (sc:=zAd zE5) rfl rfl (by decide +kernel)) (Draws.own (x:="_law_k") (dtk (i:=0) rfl Draws.nil)) (pi_listK (K:=K) (pv 2)) (λ_ _ _ _=>(pgB (i:=0))) (λ_ _ _ _=>zBl) (λ_ _ _ _=>(zAk op_and (zAk op_shr (pv 1) (pv 0)) zAf))) zAc)) (pv 1) (zAq _))))))) (λ_ _ _ _=>(pv 0)))))))),?_⟩
  have hs:=qAI;have en:((ns.map V.str).length:Int).toNat=ns.length:=by rw[qAD,qBU]
  refine⟨_,rfl,_,_,rfl,.inl (SqL.of hl),_,rfl,by lia,by lia,λB hB=>zGj (lo:=0) (n:=((ns.map V.str).length:Int).toNat) (λi ys τ H'=>(∃o0,τ=[o0,some (vN D),some (.ref m)])/\ys=(((List.range ns.length).take i).filter (zB9 A' D)).map vN/\H'=upd H B (.lst ys)) ⟨⟨_,rfl⟩,rfl,rfl⟩ ?_ ?_⟩
  .rintro i ys τ H' hi ⟨⟨o0,rfl⟩,rfl,rfl⟩;rw[en]at hi;have hm':=(Kp.new (M:=[]) (l:=B) (o:=.lst ((((List.range ns.length).take i).filter (zB9 A' D)).map vN)) Kp.refl hB) _ _ hm (by simp);have ei:(0+(i:Int)).toNat=i:=by lia
   have er:=rng_at hi;have ai:∃x,A'[i]?=some x:=⟨A'[i]'(by lia),qAV _⟩;obtain⟨x,hx⟩:=ai;have gx:A'.getD i 0=x:=by rw[qAr,hx];rfl
   have av:atI (A'.map vN) (0+(i:Int))=some (vN x):=zDe (by lia) (by rw[ei,qAZ,hx];rfl);have fm:zB9 A' D i=(!D.testBit i&&decide (x &&& D=x)):=by unfold zB9;rw[gx]
   have lf:(((List.range ns.length).take i).filter (zB9 A' D)).length<=6:=qAL (qAq _ _) (by rw[qAR,qBW];lia);have no:zB9 A' D i=false->(((List.range ns.length).take i).filter (zB9 A' D)).map vN=(((List.range ns.length).take (i+1)).filter (zB9 A' D)).map vN:=λz=>by rw[zBb _ er,z,qAB (by decide),qA9]
   refine⟨_,rfl,_,rfl,_,_,rfl,rfl,by lia,_,_,rfl,rfl,rfl,_,rfl,ite2 (λc=>?_) (λc=>⟨⟨_,rfl⟩,no ?_,rfl⟩)⟩
   .have c:D.testBit i=false:=by simpa[ei,bit_at]using c
    refine⟨_,rfl,_,rfl,_,_,_,_,rfl,rfl,SqL.of hm',av,_,rfl,_,_,rfl,rfl,_,rfl,_,rfl,_,_,_,_,rfl,rfl,SqL.of hm',av,rfl,_,rfl,ite2 (λc2=>⟨_,rfl,upd_same,by rw[qAD,hs];lia,⟨_,rfl⟩,?_,zAx⟩) (λc2=>⟨⟨_,rfl⟩,no ?_,rfl⟩)⟩
    .have c2:x &&& D=x:=Int.ofNat_inj.mp (by simpa[bit_and]using c2);rw[zBb _ er,fm,c,qAS c2,qAN,Int.zero_add];rfl
    .have c2:¬x &&& D=x:=λz=>absurd (show((x &&& D:Nat):Int)=x by rw[z]) (by simpa[bit_and]using c2);rw[fm,qAa c2,qCj]
   .have c:D.testBit i=true:=by simpa[ei,bit_at]using c
    rw[fm,c];rfl
  .rw [en];rintro ys τ H' ⟨_,rfl,rfl⟩;rw[qBc (by rw[qBW];exact qAF _)];have k1:Kp [] H (upd H B (.lst (((List.range ns.length).filter (zB9 A' D)).map vN))):=Kp.new Kp.refl hB;have h1:upd H B (.lst (((List.range ns.length).filter (zB9 A' D)).map vN)) B=some (.lst (((List.range ns.length).filter (zB9 A' D)).map vN)):=upd_same;have fB:Fre H B:=hB;generalize upd H B (.lst (((List.range ns.length).filter (zB9 A' D)).map vN))=H1 at k1 h1 ⊢;have fl:((List.range ns.length).filter (zB9 A' D)).length<=6:=qAL (qAq _ _) (by rw[qBW];exact few);have ei:innM A' ns.length D b=(zDh ((List.range ns.length).filter (zB9 A' D))).filter λM=>decide (M≠0)&&decide ((((List.range ns.length).filter (zB9 A' D)).filter λk=>M.testBit k).length<=b):=rfl;rw[ei]at k;have hfs:∀q∈(List.range ns.length).filter (zB9 A' D),q<6:=λq hq=>qAi (qAs.mp (qAQ.mp hq).1) few;generalize (List.range ns.length).filter (zB9 A' D)=fs at h1 fl k hfs;refine⟨(by walk_at"ln"),λc hc=>?_⟩;have k2:Kp [] H1 (upd H1 c (.lst [.int 0])):=Kp.new Kp.refl hc;refine⟨_,rfl,_,rfl,⟨_,SqL.of (k2 _ _ h1 (by simp))⟩,zA8 (xs:=fs.map vN) (λi σ H3=>∃(p:Addr)(o6:Option V),σ=[some (.ref l),some (.ref m),some (vN D),some (.int b),some (.ref B),some (.ref p),o6]/\Kp [] H1 H3/\H3 p=some (.lst ((zDh (fs.take i)).map vN))) ⟨c,_,rfl,k2,upd_same⟩ (λi σ H3 _ ⟨_,_,_,k3,_⟩=>SqL.of (k3 _ _ h1 (by simp))) ?_ ?_⟩
   .rintro i v σ H3 hv ⟨p,o6,rfl,k3,h3⟩;obtain⟨q,eq,rfl⟩:=nat_at hv
    have li:(zDh (fs.take i)).length<=64:=by
     rw[subsF_len _ _ rfl];exact qAL (qCq (by decide) (show(fs.take i).length<=6 by rw[qAR];lia)) (by decide)
    refine⟨_,rfl,_,rfl,_,rfl,⟨_,SqL.of h3⟩,λG hG=>zAw ((zDh (fs.take i)).map vN) (λj ys τ H4=>(∃o0,τ=[o0,some (vN q)])/\ys=(((zDh (fs.take i)).take j).map λM=>vN (M ||| 2^q))/\H4=upd H3 G (.lst ys)) ⟨⟨_,rfl⟩,rfl,rfl⟩ (λj ys τ H4 ⟨_,_,z⟩=>by subst z;exact SqL.of ((Kp.new (M:=[]) Kp.refl hG) _ _ h3 (by simp))) ?_ ?_⟩
    .rintro j v ys τ H4 hv ⟨⟨o0,rfl⟩,rfl,rfl⟩;obtain⟨M,eM,rfl⟩:=nat_at hv;have hq:=hfs q (qAJ eq);refine⟨_,rfl,_,rfl,_,_,rfl,rfl,⟨by lia,by lia,by decide⟩,_,_,rfl,rfl,upd_same,by rw[qAD,qAR,hs];lia,⟨_,rfl⟩,?_,zAx⟩;rw[zAh eM,qAN];show _++[V.int (Builtin.bitOr (M:Int) (1*2^(q:Int).toNat))]=_;rw[qBU,or_pow];rfl
    .rintro ys τ H4 ⟨_,rfl,rfl⟩;rw[qAD,qAb];have kG:Kp [] H3 (upd H3 G (.lst ((zDh (fs.take i)).map λM=>vN (M ||| 2^q)))):=Kp.new Kp.refl hG;refine⟨_,_,_,_,rfl,rfl,kG _ _ h3 (by simp),upd_same,by rw[qAD,qAD,hs];lia,λR hR=>⟨R,_,rfl,(k3.trans kG).trans (Kp.new Kp.refl hR),?_⟩⟩;rw[upd_same,zAh eq,zF7,qAN,qAp];rfl
   .rintro σ H3 ⟨p,o6,rfl,k3,h3⟩;rw[qAD,qAb]at h3
    have l3:(zDh fs).length<=64:=by
     rw[subsF_len _ _ rfl];exact qAL (qCq (by decide) fl) (by decide)
    have hf3:=k3 _ _ h1 (by simp);refine⟨_,rfl,_,rfl,⟨_,SqL.of h3⟩,λG hG=>zA9 ((zDh fs).map vN) (λj ys τ H4=>(∃o0,τ=[o0,some (.int b),some (.ref B)])/\ys=(((zDh fs).take j).filter λM=>decide (M≠0)&&decide ((fs.filter λk=>M.testBit k).length<=b)).map vN/\Kp [] H3 H4/\H4 G=some (.lst ys)) ⟨⟨_,rfl⟩,rfl,Kp.new Kp.refl hG,upd_same⟩ (λj ys τ H4 ⟨_,_,k4,_⟩=>SqL.of (k4 _ _ h3 (by simp))) ?_ ?_⟩
    .rintro j v ys τ H4 hv ⟨⟨o0,rfl⟩,rfl,k4,h4⟩;obtain⟨M,eM,rfl⟩:=nat_at hv;have no:(decide (M≠0)&&decide (((fs.filter λk=>M.testBit k).length:Int)<=b))=false->(((zDh fs).take j).filter λM=>decide (M≠0)&&decide (((fs.filter λk=>M.testBit k).length:Int)<=b)).map vN=(((zDh fs).take (j+1)).filter λM=>decide (M≠0)&&decide (((fs.filter λk=>M.testBit k).length:Int)<=b)).map vN:=λz=>by rw[zBb _ eM,z,qAB (by decide),qA9]
     have lj:(((zDh fs).take j).filter λM=>decide (M≠0)&&decide (((fs.filter λk=>M.testBit k).length:Int)<=b)).length<=64:=qAL (qAq _ _) (by rw[qAR];lia);refine⟨_,rfl,rfl,_,rfl,ite2 (λc=>?_) (λc=>⟨⟨_,rfl⟩,no ?_,k4,h4⟩)⟩
     .have c:M≠0:=by simpa using c
      have hf4:=k4 _ _ hf3 (by simp);refine⟨_,rfl,_,rfl,⟨_,SqL.of hf4⟩,λR hR=>zAw (fs.map vN) (λi ys τ H5=>(∃o0,τ=[o0,some (vN M)])/\ys=((fs.take i).map λk=>V.int (if M.testBit k=true then 1 else 0))/\H5=upd H4 R (.lst ys)) ⟨⟨_,rfl⟩,rfl,rfl⟩ (λi ys τ H5 ⟨_,_,z⟩=>by subst z;exact SqL.of ((Kp.new (M:=[]) Kp.refl hR) _ _ hf4 (by simp))) ?_ ?_⟩
      .rintro i v ys τ H5 hv ⟨⟨o0,rfl⟩,rfl,rfl⟩;obtain⟨q,eq,rfl⟩:=nat_at hv;refine⟨_,rfl,_,rfl,_,_,rfl,rfl,by lia,_,_,rfl,rfl,upd_same,by rw[qAD,qAR,hs];lia,⟨_,rfl⟩,?_,zAx⟩;rw[zAh eq,qAN];show _++[V.int (Builtin.bitAnd ((M:Int) / 2^(q:Int).toNat) 1)]=_;rw[qBU,bit_at];rfl
      .rintro ys τ H5 ⟨_,rfl,rfl⟩;rw[qAD,qAb];have kR:Kp [] H4 (upd H4 R (.lst (fs.map λk=>V.int (if M.testBit k=true then 1 else 0)))):=Kp.new Kp.refl hR;refine⟨R,fs.map (λk=>if M.testBit k=true then 1 else 0),rfl,SqL.of (by rw[upd_same,qAp];rfl),?_⟩;rw[sum_bits];refine⟨_,rfl,_,_,rfl,rfl,_,rfl,ite2 (λc2=>⟨_,rfl,kR _ _ h4 (by simp),by rw[qAD,hs];lia,⟨_,rfl⟩,?_,Kp.new (k4.trans kR) hG,upd_same⟩) (λc2=>⟨⟨_,rfl⟩,no ?_,k4.trans kR,kR _ _ h4 (by simp)⟩)⟩
       .rw [zBb _ eM,qAS c,c2,qAN];rfl
       .rw [Bool.eq_false_iff.mpr c2,qCj]
     .have c:¬M≠0:=by simpa using c
      rw[qAa c];rfl
    .rintro ys τ H4 ⟨_,rfl,k4,h4⟩;rw[qAD,qAb]at h4;exact k G H4 ((k1.trans k3).fre hG (by simp)) h4 ((k1.trans k3).trans k4)
end
theorem len_imp{β:Type}{p q:β->Bool}(h:∀x,p x=true->q x=true)(L:List β):(L.filter p).length<=(L.filter q).length:=by
 rw[<-qDf,<-qDf];exact List.countP_mono_left λx _=>h x
section
variable{A:List Nat}{n:Nat}{b:Int}{e:Nat->Int}
def zEz(A:List Nat)(n:Nat)(b:Int)(e:Nat->Int)(i D:Nat)(v:Int):Prop:=∃h:Nat->Nat,(∀k,k<n->D.testBit k=true->1<=h k/\h k<=i/\(h k:Int)-e k<=v)/\(∀k,k<n->D.testBit k=true->∀j,(A.getD k 0).testBit j=true->D.testBit j=true/\h j<h k)/\∀u,(((List.range n).filter λk=>D.testBit k&&decide (h k=u)).length:Int)<=b
theorem zEz.zero(hb:1<=b)(i:Nat)(v:Int):zEz A n b e i 0 v:=⟨λ_=>0,λk _ h=>by simp at h,λk _ h=>by simp at h,λu=>by
 rw[qDi.mpr (λk _=>by simp)];show((0:Nat):Int)<=b;lia⟩
theorem zEz.step{D M:Nat}{v u:Int}(hb:1<=b)(hD:∀j,D.testBit j=true->j<n)(p:zEz A n b e i D v)(hM:M∈innM A n D b)(vu:v<=u)(hu:∀k,k<n->M.testBit k=true->((i+1:Nat):Int)-e k<=u):zEz A n b e (i+1) (D ||| M) u:=by
 obtain⟨h,h1,h2,h3⟩:=p;obtain⟨m1,m2,m3⟩:=zJr.mp hM
 have fr:∀k,M.testBit k=true->D.testBit k=false/\∀j,(A.getD k 0).testBit j=true->D.testBit j=true:=λk hk=>by
  have:=(m2 k hk).2;unfold zB9 at this;rw[qBB,qDg,qA3]at this;refine⟨this.1,λj hj=>?_⟩;rw[<-this.2,Nat.testBit_and,qBB]at hj;exact hj.2
 have nM:∀k,D.testBit k=true->M.testBit k=false:=λk hk=>by
  cases z:M.testBit k with
  |false=>rfl
  |true=>rw[(fr k z).1]at hk;cases hk
 obtain⟨h',hp,hn⟩:∃h':Nat->Nat,(∀k,M.testBit k=true->h' k=i+1)/\∀k,M.testBit k=false->h' k=h k:=⟨λk=>if M.testBit k=true then i+1 else h k,λk z=>qAC z,λk z=>qAB (by rw[z];decide)⟩;refine⟨h',λk hk hd=>?_,λk hk hd j hj=>?_,λt=>?_⟩
 .rw [qBY,qB5]at hd
  cases z:M.testBit k with
  |true=>
   have:=hu k hk z;rw[hp k z];exact⟨by lia,by lia,this⟩
  |false=>
   have:=h1 k hk (hd.resolve_right (by rw[z];decide));rw[hn k z];exact⟨this.1,by lia,by lia⟩
 .rw [qBY,qB5]at hd;rw[qBY]
  cases z:M.testBit k with
  |true=>
   have dj:=(fr k z).2 j hj;have:=h1 j (hD j dj) dj;rw[dj,hp k z,hn j (nM j dj)];exact⟨rfl,by lia⟩
  |false=>
   obtain⟨a1,a2⟩:=h2 k hk (hd.resolve_right (by rw[z];decide)) j hj;rw[a1,hn k z,hn j (nM j a1)];exact⟨rfl,a2⟩
 .by_cases z:t=i+1
  .refine qDj (qDk.mpr (len_imp (λk q=>?_) _)) m3;simp only[qBB,qA3,qBY,qB5]at q
   cases y:M.testBit k with
   |true=>rfl
   |false=>
    have d:=q.1.resolve_right (by rw[y];decide);have:=h1 k (hD k d) d;have:=hn k y;lia
  .refine qDj (qDk.mpr (len_imp (λk q=>?_) _)) (h3 t);simp only[qBB,qA3,qBY,qB5]at q ⊢
   cases y:M.testBit k with
   |true=>have:=hp k y;lia
   |false=>exact⟨q.1.resolve_right (by rw[y];decide),by rw[<-hn k y];exact q.2⟩
structure Path(A:List Nat)(n:Nat)(b:Int)(e:Nat->Int)(g:Nat->Nat)(K:Nat)(G:Int):Prop where
 at':∀k,k<n->1<=g k/\g k<=K/\(g k:Int)-e k<=G
 od:∀k,k<n->∀j,(A.getD k 0).testBit j=true->j<n/\g j<g k
 fit:∀u,(((List.range n).filter λk=>decide (g k=u)).length:Int)<=b
 ne:∀u,1<=u->u<=K->∃k,k<n/\g k=u
 le:K<=n
def zD6(p:Nat->Bool):Nat->Nat
 |0=>0
 |n+1=>zD6 p n ||| (if p n=true then 2^n else 0)
theorem zDf(p:Nat->Bool)(k:Nat):∀n,(zD6 p n).testBit k=(decide (k<n)&&p k)
 |0=>by simp[zD6]
 |n+1=>by
  rw[zD6,qBY,zDf p k n]
  by_cases z:k=n
  .subst z
   cases y:p k<;>simp[tb_pow]
  .have e:decide (k<n+1)=decide (k<n):=by rw[qC7];lia
   rw[e]
   have:(if p n=true then 2^n else 0).testBit k=false:=by
    split
    .rw [tb_pow];exact qAa (λy=>z y.symm)
    .exact qBw k
   rw[this,qC9]
def upTo(g:Nat->Nat)(n i:Nat):Nat:=zD6 (λk=>decide (g k<=i)) n
theorem tb_up{g:Nat->Nat}{n i k:Nat}:(upTo g n i).testBit k=(decide (k<n)&&decide (g k<=i)):=zDf _ k n
theorem Path.step{g:Nat->Nat}{K:Nat}(p:Path A n b e g K G)(hi:i<K):zD6 (λk=>decide (g k=i+1)) n∈innM A n (upTo g n i) b/\upTo g n i ||| zD6 (λk=>decide (g k=i+1)) n=upTo g n (i+1):=by
 refine⟨zJr.mpr ⟨λz=>?_,λk hk=>?_,?_⟩,qBx λk=>?_⟩
 .obtain ⟨k,h1,h2⟩:=p.ne (i+1) (by lia) (by lia);have:=zDf (λk=>decide (g k=i+1)) k n;rw[z,qBw,qAS h1,qAS h2]at this
  cases this
 .rw [zDf,qBB,qA3,qA3]at hk;refine⟨hk.1,?_⟩;unfold zB9;rw[qBB,qDg,qA3,tb_up,qAa (show¬g k<=i by lia),qCj];refine⟨rfl,qBx λj=>?_⟩;rw[Nat.testBit_and,tb_up]
  cases y:(A.getD k 0).testBit j with
  |false=>rfl
  |true=>
   obtain⟨j1,j2⟩:=p.od k hk.1 j y;rw[qAS j1,qAS (show g j<=i by lia)];rfl
 .refine qDj (qDk.mpr (len_imp (λk q=>?_) _)) (p.fit (i+1));rw[zDf,qBB]at q;exact q.2
 .rw [qBY,tb_up,tb_up,zDf,<-Bool.and_or_distrib_left];congr 1;rw[<-Bool.decide_or,qC7];lia
theorem Path.full{g:Nat->Nat}{K:Nat}(p:Path A n b e g K G):upTo g n K=2^n-1:=qBx λk=>by
 rw[tb_up,qD4]
 by_cases z:k<n
 .rw [qAS (p.at' k z).2.1,Bool.and_true]
 .rw [qAa z];rfl
theorem Path.less{g:Nat->Nat}{K:Nat}(p:Path A n b e g K G)(hi:i<K):upTo g n i≠2^n-1:=λz=>by
 obtain⟨k,h1,h2⟩:=p.ne K (by lia) (by lia);have:=tb_up (g:=g) (n:=n) (i:=i) (k:=k);rw[z,qD4,qAS h1,qAa (show¬g k<=i by lia)]at this
 cases this
theorem Path.zero{g:Nat->Nat}{K:Nat}(p:Path A n b e g K G):upTo g n 0=0:=qBx λk=>by
 rw[tb_up,qBw]
 by_cases z:k<n
 .have:=(p.at' k z).1;rw[qAa (show¬g k<=0 by lia),qCj]
 .rw [qAa z];rfl
end
def LeV(v:V)(G:Int):Prop:=∀x,v= .int x->x<=G
abbrev kM(D:Nat):Key:=Sum.inl (D:Int)
section
variable{A:List Nat}{n:Nat}{b:Int}{e:Nat->Int}
structure LatI(A:List Nat)(n:Nat)(b:Int)(e:Nat->Int)(i:Nat)(kvs:List (Key×V)):Prop where
 nd:(kvs.map (·.1)).Nodup
 sd:∀kv∈kvs,∃D:Nat,kv.1=kM D/\(∀j,D.testBit j=true->j<n)/\((kv.2= .non/\D=0)\/∃x,kv.2= .int x/\zEz A n b e i D x)
def PathI(A:List Nat)(n:Nat)(b:Int)(e:Nat->Int)(i:Nat)(kvs:List (Key×V)):Prop:=∀g K G,Path A n b e g K G->i<K->∃v,valV kvs (kM (upTo g n i))=some v/\LeV v G
structure BestI(A:List Nat)(n:Nat)(b:Int)(e:Nat->Int)(i:Nat)(best:V):Prop where
 sd:best= .non\/∃x m,best= .int x/\zEz A n b e m (2^n-1) x
 pt:∀g K G,Path A n b e g K G->1<=K->K<=i->∃x,best= .int x/\x<=G
def DonE(n:Nat)(e:Nat->Int)(i:Nat)(kvs:List (Key×V))(D:Nat)(late:V)(M:Nat):Prop:=∃w,valV kvs (kM (D ||| M))=some (.int w)/\∀u,(∀k,k<n->M.testBit k=true->((i:Nat):Int)-e k<=u)->LeV late u->w<=u
theorem val_mem{k:Key}(h:valV kvs k=some v):(k,v)∈kvs:=by
 unfold valV at h;obtain⟨kv,h1,h2⟩:=qBH.mp h;have h3:=qCt h1;have h4:=qCu h1;have:kv=(k,v):=Prod.ext (qAo h3) h2;rw[<-this];exact h4
theorem put_keys{k:Key}(v:V)(h:valV kvs k≠none):(putK kvs k v).map (·.1)=kvs.map (·.1):=by
 unfold putK
 rw[zCw,qAC (by cases z:valV kvs k with
  |none=>exact absurd z h
  |some=>rfl),qAp]
 refine qCX λkv _=>?_;show(if kv.1=k then(kv.1,v)else kv).1=kv.1;split<;>rfl
theorem mem_put{k:Key}{kv:Key×V}(h:kv∈putK kvs k v):kv=(k,v)\/kv∈kvs:=by
 unfold putK at h;split at h
 .obtain ⟨q,h1,h2⟩:=qAW.mp h;split at h2
  .rename_i c;left;rw[<-h2,c]
  .right;rw[<-h2];exact h1
 .rcases qAT.mp h with z|z
  .exact .inr z
  .exact .inl (qAP.mp z)
theorem LatI.put{W:Nat}{w:Int}(L:LatI A n b e i kvs)(hW:∀j,W.testBit j=true->j<n)(p:zEz A n b e i W w):LatI A n b e i (putK kvs (kM W) (.int w)):=by
 refine⟨?_,λkv h=>?_⟩
 .cases z:valV kvs (kM W)with
  |none=>exact nd_putK _ L.nd z
  |some=>rw[put_keys _ (by rw[z];simp)];exact L.nd
 .rcases mem_put h with rfl|z
  .exact ⟨W,rfl,hW,.inr ⟨w,rfl,p⟩⟩
  .exact L.sd kv z
theorem DonE.put{W:Nat}{w:Int}{D:Nat}{late:V}{M:Nat}(d:DonE n e i kvs D late M)(c:∀o,valV kvs (kM W)=some (.int o)->w<=o):DonE n e i (putK kvs (kM W) (.int w)) D late M:=by
 obtain⟨v,h1,h2⟩:=d
 by_cases z:kM (D ||| M)=kM W
 .refine ⟨w,by rw[zI4,qAC z],λu a1 a2=>qDj (c v (by rw[<-z];exact h1)) (h2 u a1 a2)⟩
 .exact ⟨v,by rw[zI4,qAB z];exact h1,h2⟩
theorem LatI.len(L:LatI A n b e i kvs)(hn:n<=6):kvs.length<=64:=by
 have:=zCu L.nd (B:=(List.range 64).map kM) λk hk=>by
  obtain⟨kv,h1,rfl⟩:=qAW.mp hk;obtain⟨D,h2,h3,_⟩:=L.sd kv h1;refine qAW.mpr ⟨D,qAs.mpr ?_,h2.symm⟩;refine qAi (Nat.lt_pow_two_of_testBit D (n:=n) λj hj=>?_) (qAL (qCq (by decide) hn) (by decide))
  cases z:D.testBit j with
  |false=>rfl
  |true=>exact absurd (h3 j z) (by lia)
 rw[qAD,qAD,qBW]at this;exact this
theorem km_ne{x y:Nat}(h:x≠y):kM x≠kM y:=λz=>h (by have:=qCa z;lia)
theorem LatI.drop{k:Key}(L:LatI A n b e i kvs):LatI A n b e i (zJ0 kvs k):=⟨L.nd.sublist (qAy.map _),λkv h=>L.sd kv (qAQ.mp h).1⟩
theorem val_drop{k k':Key}(h:k'≠k):valV (zJ0 kvs k) k'=valV kvs k':=by
 unfold valV zJ0;rw[List.find?_filter];congr 2;funext kv
 by_cases z:kv.1=k'
 .simp [z,h]
 .simp [z]
end
def tD0:TE:=λ_ H Q=>∀p,H p=none->Q (.ref p) (upd H p (.dK [(kM 0,.non)]))
theorem pe_d0{X:Cx}{k v:Expr}{pos:Pos}(hk:PE X k (tC (.int 0)))(hv:PE X v (tC .non)):PE X (.Dict [some k] [v] pos) tD0:=λpins s σ H Q I h=>pe_disp (pps_cons hk hv pps_nil) rfl rfl (by simp) (show(1:Nat)<=15 by decide) pins s σ H Q I λp hp=>⟨upd_same,[(kM 0,.non)],rfl,by decide,by rw[zAx];exact h p hp⟩
section
def spLeast:Sp:=λvs H Q _=>∃(l m d:Addr)(b:Int)(ns:List Str)(A:List Nat)(F:List Str)(ev:Str->Int),vs=[.ref l,.ref m,.int b,.ref d]/\Txs H l ns/\H m=some (.lst (A.map vN))/\A.length=ns.length/\1<=ns.length/\ns.length<=6/\1<=b/\H d=some (.dK (kvI F ev))/\(∀x∈ns,x∈F) /\
 (∃g K G,1<=K/\Path A ns.length b (λk=>ev (ns.getD k "")) g K G)/\∀x i H',zEz A ns.length b (λk=>ev (ns.getD k "")) i (2^ns.length-1) x->(∀g K G,1<=K->Path A ns.length b (λk=>ev (ns.getD k "")) g K G->x<=G)->Kp [] H H'->Q (.int x) H'
abbrev zHh:Stmt:=top 68
theorem zBd:FnScope ["_law_names_here","_law_ahead","_law_benches_here","_law_ends_here","_law_here","_law_best","_law_turn","_law_later","_law_done","_law_late","_law_more","_law_some","_law_most","_law_whole","_law_full"] ["_law_names_here","_law_ahead","_law_benches_here","_law_ends_here"] (zAd zHh):=fnS
theorem ok_least{fd:FuncData}(F:Fun K "_law_least" "_law_least" zHh f fd)(T:Txt K mg)(C_inner:Cal P w K mg base "_law_inner" 1 ["_law_names_here","_law_ahead","_law_done","_law_benches_here"] spInner):FnOk P w K mg base CX0 2 f fd ["_law_names_here","_law_ahead","_law_benches_here","_law_ends_here"] spLeast:=by
 refine F.ok zBd (λvs H Q E h=>?_) (λcdv A outer s H vs Q E hr h=>?_)
 .obtain ⟨l,m,d,b,ns,A,F,ev,rfl,_⟩:=h;rfl
 .obtain ⟨l,m,d,b,ns,A',F,ev,rfl,hl,hm,la,n1,few,b1,hd,hF,ex,k⟩:=h;have hu:=zCn hr
  refine⟨_,(zAb (psS (i:=4) zBd.nd (pe_d0 zAf pe_non)) (zAb (psS (i:=5) zBd.nd pe_non)
   (zAb (zA1 qAg rfl (pi_range2 rfl T.z_range (zAa zAf (zAa (zAk zBn (zAi zAl (by rfl) T.z_len zBw (zAa (pv 0) zAc)) zAf) zAc))) (pgN (i:=6) zBd.nd)
    (zAb (psS (i:=7) zBd.nd zBr)
    (zAb (zHl (zA1 qAg rfl (pi_items (pv 4)) (zIs rfl (zA7 (pgN (i:=8) zBd.nd) (zA7 (pgN (i:=9) zBd.nd) zEf)))
     (zAe (zA1 qAg rfl (zAj (zAg C_inner hr rfl (zAa (pv 0) (zAa (pv 1) (zAa (pv 8) (zAa (pv 2) zAc)))))) (pgN (i:=10) zBd.nd)
      (zAb (zGb (i:=11) rfl (zAz (sc:=zAd zHh) rfl (by decide +kernel)) (Draws.own (x:= "_law_k") (dtk (i:=6) rfl (dtk (i:=3) rfl (dtk (i:=0) rfl (dtk (i:=10) rfl Draws.nil))))) (zBm rfl T.z_range (zAa (zAi zAl (by rfl) T.z_len zBw (zAa (pv 0) zAc)) zAc)) (fun _ _ _ _=>(pgB (i:=0))) (fun _ _ _ _=>(zBg (zAo zHo (zAk op_and (zAk op_shr (pv 4) (pv 0)) zAf) zAf (zAq _)))) (fun _ _ _ _=>(zAk zCt (pv 1) (zAs hu (pv 2) (zCh (zC5 (K:=K)) (pv 3) (pv 0) (fun _ _=>rfl)) (fun _ _=>rfl)))) zBd.nd rfl rfl)
      (zAb (psS (i:=12) zBd.nd (zAi (call_max1 rfl) (by rfl) T.z_max bo_max (zAa (zAk op_cat (pv 11) (zAt rfl (zAz (sc:=zAd zHh) rfl (by decide +kernel)) (Draws.own (x:= "_law_one") Draws.nil) (zAj (zBv (zAa (pv 9) zAc))) (fun _ _ _ _=>(pgB (i:=0))) (fun _ _ _ _=>(zBg (zD2 (pc_notN (pv 0))))) (fun _ _ _ _=>(pv 0)))) zAc)))
      (zAb (psS (i:=13) zBd.nd (zAk op_or (pv 8) (pv 10)))
      (zAe (zB5 (PW.pt (pw_or (zD2 (zEg hu (pv 13) (pv 7))) (zHk (zAo op_lt (pv 12) (zAs hu (pv 7) (pv 13) (fun _ _=>rfl)) (zAq _)))))
       (zAe (zB6 hu (pv 7) (pv 13) (pv 12) rfl))
       zAr)))))))))
    (zAb (psS (i:=14) zBd.nd (zAk zCt (zAk op_shl zAf (zAi zAl (by rfl) T.z_len zBw (zAa (pv 0) zAc))) zAf))
    (zAb (zB5 (PW.pt (zIr (zD2 (zFq hu (pv 14) (pv 7))) (zGa (PW.pt (pw_or (zD2 (pc_isN (pv 5))) (zHk (zAo op_lt (zAs hu (pv 7) (pv 14) (fun _ _=>rfl)) (pv 5) (zAq _))))))))
     (zAe (psS (i:=5) zBd.nd (zAs hu (pv 7) (pv 14) (λ_ _=>rfl))))
     zAr)
    (zAb (zA2 (pe_dpop2 (pv 7) (pv 14) pe_non ⟨rfl,rfl,rfl,rfl⟩))
    (zAe (psS (i:=4) zBd.nd (pv 7)))))))))
   (zAe (zAm (pv 5)))))),?_⟩
  have hs:=qAI;have en:((ns.map V.str).length:Int).toNat=ns.length:=by rw[qAD,qBU]
  have en2:(((ns.map V.str).length:Int)+1-1).toNat=ns.length:=by rw[qAD];lia
  generalize eE:(λk=>ev (ns.getD k ""))=e at ex k;have ee:∀{i:Nat}{x:Str},ns[i]?=some x->e i=ev x:=λ{i x} h=>by rw[<-eE];show ev (ns.getD i "")=_;rw[qAr,h];rfl
  intro h0 fh0;have k0:Kp [] H (upd H h0 (.dK [(kM 0,.non)])):=Kp.new Kp.refl fh0
  refine⟨_,rfl,_,_,rfl,.inl (SqL.of (k0 _ _ hl (by simp))),_,_,rfl,rfl,_,_,rfl,?_,zB2 (lo:=1) (n:=(((ns.map V.str).length:Int)+1-1).toNat) (λi σ H2=>∃(hh:Addr)(best:V)(o6 o7 o8 o9 o10 o11 o12 o13 o14:Option V) (kvs:List (Key×V)),σ=[some (.ref l),some (.ref m),some (.int b),some (.ref d),some (.ref hh),some best,o6,o7,o8,o9,o10,o11,o12,o13,o14]/\Kp [] H H2/\Fre H hh/\H2 hh=some (.dK kvs)/\LatI A' ns.length b e i kvs/\PathI A' ns.length b e i kvs/\BestI A' ns.length b e i best) ⟨h0,.non,_,_,_,_,_,_,_,_,_,_,rfl,k0,fh0,upd_same,⟨by simp,λkv h=>?_⟩,λg K G p _=>⟨.non,by rw[p.zero];rfl,λx z=>nomatch z⟩,⟨.inl rfl,λg K G p z1 z2=>absurd z1 (by lia)⟩⟩ ?_ ?_⟩
  .rw [qAD];exact⟨by decide,by decide,by lia,by lia⟩
  .rw [qAP.mp h];exact⟨0,rfl,λj z=>by simp at z,.inl ⟨rfl,rfl⟩⟩
  .rintro i σ H2 hi ⟨hh,best,o6,o7,o8,o9,o10,o11,o12,o13,o14,kvs,rfl,k2,fh,h2,L2',PI,BI⟩;rw[en2]at hi;have ei:(1+(i:Int))=((i+1:Nat):Int):=by lia
   rw[ei];intro lt flt;have kl:Kp [] H2 (upd H2 lt (.dK [])):=Kp.new Kp.refl flt;have e3:upd H2 lt (.dK []) lt=some (.dK []):=upd_same;have fl:Fre H lt:=k2.fre flt (by simp);have nlt:lt≠hh:=λz=>by have f:H2 lt=none:=flt;rw[z,h2]at f;cases f
   have k3:=k2.trans kl;have h3:=kl _ _ h2 (by simp);generalize upd H2 lt (.dK [])=H3 at kl e3 k3 h3 ⊢;refine⟨hh,kvs,h3,λo=>?_⟩
   refine⟨_,rfl,hh,o,kvs,rfl,upd_same,for_items (λt σ H4=>∃(o8 o9 o10 o11 o12 o13:Option V) (lks:List (Key×V)),σ=[some (.ref l),some (.ref m),some (.int b),some (.ref d),some (.ref hh),some best,some (.int ((i+1:Nat):Int)),some (.ref lt),o8,o9,o10,o11,o12,o13,o14]/\Kp [] H H4/\H4 hh=some (.frz o (.dK kvs))/\H4 lt=some (.dK lks)/\LatI A' ns.length b e (i+1) lks/\∀(t' D:Nat)(v:V),t'<t->kvs[t']?=some (kM D,v)->∀M∈innM A' ns.length D b,DonE ns.length e (i+1) lks D v M) ⟨_,_,_,_,_,_,[],rfl,Kp.new k3 fh,upd_same,(upd_ne nlt).trans e3,⟨qA5,(λ_ h=>nomatch h)⟩,λt' D v z=>absurd z (qCA _)⟩ (λt σ H4 _ ⟨_,_,_,_,_,_,_,_,_,h,_⟩=>h) ?_ ?_⟩
   .rintro t kk v σ H4 tt hv ⟨o8,o9,o10,o11,o12,o13,lks,rfl,k4,hf4,hl4,LI,dn⟩ ftt;have mv:=qAJ hv;obtain⟨D,eD,hD,sD⟩:=L2'.sd _ mv;have eD:kk=kM D:=eD;subst eD;have sD:(v= .non/\D=0)\/∃x,v= .int x/\zEz A' ns.length b e i D x:=sD;refine⟨_,_,rfl,.inl (.inl upd_same),rfl,_,_,rfl,_,_,rfl,rfl,?_⟩;have kt:Kp [] H4 (upd H4 tt (.tup [kV (kM D),v])):=Kp.new Kp.refl ftt;have k5:=k4.trans kt;have hf5:=kt _ _ hf4 (by simp);have hl5:=kt _ _ hl4 (by simp);generalize upd H4 tt (.tup [kV (kM D),v])=H5 at kt k5 hf5 hl5 ⊢;refine⟨_,rfl,_,rfl,_,rfl,_,rfl,l,m,D,b,ns,A',rfl,k5 _ _ hl (by simp),k5 _ _ hm (by simp),la,few,λp H6 fp hp k6=>?_⟩
    refine⟨_,rfl,⟨_,SqL.of hp⟩,zA8 (xs:=(innM A' ns.length D b).map vN) (λq σ H7=>∃(o10 o11 o12 o13:Option V) (lks:List (Key×V)),σ=[some (.ref l),some (.ref m),some (.int b),some (.ref d),some (.ref hh),some best,some (.int ((i+1:Nat):Int)),some (.ref lt),some (vN D),some v,o10,o11,o12,o13,o14]/\Kp [] H H7/\H7 hh=some (.frz o (.dK kvs))/\H7 p=some (.lst ((innM A' ns.length D b).map vN))/\H7 lt=some (.dK lks)/\LatI A' ns.length b e (i+1) lks/\(∀(t' D:Nat)(v:V),t'<t->kvs[t']?=some (kM D,v)->∀M∈innM A' ns.length D b,DonE ns.length e (i+1) lks D v M)/\∀M∈(innM A' ns.length D b).take q,DonE ns.length e (i+1) lks D v M) ⟨_,_,_,_,lks,rfl,k5.trans k6,k6 _ _ hf5 (by simp),hp,k6 _ _ hl5 (by simp),LI,dn,by simp⟩ (λq σ H7 _ ⟨_,_,_,_,_,_,_,_,h,_⟩=>SqL.of h) ?_ ?_⟩
    .rintro q u σ H7 hu' ⟨o10,o11,o12,o13,lks,rfl,k7,hf7,hp7,hl7,LI,dn,dq⟩;obtain⟨M,eM,rfl⟩:=nat_at hu';have mM:=qAJ eM;obtain⟨m1,m2,m3⟩:=zJr.mp mM;refine hid4 ?_;intro _ _ _ _;have hl7':=k7 _ _ hl (by simp);have hd7:=k7 _ _ hd (by simp);refine⟨_,rfl,_,_,rfl,.inl (SqL.of hl7'),_,rfl,by lia,by lia,λS hS=>zGj (lo:=0) (n:=((ns.map V.str).length:Int).toNat) (λj ys τ H'=>(∃o0,τ=[o0,some (.int ((i+1:Nat):Int)),some (.ref d),some (.ref l),some (vN M)])/\ys=((((List.range ns.length).take j).filter λk=>M.testBit k).map λk=>V.int (((i+1:Nat):Int)-e k))/\H'=upd H7 S (.lst ys)) ⟨⟨_,rfl⟩,rfl,rfl⟩ ?_ ?_⟩
     .rintro j ys τ H' hj ⟨⟨o0,rfl⟩,rfl,rfl⟩;rw[en]at hj;have ej:(0+(j:Int)).toNat=j:=by lia
      have er:=rng_at hj;have kS:=Kp.new (M:=[]) (l:=S) (o:=.lst ((((List.range ns.length).take j).filter λk=>M.testBit k).map λk=>V.int (((i+1:Nat):Int)-e k))) Kp.refl hS;have lf:(((List.range ns.length).take j).filter λk=>M.testBit k).length<=6:=qAL (qAq _ _) (by rw[qAR,qBW];lia);refine⟨_,rfl,_,rfl,_,_,rfl,rfl,by lia,_,_,rfl,rfl,rfl,_,rfl,ite2 (λc=>?_) (λc=>⟨⟨_,rfl⟩,?_,rfl⟩)⟩
      .have c:M.testBit j=true:=by simpa[ej,bit_at]using c
       have hx:ns[j]?=some ns[j]:=qAV hj;generalize ns[j]=x at hx;have av:atI (ns.map V.str) (0+(j:Int))=some (.str x):=zDe (by lia) (by rw[ej,qAZ,hx];rfl);refine⟨_,rfl,_,rfl,_,rfl,_,rfl,_,_,_,_,rfl,rfl,SqL.of (kS _ _ hl7' (by simp)),av,d,_,rfl,by have:=DGet.k (k:=Sum.inr x) (kS _ _ hd7 (by simp));rw[zDu (hF x (qAJ hx))]at this;exact this,_,_,rfl,rfl,upd_same,by rw[qAD,hs];lia,⟨_,rfl⟩,?_,zAx⟩;rw[zBb _ er,c,qAN,qAC rfl,<-ee hx];rfl
      .have c:M.testBit j=false:=by simpa[ej,bit_at]using c
       rw[zBb _ er,c,qAB (by decide),qA9]
     .rw [en];rintro ys τ H' ⟨_,rfl,rfl⟩;rw[qBc (by rw[qBW];exact qAF _)];have kS:Kp [] H7 (upd H7 S (.lst (((List.range ns.length).filter λk=>M.testBit k).map λk=>V.int (((i+1:Nat):Int)-e k)))):=Kp.new Kp.refl hS;have hS8:upd H7 S (.lst (((List.range ns.length).filter λk=>M.testBit k).map λk=>V.int (((i+1:Nat):Int)-e k))) S=some (.lst ((((List.range ns.length).filter λk=>M.testBit k).map λk=>((i+1:Nat):Int)-e k).map V.int)):=by rw[upd_same,qAp];rfl
      generalize upd H7 S (.lst (((List.range ns.length).filter λk=>M.testBit k).map λk=>V.int (((i+1:Nat):Int)-e k)))=H8 at kS hS8 ⊢;have ls:((List.range ns.length).filter λk=>M.testBit k).length<=6:=qAL (qAq _ _) (by rw[qBW];exact few)
      have ne:((List.range ns.length).filter λk=>M.testBit k)≠[]:=λz=>m1 (qBx λk=>by
       rw[qBw]
       cases y:M.testBit k with
       |false=>rfl
       |true=>exact absurd (qAQ.mpr ⟨qAs.mpr (m2 k y).1,y⟩) (by rw[z];simp))
      have ub:∀u:Int,(∀a∈((List.range ns.length).filter λk=>M.testBit k).map λk=>((i+1:Nat):Int)-e k,a<=u)↔∀k,k<ns.length->M.testBit k=true->((i+1:Nat):Int)-e k<=u:=λu=>by
       constructor
       .exact λh k a c=>h _ (qAW.mpr ⟨k,qAQ.mpr ⟨qAs.mpr a,c⟩,rfl⟩)
       .intro h a ha;obtain⟨k,h1,rfl⟩:=qAW.mp ha;obtain⟨h1,h2⟩:=qAQ.mp h1;exact h k (qAs.mp h1) h2
      have lne:(((List.range ns.length).filter λk=>M.testBit k).map λk=>((i+1:Nat):Int)-e k)≠[]:=λz=>ne (List.map_eq_nil_iff.mp z);have ll:(((List.range ns.length).filter λk=>M.testBit k).map λk=>((i+1:Nat):Int)-e k).length<=6:=by rw[qAD];exact ls
      generalize (((List.range ns.length).filter λk=>M.testBit k).map λk=>((i+1:Nat):Int)-e k)=sm at hS8 ub lne ll
      obtain⟨lv,lv1,lv2,lv3⟩:∃lv:List Int,([v].filter λx=>!decide (x=V.non))=lv.map V.int/\lv.length<=1/\∀u:Int,(∀a∈lv,a<=u)↔LeV v u:=by
       rcases sD with⟨rfl,_⟩|⟨x,rfl,_⟩
       .exact ⟨[],rfl,by simp,λu=>⟨λ_ x z=>(nomatch z),λ_ a ha=>(nomatch ha)⟩⟩
       .exact ⟨[x],rfl,by simp,λu=>⟨λh y z=>by cases z;exact h x (by simp),λh a ha=>by rw[qAP.mp ha];exact h x rfl⟩⟩
      refine⟨_,rfl,_,rfl,(by walk_at"ln"),λc hc=>?_⟩;obtain⟨H9,e9,k9,h9⟩:=newO (o:=.lst [v]) hc;rw[e9];refine⟨_,rfl,⟨_,SqL.of h9⟩,λR hR=>zA9 [v] (λj ys τ H'=>(∃o0,τ=[o0])/\ys=(([v].take j).filter λx=>!decide (x=V.non))/\H'=upd H9 R (.lst ys)) ⟨⟨_,rfl⟩,rfl,rfl⟩ (λj ys τ H' ⟨_,_,z⟩=>by subst z;exact SqL.of ((Kp.new (M:=[]) Kp.refl hR) _ _ h9 (by simp))) ?_ ?_⟩
      .rintro j y ys τ H' hy ⟨⟨o0,rfl⟩,rfl,rfl⟩;have l1:(([v].take j).filter λx=>!decide (x=V.non)).length<=1:=qAL (qAq _ _) (by rw[qAR];exact Nat.min_le_right _ _);refine⟨_,rfl,_,rfl,ite2 (λc=>⟨_,rfl,upd_same,by rw[hs];lia,⟨_,rfl⟩,?_,zAx⟩) (λc=>⟨⟨_,rfl⟩,?_,rfl⟩)⟩
       .rw [zBb _ hy,c];rfl
       .rw [zBb _ hy,qAB c,qA9]
      .rintro ys τ H' ⟨_,rfl,rfl⟩;show rCat _ _ _ _;have lT:([v].take [v].length).filter (λx=>!decide (x=V.non))=lv.map V.int:=by rw[qAb];exact lv1
       rw[lT];obtain⟨H10,e10,k10,h10⟩:=newO (o:=.lst (lv.map V.int)) hR;rw[e10];have k8:=k9.trans k10;refine⟨_,_,_,_,rfl,rfl,k8 _ _ hS8 (by simp),h10,by rw[qAD,qAD,hs];lia,λZ hZ=>?_⟩;obtain⟨H11,e11,k11,h11⟩:=newO (o:=.lst (sm.map V.int++lv.map V.int)) hZ;rw[e11];refine⟨Z,sm++lv,rfl,SqL.of (by rw[h11,qAN]),λz=>lne (List.append_eq_nil_iff.mp z).1,λw mw lw=>?_⟩;have k12:=kS.trans (k8.trans k11);have w1:∀k,k<ns.length->M.testBit k=true->((i+1:Nat):Int)-e k<=w:=(ub w).mp λa ha=>lw a (qAv _ ha);have w2:LeV v w:=(lv3 w).mp λa ha=>lw a (qA4 _ ha);have w3:∀u,(∀k,k<ns.length->M.testBit k=true->((i+1:Nat):Int)-e k<=u)->LeV v u->w<=u:=λu a1 a2=>(qAT.mp mw).elim (λz=>(ub u).mpr a1 w z) λz=>(lv3 u).mpr a2 w z
       have hW:∀j,(D ||| M).testBit j=true->j<ns.length:=λj h=>by
        rw[qBY,qB5]at h;exact h.elim (hD j) λz=>(m2 j z).1
       have pl:zEz A' ns.length b e (i+1) (D ||| M) w:=by
        rcases sD with⟨_,rfl⟩|⟨x,rfl,px⟩
        .exact zEz.step (v:=w) b1 hD (zEz.zero b1 i w) mM (qCG _) w1
        .exact zEz.step b1 hD px mM (w2 x rfl) w1
       have hl11:=k12 _ _ hl7 (by simp);have hf11:=k12 _ _ hf7 (by simp);have hp11:=k12 _ _ hp7 (by simp);have k13:=k7.trans k12;have lks64:=LI.len few
       have ptk:∀{lks':List (Key×V)},(∀M'∈(innM A' ns.length D b).take q,DonE ns.length e (i+1) lks' D v M')->DonE ns.length e (i+1) lks' D v M->∀M'∈(innM A' ns.length D b).take (q+1),DonE ns.length e (i+1) lks' D v M':=λh1 h2 M' h=>by
        rw[zAh eM]at h;rcases qAT.mp h with z|z
        .exact h1 M' z
        .rw [qAP.mp z];exact h2
       have nh:hh≠lt:=nlt.symm;have np:p≠lt:=λz=>by rw[z,hl11]at hp11;cases hp11
       refine⟨_,rfl,_,rfl,_,_,rfl,rfl,?_⟩;dsimp only;rw[bit_or];have put:∀(c:∀o,valV lks (kM (D ||| M))=some (.int o)->w<=o),LatI A' ns.length b e (i+1) (putK lks (kM (D ||| M)) (.int w))/\(∀(t' D':Nat)(v':V),t'<t->kvs[t']?=some (kM D',v')->∀M'∈innM A' ns.length D' b,DonE ns.length e (i+1) (putK lks (kM (D ||| M)) (.int w)) D' v' M')/\∀M'∈(innM A' ns.length D b).take (q+1),DonE ns.length e (i+1) (putK lks (kM (D ||| M)) (.int w)) D v M':=λc=>⟨LI.put hW pl,λt' D' v' z1 z2 M' z3=>(dn t' D' v' z1 z2 M' z3).put c,ptk (λM' z=>(dq M' z).put c) ⟨w,by rw[zI4,qAC rfl],w3⟩⟩
       cases ev':valV lks (kM (D ||| M))with
       |none=>
        refine⟨_,rfl,_,rfl,lt,none,rfl,by have:=DGet.k (k:=kM (D ||| M)) hl11;rw[ev']at this;exact this,true,rfl,ifT ?_⟩;obtain⟨p1,p2,p3⟩:=put λo z=>by rw[ev']at z;cases z
        exact⟨_,rfl,_,rfl,_,rfl,lt,_,rfl,DPut.k (k:=kM (D ||| M)) hl11 (by rw[hs];lia),_,_,_,_,_,rfl,Kp.new k13 fl,(upd_ne nh).trans hf11,(upd_ne np).trans hp11,upd_same,p1,p2,p3⟩
       |some y=>
        obtain⟨D',q1,q2,q3⟩:=LI.sd _ (val_mem ev')
        obtain⟨o,rfl⟩:∃o,y= .int o:=by
         rcases q3 with⟨_,z⟩|⟨x,z,_⟩
         .exfalso;have:D ||| M=D':=by have:=qCa q1;lia
          rw[z]at this
          exact m1 (qBx λk=>by
           have h:=qAm (λx=>x.testBit k) this;simp only[qBY,qBw,Bool.or_eq_false_iff]at h;rw[h.2,qBw])
         .exact ⟨x,z⟩
        refine⟨_,rfl,_,rfl,lt,some (.int o),rfl,by have:=DGet.k (k:=kM (D ||| M)) hl11;rw[ev']at this;exact this,false,rfl,iteF ?_⟩;refine⟨_,rfl,_,rfl,_,rfl,lt,.int o,rfl,by have:=DGet.k (k:=kM (D ||| M)) hl11;rw[ev']at this;exact this,_,_,rfl,rfl,_,rfl,ite2 (λc=>?_) (λc=>?_)⟩
        .have c:w<o:=by simpa using c
         obtain⟨p1,p2,p3⟩:=put λo' z=>by rw[ev']at z;cases z;lia
         exact⟨_,rfl,_,rfl,_,rfl,lt,_,rfl,DPut.k (k:=kM (D ||| M)) hl11 (by rw[hs];lia),_,_,_,_,_,rfl,Kp.new k13 fl,(upd_ne nh).trans hf11,(upd_ne np).trans hp11,upd_same,p1,p2,p3⟩
        .have c:¬w<o:=by simpa using c
         exact⟨_,_,_,_,lks,rfl,k13,hf11,hp11,hl11,LI,dn,ptk dq ⟨o,ev',λu a1 a2=>by have:=w3 u a1 a2;lia⟩⟩
    .rintro σ H7 ⟨o10,o11,o12,o13,lks,rfl,k7,hf7,hp7,hl7,LI,dn,dq⟩;rw[qAD,qAb]at dq;refine⟨_,_,_,_,_,_,lks,rfl,k7,hf7,hl7,LI,λt' D' v' z e'=>?_⟩
     by_cases c:t'=t
     .subst c;rw[hv]at e';have e':=qAe e';have:D=D':=by have:=qCa (qAm Prod.fst e');lia
      subst this;have:v=v':=qAm Prod.snd e';subst this;exact dq
     .exact dn t' D' v' (by lia) e'
   .rintro σ H4 ⟨o8,o9,o10,o11,o12,o13,lks,rfl,k4,hf4,hl4,LI,dn⟩;refine⟨hf4,?_⟩;have k5:Kp [] H (upd H4 hh (.dK kvs)):=Kp.new k4 fh;have h5:upd H4 hh (.dK kvs) lt=some (.dK lks):=(upd_ne nlt).trans hl4;generalize upd H4 hh (.dK kvs)=H5 at k5 h5 ⊢
    have stp:∀g K G,Path A' ns.length b e g K G->i<K->∃w,valV lks (kM (upTo g ns.length (i+1)))=some (.int w)/\w<=G:=λg K G p hi=>by
     obtain⟨v,v1,v2⟩:=PI g K G p hi;obtain⟨t',ht'⟩:=List.mem_iff_getElem?.mp (val_mem v1);obtain⟨s1,s2⟩:=p.step hi;obtain⟨w,w1,w2⟩:=dn t' _ v (qAf.mp ht').1 ht' _ s1;rw[s2]at w1;refine⟨w,w1,w2 G (λk hk z=>?_) v2⟩;rw[zDf,qBB,qA3,qA3]at z;have:=(p.at' k hk).2.2;rw[z.2]at this;exact this
    refine⟨_,rfl,_,_,rfl,.inl (SqL.of (k5 _ _ hl (by simp))),_,_,rfl,rfl,⟨by lia,by rw[qAD];lia,by decide⟩,_,_,rfl,rfl,?_⟩
    have ef:(1*2^((ns.map V.str).length:Int).toNat-1:Int)=((2^ns.length-1:Nat):Int):=by
     rw[en];have h1:1<=2^ns.length:=Nat.one_le_two_pow;have h2:((2^ns.length:Nat):Int)=2^ns.length:=by simp
     lia
    dsimp only;rw[ef];have gf:DGet H5 lt (kV (kM (2^ns.length-1))) (valV lks (kM (2^ns.length-1))):=DGet.k h5;show tSeq _ _ _ _ _;refine seq_mid (λσ H6=>∃best':V,σ=[some (.ref l),some (.ref m),some (.int b),some (.ref d),some (.ref hh),some best',some (.int ((i+1:Nat):Int)),some (.ref lt),o8,o9,o10,o11,o12,o13,some (vN (2^ns.length-1))]/\H6=H5/\BestI A' ns.length b e (i+1) best') (λN hN=>?_) ?_
    .cases ev':valV lks (kM (2^ns.length-1))with
     |none=>
      rw[ev']at gf;refine⟨_,rfl,_,rfl,lt,none,rfl,gf,false,rfl,iteF (iteF (hN _ _ ⟨best,rfl,rfl,⟨BI.sd,λg K G p z1 z2=>?_⟩⟩))⟩
      by_cases c:K<=i
      .exact BI.pt g K G p z1 c
      .have:K=i+1:=by lia
       subst this;obtain⟨w,w1,_⟩:=stp g _ G p (by lia);rw[p.full,ev']at w1;cases w1
     |some y=>
      obtain⟨D',q1,q2,q3⟩:=LI.sd _ (val_mem ev');have eD:2^ns.length-1=D':=by have:=qCa q1;lia
      obtain⟨x,rfl,px⟩:∃x,y= .int x/\zEz A' ns.length b e (i+1) (2^ns.length-1) x:=by
       rcases q3 with⟨_,z⟩|⟨x,z,px⟩
       .exfalso;have h1:2^1<=2^ns.length:=qCq (by decide) n1;lia
       .exact ⟨x,z,eD▸px⟩
      have up:∀g K G,Path A' ns.length b e g K G->1<=K->¬K<=i->K<=i+1->x<=G:=λg K G p z1 c z2=>by
       have:K=i+1:=by lia
       subst this;obtain⟨w,w1,w2⟩:=stp g _ G p (by lia);rw[p.full,ev']at w1;cases w1;exact w2
      rw[ev']at gf;have gx:DGet H5 lt (vN (2^ns.length-1)) (some (.int x)):=gf;refine⟨_,rfl,_,rfl,lt,some (.int x),rfl,gf,true,rfl,ifT ?_⟩;rcases BI.sd with rfl|⟨y,m',rfl,py⟩
      .refine ⟨_,rfl,true,rfl,ifT (ifT ⟨_,rfl,_,rfl,lt,_,rfl,gx,hN _ _ ⟨.int x,rfl,rfl,⟨.inr ⟨x,_,rfl,px⟩,λg K G p z1 z2=>⟨x,rfl,?_⟩⟩⟩⟩)⟩
       by_cases c:K<=i
       .obtain ⟨_,z,_⟩:=BI.pt g K G p z1 c
        cases z
       .exact up g K G p z1 c z2
      .refine ⟨_,rfl,false,rfl,iteF ⟨_,rfl,_,rfl,lt,_,rfl,gx,_,rfl,_,_,rfl,rfl,_,rfl,?_⟩⟩
       by_cases c:x<y
       .rw [qAS c];refine ifT ⟨_,rfl,_,rfl,lt,_,rfl,gx,hN _ _ ⟨.int x,rfl,rfl,⟨.inr ⟨x,_,rfl,px⟩,λg K G p z1 z2=>⟨x,rfl,?_⟩⟩⟩⟩
        by_cases c2:K<=i
        .obtain ⟨y',z,z'⟩:=BI.pt g K G p z1 c2
         cases z;lia
        .exact up g K G p z1 c2 z2
       .rw [qAa c];refine iteF (hN _ _ ⟨.int y,rfl,rfl,⟨.inr ⟨y,_,rfl,py⟩,λg K G p z1 z2=>?_⟩⟩)
        by_cases c2:K<=i
        .exact BI.pt g K G p z1 c2
        .exact ⟨y,rfl,by have:=up g K G p z1 c2 z2;lia⟩
    .rintro σ H6 ⟨best',rfl,rfl,BI'⟩;refine⟨_,rfl,lt,rfl,.inl ⟨_,.inl h5⟩,_,rfl,lks,kM (2^ns.length-1),h5,rfl,λv hv=>?_,λhn=>?_⟩
     .exact ⟨_,rfl,lt,best',_,_,_,_,_,_,_,_,_,zJ0 lks (kM (2^ns.length-1)),rfl,Kp.new k5 fl,fl,upd_same,LI.drop,λg K G p z=>by
       obtain⟨w,w1,w2⟩:=stp g K G p (by lia);exact⟨_,by rw[val_drop (km_ne (p.less z))];exact w1,λx e=>by cases e;exact w2⟩,BI'⟩
     .exact ⟨_,rfl,lt,best',_,_,_,_,_,_,_,_,_,lks,rfl,k5,fl,h5,LI,λg K G p z=>by
       obtain⟨w,w1,w2⟩:=stp g K G p (by lia);exact⟨_,w1,λx e=>by cases e;exact w2⟩,BI'⟩
  .rw [en2];rintro σ H2 ⟨hh,best,o6,o7,o8,o9,o10,o11,o12,o13,o14,kvs,rfl,k2,fh,h2,L2',PI,BI⟩;obtain⟨g,K',G,K1,p⟩:=ex;obtain⟨x,rfl,_⟩:=BI.pt g K' G p K1 p.le;obtain⟨x',m',e1,e2⟩:=BI.sd.resolve_left (by simp)
   cases e1
   exact⟨_,rfl,k x m' H2 e2 (λg K G z p=>by obtain⟨y,e3,e4⟩:=BI.pt g K G p z p.le;cases e3;exact e4) k2⟩
end
theorem thaw_kpM{M:List Addr}{H2:Hp}{d:Addr}(hd:H d=some (.dK kvs))(k:Kp (d::M) H H2):Kp M H (upd H2 d (.dK kvs)):=λc o h n=>by
 by_cases z:c=d
 .rw [z,upd_same,<-hd,<-z];exact h
 .rw [upd_ne z];exact k c o h (by simp;exact⟨z,n⟩)
def stF(L:Str->List Str)(x:Str):List Str:=(L x).filter λy=>!((L x).any λm=>decide (y∈L m))
section
def spLGath:Sp:=λvs H Q _=>∃(l d:Addr)(ns:List Str)(la:Str->Addr)(L:Str->List Str),vs=[.ref l,.ref d]/\Txs H l ns/\ns.length<=20/\ns.Nodup/\DR H d ns la L/\(∀n∈ns,la n≠d)/\(∀n∈ns,(L n).Nodup/\n∉L n/\∀y∈L n,y∈ns)/\∀(bb:Bool)(H':Hp),(bb=true->∀x∈ns,(stF L x).length<=1)->Kp [] H H'->Q (.bl bb) H'
abbrev zDm:Stmt:=top 65
theorem zCe:FnScope ["_law_names_here","_law_behind_here","_law_name","_law_far","_law_mid","_law_one"] ["_law_names_here","_law_behind_here"] (zAd zDm):=fnS
theorem ok_gathering{fd:FuncData}(F:Fun K "_law_gathering" "_law_gathering" zDm f fd)(T:Txt K mg):FnOk P w K mg base CX0 1 f fd ["_law_names_here","_law_behind_here"] spLGath:=by
 refine F.ok zCe (λvs H Q E h=>?_) (λcdv A outer s H vs Q E hr h=>?_)
 .obtain ⟨l,d,ns,la,L,rfl,_⟩:=h;rfl
 .obtain ⟨l,d,ns,la,L,rfl,hl,few,nd,D,ned,hL,k⟩:=h;have hu:=zCn hr
  refine⟨_,(zAb (zA1 qAg rfl (zAj (pv 0)) (pgN (i:=2) zCe.nd) (zAb (psS (i:=3) zCe.nd zBr)
    (zAb (zHl (zA1 qAg rfl (pi_keys (zAs hu (pv 1) (pv 2) (fun _ _=>rfl))) (pgN (i:=4) zCe.nd)
     (zAe (zHl (zA1 qAg rfl (pi_keys (zAs hu (pv 1) (pv 4) (fun _ _=>rfl))) (pgN (i:=5) zCe.nd)
      (zAe (zB6 hu (pv 3) (pv 5) zIb rfl)))))))
    (zAe (zHl (zB5 (zAo op_gt (zAi zAl (by rfl) T.z_len zBw (zAa (zAt rfl (zAz (sc:=zAd zDm) rfl (by decide +kernel)) (Draws.own (x:= "_law_one") (dtk (i:=3) rfl Draws.nil)) (pi_keys (zAs hu (pv 1) (pv 2) (fun _ _=>rfl))) (fun _ _ _ _=>(pgB (i:=0))) (fun _ _ _ _=>(zBg (zD2 (zEg hu (pv 0) (pv 1))))) (fun _ _ _ _=>(pv 0))) zAc)) zAf (zAq _))
     (zAe (zAm zIb))
     zAr)))))) (zAe (zAm zIb))),?_⟩
  have hs:=qAI;refine⟨_,rfl,_,rfl,⟨_,SqL.of hl⟩,zA8 (xs:=ns.map V.str) (λi σ H2=>(∃o2 o3 o4 o5:Option V,σ=[some (.ref l),some (.ref d),o2,o3,o4,o5])/\Kp [] H H2/\∀x∈ns.take i,(stF L x).length<=1) ⟨⟨_,_,_,_,rfl⟩,Kp.refl,by simp⟩ (λi σ H2 _ ⟨_,k2,_⟩=>SqL.of (k2 _ _ hl (by simp))) ?_ ?_⟩
  .rintro i v σ H2 hv ⟨⟨o2,o3,o4,o5,rfl⟩,k2,a2⟩;obtain⟨x,ex,rfl⟩:=zA3 hv;have hx:=qAJ ex;obtain⟨ndx,nxx,sub⟩:=hL x hx;have D2:=D.kp0 k2;have lx:(L x).length<=20:=qAL (zCu ndx sub) few
   have nel:∀m∈L x,la m≠la x:=λm hm z=>by
    have h1:H (la m)=_:=D.row m (sub m hm);rw[z,show H (la x)=_ from D.row x hx]at h1;have h2:dT1 (L x) (λ_=>V.bl true)=dT1 (L m) λ_=>V.bl true:=by simpa using h1
    have h3:L x=L m:=by
     have:=qAm (List.map (·.1)) h2;unfold dT1 at this;rw[qAp,qAp]at this;exact(List.map_inj_right (λa b e=>qCb e)).mp this
    exact(hL m (sub m hm)).2.1 (h3▸hm)
   intro fa ffa;have kf:Kp [] H2 (upd H2 fa (.dK [])):=Kp.new Kp.refl ffa;have hfa:SetD (upd H2 fa (.dK [])) fa []:=upd_same;have fH:Fre H fa:=k2.fre ffa (by simp);have nfl:∀n∈ns,la n≠fa:=λn hn=>ne_fre (show Fre H2 fa from ffa) (D2.row n hn);have nfd:d≠fa:=ne_fre (show Fre H2 fa from ffa) D2.top;have k3:=k2.trans kf;generalize upd H2 fa (.dK [])=H3 at kf hfa k3 ⊢;refine⟨la x,_,(D.kp0 k3).row x hx,λo=>?_⟩;have K3:Kp [la x] H (upd H3 (la x) (.frz o (.dK (dT1 (L x) λ_=>.bl true)))):=(k3.weak (by simp)).trans (Kp.put Kp.refl (by simp))
   have dg:∀{M:List Addr}{H':Hp}{n:Str},Kp M H H'->d∉M->n∈ns->DGet H' d (.str n) (some (.ref (la n))):=λ{M H' n} k' nm hn=>by
    have:=DGet.k (k:=Sum.inr n) (k' _ _ D.top nm);rw[zBf,qAC hn]at this;exact this
   refine⟨_,rfl,_,rfl,d,_,rfl,dg K3 (nm1 (ned x hx).symm) hx,la x,o,_,rfl,upd_same,for_keys (λt σ H4=>∃(o4 o5:Option V)(B:List Str),σ=[some (.ref l),some (.ref d),some (.str x),some (.ref fa),o4,o5]/\Kp [la x] H H4/\H4 (la x)=some (.frz o (.dK (dT1 (L x) λ_=>.bl true)))/\SetD H4 fa B/\B.Nodup/\(∀y∈B,y∈ns)/\∀y,y∈B↔∃m∈(L x).take t,y∈L m) ⟨_,_,[],rfl,K3,upd_same,(upd_ne (nfl x hx).symm).trans hfa,qA5,(λ_ h=>nomatch h),λy=>by simp⟩ (λt σ H4 _ ⟨_,_,_,_,_,h,_⟩=>h) ?_ ?_⟩
   .rintro t kk v σ H4 hk ⟨o4,o5,B,rfl,k4,f4,hb4,ndB,sB,mB⟩;obtain⟨m,em,rfl⟩:=key_at hk;have hm:=qAJ em;have hmn:=sub m hm;have nmx:=nel m hm;refine⟨la m,_,k4 _ _ (D.row m hmn) (nm1 nmx),λo'=>?_⟩;have K4:Kp [la m,la x] H (upd H4 (la m) (.frz o' (.dK (dT1 (L m) λ_=>.bl true)))):=Kp.put (k4.weak (by simp)) (by simp);have nd2:d∉[la m,la x]:=nm2 (ned m hmn).symm (ned x hx).symm
    refine⟨_,rfl,_,rfl,d,_,rfl,dg K4 nd2 hmn,la m,o',_,rfl,upd_same,for_keys (λt' σ H5=>∃(o5:Option V)(B':List Str),σ=[some (.ref l),some (.ref d),some (.str x),some (.ref fa),some (.str m),o5]/\Kp [la m,la x] H H5/\H5 (la m)=some (.frz o' (.dK (dT1 (L m) λ_=>.bl true)))/\H5 (la x)=some (.frz o (.dK (dT1 (L x) λ_=>.bl true)))/\SetD H5 fa B'/\B'.Nodup/\(∀y∈B',y∈ns)/\∀y,y∈B'↔y∈B\/y∈(L m).take t') ⟨_,B,rfl,K4,upd_same,(upd_ne nmx.symm).trans f4,(upd_ne (nfl m hmn).symm).trans hb4,ndB,sB,λy=>by simp⟩ (λt' σ H5 _ ⟨_,_,_,_,h,_⟩=>h) ?_ ?_⟩
    .rintro t' kk v σ H5 hk' ⟨o5,B',rfl,k5,f5,g5,hb5,nd5,s5,m5⟩;obtain⟨y,ey,rfl⟩:=key_at hk';have lB:B'.length<=20:=qAL (zCu nd5 s5) few;refine⟨_,rfl,_,rfl,fa,_,rfl,DPut.k (k:=Sum.inr y) hb5 (by rw[zC9,hs];lia),?_⟩;refine⟨_,addA B' y,rfl,Kp.new k5 fH,(upd_ne (nfl m hmn)).trans f5,(upd_ne (nfl x hx)).trans g5,by unfold SetD;rw[<-zJg];exact upd_same,zGd nd5,λz hz=>(zG8.mp hz).elim (s5 z) λe=>e▸(hL m hmn).2.2 y (qAJ ey),λz=>?_⟩;rw[zG8,m5,zAh ey,qAT,qAP,or_assoc]
    .rintro σ H5 ⟨o5,B',rfl,k5,f5,g5,hb5,nd5,s5,m5⟩;rw[zC9,qAb]at m5;refine⟨f5,_,_,B',rfl,thaw_kpM (D.row m hmn) k5,(upd_ne nmx.symm).trans g5,(upd_ne (nfl m hmn).symm).trans hb5,nd5,s5,λy=>?_⟩;rw[m5,mB,zAh em];constructor
     .rintro (⟨z,z1,z2⟩|z)
      .exact ⟨z,qAv _ z1,z2⟩
      .exact ⟨m,by simp,z⟩
     .rintro ⟨z,z1,z2⟩;rcases qAT.mp z1 with q|q
      .exact .inl ⟨z,q,z2⟩
      .rw [qAP.mp q]at z2;exact .inr z2
   .rintro σ H4 ⟨o4,o5,B,rfl,k4,f4,hb4,ndB,sB,mB⟩;rw[zC9,qAb]at mB;refine⟨f4,?_⟩;have k5:Kp [] H (upd H4 (la x) (.dK (dT1 (L x) λ_=>.bl true))):=zI7 (D.row x hx) k4;have hb5:SetD (upd H4 (la x) (.dK (dT1 (L x) λ_=>.bl true))) fa B:=(upd_ne (nfl x hx).symm).trans hb4;generalize upd H4 (la x) (.dK (dT1 (L x) λ_=>.bl true))=H5 at k5 hb5 ⊢
    have eS:stF L x=(L x).filter λy=>!decide (y∈B):=by
     unfold stF;refine qC5 λy _=>?_;congr 1;rw[<-Bool.coe_iff_coe,qCn,qA3,mB];simp
    refine⟨la x,_,(D.kp0 k5).row x hx,λo'=>?_⟩;have K6:Kp [la x] H (upd H5 (la x) (.frz o' (.dK (dT1 (L x) λ_=>.bl true)))):=(k5.weak (by simp)).trans (Kp.put Kp.refl (by simp));have f6:upd H5 (la x) (.frz o' (.dK (dT1 (L x) λ_=>.bl true))) (la x)=some (.frz o' (.dK (dT1 (L x) λ_=>.bl true))):=upd_same;have hb6:SetD (upd H5 (la x) (.frz o' (.dK (dT1 (L x) λ_=>.bl true)))) fa B:=(upd_ne (nfl x hx).symm).trans hb5;generalize upd H5 (la x) (.frz o' (.dK (dT1 (L x) λ_=>.bl true)))=H6 at K6 f6 hb6 ⊢;refine⟨_,rfl,_,rfl,d,_,rfl,dg K6 (nm1 (ned x hx).symm) hx,la x,o',_,rfl,f6,λR hR=>comp_keys (λj ys τ H7=>(∃o0,τ=[o0,some (.ref fa)])/\ys=(((L x).take j).filter λy=>!decide (y∈B)).map V.str/\H7=upd H6 R (.lst ys)) ⟨⟨_,rfl⟩,rfl,rfl⟩ (λj ys τ H7 ⟨_,_,z⟩=>by subst z;exact(Kp.new (M:=[]) Kp.refl hR) _ _ f6 (by simp)) ?_ ?_⟩
    .rintro j kk v ys τ H7 hk ⟨⟨o0,rfl⟩,rfl,rfl⟩;obtain⟨y,ey,rfl⟩:=key_at hk;have hb7:=(Kp.new (M:=[]) (l:=R) (o:=.lst ((((L x).take j).filter λy=>!decide (y∈B)).map V.str)) Kp.refl hR) _ _ hb6 (by simp);obtain⟨oo,g1,g2⟩:=zF8 hb7 y;have lf:(((L x).take j).filter λy=>!decide (y∈B)).length<=20:=qAL (qAq _ _) (by rw[qAR];lia);refine⟨_,rfl,_,rfl,fa,oo,rfl,g1,_,rfl,?_⟩;rw[g2];refine ite2 (λc=>⟨_,rfl,upd_same,by rw[qAD,hs];lia,⟨_,rfl⟩,?_,zAx⟩) (λc=>⟨⟨_,rfl⟩,?_,rfl⟩)
     .rw [zBb _ ey,qAC c,qAN];rfl
     .rw [zBb _ ey,qAB c,qA9]
    .rintro ys τ H7 ⟨_,rfl,rfl⟩;rw[zC9,qAb,<-eS];have k7:Kp [la x] H (upd H6 R (.lst ((stF L x).map V.str))):=K6.trans (Kp.new Kp.refl hR);have f7:upd H6 R (.lst ((stF L x).map V.str)) (la x)=_:=(Kp.new (M:=[]) Kp.refl hR) _ _ f6 (by simp);have hR7:upd H6 R (.lst ((stF L x).map V.str)) R=some (.lst ((stF L x).map V.str)):=upd_same;generalize upd H6 R (.lst ((stF L x).map V.str))=H7 at k7 f7 hR7 ⊢;refine⟨_,_,rfl,.inl (SqL.of hR7),_,_,rfl,rfl,_,rfl,ite2 (λc=>?_) (λc=>?_)⟩
     .exact ⟨f7,k false _ (λz=>nomatch z) (zI7 (D.row x hx) k7)⟩
     .refine ⟨f7,⟨_,_,_,_,rfl⟩,zI7 (D.row x hx) k7,λy hy=>?_⟩;rw[zAh ex]at hy;rcases qAT.mp hy with z|z
      .exact a2 y z
      .rw [qAP.mp z];have:¬(1<((stF L x).length:Int)):=by simpa using c
       lia
  .rintro σ H2 ⟨_,k2,a2⟩;rw[qAD,qAb]at a2;exact k true H2 (λ_=>a2) k2
end
theorem zIw{β:Type}{p q s:β->Bool}(h:∀x,p x=true->q x=true\/s x=true):∀L:List β,(L.filter p).length<=(L.filter q).length+(L.filter s).length
 |[]=>qAd _
 |a::L=>by
  have ih:=zIw h L;have ha:=h a;rw[qAu,qAu,qAu]
  cases e1:p a with
  |false=>rw[qAB (by decide)];exact qAL ih (Nat.add_le_add (by split<;>simp) (by split<;>simp))
  |true=>
   rw[qAC rfl,qAc];rcases ha e1 with z|z
   .rw [qAC z,qAc];have:(L.filter s).length<=(if s a=true then a::L.filter s else L.filter s).length:=by split<;>simp
    lia
   .rw [qAC z,qAc];have:(L.filter q).length<=(if q a=true then a::L.filter q else L.filter q).length:=by split<;>simp
    lia
theorem gj_few{h:Str->Nat}{b:Nat}(h3:∀u,(ns.filter λy=>decide (h y=u)).length<=b)(lo:Nat):∀c,(ns.filter λy=>decide (lo<h y)&&decide (h y<=lo+c)).length<=b*c
 |0=>by
  rw[qDi.mpr λy _=>by simp];exact qAd _
 |c+1=>by
  have ih:=gj_few h3 lo c;have h4:=h3 (lo+(c+1));have:(ns.filter λy=>decide (lo<h y)&&decide (h y<=lo+(c+1))).length<=(ns.filter λy=>decide (lo<h y)&&decide (h y<=lo+c)).length+(ns.filter λy=>decide (h y=lo+(c+1))).length:=zIw (λy hy=>by simp at hy ⊢;lia) ns;rw[Nat.mul_succ];lia
section
variable{J:JR}{r:Str->Nat}{b:Int}{ev d:Str->Int}{G ws:List Str}
theorem mend_ok(A:OrdJ J r)(hb:1<=b)(Mf:MF b ev (behJ J) G d)(pm:G.Perm J.ns){h:Str->Nat}{c:Int}(h1:∀y∈J.ns,(h y:Int)<=ev y+c)(h2:∀y∈J.ns,∀z∈J.S y,h z<h y)(h3:∀u,(J.ns.filter λy=>decide (h y=u)).length<=b.toNat):∀(k:Nat)(y:Str),(behJ J y).length<=k->y∈J.ns->(h y:Int)<=d y+c
 |k,y,hk,hy=>by
  rcases qAM.mp (Mf.eq y (pm.mem_iff.mpr hy)).mem with z|z
  .rw [z];exact h1 y hy
  .obtain ⟨v,v1,v2⟩:=qAW.mp z;obtain⟨z0,z1,z2⟩:=qAW.mp v1
   have ih:∀z∈behJ J y,(h z:Int)<=d z+c:=λz hz=>by
    obtain⟨a1,a2⟩:=zA5.mp hz
    have:(behJ J z).length+1<=(behJ J y).length:=by
     have:=zCu (A:=z::behJ J z) (B:=behJ J y) (qA0.mpr ⟨λq=>?_,A.nd.sublist qAy⟩) λq hq=>?_
     .rw [qAc]at this;exact this
     .have:=A.rk z a1 z (zA5.mp q).2;lia
     .rcases qAM.mp hq with e|e
      .rw [e];exact hz
      .obtain ⟨b1,b2⟩:=zA5.mp e;exact zA5.mpr ⟨b1,A.tr q b1 z b2 y a2⟩
    match k,hk with
    |0,hk=>lia
    |k+1,hk=>exact mend_ok A hb Mf pm h1 h2 h3 k z (by lia) a1
   have z3:=ih z0 z1;have z4:=h2 z0 (zA5.mp z1).1 y (zA5.mp z1).2
   have sub:=zCu (A:=(behJ J y).filter λx=>decide (d x<=v)) (B:=J.ns.filter λx=>decide (h y<h x)&&decide (h x<=h y+(v+c-h y).toNat)) ((A.nd.sublist qAy).sublist qAy) λx hx=>by
    obtain⟨x1,x2⟩:=qAQ.mp hx;obtain⟨x3,x4⟩:=zA5.mp x1;have x2:=qAo x2;have x5:=ih x x1;have x6:=h2 x x3 y x4;exact qAQ.mpr ⟨x3,by simp;lia⟩
   have fw:=gj_few h3 (h y) (v+c-h y).toNat;have cnt:(((behJ J y).map d).filter λq=>decide (q<=v)).length=((behJ J y).filter λx=>decide (d x<=v)).length:=by rw[List.filter_map,qAD];rfl
   unfold late tf at v2;rw[cnt]at v2;generalize ((behJ J y).filter λx=>decide (d x<=v)).length=n at v2 sub;have nn:n<=b.toNat*(v+c-h y).toNat:=qAL sub fw
   have h6:((n:Int)+b-1) / b<=v+c-h y:=by
    have e1:((b.toNat*(v+c-h y).toNat:Nat):Int)=b*(v+c-h y):=by
     rw[qDh,Int.toNat_of_nonneg (by lia),Int.toNat_of_nonneg (by lia)]
    have n2:(n:Int)<=b*(v+c-h y):=by rw[<-e1];exact qDk.mpr nn
    have:(n:Int)+b-1<(v+c-h y+1)*b:=by
     rw[Int.add_mul,Int.mul_comm];generalize b*(v+c-(h y:Int))=q at n2;lia
    have:=(Int.ediv_lt_iff_lt_mul (by lia)).mpr this;lia
   lia
theorem least_is(A:OrdJ J r)(hb:1<=b)(bg:b<=2\/zJy J=true){M:Int}(Q:LstQ J b ev G ws d M)(lx:LateAt d (M-1) (rsB J b.toNat ws) x){h:Str->Nat}{c:Int}(h0:∀y∈J.ns,1<=h y)(h1:∀y∈J.ns,(h y:Int)-ev y<=c)(h2:∀y∈J.ns,∀z∈J.S y,h z<h y)(h3:∀u,(J.ns.filter λy=>decide (h y=u)).length<=b.toNat):M<=c:=by
 refine Int.not_lt.mp λlt=>?_;have hbn:1<=b.toNat:=by lia
 obtain⟨i,q,q1,q2,q3,q4⟩:=lx;have W:=due_is A (md_of hb Q.mf Q.pg) Q.pm Q.pw hbn;have R:=zB7 A Q.pm hbn;have xn:=(R.at' i q q1).ns x q2;have tx:=tI_isB A Q.pm hbn q1 q2
 have many:=W.many hbn (bg.imp (λz=>by lia) λz a ha y hy w hw e1 e2=>gath_ch A (λn hn=>qAo (qBF.mp z n hn)) (r y) a y w ha hy hw e1 e2 (Nat.le_add_left _ _)) xn (g:=M-1) (by rw[tx];lia) λy hy ly=>by
  obtain⟨p,p1,p2⟩:=tI_at (((zD4 _ _).mp (R.all y hy)).resolve_left (by simp));have:=q4 _ p (by rw[tx]at ly;exact ly) p1 y p2;lia
 have mo:=mend_ok A hb Q.mf Q.pg (h:=h) (c:=M-1) (λy hy=>by have:=h1 y hy;lia) h2 h3;have hx:=mo _ x (qAF _) xn;have x0:=h0 x xn
 have sub:=zCu (A:=J.ns.filter λy=>decide (d y<=d x)) (B:=J.ns.filter λy=>decide (0<h y)&&decide (h y<=0+(d x+(M-1)).toNat)) (A.nd.sublist qAy) λy hy=>by
  obtain⟨y1,y2⟩:=qAQ.mp hy;have y2:=qAo y2;have y3:=mo _ y (qAF _) y1;have y4:=h0 y y1;exact qAQ.mpr ⟨y1,by simp;lia⟩
 have fw:=gj_few h3 0 (d x+(M-1)).toNat
 have e1:((b.toNat*(d x+(M-1)).toNat:Nat):Int)=(b.toNat:Int)*(d x+(M-1)):=by
  rw[qDh,Int.toNat_of_nonneg (show 0<=d x+(M-1) by lia)]
 lia
end
theorem way_rank{qs:List (List Str×Addr)}{r:Str->Nat}(G:Good ns qs r){a b:Str}(h:Way qs a b):r a<r b:=by
 have one:∀{a b:Str},TA qs a b->r a<r b:=λ{a b} ⟨q,hq,e1,e2⟩=>by rw[<-e1,<-e2];exact G.rk q hq
 induction h with
 |one h=>exact one h
 |more _ h ih=>exact qCl ih (one h)
theorem way_same{qs ks:List (List Str×Addr)}(h1:∀q∈qs,q∈ks)(h2:∀q∈ks,Way qs (fst q) (snd q)){a b:Str}:Way ks a b↔Way qs a b:=by
 constructor
 .intro h;have one:∀{a b:Str},TA ks a b->Way qs a b:=λ{a b} ⟨q,hq,e1,e2⟩=>by rw[<-e1,<-e2];exact h2 q hq
  induction h with
  |one h=>exact one h
  |more _ h ih=>exact ih.trans (one h)
 .intro h;have one:∀{a b:Str},TA qs a b->TA ks a b:=λ{a b} ⟨q,hq,e⟩=>⟨q,h1 q hq,e⟩
  induction h with
  |one h=>exact .one (one h)
  |more _ h ih=>exact .more ih (one h)
theorem tb_off{M:List Addr}(t:∀a∈M,∃xs,H a=some (.tbl xs)){a:Addr}{o:HO}(h:H a=some o)(no:∀ps,o≠.tbl ps):a∉M:=λz=>zCx (t a z) h no rfl
theorem seq_kpM{K:PySem.W.Frag}{M:List Addr}{H':Hp}{a:Addr}{xs:List V}(k:Kp M H H')(t:∀a∈M,∃xs,H a=some (.tbl xs))(h:SqL K H a xs):SqL K H' a xs:=by
 rcases h with(h|⟨o,h⟩)|h
 .exact .inl (.inl (k _ _ h (tb_off t h λ_ z=>nomatch z)))
 .exact .inl (.inr ⟨o,k _ _ h (tb_off t h λ_ z=>nomatch z)⟩)
 .exact .inr h
theorem tabP{H':Hp}{Q p:Addr}{q:Str}{ps:Pos}(h:Tab0 H Q q ps)(P:zBk H p)(k:Kp [p] H H'):Tab0 H' Q q ps:=by
 obtain⟨_,_,e,_⟩:=P;exact zCy h k (nm1 (zCx (zDg h) e λ_ z=>nomatch z).symm) λa o ha nl _=>nm1 λz=>by rw[z,e]at ha;exact nl _ (qAe ha).symm
def zF5(ns:List Str)(L:Str->List Str)(x:Str):Nat:=zD6 (λj=>decide (x∈L (ns.getD j ""))) ns.length
theorem bits_lt(p:Nat->Bool):∀n,zD6 p n<2^n
 |0=>by simp[zD6]
 |n+1=>Nat.lt_pow_two_of_testBit _ λk hk=>by rw[zDf,qAa (by lia),Bool.false_and]
theorem zIl(p:Nat->Bool):∀n,(((List.range n).filter p).map λj=>(1*2^j:Int)).sum=(zD6 p n:Int)
 |0=>rfl
 |n+1=>by
  rw[List.range_succ,qBK,qAN,List.sum_append,zIl p n,zD6,qAu]
  cases e:p n with
  |false=>simp
  |true=>
   have h:=Nat.two_pow_add_eq_or_of_lt (bits_lt p n) 1;rw[Nat.mul_one]at h;rw[qAC rfl,qAC rfl,Nat.or_comm,<-h];simp;lia
theorem filt_rng(p:Str->Bool):(ns.filter p).length=((List.range ns.length).filter λk=>p (ns.getD k "")).length:=by
 have e:ns=(List.range ns.length).map λk=>ns.getD k "":= by
  refine List.ext_getElem? λi=>?_;rw[qAZ]
  by_cases h:i<ns.length
  .rw [qCv h,qAV h];show _=some (ns.getD i "");rw[qAr,qAV h];rfl
  .rw [qDM (by lia),qDM (by simp;lia)];rfl
 conv=>lhs;rw[e]
 rw[List.filter_map,qAD];rfl
section
variable{J:JR}{r:Str->Nat}{b:Int}{ev d:Str->Int}{G ws:List Str}{L:Str->List Str}
theorem zH4{k:Nat}(h:k<ns.length):ns.getD k "" ∈ns:=by
 rw[qAr,qAV h];exact qBl h
theorem idx_getD(nd:ns.Nodup){k:Nat}(h:k<ns.length):ns.idxOf (ns.getD k "")=k:=zFy nd (by rw[qAr,qAV h];rfl)
theorem tb_ahead{j:Nat}:(zF5 ns L x).testBit j=true↔j<ns.length/\x∈L (ns.getD j ""):=by
 unfold zF5;rw[zDf,qBB,qA3,qA3]
theorem ahead_at{k:Nat}(h:k<ns.length):(ns.map (zF5 ns L)).getD k 0=zF5 ns L (ns.getD k ""):=by
 rw[qAr,qAZ,qAV h,qAr,qAV h];rfl
theorem path_is(A:OrdJ J r)(hb:1<=b)(hL:∀y∈J.ns,∀z,z∈L y↔z∈behJ J y){M:Int}(Q:LstQ J b ev G ws d M)(ne:J.ns≠[]):1<=(rsB J b.toNat ws).length/\Path (J.ns.map (zF5 J.ns L)) J.ns.length b (λk=>ev (J.ns.getD k "")) (λk=>tI (rsB J b.toNat ws) (J.ns.getD k "")+1) (rsB J b.toNat ws).length M:=by
 have hbn:1<=b.toNat:=by lia
 have R:=zB7 A Q.pm hbn;have W:=due_is A (md_of hb Q.mf Q.pg) Q.pm Q.pw hbn;have inR:∀n∈J.ns,∃q,(rsB J b.toNat ws)[tI (rsB J b.toNat ws) n]?=some q/\n∈q:=λn hn=>tI_at (((zD4 _ _).mp (R.all n hn)).resolve_left (by simp));refine⟨?_,λk hk=>?_,λk hk j hj=>?_,λu=>?_,λu h1 h2=>?_,?_⟩
 .obtain ⟨n,hn⟩:=qDa _ ne;obtain⟨q,e,_⟩:=inR n hn;exact qCk (qAd _) (qAf.mp e).1
 .obtain ⟨q,e,m⟩:=inR _ (zH4 hk);have:=(qAf.mp e).1;have l:=Q.le _ (zJs.mpr ⟨_,q,e,_,m,rfl⟩);exact⟨by lia,by lia,by lia⟩
 .rw [ahead_at hk]at hj;obtain⟨j1,j2⟩:=tb_ahead.mp hj;have:=(zA5.mp ((hL _ (zH4 j1) _).mp j2)).2;have:=right_lt R (zH4 j1) (zH4 hk) this;exact⟨j1,by lia⟩
 .cases u with
  |zero=>
   rw[qDi.mpr λk _=>by simp];show((0:Nat):Int)<=b;lia
  |succ u=>
   have:=W.mo u;rw[filt_rng]at this;have e:((List.range J.ns.length).filter λk=>decide (tI (rsB J b.toNat ws) (J.ns.getD k "")+1=u+1))=(List.range J.ns.length).filter λk=>decide (tI (rsB J b.toNat ws) (J.ns.getD k "")=u):=qC5 λk _=>by rw[qC7];lia
   rw[e];lia
 .obtain ⟨q,e⟩:∃q,(rsB J b.toNat ws)[u-1]?=some q:=⟨_,qAV (by lia)⟩;obtain⟨A',L',g1,_,_,_,g5,e',_⟩:=zI5 A Q.pm hbn e;obtain⟨x,hx⟩:=qDa q (λz=>(g1.turn hbn g5) (e'.symm.trans z));have xn:=(R.at' _ q e).ns x hx;obtain⟨k,k1,k2⟩:=qA1.mp xn;refine⟨k,k1,?_⟩;have:J.ns.getD k ""=x:=by rw[qAr,qAV k1,k2];rfl
  rw[this,tI_isB A Q.pm hbn e hx];lia
 .rw [<-Q.pm.length_eq];exact listB_len _ _ _ _ _
theorem plan_ge(A:OrdJ J r)(hb:1<=b)(bg:b<=2\/zJy J=true)(hL:∀y∈J.ns,∀z,z∈L y↔z∈behJ J y){M v:Int}(Q:LstQ J b ev G ws d M)(lx:LateAt d (M-1) (rsB J b.toNat ws) x)(p:zEz (J.ns.map (zF5 J.ns L)) J.ns.length b (λk=>ev (J.ns.getD k "")) i (2^J.ns.length-1) v):M<=v:=by
 obtain⟨h,h1,h2,h3⟩:=p;have all:∀k,k<J.ns.length->(2^J.ns.length-1).testBit k=true:=λk hk=>by rw[qD4];exact qAS hk
 have at':∀y∈J.ns,∃k,k<J.ns.length/\J.ns.getD k ""=y/\J.ns.idxOf y=k:=λy hy=>by
  obtain⟨k,k1,k2⟩:=qA1.mp hy;have e:J.ns.getD k ""=y:=by rw[qAr,qAV k1,k2];rfl
  exact⟨k,k1,e,by rw[<-e];exact idx_getD A.nd k1⟩
 refine least_is A hb bg Q lx (h:=λy=>h (J.ns.idxOf y)) (c:=v) (λy hy=>?_) (λy hy=>?_) (λy hy z hz=>?_) λu=>?_
 .obtain ⟨k,k1,_,k3⟩:=at' y hy;rw[k3];exact(h1 k k1 (all k k1)).1
 .obtain ⟨k,k1,k2,k3⟩:=at' y hy;have:=(h1 k k1 (all k k1)).2.2;rw[k3,<-k2];exact this
 .obtain ⟨k,k1,k2,k3⟩:=at' y hy;have zn:=A.sub y hy z hz;obtain⟨j,j1,j2,j3⟩:=at' z zn;have:=(h2 k k1 (all k k1) j (by rw[ahead_at k1];exact tb_ahead.mpr ⟨j1,by rw[j2,k2];exact(hL z zn y).mpr (zA5.mpr ⟨hy,hz⟩)⟩)).2;show h (J.ns.idxOf z)<h (J.ns.idxOf y);rw[k3,j3];exact this
 .rw [filt_rng];have:=h3 u
  have e:((List.range J.ns.length).filter λk=>decide (h (J.ns.idxOf (J.ns.getD k ""))=u))=(List.range J.ns.length).filter λk=>(2^J.ns.length-1).testBit k&&decide (h k=u):=qC5 λk hk=>by
   have hk:=qAs.mp hk;rw[idx_getD A.nd hk,all k hk,Bool.true_and]
  rw[e];lia
end
theorem gN{x:V}{σ:St}{K:St->Hp->Prop}(h:K (σ.set i (some x)) H):gName i x σ H K:=h
theorem tif{c:TT}{t u:TS}{D:Ends}{σ:St}(I1 I2:Hp->Prop)(h1:∀Q:Bool->Hp->Prop,(∀H1,I1 H1->Q true H1)->(∀H1,I2 H1->Q false H1)->c σ H Q)(h2:∀H1,I1 H1->t D σ H1)(h3:∀H1,I2 H1->u D σ H1):tIfS c t u D σ H:=h1 _ (λH1 g=>by rw[qAC rfl];exact h2 H1 g) λH1 g=>by rw[qAB (by decide)];exact h3 H1 g
section
def spLaw(K:PySem.W.Frag)(Pt Pu:Addr):Sp:=λvs H Q _=>∃(a:Addr)(ns:List Int),vs=[.ref a]/\SqL K H a (ns.map V.int)/\ns.length<=63/\TabA H Pt/\TabU H Pu/\∀H',Q (.bl true) H'
abbrev zJd:Stmt:=top 69
theorem zD9:FnScope ["_law_script","_law_k","_law_purse_here","_law_names_here","_law_orders","_law_benches_here","_law_ends_here","_law_behind_here","_law_ahead","_law_jobs_here","_law_told"] ["_law_script"] (zAd zJd):=fnS
theorem ok_law{Pt Pu:Addr}{fd:FuncData}(F:Fun K "law" "law" zJd f fd)(nPU:Pt≠Pu)(T:Txt K mg)(C_cell:Cal P w K mg base "_law_cell" 1 ["_law_script","_law_k"] (spCell K))(C_purse:Cal P w K mg base "_law_purse" 1 ["_law_cell_here","_law_k"] spPurse)(C_jobs:Cal P w K mg base "_law_jobs" 3 ["_law_purse_here","_law_most"] spLJobs)
  (C_benches:Cal P w K mg base "_law_benches" 2 ["_law_purse_here"] zIn) (C_ends:Cal P w K mg base "_law_ends" 2 ["_law_purse_here","_law_names_here"] spEnds) (C_behind:Cal P w K mg base "_law_behind" 1 ["_law_names_here","_law_orders"] spLBehind) (C_implied:Cal P w K mg base "_law_implied" 2 ["_law_purse_here","_law_orders","_law_behind_here"] spImplied)
  (C_gath:Cal P w K mg base "_law_gathering" 1 ["_law_names_here","_law_behind_here"] spLGath) (C_least:Cal P w K mg base "_law_least" 2 ["_law_names_here","_law_ahead","_law_benches_here","_law_ends_here"] spLeast) (C_late:Cal P w K mg base "least_late" 10 ["jobs","benches","ends"] (spLst C Pt Pu)) (M_Jobs:Mkr P w K mg base C "Jobs" 4 ["self","names","orders"] (spInit C)):FnOk P w K mg base CX0 11 f fd ["_law_script"] (spLaw K Pt Pu):=by
 refine F.ok zD9 (λvs H Q E h=>?_) (λcdv A outer s H vs Q E hr h=>?_)
 .obtain ⟨a,ns,rfl,_⟩:=h;rfl
 .obtain ⟨sc,is,rfl,hS,hlen,T0,U0,k⟩:=h;have hr1:=hr.mono (j:=1) (by decide);have hr2:=hr.mono (j:=2) (by decide);have hr3:=hr.mono (j:=3) (by decide);have hr5:=hr.mono (j:=5) (by decide);have hu:=zCn hr
  refine⟨_,(zAb (zA1 qAg rfl (zBm rfl T.z_range (zAa (zAi (call_max2 rfl) (by rfl) T.z_max bo_max (zAa zAf (zAa (zAi (call_min2 rfl) (by rfl) T.z_min bo_min (zAa zAf (zAa (zAi zAl (by rfl) T.z_len zBw (zAa (pv 0) zAc)) zAc))) zAc))) zAc)) (pgN (i:=1) zD9.nd) (zAb (psS (i:=2) zD9.nd (zAg C_purse hr1 rfl (zAa (zAg C_cell hr1 rfl (zAa (pv 0) (zAa (pv 1) zAc))) (zAa (pv 1) zAc))))
    (zAb (ps_asg (zAg C_jobs hr3 rfl (zAa (pv 2) (zAa zAf zAc))) (zIs rfl (zA7 (pgN (i:=3) zD9.nd) (zA7 (pgN (i:=4) zD9.nd) zEf))))
    (zAb (psS (i:=5) zD9.nd (zAg C_benches hr2 rfl (zAa (pv 2) zAc)))
    (zAb (psS (i:=6) zD9.nd (zAg C_ends hr2 rfl (zAa (pv 2) (zAa (pv 3) zAc))))
    (zAb (psS (i:=7) zD9.nd (zAg C_behind hr1 rfl (zAa (pv 3) (zAa (pv 4) zAc))))
    (zAb (zGb (i:=8) rfl (zAz (sc:=zAd zJd) rfl (by decide +kernel)) (Draws.own (x:= "_law_name") (dtk (i:=3) rfl (dtk (i:=7) rfl Draws.nil))) (zAj (pv 3)) (fun _ _ _ _=>(pgB (i:=0))) (fun _ _ _ _=>zBl) (fun _ _ _ _=>(zAi (zI1 (K:=K) rfl) (by rfl) T.z_sum bo_sum (zAa (zAt rfl (blk_in (sc:=zAd zJd) rfl rfl (by decide +kernel)) (Draws.own (x:= "_law_j") (dtk (i:=0) rfl (dtk (i:=2) rfl (dtk (i:=1) rfl Draws.nil)))) (zBm rfl T.z_range (zAa (zAi (zDy (K:=K)) (by rfl) T.z_len zBw (zAa (pv 1) zAc)) zAc)) (fun _ _ _ _=>(pgB (i:=0))) (fun _ _ _ _=>(zBg (zD2 (zFq hu (pv 1) (zAs hu (pv 2) (zCh (zC5 (K:=K)) (pv 3) (pv 0) (fun _ _=>rfl)) (fun _ _=>rfl)))))) (fun _ _ _ _=>(zAk op_shl zAf (pv 0)))) zAc))) zD9.nd rfl rfl)
    (zAe (zB5 (PW.pt (zIr (zAo (zJj hr1) (pv 3) (zBv zAc) (zAq _)) (zGa (PW.pt (pw_or (zAo op_lt (pv 5) zAf (zAq _)) (zHk (zC4 (zAg C_gath hr1 rfl (zAa (pv 3) (zAa (pv 7) zAc))))))))))
     (zAb (psS (i:=9) zD9.nd (pe_makeC M_Jobs hr5 rfl (zAa (zAv zBi (by rfl) T.z_list zEn (zAa (pv 3) zAc)) (zAa (zAg C_implied hr2 rfl (zAa (pv 2) (zAa (pv 4) (zAa (pv 7) zAc)))) zAc))))
     (zAb (psS (i:=10) zD9.nd (zCh ix_tup (zAg C_late hr rfl (zAa (pv 9) (zAa (pv 5) (zAa (zAv call_dict1 (by rfl) T.z_dict bo_dict (zAa (pv 6) zAc)) zAc)))) zAf (fun _ _=>rfl)))
     (zAe (zB5 (zAo op_ne (pv 10) (zAg C_least hr2 rfl (zAa (pv 3) (zAa (pv 8) (zAa (pv 5) (zAa (pv 6) zAc))))) (zAq _))
      (zAe (zAm zIb))
      zAr))))
     zAr))))))))) (zAe (zAm zIb))),?_⟩
  have hs:=qAI;refine⟨_,rfl,_,_,rfl,.inl hS,_,_,rfl,_,_,rfl,?_⟩;rw[qAD];have hN:∀m:Nat,(2:Int)<=(if(if(m:Int)<3 then(m:Int)else 3)>2 then(if(m:Int)<3 then(m:Int)else 3)else 2)/\(if(if(m:Int)<3 then(m:Int)else 3)>2 then(if(m:Int)<3 then(m:Int)else 3)else 2)<=3:=λm=>by split<;>split<;>lia
  have hN:=hN is.length;generalize (if(if(is.length:Int)<3 then(is.length:Int)else 3)>2 then(if(is.length:Int)<3 then(is.length:Int)else 3)else 2)=N at hN ⊢;refine⟨_,rfl,by lia,by lia,zB2 (lo:=0) (n:=N.toNat) (λi σ H2=>(∃o1 o2 o3 o4 o5 o6 o7 o8 o9 o10:Option V,σ=[some (.ref sc),o1,o2,o3,o4,o5,o6,o7,o8,o9,o10])/\Kp [Pt,Pu] H H2/\TabA H2 Pt/\TabU H2 Pu) ⟨⟨_,_,_,_,_,_,_,_,_,_,rfl⟩,Kp.refl,T0,U0⟩ ?_ (λ_ _ _=>k _)⟩;rintro i σ H2 hi ⟨⟨o1,o2,o3,o4,o5,o6,o7,o8,o9,o10,rfl⟩,k2,T2,U2⟩
  have tt:∀a∈[Pt,Pu],∃xs,H a=some (.tbl xs):=λa h=>by
   rcases qAM.mp h with z|z
   .rw [z];exact T0.tbl
   .rw [qAP.mp z];exact zDg U0
  refine⟨_,rfl,_,rfl,sc,is,_,rfl,seq_kpM k2 tt hS,by lia,λc=>?_⟩;refine⟨_,rfl,c,_,rfl,by lia,by lia,λp H3 fp P3 k3=>?_⟩;refine⟨_,rfl,p,6,rfl,by decide,by decide,P3,λt l m ns qs r H4 n6 l38 ht ft fl fm fq hl hm G P4 K4=>?_⟩;refine⟨_,_,rfl,.inl (.inl ht),rfl,_,_,rfl,_,_,rfl,rfl,?_⟩;have n6:ns.length<=6:=by lia
  have pl:∀{b:Addr},Fre H3 b->b≠p:=λ{b} f=>by obtain⟨_,_,e,_⟩:=P3;exact(ne_fre f e).symm
  have nlp:=pl fl;have nmp:=pl fm;have nqp:∀q∈qs,q.2∉[p]:=λq hq=>nm1 (pl (fq q hq));refine⟨_,rfl,p,rfl,P4,λb H5 b1 b2 P5 K5=>?_⟩;have hl5:=K5 _ _ hl (nm1 nlp);refine⟨_,rfl,_,rfl,p,l,ns,rfl,P5,hl5,G.nd,G.few,λde F ev H6 fde hde pm P6 K6=>?_⟩;have hl6:=K6 _ _ hl5 (nm1 nlp);have hm6:=(hm.kp K5 (nm1 nmp) nqp).kp K6 (nm1 nmp) nqp;refine⟨_,rfl,_,rfl,l,m,ns,qs,rfl,hl6,hm6,G.nd,G.few,by have:=G.qfew;lia,G.qin,λd la L H7 D hL k7=>?_⟩;have hl7:=k7 _ _ hl6 (by simp);have hm7:=hm6.kp k7 (by simp) (by simp);have de7:=k7 _ _ hde (by simp);have P7:=P6.kp k7 (by simp);have D7:=D.rd;have K37:Kp [p] H3 H7:=K4.trans (K5.trans (K6.trans (k7.weak (by simp))));have T7:TabA H7 Pt:=tabP (zCy T2 k3 (by simp) (λ_ _ _ _ _=>by simp)) P3 K37;have U7:TabU H7 Pu:=tabP (zCy U2 k3 (by simp) (λ_ _ _ _ _=>by simp)) P3 K37;have k27:Kp [] H2 H7:=Kp.drop k3 fp K37;have en:((ns.map V.str).length:Int).toNat=ns.length:=by rw[qAD,qBU]
  refine⟨_,rfl,_,rfl,⟨_,SqL.of hl7⟩,λRa hRa=>zAw (ns.map V.str) (λi ys τ H'=>(∃o0,τ=[o0,some (.ref l),some (.ref d)])/\ys=((ns.take i).map λx=>vN (zF5 ns L x))/\Kp [] H7 H'/\H' Ra=some (.lst ys)) ⟨⟨_,rfl⟩,rfl,Kp.new Kp.refl hRa,upd_same⟩ (λi ys τ H' ⟨_,_,k',_⟩=>SqL.of (k' _ _ hl7 (by simp))) ?_ ?_⟩
  .rintro i v ys τ H' hv ⟨⟨o0,rfl⟩,rfl,k',h'⟩;obtain⟨x,ex,rfl⟩:=zA3 hv;have hl':=k' _ _ hl7 (by simp);refine⟨_,rfl,_,_,rfl,.inl (SqL.of hl'),_,rfl,by lia,by lia,λRj hRj=>zGj (lo:=0) (n:=((ns.map V.str).length:Int).toNat) (λj zs τ' H''=>(∃o0,τ'=[o0,some (.str x),some (.ref d),some (.ref l)])/\zs=((((List.range ns.length).take j).filter λj=>decide (x∈L (ns.getD j ""))).map λj=>V.int (1*2^j))/\H''=upd H' Rj (.lst zs)) ⟨⟨_,rfl⟩,rfl,rfl⟩ ?_ ?_⟩
   .rintro j zs τ' H'' hj ⟨⟨o0,rfl⟩,rfl,rfl⟩;rw[en]at hj;have ej:(0+(j:Int)).toNat=j:=by lia
    have er:=rng_at hj;have kS:=Kp.new (M:=[]) (l:=Rj) (o:=.lst ((((List.range ns.length).take j).filter λj=>decide (x∈L (ns.getD j ""))).map λj=>V.int (1*2^j))) Kp.refl hRj;have lf:(((List.range ns.length).take j).filter λj=>decide (x∈L (ns.getD j ""))).length<=6:=qAL (qAq _ _) (by rw[qAR,qBW];lia);have hy:ns[j]?=some (ns.getD j ""):=by rw[qAr,qAV hj];rfl
    have av:atI (ns.map V.str) (0+(j:Int))=some (.str (ns.getD j "")):=zDe (by lia) (by rw[ej,qAZ,hy];rfl);have D':=D7.kp0 (k'.trans kS);have hn:=zH4 hj;obtain⟨oo,g1,g2⟩:=zF8 (D'.row _ hn) x;refine⟨_,rfl,_,rfl,_,rfl,_,rfl,_,_,_,_,rfl,rfl,SqL.of (kS _ _ hl' (by simp)),av,d,_,rfl,D'.get hn,_,oo,rfl,g1,_,rfl,?_⟩;rw[g2];refine ite2 (λc=>⟨_,rfl,_,_,rfl,rfl,⟨by lia,by lia,by decide⟩,upd_same,by rw[qAD,hs];lia,⟨_,rfl⟩,?_,zAx⟩) (λc=>⟨⟨_,rfl⟩,?_,rfl⟩)
    .rw [zBb _ er,qAC c,qAN];show _++[V.int (1*2^(0+(j:Int)).toNat)]=_;rw[ej];rfl
    .rw [zBb _ er,qAB c,qA9]
   .rw [en];rintro zs τ' H'' ⟨_,rfl,rfl⟩;rw[qBc (by rw[qBW];exact qAF _)];have kS:Kp [] H' (upd H' Rj (.lst (((List.range ns.length).filter λj=>decide (x∈L (ns.getD j ""))).map λj=>V.int (1*2^j)))):=Kp.new Kp.refl hRj;have ll:(ns.take i).length<=6:=by rw[qAR];lia
    refine⟨Rj,((List.range ns.length).filter λj=>decide (x∈L (ns.getD j ""))).map λj=>1*2^j,rfl,SqL.of (by rw[upd_same,qAp];rfl),kS _ _ h' (by simp),by rw[qAD,hs];lia,⟨_,rfl⟩,?_,Kp.new (k'.trans kS) hRa,upd_same⟩;rw[zIl,zAh ex,qAN];rfl
  rintro ys τ H8 ⟨_,rfl,k8,h8⟩;rw[qAD,qAb]at h8;have h8:H8 Ra=some (.lst ((ns.map (zF5 ns L)).map vN)):=by rw[h8,qAp];rfl
  have hl8:=k8 _ _ hl7 (by simp);have de8:=k8 _ _ de7 (by simp);have D8:=D7.kp0 k8;have P8:=P7.kp k8 (by simp);have T8:=T7.kp k8;have U8:TabU H8 Pu:=zCy U7 k8 (by simp) (λ_ _ _ _ _=>by simp);have k28:=k27.trans k8;have hm8:=hm7.kp k8 (by simp) (by simp);clear hl7 de7 D7 P7 T7 U7 k27 hm7;have skip:∀{H9:Hp},Kp [] H8 H9->Kp [Pt,Pu] H H9/\TabA H9 Pt/\TabU H9 Pu:=λ{H9} k9=>⟨k2.trans ((k28.trans k9).weak (by simp)),T8.kp k9,zCy U8 k9 (by simp) (λ_ _ _ _ _=>by simp)⟩;refine gN ?_;dsimp only;refine tif (λH9=>Kp [] H8 H9/\ns≠[]/\(b<=2\/∀x∈ns,(stF L x).length<=1)) (λH9=>Kp [] H8 H9) (λQ1 q1 q2=>?_) ?_ λH9 k9=>⟨⟨_,_,_,_,_,_,_,_,_,_,rfl⟩,skip k9⟩
  .refine ⟨_,rfl,(by walk_at"ln"),λe he=>?_⟩;obtain⟨H9,e9,k9,h9⟩:=newO (o:=.lst []) he;rw[e9];refine zFb (xs:=ns.map V.str) (SqL.of (k9 _ _ hl8 (by simp))) (SqL.of h9) λbb hbb=>?_;refine⟨bb,rfl,ite2 (λc=>?_) (λc=>q2 _ k9)⟩;have ne:ns≠[]:=λz=>hbb c (by rw[z];rfl);refine⟨_,rfl,_,_,rfl,rfl,_,rfl,ite2 (λc=>?_) (λc=>?_)⟩
   .have c:b<3:=by simpa using c
    exact q1 _ ⟨k9,ne,.inl (by lia)⟩
   .refine ⟨_,rfl,_,rfl,l,d,ns,la,L,rfl,k9 _ _ hl8 (by simp),G.few,G.nd,D8.kp0 k9,D.ne,λn hn=>⟨(hL n hn).1,λz=>?_,λy hy=>?_⟩,λbb H10 hg k10=>⟨bb,rfl,?_⟩⟩
    .have:=way_rank G (((hL n hn).2 n).mp z);lia
    .exact (Way.to hm6.two G.qin (((hL n hn).2 y).mp hy)).2
    .cases bb with
     |true=>exact q1 _ ⟨k9.trans k10,ne,.inr (hg rfl)⟩
     |false=>exact q2 _ (k9.trans k10)
  rintro H9 ⟨k9,ne,bg⟩;have hl9:=k9 _ _ hl8 (by simp);have P9:=P8.kp k9 (by simp);refine⟨_,rfl,_,_,rfl,.inl (SqL.of hl9),λa1 ha1=>?_⟩;obtain⟨H10,e10,k10,h10⟩:=newO (o:=.lst (ns.map V.str)) ha1;rw[e10];have n1p:a1≠p:=by obtain⟨_,_,e,_⟩:=P9;exact(ne_fre ha1 e).symm
  have k810:=k9.trans k10;have P10:=P8.kp k810 (by simp);refine⟨_,rfl,_,rfl,_,rfl,p,m,d,ns,qs,la,L,rfl,P10,hm8.kp k810 (by simp) (by simp),D8.kp0 k810,G.nd,G.few,hL,G.qin,by lia,λlk ks H11 flk Ok lks sub way P11 K11=>?_⟩;have h11:Txs H11 a1 ns:=K11 _ _ h10 (nm1 n1p)
  have Gk:Good ns ks r:=⟨G.nm,G.nd,G.few,lks,λq hq x hx=>by
   have w:=Way.to hm6.two G.qin (way q hq);obtain⟨u,v,euv⟩:=Ok.two q hq;unfold fst snd at w;rw[euv]at w hx;rcases qAM.mp hx with z|z
   .rw [z];exact w.1
   .rw [qAP.mp z];exact w.2,λq hq=>way_rank G (way q hq)⟩
  refine λx dx hx hdx nxd=>?_;have fx:Fre H11 x:=hx;have k12:Kp [] H11 (upd (upd H11 dx (.own x)) x (.ins C dx [])):=Kp.new (Kp.new Kp.refl hdx) fx;have hx12:(upd (upd H11 dx (.own x)) x (.ins C dx [])) x=some (.ins C dx []):=upd_same;generalize upd (upd H11 dx (.own x)) x (.ins C dx [])=H12 at k12 hx12 ⊢;refine⟨x,dx,a1,lk,ns,ks,r,rfl,hx12,k12 a1 _ h11 (by simp),Ok.kp k12 (by simp) (by simp),Gk,λJ H13 A13 N13 ens ezs K13=>⟨rfl,?_⟩⟩;subst ens;have k1113:Kp [] H11 H13:=Kp.drop k12 fx K13;have K813:Kp [p] H8 H13:=(k810.weak (by simp)).trans (K11.trans (k1113.weak (by simp)));have dk:∀{a:Addr} {kv:List (Key×V)},H8 a=some (.dK kv)->a∉[p]:=λ{a kv} h=>nm1 (by obtain⟨_,_,e,_⟩:=P8;exact zB8 h e λz=>nomatch z);have T13:TabA H13 Pt:=tabP T8 P8 K813;have U13:TabU H13 Pu:=tabP U8 P8 K813;have hl13:=K813 _ _ hl8 (nm1 nlp);have de13:=K813 _ _ de8 (dk de8);have nRp:Ra≠p:=by obtain⟨_,_,e,_⟩:=P6.kp k7 (by simp);exact(ne_fre hRa e).symm
  have h13:=K813 _ _ h8 (nm1 nRp);have OJ:=ord_of A13 Gk ezs Ok.two
  have lw:∀y∈J.ns,∀z,z∈L y↔z∈behJ J y:=λy hy z=>by
   rw[(hL y hy).2 z,zA5,<-way_same sub way];constructor
   .intro h;have:=(Way.to Ok.two Gk.qin h).2;exact⟨this,(zJ7 A13 Gk ezs this).mpr h⟩
   .rintro ⟨h1,h2⟩;exact(zJ7 A13 Gk ezs h1).mp h2
  have bg':b<=2\/zJy J=true:=bg.imp id λh=>by
   unfold zJy;rw[qBF];refine λy hy=>qAS (qAL (zCu ?_ λz hz=>?_) (h y hy))
   .exact (OJ.nd.sublist qAy).sublist qAy
   .obtain ⟨z1,z2,z3⟩:=strB_iff.mp hz;refine qAQ.mpr ⟨(lw y hy z).mpr (zA5.mpr ⟨z1,z2⟩),?_⟩;rw[qDg,List.any_eq_false];intro m' hm' q;obtain⟨m1,m2⟩:=zA5.mp ((lw y hy m').mp hm');exact z3 m' m1 m2 (zA5.mp ((lw m' m1 z).mp (qAo q))).2
  refine⟨_,rfl,_,rfl,_,rfl,de,_,rfl,.inl de13,λhn hhn=>?_⟩;obtain⟨H14,e14,k14,h14⟩:=newO (o:=.dK (kvI F ev)) hhn;rw[e14];refine⟨x,hn,J,b,ks,r,F,ev,rfl,A13.kp0 k14,Gk,ezs,OJ,b1,b2,bg',h14,pm,ne,T13.kp k14,zCy U13 k14 (by simp) (λ_ _ _ _ _=>by simp),nPU,λtu pln lr M Gd ws g as y H15 K15 T15 U15 htu LQ Rw Ly _ _=>?_⟩;refine⟨_,_,_,.int M,rfl,rfl,SqT.of htu,rfl,?_⟩
  have tt14:∀a∈[Pt,Pu],∃xs,H14 a=some (.tbl xs):=λa h=>by
   rcases qAM.mp h with z|z
   .rw [z];exact(T13.kp k14).tbl
   .rw [qAP.mp z];exact zDg (zCy U13 k14 (by simp) (λ_ _ _ _ _=>by simp))
  have off:∀{a:Addr}{o:HO},H13 a=some o->(∀ps,o≠.tbl ps)->H15 a=some o:=λ{a o} h no=>K15 _ _ (k14 _ _ h (by simp)) (tb_off tt14 (k14 _ _ h (by simp)) no);obtain⟨K1,pth⟩:=path_is OJ b1 lw LQ ne;have l1:1<=J.ns.length:=qCD.mpr ne;refine⟨_,rfl,_,rfl,_,rfl,_,rfl,_,rfl,l,Ra,de,b,J.ns,J.ns.map (zF5 J.ns L),F,ev,rfl,off hl13 (λ_ z=>nomatch z),off h13 (λ_ z=>nomatch z),by rw[qAD],l1,n6,b1,off de13 (λ_ z=>nomatch z),λx hx=>pm.mem_iff.mpr hx,⟨_,_,_,K1,pth⟩,λv j H16 pv le k16=>?_⟩;have e1:v=M:=Int.le_antisymm (le _ _ _ K1 pth) (plan_ge OJ b1 bg' lw LQ Ly pv);subst e1;have K216:Kp [Pt,Pu] H H16:=k2.trans (((Kp.drop k28 (show Fre H2 p from fp) K813).weak (by simp)).trans (((k14.weak (by simp)).trans K15).trans (k16.weak (by simp))));refine⟨rfl,_,rfl,ite2 (λc=>absurd c (by simp)) λ_=>⟨⟨_,_,_,_,_,_,_,_,_,_,rfl⟩,K216,T15.kp k16,zCy U15 k16 (by simp) (λ_ _ _ _ _=>by simp)⟩⟩
end
def Hd(K:PySem.W.Frag)(x q:Str)(st:Stmt)(f:Addr):Prop:=∃oc od kV dc pm an cd ct sl,K.lookup f=some ⟨oc,od,.func (PySem.W.fnOf x q (zBh st) (zBa st) (zAd st) .none kV dc pm an cd ct),sl⟩/\PySem.W.codeIn K cd q=true/\PySem.W.keepIn K (.ref f)=true
def Dft(K:PySem.W.Frag)(x:Str)(st:Stmt)(f:Addr):Prop:=PySem.W.nsIn K mainGlobals x=some (some (.ref f))/\Hd K x x st f
def nnB(K:PySem.W.Frag)(x:Str):Bool:=match PySem.W.nsIn K mainGlobals x with
 |some none=>true
 |_=>false
theorem nnB_of{K:PySem.W.Frag}{h:Heap}{mg:Str->Option Value}(X:K.In h)(G:h.Ns mainGlobals mg){xs:List Str}(a:xs.all (nnB K)=true)(m:x∈xs):mg x=none:=by
 have e:=qBF.mp a x m;unfold nnB at e;split at e
 .rename_i e2;exact PySem.W.mg_none_of X G e2
 .cases e
theorem Hd.to{K:PySem.W.Frag}{q:Str}{st:Stmt}(t:Hd K x q st f):∃fd,Fun K x q st f fd:=by
 obtain⟨_,_,_,_,_,_,_,_,_,l,c,k⟩:=t;exact⟨_,fun_mk l c k⟩
section
variable{K:PySem.W.Frag}{x q a b c d g:Str}{st:Stmt}{f:Addr}{fd:FuncData}(F:Fun K x q st f fd)
include F
theorem _root_.L2.Fun.b1(h:∀(kV doc pm:Value)(an:Option Addr)(cdv ct u:Value),bindArgs (PySem.W.fnOf x q (zBh st) (zBa st) (zAd st) .none kV doc pm an cdv ct) ⟨[u],[]⟩=pure [(a,u)]:=by intros;rfl):zD7 K fd [a] []:=F.binds λkV doc pm an cdv ct us hl=>match us,hl with|[u],_=>h kV doc pm an cdv ct u
theorem _root_.L2.Fun.b2(h:∀(kV doc pm:Value)(an:Option Addr)(cdv ct u v:Value),bindArgs (PySem.W.fnOf x q (zBh st) (zBa st) (zAd st) .none kV doc pm an cdv ct) ⟨[u,v],[]⟩=pure [(a,u),(b,v)]:=by intros;rfl):zD7 K fd [a,b] []:=F.binds λkV doc pm an cdv ct us hl=>match us,hl with|[u,v],_=>h kV doc pm an cdv ct u v
theorem _root_.L2.Fun.b3(h:∀(kV doc pm:Value)(an:Option Addr)(cdv ct u v w:Value),bindArgs (PySem.W.fnOf x q (zBh st) (zBa st) (zAd st) .none kV doc pm an cdv ct) ⟨[u,v,w],[]⟩=pure [(a,u),(b,v),(c,w)]:=by intros;rfl):zD7 K fd [a,b,c] []:=F.binds λkV doc pm an cdv ct us hl=>match us,hl with|[u,v,w],_=>h kV doc pm an cdv ct u v w
theorem _root_.L2.Fun.b4(h:∀(kV doc pm:Value)(an:Option Addr)(cdv ct u v w z:Value),bindArgs (PySem.W.fnOf x q (zBh st) (zBa st) (zAd st) .none kV doc pm an cdv ct) ⟨[u,v,w,z],[]⟩=pure [(a,u),(b,v),(c,w),(d,z)]:=by intros;rfl):zD7 K fd [a,b,c,d] []:=F.binds λkV doc pm an cdv ct us hl=>match us,hl with|[u,v,w,z],_=>h kV doc pm an cdv ct u v w z
end
section
variable{K:PySem.W.Frag}{mg:Str->Option Value}{x q:Str}{st:Stmt}{f:Addr}{fd:FuncData}{ps:List Str}{sp:Sp}{k:Nat}(P:Program)(w:World)(base:Heap)
theorem cal(g:mg x=some (.ref f))(F:Fun K x q st f fd)(b:zD7 K fd ps [])(h:FnOk P w K mg base CX0 k f fd ps sp):Cal P w K mg base x k ps sp:=⟨f,fd,g,F.kp,b,h⟩
def Dfm(K:PySem.W.Frag)(C:Addr)(m q:Str)(st:Stmt)(f:Addr):Prop:=PySem.W.findIn K (.ref C) m=some (some (.ref f))/\PySem.W.isFn K (.ref f)=true/\Hd K m q st f
theorem mth{C:Addr}{m:Str}(t:Dfm K C m q st f)(F:Fun K m q st f fd)(b:zD7 K fd ps [])(h:FnOk P w K mg base CX0 k f fd ps sp):Mth P w K mg base C m k ps sp:=⟨f,fd,⟨t.1,t.2.1,F.kp⟩,b,h⟩
end
def DftL(K:PySem.W.Frag)(x:Str)(st:Stmt)(f c:Addr):Prop:=PySem.W.nsIn K mainGlobals x=some (some (.ref f))/\∃oc od kV dc pm an ct sl,K.lookup f=some ⟨oc,od,.func (PySem.W.fnOf x x (zBh st) (zBa st) (zAd st) .none kV dc pm an (.ref c) ct),sl⟩/\PySem.W.codeIn K (.ref c) x=true/\PySem.W.keepIn K (.ref f)=true
theorem all_mk{c Pt cU Pu:Addr}{l:PySem.W.OpenLaw}{w:World}{K:PySem.W.Frag}{h:Heap}{mg:Str->Option Value}{fa:Addr}(X:K.In h)(G:h.Ns mainGlobals mg)(hfa:mg "law"=some (.ref fa)){C f0 f1 f2 f3 f4 f5 f6 f7 f8 f9 f10 f11 f12 f13 f14 f15 f16 f17 f18 f19 f20 f21 f22 f23 f24 f25 f26 f27 f28 f29 f30 f31 f32 f33 f34 f35 f36 f37 f38 f39 f40 f41 f42 f43 f44 f45 f46:Addr}{t_LONGEST_NAME t_MOST_JOBS:Tok}
  (aC:PySem.W.nsIn K mainGlobals "Jobs"=some (some (.ref C)))
  (l0:Dft K "_law_take" s_take f0)
  (l1:Dft K "_law_purse" s_purse f1)
  (l2:Dft K "_law_cell" s_cell f2)
  (l3:Dft K "is_name" zFm f3)
  (l4:Dft K "is_one_of" zDl f4)
  (l5:Dft K "check_job" zE6 f5)
  (l6:Dft K "check_names" zDp f6)
  (l7:Dft K "check_parts" zDo f7)
  (l8:Dft K "told_ahead" zEa f8)
  (l9:Dft K "has_all" zFn f9)
  (l10:Dft K "joined" zJe f10)
  (l11:Dft K "all_ahead" zCs f11)
  (l12:Dfm K C "__init__" "Jobs.__init__" zB0 f12)
  (l13:Dfm K C "names" "Jobs.names" zEd f13)
  (l14:Dfm K C "behind" "Jobs.behind" zCm f14)
  (l15:Dfm K C "ahead" "Jobs.ahead" zC2 f15)
  (l16:Dfm K C "has_between" "Jobs.has_between" zBe f16)
  (l17:Dfm K C "straight" "Jobs.straight" zBz f17)
  (l18:DftL K "last_ones_first" zFl f18 c)
  (l19:Dft K "is_whole" zF9 f19)
  (l20:Dft K "check_benches" zCr f20)
  (l21:Dft K "is_ready" zEq f21)
  (l22:Dft K "take" s_ptake f22)
  (l23:Dft K "check_row" zDn f23)
  (l24:Dft K "listed" zFk f24)
  (l25:Dft K "is_gathering" zCc f25)
  (l26:Dft K "turns_filled" zC8 f26)
  (l27:Dft K "latest_turn" zCl f27)
  (l28:Dft K "check_ends" zCf f28)
  (l29:Dft K "mended" zFj f29)
  (l30:Dft K "mended_for_plan" zB4 f30)
  (l31:DftL K "soonest_first" zAp f31 cU)
  (l32:Dft K "first_late" zEc f32)
  (l33:Dft K "due_by" zG2 f33)
  (l34:Dft K "lateness" zEp f34)
  (l35:Dft K "least_late" zEb f35)
  (l36:Dft K "_law_names" zJc f36)
  (l37:Dft K "_law_pairs" s_pairs f37)
  (l38:Dft K "_law_jobs" s_jobs f38)
  (l39:Dft K "_law_behind" zG3 f39)
  (l40:Dft K "_law_benches" zHj f40)
  (l41:Dft K "_law_ends" s_ends f41)
  (l42:Dft K "_law_gathering" zDm f42)
  (l43:Dft K "_law_implied" zHi f43)
  (l44:Dft K "_law_inner" zE5 f44)
  (l45:Dft K "_law_least" zHh f45)
  (l46:Dft K "law" zJd f46)
  (pg:PySem.W.plainGet K C Str.empty=true)
  (hd:PySem.W.hasDictIn K C=true)
  (po:PySem.W.plainOver K C=true)
  (sa:PySem.W.findIn K (.ref C) "__setattr__"=some (some (.builtin "object.__setattr__")))
  (mk:PySem.W.makesIn K C=true)
  (kc:PySem.W.keepIn K (.ref C)=true)
  (n_row:PySem.W.findIn K (.ref C) "row"=some none)
  (n_pairs:PySem.W.findIn K (.ref C) "pairs"=some none)
  (n_above:PySem.W.findIn K (.ref C) "above"=some none)
  (zz:List.all (α:=Str) ["len","max","range","int","str","list","all","min","dict","bool","abs","reversed","enumerate","any","sum","isinstance","sorted","set","tuple"] (nnB K)=true)
  (n_Pt_Pu:Pt≠Pu)
  (e_LONGEST_NAME:PySem.W.nsIn K mainGlobals "LONGEST_NAME"=some (some (.int 8 t_LONGEST_NAME)))
  (e_MOST_JOBS:PySem.W.nsIn K mainGlobals "MOST_JOBS"=some (some (.int 20 t_MOST_JOBS)))
  :∃fd:FuncData,(∀(s:Shared)(v:Value),BindsTo s fd ⟨[v],[]⟩ [("_law_script",v)])/\∀base:Heap,K.In base->base.Ns mainGlobals mg->zIj mg base->(∀q∈[(c,Pt),(cU,Pu)],PySem.W.CodeHd base q.1 q.2)->FnOk l.prog w K mg base CX0 11 fa fd ["_law_script"] (spLaw K Pt Pu):=by
 have z:∀x,x∈_->mg x=none:=λx m=>nnB_of X G zz m;have m:=λ(x:Str)(v:Value) (e:PySem.W.nsIn K mainGlobals x=some (some v))=>PySem.W.mg_of X G e;obtain⟨a,_,_,kV,dc,pm,an,cd,ct,_,u,v,k⟩:=l46
 cases hfa.symm.trans (m _ _ a)
 have T:Txt K mg:={z_len:=z _ (by decide),z_max:=z _ (by decide),z_range:=z _ (by decide),z_int:=z _ (by decide),z_str:=z _ (by decide),z_list:=z _ (by decide),z_all:=z _ (by decide),z_min:=z _ (by decide),z_dict:=z _ (by decide),z_bool:=z _ (by decide),z_abs:=z _ (by decide),z_reversed:=z _ (by decide),z_enumerate:=z _ (by decide),z_any:=z _ (by decide),z_sum:=z _ (by decide),z_isinstance:=z _ (by decide),z_sorted:=z _ (by decide),z_set:=z _ (by decide),z_tuple:=z _ (by decide),c_LONGEST_NAME:=⟨_,m _ _ e_LONGEST_NAME⟩,c_MOST_JOBS:=⟨_,m _ _ e_MOST_JOBS⟩};have U:JC K mg C:=⟨⟨pg,hd,po,sa⟩,n_row,n_pairs,n_above,m _ _ aC⟩;obtain⟨_,F0⟩:=l0.2.to;obtain⟨_,F1⟩:=l1.2.to;obtain⟨_,F2⟩:=l2.2.to;obtain⟨_,F3⟩:=l3.2.to;obtain⟨_,F4⟩:=l4.2.to;obtain⟨_,F5⟩:=l5.2.to;obtain⟨_,F6⟩:=l6.2.to;obtain⟨_,F7⟩:=l7.2.to;obtain⟨_,F8⟩:=l8.2.to;obtain⟨_,F9⟩:=l9.2.to;obtain⟨_,F10⟩:=l10.2.to;obtain⟨_,F11⟩:=l11.2.to;obtain⟨_,F12⟩:=l12.2.2.to;obtain⟨_,F13⟩:=l13.2.2.to;obtain⟨_,F14⟩:=l14.2.2.to;obtain⟨_,F15⟩:=l15.2.2.to;obtain⟨_,F16⟩:=l16.2.2.to;obtain⟨_,F17⟩:=l17.2.2.to;obtain⟨a18,_,_,_,_,_,_,_,_,u18,v18,k18⟩:=l18;have F18:=fun_mk (st:=zFl) u18 v18 k18;obtain⟨_,F19⟩:=l19.2.to;obtain⟨_,F20⟩:=l20.2.to;obtain⟨_,F21⟩:=l21.2.to;obtain⟨_,F22⟩:=l22.2.to;obtain⟨_,F23⟩:=l23.2.to;obtain⟨_,F24⟩:=l24.2.to;obtain⟨_,F25⟩:=l25.2.to;obtain⟨_,F26⟩:=l26.2.to;obtain⟨_,F27⟩:=l27.2.to;obtain⟨_,F28⟩:=l28.2.to;obtain⟨_,F29⟩:=l29.2.to;obtain⟨_,F30⟩:=l30.2.to;obtain⟨a31,_,_,_,_,_,_,_,_,u31,v31,k31⟩:=l31;have F31:=fun_mk (st:=zAp) u31 v31 k31;obtain⟨_,F32⟩:=l32.2.to;obtain⟨_,F33⟩:=l33.2.to;obtain⟨_,F34⟩:=l34.2.to;obtain⟨_,F35⟩:=l35.2.to;obtain⟨_,F36⟩:=l36.2.to;obtain⟨_,F37⟩:=l37.2.to;obtain⟨_,F38⟩:=l38.2.to;obtain⟨_,F39⟩:=l39.2.to;obtain⟨_,F40⟩:=l40.2.to;obtain⟨_,F41⟩:=l41.2.to;obtain⟨_,F42⟩:=l42.2.to;obtain⟨_,F43⟩:=l43.2.to;obtain⟨_,F44⟩:=l44.2.to;obtain⟨_,F45⟩:=l45.2.to;have F46:=fun_mk (st:=zJd) u v k;refine⟨PySem.W.fnOf "law" "law" (zBh zJd) (zBa zJd) (zAd zJd) .none kV dc pm an cd ct,λs v=>.of_eq rfl,λB _ _ BL CH=>?_⟩;have C_take:=cal l.prog w B (m _ _ l0.1) F0 F0.b2 (ok_take F0);have C_purse:=cal l.prog w B (m _ _ l1.1) F1 F1.b2 (ok_purse F1 T);have C_cell:=cal l.prog w B (m _ _ l2.1) F2 F2.b2 (ok_cell F2 T);have C_is_name:=cal l.prog w B (m _ _ l3.1) F3 F3.b1 (ok_is_name F3 T);have C_is_one_of:=cal l.prog w B (m _ _ l4.1) F4 F4.b2 (ok_is_one_of F4 T);have C_one_of:=cal l.prog w B (m _ _ l4.1) F4 F4.b2 (ok_one_of F4 T);have C_check_job:=cal l.prog w B (m _ _ l5.1) F5 F5.b2 (ok_check_job F5 T C_is_one_of);have C_check_names:=cal l.prog w B (m _ _ l6.1) F6 F6.b1 (zIe F6 T C_is_name);have C_check_parts:=cal l.prog w B (m _ _ l7.1) F7 F7.b2 (zId F7 T C_check_job);have C_told_ahead:=cal l.prog w B (m _ _ l8.1) F8 F8.b2 (zJk F8);have C_has_all:=cal l.prog w B (m _ _ l9.1) F9 F9.b2 (ok_has_all F9 T);have C_joined:=cal l.prog w B (m _ _ l10.1) F10 F10.b2 (ok_joined F10);have C_all_ahead:=cal l.prog w B (m _ _ l11.1) F11 F11.b2 (ok_all_ahead F11 T C_has_all C_joined);have M_Jobs:Mkr l.prog w K mg B C "Jobs" 4 ["self","names","orders"] (spInit C):=⟨f12,_,⟨mk,l12.1,l12.2.1,kc⟩,m _ _ aC,F12.b3,(ok_Jobs_init F12 T U C_check_names C_check_parts C_all_ahead C_told_ahead)⟩;have M_names:=mth l.prog w B l13 F13 F13.b1 (zJo F13 T U);have M_behind:=mth l.prog w B l14 F14 F14.b2 (zIf F14 T U C_check_job);have M_ahead:=mth l.prog w B l15 F15 F15.b2 (zJp F15 T U C_check_job);have M_has_between:=mth l.prog w B l16 F16 F16.b3 (zE8 F16 T U);have M_straight:=mth l.prog w B l17 F17 F17.b2 (zGy F17 T U M_behind M_has_between);have C_last:=cal l.prog w B (m _ _ a18) F18 F18.b1 (ok_last u18 v18 T U BL (CH (c,Pt) (by simp)) M_names M_behind);have C_is_whole:=cal l.prog w B (m _ _ l19.1) F19 F19.b1 (ok_is_whole F19 T);have C_check_benches:=cal l.prog w B (m _ _ l20.1) F20 F20.b1 (zGx F20 C_is_whole);have C_is_ready:=cal l.prog w B (m _ _ l21.1) F21 F21.b3 (ok_is_ready F21 T U M_ahead);have C_ptake:=cal l.prog w B (m _ _ l22.1) F22 F22.b2 (ok_ptake F22);have C_check_row:=cal l.prog w B (m _ _ l23.1) F23 F23.b2 (ok_check_row F23 T C_one_of);have C_listed:=cal l.prog w B (m _ _ l24.1) F24 F24.b3 (ok_listed F24 T U M_names C_check_benches C_check_row C_is_ready C_ptake);have C_gath:=cal l.prog w B (m _ _ l25.1) F25 F25.b1 (zHq F25 T U M_names M_straight);have C_turns_filled:=cal l.prog w B (m _ _ l26.1) F26 F26.b2 (zHp F26);have C_latest:=cal l.prog w B (m _ _ l27.1) F27 F27.b3 (zIc F27 T C_turns_filled);have C_check_ends:=cal l.prog w B (m _ _ l28.1) F28 F28.b2 (zJn F28 T U C_is_whole M_names);have C_mended:=cal l.prog w B (m _ _ l29.1) F29 F29.b3 (ok_mended F29 T U C_check_benches C_check_ends C_last C_latest M_behind);have C_mfp:=cal l.prog w B (m _ _ l30.1) F30 F30.b3 (zFr F30 C_mended C_gath);have C_soon:=cal l.prog w B (m _ _ a31) F31 F31.b3 (zGw u31 v31 T U BL (CH (cU,Pu) (by simp)) M_names C_listed);have C_first:=cal l.prog w B (m _ _ l32.1) F32 F32.b3 (zJm F32 T);have C_due_by:=cal l.prog w B (m _ _ l33.1) F33 F33.b3 (ok_due_by F33 U M_names);have C_lateness:=cal l.prog w B (m _ _ l34.1) F34 F34.b2 (ok_lateness F34 T);have C_least_late:=cal l.prog w B (m _ _ l35.1) F35 F35.b3 (zJl F35 C_mfp C_soon C_lateness C_first C_due_by);have C_lnames:=cal l.prog w B (m _ _ l36.1) F36 F36.b2 (ok_names F36 T C_take);have C_pairs:=cal l.prog w B (m _ _ l37.1) F37 F37.b4 (ok_pairs F37 T C_take);have C_jobs:=cal l.prog w B (m _ _ l38.1) F38 F38.b2 (ok_jobs F38 T C_take C_lnames C_pairs);have C_lbehind:=cal l.prog w B (m _ _ l39.1) F39 F39.b2 (ok_behind F39 T);have C_benches:=cal l.prog w B (m _ _ l40.1) F40 F40.b1 (ok_benches F40 C_take);have C_ends:=cal l.prog w B (m _ _ l41.1) F41 F41.b2 (ok_ends F41 T C_take);have C_gathering:=cal l.prog w B (m _ _ l42.1) F42 F42.b2 (ok_gathering F42 T);have C_implied:=cal l.prog w B (m _ _ l43.1) F43 F43.b3 (ok_implied F43 T C_take);have C_inner:=cal l.prog w B (m _ _ l44.1) F44 F44.b4 (ok_inner F44 T);have C_least:=cal l.prog w B (m _ _ l45.1) F45 F45.b4 (ok_least F45 T C_inner);exact ok_law F46 n_Pt_Pu T C_cell C_purse C_jobs C_benches C_ends C_lbehind C_implied C_gathering C_least C_least_late M_Jobs
theorem walk{c Pt cU Pu:Addr}{l:PySem.W.OpenLaw}{q:Program}{loose:List Str}{XP:(Str->Option Value)->Heap->Prop}{YP:World->Heap->Prop}{d:DefRec}{K:Params->PySem.W.Frag}(hn:l.most=some 63)(hdf:d.params.defaults=[])
  (hY:∀(w:World)(h:Heap),YP w h->(K w.params).In h) (hT:∀(w:World)(h:Heap),YP w h->PySem.W.TabsAt [(c,Pt),(cU,Pu)] h) (hKT:∀(w:World),∀q∈[(c,Pt),(cU,Pu)],(K w.params).lookup q.2=none)
  (F:∀(w:World) (mg:Str->Option Value) (fa:Addr) (h:Heap),(K w.params).In h->h.Ns mainGlobals mg->mg d.name=some (.ref fa) ->
   ∃fd:FuncData,(∀(s:Shared)(u:Value),BindsTo s fd ⟨[u],[]⟩ [("_law_script",u)])/\∀base:Heap,(K w.params).In base->base.Ns mainGlobals mg->zIj mg base->(∀q∈[(c,Pt),(cU,Pu)],PySem.W.CodeHd base q.1 q.2)->FnOk l.prog w (K w.params) mg base CX0 11 fa fd ["_law_script"] (spLaw (K w.params) Pt Pu)) :
  PySem.W.WalkO q loose XP YP l.row.toRowW d [] (λf vs=>PySem.call f vs) :=
 L2.walk_ofT (n:=63) (k:=11) (x:="_law_script") (CX:=λ_=>CX0) (sp:=λw=>spLaw (K w.params) Pt Pu) hn (by decide) hdf ⟨rfl,by decide,by decide,rfl⟩ hY hT hKT F (λ_ _ a ns hl hS hH=>⟨a,ns,rfl,hS,hl,.inl (hH (c,Pt) (by simp)),.inl (hH (cU,Pu) (by simp)),λ_=>rfl⟩) λ_ _ _ _ _ z=>z
end My
namespace PySem.W.Fast
def tw16147620829616201793:Nat:=0
def tw14677623003463333884:Nat:=0
def tw16340790209546641056:Nat:=0
def tw8446113171761527073:Nat:=0
def tw17916730797285222772:Nat:=0
def tw9897780718364276353:Nat:=0
def tw1006081255627126720:Nat:=0
def tw4114685089842208331:Nat:=0
def tw134153423212436964:Nat:=0
def tw9881930115477242665:Nat:=0
def tw10213956085394163389:Nat:=0
def tw9147839107414317841:Nat:=0
def tw11459382036249256463:Nat:=0
def tw15195687468424373117:Nat:=0
def tw2071015419898251832:Nat:=0
def tw13370051448289711294:Nat:=0
def tw14684242858997496387:Nat:=0
def tw12105998140072955705:Nat:=0
def tw18009537010381306474:Nat:=0
def tw17283374873736280954:Nat:=0
def tw5701262379961892694:Nat:=0
def tw4355903962238764836:Nat:=0
def tw13082646854980594341:Nat:=0
def tw411089273739970827:Nat:=0
def tw17580833276441129315:Nat:=0
def tw11915694352902656641:Nat:=0
def tw10781590250502709137:Nat:=0
def tw16168863933274342561:Nat:=0
def tw17607037019227389833:Nat:=0
def tw17536145223556384301:Nat:=0
def tw15900478309018148591:Nat:=0
def tw17883790828079168859:Nat:=0
def tw7443489541670127196:Nat:=0
def tw13293875326310708666:Nat:=0
def tw1719564836021775323:Nat:=0
def tw10589231318359104543:Nat:=0
def tw12422580184754338110:Nat:=0
def tw13771072577412012743:Nat:=0
def tw1540596048914822947:Nat:=0
def tw7059829152535730120:Nat:=0
def tw13092921434681413246:Nat:=0
def tw18397224436084368240:Nat:=0
def tw15178421749353495666:Nat:=0
def tw10153855826631007101:Nat:=0
def tw13254585049602115849:Nat:=0
def tw12468934779722349544:Nat:=0
def tw17772877906252379159:Nat:=0
def tw8077200116752978913:Nat:=0
def tw17523967064567178031:Nat:=0
def tw13223160412032398049:Nat:=0
def tw4029887528683098896:Nat:=0
def tw10304810112330128648:Nat:=0
def tw733701852409197607:Nat:=0
def tw16547384139427748412:Nat:=0
def tw167333964003971213:Nat:=0
def tw8661031638713233383:Nat:=0
def tw4819203207600676721:Nat:=0
def tw11336955780482245055:Nat:=0
def tw17779462656302789513:Nat:=0
def tw10356477356575731509:Nat:=0
def tw15767566221449985272:Nat:=0
def tw4828082632568873857:Nat:=0
def tw17979812538274475537:Nat:=0
def tw9036066198563342838:Nat:=0
def tw5102718510064564756:Nat:=0
def tw11255708356797288829:Nat:=0
def tw7307005813474892727:Nat:=0
def tw8310056174080733621:Nat:=0
def tw1685383342964256412:Nat:=0
def tw11799416602951727143:Nat:=0
def tw15503345489120842430:Nat:=0
def tw1337847989900015367:Nat:=0
def tw12514218590834088598:Nat:=0
def tw2588690042391071607:Nat:=0
def tw8957065206957162602:Nat:=0
def tw12868758895130564012:Nat:=0
def tw432414686895071963:Nat:=0
def tw15513601654906515165:Nat:=0
def tw2416327610564563491:Nat:=0
def tw12593348018607904065:Nat:=0
def tw12077465482199136280:Nat:=0
def tw1520009089399053123:Nat:=0
def tw4141325691585958758:Nat:=0
def tw17026561810381208064:Nat:=0
def tw15752808631505405849:Nat:=0
def tw846889952593921354:Nat:=0
def tw10340538759919222722:Nat:=0
def tw7043521720547869168:Nat:=0
def tw18262832852329319925:Nat:=0
def tw12607170234933629543:Nat:=0
def tw13026519827706591537:Nat:=0
def tw15522002282698421917:Nat:=0
def tw11990509176053127827:Nat:=0
def tw10856633870370240652:Nat:=0
def tw10058344620164554850:Nat:=0
def tw2237036459687156666:Nat:=0
def tw10338878301269574123:Nat:=0
def tw18357910303291851148:Nat:=0
def tw10455580324923835256:Nat:=0
def tw4351447720972999804:Nat:=0
def tw7810436972703765380:Nat:=0
def tw13021422550094535433:Nat:=0
def tw10457479705479946813:Nat:=0
def tw2901168706091484652:Nat:=0
def tw15660685145956486160:Nat:=0
def tw3205934399842041717:Nat:=0
def tw5440332813090956382:Nat:=0
def tw11376593759734452165:Nat:=0
def tw11603281685577867444:Nat:=0
def tw11640781523316397001:Nat:=0
def tw14169448899099960440:Nat:=0
def tw12986283115913310744:Nat:=0
def tw13230139333399973593:Nat:=0
def tw11491893429172750938:Nat:=0
def tw14930728611771916608:Nat:=0
def tw18188002560434305961:Nat:=0
def tw6376662755420317766:Nat:=0
def tw9262951828923124562:Nat:=0
def tw17684032252929101232:Nat:=0
def tw14851380139857191406:Nat:=0
def tw16511219387949814979:Nat:=0
def tw14323943167037376105:Nat:=0
def tw1215922403770529756:Nat:=0
def tw5900953123714202296:Nat:=0
def tw1482068139928561532:Nat:=0
def tw854001962984604690:Nat:=0
def tw10868170027978553117:Nat:=0
def tw3480519857927297655:Nat:=0
def tw11496724888303560486:Nat:=0
def tw5634736926447490676:Nat:=0
def tw1544400029033003621:Nat:=0
def tw4261631557577142683:Nat:=0
def tw8099670267322654552:Nat:=0
def tw18323683598500027001:Nat:=0
def tw10576144041790154353:Nat:=0
def tw14330216288642888600:Nat:=0
def tw508059023770637736:Nat:=0
def tw14575741699922394162:Nat:=0
def tw4542502598714944593:Nat:=0
def tw4339330320504494076:Nat:=0
def tw6348530721976892214:Nat:=0
def tw341496885791725940:Nat:=0
def tw727519791057565968:Nat:=0
def tw3104360324582559692:Nat:=0
def tw3694751912993343673:Nat:=0
def tw18353466142126642782:Nat:=0
def tw11183190357166824866:Nat:=0
def tw14525473763807419004:Nat:=0
def tw15077167030854069943:Nat:=0
def tw3438706786656376652:Nat:=0
def tw15603704152822423315:Nat:=0
def tw17789232617648133822:Nat:=0
def tw13167664212645431081:Nat:=0
def tw7667827655600732483:Nat:=0
def tw14408942829473730711:Nat:=0
def tw6411286672657620124:Nat:=0
def tw11597203093314436769:Nat:=0
def tw4659346952253484477:Nat:=0
def tw12163712543092761573:Nat:=0
def tw7354301728754157179:Nat:=0
def tw10425373207625707817:Nat:=0
def tw9231799692200948535:Nat:=0
def tw1934109303960593794:Nat:=0
def tw18113442240804654948:Nat:=0
def tw7840456403426932322:Nat:=0
def tw786498997293883968:Nat:=0
def tw18090233298113779390:Nat:=0
def tw17152253405940199176:Nat:=0
def tw2244147491863352551:Nat:=0
def tw3426818447020069383:Nat:=0
def tw3577516285476570598:Nat:=0
def tw5537311955824768404:Nat:=0
def tw14270314939246713401:Nat:=0
def tw11748804610310834505:Nat:=0
def tw13019119888340849941:Nat:=0
def tw2529235487896281318:Nat:=0
def tw6344172666719092320:Nat:=0
def tw5016272846598457266:Nat:=0
def tw16027164365969873714:Nat:=0
def tw10019474612987248198:Nat:=0
def tw13067948651634407375:Nat:=0
def tw10022658431897837348:Nat:=0
def tw10922444483125230995:Nat:=0
def tw13593058225204932281:Nat:=0
def tw11427596702619137443:Nat:=0
def tw6003161676347575538:Nat:=0
def tw8830513766603399276:Nat:=0
def tw8225891763621735058:Nat:=0
def tw13004417544851843450:Nat:=0
def tw18335895830443827853:Nat:=0
def tw2051094132319571017:Nat:=0
def tw3128520610755419059:Nat:=0
def tw10683506903844296187:Nat:=0
def tw8865708327081584399:Nat:=0
def tw2243690744641378191:Nat:=0
def tw10979302081183812909:Nat:=0
def tw10982172662580882509:Nat:=0
def tw16019149538932397029:Nat:=0
def tw10384635237111364084:Nat:=0
def tw9850705405699895097:Nat:=0
def tw10658565077250572832:Nat:=0
def tw17033321033529084352:Nat:=0
def tw18165358651317020427:Nat:=0
def tw13256147067101398271:Nat:=0
def tw2000240458573445401:Nat:=0
def tw1478002154477706799:Nat:=0
def tw14568972231749719278:Nat:=0
def tw2103030001176104313:Nat:=0
def tw15534372770793289745:Nat:=0
def tw12254997873797516937:Nat:=0
def tw10970052434458178166:Nat:=0
def tw3817425887148259615:Nat:=0
def tw15562997791755297426:Nat:=0
def tw12776543883419609826:Nat:=0
def tw9789429279765952591:Nat:=0
end PySem.W.Fast
open PySem PySem.W PyProof.Rows
set_option maxRecDepth 100000 in
set_option maxHeartbeats 0 in
theorem PySem.Challenge.cw_levelbench_k67_least_lateness_of_few_holds : PySem.Challenge.rw_levelbench_k67_least_lateness_of_few.Holds := by
 w_on;o_law;k_head;(case hw=>w_witness2)
 k_fill
 refine My.walk (c:=195) (Pt:=191) (cU:=290) (Pu:=286) (l:=PySem.Challenge.rw_levelbench_k67_least_lateness_of_few) rfl rfl (λw h Y=>PySem.W.km_in_of Y) (λw h Y=>qDl.mpr ⟨⟨PySem.W.codeHd_of_K (c:=195) (P:=191) (PySem.W.km_in_of Y) (by kernel_rfl),PySem.W.km_tabs_of Y 191 (by k_mem)⟩,qDl.mpr ⟨⟨PySem.W.codeHd_of_K (c:=290) (P:=286) (PySem.W.km_in_of Y) (by kernel_rfl),PySem.W.km_tabs_of Y 286 (by k_mem)⟩,λ_ h=>nomatch h⟩⟩) (λw=>qDl.mpr ⟨by kernel_rfl,qDl.mpr ⟨by kernel_rfl,λ_ h=>nomatch h⟩⟩) ?F
 case F=>
  intro w mg fa h KX G hmg;refine' My.all_mk (c:=195) (Pt:=191) (cU:=290) (Pu:=286) KX G hmg ?h0 ?h1 ?h2 ?h3 ?h4 ?h5 ?h6 ?h7 ?h8 ?h9 ?h10 ?h11 ?h12 ?h13 ?h14 ?h15 ?h16 ?h17 ?h18 ?h19 ?h20 ?h21 ?h22 ?h23 ?h24 ?h25 ?h26 ?h27 ?h28 ?h29 ?h30 ?h31 ?h32 ?h33 ?h34 ?h35 ?h36 ?h37 ?h38 ?h39 ?h40 ?h41 ?h42 ?h43 ?h44 ?h45 ?h46 ?h47 ?h48 ?h49 ?h50 ?h51 ?h52 ?h53 ?h54 ?h55 ?h56 ?h57 ?h58 ?h59 ?h60
  all_goals try first|k_is|exact⟨by k_is,_,_,_,_,_,_,_,_,_,by k_is,by k_is,by k_is⟩|exact⟨by k_is,_,_,_,_,_,_,_,_,by k_is,by k_is,by k_is⟩|exact⟨by k_is,by k_is,_,_,_,_,_,_,_,_,_,by k_is,by k_is,by k_is⟩|kernel_rfl|decide
