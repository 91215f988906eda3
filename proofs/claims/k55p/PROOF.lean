import PyProof.Rows.All
import Wide.All
import OpenK.AllK
import Wide.FinOn
import Lean
import PyProof.EqAt
import PyProof.EqKinds
import PyProof.TupleCall
import PyProof.StrLawsTight
import PyProof.FitsReplace
import KE.KSortTup
import PyProof.TupleKey
import PyProof.SetKind
import PyProof.IsRules
import PyProof.Rows.SetFrom
import PyProof.CollectWalk
import PyProof.DictUpdate
import PyProof.AutoListH
import PyProof.SeqI3
import PyProof.EnumStmt
import PyProof.EnumMake
import PyProof.Rows.CallKwBuiltin
import PyProof.NeKinds
import PyProof.StationsW
import PyProof.ExcClass3
import PyProof.PassesOwn
import OpenK.KOwn
import PyProof.RulesAs
import PyProof.RulesDel
import KE.KIsAll
import PyProof.ExcArgsOwn
import PyProof.StrLawsIn
import PyProof.Rows.Range3
import PyProof.Rows.FStr
import PyProof.DictItems
import PyProof.AttrMissHeap
import PyProof.ListCopy
import KE.KDictOf
import KE.KDictSum
import PyProof.Rows.SortRev
import PyProof.Rows.IntMath
import KE.KLam
import KE.KSortKey
import KE.KNestM
import KE.KRevIter
import PyProof.Rows.SetObj
import PyProof.InstStoreFacts
import OpenK.KMake
import OpenK.KCls
import OpenK.KMore
import PyProof.ReprHeads
import PyProof.StrLawsRepr
import PyProof.Rows.TupDisplay
import PySem.Challenge.RW_levelbench_k55_whole_woods_by_all_ways
set_option Elab.async false
set_option linter.all false
set_option maxRecDepth 100000
def qAA:=@PySem.wpAny_bind
def qAB:=@if_neg
def qAC:=@if_pos
def qAD:=@PySem.wpAny_pure
def qAE:=@List.length_map
def qAF:=@PyProof.Rows.wpS_bind
def qAG:=@Nat.le_refl
def qAH:=@List.mem_map
def qAI:=@PyProof.Rows.wpS_pure
def qAJ:=@PySem.Heap.get?_push_of_some
def qAK:=@PySem.sizeLine_eq
def qAL:=@PySem.Heap.lt_size
def qAM:=@List.size_toArray
def qAN:=@List.mem_cons
def qAO:=@List.mem_of_getElem?
def qAP:=@List.mem_singleton
def qAQ:=@List.map_append
def qAR:=@List.mem_cons_of_mem
def qAS:=@List.mem_filter
def qAT:=@List.mem_cons_self
def qAU:=@List.mem_append
def qAV:=@decide_eq_true
def qAW:=@List.getElem?_map
def qAX:=@Nat.le_trans
def qAY:=@Nat.zero_le
def qAZ:=@Nat.ne_of_lt
def qAa:=@Option.some.inj
def qAb:=@PySem.Heap.get?_push_size
def qAc:=@List.length_cons
def qAd:=@List.getElem?_eq_some_iff
def qAe:=@List.length_take
def qAf:=@congrArg
def qAg:=@List.length_append
def qAh:=@List.getElem?_eq_getElem
def qAi:=@List.take_length
def qAj:=@PySem.Heap.SameBut.update
def qAk:=@PySem.PassesOwn.never
def qAl:=@decide_eq_false
def qAm:=@Bool.false_ne_true
def qAn:=@List.map_cons
def qAo:=@Array.getElem?_toList
def qAp:=@Nat.lt_of_lt_of_le
def qAq:=@PySem.wpAny_mono
def qAr:=@Ne.symm
def qAs:=@List.mem_append_left
def qAt:=@of_decide_eq_true
def qAu:=@List.mem_append_right
def qAv:=@List.nodup_cons
def qAw:=@List.nodup_nil
def qAx:=@List.all_eq_true
def qAy:=@List.length_filter_le
def qAz:=@PySem.wpAny_holding
def qA0:=@List.getD_eq_getElem?_getD
def qA1:=@List.map_map
def qA2:=@PySem.Obj.data_mapFields
def qA3:=@Nat.lt_irrefl
def qA4:=@List.mem_iff_getElem
def qA5:=@PyProof.Rows.wpS_forRange
def qA6:=@Option.map_eq_some_iff
def qA7:=@List.filter_cons
def qA8:=@beq_eq_false_iff_ne
def qA9:=@List.mem_range
def qBA:=@List.filter_sublist
def qBB:=@PyProof.Rows.wpS_mono
def qBC:=@Array.length_toList
def qBD:=@Nat.ne_of_gt
def qBE:=@PyProof.Rows.wpS_modify
def qBF:=@PySem.wpAny_truthy_bool
def qBG:=@if_false
def qBH:=@PySem.F.plainAttrs_list
def qBI:=@List.append_nil
def qBJ:=@PySem.Heap.get?_update_self
def qBK:=@List.lookup_cons
def qBL:=@PySem.wpAny_rule
def qBM:=@PySem.wpAny_ite_split
def qBN:=@Nat.le_of_eq
def qBO:=@PySem.W.kia_one
def qBP:=@PyProof.Rows.wpS_get
def qBQ:=@Classical.byContradiction
def qBR:=@PySem.wpAny_setField
def qBS:=@PyProof.Rows.get?_update_seq
def qBT:=@decide_eq_true_eq
def qBU:=@PyProof.Rows.listUpdate_at
def qBV:=@List.length_drop
def qBW:=@List.length_nil
def qBX:=@Nat.le_add_right
def qBY:=@PySem.codeAny_builtin
def qBZ:=@PySem.wpAny_askSetting
def qBa:=@Bool.eq_iff_iff
def qBb:=@List.getElem?_append_right
def qBc:=@List.getElem?_append_left
def qBd:=@List.foldl_cons
def qBe:=@List.length_singleton
def qBf:=@PySem.wpAny_newObj_type
def qBg:=@Array.getElem?_eq_some_iff
def qBh:=@List.take_of_length_le
def qBi:=@List.mem_of_mem_take
def qBj:=@List.nodup_append
def qBk:=@PySem.Around.under_plainId
def qBl:=@Bool.false_eq_true
def qBm:=@PySem.Heap.size_push
def qBn:=@PySem.mem_of_lookup
def qBo:=@PySem.Heap.get?_update_other
def qBp:=@List.append_assoc
def qBq:=@Nat.lt_succ_of_lt
def qBr:=@List.getElem_mem
def qBs:=@PyProof.Rows.wpS_lift
def qBt:=@List.take_append_drop
def qBu:=@Nat.not_lt_zero
def qBv:=@PySem.F.called_set
def qBw:=@PySem.wpAny_call_entry
def qBx:=@List.filter_append
def qBy:=@PySem.Paired.length
def qBz:=@Nat.le_of_lt
def qB0:=@PySem.wpAny_standAt
def qB1:=@PySem.wpAny_passesOwn
def qB2:=@PySem.wpAny_load
def qB3:=@Nat.lt_succ_self
def qB4:=@PySem.wpAny_Call_Name_kw
def qB5:=@List.getElem?_take_of_lt
def qB6:=@if_true
def qB7:=@PySem.wpAny_attempt
def qB8:=@Array.toList_extract
def qB9:=@Array.getElem?_eq_getElem
def qCA:=@List.not_mem_nil
def qCB:=@PySem.Obj.isFreed_of_fields
def qCC:=@PySem.F.slot_list_append
def qCD:=@PySem.F.type_list_append
def qCE:=@List.countP_append
def qCF:=@PyProof.Rows.seqEpoch_at
def qCG:=@PySem.wpAny_newList
def qCH:=@PySem.wpAny_letGo
def qCI:=@List.length_reverse
def qCJ:=@List.filterMap_cons
def qCK:=@PySem.codeAny_mono
def qCL:=@Nat.le_succ
def qCM:=@Bool.and_eq_true
def qCN:=@List.any_cons
def qCO:=@PySem.call_meets
def qCP:=@List.find?_cons
def qCQ:=@Int.emod_nonneg
def qCR:=@Int.emod_lt_of_pos
def qCS:=@Array.forIn_toList
def qCT:=@List.length_eq_zero_iff
def qCU:=@PySem.Obj.cls_mapFields
def qCV:=@PySem.wpAny_updateSeq
def qCW:=@beq_iff_eq
def qCX:=@PySem.wpAny_call
def qCY:=@Int.toNat_natCast
def qCZ:=@PySem.SeqAt.EqAt.same
def qCa:=@List.replicate_succ
def qCb:=@Nat.lt_trans
def qCc:=@PySem.wpAny_specialOf
def qCd:=@List.any_eq_true
def qCe:=@Nat.pow_le_pow_right
def qCf:=@Array.toList_push
def qCg:=@List.pairwise_cons
def qCh:=@List.getElem?_cons_succ
def qCi:=@List.getElem?_eq_none
def qCj:=@Nat.not_lt
def qCk:=@PySem.plainId_quiet
def qCl:=@PySem.typeLookup_type
def qCm:=@PySem.builtinLookup_eq_fast
def qCn:=@Array.perm_iff_toList_perm
def qCo:=@List.all_map
def qCp:=@List.take_zero
def qCq:=@List.filter_congr
def qCr:=@Array.Perm.refl
def qCs:=@PyProof.Rows.wpS_reverse
def qCt:=@PyProof.Rows.listItems_at
def qCu:=@List.mem_reverse
def qCv:=@decide_eq_decide
def qCw:=@Nat.min_self
def qCx:=@Int.le_refl
def qCy:=@PySem.wpAny_tryCatch
def qCz:=@List.getElem?_reverse
def qC0:=@PySem.F.slot_dict_keyiterator_next
def qC1:=@PySem.wpAny_execs_nil
def qC2:=@PySem.wpAny_pyIter_list
def qC3:=@PySem.wpAny_evalAll_cons
def qC4:=@List.take_sublist
def qC5:=@List.flatten_cons
def qC6:=@Nat.le_of_not_lt
def qC7:=@Nat.lt_of_le_of_lt
def qC8:=@PySem.tupleKind_room_in1
def qC9:=@PySem.SeqAt.EqAt.of_refs
def qDA:=@Nat.zero_add
def qDB:=@Nat.add_zero
def qDC:=@Array.toList_append
def qDD:=@List.pairwise_map
def qDE:=@List.perm_ext_iff_of_nodup
def qDF:=@PySem.wpAny_typeOf
def qDG:=@List.map_take
def qDH:=@List.map_drop
def qDI:=@List.take_succ
def qDJ:=@Nat.lt_of_not_le
def qDK:=@PySem.wpAny_callSpecial?_slot
def qDL:=@PySem.wpAny_fieldsOf
def qDM:=@PySem.wpAny_isInstance
def qDN:=@PySem.wpAny_newTuple
def qDO:=@List.ext_getElem?
def qDP:=@of_decide_eq_false
def qDQ:=@List.length_pos_of_mem
def qDR:=@bne_self_eq_false
def qDS:=@List.length_pos_iff
def qDT:=@List.take_succ_cons
def qDU:=@Array.size_zip
def qDV:=@Int.zero_add
def qDW:=@List.getElem?_of_mem
def qDX:=@List.filter_eq_nil_iff
def qDY:=@PySem.wpAny_typeNameOfWhole_keyiter
def qDZ:=@PySem.wpAny_typeNameOf_keyiter
def qDa:=@List.forall_mem_cons
def qDb:=@List.getElem?_set_self
def qDc:=@PyProof.Rows.callWith_type1
def qDd:=@Array.mem_toList_iff
def qDe:=@PySem.W.cellsFrom_some
def qDf:=@List.mem_of_mem_drop
def qDg:=@List.mem_of_find?_eq_some
def qDh:=@Array.size_setIfInBounds
def qDi:=@PyProof.Rows.F.plain_set_update_loop
def qDj:=@List.getElem?_eq_none_iff
def qDk:=@Option.map_eq_none_iff
def qDl:=@List.drop_of_length_le
def qDm:=@PySem.F.slot_list_extend
def qDn:=@PySem.F.type_list_extend
def qDo:=@PyProof.Rows.callWith_builtin_kwB
def qDp:=@Array.getElem?_eq_none
namespace L2
open PySem PySem.Spec PyProof.Rows
variable {us:List Value}{x:Str}{u:Value}{a b C:Addr}{P:Program}{w:World}{h base:Heap}{t' i:Nat}{e tg:Expr}{A:Around}{s:Shared}{pins:List (Addr×Obj)}{op:CmpOp}{K:PySem.W.Frag}
abbrev Key:=Sum Int Str
def keyIs:Key->Value->Bool
 | .inl k,v=>Value.isInt k v
 | .inr x,v=>Value.isStrOf x v
def keyH (w:World):Key->Int
 | .inl k=>hashInt k
 | .inr x=>hashStr w x
theorem zAx:∀{k:Key} {v:Value},keyIs k v=true->(∃i t,k=Sum.inl i/\v=Value.int i t)\/(∃x t,k=Sum.inr x/\v=Value.str x t)
 | .inl i,v,h=>by
  obtain ⟨t,e⟩:=Value.isInt_shape (k:=i) (v:=v) h;exact .inl ⟨i,t,rfl,e⟩
 | .inr x,v,h=>by
  obtain ⟨t,e⟩:=Value.isStrOf_shape (x:=x) (v:=v) h;exact .inr ⟨x,t,rfl,e⟩
theorem keyIs_int (i:Int) (t:Tok):keyIs (.inl i) (.int i t)=true:=by simp [keyIs,Value.isInt]
theorem keyIs_str (x:Str) (t:Tok):keyIs (.inr x) (.str x t)=true:=by simp [keyIs,Value.isStrOf]
theorem key_ll (a b:Int):decide ((Sum.inl a:Key)=Sum.inl b)=(a==b):=by
 by_cases e:a=b
 ·subst e;simp
 ·have h:¬(Sum.inl a:Key)=Sum.inl b:=fun q=>e (Sum.inl.inj q);rw [qAl h];exact (qA8.mpr e).symm
theorem key_rr (a b:Str):decide ((Sum.inr a:Key)=Sum.inr b)=decide (a=b):=by
 by_cases e:a=b
 ·subst e;simp
 ·have h:¬(Sum.inr a:Key)=Sum.inr b:=fun q=>e (Sum.inr.inj q);rw [qAl h,qAl e]
theorem key_lr (a:Int) (b:Str):decide ((Sum.inl a:Key)=Sum.inr b)=false:=qAl (fun q=>nomatch q)
theorem key_rl (a:Str) (b:Int):decide ((Sum.inr a:Key)=Sum.inl b)=false:=qAl (fun q=>nomatch q)
def zA5 (prog:Program) (w:World):PySem.KeyKind prog w Key where
 is:=keyIs
 hash:=keyH w
 inj:=fun v a b ha hb=>by
  rcases zAx ha with ⟨i,t,rfl,rfl⟩| ⟨x,t,rfl,rfl⟩
  ·rcases zAx hb with ⟨j,u,rfl,e⟩| ⟨y,u,rfl,e⟩
   ·injection e with e1 _;rw [e1]
   ·exact nomatch e
  ·rcases zAx hb with ⟨j,u,rfl,e⟩| ⟨y,u,rfl,e⟩
   ·exact nomatch e
   ·injection e with e1 _;rw [e1]
 byValue:=fun k v h=>by
  rcases zAx h with ⟨i,t,rfl,rfl⟩| ⟨x,t,rfl,rfl⟩<;>rfl
 pyHash:=fun hv h=>by
  rcases zAx hv with ⟨i,t,rfl,rfl⟩| ⟨x,t,rfl,rfl⟩
  ·exact wpAny_pyHash_int h
  ·exact wpAny_pyHash_str h
 eqBool:=fun hu hv h=>by
  rcases zAx hu with ⟨i,t,rfl,rfl⟩| ⟨x,t,rfl,rfl⟩
  ·rcases zAx hv with ⟨j,u,rfl,rfl⟩| ⟨y,u,rfl,rfl⟩
   ·rw [key_ll] at h;exact wpAny_eqBool_int h
   ·rw [key_lr] at h;exact SeqAt.EqAt.int_str i t y u _ _ _ _ h
  ·rcases zAx hv with ⟨j,u,rfl,rfl⟩| ⟨y,u,rfl,rfl⟩
   ·rw [key_rl] at h;exact SeqAt.EqAt.str_int x t j u _ _ _ _ h
   ·rw [key_rr] at h;exact wpAny_eqBool_str h
 «strs»:=fun k x t v h=>by
  rcases zAx h with ⟨i,u,rfl,e⟩| ⟨y,u,rfl,e⟩
  ·exact nomatch e
  ·injection e with e1 _;subst e1
   cases v<;>rfl
theorem mixKind_int (prog:Program) (w:World) (i:Int) (t:Tok):(zA5 prog w).is (.inl i) (.int i t)=true:=keyIs_int i t
theorem mixKind_str (prog:Program) (w:World) (x:Str) (t:Tok):(zA5 prog w).is (.inr x) (.str x t)=true:=keyIs_str x t
inductive V where
 | non| bl (b:Bool)| int (i:Int)| str (x:Str)| byt (b:Array UInt8)| flt (b:UInt64)| ref (a:Addr)| ty (n:String)
 deriving DecidableEq
variable {xs:List V}{v y:V}
def RelV:V->Value->Prop
 | .non,u=>u=Value.none
 | .bl b,u=>u=Value.bool b
 | .int i,u=>∃t,u=Value.int i t
 | .str x,u=>∃t,u=Value.str x t
 | .byt b,u=>∃t,u=Value.bytes b t
 | .flt b,u=>∃t,u=Value.float b t
 | .ref a,u=>u=Value.ref a
 | .ty n,u=>u=Value.type n
abbrev Vals:List V->List Value->Prop:=Paired RelV
theorem Vals.length (r:Vals xs us):xs.length=us.length:=qBy r
theorem Vals.get:∀{xs:List V} {us:List Value} {i:Nat} {x:V},Vals xs us->xs[i]?=some x->∃u,us[i]?=some u/\RelV x u
 | _,_,_,_,.nil,e=>by simp at e
 | _,_,0,_,.cons r _,e=>by simp at e;subst e;exact ⟨_,rfl,r⟩
 | _,_,i+1,x,.cons _ t,e=>by
  obtain ⟨u,h1,h2⟩:=Vals.get (i:=i) (x:=x) t (by simpa using e);exact ⟨u,by simpa using h1,h2⟩
theorem Vals.set {x:V} (r:RelV x u):∀{xs:List V} {us:List Value} (i:Nat),Vals xs us->Vals (xs.set i x) (us.set i u)
 | _,_,_,.nil=>.nil
 | _,_,0,.cons _ t=>.cons r t
 | _,_,i+1,.cons q t=>.cons q (Vals.set r i t)
theorem Vals.append:∀{xs ys:List V} {us ws:List Value},Vals xs us->Vals ys ws->Vals (xs++ys) (us++ws)
 | _,_,_,_,.nil,s=>s
 | _,_,_,_,.cons r t,s=>.cons r (Vals.append t s)
theorem Vals.take:∀{xs:List V} {us:List Value} (n:Nat),Vals xs us->Vals (xs.take n) (us.take n)
 | _,_,0,_=>.nil
 | _,_,_+1,.nil=>.nil
 | _,_,n+1,.cons r t=>.cons r (Vals.take n t)
theorem Vals.drop:∀{xs:List V} {us:List Value} (n:Nat),Vals xs us->Vals (xs.drop n) (us.drop n)
 | _,_,0,r=>r
 | _,_,_+1,.nil=>.nil
 | _,_,n+1,.cons _ t=>Vals.drop n t
def RelO:Option V->Option Value->Prop
 | some v,some u=>RelV v u
 | none,none=>True
 | _,_=>False
def KV {κ:Type}:List (κ×V)->List (κ×Value)->Prop:=Paired fun (p:κ×V) (q:κ×Value)=>p.1=q.1/\RelV p.2 q.2
def kV:Key->V
 | .inl i=>.int i
 | .inr x=>.str x
inductive HO where
 | lst (xs:List V)
 | tup (xs:List V)
 | dK (kvs:List (Key×V))| dT (kvs:List (List Key×V))
 | set (S:Int->Bool) (n:Nat)
 | ins (C dx:Addr) (fs:List (Str×V))
 | own (x:Addr)
 | xd (fs:List (Str×V))
 | met (f x:Addr)
 | rng (lo hi:Int)
 | frz (o:Obj) (u:HO)
 | tbl (ps:Array Value)
 | ext (φ:Heap->Prop)
variable {o:HO}
abbrev Hp:=Addr->Option HO
variable {H:Hp}
def upd (H:Hp) (a:Addr) (o:HO):Hp:=fun b=>if b=a then some o else H b
theorem upd_same :upd H a o a=some o:=by unfold upd;rw [qAC rfl]
theorem upd_ne (h:b≠a):upd H a o b=H b:=by unfold upd;rw [qAB h]
theorem zBg {u:HO}:upd (upd H a o) a u=upd H a u:=by
 funext b;unfold upd;split<;>rfl
theorem zBb {u:HO} (h:H a=some o) (h':H b=some u) (d:o≠u):a≠b:=by
 intro e;subst e;rw [h] at h';exact d (qAa h')
theorem zAp (h:H a=some o) (h':H b=none):a≠b:=by
 intro e;subst e;rw [h] at h';cases h'
section
variable (P:Program) (w:World)
def zAs (H:Hp) (h:Heap) (a:Addr):HO->Prop
 | .lst xs=>xs.length<=sizeLine/\∃(its:List Value) (n:Nat),Vals xs its/\h.get? a=some {cls:=.type "list",data:=.seq its.toArray n}
 | .tup xs=>xs.length<=sizeLine/\∃its:List Value,Vals xs its/\IsTup h a its.toArray
 | .dK kvs=>kvs.length<=sizeLine/\(a==sysModules)=false/\∃vs,KV kvs vs/\h.DictOf (zA5 P w) a vs
 | .dT kvs=>kvs.length<=sizeLine/\(a==sysModules)=false/\∃xs:List (List Key×Addr×Value),
   Paired (fun (p:List Key×V) (q:List Key×Addr×Value)=>p.1=q.1/\H q.2.1=some (.tup (p.1.map kV))/\RelV p.2 q.2.2) kvs xs /\
   ∃o es ep,h.get? a=some o/\o.ExactDict/\o.data= .dict es ep/\es.toList=xs.map (entryOfKey (tupleKind (zA5 P w)))/\(xs.map (·.1)).Nodup
 | .set S n=>h.SetOf (intKind P w) a S n
 | .ins C dx fs=>H dx=some (.own a)/\fs.length<=1000/\dx≠a/\h.get? a=some (PySem.W.instObj C dx) /\
   ∃mA,h.Ns1 dx mA/\(∀f,RelO (fs.lookup f) (mA f))/\PySem.Within mA (fs.map (·.1))
 | .own _=>∃o,h.get? a=some o
 | .xd fs=>∃mA,h.Ns1 a mA/\∀f,RelO (fs.lookup f) (mA f)
 | .rng lo hi=>∃t u v,h.get? a=some {cls:=.type "range",data:=.fields #[.int lo t,.int hi u,.int 1 v]}
 | .frz o u=>h.get? a=some o/\zAs H h a u
 | .tbl ps=>h.get? a=some {cls:=.none,data:=.fields ps}
 | .met f x=>h.get? a=some (PySem.W.methodObj (.ref f) (.ref x))
 | .ext φ=>φ h/\(∃o,h.get? a=some o)/\∀h1 h2:Heap,φ h1->(∀o,h1.get? a=some o->h2.get? a=some o)->φ h2
def HOk (H:Hp) (h:Heap):Prop:=∀a o,H a=some o->zAs P w H h a o
end
section
variable {P:Program} {w:World} {H H':Hp} {h h':Heap} {a:Addr} {o:HO}
theorem zAs.lt (x:zAs P w H h a o):a<h.objs.size:=by
 cases o with
 | lst xs=>obtain ⟨_,_,_,_,e⟩:=x;exact qAL e
 | tup xs=>obtain ⟨_,_,_,p⟩:=x;exact p.lt
 | dK kvs=>obtain ⟨_,_,_,_,o,_,_,e,_⟩:=x;exact qAL e
 | dT kvs=>obtain ⟨_,_,_,_,o,_,_,e,_⟩:=x;exact qAL e
 | set S n=>obtain ⟨o,_,_,_,e,_⟩:=x;exact qAL e
 | ins C dx fs=>obtain ⟨_,_,_,e,_⟩:=x;exact qAL e
 | own y=>obtain ⟨_,e⟩:=x;exact qAL e
 | xd fs=>obtain ⟨_,⟨_,_,_,e,_⟩,_⟩:=x;exact qAL e
 | rng lo hi=>obtain ⟨_,_,_,e⟩:=x;exact qAL e
 | frz ob u=>obtain ⟨e,_⟩:=x;exact qAL e
 | tbl ps=>exact qAL (show h.get? a=some _ from x)
 | met f y=>exact qAL (show h.get? a=some _ from x)
 | ext φ=>obtain ⟨_,⟨_,e⟩,_⟩:=x;exact qAL e
theorem Paired.mapP {α β:Type} {F G:α->β->Prop}:∀{l₁:List α} {l₂:List β},Paired F l₁ l₂->(∀a b,F a b->G a b)->Paired G l₁ l₂
 | _,_,.nil,_=>.nil
 | _,_,.cons r t,f=>.cons (f _ _ r) (Paired.mapP t f)
theorem zAs.stay (x:zAs P w H h a o) (k:∀b u,(b=a\/H b=some (.own a))->h.get? b=some u->h'.get? b=some u)
  (ho:∀b,H b=some (.own a)->H' b=some (.own a)) (ht:∀b xs,H b=some (.tup xs)->H' b=some (.tup xs)):zAs P w H' h' a o:=by
 induction o with
 | lst xs=>obtain ⟨z,its,n,r,e⟩:=x;exact ⟨z,its,n,r,k _ _ (.inl rfl) e⟩
 | tup xs=>obtain ⟨z,its,r,ob,e,c⟩:=x;exact ⟨z,its,r,ob,k _ _ (.inl rfl) e,c⟩
 | dK kvs=>obtain ⟨z,y,vs,r,ob,es,ep,e,c⟩:=x;exact ⟨z,y,vs,r,ob,es,ep,k _ _ (.inl rfl) e,c⟩
 | dT kvs =>
  obtain ⟨z,y,xs,r,ob,es,ep,e,c⟩:=x;exact ⟨z,y,xs,Paired.mapP r fun p q z=>⟨z.1,ht _ _ z.2.1,z.2.2⟩,ob,es,ep,k _ _ (.inl rfl) e,c⟩
 | set S n=>obtain ⟨ob,es,ep,t,e,c⟩:=x;exact ⟨ob,es,ep,t,k _ _ (.inl rfl) e,c⟩
 | ins C dx fs =>
  obtain ⟨d,z,ne,e,mA,⟨od,es,ep,e2,c⟩,r⟩:=x;exact ⟨ho _ d,z,ne,k _ _ (.inl rfl) e,mA,⟨od,es,ep,k _ _ (.inr d) e2,c⟩,r⟩
 | own y=>obtain ⟨ob,e⟩:=x;exact ⟨ob,k _ _ (.inl rfl) e⟩
 | xd fs=>obtain ⟨mA,⟨od,es,ep,e,c⟩,r⟩:=x;exact ⟨mA,⟨od,es,ep,k _ _ (.inl rfl) e,c⟩,r⟩
 | rng lo hi=>obtain ⟨t,u,v,e⟩:=x;exact ⟨t,u,v,k _ _ (.inl rfl) e⟩
 | frz ob u ih=>obtain ⟨e,q⟩:=x;exact ⟨k _ _ (.inl rfl) e,ih q⟩
 | tbl ps =>
  have e:h.get? a=some {cls:=.none,data:=.fields ps}:=x;show h'.get? a=some {cls:=.none,data:=.fields ps};exact k a _ (.inl rfl) e
 | met f y =>
  have e:h.get? a=some (PySem.W.methodObj (.ref f) (.ref y)):=x;show h'.get? a=some (PySem.W.methodObj (.ref f) (.ref y));exact k a _ (.inl rfl) e
 | ext φ=>obtain ⟨p,⟨o,e⟩,st⟩:=x;exact ⟨st _ _ p fun o q=>k _ _ (.inl rfl) q,⟨o,k _ _ (.inl rfl) e⟩,st⟩
theorem HOk.lt (x:HOk P w H h) (e:H a=some o):a<h.objs.size:=(x a o e).lt
theorem HOk.fresh (x:HOk P w H h) (e:h.objs.size<=a):H a=none:=by
 cases q:H a with
 | none=>rfl
 | some u=>exact absurd (qAp (x.lt q) e) (qA3 _)
theorem HOk.kept (x:HOk P w H h) (k:∀b u,h.get? b=some u->h'.get? b=some u):HOk P w H h':=fun a o e =>
 (x a o e).stay (fun b u _ q=>k b u q) (fun _ q=>q) fun _ _ q=>q
theorem HOk.laid (x:HOk P w H h) (k:∀b u,h.get? b=some u->h'.get? b=some u) (hp:h.objs.size<=a) (new:zAs P w (upd H a o) h' a o):HOk P w (upd H a o) h':=fun b u e=>by
 have hn:=x.fresh hp
 by_cases hb:b=a
 ·subst hb;rw [upd_same] at e;cases e;exact new
 ·rw [upd_ne hb] at e;exact (x b u e).stay (fun c v _ q=>k c v q) (fun c q=>by rw [upd_ne (zAp q hn)];exact q) fun c xs q=>by rw [upd_ne (zAp q hn)];exact q
end
def Rd (H:Hp) (a:Addr) (u:HO):Prop:=H a=some u\/∃o,H a=some (.frz o u)
theorem Rd.ok {u:HO} (r:Rd H a u) (x:HOk P w H h):zAs P w H h a u:=by
 rcases r with r| ⟨o,r⟩
 ·exact x a u r
 ·obtain ⟨_,q⟩:=x a _ r;exact q
def Mut:Option HO->Prop
 | some (.lst _)=>True
 | some (.dK _)=>True
 | some (.dT _)=>True
 | some (.set _ _)=>True
 | some (.ins _ _ _)=>True
 | some (.ext _)=>True
 | _=>False
section
variable {P:Program} {w:World} {H:Hp} {h h':Heap} {x e:Addr} {o':HO}
theorem HOk.write (ok:HOk P w H h) (mu:Mut (H x)) (he:e=x\/H e=some (.own x)) (k:∀b u,b≠e->h.get? b=some u->h'.get? b=some u) (heo:∃u,h'.get? e=some u)
  (new:zAs P w (upd H x o') h' x o'):HOk P w (upd H x o') h':=fun b u q=>by
 have nown:∀c y,H c=some (.own y)->c≠x:=fun c y r z=>by subst z;rw [r] at mu;exact mu
 have ntup:∀c xs,H c=some (.tup xs)->c≠x:=fun c xs r z=>by subst z;rw [r] at mu;exact mu
 by_cases hb:b=x
 ·subst hb;rw [upd_same] at q;cases q;exact new
 ·rw [upd_ne hb] at q
  by_cases hbe:b=e
  ·have q':H b=some (.own x):=by
    rcases he with z| z
    ·exact absurd (hbe.trans z) hb
    ·rw [hbe];exact z
   rw [q] at q';cases q';obtain ⟨v,hv⟩:=heo;exact ⟨v,by rw [hbe];exact hv⟩
  ·refine (ok b u q).stay (fun c v hc r=>k c v ?_ r) (fun c r=>by rw [upd_ne (nown c b r)];exact r) fun c xs r=>by rw [upd_ne (ntup c xs r)];exact r
   rcases hc with rfl| hc
   ·exact hbe
   ·rintro rfl;rcases he with z| z
    ·exact nown c b hc z
    ·rw [hc] at z;cases z;exact hb rfl
end
structure Un (fs ex:List Addr) (H H':Hp) (h h':Heap):Prop where
 keep:∀b o,h.get? b=some o->H b=none->b∉fs->b∉ex->h'.get? b=some o
 slot:∀b o,h.get? b=some o->H b=none->b∈fs->b∉ex->∃sl,h'.get? b=some {o with slots:=sl}
 free:∀b o,h.get? b=some o->H b=none->b∉ex->H' b=none
 there:∀b o,h.get? b=some o->b∉ex->∃o',h'.get? b=some o'
 tups:∀b xs,H b=some (.tup xs)->H' b=some (.tup xs)
 frzs:∀b o u,H b=some (.frz o u)->H' b=some (.frz o u)
 tbls:∀b ps,H b=some (.tbl ps)->∃more,H' b=some (.tbl (ps++more))
section
variable {fs fs' ex ex':List Addr} {H H1 H2:Hp} {h h1 h2 h':Heap} {a x e:Addr} {o:HO}
theorem Un.any (u:Un fs ex H H1 h h1) {ob:Obj} (q:h.get? b=some ob) (n:H b=none) (hx:b∉ex):∃sl,h1.get? b=some {ob with slots:=sl}:=by
 by_cases hb:b∈fs
 ·exact u.slot b ob q n hb hx
 ·exact ⟨ob.slots,u.keep b ob q n hb hx⟩
theorem Un.kept (k:∀b u,h.get? b=some u->h'.get? b=some u):Un fs ex H H h h' :=
 ⟨fun b ob q _ _ _=>k b ob q,fun b ob q _ _ _=>⟨ob.slots,k b ob q⟩,fun _ _ _ n _=>n,fun b ob q _=>⟨ob,k b ob q⟩,fun _ _ q=>q,fun _ _ _ q=>q,fun _ ps q=>⟨#[],by rw [q];simp⟩⟩
theorem Un.refl:Un fs ex H H h h:=Un.kept fun _ _ q=>q
theorem Un.laid (k:∀b u,h.get? b=some u->h'.get? b=some u) (hp:h.objs.size<=a) (hn:H a=none):Un fs ex H (upd H a o) h h' where
 keep:=fun b u q _ _ _=>k b u q
 slot:=fun b u q _ _ _=>⟨u.slots,k b u q⟩
 free:=fun b u q n _=>by rw [upd_ne (qAZ (qAp (qAL q) hp))];exact n
 there:=fun b u q _=>⟨u,k b u q⟩
 tups:=fun b xs q=>by rw [upd_ne (zAp q hn)];exact q
 frzs:=fun b u xs q=>by rw [upd_ne (zAp q hn)];exact q
 tbls:=fun b ps q=>⟨#[],by rw [upd_ne (zAp q hn),q];simp⟩
theorem Un.write (mu:Mut (H x)) (he:e=x\/H e=some (.own x)) (k:∀b u,b≠e->h.get? b=some u->h'.get? b=some u) (heo:∃u,h'.get? e=some u):Un fs ex H (upd H x o) h h':=by
 have hx:∀b,H b=none->b≠x:=fun b n z=>by subst z;rw [n] at mu;exact mu
 have hb:∀b,H b=none->b≠e:=fun b n z=>by
  subst z;rcases he with r| r
  ·exact hx b n r
  ·rw [n] at r;cases r
 have hm:∀b u,H b=some u->¬Mut (some u)->b≠x:=fun b u q nm z=>by subst z;rw [q] at mu;exact nm mu
 refine ⟨fun b u q n _ _=>k b u (hb b n) q,fun b u q n _ _=>⟨u.slots,k b u (hb b n) q⟩,fun b u q n _=>by rw [upd_ne (hx b n)];exact n,fun b u q _=>?_,
  fun b xs q=>by rw [upd_ne (hm b _ q fun z=>z)];exact q,fun b u xs q=>by rw [upd_ne (hm b _ q fun z=>z)];exact q,fun b ps q=>⟨#[],by rw [upd_ne (hm b _ q fun z=>z),q];simp⟩⟩
 by_cases hbe:b=e
 ·subst hbe;exact heo
 ·exact ⟨u,k b u hbe q⟩
end
def trk (h:Heap) (H:Hp):List Addr:=(List.range h.objs.size).filter fun a=>(H a).isSome
def hidT (h:Heap) (H:Hp):Heap:=PySem.W.hideAll h (trk h H)
theorem hidT_size (h:Heap) (H:Hp):(hidT h H).objs.size=h.objs.size:=PySem.W.hideAll_size _ _
theorem hidT_get {o:Obj} (e:h.get? b=some o) (n:H b=none):(hidT h H).get? b=some o :=
 PySem.W.hideAll_get _ e fun hm=>by
  have q:(H b).isSome=true:=(qAS.mp hm).2;rw [n] at q;simp at q
theorem of_hidT {o:Obj} (e:(hidT h H).get? b=some o):h.get? b=some o/\H b=none:=by
 have e':h.get? b=some o:=PySem.W.of_hideAll (trk h H) e;refine ⟨e',?_⟩
 cases q:H b with
 | none=>rfl
 | some x =>
  have hm:b∈trk h H:=qAS.mpr ⟨qA9.mpr (qAL e'),by simp [q]⟩;have z:(hidT h H).get? b=none:=PySem.W.hideAll_none (trk h H) hm;rw [z] at e;cases e
structure Mod (K:PySem.W.Frag) (mg:Str->Option Value) (base:Heap):Prop where
 kin:K.In base
 glob:base.Ns mainGlobals mg
 blt:∃mb,base.Ns builtinsNs mb/\∀x:Str,x≠ "__name__" ->mb x=bootBuiltins x
 nolimit:base.NoLimit
structure Cx where
 prog:Program
 w:World
 K:PySem.W.Frag
 mg:Str->Option Value
 base:Heap
 A:Around
 N:List Str
 s₀:Shared
 H₀:Hp
 env:Env
 outer:List Env
 stack:List Env
 ex:List Addr
 fn:Str->Bool
 calm:Bool
 pn:List (Addr×Obj)
 xe:Value->Shared->Prop
variable {X:Cx}
def frs (l:List Env):List Addr:=l.filterMap (·.frame)
abbrev Cx.fs (X:Cx):List Addr:=frs X.outer
def Vis (sc:Scope) (x:Str):Prop:=sc.names.lookup x=some .local\/sc.names.lookup x=some .cell\/sc.names.lookup x=some .free
def Loc (sc:Scope) (x:Str):Prop:=sc.names.lookup x=some .local\/sc.names.lookup x=some .cell
def Look (env:Env) (h:Heap) (m:Str->Option Value) (x:Str) (u:Value):Prop :=
 (env.kindOf x=some .local/\m x=some u)\/((env.kindOf x=some .cell\/env.kindOf x=some .free)/\∃c,env.cells.lookup x=some c/\h.IsCell c (some u))
structure Cx.Ok (X:Cx):Prop where
 mod:Mod X.K X.mg X.base
 kind:X.env.scope.kind= .function
 glob:X.env.globals=mainGlobals
 blt:X.env.builtins=builtinsNs
 above:X.s₀.heap.objs.size<=X.env.locals
 inj:∀x y c,X.env.cells.lookup x=some c->X.env.cells.lookup y=some c->x=y
 has:∀x,(X.env.kindOf x=some .cell\/X.env.kindOf x=some .free)->∃c,X.env.cells.lookup x=some c
 cab:∀x c,X.fn x=true->X.env.cells.lookup x=some c->X.s₀.heap.objs.size<=c
 hd:X.calm=true->X.A.handled=none
 frames:X.A.frames=some X.stack
 stk:X.stack=X.outer\/(X.stack=X.env::X.outer/\X.env.frame=some X.env.locals)
 exf:∀b∈X.ex,b≠X.env.locals/\∀x c,X.env.cells.lookup x=some c->c≠b
 bs:∀b o,X.base.get? b=some o->X.s₀.heap.get? b=some o/\X.H₀ b=none
 bsz:X.base.objs.size<=X.s₀.heap.objs.size
 noex:∀b o,X.base.get? b=some o->b∉X.ex
 exfs:∀b∈X.ex,b∉X.fs
 funs:X.s₀.heap.FunFrames X.base X.outer
 frf:∀b∈X.fs,X.H₀ b=none
structure Inv (X:Cx) (pins:List (Addr×Obj)) (σ:List (Option V)) (H:Hp) (s:Shared):Prop where
 ok:X.Ok
 os:s.os=X.s₀.os
 bare:AllBare s.gens
 base:Un X.fs X.ex X.H₀ H X.s₀.heap s.heap
 loc:∃m,s.heap.Ns X.env.locals m/\∀(i:Nat) (x:Str) (v:V),X.N[i]?=some x->σ[i]?=some (some v)->Vis X.env.scope x->∃u,RelV v u/\Look X.env s.heap m x u
 cell:∀x c,X.env.cells.lookup x=some c->∃v,s.heap.IsCell c v
 free:H X.env.locals=none
 freeC:∀x c,X.env.cells.lookup x=some c->H c=none
 pin:∀p∈X.pn++pins,s.heap.get? p.1=some p.2/\H p.1=none/\p.1≠X.env.locals/\p.1∉X.fs/\∀v,p.2.data≠.cell v
 hok:HOk X.prog X.w H s.heap
 len:σ.length=X.N.length
section
variable {X:Cx} {pins:List (Addr×Obj)} {σ:List (Option V)} {H H':Hp} {s:Shared} {h':Heap}
theorem Cx.Ok.nofr (ok:X.Ok) {o:Obj} (e:X.base.get? b=some o):b∉X.fs:=fun hb=>by
 have:=(ok.funs.mem hb).1;rw [e] at this;cases this
theorem Inv.bs (I:Inv X pins σ H s):∀b o,X.base.get? b=some o->s.heap.get? b=some o/\H b=none:=fun b o e =>
 ⟨I.base.keep b o (I.ok.bs b o e).1 (I.ok.bs b o e).2 (I.ok.nofr e) (I.ok.noex b o e),I.base.free b o (I.ok.bs b o e).1 (I.ok.bs b o e).2 (I.ok.noex b o e)⟩
theorem Inv.bk (I:Inv X pins σ H s):∀b o,X.base.get? b=some o->s.heap.get? b=some o:=fun b o e=>(I.bs b o e).1
theorem Inv.mod (I:Inv X pins σ H s):Mod X.K X.mg X.base:=I.ok.mod
theorem Inv.kIn (I:Inv X pins σ H s):X.K.In s.heap:=I.ok.mod.kin.keeps I.bk
theorem Inv.nolimit (I:Inv X pins σ H s):s.heap.NoLimit:=I.ok.mod.nolimit.keeps I.bk
theorem Inv.lt (I:Inv X pins σ H s):X.env.locals<s.heap.objs.size:=let ⟨_,hn,_⟩:=I.loc;hn.lt
theorem Inv.sz (I:Inv X pins σ H s):X.s₀.heap.objs.size<=s.heap.objs.size:=qAX I.ok.above (qBz I.lt)
theorem Inv.nofs (I:Inv X pins σ H s) (h:s.heap.objs.size<=a):a∉X.fs:=fun hb=>by
 obtain ⟨_,o,ho,_⟩:=I.ok.funs.mem hb;exact absurd (qAp (qAL ho) (qAX I.sz h)) (qA3 _)
theorem Inv.cne (I:Inv X pins σ H s):∀x c,X.env.cells.lookup x=some c->c≠X.env.locals:=fun x c e z=>by
 obtain ⟨v,o,ho,hd⟩:=I.cell x c e;obtain ⟨m,⟨o',es,ep,ho',hd',_⟩,_⟩:=I.loc;rw [z,ho'] at ho;cases ho;rw [hd'] at hd;cases hd
theorem Inv.funs (I:Inv X pins σ H s):s.heap.FunFrames X.base X.outer:=by
 have all:∀(l:List Env),(∀b∈frs l,b∈X.fs)->X.s₀.heap.FunFrames X.base l->s.heap.FunFrames X.base l:=by
  intro l
  induction l with
  | nil=>intro _ _;trivial
  | cons env r ih =>
   intro hs hl;obtain ⟨hk,⟨L,o,hf,hn,ho,hd⟩,hr⟩:=hl;have hL:L∈X.fs:=hs L (by unfold frs;rw [qCJ,hf];exact qAT);obtain ⟨sl,e⟩:=I.base.slot L o ho (I.ok.frf L hL) hL fun z=>I.ok.exfs L z hL;exact ⟨hk,⟨L,_,hf,hn,e,hd⟩,ih (fun b hb=>hs b (by unfold frs;rw [qCJ,hf];exact qAR _ hb)) hr⟩
 exact all X.outer (fun _ hb=>hb) I.ok.funs
theorem Inv.stack (I:Inv X pins σ H s):s.heap.FunFrames X.base X.stack:=by
 rcases I.ok.stk with e| ⟨e,hf⟩
 ·rw [e];exact I.funs
 ·rw [e];obtain ⟨m,hn,_⟩:=I.loc;refine .cons (by rw [I.ok.kind];decide) hf hn ?_ I.funs;exact Heap.get?_none_of_le (qAX I.ok.bsz I.ok.above)
theorem Inv.stkSub (I:Inv X pins σ H s):∀b∈frs X.stack,b∈X.env.locals::X.fs:=fun b hb=>by
 rcases I.ok.stk with e| ⟨e,hf⟩
 ·rw [e] at hb;exact qAR _ hb
 ·rw [e] at hb;unfold frs at hb;rw [qCJ,hf] at hb;exact hb
theorem Inv.stkFree (I:Inv X pins σ H s):∀b∈frs X.stack,H b=none:=fun b hb=>by
 rcases qAN.mp (I.stkSub b hb) with e| hb
 ·rw [e];exact I.free
 ·obtain ⟨_,o,ho,_⟩:=I.ok.funs.mem hb;exact I.base.free b o ho (I.ok.frf b hb) fun z=>I.ok.exfs b z hb
theorem Inv.step {g':Array GenState} {t':Nat} {d':Drawn} {ch:List Addr} (I:Inv X pins σ H s)
  (hch:∀b∈ch,(b∈X.ex\/X.s₀.heap.objs.size<=b)/\b≠X.env.locals/\(∀x c,X.env.cells.lookup x=some c->c≠b)/\∀p∈X.pn++pins,p.1≠b)
  (keep:∀b o,b≠X.env.locals->b∉X.fs->b∉ch->s.heap.get? b=some o->H b=none->h'.get? b=some o)
  (slot:∀b o,b≠X.env.locals->b∈X.fs->b∉ch->s.heap.get? b=some o->H b=none->∃sl,h'.get? b=some {o with slots:=sl}) (free:∀b o,b∉ch->s.heap.get? b=some o->H b=none->H' b=none)
  (there:∀b o,b∉ch->s.heap.get? b=some o->∃o',h'.get? b=some o')
  (tups:∀b xs,H b=some (.tup xs)->H' b=some (.tup xs)) (frzs:∀b o u,H b=some (.frz o u)->H' b=some (.frz o u)) (tbls:∀b ps,H b=some (.tbl ps)->∃more,H' b=some (.tbl (ps++more)))
  (ns:∀m,s.heap.Ns X.env.locals m->h'.Ns X.env.locals m) (hok:HOk X.prog X.w H' h') (hg:AllBare g') :
  Inv X pins σ H' {s with heap:=h',gens:=g',drawn:=d',toks:=t'}:=by
 have neL:∀b o,X.s₀.heap.get? b=some o->b≠X.env.locals:=fun b o e=>qAZ (qAp (qAL e) I.ok.above)
 have neC:∀b o,X.s₀.heap.get? b=some o->b∉X.ex->b∉ch:=fun b o e hx hb=>by
  rcases (hch b hb).1 with z| z
  ·exact hx z
  ·exact absurd (qAp (qAL e) z) (qA3 _)
 have cellK:∀x c,X.env.cells.lookup x=some c->∀v,s.heap.IsCell c v->h'.IsCell c v:=fun x c e v ⟨o,ho,hd⟩=>by
  have nch:c∉ch:=fun z=>(hch c z).2.2.1 x c e rfl
  by_cases hc:c∈X.fs
  ·obtain ⟨sl,q⟩:=slot c o (I.cne x c e) hc nch ho (I.freeC x c e);exact ⟨_,q,hd⟩
  ·exact ⟨o,keep c o (I.cne x c e) hc nch ho (I.freeC x c e),hd⟩
 refine ⟨I.ok,I.os,hg,⟨fun b o e n hb hx=>?_,fun b o e n hb hx=>?_,fun b o e n hx=>?_,fun b o e hx=>?_,fun b xs e=>tups b xs (I.base.tups b xs e),fun b o xs e=>frzs b o xs (I.base.frzs b o xs e),fun b ps e=>?_⟩,?_,fun x c e=>?_,?_,fun x c e=>?_,fun p hp=>?_,hok,I.len⟩
 ·exact keep b o (neL b o e) hb (neC b o e hx) (I.base.keep b o e n hb hx) (I.base.free b o e n hx)
 ·obtain ⟨sl,e1⟩:=I.base.slot b o e n hb hx;obtain ⟨sl',e2⟩:=slot b _ (neL b o e) hb (neC b o e hx) e1 (I.base.free b o e n hx);exact ⟨sl',e2⟩
 ·obtain ⟨o',e1⟩:=I.base.there b o e hx;exact free b o' (neC b o e hx) e1 (I.base.free b o e n hx)
 ·obtain ⟨o',e1⟩:=I.base.there b o e hx;exact there b o' (neC b o e hx) e1
 ·obtain ⟨m1,e1⟩:=I.base.tbls b ps e;obtain ⟨m2,e2⟩:=tbls b _ e1;exact ⟨m1++m2,by rw [e2,Array.append_assoc]⟩
 ·obtain ⟨m,hn,hl⟩:=I.loc;refine ⟨m,ns m hn,fun i x v e1 e2 e3=>?_⟩;obtain ⟨u,r,l⟩:=hl i x v e1 e2 e3;refine ⟨u,r,?_⟩;rcases l with l| ⟨k,c,e,z⟩
  ·exact .inl l
  ·exact .inr ⟨k,c,e,cellK x c e _ z⟩
 ·obtain ⟨v,z⟩:=I.cell x c e;exact ⟨v,cellK x c e v z⟩
 ·obtain ⟨m,⟨o,_,_,ho,_⟩,_⟩:=I.loc;exact free _ o (fun z=>(hch _ z).2.1 rfl) ho I.free
 ·obtain ⟨v,o,ho,hd⟩:=I.cell x c e;exact free c o (fun z=>(hch c z).2.2.1 x c e rfl) ho (I.freeC x c e)
 ·obtain ⟨e,n,ne,nf,d⟩:=I.pin p hp;have nch:p.1∉ch:=fun z=>(hch p.1 z).2.2.2 p hp rfl;exact ⟨keep p.1 p.2 ne nf nch e n,free p.1 p.2 nch e n,ne,nf,d⟩
theorem Inv.un {t':Nat} (I:Inv X pins σ H s) (u:Un X.fs [] H H' s.heap h') (hok:HOk X.prog X.w H' h'):Inv X pins σ H' {s with heap:=h',toks:=t'}:=by
 obtain ⟨m,⟨o,es,ep,ho,r⟩,_⟩:=id I.loc;obtain ⟨sl,hL⟩:=u.any ho I.free (by simp)
 exact I.step (g':=s.gens) (d':=s.drawn) (ch:=[]) (fun _ z=>nomatch z) (fun b o _ hb _ e n=>u.keep b o e n hb (by simp)) (fun b o _ hb _ e n=>u.slot b o e n hb (by simp)) (fun b o _ e n=>u.free b o e n (by simp)) (fun b o _ e=>u.there b o e (by simp)) u.tups u.frzs u.tbls (fun m' hm=>by
  obtain ⟨o',es',ep',ho',r'⟩:=hm;rw [ho] at ho';cases ho';exact ⟨_,es',ep',hL,r'⟩) hok I.bare
theorem Inv.call {g':Array GenState} {t':Nat} {d':Drawn} {ch:List Addr} (I:Inv X pins σ H s) (u:Un (frs X.stack) ch H H' s.heap h') (hok:HOk X.prog X.w H' h') (hg:AllBare g')
  (hch:∀b∈ch,(b∈X.ex\/X.s₀.heap.objs.size<=b)/\b≠X.env.locals/\(∀x c,X.env.cells.lookup x=some c->c≠b)/\∀p∈X.pn++pins,p.1≠b) :
  Inv X pins σ H' {s with heap:=h',gens:=g',drawn:=d',toks:=t'}:=by
 obtain ⟨m,⟨o,es,ep,ho,r⟩,_⟩:=id I.loc;obtain ⟨sl,hL⟩:=u.any ho I.free fun z=>(hch _ z).2.1 rfl
 exact I.step (ch:=ch) hch (fun b o hL hb hc e n=>u.keep b o e n (fun z=>(qAN.mp (I.stkSub b z)).elim hL hb) hc) (fun b o _ _ hc e n=>u.any e n hc) (fun b o hc e n=>u.free b o e n hc) (fun b o hc e=>u.there b o e hc) u.tups u.frzs u.tbls (fun m' hm=>by
  obtain ⟨o',es',ep',ho',r'⟩:=hm;rw [ho] at ho';cases ho';exact ⟨_,es',ep',hL,r'⟩) hok hg
theorem Inv.turned {t':Nat} {it:Addr} (I:Inv X pins σ H s) (k:∀b o,b≠it->s.heap.get? b=some o->h'.get? b=some o) (hn:H it=none) (hL:it≠X.env.locals)
  (h1:it∈X.ex\/X.s₀.heap.objs.size<=it) (h2:∀x c,X.env.cells.lookup x=some c->c≠it) (h3:∀p∈X.pn++pins,p.1≠it):Inv X pins σ H {s with heap:=h',toks:=t'}:=by
 have nit:∀b u,H b=some u->b≠it:=fun b u e z=>by rw [z,hn] at e;cases e
 refine I.step (g':=s.gens) (d':=s.drawn) (ch:=[it]) (fun b hb=>?_) (fun b o _ _ hc e _=>k b o (fun z=>hc (by simp [z])) e) (fun b o _ _ hc e _=>⟨o.slots,k b o (fun z=>hc (by simp [z])) e⟩) (fun _ _ _ _ n=>n)
  (fun b o hc e=>⟨o,k b o (fun z=>hc (by simp [z])) e⟩) (fun _ _ e=>e) (fun _ _ _ e=>e) (fun b ps e=>⟨#[],by rw [e];simp⟩) (fun m hm=>?_) (fun b u e=>?_) I.bare
 ·have e:b=it:=by simpa using hb
  subst e;exact ⟨h1,hL,h2,h3⟩
 ·obtain ⟨o,es,ep,ho,r⟩:=hm;exact ⟨o,es,ep,k _ o (qAr hL) ho,r⟩
 ·refine (I.hok b u e).stay (fun c v hc q=>k c v ?_ q) (fun _ q=>q) fun _ _ q=>q;rcases hc with z| z
  ·rw [z];exact nit b u e
  ·exact nit c _ z
theorem Inv.tok (I:Inv X pins σ H s) (t:Nat):Inv X pins σ H {s with toks:=t}:=I.un (h':=s.heap) (t':=t) Un.refl I.hok
theorem Inv.kept {t':Nat} (I:Inv X pins σ H s) (k:∀b u,s.heap.get? b=some u->h'.get? b=some u):Inv X pins σ H {s with heap:=h',toks:=t'}:=I.un (Un.kept k) (I.hok.kept k)
theorem Inv.laid {a:Addr} {o:HO} {t':Nat} (I:Inv X pins σ H s) (k:∀b u,s.heap.get? b=some u->h'.get? b=some u) (hp:s.heap.objs.size<=a) (new:zAs X.prog X.w (upd H a o) h' a o) :
  Inv X pins σ (upd H a o) {s with heap:=h',toks:=t'}:=I.un (Un.laid k hp (I.hok.fresh hp)) (I.hok.laid k hp new)
theorem Inv.write {x e:Addr} {t':Nat} (I:Inv X pins σ H s) (mu:Mut (H x)) (he:e=x\/H e=some (.own x)) (k:∀b u,b≠e->s.heap.get? b=some u->h'.get? b=some u) (heo:∃u,h'.get? e=some u)
  (new:zAs X.prog X.w (upd H x o) h' x o):Inv X pins σ (upd H x o) {s with heap:=h',toks:=t'}:=I.un (Un.write mu he k heo) (I.hok.write mu he k heo new)
theorem Inv.pins_of {pins':List (Addr×Obj)} (I:Inv X pins σ H s) (h:∀p∈pins',s.heap.get? p.1=some p.2/\H p.1=none/\p.1≠X.env.locals/\p.1∉X.fs/\∀v,p.2.data≠.cell v):Inv X pins' σ H s :=
 ⟨I.ok,I.os,I.bare,I.base,I.loc,I.cell,I.free,I.freeC,fun p hp=>(qAU.mp hp).elim (fun z=>I.pin p (qAs _ z)) (h p),I.hok,I.len⟩
theorem nodup_ix {N:List Str} (hN:N.Nodup) {j:Nat} (a:N[i]?=some x) (b:N[j]?=some x):i=j:=by
 obtain ⟨h1,e1⟩:=qAd.mp a;obtain ⟨h2,e2⟩:=qAd.mp b;exact (List.getElem_inj hN).mp (e1.trans e2.symm)
theorem store_ok2 {M:Model} {E:Value->Shared->Prop} {Q:Unit->Shared->Prop} (I:Inv X pins σ H s) (hN:X.N.Nodup) (hi:X.N[i]?=some x) (hx:Loc X.env.scope x) (r:RelV v u)
  (h:∀s',Inv X pins (σ.set i (some v)) H s'->(∃a,Heap.SameBut a s.heap s'.heap/\(a=X.env.locals\/X.env.cells.lookup x=some a))->Q () s') (hf:X.fn x=true\/X.env.scope.names.lookup x=some .local:=by first| exact .inl rfl| exact .inr rfl| assumption):wpAny M A (storeName X.env x u) Q E s:=by
 obtain ⟨m,hn,hl⟩:=id I.loc;have hcls:(X.env.scope.kind== .class||(X.env.scope.kind== .module&&X.env.locals != X.env.globals))=false:=by rw [I.ok.kind];rfl
 have hiσ:i<σ.length:=by rw [I.len];exact (qAd.mp hi).1
 have cne:=I.cne
 have tracked:∀{a:Addr} {h':Heap},(∃o,s.heap.get? a=some o/\H a=none)->Heap.SameBut a s.heap h'->HOk X.prog X.w H h':=fun {a h'} ha hs b ob e=>by
  obtain ⟨_,_,hfree⟩:=ha;refine (I.hok b ob e).stay (fun c w' hc q=>(hs.2 c ?_).trans q) (fun _ q=>q) fun _ _ q=>q;rintro rfl;rcases hc with rfl| hc
  ·rw [hfree] at e;cases e
  ·rw [hfree] at hc;cases hc
 rcases hx with hk| hk
 ·refine wpAny_storeName_local hk hn (fun h' hn' hs=>?_) hcls;obtain ⟨oL,_,_,hoL,_⟩:=id hn;refine h _ ⟨I.ok,I.os,I.bare,⟨fun b o e n hb hx=>?_,fun b o e n hb hx=>?_,I.base.free,fun b o e hx=>?_,I.base.tups,I.base.frzs,I.base.tbls⟩,⟨_,hn',fun j y v' e1 e2 e3=>?_⟩,fun y c e=>?_,I.free,I.freeC,fun p hp=>?_,tracked ⟨oL,hoL,I.free⟩ hs,by simpa using I.len⟩ ⟨_,hs,.inl rfl⟩
  ·exact (hs.2 b (qAZ (qAp (qAL e) I.ok.above))).trans (I.base.keep b o e n hb hx)
  ·obtain ⟨sl,e1⟩:=I.base.slot b o e n hb hx;exact ⟨sl,(hs.2 b (qAZ (qAp (qAL e) I.ok.above))).trans e1⟩
  ·obtain ⟨o',e1⟩:=I.base.there b o e hx;exact ⟨o',(hs.2 b (qAZ (qAp (qAL e) I.ok.above))).trans e1⟩
  ·by_cases hj:j=i
   ·subst hj;rw [hi] at e1;cases e1;rw [qDb hiσ] at e2
    cases e2
    exact ⟨u,r,.inl ⟨hk,by simp⟩⟩
   ·rw [List.getElem?_set_ne (qAr hj)] at e2;obtain ⟨u',r',q⟩:=hl j y v' e1 e2 e3;refine ⟨u',r',?_⟩;rcases q with ⟨k,e⟩| ⟨k,c,e,z⟩
    ·refine .inl ⟨k,?_⟩;have:y≠x:=fun e=>hj (nodup_ix hN e1 (e▸hi));simp [this,e]
    ·exact .inr ⟨k,c,e,z.sameBut hs (cne y c e)⟩
  ·obtain ⟨w',z⟩:=I.cell y c e;exact ⟨w',z.sameBut hs (cne y c e)⟩
  ·obtain ⟨e,n,ne,nf,d⟩:=I.pin p hp;exact ⟨(hs.2 p.1 ne).trans e,n,ne,nf,d⟩
 ·have hfn:X.fn x=true:=by
   rcases hf with z| z
   ·exact z
   ·rw [z] at hk;cases hk
  obtain ⟨c,hc⟩:=I.ok.has x (.inl hk);obtain ⟨w',z⟩:=I.cell x c hc;refine wpAny_storeName_cell I.ok.kind hk hc z (fun h' hc' hs=>?_);obtain ⟨oc,hoc,hocd⟩:=id z;refine h {s with heap:=h'} ⟨I.ok,I.os,I.bare,⟨fun b o e n hb hx=>?_,fun b o e n hb hx=>?_,I.base.free,fun b o e hx=>?_,I.base.tups,I.base.frzs,I.base.tbls⟩,⟨m,hn.sameBut hs (qAr (cne x c hc)),fun j y v' e1 e2 e3=>?_⟩,fun y c' e=>?_,I.free,I.freeC,fun p hp=>?_,tracked ⟨oc,hoc,I.freeC x c hc⟩ hs,by simpa using I.len⟩ ⟨c,hs,.inr hc⟩
  ·exact (hs.2 b (qAZ (qAp (qAL e) (I.ok.cab x c hfn hc)))).trans (I.base.keep b o e n hb hx)
  ·obtain ⟨sl,e1⟩:=I.base.slot b o e n hb hx;exact ⟨sl,(hs.2 b (qAZ (qAp (qAL e) (I.ok.cab x c hfn hc)))).trans e1⟩
  ·obtain ⟨o',e1⟩:=I.base.there b o e hx;exact ⟨o',(hs.2 b (qAZ (qAp (qAL e) (I.ok.cab x c hfn hc)))).trans e1⟩
  ·by_cases hj:j=i
   ·subst hj;rw [hi] at e1;cases e1;rw [qDb hiσ] at e2
    cases e2
    exact ⟨u,r,.inr ⟨.inl hk,c,hc,hc'⟩⟩
   ·rw [List.getElem?_set_ne (qAr hj)] at e2;obtain ⟨u',r',q⟩:=hl j y v' e1 e2 e3;refine ⟨u',r',?_⟩;rcases q with q| ⟨k,c',e,z'⟩
    ·exact .inl q
    ·refine .inr ⟨k,c',e,z'.sameBut hs ?_⟩;rintro rfl;exact hj (nodup_ix hN e1 (I.ok.inj _ _ _ e hc▸hi))
  ·by_cases hcc:c'=c
   ·subst hcc;exact ⟨_,hc'⟩
   ·obtain ⟨w2,z2⟩:=I.cell y c' e;exact ⟨w2,z2.sameBut hs hcc⟩
  ·obtain ⟨e,n,ne,nf,d⟩:=I.pin p hp;refine ⟨(hs.2 p.1 ?_).trans e,n,ne,nf,d⟩;intro q;rw [q,hoc] at e;have q':oc=p.2:=qAa e;exact d w' (by rw [<-q'];exact hocd)
theorem store_ok {M:Model} {E:Value->Shared->Prop} {Q:Unit->Shared->Prop} (I:Inv X pins σ H s) (hN:X.N.Nodup) (hi:X.N[i]?=some x) (hx:Loc X.env.scope x) (r:RelV v u)
  (h:∀s',Inv X pins (σ.set i (some v)) H s'->Q () s') (hf:X.fn x=true\/X.env.scope.names.lookup x=some .local:=by first| exact .inl rfl| exact .inr rfl| assumption):wpAny M A (storeName X.env x u) Q E s :=
 store_ok2 I hN hi hx r (fun s' I' _=>h s' I') hf
theorem Inv.call' {s':Shared} {ch:List Addr} (I:Inv X pins σ H s) (ho:s'.os=s.os) (u:Un (frs X.stack) ch H H' s.heap s'.heap) (hok:HOk X.prog X.w H' s'.heap) (hg:AllBare s'.gens)
  (hch:∀b∈ch,(b∈X.ex\/X.s₀.heap.objs.size<=b)/\b≠X.env.locals/\(∀x c,X.env.cells.lookup x=some c->c≠b)/\∀p∈X.pn++pins,p.1≠b):Inv X pins σ H' s':=by
 obtain ⟨h',g',d',t',o'⟩:=s';have e:o'=s.os:=ho;subst e;exact I.call (g':=g') (t':=t') (d':=d') u hok hg hch
end
abbrev XK:=Value->Option Addr->Hp->Prop
abbrev St:=List (Option V)
variable {σ:St}
abbrev VK:=V->Hp->Prop
abbrev TE:=St->Hp->VK->Prop
abbrev TT:=St->Hp->(Bool->Hp->Prop)->Prop
abbrev TA:=St->Hp->(List V->Hp->Prop)->Prop
structure Ends where
 nx:St->Hp->Prop
 rt:VK
 bk:St->Hp->Prop:=fun _ _=>False
 ct:St->Hp->Prop:=fun _ _=>False
variable {D:Ends}
abbrev TS:=Ends->St->Hp->Prop
variable {tb:TS}
def EP (X:Cx) (pins:List (Addr×Obj)) (σ:St) (Q:VK) (u:Value) (s':Shared):Prop:=∃v H',Inv X pins σ H' s'/\RelV v u/\Q v H'
def TP (X:Cx) (pins:List (Addr×Obj)) (σ:St) (Q:Bool->Hp->Prop) (b:Bool) (s':Shared):Prop:=∃H',Inv X pins σ H' s'/\Q b H'
def AP (X:Cx) (pins:List (Addr×Obj)) (σ:St) (Q:List V->Hp->Prop) (us:List Value) (s':Shared):Prop:=∃vs H',Inv X pins σ H' s'/\Vals vs us/\Q vs H'
def SP (X:Cx) (pins:List (Addr×Obj)) (D:Ends) (f:Flow) (s':Shared):Prop :=
 match f with
 | .next=>∃σ' H',Inv X pins σ' H' s'/\D.nx σ' H'
 | .brk=>∃σ' H',Inv X pins σ' H' s'/\D.bk σ' H'
 | .cont=>∃σ' H',Inv X pins σ' H' s'/\D.ct σ' H'
 | .ret u=>∃v σ' H',Inv X pins σ' H' s'/\RelV v u/\D.rt v H'
def PE (X:Cx) (e:Expr) (t:TE):Prop :=
 ∀(pins:List (Addr×Obj)) (s:Shared) (σ:St) (H:Hp) (Q:VK),Inv X pins σ H s->t σ H Q->wpAny (model X.prog X.w) X.A (eval e X.env) (EP X pins σ Q) X.xe s
def PT (X:Cx) (e:Expr) (t:TT):Prop :=
 ∀(pins:List (Addr×Obj)) (s:Shared) (σ:St) (H:Hp) (Q:Bool->Hp->Prop),Inv X pins σ H s->t σ H Q->wpAny (model X.prog X.w) X.A (isTrue e X.env (eval e X.env)) (TP X pins σ Q) X.xe s
def PW (X:Cx) (e:Expr) (t:TT):Prop :=
 ∀(whole:Sem Value) (pins:List (Addr×Obj)) (s:Shared) (σ:St) (H:Hp) (Q:Bool->Hp->Prop),Inv X pins σ H s->t σ H Q->wpAny (model X.prog X.w) X.A (isTrue e X.env whole) (TP X pins σ Q) X.xe s
theorem PW.pt {t:TT} (h:PW X e t):PT X e t:=h _
def PA (X:Cx) (es:List Expr) (t:TA):Prop :=
 ∀(pos:Pos) (pins:List (Addr×Obj)) (s:Shared) (σ:St) (H:Hp) (Q:List V->Hp->Prop),Inv X pins σ H s->t σ H Q->wpAny (model X.prog X.w) X.A (spliced (backTo pos (starEach es X.env))) (AP X pins σ Q) X.xe s
def PS (X:Cx) (st:Stmt) (t:TS):Prop :=
 ∀(pins:List (Addr×Obj)) (s:Shared) (σ:St) (H:Hp) (D:Ends),Inv X pins σ H s->t D σ H->wpAny (model X.prog X.w) X.A (exec st X.env) (SP X pins D) X.xe s
def PSs (X:Cx) (st:List Stmt) (t:TS):Prop :=
 ∀(pins:List (Addr×Obj)) (s:Shared) (σ:St) (H:Hp) (D:Ends),Inv X pins σ H s->t D σ H->wpAny (model X.prog X.w) X.A (execs st X.env) (SP X pins D) X.xe s
theorem thn {α:Type} {t:Sem α} {Q Q':α->Shared->Prop} {M:Model} {E:Value->Shared->Prop} (h:wpAny M A t Q E s) (hQ:∀a s,Q a s->Q' a s):wpAny M A t Q' E s:=qAq h hQ fun _ _ x=>x
section
variable {X:Cx}
def tVar (i:Nat):TE:=fun σ H Q=>∃v,σ[i]?=some (some v)/\Q v H
def tC (v:V):TE:=fun _ H Q=>Q v H
theorem pe_var {pos:Pos} (hN:X.N[i]?=some x) (hv:Vis X.env.scope x) (hd:(x==("__debug__" : Str))=false:=by decide) (hcd:(x==("__classdict__" : Str))=false:=by decide):PE X (.Name x pos) (tVar i):=by
 intro pins s σ H Q I h;obtain ⟨v,e,h⟩:=h;obtain ⟨m,hn,hl⟩:=I.loc;obtain ⟨u,r,l⟩:=hl i x v hN e hv;have fin:EP X pins σ Q u s:=⟨v,H,I,r,h⟩;rcases l with ⟨hk,hm⟩| ⟨hk,c,hc,hcell⟩
 ·exact wpAny_Name (wpAny_loadName_local I.ok.kind hk hn hm fin) hd
 ·rcases hk with hk| hk
  ·exact wpAny_Name (wpAny_loadName_cell I.ok.kind hk hc hcell fin) hd
  ·exact wpAny_Name (wpAny_loadName_free I.ok.kind hk hc hcell fin hcd) hd
theorem zAg {i j pos}:PE X (.Constant (.int i) j pos) (tC (.int i)):=fun _ _ _ H _ I h=>wpAny_Constant_int ⟨.int i,H,I.tok _,⟨_,rfl⟩,h⟩
theorem pe_bl {b j pos}:PE X (.Constant (.bool b) j pos) (tC (.bl b)):=fun _ _ _ H _ I h=>Constant_bool ⟨.bl b,H,I,rfl,h⟩
theorem zIc {x j pos}:PE X (.Constant (.str x) j pos) (tC (.str x)):=fun _ _ _ H _ I h=>Calls.Constant_str ⟨.str x,H,I.tok _,⟨_,rfl⟩,h⟩
def Gl (X:Cx) (x:Str):Prop:=X.env.kindOf x=some .globalImplicit
theorem ld_glob {E:Value->Shared->Prop} {pos:Pos} {Q:Value->Shared->Prop} (I:Inv X pins σ H s) (hg:Gl X x) (hm:X.mg x=some u) (h:Q u s)
  (hd:(x==("__debug__" : Str))=false:=by decide):wpAny (model X.prog X.w) X.A (eval (.Name x pos) X.env) Q E s :=
 Calls.Name_function_global I.ok.kind hg (Calls.loadGlobal_global (by rw [I.ok.glob];exact I.mod.glob.keeps I.bk) hm h) hd
theorem zF6 {E:Value->Shared->Prop} {pos:Pos} {Q:Value->Shared->Prop} (I:Inv X pins σ H s) (hg:Gl X x) (hm:X.mg x=none) (hv:bootBuiltins x=some u) (h:Q u s)
  (hn:x≠ "__name__" := by decide) (hd:(x==("__debug__" : Str))=false:=by decide):wpAny (model X.prog X.w) X.A (eval (.Name x pos) X.env) Q E s:=by
 obtain ⟨mb,h1,h2⟩:=I.mod.blt;exact Calls.Name_function_global I.ok.kind hg (Calls.loadGlobal_builtin (by rw [I.ok.glob];exact I.mod.glob.keeps I.bk) hm (by rw [I.ok.blt];exact h1.keeps I.bk) ((h2 x hn).trans hv) h) hd
theorem pe_glob {pos:Pos} (hg:Gl X x) (hm:X.mg x=some u) (r:RelV v u) (hd:(x==("__debug__" : Str))=false:=by decide):PE X (.Name x pos) (tC v) :=
 fun _ _ _ H _ I h=>ld_glob I hg hm ⟨v,H,I,r,h⟩ hd
theorem zG1 {pos:Pos} (hg:Gl X x) (hm:X.mg x=none) (hv:bootBuiltins x=some u) (r:RelV v u) (hn:x≠ "__name__" := by decide) (hd:(x==("__debug__" : Str))=false:=by decide):PE X (.Name x pos) (tC v) :=
 fun _ _ _ H _ I h=>zF6 I hg hm hv ⟨v,H,I,r,h⟩ hn hd
variable {a b:Expr} {ta tb:TE} {pos:Pos}
def PC (X:Cx) (op:CmpOp) (a b:Expr) (t:TE):Prop :=
 ∀(pins:List (Addr×Obj)) (s:Shared) (σ:St) (H:Hp) (Q:VK),Inv X pins σ H s->t σ H Q ->
  wpAny (model X.prog X.w) X.A (eval a X.env) (fun v s₁=>wpAny (model X.prog X.w) X.A (eval b X.env) (fun u s₂=>wpAny (model X.prog X.w) X.A (compareOp op v u) (EP X pins σ Q) X.xe s₂) X.xe s₁) X.xe s
def tB (t:TE):TT:=fun σ H Q=>t σ H fun x H1=>∃c,x= .bl c/\Q c H1
theorem pe_cmp {t:TE} (h:PC X op a b t) (h1:behindInMarks op b=false:=by first| exact nobehind _ (by decide) (by decide)| rfl):PE X (.Compare a [op] [b] pos) t:=fun pins s σ H Q I hw=>wpAny_Compare1 (h pins s σ H Q I hw) h1
theorem zIb {t:TE} (h:PC X op a b t) (h1:behindInMarks op b=false:=by first| exact nobehind _ (by decide) (by decide)| rfl):PT X (.Compare a [op] [b] pos) (tB t):=by
 intro pins s σ H Q I hw;refine wpAny_isTrue_Compare1 (thn (h pins s σ H _ I hw) fun v s1 h1=>thn h1 fun u s2 h2=>thn h2 fun c s3 ⟨x,H1,I1,r1,q1⟩=>?_) h1;obtain ⟨d,rfl,q⟩:=q1
 cases r1
 exact qBF ⟨H1,I1,q⟩
theorem zDj {t:TE} (h:PE X e t) (he:∀whole,isTrue e X.env whole=(do let v<-whole;standAt e.pos;holding [v] (truthy v)):=by intro _;rfl):PT X e (tB t):=by
 intro pins s σ H Q I hw;refine isTrue_plain (thn (h pins s σ H _ I hw) fun v s1 ⟨x,H1,I1,r1,q1⟩=>?_) (he _);obtain ⟨d,rfl,q⟩:=q1
 cases r1
 exact qBF ⟨H1,I1,q⟩
variable {tA tB':TT} {rest:List Expr}
def tAnd (t u:TT):TT:=fun σ H Q=>t σ H fun c H1=>if c=true then u σ H1 Q else Q false H1
def tOr (t u:TT):TT:=fun σ H Q=>t σ H fun c H1=>if c=true then Q true H1 else u σ H1 Q
def tNot (t:TT):TT:=fun σ H Q=>t σ H fun c H1=>Q (!c) H1
theorem pw_and1 (ha:PT X a tA):PW X (.BoolOp .And [a] pos) tA:=by
 intro wh pins s σ H Q I h;refine isTrue_and (thn (ha pins s σ H Q I h) fun c s1 e=>?_)
 cases c with
 | true=>exact isTrue_and_nil e
 | false=>exact e
theorem pw_or1 (ha:PT X a tA):PW X (.BoolOp .Or [a] pos) tA:=by
 intro wh pins s σ H Q I h;refine isTrue_or (thn (ha pins s σ H Q I h) fun c s1 e=>?_)
 cases c with
 | false=>exact isTrue_or_nil e
 | true=>exact e
theorem pw_and (ha:PT X a tA) (hb:PW X (.BoolOp .And (b::rest) pos) tB'):PW X (.BoolOp .And (a::b::rest) pos) (tAnd tA tB'):=by
 intro wh pins s σ H Q I h;refine isTrue_and (thn (ha pins s σ H _ I h) fun c s1 ⟨H1,I1,q1⟩=>?_)
 cases c with
 | true=>exact hb wh pins s1 σ H1 Q I1 q1
 | false=>exact ⟨H1,I1,q1⟩
theorem pw_or (ha:PT X a tA) (hb:PW X (.BoolOp .Or (b::rest) pos) tB'):PW X (.BoolOp .Or (a::b::rest) pos) (tOr tA tB'):=by
 intro wh pins s σ H Q I h;refine isTrue_or (thn (ha pins s σ H _ I h) fun c s1 ⟨H1,I1,q1⟩=>?_)
 cases c with
 | true=>exact ⟨H1,I1,q1⟩
 | false=>exact hb wh pins s1 σ H1 Q I1 q1
theorem zE2 (ha:PT X a tA):PT X (.UnaryOp .Not a pos) (tNot tA):=by
 intro pins s σ H Q I h;exact isTrue_not (ha pins s σ H (fun c H1=>Q (!c) H1) I h)
def tAndV (ta tb:TE):TE:=fun σ H Q=>ta σ H fun x H1=>∃c,x= .bl c/\if c=true then tb σ H1 Q else Q (.bl false) H1
def tOrV (ta tb:TE):TE:=fun σ H Q=>ta σ H fun x H1=>∃c,x= .bl c/\if c=true then Q (.bl true) H1 else tb σ H1 Q
def tNotV (ta:TE):TE:=fun σ H Q=>ta σ H fun x H1=>∃c,x= .bl c/\Q (.bl (!c)) H1
theorem pe_one {op} {t:TE} (h:PE X a t):PE X (.BoolOp op [a] pos) t:=fun pins s σ H Q I hw=>BoolOp_one (h pins s σ H Q I hw)
theorem pe_and (ha:PE X a ta) (hb:PE X (.BoolOp .And (b::rest) pos) tb):PE X (.BoolOp .And (a::b::rest) pos) (tAndV ta tb):=by
 intro pins s σ H Q I h;refine BoolOp_and (thn (ha pins s σ H _ I h) fun v s1 ⟨x,H1,I1,r1,q1⟩=>?_);obtain ⟨c,rfl,q1⟩:=q1
 cases r1
 refine qBF ?_
 cases c with
 | true=>exact hb pins s1 σ H1 Q I1 q1
 | false=>exact ⟨.bl false,H1,I1,rfl,q1⟩
theorem pe_or (ha:PE X a ta) (hb:PE X (.BoolOp .Or (b::rest) pos) tb):PE X (.BoolOp .Or (a::b::rest) pos) (tOrV ta tb):=by
 intro pins s σ H Q I h;refine BoolOp_or (thn (ha pins s σ H _ I h) fun v s1 ⟨x,H1,I1,r1,q1⟩=>?_);obtain ⟨c,rfl,q1⟩:=q1
 cases r1
 refine qBF ?_
 cases c with
 | false=>exact hb pins s1 σ H1 Q I1 q1
 | true=>exact ⟨.bl true,H1,I1,rfl,q1⟩
theorem pe_not (ha:PE X a ta):PE X (.UnaryOp .Not a pos) (tNotV ta):=by
 intro pins s σ H Q I h;refine UnaryOp_ (thn (ha pins s σ H _ I h) fun v s1 ⟨x,H1,I1,r1,q1⟩=>?_);obtain ⟨c,rfl,q1⟩:=q1
 cases r1
 exact not_of (qBF ⟨.bl (!c),H1,I1,rfl,q1⟩)
def tIf (t:TT) (ta tb:TE):TE:=fun σ H Q=>t σ H fun c H1=>if c=true then ta σ H1 Q else tb σ H1 Q
theorem pe_ifExp {c:Expr} (hc:PT X c tA) (ha:PE X a ta) (hb:PE X b tb):PE X (.IfExp c a b pos) (tIf tA ta tb):=by
 intro pins s σ H Q I h;refine wpAny_IfExp (thn (hc pins s σ H _ I h) fun d s1 ⟨H1,I1,q1⟩=>?_)
 cases d with
 | true=>exact ha pins s1 σ H1 Q I1 q1
 | false=>exact hb pins s1 σ H1 Q I1 q1
end
def SqL (K:PySem.W.Frag) (H:Hp) (a:Addr) (xs:List V):Prop :=
 Rd H a (.lst xs) \/
  ∃(o:Obj) (its:Array Value) (n:Nat),K.lookup a=some o/\o.cls= .type "list" /\o.dict=none/\o.data= .seq its n/\its.size<=sizeLine/\Vals xs its.toList
def SqT (K:PySem.W.Frag) (H:Hp) (a:Addr) (xs:List V):Prop :=
 Rd H a (.tup xs) \/
  ∃(o:Obj) (its:Array Value) (n:Nat),K.lookup a=some o/\o.cls= .type "tuple" /\o.data= .seq its n/\its.size<=sizeLine/\Vals xs its.toList
def absV:Value->Option V
 | .none=>some .non
 | .bool b=>some (.bl b)
 | .int i _=>some (.int i)
 | .str x _=>some (.str x)
 | .bytes b _=>some (.byt b)
 | .float b _=>some (.flt b)
 | .ref a=>some (.ref a)
 | .type n=>some (.ty n)
 | _=>none
theorem RelV.abs {x:V} (r:RelV x u):absV u=some x:=by
 cases x with
 | non=>cases r;rfl
 | bl _=>cases r;rfl
 | int _=>obtain ⟨t,rfl⟩:=r;rfl
 | str _=>obtain ⟨t,rfl⟩:=r;rfl
 | byt _=>obtain ⟨t,rfl⟩:=r;rfl
 | flt _=>obtain ⟨t,rfl⟩:=r;rfl
 | ref _=>cases r;rfl
 | ty _=>cases r;rfl
theorem RelV.inj {x:V} (r:RelV x u) (q:RelV y u):x=y:=qAa (r.abs.symm.trans q.abs)
theorem Vals.inj:∀{xs ys:List V} {us:List Value},Vals xs us->Vals ys us->xs=ys
 | _,_,_,.nil,.nil=>rfl
 | _,_,_,.cons r t,.cons r' t'=>by rw [r.inj r',Vals.inj t t']
section
variable {X:Cx} {pins:List (Addr×Obj)} {σ:St} {H:Hp} {s:Shared} {a:Addr} {xs ys:List V}
theorem SqL.of {K:PySem.W.Frag} (h:H a=some (.lst xs)):SqL K H a xs:=.inl (.inl h)
theorem SqT.of {K:PySem.W.Frag} (h:H a=some (.tup xs)):SqT K H a xs:=.inl (.inl h)
theorem Inv.list (I:Inv X pins σ H s) (h:SqL X.K H a xs):∃its:List Value,Vals xs its/\PlainL s.heap a its.toArray/\xs.length<=sizeLine:=by
 rcases h with h| ⟨o,its,n,hk,hc,hd,hs,hz,r⟩
 ·obtain ⟨z,its,n,r,e⟩:=h.ok I.hok;exact ⟨its,r,⟨_,n,e,rfl,rfl,rfl⟩,z⟩
 ·refine ⟨its.toList,r,⟨o,n,I.kIn a o hk,hc,hd,by simpa using hs⟩,?_⟩;have e:=r.length;simp only [qBC] at e;lia
theorem Inv.tuple (I:Inv X pins σ H s) (h:SqT X.K H a xs):∃its:List Value,Vals xs its/\IsTup s.heap a its.toArray/\xs.length<=sizeLine:=by
 rcases h with h| ⟨o,its,n,hk,hc,hs,hz,r⟩
 ·obtain ⟨z,its,r,p⟩:=h.ok I.hok;exact ⟨its,r,p,z⟩
 ·refine ⟨its.toList,r,⟨o,I.kIn a o hk,hc,n,by simpa using hs⟩,?_⟩;have e:=r.length;simp only [qBC] at e;lia
theorem Inv.list_inj (I:Inv X pins σ H s) (h:SqL X.K H a xs) (h':SqL X.K H a ys):xs=ys:=by
 obtain ⟨its,r,⟨o,n,e,_,_,d⟩,_⟩:=I.list h;obtain ⟨its',r',⟨o',n',e',_,_,d'⟩,_⟩:=I.list h';rw [e] at e';cases e';rw [d] at d';injection d' with d1 _;have:its=its':=by simpa using qAf Array.toList d1
 subst this;exact r.inj r'
theorem Inv.tuple_inj (I:Inv X pins σ H s) (h:SqT X.K H a xs) (h':SqT X.K H a ys):xs=ys:=by
 obtain ⟨its,r,⟨o,e,_,n,d⟩,_⟩:=I.tuple h;obtain ⟨its',r',⟨o',e',_,n',d'⟩,_⟩:=I.tuple h';rw [e] at e';cases e';rw [d] at d';injection d' with d1 _;have:its=its':=by simpa using qAf Array.toList d1
 subst this;exact r.inj r'
end
abbrev Cx.wish (X:Cx) (E:Value->Shared->Prop):Cx:={X with xe:=E}
abbrev Cx.nox (X:Cx):Cx:=X.wish fun _ _=>False
theorem Cx.Ok.wish (ok:X.Ok) (E:Value->Shared->Prop):(X.wish E).Ok :=
 ⟨ok.mod,ok.kind,ok.glob,ok.blt,ok.above,ok.inj,ok.has,ok.cab,ok.hd,ok.frames,ok.stk,ok.exf,ok.bs,ok.bsz,ok.noex,ok.exfs,ok.funs,ok.frf⟩
theorem Cx.Ok.unwish {E:Value->Shared->Prop} (ok:(X.wish E).Ok):X.Ok :=
 ⟨ok.mod,ok.kind,ok.glob,ok.blt,ok.above,ok.inj,ok.has,ok.cab,ok.hd,ok.frames,ok.stk,ok.exf,ok.bs,ok.bsz,ok.noex,ok.exfs,ok.funs,ok.frf⟩
section
variable {X:Cx} {pins:List (Addr×Obj)} {σ:St} {H:Hp} {s:Shared} {E:Value->Shared->Prop}
theorem Inv.wish (I:Inv X pins σ H s) (E:Value->Shared->Prop):Inv (X.wish E) pins σ H s:=⟨I.ok.wish E,I.os,I.bare,I.base,I.loc,I.cell,I.free,I.freeC,I.pin,I.hok,I.len⟩
theorem Inv.unwish (I:Inv (X.wish E) pins σ H s):Inv X pins σ H s:=⟨I.ok.unwish,I.os,I.bare,I.base,I.loc,I.cell,I.free,I.freeC,I.pin,I.hok,I.len⟩
theorem SP.unwish {f:Flow} {s':Shared} (h:SP (X.wish E) pins D f s'):SP X pins D f s':=by
 cases f with
 | next=>obtain ⟨σ',H',I,q⟩:=h;exact ⟨σ',H',I.unwish,q⟩
 | brk=>obtain ⟨σ',H',I,q⟩:=h;exact ⟨σ',H',I.unwish,q⟩
 | cont=>obtain ⟨σ',H',I,q⟩:=h;exact ⟨σ',H',I.unwish,q⟩
 | ret u=>obtain ⟨v,σ',H',I,r,q⟩:=h;exact ⟨v,σ',H',I.unwish,r,q⟩
theorem PSs.nox {st:List Stmt} {t:TS} (h:PSs X.nox st t):PSs X st t:=fun pins s σ H D I hw =>
 qAq (h pins s σ H D (I.wish _) hw) (fun _ _ q=>q.unwish) fun _ _ z=>False.elim z
end
section
variable {X:Cx} {st:Stmt} {rest:List Stmt} {t u:TS} {e:Expr} {te:TE} {pos:Pos}
def tNext:TS:=fun D σ H=>D.nx σ H
def tSeq (t u:TS):TS:=fun D σ H=>t {D with nx:=u D} σ H
theorem zAw:PSs X [] tNext:=fun _ _ σ H _ I h=>qC1 ⟨σ,H,I,h⟩
theorem zAc (h1:PS X st t) (h2:PSs X rest u):PSs X (st::rest) (tSeq t u):=by
 intro pins s σ H D I h;refine wpAny_execs_cons (thn (h1 pins s σ H {D with nx:=u D} I h) fun f s1 q=>?_)
 cases f with
 | next =>
  obtain ⟨σ',H',I',q⟩:=q;exact h2 pins s1 σ' H' D I' q
 | ret v=>exact q
 | brk=>exact q
 | cont=>exact q
theorem zAe (h1:PS X st t):PSs X [st] t:=by
 intro pins s σ H D I h;refine wpAny_execs_cons (thn (h1 pins s σ H D I h) fun f s1 q=>?_)
 cases f with
 | next=>exact qC1 q
 | ret v=>exact q
 | brk=>exact q
 | cont=>exact q
theorem Inv.quiet (I:Inv X pins σ H s):interactive X.env=false:=by simp [interactive,I.ok.kind]
def tDrop (te:TE):TS:=fun D σ H=>te σ H fun _ H1=>D.nx σ H1
theorem zAu (he:PE X e te) (hs:swapsWith e none pos.line X.env=pure false:=by rfl):PS X (.Expr e pos) (tDrop te):=by
 intro pins s σ H D I h;exact wpAny_Expr_any (thn (he pins s σ H _ I h) fun v s1 ⟨x,H1,I1,r1,q1⟩=>⟨σ,H1,I1,q1⟩) I.quiet hs
def tRet (te:TE):TS:=fun D σ H=>te σ H D.rt
theorem zAm (he:PE X e te):PS X (.Return (some e) pos) (tRet te):=by
 intro pins s σ H D I h;exact wpAny_Return_some (thn (he pins s σ H _ I h) fun v s1 ⟨x,H1,I1,r1,q1⟩=>⟨x,σ,H1,I1,r1,q1⟩)
def tIfS (c:TT) (t u:TS):TS:=fun D σ H=>c σ H fun b H1=>if b=true then t D σ H1 else u D σ H1
theorem zCz {c:Expr} {a b:List Stmt} {tc:TT} (hc:PT X c tc) (ha:PSs X a t) (hb:PSs X b u):PS X (.If c a b pos) (tIfS tc t u):=by
 intro pins s σ H D I h;refine wpAny_If (thn (hc pins s σ H _ I h) fun d s1 ⟨H1,I1,q1⟩=>?_)
 cases d with
 | true=>exact ha pins s1 σ H1 D I1 q1
 | false=>exact hb pins s1 σ H1 D I1 q1
def tNever:TS:=fun _ _ _=>False
theorem zCc:PS X st tNever:=fun _ _ _ _ _ _ h=>h.elim
end
abbrev TG:=V->St->Hp->(St->Hp->Prop)->Prop
variable {g:TG}
abbrev TGs:=List V->St->Hp->(St->Hp->Prop)->Prop
def PG (X:Cx) (target:Expr) (t:TG):Prop :=
 ∀(pins:List (Addr×Obj)) (s:Shared) (σ:St) (H:Hp) (v:V) (u:Value) (Q:St->Hp->Prop),Inv X pins σ H s->RelV v u->t v σ H Q ->
  wpAny (model X.prog X.w) X.A (assign target X.env u) (fun _ s'=>∃σ' H',Inv X pins σ' H' s'/\Q σ' H') X.xe s
def PGs (X:Cx) (ts:List Expr) (t:TGs):Prop :=
 ∀(pins:List (Addr×Obj)) (s:Shared) (σ:St) (H:Hp) (vs:List V) (us:List Value) (Q:St->Hp->Prop),Inv X pins σ H s->Vals vs us->t vs σ H Q ->
  wpAny (model X.prog X.w) X.A (assignInOrder ((assignEach ts X.env).map (·.2)) us) (fun _ s'=>∃σ' H',Inv X pins σ' H' s'/\Q σ' H') X.xe s
abbrev TSet:=V->V->V->Hp->(Hp->Prop)->Prop
def PSet (X:Cx) (t:TSet):Prop :=
 ∀(pins:List (Addr×Obj)) (s:Shared) (σ:St) (H:Hp) (o i v:V) (ov iv u:Value) (Q:Hp->Prop),Inv X pins σ H s->RelV o ov->RelV i iv->RelV v u->t o i v H Q ->
  wpAny (model X.prog X.w) X.A (setItem ov iv u) (fun _ s'=>∃H',Inv X pins σ H' s'/\Q H') X.xe s
section
variable {X:Cx} {pos:Pos}
def gName (i:Nat):TG:=fun v σ H Q=>Q (σ.set i (some v)) H
theorem pg_name (hN:X.N.Nodup) (hi:X.N[i]?=some x) (hx:Loc X.env.scope x) (hf:X.fn x=true\/X.env.scope.names.lookup x=some .local:=by first| exact .inl rfl| exact .inr rfl| assumption):PG X (.Name x pos) (gName i):=by
 intro pins s σ H v u Q I r h;exact wpAny_assign_Name (store_ok I hN hi hx r (fun s' I'=>⟨_,H,I',h⟩) hf)
def gNil:TGs:=fun vs σ H Q=>vs=[]/\Q σ H
def gCons (t:TG) (u:TGs):TGs:=fun vs σ H Q=>∃v r,vs=v::r/\t v σ H fun σ' H'=>u r σ' H' Q
theorem zEf:PGs X [] gNil:=by
 intro pins s σ H vs us Q I r h;obtain ⟨e,h⟩:=h;subst e
 cases r
 exact assignInOrder_nil ⟨σ,H,I,h⟩
theorem zA7 {es:List Expr} {t:TG} {u:TGs} (h1:PG X e t) (h2:PGs X es u)
  (hs:(assignEach (e::es) X.env).map (·.2)=assign e X.env::(assignEach es X.env).map (·.2):=by rfl):PGs X (e::es) (gCons t u):=by
 intro pins s σ H vs us Q I r h;obtain ⟨v,vr,e1,h⟩:=h;subst e1
 cases r with
 | cons r rr =>
  rw [hs];refine assignInOrder_cons (thn (h1 pins s σ H _ _ _ I r h) fun _ s1 ⟨σ1,H1,I1,q1⟩=>?_);exact h2 pins s1 σ1 H1 _ _ Q I1 rr q1
def gTup (K:PySem.W.Frag) (n:Nat) (t:TGs):TG:=fun v σ H Q=>∃a xs,v= .ref a/\SqT K H a xs/\xs.length=n/\t xs σ H Q
theorem pg_tup {es:List Expr} {k:Nat} {t:TGs} {n:Nat} (hc:X.calm=true) (h:PGs X es t)
  (hn:(assignEach es X.env).length=n:=by rfl) (hst:(assignEach es X.env).findIdx? (·.1)=none:=by rfl):PG X (.Tuple es k pos) (gTup X.K n t):=by
 intro pins s σ H v u Q I r hw;obtain ⟨a,xs,e1,hq,hl,hw⟩:=hw;subst e1
 cases r
 obtain ⟨its,rv,ht,hz⟩:=I.tuple hq;refine assign_Tuple_tuple (I.ok.hd hc) ht (by simp [hn,<-hl,rv.length]) hst fun h' hx=>?_;have I1:Inv X pins σ H {s with heap:=h'}:=I.kept (t':=s.toks) fun b o e=>hx b o (qAZ (qAL e)) e;exact h pins _ σ H xs _ Q I1 (by simpa using rv) hw
def gSub (to ti:TE) (t:TSet):TG:=fun v σ H Q=>to σ H fun o H1=>ti σ H1 fun i H2=>t o i v H2 fun H3=>Q σ H3
theorem pg_sub {o i:Expr} {to ti:TE} {t:TSet} (ho:PE X o to) (hi:PE X i ti) (hs:PSet X t)
  (ha:∀v,assign (.Subscript o i pos) X.env v=(do
   let ov<-holding [v] (eval o X.env)
   let iv<-holding [v,ov] (eval i X.env)
   standAt pos
   holding [v,ov,iv] (setItem ov iv v)
   release [v,ov,iv] []):=by intro _;rfl):PG X (.Subscript o i pos) (gSub to ti t):=by
 intro pins s σ H v u Q I r h;rw [ha];refine qAA (qAz (thn (ho pins s σ H _ I h) fun ov s1 ⟨x,H1,I1,r1,q1⟩=>?_));refine qAA (qAz (thn (hi pins s1 σ H1 _ I1 q1) fun iv s2 ⟨y,H2,I2,r2,q2⟩=>?_));refine qAA (qB0 (qAA (qAz (thn (hs pins s2 σ H2 x y v ov iv u _ I2 r1 r2 r q2) fun _ s3 ⟨H3,I3,q3⟩=>?_))));exact wpAny_release ⟨σ,H3,I3,q3⟩
def tAsg (te:TE) (g:TG):TS:=fun D σ H=>te σ H fun x H1=>g x σ H1 D.nx
theorem ps_asg {te:TE} (he:PE X e te) (hg:PG X tg g) (hs:swapsWithSole [tg] e pos.line X.env=pure false:=by rfl) (hw:swappedStores [tg] e X.env=pure none:=by rfl)
  (h1:(assignEach [tg] X.env).map (·.2)=[assign tg X.env]:=by rfl):PS X (.Assign [tg] e pos) (tAsg te g):=by
 intro pins s σ H D I h;refine wpAny_Assign_stores (thn (he pins s σ H _ I h) fun v s1 ⟨x,H1,I1,r1,q1⟩=>?_) hs hw;rw [h1];exact thn (hg pins s1 σ H1 x v _ I1 r1 q1) fun _ s2 q=>q
theorem ps_set {te:TE} {pos':Pos} (hN:X.N.Nodup) (hi:X.N[i]?=some x) (hx:Loc X.env.scope x) (he:PE X e te) (hs:swapsWith e (some (.Name x pos')) pos.line X.env=pure false:=by rfl) (hf:X.fn x=true\/X.env.scope.names.lookup x=some .local:=by first| exact .inl rfl| exact .inr rfl| assumption) :
  PS X (.Assign [.Name x pos'] e pos) (tAsg te (gName i)):=by
 intro pins s σ H D I h;refine wpAny_Assign_Name (thn (he pins s σ H _ I h) fun v s1 ⟨y,H1,I1,r1,q1⟩=>?_) hs;exact store_ok I1 hN hi hx r1 (fun s2 I2=>⟨_,H1,I2,q1⟩) hf
end
section
variable {X:Cx} {pos:Pos}
def tWhile (c:TT) (tb:TS):TS:=fun D σ H=>∃W:Nat->St->Hp->Prop,(∃m,W m σ H)/\∀m σ H,W m σ H ->
 c σ H fun b H1=>if b=true then∃N:St->Hp->Prop,(∀σ' H',N σ' H'->∃m',m'<m/\W m' σ' H')/\tb {D with nx:=N,ct:=N,bk:=D.nx} σ H1 else D.nx σ H1
theorem zGl {c:Expr} {body:List Stmt} {tc:TT} (hp:PassesOwn (model X.prog X.w) X.A X.env X.xe) (hc:PT X c tc) (hb:PSs X body tb):PS X (.While c body [] pos) (tWhile tc tb):=by
 intro pins s σ H D I h;obtain ⟨W,⟨m0,w0⟩,turn⟩:=h;refine wpAny_While (codeAny_whileLoop (fun n s'=>∃σ' H',Inv X pins σ' H' s'/\W n σ' H') ?_ m0 ⟨σ,H,I,w0⟩);rintro n s1 ⟨σ1,H1,I1,w1⟩;refine qB1 hp (thn (hc pins s1 σ1 H1 _ I1 (turn n σ1 H1 w1)) fun b s2 ⟨H2,I2,q2⟩=>?_)
 cases b with
 | true =>
  obtain ⟨N,hN,q2⟩:=q2;rw [qAC rfl];refine qB1 hp (thn (hb pins s2 σ1 H2 _ I2 q2) fun f s3 q3=>?_)
  cases f with
  | next =>
   obtain ⟨σ3,H3,I3,n3⟩:=q3;obtain ⟨m',hm,w3⟩:=hN σ3 H3 n3;exact ⟨m',hm,σ3,H3,I3,w3⟩
  | cont =>
   obtain ⟨σ3,H3,I3,n3⟩:=q3;obtain ⟨m',hm,w3⟩:=hN σ3 H3 n3;exact ⟨m',hm,σ3,H3,I3,w3⟩
  | brk=>exact q3
  | ret v=>exact q3
 | false =>
  rw [qAB qAm];exact qC1 ⟨σ1,H2,I2,q2⟩
end
structure It where
 go:Nat->Hp->Prop
 yld:Nat->Hp->V->Hp->Prop
 stop:Nat->Hp->Prop
def FpOk (X:Cx) (pins:List (Addr×Obj)) (H:Hp) (b:Addr):Prop :=
 H b=none/\b≠X.env.locals/\b∉X.fs/\(b∈X.ex\/X.s₀.heap.objs.size<=b)/\(∀x c,X.env.cells.lookup x=some c->c≠b)/\∀p∈X.pn++pins,p.1≠b
theorem Inv.fpOk {H':Hp} {b:Addr} (I:Inv X pins σ H s) (hb:s.heap.objs.size<=b) (hn:H' b=none):FpOk X pins H' b:=by
 refine ⟨hn,qBD (qAp I.lt hb),I.nofs hb,.inr (qAX I.sz hb),fun x c e z=>?_,fun p hp z=>?_⟩
 ·obtain ⟨v,q⟩:=I.cell x c e;exact absurd (qAp q.lt (by rw [z];exact hb)) (qA3 _)
 ·exact absurd (qAp (qAL (I.pin p hp).1) (by rw [z];exact hb)) (qA3 _)
structure Turn (P:Program) (w:World) (K:PySem.W.Frag) (tg:Expr) (J:It) (fp:List Addr) (it:Addr) (tn:Nat->Heap->Prop):Prop where
 mem:it∈fp
 obj:∀i h,tn i h->∀b∈fp,∃o,h.get? b=some o/\∀v,o.data≠.cell v
 keep:∀i h h',tn i h->(∀b∈fp,∀o,h.get? b=some o->h'.get? b=some o)->tn i h'
 item:∀(X:Cx),X.prog=P->X.w=w->X.K=K->X.calm=true->∀(i:Nat) (pins:List (Addr×Obj)) (s:Shared) (σ:St) (H:Hp) (E:Value->Shared->Prop),Inv X pins σ H s->(∀b∈fp,FpOk X pins H b)->tn i s.heap->J.go i H ->
  wpAny (model P w) X.A (pyNext (.ref it)) (fun r s1=>∃u,r=some u /\
   wpAny (model P w) X.A (letOwnedTupleGo tg (.ref it) u) (fun _ s2=>∃x H',Inv X pins σ H' s2/\RelV x u/\J.yld i H x H'/\tn (i+1) s2.heap/\∀b∈fp,H' b=none) E s1) E s
 done:∀(X:Cx),X.prog=P->X.w=w->X.K=K->X.calm=true->∀(i:Nat) (pins:List (Addr×Obj)) (s:Shared) (σ:St) (H:Hp) (E:Value->Shared->Prop),Inv X pins σ H s->(∀b∈fp,FpOk X pins H b)->tn i s.heap->J.stop i H ->
  wpAny (model P w) X.A (pyNext (.ref it)) (fun r s1=>r=none/\Inv X pins σ H s1) E s
 self:∀(A:Around) (i:Nat) (s:Shared) (Q:Value->Shared->Prop) (E:Value->Shared->Prop),tn i s.heap->Q (.ref it) s->wpAny (model P w) A (pyIter (.ref it)) Q E s
abbrev TI:=St->Hp->(It->Hp->Prop)->Prop
def PIE (X:Cx) (pins:List (Addr×Obj)) (σ:St) (tg:Expr) (R:It->Hp->Prop) (itv:Value) (s2:Shared):Prop :=
 ∃(it:Addr) (fp:List Addr) (tn:Nat->Heap->Prop) (J:It) (H':Hp),itv= .ref it/\Inv X pins σ H' s2/\Turn X.prog X.w X.K tg J fp it tn/\tn 0 s2.heap/\(∀b∈fp,FpOk X pins H' b)/\R J H'
def PI (X:Cx) (tg iter:Expr) (wi:TI):Prop :=
 ∀(pins:List (Addr×Obj)) (s:Shared) (σ:St) (H:Hp) (R:It->Hp->Prop),Inv X pins σ H s->wi σ H R ->
  wpAny (model X.prog X.w) X.A (eval iter X.env) (fun v s1=>wpAny (model X.prog X.w) X.A (pyIter v) (PIE X pins σ tg R) X.xe s1) X.xe s
theorem go_of {M:Model} {E:Value->Shared->Prop} {s:Shared} {it:Addr} {o:Obj} {n:String} {vs:Array Value} {Q:Unit->Shared->Prop} (ho:s.heap.get? it=some o) (hc:o.cls= .type n) (hd:o.data= .fields vs)
  (hn:["enumerate", "zip", "dict_itemiterator", "dict_reverseitemiterator", "odict_iterator", "itertools.zip_longest", "itertools.pairwise"].contains n=false) (hQ:Q () s):wpAny M A (letOwnedTupleGo tg (.ref it) u) Q E s:=by
 unfold letOwnedTupleGo
 cases tg<;>first
  | exact qAD hQ
  | (cases u<;>first
    | exact qAD hQ
    | (refine qAA (qB2 ho ?_)
       rw [hc,hd];show wpAny M A (if (["enumerate", "zip", "dict_itemiterator", "dict_reverseitemiterator", "odict_iterator", "itertools.zip_longest", "itertools.pairwise"].contains n&&vs[0]?==some (rawInt _))=true then _ else _) Q E s;rw [qAB (by intro h;rw [hn,Bool.false_and] at h;cases h)];exact qAD hQ))
def Itl (K:PySem.W.Frag) (a:Addr):It :=
 ⟨fun i H=>∃xs x,SqL K H a xs/\xs[i]?=some x,fun i H x H'=>H'=H/\∀xs,SqL K H a xs->xs[i]?=some x,fun i H=>∃xs,SqL K H a xs/\xs.length<=i⟩
def Itt (K:PySem.W.Frag) (a:Addr):It :=
 ⟨fun i H=>∃xs x,SqT K H a xs/\xs[i]?=some x,fun i H x H'=>H'=H/\∀xs,SqT K H a xs->xs[i]?=some x,fun i H=>∃xs,SqT K H a xs/\xs.length<=i⟩
def Itr (lo:Int) (n:Nat):It:=⟨fun i _=>i<n,fun i H x H'=>H'=H/\x= .int (lo+i),fun i _=>n<=i⟩
theorem turn_list (a it:Addr):Turn P w K tg (Itl K a) [it] it (fun i h=>h.IsListIter it a i) where
 mem:=by simp
 obj:=fun i h st b hb=>by
  have e:b=it:=by simpa using hb
  subst e;obtain ⟨o,e,c,d⟩:=st;exact ⟨o,e,fun v z=>by rw [d] at z;cases z⟩
 keep:=fun i h h' st k=>st.at fun o e=>k it (by simp) o e
 item:=by
  intro X hP hw hK hc i pins s σ H E I hf st hg;subst hP hw hK;obtain ⟨xs,x,hq,hx⟩:=hg;obtain ⟨its,rv,p,hz⟩:=I.list hq;obtain ⟨u,hu,ru⟩:=rv.get hx;obtain ⟨f0,f1,f2,f3,f4,f5⟩:=hf it (by simp);refine wpAny_pyNext_list_item st p.isList (x:=u) (by simpa using hu) fun h' st' sb=>?_;have I1:Inv X pins σ H {s with heap:=h'}:=I.turned (t':=s.toks) (fun b o hb e=>(sb.2 b hb).trans e) f0 f1 f3 f4 f5;obtain ⟨o,e,c,d⟩:=id st';exact ⟨u,rfl,go_of (s:={s with heap:=h'}) e c d (by decide) ⟨x,H,I1,ru,⟨rfl,fun ys hy=>by rw [I.list_inj hy hq];exact hx⟩,st',fun b hb=>(hf b hb).1⟩⟩
 done:=by
  intro X hP hw hK hc i pins s σ H E I hf st hg;subst hP hw hK;obtain ⟨xs,hq,hx⟩:=hg;obtain ⟨its,rv,p,hz⟩:=I.list hq;obtain ⟨f0,f1,f2,f3,f4,f5⟩:=hf it (by simp);have hl:=rv.length;exact wpAny_pyNext_list_end (I.ok.hd hc) st p.isList (by simp;lia) fun h' eb=>⟨rfl,I.turned (t':=s.toks) (fun b o hb e=>eb b o hb e) f0 f1 f3 f4 f5⟩
 self:=fun _ _ _ _ _ st h=>wpAny_pyIter_listiter st h
theorem turn_tuple (a it:Addr):Turn P w K tg (Itt K a) [it] it (fun i h=>h.IsTupleIter it a i) where
 mem:=by simp
 obj:=fun i h st b hb=>by
  have e:b=it:=by simpa using hb
  subst e;obtain ⟨o,e,c,d⟩:=st;exact ⟨o,e,fun v z=>by rw [d] at z;cases z⟩
 keep:=fun i h h' st k=>st.at fun o e=>k it (by simp) o e
 item:=by
  intro X hP hw hK hc i pins s σ H E I hf st hg;subst hP hw hK;obtain ⟨xs,x,hq,hx⟩:=hg;obtain ⟨its,rv,p,hz⟩:=I.tuple hq;obtain ⟨u,hu,ru⟩:=rv.get hx;obtain ⟨f0,f1,f2,f3,f4,f5⟩:=hf it (by simp);refine wpAny_pyNext_tuple_item st (show s.heap.IsTuple a its.toArray from p) (x:=u) (by simpa using hu) fun h' st' sb=>?_;have I1:Inv X pins σ H {s with heap:=h'}:=I.turned (t':=s.toks) (fun b o hb e=>(sb.2 b hb).trans e) f0 f1 f3 f4 f5;obtain ⟨o,e,c,d⟩:=id st';exact ⟨u,rfl,go_of (s:={s with heap:=h'}) e c d (by decide) ⟨x,H,I1,ru,⟨rfl,fun ys hy=>by rw [I.tuple_inj hy hq];exact hx⟩,st',fun b hb=>(hf b hb).1⟩⟩
 done:=by
  intro X hP hw hK hc i pins s σ H E I hf st hg;subst hP hw hK;obtain ⟨xs,hq,hx⟩:=hg;obtain ⟨its,rv,p,hz⟩:=I.tuple hq;obtain ⟨f0,f1,f2,f3,f4,f5⟩:=hf it (by simp);have hl:=rv.length;exact wpAny_pyNext_tuple_end (I.ok.hd hc) st (show s.heap.IsTuple a its.toArray from p) (by simp;lia) fun h' eb=>⟨rfl,I.turned (t':=s.toks) (fun b o hb e=>eb b o hb e) f0 f1 f3 f4 f5⟩
 self:=fun _ _ _ _ _ st h=>wpAny_pyIter_tupleiter st h
theorem turn_range (it:Addr) (lo:Int) (n:Nat):Turn P w K tg (Itr lo n) [it] it (fun i h=>IsRangeIter h it (lo+(i:Nat)*1) ((n:Int) - (i:Nat)) 1) where
 mem:=by simp
 obj:=fun i h st b hb=>by
  have e:b=it:=by simpa using hb
  subst e
  exact ⟨_,st,fun v z=>by
   have z':Data.fields _=Data.cell v:=z
   cases z'⟩
 keep:=fun i h h' st k=>k it (by simp) _ st
 item:=by
  intro X hP hw hK hc i pins s σ H E I hf st hg;subst hP hw hK;obtain ⟨f0,f1,f2,f3,f4,f5⟩:=hf it (by simp);have W:=Walks.range (prog:=X.prog) (w:=X.w) (I.ok.hd hc) it lo 1 n;refine W.item i s _ _ hg st fun v h' tk hv st' kk=>?_;obtain ⟨t,rfl⟩:=hv;have I1:Inv X pins σ H {s with heap:=h',toks:=tk}:=I.turned (fun b o hb e=>kk b o (by simpa using hb) e) f0 f1 f3 f4 f5;refine ⟨_,rfl,go_of (s:={s with heap:=h',toks:=tk}) (n:= "range_iterator") st' rfl rfl (by decide) ⟨.int (lo+i),H,I1,⟨t,?_⟩,⟨rfl,rfl⟩,st',fun b hb=>(hf b hb).1⟩⟩;rw [Int.mul_one]
 done:=by
  intro X hP hw hK hc i pins s σ H E I hf st hg;subst hP hw hK;obtain ⟨f0,f1,f2,f3,f4,f5⟩:=hf it (by simp);exact wpAny_pyNext_range_end (I.ok.hd hc) st (by have:n<=i:=hg;lia) fun h' eb=>⟨rfl,I.turned (t':=s.toks) (fun b o hb e=>eb b o hb e) f0 f1 f3 f4 f5⟩
 self:=fun _ _ _ _ _ st h=>wpAny_pyIter_rangeiter st h
section
variable {X:Cx} {tg:Expr}
def iList (K:PySem.W.Frag) (tl:TE):TI:=fun σ H R=>tl σ H fun x H1=>∃a,x= .ref a/\(∃xs,SqL K H1 a xs)/\R (Itl K a) H1
def iTup (K:PySem.W.Frag) (tl:TE):TI:=fun σ H R=>tl σ H fun x H1=>∃a,x= .ref a/\(∃xs,SqT K H1 a xs)/\R (Itt K a) H1
theorem zAj {l:Expr} {tl:TE} (hl:PE X l tl):PI X tg l (iList X.K tl):=by
 intro pins s σ H R I h;refine thn (hl pins s σ H _ I h) fun v s1 ⟨x,H1,I1,r1,q1⟩=>?_;obtain ⟨a,e,⟨xs,hq⟩,q⟩:=q1;subst e
 cases r1
 obtain ⟨its,rv,p,hz⟩:=I1.list hq;refine qC2 p.isList ?_;refine ⟨s1.heap.objs.size,[s1.heap.objs.size],_,_,H1,rfl,I1.kept (t':=s1.toks) fun b o e=>qAJ _ e,turn_list a _,⟨_,qAb _ rfl,rfl,rfl⟩,fun b hb=>?_,q⟩;have e:b=s1.heap.objs.size:=by simpa using hb
 subst e;exact I1.fpOk (qAG _) (I1.hok.fresh (qAG _))
theorem pi_tup {l:Expr} {tl:TE} (hl:PE X l tl):PI X tg l (iTup X.K tl):=by
 intro pins s σ H R I h;refine thn (hl pins s σ H _ I h) fun v s1 ⟨x,H1,I1,r1,q1⟩=>?_;obtain ⟨a,e,⟨xs,hq⟩,q⟩:=q1;subst e
 cases r1
 obtain ⟨its,rv,p,hz⟩:=I1.tuple hq;refine wpAny_pyIter_tuple (show s1.heap.IsTuple a its.toArray from p) ?_;refine ⟨s1.heap.objs.size,[s1.heap.objs.size],_,_,H1,rfl,I1.kept (t':=s1.toks) fun b o e=>qAJ _ e,turn_tuple a _,⟨_,qAb _ rfl,rfl,rfl⟩,fun b hb=>?_,q⟩;have e:b=s1.heap.objs.size:=by simpa using hb
 subst e;exact I1.fpOk (qAG _) (I1.hok.fresh (qAG _))
theorem range_it {R:It->Hp->Prop} {E:Value->Shared->Prop} {lo hi:Int} {t u v:Tok} {tk:Nat} (I:Inv X pins σ H s) (h1:-(2^62)<=lo) (h2:lo<2^62) (h3:-(2^62)<=hi) (h4:hi<2^62)
  (q:R (Itr lo (hi - lo).toNat) H):wpAny (model X.prog X.w) X.A (pyIter (.ref s.heap.objs.size)) (PIE X pins σ tg R) E {s with heap:=s.heap.push {cls:=.type "range",data:=.fields #[.int lo t,.int hi u,.int 1 v]},toks:=tk}:=by
 refine wpAny_pyIter_range (IsRange.new ..) (small_one h1 h2 h3 h4) ?_;have I1:Inv X pins σ H {s with heap:=s.heap.push {cls:=.type "range",data:=.fields #[.int lo t,.int hi u,.int 1 v]},toks:=tk}:=I.kept fun b o e=>qAJ _ e
 refine ⟨(s.heap.push {cls:=.type "range",data:=.fields #[.int lo t,.int hi u,.int 1 v]}).objs.size,[(s.heap.push {cls:=.type "range",data:=.fields #[.int lo t,.int hi u,.int 1 v]}).objs.size],_,_,H,rfl,
  I1.kept (t':=tk) fun b o e=>qAJ _ e,turn_range _ lo (hi - lo).toNat,?_,fun b hb=>?_,q⟩
 ·have e1:lo+((0:Nat):Int)*1=lo:=by simp
  have e2:(((hi - lo).toNat:Nat):Int) - ((0:Nat):Int)=Builtin.Range.rangeSize lo hi 1:=by rw [rangeSize_one];split<;>lia
  show IsRangeIter _ _ (lo+((0:Nat):Int)*1) ((((hi - lo).toNat:Nat):Int) - ((0:Nat):Int)) 1;rw [e1,e2];exact qAb _ rfl
 ·have e:b=(s.heap.push {cls:=.type "range",data:=.fields #[.int lo t,.int hi u,.int 1 v]}).objs.size:=by simpa using hb
  subst e;exact I1.fpOk (qAG _) (I1.hok.fresh (qAG _))
def iRng1 (ta:TA):TI:=fun σ H R=>ta σ H fun vs H1=>∃j:Int,vs=[.int j]/\-(2^62)<=j/\j<2^62/\R (Itr 0 j.toNat) H1
def iRng2 (ta:TA):TI:=fun σ H R=>ta σ H fun vs H1=>∃i j:Int,vs=[.int i,.int j]/\(-(2^62)<=i/\i<2^62/\-(2^62)<=j/\j<2^62)/\R (Itr i (j - i).toNat) H1
theorem zB1 {a:Expr} {ta:TA} {p pos:Pos} (hg:Gl X "range") (hm:X.mg "range" = none) (ha:PA X [a] ta) (hs:starEach [a] X.env=[(false,eval a X.env)]:=by rfl):PI X tg (.Call (.Name "range" p) [a] [] pos) (iRng1 ta):=by
 intro pins s σ H R I h;refine Call_ (zF6 I hg hm boot_range (qDc (thn (ha pos pins s σ H _ I h) fun us s1 ⟨vs,H1,I1,r1,q1⟩=>?_) hs rfl));obtain ⟨j,e,q1,q2,q⟩:=q1;subst e
 cases r1 with
 | cons r rr =>
  cases rr
  obtain ⟨t,rfl⟩:=r;exact call_range_1 (range_it I1 (by lia) (by lia) q1 q2 (by simpa using q))
theorem pi_range2 {a b:Expr} {ta:TA} {p pos:Pos} (hg:Gl X "range") (hm:X.mg "range" = none) (ha:PA X [a,b] ta) (hs:starEach [a,b] X.env=[(false,eval a X.env),(false,eval b X.env)]:=by rfl) (hs2:starEach [b] X.env=[(false,eval b X.env)]:=by rfl) :
  PI X tg (.Call (.Name "range" p) [a,b] [] pos) (iRng2 ta):=by
 intro pins s σ H R I h;refine Call_ (zF6 I hg hm boot_range (qDc (thn (ha pos pins s σ H _ I h) fun us s1 ⟨vs,H1,I1,r1,q1⟩=>?_) (by rw [hs,hs2]) (by rw [hs2];rfl)));obtain ⟨i,j,e,⟨q1,q2,q3,q4⟩,q⟩:=q1;subst e
 cases r1 with
 | cons r rr =>
  cases rr with
  | cons r' rr =>
   cases rr
   obtain ⟨t,rfl⟩:=r;obtain ⟨t',rfl⟩:=r';exact call_range_2 (range_it I1 q1 q2 q3 q4 q)
def tFor (wi:TI) (g:TG) (tb:TS):TS:=fun D σ H=>wi σ H fun J H1=>∃W:Nat->Nat->St->Hp->Prop,(∃m,W 0 m σ H1)/\∀i m σ H,W i m σ H ->
 (J.stop i H/\D.nx σ H)\/(J.go i H/\∃N:St->Hp->Prop,(∀σ' H',N σ' H'->∃m',m'<m/\W (i+1) m' σ' H')/\∀x H',J.yld i H x H'->g x σ H' fun σ2 H2=>tb {D with nx:=N,ct:=N,bk:=D.nx} σ2 H2)
def pinsAt (fp:List Addr) (h:Heap):List (Addr×Obj):=fp.filterMap fun b=>(h.get? b).map fun o=>(b,o)
theorem zD5 {fp:List Addr} {o:Obj} (hb:b∈fp) (e:h.get? b=some o):(b,o)∈pinsAt fp h:=List.mem_filterMap.mpr ⟨b,hb,by rw [e];rfl⟩
theorem of_pinsAt {fp:List Addr} {p:Addr×Obj} (hp:p∈pinsAt fp h):p.1∈fp/\h.get? p.1=some p.2:=by
 obtain ⟨b,hb,e⟩:=List.mem_filterMap.mp hp
 cases q:h.get? b with
 | none=>rw [q] at e;cases e
 | some o =>
  rw [q] at e;have e':(b,o)=p:=qAa e;subst e';exact ⟨hb,q⟩
theorem Inv.pinned {fp:List Addr} (I:Inv X pins σ H s) (hf:∀b∈fp,FpOk X pins H b) (ho:∀b∈fp,∃o,s.heap.get? b=some o/\∀v,o.data≠.cell v):Inv X (pins++pinsAt fp s.heap) σ H s :=
 I.pins_of fun p hp=>(qAU.mp hp).elim (fun z=>I.pin p (qAu _ z)) fun z=>by
  obtain ⟨hb,e⟩:=of_pinsAt z;obtain ⟨f0,f1,f2,_⟩:=hf p.1 hb;obtain ⟨o,e',d⟩:=ho p.1 hb;rw [e] at e';cases e';exact ⟨e,f0,f1,f2,d⟩
theorem Inv.unpinned {pl:List (Addr×Obj)} (I:Inv X (pins++pl) σ H s):Inv X pins σ H s:=I.pins_of fun p hp=>I.pin p (qAu _ (qAs _ hp))
theorem zA1 {iter:Expr} {body:List Stmt} {wi:TI} {pos:Pos} (hp:PassesOwn (model X.prog X.w) X.A X.env X.xe) (hc:X.calm=true) (hi:PI X tg iter wi) (hg:PG X tg g) (hb:PSs X body tb)
  (hs:∀x,foldedSetIterable iter X.env x=pure x:=by intro _;rfl):PS X (.For tg iter body [] pos) (tFor wi g tb):=by
 intro pins s σ H D I h;refine wpAny_For (thn (hi pins s σ H _ I h) fun v s1 h1=>thn h1 fun itv s2 h2=>?_) hs;obtain ⟨it,fp,tn,J,H2,e,I2,T,st2,f2,W,⟨m0,w0⟩,turn⟩:=h2;subst e;have stat:∀{H':Hp},(∀b∈fp,H' b=none)->∀b∈fp,FpOk X pins H' b:=fun hn b hb=>⟨hn b hb,(f2 b hb).2⟩;refine codeAny_forLoop_any (fun n s'=>∃i σ' H',Inv X pins σ' H' s'/\tn i s'.heap/\(∀b∈fp,H' b=none)/\W i n σ' H') ?_ m0 ⟨0,σ,H2,I2,st2,fun b hb=>(f2 b hb).1,w0⟩;rintro n s3 ⟨i,σ3,H3,I3,st3,fr3,w3⟩;rcases turn i n σ3 H3 w3 with ⟨stop,qn⟩| ⟨go,N,hN,step⟩
 ·refine qB1 hp (thn (T.done X rfl rfl rfl hc i pins s3 σ3 H3 X.xe I3 (stat fr3) st3 stop) fun r s4 ⟨hr,I4⟩=>?_);subst hr;exact qC1 ⟨σ3,H3,I4,qn⟩
 ·refine qB1 hp (thn (T.item X rfl rfl rfl hc i pins s3 σ3 H3 X.xe I3 (stat fr3) st3 go) fun r s4 ⟨u,hr,h4⟩=>?_);subst hr;refine qB1 hp (thn h4 fun _ s5 ⟨x,H5,I5,r5,y5,st5,fr5⟩=>?_);have I5':=I5.pinned (stat fr5) (T.obj _ _ st5);refine qB1 hp (thn (hg _ s5 σ3 H5 x u _ I5' r5 (step x H5 y5)) fun _ s6 ⟨σ6,H6,I6,q6⟩=>?_);refine qB1 hp (thn (hb _ s6 σ6 H6 _ I6 q6) fun f s7 q7=>?_)
  have again:∀{σ7:St} {H7:Hp},Inv X (pins++pinsAt fp s5.heap) σ7 H7 s7->N σ7 H7->∃m,m<n/\∃i σ' H',Inv X pins σ' H' s7/\tn i s7.heap/\(∀b∈fp,H' b=none)/\W i m σ' H':=fun {σ7 H7} I7 n7=>by
   obtain ⟨m',hm,w7⟩:=hN σ7 H7 n7;refine ⟨m',hm,i+1,σ7,H7,I7.unpinned,T.keep _ _ _ st5 fun b hb o e=>(I7.pin (b,o) (qAu _ (qAu _ (zD5 hb e)))).1,fun b hb=>?_,w7⟩;obtain ⟨o,e,d⟩:=T.obj _ _ st5 b hb;exact (I7.pin (b,o) (qAu _ (qAu _ (zD5 hb e)))).2.1
  cases f with
  | next=>obtain ⟨σ7,H7,I7,n7⟩:=q7;exact again I7 n7
  | cont=>obtain ⟨σ7,H7,I7,n7⟩:=q7;exact again I7 n7
  | brk=>obtain ⟨σ7,H7,I7,q7⟩:=q7;exact ⟨σ7,H7,I7.unpinned,q7⟩
  | ret v=>obtain ⟨x7,σ7,H7,I7,r7,q7⟩:=q7;exact ⟨x7,σ7,H7,I7.unpinned,r7,q7⟩
end
theorem zAy {xs:List V} (Pv:Nat->St->Hp->Prop) (h0:Pv 0 σ H) (hl:∀i σ H,i<=xs.length->Pv i σ H->SqL K H a xs)
  (hs:∀i x σ H,xs[i]?=some x->Pv i σ H->g x σ H fun σ2 H2=>tb {D with nx:=Pv (i+1),ct:=Pv (i+1),bk:=D.nx} σ2 H2) (hd:∀σ H,Pv xs.length σ H->D.nx σ H) :
  ∃W:Nat->Nat->St->Hp->Prop,(∃m,W 0 m σ H)/\∀i m σ H,W i m σ H ->
   ((Itl K a).stop i H/\D.nx σ H)\/((Itl K a).go i H/\∃N:St->Hp->Prop,(∀σ' H',N σ' H'->∃m',m'<m/\W (i+1) m' σ' H')/\∀x H',(Itl K a).yld i H x H'->g x σ H' fun σ2 H2=>tb {D with nx:=N,ct:=N,bk:=D.nx} σ2 H2):=by
 refine ⟨fun i m σ H=>m=xs.length - i/\i<=xs.length/\Pv i σ H,⟨xs.length,by simp,qAY _,h0⟩,?_⟩;rintro i m σ H ⟨rfl,hi,p⟩;have q:=hl i σ H hi p
 by_cases hlt:i<xs.length
 ·refine .inr ⟨⟨xs,xs[i],q,by simp [hlt]⟩,Pv (i+1),fun σ' H' p'=>⟨xs.length - (i+1),by lia,rfl,hlt,p'⟩,fun x H' y=>?_⟩;obtain ⟨e,y⟩:=y;subst e;exact hs i x σ _ (y xs q) p
 ·have e:i=xs.length:=by lia
  subst e;exact .inl ⟨⟨xs,q,qAG _⟩,hd σ H p⟩
theorem for_tup (Pv:Nat->St->Hp->Prop) (h0:Pv 0 σ H) (hl:∀i σ H,i<=xs.length->Pv i σ H->SqT K H a xs)
  (hs:∀i x σ H,xs[i]?=some x->Pv i σ H->g x σ H fun σ2 H2=>tb {D with nx:=Pv (i+1),ct:=Pv (i+1),bk:=D.nx} σ2 H2) (hd:∀σ H,Pv xs.length σ H->D.nx σ H) :
  ∃W:Nat->Nat->St->Hp->Prop,(∃m,W 0 m σ H)/\∀i m σ H,W i m σ H ->
   ((Itt K a).stop i H/\D.nx σ H)\/((Itt K a).go i H/\∃N:St->Hp->Prop,(∀σ' H',N σ' H'->∃m',m'<m/\W (i+1) m' σ' H')/\∀x H',(Itt K a).yld i H x H'->g x σ H' fun σ2 H2=>tb {D with nx:=N,ct:=N,bk:=D.nx} σ2 H2):=by
 refine ⟨fun i m σ H=>m=xs.length - i/\i<=xs.length/\Pv i σ H,⟨xs.length,by simp,qAY _,h0⟩,?_⟩;rintro i m σ H ⟨rfl,hi,p⟩;have q:=hl i σ H hi p
 by_cases hlt:i<xs.length
 ·refine .inr ⟨⟨xs,xs[i],q,by simp [hlt]⟩,Pv (i+1),fun σ' H' p'=>⟨xs.length - (i+1),by lia,rfl,hlt,p'⟩,fun x H' y=>?_⟩;obtain ⟨e,y⟩:=y;subst e;exact hs i x σ _ (y xs q) p
 ·have e:i=xs.length:=by lia
  subst e;exact .inl ⟨⟨xs,q,qAG _⟩,hd σ H p⟩
theorem zBr {lo:Int} {n:Nat} (Pv:Nat->St->Hp->Prop) (h0:Pv 0 σ H)
  (hs:∀i σ H,i<n->Pv i σ H->g (.int (lo+i)) σ H fun σ2 H2=>tb {D with nx:=Pv (i+1),ct:=Pv (i+1),bk:=D.nx} σ2 H2) (hd:∀σ H,Pv n σ H->D.nx σ H) :
  ∃W:Nat->Nat->St->Hp->Prop,(∃m,W 0 m σ H)/\∀i m σ H,W i m σ H ->
   ((Itr lo n).stop i H/\D.nx σ H)\/((Itr lo n).go i H/\∃N:St->Hp->Prop,(∀σ' H',N σ' H'->∃m',m'<m/\W (i+1) m' σ' H')/\∀x H',(Itr lo n).yld i H x H'->g x σ H' fun σ2 H2=>tb {D with nx:=N,ct:=N,bk:=D.nx} σ2 H2):=by
 refine ⟨fun i m σ H=>m=n - i/\i<=n/\Pv i σ H,⟨n,by simp,qAY _,h0⟩,?_⟩;rintro i m σ H ⟨rfl,hi,p⟩
 by_cases hlt:i<n
 ·refine .inr ⟨hlt,Pv (i+1),fun σ' H' p'=>⟨n - (i+1),by lia,rfl,hlt,p'⟩,fun x H' y=>?_⟩;obtain ⟨e,y⟩:=y;subst e y;exact hs i σ _ hlt p
 ·have e:i=n:=by lia
  subst e;exact .inl ⟨qAG _,hd σ H p⟩
theorem zIn {c:TT} (Pv:St->Hp->Prop) (μ:St->Hp->Nat) (h0:Pv σ H)
  (hs:∀σ H,Pv σ H->c σ H fun b H1=>if b=true then tb {D with nx:=fun σ' H'=>Pv σ' H'/\μ σ' H'<μ σ H,ct:=fun σ' H'=>Pv σ' H'/\μ σ' H'<μ σ H,bk:=D.nx} σ H1 else D.nx σ H1)
  (mono:∀σ H Q Q',(∀b H1,Q b H1->Q' b H1)->c σ H Q->c σ H Q'):tWhile c tb D σ H:=by
 refine ⟨fun m σ H=>m=μ σ H/\Pv σ H,⟨_,rfl,h0⟩,?_⟩;rintro m σ H ⟨rfl,p⟩;refine mono σ H _ _ (fun b H1 q=>?_) (hs σ H p)
 cases b with
 | true=>exact ⟨_,fun σ' H' ⟨p',l⟩=>⟨_,l,rfl,p'⟩,q⟩
 | false=>exact q
abbrev R2:=V->V->Hp->VK->Prop
variable {r:R2}
def OpR (X:Cx) (f:Value->Value->Sem Value) (r:R2):Prop :=
 ∀(pins:List (Addr×Obj)) (s:Shared) (σ:St) (H:Hp) (x y:V) (v u:Value) (Q:VK),Inv X pins σ H s->RelV x v->RelV y u->r x y H Q ->
  wpAny (model X.prog X.w) X.A (f v u) (EP X pins σ Q) X.xe s
def zC5 (X:Cx) (f:Value) (r:List V->Hp->VK->Prop):Prop :=
 ∀(pins:List (Addr×Obj)) (s:Shared) (σ:St) (H:Hp) (xs:List V) (us:List Value) (Q:VK),Inv X pins σ H s->Vals xs us->r xs H Q ->
  wpAny (model X.prog X.w) X.A (call f us) (EP X pins σ Q) X.xe s
def TruR (X:Cx) (r:V->Hp->(Bool->Hp->Prop)->Prop):Prop :=
 ∀(pins:List (Addr×Obj)) (s:Shared) (σ:St) (H:Hp) (x:V) (v:Value) (Q:Bool->Hp->Prop),Inv X pins σ H s->RelV x v->r x H Q ->
  wpAny (model X.prog X.w) X.A (truthy v) (TP X pins σ Q) X.xe s
def tOp (r:R2) (ta tb:TE):TE:=fun σ H Q=>ta σ H fun x H1=>tb σ H1 fun y H2=>r x y H2 Q
def rI (C:Int->Int->Prop) (g:Int->Int->V):R2:=fun x y H Q=>∃i j,x= .int i/\y= .int j/\C i j/\Q (g i j) H
def rI0 (g:Int->Int->V):R2:=fun x y H Q=>∃i j,x= .int i/\y= .int j/\Q (g i j) H
section
variable {X:Cx} {a b c:Expr} {ta tb tc:TE} {pos:Pos}
theorem binT (ha:PE X a ta) (hb:PE X b tb) {R:V->V->Hp->Prop} (I:Inv X pins σ H s)
  (h:ta σ H fun x H1=>tb σ H1 fun y H2=>R x y H2) {Q:Value->Shared->Prop} {f:Value->Value->Sem Value}
  (hf:∀v u s2 x y H2,Inv X pins σ H2 s2->RelV x v->RelV y u->R x y H2->wpAny (model X.prog X.w) X.A (f v u) Q X.xe s2) :
  wpAny (model X.prog X.w) X.A (eval a X.env) (fun v s₁=>wpAny (model X.prog X.w) X.A (eval b X.env) (fun u s₂=>wpAny (model X.prog X.w) X.A (f v u) Q X.xe s₂) X.xe s₁) X.xe s:=by
 refine thn (ha pins s σ H _ I h) fun v s1 ⟨x,H1,I1,r1,q1⟩=>?_;refine thn (hb pins s1 σ H1 _ I1 q1) fun u s2 ⟨y,H2,I2,r2,q2⟩=>?_;exact hf v u s2 x y H2 I2 r1 r2 q2
theorem zAr {op:Operator} (ho:OpR X (binaryOp op) r) (ha:PE X a ta) (hb:PE X b tb):PE X (.BinOp a op b pos) (tOp r ta tb):=by
 intro pins s σ H Q I h;exact wpAny_BinOp (binT ha hb I h fun v u s2 x y H2 I2 rx ry q=>ho pins s2 σ H2 x y v u Q I2 rx ry q)
theorem opI {f:Value->Value->Sem Value} {C:Int->Int->Prop} {g:Int->Int->Int}
  (rule:∀(i j:Int) (t u:Tok) (s:Shared) (Q:Value->Shared->Prop) (E:Value->Shared->Prop),C i j->Q (.int (g i j) s.toks) {s with toks:=s.toks+1}->wpAny (model X.prog X.w) X.A (f (.int i t) (.int j u)) Q E s) :
  OpR X f (rI C fun i j=>.int (g i j)):=by
 intro pins s σ H x y v u Q I rx ry h;obtain ⟨i,j,rfl,rfl,hc,q⟩:=h;obtain ⟨t,rfl⟩:=rx;obtain ⟨t',rfl⟩:=ry;exact rule i j t t' s _ _ hc ⟨.int (g i j),H,I.tok _,⟨_,rfl⟩,q⟩
theorem opI0 {f:Value->Value->Sem Value} {g:Int->Int->Int}
  (rule:∀(i j:Int) (t u:Tok) (s:Shared) (Q:Value->Shared->Prop) (E:Value->Shared->Prop),Q (.int (g i j) s.toks) {s with toks:=s.toks+1}->wpAny (model X.prog X.w) X.A (f (.int i t) (.int j u)) Q E s) :
  OpR X f (rI0 fun i j=>.int (g i j)):=by
 intro pins s σ H x y v u Q I rx ry h;obtain ⟨i,j,rfl,rfl,q⟩:=h;obtain ⟨t,rfl⟩:=rx;obtain ⟨t',rfl⟩:=ry;exact rule i j t t' s _ _ ⟨.int (g i j),H,I.tok _,⟨_,rfl⟩,q⟩
theorem opB0 {f:Value->Value->Sem Value} {g:Int->Int->Bool}
  (rule:∀(i j:Int) (t u:Tok) (s:Shared) (Q:Value->Shared->Prop) (E:Value->Shared->Prop),Q (.bool (g i j)) s->wpAny (model X.prog X.w) X.A (f (.int i t) (.int j u)) Q E s) :
  OpR X f (rI0 fun i j=>.bl (g i j)):=by
 intro pins s σ H x y v u Q I rx ry h;obtain ⟨i,j,rfl,rfl,q⟩:=h;obtain ⟨t,rfl⟩:=rx;obtain ⟨t',rfl⟩:=ry;exact rule i j t t' s _ _ ⟨.bl (g i j),H,I,rfl,q⟩
def CDiv (i j:Int):Prop:=0<j/\j<1073741824
def CPow (i j:Int):Prop:=0<=j/\j<=1000000/\i.natAbs<2^64
def CMul (i j:Int):Prop:=(-(2^64)<i/\i<2^64)\/(-(2^64)<j/\j<2^64)
theorem CMul.ok {i j:Int} (h:CMul i j):IntMulOk i j:=by
 rcases h with ⟨h1,h2⟩| ⟨h1,h2⟩
 ·exact .of_left (intBits_le_64 h1 h2)
 ·exact .of_right (intBits_le_64 h1 h2)
theorem zBx:OpR X (binaryOp .Add) (rI0 fun i j=>.int (i+j)):=opI0 fun _ _ _ _ _ _ _ q=>add_int q
theorem zG4:OpR X (binaryOp .Sub) (rI0 fun i j=>.int (i - j)):=opI0 fun _ _ _ _ _ _ _ q=>sub_int q
theorem zE5:OpR X (binaryOp .Mult) (rI CMul fun i j=>.int (i*j)):=opI fun _ _ _ _ _ _ _ hc q=>mul_int q hc.ok
theorem op_fdiv:OpR X (binaryOp .FloorDiv) (rI CDiv fun i j=>.int (i / j)):=opI fun i j _ _ _ _ _ hc q=>by
 have h1:(0:Int)<j:=hc.1;have h2:j<1073741824:=hc.2;exact floordiv_int (by lia) (by rw [Int.fdiv_eq_ediv_of_nonneg i (by lia)];exact q) (.inl (PyProof.noPylong_small (by lia)))
theorem zG5:OpR X (binaryOp .Mod) (rI (fun _ j=>0<j) fun i j=>.int (i % j)):=opI fun i j _ _ _ _ _ hc q=>by
 have h1:(0:Int)<j:=hc;exact mod_int' (by lia) (by rw [Int.fmod_eq_emod_of_nonneg i (by lia)];exact q)
theorem op_pow:OpR X (binaryOp .Pow) (rI CPow fun i j=>.int (i^j.toNat)):=opI fun _ _ _ _ _ _ _ hc q=>pow_int_small hc.1 hc.2.1 hc.2.2 q
end
def scal:V->V->Bool
 | .non,.non=>true| .non,.int _=>true| .int _,.non=>true| .non,.bl _=>true| .bl _,.non=>true| .non,.str _=>true| .str _,.non=>true
 | .int _,.int _=>true| .bl _,.bl _=>true| .str _,.str _=>true| .byt _,.byt _=>true
 | .int _,.str _=>true| .str _,.int _=>true| .bl _,.str _=>true| .str _,.bl _=>true
 | _,_=>false
def rEq:R2:=fun x y H Q=>scal x y=true/\Q (.bl (decide (x=y))) H
def rNe:R2:=fun x y H Q=>scal x y=true/\Q (.bl (!decide (x=y))) H
theorem dec_int {i j:Int}:decide (V.int i=V.int j)=(i==j):=by
 rw [qBa];simp
theorem dec_bl {i j:Bool}:decide (V.bl i=V.bl j)=(i==j):=by
 rw [qBa];simp
theorem dec_str {i j:Str}:decide (V.str i=V.str j)=(i==j):=by
 rw [qBa];simp
theorem dec_byt {i j:Array UInt8}:decide (V.byt i=V.byt j)=(i.toList==j.toList):=by
 rw [qBa]
 cases i
 cases j
 simp
section
variable {X:Cx} {a b c:Expr} {ta tb tc:TE} {pos:Pos}
theorem zAt {Q:VK} {k k':Bool} (I:Inv X pins σ H s) (q:Q (.bl k) H) (e:k=k'):EP X pins σ Q (.bool k') s:=by
 subst e;exact ⟨.bl k,H,I,rfl,q⟩
theorem zIy:OpR X (compareOp .Eq) rEq:=by
 intro pins s σ H x y v u Q I rx ry h;obtain ⟨hs,q⟩:=h
 cases x with
 | non =>
  cases rx
  cases y with
  | non=>cases ry;exact PySem.EqNone.eq_none_none (zAt I q (by simp))
  | bl j=>cases ry;exact PySem.EqNone.eq_none_bool (zAt I q (by simp))
  | int j=>obtain ⟨t',rfl⟩:=ry;exact PySem.EqNone.eq_none_int (zAt I q (by simp))
  | str j=>obtain ⟨t',rfl⟩:=ry;exact PySem.EqNone.eq_none_str (zAt I q (by simp))
  | _=>exact absurd (show false=true from hs) qAm
 | bl i =>
  cases rx
  cases y with
  | non=>cases ry;exact PySem.EqNone.eq_bool_none (zAt I q (by simp))
  | bl j=>cases ry;exact eq_bool (zAt I q dec_bl)
  | str j=>obtain ⟨t',rfl⟩:=ry;exact PySem.EqMixed.eq_bool_str (zAt I q (by simp))
  | _=>exact absurd (show false=true from hs) qAm
 | int i =>
  obtain ⟨t,rfl⟩:=rx
  cases y with
  | non=>cases ry;exact PySem.EqNone.eq_int_none (zAt I q (by simp))
  | int j=>obtain ⟨t',rfl⟩:=ry;exact eq_int (zAt I q dec_int)
  | str j=>obtain ⟨t',rfl⟩:=ry;exact PySem.EqMixed.eq_int_str (zAt I q (by simp))
  | _=>exact absurd (show false=true from hs) qAm
 | str i =>
  obtain ⟨t,rfl⟩:=rx
  cases y with
  | non=>cases ry;exact PySem.EqNone.eq_str_none (zAt I q (by simp))
  | bl j=>cases ry;exact PySem.EqMixed.eq_str_bool (zAt I q (by simp))
  | int j=>obtain ⟨t',rfl⟩:=ry;exact PySem.EqMixed.eq_str_int (zAt I q (by simp))
  | str j=>obtain ⟨t',rfl⟩:=ry;exact eq_str (zAt I q dec_str)
  | _=>exact absurd (show false=true from hs) qAm
 | byt i =>
  obtain ⟨t,rfl⟩:=rx
  cases y with
  | byt j=>obtain ⟨t',rfl⟩:=ry;exact PySem.W.eq_bytes (zAt I q dec_byt)
  | _=>exact absurd (show false=true from hs) qAm
 | _=>cases y<;>exact absurd (show false=true from hs) qAm
theorem op_ne:OpR X (compareOp .NotEq) rNe:=by
 intro pins s σ H x y v u Q I rx ry h;obtain ⟨hs,q⟩:=h
 cases x with
 | non =>
  cases rx
  cases y with
  | non=>cases ry;exact PySem.EqNone.ne_none_none (zAt I q (by simp))
  | bl j=>cases ry;exact PySem.EqNone.ne_none_bool (zAt I q (by simp))
  | int j=>obtain ⟨t',rfl⟩:=ry;exact PySem.EqNone.ne_none_int (zAt I q (by simp))
  | str j=>obtain ⟨t',rfl⟩:=ry;exact PySem.EqNone.ne_none_str (zAt I q (by simp))
  | _=>exact absurd (show false=true from hs) qAm
 | bl i =>
  cases rx
  cases y with
  | non=>cases ry;exact PySem.EqNone.ne_bool_none (zAt I q (by simp))
  | bl j=>cases ry;exact ne_bool (zAt I q (qAf not dec_bl))
  | str j=>obtain ⟨t',rfl⟩:=ry;exact PySem.EqMixed.ne_bool_str (zAt I q (by simp))
  | _=>exact absurd (show false=true from hs) qAm
 | int i =>
  obtain ⟨t,rfl⟩:=rx
  cases y with
  | non=>cases ry;exact PySem.EqNone.ne_int_none (zAt I q (by simp))
  | int j=>obtain ⟨t',rfl⟩:=ry;exact ne_int (zAt I q (qAf not dec_int))
  | str j=>obtain ⟨t',rfl⟩:=ry;exact PySem.EqMixed.ne_int_str (zAt I q (by simp))
  | _=>exact absurd (show false=true from hs) qAm
 | str i =>
  obtain ⟨t,rfl⟩:=rx
  cases y with
  | non=>cases ry;exact PySem.EqNone.ne_str_none (zAt I q (by simp))
  | bl j=>cases ry;exact PySem.EqMixed.ne_str_bool (zAt I q (by simp))
  | int j=>obtain ⟨t',rfl⟩:=ry;exact PySem.EqMixed.ne_str_int (zAt I q (by simp))
  | str j=>obtain ⟨t',rfl⟩:=ry;exact ne_str (zAt I q (qAf not dec_str))
  | _=>exact absurd (show false=true from hs) qAm
 | byt i =>
  obtain ⟨t,rfl⟩:=rx
  cases y with
  | byt j=>obtain ⟨t',rfl⟩:=ry;exact PySem.W.ne_bytes (zAt I q (qAf not dec_byt))
  | _=>exact absurd (show false=true from hs) qAm
 | _=>cases y<;>exact absurd (show false=true from hs) qAm
theorem op_lt:OpR X (compareOp .Lt) (rI0 fun i j=>.bl (decide (i<j))):=opB0 fun _ _ _ _ _ _ _ q=>lt_int q
theorem op_le:OpR X (compareOp .LtE) (rI0 fun i j=>.bl (decide (i<=j))):=opB0 fun _ _ _ _ _ _ _ q=>le_int q
theorem op_gt:OpR X (compareOp .Gt) (rI0 fun i j=>.bl (decide (j<i))):=opB0 fun _ _ _ _ _ _ _ q=>gt_int q
theorem zA8 (b:Expr) (h:op≠.In:=by decide) (h2:op≠.NotIn:=by decide):behindInMarks op b=false:=by
 have e1:(op==CmpOp.In)=false:=by cases op<;>first| rfl| exact absurd rfl h
 have e2:(op==CmpOp.NotIn)=false:=by cases op<;>first| rfl| exact absurd rfl h2
 cases b<;>simp [behindInMarks,e1,e2]
theorem zCm (ho:OpR X (compareOp op) r) (ha:PE X a ta) (hb:PE X b tb) (hm:behindInMarks op b=false):PE X (.Compare a [op] [b] pos) (tOp r ta tb):=by
 intro pins s σ H Q I h;exact wpAny_Compare1 (binT ha hb I h fun v u s2 x y H2 I2 rx ry q=>ho pins s2 σ H2 x y v u Q I2 rx ry q) hm
def tTest (t:TE):TT:=fun σ H Q=>t σ H fun x H'=>∃k,x= .bl k/\Q k H'
theorem zAz (ho:OpR X (compareOp op) r) (ha:PE X a ta) (hb:PE X b tb) (hm:behindInMarks op b=false):PT X (.Compare a [op] [b] pos) (tTest (tOp r ta tb)):=by
 intro pins s σ H Q I h
 refine wpAny_isTrue_Compare1 (thn (ha pins s σ H _ I h) fun v s1 ⟨x,H1,I1,r1,q1⟩=>thn (hb pins s1 σ H1 _ I1 q1) fun u s2 ⟨y,H2,I2,r2,q2⟩ =>
  thn (ho pins s2 σ H2 x y v u _ I2 r1 r2 q2) fun c s3 ⟨z,H3,I3,r3,k,e,q3⟩=>?_) hm
 subst e
 cases r3
 exact qBF ⟨H3,I3,q3⟩
def tChain (r r':R2) (ta tb tc:TE):TE:=fun σ H Q=>ta σ H fun x H1=>tb σ H1 fun y H2=>r x y H2 fun z H3=>∃k,z= .bl k /\
 (if k=true then tc σ H3 fun w' H4=>r' y w' H4 Q else Q (.bl false) H3)
theorem pe_chain {op':CmpOp} {r':R2} (ho:OpR X (compareOp op) r) (ho':OpR X (compareOp op') r') (ha:PE X a ta) (hb:PE X b tb) (hc:PE X c tc)
  (hm:lastMarks [op,op'] [b,c]=false:=by with_unfolding_all rfl):PE X (.Compare a [op,op'] [b,c] pos) (tChain r r' ta tb tc):=by
 intro pins s σ H Q I h
 refine Compare_chain (thn (ha pins s σ H _ I h) fun v s1 ⟨x,H1,I1,r1,q1⟩=>chain_link (thn (hb pins s1 σ H1 _ I1 q1) fun u s2 ⟨y,H2,I2,r2,q2⟩ =>
  thn (ho pins s2 σ H2 x y v u _ I2 r1 r2 q2) fun d s3 ⟨z,H3,I3,r3,k,e,q3⟩=>?_)) hm
 subst e
 cases r3
 refine qBF ?_
 cases k with
 | false=>exact ite_ff ⟨.bl false,H3,I3,rfl,q3⟩
 | true=>exact ite_tt (chain_last (thn (hc pins s3 σ H3 _ I3 q3) fun w' s4 ⟨z',H4,I4,r4,q4⟩=>ho' pins s4 σ H4 y z' u w' Q I4 r2 r4 q4))
theorem pt_chain {op':CmpOp} {r':R2} (ho:OpR X (compareOp op) r) (ho':OpR X (compareOp op') r') (ha:PE X a ta) (hb:PE X b tb) (hc:PE X c tc)
  (hm:lastMarks [op,op'] [b,c]=false:=by with_unfolding_all rfl):PT X (.Compare a [op,op'] [b,c] pos) (tTest (tChain r r' ta tb tc)):=by
 intro pins s σ H Q I h
 refine isTrue_chain (thn (ha pins s σ H _ I h) fun v s1 ⟨x,H1,I1,r1,q1⟩=>test_link (thn (hb pins s1 σ H1 _ I1 q1) fun u s2 ⟨y,H2,I2,r2,q2⟩ =>
  thn (ho pins s2 σ H2 x y v u _ I2 r1 r2 q2) fun d s3 ⟨z,H3,I3,r3,k,e,q3⟩=>?_)) hm
 subst e
 cases r3
 refine qBF ?_
 cases k with
 | false =>
  obtain ⟨k',e',q'⟩:=q3
  cases e'
  exact ite_ff ⟨H3,I3,q'⟩
 | true =>
  refine ite_tt (test_last (thn (hc pins s3 σ H3 _ I3 q3) fun w' s4 ⟨z',H4,I4,r4,q4⟩=>thn (ho' pins s4 σ H4 y z' u w' _ I4 r2 r4 q4) fun d' s5 ⟨z2,H5,I5,r5,k2,e2,q5⟩=>?_));subst e2
  cases r5
  exact qBF ⟨H5,I5,q5⟩
def TruV (K:PySem.W.Frag) (x:V) (H:Hp) (k:Bool):Prop :=
 match x with
 | .non=>k=false
 | .bl b=>k=b
 | .int i=>k=(i != 0)
 | .str y=>y.length<=sizeLine/\k=((y.length:Int) != 0)
 | .byt y=>y.size<=sizeLine/\k=((y.size:Int) != 0)
 | .ref p=>(∃xs,SqL K H p xs/\k= !xs.isEmpty)\/(∃xs,SqT K H p xs/\k= !xs.isEmpty)\/∃kvs,H p=some (.dK kvs)/\k= !kvs.isEmpty
 | _=>False
theorem isEmpty_kv {κ:Type} {kvs:List (κ×V)} {vs:List (κ×Value)} (r:KV kvs vs):(!vs.isEmpty)= !kvs.isEmpty:=by
 cases r<;>rfl
theorem zIi {its:List Value} (r:Vals xs its):(!its.toArray.isEmpty)= !xs.isEmpty:=by
 cases r<;>simp
theorem zHg:(sizeLine:Nat)<2^63:=by rw [qAK];decide
theorem tru_ok:TruR X (fun x H Q=>∃k,TruV X.K x H k/\Q k H):=by
 intro pins s σ H x v Q I rx h;obtain ⟨k,e,q⟩:=h;have hl:=zHg;have hs:sizeLine=16777216:=qAK
 cases x with
 | non =>
  cases rx
  have e':k=false:=e;subst e';exact truthy_none ⟨H,I,q⟩
 | bl b =>
  cases rx
  have e':k=b:=e;subst e';exact qBF ⟨H,I,q⟩
 | int i =>
  obtain ⟨t,rfl⟩:=rx;have e':k=(i != 0):=e;subst e';exact PySem.P.truthy_int ⟨H,I,q⟩
 | str y =>
  obtain ⟨t,rfl⟩:=rx;obtain ⟨hy,e'⟩:y.length<=sizeLine/\k=((y.length:Int) != 0):=e;subst e';exact PySem.P.truthy_str (by lia) ⟨H,I.tok _,q⟩
 | byt y =>
  obtain ⟨t,rfl⟩:=rx;obtain ⟨hy,e'⟩:y.size<=sizeLine/\k=((y.size:Int) != 0):=e;subst e';exact PySem.W.truthy_bytes (by lia) ⟨H,I.tok _,q⟩
 | ref p =>
  cases rx
  have e':(∃xs,SqL X.K H p xs/\k= !xs.isEmpty)\/(∃xs,SqT X.K H p xs/\k= !xs.isEmpty)\/∃kvs,H p=some (.dK kvs)/\k= !kvs.isEmpty:=e;rcases e' with ⟨xs,hx,e'⟩| ⟨xs,hx,e'⟩| ⟨kvs,hx,e'⟩
  ·subst e';obtain ⟨its,r,pl,hz⟩:=I.list hx;have hlen:=r.length;exact wpAny_truthy_list pl.isList (by simp only [qAM];lia) ⟨H,I.tok _,by rw [zIi r];exact q⟩
  ·subst e';obtain ⟨its,r,pl,hz⟩:=I.tuple hx;have hlen:=r.length;exact truthy_tuple pl (by simp only [qAM];lia) ⟨H,I.tok _,by rw [zIi r];exact q⟩
  ·subst e';obtain ⟨hz,hS,vs,r,m⟩:kvs.length<=sizeLine/\(p==sysModules)=false/\∃vs,KV kvs vs/\s.heap.DictOf (zA5 X.prog X.w) p vs:=I.hok p _ hx;have hlen:kvs.length=vs.length:=qBy r;exact wpAny_truthy_dict hS m (by lia) ⟨H,I.tok _,by rw [isEmpty_kv r];exact q⟩
 | _=>exact (show False from e).elim
theorem zIw (ha:PE X a ta) (he:∀whole,isTrue a X.env whole=(do let v<-whole;standAt a.pos;holding [v] (truthy v))) :
  PT X a (fun σ H Q=>ta σ H fun x H'=>∃k,TruV X.K x H' k/\Q k H'):=by
 intro pins s σ H Q I h;exact isTrue_plain (thn (ha pins s σ H _ I h) fun v s1 ⟨x,H1,I1,r1,q1⟩=>tru_ok pins s1 σ H1 x v Q I1 r1 q1) (he _)
theorem op_add_str:OpR X (binaryOp .Add) (fun x y H Q=>∃i j,x= .str i/\y= .str j/\i.length+j.length<=sizeLine/\Q (.str (i++j)) H):=by
 intro pins s σ H x y v u Q I rx ry h;obtain ⟨i,j,rfl,rfl,hz,q⟩:=h;obtain ⟨t,rfl⟩:=rx;obtain ⟨t',rfl⟩:=ry;exact add_str (fun t' tk=>⟨.str (i++j),H,I.tok _,⟨_,rfl⟩,q⟩) hz
theorem zHu {x:V} (r:Vals [x] us):∃u,us=[u]/\RelV x u:=by
 cases r with
 | cons r1 r2=>cases r2;exact ⟨_,rfl,r1⟩
theorem vals2 {x:V} (r:Vals [x,y] us):∃u w',us=[u,w']/\RelV x u/\RelV y w':=by
 cases r with
 | cons r1 r2 =>
  cases r2 with
  | cons r3 r4=>cases r4;exact ⟨_,_,rfl,r1,r3⟩
theorem call_max2 (hc:X.calm=true):zC5 X (.builtin "max") (fun xs H Q=>∃i j,xs=[.int i,.int j]/\Q (.int (if j>i then j else i)) H):=by
 intro pins s σ H xs us Q I r h;obtain ⟨i,j,rfl,q⟩:=h;obtain ⟨u,w',rfl,⟨t,rfl⟩,⟨t',rfl⟩⟩:=vals2 r;refine max_two_ints (I.ok.hd hc) fun h' tk k=>⟨_,H,I.kept k,?_,q⟩
 by_cases hj:j>i
 ·rw [qAC hj,qAC hj];exact ⟨_,rfl⟩
 ·rw [qAB hj,qAB hj];exact ⟨_,rfl⟩
theorem call_min2 (hc:X.calm=true):zC5 X (.builtin "min") (fun xs H Q=>∃i j,xs=[.int i,.int j]/\Q (.int (if j<i then j else i)) H):=by
 intro pins s σ H xs us Q I r h;obtain ⟨i,j,rfl,q⟩:=h;obtain ⟨u,w',rfl,⟨t,rfl⟩,⟨t',rfl⟩⟩:=vals2 r;refine min_two_ints (I.ok.hd hc) fun h' tk k=>⟨_,H,I.kept k,?_,q⟩
 by_cases hj:j<i
 ·rw [qAC hj,qAC hj];exact ⟨_,rfl⟩
 ·rw [qAB hj,qAB hj];exact ⟨_,rfl⟩
theorem zFi:zC5 X (.type "int") (fun xs H Q=>(∃i,xs=[.int i]/\Q (.int i) H)\/∃k,xs=[.bl k]/\Q (.int (if k then 1 else 0)) H):=by
 intro pins s σ H xs us Q I r h;rcases h with ⟨i,rfl,q⟩| ⟨k,rfl,q⟩
 ·obtain ⟨u,rfl,t,rfl⟩:=zHu r;exact call_int_int ⟨.int i,H,I,⟨_,rfl⟩,q⟩
 ·obtain ⟨u,rfl,r1⟩:=zHu r
  cases r1
  exact call_int_bool ⟨.int (if k then 1 else 0),H,I.tok _,⟨_,rfl⟩,q⟩
end
structure ObjM (h:Heap) (x dx C:Addr) (mA:Str->Option Value):Prop where
 obj:h.get? x=some (PySem.W.instObj C dx)
 ns:h.Ns1 dx mA
 ne:dx≠x
theorem lookIn_ns {dx:Addr} {mA:Str->Option Value} (n:h.Ns1 dx mA):∃od,h.get? dx=some od/\∀name,PySem.W.lookIn name od=some (mA name):=by
 obtain ⟨o,es,ep,ho,hd,hk,_,hm⟩:=n;refine ⟨o,ho,fun name=>?_⟩;have e:=hm name;unfold nsFind findBy at e;rw [<-Array.find?_toList] at e;unfold PySem.W.lookIn;rw [hd];dsimp only;split
 ·rename_i y q;rw [q] at e;exact qAf some e
 ·rename_i q;rw [q] at e
  have a:es.toList.any (·.refKey)=false:=by
   rw [List.any_eq_false];intro y hy;obtain ⟨z,t,hkey⟩:=hk y (qDd.mp hy);simp [DictEntry.refKey,hkey]
  have a':¬es.toList.any (·.refKey)=true:=by rw [a];exact qAm
  rw [qAB a'];exact qAf some e
theorem ObjM.look {x dx:Addr} {mA:Str->Option Value} (I:ObjM h x dx C mA):∃od,PySem.W.InstAt h x (PySem.W.instObj C dx) C (some od)/\∀name,PySem.W.lookIn name od=some (mA name) :=
 let ⟨od,ho,hl⟩:=lookIn_ns I.ns
 ⟨od,⟨I.obj,rfl,rfl,ho⟩,hl⟩
section
variable {prog:Program} {w:World} {A:Around} {E:Value->Shared->Prop} {s:Shared} {K:PySem.W.Frag} {x dx C f:Addr} {mA:Str->Option Value} {name:Str} {v:Value}
theorem get_map {expr:Bool} {Q:Value->Shared->Prop} (X:K.In s.heap) (I:ObjM s.heap x dx C mA) (hg:PySem.W.plainGet K C name=true) (hh:PySem.W.hasDictIn K C=true)
  (ha:PySem.W.findIn K (.ref C) name=some none) (hv:mA name=some v) (hv':PySem.W.handedIn v=true) (h:Q v {s with toks:=s.toks+1}) :
  wpAny (model prog w) A (getAttr (.ref x) name expr) Q E s:=by
 obtain ⟨od,J,hl⟩:=I.look;exact PySem.W.get_value X J (PySem.W.plainGet_of hg).1 (PySem.W.findObj_own hh ha rfl (by rw [hl,hv])) hv' h
theorem get_meth {pl:Sem Bool} {Q:Value×List Value->Shared->Prop} (X:K.In s.heap) (I:ObjM s.heap x dx C mA) (hg:PySem.W.plainGet K C name=true)
  (hf:PySem.W.findIn K (.ref C) name=some (some (.ref f))) (ht:PySem.W.isFn K (.ref f)=true) (hv:mA name=none) (h:Q (.ref f,[.ref x]) s) :
  wpAny (model prog w) A (getMethod (.ref x) name pl) Q E s:=by
 obtain ⟨od,J,hl⟩:=I.look;exact PySem.W.method_fn X J (PySem.W.plainGet_of hg).1 (PySem.W.plainGet_of hg).2 hf (qCW.mp ht) (by show (PySem.W.lookIn name od).map (·.isSome)=some false;rw [hl,hv];rfl) h
theorem set_map {ns:List Str} {Q:Unit->Shared->Prop} (X:K.In s.heap) (I:ObjM s.heap x dx C mA)
  (hs:PySem.W.findIn K (.ref C) "__setattr__" = some (some (.builtin "object.__setattr__"))) (hp:PySem.W.plainOver K C=true) (ht:PySem.W.takerIn K C name=some none) (hh:PySem.W.hasDictIn K C=true)
  (hw:PySem.Within mA ns) (hsz:ns.length<=sizeLine)
  (h:∀h',ObjM h' x dx C (fun y=>if y=name then some v else mA y)->Heap.SameBut dx s.heap h'->Q () {s with heap:=h',toks:=s.toks+2}) :
  wpAny (model prog w) A (setAttr (.ref x) name v) Q E s:=by
 obtain ⟨od,J,hl⟩:=I.look;refine PySem.W.set_plain X J hs (PySem.W.osa_open (s:={s with toks:=s.toks+1}) (r:=none) X J hp ht fun b=>?_);obtain ⟨cd,hc,hd'⟩:=PySem.W.any_some hh;have hx:s.heap.get? x=some ⟨.ref C,some dx,.plain,#[]⟩:=I.obj;refine qAA (qAD (qAA (qAA (wpAny_loadPart hx (qAA (PySem.W.Looks.here (s:={s with toks:=s.toks+1}) (PySem.W.looks_clsIn X hc) ?_))))));rw [hd'];refine qAD (a:=some dx) (qAA (qAD (qAA ?_)));refine wpAny_nsSet1 (s:={s with toks:=s.toks+1}) I.ns fun h' hn2 hs2=>?_;obtain ⟨oD,esD,epD,hoD,hdD,hcD⟩:=hn2.count (PySem.Within.cons name v hw);refine qAA (wpAny_lookBehind hoD (by rw [hdD];exact pastItsLine_dict (qAX hcD (by rw [qAc];lia))) ?_);exact qAD (h _ ⟨(hs2.2 _ (qAr I.ne)).trans I.obj,hn2,I.ne⟩ hs2)
theorem make_map {R:Result->Shared->Prop} {vs:List Value} {kw:List (Str×Value)} (X:K.In s.heap) (hm:PySem.W.makesIn K C=true)
  (hi:PySem.W.findIn K (.ref C) "__init__" = some (some (.ref f))) (hf:PySem.W.typeIn K (.ref f)=some (.type "function"))
  (h:codeAny (model prog w) (A.under (.builtin "type.__call__" ⟨.ref C::vs,kw⟩)) (.call (.ref f) ⟨.ref (s.heap.objs.size+1)::vs,kw⟩) (PySem.W.InitBack (s.heap.objs.size+1) R)
   {s with heap:=(s.heap.push PySem.W.emptyDict).push (PySem.W.instObj C s.heap.objs.size)}) :
  codeAny (model prog w) A (.call (.ref C) ⟨vs,kw⟩) R s:=by
 obtain ⟨hh,g,d,t,os⟩:=s;exact PySem.W.make_core (PySem.W.makes_of X hm) (PySem.W.looks_findIn X hi) (fun self=>PySem.W.bind_fn X self hf) (.inl rfl) h
end
def putF (f:Str) (v:V):List (Str×V)->List (Str×V)
 | []=>[(f,v)]
 | (g,x)::r=>if g=f then (g,v)::r else (g,x)::putF f v r
theorem zAo (f g:Str) (v:V):∀fs:List (Str×V),(putF f v fs).lookup g=if g=f then some v else fs.lookup g
 | []=>by
  show List.lookup g [(f,v)]=_
  by_cases h:g=f
  ·have hb:(g==f)=true:=qCW.mpr h;simp only [List.lookup,hb,qAC h]
  ·have hb:(g==f)=false:=qA8.mpr h;simp only [List.lookup,hb,qAB h]
 | (k,x)::r=>by
  have ih:=zAo f g v r;rw [show putF f v ((k,x)::r)=(if k=f then (k,v)::r else (k,x)::putF f v r) from rfl]
  by_cases hk:k=f
  ·rw [qAC hk]
   by_cases h:g=k
   ·have hb:(g==k)=true:=qCW.mpr h;simp only [List.lookup,hb,qAC (h.trans hk)]
   ·have hb:(g==k)=false:=qA8.mpr h;simp only [List.lookup,hb,qAB (fun e:g=f=>h (e.trans hk.symm))]
  ·rw [qAB hk]
   by_cases h:g=k
   ·have hb:(g==k)=true:=qCW.mpr h;simp only [List.lookup,hb,qAB (fun e:g=f=>hk (h.symm.trans e))]
   ·have hb:(g==k)=false:=qA8.mpr h;simp only [List.lookup,hb];exact ih
theorem zHj (f:Str) (v:V):∀fs:List (Str×V),f∈(putF f v fs).map (·.1)/\∀g,g∈fs.map (·.1)->g∈(putF f v fs).map (·.1)
 | []=>⟨by simp [putF],fun g h=>by simp at h⟩
 | (k,x)::r=>by
  obtain ⟨i1,i2⟩:=zHj f v r;rw [show putF f v ((k,x)::r)=(if k=f then (k,v)::r else (k,x)::putF f v r) from rfl]
  by_cases hk:k=f
  ·rw [qAC hk];subst hk;exact ⟨by simp,fun g h=>by simpa using h⟩
  ·rw [qAB hk];refine ⟨?_,fun g h=>?_⟩
   ·rw [qAn];exact qAR _ i1
   ·rw [qAn] at h ⊢;rcases qAN.mp h with e| e
    ·exact qAN.mpr (.inl e)
    ·exact qAR _ (i2 g e)
theorem zHh (f:Str) (v:V):∀fs:List (Str×V),(putF f v fs).length<=fs.length+1
 | []=>by simp [putF]
 | (k,x)::r=>by
  have ih:=zHh f v r;rw [show putF f v ((k,x)::r)=(if k=f then (k,v)::r else (k,x)::putF f v r) from rfl]
  by_cases hk:k=f
  ·rw [qAC hk,qAc,qAc];lia
  ·rw [qAB hk,qAc,qAc];lia
theorem RelO.some_of {v:V} {o:Option Value} (r:RelO (some v) o):∃u,o=some u/\RelV v u:=by
 cases o with
 | none=>exact (show False from r).elim
 | some u=>exact ⟨u,rfl,r⟩
theorem RelO.none_of {o:Option Value} (r:RelO none o):o=none:=by
 cases o with
 | none=>rfl
 | some u=>exact (show False from r).elim
theorem handed_of (r:RelV v u):PySem.W.handedIn u=true:=by
 cases v with
 | non=>cases (show u=Value.none from r);rfl
 | bl b=>cases (show u=Value.bool b from r);rfl
 | int i=>obtain ⟨t,e⟩:=(show∃t,u=Value.int i t from r);cases e;rfl
 | str x=>obtain ⟨t,e⟩:=(show∃t,u=Value.str x t from r);cases e;rfl
 | byt b=>obtain ⟨t,e⟩:=(show∃t,u=Value.bytes b t from r);cases e;rfl
 | flt b=>obtain ⟨t,e⟩:=(show∃t,u=Value.float b t from r);cases e;rfl
 | ref a=>cases (show u=Value.ref a from r);rfl
 | ty n=>cases (show u=Value.type n from r);rfl
section
variable {P:Program} {w:World} {H H':Hp} {h h':Heap} {a C dx:Addr} {fs fs':List (Str×V)}
theorem zFv (hok:HOk P w H h) (e:H a=some (.ins C dx fs)):∃mA,ObjM h a dx C mA/\(∀f,RelO (fs.lookup f) (mA f))/\PySem.Within mA (fs.map (·.1))/\fs.length<=1000/\H dx=some (.own a):=by
 obtain ⟨d,z,ne,ob,mA,n,r,q⟩:=(show zAs P w H h a (.ins C dx fs) from hok a _ e);exact ⟨mA,⟨ob,n,ne⟩,r,q,z,d⟩
end
structure Cls (K:PySem.W.Frag) (C:Addr):Prop where
 pg:PySem.W.plainGet K C Str.empty=true
 hd:PySem.W.hasDictIn K C=true
 po:PySem.W.plainOver K C=true
 sa:PySem.W.findIn K (.ref C) "__setattr__" = some (some (.builtin "object.__setattr__"))
theorem Cls.get (c:Cls K C) (f:Str):PySem.W.plainGet K C f=true:=c.pg
def zFm (K:PySem.W.Frag) (C:Addr) (f:Str):Prop:=PySem.W.findIn K (.ref C) f=some none
theorem zFm.taker {f:Str} (n:zFm K C f):PySem.W.takerIn K C f=some none:=by
 unfold PySem.W.takerIn;rw [show PySem.W.findIn K (.ref C) f=some none from n];rfl
structure Meth (K:PySem.W.Frag) (C:Addr) (m:Str) (f:Addr):Prop where
 at_:PySem.W.findIn K (.ref C) m=some (some (.ref f))
 fn:PySem.W.isFn K (.ref f)=true
 kp:PySem.W.keepIn K (.ref f)=true
section
variable {X:Cx} {pins:List (Addr×Obj)} {σ:St} {H:Hp} {s:Shared} {a C dx:Addr} {fs:List (Str×V)} {f:Str} {v:V} {A:Around} {E:Value->Shared->Prop}
theorem getattr_ok {b:Bool} {Q:Value->Shared->Prop} (I:Inv X pins σ H s) (e:H a=some (.ins C dx fs)) (c:Cls X.K C) (n:zFm X.K C f) (l:fs.lookup f=some v)
  (h:∀u s',Inv X pins σ H s'->RelV v u->Q u s'):wpAny (model X.prog X.w) A (getAttr (.ref a) f b) Q E s:=by
 obtain ⟨mA,O,r,_,_,_⟩:=zFv I.hok e;obtain ⟨u,hu,ru⟩:=RelO.some_of (v:=v) (o:=mA f) (by rw [<-l];exact r f);exact get_map I.kIn O (c.get f) c.hd n hu (handed_of ru) (h u _ (I.tok _) ru)
theorem zIj {m:Str} {g:Addr} {pl:Sem Bool} {Q:Value×List Value->Shared->Prop} (I:Inv X pins σ H s) (e:H a=some (.ins C dx fs)) (c:Cls X.K C) (k:Meth X.K C m g) (l:fs.lookup m=none)
  (h:Q (.ref g,[.ref a]) s):wpAny (model X.prog X.w) A (getMethod (.ref a) m pl) Q E s:=by
 obtain ⟨mA,O,r,_,_,_⟩:=zFv I.hok e;have hn:mA m=none:=RelO.none_of (by rw [<-l];exact r m);exact get_meth I.kIn O (c.get m) k.at_ k.fn hn h
theorem setattr_ok {Q:Unit->Shared->Prop} (I:Inv X pins σ H s) (e:H a=some (.ins C dx fs)) (c:Cls X.K C) (n:zFm X.K C f) (hl:fs.length<1000) (ry:RelV y u)
  (h:∀s',Inv X pins σ (upd H a (.ins C dx (putF f y fs))) s'->Q () s'):wpAny (model X.prog X.w) A (setAttr (.ref a) f u) Q E s:=by
 obtain ⟨mA,O,r,wi,_,ho⟩:=zFv I.hok e;have hz:(fs.map (·.1)).length<=sizeLine:=by rw [qAE,qAK];lia
 refine set_map I.kIn O c.sa c.po n.taker c.hd wi hz fun h' O' sb=>h _ ?_;have hd:∃o,h'.get? dx=some o:=let ⟨o,_,_,e',_⟩:=O'.ns;⟨o,e'⟩;refine I.write (x:=a) (e:=dx) (by rw [e];exact True.intro) (.inr ho) (fun b q hb z=>(sb.2 b hb).trans z) hd ?_;refine ⟨by rw [upd_ne O.ne];exact ho,?_,O.ne,O'.obj,_,O'.ns,fun g=>?_,fun g hg=>?_⟩
 ·have:=zHh f y fs;lia
 ·show RelO ((putF f y fs).lookup g) (if g=f then some u else mA g);rw [zAo]
  by_cases q:g=f
  ·rw [qAC q,qAC q];exact ry
  ·rw [qAB q,qAB q];exact r g
 ·by_cases q:g=f
  ·rw [q];exact (zHj f y fs).1
  ·refine (zHj f y fs).2 g (wi g fun z=>hg ?_);show (if g=f then some u else mA g)=none;rw [qAB q];exact z
theorem Inv.made (I:Inv X pins σ H s):Inv X pins σ (upd (upd H s.heap.objs.size (.own (s.heap.objs.size+1))) (s.heap.objs.size+1) (.ins C s.heap.objs.size []))
  {s with heap:=(s.heap.push PySem.W.emptyDict).push (PySem.W.instObj C s.heap.objs.size)}:=by
 have e1:(s.heap.push PySem.W.emptyDict).get? s.heap.objs.size=some PySem.W.emptyDict:=qAb s.heap rfl
 have e2:((s.heap.push PySem.W.emptyDict).push (PySem.W.instObj C s.heap.objs.size)).get? (s.heap.objs.size+1)=some (PySem.W.instObj C s.heap.objs.size):=by
  have:=qAb (s.heap.push PySem.W.emptyDict) (o:=PySem.W.instObj C s.heap.objs.size) rfl
  rwa [qBm] at this
 have e3:(s.heap.push PySem.W.emptyDict).Ns s.heap.objs.size (fun _=>none):=⟨PySem.W.emptyDict,#[],_,e1,rfl,(fun e he=>absurd he (by simp)),fun _=>rfl⟩;have I1:=I.laid (a:=s.heap.objs.size) (o:=.own (s.heap.objs.size+1)) (h':=s.heap.push PySem.W.emptyDict) (t':=s.toks) (fun b u q=>qAJ _ q) (qAG _) ⟨_,e1⟩;refine I1.laid (a:=s.heap.objs.size+1) (o:=.ins C s.heap.objs.size []) (t':=s.toks) (fun b u q=>qAJ _ q) (qBN (qBm _ _)) ?_;have ne:s.heap.objs.size≠s.heap.objs.size+1:=qAZ (qB3 _);refine ⟨by rw [upd_ne ne,upd_same],qAY _,ne,e2,fun _=>none,(Heap.Ns1.of_empty e3).at fun o q=>qAJ _ q,fun _=>True.intro,fun y hy=>absurd rfl hy⟩
theorem attr_of {prog:Program} {env:Env} {f:Str} {pos:Pos} {Q:Value->Shared->Prop} (hb:attributeBase e f env (eval e env)=eval e env)
  (h:wpAny (model prog w) A (eval e env) (fun o s₁=>wpAny (model prog w) A (getAttr o f true) Q E s₁) E s):wpAny (model prog w) A (eval (.Attribute e f pos) env) Q E s :=
 Attribute_any_ h (by rw [arm_eval_Attribute,hb])
end
def tFld (K:PySem.W.Frag) (ta:TE) (f:Str):TE:=fun σ H Q=>ta σ H fun x H1=>∃a C dx fs v,x= .ref a/\H1 a=some (.ins C dx fs)/\Cls K C/\zFm K C f/\fs.lookup f=some v/\Q v H1
def sFld (K:PySem.W.Frag) (ta tv:TE) (f:Str):TS:=fun D σ H=>tv σ H fun y H1=>ta σ H1 fun x H2=>∃a C dx fs,x= .ref a/\H2 a=some (.ins C dx fs)/\Cls K C/\zFm K C f/\fs.length<1000 /\
 D.nx σ (upd H2 a (.ins C dx (putF f y fs)))
section
variable {X:Cx} {o e value:Expr} {f:Str} {pos pos' tpos:Pos} {ta tv:TE}
theorem zDr (he:PE X e ta) (hb:attributeBase e f X.env (eval e X.env)=eval e X.env):PE X (.Attribute e f pos) (tFld X.K ta f):=by
 intro pins s σ H Q I h;refine attr_of hb (thn (he pins s σ H _ I h) fun u s1 ⟨x,H1,I1,rx,a,C,dx,fs,v,ex,ea,c,n,l,q⟩=>?_);subst ex;obtain rfl:u=Value.ref a:=rx;exact getattr_ok I1 ea c n l fun u' s2 I2 ru=>⟨v,H1,I2,ru,q⟩
theorem ps_fld (ha:PE X o ta) (hv:PE X value tv) (hs:swapsWith value (some (.Attribute o f pos')) pos.line X.env=pure false):PS X (.Assign [.Attribute o f pos'] value pos) (sFld X.K ta tv f):=by
 intro pins s σ H D I h;refine plainObj_wpAny_Assign_Attribute (thn (hv pins s σ H _ I h) fun u s1 ⟨y,H1,I1,ry,q⟩=>thn (ha pins s1 σ H1 _ I1 q) fun ov s2 ⟨x,H2,I2,rx,a,C,dx,fs,ex,ea,c,n,l,q2⟩=>?_) hs;subst ex;obtain rfl:ov=Value.ref a:=rx;exact setattr_ok I2 ea c n l ry fun s3 I3=>⟨σ,_,I3,q2⟩
end
section
variable {X:Cx} {pins:List (Addr×Obj)} {σ:St} {H:Hp} {s:Shared} {A:Around} {E:Value->Shared->Prop} {Q:Value->Shared->Prop} {c:Value} {b:Bool}
inductive TyOf (K:PySem.W.Frag) (H:Hp):V->Value->Prop where
 | non:TyOf K H .non (.type "NoneType")
 | bl (x:Bool):TyOf K H (.bl x) (.type "bool")
 | int (i:Int):TyOf K H (.int i) (.type "int")
 | str (x:Str):TyOf K H (.str x) (.type "str")
 | flt (x:UInt64):TyOf K H (.flt x) (.type "float")
 | lst {a:Addr} {xs:List V} (e:H a=some (.lst xs)):TyOf K H (.ref a) (.type "list")
 | frz {a:Addr} {o:Obj} {xs:List V} (e:H a=some (.frz o (.lst xs))):TyOf K H (.ref a) (.type "list")
 | tup {a:Addr} {xs:List V} (e:H a=some (.tup xs)):TyOf K H (.ref a) (.type "tuple")
 | dK {a:Addr} {kvs:List (Key×V)} (e:H a=some (.dK kvs)):TyOf K H (.ref a) (.type "dict")
 | dT {a:Addr} {kvs:List (List Key×V)} (e:H a=some (.dT kvs)):TyOf K H (.ref a) (.type "dict")
 | ins {a C dx:Addr} {fs:List (Str×V)} (e:H a=some (.ins C dx fs)) (cl:Cls K C) (ha:PySem.W.findIn K (.ref C) "__class__" = some (some (.builtin "object.__class__")))
   (hn:PySem.W.specialIn K (.builtin "object.__class__") "__get__" = some (some (.builtin "getset_descriptor.__get__"))) (htk:PySem.W.takesIn K (.builtin "object.__class__")=some true)
   (hm:PySem.W.mroIn K C (.type "object")=some true):TyOf K H (.ref a) (.ref C)
theorem isinst_ok {x:V} {t:Value} (I:Inv X pins σ H s) (rx:RelV x u) (ty:TyOf X.K H x t) (e:PySem.W.kitOne X.K t c=some b) (h:∀tk,Q (.bool b) {s with toks:=tk}) :
  wpAny (model X.prog X.w) A (call (.builtin "isinstance") [u,c]) Q E s:=by
 cases ty with
 | non=>cases (show u=Value.none from rx);exact qBO PySem.W.kitx_none I.kIn True.intro e (fun z=>nomatch z) h
 | bl y=>cases (show u=Value.bool y from rx);exact qBO PySem.W.kitx_bool I.kIn True.intro e (fun z=>nomatch z) h
 | int i=>obtain ⟨t,q⟩:=(show∃t,u=Value.int i t from rx);cases q;exact qBO PySem.W.kitx_int I.kIn True.intro e (fun z=>nomatch z) h
 | str y=>obtain ⟨t,q⟩:=(show∃t,u=Value.str y t from rx);cases q;exact qBO PySem.W.kitx_str I.kIn True.intro e (fun z=>nomatch z) h
 | flt y=>obtain ⟨t,q⟩:=(show∃t,u=Value.float y t from rx);cases q;exact qBO PySem.W.kitx_float I.kIn True.intro e (fun z=>nomatch z) h
 | @lst a xs ea =>
  cases (show u=Value.ref a from rx)
  obtain ⟨_,_,n,_,h1⟩:=(show zAs X.prog X.w H s.heap a (.lst xs) from I.hok a _ ea);exact qBO PySem.W.kitx_list I.kIn ⟨_,h1,rfl⟩ e (fun z=>nomatch z) h
 | @frz a ob xs ea =>
  cases (show u=Value.ref a from rx)
  obtain ⟨_,_,_,n,_,h1⟩:=(show zAs X.prog X.w H s.heap a (.frz ob (.lst xs)) from I.hok a _ ea);exact qBO PySem.W.kitx_list I.kIn ⟨_,h1,rfl⟩ e (fun z=>nomatch z) h
 | @tup a xs ea =>
  cases (show u=Value.ref a from rx)
  obtain ⟨_,_,_,p⟩:=(show zAs X.prog X.w H s.heap a (.tup xs) from I.hok a _ ea);obtain ⟨o,h1,h2,_⟩:=p;exact qBO PySem.W.kitx_tuple I.kIn ⟨o,h1,h2⟩ e (fun z=>nomatch z) h
 | @dK a kvs ea =>
  cases (show u=Value.ref a from rx)
  obtain ⟨_,_,vs,_,p⟩:=(show zAs X.prog X.w H s.heap a (.dK kvs) from I.hok a _ ea);obtain ⟨o,es,ep,h1,h2,_⟩:=p;exact qBO PySem.W.kitx_dict I.kIn ⟨o,h1,h2.1⟩ e (fun z=>nomatch z) h
 | @dT a kvs ea =>
  cases (show u=Value.ref a from rx)
  obtain ⟨_,_,xs,_,o,es,ep,h1,h2,_⟩:=(show zAs X.prog X.w H s.heap a (.dT kvs) from I.hok a _ ea);exact qBO PySem.W.kitx_dict I.kIn ⟨o,h1,h2.1⟩ e (fun z=>nomatch z) h
 | @ins a C dx fs ea cl ha hn htk hm =>
  cases (show u=Value.ref a from rx)
  obtain ⟨mA,O,_⟩:=zFv I.hok ea;obtain ⟨od,J,_⟩:=O.look;exact qBO (PySem.W.kitx_own (cl.get _) cl.hd ha hn htk hm) I.kIn J e (fun z=>nomatch z) h
end
structure Room (k:Nat) (A:Around):Prop where
 hd:A.handled=none
 dp:A.depth+3*k+5<recursionLimit
 un:A.units+16*k+200<cLine
 gd:A.guards=some []
theorem Room.mono {j k:Nat} (r:Room k A) (h:j<=k):Room j A:=⟨r.hd,by have:=r.dp;lia,by have:=r.un;lia,r.gd⟩
theorem Room.deeper {k:Nat} (r:Room (k+1) A) (env:Env):Room k (A.deeper env) :=
 ⟨r.hd,by have:=r.dp;show A.depth+1+3*k+5<_;lia,by have:=r.un;show A.units+3+16*k+200<_;lia,r.gd⟩
theorem Room.in1 {k:Nat} (r:Room (k+1) A):Room k A.in1 :=
 ⟨r.hd,by have:=r.dp;show A.depth+3*k+5<_;lia,by have:=r.un;show A.units+1+16*k+200<_;lia,r.gd⟩
theorem make_depth {kw:List (Str×Value)}:(A.under (.builtin "type.__call__" ⟨.ref C::us,kw⟩)).depth=A.depth+1:=by
 first| rfl| simp [Around.under,Code.weight,Code.isCreation,Code.isGuard,Code.isCaller,Code.frames,Code.isFrame,guardIds]
theorem make_units {kw:List (Str×Value)}:(A.under (.builtin "type.__call__" ⟨.ref C::us,kw⟩)).units=A.units+1:=by
 first| rfl| simp [Around.under,Code.cUnits,Code.frames,Code.isFrame]
theorem Room.make {k:Nat} (r:Room (k+1) A) (C:Addr) (us:List Value) (kw:List (Str×Value)):Room k (A.under (.builtin "type.__call__" ⟨.ref C::us,kw⟩)) :=
 ⟨r.hd,by have:=r.dp;rw [make_depth];lia,by have:=r.un;rw [make_units];lia,(by unfold Around.under;dsimp only;rw [r.gd];rfl)⟩
theorem Room.depth {k:Nat} (r:Room k A):A.depth<recursionLimit:=by have:=r.dp;lia
theorem Room.units {k:Nat} (r:Room k A):A.units+64<cLine:=by have:=r.un;lia
def tNil:TA:=fun _ H Q=>Q [] H
def tCons (ta:TE) (tr:TA):TA:=fun σ H Q=>ta σ H fun x H1=>tr σ H1 fun xs H2=>Q (x::xs) H2
section
variable {X:Cx} {e:Expr} {es:List Expr} {te:TE} {t:TA} {pos:Pos}
theorem zAb:PA X [] tNil:=fun _ _ _ _ H Q I h=>Calls.spliced_nil ⟨[],H,I,.nil,h⟩
theorem zAa (ha:PE X e te) (hr:PA X es t) (hs:starEach (e::es) X.env=(false,eval e X.env)::starEach es X.env:=by rfl):PA X (e::es) (tCons te t):=by
 intro pos pins s σ H Q I h;rw [hs];show wpAny _ _ (spliced ((false,eval e X.env)::backTo pos (starEach es X.env))) _ _ s;refine Calls.spliced_cons (thn (ha pins s σ H _ I h) fun u s1 ⟨x,H1,I1,r1,q1⟩=>?_);exact thn (hr pos pins s1 σ H1 _ I1 q1) fun us s2 ⟨xs,H2,I2,r2,q2⟩=>⟨x::xs,H2,I2,.cons r1 r2,q2⟩
def tTup (t:TA):TE:=fun σ H Q=>t σ H fun xs H1=>xs.length<=sizeLine/\∀p,H1 p=none->Q (.ref p) (upd H1 p (.tup xs))
def tLst (t:TA):TE:=fun σ H Q=>t σ H fun xs H1=>xs.length<=sizeLine/\∀p,H1 p=none->Q (.ref p) (upd H1 p (.lst xs))
theorem zC7 {x1} (h:PA X es t):PE X (.Tuple es x1 pos) (tTup t):=by
 intro pins s σ H Q I hq;refine wpAny_Tuple_spliced (thn (h pos pins s σ H _ I hq) fun us s1 ⟨xs,H1,I1,r,z,q⟩=>⟨by rw [<-r.length];exact z,?_⟩);have hf:H1 s1.heap.objs.size=none:=I1.hok.fresh (qAG _);refine ⟨.ref s1.heap.objs.size,upd H1 s1.heap.objs.size (.tup xs),I1.laid (t':=s1.toks) (fun b u e=>qAJ _ e) (qAG _) ?_,rfl,q _ hf⟩;exact ⟨z,us,r,⟨_,qAb _ rfl,rfl,_,rfl⟩⟩
theorem zBp (h:PA X es t):PE X (.List es pos) (tLst t):=by
 intro pins s σ H Q I hq;refine wpAny_List_spliced (thn (h pos pins s σ H _ I hq) fun us s1 ⟨xs,H1,I1,r,z,q⟩=>⟨by rw [<-r.length];exact z,?_⟩);have hf:H1 s1.heap.objs.size=none:=I1.hok.fresh (qAG _);refine ⟨.ref s1.heap.objs.size,upd H1 s1.heap.objs.size (.lst xs),I1.laid (t':=s1.toks) (fun b u e=>qAJ _ e) (qAG _) ?_,rfl,q _ hf⟩;exact ⟨z,us,0,r,qAb _ rfl⟩
end
abbrev Sp:=List V->Hp->VK->XK->Prop
abbrev CXT:=List Env->Hp->Shared->XK->Value->Shared->Prop
structure Env0 (P:Program) (w:World) (K:PySem.W.Frag) (mg:Str->Option Value) (base:Heap) (A:Around) (outer:List Env) (s:Shared) (H:Hp):Prop where
 frames:A.frames=some outer
 mod:Mod K mg base
 bs:∀b o,base.get? b=some o->s.heap.get? b=some o/\H b=none
 bsz:base.objs.size<=s.heap.objs.size
 funs:s.heap.FunFrames base outer
 frf:∀b∈frs outer,H b=none
 hok:HOk P w H s.heap
 bare:AllBare s.gens
def CE (outer:List Env) (P:Program) (w:World) (H:Hp) (s:Shared) (Q:VK) (u:Value) (s':Shared):Prop :=
 ∃v H',s'.os=s.os/\AllBare s'.gens/\Un (frs outer) [] H H' s.heap s'.heap/\HOk P w H' s'.heap/\RelV v u/\Q v H'
def CR (CX:CXT) (outer:List Env) (P:Program) (w:World) (H:Hp) (s:Shared) (Q:VK) (E:XK) (r:Result) (s':Shared):Prop :=
 match r with
 | .ok (.ret u)=>CE outer P w H s Q u s'
 | .ok _=>False
 | .error e=>CX outer H s E e s'
structure FnOk (P:Program) (w:World) (K:PySem.W.Frag) (mg:Str->Option Value) (base:Heap) (CX:CXT) (k:Nat) (f:Addr) (fd:FuncData) (ps:List Str) (sp:Sp):Prop where
 len:∀vs H Q E,sp vs H Q E->vs.length=ps.length
 run:∀(A:Around) (outer:List Env) (s:Shared) (H:Hp) (args:Args) (us:List Value) (vs:List V) (Q:VK) (E:XK),Room k A->Env0 P w K mg base A outer s H->BindsTo s fd args (ps.zip us)->Vals vs us->sp vs H Q E ->
  codeAny (model P w) A (.call (.ref f) args) (CR CX outer P w H s Q E) s
theorem Env0.make {mg:Str->Option Value} {outer:List Env} (e:Env0 P w K mg base A outer s H) (C:Addr) (us:List Value) (kw:List (Str×Value)) :
  Env0 P w K mg base (A.under (.builtin "type.__call__" ⟨.ref C::us,kw⟩)) outer s H:=⟨by first| exact e.frames| (simpa [Around.under,Code.envs,Code.isFrame,pushEnvs] using e.frames),e.mod,e.bs,e.bsz,e.funs,e.frf,e.hok,e.bare⟩
section
variable {X:Cx} {pins:List (Addr×Obj)} {σ:St} {H:Hp} {s s':Shared}
theorem Inv.env0 (I:Inv X pins σ H s):Env0 X.prog X.w X.K X.mg X.base X.A X.stack s H :=
 ⟨I.ok.frames,I.ok.mod,I.bs,qAX I.ok.bsz I.sz,I.stack,I.stkFree,I.hok,I.bare⟩
theorem Inv.after {Q:VK} (I:Inv X pins σ H s) (h:CE X.stack X.prog X.w H s Q u s'):EP X pins σ Q u s':=by
 obtain ⟨v,H',os,bare,un,hok,r,q⟩:=h;obtain ⟨hh,g,d,t,os'⟩:=s';obtain rfl:os'=s.os:=os;exact ⟨v,H',I.call (h':=hh) (g':=g) (d':=d) (t':=t) (ch:=[]) un hok bare (fun b z=>absurd z (by simp)),r,q⟩
end
def tCall (sp:Sp) (dvs:List V) (E:XK) (t:TA):TE:=fun σ H Q=>t σ H fun vs H1=>sp (vs++dvs) H1 Q E
def tMeth (C:Addr) (m:Str) (sp:Sp) (dvs:List V) (E:XK) (ta:TE) (t:TA):TE:=fun σ H Q=>ta σ H fun x H1=>∃a dx fs,x= .ref a/\H1 a=some (.ins C dx fs)/\fs.lookup m=none /\
 t σ H1 fun vs H2=>sp (x::(vs++dvs)) H2 Q E
def tMake (C:Addr) (sp:Sp) (dvs:List V) (E:XK) (t:TA):TE:=fun σ H Q=>t σ H fun vs H1=>∀x dx,H1 x=none->H1 dx=none->dx≠x ->
 sp (.ref x::(vs++dvs)) (upd (upd H1 dx (.own x)) x (.ins C dx [])) (fun v H2=>v= .non/\Q (.ref x) H2) E
def zDg (K:PySem.W.Frag) (fd:FuncData) (ps:List Str) (ds:List Value):Prop :=
 ∀(s:Shared) (us:List Value),K.In s.heap->(us++ds).length=ps.length->BindsTo s fd ⟨us,[]⟩ (ps.zip (us++ds))
theorem zDg.all {fd:FuncData} {ps:List Str} (h:∀us:List Value,us.length=ps.length->bindArgs fd ⟨us,[]⟩=pure (ps.zip us)):zDg K fd ps []:=fun s us _ hl=>by
 rw [qBI] at hl ⊢;exact .of_eq (h us hl)
def zHs (CX:CXT) (X:Cx) (E:XK):Prop:=∀(pins:List (Addr×Obj)) (σ:St) (H:Hp) (s:Shared) (e:Value) (s':Shared),Inv X pins σ H s->CX X.stack H s E e s'->X.xe e s'
section
variable {X:Cx} {CX:CXT} {k:Nat} {f C:Addr} {fd:FuncData} {ps:List Str} {sp:Sp} {dvs:List V} {ds:List Value} {E:XK} {x m:Str} {p pos apos:Pos} {e o:Expr} {es:List Expr} {ta:TE} {t:TA}
theorem run_fn {Q:VK} {us:List Value} {vs:List V} (F:FnOk X.prog X.w X.K X.mg X.base CX k f fd ps sp) (hr:Room k X.A) (hb:zDg X.K fd ps ds) (hd:Vals dvs ds) (hx:zHs CX X E)
  (I:Inv X pins σ H s) (r:Vals vs us) (h:sp (vs++dvs) H Q E):wpAny (model X.prog X.w) X.A (call (.ref f) us) (EP X pins σ Q) X.xe s:=by
 have r2:Vals (vs++dvs) (us++ds):=r.append hd;have hl:(us++ds).length=ps.length:=by rw [<-r2.length];exact F.len _ _ _ _ h
 refine qCX (qCK (F.run X.A X.stack s H ⟨us,[]⟩ (us++ds) (vs++dvs) Q E hr I.env0 (hb s us I.kIn hl) r2 h) fun r s' hq=>?_)
 cases r with
 | error e=>exact hx pins σ H s e s' I hq
 | ok fl =>
  cases fl with
  | ret u=>exact I.after hq
  | next=>exact False.elim hq
  | brk=>exact False.elim hq
  | cont=>exact False.elim hq
theorem pe_call (F:FnOk X.prog X.w X.K X.mg X.base CX k f fd ps sp) (hr:Room k X.A) (hg:Gl X x) (hm:X.mg x=some (.ref f)) (hk:PySem.W.keepIn X.K (.ref f)=true) (hb:zDg X.K fd ps ds) (hd:Vals dvs ds) (hx:zHs CX X E)
  (ha:PA X (e::es) t) (hdb:(x==("__debug__" : Str))=false:=by decide) (he:starEach (e::es) X.env=(false,eval e X.env)::starEach es X.env:=by rfl) (hpl:(backTo pos (starEach es X.env)).any (·.1)=false:=by rfl) :
  PE X (.Call (.Name x p) (e::es) [] pos) (tCall sp dvs E t):=by
 intro pins s σ H Q I h;refine qB4 (ld_glob I hg hm ?_ hdb);refine PySem.W.callWith_K (h₀:=X.base) I.ok.mod.kin hk (thn (ha pos pins s σ H _ I h) fun us s1 ⟨vs,H1,I1,r,q⟩=>⟨I1.kIn,?_⟩) he hpl;exact run_fn F hr hb hd hx I1 r q
theorem pe_meth {pl:Sem Bool} (he:PE X o ta) (c:Cls X.K C) (hm:Meth X.K C m f) (F:FnOk X.prog X.w X.K X.mg X.base CX k f fd ps sp) (hr:Room k X.A) (hb:zDg X.K fd ps ds) (hd:Vals dvs ds) (hx:zHs CX X E) (ha:PA X (e::es) t)
  (hst:starEach (e::es) X.env=(false,eval e X.env)::starEach es X.env:=by rfl) (hpl:(backTo pos (starEach es X.env)).any (·.1)=false:=by rfl)
  (ht:eval (.Call (.Attribute o m apos) (e::es) [] pos) X.env=(do
   let ov<-eval o X.env
   standAt apos.atName
   let (f,first)<-holding [ov] (getMethod ov m pl)
   callWith pos f first (backTo pos (starEach (e::es) X.env)) (backToKw pos (keywordEach [] X.env))):=by rfl) :
  PE X (.Call (.Attribute o m apos) (e::es) [] pos) (tMeth C m sp dvs E ta t):=by
 intro pins s σ H Q I h;refine PySem.W.methodCall_KW (pl:=pl) (thn (he pins s σ H _ I h) fun u s1 ⟨x,H1,I1,rx,a,dx,fs,ex,ea,l,q⟩=>?_) ht;subst ex;obtain rfl:u=Value.ref a:=rx;refine zIj I1 ea c hm l ?_;refine PySem.W.callWith_K (first:=[.ref a]) (h₀:=X.base) I.ok.mod.kin hm.kp (thn (ha pos pins s1 σ H1 _ I1 q) fun us s2 ⟨vs,H2,I2,r,q2⟩=>⟨I2.kIn,?_⟩) hst hpl;exact run_fn (us:=.ref a::us) (vs:=.ref a::vs) F hr hb hd hx I2 (.cons rfl r) q2
theorem pe_meth0 {pl:Sem Bool} (he:PE X o ta) (c:Cls X.K C) (hm:Meth X.K C m f) (F:FnOk X.prog X.w X.K X.mg X.base CX k f fd ps sp) (hr:Room k X.A) (hb:zDg X.K fd ps ds) (hd:Vals dvs ds) (hx:zHs CX X E)
  (ht:eval (.Call (.Attribute o m apos) [] [] pos) X.env=(do
   let ov<-eval o X.env
   standAt apos.atName
   let (f,first)<-holding [ov] (getMethod ov m pl)
   callWith pos f first (backTo pos (starEach [] X.env)) (backToKw pos (keywordEach [] X.env))):=by rfl) :
  PE X (.Call (.Attribute o m apos) [] [] pos) (tMeth C m sp dvs E ta tNil):=by
 intro pins s σ H Q I h;refine PySem.W.methodCall_KW (pl:=pl) (thn (he pins s σ H _ I h) fun u s1 ⟨x,H1,I1,rx,a,dx,fs,ex,ea,l,q⟩=>?_) ht;subst ex;obtain rfl:u=Value.ref a:=rx;refine zIj I1 ea c hm l ?_;exact PySem.W.callWith_K0 (first:=[.ref a]) I1.kIn hm.kp (run_fn (us:=[.ref a]) (vs:=[.ref a]) F hr hb hd hx I1 (.cons rfl .nil) q)
structure Mk (K:PySem.W.Frag) (C f:Addr):Prop where
 makes:PySem.W.makesIn K C=true
 init:PySem.W.findIn K (.ref C) "__init__" = some (some (.ref f))
 fn:PySem.W.isFn K (.ref f)=true
 kp:PySem.W.keepIn K (.ref C)=true
theorem run_make {Q:VK} {vs:List V} (M:Mk X.K C f) (F:FnOk X.prog X.w X.K X.mg X.base CX k f fd ps sp) (hr:Room (k+1) X.A) (hb:zDg X.K fd ps ds) (hd:Vals dvs ds)
  (hx:zHs CX X E) (I:Inv X pins σ H s) (r:Vals vs us)
  (h:∀x dx,H x=none->H dx=none->dx≠x->sp (.ref x::(vs++dvs)) (upd (upd H dx (.own x)) x (.ins C dx [])) (fun v H2=>v= .non/\Q (.ref x) H2) E) :
  wpAny (model X.prog X.w) X.A (call (.ref C) us) (EP X pins σ Q) X.xe s:=by
 have hq:=h (s.heap.objs.size+1) s.heap.objs.size (I.hok.fresh (qCL _)) (I.hok.fresh (qAG _)) (qAZ (qB3 _));have I2:=Inv.made (C:=C) I;have r2:Vals (V.ref (s.heap.objs.size+1)::(vs++dvs)) (Value.ref (s.heap.objs.size+1)::(us++ds)):=.cons rfl (r.append hd)
 have hl:(Value.ref (s.heap.objs.size+1)::us++ds).length=ps.length:=by
  have e:=r2.length;rw [F.len _ _ _ _ hq] at e;exact e.symm
 refine qCX (make_map (f:=f) I.kIn M.makes M.init (qCW.mp M.fn) (qCK (F.run _ X.stack _ _ ⟨Value.ref (s.heap.objs.size+1)::us,[]⟩ (Value.ref (s.heap.objs.size+1)::(us++ds)) _ _ E (hr.make C us [])
  (I2.env0.make C us []) (hb _ (Value.ref (s.heap.objs.size+1)::us) I2.kIn hl) r2 hq) fun r s' hq'=>?_))
 cases r with
 | error e=>exact hx pins σ _ _ e s' I2 hq'
 | ok fl =>
  cases fl with
  | ret u =>
   obtain ⟨v,H',I3,rv,ev,q3⟩:=I2.after hq';subst ev;exact ⟨rv,⟨V.ref (s.heap.objs.size+1),H',I3,rfl,q3⟩⟩
  | next=>exact False.elim hq'
  | brk=>exact False.elim hq'
  | cont=>exact False.elim hq'
theorem pe_make (M:Mk X.K C f) (F:FnOk X.prog X.w X.K X.mg X.base CX k f fd ps sp) (hr:Room (k+1) X.A) (hg:Gl X x) (hm:X.mg x=some (.ref C)) (hb:zDg X.K fd ps ds) (hd:Vals dvs ds) (hx:zHs CX X E)
  (ha:PA X (e::es) t) (hdb:(x==("__debug__" : Str))=false:=by decide) (he:starEach (e::es) X.env=(false,eval e X.env)::starEach es X.env:=by rfl) (hpl:(backTo pos (starEach es X.env)).any (·.1)=false:=by rfl) :
  PE X (.Call (.Name x p) (e::es) [] pos) (tMake C sp dvs E t):=by
 intro pins s σ H Q I h;refine qB4 (ld_glob I hg hm ?_ hdb);refine PySem.W.callWith_K (h₀:=X.base) I.ok.mod.kin M.kp (thn (ha pos pins s σ H _ I h) fun us s1 ⟨vs,H1,I1,r,q⟩=>⟨I1.kIn,?_⟩) he hpl;exact run_make M F hr hb hd hx I1 r q
end
def PK (X:Cx) (kws:List Keyword) (t:TA):Prop :=
 ∀(pos:Pos) (pins:List (Addr×Obj)) (s:Shared) (σ:St) (H:Hp) (Q:List V->Hp->Prop),Inv X pins σ H s->t σ H Q->wpAny (model X.prog X.w) X.A (evalAll ((backToKw pos (keywordEach kws X.env)).map (·.2))) (AP X pins σ Q) X.xe s
section
variable {X:Cx} {CX:CXT} {k:Nat} {f C:Addr} {fd:FuncData} {ps ks:List Str} {sp:Sp} {E:XK} {x m:Str} {p pos apos kpos:Pos} {e o:Expr} {es:List Expr} {kws:List Keyword} {te ta:TE} {t tk:TA} {nm:Option Str}
theorem pk_nil:PK X [] tNil:=fun _ _ _ _ H Q I h=>wpAny_evalAll_nil ⟨[],H,I,.nil,h⟩
theorem pk_cons (ha:PE X e te) (hr:PK X kws t):PK X (⟨nm,e,kpos⟩::kws) (tCons te t):=by
 intro pos pins s σ H Q I h;show wpAny _ _ (evalAll ((do let v<-eval e X.env;standAt pos;pure v)::(backToKw pos (keywordEach kws X.env)).map (·.2))) _ _ s;refine qC3 (qAA (thn (ha pins s σ H _ I h) fun u s1 ⟨x,H1,I1,r1,q1⟩=>qAA (qB0 (qAD ?_))));exact thn (hr pos pins s1 σ H1 _ I1 q1) fun us s2 ⟨xs,H2,I2,r2,q2⟩=>⟨x::xs,H2,I2,.cons r1 r2,q2⟩
variable {g:List Value->List Value->List Value} {gV:List V->List V->List V}
end
structure FnScope (N P:List Str) (sc:Scope):Prop where
 kind:sc.kind= .function
 co:sc.isCoroutine=false
 gen:sc.isGenerator=false
 nd:N.Nodup
 pre:N.take P.length=P
 par:∀x∈P,sc.names.lookup x=some .local\/sc.names.lookup x=some .cell
 nofree:∀y∈sc.names,y.2≠.free
theorem bindL_out {kindOf:Str->Option NameKind} :∀{binds:List (Str×Value)} {m:Str->Option Value},(∀v,(x,v)∉binds)->bindL kindOf binds m x=m x
 | [],_,_=>rfl
 | (n,v)::r,m,h=>by
  unfold bindL;rw [bindL_out fun w hw=>h w (qAR _ hw)];split
  ·have:x≠n:=by rintro rfl;exact h v qAT
   simp [this]
  ·rfl
theorem bindC_out {kindOf:Str->Option NameKind} :∀{binds:List (Str×Value)} {m:Str->Option Value},(∀v,(x,v)∉binds)->bindC kindOf binds m x=m x
 | [],_,_=>rfl
 | (n,v)::r,m,h=>by
  unfold bindC;rw [bindC_out fun w hw=>h w (qAR _ hw)];split
  ·rfl
  ·have:x≠n:=by rintro rfl;exact h v qAT
   simp [this]
theorem bindL_get {kindOf:Str->Option NameKind} {v:Value}:∀{P:List Str} {vs:List Value} {i:Nat} {m:Str->Option Value},P.Nodup->P[i]?=some x->vs[i]?=some v->kindOf x=some .local ->
  bindL kindOf (P.zip vs) m x=some v
 | [],_,_,_,_,h,_,_=>by simp at h
 | _::_,[],_,_,_,_,h,_=>by simp at h
 | p::P,w::vs,0,m,nd,h1,h2,hk=>by
  simp at h1 h2;subst h1;subst h2;show bindL kindOf ((p,w)::P.zip vs) m p=_;unfold bindL;rw [bindL_out fun v hv=>(qAv.mp nd).1 (List.of_mem_zip hv).1,qAC hk];simp
 | p::P,w::vs,i+1,m,nd,h1,h2,hk=>by
  show bindL kindOf ((p,w)::P.zip vs) m x=_;unfold bindL;exact bindL_get (i:=i) (qAv.mp nd).2 (by simpa using h1) (by simpa using h2) hk
theorem bindC_get {kindOf:Str->Option NameKind} {v:Value}:∀{P:List Str} {vs:List Value} {i:Nat} {m:Str->Option Value},P.Nodup->P[i]?=some x->vs[i]?=some v->kindOf x≠some .local ->
  bindC kindOf (P.zip vs) m x=some v
 | [],_,_,_,_,h,_,_=>by simp at h
 | _::_,[],_,_,_,_,h,_=>by simp at h
 | p::P,w::vs,0,m,nd,h1,h2,hk=>by
  simp at h1 h2;subst h1;subst h2;show bindC kindOf ((p,w)::P.zip vs) m p=_;unfold bindC;rw [bindC_out fun v hv=>(qAv.mp nd).1 (List.of_mem_zip hv).1,qAB hk];simp
 | p::P,w::vs,i+1,m,nd,h1,h2,hk=>by
  show bindC kindOf ((p,w)::P.zip vs) m x=_;unfold bindC;exact bindC_get (i:=i) (qAv.mp nd).2 (by simpa using h1) (by simpa using h2) hk
def start (N:List Str) (vs:List V):St:=vs.map some++List.replicate (N.length - vs.length) none
def cxOf (CX:CXT) (P:Program) (w:World) (K:PySem.W.Frag) (mg:Str->Option Value) (base:Heap) (N:List Str) (qual:Str) (scope:Scope) (f:Addr) (cd:Value) (A:Around) (outer:List Env) (s:Shared) (H:Hp) (E:XK):Cx where
 prog:=P
 w:=w
 K:=K
 mg:=mg
 base:=base
 A:=A.deeper (envOfC qual scope s.heap.objs.size f cd)
 N:=N
 s₀:=s
 H₀:=H
 env:=envOfC qual scope s.heap.objs.size f cd
 outer:=outer
 stack:=envOfC qual scope s.heap.objs.size f cd::outer
 ex:=[]
 calm:=true
 fn:=fun _=>true
 pn:=[]
 xe:=fun e s'=>wpAny (model P w) (A.deeper (envOfC qual scope s.heap.objs.size f cd)) (leaving (envOfC qual scope s.heap.objs.size f cd) e) (fun _ s''=>CX outer H s E e s'') (fun e' s''=>CX outer H s E e' s'') s'
theorem cell_has {sc:Scope} {n:Nat} (h:sc.names.lookup x=some .cell):∃c,(cellsFrom n sc.names []).lookup x=some c:=by
 have q:=qDe sc.names n [] (.inl h);exact Option.isSome_iff_exists.mp q
theorem inv_start {CX:CXT} {mg:Str->Option Value} {N ps:List Str} {qual:Str} {scope:Scope} {f:Addr} {cd:Value} {outer:List Env} {s1:Shared} {E:XK} {vs:List V}
  (S:FnScope N ps scope) (hd:A.handled=none) (e0:Env0 P w K mg base A outer s H) (hl:vs.length=ps.length) (r:Vals vs us)
  (x:InCallC s s.heap.objs.size (bindL (envOfC qual scope s.heap.objs.size f cd).kindOf (ps.zip us) fun _=>none) (cellsFrom (s.heap.objs.size+1) scope.names []) (bindC (envOfC qual scope s.heap.objs.size f cd).kindOf (ps.zip us) fun _=>none) s1) :
  Inv (cxOf CX P w K mg base N qual scope f cd A outer s H E) [] (start N vs) H s1:=by
 have hpl:ps.length<=N.length:=by have:=qAf List.length S.pre;rw [qAe] at this;lia
 obtain ⟨h1,tk,rfl,hk⟩:=x.done;have noA:∀b:Addr,b∉(cxOf CX P w K mg base N qual scope f cd A outer s H E).ex:=fun b z=>absurd (show b∈([]:List Addr) from z) (by simp)
 refine ⟨⟨e0.mod,S.kind,rfl,rfl,qAG _,fun y z c h1 h2=>?_,fun y hy=>?_,fun y c _ h=>?_,fun _=>hd,Around.frames_deeper e0.frames,.inr ⟨rfl,rfl⟩,fun b z=>absurd z (noA b),e0.bs,e0.bsz,fun b _ _=>noA b,fun b z=>absurd z (noA b),e0.funs,e0.frf⟩,
  rfl,e0.bare,Un.kept hk,⟨_,x.toInCall.ns,fun i y v h1 h2 h3=>?_⟩,fun y c h=>⟨_,x.cell y c h⟩,e0.hok.fresh (qAG _),fun y c h=>?_,fun p hp=>absurd (show p∈([]:List (Addr×Obj)) from hp) (by simp),e0.hok.kept hk,?_⟩
 ·exact name_of_addr x.apart (qBn h1) (qBn h2)
 ·have hy:scope.names.lookup y=some .cell\/scope.names.lookup y=some .free:=hy;rcases hy with hy| hy
  ·exact cell_has hy
  ·exact absurd rfl (S.nofree _ (qBn hy))
 ·exact qBz (x.above y c (qBn h))
 ·have hi:i<vs.length:=by
   unfold start at h2
   by_cases hi:i<vs.length
   ·exact hi
   ·rw [qBb (by simpa using hi)] at h2;rw [List.getElem?_replicate] at h2;split at h2<;>cases h2
  have ha:vs[i]?=some v:=by
   unfold start at h2;rw [qBc (by simpa using hi),qAW] at h2
   cases e:vs[i]? with
   | none=>rw [e] at h2;cases h2
   | some a=>rw [e] at h2;cases h2;rfl
  obtain ⟨u,hu,rv⟩:=r.get ha
  have hp:ps[i]?=some y:=by
   rw [<-S.pre,qB5 (by lia)];exact h1
  have ndP:ps.Nodup:=by rw [<-S.pre];exact S.nd.sublist (qC4 _ _)
  refine ⟨u,rv,?_⟩;rcases S.par y (qAO hp) with k| k
  ·exact .inl ⟨k,bindL_get ndP hp hu k⟩
  ·obtain ⟨c,e⟩:=cell_has (n:=s.heap.objs.size+1) k;refine .inr ⟨.inl k,c,e,?_⟩;have q:=x.cell y c e;rw [bindC_get ndP hp hu (by show scope.names.lookup y≠_;rw [k];decide)] at q;exact q
 ·exact e0.hok.fresh (qBz (x.above y c (qBn h)))
 ·unfold start;show _=N.length;rw [qAg,qAE,List.length_replicate];lia
theorem fn_of {CX:CXT} {mg:Str->Option Value} {k:Nat} {f:Addr} {name qual:Str} {params:Arguments} {body:List Stmt} {scope:Scope} {dV kV doc pm cdv ct oc:Value} {an od:Option Addr}
  {osl:Array (Option Value)} {N ps:List Str} {sp:Sp} (lk:K.lookup f=some ⟨oc,od,.func (PySem.W.fnOf name qual params body scope dV kV doc pm an cdv ct),osl⟩) (hcd:PySem.W.codeIn K cdv qual=true) (S:FnScope N ps scope)
  (len:∀vs H Q E,sp vs H Q E->vs.length=ps.length)
  (hbody:∀(A:Around) (outer:List Env) (s:Shared) (H:Hp) (vs:List V) (Q:VK) (E:XK),Room k (A.deeper (envOfC qual scope s.heap.objs.size f cdv))->sp vs H Q E ->
   ∃t,PSs (cxOf CX P w K mg base N qual scope f cdv A outer s H E) body t/\t {nx:=fun _ H'=>Q .non H',rt:=Q} (start N vs) H) :
  FnOk P w K mg base CX (k+1) f (PySem.W.fnOf name qual params body scope dV kV doc pm an cdv ct) ps sp:=by
 refine ⟨len,fun A outer s H args us vs Q E hr e0 hb r hsp=>?_⟩;have hl:=len _ _ _ _ hsp;have KX:K.In s.heap:=e0.mod.kin.keeps fun b o e=>(e0.bs b o e).1;have lim:s.heap.NoLimit:=e0.mod.nolimit.keeps fun b o e=>(e0.bs b o e).1
 have hkind:∀y∈ps.zip us,scope.names.lookup y.1=some .local\/(scope.names.lookup y.1=some .cell/\((cellsFrom (s.heap.objs.size+1) scope.names []).lookup y.1).isSome=true):=fun ⟨n,v⟩ hy=>by
  rcases S.par n (List.of_mem_zip hy).1 with q| q
  ·exact .inl q
  ·exact .inr ⟨q,qDe _ _ _ (.inl q)⟩
 refine codeAny_call_function hr.depth (KX _ _ lk) rfl S.co S.gen rfl (PySem.W.codeRec_of KX hcd) (hb _ _ _ _ ?_);refine wpAny_newFunctionEnv_cells S.kind hkind fun env he s1 x=>?_;subst he;refine ⟨lim.keeps x.toInCall.keep,codeAny_func ?_⟩;obtain ⟨t,ht,hq⟩:=hbody A outer s H vs Q E (hr.deeper _) hsp;have I:Inv (cxOf CX P w K mg base N qual scope f cdv A outer s H E) [] (start N vs) H s1:=inv_start S hr.hd e0 hl r x;refine qAq (ht [] s1 (start N vs) H _ I hq) (fun fl s' hs=>?_) fun e s' hs=>hs
 have fin:∀{σ':St} {H':Hp} {v:V} {u:Value},Inv (cxOf CX P w K mg base N qual scope f cdv A outer s H E) [] σ' H' s'->RelV v u->Q v H'->CE outer P w H s Q u s' :=
  fun {σ' H' v u} J rv q=>⟨v,H',J.os,J.bare,J.base,J.hok,rv,q⟩
 cases fl with
 | ret u =>
  obtain ⟨v,σ',H',J,rv,q⟩:=hs;exact fin J rv q
 | next =>
  obtain ⟨σ',H',J,q⟩:=hs;exact fin (v:=V.non) (u:=Value.none) J rfl q
 | brk =>
  obtain ⟨_,_,_,q⟩:=hs;exact False.elim q
 | cont =>
  obtain ⟨_,_,_,q⟩:=hs;exact False.elim q
section
variable {X:Cx} {x:Str} {p pos:Pos} {e:Expr} {es:List Expr} {t:TA} {id T:String} {r:List V->Hp->VK->Prop}
def tCB (r:List V->Hp->VK->Prop) (t:TA):TE:=fun σ H Q=>t σ H fun vs H1=>r vs H1 Q
theorem zAi (hc:zC5 X (.builtin id) r) (hg:Gl X x) (hm:X.mg x=none) (hv:bootBuiltins x=some (.builtin id)) (ha:PA X (e::es) t) (hn:x≠ "__name__" := by decide) (hdb:(x==("__debug__" : Str))=false:=by decide)
  (he:starEach (e::es) X.env=(false,eval e X.env)::starEach es X.env:=by rfl) (hpl:(backTo pos (starEach es X.env)).any (·.1)=false:=by rfl):PE X (.Call (.Name x p) (e::es) [] pos) (tCB r t):=by
 intro pins s σ H Q I h;refine qB4 (zF6 I hg hm hv ?_ hn hdb);exact PyProof.Rows.callWith_builtin1 (thn (ha pos pins s σ H _ I h) fun us s1 ⟨vs,H1,I1,r1,q1⟩=>hc pins s1 σ H1 vs us Q I1 r1 q1) he hpl
theorem zAq (hc:zC5 X (.type T) r) (hg:Gl X x) (hm:X.mg x=none) (hv:bootBuiltins x=some (.type T)) (ha:PA X (e::es) t) (hn:x≠ "__name__" := by decide) (hdb:(x==("__debug__" : Str))=false:=by decide)
  (he:starEach (e::es) X.env=(false,eval e X.env)::starEach es X.env:=by rfl) (hpl:(backTo pos (starEach es X.env)).any (·.1)=false:=by rfl):PE X (.Call (.Name x p) (e::es) [] pos) (tCB r t):=by
 intro pins s σ H Q I h;refine qB4 (zF6 I hg hm hv ?_ hn hdb);exact qDc (thn (ha pos pins s σ H _ I h) fun us s1 ⟨vs,H1,I1,r1,q1⟩=>hc pins s1 σ H1 vs us Q I1 r1 q1) he hpl
end
end L2
namespace HT
open PySem PyProof.Rows
section
open PySem.SeqAt
open PySem.AutoSeq1 (wpAny_loadPart')
open PySem.MeetsSeq PySem.MeetsSeq2 PySem.MeetsSeq3
end
section
variable {prog:Program} {w:World} {A:Around} {E:Value->Shared->Prop} {s:Shared}
def sIx (n d:Nat):Option Int->Nat
 | none=>d
 | some v=>if v<0 then (v+(n:Int)).toNat else min v.toNat n
theorem sIx_none (n d:Nat):sIx n d none=d:=rfl
theorem sIx_nat (n d k:Nat):sIx n d (some (k:Int))=min k n:=by
 show (if (k:Int)<0 then ((k:Int)+(n:Int)).toNat else min (k:Int).toNat n)=min k n;rw [qAB (by lia),qCY]
end
end HT
namespace L2
open PySem PySem.Spec PyProof.Rows
variable {α:Type}{n:Nat}{x:V}
abbrev TO:=St->Hp->(Option Int->Hp->Prop)->Prop
def PO (X:Cx) (e:Option Expr) (t:TO):Prop :=
 ∀(pins:List (Addr×Obj)) (s:Shared) (σ:St) (H:Hp) (Q:Option Int->Hp->Prop),Inv X pins σ H s->t σ H Q ->
  wpAny (model X.prog X.w) X.A (evalPart e X.env) (fun u s'=>∃o H',Inv X pins σ H' s'/\IsPart u o/\Q o H') X.xe s
def tNoPart:TO:=fun _ H Q=>Q none H
def tPart (t:TE):TO:=fun σ H Q=>t σ H fun x H1=>∃i,x= .int i/\Q (some i) H1
section
variable {X:Cx} {e:Expr} {te:TE} {lo hi:Option Expr} {tl th:TO} {pos p2:Pos}
theorem po_none:PO X none tNoPart:=by
 intro pins s σ H Q I h;rw [evalPart_none];exact qAD ⟨none,H,I,.none,h⟩
theorem po_some (h:PE X e te):PO X (some e) (tPart te):=by
 intro pins s σ H Q I hw;rw [evalPart_some];refine thn (h pins s σ H _ I hw) fun u s1 ⟨x,H1,I1,r1,q1⟩=>?_;obtain ⟨i,rfl,q⟩:=q1;obtain ⟨t,rfl⟩:=r1;exact ⟨some i,H1,I1,.int i t,q⟩
def SlR (X:Cx) (r:V->Option Int->Option Int->Hp->VK->Prop):Prop :=
 ∀(pins:List (Addr×Obj)) (s:Shared) (σ:St) (H:Hp) (x:V) (v vl vu:Value) (lo hi:Option Int) (sl:Addr) (Q:VK),Inv X pins σ H s->RelV x v->s.heap.IsSliceOf sl vl vu .none->IsPart vl lo->IsPart vu hi->r x lo hi H Q ->
  ∃T id,typeLookup (.type T) "__getitem__" = pure (some (.builtin id))/\s.TypeIs v T/\wpAny (model X.prog X.w) X.A (getItem v (.ref sl)) (EP X pins σ Q) X.xe s
def tSl (r:V->Option Int->Option Int->Hp->VK->Prop) (te:TE) (tl th:TO):TE:=fun σ H Q=>te σ H fun x H1=>tl σ H1 fun l H2=>th σ H2 fun u H3=>r x l u H3 Q
theorem pe_slice {r:V->Option Int->Option Int->Hp->VK->Prop} (hr:SlR X r) (he:PE X e te) (hl:PO X lo tl) (hu:PO X hi th):PE X (.Subscript e (.Slice lo hi none p2) pos) (tSl r te tl th):=by
 intro pins s σ H Q I h;refine Subscript_ (thn (he pins s σ H _ I h) fun v s1 ⟨x,H1,I1,r1,q1⟩=>?_);refine wpAny_Slice (thn (hl pins s1 σ H1 _ I1 q1) fun vl s2 ⟨l,H2,I2,pl,q2⟩=>thn (hu pins s2 σ H2 _ I2 q2) fun vu s3 ⟨u,H3,I3,pu,q3⟩=>?_);rw [evalPart_none];refine qAD ?_;have I4:Inv X pins σ H3 {s3 with heap:=s3.heap.push {cls:=.type "slice",data:=.fields #[vl,vu,.none]}}:=I3.kept (t':=s3.toks) fun b ob q=>qAJ _ q;obtain ⟨T,id,hT,ht,hg⟩:=hr pins {s3 with heap:=s3.heap.push {cls:=.type "slice",data:=.fields #[vl,vu,.none]}} σ H3 x v vl vu l u s3.heap.objs.size Q I4 r1 (Heap.IsSliceOf.new ..) pl pu q3;show wpAny (model X.prog X.w) X.A (subscriptTail e (.Slice lo hi none p2) v (.ref s3.heap.objs.size)) (EP X pins σ Q) X.xe {s3 with heap:=s3.heap.push {cls:=.type "slice",data:=.fields #[vl,vu,.none]}};exact tail_any (ops:=[.ref s3.heap.objs.size,v]) ht hT hg (by with_unfolding_all rfl)
def cutV (xs:List V) (lo hi:Option Int):List V:=(xs.drop (HT.sIx xs.length 0 lo)).take (HT.sIx xs.length xs.length hi - HT.sIx xs.length 0 lo)
theorem cutV_length (xs:List V) (lo hi:Option Int):(cutV xs lo hi).length<=xs.length:=by
 unfold cutV;rw [qAe,qBV];lia
end
def ixN (n:Nat) (i:Int):Option Nat:=if 0<=i then (if i<n then some i.toNat else none) else if -(n:Int)<=i then some (i+n).toNat else none
def atI (xs:List α) (i:Int):Option α:=(ixN xs.length i).bind fun j=>xs[j]?
theorem ixN_seq {i:Int} {j:Nat} (h:ixN n i=some j):seqIndex? i n=some j/\j<n/\-(n:Int)<=i/\i<n:=by
 unfold ixN at h
 by_cases h0:0<=i
 ·rw [qAC h0] at h
  by_cases h1:i<n
  ·rw [qAC h1] at h;have e:i.toNat=j:=qAa h;exact ⟨by rw [seqIndex_of h0 h1,e],by lia,by lia,h1⟩
  ·rw [qAB h1] at h;cases h
 ·rw [qAB h0] at h
  by_cases h1:-(n:Int)<=i
  ·rw [qAC h1] at h;have e:(i+n).toNat=j:=qAa h;exact ⟨by rw [seqIndex_neg (by lia) h1,e],by lia,h1,by lia⟩
  ·rw [qAB h1] at h;cases h
theorem atI_get {xs:List α} {i:Int} {v:α} (h:atI xs i=some v):∃j,seqIndex? i xs.length=some j/\xs[j]?=some v/\j<xs.length/\-(xs.length:Int)<=i/\i<xs.length:=by
 unfold atI at h
 cases e:ixN xs.length i with
 | none=>rw [e] at h;cases h
 | some j =>
  rw [e] at h;obtain ⟨h1,h2,h3,h4⟩:=ixN_seq e;exact ⟨j,h1,h,h2,h3,h4⟩
def PlainIx (b:Expr):Prop:=∀o i,subscripted b false o i=operate [o,i] (getItem o i)
def IxR (X:Cx) (r:R2):Prop :=
 ∀(value slice:Expr) (pins:List (Addr×Obj)) (s:Shared) (σ:St) (H:Hp) (x y:V) (v u:Value) (Q:VK),Inv X pins σ H s->RelV x v->RelV y u->r x y H Q ->
  subscripted slice false v u=operate [v,u] (getItem v u)->wpAny (model X.prog X.w) X.A (subscriptTail value slice v u) (EP X pins σ Q) X.xe s
def MtR (X:Cx) (id:String) (r:V->List V->Hp->VK->Prop):Prop :=
 ∀(pins:List (Addr×Obj)) (s:Shared) (σ:St) (H:Hp) (x:V) (xs:List V) (v:Value) (us:List Value) (Q:VK),Inv X pins σ H s->RelV x v->Vals xs us->r x xs H Q ->
  wpAny (model X.prog X.w) X.A (call (.builtin id) (v::us)) (EP X pins σ Q) X.xe s
section
variable {X:Cx} {a b:Expr} {ta tb:TE} {pos:Pos}
theorem zDc {r:R2} (hr:IxR X r) (ha:PE X a ta) (hb:PE X b tb) (hs:PlainIx b):PE X (.Subscript a b pos) (tOp r ta tb):=by
 intro pins s σ H Q I h;exact Subscript_ (binT ha hb I h fun v u s2 x y H2 I2 rx ry q=>hr a b pins s2 σ H2 x y v u Q I2 rx ry q (hs _ _))
def rIxL (K:PySem.W.Frag):R2:=fun x y H Q=>∃p xs i v,x= .ref p/\y= .int i/\SqL K H p xs/\atI xs i=some v/\Q v H
def rIxT (K:PySem.W.Frag):R2:=fun x y H Q=>∃p xs i v,x= .ref p/\y= .int i/\SqT K H p xs/\atI xs i=some v/\Q v H
def rIxS:R2:=fun x y H Q=>∃z i c,x= .str z/\y= .int i/\z.length<=sizeLine/\atI z.cps.toList i=some c/\Q (.str ⟨#[c]⟩) H
theorem zB9:IxR X (rIxL X.K):=by
 intro value slice pins s σ H x y v u Q I rx ry h hs;obtain ⟨p,xs,i,z,rfl,rfl,hq,he,q⟩:=h
 cases rx
 obtain ⟨t,rfl⟩:=ry;obtain ⟨its,r,pl,hz⟩:=I.list hq;obtain ⟨j,h1,h2,h3,h4,h5⟩:=atI_get he;obtain ⟨w,ew,rw'⟩:=r.get h2;have hl:=r.length;have hn:=zHg;have fin:EP X pins σ Q w s:=⟨z,H,I,rw',q⟩
 by_cases h0:0<=i
 ·have hj:i.toNat=j:=by
   rw [seqIndex_of h0 h5] at h1;exact qAa h1
  exact item_listR pl.isList h0 (by lia) (by rw [hj];simpa using ew) fin hs
 ·have hj:(i+(its.toArray.size:Int)).toNat=j:=by
   rw [seqIndex_neg (by lia) h4] at h1;rw [qAM,<-hl];exact qAa h1
  exact subscriptTail_builtinR (x:=w) pl.isList.typeIs slot_list_getitem.lookup
   (wpAny_getItem_list_neg (Q:=fun r s'=>r=w/\EP X pins σ Q r s') pl.isList (by lia) (by rw [qAM]<;>lia) (by lia) (by rw [hj];simpa using ew) ⟨rfl,fin⟩) hs
theorem ix_tup:IxR X (rIxT X.K):=by
 intro value slice pins s σ H x y v u Q I rx ry h hs;obtain ⟨p,xs,i,z,rfl,rfl,hq,he,q⟩:=h
 cases rx
 obtain ⟨t,rfl⟩:=ry;obtain ⟨its,r,pl,hz⟩:=I.tuple hq;obtain ⟨j,h1,h2,h3,h4,h5⟩:=atI_get he;obtain ⟨w,ew,rw'⟩:=r.get h2;have hl:=r.length;have hn:=zHg;have fin:EP X pins σ Q w s:=⟨z,H,I,rw',q⟩
 exact subscriptTail_builtinR (x:=w) pl.typeIs slot_tuple_getitem.lookup
  (getItem_tuple (j:=j) (Q:=fun r s'=>r=w/\EP X pins σ Q r s') pl (by lia) (by lia) (by rw [qAM,<-hl];exact h1) (by simpa using ew) ⟨rfl,fin⟩) hs
theorem ix_str:IxR X rIxS:=by
 intro value slice pins s σ H x y v u Q I rx ry h hs;obtain ⟨z,i,c,rfl,rfl,hz,he,q⟩:=h;obtain ⟨t,rfl⟩:=rx;obtain ⟨t',rfl⟩:=ry;obtain ⟨j,h1,h2,h3,h4,h5⟩:=atI_get he;have hl:z.cps.toList.length=z.length:=by simp [Str.length]
 rw [hl] at h1 h4 h5;have hn:=zHg
 exact tail_any (typeIs_str s z t) slot_str_getitem.lookup (getItem_str (c:=c) (by
  have e1:decide (i< -(2^63:Int))=false:=qAl (by lia);have e2:decide (i>=2^63)=false:=qAl (by lia);rw [e1,e2,Bool.or_false]) (by rw [h1];simpa using h2) ⟨.str ⟨#[c]⟩,H,I.tok _,⟨_,rfl⟩,q⟩) hs
theorem mapSeq_set (its:List Value) (n j:Nat) (u:Value):Obj.mapSeq (·.setIfInBounds j u) {cls:=.type "list",data:=.seq its.toArray n}={cls:=.type "list",data:=.seq (its.set j u).toArray n}:=by
 simp [Obj.mapSeq]
theorem Inv.lst {pins:List (Addr×Obj)} {σ:St} {H:Hp} {s:Shared} {p:Addr} {xs:List V} (I:Inv X pins σ H s) (h:H p=some (.lst xs)) :
  ∃(its:List Value) (n:Nat),Vals xs its/\s.heap.get? p=some {cls:=.type "list",data:=.seq its.toArray n}/\xs.length<=sizeLine:=by
 obtain ⟨z,its,n,r,e⟩:=I.hok p _ h;exact ⟨its,n,r,e,z⟩
theorem Inv.lstUpd {pins:List (Addr×Obj)} {σ:St} {H:Hp} {s:Shared} {p:Addr} {xs ys:List V} {its its':List Value} {n':Nat} {f:Obj->Obj} (I:Inv X pins σ H s) (h:H p=some (.lst xs))
  (ho:s.heap.get? p=some {cls:=.type "list",data:=.seq its.toArray n}) (hf:f {cls:=.type "list",data:=.seq its.toArray n}={cls:=.type "list",data:=.seq its'.toArray n'}) (r:Vals ys its') (hz:ys.length<=sizeLine) (t:Nat) :
  Inv X pins σ (upd H p (.lst ys)) {s with heap:=s.heap.update p f,toks:=t}:=by
 have e:(s.heap.update p f).get? p=some {cls:=.type "list",data:=.seq its'.toArray n'}:=by
  rw [qBJ f ho (by rw [hf]<;>rfl),hf]
 refine I.write (x:=p) (e:=p) (by rw [h];trivial) (.inl rfl) (fun b u hb q=>(qBo _ _ (qAr hb)).trans q) ⟨_,e⟩ ?_;exact ⟨hz,its',n',r,e⟩
def rSetL:V->V->V->Hp->(Hp->Prop)->Prop:=fun o i v H Q=>∃p xs k j,o= .ref p/\i= .int k/\H p=some (.lst xs)/\ixN xs.length k=some j/\Q (upd H p (.lst (xs.set j v)))
theorem set_list:PSet X rSetL:=by
 intro pins s σ H o i v ov iv u Q I ro ri rv h;obtain ⟨p,xs,k,j,rfl,rfl,hp,hj,q⟩:=h
 cases ro
 obtain ⟨t,rfl⟩:=ri;obtain ⟨its,n,r,ho,hz⟩:=I.lst hp;obtain ⟨h1,h2,h3,h4⟩:=ixN_seq hj;have hl:=r.length;have hn:=zHg
 have I':Inv X pins σ (upd H p (.lst (xs.set j v))) {s with heap:=s.heap.update p (Obj.mapSeq (·.setIfInBounds j u))} :=
  I.lstUpd hp ho (mapSeq_set its n j u) (r.set rv j) (by rw [List.length_set];exact hz) s.toks
 by_cases h0:0<=k
 ·have hk:k.toNat=j:=by
   rw [seqIndex_of h0 h4] at h1;exact qAa h1
  exact PySem.W.ki_setAt ho h0 (by lia) (by rw [qAM,<-hl];exact h4) (by rw [hk];exact ⟨_,I',q⟩)
 ·have hk:(k+(its.toArray.size:Int)).toNat=j:=by
   rw [seqIndex_neg (by lia) h3] at h1;rw [qAM,<-hl];exact qAa h1
  exact PySem.W.ki_setBack ho (by lia) (by rw [qAM,<-hl];exact h3) (by lia) (by rw [hk];exact ⟨_,I',q⟩)
theorem slice_bounds (lo hi:Option Int) (n:Nat):(sliceBounds lo hi none n).1=((HT.sIx n 0 lo:Nat):Int)/\(sliceBounds lo hi none n).2.1=((HT.sIx n n hi:Nat):Int)/\(sliceBounds lo hi none n).2.2=1:=by
 refine ⟨?_,?_,rfl⟩
 ·cases lo with
  | none=>simp [sliceBounds,HT.sIx]
  | some i =>
   simp only [sliceBounds,HT.sIx,Option.getD_none,show (1:Int)>0 by decide,qB6]
   by_cases h:i<0
   ·simp only [h,qB6]<;>lia
   ·simp only [h,qBG]<;>lia
 ·cases hi with
  | none=>simp [sliceBounds,HT.sIx]
  | some i =>
   simp only [sliceBounds,HT.sIx,Option.getD_none,show (1:Int)>0 by decide,qB6]
   by_cases h:i<0
   ·simp only [h,qB6]<;>lia
   ·simp only [h,qBG]<;>lia
theorem zIq (its:List Value) (lo hi:Option Int):slicePick its.toArray lo hi none=((its.drop (HT.sIx its.length 0 lo)).take (HT.sIx its.length its.length hi - HT.sIx its.length 0 lo)).toArray:=by
 obtain ⟨h1,h2,h3⟩:=slice_bounds lo hi its.toArray.size;unfold slicePick;rw [h1,h2,h3];simp only [sliceRange_one,pick_run,qAM]<;>rfl
def rSlL (K:PySem.W.Frag):V->Option Int->Option Int->Hp->VK->Prop:=fun x lo hi H Q=>∃a xs,x= .ref a/\SqL K H a xs/\∀p,H p=none->Q (.ref p) (upd H p (.lst (cutV xs lo hi)))
theorem sl_list:SlR X (rSlL X.K):=by
 intro pins s σ H x v vl vu lo hi sl Q I rx hs pl pu h;obtain ⟨a,xs,rfl,hx,q⟩:=h
 cases rx
 obtain ⟨its,r,ht,hz⟩:=I.list hx;have hlen:=r.length;refine ⟨"list",_,slot_list_getitem.lookup,ht.isList.typeIs,?_⟩;refine wpAny_getItem_list_slice ht.isList hs pl pu .none (by simp) ?_ (by rw [qAM]<;>lia);rw [zIq,<-hlen];refine ⟨.ref s.heap.objs.size,_,I.laid (t':=s.toks) (o:=.lst (cutV xs lo hi)) (fun b ob q=>qAJ _ q) (qAG _) ?_,rfl,q _ (I.hok.fresh (qAG _))⟩;exact ⟨qAX (cutV_length xs lo hi) hz,_,0,(r.drop (HT.sIx xs.length 0 lo)).take (HT.sIx xs.length xs.length hi - HT.sIx xs.length 0 lo),qAb _ rfl⟩
def zDd:V->Bool
 | .non=>true
 | .bl _=>true
 | .int _=>true
 | .str _=>true
 | _=>false
def eqV:V->V->Bool
 | .non,.non=>true
 | .bl a,.bl b=>a==b
 | .bl a,.int b=>(if a then 1 else 0)==b
 | .int a,.bl b=>a==(if b then 1 else 0)
 | .int a,.int b=>a==b
 | .str a,.str b=>a==b
 | _,_=>false
theorem eqAt_V {A:Around} {s:Shared} {y:V} {u v:Value} (ry:RelV y u) (rx:RelV x v) (fy:zDd y=true) (fx:zDd x=true):SeqAt.EqAt A s u v (eqV y x):=by
 cases y with
 | non =>
  cases ry
  cases x with
  | non=>cases rx;exact qCZ _
  | bl b=>cases rx;exact SeqAt.EqAt.none_bool b
  | int b=>obtain ⟨t,rfl⟩:=rx;exact SeqAt.EqAt.none_int b t
  | str b=>obtain ⟨t,rfl⟩:=rx;exact SeqAt.EqAt.none_str b t
  | _=>exact absurd (show false=true from fx) qAm
 | bl a =>
  cases ry
  cases x with
  | non=>cases rx;exact SeqAt.EqAt.bool_none a
  | bl b=>cases rx;exact SeqAt.EqAt.bool_bool a b
  | int b=>obtain ⟨t,rfl⟩:=rx;exact SeqAt.EqAt.bool_int a b t
  | str b=>obtain ⟨t,rfl⟩:=rx;exact SeqAt.EqAt.bool_str a b t
  | _=>exact absurd (show false=true from fx) qAm
 | int a =>
  obtain ⟨t',rfl⟩:=ry
  cases x with
  | non=>cases rx;exact SeqAt.EqAt.int_none a t'
  | bl b=>cases rx;exact SeqAt.EqAt.int_bool a t' b
  | int b=>obtain ⟨t,rfl⟩:=rx;exact SeqAt.EqAt.int_int a t' b t
  | str b=>obtain ⟨t,rfl⟩:=rx;exact SeqAt.EqAt.int_str a t' b t
  | _=>exact absurd (show false=true from fx) qAm
 | str a =>
  obtain ⟨t',rfl⟩:=ry
  cases x with
  | non=>cases rx;exact SeqAt.EqAt.str_none a t'
  | bl b=>cases rx;exact SeqAt.EqAt.str_bool a t' b
  | int b=>obtain ⟨t,rfl⟩:=rx;exact SeqAt.EqAt.str_int a t' b t
  | str b=>obtain ⟨t,rfl⟩:=rx;exact SeqAt.EqAt.str_str a t' b t
  | _=>exact absurd (show false=true from fx) qAm
 | _=>exact absurd (show false=true from fy) qAm
def eqU (x:V) (u:Value):Bool:=match u with
 | .none=>eqV .non x
 | .bool b=>eqV (.bl b) x
 | .int i _=>eqV (.int i) x
 | .str z _=>eqV (.str z) x
 | _=>false
theorem eqU_of {y:V} {u:Value} (r:RelV y u) (f:zDd y=true):eqU x u=eqV y x:=by
 cases y with
 | non=>cases r;rfl
 | bl b=>cases r;rfl
 | int i=>obtain ⟨t,rfl⟩:=r;rfl
 | str z=>obtain ⟨t,rfl⟩:=r;rfl
 | _=>exact absurd (show false=true from f) qAm
theorem zHr :∀{xs:List V} {us:List Value},Vals xs us->xs.all zDd=true->us.any (eqU x)=xs.any fun y=>eqV y x
 | _,_,.nil,_=>rfl
 | y::xs,u::us,.cons r t,f=>by
  rw [List.all_cons,qCM] at f;rw [qCN,qCN,eqU_of r f.1,zHr t f.2]
theorem zE8 {A:Around} {s:Shared} {v:Value} (rx:RelV x v) (fx:zDd x=true):∀{xs:List V} {us:List Value},Vals xs us->xs.all zDd=true->∀u∈us,SeqAt.EqAt A s u v (eqU x u)
 | _,_,.nil,_=>fun u hu=>by cases hu
 | y::xs,u::us,.cons r t,f=>fun u' hu=>by
  rw [List.all_cons,qCM] at f;rcases qAN.mp hu with rfl| hu
  ·rw [eqU_of r f.1];exact eqAt_V r rx f.1 fx
  ·exact zE8 rx fx t f.2 u' hu
def inV (x:V) (xs:List V):Bool:=xs.any fun y=>eqV y x
def rIn (K:PySem.W.Frag) (neg:Bool):R2:=fun x y H Q=>∃p xs,y= .ref p/\(SqL K H p xs\/SqT K H p xs)/\zDd x=true/\xs.all zDd=true/\Q (.bl (if neg then !inV x xs else inV x xs)) H
theorem zG6:OpR X (compareOp .In) (rIn X.K false):=by
 intro pins s σ H x y v u Q I rx ry h;obtain ⟨p,xs,rfl,hq,fx,fs,q⟩:=h
 cases ry
 rcases hq with hq| hq
 ·obtain ⟨its,r,pl,hz⟩:=I.list hq;refine SeqAt.in_listAt (eqU x) pl.isList (fun w hw=>zE8 rx fx r fs w (by simpa using hw)) ⟨.bl _,H,I,rfl,?_⟩;rw [show its.toArray.any (eqU x)=its.any (eqU x) by simp,zHr r fs];exact q
 ·obtain ⟨its,r,pl,hz⟩:=I.tuple hq;refine SeqAt.in_tupleAt (eqU x) pl (fun w hw=>zE8 rx fx r fs w (by simpa using hw)) ⟨.bl _,H,I,rfl,?_⟩;rw [show its.toArray.any (eqU x)=its.any (eqU x) by simp,zHr r fs];exact q
theorem zF4:OpR X (compareOp .NotIn) (rIn X.K true):=by
 intro pins s σ H x y v u Q I rx ry h;obtain ⟨p,xs,rfl,hq,fx,fs,q⟩:=h
 cases ry
 rcases hq with hq| hq
 ·obtain ⟨its,r,pl,hz⟩:=I.list hq;refine SeqAt.notIn_listAt (eqU x) pl.isList (fun w hw=>zE8 rx fx r fs w (by simpa using hw)) ⟨.bl _,H,I,rfl,?_⟩;rw [show its.toArray.any (eqU x)=its.any (eqU x) by simp,zHr r fs];exact q
 ·obtain ⟨its,r,pl,hz⟩:=I.tuple hq;refine SeqAt.notIn_tupleAt (eqU x) pl (fun w hw=>zE8 rx fx r fs w (by simpa using hw)) ⟨.bl _,H,I,rfl,?_⟩;rw [show its.toArray.any (eqU x)=its.any (eqU x) by simp,zHr r fs];exact q
theorem zAl:zC5 X (.builtin "len") (fun xs H Q=>∃p ys,xs=[.ref p]/\(SqL X.K H p ys\/SqT X.K H p ys)/\Q (.int ys.length) H):=by
 intro pins s σ H xs us Q I r h;obtain ⟨p,ys,rfl,hq,q⟩:=h;obtain ⟨u,rfl,rx⟩:=zHu r
 cases rx
 have hn:=zHg;rcases hq with hq| hq
 ·obtain ⟨its,r',pl,hz⟩:=I.list hq;have hlen:=r'.length;exact Calls.call_len_list pl.isList (by simp only [qAM]<;>lia) ⟨.int ys.length,H,I.tok _,⟨s.toks+1,by rw [qAM,hlen]⟩,q⟩
 ·obtain ⟨its,r',pl,hz⟩:=I.tuple hq;have hlen:=r'.length;exact len_tuple pl (by simp only [qAM]<;>lia) ⟨.int ys.length,H,I.tok _,⟨s.toks+1,by rw [qAM,hlen]⟩,q⟩
theorem call_len_str:zC5 X (.builtin "len") (fun xs H Q=>∃z,xs=[.str z]/\z.length<=sizeLine/\Q (.int z.length) H):=by
 intro pins s σ H xs us Q I r h;obtain ⟨z,rfl,hz,q⟩:=h;obtain ⟨u,rfl,t,rfl⟩:=zHu r;have hn:=zHg;exact len_str (by lia) ⟨.int z.length,H,I.tok _,⟨_,rfl⟩,q⟩
theorem zAv:zC5 X (.type "list") (fun xs H Q=>∃p ys,xs=[.ref p]/\(SqL X.K H p ys\/SqT X.K H p ys)/\∀l,H l=none->Q (.ref l) (upd H l (.lst ys))):=by
 intro pins s σ H xs us Q I r h;obtain ⟨p,ys,rfl,hq,q⟩:=h;obtain ⟨u,rfl,rx⟩:=zHu r
 cases rx
 have fin:∀(its:List Value),Vals ys its->ys.length<=sizeLine->∀(h':Heap) (c':Nat),(∀b o',s.heap.get? b=some o'->h'.get? b=some o') ->
   h'.get? s.heap.objs.size=some {cls:=.type "list",dict:=none,data:=.seq its.toArray c',slots:=#[]}->EP X pins σ Q (.ref s.heap.objs.size) {s with heap:=h'}:=fun its r' hz h' c' kp e =>
  ⟨.ref s.heap.objs.size,_,I.laid (t':=s.toks) kp (qAG _) (show zAs X.prog X.w _ h' _ (.lst ys) from ⟨hz,its,c',r',e⟩),rfl,q _ (I.hok.fresh (qAG _))⟩
 rcases hq with hq| hq
 ·obtain ⟨its,r',pl,hz⟩:=I.list hq;have hlen:=r'.length;obtain ⟨o,ho,hc,n,hd⟩:=pl.isList;exact call_list_seq p (.inl rfl) ho hc hd (fun h' c' kp e=>fin its r' hz h' c' kp e) (by simp only [qAM]<;>lia)
 ·obtain ⟨its,r',pl,hz⟩:=I.tuple hq;have hlen:=r'.length;obtain ⟨o,ho,hc,n,hd⟩:=pl;exact call_list_seq p (.inr rfl) ho hc hd (fun h' c' kp e=>fin its r' hz h' c' kp e) (by simp only [qAM]<;>lia)
theorem zFf:zC5 X (.type "tuple") (fun xs H Q=>∃p ys,xs=[.ref p]/\((SqL X.K H p ys/\∀l,H l=none->Q (.ref l) (upd H l (.tup ys)))\/(SqT X.K H p ys/\Q (.ref p) H))):=by
 intro pins s σ H xs us Q I r h;obtain ⟨p,ys,rfl,h⟩:=h;obtain ⟨u,rfl,rx⟩:=zHu r
 cases rx
 rcases h with ⟨hq,q⟩| ⟨hq,q⟩
 ·obtain ⟨its,r',pl,hz⟩:=I.list hq;have hlen:=r'.length;refine call_tuple_list pl.isList (fun h' kp=>?_) (by simp only [qAM]<;>lia);have I1:Inv X pins σ H {s with heap:=h'}:=I.kept (t':=s.toks) kp
  have I2:Inv X pins σ (upd H h'.objs.size (.tup ys)) {s with heap:=h'.push {cls:=.type "tuple",data:=.seq its.toArray}} :=
   I1.laid (t':=s.toks) (fun b o e=>qAJ _ e) (qAG _) (show zAs X.prog X.w _ _ _ (.tup ys) from ⟨hz,its,r',IsTup.new _ _⟩)
  exact ⟨.ref h'.objs.size,_,I2,rfl,q _ (I1.hok.fresh (qAG _))⟩
 ·obtain ⟨its,r',pl,hz⟩:=I.tuple hq;exact call_tuple_same pl ⟨.ref p,H,I,rfl,q⟩
def tyV (K:PySem.W.Frag) (T:String) (x:V) (H:Hp):Prop:=match x with
 | .str _=>T= "str"
 | .int _=>T= "int"
 | .ref p=>(T= "list" /\∃xs,SqL K H p xs)\/(T= "tuple" /\∃o,K.lookup p=some o/\o.cls= .type "tuple" /\o.dict=none) \/
   (T= "dict" /\((∃kvs,H p=some (.dK kvs))\/∃kvs,H p=some (.dT kvs)))\/(T= "set" /\∃S n,H p=some (.set S n))
 | _=>False
theorem tyV_is {pins:List (Addr×Obj)} {σ:St} {H:Hp} {s:Shared} {T:String} {v:Value} (I:Inv X pins σ H s) (r:RelV x v) (ty:tyV X.K T x H) :
  s.TypeIs v T/\∀a,v= .ref a->∃ob,s.heap.get? a=some ob/\ob.dict=none:=by
 cases x with
 | str z =>
  obtain ⟨t,rfl⟩:=r
  cases (show T= "str" from ty)
  exact ⟨typeIs_str s z t,fun _ e=>nomatch e⟩
 | int i =>
  obtain ⟨t,rfl⟩:=r
  cases (show T= "int" from ty)
  exact ⟨typeIs_int s i t,fun _ e=>nomatch e⟩
 | ref p =>
  cases r
  rcases ty with ⟨rfl,xs,hq⟩| ⟨rfl,o,hk,hc,hd⟩| ⟨rfl,hk⟩| ⟨rfl,S,n,hk⟩
  ·obtain ⟨its,_,pl,_⟩:=I.list hq;refine ⟨pl.isList.typeIs,fun a e=>?_⟩
   cases e
   obtain ⟨o,n,e,c,hd,_⟩:=pl;exact ⟨o,e,hd⟩
  ·refine ⟨⟨o,I.kIn p o hk,hc⟩,fun a e=>?_⟩
   cases e
   exact ⟨o,I.kIn _ o hk,hd⟩
  ·have z:∃o,s.heap.get? p=some o/\o.ExactDict:=by
    rcases hk with ⟨kvs,hk⟩| ⟨kvs,hk⟩
    ·obtain ⟨_,_,_,_,o,_,_,e,ex,_⟩:=I.hok p _ hk;exact ⟨o,e,ex⟩
    ·obtain ⟨_,_,_,_,o,_,_,e,ex,_⟩:=I.hok p _ hk;exact ⟨o,e,ex⟩
   obtain ⟨o,e,ex⟩:=z;refine ⟨⟨o,e,ex.1⟩,fun a e2=>?_⟩
   cases e2
   exact ⟨o,e,ex.2.1⟩
  ·obtain ⟨o,_,_,_,e,ex,_⟩:=I.hok p _ hk;refine ⟨⟨o,e,ex.1⟩,fun a e2=>?_⟩
   cases e2
   exact ⟨o,e,ex.2.1⟩
 | _=>exact False.elim ty
def tBM0 (K:PySem.W.Frag) (T:String) (r:V->List V->Hp->VK->Prop) (to:TE):TE:=fun σ H Q=>to σ H fun x H1=>tyV K T x H1/\r x [] H1 Q
def tBM (K:PySem.W.Frag) (T:String) (r:V->List V->Hp->VK->Prop) (to:TE) (t:TA):TE:=fun σ H Q=>to σ H fun x H1=>tyV K T x H1/\t σ H1 fun xs H2=>r x xs H2 Q
variable {o e:Expr} {es:List Expr} {to:TE} {t:TA} {name:Str} {apos cpos:Pos} {T id:String} {r:V->List V->Hp->VK->Prop}
theorem pe_bm0 (pa:PlainAttrs T) (slot:Slot T name id) (hty:typeOf (.builtin id)=pure (.type "method_descriptor")) (hm:MtR X id r) (ho:PE X o to)
  (hbase:attributeBase o name X.env (eval o X.env)=eval o X.env:=by rfl) (hline:(apos.endLine==cpos.line)=true:=by rfl):PE X (.Call (.Attribute o name apos) [] [] cpos) (tBM0 X.K T r to):=by
 intro pins s σ H Q I h;refine wpAny_Call_method0_late hbase hline (thn (ho pins s σ H _ I h) fun v s1 ⟨x,H1,I1,r1,ty,q1⟩=>?_);obtain ⟨h1,h2⟩:=tyV_is I1 r1 ty;exact ⟨T,id,pa,slot,hty,h1,h2,Calls.callWith_builtin rfl (PySem.evalArgs_none (hm pins s1 σ H1 x [] v [] Q I1 r1 .nil q1))⟩
theorem zFr (pa:PlainAttrs T) (slot:Slot T name id) (hty:typeOf (.builtin id)=pure (.type "method_descriptor")) (hm:MtR X id r) (ho:PE X o to) (ha:PA X (e::es) t)
  (hbase:attributeBase o name X.env (eval o X.env)=eval o X.env:=by rfl)
  (hfew:((backTo cpos (starEach (e::es) X.env)).all (fun x=>!x.1)&&(backToKw cpos (keywordEach [] X.env)).all (fun x=>x.1.isSome)
   &&decide ((e::es).length+([]:List Keyword).length+(if ([]:List Keyword).isEmpty then 0 else 1)<30))=true:=by rfl)
  (hline:(apos.endLine==cpos.line)=true:=by rfl) (hs:starEach (e::es) X.env=(false,eval e X.env)::starEach es X.env:=by rfl) (hplain:(backTo cpos (starEach es X.env)).any (·.1)=false:=by rfl) :
  PE X (.Call (.Attribute o name apos) (e::es) [] cpos) (tBM X.K T r to t):=by
 intro pins s σ H Q I h;refine wpAny_Call_method_late hbase hfew hline rfl (thn (ho pins s σ H _ I h) fun v s1 ⟨x,H1,I1,r1,ty,q1⟩=>?_);obtain ⟨h1,h2⟩:=tyV_is I1 r1 ty;refine ⟨T,id,pa,slot,hty,h1,h2,?_⟩;have hA:=ha cpos pins s1 σ H1 _ I1 q1;rw [hs] at hA ⊢;refine Calls.callWith_builtin (by show (false||(backTo cpos (starEach es X.env)).any (·.1))=false;rw [hplain]<;>rfl) (Calls.evalArgs_plain ?_);exact thn hA fun us s2 ⟨vs,H2,I2,r2,q2⟩=>hm pins s2 σ H2 x vs v us Q I2 r1 r2 q2
end
def MtM (X:Cx) (id:String) (r:V->List V->Hp->VK->Prop):Prop :=
 ∀(pins:List (Addr×Obj)) (s:Shared) (σ:St) (H:Hp) (x:V) (xs:List V) (v:Value) (us:List Value) (Q:VK),Inv X pins σ H s->RelV x v->Vals xs us->r x xs H Q ->
  wpAny (model X.prog X.w) X.A (call (.builtin id) (v::us)) (EP X pins σ Q) X.xe s
theorem Vals.one:∀{x:V} {us:List Value},Vals [x] us->∃u,us=[u]/\RelV x u
 | _,_,.cons r .nil=>⟨_,rfl,r⟩
theorem Vals.two:∀{x y:V} {us:List Value},Vals [x,y] us->∃u v,us=[u,v]/\RelV x u/\RelV y v
 | _,_,_,.cons r (.cons q .nil)=>⟨_,_,rfl,r,q⟩
theorem Vals.zero:∀{us:List Value},Vals [] us->us=[]
 | _,.nil=>rfl
theorem Vals.dropLast {xs:List V} {us:List Value} (h:Vals xs us):Vals xs.dropLast us.dropLast:=by
 induction h with
 | nil=>exact .nil
 | cons r t ih =>
  cases t with
  | nil=>exact .nil
  | cons q t'=>exact .cons r ih
theorem Vals.rep {xs:List V} {us:List Value} (h:Vals xs us):∀k:Nat,Vals (List.replicate k xs).flatten (List.replicate k us).flatten
 | 0=>.nil
 | k+1=>by
  rw [qCa,qCa,qC5,qC5];exact Vals.append h (Vals.rep h k)
theorem erase_last (l:List α):l.eraseIdx (l.length - 1)=l.dropLast:=by
 induction l with
 | nil=>rfl
 | cons a r ih =>
  cases r with
  | nil=>rfl
  | cons b r =>
   have e:(a::b::r).length - 1=((b::r).length - 1)+1:=by
    have h1:(a::b::r).length=r.length+2:=rfl;have h2:(b::r).length=r.length+1:=rfl;lia
   rw [e,List.eraseIdx_cons_succ,ih]
   all_goals rfl
theorem foldl_rep (its:List Value):∀(k:Nat) (acc:List Value),
  List.foldl (fun x1 x2=>x1++x2) acc.toArray (List.replicate k its.toArray)=(acc++(List.replicate k its).flatten).toArray
 | 0,acc=>by simp
 | k+1,acc=>by
  have e:acc.toArray++its.toArray=(acc++its).toArray:=by simp
  have e2:(acc++its)++(List.replicate k its).flatten=acc++(List.replicate (k+1) its).flatten:=by
   rw [qCa,qC5,qBp]
  rw [<-e2,<-foldl_rep its k (acc++its),<-e,qCa,qBd]
section
variable {X:Cx} {pins:List (Addr×Obj)} {σ:St} {H:Hp} {s:Shared} {l b:Addr} {xs ys zs:List V}
theorem Inv.lset {its its':List Value} {f:Array Value->Array Value} {t':Nat} (I:Inv X pins σ H s) (hH:H l=some (.lst xs))
  (e:s.heap.get? l=some {cls:=.type "list",data:=.seq its.toArray n}) (hf:f its.toArray=its'.toArray) (hv:Vals ys its') (hz:ys.length<=sizeLine) :
  Inv X pins σ (upd H l (.lst ys)) {s with heap:=s.heap.update l (Obj.mapSeq f),toks:=t'}:=by
 have q:=PySem.IsL.update e f;rw [hf] at q;refine I.write (x:=l) (e:=l) (by rw [hH];exact trivial) (.inl rfl) (fun b' u hb hu=>(qBo s.heap (Obj.mapSeq f) (qAr hb)).trans hu) ⟨_,q⟩ ?_;exact ⟨hz,its',_,hv,q⟩
theorem Inv.lnew {its:List Value} {t':Nat} (I:Inv X pins σ H s) (hv:Vals ys its) (hz:ys.length<=sizeLine) :
  Inv X pins σ (upd H s.heap.objs.size (.lst ys)) {s with heap:=s.heap.push {cls:=.type "list",data:=.seq its.toArray},toks:=t'} :=
 I.laid (fun _ _ q=>qAJ _ q) (qAG _) ⟨hz,its,0,hv,qAb _ rfl⟩
theorem Inv.fresh (I:Inv X pins σ H s):H s.heap.objs.size=none:=I.hok.fresh (qAG _)
theorem Inv.lstM (I:Inv X pins σ H s) (hH:H l=some (.lst xs)):xs.length<=sizeLine/\∃(its:List Value) (n:Nat),Vals xs its/\xs.length=its.length/\s.heap.get? l=some {cls:=.type "list",data:=.seq its.toArray n}:=by
 obtain ⟨z,its,n,r,e⟩:=I.hok l _ hH;exact ⟨z,its,n,r,r.length,e⟩
theorem notLongL (h:n<=sizeLine):Builtin.List.listTooLong n=false:=by
 unfold Builtin.List.listTooLong;exact qAl (by lia)
end
section
variable {X:Cx}
def rAppend:V->List V->Hp->VK->Prop:=fun x vs H Q=>∃l xs y,x= .ref l/\vs=[y]/\H l=some (.lst xs)/\xs.length<sizeLine/\Q .non (upd H l (.lst (xs++[y])))
theorem zB2:MtM X "list.append" rAppend:=by
 intro pins s σ H x vs v us Q I rx rv h;obtain ⟨l,xs,y,rfl,rfl,hH,hz,q⟩:=h
 cases rx
 obtain ⟨u,rfl,ru⟩:=rv.one;obtain ⟨z,its,n,r,hl,e⟩:=I.lstM hH;refine qCO F.slot_list_append ⟨_,e,rfl⟩ F.entry_list_append (F.args_list_append_2 _ _) (PySem.list_append l its.toArray n u (by rw [qAM];lia)) ⟨e,?_⟩;refine ⟨.non,_,I.lset (its':=its++[u]) hH e (by simp) (r.append (.cons ru .nil)) ?_,rfl,q⟩;rw [qAg,qBe];lia
def rExtend:V->List V->Hp->VK->Prop:=fun x vs H Q=>∃l b xs zs,x= .ref l/\vs=[.ref b]/\H l=some (.lst xs)/\H b=some (.lst zs)/\xs.length+zs.length<=sizeLine/\Q .non (upd H l (.lst (xs++zs)))
theorem zHb:MtM X "list.extend" rExtend:=by
 intro pins s σ H x vs v us Q I rx rv h;obtain ⟨l,b,xs,zs,rfl,rfl,hH,hB,hz,q⟩:=h
 cases rx
 obtain ⟨u,rfl,ru⟩:=rv.one
 cases ru
 obtain ⟨z,its,n,r,hl,e⟩:=I.lstM hH;obtain ⟨z2,its2,n2,r2,hl2,e2⟩:=I.lstM hB;have hsz:its.toArray.size+its2.toArray.size<=sizeLine:=by rw [qAM,qAM];lia
 have hlong:¬(!its.toArray.isEmpty&&Builtin.List.listTooLong (its.toArray.size+its2.toArray.size))=true:=by
  rw [notLongL hsz,Bool.and_false];exact qAm
 refine qCO F.slot_list_extend ⟨_,e,rfl⟩ F.entry_list_extend (F.args_list_extend_2 _ _)
  (AutoSeq1.list_extend_list_list_0 l its.toArray n b its2.toArray n2 hlong (by rw [qAM];lia) (by lia)) ⟨e,e2,?_⟩
 refine ⟨.non,_,I.lset (its':=its++its2) hH e (by simp) (r.append r2) ?_,rfl,q⟩;rw [qAg];lia
def rPop:V->List V->Hp->VK->Prop:=fun x vs H Q=>∃l xs y,x= .ref l/\vs=[]/\H l=some (.lst xs)/\xs[xs.length - 1]?=some y/\Q y (upd H l (.lst xs.dropLast))
theorem mt_pop:MtM X "list.pop" rPop:=by
 intro pins s σ H x vs v us Q I rx rv h;obtain ⟨l,xs,y,rfl,rfl,hH,hy,q⟩:=h
 cases rx
 have hus:=rv.zero;subst hus;obtain ⟨z,its,n,r,hl,e⟩:=I.lstM hH;obtain ⟨u,hu,ru⟩:=r.get hy
 have hy':its.toArray[its.toArray.size - 1]?=some u:=by
  show its.toArray[its.length - 1]?=some u;rw [<-qAo,<-hl];exact hu
 refine qCO F.slot_list_pop ⟨_,e,rfl⟩ F.entry_list_pop (F.args_list_pop_1 _) (MeetsSeq.list_pop_last l its.toArray n u hy' (by rw [qAM];lia)) ⟨e,?_⟩;refine ⟨y,_,I.lset (its':=its.dropLast) hH e ?_ r.dropLast ?_,ru,q⟩
 ·show its.toArray.eraseIdxIfInBounds (its.toArray.size - 1)=its.dropLast.toArray;rw [qAM,List.eraseIdxIfInBounds_toArray,erase_last]
 ·rw [List.length_dropLast];lia
def rCat:R2:=fun x y H Q=>∃l b xs zs,x= .ref l/\y= .ref b/\H l=some (.lst xs)/\H b=some (.lst zs)/\xs.length+zs.length<=sizeLine/\∀p,H p=none->Q (.ref p) (upd H p (.lst (xs++zs)))
theorem op_cat:OpR X (binaryOp .Add) rCat:=by
 intro pins s σ H x y v u Q I rx ry h;obtain ⟨l,b,xs,zs,rfl,rfl,hH,hB,hz,q⟩:=h
 cases rx
 cases ry
 obtain ⟨z,its,n,r,hl,e⟩:=I.lstM hH;obtain ⟨z2,its2,n2,r2,hl2,e2⟩:=I.lstM hB;refine PySem.P.add_list e e2 ?_ (by rw [qAM,qAM];lia);have ea:its.toArray++its2.toArray=(its++its2).toArray:=by simp
 rw [ea];exact ⟨.ref _,_,I.lnew (t':=s.toks) (r.append r2) (by rw [qAg];lia),rfl,q _ I.fresh⟩
def rRep:R2:=fun x y H Q=>∃l k xs,x= .ref l/\y= .int k/\H l=some (.lst xs)/\-(2^63)<=k/\k<2^63/\xs.length*k.toNat<=sizeLine /\
 ∀p,H p=none->Q (.ref p) (upd H p (.lst (List.replicate k.toNat xs).flatten))
theorem len_rep (xs:List α) (k:Nat):(List.replicate k xs).flatten.length=k*xs.length:=by
 induction k with
 | zero=>simp
 | succ k ih=>rw [qCa,qC5,qAg,ih,Nat.succ_mul,Nat.add_comm]
theorem op_rep:OpR X (binaryOp .Mult) rRep:=by
 intro pins s σ H x y v u Q I rx ry h;obtain ⟨l,k,xs,rfl,rfl,hH,h1,h2,hz,q⟩:=h
 cases rx
 obtain ⟨t,rfl⟩:=ry;obtain ⟨z,its,n,r,hl,e⟩:=I.lstM hH;have hlen:its.toArray.size*k.toNat<=sizeLine:=by rw [qAM,<-hl];exact hz
 have hcap:¬its.toArray.size*k.toNat>(2^63 - 1) / 8:=by
  have:(sizeLine:Nat)<=(2^63 - 1) / 8:=by decide
  lia
 have hfit:¬(!Builtin.List.listFitsIndex k)=true:=by
  rw [fitsIndex_both h1 h2];exact qAm
 have hlong:¬Builtin.List.listTooLong (its.toArray.size*k.toNat)=true:=by
  rw [notLongL hlen];exact qAm
 have hnew:List.foldl (fun x1 x2=>x1++x2) #[] (List.replicate (if its.toArray.isEmpty=true then 0 else k.toNat) its.toArray)=(List.replicate k.toNat its).flatten.toArray:=by
  have f0:∀m:Nat,List.foldl (fun x1 x2=>x1++x2) #[] (List.replicate m its.toArray)=(List.replicate m its).flatten.toArray:=fun m=>by
   have:=foldl_rep its m [];rw [List.nil_append] at this;exact this
  rw [f0]
  cases its with
  | nil=>simp
  | cons a r'=>rw [qAB (by simp)]
 refine wpAny_binaryOp_repeat_ref (T:= "list") (U:= "int") (by decide) ⟨_,e,rfl⟩ (fun s'=>typeIs_int s' k t) noFill_list_mul F.fills_int_mul F.slot_int_rmul repeat_list F.slot_int_index.lookup
  (qCO F.slot_int_rmul (typeIs_int s k t) F.entry_int_rmul (F.args_int_rmul_2 _ _) (int___rmul___int_list k t l its.toArray n)
   ⟨e,rfl,⟨_,e,rfl⟩,qCO F.slot_list_mul ⟨_,e,rfl⟩ F.entry_list_mul (F.args_list_mul_2 _ _) (AutoListH.list___mul___list_int_3 l its.toArray n k t hfit hcap hlong) ⟨e,?_⟩⟩)
 rw [hnew];exact ⟨.ref _,_,I.lnew (t':=s.toks) (r.rep k.toNat) (by rw [len_rep,Nat.mul_comm];exact hz),rfl,q _ I.fresh⟩
end
section
variable {prog:Program} {w:World} {A:Around} {E:Value->Shared->Prop} {s:Shared}
set_option maxRecDepth 100000 in
end
end L2
namespace Att
open PySem PySem.W PySem.Calls PyProof.Rows
theorem zHm {P:Params} {h:Heap}:∀(ns:List Int) (vs:List Value),WellAll P h vs (ns.map WData.int)->IntsAre vs ns:=by
 intro ns
 induction ns with
 | nil =>
  intro vs w;rw [List.map_nil] at w
  cases w
  exact .nil
 | cons n ns ih =>
  intro vs w;rw [qAn] at w
  cases w with
  | cons a b =>
   cases a
   exact .cons _ _ (ih _ b)
theorem script_of {l:OpenLaw} {n:Nat} (hn:l.most=some n) {P:Params} {h:Heap} {args:List WData} {vals:List Value}
  (hpre:l.row.toRowW.claim.pre args=true) (hwl:WellAll P h vals args) :
  ∃a vs ns,vals=[Value.ref a]/\args=[WData.list (ns.map WData.int)]/\h.get? a=some {cls:=.type "list",data:=.seq vs.toArray}/\IntsAre vs ns/\ns.length<=n:=by
 have hsh:WShape.hasAll [] args [.list .int]=true:=(pre_splitW hpre).1;have hc:l.pre.holds [] {args:=args}=true:=(pre_splitW hpre).2;obtain ⟨d,r,rfl,h1,h2⟩:=hasAllW_cons hsh;obtain rfl:=hasAllW_nil h2;obtain ⟨xs,rfl,h3⟩:=hasW_list h1;obtain ⟨ns,rfl⟩:=items_int h3
 have hlen:ns.length<=n:=by
  unfold OpenLaw.pre at hc
  have h4:(WTm.not (.lt (.lit (.int (n:Int))) (.len (.arg 0)))).holds [] {args:=[.list (ns.map .int)]}=true:=by
   have h4:=(holds_andW hc).1;rw [hn] at h4;exact h4
  have h5:=condW_of h4 (w_not (w_lt w_lit (w_len_list (w_arg rfl))));rw [qAE] at h5;refine qC6 fun q=>?_;have q':(n:Int)<((ns.length:Nat):Int):=by lia
  first
   | (rw [qAV q'] at h5;exact absurd h5 (by decide))
   | (simp at h5;lia)
 cases hwl with
 | cons w1 w2 =>
  cases w2
  cases w1 with
  | list ho hall=>exact ⟨_,_,ns,rfl,rfl,ho,zHm ns _ hall,hlen⟩
theorem post_true (l:OpenLaw) (args:List WData):l.row.toRowW.claim.post args (.bool true) args=true :=
 postW_of (r:=l.row.toRowW) (X:=(true==true))
  (show WShape.has [] (.bool true) .bool=true by first| rfl| decide| simp [WShape.has,WShape.arms,WShape.armsAll])
  (show (WTm.eq .res (.lit (.bool true))).value [] {args:=args,res:=some (.bool true),after:=args}=some (.bool (true==true)) from w_eq_bool (w_res rfl) w_lit) rfl
theorem attach_call {l:OpenLaw} {n:Nat} {q:Program} {loose:List Str} {XP:(Str->Option Value)->Heap->Prop} {YP:World->Heap->Prop} {d:DefRec}
  (hn:l.most=some n) (hdf:d.params.defaults=[])
  (call:∀(w:World) (s₀ s₁:Shared) (mg mb:Str->Option Value) (fa:Addr) (o:Obj) (pm cd doc:Value) (a:Addr) (vs:List Value) (ns:List Int),
   Ground q loose [] XP w s₀ mg mb s₁.heap->YP w s₁.heap ->
   s₁.heap.get? fa=some o->o.data= .func (docDef d.name d.params d.body d.scope pm cd doc)->s₁.heap.CodeRec cd d.name->mg d.name=some (.ref fa) ->
   s₁.heap.get? a=some {cls:=.type "list",data:=.seq vs.toArray}->IntsAre vs ns->ns.length<=n->s₁.gens=#[] ->
   codeAny (model l.prog w) callerA (.call (.ref fa) ⟨[.ref a],[]⟩) (fun r s'=>r= .ok (.ret (.bool true))/\OldK s₁.heap s'.heap/\s'.os=s₁.os/\AllBare s'.gens) s₁) :
  WalkO q loose XP YP l.row.toRowW d [] (fun f vs=>PySem.call f vs):=by
 intro w s₀ s₁ mg mb G Y fa o pm cd doc dV kV ho hd hcd hD hmg hg args vals as hpre hlay hrd hwl hlo;obtain rfl:dV= .none:=Dflts.none hD hdf;obtain rfl:kV= .none:=Dflts.noKw hD;obtain ⟨a,vs,ns,rfl,rfl,hobj,hints,hlen⟩:=script_of hn hpre hwl;refine enter_call (qCK (call w s₀ s₁ mg mb fa o pm cd doc a vs ns G Y ho (fd_plain hd) hcd hmg hobj hints hlen hg) fun r s' hq=>?_);obtain ⟨rfl,h2,h3,h4⟩:=hq;exact ⟨.inl ⟨.bool true,.bool true,[],rfl,fun _=>rfl,.bool true,post_true l _,fun _=>⟨List.Pairwise.nil,fun _ hm=>(nomatch hm)⟩⟩,h2,h3,h4⟩
end Att
namespace L2
open PySem PySem.Spec PyProof.Rows
variable {x qual:Str}{kvs:List (List Key×V)}{u:Value}{y:V}{P:Program}{w:World}{H H':Hp}{a:Addr}
theorem vals_ints:∀{vs:List Value} {ns:List Int},IntsAre vs ns->Vals (ns.map V.int) vs
 | _,_,.nil=>.nil
 | _,_,.cons n t h=>.cons ⟨t,rfl⟩ (vals_ints h)
def zEm (s:Stmt) (j:Nat):Stmt:=match s with
 | .ClassDef _ _ _ body _ _ _ _ _ _ _=>body.getD j (.Pass ⟨0,0,0,0⟩)
 | _=>.Pass ⟨0,0,0,0⟩
def zBc (s:Stmt):Arguments:=match s with
 | .FunctionDef _ a _ _ _ _ _ _ _ _=>a
 | _=>{posonlyargs:=[],args:=[],vararg:=none,kwonlyargs:=[],kw_defaults:=[],kwarg:=none,defaults:=[]}
def zA2 (s:Stmt):List Stmt:=match s with
 | .FunctionDef _ _ b _ _ _ _ _ _ _=>b
 | _=>[]
def zAd (s:Stmt):Scope:=match s with
 | .FunctionDef _ _ _ _ _ _ sc _ _ _=>sc
 | _=>{kind:=.function,names:=[],isGenerator:=false,isCoroutine:=false}
abbrev CX0:CXT:=fun _ _ _ _ _ _=>False
abbrev E0:XK:=fun _ _ _=>False
theorem pass0 {X:Cx}:zHs CX0 X E0:=fun _ _ _ _ _ _ _ h=>h.elim
structure Fun (K:PySem.W.Frag) (x qual:Str) (st:Stmt) (f:Addr) (fd:FuncData):Prop where
 ex:∃(oc:Value) (od:Option Addr) (kV doc pm:Value) (an:Option Addr) (cdv ct:Value) (osl:Array (Option Value)),
  fd=PySem.W.fnOf x qual (zBc st) (zA2 st) (zAd st) .none kV doc pm an cdv ct/\K.lookup f=some ⟨oc,od,.func fd,osl⟩/\PySem.W.codeIn K cdv qual=true
 kp:PySem.W.keepIn K (.ref f)=true
section
variable {P:Program} {w:World} {K:PySem.W.Frag} {mg:Str->Option Value} {base:Heap}
theorem Fun.ok {st:Stmt} {f:Addr} {fd:FuncData} {N ps:List Str} {k:Nat} {sp:Sp} (F:Fun K x qual st f fd) (S:FnScope N ps (zAd st)) (len:∀vs H Q E,sp vs H Q E->vs.length=ps.length)
  (hbody:∀(cdv:Value) (A:Around) (outer:List Env) (s:Shared) (H:Hp) (vs:List V) (Q:VK) (E:XK),Room k (A.deeper (envOfC qual (zAd st) s.heap.objs.size f cdv))->sp vs H Q E ->
   ∃t,PSs (cxOf CX0 P w K mg base N qual (zAd st) f cdv A outer s H E).nox (zA2 st) t/\t {nx:=fun _ H'=>Q .non H',rt:=Q} (start N vs) H):FnOk P w K mg base CX0 (k+1) f fd ps sp:=by
 obtain ⟨oc,od,kV,doc,pm,an,cdv,ct,osl,rfl,lk,hcd⟩:=F.ex;refine fn_of lk hcd S len fun A outer s H vs Q E hr hsp=>?_;obtain ⟨t,h,q⟩:=hbody cdv A outer s H vs Q E hr hsp;exact ⟨t,h.nox,q⟩
theorem Fun.binds {st:Stmt} {f:Addr} {fd:FuncData} {ps:List Str} (F:Fun K x qual st f fd)
  (h:∀(kV doc pm:Value) (an:Option Addr) (cdv ct:Value) (us:List Value),us.length=ps.length->bindArgs (PySem.W.fnOf x qual (zBc st) (zA2 st) (zAd st) .none kV doc pm an cdv ct) ⟨us,[]⟩=pure (ps.zip us)):zDg K fd ps []:=by
 obtain ⟨oc,od,kV,doc,pm,an,cdv,ct,osl,rfl,lk,hcd⟩:=F.ex;exact .all (h kV doc pm an cdv ct)
theorem fun_mk {st:Stmt} {f:Addr} {oc:Value} {od an:Option Addr} {osl:Array (Option Value)} {kV doc pm cdv ct:Value} (l:K.lookup f=some ⟨oc,od,.func (PySem.W.fnOf x qual (zBc st) (zA2 st) (zAd st) .none kV doc pm an cdv ct),osl⟩)
  (c:PySem.W.codeIn K cdv qual=true) (k:PySem.W.keepIn K (.ref f)=true):Fun K x qual st f (PySem.W.fnOf x qual (zBc st) (zA2 st) (zAd st) .none kV doc pm an cdv ct):=⟨⟨oc,od,kV,doc,pm,an,cdv,ct,osl,rfl,l,c⟩,k⟩
end
theorem zDw {A:Around} {k:Nat} (hr:Room k A):A.units+1<cLine:=qC7 (Nat.add_le_add_left (by decide:1<=64) _) hr.units
section
variable {X:Cx}
theorem pv (i:Nat) {pos:Pos} (hN:X.N[i]?=some x:=by rfl) (hv:Vis X.env.scope x:=by first| exact Or.inl rfl| exact Or.inr (Or.inl rfl)| exact Or.inr (Or.inr rfl)) (hd:(x==("__debug__" : Str))=false:=by decide)
  (hcd:(x==("__classdict__" : Str))=false:=by decide):PE X (.Name x pos) (tVar i):=pe_var hN hv hd hcd
end
theorem iteF {A B:Prop} (h:B):if false=true then A else B:=by
 rw [qAB qAm];exact h
theorem iteT {A B:Prop} (h:A):if true=true then A else B:=by
 rw [qAC rfl];exact h
theorem ite2 {c A B:Prop} [Decidable c] (h1:c->A) (h2:¬c->B):if c then A else B:=by
 by_cases h:c
 ·rw [qAC h];exact h1 h
 ·rw [qAB h];exact h2 h
section
variable {κ:Type} [DecidableEq κ]
def valV (kvs:List (κ×V)) (k:κ):Option V:=(kvs.find? fun kv=>decide (kv.1=k)).map (·.2)
def putK (kvs:List (κ×V)) (k:κ) (v:V):List (κ×V) :=
 if (kvs.any fun kv=>decide (kv.1=k))=true then kvs.map (fun kv=>if kv.1=k then (kv.1,v) else kv) else kvs++[(k,v)]
theorem zGf {p:κ×V} {r:List (κ×V)} {k:κ} (e:p.1=k):valV (p::r) k=some p.2:=by simp [valV,qCP,e]
theorem zEq {p:κ×V} {r:List (κ×V)} {k:κ} (e:¬p.1=k):valV (p::r) k=valV r k:=by simp [valV,qCP,e]
theorem zGg (k:κ):∀kvs:List (κ×V),(kvs.any fun kv=>decide (kv.1=k))=(valV kvs k).isSome
 | []=>rfl
 | p::r=>by
  rw [qCN]
  by_cases e:p.1=k
  ·simp only [zGf e,qAV e,Bool.true_or,Option.isSome_some]
  ·rw [zEq e,qAl e,Bool.false_or];exact zGg k r
theorem zEk (kvs:List (κ×V)) (k:κ) (v:V):(putK kvs k v).length<=kvs.length+1:=by
 unfold putK;split
 ·rw [qAE];lia
 ·rw [qAg,qAc,qBW];lia
theorem putK_new {kvs:List (κ×V)} {k:κ} (v:V) (h:valV kvs k=none):putK kvs k v=kvs++[(k,v)]:=by
 unfold putK;rw [zGg,h];exact qAB (by decide)
theorem RelO.isSome_eq {o:Option V} {u:Option Value} (r:RelO o u):o.isSome=u.isSome:=by
 cases o with
 | none=>cases u with
  | none=>rfl
  | some _=>exact (show False from r).elim
 | some _=>cases u with
  | none=>exact (show False from r).elim
  | some _=>rfl
theorem KV.val {kvs:List (κ×V)} {vs:List (κ×Value)} (r:KV kvs vs) (k:κ):RelO (valV kvs k) (valueAt vs k):=by
 unfold KV at r
 induction r with
 | nil=>exact True.intro
 | @cons p q ps qs h t ih =>
  obtain ⟨h1,h2⟩:=h
  by_cases e:p.1=k
  ·have e':q.1=k:=h1.symm.trans e;have b:valueAt (q::qs) k=some q.2:=by simp [valueAt,qCP,e']
   rw [zGf e,b];exact h2
  ·have e':¬q.1=k:=fun z=>e (h1.trans z);have b:valueAt (q::qs) k=valueAt qs k:=by simp [valueAt,qCP,e']
   rw [zEq e,b];exact ih
theorem KV.any {kvs:List (κ×V)} {vs:List (κ×Value)} (r:KV kvs vs) (k:κ):(kvs.any fun kv=>decide (kv.1=k))=vs.any fun kv=>decide (kv.1=k):=by
 unfold KV at r
 induction r with
 | nil=>rfl
 | cons h t ih=>rw [qCN,qCN,ih,h.1]
theorem KV.repl {kvs:List (κ×V)} {vs:List (κ×Value)} (r:KV kvs vs) (k:κ) (ry:RelV y u) :
  KV (kvs.map fun kv=>if kv.1=k then (kv.1,y) else kv) (vs.map fun kv=>if kv.1=k then (kv.1,u) else kv):=by
 unfold KV at r ⊢
 induction r with
 | nil=>exact .nil
 | @cons p q ps qs h t ih =>
  rw [qAn,qAn];refine .cons ?_ ih;obtain ⟨h1,h2⟩:=h
  by_cases e:p.1=k
  ·rw [qAC e,qAC (h1.symm.trans e)];exact ⟨h1,ry⟩
  ·rw [qAB e,qAB (fun z=>e (h1.trans z))];exact ⟨h1,h2⟩
theorem KV.put {kvs:List (κ×V)} {vs:List (κ×Value)} (r:KV kvs vs) (k:κ) (ry:RelV y u):KV (putK kvs k y) (stored vs k u):=by
 unfold putK stored;rw [r.any k]
 by_cases e:(vs.any fun kv=>decide (kv.1=k))=true
 ·rw [qAC e,qAC e];exact r.repl k ry
 ·rw [qAB e,qAB e];exact Paired.snoc r ⟨rfl,ry⟩
theorem KV.length {kvs:List (κ×V)} {vs:List (κ×Value)} (r:KV kvs vs):kvs.length=vs.length:=qBy r
end
theorem kV_is {k:Key} (r:RelV (kV k) u):(zA5 P w).is k u=true:=by
 cases k with
 | inl i=>obtain ⟨t,e⟩:=(show∃t,u=Value.int i t from r);subst e;exact mixKind_int P w i t
 | inr x=>obtain ⟨t,e⟩:=(show∃t,u=Value.str x t from r);subst e;exact mixKind_str P w x t
theorem items_are :∀{ks:List Key} {us:List Value},Vals (ks.map kV) us->ItemsAre (zA5 P w) ks us
 | [],_,r=>by rw [List.map_nil] at r;cases r;exact .nil
 | k::ks,_,r=>by
  rw [qAn] at r
  cases r with
  | cons h t=>exact .cons (kV_is h) (items_are t)
abbrev KT (H:Hp):List (List Key×V)->List (List Key×Addr×Value)->Prop:=Paired fun p q=>p.1=q.1/\H q.2.1=some (.tup (p.1.map kV))/\RelV p.2 q.2.2
theorem KT.val {xs:List (List Key×Addr×Value)} (r:KT H kvs xs) (k:List Key):RelO (valV kvs k) ((atKey xs k).map (·.2)):=by
 induction r with
 | nil=>exact True.intro
 | @cons p q ps qs h t ih =>
  obtain ⟨h1,_,h2⟩:=h
  by_cases e:p.1=k
  ·have e':q.1=k:=h1.symm.trans e;have b:atKey (q::qs) k=some q.2:=by simp [atKey,qCP,e']
   rw [zGf e,b];exact h2
  ·have e':¬q.1=k:=fun z=>e (h1.trans z);have b:atKey (q::qs) k=atKey qs k:=by simp [atKey,qCP,e']
   rw [zEq e,b];exact ih
theorem KT.repl {xs:List (List Key×Addr×Value)} (r:KT H kvs xs) (k:List Key) (ry:RelV y u) :
  KT H (kvs.map fun kv=>if kv.1=k then (kv.1,y) else kv) (xs.map (putAt k u)):=by
 induction r with
 | nil=>exact .nil
 | @cons p q ps qs h t ih =>
  rw [qAn,qAn];refine .cons ?_ ih;obtain ⟨h1,h2,h3⟩:=h;unfold putAt
  by_cases e:p.1=k
  ·rw [qAC e,qAC (h1.symm.trans e)];exact ⟨h1,h2,ry⟩
  ·rw [qAB e,qAB (fun z=>e (h1.trans z))];exact ⟨h1,h2,h3⟩
theorem KT.put {xs:List (List Key×Addr×Value)} (r:KT H kvs xs) (k:List Key) {b:Addr} (hb:H b=some (.tup (k.map kV))) (ry:RelV y u) :
  KT H (putK kvs k y) (storedH xs k b u):=by
 have e:(kvs.any fun kv=>decide (kv.1=k))=(atKey xs k).isSome:=by
  rw [zGg,(r.val k).isSome_eq,Option.isSome_map]
 unfold putK storedH;rw [e]
 by_cases q:(atKey xs k).isSome=true
 ·rw [qAC q,qAC q];exact r.repl k ry
 ·rw [qAB q,qAB q];exact Paired.snoc r ⟨rfl,hb,ry⟩
theorem KT.keeps {xs:List (List Key×Addr×Value)} (r:KT H kvs xs) (ht:∀b ys,H b=some (.tup ys)->H' b=some (.tup ys)):KT H' kvs xs :=
 Paired.mapP r fun _ _ z=>⟨z.1,ht _ _ z.2.1,z.2.2⟩
section
variable {P:Program} {w:World} {H:Hp} {h:Heap} {a:Addr}
theorem rd_of {u:HO} (ok:HOk P w H h) (e:Rd H a u):zAs P w H h a u:=e.ok ok
theorem dk_rd {kvs:List (Key×V)} (ok:HOk P w H h) (e:Rd H a (.dK kvs)):kvs.length<=sizeLine/\(a==sysModules)=false/\∃vs,KV kvs vs/\h.DictOf (zA5 P w) a vs :=
 show zAs P w H h a (.dK kvs) from rd_of ok e
theorem dk_of {kvs:List (Key×V)} (ok:HOk P w H h) (e:H a=some (.dK kvs)):kvs.length<=sizeLine/\(a==sysModules)=false/\∃vs,KV kvs vs/\h.DictOf (zA5 P w) a vs:=dk_rd ok (.inl e)
theorem key_of {ks:List Key} (ok:HOk P w H h) (e:H a=some (.tup (ks.map kV))):(tupleKind (zA5 P w)).is h ks a:=by
 obtain ⟨_,its,r,o,h1,h2,n,h3⟩:=(show zAs P w H h a (.tup (ks.map kV)) from ok a _ e);exact ⟨o,its.toArray,n,h1,h2,h3,by simpa using items_are r⟩
theorem dt_rd (ok:HOk P w H h) (e:Rd H a (.dT kvs)):kvs.length<=sizeLine/\(a==sysModules)=false /\
  ∃xs,KT H kvs xs/\h.DictOfH (tupleKind (zA5 P w)) a xs:=by
 obtain ⟨z,y,xs,r,o,es,ep,h1,h2,h3,h4,h5⟩:=(show zAs P w H h a (.dT kvs) from rd_of ok e);refine ⟨z,y,xs,r,o,es,ep,h1,h2,h3,h4,fun x hx=>?_,h5⟩
 have all:∀{l:List (List Key×V)} {m:List (List Key×Addr×Value)},KT H l m->∀x∈m,(tupleKind (zA5 P w)).is h x.1 x.2.1:=by
  intro l m q
  induction q with
  | nil=>intro x hx;exact nomatch hx
  | @cons p q ps qs hq t ih =>
   intro x hx;rcases qAN.mp hx with e| hx
   ·subst e;exact key_of ok (by rw [<-hq.1];exact hq.2.1)
   ·exact ih x hx
 exact all r x hx
theorem dt_of (ok:HOk P w H h) (e:H a=some (.dT kvs)):kvs.length<=sizeLine/\(a==sysModules)=false /\
  ∃xs,KT H kvs xs/\h.DictOfH (tupleKind (zA5 P w)) a xs:=dt_rd ok (.inl e)
end
def DGet (H:Hp) (a:Addr) (y:V) (r:Option V):Prop :=
 (∃kvs k,Rd H a (.dK kvs)/\y=kV k/\r=valV kvs k)\/∃kvs k b,Rd H a (.dT kvs)/\y= .ref b/\H b=some (.tup (k.map kV))/\r=valV kvs k
def DPut (H:Hp) (a:Addr) (y v:V) (H':Hp):Prop :=
 (∃kvs k,H a=some (.dK kvs)/\y=kV k/\kvs.length<sizeLine/\H'=upd H a (.dK (putK kvs k v))) \/
 ∃kvs k b,H a=some (.dT kvs)/\y= .ref b/\H b=some (.tup (k.map kV))/\kvs.length<sizeLine/\H'=upd H a (.dT (putK kvs k v))
theorem DGet.k {kvs:List (Key×V)} {k:Key} (e:H a=some (.dK kvs)):DGet H a (kV k) (valV kvs k):=.inl ⟨kvs,k,.inl e,rfl,rfl⟩
theorem DPut.k {kvs:List (Key×V)} {k:Key} {v:V} (e:H a=some (.dK kvs)) (hl:kvs.length<sizeLine):DPut H a (kV k) v (upd H a (.dK (putK kvs k v))):=.inl ⟨kvs,k,e,rfl,hl,rfl⟩
theorem DPut.t {b:Addr} {k:List Key} {v:V} (e:H a=some (.dT kvs)) (eb:H b=some (.tup (k.map kV))) (hl:kvs.length<sizeLine) :
  DPut H a (.ref b) v (upd H a (.dT (putK kvs k v))):=.inr ⟨kvs,k,b,e,rfl,eb,hl,rfl⟩
section
variable {X:Cx} {pins:List (Addr×Obj)} {σ:St} {H:Hp} {s:Shared} {a:Addr} {y v:V} {u r:Value} {o:Option V} {A:Around} {E:Value->Shared->Prop}
theorem Inv.big (I:Inv X pins σ H s):sysModules<s.heap.objs.size:=by
 have h:mainGlobals<s.heap.objs.size:=(I.mod.glob.keeps I.bk).lt;exact qCb (by decide) h
theorem d_getItem {Q:Value->Shared->Prop} (hu:A.units+1<cLine) (I:Inv X pins σ H s) (g:DGet H a y (some v)) (ry:RelV y u) (h:∀w' s',Inv X pins σ H s'->RelV v w'->Q w' s') :
  wpAny (model X.prog X.w) A (getItem (.ref a) u) Q E s:=by
 rcases g with ⟨kvs,k,e,ey,l⟩| ⟨kvs,k,b,e,ey,eb,l⟩
 ·subst ey;obtain ⟨z,hd,vs,rel,dd⟩:=dk_rd I.hok e;obtain ⟨w',hw,rw'⟩:=RelO.some_of (v:=v) (o:=valueAt vs k) (by rw [l];exact rel.val k);exact wpAny_getItem_of (kV_is ry) dd.mapOf hw (h w' _ (I.tok _) rw')
 ·subst ey
  cases (show u=Value.ref b from ry)
  obtain ⟨z,hd,xs,rel,dd⟩:=dt_rd I.hok e;obtain ⟨w',hw,rw'⟩:=RelO.some_of (v:=v) (o:=(atKey xs k).map (·.2)) (by rw [l];exact rel.val k);obtain ⟨p,hp,hp2⟩:=qA6.mp hw;refine wpAny_getItem_heap (qC8 hu) (key_of I.hok eb) dd hp ?_;rw [hp2];exact h w' _ (I.tok _) rw'
theorem d_in {Q:Value->Shared->Prop} (hu:A.units+1<cLine) (I:Inv X pins σ H s) (g:DGet H a y o) (ry:RelV y u) (h:∀s',Inv X pins σ H s'->Q (.bool o.isSome) s') :
  wpAny (model X.prog X.w) A (compareOp .In u (.ref a)) Q E s:=by
 rcases g with ⟨kvs,k,e,ey,l⟩| ⟨kvs,k,b,e,ey,eb,l⟩
 ·subst ey;obtain ⟨z,hd,vs,rel,dd⟩:=dk_rd I.hok e;refine wpAny_in_of (kV_is ry) hd dd.mapOf ?_;rw [<-(rel.val k).isSome_eq,<-l];exact h _ (I.tok _)
 ·subst ey
  cases (show u=Value.ref b from ry)
  obtain ⟨z,hd,xs,rel,dd⟩:=dt_rd I.hok e;refine wpAny_in_heap (qC8 hu) (key_of I.hok eb) hd dd ?_;have q:=(rel.val k).isSome_eq;rw [Option.isSome_map] at q;rw [<-q,<-l];exact h _ (I.tok _)
theorem d_notIn {Q:Value->Shared->Prop} (hu:A.units+1<cLine) (I:Inv X pins σ H s) (g:DGet H a y o) (ry:RelV y u) (h:∀s',Inv X pins σ H s'->Q (.bool (!o.isSome)) s') :
  wpAny (model X.prog X.w) A (compareOp .NotIn u (.ref a)) Q E s:=by
 rcases g with ⟨kvs,k,e,ey,l⟩| ⟨kvs,k,b,e,ey,eb,l⟩
 ·subst ey;obtain ⟨z,hd,vs,rel,dd⟩:=dk_rd I.hok e;refine wpAny_notIn_of (kV_is ry) hd dd.mapOf ?_;rw [<-(rel.val k).isSome_eq,<-l];exact h _ (I.tok _)
 ·subst ey
  cases (show u=Value.ref b from ry)
  obtain ⟨z,hd,xs,rel,dd⟩:=dt_rd I.hok e;refine wpAny_notIn_heap (qC8 hu) (key_of I.hok eb) hd dd ?_;have q:=(rel.val k).isSome_eq;rw [Option.isSome_map] at q;rw [<-q,<-l];exact h _ (I.tok _)
theorem d_write {h':Heap} {t':Nat} {ob:HO} (I:Inv X pins σ H s) (mu:Mut (H a)) (hs:Heap.SameBut a s.heap h') (he:∃q,h'.get? a=some q) (new:zAs X.prog X.w (upd H a ob) h' a ob) :
  Inv X pins σ (upd H a ob) {s with heap:=h',toks:=t'} :=
 I.write (x:=a) (e:=a) mu (.inl rfl) (fun b q hb z=>(hs.2 b hb).trans z) he new
theorem dk_new {h':Heap} {kvs:List (Key×V)} {vs:List (Key×Value)} (z:kvs.length<=sizeLine) (hd:(a==sysModules)=false) (rel:KV kvs vs) (dd:h'.DictOf (zA5 P w) a vs) :
  zAs P w H' h' a (.dK kvs):=⟨z,hd,vs,rel,dd⟩
theorem d_setItem {Q:Unit->Shared->Prop} (hu:A.units+1<cLine) (I:Inv X pins σ H s) (g:DPut H a y v H') (ry:RelV y u) (rv:RelV v r) (h:∀s',Inv X pins σ H' s'->Q () s') :
  wpAny (model X.prog X.w) A (setItem (.ref a) u r) Q E s:=by
 rcases g with ⟨kvs,k,e,ey,l,eH⟩| ⟨kvs,k,b,e,ey,eb,l,eH⟩
 ·subst ey eH;obtain ⟨z,hd,vs,rel,dd⟩:=dk_of I.hok e;have hz:vs.length<=sizeLine:=by rw [<-rel.length];exact z
  have hl:(putK kvs k v).length<=sizeLine:=by have:=zEk kvs k v;lia
  refine wpAny_setItem_pairs (hsz:=hz) (kV_is ry) dd fun h' dd' hs=>h _ ?_;have he:∃q,h'.get? a=some q:=let ⟨q,_,_,hq,_⟩:=dd';⟨q,hq⟩;exact d_write I (by rw [e];exact True.intro) hs he (dk_new hl hd (rel.put k rv) dd')
 ·subst ey eH
  cases (show u=Value.ref b from ry)
  obtain ⟨z,hd,xs,rel,dd⟩:=dt_of I.hok e;have hz:xs.length<=sizeLine:=by rw [<-qBy rel];exact z
  have hl:(putK kvs k v).length<=sizeLine:=by have:=zEk kvs k v;lia
  refine wpAny_setItem_heap (hsz:=hz) (qC8 hu) (key_of I.hok eb) dd fun h' dd' hs=>h _ ?_;obtain ⟨q,es,ep,hq,h2,h3,h4,_,h5⟩:=dd';refine d_write I (by rw [e];exact True.intro) hs ⟨q,hq⟩ ⟨hl,hd,_,(rel.put k eb rv).keeps fun c ys ec=>?_,q,es,ep,hq,h2,h3,h4,h5⟩;rw [upd_ne (zBb ec e (fun z=>nomatch z))];exact ec
end
def NoSl (i:Expr):Prop:=∀ov iv,subscripted i false ov iv=operate [ov,iv] (getItem ov iv)
theorem subD_of {prog:Program} {A:Around} {E:Value->Shared->Prop} {s:Shared} {env:Env} {value slice:Expr} {pos:Pos} {T id:String} {Q:Value->Shared->Prop}
  (hl:typeLookup (.type T) "__getitem__" = pure (some (.builtin id))) (hs:NoSl slice)
  (h:wpAny (model prog w) A (eval value env) (fun o s₁=>wpAny (model prog w) A (eval slice env) (fun i s₂=>s₂.TypeIs o T/\wpAny (model prog w) A (getItem o i) Q E s₂) E s₁) E s) :
  wpAny (model prog w) A (eval (.Subscript value slice pos) env) Q E s:=by
 refine Subscript_ (qAq h (fun o s₁ h₁=>qAq h₁ (fun i s₂ h₂=>?_) fun _ _ x=>x) fun _ _ x=>x);obtain ⟨hT,h₂⟩:=h₂;unfold subscriptTail;refine qAA ?_;rw [getitemInPython_of_ne hT.not_modules];refine qAA (qCc hT hl ?_)
 have fin:wpAny (model prog w) A (subscripted slice false o i) (fun r s₃=>wpAny (model prog w) A (letTemporaryGo value o r >>= fun _=>pure r) Q E s₃) E s₂:=by
  rw [hs o i];exact wpAny_operating (qAq h₂ (fun r s₃ h₃=>qAA (wpAny_letTemporaryGo (qAD h₃))) fun _ _ x=>x)
 first
  | exact qAD (qAA fin)
  | exact qAA (qAD (qAA fin))
  | exact qAA fin
theorem dict_typeIs {X:Cx} {pins:List (Addr×Obj)} {σ:St} {s:Shared} {o:Option V} (I:Inv X pins σ H s) (g:DGet H a y o):s.TypeIs (.ref a) "dict" := by
 rcases g with ⟨kvs,k,e,_,_⟩| ⟨kvs,k,b,e,_,_,_⟩
 ·obtain ⟨_,_,vs,_,dd⟩:=dk_rd I.hok e;exact dd.typeIs
 ·obtain ⟨_,_,xs,_,dd⟩:=dt_rd I.hok e;exact dd.typeIs
def tDGet (td ty:TE):TE:=fun σ H Q=>td σ H fun x H1=>ty σ H1 fun y H2=>∃a v,x= .ref a/\DGet H2 a y (some v)/\Q v H2
def tDIn (ty td:TE):TE:=fun σ H Q=>ty σ H fun y H1=>td σ H1 fun x H2=>∃a o,x= .ref a/\DGet H2 a y o/\Q (.bl o.isSome) H2
def tDNotIn (ty td:TE):TE:=fun σ H Q=>ty σ H fun y H1=>td σ H1 fun x H2=>∃a o,x= .ref a/\DGet H2 a y o/\Q (.bl (!o.isSome)) H2
def sDPut (td ty tv:TE):TS:=fun D σ H=>tv σ H fun v H1=>td σ H1 fun x H2=>ty σ H2 fun y H3=>∃a H4,x= .ref a/\DPut H3 a y v H4/\D.nx σ H4
section
variable {X:Cx} {o i e value:Expr} {pos pos' tpos:Pos} {td ty tv:TE}
theorem zBj (hu:X.A.units+1<cLine) (ho:PE X o td) (hi:PE X i ty) (hs:NoSl i):PE X (.Subscript o i pos) (tDGet td ty):=by
 intro pins s σ H Q I h;refine subD_of PySem.F.slot_dict_getitem.lookup hs (thn (ho pins s σ H _ I h) fun u s1 ⟨x,H1,I1,rx,q1⟩=>thn (hi pins s1 σ H1 _ I1 q1) fun iv s2 ⟨y,H2,I2,ry,a,v,ex,g,q2⟩=>?_);subst ex;obtain rfl:u=Value.ref a:=rx;exact ⟨dict_typeIs I2 g,d_getItem hu I2 g ry fun w' s3 I3 rw'=>⟨v,H2,I3,rw',q2⟩⟩
theorem zG3 (hu:X.A.units+1<cLine) (hi:PE X i ty) (ho:PE X o td):PC X .In i o (tDIn ty td):=by
 intro pins s σ H Q I h;refine thn (hi pins s σ H _ I h) fun iv s1 ⟨y,H1,I1,ry,q1⟩=>thn (ho pins s1 σ H1 _ I1 q1) fun u s2 ⟨x,H2,I2,rx,a,ov,ex,g,q2⟩=>?_;subst ex;obtain rfl:u=Value.ref a:=rx;exact d_in hu I2 g ry fun s3 I3=>⟨.bl ov.isSome,H2,I3,rfl,q2⟩
theorem zG2 (hu:X.A.units+1<cLine) (hi:PE X i ty) (ho:PE X o td):PC X .NotIn i o (tDNotIn ty td):=by
 intro pins s σ H Q I h;refine thn (hi pins s σ H _ I h) fun iv s1 ⟨y,H1,I1,ry,q1⟩=>thn (ho pins s1 σ H1 _ I1 q1) fun u s2 ⟨x,H2,I2,rx,a,ov,ex,g,q2⟩=>?_;subst ex;obtain rfl:u=Value.ref a:=rx;exact d_notIn hu I2 g ry fun s3 I3=>⟨.bl (!ov.isSome),H2,I3,rfl,q2⟩
theorem zC0 (hu:X.A.units+1<cLine) (ho:PE X o td) (hi:PE X i ty) (hv:PE X value tv) (hs:swapsWith value (some (.Subscript o i pos')) pos.line X.env=pure false) :
  PS X (.Assign [.Subscript o i pos'] value pos) (sDPut td ty tv):=by
 intro pins s σ H D I h;refine wpAny_Assign_Subscript (thn (hv pins s σ H _ I h) fun r s1 ⟨v,H1,I1,rv,q1⟩=>thn (ho pins s1 σ H1 _ I1 q1) fun u s2 ⟨x,H2,I2,rx,q2⟩=>thn (hi pins s2 σ H2 _ I2 q2) fun iv s3 ⟨y,H3,I3,ry,a,H4,ex,g,q3⟩=>?_) hs;subst ex;obtain rfl:u=Value.ref a:=rx;exact d_setItem hu I3 g ry rv fun s4 I4=>⟨σ,H4,I4,q3⟩
end
theorem dk_empty (h:Heap) (hb:sysModules<h.objs.size):zAs P w H (h.push {cls:=.type "dict",data:=.dict #[]}) h.objs.size (.dK []) :=
 ⟨qAY _,qA8.mpr (qAr (qAZ hb)),[],.nil,Heap.DictOf.new h⟩
theorem dt_empty (h:Heap) (hb:sysModules<h.objs.size):zAs P w H (h.push {cls:=.type "dict",data:=.dict #[]}) h.objs.size (.dT []) :=
 ⟨qAY _,qA8.mpr (qAr (qAZ hb)),[],.nil,_,#[],0,qAb _ rfl,⟨rfl,rfl,rfl⟩,rfl,rfl,qAw⟩
def tDNewK:TE:=fun _ H Q=>∀p,H p=none->Q (.ref p) (upd H p (.dK []))
def tDNewT:TE:=fun _ H Q=>∀p,H p=none->Q (.ref p) (upd H p (.dT []))
section
variable {X:Cx} {pos:Pos}
theorem zCd:PE X (.Dict [] [] pos) tDNewK:=fun pins s σ H Q I h =>
 wpAny_Dict_empty ⟨.ref s.heap.objs.size,_,I.laid (a:=s.heap.objs.size) (o:=.dK []) (t':=s.toks) (fun _ _ q=>qAJ _ q) (qAG _) (dk_empty s.heap I.big),rfl,h _ (I.hok.fresh (qAG _))⟩
theorem pe_dnewT:PE X (.Dict [] [] pos) tDNewT:=fun pins s σ H Q I h =>
 wpAny_Dict_empty ⟨.ref s.heap.objs.size,_,I.laid (a:=s.heap.objs.size) (o:=.dT []) (t':=s.toks) (fun _ _ q=>qAJ _ q) (qAG _) (dt_empty s.heap I.big),rfl,h _ (I.hok.fresh (qAG _))⟩
end
end L2
set_option maxHeartbeats 4000000
namespace L2
open PySem PySem.Spec PyProof.Rows
variable {env:Env}{scope:Scope}{x:Str}{c:Addr}{X:Cx}{elt iter tg:Expr}{ifs:List Expr}{g:TG}{tt:TT}{te:TE}{wi:TI}
def clOf (env:Env):List (Str×NameKind)->List (Str×Addr)->List (Str×Addr)
 | [],cs=>cs
 | (n,k)::r,cs=>if (k==NameKind.free)=true then (match env.cells.lookup n with| some c=>clOf env r ((n,c)::cs)| none=>clOf env r cs) else clOf env r cs
theorem zDx {env:Env}:∀(l:List (Str×NameKind)) (cs:List (Str×Addr)),(∀x∈l,x.2= .free->∃c,env.cells.lookup x.1=some c) ->
  (forIn l cs (fun (x:Str×NameKind) (cs:List (Str×Addr))=>match x with
   | (name,kind)=>if (kind==NameKind.free)=true then (do let c<-cellOf env name;pure (ForInStep.yield ((name,c)::cs))) else pure (ForInStep.yield cs)):Sem (List (Str×Addr)))=pure (clOf env l cs)
 | [],_,_=>rfl
 | (n,k)::r,cs,h=>by
  rw [List.forIn_cons];have hr:∀x∈r,x.2= .free->∃c,env.cells.lookup x.1=some c:=fun x hx=>h x (qAR _ hx)
  by_cases hk:(k==NameKind.free)=true
  ·obtain ⟨c,hc⟩:=h (n,k) qAT (by simpa using hk)
   have e1:clOf env ((n,k)::r) cs=clOf env r ((n,c)::cs):=by
    show (if (k==NameKind.free)=true then _ else _)=_;rw [qAC hk];have hc:env.cells.lookup n=some c:=hc;rw [hc]
   have e2:cellOf env n=pure c:=by
    have hc:env.cells.lookup n=some c:=hc;unfold cellOf;rw [hc]
   rw [e1,<-zDx r ((n,c)::cs) hr];show (if (k==NameKind.free)=true then (do let c<-cellOf env n;pure (ForInStep.yield ((n,c)::cs))) else pure (ForInStep.yield cs)) >>= _=_;rw [qAC hk,e2,pure_bind,pure_bind]
  ·have e1:clOf env ((n,k)::r) cs=clOf env r cs:=by
    show (if (k==NameKind.free)=true then _ else _)=_;rw [qAB hk]
   rw [e1,<-zDx r cs hr];show (if (k==NameKind.free)=true then (do let c<-cellOf env n;pure (ForInStep.yield ((n,c)::cs))) else pure (ForInStep.yield cs)) >>= _=_;rw [qAB hk,pure_bind]
theorem zJa (h:∀x∈scope.names,x.2= .free->∃c,env.cells.lookup x.1=some c):closureFor scope env=pure (clOf env scope.names []):=by
 unfold closureFor;have e:=zDx (env:=env) scope.names [] h
 first
  | exact e
  | (refine Eq.trans ?_ e;rfl)
  | (rw [bind_pure];exact e)
  | simpa using e
theorem zD6 :∀{l:List (Str×NameKind)} {cs:List (Str×Addr)},(∀y d,cs.lookup y=some d->env.cells.lookup y=some d)->(clOf env l cs).lookup x=some c->env.cells.lookup x=some c
 | [],cs,h,e=>h x c e
 | (n,k)::r,cs,h,e=>by
  unfold clOf at e
  by_cases hk:(k==NameKind.free)=true
  ·rw [qAC hk] at e
   cases q:env.cells.lookup n with
   | none=>rw [q] at e;exact zD6 h e
   | some d =>
    rw [q] at e;refine zD6 (fun y z hy=>?_) e;rw [qBK] at hy
    cases hyn:y==n with
    | true =>
     rw [hyn] at hy;have:y=n:=by simpa using hyn
     subst this;rw [q];exact hy
    | false=>rw [hyn] at hy;exact h y z hy
  ·rw [qAB hk] at e;exact zD6 h e
theorem zD7 (hx:env.cells.lookup x=some c):∀{l:List (Str×NameKind)} {cs:List (Str×Addr)},cs.lookup x=some c->(clOf env l cs).lookup x=some c
 | [],_,h=>h
 | (n,k)::r,cs,h=>by
  unfold clOf
  by_cases hk:(k==NameKind.free)=true
  ·rw [qAC hk]
   cases q:env.cells.lookup n with
   | none=>exact zD7 hx h
   | some d =>
    refine zD7 hx ?_;rw [qBK]
    cases hxn:x==n with
    | true =>
     have:x=n:=by simpa using hxn
     subst this;rw [<-q,hx]
    | false=>exact h
  ·rw [qAB hk];exact zD7 hx h
theorem zFe (hx:env.cells.lookup x=some c):∀{l:List (Str×NameKind)} {cs:List (Str×Addr)},(x,NameKind.free)∈l->(clOf env l cs).lookup x=some c
 | [],_,h=>nomatch h
 | (n,k)::r,cs,h=>by
  unfold clOf;rcases qAN.mp h with e| h
  ·cases e
   rw [qAC (show (NameKind.free==NameKind.free)=true by decide),hx];exact zD7 hx (by rw [qBK];simp)
  ·by_cases hk:(k==NameKind.free)=true
   ·rw [qAC hk]
    cases q:env.cells.lookup n with
    | none=>exact zFe hx h
    | some d=>exact zFe hx h
   ·rw [qAB hk];exact zFe hx h
theorem zDe :∀{l:List (Str×NameKind)} {n:Nat} {acc:List (Str×Addr)},(∀y∈l,y.2= .cell->y.1≠x)->(cellsFrom n l acc).lookup x=acc.lookup x
 | [],_,_,_=>rfl
 | (y,k)::r,n,acc,h=>by
  have hr:∀z∈r,z.2= .cell->z.1≠x:=fun z hz=>h z (qAR _ hz);unfold cellsFrom;split
  ·rename_i hk;rw [zDe hr,qBK]
   have:(x==y)=false:=by
    have:=h (y,k) qAT (by simpa using hk);exact qA8.mpr (fun z=>this z.symm)
   rw [this]
  ·exact zDe hr
theorem zB5 :∀{l:List (Str×NameKind)} {n:Nat} {acc:List (Str×Addr)},(cellsFrom n l acc).lookup x=some c->acc.lookup x=some c\/(n<=c/\(x,NameKind.cell)∈l)
 | [],_,_,h=>.inl h
 | (y,k)::r,n,acc,h=>by
  unfold cellsFrom at h;split at h
  ·rename_i hk;have hk':k= .cell:=by simpa using hk
   rcases zB5 h with z| ⟨z1,z2⟩
   ·rw [qBK] at z
    cases hx:x==y with
    | true =>
     rw [hx] at z;have e:n=c:=qAa z;have e2:x=y:=by simpa using hx
     subst e2;subst hk';exact .inr ⟨qBN e,qAT⟩
    | false=>rw [hx] at z;exact .inl z
   ·exact .inr ⟨qAX (qCL _) z1,qAR _ z2⟩
  ·rcases zB5 h with z| ⟨z1,z2⟩
   ·exact .inl z
   ·exact .inr ⟨z1,qAR _ z2⟩
theorem zDf:∀{l:List (Str×NameKind)} {n:Nat} {acc:List (Str×Addr)},(∀x y c,acc.lookup x=some c->acc.lookup y=some c->x=y)->(∀z d,acc.lookup z=some d->d<n)->∀x y c,(cellsFrom n l acc).lookup x=some c->(cellsFrom n l acc).lookup y=some c->x=y
 | [],_,_,p,_=>p
 | (w,k)::r,n,acc,p,lt=>by
  unfold cellsFrom;split
  ·refine zDf (l:=r) (n:=n+1) (acc:=(w,n)::acc) (fun x y c h1 h2=>?_) (fun z d h=>?_)
   ·rw [qBK] at h1 h2
    cases hx:x==w with
    | true =>
     rw [hx] at h1;have e1:n=c:=qAa h1
     cases hy:y==w with
     | true=>exact (by simpa using hx:x=w).trans (by simpa using hy:y=w).symm
     | false =>
      rw [hy] at h2;have:=lt y c h2;rw [<-e1] at this;exact absurd this (qA3 _)
    | false =>
     rw [hx] at h1
     cases hy:y==w with
     | true =>
      rw [hy] at h2;have e2:n=c:=qAa h2;have:=lt x c h1;rw [<-e2] at this;exact absurd this (qA3 _)
     | false=>rw [hy] at h2;exact p x y c h1 h2
   ·rw [qBK] at h
    cases hz:z==w with
    | true =>
     rw [hz] at h;have e:n=d:=qAa h;rw [<-e];exact qB3 _
    | false =>
     rw [hz] at h;exact qBq (lt z d h)
  ·exact zDf p lt
theorem zC2 :∀{l:List (Str×NameKind)} {h:Heap} {acc:List (Str×Addr)},(∀y d,acc.lookup y=some d->∃v,h.IsCell d v)->(cellsFrom h.objs.size l acc).lookup x=some c->∃v,(pushCells h l).IsCell c v
 | [],_,_,hA,e=>hA x c e
 | (y,k)::r,h,acc,hA,e=>by
  unfold cellsFrom at e;unfold pushCells;split at e
  ·rename_i hk;rw [qAC hk];have hs:(h.push {cls:=.type "cell",data:=.cell none}:Heap).objs.size=h.objs.size+1:=qBm ..;rw [<-hs] at e;refine zC2 (fun z d hz=>?_) e;rw [qBK] at hz
   cases hzy:z==y with
   | true =>
    rw [hzy] at hz;have e:h.objs.size=d:=qAa hz;subst e;exact ⟨none,_,qAb _ rfl,rfl⟩
   | false =>
    rw [hzy] at hz;obtain ⟨v,o,ho,hd⟩:=hA z d hz;exact ⟨v,o,qAJ _ ho,hd⟩
  ·rename_i hk;rw [qAB hk];exact zC2 hA e
theorem zEo {M:Model} {A:Around} {E:Value->Shared->Prop} {s:Shared} {globals:Addr} {cl:List (Str×Addr)} {qual:Str} {outer:Env} {Q:Env->Shared->Prop}
  (h:Q (newEnv scope s.heap.objs.size globals (cellsFrom (s.heap.objs.size+1) scope.names cl) qual none .none (some outer) builtinsNs) {s with heap:=pushCells (s.heap.push {cls:=.type "dict",data:=.dict #[]}) scope.names}) :
  wpAny M A (newFunctionEnv scope globals cl [] qual none .none (some outer)) Q E s:=by
 simp only [newFunctionEnv,Option.isSome_some,qB6];refine qAA (wpAny_alloc ?_);refine qAA (wpAny_layCells _ (fun name kind cells=>by cases hkc:kind==NameKind.cell<;>simp [hkc]) _ _ _ _ ?_);rw [show ({s with heap:=s.heap.push {cls:=.type "dict",data:=.dict #[]}}:Shared).heap.objs.size=s.heap.objs.size+1 from qBm ..];rw [List.forIn_nil];exact qAA (qAD (qAD h))
theorem zFd :∀{l:List (Str×NameKind)} {cs:List (Str×Addr)},(∀y∈l,y.2= .free->y.1≠x)->(clOf env l cs).lookup x=cs.lookup x
 | [],_,_=>rfl
 | (n,k)::r,cs,h=>by
  have hr:∀z∈r,z.2= .free->z.1≠x:=fun z hz=>h z (qAR _ hz);unfold clOf
  by_cases hk:(k==NameKind.free)=true
  ·rw [qAC hk];have nx:(x==n)=false:=qA8.mpr fun z=>h (n,k) qAT (by simpa using hk) z.symm
   cases q:env.cells.lookup n with
   | none=>exact zFd hr
   | some d =>
    rw [show (clOf env r ((n,d)::cs)).lookup x=((n,d)::cs).lookup x from zFd hr,qBK,nx]
  ·rw [qAB hk];exact zFd hr
def Cx.block (X:Cx) (scope:Scope) (C:Addr) (s₀:Shared) (H₀:Hp) (ex:List Addr) (N:List Str):Cx where
 prog:=X.prog
 w:=X.w
 K:=X.K
 mg:=X.mg
 base:=X.base
 A:=X.A
 N:=N
 s₀:=s₀
 H₀:=H₀
 env:=compEnvC scope (cellsFrom (C+1) scope.names (clOf X.env scope.names [])) C X.env
 outer:=X.stack
 stack:=X.stack
 ex:=ex
 fn:=fun x=>scope.names.lookup x==some .cell
 calm:=X.calm
 pn:=[]
 xe:=fun _ _=>False
structure BlkSc (X:Cx) (scope:Scope):Prop where
 kind:scope.kind= .function
 apart:∀y∈scope.names,∀z∈scope.names,y.2= .cell->z.2= .free->y.1≠z.1
 owns:∀y∈scope.names,y.2= .cell->scope.names.lookup y.1=some .cell
 free:∀y∈scope.names,y.2= .free->X.env.kindOf y.1=some .cell\/X.env.kindOf y.1=some .free
 locs:∀y∈scope.names,y.2= .local->scope.names.lookup y.1=some .local
theorem zCv {scope:Scope} {k:NameKind}:∀{l:List (Str×NameKind)}, 
  (l.map fun (n,k)=>if (k==NameKind.free&&env.scope.kind== .function&&env.kindOf n==some .cell) then (n,NameKind.cell) else (n,k)).lookup x=some k ->
  k= .cell\/k= .free->∃k',(x,k')∈l/\(k'= .cell\/k'= .free)
 | [],h,_=>by simp at h
 | (n,j)::r,h,hk=>by
  have h:List.lookup x ((if (j==NameKind.free&&env.scope.kind== .function&&env.kindOf n==some .cell)=true then (n,NameKind.cell) else (n,j))::(r.map fun (n,k)=>if (k==NameKind.free&&env.scope.kind== .function&&env.kindOf n==some .cell) then (n,NameKind.cell) else (n,k)))=some k:=h
  by_cases hc:(j==NameKind.free&&env.scope.kind== .function&&env.kindOf n==some .cell)=true
  ·rw [qAC hc,qBK] at h
   have hj:j= .free:=by
    simp only [qCM] at hc;simpa using hc.1.1
   cases hx:x==n with
   | true =>
    have:x=n:=by simpa using hx
    subst this;exact ⟨j,qAT,.inr hj⟩
   | false =>
    rw [hx] at h;obtain ⟨k',m,q⟩:=zCv (scope:=scope) h hk;exact ⟨k',qAR _ m,q⟩
  ·rw [qAB hc,qBK] at h
   cases hx:x==n with
   | true =>
    rw [hx] at h;have e:j=k:=qAa h;have:x=n:=by simpa using hx
    subst this;exact ⟨j,qAT,by rw [e];exact hk⟩
   | false =>
    rw [hx] at h;obtain ⟨k',m,q⟩:=zCv (scope:=scope) h hk;exact ⟨k',qAR _ m,q⟩
inductive Draws (X:Cx) (scope:Scope):List Str->List (Option Nat)->Prop
 | nil:Draws X scope [] []
 | own {x:Str} {N:List Str} {ix:List (Option Nat)}:Draws X scope N ix->Draws X scope (x::N) (Option.none::ix)
 | tk {x:Str} {N:List Str} {ix:List (Option Nat)} {i:Nat} (hN:X.N[i]?=some x) (hv:Vis X.env.scope x) (hk:(relabel scope X.env).names.lookup x=some .cell\/(relabel scope X.env).names.lookup x=some .free) (hf:(x,NameKind.free)∈scope.names) :
   Draws X scope N ix->Draws X scope (x::N) (some i::ix)
def zC4 (σ:St) (ix:List (Option Nat)):St:=ix.map fun o=>o.bind fun i=>(σ[i]?).join
theorem Draws.len {N:List Str} {ix:List (Option Nat)} (D:Draws X scope N ix):ix.length=N.length:=by
 induction D with
 | nil=>rfl
 | own _ ih=>simp [ih]
 | tk _ _ _ _ _ ih=>simp [ih]
theorem Draws.get {N:List Str} {ix:List (Option Nat)} {σ:St} (D:Draws X scope N ix):∀(j:Nat) (x:Str) (v:V),N[j]?=some x->(zC4 σ ix)[j]?=some (some v) ->
  ∃(i:Nat),X.N[i]?=some x/\σ[i]?=some (some v)/\Vis X.env.scope x/\((relabel scope X.env).names.lookup x=some .cell\/(relabel scope X.env).names.lookup x=some .free)/\(x,NameKind.free)∈scope.names:=by
 induction D with
 | nil=>intro j x v h;simp at h
 | own d ih =>
  intro j x v h1 h2
  cases j with
  | zero=>simp [zC4] at h2
  | succ j=>exact ih j x v (by simpa using h1) (by simpa [zC4] using h2)
 | @tk y N ix i hN hv hk hf d ih =>
  intro j x v h1 h2
  cases j with
  | zero =>
   have e:y=x:=by simpa using h1
   subst e;refine ⟨i,hN,?_,hv,hk,hf⟩;have h2:((σ[i]?).join)=some v:=by simpa [zC4] using h2
   cases q:σ[i]? with
   | none=>rw [q] at h2;cases h2
   | some o=>rw [q] at h2;exact qAf some h2
  | succ j=>exact ih j x v (by simpa using h1) (by simpa [zC4] using h2)
section
variable {X:Cx} {pins:List (Addr×Obj)} {σ:St} {H:Hp} {s:Shared} {scope:Scope} {N:List Str} {ix:List (Option Nat)} {fp:List Addr}
theorem Inv.nostk (I:Inv X pins σ H s) {b:Addr} (h1:b≠X.env.locals) (h2:b∉X.fs):b∉frs X.stack:=fun z=>(qAN.mp (I.stkSub b z)).elim h1 h2
theorem Inv.blockStart {h':Heap} {tk:Nat} {m:Str->Option Value} (I:Inv X pins σ H s) (B:BlkSc X scope) (D:Draws X scope N ix) (hfp:∀b∈fp,FpOk X pins H b) (hfo:∀b∈fp,∃o,s.heap.get? b=some o)
  (hns:h'.Ns s.heap.objs.size m) (hk:∀b o,s.heap.get? b=some o->h'.get? b=some o) (hcl:∀x c,(cellsFrom (s.heap.objs.size+1) scope.names (clOf X.env scope.names [])).lookup x=some c->∃v,h'.IsCell c v) :
  Inv (X.block scope s.heap.objs.size s H fp N) (X.pn++pins) (zC4 σ ix) H {s with heap:=h',toks:=tk}:=by
 have sub:∀{x:Str} {c:Addr},(clOf X.env scope.names []).lookup x=some c->X.env.cells.lookup x=some c:=fun {x c} e=>zD6 (fun y d z=>by simp at z) e
 have old:∀{x:Str} {c:Addr},(clOf X.env scope.names []).lookup x=some c->c<s.heap.objs.size:=fun {x c} e=>by
  obtain ⟨v,o,ho,_⟩:=I.cell x c (sub e);exact qAL ho
 have two:∀{x:Str} {c:Addr},(cellsFrom (s.heap.objs.size+1) scope.names (clOf X.env scope.names [])).lookup x=some c->X.env.cells.lookup x=some c\/s.heap.objs.size<c:=fun {x c} e=>by
  rcases zB5 e with z| ⟨z,_⟩
  ·exact .inl (sub z)
  ·exact .inr z
 have own:∀{x:Str},(x,NameKind.free)∈scope.names->(cellsFrom (s.heap.objs.size+1) scope.names (clOf X.env scope.names [])).lookup x=(clOf X.env scope.names []).lookup x:=fun {x} hx=>zDe fun y hy e=>B.apart y hy _ hx e rfl
 have okB:(X.block scope s.heap.objs.size s H fp N).Ok:=by
  refine ⟨I.ok.mod,B.kind,I.ok.glob,I.ok.blt,qAG _,zDf (fun x y c h1 h2=>I.ok.inj x y c (sub h1) (sub h2)) (fun z d h=>qBq (old h)),fun x hx=>?_,(fun x c z e=>?_),I.ok.hd,I.ok.frames,.inl rfl,fun b hb=>⟨?_,fun x c e=>?_⟩,
   I.bs,qAX I.ok.bsz I.sz,fun b o e hb=>?_,fun b hb=>I.nostk (hfp b hb).2.1 (hfp b hb).2.2.1,I.stack,I.stkFree⟩
  ·have hx':(relabel scope X.env).names.lookup x=some .cell\/(relabel scope X.env).names.lookup x=some .free:=hx
   have key:∃k',(x,k')∈scope.names/\(k'= .cell\/k'= .free):=by
    rcases hx' with e| e
    ·exact zCv (scope:=scope) e (.inl rfl)
    ·exact zCv (scope:=scope) e (.inr rfl)
   obtain ⟨k',m1,q⟩:=key;rcases q with q| q
   ·subst q;exact Option.isSome_iff_exists.mp (qDe _ _ _ (.inl (B.owns _ m1 rfl)))
   ·subst q;obtain ⟨c,hc⟩:=I.ok.has x (B.free _ m1 rfl);exact ⟨c,(own m1).trans (zFe hc m1)⟩
  ·rcases zB5 e with q| ⟨q,_⟩
   ·have z:scope.names.lookup x=some .cell:=by
     have z:(scope.names.lookup x==some NameKind.cell)=true:=z;simpa using z
    have hm:=qBn z;have:(x,NameKind.free)∈scope.names\/True:=.inr trivial
    exact absurd q (by
     rw [zFd (fun y hy e1 e2=>B.apart _ hm y hy rfl e1 e2.symm)];intro h;cases h)
   ·exact qBz q
  ·obtain ⟨o,e⟩:=hfo b hb;exact qAZ (qAL e)
  ·rcases two e with z| z
   ·exact (hfp b hb).2.2.2.2.1 x c z
   ·obtain ⟨o,e⟩:=hfo b hb;exact qBD (qCb (qAL e) z)
  ·rcases (hfp b hb).2.2.2.1 with z| z
   ·exact I.ok.noex b o e z
   ·exact absurd (qAp (qAL (I.ok.bs b o e).1) z) (qA3 _)
 refine ⟨okB,rfl,I.bare,Un.kept hk,⟨m,hns,fun j x v h1 h2 h3=>?_⟩,fun x c e=>?_,I.hok.fresh (qAG _),fun x c e=>(two e).elim (fun z=>I.freeC x c z) (fun z=>I.hok.fresh (qBz z)),fun p hp=>?_,I.hok.kept hk,?_⟩
 ·obtain ⟨i,e1,e2,vis,kd,fr⟩:=D.get j x v h1 h2;obtain ⟨m0,hn0,hl⟩:=I.loc;obtain ⟨u,r,l⟩:=hl i x v e1 e2 vis;refine ⟨u,r,?_⟩;rcases l with ⟨k,_⟩| ⟨_,c,hc,o,ho,hd⟩
  ·rcases B.free _ fr rfl with z| z
   ·have z:X.env.kindOf x=some .cell:=z;rw [k] at z;cases z
   ·have z:X.env.kindOf x=some .free:=z;rw [k] at z;cases z
  ·exact .inr ⟨kd,c,(own fr).trans (zFe hc fr),o,hk c o ho,hd⟩
 ·exact hcl x c e
 ·have hp':p∈X.pn++pins:=by simpa [Cx.block] using hp
  obtain ⟨e,n,ne,nf,d⟩:=I.pin p hp';exact ⟨hk _ _ e,n,qAZ (qAL e),I.nostk ne nf,d⟩
 ·show (zC4 σ ix).length=N.length;unfold zC4;rw [qAE];exact D.len
end
def PTs (X:Cx) (ifs:List Expr) (t:TT):Prop :=
 ∀(pins:List (Addr×Obj)) (s:Shared) (σ:St) (H:Hp) (Q:Bool->Hp->Prop),Inv X pins σ H s->t σ H Q ->
  wpAny (model X.prog X.w) X.A (forIn ifs true fun c r=>if r=true then do let ok<-isTrue c X.env (eval c X.env);pure (ForInStep.yield ok) else pure (ForInStep.yield r)) (TP X pins σ Q) X.xe s
def tTrue:TT:=fun _ H Q=>Q true H
theorem zCl :PTs X [] tTrue:=fun _ _ _ H _ I h=>wpAny_tests_nil ⟨H,I,h⟩
theorem zB8 {c:Expr} {t:TT} (h:PT X c t):PTs X [c] t:=fun pins s σ H Q I hw=>wpAny_tests_one (h pins s σ H Q I hw)
theorem comp_loop {prog:Program} {w:World} {A:Around} {R:Result->Shared->Prop} {s:Shared} {elt target iter:Expr} {ifs:List Expr} {scope:Scope} {pos:Pos} {it acc:Value} {env:Env} (I:Nat->Shared->Prop)
  (turn:∀n s,I n s->wpAny (model prog w) A (pyNext it) (fun r s₁=>match r with
   | none=>R (.ok .next) s₁
   | some v=>wpAny (model prog w) A (letOwnedTupleGo target it v) (fun _ s₁'=>wpAny (model prog w) A (assign target env v) (fun _ s₂ =>
     wpAny (model prog w) A (forIn ifs true fun c r=>if r=true then do let ok<-isTrue c env (eval c env);pure (ForInStep.yield ok) else pure (ForInStep.yield r)) (fun ok s₃ =>
      if ok=true then wpAny (model prog w) A (eval elt env) (fun x s₄ =>
       wpAny (model prog w) A (call (.builtin "list.append") [acc,x]) (fun _ s₅=>∃m,m<n/\I m s₅) (fun _ _=>False) s₄) (fun _ _=>False) s₃
      else∃m,m<n/\I m s₃) (fun _ _=>False) s₂) (fun _ _=>False) s₁') (fun _ _=>False) s₁) (fun _ _=>False) s)
  (n:Nat) (h:I n s) :
  codeAny (model prog w) A (.compLoop (.ListComp elt [⟨target,iter,ifs,0⟩] scope pos) 0 it acc env) R s:=by
 refine codeAny_loop rfl I (fun n s hI=>?_) n h;show wpAny _ A ((compTurn (.ListComp elt [⟨target,iter,ifs,0⟩] scope pos) 0 it acc env).onRaise (fun x=>do noteFrame x env;theTreesLotGoes x)) _ _ s;refine wpAny_noted ?_;rw [compTurn_list];refine qAA (qB0 (qAA (qAq (turn n s hI) (fun r s₁ h₁=>?_) fun _ _ h'=>h'.elim)))
 cases r with
 | none=>exact qAD h₁
 | some v =>
  refine qAA (qAq h₁ (fun _ s₁' h₁'=>?_) fun _ _ h'=>h'.elim);refine qAA (qAq h₁' (fun _ s₂ h₂=>qAA (qAq h₂ (fun ok s₃ h₃=>?_) fun _ _ h'=>h'.elim)) fun _ _ h'=>h'.elim)
  cases ok with
  | false=>exact qAD ⟨rfl,h₃⟩
  | true =>
   exact qAA (qAA (qAq h₃ (fun x s₄ h₄=>qAA (qAq h₄ (fun _ s₅ h₅=>qAD (qAD ⟨rfl,h₅⟩)) fun _ _ h'=>h'.elim)) fun _ _ h'=>h'.elim))
def tComp (wi:TI) (ix:List (Option Nat)) (g:TG) (tt:TT) (te:TE):TE:=fun σ H Q=>wi σ H fun J H1=>∀D,H1 D=none->∃W:Nat->Nat->List V->St->Hp->Prop,
 (∃m,W 0 m [] (zC4 σ ix) (upd H1 D (.lst [])))/\∀i m ys τ H2,W i m ys τ H2 ->
  (J.stop i H2/\Q (.ref D) H2)\/(J.go i H2/\∃N:List V->St->Hp->Prop,(∀ys' τ' H',N ys' τ' H'->∃m',m'<m/\W (i+1) m' ys' τ' H')/\∀x H3,J.yld i H2 x H3->g x τ H3 fun τ' H4=>tt τ' H4 fun b H5 =>
   if b=true then te τ' H5 fun v H6=>H6 D=some (.lst ys)/\ys.length<sizeLine/\N (ys++[v]) τ' (upd H6 D (.lst (ys++[v])))
   else N ys τ' H5)
theorem block_loop {Y:Cx} {pos:Pos} {J:It} {fp:List Addr} {it D:Addr} {tn:Nat->Heap->Prop} {P:List (Addr×Obj)} {W:Nat->Nat->List V->St->Hp->Prop} {m0:Nat}
  {R:Result->Shared->Prop} {QD:Hp->Prop} {s4:Shared} {τ0:St} {H4:Hp}
  (hc:Y.calm=true) (hx:∀e s,Y.xe e s->False) (hg:PG Y tg g) (ht:PTs Y ifs tt) (he:PE Y elt te) (T:Turn Y.prog Y.w Y.K tg J fp it tn)
  (stat:∀{H':Hp},(∀b∈fp,H' b=none)->∀b∈fp,FpOk Y P H' b)
  (turn:∀i m ys τ H2,W i m ys τ H2->(J.stop i H2/\QD H2)\/(J.go i H2/\∃N:List V->St->Hp->Prop,(∀ys' τ' H',N ys' τ' H'->∃m',m'<m/\W (i+1) m' ys' τ' H')/\∀x H3,J.yld i H2 x H3->g x τ H3 fun τ' H4=>tt τ' H4 fun b H5 =>
   if b=true then te τ' H5 fun v H6=>H6 D=some (.lst ys)/\ys.length<sizeLine/\N (ys++[v]) τ' (upd H6 D (.lst (ys++[v])))
   else N ys τ' H5))
  (fin:∀τ H' s',Inv Y P τ H' s'->QD H'->R (.ok .next) s')
  (I0:Inv Y P τ0 H4 s4) (t0:tn 0 s4.heap) (n0:∀b∈fp,H4 b=none) (w0:W 0 m0 [] τ0 H4) :
  codeAny (model Y.prog Y.w) Y.A (.compLoop (.ListComp elt [⟨tg,iter,ifs,0⟩] scope pos) 0 (.ref it) (.ref D) Y.env) R s4:=by
 have nx:∀{α:Type} {t:Sem α} {Q:α->Shared->Prop} {s:Shared},wpAny (model Y.prog Y.w) Y.A t Q Y.xe s->wpAny (model Y.prog Y.w) Y.A t Q (fun _ _=>False) s:=fun h=>qAq h (fun _ _ q=>q) hx;refine comp_loop (fun n s'=>∃i ys τ H',Inv Y P τ H' s'/\tn i s'.heap/\(∀b∈fp,H' b=none)/\W i n ys τ H') ?_ m0 ⟨0,[],τ0,H4,I0,t0,n0,w0⟩;rintro n s5 ⟨i,ys,τ,H5,I5,st5,fr5,w5⟩;rcases turn i n ys τ H5 w5 with ⟨stop,q⟩| ⟨go,N,hN,step⟩
 ·refine thn (T.done Y rfl rfl rfl hc i P s5 τ H5 _ I5 (stat fr5) st5 stop) fun r s6 ⟨hr,I6⟩=>?_;subst hr;exact fin τ H5 s6 I6 q
 ·refine thn (T.item Y rfl rfl rfl hc i P s5 τ H5 _ I5 (stat fr5) st5 go) fun r s6 ⟨u,hr,h6⟩=>?_;subst hr;refine thn h6 fun _ s7 ⟨x,H7,I7,r7,y7,st7,fr7⟩=>?_;have I7':=I7.pinned (stat fr7) (T.obj _ _ st7);refine nx (thn (hg _ s7 τ H7 x u _ I7' r7 (step x H7 y7)) fun _ s8 ⟨τ8,H8,I8,q8⟩=>?_);refine nx (thn (ht _ s8 τ8 H8 _ I8 q8) fun ok s9 ⟨H9,I9,q9⟩=>?_)
  have again:∀{ys':List V} {H':Hp} {s':Shared},Inv Y (P++pinsAt fp s7.heap) τ8 H' s'->(∃m',m'<n/\W (i+1) m' ys' τ8 H')->∃m,m<n/\∃i ys τ H',Inv Y P τ H' s'/\tn i s'.heap/\(∀b∈fp,H' b=none)/\W i m ys τ H':=fun {ys' H' s'} I' ⟨m',hm,w'⟩=>by
   refine ⟨m',hm,i+1,ys',τ8,H',I'.unpinned,T.keep _ _ _ st7 fun b hb o e=>(I'.pin (b,o) (qAu _ (qAu _ (zD5 hb e)))).1,fun b hb=>?_,w'⟩;obtain ⟨o,e,d⟩:=T.obj _ _ st7 b hb;exact (I'.pin (b,o) (qAu _ (qAu _ (zD5 hb e)))).2.1
  cases ok with
  | false =>
   rw [qAB qAm] at q9 ⊢;exact again I9 (hN _ _ _ q9)
  | true =>
   rw [qAC rfl] at q9 ⊢;refine nx (thn (he _ s9 τ8 H9 _ I9 q9) fun y s10 ⟨v,H10,I10,r10,hD,hz,w10⟩=>?_);refine nx (thn (zB2 (X:=Y) _ s10 τ8 H10 (.ref D) [v] (.ref D) [y] (fun _ H'=>H'=upd H10 D (.lst (ys++[v]))) I10 rfl (.cons r10 .nil) ⟨D,ys,v,rfl,rfl,hD,hz,rfl⟩) fun _ s11 ⟨z,H11,I11,_,e11⟩=>?_);subst e11;exact again I11 (hN _ _ _ w10)
theorem run_comp {pos p1:Pos} {N:List Str} {ix:List (Option Nat)} {pins:List (Addr×Obj)} {s:Shared} {σ:St} {H:Hp} {Q:VK} {use:Option (Value->Sem Unit)}
  {Z:Value->Shared->Prop}
  (hc:X.calm=true) (B:BlkSc X scope) (Dr:Draws X scope N ix) (hi:PI X tg iter wi)
  (hg:∀C s₀ H₀ ex,PG (X.block scope C s₀ H₀ ex N) tg g) (ht:∀C s₀ H₀ ex,PTs (X.block scope C s₀ H₀ ex N) ifs tt) (he:∀C s₀ H₀ ex,PE (X.block scope C s₀ H₀ ex N) elt te)
  (hs:∀x,foldedSetIterable iter X.env x=pure x)
  (I:Inv X pins σ H s) (h:tComp wi ix g tt te σ H Q)
  (fin:∀(D C:Addr) (H':Hp) (s':Shared) (m:Str->Option Value),Inv X pins σ H' s'->Q (.ref D) H'->s'.heap.Ns C m->(∀h',Heap.SameBut C s'.heap h'->Inv X pins σ H' {s' with heap:=h'})->C≠X.env.locals->(∀x c,X.env.cells.lookup x=some c->c≠C)->H' C=none ->
   (∀p∈X.pn++pins,p.1≠C)->X.s₀.heap.objs.size<=C->compPost (model X.prog X.w) X.A X.xe use Z (.ref D) C (.ok .next) s') :
  wpAny (model X.prog X.w) X.A (comprehension (.ListComp elt [⟨tg,iter,ifs,0⟩] scope pos) scope X.env p1 (newList []) false (eval iter X.env) use) Z X.xe s:=by
 have hfree:∀x∈scope.names,x.2= .free->∃c,X.env.cells.lookup x.1=some c:=fun x hx e=>I.ok.has _ (B.free x hx e);refine wpAny_comprehension_free (use:=use) rfl hs (zJa hfree) B.kind B.locs ?_;refine thn (hi pins s σ H _ I h) fun v s1 h1=>thn h1 fun itv s2 h2=>?_;obtain ⟨it,fp,tn,J,H2,e,I2,T,st2,f2,R⟩:=h2;subst e;have hDf:H2 s2.heap.objs.size=none:=I2.hok.fresh (qAG _);obtain ⟨W,⟨m0,w0⟩,turn⟩:=R _ hDf;refine qBf ?_ (by show (0:Nat)<=sizeLine;exact qAY _);have I3:Inv X pins σ (upd H2 s2.heap.objs.size (.lst [])) {s2 with heap:=s2.heap.push {cls:=.type "list",data:=.seq ([]:List Value).toArray}}:=I2.lnew (t':=s2.toks) (ys:=[]) (its:=[]) .nil (qAY _);generalize hD:s2.heap.objs.size=D at *
 have fpo:∀b∈fp,∃o,s2.heap.get? b=some o:=fun b hb=>let ⟨o,q,_⟩:=T.obj _ _ st2 b hb;⟨o,q⟩
 have fpD:∀b∈fp,b≠D:=fun b hb=>by
  obtain ⟨o,q⟩:=fpo b hb;rw [<-hD];exact qAZ (qAL q)
 have f3:∀b∈fp,FpOk X pins (upd H2 D (.lst [])) b:=fun b hb=>⟨by rw [upd_ne (fpD b hb)];exact (f2 b hb).1,(f2 b hb).2⟩;generalize hs3:({s2 with heap:=s2.heap.push {cls:=.type "list",data:=.seq ([]:List Value).toArray}}:Shared)=s3 at I3 ⊢;have k23:∀b o,s2.heap.get? b=some o->s3.heap.get? b=some o:=fun b o q=>by rw [<-hs3];exact qAJ _ q
 have fpo3:∀b∈fp,∃o,s3.heap.get? b=some o:=fun b hb=>let ⟨o,q⟩:=fpo b hb;⟨o,k23 b o q⟩;have st3:tn 0 s3.heap:=T.keep _ _ _ st2 fun b hb o q=>k23 b o q;refine zEo ?_;have k34:∀b o,s3.heap.get? b=some o->(pushCells (s3.heap.push {cls:=.type "dict",data:=.dict #[]}) scope.names).get? b=some o:=fun b o q=>pushCells_keeps _ _ b o (qAJ _ q);have hns4:(pushCells (s3.heap.push {cls:=.type "dict",data:=.dict #[]}) scope.names).Ns s3.heap.objs.size (fun _=>none):=(Heap.Ns.new s3.heap (.type "dict")).keeps (pushCells_keeps _ _)
 have hcl4:∀x c,(cellsFrom (s3.heap.objs.size+1) scope.names (clOf X.env scope.names [])).lookup x=some c->∃v,(pushCells (s3.heap.push {cls:=.type "dict",data:=.dict #[]}) scope.names).IsCell c v:=fun x c e=>by
  refine zC2 (h:=s3.heap.push {cls:=.type "dict",data:=.dict #[]}) (acc:=clOf X.env scope.names []) (fun y d hy=>?_) (by rw [qBm];exact e);obtain ⟨v,o,ho,hd⟩:=I3.cell y d (zD6 (fun y d z=>by simp at z) hy);exact ⟨v,o,qAJ _ ho,hd⟩
 have IB:=I3.blockStart (tk:=s3.toks) B Dr f3 fpo3 hns4 k34 hcl4;generalize hh4:pushCells (s3.heap.push {cls:=.type "dict",data:=.dict #[]}) scope.names=h4 at *
 generalize hC:s3.heap.objs.size=C at *
 have hCX:X.s₀.heap.objs.size<=C:=by rw [<-hC];exact I3.sz
 have CL:C≠X.env.locals:=by rw [<-hC];exact qBD I3.lt
 have Cc:∀x c,X.env.cells.lookup x=some c->c≠C:=fun x c q=>by
  obtain ⟨v,o,ho,_⟩:=I3.cell x c q;rw [<-hC];exact qAZ (qAL ho)
 have Cp:∀p∈X.pn++pins,p.1≠C:=fun p hp=>by
  rw [<-hC];exact qAZ (qAL (I3.pin p hp).1)
 have fpC:∀b∈fp,b≠C:=fun b hb=>by
  obtain ⟨o,q⟩:=fpo3 b hb;rw [<-hC];exact qAZ (qAL q)
 have stat:∀{H':Hp},(∀b∈fp,H' b=none)->∀b∈fp,FpOk (X.block scope C s3 (upd H2 D (.lst [])) fp N) (X.pn++pins) H' b:=fun {H'} hn b hb=>by
  obtain ⟨_,q1,q2,q3,q4,q5⟩:=f2 b hb;exact ⟨hn b hb,fpC b hb,I3.nostk q1 q2,.inl hb,fun x c e=>(zB5 e).elim (fun z=>q4 x c (zD6 (fun y d z=>by simp at z) z)) (fun z=>by obtain ⟨o,q⟩:=fpo3 b hb;have:=qAL q;rw [hC] at this;exact qBD (qAp (qBq this) z.1)),fun p hp=>q5 p (by simpa [Cx.block] using hp)⟩
 have st4:tn 0 h4:=T.keep _ _ _ st3 fun b hb o q=>k34 b o q;have n4:∀b∈fp,(upd H2 D (.lst [])) b=none:=fun b hb=>(f3 b hb).1
 have loop:=block_loop (Y:=X.block scope C s3 (upd H2 D (.lst [])) fp N) (iter:=iter) (pos:=pos) (scope:=scope) (D:=D) (R:=compPost (model X.prog X.w) X.A X.xe use Z (.ref D) C) hc (fun _ _ z=>z) (hg C s3 _ fp) (ht C s3 _ fp) (he C s3 _ fp) T stat turn
  (fun τ H' s' I' q=>by
   have I5:Inv X pins σ H' s':=I3.call' (ch:=fp) I'.os I'.base I'.hok I'.bare fun b hb=>by
    obtain ⟨_,q1,q2,q3,q4,q5⟩:=f2 b hb;exact ⟨q3,q1,q4,q5⟩
   obtain ⟨m,hn,_⟩:=I'.loc;have hC0:H' C=none:=I'.free;exact fin D C H' s' m I5 q hn (fun h'' hs''=>I5.turned (t':=s'.toks) (fun b o hb e=>hs''.extBut b o hb e) hC0 CL (.inr hCX) Cc Cp) CL Cc hC0 Cp hCX) IB st4 n4 w0
 exact codeAny_compStart_list loop (T.self _ 0 _ _ _ st4 loop)
theorem zBa {pos:Pos} {N:List Str} {ix:List (Option Nat)} (hc:X.calm=true) (B:BlkSc X scope) (Dr:Draws X scope N ix) (hi:PI X tg iter wi)
  (hg:∀C s₀ H₀ ex,PG (X.block scope C s₀ H₀ ex N) tg g) (ht:∀C s₀ H₀ ex,PTs (X.block scope C s₀ H₀ ex N) ifs tt) (he:∀C s₀ H₀ ex,PE (X.block scope C s₀ H₀ ex N) elt te)
  (hs:∀x,foldedSetIterable iter X.env x=pure x:=by intro _;rfl):PE X (.ListComp elt [⟨tg,iter,ifs,0⟩] scope pos) (tComp wi ix g tt te):=by
 intro pins s σ H Q I h;rw [eval_ListComp];exact run_comp (use:=none) hc B Dr hi hg ht he hs I h fun D C H' s' m I' q hn k _ _ _ _ _=>⟨m,hn,fun h' hs'=>⟨.ref D,H',k h' hs',rfl,q⟩⟩
theorem zFq {pos spos py:Pos} {N:List Str} {ix:List (Option Nat)} {i:Nat} {y:Str} (hc:X.calm=true) (B:BlkSc X scope) (Dr:Draws X scope N ix) (hi:PI X tg iter wi)
  (hg:∀C s₀ H₀ ex,PG (X.block scope C s₀ H₀ ex N) tg g) (ht:∀C s₀ H₀ ex,PTs (X.block scope C s₀ H₀ ex N) ifs tt) (he:∀C s₀ H₀ ex,PE (X.block scope C s₀ H₀ ex N) elt te)
  (hN:X.N.Nodup) (hy:X.N[i]?=some y) (hl:X.env.scope.names.lookup y=some .local)
  (hsw:swapsWith (.ListComp elt [⟨tg,iter,ifs,0⟩] scope pos) (some (.Name y py)) spos.line X.env=pure true:=by rfl)
  (hs:∀x,foldedSetIterable iter X.env x=pure x:=by intro _;rfl):PS X (.Assign [.Name y py] (.ListComp elt [⟨tg,iter,ifs,0⟩] scope pos) spos) (tAsg (tComp wi ix g tt te) (gName i)):=by
 intro pins s σ H Dn I h;rw [exec_Assign_Name_used _ _ _ _ hsw];refine qAA (qB0 (qAA ?_));show wpAny _ X.A (do let _<-comprehension (.ListComp elt [⟨tg,iter,ifs,0⟩] scope pos) scope X.env _ (newList []) false (eval iter X.env) (some (assign (.Name y py) X.env))) _ _ s;refine qAA (thn (run_comp (use:=some (assign (.Name y py) X.env)) (Z:=fun _ s'=>SP X pins Dn .next s') hc B Dr hi hg ht he hs I h fun D C H' s' m I' q hn k CL Cc C0 Cp CX=>?_) fun _ s' hq=>qAD (qAD hq));show wpAny _ _ (assign (.Name y py) X.env (.ref D)) _ _ s';refine wpAny_assign_Name (store_ok2 I' hN hy (.inl hl) (v:=.ref D) rfl (fun s'' I'' ⟨a,sb,ha⟩=>?_) (.inr hl))
 have aC:C≠a:=by
  rcases ha with z| z
  ·rw [z];exact CL
  ·exact (Cc _ _ z).symm
 exact ⟨m,hn.sameBut sb aC,fun h' hs'=>⟨_,H',I''.turned (t':=s''.toks) (fun b o hb e=>hs'.extBut b o hb e) C0 CL (.inr CX) Cc Cp,q⟩⟩
theorem comp_by {J:It} {ix:List (Option Nat)} {Q:VK} {σ:St} {H1:Hp} {D:Addr} (xs:List V) (Pv:Nat->List V->St->Hp->Prop) (h0:Pv 0 [] (zC4 σ ix) (upd H1 D (.lst [])))
  (hJ:∀i ys τ H,Pv i ys τ H->(∀x,xs[i]?=some x->J.go i H/\∀y H',J.yld i H y H'->H'=H/\y=x)/\(i=xs.length->J.stop i H))
  (hs:∀i x ys τ H,xs[i]?=some x->Pv i ys τ H->g x τ H fun τ' H4=>tt τ' H4 fun b H5=>if b=true then te τ' H5 fun v H6=>H6 D=some (.lst ys)/\ys.length<sizeLine/\Pv (i+1) (ys++[v]) τ' (upd H6 D (.lst (ys++[v]))) else Pv (i+1) ys τ' H5)
  (hd:∀ys τ H,Pv xs.length ys τ H->Q (.ref D) H) :
  ∃W:Nat->Nat->List V->St->Hp->Prop,(∃m,W 0 m [] (zC4 σ ix) (upd H1 D (.lst [])))/\∀i m ys τ H2,W i m ys τ H2 ->
   (J.stop i H2/\Q (.ref D) H2)\/(J.go i H2/\∃N:List V->St->Hp->Prop,(∀ys' τ' H',N ys' τ' H'->∃m',m'<m/\W (i+1) m' ys' τ' H')/\∀x H3,J.yld i H2 x H3->g x τ H3 fun τ' H4=>tt τ' H4 fun b H5 =>
    if b=true then te τ' H5 fun v H6=>H6 D=some (.lst ys)/\ys.length<sizeLine/\N (ys++[v]) τ' (upd H6 D (.lst (ys++[v])))
    else N ys τ' H5):=by
 refine ⟨fun i m ys τ H=>m=xs.length - i/\i<=xs.length/\Pv i ys τ H,⟨xs.length,by simp,qAY _,h0⟩,?_⟩;rintro i m ys τ H ⟨rfl,hi,p⟩;obtain ⟨j1,j2⟩:=hJ i ys τ H p
 by_cases hlt:i<xs.length
 ·have hx:xs[i]?=some xs[i]:=by simp [hlt]
  obtain ⟨go,yl⟩:=j1 _ hx;refine .inr ⟨go,Pv (i+1),fun ys' τ' H' p'=>⟨xs.length - (i+1),by lia,rfl,hlt,p'⟩,fun y H' yd=>?_⟩;obtain ⟨e1,e2⟩:=yl y H' yd;subst e1 e2;exact hs i _ ys τ _ hx p
 ·have e:i=xs.length:=by lia
  subst e;exact .inl ⟨j2 rfl,hd ys τ H p⟩
def blkOk (scope sc:Scope):Bool:=(scope.kind== .function)&&(scope.names.all (fun y=>scope.names.all fun z=>y.2 != .cell||z.2 != .free||y.1 != z.1)&&scope.names.all (fun y=>y.2 != .cell||scope.names.lookup y.1==some .cell))&&scope.names.all (fun y=>y.2 != .free||sc.names.lookup y.1==some .cell||sc.names.lookup y.1==some .free)&&scope.names.all (fun y=>y.2 != .local||scope.names.lookup y.1==some .local)
theorem zBe {scope sc:Scope} (hsc:X.env.scope=sc) (h:blkOk scope sc=true):BlkSc X scope:=by
 unfold blkOk at h;simp only [qCM,qAx,Bool.or_eq_true] at h;obtain ⟨⟨⟨h1,h2,h5⟩,h3⟩,h4⟩:=h;refine ⟨by simpa using h1,fun y hy z hz e1 e2=>?_,fun y hy e=>?_,fun y hy e=>?_,fun y hy e=>?_⟩
 ·rcases h2 y hy z hz with (q| q)| q
  ·rw [e1] at q;simp at q
  ·rw [e2] at q;simp at q
  ·simpa using q
 ·rcases h5 y hy with q| q
  ·rw [e] at q;simp at q
  ·simpa using q
 ·have q:=h3 y hy;show X.env.scope.names.lookup y.1=some .cell\/X.env.scope.names.lookup y.1=some .free;rw [hsc];rcases q with (q| q)| q
  ·rw [e] at q;simp at q
  ·exact .inl (by simpa using q)
  ·exact .inr (by simpa using q)
 ·have q:=h4 y hy;rcases q with q| q
  ·rw [e] at q;simp at q
  ·simpa using q
def Its (z:Str):It:=⟨fun i _=>i<z.cps.size,fun i H x H'=>H'=H/\∃c,z.cps[i]?=some c/\x= .str ⟨#[c]⟩,fun i _=>z.cps.size<=i⟩
theorem turn_str {P:Program} {w:World} {K:PySem.W.Frag} (it:Addr) (z:Str) (t:Tok) (ty:String) (hty:ty= "str_ascii_iterator" \/ty= "str_iterator"):Turn P w K tg (Its z) [it] it (fun i h=>h.IsStrIter it ty z t i) where
 mem:=by simp
 obj:=fun i h st b hb=>by
  have e:b=it:=by simpa using hb
  subst e;obtain ⟨o,e,c,d⟩:=st;exact ⟨o,e,fun v z=>by rw [d] at z;cases z⟩
 keep:=fun i h h' st k=>by
  obtain ⟨o,e,c,d⟩:=st;exact ⟨o,k it (by simp) o e,c,d⟩
 item:=by
  intro X hP hw hK hc i pins s σ H E I hf st hg;subst hP hw hK;obtain ⟨f0,f1,f2,f3,f4,f5⟩:=hf it (by simp);have hlt:i<z.cps.size:=hg;have hx:z.cps[i]?=some z.cps[i]:=by simp [hlt]
  have fin:∀h':Heap,h'.IsStrIter it ty z t (i+1)->Heap.SameBut it s.heap h'->∃u,some (Value.str ⟨#[z.cps[i]]⟩ s.toks)=some u /\
    wpAny (model X.prog X.w) X.A (letOwnedTupleGo tg (.ref it) u) (fun _ s2=>∃x H',Inv X pins σ H' s2/\RelV x u/\(Its z).yld i H x H'/\s2.heap.IsStrIter it ty z t (i+1)/\∀b∈[it],H' b=none) E {s with heap:=h',toks:=s.toks+1}:=fun h' st' sb=>by
   have I1:Inv X pins σ H {s with heap:=h',toks:=s.toks+1}:=I.turned (t':=s.toks+1) (fun b o hb e=>(sb.2 b hb).trans e) f0 f1 f3 f4 f5;obtain ⟨o,e,c,d⟩:=id st';exact ⟨_,rfl,go_of (s:={s with heap:=h',toks:=s.toks+1}) e c d (by rcases hty with rfl| rfl<;>decide) ⟨.str ⟨#[z.cps[i]]⟩,H,I1,⟨_,rfl⟩,⟨rfl,_,hx,rfl⟩,st',fun b hb=>(hf b hb).1⟩⟩
  rcases hty with rfl| rfl
  ·exact wpAny_pyNext_ascii_item st hx fin
  ·exact wpAny_pyNext_wide_item st hx fin
 done:=by
  intro X hP hw hK hc i pins s σ H E I hf st hg;subst hP hw hK;obtain ⟨f0,f1,f2,f3,f4,f5⟩:=hf it (by simp);have hle:z.cps.size<=i:=hg;have hx:z.cps[i]?=none:=by simp [hle]
  have fin:∀h':Heap,Heap.ExtBut it s.heap h'->(none:Option Value)=none/\Inv X pins σ H {s with heap:=h'}:=fun h' eb=>⟨rfl,I.turned (t':=s.toks) (fun b o hb e=>eb b o hb e) f0 f1 f3 f4 f5⟩;rcases hty with rfl| rfl
  ·exact wpAny_pyNext_ascii_end (I.ok.hd hc) st hx fin
  ·exact wpAny_pyNext_wide_end (I.ok.hd hc) st hx fin
 self:=fun _ _ _ _ _ st h=>by
  rcases hty with rfl| rfl
  ·exact wpAny_pyIter_striter_ascii st h
  ·exact wpAny_pyIter_striter_wide st h
def iStr (tl:TE):TI:=fun σ H R=>tl σ H fun x H1=>∃z,x= .str z/\R (Its z) H1
theorem pi_str {l:Expr} {tl:TE} (hl:PE X l tl):PI X tg l (iStr tl):=by
 intro pins s σ H R I h;refine thn (hl pins s σ H _ I h) fun v s1 ⟨x,H1,I1,r1,q1⟩=>?_;obtain ⟨z,e,q⟩:=q1;subst e;obtain ⟨t,rfl⟩:=r1
 have fin:∀(ty:String),(ty= "str_ascii_iterator" \/ty= "str_iterator")->PIE X pins σ tg R (.ref s1.heap.objs.size) {s1 with heap:=s1.heap.push {cls:=.type ty,data:=.fields #[.str z t,.int 0 0]}}:=fun ty hty =>
  ⟨s1.heap.objs.size,[s1.heap.objs.size],_,_,H1,rfl,I1.kept (t':=s1.toks) fun b o e=>qAJ _ e,turn_str _ z t ty hty,⟨_,qAb _ rfl,rfl,rfl⟩,fun b hb=>by
   have e:b=s1.heap.objs.size:=by simpa using hb
   subst e;exact I1.fpOk (qAG _) (I1.hok.fresh (qAG _)),q⟩
 cases ha:z.cps.all (·<128)
 ·exact wpAny_pyIter_wide ha (fin _ (.inr rfl))
 ·exact wpAny_pyIter_ascii ha (fin _ (.inl rfl))
theorem bls_get {bs:List Bool} {its:List Value} (r:Vals (bs.map V.bl) its) {i:Nat} {v:Value} (h:its[i]?=some v):v= .bool (bs.getD i false)/\i<bs.length:=by
 have hl:=r.length;rw [qAE] at hl;have hi:i<its.length:=(qAd.mp h).1;have hb:i<bs.length:=by lia
 have e:(bs.map V.bl)[i]?=some (V.bl bs[i]):=by simp [hb]
 obtain ⟨u,hu,ru⟩:=r.get e;rw [h] at hu
 cases hu
 refine ⟨?_,hb⟩;have:v= .bool bs[i]:=ru;rw [this,qA0];simp [hb]
theorem all_range (bs:List Bool):(List.range bs.length).all (fun i=>bs.getD i false)=bs.all id:=by
 rw [qBa];simp only [qAx,qA9];constructor
 ·intro h x hx;obtain ⟨i,hi,rfl⟩:=qA4.mp hx;have:=h i hi;simpa [qA0,hi] using this
 ·intro h i hi;have:=h bs[i] (qBr hi);simpa [qA0,hi] using this
theorem any_range (bs:List Bool):(List.range bs.length).any (fun i=>bs.getD i false)=bs.any id:=by
 rw [qBa];simp only [qCd,qA9];constructor
 ·rintro ⟨i,hi,h⟩;exact ⟨bs[i],qBr hi,by simpa [qA0,hi] using h⟩
 ·rintro ⟨x,hx,h⟩;obtain ⟨i,hi,rfl⟩:=qA4.mp hx;exact ⟨i,hi,by simpa [qA0,hi] using h⟩
theorem zFj (X:Cx) (hc:X.calm=true):zC5 X (.builtin "all") (fun xs H Q=>∃(p:Addr) (bs:List Bool),xs=[.ref p]/\SqL X.K H p (bs.map V.bl)/\Q (.bl (bs.all id)) H):=by
 intro pins s σ H xs us Q I rv h;obtain ⟨p,bs,rfl,hq,q⟩:=h;obtain ⟨u,rfl,ru⟩:=rv.one
 cases ru
 obtain ⟨its,r,pl,hz⟩:=I.list hq;have hl:=r.length;rw [qAE] at hl;refine call_all_walk (qC2 pl.isList ?_);have hp:p<s.heap.objs.size:=by obtain ⟨o,n,e,_⟩:=pl;exact qAL e
 have I1:Inv X pins σ H {s with heap:=s.heap.push {cls:=.type "list_iterator",data:=.fields #[.ref p,.int 0 0]}}:=I.kept (t':=s.toks) fun b o e=>qAJ _ e;refine ⟨s.heap.objs.size,_,_,_,_,_,fun i=>bs.getD i false,rfl,Walks.list (A:=X.A.in1) (show X.A.in1.handled=none from I.ok.hd hc) s.heap.objs.size p (qAZ hp) its.toArray,⟨⟨_,qAb _ rfl,rfl,rfl⟩,pl.isList.at fun o e=>qAJ _ e⟩,?_,fun h' tk hk=>?_⟩
 ·intro i v s' E' Q' hv hq';obtain ⟨rfl,_⟩:=bls_get r (by simpa using hv);exact qBF hq'
 ·have e:(List.range its.toArray.size).all (fun i=>bs.getD i false)=bs.all id:=by
   rw [qAM,<-hl];exact all_range bs
  refine ⟨.bl (bs.all id),H,?_,by rw [e];rfl,q⟩;obtain ⟨f0,f1,f2,f3,f4,f5⟩:=I.fpOk (b:=s.heap.objs.size) (qAG _) (I.hok.fresh (qAG _));exact I1.turned (t':=tk) (fun b o hb e=>hk b o (by simpa using hb) e) f0 f1 f3 f4 f5
theorem call_any (X:Cx) (hc:X.calm=true):zC5 X (.builtin "any") (fun xs H Q=>∃(p:Addr) (bs:List Bool),xs=[.ref p]/\SqL X.K H p (bs.map V.bl)/\Q (.bl (bs.any id)) H):=by
 intro pins s σ H xs us Q I rv h;obtain ⟨p,bs,rfl,hq,q⟩:=h;obtain ⟨u,rfl,ru⟩:=rv.one
 cases ru
 obtain ⟨its,r,pl,hz⟩:=I.list hq;have hl:=r.length;rw [qAE] at hl;refine call_any_walk (qC2 pl.isList ?_);have hp:p<s.heap.objs.size:=by obtain ⟨o,n,e,_⟩:=pl;exact qAL e
 have I1:Inv X pins σ H {s with heap:=s.heap.push {cls:=.type "list_iterator",data:=.fields #[.ref p,.int 0 0]}}:=I.kept (t':=s.toks) fun b o e=>qAJ _ e;refine ⟨s.heap.objs.size,_,_,_,_,_,fun i=>bs.getD i false,rfl,Walks.list (A:=X.A.in1) (show X.A.in1.handled=none from I.ok.hd hc) s.heap.objs.size p (qAZ hp) its.toArray,⟨⟨_,qAb _ rfl,rfl,rfl⟩,pl.isList.at fun o e=>qAJ _ e⟩,?_,fun h' tk hk=>?_⟩
 ·intro i v s' E' Q' hv hq';obtain ⟨rfl,_⟩:=bls_get r (by simpa using hv);exact qBF hq'
 ·have e:(List.range its.toArray.size).any (fun i=>bs.getD i false)=bs.any id:=by
   rw [qAM,<-hl];exact any_range bs
  refine ⟨.bl (bs.any id),H,?_,by rw [e];rfl,q⟩;obtain ⟨f0,f1,f2,f3,f4,f5⟩:=I.fpOk (b:=s.heap.objs.size) (qAG _) (I.hok.fresh (qAG _));exact I1.turned (t':=tk) (fun b o hb e=>hk b o (by simpa using hb) e) f0 f1 f3 f4 f5
theorem zFh :zC5 X (.builtin "isinstance") (fun xs H Q=>∃x n t b,xs=[x,.ty n]/\TyOf X.K H x t/\PySem.W.kitOne X.K t (.type n)=some b/\Q (.bl b) H):=by
 intro pins s σ H xs us Q I rv h;obtain ⟨x,n,t,b,rfl,ty,e,q⟩:=h;obtain ⟨u,c,rfl,rx,rc⟩:=rv.two
 cases (show c=Value.type n from rc)
 exact isinst_ok I rx ty e fun tk=>⟨.bl b,H,I.tok tk,rfl,q⟩
theorem op_le_str :OpR X (compareOp .LtE) (fun x y H Q=>∃i j,x= .str i/\y= .str j/\Q (.bl (!(decide (j.cps.toList<i.cps.toList)))) H):=by
 intro pins s σ H x y v u Q I rx ry h;obtain ⟨i,j,rfl,rfl,q⟩:=h;obtain ⟨t,rfl⟩:=rx;obtain ⟨t',rfl⟩:=ry;exact PySem.P.le_str ⟨.bl _,H,I,rfl,q⟩
inductive Alike (K:PySem.W.Frag) (H:Hp):Nat->V->V->Prop
 | flat {n:Nat} {x:V} (fx:zDd x=true):Alike K H n x x
 | same {n:Nat} {a:Addr}:Alike K H n (.ref a) (.ref a)
 | lists {n:Nat} {a b:Addr} {xs ys:List V} (hx:SqL K H a xs) (hy:SqL K H b ys) (hl:xs.length=ys.length) (he:∀(i:Nat) (x y:V),xs[i]?=some x->ys[i]?=some y->Alike K H n x y):Alike K H (n+1) (.ref a) (.ref b)
 | tups {n:Nat} {a b:Addr} {xs ys:List V} (hx:SqT K H a xs) (hy:SqT K H b ys) (hl:xs.length=ys.length) (he:∀(i:Nat) (x y:V),xs[i]?=some x->ys[i]?=some y->Alike K H n x y):Alike K H (n+1) (.ref a) (.ref b)
theorem eqV_refl {x:V} (h:zDd x=true):eqV x x=true:=by
 cases x<;>simp [eqV]<;>simp [zDd] at h
section
variable {X:Cx} {pins:List (Addr×Obj)} {σ:St} {H:Hp} {s:Shared}
theorem zJd (n:Nat):(List.range n).all (fun _=>true)=true:=by simp
theorem alike_at (I:Inv X pins σ H s) {n:Nat} {x y:V} (h:Alike X.K H n x y):∀{u v:Value} {A:Around},RelV x u->RelV y v->A.units+n<cLine->SeqAt.EqAt A s u v true:=by
 induction h with
 | flat fx =>
  intro u v A ru rv _;have q:=eqAt_V (A:=A) (s:=s) ru rv fx fx
  rwa [eqV_refl fx] at q
 | same =>
  intro u v A ru rv _
  cases ru
  cases rv
  exact qCZ _
 | @lists n a b xs ys hx hy hl he ih =>
  intro u v A ru rv hu
  cases ru
  cases rv
  by_cases ab:a=b
  ·subst ab;exact qCZ _
  ·obtain ⟨its,r,pl,hz⟩:=I.list hx;obtain ⟨its2,r2,pl2,hz2⟩:=I.list hy;have e1:=r.length;have e2:=r2.length
   have q:=SeqAt.RcAt.lists (A:=A) (s:=s) (e:=fun _=>true) pl.isList pl2.isList (by rw [qAM,qAM];lia) (by lia) (fun j h1 h2=>by
    rw [qAM] at h1 h2;have hjx:xs[j]?=some (xs[j]'(by lia)):=by simp
    have hjy:ys[j]?=some (ys[j]'(by lia)):=by simp
    obtain ⟨u1,q1,ru1⟩:=r.get hjx;obtain ⟨v1,q2,rv1⟩:=r2.get hjy
    have e3:its.toArray[j]=u1:=by
     have:its[j]?=some its[j]:=by simp
     rw [this] at q1;simpa using q1
    have e4:its2.toArray[j]=v1:=by
     have:its2[j]?=some its2[j]:=by simp
     rw [this] at q2;simpa using q2
    rw [e3,e4];exact ih j _ _ hjx hjy ru1 rv1 (by show A.units+1+n<cLine;lia))
   rw [zJd] at q;exact qC9 ab q
 | @tups n a b xs ys hx hy hl he ih =>
  intro u v A ru rv hu
  cases ru
  cases rv
  by_cases ab:a=b
  ·subst ab;exact qCZ _
  ·obtain ⟨its,r,pl,hz⟩:=I.tuple hx;obtain ⟨its2,r2,pl2,hz2⟩:=I.tuple hy;have e1:=r.length;have e2:=r2.length
   have q:=SeqAt.RcAt.tuples (A:=A) (s:=s) (e:=fun _=>true) (show s.heap.IsTuple a its.toArray from pl) (show s.heap.IsTuple b its2.toArray from pl2) (by lia) (fun j h1 h2=>by
    rw [qAM] at h1 h2;have hjx:xs[j]?=some (xs[j]'(by lia)):=by simp
    have hjy:ys[j]?=some (ys[j]'(by lia)):=by simp
    obtain ⟨u1,q1,ru1⟩:=r.get hjx;obtain ⟨v1,q2,rv1⟩:=r2.get hjy
    have e3:its.toArray[j]=u1:=by
     have:its[j]?=some its[j]:=by simp
     rw [this] at q1;simpa using q1
    have e4:its2.toArray[j]=v1:=by
     have:its2[j]?=some its2[j]:=by simp
     rw [this] at q2;simpa using q2
    rw [e3,e4];exact ih j _ _ hjx hjy ru1 rv1 (by show A.units+1+n<cLine;lia))
   rw [zJd,Bool.true_and,qAM,qAM,<-e1,<-e2,hl,beq_self_eq_true] at q;exact qC9 ab q
theorem alike_items (I:Inv X pins σ H s) {n:Nat} {xs ys:List V} {its its2:List Value} {A:Around} (r:Vals xs its) (r2:Vals ys its2) (he:∀(i:Nat) (x y:V),xs[i]?=some x->ys[i]?=some y->Alike X.K H n x y) (hu:A.units+n<cLine) :
  ∀j (h1:j<its.toArray.size) (h2:j<its2.toArray.size),SeqAt.EqAt A s its.toArray[j] its2.toArray[j] true:=fun j h1 h2=>by
 have e1:=r.length;have e2:=r2.length;rw [qAM] at h1 h2;have hjx:xs[j]?=some (xs[j]'(by lia)):=by simp
 have hjy:ys[j]?=some (ys[j]'(by lia)):=by simp
 obtain ⟨u1,q1,ru1⟩:=r.get hjx;obtain ⟨v1,q2,rv1⟩:=r2.get hjy
 have e3:its.toArray[j]=u1:=by
  have:its[j]?=some its[j]:=by simp
  rw [this] at q1;simpa using q1
 have e4:its2.toArray[j]=v1:=by
  have:its2[j]?=some its2[j]:=by simp
  rw [this] at q2;simpa using q2
 rw [e3,e4];exact alike_at I (he j _ _ hjx hjy) ru1 rv1 hu
end
def rAlike (K:PySem.W.Frag) (n:Nat) (b:Bool):R2:=fun x y H Q=>∃a c xs ys,x= .ref a/\y= .ref c/\SqL K H a xs/\SqL K H c ys/\xs.length=ys.length/\(∀(i:Nat) (x y:V),xs[i]?=some x->ys[i]?=some y->Alike K H n x y)/\Q (.bl b) H
def rUnlen (K:PySem.W.Frag) (b:Bool):R2:=fun x y H Q=>∃a c xs ys,x= .ref a/\y= .ref c/\SqL K H a xs/\SqL K H c ys/\xs.length≠ys.length/\Q (.bl b) H
section
variable {X:Cx}
theorem op_neA {n:Nat} (hu:X.A.units+1+n<cLine):OpR X (compareOp .NotEq) (rAlike X.K n false):=by
 intro pins s σ H x y v u Q I rx ry h;obtain ⟨a,c,xs,ys,rfl,rfl,hx,hy,hl,he,q⟩:=h
 cases rx
 cases ry
 obtain ⟨its,r,pl,hz⟩:=I.list hx;obtain ⟨its2,r2,pl2,hz2⟩:=I.list hy;have e1:=r.length;have e2:=r2.length;refine SeqAt.RcNeAt.lists (e:=fun _=>true) pl.isList pl2.isList (by rw [qAM,qAM];lia) (by lia) (alike_items I r r2 he (by show X.A.units+1+n<cLine;lia)) X.prog X.w X.xe _ ?_;rw [zJd];exact ⟨.bl false,H,I,rfl,q⟩
theorem OpR.either {f:Value->Value->Sem Value} {r r':R2} (h:OpR X f r) (h':OpR X f r'):OpR X f (fun x y H Q=>r x y H Q\/r' x y H Q):=by
 intro pins s σ H x y v u Q I rx ry q;rcases q with q| q
 ·exact h pins s σ H x y v u Q I rx ry q
 ·exact h' pins s σ H x y v u Q I rx ry q
end
end L2
namespace SM
open PySem PySem.StrLaws PySem.Builtin PySem.Builtin.Str
end SM
namespace L2
open PySem PySem.Spec PyProof.Rows
variable {M:List Addr}{H H1 H':Hp}{a D:Addr}{σ:St}{g:TG}{te:TE}
structure Cal (P:Program) (w:World) (K:PySem.W.Frag) (mg:Str->Option Value) (base:Heap) (x:Str) (k:Nat) (ps:List Str) (sp:Sp):Prop where
 to:∃(f:Addr) (fd:FuncData),mg x=some (.ref f)/\PySem.W.keepIn K (.ref f)=true/\zDg K fd ps []/\FnOk P w K mg base CX0 k f fd ps sp
theorem zAf {X:Cx} {x:Str} {k:Nat} {ps:List Str} {sp:Sp} {e:Expr} {es:List Expr} {p pos:Pos} {t:TA} (C:Cal X.prog X.w X.K X.mg X.base x k ps sp) (hr:Room k X.A) (hg:Gl X x) (ha:PA X (e::es) t)
  (hdb:(x==("__debug__" : Str))=false:=by decide) (he:starEach (e::es) X.env=(false,eval e X.env)::starEach es X.env:=by rfl) (hpl:(backTo pos (starEach es X.env)).any (·.1)=false:=by rfl) :
  PE X (.Call (.Name x p) (e::es) [] pos) (tCall sp [] E0 t):=by
 obtain ⟨f,fd,h1,h2,h3,h4⟩:=C.to;exact pe_call h4 hr hg h1 h2 h3 .nil pass0 ha hdb he hpl
theorem bo_max:bootBuiltins "max" = some (.builtin "max"):=by decide +kernel
theorem bo_min:bootBuiltins "min" = some (.builtin "min"):=by decide +kernel
theorem bo_all:bootBuiltins "all" = some (.builtin "all"):=by decide +kernel
theorem bo_any:bootBuiltins "any" = some (.builtin "any"):=by decide +kernel
theorem zBu:bootBuiltins "isinstance" = some (.builtin "isinstance"):=by decide +kernel
theorem zBt:bootBuiltins "sorted" = some (.builtin "sorted"):=by decide +kernel
theorem zCo:bootBuiltins "len" = some (.builtin "len"):=by decide +kernel
theorem bo_int:bootBuiltins "int" = some (.type "int"):=by decide +kernel
theorem bo_str:bootBuiltins "str" = some (.type "str"):=by decide +kernel
theorem zC3:bootBuiltins "list" = some (.type "list"):=by decide +kernel
theorem bo_tuple:bootBuiltins "tuple" = some (.type "tuple"):=by decide +kernel
theorem bo_set:bootBuiltins "set" = some (.type "set"):=by decide +kernel
theorem bo_bool:bootBuiltins "bool" = some (.type "bool"):=by decide +kernel
theorem bo_reversed:bootBuiltins "reversed" = some (.type "reversed"):=by decide +kernel
def Fre (H:Hp) (l:Addr):Prop:=H l=none
def Kp (M:List Addr) (H H':Hp):Prop:=∀b o,H b=some o->b∉M->H' b=some o
theorem Kp.refl :Kp M H H:=fun _ _ h _=>h
theorem Kp.trans {H2:Hp} (a:Kp M H H1) (b:Kp M H1 H2):Kp M H H2:=fun c o h n=>b c o (a c o h n) n
theorem Kp.weak {M':List Addr} (k:Kp M H H') (s:∀b,b∈M->b∈M'):Kp M' H H':=fun b o h n=>k b o h fun z=>n (s b z)
theorem Kp.new {M:List Addr} {l:Addr} {o:HO} (k:Kp M H H') (f:Fre H l):Kp M H (upd H' l o):=fun b u h n=>by
 rw [upd_ne (zAp h f)];exact k b u h n
theorem Kp.put {l:Addr} {o:HO} (k:Kp M H H') (f:l∈M):Kp M H (upd H' l o):=fun b u h n=>by
 rw [upd_ne (by intro e;subst e;exact n f)];exact k b u h n
theorem Kp.fre {l:Addr} (k:Kp M H H') (f:Fre H' l) (n:l∉M):Fre H l:=by
 unfold Fre
 cases q:H l with
 | none=>rfl
 | some o =>
  have:=k l o q n;unfold Fre at f;rw [f] at this;cases this
theorem ne_fre {b:Addr} {o:HO} (f:Fre H b) (h:H a=some o):a≠b:=zAp h f
theorem nm1 {b:Addr} (h:a≠b):a∉[b]:=by simpa using h
theorem nm2 {b c:Addr} (h:a≠b) (h':a≠c):a∉[b,c]:=by simp;exact ⟨h,h'⟩
theorem zFk {α:Type} {xs:List α} {i:Int} {v:α} (h0:0<=i) (h:xs[i.toNat]?=some v):atI xs i=some v:=by
 have hl:i.toNat<xs.length:=(qAd.mp h).1;unfold atI ixN;rw [qAC h0,qAC (by lia)];exact h
theorem atI_natc {α:Type} {xs:List α} {n:Nat} {v:α} (h:xs[n]?=some v):atI xs (n:Int)=some v:=zFk (by lia) (by simpa using h)
theorem hu2 {A:Around} {k n:Nat} (hr:Room k A) (h:n<=60:=by decide):A.units+1+n<cLine:=by
 have:=hr.units;lia
theorem hu0 {A:Around} {k:Nat} (hr:Room k A):A.units<cLine:=by
 have:=hr.units;lia
theorem zGn {K:PySem.W.Frag} {t:Value} (h:(t==t)=true:=by rfl):PySem.W.kitOne K t t=some true:=by
 unfold PySem.W.kitOne;rw [qAC h]
theorem if_mid {tb:TS} {D:Ends} {b:Bool} (Mid:St->Hp->Prop) (h1:∀N:St->Hp->Prop,(∀σ H,Mid σ H->N σ H)->if b=true then tb {D with nx:=N} σ H else N σ H) (h2:∀σ H,Mid σ H->D.nx σ H) :
  if b=true then tb D σ H else tNext D σ H:=h1 D.nx h2
theorem zBd {K:PySem.W.Frag} {ix:List (Option Nat)} {tt:TT} {QD:Hp->Prop} (xs:List V) (Pv:Nat->List V->St->Hp->Prop) (h0:Pv 0 [] (zC4 σ ix) (upd H1 D (.lst [])))
  (hl:∀i ys τ H,Pv i ys τ H->SqL K H a xs)
  (hs:∀i x ys τ H,xs[i]?=some x->Pv i ys τ H->g x τ H fun τ' H4=>tt τ' H4 fun b H5=>if b=true then te τ' H5 fun v H6=>H6 D=some (.lst ys)/\ys.length<sizeLine/\Pv (i+1) (ys++[v]) τ' (upd H6 D (.lst (ys++[v]))) else Pv (i+1) ys τ' H5)
  (hd:∀ys τ H,Pv xs.length ys τ H->QD H) :
  ∃W:Nat->Nat->List V->St->Hp->Prop,(∃m,W 0 m [] (zC4 σ ix) (upd H1 D (.lst [])))/\∀i m ys τ H2,W i m ys τ H2 ->
   ((Itl K a).stop i H2/\QD H2)\/((Itl K a).go i H2/\∃N:List V->St->Hp->Prop,(∀ys' τ' H',N ys' τ' H'->∃m',m'<m/\W (i+1) m' ys' τ' H')/\∀x H3,(Itl K a).yld i H2 x H3->g x τ H3 fun τ' H4=>tt τ' H4 fun b H5 =>
    if b=true then te τ' H5 fun v H6=>H6 D=some (.lst ys)/\ys.length<sizeLine/\N (ys++[v]) τ' (upd H6 D (.lst (ys++[v])))
    else N ys τ' H5):=by
 refine comp_by (Q:=fun _ H=>QD H) xs Pv h0 (fun i ys τ H p=>⟨fun x hx=>⟨⟨xs,x,hl i ys τ H p,hx⟩,fun y H' yl=>?_⟩,fun e=>⟨xs,hl i ys τ H p,by lia⟩⟩) hs hd;obtain ⟨e,z⟩:=yl;subst e;have:=z xs (hl i ys τ _ p);rw [hx] at this;exact ⟨rfl,(qAa this).symm⟩
theorem comp_str {z:Str} {ix:List (Option Nat)} {tt:TT} {QD:Hp->Prop} (Pv:Nat->List V->St->Hp->Prop) (h0:Pv 0 [] (zC4 σ ix) (upd H1 D (.lst [])))
  (hs:∀i c ys τ H,z.cps.toList[i]?=some c->Pv i ys τ H->g (.str ⟨#[c]⟩) τ H fun τ' H4=>tt τ' H4 fun b H5=>if b=true then te τ' H5 fun v H6=>H6 D=some (.lst ys)/\ys.length<sizeLine/\Pv (i+1) (ys++[v]) τ' (upd H6 D (.lst (ys++[v]))) else Pv (i+1) ys τ' H5)
  (hd:∀ys τ H,Pv z.length ys τ H->QD H) :
  ∃W:Nat->Nat->List V->St->Hp->Prop,(∃m,W 0 m [] (zC4 σ ix) (upd H1 D (.lst [])))/\∀i m ys τ H2,W i m ys τ H2 ->
   ((Its z).stop i H2/\QD H2)\/((Its z).go i H2/\∃N:List V->St->Hp->Prop,(∀ys' τ' H',N ys' τ' H'->∃m',m'<m/\W (i+1) m' ys' τ' H')/\∀x H3,(Its z).yld i H2 x H3->g x τ H3 fun τ' H4=>tt τ' H4 fun b H5 =>
    if b=true then te τ' H5 fun v H6=>H6 D=some (.lst ys)/\ys.length<sizeLine/\N (ys++[v]) τ' (upd H6 D (.lst (ys++[v])))
    else N ys τ' H5):=by
 refine ⟨fun i m ys τ H=>m=z.length - i/\i<=z.length/\Pv i ys τ H,⟨z.length,by simp,qAY _,h0⟩,?_⟩;rintro i m ys τ H ⟨rfl,hi,p⟩
 by_cases hlt:i<z.length
 ·refine .inr ⟨hlt,Pv (i+1),fun ys' τ' H' p'=>⟨z.length - (i+1),by lia,rfl,hlt,p'⟩,fun y H' yd=>?_⟩;obtain ⟨e1,c,e2,e3⟩:=yd;subst e1 e3;exact hs i c ys τ _ (by simpa using e2) p
 ·have e:i=z.length:=by lia
  subst e;exact .inl ⟨qAG _,hd ys τ H p⟩
theorem zA3 {K:PySem.W.Frag} {ix:List (Option Nat)} {QD:Hp->Prop} (xs:List V) (Pv:Nat->List V->St->Hp->Prop) (h0:Pv 0 [] (zC4 σ ix) (upd H1 D (.lst [])))
  (hl:∀i ys τ H,Pv i ys τ H->SqL K H a xs)
  (hs:∀i x ys τ H,xs[i]?=some x->Pv i ys τ H->g x τ H fun τ' H4=>te τ' H4 fun v H6=>H6 D=some (.lst ys)/\ys.length<sizeLine/\Pv (i+1) (ys++[v]) τ' (upd H6 D (.lst (ys++[v]))))
  (hd:∀ys τ H,Pv xs.length ys τ H->QD H) :
  ∃W:Nat->Nat->List V->St->Hp->Prop,(∃m,W 0 m [] (zC4 σ ix) (upd H1 D (.lst [])))/\∀i m ys τ H2,W i m ys τ H2 ->
   ((Itl K a).stop i H2/\QD H2)\/((Itl K a).go i H2/\∃N:List V->St->Hp->Prop,(∀ys' τ' H',N ys' τ' H'->∃m',m'<m/\W (i+1) m' ys' τ' H')/\∀x H3,(Itl K a).yld i H2 x H3->g x τ H3 fun τ' H4=>tTrue τ' H4 fun b H5 =>
    if b=true then te τ' H5 fun v H6=>H6 D=some (.lst ys)/\ys.length<sizeLine/\N (ys++[v]) τ' (upd H6 D (.lst (ys++[v])))
    else N ys τ' H5):=zBd (tt:=tTrue) xs Pv h0 hl hs hd
theorem comp_str0 {z:Str} {ix:List (Option Nat)} {QD:Hp->Prop} (Pv:Nat->List V->St->Hp->Prop) (h0:Pv 0 [] (zC4 σ ix) (upd H1 D (.lst [])))
  (hs:∀i c ys τ H,z.cps.toList[i]?=some c->Pv i ys τ H->g (.str ⟨#[c]⟩) τ H fun τ' H4=>te τ' H4 fun v H6=>H6 D=some (.lst ys)/\ys.length<sizeLine/\Pv (i+1) (ys++[v]) τ' (upd H6 D (.lst (ys++[v]))))
  (hd:∀ys τ H,Pv z.length ys τ H->QD H) :
  ∃W:Nat->Nat->List V->St->Hp->Prop,(∃m,W 0 m [] (zC4 σ ix) (upd H1 D (.lst [])))/\∀i m ys τ H2,W i m ys τ H2 ->
   ((Its z).stop i H2/\QD H2)\/((Its z).go i H2/\∃N:List V->St->Hp->Prop,(∀ys' τ' H',N ys' τ' H'->∃m',m'<m/\W (i+1) m' ys' τ' H')/\∀x H3,(Its z).yld i H2 x H3->g x τ H3 fun τ' H4=>tTrue τ' H4 fun b H5 =>
    if b=true then te τ' H5 fun v H6=>H6 D=some (.lst ys)/\ys.length<sizeLine/\N (ys++[v]) τ' (upd H6 D (.lst (ys++[v])))
    else N ys τ' H5):=comp_str (tt:=tTrue) Pv h0 hs hd
section
variable {X:Cx} {K:PySem.W.Frag}
theorem zGo (hK:X.K=K:=by rfl):IxR X (rIxL K):=by subst hK;exact zB9
theorem ix_tupK (hK:X.K=K:=by rfl):IxR X (rIxT K):=by subst hK;exact ix_tup
theorem zFg (hK:X.K=K:=by rfl):zC5 X (.builtin "len") (fun xs H Q=>∃p ys,xs=[.ref p]/\(SqL K H p ys\/SqT K H p ys)/\Q (.int ys.length) H):=by subst hK;exact zAl
theorem zE4 (hK:X.K=K:=by rfl):OpR X (compareOp .NotIn) (rIn K true):=by subst hK;exact zF4
end
theorem Kp.drop {H2:Hp} {p:Addr} (k1:Kp [] H H1) (f:Fre H p) (k2:Kp [p] H1 H2):Kp [] H H2:=fun b o h _=>k2 b o (k1 b o h (by simp)) (nm1 (ne_fre f h))
end L2
namespace Tim
open PySem PyProof.Rows
variable {i:Nat}{st:SortSt}
def gal:Bool->Keyed->Array Keyed->Nat->Nat->Nat->StateT SortSt Sem (Option Nat):=sortPriv% PySem.Builtin.gallop
def mLo:Array Keyed->Array Keyed->StateT SortSt Sem (Array Keyed):=sortPriv% PySem.Builtin.mergeLo
def mHi:Array Keyed->Array Keyed->StateT SortSt Sem (Array Keyed):=sortPriv% PySem.Builtin.mergeHi
def kk (κ:KeyKind) (p:Keyed):κ.α:=(κ.keyOf p.1).getD κ.dflt
def Has (κ:KeyKind) (p:Keyed):Prop:=∃a,κ.keyOf p.1=some a
theorem Has.key {κ:KeyKind} {p:Keyed} (h:Has κ p):κ.keyOf p.1=some (kk κ p):=by
 obtain ⟨a,e⟩:=h;unfold kk;rw [e];rfl
theorem KK_at {κ:KeyKind} {xs:Array Keyed} {p:Keyed} (h:xs[i]?=some p):KK κ xs i=kk κ p:=by
 unfold KK kk;rw [h]
def CmpOk (prog:Program) (w:World) (A:Around) (s:Shared) (kd:SortKind) (κ:KeyKind):Prop :=
 ∀(E:Value->Shared->Prop) (x y:Value) (a b:κ.α) (Q:Bool->Shared->Prop),κ.keyOf x=some a->κ.keyOf y=some b->Q (κ.blt a b) s->wpAny (model prog w) A (keyLt' kd x y) Q E s
section
variable {prog:Program} {w:World} {A:Around} {E:Value->Shared->Prop} {s:Shared} {kd:SortKind} {κ:KeyKind}
theorem w_lt {x y:Keyed} {Q:Option Bool->SortSt->Prop} (C:CmpOk prog w A s kd κ) (hk:kindOf st=kd) (hx:Has κ x) (hy:Has κ y) (h:Q (some (κ.blt (kk κ x) (kk κ y))) st):wpS (model prog w) A E s (lt' x y) Q st:=by
 rw [lt'_eq];refine qAF (qBP ?_);rw [hk];exact qAF (qBs (qB7 (C _ x.1 y.1 _ _ _ hx.key hy.key ⟨rfl,qAI h⟩)))
theorem zA9 {arr:Array Keyed} {p:Keyed} {Q:Keyed->SortSt->Prop} (e:arr[i]?=some p) (h:Q p st):wpS (model prog w) A E s (elem' arr i) Q st:=by
 rw [elem'_eq,e];exact qAI h
theorem w_ltAt {j:Nat} {Q:Option Bool->SortSt->Prop} (C:CmpOk prog w A s kd κ) (hk:kindOf st=kd) (hi:∃p,(arrOf st)[i]?=some p/\Has κ p) (hj:∃p,(arrOf st)[j]?=some p/\Has κ p)
  (h:Q (some (κ.blt (KK κ (arrOf st) i) (KK κ (arrOf st) j))) st):wpS (model prog w) A E s (ltAt' i j) Q st:=by
 obtain ⟨p,e1,h1⟩:=hi;obtain ⟨q,e2,h2⟩:=hj;rw [KK_at e1,KK_at e2] at h;rw [ltAt'_eq];exact qAF (qBP (qAF (zA9 e1 (qAF (zA9 e2 (w_lt C hk h1 h2 h))))))
def byd (left:Bool) (key:Keyed) (arr:Array Keyed) (base i:Nat):StateT SortSt Sem (Option Bool):=do
 let x<-elem' arr (base+i)
 if left=true then lt' x key else (do let r<-lt' key x;pure (r.map fun b=>!b))
theorem w_byd {left:Bool} {key:Keyed} {arr:Array Keyed} {base:Nat} {Q:Option Bool->SortSt->Prop} (C:CmpOk prog w A s kd κ) (hk:kindOf st=kd) (hkey:Has κ key) (hi:∃p,arr[base+i]?=some p/\Has κ p)
  (h:Q (some (if left=true then κ.blt (KK κ arr (base+i)) (kk κ key) else !κ.blt (kk κ key) (KK κ arr (base+i)))) st):wpS (model prog w) A E s (byd left key arr base i) Q st:=by
 obtain ⟨p,e,hp⟩:=hi;rw [KK_at e] at h;refine qAF (zA9 e ?_)
 cases left with
 | true=>exact w_lt C hk hp hkey h
 | false=>exact qAF (w_lt C hk hkey hp (qAI h))
end
end Tim
namespace ST
open PySem PySem.SetTable
variable {xs:Array Nat}{i j mask N:Nat}{α:Type}{hs:List Int}{b:Addr}
abbrev Rise (l:List Nat):Prop:=l.Pairwise (·<·)
theorem zD2 (hr:Rise xs.toList) {k:Nat} {x y:Nat} (hik:i<k) (ex:xs[i]?=some x) (ey:xs[k]?=some y):x<y:=by
 rw [<-qAo] at ex ey;obtain ⟨hi,rfl⟩:=qAd.mp ex;obtain ⟨hk,rfl⟩:=qAd.mp ey;exact List.pairwise_iff_getElem.mp hr i k hi hk hik
structure Bel (xs:Array Nat) (j r:Nat):Prop where
 le:r<=xs.size
 lo:∀i x,i<r->xs[i]?=some x->x<j
 hi:∀i x,r<=i->xs[i]?=some x->j<=x
theorem zJc (hr:Rise xs.toList) :∀(fuel lo hi:Nat),hi - lo<=fuel->lo<=hi->hi<=xs.size->(∀i x,i<lo->xs[i]?=some x->x<j)->(∀i x,hi<=i->xs[i]?=some x->j<=x)->Bel xs j (below.go xs j fuel lo hi)
 | 0,lo,hi,h1,h2,h3,h4,h5=>by
  have e:lo=hi:=by lia
  subst e;exact ⟨h3,h4,h5⟩
 | fuel+1,lo,hi,h1,h2,h3,h4,h5=>by
  unfold below.go
  by_cases c:lo<hi
  ·rw [qAC c];have hm:(lo+hi) / 2<xs.size:=by lia
   have em:xs[(lo+hi) / 2]?=some xs[(lo+hi) / 2]:=by simp
   have eD:xs.getD ((lo+hi) / 2) j=xs[(lo+hi) / 2]:=by simp [Array.getD,hm]
   show Bel xs j (if xs.getD ((lo+hi) / 2) j<j then _ else _);rw [eD]
   by_cases d:xs[(lo+hi) / 2]<j
   ·rw [qAC d];refine zJc hr fuel _ hi (by lia) (by lia) h3 (fun i x hi' ex=>?_) h5
    by_cases q:i=(lo+hi) / 2
    ·subst q;rw [em] at ex;cases ex;exact d
    ·have:=zD2 hr (show i<(lo+hi) / 2 by lia) ex em;lia
   ·rw [qAB d];refine zJc hr fuel lo _ (by lia) (by lia) (by lia) h4 (fun i x hi' ex=>?_)
    by_cases q:i=(lo+hi) / 2
    ·subst q;rw [em] at ex;cases ex;lia
    ·have:=zD2 hr (show (lo+hi) / 2<i by lia) em ex;lia
  ·rw [qAB c];have e:lo=hi:=by lia
   subst e;exact ⟨h3,h4,h5⟩
theorem zD8 (hr:Rise xs.toList) (j:Nat):Bel xs j (below xs j) :=
 zJc hr xs.size 0 xs.size (by lia) (by lia) (qAG _) (fun i x h=>by lia) (fun i x h e=>by
  have:=(qBg.mp e).1;lia)
theorem Bel.at (hr:Rise xs.toList) {r:Nat} (B:Bel xs j r) (e:xs[i]?=some j):r=i:=by
 rcases Nat.lt_trichotomy r i with z| z| z
 ·have hi:i<xs.size:=(qBg.mp e).1;have er:xs[r]?=some (xs[r]'(by lia)):=by simp
  have h1:=B.hi r _ (qAG _) er;have h2:=zD2 hr z er e;lia
 ·exact z
 ·have:=B.lo i j z e;lia
def Tb (mask:Nat):SetTable:={mask:=mask,place:=#[],dummies:=#[],finger:=0,led:=false,moves:=0,plain:=false}
def pr (mask:Nat) (h:Int):Nat->Probe
 | 0=>(Tb mask).probeStart h
 | n+1=>(Tb mask).advance (pr mask h n)
def rs (mask:Nat) (h:Int):Nat->Nat×Nat
 | 0=>(bits h % (mask+1),bits h)
 | r+1=>leap mask (rs mask h r).1 (rs mask h r).2
def stt (mask:Nat) (h:Int):Nat->Nat
 | 0=>0
 | r+1=>stt mask h r+(runEnd mask (rs mask h r).1 - (rs mask h r).1+1)
theorem rs_le (mask:Nat) (h:Int):∀r,(rs mask h r).1<=mask
 | 0=>Nat.le_of_lt_succ (Nat.mod_lt _ (Nat.succ_pos _))
 | r+1=>Nat.le_of_lt_succ (Nat.mod_lt _ (Nat.succ_pos _))
theorem run_le (mask i:Nat) (hi:i<=mask):i<=runEnd mask i/\runEnd mask i<=mask/\runEnd mask i - i<=9:=by
 unfold runEnd;split<;>lia
theorem stt_le (mask:Nat) (h:Int):∀r,stt mask h r<=10*r
 | 0=>qAG _
 | r+1=>by
  have h1:=stt_le mask h r;have h2:=(run_le mask _ (rs_le mask h r)).2.2;show stt mask h r+(runEnd mask (rs mask h r).1 - (rs mask h r).1+1)<=_;lia
theorem adv_more (mask:Nat) (p:Probe) (h:p.more>0):(Tb mask).advance p={p with j:=p.j+1,more:=p.more - 1}:=by
 unfold advance;rw [qAC h]
theorem adv_leap (mask:Nat) (p:Probe) (h:p.more=0):(Tb mask).advance p={p with j:=(leap mask p.i p.perturb).1,more:=runEnd mask (leap mask p.i p.perturb).1 - (leap mask p.i p.perturb).1,i:=(leap mask p.i p.perturb).1,perturb:=(leap mask p.i p.perturb).2}:=by
 unfold advance;rw [qAB (by lia)];rfl
theorem zE3 (mask:Nat) (h:Int):∀(r k:Nat),k<=runEnd mask (rs mask h r).1 - (rs mask h r).1 ->
  pr mask h (stt mask h r+k)={j:=(rs mask h r).1+k,more:=runEnd mask (rs mask h r).1 - (rs mask h r).1 - k,i:=(rs mask h r).1,perturb:=(rs mask h r).2,dummy:=none}
 | 0,0,_=>rfl
 | r+1,0,_=>by
  have ih:=zE3 mask h r (runEnd mask (rs mask h r).1 - (rs mask h r).1) (qAG _);show pr mask h (stt mask h r+(runEnd mask (rs mask h r).1 - (rs mask h r).1)+1)=_;show (Tb mask).advance (pr mask h (stt mask h r+(runEnd mask (rs mask h r).1 - (rs mask h r).1)))=_;rw [ih,adv_leap _ _ (by simp)];rfl
 | r,k+1,hk=>by
  have ih:=zE3 mask h r k (by lia);show (Tb mask).advance (pr mask h (stt mask h r+k))=_;rw [ih,adv_more _ _ (by show _ - k>0;lia)];simp only [Probe.mk.injEq];exact ⟨by lia,by lia,trivial,trivial,trivial⟩
theorem pr_at (mask:Nat) (h:Int) (n:Nat):∃r k,n=stt mask h r+k/\k<=runEnd mask (rs mask h r).1 - (rs mask h r).1:=by
 induction n with
 | zero=>exact ⟨0,0,rfl,qAY _⟩
 | succ n ih =>
  obtain ⟨r,k,e,hk⟩:=ih
  by_cases c:k<runEnd mask (rs mask h r).1 - (rs mask h r).1
  ·exact ⟨r,k+1,by lia,c⟩
  ·refine ⟨r+1,0,?_,qAY _⟩;show n+1=stt mask h r+(runEnd mask (rs mask h r).1 - (rs mask h r).1+1)+0;lia
theorem pr_le (mask:Nat) (h:Int) (n:Nat):(pr mask h n).j<=mask:=by
 obtain ⟨r,k,e,hk⟩:=pr_at mask h n;rw [e,zE3 mask h r k hk];have:=run_le mask _ (rs_le mask h r);show (rs mask h r).1+k<=mask;lia
theorem pr_dummy (mask:Nat) (h:Int) (n:Nat):(pr mask h n).dummy=none:=by
 obtain ⟨r,k,e,hk⟩:=pr_at mask h n;rw [e,zE3 mask h r k hk]
theorem bits_lt (h:Int):bits h<2^64:=by
 unfold bits;have h1:=qCQ h (show (2^64:Int)≠0 by decide);have h2:=qCR h (show (0:Int)<2^64 by decide);lia
theorem rs_pert (mask:Nat) (h:Int):∀r,(rs mask h r).2=bits h / 32^r
 | 0=>by simp [rs]
 | r+1=>by
  show (rs mask h r).2 / 32=_;rw [rs_pert mask h r,Nat.div_div_eq_div_mul,Nat.pow_succ]
theorem rs_pert0 (mask:Nat) (h:Int) (r:Nat) (hr:13<=r):(rs mask h r).2=0:=by
 rw [rs_pert];have h1:=bits_lt h;have h2:32^13<=32^r:=qCe (by decide) hr;have h3:(2:Nat)^64<32^13:=by decide
 exact Nat.div_eq_of_lt (by lia)
def f5 (mask i:Nat):Nat:=(i*5+1) % (mask+1)
def it5 (mask:Nat):Nat->Nat->Nat
 | 0,i=>i
 | n+1,i=>it5 mask n (f5 mask i)
theorem zHl (mask:Nat):∀(a b i:Nat),it5 mask (a+b) i=it5 mask b (it5 mask a i)
 | 0,b,i=>by rw [qDA];rfl
 | a+1,b,i=>by
  rw [show a+1+b=(a+b)+1 by lia];show it5 mask (a+b) (f5 mask i)=it5 mask b (it5 mask a (f5 mask i));exact zHl mask a b _
theorem rs_it5 (mask:Nat) (h:Int) (n:Nat):(rs mask h (13+n)).1=it5 mask n (rs mask h 13).1:=by
 induction n with
 | zero=>rfl
 | succ n ih =>
  show (leap mask (rs mask h (13+n)).1 (rs mask h (13+n)).2).1=_;rw [rs_pert0 mask h (13+n) (by lia),ih,show n+1=n+1 from rfl,zHl mask n 1];show ((it5 mask n _)*5+1+0 / 32) % (mask+1)=f5 mask (it5 mask n _);unfold f5;simp
def Msk (mask:Nat):Prop:=mask=7\/mask=31\/mask=127\/mask=511
def orb (mask:Nat):Nat->Nat->List Nat
 | 0,_=>[]
 | n+1,i=>i::orb mask n (f5 mask i)
theorem orb_mem (mask:Nat):∀(n i s:Nat),s∈orb mask n i->∃a,a<n/\it5 mask a i=s
 | 0,i,s,h=>by simp [orb] at h
 | n+1,i,s,h=>by
  rcases qAN.mp h with z| z
  ·exact ⟨0,by lia,z.symm⟩
  ·obtain ⟨a,ha,e⟩:=orb_mem mask n (f5 mask i) s z;exact ⟨a+1,by lia,e⟩
theorem orb_all (hm:Msk mask):(List.range (mask+1)).all (fun s=>(orb mask (mask+1) 0).contains s)=true/\it5 mask (mask+1) 0=0:=by
 rcases hm with rfl| rfl| rfl| rfl
 ·exact ⟨by decide +kernel,by decide +kernel⟩
 ·exact ⟨by decide +kernel,by decide +kernel⟩
 ·exact ⟨by decide +kernel,by decide +kernel⟩
 ·exact ⟨by decide +kernel,by decide +kernel⟩
theorem cyc (hm:Msk mask) (i s:Nat) (hi:i<=mask) (hs:s<=mask):∃r,r<=mask/\it5 mask r i=s:=by
 obtain ⟨h1,h2⟩:=orb_all hm
 have get:∀x,x<=mask->∃a,a<mask+1/\it5 mask a 0=x:=fun x hx=>by
  have:=qAx.mp h1 x (qA9.mpr (by lia));exact orb_mem mask (mask+1) 0 x (by simpa using this)
 obtain ⟨a,ha,ea⟩:=get i hi;obtain ⟨b,hb,eb⟩:=get s hs
 by_cases c:a<=b
 ·refine ⟨b - a,by lia,?_⟩;rw [<-ea,<-zHl,show a+(b - a)=b by lia,eb]
 ·refine ⟨mask+1 - a+b,by lia,?_⟩;rw [<-ea,<-zHl,show a+(mask+1 - a+b)=mask+1+b by lia,zHl,h2,eb]
theorem pr_all (hm:Msk mask) (h:Int) (s:Nat) (hs:s<=mask):∃r,r<=13+mask/\(rs mask h r).1=s:=by
 obtain ⟨r,hr,e⟩:=cyc hm (rs mask h 13).1 s (rs_le mask h 13) hs;exact ⟨13+r,by lia,by rw [rs_it5,e]⟩
theorem free_slot {L:List Nat} (hL:L.length<=mask):∃s,s<=mask/\s∉L:=by
 apply qBQ;intro h
 have sub:∀s,s∈List.range (mask+1)->s∈L:=fun s hs=>by
  apply qBQ;intro q;exact h ⟨s,by have:=qA9.mp hs;lia,q⟩
 have:=(List.nodup_range (n:=mask+1)).length_le_of_subset sub;rw [List.length_range] at this;lia
theorem pr_free (hm:Msk mask) (h:Int) {L:List Nat} (hL:L.length<=mask):∃n,n<10*turns mask/\(pr mask h n).j∉L:=by
 obtain ⟨s,hs,q⟩:=free_slot hL;obtain ⟨r,hr,e⟩:=pr_all hm h s hs;refine ⟨stt mask h r,?_,?_⟩
 ·have:=stt_le mask h r;unfold turns;lia
 ·have:=zE3 mask h r 0 (qAY _);rw [qDB] at this;rw [this];show (rs mask h r).1+0∉L;rw [qDB,e];exact q
theorem zIl (hm:Msk mask) (h:Int) {L:List Nat} (hL:L.length<=mask):∃n,n<10*turns mask/\(pr mask h n).j∉L/\∀m,m<n->(pr mask h m).j∈L:=by
 obtain ⟨n,hn,q⟩:=pr_free hm h hL
 induction n using Nat.strongRecOn with
 | _ n ih =>
  by_cases c:∃m,m<n/\(pr mask h m).j∉L
  ·obtain ⟨m,hm',qm⟩:=c;exact ih m hm' (by lia) qm
  ·refine ⟨n,hn,q,fun m hmn=>?_⟩;apply qBQ;intro z;exact c ⟨m,hmn,z⟩
structure TOk (t:SetTable) (hs:List Int):Prop where
 m:Msk t.mask
 d:t.dummies=#[]
 r:Rise t.place.toList
 l:∀j∈t.place.toList,j<=t.mask
 n:t.place.size=hs.length
 f:t.place.size<=t.mask
 reach:∀(i j:Nat) (h:Int),t.place[i]?=some j->hs[i]?=some h->∃n,(pr t.mask h n).j=j/\∀m,m<n->(pr t.mask h m).j∈t.place.toList
theorem fresh_ok (fi mo:Nat) (led:Bool):TOk (SetTable.fresh fi mo led) [] :=
 ⟨.inl rfl,rfl,List.Pairwise.nil,(fun j h=>absurd (show j∈([]:List Nat) from h) (by simp)),rfl,qAY _,(fun i j h _ e=>by simp at e)⟩
theorem has_nil (j:Nat):has #[] j=false:=by
 unfold SetTable.has;simp
section
variable {t:SetTable} {hs:List Int}
theorem slot_live (T:TOk t hs) (e:t.place[i]?=some j):t.slot j= .live i:=by
 have b:=(zD8 T.r j).at T.r e;unfold slot;rw [b];show (if (t.place[i]?==some j)=true then _ else _)=_;rw [e];simp
theorem slot_empty (T:TOk t hs) (h:j∉t.place.toList):t.slot j= .empty:=by
 unfold slot
 have e:(t.place[below t.place j]?==some j)=false:=by
  rw [qA8];intro z;exact h (qAO (i:=below t.place j) (by rw [qAo];exact z))
 simp only [e,T.d,has_nil];simp
theorem mem_at (h:j∈xs.toList):∃i:Nat,xs[i]?=some j:=by
 obtain ⟨i,hi,e⟩:=qA4.mp h;exact ⟨i,by rw [<-qAo];exact qAd.mpr ⟨hi,e⟩⟩
def Oth (t:SetTable) (hashAt:Nat->Int) (h:Int) (m:Nat):Prop:=∃i:Nat,t.place[i]?=some (pr t.mask h m).j/\hashAt i≠h
theorem adv_pr (t:SetTable) (h:Int) (n:Nat):t.advance (pr t.mask h n)=pr t.mask h (n+1):=rfl
theorem go_ok (T:TOk t hs) (hashAt:Nat->Int) (h:Int) (hN:(pr t.mask h N).j∉t.place.toList) (hb:∀m,m<N->(pr t.mask h m).j∈t.place.toList):∀(d n fuel:Nat),N=n+d->d<fuel ->
  (probe.go t hashAt h fuel (pr t.mask h n)=some (.empty (pr t.mask h N).j none)/\∀m,n<=m->m<N->Oth t hashAt h m) \/
  ∃m i,n<=m/\m<N/\t.place[i]?=some (pr t.mask h m).j/\hashAt i=h/\probe.go t hashAt h fuel (pr t.mask h n)=some (.candidate (pr t.mask h m).j i (pr t.mask h (m+1)))/\∀m',n<=m'->m'<m->Oth t hashAt h m'
 | 0,n,fuel+1,e,_=>by
  have e:N=n:=by lia
  subst e;left;refine ⟨?_,fun m h1 h2=>by lia⟩;unfold probe.go;rw [slot_empty T hN];show some (Met.empty _ (pr t.mask h N).dummy)=_;rw [pr_dummy]
 | d+1,n,fuel+1,e,hf=>by
  obtain ⟨i,ei⟩:=mem_at (hb n (by lia));unfold probe.go;rw [slot_live T ei]
  by_cases c:hashAt i=h
  ·right;refine ⟨n,i,qAG _,by lia,ei,c,?_,fun m' h1 h2=>by lia⟩;show (if (hashAt i==h)=true then _ else _)=_;rw [qAC (by simpa using c),adv_pr]
  ·have q:(if (hashAt i==h)=true then some (Met.candidate (pr t.mask h n).j i (t.advance (pr t.mask h n))) else probe.go t hashAt h fuel (t.advance (pr t.mask h n)))=probe.go t hashAt h fuel (pr t.mask h (n+1)):=by
    rw [qAB (by simpa using c),adv_pr]
   rcases go_ok T hashAt h hN hb d (n+1) fuel (by lia) (by lia) with ⟨z1,z2⟩| ⟨m,i',z1,z2,z3,z4,z5,z6⟩
   ·left;refine ⟨q.trans z1,fun m h1 h2=>?_⟩
    by_cases cm:m=n
    ·subst cm;exact ⟨i,ei,c⟩
    ·exact z2 m (by lia) h2
   ·right;refine ⟨m,i',by lia,z2,z3,z4,q.trans z5,fun m' h1 h2=>?_⟩
    by_cases cm:m'=n
    ·subst cm;exact ⟨i,ei,c⟩
    ·exact z6 m' (by lia) h2
 | _,_,0,_,h=>by lia
theorem zI7 (xs:Array α) (p:Nat) (x:α) (hp:p<=xs.size):(insertAt xs p x).toList=xs.toList.take p++x::xs.toList.drop p:=by
 unfold insertAt;rw [qDC,qCf,qB8,qB8,List.extract_eq_drop_take,List.extract_eq_drop_take];rw [qBh (l:=xs.toList.drop p) (by simp)];simp
theorem ins_rise (hr:Rise xs.toList) (hj:j∉xs.toList):Rise (insertAt xs (below xs j) j).toList:=by
 have B:=zD8 hr j;rw [zI7 _ _ _ B.le];refine List.pairwise_append.mpr ⟨hr.sublist (qC4 _ _),qCg.mpr ⟨fun y hy=>?_,hr.sublist (List.drop_sublist _ _)⟩,fun x hx y hy=>?_⟩
 ·obtain ⟨i,hi,rfl⟩:=qA4.mp hy;rw [qBV] at hi
  have e:xs[below xs j+i]?=some (xs.toList.drop (below xs j))[i]:=by
   rw [<-qAo,<-List.getElem?_drop];simp
  have h1:=B.hi _ _ (qBX _ i) e;have h2:(xs.toList.drop (below xs j))[i]≠j:=fun z=>hj (z▸qDf hy);lia
 ·have hxj:x<j:=by
   obtain ⟨i,hi,rfl⟩:=qA4.mp hx;rw [qAe] at hi
   have e:xs[i]?=some (xs.toList.take (below xs j))[i]:=by
    rw [<-qAo,<-qB5 (show i<below xs j by lia)];exact qAh _
   exact B.lo i _ (by lia) e
  rcases qAN.mp hy with z| z
  ·rw [z];exact hxj
  ·obtain ⟨i,hi,rfl⟩:=qA4.mp z;rw [qBV] at hi
   have e:xs[below xs j+i]?=some (xs.toList.drop (below xs j))[i]:=by
    rw [<-qAo,<-List.getElem?_drop];simp
   have h1:=B.hi _ _ (qBX _ i) e;lia
theorem zFv {β:Type} {L:List α} {M:List β} (hl:L.length=M.length) {p:Nat} (hp:p<=L.length) {x:α} {y:β} {u:α} {v:β} (h1:(L.take p++x::L.drop p)[i]?=some u) (h2:(M.take p++y::M.drop p)[i]?=some v) :
  (u=x/\v=y)\/∃i':Nat,L[i']?=some u/\M[i']?=some v:=by
 have l1:(L.take p).length=p:=by rw [qAe];lia
 have l2:(M.take p).length=p:=by rw [qAe];lia
 by_cases c:i<p
 ·rw [qBc (by lia),qB5 c] at h1 h2;exact .inr ⟨i,h1,h2⟩
 ·rw [qBb (by lia)] at h1 h2;rw [l1] at h1;rw [l2] at h2
  cases e:i - p with
  | zero =>
   rw [e] at h1 h2;exact .inl ⟨(by simpa using h1.symm),(by simpa using h2.symm)⟩
  | succ k =>
   rw [e] at h1 h2;rw [qCh,List.getElem?_drop] at h1 h2;exact .inr ⟨p+k,h1,h2⟩
theorem put_ok (T:TOk t hs) (h:Int) (hN:(pr t.mask h N).j∉t.place.toList) (hb:∀m,m<N->(pr t.mask h m).j∈t.place.toList) (hf:t.place.size+1<=t.mask) :
  TOk (t.put (pr t.mask h N).j).1 (hs.take (t.put (pr t.mask h N).j).2++h::hs.drop (t.put (pr t.mask h N).j).2):=by
 have B:=zD8 T.r (pr t.mask h N).j;have ep:(t.put (pr t.mask h N).j).2=below t.place (pr t.mask h N).j:=rfl;have el:(t.put (pr t.mask h N).j).1.place=insertAt t.place (below t.place (pr t.mask h N).j) (pr t.mask h N).j:=rfl;have em:(t.put (pr t.mask h N).j).1.mask=t.mask:=rfl;have tl:=zI7 t.place (below t.place (pr t.mask h N).j) (pr t.mask h N).j B.le
 have mem:∀j,j∈t.place.toList->j∈(insertAt t.place (below t.place (pr t.mask h N).j) (pr t.mask h N).j).toList:=fun j hj=>by
  rw [tl];have:j∈t.place.toList.take (below t.place (pr t.mask h N).j)++t.place.toList.drop (below t.place (pr t.mask h N).j):=by rw [qBt];exact hj
  rcases qAU.mp this with z| z
  ·exact qAs _ z
  ·exact qAu _ (qAR _ z)
 have sz:(insertAt t.place (below t.place (pr t.mask h N).j) (pr t.mask h N).j).size=t.place.size+1:=by
  have:=qAf List.length tl;simp only [qBC,qAg,qAc,qAe,qBV] at this;have:=B.le;lia
 refine ⟨T.m,?_,ins_rise T.r hN,fun j hj=>?_,?_,?_,fun i j h' e1 e2=>?_⟩
 ·show (if has t.dummies (pr t.mask h N).j then _ else t.dummies)=#[];rw [T.d,has_nil];rfl
 ·rw [em];rw [el,tl] at hj;rcases qAU.mp hj with z| z
  ·exact T.l j (qBi z)
  ·rcases qAN.mp z with z| z
   ·rw [z];exact pr_le _ _ _
   ·exact T.l j (qDf z)
 ·rw [el,sz,ep,qAg,qAc,qAe,qBV];have:=B.le;have:=T.n;lia
 ·rw [el,sz];exact hf
 ·rw [em];rw [el,<-qAo,tl] at e1;rw [ep] at e2;rw [el];rcases zFv (L:=t.place.toList) (M:=hs) (by simpa using T.n) (by simpa using B.le) e1 e2 with ⟨z1,z2⟩| ⟨i',z1,z2⟩
  ·subst z1 z2;exact ⟨N,rfl,fun m hm=>mem _ (hb m hm)⟩
  ·obtain ⟨n,q1,q2⟩:=T.reach i' j h' (by rw [<-qAo];exact z1) z2;exact ⟨n,q1,fun m hm=>mem _ (q2 m hm)⟩
end
structure Ow (mask:Nat) (hs:List Int) (owner:Array (Option Nat)) (sl:List Nat):Prop where
 z:owner.size=mask+1
 n:sl.length=hs.length
 nd:sl.Nodup
 l:∀j∈sl,j<=mask
 a:∀(k j:Nat),sl[k]?=some j->owner[j]?=some (some k)
 e:∀j,j<=mask->j∉sl->owner[j]?=some none
 reach:∀(k j:Nat) (h:Int),sl[k]?=some j->hs[k]?=some h->∃n,(pr mask h n).j=j/\∀m,m<n->(pr mask h m).j∈sl
theorem zI4 {owner:Array (Option Nat)} {sl:List Nat} (O:Ow mask hs owner sl) (hj:j<=mask):((owner.getD j (some 0)).isNone=true)↔j∉sl:=by
 have hz:j<owner.size:=by rw [O.z];lia
 have eD:owner.getD j (some 0)=owner[j]:=by simp [Array.getD,hz]
 rw [eD];constructor
 ·intro h q;obtain ⟨k,hk,e⟩:=qA4.mp q;have:=O.a k j (qAd.mpr ⟨hk,e⟩);rw [qB9 hz] at this;rw [qAa this] at h;simp at h
 ·intro q;have:=O.e j hj q;rw [qB9 hz] at this;rw [qAa this];rfl
theorem free_go {owner:Array (Option Nat)} {sl:List Nat} (hm:Msk mask) (O:Ow mask hs owner sl) (hl:sl.length<=mask) (h:Int) (hN:(pr mask h N).j∉sl) (hb:∀m,m<N->(pr mask h m).j∈sl) {R:Nat} (hR:(rs mask h R).1∉sl) :
  ∀(fuel r:Nat),stt mask h r<=N->R<r+fuel->layClean.free mask owner fuel (rs mask h r).1 (rs mask h r).2=some (pr mask h N).j
 | 0,r,h1,h2=>by
  exfalso
  have key:∀d,stt mask h R<=stt mask h (R+d)/\(0<d->stt mask h R<stt mask h (R+d)):=by
   intro d
   induction d with
   | zero=>exact ⟨qAG _,fun z=>by lia⟩
   | succ d ih =>
    have e:stt mask h (R+(d+1))=stt mask h (R+d)+(runEnd mask (rs mask h (R+d)).1 - (rs mask h (R+d)).1+1):=rfl;exact ⟨by lia,fun _=>by lia⟩
  obtain ⟨d,rfl⟩:∃d,r=R+d:=⟨r - R,by lia⟩;have hd:0<d:=by lia
  have:=(key d).2 hd;have q:=hb (stt mask h R) (by lia);have e:=zE3 mask h R 0 (qAY _);rw [qDB] at e;rw [e] at q;exact hR (by simpa using q)
 | fuel+1,r,h1,h2=>by
  have rl:=run_le mask _ (rs_le mask h r);unfold layClean.free
  cases q:(List.range (runEnd mask (rs mask h r).1+1 - (rs mask h r).1)).find? fun k=>(owner.getD ((rs mask h r).1+k) (some 0)).isNone with
  | some k =>
   have q1:=List.find?_some q;have q2:=qDg q;rw [qA9] at q2;have q1:((owner.getD ((rs mask h r).1+k) (some 0)).isNone)=true:=q1;rw [zI4 O (by lia)] at q1;have e:=zE3 mask h r k (by lia);have hk:(pr mask h (stt mask h r+k)).j=(rs mask h r).1+k:=by rw [e]
   have c1:¬stt mask h r+k<N:=fun z=>q1 (hk▸hb _ z)
   have c2:¬N<stt mask h r+k:=fun z=>by
    obtain ⟨d,hd⟩:∃d,N=stt mask h r+d:=⟨N - stt mask h r,by lia⟩;have hdk:d<k:=by lia
    rw [List.find?_eq_some_iff_append] at q;obtain ⟨_,as,bs,e1,e2⟩:=q
    have la:as.length=k:=by
     have:=qAf (fun l=>l[as.length]?) e1;simp at this
     by_cases cc:as.length<runEnd mask (rs mask h r).1+1 - (rs mask h r).1
     ·rw [List.getElem?_range cc] at this;exact qAa this
     ·rw [qCi (by simp;lia)] at this
      cases this
    have mem:d∈as:=by
     have hd':(List.range (runEnd mask (rs mask h r).1+1 - (rs mask h r).1))[d]?=some d:=List.getElem?_range (by lia);rw [e1,qBc (by lia)] at hd';exact qAO hd'
    have z1:=e2 d mem;have ed:=zE3 mask h r d (by lia);have hjd:(pr mask h N).j=(rs mask h r).1+d:=by rw [hd,ed]
    have z2:((owner.getD ((rs mask h r).1+d) (some 0)).isNone)=true:=(zI4 O (by lia)).mpr (hjd▸hN);rw [z2] at z1;simp at z1
   have eN:N=stt mask h r+k:=by lia
   show some ((rs mask h r).1+k)=_;rw [eN,hk]
  | none =>
   have q1:=List.find?_eq_none.mp q;refine free_go hm O hl h hN hb hR fuel (r+1) ?_ (by lia);show stt mask h r+(runEnd mask (rs mask h r).1 - (rs mask h r).1+1)<=N;apply qBQ;intro c;obtain ⟨d,hd⟩:∃d,N=stt mask h r+d:=⟨N - stt mask h r,by lia⟩;have ed:=zE3 mask h r d (by lia);have hjd:(pr mask h N).j=(rs mask h r).1+d:=by rw [hd,ed]
   have z1:=q1 d (qA9.mpr (by lia));have z2:((owner.getD ((rs mask h r).1+d) (some 0)).isNone)=true:=(zI4 O (by lia)).mpr (hjd▸hN);exact z1 z2
theorem free_ok {owner:Array (Option Nat)} {sl:List Nat} (hm:Msk mask) (O:Ow mask hs owner sl) (hl:sl.length<=mask) (h:Int) :
  ∃N,(pr mask h N).j∉sl/\(∀m,m<N->(pr mask h m).j∈sl)/\layClean.free mask owner (turns mask) (bits h % (mask+1)) (bits h)=some (pr mask h N).j:=by
 obtain ⟨N,_,hN,hb⟩:=zIl hm h hl;obtain ⟨s,hs',q⟩:=free_slot hl;obtain ⟨R,hR,e⟩:=pr_all hm h s hs';exact ⟨N,hN,hb,free_go hm O hl h hN hb (R:=R) (by rw [e];exact q) (turns mask) 0 (qAY _) (by unfold turns;lia)⟩
theorem Ow.more {owner:Array (Option Nat)} {sl:List Nat} (O:Ow mask hs owner sl) (h:Int) (hN:(pr mask h N).j∉sl) (hb:∀m,m<N->(pr mask h m).j∈sl) :
  Ow mask (hs++[h]) (owner.setIfInBounds (pr mask h N).j (some hs.length)) (sl++[(pr mask h N).j]):=by
 have hj:=pr_le mask h N;have hz:(pr mask h N).j<owner.size:=by rw [O.z];lia
 have one:∀{k j:Nat},(sl++[(pr mask h N).j])[k]?=some j->(k<sl.length/\sl[k]?=some j)\/(k=sl.length/\j=(pr mask h N).j):=fun {k j} e=>by
  by_cases c:k<sl.length
  ·rw [qBc c] at e;exact .inl ⟨c,e⟩
  ·rw [qBb (by lia)] at e
   have hk:k=sl.length:=by
    have:=(qAd.mp e).1;simp at this;lia
   subst hk;exact .inr ⟨rfl,by simpa using e.symm⟩
 refine ⟨by rw [qDh];exact O.z,by simp [O.n],?_,fun j hj'=>?_,fun k j e=>?_,fun j hj1 hj2=>?_,fun k j h' e1 e2=>?_⟩
 ·refine qBj.mpr ⟨O.nd,qAv.mpr ⟨by simp,qAw⟩,fun a ha b hb'=>?_⟩;have:b=(pr mask h N).j:=by simpa using hb'
  subst this;intro z;subst z;exact hN ha
 ·rcases qAU.mp hj' with z| z
  ·exact O.l j z
  ·have:j=(pr mask h N).j:=by simpa using z
   rw [this];exact hj
 ·rcases one e with ⟨_,z⟩| ⟨z1,z2⟩
  ·have hne:j≠(pr mask h N).j:=fun q=>hN (q▸qAO z);rw [Array.getElem?_setIfInBounds_ne (qAr hne)];exact O.a k j z
  ·subst z1 z2;rw [Array.getElem?_setIfInBounds_self_of_lt hz,O.n]
 ·have h1:j∉sl:=fun q=>hj2 (qAs _ q);have h2:j≠(pr mask h N).j:=fun q=>hj2 (qAu _ (by simp [q]));rw [Array.getElem?_setIfInBounds_ne (qAr h2)];exact O.e j hj1 h1
 ·rcases one e1 with ⟨c,z⟩| ⟨z1,z2⟩
  ·rw [qBc (by rw [<-O.n];exact c)] at e2;obtain ⟨n,q1,q2⟩:=O.reach k j h' z e2;exact ⟨n,q1,fun m hm=>qAs _ (q2 m hm)⟩
  ·subst z1 z2;rw [qBb (by rw [O.n];exact qAG _),O.n] at e2;have:h'=h:=by simpa using e2.symm
   subst this;exact ⟨N,rfl,fun m hm=>qAs _ (hb m hm)⟩
theorem lay_ok (hm:Msk mask) (hs:List Int) (hl:hs.length<=mask):∃owner sl,Ow mask hs owner sl/\layClean mask hs.toArray=some owner:=by
 have key:∀(rest done:List Int) (owner:Array (Option Nat)) (sl:List Nat),Ow mask done owner sl->done.length+rest.length<=mask ->
   ∃owner' sl',Ow mask (done++rest) owner' sl'/\rest.foldl (fun (acc:Option (Array (Option Nat)×Nat)) h=>do
    let (owner,k)<-acc
    let j<-layClean.free mask owner (turns mask) (bits h % (mask+1)) (bits h)
    pure (owner.setIfInBounds j (some k),k+1)) (some (owner,done.length))=some (owner',(done++rest).length):=by
  intro rest
  induction rest with
  | nil=>intro done owner sl O _;exact ⟨owner,sl,by rw [qBI];exact O,by rw [qBI];rfl⟩
  | cons h rest ih =>
   intro done owner sl O hl;rw [qAc] at hl;obtain ⟨N,hN,hb,ef⟩:=free_ok hm O (by rw [O.n];lia) h;have O2:=O.more h hN hb;obtain ⟨o',s',O3,e3⟩:=ih (done++[h]) _ _ O2 (by rw [qAg];simp;lia);refine ⟨o',s',by simpa using O3,?_⟩;rw [qBd]
   have e4:(do
    let (owner,k)<-(some (owner,done.length):Option (Array (Option Nat)×Nat))
    let j<-layClean.free mask owner (turns mask) (bits h % (mask+1)) (bits h)
    pure (owner.setIfInBounds j (some k),k+1))=some (owner.setIfInBounds (pr mask h N).j (some done.length),(done++[h]).length):=by
    show (do
     let j<-layClean.free mask owner (turns mask) (bits h % (mask+1)) (bits h)
     pure (owner.setIfInBounds j (some done.length),done.length+1))=_
    rw [ef];simp
   rw [e4,e3];simp
 have O0:Ow mask [] (Array.replicate (mask+1) none) []:=⟨Array.size_replicate,rfl,qAw,(fun j h=>absurd h qCA),(fun k j e=>by rw [List.getElem?_nil] at e;cases e),(fun j hj _=>by rw [Array.getElem?_replicate,qAC (by lia)]),(fun k j h e=>by rw [List.getElem?_nil] at e;cases e)⟩;obtain ⟨o,sl,O,e⟩:=key hs [] _ _ O0 (by simpa using hl);refine ⟨o,sl,by simpa using O,?_⟩;unfold layClean;rw [List.foldl_toArray];have e':=e;simp only [List.nil_append,qBW] at e';show Option.map _ (hs.foldl _ (some (Array.replicate (mask+1) none,0)))=_;rw [e'];rfl
theorem laid_ok (hm:Msk mask) (hs:List Int) (hl:hs.length<=mask) (fi mo:Nat) (led plain:Bool):∃t order,laid mask fi mo led plain hs.toArray=some (t,order)/\t.mask=mask/\t.led=led/\t.plain=plain/\order.toList.Perm (List.range hs.length) /\
  TOk t (order.toList.map fun k=>hs.getD k 0):=by
 obtain ⟨owner,sl,O,e⟩:=lay_ok hm hs hl
 have hg:∀j,j<=mask->owner.getD j none=(owner[j]?).getD none:=fun j hj=>by
  have hz:j<owner.size:=by rw [O.z];lia
  simp [Array.getD,hz]
 have el:∀j,j<=mask->((owner.getD j none).map (j,·)=none↔j∉sl):=fun j hj=>by
  rw [hg j hj];constructor
  ·intro q z;obtain ⟨k,hk,ek⟩:=qA4.mp z;rw [O.a k j (qAd.mpr ⟨hk,ek⟩)] at q
   cases q
  ·intro q;rw [O.e j hj q];rfl
 have es:∀j k,j<=mask->((owner.getD j none).map (j,·)=some (j,k)↔sl[k]?=some j):=fun j k hj=>by
  rw [hg j hj];constructor
  ·intro q
   by_cases c:j∈sl
   ·obtain ⟨k',hk,ek⟩:=qA4.mp c;have ek':=qAd.mpr ⟨hk,ek⟩;rw [O.a k' j ek'] at q;have q:some (j,k')=some (j,k):=q;injection q with q;injection q with _ q;rw [<-q];exact ek'
   ·rw [O.e j hj c] at q;cases q
  ·intro q;rw [O.a k j q];rfl
 generalize hlive:(List.range (mask+1)).filterMap (fun j=>(owner.getD j none).map (j,·))=live
 have mem:∀p,p∈live↔sl[p.2]?=some p.1:=fun p=>by
  rw [<-hlive,List.mem_filterMap];constructor
  ·rintro ⟨j,hj,q⟩;have hj':j<=mask:=by have:=qA9.mp hj;lia
   have:p.1=j:=by
    cases h:owner.getD j none with
    | none=>rw [h] at q;cases q
    | some k=>rw [h] at q;have q:some (j,k)=some p:=q;injection q with q;rw [<-q]
   subst this;exact (es p.1 p.2 hj').mp q
  ·intro q;have hj:p.1<=mask:=O.l _ (qAO q);exact ⟨p.1,qA9.mpr (by lia),(es p.1 p.2 hj).mpr q⟩
 have rise:Rise (live.map (·.1)):=by
  have h1:(List.range (mask+1)).Pairwise (·<·):=List.pairwise_lt_range;rw [<-hlive,List.map_filterMap];refine List.Pairwise.filterMap _ (fun a b hab x hx y hy=>?_) h1
  cases ha:owner.getD a none with
  | none=>rw [ha] at hx;cases hx
  | some k =>
   rw [ha] at hx;have hx:some a=some x:=hx
   cases hb:owner.getD b none with
   | none=>rw [hb] at hy;cases hy
   | some k' =>
    rw [hb] at hy;have hy:some b=some y:=hy;injection hx with hx;injection hy with hy;lia
 have nd2:(live.map (·.2)).Nodup:=by
  have hr:live.Pairwise (fun a b=>a.1<b.1):=qDD.mp rise;refine qDD.mpr (hr.imp_of_mem fun {a b} ha hb hab q=>?_);have h1:=(mem a).mp ha;have h2:=(mem b).mp hb;rw [q] at h1;rw [h1] at h2;have:=qAa h2;lia
 have perm:(live.map (·.2)).Perm (List.range hs.length):=by
  refine (qDE nd2 List.nodup_range).mpr fun k=>?_;rw [qA9,qAH];constructor
  ·rintro ⟨p,hp,rfl⟩;have:=(qAd.mp ((mem p).mp hp)).1;rw [O.n] at this;exact this
  ·intro hk;have hk':k<sl.length:=by rw [O.n];exact hk
   exact ⟨(sl[k],k),(mem _).mpr (by simp),rfl⟩
 have pmem:∀j,j∈live.map (·.1)↔j∈sl:=fun j=>by
  rw [qAH];constructor
  ·rintro ⟨p,hp,rfl⟩;exact qAO ((mem p).mp hp)
  ·intro q;obtain ⟨k,hk,ek⟩:=qA4.mp q;exact ⟨(j,k),(mem _).mpr (qAd.mpr ⟨hk,ek⟩),rfl⟩
 have llen:live.length=hs.length:=by
  have:=perm.length_eq;simpa using this
 refine ⟨{mask,place:=(live.map (·.1)).toArray,dummies:=#[],finger:=fi,led,moves:=mo,plain},(live.map (·.2)).toArray,?_,rfl,rfl,rfl,by simpa using perm,?_⟩
 ·unfold laid;rw [e];show some (_,_)=some (_,_);rw [hlive]
 ·refine ⟨hm,rfl,by simpa using rise,fun j hj=>?_,by simp [llen],by simp [llen];exact hl,fun i j h e1 e2=>?_⟩
  ·exact O.l j ((pmem j).mp (by simpa using hj))
  ·have e1:(live.map (·.1))[i]?=some j:=by simpa using e1
   have e2:((live.map (·.2)).map fun k=>hs.getD k 0)[i]?=some h:=by simpa using e2
   cases q:live[i]? with
   | none=>rw [qAW,q] at e1;cases e1
   | some p =>
    rw [qAW,q] at e1;rw [qAW,qAW,q] at e2;have e1:p.1=j:=by simpa using e1
    have e2:hs.getD p.2 0=h:=by simpa using e2
    have hp:=(mem p).mp (qAO q);rw [e1] at hp;have hk:p.2<hs.length:=by rw [<-O.n];exact (qAd.mp hp).1
    have hh:hs[p.2]?=some h:=by
     rw [<-e2,qA0];simp [hk]
    obtain ⟨n,q1,q2⟩:=O.reach p.2 j h hp hh
    exact ⟨n,q1,fun m hm=>by
     have:=(pmem _).mpr (q2 m hm);simpa using this⟩
section
variable {prog:Program} {w:World} {K:Type} [DecidableEq K] {knd:KeyKind prog w K} {A:Around} {E:Value->Shared->Prop} {s:Shared}
theorem byv_noref {v:Value} (h:carriedByValue v=true):∀a,v≠.ref a:=by
 intro a e;subst e;simp [carriedByValue] at h
theorem cls_byv (n:Nat) {v:Value} (h:carriedByValue v=true):ofAClassStatement n v=pure false:=by
 cases v with
 | ref a=>exact absurd rfl (byv_noref h a)
 | _=>cases n<;>(unfold ofAClassStatement;rfl)
theorem w_cls {k:List K} {Q:Bool->Shared->Prop} (hk:IsTupleKey knd s.heap k b) (h:Q false s):wpAny (model prog w) A (ofAClassStatement 8 (.ref b)) Q E s:=by
 have hT:=hk.typeIs;obtain ⟨o,items,n,ho,_,hd,hi⟩:=hk;unfold ofAClassStatement;refine qAA (qDF hT ?_);show wpAny _ _ (if ("tuple" == "tuple")=true then _ else _) _ _ _;rw [qAC (by decide)];refine qAA (qAD ?_);show wpAny _ _ (if (!true)=true then _ else _) _ _ _;rw [qAB (by decide)];show wpAny _ _ (seqItems? (.ref b) >>= _) _ _ _;refine qAA ?_;show wpAny _ _ (load b >>= _) _ _ _;refine qAA (qB2 ho ?_);rw [hd];refine qAD ?_;dsimp only;refine qAA ?_;show wpAny _ _ (forIn items _ _) _ _ s;rw [<-qCS];refine wpAny_forIn_list _ (fun rest r s'=>r.1=none/\s'=s/\∀v∈rest,carriedByValue v=true) _ ?_ ?_ _ _ ⟨rfl,rfl,hi.byValue⟩
 ·rintro v rest r s' ⟨hr,rfl,hall⟩;refine qAA (wpAny_of_eq (cls_byv _ (hall v qAT)) ?_);rw [qAB (by decide)];exact qAD ⟨rfl,rfl,fun u hu'=>hall u (qAR _ hu')⟩
 ·rintro ⟨r1,r2⟩ s' ⟨hr,rfl,_⟩;have hr:r1=none:=hr;subst hr;exact qAD h
theorem w_seen {k:List K} {stored:List Value} {Q:Bool->Shared->Prop} (hk:IsTupleKey knd s.heap k b) (hs:∀v∈stored,∃k' b',v= .ref b'/\IsTupleKey knd s.heap k' b') (h:Q false s):wpAny (model prog w) A (searchCouldBeSeen (.ref b) stored) Q E s:=by
 unfold searchCouldBeSeen;refine qAA ?_;refine wpAny_forIn_list _ (fun rest r s'=>r.1=none/\s'=s/\∀v∈rest,∃k' b',v= .ref b'/\IsTupleKey knd s.heap k' b') _ ?_ ?_ _ _ ⟨rfl,rfl,hs⟩
 ·rintro v rest r s' ⟨hr,rfl,hall⟩;obtain ⟨k',b',rfl,hk'⟩:=hall v qAT;have hall':∀u∈rest,∃k' b',u= .ref b'/\IsTupleKey knd s'.heap k' b':=fun u hu'=>hall u (qAR _ hu');dsimp only
  by_cases c:((b==b')||(carriedByValue (.ref b)&&carriedByValue (.ref b')))=true
  ·rw [qAC c];exact qAD ⟨rfl,rfl,hall'⟩
  ·rw [qAB c];refine qAA (wpAny_eqIsQuiet_tuple hk ?_);rw [qAB (by decide)];refine qAA (wpAny_eqIsQuiet_tuple hk' ?_);rw [qAB (by decide)];refine qAA (w_cls hk ?_);rw [qAB (by decide)];refine qAA (w_cls hk' ?_);rw [qAB (by decide)];exact qAD ⟨rfl,rfl,hall'⟩
 ·rintro ⟨r1,r2⟩ s' ⟨hr,rfl,_⟩;have hr:r1=none:=hr;subst hr;exact qAD h
theorem hbv_byv (n:Nat) {v:Value} (h:carriedByValue v=true):∃c,hashByValue n v=pure c:=by
 cases v with
 | ref a=>exact absurd rfl (byv_noref h a)
 | _=>cases n<;>(unfold hashByValue;exact ⟨_,rfl⟩)
theorem w_hbv {k:List K} {Q:Bool->Shared->Prop} (hk:IsTupleKey knd s.heap k b) (h:∀c,Q c s):wpAny (model prog w) A (hashByValue 8 (.ref b)) Q E s:=by
 have hT:=hk.typeIs;obtain ⟨o,items,n,ho,_,hd,hi⟩:=hk;unfold hashByValue;refine qAA (qCc hT F.slot_tuple_hash.lookup ?_);show wpAny _ _ (seqItems? (.ref b) >>= _) _ _ _;refine qAA ?_;show wpAny _ _ (load b >>= _) _ _ _;refine qAA (qB2 ho ?_);rw [hd];refine qAD ?_;dsimp only;refine qAA ?_;show wpAny _ _ (forIn items _ _) _ _ s;rw [<-qCS];refine wpAny_forIn_list _ (fun rest r s'=>s'=s/\∀v∈rest,carriedByValue v=true) _ ?_ ?_ _ _ ⟨rfl,hi.byValue⟩
 ·rintro v rest r s' ⟨rfl,hall⟩;obtain ⟨c,ec⟩:=hbv_byv 7 (hall v qAT);rw [ec];refine qAA (qAD ?_);split
  ·exact qAD (qAD (h _))
  ·exact qAD ⟨rfl,fun u hu'=>hall u (qAR _ hu')⟩
 ·rintro ⟨r1,r2⟩ s' ⟨rfl,_⟩
  cases r1 with
  | none=>exact qAD (h _)
  | some c=>exact qAD (h _)
end
section
variable {prog:Program} {w:World} {K:Type} [DecidableEq K] {knd:KeyKind prog w K} {A:Around} {E:Value->Shared->Prop} {s:Shared}
def en (knd:KeyKind prog w K) (p:List K×Addr):Int×Value:=(tupleKeyHash knd p.1,.ref p.2)
def byt (w:World):Bool:=w.params.followText "set-order"
structure SetX (knd:KeyKind prog w K) (h:Heap) (a:Addr) (xs:List (List K×Addr)) (o:Obj) (es:Array (Int×Value)) (ep:Nat) (t:SetTable):Prop where
 ho:h.get? a=some o
 ex:o.ExactSet
 hd:o.data= .set es ep t
 el:es.toList=xs.map (en knd)
 ok:TOk t (xs.map fun p=>tupleKeyHash knd p.1)
 room:xs.length*5<t.mask*3
 nd:(xs.map (·.1)).Nodup
 ky:∀p∈xs,IsTupleKey knd h p.1 p.2
 ld:t.led= !byt w
section
variable {a:Addr} {xs:List (List K×Addr)} {o:Obj} {es:Array (Int×Value)} {ep:Nat} {t:SetTable}
theorem SetX.at (X:SetX knd s.heap a xs o es ep t) (i:Nat):es[i]?=(xs[i]?).map (en knd):=by
 rw [<-qAo,X.el,qAW]
theorem SetX.size (X:SetX knd s.heap a xs o es ep t):es.size=xs.length:=by
 have:=qAf List.length X.el;simpa using this
theorem SetX.fits (X:SetX knd s.heap a xs o es ep t):t.fits es.size=true:=by
 unfold SetTable.fits;have h1:t.place.size=es.size:=by rw [X.ok.n,X.size];simp
 have h2:t.fill<=t.mask:=by
  unfold fill;rw [X.ok.d];exact X.ok.f
 rw [h1];simp [h2]
theorem SetX.state (X:SetX knd s.heap a xs o es ep t) {Q:(Array (Int×Value)×Nat×SetTable)->Shared->Prop} (h:Q (es,ep,t) s):wpAny (model prog w) A (setState a) Q E s:=wpAny_setState_of X.ho X.hd X.fits h
theorem msk_odd {m:Nat} (h:Msk m):(m % 2==0)=false:=by
 rcases h with rfl| rfl| rfl| rfl<;>decide
theorem SetX.has (X:SetX knd s.heap a xs o es ep t) (e:t.place[i]?=some j):∃p,xs[i]?=some p:=by
 have h1:i<t.place.size:=(qBg.mp e).1;have h2:=X.ok.n;rw [qAE] at h2;exact ⟨xs[i]'(by lia),by simp⟩
theorem split_seen {c:Bool} {m:Sem Bool} {u:String} {jp:Unit->Sem α} {Q:α->Shared->Prop} (hm:∀f:Bool->Sem α,wpAny (model prog w) A (f false) Q E s->wpAny (model prog w) A (m >>= f) Q E s) (h:wpAny (model prog w) A (jp ()) Q E s) :
  wpAny (model prog w) A (if c=true then (m >>= fun l=>if l=true then (unsupported u >>= jp) else jp ()) else jp ()) Q E s:=by
 by_cases z:c=true
 ·rw [qAC z];exact hm _ h
 ·rw [qAB z];exact h
theorem w_search (hu:A.units<cLine) (X:SetX knd s.heap a xs o es ep t) {k:List K} (hk:IsTupleKey knd s.heap k b) (hN:(pr t.mask (tupleKeyHash knd k) N).j∉t.place.toList) (hb:∀m,m<N->(pr t.mask (tupleKeyHash knd k) m).j∈t.place.toList) (hNf:N<10*turns t.mask)
  {Q:SetFound->Shared->Prop} (h1:k∈xs.map (·.1)->Q (.there none) s) (h2:k∉xs.map (·.1)->Q (.free (pr t.mask (tupleKeyHash knd k) N).j false) s) :
  ∀(d n fuel:Nat) (stand:Option Probe),N=n+d->d<fuel->stand.getD (t.probeStart (tupleKeyHash knd k))=pr t.mask (tupleKeyHash knd k) n ->
   (∀m,m<n->∃(i:Nat) (p:List K×Addr),t.place[i]?=some (pr t.mask (tupleKeyHash knd k) m).j/\xs[i]?=some p/\p.1≠k)->wpAny (model prog w) A (setSearchFrom a (.ref b) (tupleKeyHash knd k) true fuel stand) Q E s:=by
 intro d
 induction d using Nat.strongRecOn with
 | _ d ih =>
  intro n fuel stand e hf hst hseen;obtain ⟨fuel,rfl⟩:∃f,fuel=f+1:=⟨fuel - 1,by lia⟩;unfold setSearchFrom;refine qAA (X.state ?_);show wpAny _ _ (if (t.mask % 2==0)=true then _ else _) _ _ _;rw [msk_odd X.ok.m,qAB (by decide)]
  have oth:∀m,Oth t (fun i=>(es[i]?.map (·.1)).getD 0) (tupleKeyHash knd k) m->∃(i:Nat) (p:List K×Addr),t.place[i]?=some (pr t.mask (tupleKeyHash knd k) m).j/\xs[i]?=some p/\p.1≠k:=fun m ⟨i,ei,hi⟩=>by
   obtain ⟨p,ep'⟩:=X.has ei;refine ⟨i,p,ei,ep',fun z=>hi ?_⟩;show (es[i]?.map (·.1)).getD 0=_;rw [X.at i,ep',<-z];rfl
  rw [hst];rcases go_ok X.ok (fun i=>(es[i]?.map (·.1)).getD 0) (tupleKeyHash knd k) hN hb d n (10*turns t.mask) e (by lia) with ⟨z1,z2⟩| ⟨m,i,z1,z2,z3,z4,z5,z6⟩
  ·have z1:t.probe (fun i=>(es[i]?.map (·.1)).getD 0) (tupleKeyHash knd k) (pr t.mask (tupleKeyHash knd k) n)=some (.empty (pr t.mask (tupleKeyHash knd k) N).j none):=z1
   erw [z1]
   refine qAD (h2 fun hm=>?_);obtain ⟨p,hp,rfl⟩:=qAH.mp hm;obtain ⟨i,hi,ei⟩:=qA4.mp hp;have exi:xs[i]?=some p:=qAd.mpr ⟨hi,ei⟩;have hpl:i<t.place.size:=by rw [X.ok.n,qAE];exact hi
   have epl:t.place[i]?=some t.place[i]:=by simp
   obtain ⟨q,q1,q2⟩:=X.ok.reach i t.place[i] (tupleKeyHash knd p.1) epl (by rw [qAW,exi];rfl)
   have hqN:q<N:=by
    apply qBQ;intro c
    by_cases cq:q=N
    ·subst cq;exact hN (by rw [q1];exact qAO (i:=i) (by rw [qAo];exact epl))
    ·exact hN (q2 N (by lia))
   have:∃(i':Nat) (p':List K×Addr),t.place[i']?=some (pr t.mask (tupleKeyHash knd p.1) q).j/\xs[i']?=some p'/\p'.1≠p.1:=by
    by_cases c:q<n
    ·exact hseen q c
    ·exact oth q (z2 q (by lia) hqN)
   obtain ⟨i',p',w1,w2,w3⟩:=this;rw [q1] at w1
   have:i'=i:=by
    rcases Nat.lt_trichotomy i' i with z| z| z
    ·have:=zD2 X.ok.r z w1 epl;lia
    ·exact z
    ·have:=zD2 X.ok.r z epl w1;lia
   subst this;rw [exi] at w2
   cases w2
   exact w3 rfl
  ·have z5:t.probe (fun i=>(es[i]?.map (·.1)).getD 0) (tupleKeyHash knd k) (pr t.mask (tupleKeyHash knd k) n)=some (.candidate (pr t.mask (tupleKeyHash knd k) m).j i (pr t.mask (tupleKeyHash knd k) (m+1))):=z5
   erw [z5]
   obtain ⟨p,exi⟩:=X.has z3;have hp:=X.ky p (qAO exi);have eei:es[i]?=some (tupleKeyHash knd p.1,.ref p.2):=by rw [X.at i,exi];rfl
   refine split_seen (fun f hf=>qAA (w_seen hk ?_ hf)) ?_
   ·intro v hv;obtain ⟨q,hq,rfl⟩:=qAH.mp hv
    have hq:q∈es.toList:=by
     have:=(Array.mem_filter.mp (qDd.mp hq)).1;exact qDd.mpr this
    rw [X.el] at hq;obtain ⟨p',hp',rfl⟩:=qAH.mp hq;exact ⟨p'.1,p'.2,rfl,X.ky p' hp'⟩
   dsimp only;rw [eei];dsimp only;refine qAA (qAz (wpAny_eqBool_tuple hu hp hk ?_));refine qAA (X.state ?_);dsimp only
   by_cases c:p.1=k
   ·rw [qAC (by simp [c])];exact qAD (h1 (qAH.mpr ⟨p,qAO exi,c⟩))
   ·rw [qAB (by simp [c])];have esm:t.sameMemory t.moves t.mask=some true:=by unfold SetTable.sameMemory;simp
    rw [esm];dsimp only;rw [qAC rfl,slot_live X.ok z3];dsimp only;rw [eei];dsimp only;refine qAA (wpAny_isSame_ref_self ?_);rw [qAC rfl];refine qAA (qAD ?_);dsimp only;rw [qAB (by simp [c])];refine ih (N - (m+1)) (by lia) (m+1) fuel (some _) (by lia) (by lia) rfl ?_;intro q hq
    by_cases cq:q<n
    ·exact hseen q cq
    by_cases cm:q=m
    ·subst cm;exact ⟨i,p,z3,exi,c⟩
    ·exact oth q (z6 q (by lia) (by lia))
end
end
section
variable {prog:Program} {w:World} {K:Type} [DecidableEq K] {knd:KeyKind prog w K} {A:Around} {E:Value->Shared->Prop} {s:Shared}
variable {a:Addr} {xs:List (List K×Addr)} {o:Obj} {es:Array (Int×Value)} {ep:Nat} {t:SetTable}
theorem key_but {h h':Heap} {k:List K} (x:IsTupleKey knd h k b) (ho:h.get? a=some o) (hd:o.data= .set es ep t) (hs:Heap.SameBut a h h'):IsTupleKey knd h' k b:=by
 obtain ⟨o1,its,n,p1,p2,p3,p4⟩:=x;refine ⟨o1,its,n,(hs.2 b fun z=>?_).trans p1,p2,p3,p4⟩;subst z;have:=qAa (p1.symm.trans ho);subst this;rw [hd] at p3;exact nomatch p3
theorem put_get {h:Heap} (ho:h.get? a=some o) (hd:o.data= .set es ep t) (es':Array (Int×Value)) (t':SetTable):(h.update a (Obj.putSet es' t')).get? a=some {o with data:=.set es' (ep+1) t'}:=by
 have:=qBJ (Obj.putSet es' t') ho (by rw [putSet_of es' t' hd];rfl)
 rwa [putSet_of es' t' hd] at this
theorem put_X {h:Heap} (ho:h.get? a=some o) (ex:o.ExactSet) (hd:o.data= .set es ep t) {es':Array (Int×Value)} {t':SetTable} {ys:List (List K×Addr)} (e1:es'.toList=ys.map (en knd)) (e2:TOk t' (ys.map fun p=>tupleKeyHash knd p.1)) (e3:ys.length*5<t'.mask*3) (e4:(ys.map (·.1)).Nodup) (e5:∀p∈ys,IsTupleKey knd h p.1 p.2) (e6:t'.led= !byt w) :
  SetX knd (h.update a (Obj.putSet es' t')) a ys {o with data:=.set es' (ep+1) t'} es' (ep+1) t' :=
 ⟨put_get ho hd es' t',ex,rfl,e1,e2,e3,e4,fun p hp=>key_but (e5 p hp) ho hd (qAj h a _),e6⟩
theorem not_scan (b:Addr) (es:Array (Int×Value)):byScan (.ref b) es=false:=by
 unfold byScan;rfl
theorem grow_mask {m n:Nat} (hm:Msk m) (h0:n*5<m*3) (h1:m*3<=(n+1)*5) (hc:n+1<=306):Msk (sizeAbove (grown (n+1)) - 1)/\n+1<=sizeAbove (grown (n+1)) - 1/\(n+1)*5<(sizeAbove (grown (n+1)) - 1)*3/\sizeAbove (grown (n+1))<=512:=by
 rcases hm with rfl| rfl| rfl| rfl
 ·obtain rfl:n=4:=by lia
  refine ⟨by unfold Msk;decide +kernel,by decide +kernel,by decide +kernel,by decide +kernel⟩
 ·obtain rfl:n=18:=by lia
  refine ⟨by unfold Msk;decide +kernel,by decide +kernel,by decide +kernel,by decide +kernel⟩
 ·obtain rfl:n=76:=by lia
  refine ⟨by unfold Msk;decide +kernel,by decide +kernel,by decide +kernel,by decide +kernel⟩
 ·lia
theorem getD_hash (ys:List (List K×Addr)) (order:List Nat) (hp:order.Perm (List.range ys.length)):(order.filterMap (ys[·]?)).map (fun p=>tupleKeyHash knd p.1)=order.map (fun k=>(ys.map fun p=>tupleKeyHash knd p.1).getD k 0):=by
 have hall:∀k∈order,k<ys.length:=fun k hk=>qA9.mp (hp.mem_iff.mp hk);clear hp
 induction order with
 | nil=>rfl
 | cons k ks ih =>
  have hk:=hall k qAT;have e:ys[k]?=some ys[k]:=by simp [hk]
  rw [qCJ,e];show tupleKeyHash knd ys[k].1::_=_::_;rw [ih (fun q hq=>hall q (qAR _ hq))];congr 1;show _=(List.map (fun p=>tupleKeyHash knd p.fst) ys).getD k 0;rw [qA0,qAW,e];rfl
theorem range_get (ys:List α):(List.range ys.length).filterMap (ys[·]?)=ys:=by
 induction ys with
 | nil=>rfl
 | cons y ys ih =>
  rw [qAc,List.range_succ_eq_map,qCJ];show y::_=_;rw [List.filterMap_map];congr 1
theorem perm_get (ys:List α) {order:List Nat} (hp:order.Perm (List.range ys.length)):(order.filterMap (ys[·]?)).Perm ys:=by
 have:=hp.filterMap (ys[·]?)
 rwa [range_get] at this
theorem w_relay {s:Shared} {m n:Nat} (ho:s.heap.get? a=some o) (ex:o.ExactSet) (hd:o.data= .set es ep t) (e1:es.toList=xs.map (en knd)) (e2:TOk t (xs.map fun p=>tupleKeyHash knd p.1)) (hn:xs.length=n+1) (h0:n*5<t.mask*3) (h1:t.mask*3<=(n+1)*5) (hc:n+1<=306)
  (e4:(xs.map (·.1)).Nodup) (e5:∀p∈xs,IsTupleKey knd s.heap p.1 p.2) (e6:t.led= !byt w) {Q:Unit->Shared->Prop} (h:∀h' ys o' es' ep' t',Heap.SameBut a s.heap h'->ys.Perm xs->SetX knd h' a ys o' es' ep' t'->Q () {s with heap:=h'}) :
  wpAny (model prog w) A (setRelay a (grown (n+1))) Q E s:=by
 obtain ⟨g1,g2,g3,g4⟩:=grow_mask e2.m h0 h1 hc;have ez:es.size=xs.length:=by have:=qAf List.length e1;simpa using this
 have hfit:t.fits es.size=true:=by
  unfold SetTable.fits;have z1:t.place.size=es.size:=by rw [e2.n,ez];simp
  have z2:t.fill<=t.mask:=by unfold fill;rw [e2.d];exact e2.f
  rw [z1];simp [z2]
 unfold setRelay;refine qAA (wpAny_setState_of ho hd hfit ?_);dsimp only;have hsl:sizeAbove (grown (n+1))<=sizeLine:=qAX g4 (by decide +kernel);rw [qAB (qCj.mpr hsl)];obtain ⟨t',order,l1,l2,l3,l4,l5,l6⟩:=laid_ok g1 (xs.map fun p=>tupleKeyHash knd p.1) (by rw [qAE];lia) t.finger (t.movedTo (sizeAbove (grown (n+1)) - 1)) t.led t.plain
 have lr:t.relaid (es.map (·.1)) (grown (n+1))=some (t',order):=by
  unfold relaid
  have:es.map (·.1)=(xs.map fun p=>tupleKeyHash knd p.1).toArray:=by
   apply Array.ext';rw [Array.toList_map,e1,qA1];rfl
  rw [this];exact l1
 rw [lr];rw [qAE] at l5;have lp:=perm_get xs l5
 have el':(order.filterMap (es[·]?)).toList=(order.toList.filterMap (xs[·]?)).map (en knd):=by
  rw [Array.toList_filterMap,List.map_filterMap];congr 1;funext k;rw [<-qAo,e1,qAW]
 have ez':(order.filterMap (es[·]?)).size=es.size:=by
  rw [<-qBC,el',qAE,lp.length_eq,ez]
 refine qAA ?_;show wpAny _ _ (if ((order.filterMap (es[·]?)).size != es.size)=true then _ else _) _ _ _;rw [qAB (by rw [ez'];simp)];refine qAD ?_;dsimp only;refine wpAny_storeSet_of ho hd ?_ (by rw [ez',ez,hn];exact qAX hc (by decide +kernel));refine h _ _ _ _ _ _ (qAj _ a _) lp (put_X ho ex hd el' ?_ ?_ ?_ (fun p hp=>e5 p (lp.mem_iff.mp hp)) (l3.trans e6))
 ·rw [getD_hash xs order.toList l5];exact l6
 ·rw [lp.length_eq,hn,l2];exact g3
 ·exact (lp.map (·.1)).nodup_iff.mpr e4
theorem ins_perm (L:List α) (p:Nat) (x:α):(L.take p++x::L.drop p).Perm (x::L):=by
 have h1:(L.take p++x::L.drop p).Perm (x::(L.take p++L.drop p)):=List.perm_middle
 rwa [qBt] at h1
theorem plain_off {t:SetTable} (T:TOk t hs) (c:Bool):TOk (if c=true then t else {t with plain:=false}) hs/\(if c=true then t else {t with plain:=false}).mask=t.mask/\(if c=true then t else {t with plain:=false}).tooFull=t.tooFull/\(if c=true then t else {t with plain:=false}).led=t.led:=by
 cases c
 ·exact ⟨⟨T.m,T.d,T.r,T.l,T.n,T.f,T.reach⟩,rfl,rfl,rfl⟩
 ·exact ⟨T,rfl,rfl,rfl⟩
theorem w_add (hu:A.units<cLine) (X:SetX knd s.heap a xs o es ep t) {k:List K} (hk:IsTupleKey knd s.heap k b) (hc:xs.length+1<=306) {Q:Bool->Shared->Prop} (h1:k∈xs.map (·.1)->Q false s)
  (h2:k∉xs.map (·.1)->∀h' ys o' es' ep' t',Heap.SameBut a s.heap h'->ys.Perm ((k,b)::xs)->SetX knd h' a ys o' es' ep' t'->Q true {s with heap:=h'}) :
  wpAny (model prog w) A (setAddHashed a (.ref b) (tupleKeyHash knd k)) Q E s:=by
 unfold setAddHashed setAddHashedIn;refine qAz (qAA (X.state ?_));dsimp only;rw [not_scan,qAB (by decide)]
 have hpl:t.place.toList.length=xs.length:=by
  have:=X.ok.n;rw [qAE] at this;simpa using this
 have hroom:=X.room;obtain ⟨N,hNf,hN,hb⟩:=zIl X.ok.m (tupleKeyHash knd k) (L:=t.place.toList) (by rw [hpl];lia)
 have hT:10*turns t.mask<100000:=by
  rcases X.ok.m with z| z| z| z<;>rw [z]<;>decide +kernel
 unfold setSearch;refine qAA (w_search hu X hk hN hb hNf ?_ ?_ N 0 100000 none (by lia) (by lia) rfl (fun m hm=>absurd hm (qBu m)))
 ·intro z;exact qAD (h1 z)
 ·intro z;dsimp only;refine qAA (X.state ?_);dsimp only
  have hf1:t.place.size+1<=t.mask:=by
   have:t.place.size=xs.length:=by simpa using hpl
   rcases X.ok.m with z| z| z| z<;>lia
  have T1:=put_ok X.ok (tupleKeyHash knd k) hN hb hf1;have em:(t.put (pr t.mask (tupleKeyHash knd k) N).j).1.mask=t.mask:=rfl;have ed:(t.put (pr t.mask (tupleKeyHash knd k) N).j).1.led=t.led:=rfl;have B:=(zD8 X.ok.r (pr t.mask (tupleKeyHash knd k) N).j).le;have ep2:(t.put (pr t.mask (tupleKeyHash knd k) N).j).2=below t.place (pr t.mask (tupleKeyHash knd k) N).j:=rfl
  have fin:∀c:Bool,wpAny (model prog w) A (do
    storeSet a (SetTable.insertAt es (t.put (pr t.mask (tupleKeyHash knd k) N).j).2 (tupleKeyHash knd k,.ref b)) (if c=true then (t.put (pr t.mask (tupleKeyHash knd k) N).j).1 else {(t.put (pr t.mask (tupleKeyHash knd k) N).j).1 with plain:=false})
    if (!false&&(if c=true then (t.put (pr t.mask (tupleKeyHash knd k) N).j).1 else {(t.put (pr t.mask (tupleKeyHash knd k) N).j).1 with plain:=false}).tooFull)=true then do
     setRelay a (SetTable.grown (es.size+1))
     pure true
    else pure true) Q E s:=by
   intro c;generalize hp:(t.put (pr t.mask (tupleKeyHash knd k) N).j).2=p at *
   generalize ht:(t.put (pr t.mask (tupleKeyHash knd k) N).j).1=t1 at *
   have hple:p<=es.size:=by
    rw [X.size,ep2];have:t.place.size=xs.length:=by simpa using hpl
    lia
   obtain ⟨T2,m2,f2,d2⟩:=plain_off T1 c;generalize ht2:(if c=true then t1 else {t1 with plain:=false})=t2 at *
   have el:(SetTable.insertAt es p (tupleKeyHash knd k,Value.ref b)).toList=(xs.take p++(k,b)::xs.drop p).map (en knd):=by
    rw [zI7 es p _ hple,X.el,qAQ,qAn,qDG,qDH];rfl
   have ip:=ins_perm xs p (k,b)
   have eT:(xs.map fun p=>tupleKeyHash knd p.1).take p++tupleKeyHash knd k::(xs.map fun p=>tupleKeyHash knd p.1).drop p=(xs.take p++(k,b)::xs.drop p).map fun p=>tupleKeyHash knd p.1:=by
    rw [qAQ,qAn,qDG,qDH]
   rw [eT] at T2;have len:(xs.take p++(k,b)::xs.drop p).length=xs.length+1:=by rw [ip.length_eq];rfl
   have nd:((xs.take p++(k,b)::xs.drop p).map (·.1)).Nodup:=by
    refine (ip.map (·.1)).nodup_iff.mpr ?_;exact qAv.mpr ⟨z,X.nd⟩
   have ky:∀q∈xs.take p++(k,b)::xs.drop p,IsTupleKey knd s.heap q.1 q.2:=fun q hq=>by
    rcases qAN.mp (ip.mem_iff.mp hq) with y| y
    ·subst y;exact hk
    ·exact X.ky q y
   have sz:(SetTable.insertAt es p (tupleKeyHash knd k,Value.ref b)).size=xs.length+1:=by
    have:=qAf List.length el;rw [qAE,len] at this;simpa using this
   refine qAA (wpAny_storeSet_of X.ho X.hd ?_ (by rw [sz];exact qAX hc (by decide +kernel)))
   have fl:t2.tooFull=decide (t.mask*3<=(xs.length+1)*5):=by
    unfold tooFull fill;rw [T2.d,T2.n,qAE,len,m2,em];rfl
   by_cases cf:t.mask*3<=(xs.length+1)*5
   ·rw [qAC (by rw [fl];simp [cf])];rw [X.size];refine qAA ?_;refine w_relay (m:=0) (o:={o with data:=.set (insertAt es p (tupleKeyHash knd k,Value.ref b)) (ep+1) t2}) (put_get X.ho X.hd _ _) X.ex rfl el T2 len ?_ ?_ hc nd ?_ (d2.trans (ed.trans X.ld)) ?_
    ·rw [m2,em];exact hroom
    ·rw [m2,em];exact cf
    ·intro q hq;exact key_but (ky q hq) X.ho X.hd (qAj _ a _)
    ·intro h' ys o' es' ep' t' q1 q2 q3;exact qAD (h2 z h' ys o' es' ep' t' ((qAj _ a _).trans q1) (q2.trans ip) q3)
   ·rw [qAB (by rw [fl];simp [cf])];refine qAD (h2 z _ _ _ _ _ _ (qAj _ a _) ip (put_X X.ho X.ex X.hd el T2 ?_ nd ky (d2.trans (ed.trans X.ld))));rw [len,m2,em];lia
  by_cases cp:(t.put (pr t.mask (tupleKeyHash knd k) N).j).1.plain=true
  ·rw [qAC cp];exact qAA (w_hbv hk fin)
  ·rw [qAB cp];exact qAA (qAD (fin true))
end
end ST
namespace ST
open PySem PySem.SetTable PyProof.Rows
variable {h:Heap}{α:Type}
section
variable {prog:Program} {w:World} {K:Type} [DecidableEq K] {knd:KeyKind prog w K} {A:Around} {E:Value->Shared->Prop} {s:Shared}
variable {a:Addr} {xs:List (List K×Addr)} {o:Obj} {es:Array (Int×Value)} {ep:Nat} {t:SetTable}
theorem key_kept {h':Heap} {k:List K} {b:Addr} (x:IsTupleKey knd h k b) (e:∀o,h.get? b=some o->h'.get? b=some o):IsTupleKey knd h' k b :=
 let ⟨o,its,n,p1,r⟩:=x;⟨o,its,n,e o p1,r⟩
theorem SetX.kept {h h':Heap} (X:SetX knd h a xs o es ep t) (e:∀b o,(b=a\/∃p∈xs,p.2=b)->h.get? b=some o->h'.get? b=some o):SetX knd h' a xs o es ep t :=
 ⟨e a o (.inl rfl) X.ho,X.ex,X.hd,X.el,X.ok,X.room,X.nd,fun p hp=>key_kept (X.ky p hp) fun o q=>e _ o (.inr ⟨p,hp,rfl⟩) q,X.ld⟩
def Got (knd:KeyKind prog w K) (h:Heap) (a:Addr) (ks:List (List K×Addr)):Prop :=
 ∃xs o es ep t,SetX knd h a xs o es ep t/\(∀p∈xs,p∈ks)/\(∀p∈ks,p.1∈xs.map (·.1))/\xs.length<=ks.length
theorem Got.kept {h h':Heap} {ks:List (List K×Addr)} (g:Got knd h a ks) (e:∀b o,(b=a\/∃p∈ks,p.2=b)->h.get? b=some o->h'.get? b=some o):Got knd h' a ks:=by
 obtain ⟨xs,o,es,ep,t,X,g1,g2,g3⟩:=g;exact ⟨xs,o,es,ep,t,X.kept fun b o hb=>e b o (hb.imp id fun ⟨p,hp,q⟩=>⟨p,g1 p hp,q⟩),g1,g2,g3⟩
theorem Got.fresh {a:Addr} (ho:h.get? a=some {cls:=.type "set",dict:=none,data:=.set #[] 0 (.fresh 0 0 (!byt w))}):Got knd h a [] :=
 ⟨[],_,_,_,_,⟨ho,⟨rfl,rfl,rfl⟩,rfl,rfl,fresh_ok 0 0 _,(show 0*5<7*3 by decide),qAw,(fun p hp=>nomatch hp),rfl⟩,(fun p hp=>nomatch hp),(fun p hp=>nomatch hp),qAG _⟩
theorem w_more {ks:List (List K×Addr)} {k:List K} {b:Addr} (hu:A.units<cLine) (g:Got knd s.heap a ks) (hk:IsTupleKey knd s.heap k b) (hc:ks.length+1<=306) {Q:Bool->Shared->Prop}
  (h:∀c h',Heap.SameBut a s.heap h'->Got knd h' a (ks++[(k,b)])->Q c {s with heap:=h',toks:=s.toks+(k.length+1)}):wpAny (model prog w) A (setAdd a (.ref b)) Q E s:=by
 obtain ⟨xs,o,es,ep,t,X,g1,g2,g3⟩:=g;unfold setAdd;refine qAz (qAA (wpAny_pyHash_tuple hu hk ?_));refine w_add (s:={s with toks:=s.toks+(k.length+1)}) hu X hk (by lia) (fun z=>?_) fun z h' ys o' es' ep' t' q1 q2 q3=>?_
 ·refine h false s.heap (Heap.SameBut.refl a s.heap) ⟨xs,o,es,ep,t,X,fun p hp=>qAs _ (g1 p hp),fun p hp=>?_,by rw [qAg];exact Nat.le_succ_of_le g3⟩;rcases qAU.mp hp with y| y
  ·exact g2 p y
  ·rw [qAP.mp y];exact z
 ·refine h true h' q1 ⟨ys,o',es',ep',t',q3,fun p hp=>?_,fun p hp=>?_,?_⟩
  ·rcases qAN.mp (q2.mem_iff.mp hp) with y| y
   ·rw [y];exact qAu _ (qAP.mpr rfl)
   ·exact qAs _ (g1 p y)
  ·have m:=(q2.map (·.1)).mem_iff (a:=p.1);refine m.mpr ?_;rcases qAU.mp hp with y| y
   ·exact qAR _ (g2 p y)
   ·rw [qAP.mp y];exact qAT
  ·rw [q2.length_eq,qAg];exact Nat.succ_le_succ g3
end
section
variable {prog:Program} {w:World} {K:Type} [DecidableEq K] {knd:KeyKind prog w K} {A:Around} {R:Result->Shared->Prop} {I:Addr} {fp wr:List Addr} {G:Array GenState->Array GenState->Prop} {P:Nat->Value->Prop} {St:Nat->Shared->Prop}
theorem c_fill {ks:List (List K×Addr)} (hu:A.in1.units<cLine) (W:WalksS prog w A.in1 I fp wr G ks.length P St) (a:Addr) (haf:a∉fp) (hP:∀i v,P i v->∃p,ks[i]?=some p/\v= .ref p.2) (hka:∀p∈ks,p.2≠a/\p.2∉wr) (hc:ks.length<=306) :
  ∀(k i:Nat) (s:Shared),ks.length=i+k->St i s->Got knd s.heap a (ks.take i)->(∀p∈ks,IsTupleKey knd s.heap p.1 p.2) ->
   (∀s',Moved (a::wr) G s s'->Got knd s'.heap a ks->R (.ok (.ret .none)) s')->codeAny (model prog w) A (.builtin "set.update.loop" ⟨[.ref a,.ref I],[]⟩) R s:=by
 have haw:a∉wr:=fun z=>haf (W.sub a z);intro k
 induction k with
 | zero =>
  intro i s e st g ky hR;have e:i=ks.length:=by lia
  subst e;rw [qAi] at g;refine qBY PyProof.Rows.F.entry_set_update_loop ?_;rw [qBk qDi _];change wpAny _ A.in1 (pyNext (Value.ref I) >>= _) _ _ s;refine qAA (W.done s _ _ st fun s1 mv=>?_);refine qAD (hR s1 (mv.mono fun b hb=>qAR a hb) (g.kept fun b o hb q=>mv.heap b o ?_ q));rcases hb with rfl| ⟨p,hp,rfl⟩
  ·exact haw
  ·exact (hka p hp).2
 | succ k ih =>
  intro i s e st g ky hR;have hi:i<ks.length:=by lia
  refine qBY PyProof.Rows.F.entry_set_update_loop ?_;rw [qBk qDi _];change wpAny _ A.in1 (pyNext (Value.ref I) >>= _) _ _ s;refine qAA (W.item i s _ _ hi st fun v s1 pv st1 mv=>?_);obtain ⟨p,ep,rfl⟩:=hP i v pv;have pm:p∈ks:=qAO ep
  have up:∀b o,(b=a\/∃q∈ks,q.2=b)->s.heap.get? b=some o->s1.heap.get? b=some o:=fun b o hb q=>mv.heap b o (by
   rcases hb with rfl| ⟨p,hp,rfl⟩
   ·exact haw
   ·exact (hka p hp).2) q
  have g1:=g.kept (h':=s1.heap) fun b o hb=>up b o (hb.imp id fun ⟨q,hq,z⟩=>⟨q,qBi hq,z⟩);have ky1:∀q∈ks,IsTupleKey knd s1.heap q.1 q.2:=fun q hq=>key_kept (ky q hq) fun o=>up _ o (.inr ⟨q,hq,rfl⟩);change wpAny _ A.in1 (holding [Value.ref p.2] (setAdd a (.ref p.2)) >>= _) _ _ s1;refine qAA (qAz (w_more (knd:=knd) hu g1 (ky1 p pm) (by rw [qAe];lia) fun c h' sb g2=>?_))
  have et:ks.take i++[(p.1,p.2)]=ks.take (i+1):=by
   rw [qDI,ep];rfl
  rw [et] at g2
  have st2:=W.frame (i+1) s1 h' (s1.toks+(p.1.length+1)) st1 (qBX _ _) fun b hb o q=>by
   rw [sb.2 b fun z=>haf (z▸hb)];exact q
  refine qAD ⟨qCk qDi _,ih (i+1) _ (by lia) st2 g2 (fun q hq=>key_kept (ky1 q hq) fun o z=>(sb.2 _ (hka q hq).1).trans z) fun s2 mv2 g3=>hR s2 ?_ g3⟩;refine Moved.trans W.gtrans ((mv.mono fun b hb=>qAR a hb).then_heap (qBX _ _) fun b o hb z=>?_) mv2;exact (sb.2 b fun y=>hb (y▸qAT)).trans z
end
section
variable {prog:Program} {w:World} {K:Type} [DecidableEq K] {knd:KeyKind prog w K} {A:Around} {E:Value->Shared->Prop} {s:Shared}
def set0 (w:World):Obj:={cls:=.type "set",dict:=none,data:=.set #[] 0 (.fresh 0 0 (!byt w))}
theorem c_new (v:Value) {Q:Value->Shared->Prop} (h:Q (.ref s.heap.objs.size) {s with heap:=s.heap.push (set0 w)}):codeAny (model prog w) A (.call (.builtin "set.__new__") ⟨[.type "set",v],[]⟩) (wants Q E) s:=by
 refine codeAny_of_tree ?_;change wpAny _ A.in1 (checkBuiltinCall "set.__new__" ⟨[.type "set",v],[]⟩ >>= fun _=>again (.builtin "set.__new__" ⟨[.type "set",v],[]⟩)) _ _ s;refine qAA (wpAny_of_eq (F.newCall_set_1 v) (qAD ⟨qCk F.plain_set_new _,qBY F.entry_set_new ?_⟩));rw [qBk F.plain_set_new _];unfold Builtin.«set.__new__» Builtin.Frozenset.newClass;have q:=sub_set_self;obtain ⟨hp,g,d,tk,os⟩:=s;dsimp only
 wp_walk
 refine qBZ (qAD ?_);dsimp only;simp only [newObj];refine qAA (wpAny_alloc (qAD (qAD ?_)));exact h
theorem w_setBy {l:Addr} {its:Array Value} {Z:Heap->Prop} {Q:Value->Shared->Prop} (hh:A.handled=none) (hl:s.heap.IsList l its)
  (fill:∀(A1:Around) (R:Result->Shared->Prop) (s3:Shared) (fp:List Addr) (G:Array GenState->Array GenState->Prop) (St:Nat->Shared->Prop),A1.in1.units<=A.units+3->WalksS prog w A1.in1 (s.heap.objs.size+1) fp [s.heap.objs.size+1] G its.size (fun i v=>its[i]?=some v) St->s.heap.objs.size∉fp ->
   s3.heap.get? s.heap.objs.size=some (set0 w)->(∀b o,s.heap.get? b=some o->s3.heap.get? b=some o)->St 0 s3->(∀s',Moved [s.heap.objs.size,s.heap.objs.size+1] G s3 s'->Z s'.heap->R (.ok (.ret .none)) s') ->
   codeAny (model prog w) A1 (.builtin "set.update.loop" ⟨[.ref s.heap.objs.size,.ref (s.heap.objs.size+1)],[]⟩) R s3)
  (h:∀(h':Heap) (tk:Nat),s.toks<=tk->Z h'->(∀b o,s.heap.get? b=some o->h'.get? b=some o)->Q (.ref s.heap.objs.size) {s with heap:=h',toks:=tk}) :
  wpAny (model prog w) A (call (.type "set") [.ref l]) Q E s:=by
 obtain ⟨c,tl,hmro⟩:=qBv.mro;have k1:=qBv.made;have k2:=qBv.sub;refine qCX (codeAny_of_tree ?_);change wpAny _ _ (callAny (.type "set") _) _ _ _;refine qAD ⟨Code.quiet_builtin _ (by decide +kernel),qBY F.entry_type_call ?_⟩;rw [Around.under_plain (weight_type_call_type "set" [.ref l] []) rfl];have k3:=qBv.notType;have k4:=qBv.canCreate;have k5:=F.typeCall_set_1 (.ref l)
 repeat (any_goals (first| assumption| wp_step))
 have hne:∀b o,s.heap.get? b=some o->b≠s.heap.objs.size:=fun b o q=>qAZ (qAL q);refine qCK (c_new (w:=w) (.ref l) (E:=E) (Q:=fun ob s1=>ob= .ref s.heap.objs.size/\s1={s with heap:=s.heap.push (set0 w)}) ⟨rfl,rfl⟩) fun r s1 hr=>?_
 cases r with
 | error e=>exact hr
 | ok fl =>
  cases fl with
  | ret ob =>
   obtain ⟨rfl,rfl⟩:=hr;have hS:(s.heap.push (set0 w)).get? s.heap.objs.size=some (set0 w):=qAb _ rfl;have hT:Shared.TypeIs {s with heap:=s.heap.push (set0 w)} (.ref s.heap.objs.size) "set" := ⟨_,hS,rfl⟩;have k6:=qBv.init.lookup;have k7:=qBv.init.bind (.ref s.heap.objs.size)
   repeat (any_goals (first| assumption| wp_step))
   refine qCK (codeAny_call_builtin (R:=wants (fun r s2=>r= .none/\∃h' tk,s2={s with heap:=h',toks:=tk}/\s.toks<=tk/\Z h'/\(∀b o,s.heap.get? b=some o->h'.get? b=some o)) E) qBv.init.plain F.entry_set_init (check_set_init_1 hT ?_)) fun r2 s2 hr2=>?_
   ·obtain ⟨ol,hol,hcl,nl,hdl⟩:=hl;obtain ⟨o1,o2,o3,o4⟩:=ol;simp only at hcl hdl;subst hcl hdl;have hol1:(s.heap.push (set0 w)).get? l=some {cls:=.type "list",dict:=o2,data:=.seq its nl,slots:=o4}:=qAJ _ hol;have k8:=F.sub_list_set;have k9:=F.sub_list_frozenset;have k10:(Value.type "list" == Value.type "dict")=false:=by decide
    have hl1:(s.heap.push (set0 w)).IsList l its:=⟨_,hol1,rfl,nl,rfl⟩;unfold Builtin.«set.__init__» noKeywords Builtin.Frozenset.updateFrom;generalize hPI:pyIter=PI
    wp_walk
    subst hPI;refine qC2 hl1 ?_;refine qAA (wpAny_runValue ?_);have esz:(s.heap.push (set0 w)).objs.size=s.heap.objs.size+1:=qBm _ _;have hls:l<s.heap.objs.size:=qAL hol;have W:=(Walks.list (prog:=prog) (w:=w) (A:=A.in1.in1.in1) (by simpa using hh) (s.heap.push (set0 w)).objs.size l (by rw [esz];exact qAZ (qBq hls)) its).toS;rw [esz] at W;rw [esz];refine fill A.in1.in1 _ _ _ _ _ (by show A.units+1+1+1<=A.units+3;lia) W ?_ (qAJ _ hS) (fun b o q=>qAJ _ (qAJ _ q)) ⟨⟨_,by rw [<-esz];exact qAb _ rfl,rfl,rfl⟩,hl1.push _⟩ ?_
    ·simp only [qAN,qCA,or_false,not_or];exact ⟨qAZ (qB3 _),qBD hls⟩
    ·intro s1 mv g;obtain ⟨h1,g1,d1,tk1,os1⟩:=s1;have e1:g1=s.gens:=mv.gens;have e2:d1=s.drawn:=mv.drawn;have e3:os1=s.os:=mv.os;subst e1 e2 e3;show wpAny _ _ _ _ _ _;refine qAD (qAD ⟨rfl,h1,tk1,rfl,mv.toks,g,fun b o q=>?_⟩);have:=qAL q
     exact mv.heap b o (by
      simp only [qAN,qCA,or_false,not_or];exact ⟨qAZ this,qAZ (qBq this)⟩) (qAJ _ (qAJ _ q))
   ·cases r2 with
    | error e=>exact hr2
    | ok f2 =>
     cases f2 with
     | ret r =>
      obtain ⟨rfl,h',tk,rfl,q1,q2,q3⟩:=hr2
      repeat (any_goals (first| assumption| wp_step))
      exact h _ _ q1 q2 q3
     | _=>exact hr2.elim
  | _=>exact hr.elim
theorem w_mkset {l:Addr} {its:Array Value} {ks:List (List K×Addr)} {Q:Value->Shared->Prop} (hh:A.handled=none) (hu:A.units+8<cLine) (hl:s.heap.IsList l its) (ei:its.toList=ks.map fun p=>.ref p.2) (ky:∀p∈ks,IsTupleKey knd s.heap p.1 p.2) (hc:ks.length<=306)
  (h:∀(h':Heap) (tk:Nat),s.toks<=tk->Got knd h' s.heap.objs.size ks->(∀b o,s.heap.get? b=some o->h'.get? b=some o)->Q (.ref s.heap.objs.size) {s with heap:=h',toks:=tk}) :
  wpAny (model prog w) A (call (.type "set") [.ref l]) Q E s:=by
 refine w_setBy hh hl (fun A1 R s3 fp G St hv W hf hS kp st hR=>?_) h
 have ez:its.size=ks.length:=by
  have:=qAf List.length ei;simpa using this
 rw [ez] at W;refine c_fill (knd:=knd) (by lia) W s.heap.objs.size hf (fun i v hv=>?_) (fun p hp=>?_) hc ks.length 0 _ (by lia) st (Got.fresh hS) (fun p hp=>key_kept (ky p hp) fun o q=>kp _ o q) hR
 ·have:its.toList[i]?=some v:=by rw [qAo];exact hv
  rw [ei,qAW] at this
  cases hk:ks[i]? with
  | none=>rw [hk] at this;exact nomatch this
  | some p=>rw [hk] at this;exact ⟨p,rfl,(qAa this).symm⟩
 ·obtain ⟨o,_,_,ho,_⟩:=ky p hp;have:=qAL ho;simp only [qAN,qCA,or_false];exact ⟨qAZ this,qAZ (qBq this)⟩
end
theorem zD9:Slot "set_iterator" "__next__" "set_iterator.__next__" :=
 .of (owner:= "set_iterator") (n:= "__next__") (by rw [qCl,qCm];kernel_rfl) (by decide +kernel) (by decide +kernel) (by decide +kernel) (by first| exact .inl (by decide +kernel)| exact .inr (by decide +kernel)) (by rw [isSubtype_type];kernel_rfl)
theorem sl_self:Slot "set_iterator" "__iter__" "set_iterator.__iter__" :=
 .of (owner:= "set_iterator") (n:= "__iter__") (by rw [qCl,qCm];kernel_rfl) (by decide +kernel) (by decide +kernel) (by decide +kernel) (by first| exact .inl (by decide +kernel)| exact .inr (by decide +kernel)) (by rw [isSubtype_type];kernel_rfl)
theorem en_next:entryFor table "set_iterator.__next__" = some Builtin.«set_iterator.__next__»:=entryFor_of_fast (by kernel_rfl)
theorem en_self:entryFor table "set_iterator.__iter__" = some Builtin.«dict_keyiterator.__iter__»:=entryFor_alias (id':= "dict_keyiterator.__iter__") (by kernel_rfl) rfl (by decide +kernel) (by kernel_rfl)
theorem en_iter:entryFor table "set.__iter__" = some Builtin.«frozenset.__iter__»:=entryFor_alias (id':= "frozenset.__iter__") (by kernel_rfl) rfl (by decide +kernel) (by kernel_rfl)
theorem ar_next (a:Value):argsOk "set_iterator.__next__" ⟨[a],[]⟩:=by unfold argsOk;kernel_rfl
theorem ar_self (a:Value):argsOk "set_iterator.__iter__" ⟨[a],[]⟩:=by unfold argsOk;kernel_rfl
theorem zCw {M:Model} {A:Around} {E:Value->Shared->Prop} {s:Shared} {c:Prop} [Decidable c] {x y:Sem α} {Q:α->Shared->Prop} (hc:¬c) (h:wpAny M A y Q E s):wpAny M A (if c then x else y) Q E s:=by rw [qAB hc];exact h
theorem zEl {M:Model} {A:Around} {E:Value->Shared->Prop} {s:Shared} {c:Prop} [Decidable c] {x y:Sem α} {Q:α->Shared->Prop} (hc:c) (h:wpAny M A x Q E s):wpAny M A (if c then x else y) Q E s:=by rw [qAC hc];exact h
theorem zFx :∀{L:List α} {i:Nat} {x:α},L[i]?=some x->(x::L.eraseIdx i).Perm L
 | [],i,x,h=>by simp at h
 | y::r,0,x,h=>by
  have:y=x:=qAa h;subst this;exact List.Perm.refl _
 | y::r,i+1,x,h=>by
  rw [qCh] at h;exact (List.Perm.swap y x _).trans (List.Perm.cons y (zFx h))
theorem pick_go (next:Nat->Nat):∀(fuel k:Nat) (left:List α) (out:Array α),left.length<=fuel->(pickOrder.go next fuel k left out).toList.Perm (out.toList++left)
 | 0,k,left,out,h=>by
  have:left=[]:=qCT.mp (Nat.le_zero.mp h);subst this;unfold pickOrder.go;rw [qBI]
 | fuel+1,k,left,out,h=>by
  unfold pickOrder.go
  cases e:left[next k % left.length]? with
  | none =>
   have:left=[]:=by
    cases left with
    | nil=>rfl
    | cons x r =>
     have:=qDj.mp e;have h2:=Nat.mod_lt (next k) (show 0<(x::r).length from Nat.succ_pos _);exact absurd h2 (qCj.mpr this)
   subst this;dsimp only;rw [qBI]
  | some x =>
   dsimp only;have p:=zFx e;have hl:=p.length_eq;rw [qAc] at hl;refine (pick_go next fuel (k+1) _ _ (by lia)).trans ?_;rw [qCf,qBp];exact List.Perm.append_left _ p
theorem pick_perm (next:Nat->Nat) (xs:Array α):(pickOrder next xs).toList.Perm xs.toList:=by
 have:=pick_go next xs.size 0 xs.toList #[] (by simp);show (pickOrder.go next xs.size 0 xs.toList #[]).toList.Perm _;simpa using this
section
variable {prog:Program} {w:World} {K:Type} [DecidableEq K] {knd:KeyKind prog w K} {A:Around} {E:Value->Shared->Prop}
theorem w_choose {s:Shared} {src:Source} {n:Nat} (hn:n≠0) {Q:Nat->Shared->Prop} (h:∀i d,i<n->Q i {s with drawn:=d}):wpAny (model prog w) A (choose src n) Q E s:=fun _ _ _=>⟨hn,h _ _ (Nat.mod_lt _ (Nat.pos_of_ne_zero hn))⟩
theorem w_draw :∀(n:Nat) (L:List α) (s:Shared) (Q:List α->Shared->Prop),L.length=n->(∀M d,M.Perm L->Q M {s with drawn:=d})->wpAny (model prog w) A (drawOrder n L) Q E s
 | 0,L,s,Q,hl,h=>by
  have:L=[]:=qCT.mp hl;subst this;unfold drawOrder;exact qAD (h [] s.drawn (List.Perm.refl _))
 | n+1,[],s,Q,hl,h=>nomatch hl
 | n+1,x::r,s,Q,hl,h=>by
  unfold drawOrder;refine qAA (w_choose (by rw [hl];exact Nat.succ_ne_zero n) fun i d hi=>?_);obtain ⟨y,ey⟩:∃y,(x::r)[i]?=some y:=⟨(x::r)[i],qAh hi⟩;rw [ey];dsimp only;have p:=zFx ey;have hl2:=p.length_eq;rw [qAc] at hl2;refine qAA (w_draw n _ _ _ (by lia) fun M d' hM=>qAD ?_);exact h (y::M) d' ((List.Perm.cons y hM).trans p)
end
def dr (es:Array (Int×Value)) (t:SetTable):Bool:=!t.plain&&decide (es.size>1)
def ItM (w:World) (h:Heap) (a:Addr) (es:Array (Int×Value)) (ep:Nat) (t:SetTable) (ord:List Value) (i:Nat) (first:Value):Prop :=
 (byt w=true/\(∃j:Nat,first= .int j 0)/\ord=(pickOrder (w.params.setOrder a ep) es).toList.map (·.2)) \/
 (byt w=false/\∃(T:Addr) (oT:Obj) (c:Nat) (pl:List Nat),first= .ref T/\h.get? T=some oT/\oT.data= .seq (pl.map fun (p:Nat)=>Value.int p 0).toArray c/\pl.Perm (List.range es.size)/\ord=pl.filterMap fun p=>(es[p]?).map (·.2)) \/
 (byt w=false/\dr es t=false/\∃slot:Nat,first= .int slot 0/\below t.place slot=i/\ord=es.toList.map (·.2))
structure ItS (w:World) (h:Heap) (I a:Addr) (es:Array (Int×Value)) (ep:Nat) (t:SetTable) (ord:List Value) (i:Nat) (o:Obj) (first:Value):Prop where
 ho:h.get? I=some o
 hc:o.cls= .type "set_iterator"
 hd:o.data= .fields #[first,.int i 0,.ref a,.int es.size 0,.int ep 0]
 hm:ItM w h a es ep t ord i first
section
variable {prog:Program} {w:World} {K:Type} [DecidableEq K] {knd:KeyKind prog w K} {A:Around} {E:Value->Shared->Prop} {s:Shared}
variable {a I:Addr} {xs:List (List K×Addr)} {o oI:Obj} {es:Array (Int×Value)} {ep i:Nat} {t:SetTable} {ord:List Value} {first:Value}
theorem below_zero (hr:Rise t.place.toList):below t.place 0=0:=by
 have B:=zD8 hr 0;rcases Nat.eq_zero_or_pos (below t.place 0) with z| z
 ·exact z
 ·have hs:0<t.place.size:=qAp z B.le;have e:t.place[0]?=some t.place[0]:=by simp [hs]
  exact absurd (B.lo 0 _ z e) (qBu _)
theorem below_next (hr:Rise t.place.toList) {i j:Nat} (e:t.place[i]?=some j):below t.place (j+1)=i+1:=by
 have B:=zD8 hr (j+1);have hi:i<t.place.size:=(qBg.mp e).1;have h1:i<below t.place (j+1):=qDJ fun z=>by have:=B.hi i j z e;lia
 rcases Nat.lt_or_ge (i+1) (below t.place (j+1)) with z| z
 ·have hs:i+1<t.place.size:=qAp z B.le;have e2:t.place[i+1]?=some t.place[i+1]:=by simp [hs]
  have q1:=B.lo (i+1) _ z e2;have q2:=zD2 hr (qB3 i) e e2;lia
 ·lia
theorem ItM.perm (m:ItM w h a es ep t ord i first):ord.Perm (es.toList.map (·.2)):=by
 rcases m with ⟨_,_,rfl⟩| ⟨_,T,oT,c,pl,_,_,_,hp,rfl⟩| ⟨_,_,slot,_,_,rfl⟩
 ·exact (pick_perm _ es).map _
 ·have:=hp.filterMap fun p=>(es[p]?).map (·.2);refine this.trans (List.Perm.of_eq ?_);rw [<-List.map_filterMap];congr 1;have:=range_get es.toList;rw [qBC] at this;simpa using this
 ·exact List.Perm.refl _
theorem ItM.len (m:ItM w h a es ep t ord i first):ord.length=es.size:=by
 rw [m.perm.length_eq];simp
theorem ItS.typeIs (it:ItS w s.heap I a es ep t ord i oI first):s.TypeIs (.ref I) "set_iterator" := ⟨_,it.ho,it.hc⟩
theorem fm_at {pl:List Nat} (hp:pl.Perm (List.range es.size)) (i:Nat):(pl.filterMap fun p=>(es[p]?).map (·.2))[i]?=(pl[i]?).bind fun p=>(es[p]?).map (·.2):=by
 have hall:∀k∈pl,k<es.size:=fun k hk=>qA9.mp (hp.mem_iff.mp hk);clear hp
 induction pl generalizing i with
 | nil=>simp
 | cons k ks ih =>
  have hk:=hall k qAT;have e:es[k]?=some es[k]:=by simp [hk]
  have ih':=fun i=>ih i fun q hq=>hall q (qAR _ hq);rw [qCJ,e]
  cases i with
  | zero=>simp [e]
  | succ i =>
   show (_::_)[i+1]?=_;rw [qCh,ih' i,qCh]
theorem w_item (X:SetX knd s.heap a xs o es ep t) (it:ItS w s.heap I a es ep t ord i oI first) (hne:I≠a) {v:Value} (hv:ord[i]?=some v) {Q:Option Value->Shared->Prop}
  (h:∀h' o' f',Heap.SameBut I s.heap h'->ItS w h' I a es ep t ord (i+1) o' f'->(∀T,f'= .ref T->first= .ref T)->Q (some v) {s with heap:=h'}):wpAny (model prog w) A (pyNext (.ref I)) Q E s:=by
 unfold pyNext;refine qAA (qB7 (qDK (name:=Str.ofString "__next__") it.typeIs zD9 (qBw zD9 it.typeIs en_next ?_ (ar_next _))));unfold Builtin.«set_iterator.__next__»;refine qAA (m:=slotArgs "__next__" 0 _) (qAD ?_);refine qAA (qDL it.ho it.hd ?_);dsimp only;refine qAA (wpAny_setEntries_of X.ho X.hd X.fits ?_);refine zCw (by simp) ?_;rcases it.hm with ⟨m1,⟨j,rfl⟩,m3⟩| ⟨m1,T,oT,c,pl,rfl,m3,m4,m5,m6⟩| ⟨m1,m2,slot,rfl,m4,m5⟩
 ·dsimp only;refine qAA ?_;unfold setNext;refine qAA (X.state ?_);dsimp only;refine qAA (qAA (qBZ (qAD ?_)));refine zEl m1 ?_;refine zCw (by simp) ?_;refine qAA ?_;unfold setWalk;refine qAA (X.state ?_);dsimp only;refine qAA (qAA (qBZ (qAD ?_)));refine zEl m1 ?_;refine qAA (qBZ (qAD (qAD ?_)))
  have e1:(pickOrder (w.params.setOrder a ep) es)[i]?.map (·.2)=some v:=by
   rw [m3,qAW] at hv;rw [<-qAo];exact hv
  obtain ⟨q,q1,q2⟩:=qA6.mp e1;subst q2;have e2:(pickOrder ((model prog w).w.params.setOrder a ep) es)[(i:Int).toNat]?=some q:=q1
  erw [e2]
  show wpAny _ _ (setField (.ref I) 0 (rawInt _) >>= _) _ _ _;refine qAA (qBR it.ho it.hd (by simp) ?_);have g1:=qBJ (Obj.mapFields (·.setIfInBounds 0 (rawInt (j:Int).toNat))) it.ho (qCB (qA2 it.hd _));refine qAA (qBR g1 (qA2 it.hd _) (by simp) ?_);refine qAD ⟨_,rfl,qAD (h _ _ _ ((qAj ..).trans (qAj ..)) ⟨qBJ _ g1 (qCB (qA2 (qA2 it.hd _) _)),?_,?_,.inl ⟨m1,⟨j,rfl⟩,m3⟩⟩ (fun T z=>nomatch z))⟩
  ·rw [qCU,qCU];exact it.hc
  ·rw [qA2 (qA2 it.hd _)];simp [rawInt]
 ·dsimp only
  have hTI:T≠I:=fun z=>by
   subst z;have:=qAa (m3.symm.trans it.ho);subst this;rw [it.hd] at m4;exact nomatch m4
  refine qAA (m:=seqItems? (.ref T)) (wpAny_seqItems m3 m4 ?_);dsimp only;rw [m6,fm_at m5] at hv;obtain ⟨p,p1,p2⟩:=Option.bind_eq_some_iff.mp hv;obtain ⟨q,q1,q2⟩:=qA6.mp p2;subst q2
  have e1:(pl.map fun (p:Nat)=>Value.int p 0).toArray[(i:Int).toNat]?=some (.int p 0):=by
   simp [p1]
  rw [e1];dsimp only;refine qAA ?_;unfold setNextDrawn;refine qAA (X.state ?_);dsimp only;refine zCw (by simp) ?_;have e2:es[(p:Int).toNat]?=some q:=q1;rw [e2];refine qAD ?_;refine qAA (qBR it.ho it.hd (by simp) ?_);refine qAD ⟨_,rfl,qAD (h _ _ _ (qAj ..) ⟨qBJ _ it.ho (qCB (qA2 it.hd _)),(qCU ..).trans it.hc,?_,.inr (.inl ⟨m1,T,oT,c,pl,rfl,?_,m4,m5,m6⟩)⟩ (fun T z=>z))⟩
  ·rw [qA2 it.hd];simp [rawInt]
  ·exact ((qAj s.heap I _).2 T hTI).trans m3
 ·dsimp only;refine qAA ?_;unfold setNext;refine qAA (X.state ?_);dsimp only;refine qAA (qAA (qBZ (qAD ?_)));refine zCw (by show¬(byt w=true);rw [m1];decide) ?_;refine zCw (show¬(dr es t=true) by rw [m2];decide) ?_;refine qAA (zCw (show¬((!t.led&& !es.isEmpty)=true) by rw [X.ld,m1];simp) (qAD ?_))
  have hl:i<es.size:=by
   rw [<-it.hm.len];exact (qAd.mp hv).1
  have hl2:i<t.place.size:=by
   rw [X.ok.n,qAE,<-X.size];exact hl
  have e1:es[i]?=some es[i]:=by simp [hl]
  have e2:t.place[i]?=some t.place[i]:=by simp [hl2]
  have e3:es[i].2=v:=by
   rw [m5,qAW,qAo,e1] at hv;exact qAa hv
  have e4:below t.place (slot:Int).toNat=i:=m4;rw [e4,e1,e2];refine qAD ?_;show wpAny _ _ (setField (.ref I) 0 (rawInt _) >>= _) _ _ _;refine qAA (qBR it.ho it.hd (by simp) ?_);have g1:=qBJ (Obj.mapFields (·.setIfInBounds 0 (rawInt ((t.place[i]+1:Nat):Int)))) it.ho (qCB (qA2 it.hd _));refine qAA (qBR g1 (qA2 it.hd _) (by simp) ?_);subst e3;refine qAD ⟨_,rfl,qAD (h _ _ _ ((qAj ..).trans (qAj ..)) ⟨qBJ _ g1 (qCB (qA2 (qA2 it.hd _) _)),?_,?_,.inr (.inr ⟨m1,m2,t.place[i]+1,rfl,below_next X.ok.r e2,m5⟩)⟩ (fun T z=>nomatch z))⟩
  ·rw [qCU,qCU];exact it.hc
  ·rw [qA2 (qA2 it.hd _)];simp [rawInt]
theorem w_stop {s:Shared} {Q:Option Value->Shared->Prop} (hh:A.handled=none) (h:∀h',(∀b o,s.heap.get? b=some o->h'.get? b=some o)->Q none {s with heap:=h'}) :
  wpAny (model prog w) A.in1 (newExc (.type "StopIteration") [] >>= fun e=>(raiseNew e:Sem Fin)) (fun fin s'=>∃r,fin= .done (.ret r)/\wpAny (model prog w) A (pure (some r)) Q E s')
   (fun e s'=>wpAny (model prog w) A (isInstance e (.type "StopIteration") >>= fun b=>if b=true then pure none else throw e) Q E s') s:=by
 refine qAA ?_;simp only [newExc,newTuple];refine qAA (qBf ?_ (by size_fits));refine qAA (m:=firstArgMember _ _) (wpAny_of_eq (a:=Value.none) (by first| rfl| (simp only [firstArgMember];rfl)) ?_);refine qBf ?_ (by size_fits);simp only [raiseNew];refine qAA (wpAny_handled ?_);rw [show A.in1.handled=none from hh];refine qAA (qAD (wpAny_throw ?_));refine qAA (qDM (T:= "StopIteration") (b:=true) ⟨_,qAb _ rfl,rfl⟩ isSubtype_stop ?_);exact qAD (h _ fun b o q=>qAJ _ (qAJ _ q))
theorem w_done (hh:A.handled=none) (X:SetX knd s.heap a xs o es ep t) (it:ItS w s.heap I a es ep t ord i oI first) (hv:ord[i]?=none) {Q:Option Value->Shared->Prop}
  (h:∀h',(∀b o,b≠I->s.heap.get? b=some o->h'.get? b=some o)->Q none {s with heap:=h'}):wpAny (model prog w) A (pyNext (.ref I)) Q E s:=by
 unfold pyNext;refine qAA (qB7 (qDK (name:=Str.ofString "__next__") it.typeIs zD9 (qBw zD9 it.typeIs en_next ?_ (ar_next _))));unfold Builtin.«set_iterator.__next__»;refine qAA (m:=slotArgs "__next__" 0 _) (qAD ?_);refine qAA (qDL it.ho it.hd ?_);dsimp only;refine qAA (wpAny_setEntries_of X.ho X.hd X.fits ?_);refine zCw (by simp) ?_;have up:∀h1,Heap.SameBut I s.heap h1->∀h',(∀b o,h1.get? b=some o->h'.get? b=some o)->Q none {s with heap:=h'}:=fun h1 sb h' q=>h h' fun b o hb z=>q b o ((sb.2 b hb).trans z);rcases it.hm with ⟨m1,⟨j,rfl⟩,m3⟩| ⟨m1,T,oT,c,pl,rfl,m3,m4,m5,m6⟩| ⟨m1,m2,slot,rfl,m4,m5⟩
 ·dsimp only;refine qAA ?_;unfold setNext;refine qAA (X.state ?_);dsimp only;refine qAA (qAA (qBZ (qAD ?_)));refine zEl m1 ?_;refine zCw (by simp) ?_;refine qAA ?_;unfold setWalk;refine qAA (X.state ?_);dsimp only;refine qAA (qAA (qBZ (qAD ?_)));refine zEl m1 ?_;refine qAA (qBZ (qAD (qAD ?_)))
  have e1:(pickOrder (w.params.setOrder a ep) es)[i]?.map (·.2)=none:=by
   rw [m3,qAW] at hv;rw [<-qAo];exact hv
  have e2:(pickOrder ((model prog w).w.params.setOrder a ep) es)[(i:Int).toNat]?=none:=qDk.mp e1
  erw [e2]
  show wpAny _ _ (setField (.ref I) 2 Value.none >>= _) _ _ _;refine qAA (qBR it.ho it.hd (by simp) ?_);refine w_stop hh ?_;exact up _ (qAj ..)
 ·dsimp only;refine qAA (m:=seqItems? (.ref T)) (wpAny_seqItems m3 m4 ?_);dsimp only
  have e1:(pl.map fun (p:Nat)=>Value.int p 0).toArray[(i:Int).toNat]?=none:=by
   have h1:ord.length<=i:=qDj.mp hv;rw [it.hm.len] at h1;have h2:=m5.length_eq;rw [List.length_range] at h2;simp only [qCY,List.getElem?_toArray,qAW,qDk,qDj];lia
  rw [e1];dsimp only;refine qAA (qBR it.ho it.hd (by simp) ?_);have g1:=qBJ (Obj.mapFields (·.setIfInBounds 0 (rawInt 0))) it.ho (qCB (qA2 it.hd _));refine qAA (qBR g1 (qA2 it.hd _) (by simp) ?_);refine w_stop hh ?_;exact up _ ((qAj ..).trans (qAj ..))
 ·dsimp only;refine qAA ?_;unfold setNext;refine qAA (X.state ?_);dsimp only;refine qAA (qAA (qBZ (qAD ?_)));refine zCw (by show¬(byt w=true);rw [m1];decide) ?_;refine zCw (show¬(dr es t=true) by rw [m2];decide) ?_;refine qAA (zCw (show¬((!t.led&& !es.isEmpty)=true) by rw [X.ld,m1];simp) (qAD ?_))
  have e1:es[i]?=none:=by
   rw [m5,qAW,qAo] at hv;exact qDk.mp hv
  have e4:below t.place (slot:Int).toNat=i:=m4;rw [e4,e1];refine qAD ?_;show wpAny _ _ (setField (.ref I) 2 Value.none >>= _) _ _ _;refine qAA (qBR it.ho it.hd (by simp) ?_);refine w_stop hh ?_;exact up _ (qAj ..)
theorem w_self (it:ItS w s.heap I a es ep t ord i oI first) {Q:Value->Shared->Prop} (h:Q (.ref I) s):wpAny (model prog w) A (pyIter (.ref I)) Q E s:=by
 refine wpAny_pyIter_slot it.typeIs sl_self (qBw sl_self it.typeIs en_self ?_ (ar_self _));show wpAny _ _ (ret (.ref I)) _ _ s;exact qAD ⟨_,rfl, "set_iterator",_,it.typeIs,zD9.lookup,h⟩
theorem SetX.typeIs (X:SetX knd s.heap a xs o es ep t):s.TypeIs (.ref a) "set" := ⟨_,X.ho,X.ex.1⟩
theorem w_iter (X:SetX knd s.heap a xs o es ep t) (hn:xs.length<=306) {Q:Value->Shared->Prop}
  (h:∀I h' d ord oI first,(∀b o,s.heap.get? b=some o->h'.get? b=some o)->s.heap.objs.size<=I->ItS w h' I a es ep t ord 0 oI first->(∀T,first= .ref T->s.heap.objs.size<=T)->Q (.ref I) {s with heap:=h',drawn:=d}):wpAny (model prog w) A (pyIter (.ref a)) Q E s:=by
 refine wpAny_pyIter_slot X.typeIs F.slot_set_iter (qBw F.slot_set_iter X.typeIs en_iter ?_ (F.args_set_iter_1 _));unfold Builtin.«frozenset.__iter__» Builtin.Frozenset.slot0;refine qAA (qAA (m:=slotArgs "__iter__" 0 _) (qAD (qAD ?_)));dsimp only;unfold Builtin.Frozenset.sizeOf;refine qAA (qAA (wpAny_setEntries_of X.ho X.hd X.fits (qAD ?_)));unfold setDrawn;refine qAA (qAA (X.state (qAA (qAA (qBZ (qAD (qAD ?_)))))));have hsz:es.size<=306:=by rw [X.size];exact hn
 by_cases c:(!byt w&&dr es t)=true
 ·refine zEl c ?_;have c1:byt w=false:=by cases z:byt w<;>simp [z] at c ⊢
  refine qAA (w_draw es.size (List.range es.size) s _ (by simp) fun pl d hp=>?_);have hpl:pl.length=es.size:=by rw [hp.length_eq];simp
  refine qAA (qDN ?_ (by rw [qAE,hpl];exact qAX hsz (by decide +kernel)));refine qAA (wpAny_setEpoch_of (qAJ _ X.ho) X.hd X.fits ?_);refine qAA (qBf (qAD ⟨_,rfl, "set_iterator",_,⟨_,qAb _ rfl,rfl⟩,zD9.lookup,?_⟩));refine h _ _ d (pl.filterMap fun p=>(es[p]?).map (·.2)) _ (.ref s.heap.objs.size) (fun b o q=>qAJ _ (qAJ _ q)) ?_ ⟨qAb _ rfl,rfl,rfl,.inr (.inl ⟨c1,_,_,_,pl,rfl,qAJ _ (qAb _ rfl),rfl,hp,rfl⟩)⟩ (fun T z=>by cases z;exact qAG _);show s.heap.objs.size<=(s.heap.push _).objs.size;rw [qBm];exact qCL _
 ·refine zCw c ?_;refine qAA (qAD ?_);refine qAA (wpAny_setEpoch_of X.ho X.hd X.fits ?_);refine qAA (qBf (qAD ⟨_,rfl, "set_iterator",_,⟨_,qAb _ rfl,rfl⟩,zD9.lookup,?_⟩))
  cases z:byt w with
  | true =>
   exact h _ _ s.drawn ((pickOrder (w.params.setOrder a ep) es).toList.map (·.2)) _ (.int 0 0) (fun b o q=>qAJ _ q) (qAG _) ⟨qAb _ rfl,rfl,rfl,.inl ⟨z,⟨0,rfl⟩,rfl⟩⟩ (fun T z=>nomatch z)
  | false =>
   have c2:dr es t=false:=by rw [z] at c;simpa using c
   exact h _ _ s.drawn (es.toList.map (·.2)) _ (.int 0 0) (fun b o q=>qAJ _ q) (qAG _) ⟨qAb _ rfl,rfl,rfl,.inr (.inr ⟨z,c2,0,rfl,below_zero X.ok.r,rfl⟩)⟩ (fun T z=>nomatch z)
end
theorem len_set:typeLookup (.type "set") "__len__" = pure (some (.builtin "set.__len__")):=by rw [qCl,qCm];kernel_rfl
section
variable {prog:Program} {w:World} {K:Type} [DecidableEq K] {knd:KeyKind prog w K} {A:Around} {E:Value->Shared->Prop} {s:Shared}
variable {a I:Addr} {xs:List (List K×Addr)} {o oI:Obj} {es:Array (Int×Value)} {ep i:Nat} {t:SetTable} {ord:List Value} {first:Value}
def WSt (knd:KeyKind prog w K) (a I:Addr) (xs:List (List K×Addr)) (o:Obj) (es:Array (Int×Value)) (ep:Nat) (t:SetTable) (ord:List Value) (Ts:List Addr) (i:Nat) (s:Shared):Prop :=
 ∃oI first,SetX knd s.heap a xs o es ep t/\ItS w s.heap I a es ep t ord i oI first/\∀T,first= .ref T->T∈Ts
theorem w_walks (hh:A.handled=none) (a I:Addr) (hne:I≠a) (xs:List (List K×Addr)) (hx:∀p∈xs,p.2≠I) (o:Obj) (es:Array (Int×Value)) (ep:Nat) (t:SetTable) (ord:List Value) (Ts:List Addr) (hT:I∉Ts) :
  WalksS prog w A I (I::a::(xs.map (·.2)++Ts)) [I] (fun a b=>b=a) ord.length (fun i v=>ord[i]?=some v) (WSt knd a I xs o es ep t ord Ts) where
 sub:=fun b hb=>by rw [qAP.mp hb];exact qAT
 grefl:=fun _=>rfl
 gtrans:=fun _ _ _ x y=>y.trans x
 frame:=fun i s h' tk ⟨oI,first,X,it,hf⟩ _ hk=>by
  refine ⟨oI,first,X.kept fun b o hb q=>hk b ?_ o q,⟨hk I qAT _ it.ho,it.hc,it.hd,?_⟩,hf⟩
  ·rcases hb with rfl| ⟨p,hp,rfl⟩
   ·exact qAR _ qAT
   ·exact qAR _ (qAR _ (qAs _ (qAH.mpr ⟨p,hp,rfl⟩)))
  ·rcases it.hm with m| ⟨m1,T,oT,c,pl,m2,m3,m4⟩| m
   ·exact .inl m
   ·exact .inr (.inl ⟨m1,T,oT,c,pl,m2,hk T (qAR _ (qAR _ (qAu _ (hf T m2)))) _ m3,m4⟩)
   ·exact .inr (.inr m)
 item:=fun i s Q E hi ⟨oI,first,X,it,hf⟩ hQ=>by
  refine w_item X it hne (v:=ord[i]) (by simp [hi]) fun h' o' f' sb it' hf'=>hQ _ _ (by simp [hi]) ⟨o',f',X.kept fun b o hb q=>?_,it',fun T z=>hf T (hf' T z)⟩ ⟨fun b o hb q=>(sb.2 b fun z=>hb (z▸qAT)).trans q,rfl,rfl,rfl,qAG _⟩;rcases hb with rfl| ⟨p,hp,rfl⟩
  ·exact (sb.2 _ (qAr hne)).trans q
  ·exact (sb.2 _ (hx p hp)).trans q
 done:=fun s Q E ⟨oI,first,X,it,hf⟩ hQ=>w_done hh X it (by simp) fun h' q=>hQ _ ⟨fun b o hb=>q b o fun z=>hb (z▸qAT),rfl,rfl,rfl,qAG _⟩
 self:=fun i s Q E ⟨oI,first,X,it,hf⟩ hQ=>w_self it hQ
theorem items_ord {acc:Array Value} (h:ItemsOf (fun i v=>ord[i]?=some v) acc ord.length):acc.toList=ord:=by
 refine qDO fun i=>?_;rw [qAo]
 cases e:acc[i]? with
 | some v=>exact (h.2 i v e).symm
 | none =>
  have:=Array.getElem?_eq_none_iff.mp e;rw [h.1] at this;exact (qCi this).symm
theorem w_collect (hh:A.handled=none) (X:SetX knd s.heap a xs o es ep t) (hn:xs.length<=306) {Q:List Value->Shared->Prop}
  (h:∀s' vs,vs.Perm (xs.map fun p=>.ref p.2)->(∀b o,s.heap.get? b=some o->s'.heap.get? b=some o)->s'.gens=s.gens->s'.os=s.os->s.toks<=s'.toks->Q vs s'):wpAny (model prog w) A (collect (.ref a)) Q E s:=by
 unfold collect;refine qAA (wpAny_runValue (qBY F.entry_proto_collect ?_));rw [qBk F.plain_proto_collect _];change wpAny _ A.in1 (newList [] >>= fun l=>again (.builtin "list.__iadd__" ⟨[l,Value.ref a],[]⟩)) _ _ s;refine qAA (qBf ?_);refine qAD ⟨qCk F.plain_list_iadd _,qBY F.entry_list_iadd ?_⟩;rw [qBk F.plain_list_iadd _];generalize hL:s.heap.objs.size=L;have hS1:(s.heap.push {cls:=.type "list",data:=.seq ([]:List Value).toArray}).get? L=some {cls:=.type "list",data:=.seq ([]:List Value).toArray}:=by rw [<-hL];exact qAb _ rfl
 generalize hH1:s.heap.push {cls:=.type "list",data:=.seq ([]:List Value).toArray}=H1 at hS1 ⊢;have up1:∀b o,s.heap.get? b=some o->H1.get? b=some o:=fun b o q=>by rw [<-hH1];exact qAJ _ q
 have sz1:H1.objs.size=L+1:=by rw [<-hH1,qBm,hL]
 have below:∀b o,s.heap.get? b=some o->b<L:=fun b o q=>by rw [<-hL];exact qAL q
 have X1:SetX knd H1 a xs o es ep t:=X.kept fun b o _ q=>up1 b o q;have haL:a≠L:=qAZ (below a _ X.ho);change wpAny _ A.in1 (Builtin.List.listExtendWith (Value.ref L) (.ref a) (.ref L)) _ _ _;unfold Builtin.List.listExtendWith;refine qAA (qDF (T:= "set") ⟨_,X1.ho,X1.ex.1⟩ ?_);have n1:Builtin.List.listSameRef (.ref L) (.ref a)=false:=by simp [Builtin.List.listSameRef,qAr haL]
 refine zCw (by rw [n1];decide) ?_;refine qAA (w_iter (s:={s with heap:=H1}) X1 hn fun I h2 d ord oI first up2 hI it hf=>?_);have hI:L+1<=I:=by rw [<-sz1];exact hI
 have X2:SetX knd h2 a xs o es ep t:=X1.kept fun b o _ q=>up2 b o q;refine qAA (qAz ?_);unfold Builtin.List.listLengthHint;have T2:Shared.TypeIs {s with heap:=h2,drawn:=d} (.ref a) "set" := ⟨_,X2.ho,X2.ex.1⟩;refine qAA (qCc T2 len_set ?_);generalize hid:("set.__len__" : String)=id0;dsimp only;rw [show splitId id0=some ("set", "__len__") from by subst hid;decide +kernel];subst hid;dsimp only;refine qAA (qDM (b:=true) T2 sub_set_self ?_);refine zCw (by decide) ?_;refine zEl (by decide +kernel) ?_;refine qAA (qDF T2 ?_);refine qAD ?_;refine zEl (by decide +kernel) ?_;refine qAA (qBL ?_);have hS2:=up2 L _ hS1;refine qAA ?_;change wpAny _ A.in1 (updateSeq L (·.push Value.none) >>= fun _=>updateSeq L (·.pop)) _ _ _;refine qAA (qCV hS2 rfl ?_);have hS3:=qBJ (Obj.mapSeq (·.push Value.none)) hS2 rfl;refine qCV hS3 rfl ?_;have hS4:=qBJ (Obj.mapSeq (·.pop)) hS3 rfl;dsimp only;have sb:Heap.SameBut L h2 ((h2.update L (Obj.mapSeq (·.push Value.none))).update L (Obj.mapSeq (·.pop))):=(qAj ..).trans (qAj ..);generalize hH4:(h2.update L (Obj.mapSeq (·.push Value.none))).update L (Obj.mapSeq (·.pop))=H4 at hS4 sb ⊢
 have hIa:I≠a:=fun z=>by
  have:=below a _ X.ho;rw [<-z] at this;exact absurd this (qCj.mpr (Nat.le_of_succ_le hI))
 have hxI:∀p∈xs,p.2≠I:=fun p hp z=>by
  obtain ⟨ob,_,_,q,_⟩:=X.ky p hp;have:=below _ _ q;rw [z] at this;exact absurd this (qCj.mpr (Nat.le_of_succ_le hI))
 obtain ⟨Ts,hTs,hT1⟩:∃Ts:List Addr,(∀T,first= .ref T->T∈Ts)/\∀T∈Ts,first= .ref T:=by
  cases first with
  | ref T=>exact ⟨[T],fun T' z=>by cases z;exact qAP.mpr rfl,fun T' z=>by rw [qAP.mp z]⟩
  | _=>exact ⟨[],(fun T z=>nomatch z),(fun T z=>nomatch z)⟩
 have hTge:∀T∈Ts,L+1<=T:=fun T hT=>by rw [<-sz1];exact hf T (hT1 T hT)
 have hTI:I∉Ts:=fun z=>by
  rcases it.hm with ⟨_,⟨j,e⟩,_⟩| ⟨_,T,oT,c,pl,e,m3,m4,_⟩| ⟨_,_,j,e,_⟩
  ·have:=(hT1 _ z).symm.trans e;exact nomatch this
  ·have:=(hT1 _ z).symm.trans e
   cases this
   have:=qAa (m3.symm.trans it.ho);subst this;rw [it.hd] at m4;exact nomatch m4
  ·have:=(hT1 _ z).symm.trans e;exact nomatch this
 have W:=w_walks (prog:=prog) (w:=w) (knd:=knd) (A:=A.in1) hh a I hIa xs hxI o es ep t ord Ts hTI
 have hLf:L∉I::a::(xs.map (·.2)++Ts):=fun z=>by
  rcases qAN.mp z with z| z
  ·rw [<-z] at hI;exact absurd hI (Nat.not_succ_le_self L)
  rcases qAN.mp z with z| z
  ·exact haL z.symm
  rcases qAU.mp z with z| z
  ·obtain ⟨p,hp,e⟩:=qAH.mp z;obtain ⟨ob,_,_,q,_⟩:=X.ky p hp;have:=below _ _ q;rw [e] at this;exact qA3 _ this
  ·exact absurd (hTge _ z) (Nat.not_succ_le_self L)
 have hol:ord.length<=sizeLine:=by
  rw [it.hm.len,X.size];exact qAX hn (by decide +kernel)
 have st2:WSt knd a I xs o es ep t ord Ts 0 {s with heap:=h2,drawn:=d}:=⟨oI,first,X2,it,hTs⟩;have st4:=W.frame 0 _ H4 s.toks st2 (qAG _) fun b hb ob q=>(sb.2 b fun z=>hLf (z▸hb)).trans q;refine qAD ⟨qCk F.plain_extend_loop _,codeAny_extend_loopS W hol L hLf _ ord.length 0 _ _ _ rfl (qAY _) st4 hS4 (ItemsOf.nil _) fun s' acc c' mv hS' hacc=>?_⟩;change wpAny _ A (load L >>= _) _ _ s';refine qAA (qB2 hS' ?_);refine qAD (h s' acc.toList ?_ (fun b ob q=>?_) mv.gens mv.os mv.toks)
 ·rw [items_ord hacc];refine it.hm.perm.trans (List.Perm.of_eq ?_);rw [X.el,qA1];rfl
 ·have hb:=below b ob q;refine mv.heap b ob ?_ ((sb.2 b (qAZ hb)).trans (up2 b ob (up1 b ob q)));intro z;rcases qAN.mp z with z| z
  ·exact qAZ hb z
  ·rw [qAP.mp z] at hb;exact absurd hb (qCj.mpr (Nat.le_of_succ_le hI))
end
end ST
namespace ST
open PySem PyProof.Rows PySem.W
variable {vs:List Value}
abbrev sg (x:Str):List Nat:=x.cps.toList
theorem sg_inj {x y:Str} (h:sg x=sg y):x=y:=by
 cases x;cases y
 exact qAf Str.mk (Array.toList_inj.mp h)
def tlt:List Str->List Str->Bool
 | [],[]=>false
 | [],_::_=>true
 | _::_,[]=>false
 | x::r,y::q=>if x=y then tlt r q else decide (sg x<sg y)
theorem sg_tri (x y:Str):sg x<sg y\/x=y\/sg y<sg x:=by
 by_cases h1:sg x<sg y
 ·exact .inl h1
 by_cases h2:sg y<sg x
 ·exact .inr (.inr h2)
 ·exact .inr (.inl (sg_inj (List.le_antisymm (List.not_lt.mp h2) (List.not_lt.mp h1))))
theorem tlt_irr:∀a,tlt a a=false
 | []=>rfl
 | x::r=>by unfold tlt;rw [qAC rfl];exact tlt_irr r
theorem zGr:∀a b c,tlt a b=true->tlt b c=true->tlt a c=true
 | [],[],c,h1,h2=>h2
 | [],_::_,[],h1,h2=>by simp [tlt] at h2
 | [],_::_,_::_,h1,h2=>rfl
 | _::_,[],c,h1,h2=>by simp [tlt] at h1
 | x::r,y::q,[],h1,h2=>by simp [tlt] at h2
 | x::r,y::q,z::p,h1,h2=>by
  unfold tlt at h1 h2 ⊢
  by_cases e1:x=y
  ·subst e1;rw [qAC rfl] at h1
   by_cases e2:x=z
   ·subst e2;rw [qAC rfl] at h2 ⊢;exact zGr r q p h1 h2
   ·rw [qAB e2] at h2 ⊢;exact h2
  ·rw [qAB e1] at h1
   by_cases e2:y=z
   ·subst e2;rw [qAB e1];exact h1
   ·rw [qAB e2] at h2;have q1:=qAt h1;have q2:=qAt h2;have q3:=List.lt_trans q1 q2;rw [qAB fun e=>by subst e;exact List.lt_irrefl _ q3];exact qAV q3
theorem tlt_tot:∀a b,tlt a b=false->tlt b a=false->a=b
 | [],[],_,_=>rfl
 | [],_::_,h,_=>by simp [tlt] at h
 | _::_,[],_,h=>by simp [tlt] at h
 | x::r,y::q,h1,h2=>by
  unfold tlt at h1 h2
  by_cases e:x=y
  ·subst e;rw [qAC rfl] at h1 h2;rw [tlt_tot r q h1 h2]
  ·rw [qAB e] at h1;rw [qAB (qAr e)] at h2;rcases sg_tri x y with z| z| z
   ·exact absurd z (qDP h1)
   ·exact absurd z e
   ·exact absurd z (qDP h2)
theorem tlt_neg (a b c:List Str) (h:tlt a c=true):tlt a b=true\/tlt b c=true:=by
 cases h1:tlt a b with
 | true=>exact .inl rfl
 | false =>
  right
  cases h2:tlt b a with
  | true=>exact zGr b a c h2 h
  | false=>rw [<-tlt_tot a b h1 h2];exact h
@[reducible] def tupK (f:Addr->Option (List Str)):PyProof.Rows.KeyKind where
 α:=List Str
 blt:=tlt
 irrefl:=tlt_irr
 trans:=zGr
 negTrans:=tlt_neg
 total:=tlt_tot
 keyOf v:=match v with| .ref b=>f b| _=>none
 dflt:=[]
section
variable {prog:Program} {w:World} {A:Around} {E:Value->Shared->Prop} {s:Shared}
theorem zFu {ks:List Str} (h:ItemsAre (PySem.strKind prog w) ks vs):StrsAre vs ks:=by
 induction h with
 | nil=>exact .nil
 | @cons k v ks vs h1 _ ih =>
  obtain ⟨t,rfl⟩:=Value.isStrOf_shape h1;exact .cons k t ih
theorem kat_strs {b fin:Bool} {Q:Bool->Shared->Prop}:∀{xs ys:List Value} {ax ay:List Str},StrsAre xs ax->StrsAre ys ay->∀i,fin=decide (xs.length<ys.length)->Q (tlt ax ay) s->KatLex prog w A b fin Q (xs.zip ys) i s
 | _,_,_,_,.nil,.nil,i,e,h=>by subst e;exact kat_nil h
 | _,_,_,_,.nil,.cons y t hy,i,e,h=>by subst e;exact kat_nil h
 | _,_,_,_,.cons x t hx,.nil,i,e,h=>by subst e;exact kat_nil h
 | _,_,_,_,.cons x t hx,.cons y u hy,i,e,h=>by
  rw [List.zip_cons_cons];refine kat_cons (wpAny_eqBool_str ?_);unfold tlt at h
  by_cases c:x=y
  ·rw [qAC c] at h;rw [qAV c];refine kat_yes (kat_strs hx hy (i+1) ?_ h);rw [e];simp
  ·rw [qAB c] at h;rw [qAl c];refine kat_no ?_
   cases z:(b&&i==0) with
   | true=>exact oneLt_str h
   | false=>exact kat_one _ _ (lt_str h)
theorem strs_len {ss:List Str} (h:StrsAre vs ss):vs.length=ss.length:=by
 induction h with
 | nil=>rfl
 | cons _ _ _ ih=>simp [ih]
theorem tup_cmp (f:Addr->Option (List Str)) (hf:∀b k,f b=some k->IsTupleKey (PySem.strKind prog w) s.heap k b) (b:Bool):Tim.CmpOk prog w A s (tuples' b) (tupK f):=by
 intro E x y a c Q hx hy h
 cases x<;>simp only [reduceCtorEq] at hx
 cases y<;>simp only [reduceCtorEq] at hy
 obtain ⟨ox,ix,nx,x1,_,x2,x3⟩:=hf _ _ hx;obtain ⟨oy,iy,ny,y1,_,y2,y3⟩:=hf _ _ hy;exact kat_lt x1 x2 y1 y2 (kat_strs (zFu x3) (zFu y3) 0 (by simp) h)
end
theorem zIp {xs:Array Keyed} (hp:xs.Perm (pairsOf vs)):(xs.map (·.2)).toList.Perm vs:=by
 have hl:xs.toList.Perm (vs.zip vs):=by rw [<-pairsOf_toList];exact qCn.mp hp
 have:=hl.map (·.2);rw [List.map_snd_zip (qAG _)] at this
 rwa [Array.toList_map]
section
variable {prog:Program} {w:World} {A:Around} {E:Value->Shared->Prop} {s:Shared}
structure Sortable (prog:Program) (w:World) (A:Around) (κ:PyProof.Rows.KeyKind) (kd:SortKind) (vs:List Value) (s:Shared):Prop where
 cmp:Tim.CmpOk prog w A s kd κ
 kind:2<=vs.length->∀(E:Value->Shared->Prop) (Q:SortKind->Shared->Prop),Q kd s->wpAny (model prog w) A (keyKind' vs.toArray) Q E s
 has:∀v∈vs,∃k,κ.keyOf v=some k
theorem srt_heap {h:Heap} {a:Addr} {n:Nat} {out:Array Value} (ho:h.get? a=some (seqObj "list" vs.toArray n)):(∃c,(sortedHeap h a vs out).get? a=some (seqObj "list" out c))/\∀b o,b≠a->h.get? b=some o->(sortedHeap h a vs out).get? b=some o:=by
 have ha:a<h.objs.size:=qAL ho;have h1:(h.update a (Obj.mapSeq fun _=>#[])).get? a=some (seqObj "list" #[] _):=qBS ho fun _=>#[];have h2:=qAJ (seqObj "list" #[] 0) (qAJ (seqObj "tuple" vs.toArray 0) h1);refine ⟨⟨_,qBS h2 fun _=>out⟩,fun b o hb q=>?_⟩;unfold sortedHeap;rw [qBo _ _ (qAr hb)];refine qAJ _ (qAJ _ ?_);rw [qBo _ _ (qAr hb)];exact q
end
section
variable {prog:Program} {w:World} {A:Around} {E:Value->Shared->Prop} {s:Shared}
abbrev Up (h h':Heap):Prop:=∀b o,h.get? b=some o->h'.get? b=some o
end
section
variable {prog:Program} {w:World} {A:Around} {E:Value->Shared->Prop} {s:Shared}
theorem tups_sortable {ks:List (List Str×Addr)} (hv:vs.Perm (ks.map fun p=>.ref p.2)) (ky:∀p∈ks,IsTupleKey (PySem.strKind prog w) s.heap p.1 p.2) (hne:∀p∈ks,p.1≠[]) :
  Sortable prog w A (tupK fun b=>(ks.find? fun p=>p.2==b).map (·.1)) (tuples' true) vs s:=by
 have look:∀p∈ks,∃q∈ks,(ks.find? fun p'=>p'.2==p.2)=some q/\q.2=p.2:=fun p hp=>by
  cases e:ks.find? fun p'=>p'.2==p.2 with
  | none=>exact absurd (List.find?_eq_none.mp e p hp) (by simp)
  | some q=>exact ⟨q,qDg e,rfl,by simpa using List.find?_some e⟩
 refine ⟨tup_cmp _ (fun b k e=>?_) true,fun h2 E Q h=>?_,fun v hvm=>?_⟩
 ·obtain ⟨p,p1,p2⟩:=qA6.mp e;have p3:p.2=b:=by simpa using List.find?_some p1
  rw [<-p2,<-p3];exact ky p (qDg p1)
 ·have go:∀(us:List Value),(∀u∈us,∃p∈ks,u= .ref p.2)->∃fs:List Value,KatTups s.heap us fs/\fs.length=us.length/\∀f∈fs,∃x t,f= .str x t:=by
   intro us
   induction us with
   | nil=>intro _;exact ⟨[],.nil,rfl,(fun f hf=>nomatch hf)⟩
   | cons u us ih =>
    intro hu;obtain ⟨fs,t1,t2,t3⟩:=ih fun u hu'=>hu u (qAR _ hu');obtain ⟨p,hp,rfl⟩:=hu u qAT;obtain ⟨ob,its,n,q1,q2,q3,q4⟩:=ky p hp;have q5:=zFu q4;have q6:=hne p hp;generalize hk:p.1=k at q5 q6;generalize hl:its.toList=l at q5
    cases q5 with
    | nil=>exact absurd rfl q6
    | cons x t r =>
     refine ⟨.str x t::fs,.cons q1 q2 q3 ?_ t1,by simp [t2],fun f hf=>?_⟩
     ·rw [<-qAo,hl];rfl
     ·rcases qAN.mp hf with z| z
      ·exact ⟨x,t,z⟩
      ·exact t3 f z
  obtain ⟨fs,t1,t2,t3⟩:=go vs fun u hu=>by
   obtain ⟨p,hp,e⟩:=qAH.mp (hv.mem_iff.mp hu);exact ⟨p,hp,e.symm⟩
  refine kat_kind (T:=.type "str") t1 (by lia) (fun f hf=>?_) (by decide) h;obtain ⟨x,t,rfl⟩:=t3 f hf;exact .now
 ·obtain ⟨p,hp,rfl⟩:=qAH.mp (hv.mem_iff.mp hvm);obtain ⟨q,hq,e,_⟩:=look p hp;exact ⟨q.1,by show Option.map _ _=_;rw [e];rfl⟩
end
end ST
namespace L2
open PySem PySem.Spec PyProof.Rows
def TSt (P:Program) (w:World) (a:Addr) (xs:List (List Str×Addr)):HO :=
 .ext fun h=>∃o es ep t,h.get? a=some o/\o.ExactSet/\o.data= .set es ep t/\es.toList=xs.map (ST.en (PySem.strKind P w))/\ST.TOk t (xs.map fun p=>tupleKeyHash (PySem.strKind P w) p.1)/\xs.length*5<t.mask*3/\(xs.map (·.1)).Nodup/\t.led= !ST.byt w
def RowT (K:PySem.W.Frag) (H:Hp) (p:List Str×Addr):Prop:=SqT K H p.2 (p.1.map V.str)
section
variable {X:Cx} {pins:List (Addr×Obj)} {σ:St} {H:Hp} {s:Shared}
theorem zH6 {prog:Program} {w:World}:∀{ks:List Str} {its:List Value},Vals (ks.map V.str) its->ItemsAre (PySem.strKind prog w) ks its
 | [],_,.nil=>.nil
 | k::ks,_,.cons ⟨t,e⟩ r=>by
  subst e;exact .cons (by show Value.isStrOf k (.str k t)=true;simp [Value.isStrOf]) (zH6 r)
theorem Inv.rowT (I:Inv X pins σ H s) {p:List Str×Addr} (h:RowT X.K H p):IsTupleKey (PySem.strKind X.prog X.w) s.heap p.1 p.2:=by
 obtain ⟨its,r,⟨o,ho,hc,n,hd⟩,_⟩:=I.tuple h;exact ⟨o,its.toArray,n,ho,hc,hd,by simpa using zH6 r⟩
theorem vals_refs:∀{ks:List (List Str×Addr)} {its:List Value},Vals (ks.map fun p=>V.ref p.2) its->its=ks.map fun p=>Value.ref p.2
 | [],_,.nil=>rfl
 | k::ks,_,.cons e r=>by
  have e:_=Value.ref k.2:=e;subst e;rw [vals_refs r];rfl
theorem zG0:∀(ks:List (List Str×Addr)),Vals (ks.map fun p=>V.ref p.2) (ks.map fun p=>Value.ref p.2)
 | []=>.nil
 | k::ks=>.cons rfl (zG0 ks)
theorem got_ok {h:Heap} {H:Hp} {a:Addr} {xs:List (List Str×Addr)} {o:Obj} {es:Array (Int×Value)} {ep:Nat} {t:SetTable} (Z:ST.SetX (PySem.strKind X.prog X.w) h a xs o es ep t):zAs X.prog X.w H h a (TSt X.prog X.w a xs) :=
 ⟨⟨o,es,ep,t,Z.ho,Z.ex,Z.hd,Z.el,Z.ok,Z.room,Z.nd,Z.ld⟩,⟨o,Z.ho⟩,fun h1 h2 ⟨o,es,ep,t,q,r⟩ k=>⟨o,es,ep,t,k o q,r⟩⟩
theorem call_setT {k:Nat} (hr:Room k X.A):zC5 X (.type "set") (fun xs H Q=>∃(l:Addr) (ks:List (List Str×Addr)),xs=[.ref l]/\SqL X.K H l (ks.map fun p=>V.ref p.2)/\(∀p∈ks,RowT X.K H p)/\ks.length<=306 /\
  ∀a ys,H a=none->(∀p∈ys,p∈ks)->(∀p∈ks,p.1∈ys.map (·.1))->(ys.map (·.1)).Nodup->ys.length<=ks.length->Q (.ref a) (upd H a (TSt X.prog X.w a ys))):=by
 intro pins s σ H xs us Q I r h;obtain ⟨l,ks,rfl,hl,hk,hc,q⟩:=h;obtain ⟨u,rfl,rx⟩:=zHu r
 cases rx
 obtain ⟨its,r',pl,hz⟩:=I.list hl;have ei:=vals_refs r';refine ST.w_mkset (knd:=PySem.strKind X.prog X.w) (ks:=ks) hr.hd (by have:=hr.un;lia) pl.isList (by rw [ei]) (fun p hp=>I.rowT (hk p hp)) hc fun h' tk _ g kp=>?_;obtain ⟨ys,o,es,ep,t,Z,g1,g2,g3⟩:=g;exact ⟨.ref s.heap.objs.size,_,I.laid (t':=tk) kp (qAG _) (got_ok Z),rfl,q _ ys (I.hok.fresh (qAG _)) g1 g2 Z.nd g3⟩
theorem perm_back {α β:Type} (f:α->β):∀{vs:List β} {ks:List α},vs.Perm (ks.map f)->∃zs:List α,zs.Perm ks/\vs=zs.map f:=by
 intro vs ks h;generalize hm:ks.map f=ms at h
 induction h generalizing ks with
 | nil=>exact ⟨[],by rw [List.map_eq_nil_iff.mp hm],rfl⟩
 | @cons x l₁ l₂ _ ih =>
  cases ks with
  | nil=>exact nomatch hm
  | cons k ks =>
   rw [qAn] at hm;obtain ⟨e1,e2⟩:=List.cons.inj hm;obtain ⟨zs,p,e⟩:=ih e2;exact ⟨k::zs,.cons k p,by rw [qAn,<-e,e1]⟩
 | swap x y l =>
  match ks,hm with
  | a::b::ks,hm =>
   simp only [qAn,List.cons.injEq] at hm;obtain ⟨e1,e2,e3⟩:=hm;exact ⟨b::a::ks,.swap a b ks,by simp [e1,e2,e3]⟩
 | trans _ _ ih1 ih2 =>
  obtain ⟨zs,p,e⟩:=ih2 hm;obtain ⟨zs',p',e'⟩:=ih1 e.symm;exact ⟨zs',p'.trans p,e'⟩
end
end L2
namespace ST
section
open PySem PyProof.Rows
variable {prog:Program} {w:World} {A:Around} {s:Shared}
end
end ST
namespace L2
open PySem PySem.Spec PyProof.Rows
section
variable {X:Cx} {pins:List (Addr×Obj)} {σ:St} {H:Hp} {s:Shared}
theorem zEp:∀{xs:List Str} {its:List Value},Vals (xs.map V.str) its->StrsAre its xs
 | [],_,.nil=>.nil
 | k::ks,_,.cons ⟨t,e⟩ r=>by subst e;exact .cons k t (zEp r)
theorem zEs:∀{xs:List Str} {its:List Value},StrsAre its xs->Vals (xs.map V.str) its
 | _,_,.nil=>.nil
 | _,_,.cons y t r=>.cons ⟨t,rfl⟩ (zEs r)
def zEn (xs:List Str):Prop:=xs.Pairwise fun x y=>¬(ST.sg y<ST.sg x)
end
section
variable {X:Cx}
def rInsert:V->List V->Hp->VK->Prop:=fun x vs H Q=>∃l xs i y,x= .ref l/\vs=[.int i,y]/\H l=some (.lst xs)/\xs.length<sizeLine/\0<=i/\i<=xs.length/\Q .non (upd H l (.lst (xs.take i.toNat++y::xs.drop i.toNat)))
theorem mt_insert:MtM X "list.insert" rInsert:=by
 intro pins s σ H x vs v us Q I rx rv h;obtain ⟨l,xs,i,y,rfl,rfl,hH,hz,h0,h1,q⟩:=h
 cases rx
 obtain ⟨u1,u,rfl,r1,ru⟩:=rv.two;obtain ⟨t,rfl⟩:=r1;obtain ⟨z,its,n,r,hl,e⟩:=I.lstM hH;have hsl:sizeLine<2^62:=by decide +kernel
 have hfit:¬(!Builtin.List.listFitsIndex i)=true:=by
  unfold Builtin.List.listFitsIndex;have a1:-(2^63:Int)<=i:=by lia
  have a2:i<2^63:=by lia
  rw [qAV a1,qAV a2];decide
 refine qCO F.slot_list_insert ⟨_,e,rfl⟩ F.entry_list_insert (F.args_list_insert_3 _ _ _) (PySem.AutoListH.list_insert_list_int_val_1 l its.toArray n i t u hfit (by rw [qAM];lia)) ⟨e,?_⟩;refine ⟨.non,_,I.lset (its':=its.take i.toNat++u::its.drop i.toNat) hH e ?_ ((r.take _).append (.cons ru (r.drop _))) ?_,rfl,q⟩
 ·have hk:(if i<0 then (i+((its.toArray.size:Nat):Int)).toNat else min i.toNat its.toArray.size)=i.toNat:=by
   rw [qAB (by lia),qAM];lia
  show (its.toArray.extract 0 _).push u++its.toArray.extract _=_;rw [hk];apply Array.ext';rw [qDC,qCf,qB8,qB8,qBp];simp [List.extract_eq_drop_take,qBh]
 ·rw [qAg,qAc,qAe,qBV];lia
def mrg (kvs more:List (Key×V)):List (Key×V):=more.foldl (fun acc p=>putK acc p.1 p.2) kvs
theorem KV.mrg {kvs:List (Key×V)} {vs:List (Key×Value)} (r:KV kvs vs):∀{more:List (Key×V)} {ms:List (Key×Value)},KV more ms->KV (mrg kvs more) (merged vs ms):=by
 intro more ms r2;unfold L2.mrg merged;unfold KV at r2
 induction r2 generalizing kvs vs with
 | nil=>exact r
 | @cons p q l₁ l₂ h _ ih =>
  rw [qBd,qBd,h.1];exact ih (r.put q.1 h.2)
theorem mrg_len (kvs more:List (Key×V)):(mrg kvs more).length<=kvs.length+more.length:=by
 unfold mrg
 induction more generalizing kvs with
 | nil=>exact qAG _
 | cons p r ih =>
  rw [qBd,qAc];have h1:=ih (putK kvs p.1 p.2);have h2:=zEk kvs p.1 p.2;lia
def rDUpd:V->List V->Hp->VK->Prop:=fun x vs H Q=>∃a b kvs more,x= .ref a/\vs=[.ref b]/\H a=some (.dK kvs)/\H b=some (.dK more)/\a≠b/\kvs.length+more.length<=sizeLine/\Q .non (upd H a (.dK (mrg kvs more)))
theorem mt_dupd:MtR X "dict.update" rDUpd:=by
 intro pins s σ H x vs v us Q I rx rv h;obtain ⟨a,b,kvs,more,rfl,rfl,hA,hB,hne,hz,q⟩:=h
 cases rx
 obtain ⟨u,rfl,ru⟩:=rv.one
 cases ru
 obtain ⟨_,a2,vs1,a3,a4⟩:=I.hok a _ hA;obtain ⟨_,b2,vs2,b3,b4⟩:=I.hok b _ hB;have l1:kvs.length=vs1.length:=qBy a3;have l2:more.length=vs2.length:=qBy b3;refine call_meetsIn F.slot_dict_update a4.typeIs F.entry_dict_update (F.args_dict_update_2 _ _) (meets_dict_update (zA5 X.prog X.w) a b hne b2) ⟨vs1,vs2,a4,b4,by lia,fun h' d1 d2 sb=>?_⟩;have new:zAs X.prog X.w (upd H a (.dK (mrg kvs more))) h' a (.dK (mrg kvs more)):=⟨qAX (mrg_len kvs more) hz,a2,_,a3.mrg b3,d1⟩;refine ⟨.non,_,I.write (x:=a) (e:=a) (t':=s.toks) (by rw [hA];exact trivial) (.inl rfl) (fun c o hc z=>(sb.2 c hc).trans z) ?_ new,rfl,q⟩;obtain ⟨o,_,_,e,_⟩:=d1;exact ⟨o,e⟩
end
section
variable {X:Cx}
theorem op_neU (hu:X.A.units<cLine):OpR X (compareOp .NotEq) (rUnlen X.K true):=by
 intro pins s σ H x y v u Q I rx ry h;obtain ⟨a,c,xs,ys,rfl,rfl,hx,hy,hl,q⟩:=h
 cases rx
 cases ry
 obtain ⟨its,r,pl,hz⟩:=I.list hx;obtain ⟨its2,r2,pl2,hz2⟩:=I.list hy;have e1:=r.length;have e2:=r2.length;exact SeqAt.RcNeAt.lists_lengths pl.isList pl2.isList (by rw [qAM,qAM];simp;lia) hu X.prog X.w X.xe _ ⟨.bl true,H,I,rfl,q⟩
end
theorem op_neAU {X:Cx} {k:Nat} (hr:Room k X.A):OpR X (compareOp .NotEq) (fun x y H Q=>rAlike X.K 8 false x y H Q\/rUnlen X.K true x y H Q):=(op_neA (hu2 hr)).either (op_neU (hu0 hr))
theorem ints_of {ns:List Int}:∀{its:List Value},Vals (ns.map V.int) its->∃xs:List (Int×Tok),its=(xs.map fun p=>Value.int p.1 p.2)/\xs.map (·.1)=ns:=by
 induction ns with
 | nil =>
  intro its r
  cases r
  exact ⟨[],rfl,rfl⟩
 | cons n ns ih =>
  intro its r
  cases r with
  | cons r1 r2 =>
   obtain ⟨t,rfl⟩:=r1;obtain ⟨xs,rfl,e⟩:=ih r2;exact ⟨(n,t)::xs,rfl,by rw [qAn,e]⟩
open AutoSeq1 (wpAny_loadPart')
end L2
namespace L2
open PySem PySem.Spec PyProof.Rows PySem.W PySem.Builtin PySem.Builtin.ObjectAttr PySem.Builtin.Getset_descriptor
end L2
namespace L2
open PySem PySem.Spec PyProof.Rows
section
variable {X:Cx}
theorem valsBack:∀{xs:List V} {us:List Value},Vals xs us->∀u∈us,∃z,z∈xs/\RelV z u
 | _,_,.nil=>fun u hu=>by cases hu
 | y::xs,u::us,.cons r t=>fun u' hu=>by
  rcases qAN.mp hu with rfl| hu
  ·exact ⟨y,qAT,r⟩
  ·obtain ⟨z,hz,rz⟩:=valsBack t u' hu;exact ⟨z,qAR _ hz,rz⟩
theorem strs_all (as bs:List Str) (h:as.length=bs.length):((List.range as.length).all fun j=>eqV ((as.map V.str).getD j .non) ((bs.map V.str).getD j .non))=decide (as=bs):=by
 rw [qBa,qAx,qBT];constructor
 ·intro q;refine List.ext_getElem h fun j h1 h2=>?_;have:=q j (qA9.mpr h1);simp [eqV,h1,h2] at this;exact this
 ·rintro rfl j hj;have hj:=qA9.mp hj;simp [eqV,hj]
theorem zIk {A:Around} {s:Shared} {xs ys:List V} {its its2:List Value} (r:Vals xs its) (r2:Vals ys its2) (fx:xs.all zDd=true) (fy:ys.all zDd=true) (hl:xs.length=ys.length) :
  ∀j (h1:j<its.toArray.size) (h2:j<its2.toArray.size),SeqAt.EqAt A s its.toArray[j] its2.toArray[j] (eqV (xs.getD j .non) (ys.getD j .non)):=fun j h1 h2=>by
 have e1:=r.length;have e2:=r2.length;rw [qAM] at h1 h2;have hjx:xs[j]?=some (xs[j]'(by lia)):=by simp
 have hjy:ys[j]?=some (ys[j]'(by lia)):=by simp
 obtain ⟨u1,q1,ru1⟩:=r.get hjx;obtain ⟨v1,q2,rv1⟩:=r2.get hjy
 have e3:its.toArray[j]=u1:=by
  have:its[j]?=some its[j]:=by simp
  rw [this] at q1;simpa using q1
 have e4:its2.toArray[j]=v1:=by
  have:its2[j]?=some its2[j]:=by simp
  rw [this] at q2;simpa using q2
 rw [e3,e4];have g1:xs.getD j .non=xs[j]'(by lia):=by rw [qA0,hjx];rfl
 have g2:ys.getD j .non=ys[j]'(by lia):=by rw [qA0,hjy];rfl
 rw [g1,g2];exact eqAt_V ru1 rv1 (qAx.mp fx _ (qBr _)) (qAx.mp fy _ (qBr _))
def rStrs (K:PySem.W.Frag) (neg:Bool):R2:=fun x y H Q=>∃(a c:Addr) (as bs:List Str),x= .ref a/\y= .ref c/\SqL K H a (as.map V.str)/\SqL K H c (bs.map V.str)/\Q (.bl (if neg then !decide (as=bs) else decide (as=bs))) H
theorem flatS (ns:List Str):(ns.map V.str).all zDd=true:=by simp [zDd]
theorem op_neS (hu:X.A.units<cLine):OpR X (compareOp .NotEq) (rStrs X.K true):=by
 intro pins s σ H x y v u Q I rx ry h;obtain ⟨a,c,as,bs,rfl,rfl,hx,hy,q⟩:=h
 cases rx
 cases ry
 obtain ⟨its,r,pl,hz⟩:=I.list hx;obtain ⟨its2,r2,pl2,hz2⟩:=I.list hy;have e1:=r.length;have e2:=r2.length;rw [qAE] at e1 e2
 by_cases hl:as.length=bs.length
 ·refine SeqAt.RcNeAt.lists (e:=fun j=>eqV ((as.map V.str).getD j .non) ((bs.map V.str).getD j .non)) pl.isList pl2.isList (by rw [qAM,qAM];lia) hu (zIk r r2 (flatS as) (flatS bs) (by simpa using hl)) X.prog X.w X.xe _ ?_;rw [qAM,<-e1,strs_all as bs hl];exact ⟨.bl _,H,I,rfl,q⟩
 ·rw [qAC rfl,qAl (fun z=>hl (by rw [z]))] at q;exact SeqAt.RcNeAt.lists_lengths pl.isList pl2.isList (by rw [qAM,qAM];simp;lia) hu X.prog X.w X.xe _ ⟨.bl true,H,I,rfl,q⟩
end
theorem cut_to (xs:List V) {b:Int} (h:0<=b):cutV xs none (some b)=xs.take b.toNat:=by
 obtain ⟨k,rfl⟩:∃k:Nat,b=k:=⟨b.toNat,by lia⟩;unfold cutV;rw [HT.sIx_nat,HT.sIx_none,List.drop_zero,Nat.sub_zero];show xs.take (min k xs.length)=xs.take k;rw [List.take_eq_take_min (i:=k)]
theorem cut_from (xs:List V) {b:Int} (h:0<=b):cutV xs (some b) none=xs.drop b.toNat:=by
 obtain ⟨k,rfl⟩:∃k:Nat,b=k:=⟨b.toNat,by lia⟩;unfold cutV;rw [HT.sIx_nat,HT.sIx_none];show (xs.drop (min k xs.length)).take (xs.length - min k xs.length)=xs.drop k;rw [qBh (by rw [qBV];lia)]
 by_cases z:k<=xs.length
 ·rw [Nat.min_eq_left z]
 ·rw [Nat.min_eq_right (by lia),qDl (by lia),qDl (by lia)]
open AutoSeq1 (wpAny_loadPart')
section
variable {X:Cx}
theorem op_fdivB:OpR X (binaryOp .FloorDiv) (rI (fun _ j=>0<j/\j<10^100) fun i j=>.int (i / j)):=opI fun i j _ _ _ _ _ hc q=>by
 have h1:(0:Int)<j:=hc.1;have h2:j<10^100:=hc.2;refine floordiv_int (by lia) (by rw [Int.fdiv_eq_ediv_of_nonneg i (by lia)];exact q) (.inl (PyProof.noPylong_of_log2 ?_));have hj:j.natAbs≠0:=by lia
 rw [Nat.log2_lt hj];have:j.natAbs<10^100:=by lia
 exact qAp this (by decide +kernel)
end
end L2
namespace RV
open PySem
end RV
namespace L2
open PySem PySem.Spec PyProof.Rows
section
variable {X:Cx}
theorem rel_key {P:Program} {w:World} {k:Key} {u:Value} (h:(zA5 P w).is k u=true):RelV (kV k) u:=by
 rcases zAx (show keyIs k u=true from h) with ⟨i,t,rfl,rfl⟩| ⟨x,t,rfl,rfl⟩
 ·exact ⟨t,rfl⟩
 ·exact ⟨t,rfl⟩
theorem kv_at:∀{kvs:List (Key×V)} {vs:List (Key×Value)} {j:Nat} {k:Key} {v:V},KV kvs vs->kvs[j]?=some (k,v)->∃u,vs[j]?=some (k,u)/\RelV v u
 | _,_,j,_,_,.nil,h=>by simp at h
 | _,_,0,k,v,.cons (a:=a) (b:=b) r _,h=>by
  have e:a=(k,v):=by simpa using h
  subst e;exact ⟨b.2,by simp;exact Prod.ext r.1.symm rfl,r.2⟩
 | _,_,j+1,k,v,.cons r rr,h=>by
  obtain ⟨u,h1,h2⟩:=kv_at rr (show _=some (k,v) by simpa using h);exact ⟨u,by simpa using h1,h2⟩
end
section
variable {X:Cx} {pins:List (Addr×Obj)} {σ:St} {H:Hp} {s:Shared} {a:Addr} {u o':HO}
theorem Inv.retell (I:Inv X pins σ H s) (e:H a=some u) (nt:∀xs,u≠.tup xs) (no:∀x,u≠.own x) (nb:∀ps,u≠.tbl ps) (nf:∀o v,X.H₀ a≠some (.frz o v)) (new:zAs X.prog X.w (upd H a o') s.heap a o'):Inv X pins σ (upd H a o') s:=by
 have ne:∀b,H b=none->b≠a:=fun b h z=>by rw [z,e] at h;cases h
 refine ⟨I.ok,I.os,I.bare,⟨I.base.keep,I.base.slot,fun b o q n x=>?_,I.base.there,fun b xs q=>?_,fun b o v q=>?_,fun b ps q=>?_⟩,I.loc,I.cell,?_,fun x c h=>?_,fun p hp=>?_,fun b o q=>?_,I.len⟩
 ·have:=I.base.free b o q n x;rw [upd_ne (ne b this)];exact this
 ·have:=I.base.tups b xs q;rw [upd_ne (fun z=>by rw [z,e] at this;exact nt xs (qAa this))];exact this
 ·have:=I.base.frzs b o v q;rw [upd_ne (fun z=>nf o v (by rw [<-z];exact q))];exact this
 ·obtain ⟨more,this⟩:=I.base.tbls b ps q;exact ⟨more,by rw [upd_ne (fun z=>by rw [z,e] at this;exact nb _ (qAa this))];exact this⟩
 ·rw [upd_ne (ne _ I.free)];exact I.free
 ·rw [upd_ne (ne _ (I.freeC x c h))];exact I.freeC x c h
 ·obtain ⟨h1,h2,h3⟩:=I.pin p hp;exact ⟨h1,by rw [upd_ne (ne _ h2)];exact h2,h3⟩
 ·by_cases z:b=a
  ·subst z;rw [upd_same] at q;cases q;exact new
  ·rw [upd_ne z] at q;refine (I.hok b o q).stay (fun c v _ y=>y) (fun c y=>?_) fun c xs y=>?_
   ·rw [upd_ne (fun z=>by rw [z,e] at y;exact no _ (qAa y))];exact y
   ·rw [upd_ne (fun z=>by rw [z,e] at y;exact nt _ (qAa y))];exact y
end
def thawE (D:Ends) (a:Addr) (o:Obj) (kvs:List (Key×V)):Ends where
 nx:=fun σ H=>H a=some (.frz o (.dK kvs))/\D.nx σ (upd H a (.dK kvs))
 rt:=fun v H=>H a=some (.frz o (.dK kvs))/\D.rt v (upd H a (.dK kvs))
 bk:=fun σ H=>H a=some (.frz o (.dK kvs))/\D.bk σ (upd H a (.dK kvs))
 ct:=fun σ H=>H a=some (.frz o (.dK kvs))/\D.ct σ (upd H a (.dK kvs))
section
variable {X:Cx}
theorem Inv.thaw {pins:List (Addr×Obj)} {σ:St} {H:Hp} {s:Shared} {a:Addr} {o:Obj} {kvs:List (Key×V)} (I:Inv X pins σ H s) (e:H a=some (.frz o (.dK kvs))) (nf:∀o v,X.H₀ a≠some (.frz o v)):Inv X pins σ (upd H a (.dK kvs)) s:=by
 obtain ⟨_,z⟩:zAs X.prog X.w H s.heap a (.frz o (.dK kvs)):=I.hok a _ e;exact I.retell e (fun _ h=>nomatch h) (fun _ h=>nomatch h) (fun _ h=>nomatch h) nf z
theorem ps_frz {st:Stmt} {t:TS} (h:PS X st t):PS X st (fun D σ H=>∃a kvs,H a=some (.dK kvs)/\∀o,t (thawE D a o kvs) σ (upd H a (.frz o (.dK kvs)))):=by
 intro pins s σ H D I ⟨a,kvs,e,q⟩;have ok:zAs X.prog X.w H s.heap a (.dK kvs):=I.hok a _ e;obtain ⟨_,_,_,_,o,_,_,ho,_⟩:=id ok
 have nf:∀o v,X.H₀ a≠some (.frz o v):=fun o v z=>by
  have:=I.base.frzs a o v z;rw [e] at this;cases this
 have I1:Inv X pins σ (upd H a (.frz o (.dK kvs))) s:=I.retell e (fun _ h=>nomatch h) (fun _ h=>nomatch h) (fun _ h=>nomatch h) nf ⟨ho,ok⟩;refine thn (h pins s σ _ _ I1 (q o)) fun f s' r=>?_
 cases f with
 | next=>obtain ⟨σ',H',I',e',d'⟩:=r;exact ⟨σ',_,I'.thaw e' nf,d'⟩
 | brk=>obtain ⟨σ',H',I',e',d'⟩:=r;exact ⟨σ',_,I'.thaw e' nf,d'⟩
 | cont=>obtain ⟨σ',H',I',e',d'⟩:=r;exact ⟨σ',_,I'.thaw e' nf,d'⟩
 | ret u=>obtain ⟨v,σ',H',I',rv,e',d'⟩:=r;exact ⟨v,σ',_,I'.thaw e' nf,rv,d'⟩
end
end L2
namespace RV
open PySem
end RV
namespace L2
open PySem PySem.Spec PyProof.Rows
theorem frz_at {X:Cx} {pins:List (Addr×Obj)} {σ:St} {H:Hp} {s:Shared} {a:Addr} {o:Obj} {kvs:List (Key×V)} (I:Inv X pins σ H s) (e:H a=some (.frz o (.dK kvs))) :
  ∃vs es ep,KV kvs vs/\o.data= .dict es ep/\es.size=kvs.length/\s.heap.DictAt (zA5 X.prog X.w) a vs ep/\(a==sysModules)=false/\kvs.length<=sizeLine/\s.heap.get? a=some o/\o.ExactDict:=by
 obtain ⟨ho,z,hd,vs,rel,o1,es,ep,y1,y2,y3,y4,y5,y6⟩:zAs X.prog X.w H s.heap a (.frz o (.dK kvs)):=I.hok a _ e;rw [ho] at y1
 cases y1
 have l1:=y5.length;have l2:=rel.length;exact ⟨vs,es,ep,rel,y3,by simp only [qBC] at l1;lia,⟨o,es,ho,y2,y3,y4,y5,y6⟩,hd,z,ho,y2⟩
end L2
namespace ST
open PySem PyProof.Rows PySem.W
end ST
namespace L2
open PySem PySem.Spec PyProof.Rows
variable {c:Addr}
def Itk (a:Addr) (o:Obj) (kvs:List (Key×V)):It :=
 ⟨fun i H=>H a=some (.frz o (.dK kvs))/\i<kvs.length,fun i H v H'=>H'=H/\∃k x,kvs[i]?=some (k,x)/\v=kV k,fun i H=>H a=some (.frz o (.dK kvs))/\kvs.length<=i⟩
theorem turn_keys {P:Program} {w:World} {K:PySem.W.Frag} {tg:Expr} (a it:Addr) (o:Obj) (es:Array DictEntry) (ep:Nat) (kvs:List (Key×V)) (hd:o.data= .dict es ep):Turn P w K tg (Itk a o kvs) [it] it (fun i h=>h.IsKeyIter it a i kvs.length ep) where
 mem:=by simp
 obj:=fun i h ⟨o,st,c,dt⟩ b hb=>by
  have:b=it:=by simpa using hb
  subst this;exact ⟨_,st,fun v y=>by rw [dt] at y;cases y⟩
 keep:=fun i h h' st k=>st.at fun o e=>k it (by simp) o e
 item:=by
  intro X hP hw hK hc i pins s σ H E I hf st hg;subst hP hw hK;obtain ⟨e,hi⟩:=hg;obtain ⟨vs,es',ep',rel,hd',_,da,_,_,ho,_⟩:=frz_at I e;have ee:ep'=ep:=by rw [hd] at hd';cases hd';rfl
  subst ee;have len:=rel.length;have ek:kvs[i]?=some (kvs[i].1,kvs[i].2):=qAh hi;obtain ⟨v,ev,rv⟩:=kv_at rel ek;rw [len] at st;obtain ⟨f0,f1,f2,f3,f4,f5⟩:=hf it (by simp);refine wpAny_pyNext_dict_item st da ev fun key h' hk st' sb=>?_;have I1:Inv X pins σ H {s with heap:=h',toks:=s.toks}:=I.turned (t':=s.toks) (fun b o hb y=>sb.extBut b o hb y) f0 f1 f3 f4 f5;rw [<-len] at st';obtain ⟨o2,g1,g2,g3⟩:=id st';exact ⟨_,rfl,go_of (s:={s with heap:=h'}) (n:= "dict_keyiterator") g1 g2 g3 (by decide) ⟨kV kvs[i].1,H,I1,rel_key hk,⟨rfl,_,_,ek,rfl⟩,st',fun b hb=>(hf b hb).1⟩⟩
 done:=by
  intro X hP hw hK hc i pins s σ H E I hf st hg;subst hP hw hK;obtain ⟨e,hi⟩:=hg;obtain ⟨vs,es',ep',rel,hd',_,da,_,_,ho,_⟩:=frz_at I e;have ee:ep'=ep:=by rw [hd] at hd';cases hd';rfl
  subst ee;have len:=rel.length;rw [len] at st;obtain ⟨f0,f1,f2,f3,f4,f5⟩:=hf it (by simp);exact wpAny_pyNext_dict_end (I.ok.hd hc) st da (by simp;lia) fun h' eb=>⟨rfl,I.turned (t':=s.toks) (fun b o hb y=>eb b o hb y) f0 f1 f3 f4 f5⟩
 self:=fun _ _ _ _ _ st h=>wpAny_pyIter_keyiter st h
section
variable {X:Cx}
theorem pi_keys {tg o:Expr} {to:TE} (ho:PE X o to):PI X tg o (fun σ H R=>to σ H fun x H1=>∃a ob kvs,x= .ref a/\H1 a=some (.frz ob (.dK kvs))/\R (Itk a ob kvs) H1):=by
 intro pins s σ H R I h;refine thn (ho pins s σ H _ I h) fun v s1 ⟨x,H1,I1,r1,a,ob,kvs,ex,e,q⟩=>?_;subst ex
 cases r1
 obtain ⟨vs,es,ep,rel,hd,sz,da,nsys,z,hget,exd⟩:=frz_at I1 e;have len:=rel.length;refine wpAny_pyIter_dict nsys da ?_;refine ⟨s1.heap.objs.size,[s1.heap.objs.size],_,_,H1,rfl,I1.kept (t':=s1.toks) fun b o e=>qAJ _ e,turn_keys a _ ob es ep kvs hd,⟨_,qAb _ rfl,rfl,by rw [len];rfl⟩,fun b hb=>?_,q⟩;have e:b=s1.heap.objs.size:=by simpa using hb
 subst e;exact I1.fpOk (qAG _) (I1.hok.fresh (qAG _))
theorem comp_keys {a:Addr} {o:Obj} {kvs:List (Key×V)} {ix:List (Option Nat)} {g:TG} {tt:TT} {te:TE} {QD:Hp->Prop} {σ:St} {H1:Hp} {D:Addr} (Pv:Nat->List V->St->Hp->Prop) (h0:Pv 0 [] (zC4 σ ix) (upd H1 D (.lst [])))
  (hl:∀i ys τ H,Pv i ys τ H->H a=some (.frz o (.dK kvs)))
  (hs:∀i k v ys τ H,kvs[i]?=some (k,v)->Pv i ys τ H->g (kV k) τ H fun τ' H4=>tt τ' H4 fun b H5=>if b=true then te τ' H5 fun v H6=>H6 D=some (.lst ys)/\ys.length<sizeLine/\Pv (i+1) (ys++[v]) τ' (upd H6 D (.lst (ys++[v]))) else Pv (i+1) ys τ' H5)
  (hd:∀ys τ H,Pv kvs.length ys τ H->QD H) :
  ∃W:Nat->Nat->List V->St->Hp->Prop,(∃m,W 0 m [] (zC4 σ ix) (upd H1 D (.lst [])))/\∀i m ys τ H2,W i m ys τ H2 ->
   ((Itk a o kvs).stop i H2/\QD H2)\/((Itk a o kvs).go i H2/\∃N:List V->St->Hp->Prop,(∀ys' τ' H',N ys' τ' H'->∃m',m'<m/\W (i+1) m' ys' τ' H')/\∀x H3,(Itk a o kvs).yld i H2 x H3->g x τ H3 fun τ' H4=>tt τ' H4 fun b H5 =>
    if b=true then te τ' H5 fun v H6=>H6 D=some (.lst ys)/\ys.length<sizeLine/\N (ys++[v]) τ' (upd H6 D (.lst (ys++[v])))
    else N ys τ' H5):=by
 refine ⟨fun i m ys τ H=>m=kvs.length - i/\i<=kvs.length/\Pv i ys τ H,⟨kvs.length,by simp,qAY _,h0⟩,?_⟩;rintro i m ys τ H ⟨rfl,hi,p⟩
 by_cases hlt:i<kvs.length
 ·refine .inr ⟨⟨hl i ys τ H p,hlt⟩,Pv (i+1),fun ys' τ' H' p'=>⟨_,?_,rfl,hlt,p'⟩,fun x H' y=>?_⟩
  ·show kvs.length - (i+1)<kvs.length - i;lia
  ·obtain ⟨rfl,k,v,ek,rfl⟩:=y;exact hs i k v ys τ H' ek p
 ·have e:i=kvs.length:=by lia
  subst e;exact .inl ⟨⟨hl _ ys τ H p,qAG _⟩,hd ys τ H p⟩
end
def cxLam (X:Cx) (N:List Str) (qual:Str) (scope:Scope) (f:Addr) (cd:Value) (cl:List (Str×Addr)) (A:Around) (s:Shared) (H:Hp):Cx where
 prog:=X.prog
 w:=X.w
 K:=X.K
 mg:=X.mg
 base:=X.base
 A:=A.deeper (PySem.W.envX qual scope s.heap.objs.size f cd cl)
 N:=N
 s₀:=s
 H₀:=H
 env:=PySem.W.envX qual scope s.heap.objs.size f cd cl
 outer:=X.stack
 stack:=PySem.W.envX qual scope s.heap.objs.size f cd cl::X.stack
 ex:=[]
 calm:=true
 fn:=fun _=>false
 pn:=[]
 xe:=fun _ _=>False
structure LamScope (x y:Str) (sc:Scope):Prop where
 kind:sc.kind= .function
 co:sc.isCoroutine=false
 gen:sc.isGenerator=false
 px:sc.names.lookup x=some .local
 fy:sc.names.lookup y=some .free
 nocell:∀z∈sc.names,z.2≠.cell
 onlyy:∀z∈sc.names,z.2= .free->z.1=y
section
variable {X:Cx} {pins:List (Addr×Obj)} {σ:St} {H:Hp} {s:Shared}
theorem zF9 {h h':Heap} {v:Option Value} (x:h.IsCell c v) (k:∀b o,h.get? b=some o->h'.get? b=some o):h'.IsCell c v:=by
 obtain ⟨o,e,r⟩:=x;exact ⟨o,k _ _ e,r⟩
theorem look1 {y z:Str} {d:Addr} (h:([(y,c)]:List (Str×Addr)).lookup z=some d):z=y/\d=c:=by
 rw [qBK] at h
 cases e:(z==y) with
 | true=>rw [e] at h;cases h;exact ⟨by simpa using e,rfl⟩
 | false=>rw [e] at h;cases h
theorem inv_lam {A:Around} {f c:Addr} {cd:Value} {qual x y:Str} {scope:Scope} {vx vy:V} {ux uy:Value} {h₁:Heap} {tk:Nat} (I:Inv X pins σ H s) (hA:A.frames=some X.stack) (hh:A.handled=none) (S:LamScope x y scope) (ne:x≠y)
  {y':Str} (hy:X.env.cells.lookup y'=some c) (iy:s.heap.IsCell c (some uy)) (ry:RelV vy uy) (rx:RelV vx ux) (hns:h₁.Ns s.heap.objs.size (fun z=>([(x,ux)]:List (Str×Value)).reverse.lookup z)) (hk:∀b o,s.heap.get? b=some o->h₁.get? b=some o) :
  Inv (cxLam X [x,y] qual scope f cd [(y,c)] A s H) [] [some vx,some vy] H {s with heap:=h₁,toks:=tk}:=by
 have e0:=I.env0;have noA:∀b:Addr,b∉(cxLam X [x,y] qual scope f cd [(y,c)] A s H).ex:=fun b z=>absurd (show b∈([]:List Addr) from z) (by simp);have hc0:=I.freeC y' c hy
 refine ⟨⟨e0.mod,S.kind,rfl,rfl,qAG _,fun a b d h1 h2=>?_,fun z hz=>?_,fun z d h _=>Bool.noConfusion h,fun _=>hh,Around.frames_deeper hA,.inr ⟨rfl,rfl⟩,fun b z=>absurd z (noA b),e0.bs,e0.bsz,fun b _ _=>noA b,fun b z=>absurd z (noA b),e0.funs,e0.frf⟩,
  rfl,e0.bare,Un.kept hk,⟨_,hns,fun i z v h1 h2 h3=>?_⟩,fun z d h=>?_,e0.hok.fresh (qAG _),fun z d h=>?_,fun p hp=>absurd (show p∈([]:List (Addr×Obj)) from hp) (by simp),e0.hok.kept hk,rfl⟩
 ·rw [(look1 h1).1,(look1 h2).1]
 ·have hz:scope.names.lookup z=some .cell\/scope.names.lookup z=some .free:=hz;rcases hz with hz| hz
  ·exact absurd rfl (S.nocell _ (qBn hz))
  ·have:z=y:=S.onlyy _ (qBn hz) rfl;subst this;exact ⟨c,by show ([(z,c)]:List (Str×Addr)).lookup z=some c;simp⟩
 ·match i,h1,h2 with
  | 0,h1,h2 =>
   have h1:some x=some z:=h1;have h2:some (some vx)=some (some v):=h2
   cases h1
   cases h2
   exact ⟨ux,rx,.inl ⟨S.px,by simp⟩⟩
  | 1,h1,h2 =>
   have h1:some y=some z:=h1;have h2:some (some vy)=some (some v):=h2
   cases h1
   cases h2
   exact ⟨uy,ry,.inr ⟨.inr S.fy,c,by show ([(y,c)]:List (Str×Addr)).lookup y=some c;simp,zF9 iy hk⟩⟩
  | n+2,h1,_=>exact absurd (show ([]:List Str)[n]?=some z from h1) (by simp)
 ·obtain ⟨_,rfl⟩:=look1 h;exact ⟨_,zF9 iy hk⟩
 ·obtain ⟨_,rfl⟩:=look1 h;exact hc0
theorem lam_call {A:Around} {f c':Addr} {qual x y:Str} {params:Arguments} {body:Expr} {scope:Scope} {pm ctv:Value} {vx vy:V} {ux uy:Value} {te:TE} {Q:VK} (I:Inv X pins σ H s) (hA:A.frames=some X.stack) (hh:A.handled=none) (room:A.depth<recursionLimit)
  (ho:s.heap.get? f=some (PySem.W.kla_obj "<lambda>" qual params body scope [(y,c)] pm c' ctv)) (hcd:s.heap.CodeRec (.ref c') qual) (S:LamScope x y scope) (ne:x≠y)
  (hb:bindArgs (PySem.W.kla_fn "<lambda>" qual params body scope [(y,c)] pm (.ref c') ctv) ⟨[ux],[]⟩=pure [(x,ux)])
  {y':Str} (hy:X.env.cells.lookup y'=some c) (iy:s.heap.IsCell c (some uy)) (ry:RelV vy uy) (rx:RelV vx ux)
  (ht:PE (cxLam X [x,y] qual scope f (.ref c') [(y,c)] A s H) body te) (hq:te [some vx,some vy] H Q) :
  wpAny (model X.prog X.w) A (call (.ref f) [ux]) (CE X.stack X.prog X.w H s Q) (fun _ _=>False) s:=by
 refine qCX (PySem.W.kla_callFunE room ho rfl S.co S.gen rfl hcd ?_);rw [hb];refine qAD (wpAny_newFunctionEnv S.nocell (fun z hz=>?_) (fun h₁ hns hsb=>⟨I.nolimit.fresh _ hsb,?_⟩) S.kind)
 ·have:z=(x,ux):=by simpa using hz
  subst this;exact S.px
 ·show codeAny _ _ (.expr body (PySem.W.envX qual scope s.heap.objs.size f (.ref c') [(y,c)])) _ _;have hk₁:∀b o,s.heap.get? b=some o->h₁.get? b=some o:=fun b o e=>hsb.extBut b o (qAZ (qAL e)) (qAJ _ e);have J:=inv_lam (qual:=qual) (f:=f) (cd:=.ref c') (tk:=s.toks+[(x,ux)].length) I hA hh S ne hy iy ry rx hns hk₁;refine PySem.W.kla_codeExpr (qAq (ht [] _ _ H _ J hq) (fun v s' hs=>?_) fun _ _ h=>h.elim);obtain ⟨v',H',J',rv,q⟩:=hs;exact ⟨v',H',J'.os,J'.bare,J'.base,J'.hok,rv,q⟩
end
end L2
namespace ST
open PySem PyProof.Rows
end ST
namespace L2
open PySem PySem.Spec PyProof.Rows
variable {qual:Str}
def zHt (mg:Str->Option Value) (h:Heap):Prop:=∃bm o,mg "__builtins__" = some (.ref bm)/\bm≠builtinsNs/\h.get? bm=some o/\o.cls= .type "module" /\o.dict=some builtinsNs/\o.data= .plain
def zFc (c:Addr) (qual:Str):HO:=.ext fun h=>h.CodeRec (.ref c) qual
def Tab1 (H:Hp) (P:Addr) (qual:Str) (pos:Pos):Prop:=∃c',H P=some (.tbl #[rawInt pos.line,rawInt pos.col,.ref c'])/\H c'=some (zFc c' qual)
def Tab0 (H:Hp) (P:Addr) (qual:Str) (pos:Pos):Prop:=H P=some (.tbl #[])\/Tab1 H P qual pos
section
variable {X:Cx} {pins:List (Addr×Obj)} {σ:St} {H:Hp} {s:Shared}
theorem codeO_rec (I:Inv X pins σ H s) {c:Addr} (e:H c=some (zFc c qual)):s.heap.CodeRec (.ref c) qual:=by
 obtain ⟨x,_,_⟩:zAs X.prog X.w H s.heap c (zFc c qual):=I.hok c _ e;exact x
theorem codeO_ok {P:Program} {w:World} {c:Addr} {h:Heap} (x:h.CodeRec (.ref c) qual):zAs P w H h c (zFc c qual):=by
 refine ⟨x,?_,fun h1 h2 y k=>?_⟩
 ·obtain ⟨d,o,vs,t,e,g,_⟩:=x
  cases e
  exact ⟨o,g⟩
 ·obtain ⟨d,o,vs,t,e,g,r⟩:=y
  cases e
  exact ⟨c,o,vs,t,rfl,k o g,r⟩
theorem among1 (pos:Pos) (c:Addr):codeAmong pos [rawInt pos.line,rawInt pos.col,.ref c]=some (.ref c):=by
 unfold rawInt codeAmong;simp
theorem lam_make {E:Value->Shared->Prop} {params:Arguments} {body:Expr} {scope:Scope} {clos:List (Str×Addr)} {c0 P:Addr} {pos:Pos} {Q:Value->Shared->Prop} (I:Inv X pins σ H s) (hcl:closureFor scope X.env=pure clos) (hcode:X.env.code= .ref c0) (C:PySem.W.CodeHd X.base c0 P) (B:zHt X.mg X.base) (T:Tab0 H P qual pos)
  (h:∀f c' ctv pm H2 s2,Inv X pins σ H2 s2->Kp [P] H H2->Tab1 H2 P qual pos->H2 c'=some (zFc c' qual)->s2.heap.get? f=some (PySem.W.kla_obj "<lambda>" qual params body scope clos pm c' ctv)->FpOk X pins H2 f->Q (.ref f) s2) :
  wpAny (model X.prog X.w) X.A (makeFunction "<lambda>" qual params (.expr body) scope X.env [] [] [] pos pos.line) Q E s:=by
 obtain ⟨bm,ob,b1,b2,b3,b4,b5,b6⟩:=B
 have tbl:∃ps,H P=some (.tbl ps):=by
  rcases T with e| ⟨c',e,_⟩
  ·exact ⟨_,e⟩
  ·exact ⟨_,e⟩
 obtain ⟨ps0,eP⟩:=tbl;have pP:s.heap.get? P=some (PySem.W.tabObj ps0):=I.hok P _ eP;have hgs:s.heap.Ns mainGlobals X.mg:=I.mod.glob.keeps I.bk
 have hgP:mainGlobals≠P:=fun q=>by
  obtain ⟨o,es,ep,e,hd,_⟩:=hgs;rw [q,pP] at e;cases e;cases hd
 have hbP:bm≠P:=fun q=>by
  have e:=I.bk _ _ b3;rw [q,pP] at e;cases e;cases b4
 have hbG:bm≠mainGlobals:=fun q=>by
  obtain ⟨o,es,ep,e,hd,_⟩:=I.mod.glob;rw [q,e] at b3;cases b3;rw [hd] at b6;cases b6
 have hB:s.heap.BuiltinsAt X.mg P:=⟨bm,ob,b1,b2,hbG,hbP,I.bk _ _ b3,b4,b5,b6⟩;rcases T with e| ⟨c',e,ec⟩
 ·rw [e] at eP
  cases eP
  refine PySem.W.kla_makeFunction (mg:=X.mg) hcl I.ok.glob hgs hcode (C.keeps I.bk) pP trivial rfl hgP hB fun c' ctv h' tk hx hge hlt hrec htb=>?_;have htb:h'.get? P=some (PySem.W.tabObj #[rawInt pos.line,rawInt pos.col,.ref c']):=by simpa using htb
  have fc:H c'=none:=I.hok.fresh hge;have nPc:c'≠P:=fun z=>by rw [z,e] at fc;cases fc
  have hk:∀b o,b≠P->s.heap.get? b=some o->(h'.push (PySem.W.kla_obj "<lambda>" qual params body scope clos ((X.mg "__name__").getD .none) c' ctv)).get? b=some o:=fun b o n q=>qAJ _ (hx b o n q);have nP:∀b,H b=none->b≠P:=fun b n z=>by rw [z,e] at n;cases n
  have old:∀b,b≠P->b≠c'->upd (upd H P (.tbl #[rawInt pos.line,rawInt pos.col,.ref c'])) c' (zFc c' qual) b=H b:=fun b n1 n2=>by rw [upd_ne n2,upd_ne n1]
  have eP2:upd (upd H P (.tbl #[rawInt pos.line,rawInt pos.col,.ref c'])) c' (zFc c' qual) P=some (.tbl #[rawInt pos.line,rawInt pos.col,.ref c']):=by rw [upd_ne nPc.symm,upd_same]
  have ec2:upd (upd H P (.tbl #[rawInt pos.line,rawInt pos.col,.ref c'])) c' (zFc c' qual) c'=some (zFc c' qual):=upd_same
  have un:Un (frs X.stack) [] H (upd (upd H P (.tbl #[rawInt pos.line,rawInt pos.col,.ref c'])) c' (zFc c' qual)) s.heap (h'.push (PySem.W.kla_obj "<lambda>" qual params body scope clos ((X.mg "__name__").getD .none) c' ctv)):=by
   refine ⟨fun b o q n _ _=>hk b o (nP b n) q,fun b o q n _ _=>⟨o.slots,hk b o (nP b n) q⟩,fun b o q n _=>?_,fun b o q _=>?_,fun b xs q=>?_,fun b o u q=>?_,fun b ps q=>?_⟩
   ·rw [old b (nP b n) (qAZ (qAp (qAL q) hge))];exact n
   ·by_cases z:b=P
    ·rw [z];exact ⟨_,qAJ _ htb⟩
    ·exact ⟨o,hk b o z q⟩
   ·rw [old b (fun z=>by rw [z,e] at q;cases q) (fun z=>by rw [z,fc] at q;cases q)];exact q
   ·rw [old b (fun z=>by rw [z,e] at q;cases q) (fun z=>by rw [z,fc] at q;cases q)];exact q
   ·by_cases z:b=P
    ·rw [z,e] at q
     cases q
     exact ⟨#[rawInt pos.line,rawInt pos.col,.ref c'],by rw [z,eP2];simp⟩
    ·exact ⟨#[],by rw [old b z (fun z=>by rw [z,fc] at q;cases q),q];simp⟩
  have hok:HOk X.prog X.w (upd (upd H P (.tbl #[rawInt pos.line,rawInt pos.col,.ref c'])) c' (zFc c' qual)) (h'.push (PySem.W.kla_obj "<lambda>" qual params body scope clos ((X.mg "__name__").getD .none) c' ctv)):=fun b o q=>by
   by_cases z1:b=c'
   ·subst z1;rw [ec2] at q;cases q;obtain ⟨d,oc,vs,t,e3,g,r⟩:=hrec;exact codeO_ok ⟨d,oc,vs,t,e3,qAJ _ g,r⟩
   ·by_cases z2:b=P
    ·subst z2;rw [eP2] at q;cases q;exact qAJ _ htb
    ·rw [old b z2 z1] at q;refine (I.hok b o q).stay (fun c v hc y=>hk c v (fun z=>?_) y) (fun c y=>?_) fun c xs y=>?_
     ·rcases hc with hc| hc
      ·exact z2 (hc.symm.trans z)
      ·rw [z,e] at hc;cases hc
     ·rw [old c (fun z=>by rw [z,e] at y;cases y) (fun z=>by rw [z,fc] at y;cases y)];exact y
     ·rw [old c (fun z=>by rw [z,e] at y;cases y) (fun z=>by rw [z,fc] at y;cases y)];exact y
  have J:Inv X pins σ (upd (upd H P (.tbl #[rawInt pos.line,rawInt pos.col,.ref c'])) c' (zFc c' qual)) {s with heap:=h'.push (PySem.W.kla_obj "<lambda>" qual params body scope clos ((X.mg "__name__").getD .none) c' ctv),toks:=tk}:=I.call' rfl un hok I.bare fun b z=>nomatch z
  have kp:Kp [P] H (upd (upd H P (.tbl #[rawInt pos.line,rawInt pos.col,.ref c'])) c' (zFc c' qual)):=fun b o q n=>by
   rw [old b (fun z=>n (by simp [z])) (fun z=>by rw [z,fc] at q;cases q)];exact q
  have fs:s.heap.objs.size<=h'.objs.size:=qAX hge (qBz hlt)
  have ff:upd (upd H P (.tbl #[rawInt pos.line,rawInt pos.col,.ref c'])) c' (zFc c' qual) h'.objs.size=none:=by
   have n1:h'.objs.size≠P:=fun z=>by
    have:=qAL htb;rw [<-z] at this;exact qA3 _ this
   rw [old _ n1 (qBD hlt)];exact I.hok.fresh fs
  exact h h'.objs.size c' ctv _ _ _ J kp ⟨c',eP2,ec2⟩ ec2 (qAb _ rfl) (I.fpOk fs ff)
 ·rw [e] at eP
  cases eP
  refine PySem.W.kla_makeFunctionHit (mg:=X.mg) hcl I.ok.glob hgs hcode (C.keeps I.bk) pP trivial (among1 pos c') hB fun ctv h' tk hk hsz=>?_;have J:Inv X pins σ H {s with heap:=h'.push (PySem.W.kla_obj "<lambda>" qual params body scope clos ((X.mg "__name__").getD .none) c' ctv),toks:=tk}:=I.kept fun b o q=>qAJ _ (hk b o q);exact h h'.objs.size c' ctv _ _ _ J Kp.refl ⟨c',e,ec⟩ ec (qAb _ rfl) (I.fpOk hsz (I.hok.fresh hsz))
end
section
variable {X:Cx} {pins:List (Addr×Obj)} {σ:St} {H:Hp} {s:Shared}
theorem Inv.adopt {a:Addr} {o':HO} (I:Inv X pins σ H s) (f:FpOk X pins H a) (new:zAs X.prog X.w (upd H a o') s.heap a o'):Inv X pins σ (upd H a o') s:=by
 obtain ⟨f0,f1,f2,f3,f4,f5⟩:=f;have ne:∀b u,H b=some u->b≠a:=fun b u q z=>by rw [z,f0] at q;cases q
 refine ⟨I.ok,I.os,I.bare,⟨I.base.keep,I.base.slot,fun b o q n x=>?_,I.base.there,fun b xs q=>?_,fun b o v q=>?_,fun b ps q=>?_⟩,I.loc,I.cell,?_,fun x c h=>?_,fun p hp=>?_,fun b o q=>?_,I.len⟩
 ·have:=I.base.free b o q n x
  have nb:b≠a:=fun z=>by
   rcases f3 with y| y
   ·exact x (by rw [z];exact y)
   ·exact absurd (qAp (qAL q) (by rw [z];exact y)) (qA3 _)
  rw [upd_ne nb];exact this
 ·have:=I.base.tups b xs q;rw [upd_ne (ne b _ this)];exact this
 ·have:=I.base.frzs b o v q;rw [upd_ne (ne b _ this)];exact this
 ·obtain ⟨more,this⟩:=I.base.tbls b ps q;exact ⟨more,by rw [upd_ne (ne b _ this)];exact this⟩
 ·rw [upd_ne f1.symm];exact I.free
 ·rw [upd_ne (f4 x c h)];exact I.freeC x c h
 ·obtain ⟨h1,h2,h3⟩:=I.pin p hp;exact ⟨h1,by rw [upd_ne (f5 p hp)];exact h2,h3⟩
 ·by_cases z:b=a
  ·subst z;rw [upd_same] at q;cases q;exact new
  ·rw [upd_ne z] at q;refine (I.hok b o q).stay (fun c v _ y=>y) (fun c y=>?_) fun c xs y=>?_
   ·rw [upd_ne (ne c _ y)];exact y
   ·rw [upd_ne (ne c _ y)];exact y
theorem FpOk.nstk {b:Addr} (I:Inv X pins σ H s) (f:FpOk X pins H b):b∉frs X.stack:=fun z=>by
 obtain ⟨f0,f1,f2,_⟩:=f;rcases qAN.mp (I.stkSub b z) with y| y
 ·exact f1 y
 ·exact f2 y
theorem Inv.cellAt {iy:Nat} {y:Str} {c:Addr} {vy:V} (I:Inv X pins σ H s) (hN:X.N[iy]?=some y) (hσ:σ[iy]?=some (some vy)) (hk:X.env.kindOf y=some .cell) (hy:X.env.cells.lookup y=some c):∃u,RelV vy u/\s.heap.IsCell c (some u):=by
 obtain ⟨m,_,l⟩:=I.loc;obtain ⟨u,r,lk⟩:=l iy y vy hN hσ (.inr (.inl hk));rcases lk with ⟨z,_⟩| ⟨_,d,e,ic⟩
 ·rw [hk] at z;cases z
 ·rw [hy] at e;cases e;exact ⟨u,r,ic⟩
theorem zIm {g:Str->Int}:∀{vs:List Value} {ks:List Str},StrsAre vs ks->∀p∈(ks.map g).zip vs,∃x t,x∈ks/\p=(g x,.str x t)
 | _,_,.nil,p,hp=>by simp at hp
 | _,_,.cons x t h,p,hp=>by
  rw [qAn,List.zip_cons_cons] at hp;rcases qAN.mp hp with z| z
  ·exact ⟨x,t,qAT,z⟩
  ·obtain ⟨x',t',h1,h2⟩:=zIm h p z;exact ⟨x',t',qAR _ h1,h2⟩
end
theorem law_callT {P:Program} {w:World} {K:PySem.W.Frag} {mg mb:Str->Option Value} {CX:CXT} {k:Nat} {fa a:Addr} {fd:FuncData} {x:Str} {sp:Sp} {s₁:Shared} {vs:List Value} {ns:List Int} {tabs:List (Addr×Addr)}
  (KX:K.In s₁.heap) (hns:s₁.heap.Ns mainGlobals mg) (hb:s₁.heap.Ns builtinsNs mb) (hbb:∀x:Str,x≠ "__name__" ->mb x=bootBuiltins x) (hlim:s₁.heap.NoLimit) (hg:s₁.gens=#[]) (hB:zHt mg s₁.heap) (hT:PySem.W.TabsAt tabs s₁.heap) (hKT:∀q∈tabs,K.lookup q.2=none)
  (ha:s₁.heap.get? a=some {cls:=.type "list",data:=.seq vs.toArray}) (hi:IntsAre vs ns) (hl:ns.length<=sizeLine) (hr:Room k callerA)
  (F:∀base:Heap,K.In base->base.Ns mainGlobals mg->zHt mg base->(∀q∈tabs,PySem.W.CodeHd base q.1 q.2)->FnOk P w K mg base CX k fa fd [x] sp) (hbind:∀(s:Shared) (u:Value),BindsTo s fd ⟨[u],[]⟩ [(x,u)])
  (hsp:∀H:Hp,SqL K H a (ns.map V.int)->(∀q∈tabs,H q.2=some (.tbl #[]))->sp [.ref a] H (fun v _=>v= .bl true) fun _ _ _=>False)
  (hCX:∀H e s',CX [] H s₁ (fun _ _ _=>False) e s'->False) :
  codeAny (model P w) callerA (.call (.ref fa) ⟨[.ref a],[]⟩) (fun r s'=>r= .ok (.ret (.bool true))/\OldK s₁.heap s'.heap/\s'.os=s₁.os/\AllBare s'.gens) s₁:=by
 have rv:=vals_ints hi;have lenV:=hi.length
 have naT:∀q∈tabs,q.2≠a:=fun q hq z=>by
  have:=(hT q hq).2;rw [z,ha] at this;cases this
 have core:∀H:Hp,(∀b,H b=none\/(∃o xs,H b=some (.frz o (.lst xs)))\/(H b=some (.tbl #[])/\∃q∈tabs,q.2=b))->SqL K H a (ns.map V.int)->(∀q∈tabs,H q.2=some (.tbl #[]))->HOk P w H s₁.heap->(∀b,H b≠none->b=a\/∃q∈tabs,q.2=b)->(H a≠none->K.lookup a=none) ->
   codeAny (model P w) callerA (.call (.ref fa) ⟨[.ref a],[]⟩) (fun r s'=>r= .ok (.ret (.bool true))/\OldK s₁.heap s'.heap/\s'.os=s₁.os/\AllBare s'.gens) s₁:=by
  intro H hO hS hH hok hA hK;have base_of:∀{b:Addr} {o:Obj},s₁.heap.get? b=some o->H b=none->(hidT s₁.heap H).get? b=some o:=fun e n=>hidT_get e n
  have non:∀{b:Addr} {o:Obj},s₁.heap.get? b=some o->(∀xs n,o.data≠.seq xs n)->(∀ps,o.data≠.fields ps\/o.cls≠.none)->H b=none:=fun {b o} e n1 n2=>by
   cases q:H b with
   | none=>rfl
   | some u =>
    rcases hA b (by rw [q];simp) with z| ⟨r,hr,z⟩
    ·subst z;rw [ha] at e;cases e;exact absurd rfl (n1 _ _)
    ·subst z;rw [(hT r hr).2] at e;cases e;rcases n2 #[] with z| z<;>exact absurd rfl z
  have noA:∀{b:Addr} {o:Obj} {es:Array DictEntry} {ep:Nat},s₁.heap.get? b=some o->o.data= .dict es ep->H b=none:=fun {b o es ep} e d=>non e (fun xs n z=>by rw [d] at z;cases z) fun ps=>.inl fun z=>by rw [d] at z;cases z
  have nsK:∀{b:Addr} {m:Str->Option Value},s₁.heap.Ns b m->(hidT s₁.heap H).Ns b m:=fun {b m} ⟨o,es,ep,e,d,r⟩=>⟨o,es,ep,base_of e (noA e d),d,r⟩
  have hKb:K.In (hidT s₁.heap H):=fun b o e=>base_of (KX b o e) (by
   cases q:H b with
   | none=>rfl
   | some u =>
    rcases hA b (by rw [q];simp) with z| ⟨r,hr,z⟩
    ·subst z;rw [hK (by rw [q];simp)] at e;cases e
    ·subst z;rw [hKT r hr] at e;cases e)
  have hBb:zHt mg (hidT s₁.heap H):=by
   obtain ⟨bm,o,b1,b2,b3,b4,b5,b6⟩:=hB;exact ⟨bm,o,b1,b2,base_of b3 (non b3 (fun xs n z=>by rw [b6] at z;cases z) fun ps=>.inl fun z=>by rw [b6] at z;cases z),b4,b5,b6⟩
  have hCb:∀q∈tabs,PySem.W.CodeHd (hidT s₁.heap H) q.1 q.2:=fun q hq=>by
   obtain ⟨o,vs',file,tf,flags,tg,inF,text,tt,c1,c2,c3,c4⟩:=(hT q hq).1;exact ⟨o,vs',file,tf,flags,tg,inF,text,tt,base_of c1 (non c1 (fun xs n z=>by rw [c3] at z;cases z) fun ps=>.inr fun z=>by rw [c2] at z;cases z),c2,c3,c4⟩
  have hM:Mod K mg (hidT s₁.heap H):=⟨hKb,nsK hns,⟨mb,nsK hb,hbb⟩,let ⟨mc,h1,h2⟩:=hlim;⟨mc,nsK h1,h2⟩⟩;have e0:Env0 P w K mg (hidT s₁.heap H) callerA [] s₁ H:=⟨rfl,hM,fun b o e=>of_hidT e,qBN (hidT_size _ _),trivial,fun b hb=>absurd (show b∈([]:List Addr) from hb) (by simp),hok,.of_eq hg⟩;refine qCK ((F _ hKb (nsK hns) hBb hCb).run callerA [] s₁ H ⟨[.ref a],[]⟩ [.ref a] [.ref a] _ _ hr e0 (hbind s₁ (.ref a)) (.cons rfl .nil) (hsp H hS hH)) fun r s' h=>?_
  cases r with
  | error e=>exact (hCX H e s' h).elim
  | ok fl =>
   cases fl with
   | next=>exact False.elim h
   | brk=>exact False.elim h
   | cont=>exact False.elim h
   | ret u =>
    obtain ⟨v,H',os,bare,un,hok',r',q⟩:=h;have q':v= .bl true:=q;subst q';obtain rfl:u=Value.bool true:=r'
    have kept:∀b o,s₁.heap.get? b=some o->(∀r∈tabs,r.2≠b)->s'.heap.get? b=some o:=fun b o e nt=>by
     cases q:H b with
     | none=>exact un.keep b o e q (by intro z;exact absurd (show b∈([]:List Addr) from z) (by simp)) (by simp)
     | some u =>
      rcases hO b with z| ⟨ob,xs,z⟩| ⟨z,r,hr,y⟩
      ·rw [q] at z;cases z
      ·have z2:=un.frzs b ob _ z;obtain ⟨e1,_⟩:=hok b _ z;obtain ⟨e2,_⟩:=hok' b _ z2;rw [e] at e1;cases e1;exact e2
      ·exact absurd y (nt r hr)
    refine ⟨rfl,⟨fun b o e=>?_,fun b o e=>?_⟩,os,bare⟩
    ·by_cases t:∃r∈tabs,r.2=b
     ·obtain ⟨r,hr,rfl⟩:=t;obtain ⟨c1,c2⟩:=hT r hr;rw [c2] at e;cases e;obtain ⟨more,z⟩:=un.tbls _ _ (hH r hr);have z2:s'.heap.get? r.2=some {cls:=.none,data:=.fields (#[]++more)}:=hok' _ _ z;exact .inr (.inl ⟨(c1.tab c2).isCodeTable,rfl,#[],more,rfl,z2⟩)
     ·exact .inl (kept b o e fun r hr z=>t ⟨r,hr,z⟩)
    ·by_cases t:∃r∈tabs,r.2=b
     ·obtain ⟨r,hr,rfl⟩:=t;obtain ⟨more,z⟩:=un.tbls _ _ (hH r hr);exact ⟨_,hok' _ _ z⟩
     ·exact ⟨o,kept b o e fun r hr z=>t ⟨r,hr,z⟩⟩
 have hTb:∀b:Addr,(∃q∈tabs,q.2=b)->s₁.heap.get? b=some (PySem.W.tabObj #[]):=fun b ⟨q,hq,e⟩=>by rw [<-e];exact (hT q hq).2
 open Classical in
 cases hk:K.lookup a with
 | some o =>
  have e:=KX a o hk;rw [ha] at e
  cases e
  refine core (fun b=>if (∃q∈tabs,q.2=b) then some (.tbl #[]) else none) (fun b=>?_) (.inr ⟨_,vs.toArray,_,hk,rfl,rfl,rfl,by rw [qAM,lenV];exact hl,by simpa using rv⟩) (fun q hq=>qAC ⟨q,hq,rfl⟩) (fun b u z=>?_) (fun b z=>?_) fun z=>?_
  ·by_cases t:∃q∈tabs,q.2=b
   ·exact .inr (.inr ⟨qAC t,t⟩)
   ·exact .inl (qAB t)
  ·by_cases t:∃q∈tabs,q.2=b
   ·have z':=(qAC t).symm.trans z
    cases z'
    exact hTb b t
   ·have z':=(qAB t).symm.trans z
    cases z'
  ·by_cases t:∃q∈tabs,q.2=b
   ·exact .inr t
   ·exact absurd (qAB t) z
  ·by_cases t:∃q∈tabs,q.2=a
   ·obtain ⟨q,hq,e⟩:=t;exact absurd e (naT q hq)
   ·exact absurd (qAB t) z
 | none =>
  have nta:¬∃q∈tabs,q.2=a:=fun ⟨q,hq,e⟩=>naT q hq e;refine core (fun b=>if b=a then some (.frz {cls:=.type "list",data:=.seq vs.toArray} (.lst (ns.map V.int))) else if (∃q∈tabs,q.2=b) then some (.tbl #[]) else none) (fun b=>?_) (.inl (.inr ⟨{cls:=.type "list",data:=.seq vs.toArray},qAC rfl⟩)) (fun q hq=>(qAB (naT q hq)).trans (qAC ⟨q,hq,rfl⟩)) (fun b u z=>?_) (fun b z=>?_) fun _=>hk
  ·by_cases hb:b=a
   ·exact .inr (.inl ⟨_,_,qAC hb⟩)
   ·by_cases t:∃q∈tabs,q.2=b
    ·exact .inr (.inr ⟨(qAB hb).trans (qAC t),t⟩)
    ·exact .inl ((qAB hb).trans (qAB t))
  ·by_cases hb:b=a
   ·have z':=(qAC hb).symm.trans z
    cases z'
    subst hb;exact ⟨ha,by rw [qAE];exact hl,vs,_,rv,ha⟩
   ·by_cases t:∃q∈tabs,q.2=b
    ·have z':=((qAB hb).trans (qAC t)).symm.trans z
     cases z'
     exact hTb b t
    ·have z':=((qAB hb).trans (qAB t)).symm.trans z
     cases z'
  ·by_cases hb:b=a
   ·exact .inl hb
   ·by_cases t:∃q∈tabs,q.2=b
    ·exact .inr t
    ·exact absurd ((qAB hb).trans (qAB t)) z
theorem walk_ofT {l:PySem.W.OpenLaw} {n k:Nat} {q:Program} {loose:List Str} {XP:(Str->Option Value)->Heap->Prop} {YP:World->Heap->Prop} {d:DefRec} {K:Params->PySem.W.Frag} {CX:World->CXT} {sp:World->Sp} {x:Str} {tabs:List (Addr×Addr)}
  (hn:l.most=some n) (hn2:n<=sizeLine) (hdf:d.params.defaults=[]) (hr:Room k callerA)
  (hY:∀(w:World) (h:Heap),YP w h->(K w.params).In h) (hT:∀(w:World) (h:Heap),YP w h->PySem.W.TabsAt tabs h) (hKT:∀(w:World),∀q∈tabs,(K w.params).lookup q.2=none)
  (F:∀(w:World) (mg:Str->Option Value) (fa:Addr) (h:Heap),(K w.params).In h->h.Ns mainGlobals mg->mg d.name=some (.ref fa) ->
   ∃fd:FuncData,(∀(s:Shared) (u:Value),BindsTo s fd ⟨[u],[]⟩ [(x,u)]) /\
    ∀base:Heap,(K w.params).In base->base.Ns mainGlobals mg->zHt mg base->(∀q∈tabs,PySem.W.CodeHd base q.1 q.2)->FnOk l.prog w (K w.params) mg base (CX w) k fa fd [x] (sp w))
  (hsp:∀(w:World) (H:Hp) (a:Addr) (ns:List Int),ns.length<=n->SqL (K w.params) H a (ns.map V.int)->(∀q∈tabs,H q.2=some (.tbl #[]))->sp w [.ref a] H (fun v _=>v= .bl true) fun _ _ _=>False)
  (hCX:∀(w:World) (H:Hp) (s:Shared) (e:Value) (s':Shared),CX w [] H s (fun _ _ _=>False) e s'->False) :
  PySem.W.WalkO q loose XP YP l.row.toRowW d [] (fun f vs=>PySem.call f vs):=by
 refine Att.attach_call hn hdf fun w s₀ s₁ mg mb fa o pm cd doc a vs ns G Y ho hd hcd hmg hobj hints hlen hg=>?_;have KX:=hY w _ Y;obtain ⟨fd,hb,hF⟩:=F w mg fa _ KX G.T.g hmg;exact law_callT KX G.T.g G.T.b G.T.builtins G.T.nolimit hg G.T.bmain (hT w _ Y) (hKT w) hobj hints (qAX hlen hn2) hr hF hb (fun H hS hH=>hsp w H a ns hlen hS hH) fun H e s'=>hCX w H s₁ e s'
end L2
namespace RV
open PySem
end RV
namespace L2
open PySem PySem.Spec PyProof.Rows
end L2
local macro_rules| `(tactic| walk_at "lc")=>`(tactic| first| exact Or.inl rfl| exact Or.inr rfl)
local macro_rules| `(tactic| walk_at "nm")=>`(tactic| first| assumption| exact qCA| (refine L2.nm1 ?_;walk_at "ne")| (refine L2.nm2 ?_ ?_<;>walk_at "ne")| (refine L2.nm3 ?_ ?_ ?_<;>walk_at "ne"))
local macro_rules| `(tactic| walk_at "lk")=>`(tactic| first| assumption| exact L2.upd_same| (refine (L2.upd_ne ?_).trans ?_;walk_at "ne";walk_at "lk")| (refine L2.Kp.look (by assumption) ?_ ?_;walk_at "lk";walk_at "nm"))
local macro_rules| `(tactic| walk_at "ne")=>`(tactic| first| assumption| (refine qAr ?_;assumption)| (refine L2.ne_fre (by assumption) ?_;walk_at "lk")| (refine qAr (L2.ne_fre (by assumption) ?_);walk_at "lk"))
local macro_rules| `(tactic| walk_at "bd")=>`(tactic| first| decide| lia| (dsimp only;first| decide| lia))
local macro_rules| `(tactic| walk_at "ml")=>`(tactic| first| exact Or.inr ⟨by decide,by decide⟩| exact Or.inl ⟨by lia,by lia⟩| exact Or.inr ⟨by lia,by lia⟩)
local macro_rules| `(tactic| walk_at "ln")=>`(tactic| first| decide| (have hsz:=PySem.sizeLine_eq;simp only [qAc,qBW,qAE,qAg] at *;lia))
local macro_rules| `(tactic| walk_at "ix")=>`(tactic| first| rfl| assumption| (refine L2.atI_natc ?_;assumption))
local macro_rules| `(tactic| walk_at "vs")=>`(tactic| first| exact Or.inl rfl| exact Or.inr (Or.inl rfl)| exact Or.inr (Or.inr rfl))
local macro_rules| `(tactic| walk_at "vk")=>`(tactic| first| exact Or.inl rfl| exact Or.inr rfl)
local macro_rules| `(tactic| walk_at "vf")=>`(tactic| first| decide +kernel| (simp only [qAN];decide))
namespace My
open PySem L2
variable {P:Program}{w:World}{K:PySem.W.Frag}{mg:Str->Option Value}{base:Heap}{C:Addr}
variable {H H':Hp}{fd:FuncData}{ns:List Str}{α:Type}{i:Nat}{y:Str}
section
variable {X:Cx} {scope sc:Scope} {C:Addr} {s₀:Shared} {H₀:Hp} {ex:List Addr} {N P:List Str} {i:Nat} {x:Str} {e:Expr} {te:TE} {pos pos':Pos} {ix:List (Option Nat)}
theorem psS (hN:X.N.Nodup) (he:PE X e te) (hi:X.N[i]?=some x:=by rfl) (hx:Loc X.env.scope x:=by walk_at "lc") (hs:swapsWith e (some (.Name x pos')) pos.line X.env=pure false:=by rfl) (hf:X.fn x=true\/X.env.scope.names.lookup x=some .local:=by first| exact .inl rfl| exact .inr rfl| assumption):PS X (.Assign [.Name x pos'] e pos) (tAsg te (gName i)):=ps_set hN hi hx he hs hf
theorem pgN (hN:X.N.Nodup) (hi:X.N[i]?=some x:=by rfl) (hx:Loc X.env.scope x:=by walk_at "lc") (hf:X.fn x=true\/X.env.scope.names.lookup x=some .local:=by first| exact .inl rfl| exact .inr rfl| assumption):PG X (.Name x pos) (gName i):=pg_name hN hi hx hf
theorem pgB (hi:(X.block scope C s₀ H₀ ex N).N[i]?=some x:=by rfl) (hN:N.Nodup:=by decide +kernel) (hx:Loc (X.block scope C s₀ H₀ ex N).env.scope x:=by walk_at "lc") (hf:(X.block scope C s₀ H₀ ex N).fn x=true\/(X.block scope C s₀ H₀ ex N).env.scope.names.lookup x=some .local:=by first| exact .inl rfl| exact .inr rfl| assumption):PG (X.block scope C s₀ H₀ ex N) (.Name x pos) (gName i):=pg_name hN hi hx hf
theorem dtk (hN:X.N[i]?=some x) (D:Draws X scope N ix) (hv:Vis X.env.scope x:=by walk_at "vs") (hk:(relabel scope X.env).names.lookup x=some .cell\/(relabel scope X.env).names.lookup x=some .free:=by walk_at "vk") (hf:(x,NameKind.free)∈scope.names:=by walk_at "vf"):Draws X scope (x::N) (some i::ix):=.tk hN hv hk hf D
theorem fnS (a:sc.kind= .function:=by rfl) (b:sc.isCoroutine=false:=by rfl) (c:sc.isGenerator=false:=by rfl) (d:N.Nodup:=by decide +kernel) (e:N.take P.length=P:=by rfl) (f:∀x∈P,sc.names.lookup x=some .local\/sc.names.lookup x=some .cell:=by decide +kernel) (g:∀y∈sc.names,y.2≠.free:=by decide +kernel):FnScope N P sc:=⟨a,b,c,d,e,f,g⟩
end
def top (i:Nat):Stmt:=PySem.Challenge.pw_levelbench_k55_whole_woods_by_all_ways.main.body.getD i (.Pass ⟨0,0,0,0⟩)
structure Txt (K:PySem.W.Frag) (mg:Str->Option Value):Prop where
 z_len:mg "len" = none
 z_max:mg "max" = none
 z_range:mg "range" = none
 z_int:mg "int" = none
 z_str:mg "str" = none
 z_list:mg "list" = none
 z_all:mg "all" = none
 z_min:mg "min" = none
 z_dict:mg "dict" = none
 z_bool:mg "bool" = none
 z_abs:mg "abs" = none
 z_reversed:mg "reversed" = none
 z_enumerate:mg "enumerate" = none
 z_any:mg "any" = none
 z_isinstance:mg "isinstance" = none
 z_sorted:mg "sorted" = none
 z_set:mg "set" = none
 z_tuple:mg "tuple" = none
 c_MOST_JOBS:∃t,mg "MOST_JOBS" = some (.int 20 t)
 c_LONGEST_NAME:∃t,mg "LONGEST_NAME" = some (.int 8 t)
section
def zB6 (H:Hp) (p:Addr):Prop:=∃a b:Int,H p=some (.lst [.int a,.int b])/\0<=a/\0<=b/\b<2147483629
theorem zB6.kp {M:List Addr} {p:Addr} (h:zB6 H p) (k:Kp M H H') (n:p∉M):zB6 H' p:=by
 obtain ⟨a,b,e,r⟩:=h;exact ⟨a,b,k p _ e n,r⟩
def zH7:Sp:=fun vs H Q _=>∃(p:Addr) (m:Int),vs=[.ref p,.int m]/\zB6 H p/\1<=m/\m<10^100/\∀(d:Int) (H':Hp),0<=d->d<m->zB6 H' p->Kp [p] H H'->Q (.int d) H'
abbrev s_take:Stmt:=top 47
theorem sc_take:FnScope ["_law_purse_here", "_law_many", "_law_digit"] ["_law_purse_here", "_law_many"] (zAd s_take):=fnS
theorem ok_take {f:Addr} (F:Fun K "_law_take" "_law_take" s_take f fd):FnOk P w K mg base CX0 1 f fd ["_law_purse_here", "_law_many"] zH7:=by
 refine F.ok sc_take (fun vs H Q E h=>?_) (fun cdv A outer s H vs Q E hr h=>?_)
 ·obtain ⟨p,m,rfl,_⟩:=h;rfl
 ·obtain ⟨p,m,rfl,⟨a,b,hp,ha,hb,hb'⟩,hm,hm',k⟩:=h
  refine ⟨_,(zAc (zCz (zAz op_gt (zDc zB9 (pv 0) zAg (fun _ _=>rfl)) zAg (zA8 _))
    (zAc (psS (i:=2) sc_take.nd (zAr zG5 (zDc zB9 (pv 0) zAg (fun _ _=>rfl)) (pv 1)))
    (zAc (ps_asg (zAr op_fdivB (zDc zB9 (pv 0) zAg (fun _ _=>rfl)) (pv 1)) (pg_sub (pv 0) zAg set_list))
    (zAe (zAm (pv 2)))))
    zAw)
   (zAc (ps_asg (zAr zG5 (zAr zBx (zAr zE5 (zDc zB9 (pv 0) zAg (fun _ _=>rfl)) zAg) zAg) zAg) (pg_sub (pv 0) zAg set_list))
   (zAe (zAm (zAr zG5 (zAr op_fdiv (zAr zG5 (zAr zE5 (zDc zB9 (pv 0) zAg (fun _ _=>rfl)) (zDc zB9 (pv 0) zAg (fun _ _=>rfl))) zAg) zAg) (pv 1)))))),?_⟩
  refine ⟨_,rfl,_,_,_,_,rfl,rfl,SqL.of (by walk_at "lk"),(by walk_at "ix"),_,_,rfl,rfl,_,rfl,?_⟩;refine ite2 (fun c=>?_) (fun c=>?_)
  ·have c':0<a:=by simpa using c
   refine ⟨_,rfl,_,_,_,_,rfl,rfl,SqL.of (by walk_at "lk"),(by walk_at "ix"),_,rfl,_,_,rfl,rfl,(by walk_at "bd"),?_⟩;refine ⟨_,rfl,_,_,_,_,rfl,rfl,SqL.of (by walk_at "lk"),(by walk_at "ix"),_,rfl,_,_,rfl,rfl,⟨by walk_at "bd",hm'⟩,_,rfl,_,_,_,_,rfl,rfl,(by walk_at "lk"),(by walk_at "ix"),?_⟩;refine ⟨_,rfl,?_⟩;refine k _ _ (qCQ _ (by lia)) (qCR _ (by lia)) ⟨a / m,b,upd_same,Int.ediv_nonneg ha (by lia),hb,hb'⟩ (Kp.put Kp.refl (by simp))
  ·refine ⟨_,rfl,_,_,_,_,rfl,rfl,SqL.of (by walk_at "lk"),(by walk_at "ix"),_,_,rfl,rfl,(by walk_at "ml"),_,_,rfl,rfl,_,_,rfl,rfl,(by walk_at "bd"),_,rfl,_,_,_,_,rfl,rfl,(by walk_at "lk"),(by walk_at "ix"),?_⟩;have h1:=qCQ (b*39373+7919) (show (2147483629:Int)≠0 by decide);have h2:=qCR (b*39373+7919) (show (0:Int)<2147483629 by decide);refine ⟨_,rfl,_,_,_,_,rfl,rfl,SqL.of (by walk_at "lk"),(by walk_at "ix"),_,rfl,_,_,_,_,rfl,rfl,SqL.of (by walk_at "lk"),(by walk_at "ix"),_,_,rfl,rfl,(by walk_at "ml"),_,_,rfl,rfl,(by walk_at "bd"),_,_,rfl,rfl,⟨by walk_at "bd",by walk_at "bd"⟩,_,rfl,_,_,rfl,rfl,(by walk_at "bd"),?_⟩;refine k _ _ (qCQ _ (by lia)) (qCR _ (by lia)) ⟨a,_,upd_same,ha,h1,h2⟩ (Kp.put Kp.refl (by simp))
def spPurse:Sp:=fun vs H Q _=>∃(c k:Int),vs=[.int c,.int k]/\-(2^31)<k/\k<2^31/\∀(p:Addr) (H':Hp),Fre H p->zB6 H' p->Kp [] H H'->Q (.ref p) H'
abbrev s_purse:Stmt:=top 46
theorem sc_purse:FnScope ["_law_cell_here", "_law_k", "_law_number"] ["_law_cell_here", "_law_k"] (zAd s_purse):=fnS
theorem ok_purse {f:Addr} (F:Fun K "_law_purse" "_law_purse" s_purse f fd) (T:Txt K mg):FnOk P w K mg base CX0 1 f fd ["_law_cell_here", "_law_k"] spPurse:=by
 refine F.ok sc_purse (fun vs H Q E h=>?_) (fun cdv A outer s H vs Q E hr h=>?_)
 ·obtain ⟨p,m,rfl,_⟩:=h;rfl
 ·obtain ⟨c,n,rfl,hn,hn',k⟩:=h
  refine ⟨_,(zAc (psS (i:=2) sc_purse.nd (zAr zG5 (zAr zBx (zAr zBx (zAr zE5 (zAr zG5 (pv 0) zAg) zAg) (zAr zE5 (zAr zE5 (pv 1) (pv 1)) zAg)) zAg) zAg))
   (zAe (zAm (zBp (zAa (zAi (call_max2 rfl) (by rfl) T.z_max bo_max (zAa zAg (zAa (zAr zG4 (pv 0) (zAr op_pow zAg zAg)) zAb))) (zAa (zAr zG5 (zAr zE5 (pv 2) (pv 2)) zAg) zAb)))))),?_⟩
  refine ⟨_,rfl,_,_,rfl,rfl,(by walk_at "bd"),_,_,rfl,rfl,(by walk_at "ml"),_,rfl,_,rfl,_,_,rfl,rfl,(by walk_at "ml"),_,_,rfl,rfl,(by walk_at "ml"),_,_,rfl,rfl,_,_,rfl,rfl,_,_,rfl,rfl,(by walk_at "bd"),?_⟩;generalize c % 2147483629*48271+n*n*69623+11=y;have h1:=qCQ y (show (2147483647:Int)≠0 by decide);have h2:=qCR y (show (0:Int)<2147483647 by decide);refine ⟨_,rfl,_,_,rfl,rfl,⟨by decide,by decide,by decide⟩,_,_,rfl,rfl,_,_,rfl,_,rfl,_,rfl,_,_,rfl,rfl,(by walk_at "ml"),_,_,rfl,rfl,(by walk_at "bd"),(by walk_at "ln"),fun p hp=>?_⟩;refine k p _ hp ⟨_,_,upd_same,?_,qCQ _ (by decide),qCR _ (by decide)⟩ (Kp.new Kp.refl hp);split<;>lia
def spCell (K:PySem.W.Frag):Sp:=fun vs H Q _=>∃(a:Addr) (ns:List Int) (k:Int),vs=[.ref a,.int k]/\SqL K H a (ns.map V.int)/\0<=k/\∀c:Int,Q (.int c) H
abbrev s_cell:Stmt:=top 45
theorem sc_cell:FnScope ["_law_script", "_law_k"] ["_law_script", "_law_k"] (zAd s_cell):=fnS
theorem ok_cell {f:Addr} (F:Fun K "_law_cell" "_law_cell" s_cell f fd) (T:Txt K mg):FnOk P w K mg base CX0 1 f fd ["_law_script", "_law_k"] (spCell K):=by
 refine F.ok sc_cell (fun vs H Q E h=>?_) (fun cdv A outer s H vs Q E hr h=>?_)
 ·obtain ⟨p,m,n,rfl,_⟩:=h;rfl
 ·obtain ⟨a,ns,n,rfl,hS,hn,k⟩:=h;refine ⟨_,(zAe (zAm (pe_ifExp (zAz op_lt (pv 1) (zAi zAl (by rfl) T.z_len zCo (zAa (pv 0) zAb)) (zA8 _)) (zDc zB9 (pv 0) (pv 1) (fun _ _=>rfl)) zAg))),?_⟩;refine ⟨_,rfl,_,rfl,_,_,rfl,.inl hS,_,_,rfl,rfl,_,rfl,?_⟩;refine ite2 (fun c=>?_) (fun c=>?_)
  ·have c':n<ns.length:=by simpa using c
   have hx:(ns.map V.int)[n.toNat]?=some (V.int (ns[n.toNat]'(by lia))):=by simp
   refine ⟨_,rfl,_,rfl,_,_,_,_,rfl,rfl,hS,zFk hn hx,k _⟩
  ·exact k _
end
def zH5 (s:Str):Prop:=1<=s.length/\s.length<=8/\∀c∈s.cps.toList,97<=c/\c<=122
def WordS (n:Nat) (s:Str):Prop:=s.length=n/\∀c∈s.cps.toList,97<=c/\c<=122
theorem len_app (a b:Str):(a++b).length=a.length+b.length:=by
 show (a++b).cps.size=_;rw [Str.cps_append,Array.size_append];rfl
theorem WordS.more {n:Nat} {s:Str} (h:WordS n s) {c:Nat} (h1:97<=c) (h2:c<=122):WordS (n+1) (s++⟨#[c]⟩):=by
 refine ⟨by rw [len_app,h.1];rfl,fun x hx=>?_⟩;rw [Str.cps_append,qDC] at hx;rcases qAU.mp hx with z| z
 ·exact h.2 x z
 ·have:x=c:=by simpa using z
  lia
def zDu:Str:= "abcdefghijklmnopqrstuvwxyz"
theorem zDt:zDu.cps.toList=(List.range 26).map (97+·):=by decide +kernel
theorem letters_at {d:Int} (h0:0<=d) (h1:d<26):atI zDu.cps.toList d=some (97+d.toNat):=by
 refine zFk h0 ?_;have:d.toNat<26:=by lia
 rw [zDt,qAW,List.getElem?_range this];rfl
theorem zEg (a c:Nat):(!(decide (([c]:List Nat)<[a])))=decide (a<=c):=by
 have:(([c]:List Nat)<[a])↔c<a:=by
  constructor
  ·intro h
   cases h with
   | rel h=>exact h
   | cons h=>cases h
  ·intro h;exact List.Lex.rel h
 by_cases h:c<a
 ·rw [qAV (this.mpr h),qAl (by lia)];rfl
 ·rw [qAl (fun z=>h (this.mp z)),qAV (by lia)];rfl
section
def zI5 (s:Str):Bool:=decide (1<=s.length)&&decide (s.length<=8)&&s.cps.toList.all fun c=>decide (97<=c)&&decide (c<=122)
theorem nameB_iff (s:Str):zI5 s=true↔zH5 s:=by
 unfold zI5 zH5;simp only [qCM,qBT,qAx];exact ⟨fun ⟨⟨a,b⟩,c⟩=>⟨a,b,c⟩,fun ⟨a,b,c⟩=>⟨⟨a,b⟩,c⟩⟩
def spIsName:Sp:=fun vs H Q _=>∃(x:Str),vs=[.str x]/\x.length<=1000000/\∀H',Kp [] H H'->Q (.bl (zI5 x)) H'
abbrev zEx:Stmt:=top 18
theorem sc_is_name:FnScope ["thing"] ["thing"] (zAd zEx):=fnS
theorem ok_is_name {f:Addr} (F:Fun K "is_name" "is_name" zEx f fd) (T:Txt K mg):FnOk P w K mg base CX0 1 f fd ["thing"] spIsName:=by
 refine F.ok sc_is_name (fun vs H Q E h=>?_) (fun cdv A outer s H vs Q E hr h=>?_)
 ·obtain ⟨x,rfl,_⟩:=h;rfl
 ·obtain ⟨x,rfl,hx,k⟩:=h;obtain ⟨tL,hL⟩:=T.c_LONGEST_NAME
  refine ⟨_,(zAc (zCz (PW.pt (pw_or (zE2 (zDj (zAi zFh (by rfl) T.z_isinstance zBu (zAa (pv 0) (zAa (zG1 (by rfl) T.z_str bo_str (v:=.ty "str") rfl) zAb))))) (pw_or1 (zE2 (pt_chain op_le op_le zAg (zAi call_len_str (by rfl) T.z_len zCo (zAa (pv 0) zAb)) (pe_glob rfl hL (v:=.int 8) ⟨_,rfl⟩))))))
    (zAe (zAm pe_bl))
    zAw)
   (zAe (zAm (zAi (zFj _ rfl) (by rfl) T.z_all bo_all (zAa (zBa rfl (zBe (sc:=zAd zEx) rfl (by decide +kernel)) (Draws.own (x:= "sign") Draws.nil) (pi_str (pv 0)) (fun _ _ _ _=>(pgB (i:=0))) (fun _ _ _ _=>zCl) (fun _ _ _ _=>(pe_chain op_le_str op_le_str zIc (pv 0) zIc))) zAb))))),?_⟩
  refine ⟨_,rfl,_,_,_,_,rfl,TyOf.str x,zGn,_,rfl,iteF ?_⟩;refine ⟨_,rfl,_,rfl,?_,_,_,rfl,rfl,_,rfl,?_⟩
  ·rw [qAK];lia
  refine ite2 (fun c=>?_) (fun c=>?_)
  ·have c1:1<=x.length:=by
    have:=qAt c;lia
   refine ⟨_,_,rfl,rfl,_,rfl,?_⟩;refine ite2 (fun c=>?_) (fun c=>?_)
   ·-- too long
    have c2:¬(x.length<=8):=fun z=>by
     have:decide ((x.length:Int)<=8)=true:=qAV (by lia);rw [this] at c;cases c
    have e:zI5 x=false:=by
     unfold zI5;rw [qAl c2];simp
    rw [<-e];exact k H Kp.refl
   ·have c2:x.length<=8:=by
     by_cases z:(x.length:Int)<=8
     ·lia
     ·rw [qAl z] at c;exact absurd rfl c
    refine ⟨_,rfl,_,rfl,fun D hD=>comp_str0 (z:=x) (fun i ys τ H'=>(∃o0,τ=[o0])/\ys=((x.cps.toList.take i).map fun c=>V.bl (decide (97<=c)&&decide (c<=122)))/\H'=upd H D (.lst ys)) ⟨⟨_,rfl⟩,rfl,rfl⟩ ?_ ?_⟩
    ·rintro i c ys τ H' hc ⟨⟨o0,rfl⟩,rfl,rfl⟩;have ei:x.cps.toList.take (i+1)=x.cps.toList.take i++[c]:=by rw [qDI,hc];rfl
     have hi:i<x.cps.toList.length:=(qAd.mp hc).1;have hlen:x.cps.toList.length=x.length:=by simp [Str.length]
     have fin:∀b:Bool,b=(decide (97<=c)&&decide (c<=122))->(upd H D (.lst ((x.cps.toList.take i).map fun c=>V.bl (decide (97<=c)&&decide (c<=122))))) D=some (.lst ((x.cps.toList.take i).map fun c=>V.bl (decide (97<=c)&&decide (c<=122))))/\((x.cps.toList.take i).map fun c=>V.bl (decide (97<=c)&&decide (c<=122))).length<sizeLine /\
       ((∃o0,([some (V.str ⟨#[c]⟩)]:St)=[o0])/\((x.cps.toList.take i).map fun c=>V.bl (decide (97<=c)&&decide (c<=122)))++[V.bl b]=((x.cps.toList.take (i+1)).map fun c=>V.bl (decide (97<=c)&&decide (c<=122))) /\
       upd (upd H D (.lst ((x.cps.toList.take i).map fun c=>V.bl (decide (97<=c)&&decide (c<=122))))) D (.lst (((x.cps.toList.take i).map fun c=>V.bl (decide (97<=c)&&decide (c<=122)))++[V.bl b]))=upd H D (.lst (((x.cps.toList.take i).map fun c=>V.bl (decide (97<=c)&&decide (c<=122)))++[V.bl b]))):=fun b hb=>by
      refine ⟨upd_same,?_,⟨_,rfl⟩,?_,zBg⟩
      ·rw [qAE,qAe,qAK];lia
      ·rw [ei,qAQ,hb];rfl
     refine ⟨_,rfl,_,_,rfl,rfl,_,rfl,?_⟩;refine ite2 (fun c1=>?_) (fun c1=>?_)
     ·refine ⟨_,_,rfl,rfl,fin _ ?_⟩;have c1:(!(decide (([c]:List Nat)<[97])))=true:=c1;rw [zEg] at c1;show (!(decide (([122]:List Nat)<[c])))=_;rw [zEg,c1];rfl
     ·refine fin _ ?_;have c1:¬(!(decide (([c]:List Nat)<[97])))=true:=c1;rw [zEg] at c1;rw [Bool.not_eq_true] at c1;rw [c1];rfl
    ·rintro ys τ H' ⟨⟨o0,rfl⟩,rfl,rfl⟩;have hlen:x.cps.toList.take x.length=x.cps.toList:=qBh (by simp [Str.length]);refine ⟨D,x.cps.toList.map (fun c=>decide (97<=c)&&decide (c<=122)),rfl,SqL.of ?_,?_⟩
     ·rw [upd_same,hlen,qA1];rfl
     ·have e:((x.cps.toList.map (fun c=>decide (97<=c)&&decide (c<=122))).all id)=zI5 x:=by
       unfold zI5;rw [qAV c1,qAV c2,qCo];rfl
      rw [e];exact k _ (Kp.new Kp.refl hD)
  ·-- empty
   have c1:¬(1<=x.length):=fun z=>c (qAV (by lia));refine ⟨_,rfl,?_⟩;refine iteT ?_
   have e:zI5 x=false:=by
    unfold zI5;rw [qAl c1];simp
   rw [<-e];exact k H Kp.refl
end
abbrev Txs (H:Hp) (l:Addr) (ns:List Str):Prop:=H l=some (.lst (ns.map V.str))
structure Ords (H:Hp) (l:Addr) (qs:List (List Str×Addr)):Prop where
 top:H l=some (.lst (qs.map fun q=>V.ref q.2))
 row:∀q∈qs,H q.2=some (.tup (q.1.map V.str))
 two:∀q∈qs,∃a b,q.1=[a,b]
theorem zHn (x:Str) (ns:List Str):inV (.str x) (ns.map V.str)=decide (x∈ns):=by
 unfold inV
 induction ns with
 | nil=>rfl
 | cons n r ih =>
  rw [qAn,qCN,ih];show ((n==x)||_)=_
  by_cases e:n=x
  ·subst e;simp
  ·have e':¬x=n:=fun z=>e z.symm;rw [qA8.mpr e];simp [e']
theorem zFa (ns:List Str):(ns.map V.str).all zDd=true:=by simp [zDd]
section
def spIsOneOf:Sp:=fun vs H Q _=>∃(x:Str) (l:Addr) (ns:List Str),vs=[.str x,.ref l]/\Txs H l ns/\Q (.bl (decide (x∈ns))) H
abbrev zC8:Stmt:=top 19
theorem zF3:FnScope ["thing", "names"] ["thing", "names"] (zAd zC8):=fnS
theorem ok_is_one_of {f:Addr} (F:Fun K "is_one_of" "is_one_of" zC8 f fd) (T:Txt K mg):FnOk P w K mg base CX0 1 f fd ["thing", "names"] spIsOneOf:=by
 refine F.ok zF3 (fun vs H Q E h=>?_) (fun cdv A outer s H vs Q E hr h=>?_)
 ·obtain ⟨x,l,ns,rfl,_⟩:=h;rfl
 ·obtain ⟨x,l,ns,rfl,hl,k⟩:=h;refine ⟨_,(zAe (zAm (pe_and (zAi zFh (by rfl) T.z_isinstance zBu (zAa (pv 0) (zAa (zG1 (by rfl) T.z_str bo_str (v:=.ty "str") rfl) zAb))) (pe_one (zCm zG6 (pv 0) (pv 1) (by rfl)))))),?_⟩;refine ⟨_,rfl,_,_,_,_,rfl,TyOf.str x,zGn,_,rfl,iteT ?_⟩;refine ⟨_,rfl,_,rfl,_,_,rfl,.inl (SqL.of hl),rfl,zFa ns,?_⟩;rw [zHn];exact k
def zDz:Sp:=fun vs H Q _=>∃(x:Str) (l:Addr) (ns:List Str),vs=[.ref l,.str x]/\Txs H l ns/\x∈ns/\Q .non H
abbrev zEd:Stmt:=top 37
theorem sc_check_job:FnScope ["names", "thing"] ["names", "thing"] (zAd zEd):=fnS
theorem ok_check_job {f:Addr} (F:Fun K "check_job" "check_job" zEd f fd) (T:Txt K mg) (C_is_one_of:Cal P w K mg base "is_one_of" 1 ["thing", "names"] spIsOneOf):FnOk P w K mg base CX0 2 f fd ["names", "thing"] zDz:=by
 refine F.ok sc_check_job (fun vs H Q E h=>?_) (fun cdv A outer s H vs Q E hr h=>?_)
 ·obtain ⟨x,l,ns,rfl,_⟩:=h;rfl
 ·obtain ⟨x,l,ns,rfl,hl,hx,k⟩:=h;have HR_is_one_of:=hr
  refine ⟨_,(zAe (zCz (zE2 (zDj (zAf C_is_one_of HR_is_one_of rfl (zAa (pv 1) (zAa (pv 0) zAb)))))
    (zAe zCc)
    zAw)),?_⟩
  refine ⟨_,rfl,_,rfl,x,l,ns,rfl,hl,?_⟩;rw [qAV hx];exact ⟨_,rfl,iteF k⟩
end
abbrev dT1 (ns:List Str) (g:Str->V):List (Key×V):=ns.map fun n=>(Sum.inr n,g n)
theorem zBl (g:Str->V) (x:Str):∀ns:List Str,valV (dT1 ns g) (.inr x)=if x∈ns then some (g x) else none
 | []=>rfl
 | n::r=>by
  by_cases e:n=x
  ·subst e;have h1:valV (dT1 (n::r) g) (.inr n)=some (g n):=zGf rfl;rw [h1];simp
  ·have h1:valV (dT1 (n::r) g) (.inr x)=valV (dT1 r g) (.inr x):=zEq fun z=>e (Sum.inr.inj z);rw [h1,zBl g x r];have e':¬x=n:=fun z=>e z.symm;simp [e']
theorem zDp {g:Str->V} {x:Str} (v:V) (h:x∉ns):putK (dT1 ns g) (.inr x) v=dT1 ns g++[(.inr x,v)]:=putK_new v (by rw [zBl];simp [h])
theorem zAh {xs:List α} {x:α} (h:xs[i]?=some x):xs.take (i+1)=xs.take i++[x]:=by rw [qDI,h];rfl
theorem zA0 {v:V} (h:(ns.map V.str)[i]?=some v):∃n,ns[i]?=some n/\v= .str n:=by
 rw [qAW] at h;obtain ⟨n,e,r⟩:=qA6.mp h;exact ⟨n,e,r.symm⟩
theorem zD4 {xs:List α} (h:xs.Nodup) {x:α} (e:xs[i]?=some x):x∉xs.take i:=fun z=>by
 obtain ⟨hi,rfl⟩:=qAd.mp e;obtain ⟨j,hj,e2⟩:=qA4.mp z;rw [qAe] at hj;rw [List.getElem_take] at e2;have:=(List.getElem_inj h).mp e2;lia
section
def zF2:Sp:=fun vs H Q _=>∃(l:Addr) (ns:List Str),vs=[.ref l]/\Txs H l ns/\ns.length<=20/\(∀n∈ns,zH5 n)/\ns.Nodup/\∀H',Kp [] H H'->Q .non H'
abbrev zDb:Stmt:=top 35
theorem zBy:FnScope ["names", "thing", "seen", "name"] ["names"] (zAd zDb):=fnS
theorem zHz {f:Addr} (F:Fun K "check_names" "check_names" zDb f fd) (T:Txt K mg) (C_is_name:Cal P w K mg base "is_name" 1 ["thing"] spIsName):FnOk P w K mg base CX0 2 f fd ["names"] zF2:=by
 refine F.ok zBy (fun vs H Q E h=>?_) (fun cdv A outer s H vs Q E hr h=>?_)
 ·obtain ⟨l,ns,rfl,_⟩:=h;rfl
 ·obtain ⟨l,ns,rfl,hl,hn,hN,hD,k⟩:=h;have HR_is_name:=hr;have hu:=zDw hr;obtain ⟨tM,hM⟩:=T.c_MOST_JOBS
  refine ⟨_,(zAc (zCz (zAz op_gt (zAi zAl (by rfl) T.z_len zCo (zAa (pv 0) zAb)) (pe_glob rfl hM (v:=.int 20) ⟨_,rfl⟩) (zA8 _))
    (zAe zCc)
    zAw)
   (zAc (zA1 qAk rfl (zAj (pv 0)) (pgN (i:=1) zBy.nd)
    (zAe (zCz (zE2 (zDj (zAf C_is_name HR_is_name rfl (zAa (pv 1) zAb))))
     (zAe zCc)
     zAw)))
   (zAc (psS (i:=2) zBy.nd zCd)
   (zAe (zA1 qAk rfl (zAj (pv 0)) (pgN (i:=3) zBy.nd)
    (zAc (zCz (zIb (zG3 hu (pv 3) (pv 2)))
     (zAe zCc)
     zAw)
    (zAe (zC0 hu (pv 2) (pv 3) pe_bl rfl)))))))),?_⟩
  refine ⟨_,rfl,_,_,rfl,.inl (SqL.of hl),_,_,rfl,rfl,_,rfl,?_⟩;rw [qAl (by rw [qAE];lia)];refine iteF ?_;refine ⟨_,rfl,_,rfl,⟨_,SqL.of hl⟩,zAy (fun i σ H2=>(∃o1 o2 o3:Option V,σ=[some (.ref l),o1,o2,o3])/\Kp [] H H2) ⟨⟨_,_,_,rfl⟩,Kp.refl⟩ (fun i σ H2 _ ⟨_,k2⟩=>SqL.of (k2 l _ hl (by simp))) ?_ ?_⟩
  ·rintro i v σ H2 hv ⟨⟨o1,o2,o3,rfl⟩,k2⟩;obtain ⟨n,en,rfl⟩:=zA0 hv;have nn:=hN n (qAO en);refine ⟨_,rfl,n,rfl,by have:=nn.2.1;lia,fun H3 k3=>?_⟩;rw [(nameB_iff n).mpr nn];exact ⟨_,rfl,iteF ⟨⟨_,_,_,rfl⟩,k2.trans k3⟩⟩
  ·rintro σ H2 ⟨⟨o1,o2,o3,rfl⟩,k2⟩;have hl2:Txs H2 l ns:=k2 l _ hl (by simp);refine fun d hd=>?_;have fd:Fre H2 d:=hd;have fdH:Fre H d:=k2.fre fd (by simp);refine ⟨_,rfl,_,rfl,⟨_,SqL.of ((Kp.new (M:=[]) Kp.refl fd) l _ hl2 (by simp))⟩,zAy (fun i σ H3=>(∃o1 o3:Option V,σ=[some (.ref l),o1,some (.ref d),o3])/\Kp [] H H3/\H3 d=some (.dK (dT1 (ns.take i) fun _=>.bl true))) ⟨⟨_,_,rfl⟩,Kp.new k2 fdH,upd_same⟩ (fun i σ H3 _ ⟨_,k3,_⟩=>SqL.of (k3 l _ hl (by simp))) ?_ ?_⟩
   ·rintro i v σ H3 hv ⟨⟨o1,o3,rfl⟩,k3,h3⟩;obtain ⟨n,en,rfl⟩:=zA0 hv;have ni:=zD4 hD en;refine ⟨_,rfl,_,rfl,_,_,rfl,DGet.k (k:=Sum.inr n) h3,_,rfl,?_⟩;rw [zBl,qAB ni];refine iteF ?_;refine ⟨_,rfl,_,rfl,_,_,rfl,DPut.k (k:=Sum.inr n) h3 ?_,?_⟩
    ·rw [qAE,qAe,qAK];lia
    ·refine ⟨⟨_,_,rfl⟩,Kp.new k3 fdH,?_⟩;rw [upd_same,zDp _ ni,zAh en];unfold dT1;rw [qAQ];rfl
   ·rintro σ H3 ⟨⟨o1,o3,rfl⟩,k3,h3⟩;exact k H3 k3
end
theorem ref_at {qs:List (List Str×Addr)} {v:V} (h:(qs.map fun q=>V.ref q.2)[i]?=some v):∃q,qs[i]?=some q/\v= .ref q.2:=by
 rw [qAW] at h;obtain ⟨n,e,r⟩:=qA6.mp h;exact ⟨n,e,r.symm⟩
theorem Ords.kp {M:List Addr} {l:Addr} {qs:List (List Str×Addr)} (o:Ords H l qs) (k:Kp M H H') (h1:l∉M) (h2:∀q∈qs,q.2∉M):Ords H' l qs:=⟨k l _ o.top h1,fun q hq=>k _ _ (o.row q hq) (h2 q hq),o.two⟩
section
def zF1:Sp:=fun vs H Q _=>∃(l m:Addr) (ns:List Str) (qs:List (List Str×Addr)),vs=[.ref l,.ref m]/\Txs H l ns/\Ords H m qs/\(∀q∈qs,∀x∈q.1,x∈ns)/\Q .non H
abbrev zDa:Stmt:=top 36
theorem zCx:FnScope ["names", "orders", "order", "part"] ["names", "orders"] (zAd zDa):=fnS
theorem zHy {f:Addr} (F:Fun K "check_parts" "check_parts" zDa f fd) (T:Txt K mg) (C_check_job:Cal P w K mg base "check_job" 2 ["names", "thing"] zDz):FnOk P w K mg base CX0 3 f fd ["names", "orders"] zF1:=by
 refine F.ok zCx (fun vs H Q E h=>?_) (fun cdv A outer s H vs Q E hr h=>?_)
 ·obtain ⟨l,m,ns,qs,rfl,_⟩:=h;rfl
 ·obtain ⟨l,m,ns,qs,rfl,hl,hm,hq,k⟩:=h;have HR_check_job:=hr
  refine ⟨_,(zAe (zA1 qAk rfl (zAj (pv 1)) (pgN (i:=2) zCx.nd)
    (zAe (zA1 qAk rfl (pi_tup (pv 2)) (pgN (i:=3) zCx.nd)
     (zAe (zAu (zAf C_check_job HR_check_job rfl (zAa (pv 0) (zAa (pv 3) zAb))))))))),?_⟩
  refine ⟨_,rfl,_,rfl,⟨_,SqL.of hm.top⟩,zAy (fun i σ H2=>(∃o2 o3:Option V,σ=[some (.ref l),some (.ref m),o2,o3])/\H2=H) ⟨⟨_,_,rfl⟩,rfl⟩ (fun i σ H2 _ ⟨_,e⟩=>by subst e;exact SqL.of hm.top) ?_ ?_⟩
  ·rintro i v σ H2 hv ⟨⟨o2,o3,rfl⟩,rfl⟩;obtain ⟨q,eq,rfl⟩:=ref_at hv;have mq:=qAO eq;refine ⟨_,rfl,_,rfl,⟨_,.inl (.inl (hm.row q mq))⟩,for_tup (fun j σ H3=>(∃o3:Option V,σ=[some (.ref l),some (.ref m),some (.ref q.2),o3])/\H3=H2) ⟨⟨_,rfl⟩,rfl⟩ (fun j σ H3 _ ⟨_,e⟩=>by subst e;exact .inl (.inl (hm.row q mq))) ?_ ?_⟩
   ·rintro j v σ H3 hv ⟨⟨o3,rfl⟩,rfl⟩;obtain ⟨x,ex,rfl⟩:=zA0 hv;exact ⟨_,rfl,_,rfl,x,l,ns,rfl,hl,hq q mq x (qAO ex),⟨_,rfl⟩,rfl⟩
   ·rintro σ H3 ⟨⟨o3,rfl⟩,rfl⟩;exact ⟨⟨_,_,rfl⟩,rfl⟩
  ·rintro σ H2 ⟨⟨o2,o3,rfl⟩,rfl⟩;exact k
end
def fst (q:List Str×Addr):Str:=q.1.getD 0 Str.empty
def snd (q:List Str×Addr):Str:=q.1.getD 1 Str.empty
def told (qs:List (List Str×Addr)) (n:Str):List Str:=(qs.filter fun q=>decide (snd q=n)).map fst
theorem told_snoc (qs:List (List Str×Addr)) (q:List Str×Addr) (n:Str):told (qs++[q]) n=if snd q=n then told qs n++[fst q] else told qs n:=by
 unfold told;rw [qBx]
 by_cases e:snd q=n
 ·rw [qAC e];simp [e]
 ·rw [qAB e];simp [e]
theorem told_len (qs:List (List Str×Addr)) (n:Str):(told qs n).length<=qs.length:=by
 unfold told;rw [qAE];exact qAy _ _
structure DL (H0 H:Hp) (d:Addr) (ns:List Str) (la:Str->Addr) (f:Str->List Str):Prop where
 top:H d=some (.dK (dT1 ns fun n=>.ref (la n)))
 row:∀n∈ns,Txs H (la n) (f n)
 ne:∀n∈ns,la n≠d
 inj:∀n∈ns,∀m∈ns,la n=la m->n=m
 fr:Fre H0 d
 frs:∀n∈ns,Fre H0 (la n)
theorem zFb {g g':Str->V} (h:∀n∈ns,g n=g' n):dT1 ns g=dT1 ns g':=List.map_congr_left fun n hn=>by rw [h n hn]
section
def zGs:Sp:=fun vs H Q _=>∃(l m:Addr) (ns:List Str) (qs:List (List Str×Addr)),vs=[.ref l,.ref m]/\Txs H l ns/\Ords H m qs/\ns.Nodup/\ns.length<=20/\qs.length<=4096/\(∀q∈qs,∀x∈q.1,x∈ns) /\
 ∀d la H',DL H H' d ns la (told qs)->Kp [] H H'->Q (.ref d) H'
abbrev zDn:Stmt:=top 38
theorem zBm:FnScope ["names", "orders", "told", "name", "one", "other"] ["names", "orders"] (zAd zDn):=fnS
theorem zI0 {f:Addr} (F:Fun K "told_ahead" "told_ahead" zDn f fd):FnOk P w K mg base CX0 1 f fd ["names", "orders"] zGs:=by
 refine F.ok zBm (fun vs H Q E h=>?_) (fun cdv A outer s H vs Q E hr h=>?_)
 ·obtain ⟨l,m,ns,qs,rfl,_⟩:=h;rfl
 ·obtain ⟨l,m,ns,qs,rfl,hl,hm,hN,hn,hz,hq,k⟩:=h;have hu:=zDw hr
  refine ⟨_,(zAc (psS (i:=2) zBm.nd zCd)
   (zAc (zA1 qAk rfl (zAj (pv 0)) (pgN (i:=3) zBm.nd)
    (zAe (zC0 hu (pv 2) (pv 3) (zBp zAb) rfl)))
   (zAc (zA1 qAk rfl (zAj (pv 1)) (pg_tup rfl (zA7 (pgN (i:=4) zBm.nd) (zA7 (pgN (i:=5) zBm.nd) zEf)))
    (zAe (zAu (zFr qBH qCC qCD zB2 (zBj hu (pv 2) (pv 5) (fun _ _=>rfl)) (zAa (pv 4) zAb)))))
   (zAe (zAm (pv 2)))))),?_⟩
  refine fun d hd=>?_;have fd:Fre H d:=hd
  refine ⟨_,rfl,_,rfl,⟨_,SqL.of ((Kp.new (M:=[]) Kp.refl fd) l _ hl (by simp))⟩,zAy (fun i σ H2=>(∃o3 o4 o5:Option V,σ=[some (.ref l),some (.ref m),some (.ref d),o3,o4,o5])/\Kp [] H H2/\∃la,DL H H2 d (ns.take i) la fun _=>[])
   ⟨⟨_,_,_,rfl⟩,Kp.new Kp.refl fd,fun _=>0,upd_same,(fun n h=>nomatch h),(fun n h=>nomatch h),(fun n h=>nomatch h),fd,(fun n h=>nomatch h)⟩ (fun i σ H2 _ ⟨_,k2,_⟩=>SqL.of (k2 l _ hl (by simp))) ?_ ?_⟩
  ·rintro i v σ H2 hv ⟨⟨o3,o4,o5,rfl⟩,k2,la,D⟩;obtain ⟨n,en,rfl⟩:=zA0 hv;have ni:=zD4 hN en;refine ⟨(by walk_at "ln"),fun b hb=>?_⟩;have fb:Fre H2 b:=hb;have ndb:d≠b:=ne_fre fb D.top;have fbH:Fre H b:=k2.fre fb (by simp);refine ⟨_,rfl,_,rfl,_,_,rfl,DPut.k (k:=Sum.inr n) ((upd_ne ndb).trans D.top) ?_,?_⟩
   ·rw [qAE,qAe,qAK];lia
   ·have nlb:∀x∈ns.take i,la x≠b:=fun x hx=>ne_fre fb (D.row x hx);refine ⟨⟨_,_,_,rfl⟩,Kp.new (Kp.new k2 fbH) fd,fun x=>if x=n then b else la x,?_,fun x hx=>?_,fun x hx=>?_,fun x hx y hy e=>?_,fd,fun x hx=>?_⟩
    ·rw [upd_same,zDp _ ni,zAh en];have:dT1 (ns.take i) (fun n=>V.ref (la n))=dT1 (ns.take i) (fun x=>V.ref (if x=n then b else la x)):=zFb fun x hx=>by rw [qAB fun (z:x=n)=>ni (z▸hx)]
     rw [this];unfold dT1;rw [qAQ];simp
    ·rw [zAh en] at hx
     by_cases z:x=n
     ·rw [qAC z];exact (upd_ne ndb.symm).trans upd_same
     ·rw [qAB z]
      have hx':x∈ns.take i:=by
       rcases qAU.mp hx with y| y
       ·exact y
       ·exact absurd (qAP.mp y) z
      exact (upd_ne (D.ne x hx')).trans ((upd_ne (nlb x hx')).trans (D.row x hx'))
    ·rw [zAh en] at hx
     by_cases z:x=n
     ·rw [qAC z];exact ndb.symm
     ·rw [qAB z];rcases qAU.mp hx with y| y
      ·exact D.ne x y
      ·exact absurd (qAP.mp y) z
    ·rw [zAh en] at hx hy
     have mem:∀x,x∈ns.take i++[n]->x≠n->x∈ns.take i:=fun x hx z=>by
      rcases qAU.mp hx with y| y
      ·exact y
      ·exact absurd (qAP.mp y) z
     by_cases z:x=n
     ·by_cases z':y=n
      ·rw [z,z']
      ·rw [qAC z,qAB z'] at e;exact absurd e.symm (nlb y (mem y hy z'))
     ·by_cases z':y=n
      ·rw [qAB z,qAC z'] at e;exact absurd e (nlb x (mem x hx z))
      ·rw [qAB z,qAB z'] at e;exact D.inj x (mem x hx z) y (mem y hy z') e
    ·rw [zAh en] at hx
     by_cases z:x=n
     ·rw [qAC z];exact fbH
     ·rw [qAB z];rcases qAU.mp hx with y| y
      ·exact D.frs x y
      ·exact absurd (qAP.mp y) z
  ·rintro σ H2 ⟨⟨o3,o4,o5,rfl⟩,k2,la,D⟩;have eN:ns.take (ns.map V.str).length=ns:=by rw [qAE,qAi]
   rw [eN] at D
   refine ⟨_,rfl,_,rfl,⟨_,SqL.of (k2 m _ hm.top (by simp))⟩,zAy (fun i σ H3=>(∃o3 o4 o5:Option V,σ=[some (.ref l),some (.ref m),some (.ref d),o3,o4,o5])/\Kp [] H H3/\DL H H3 d ns la (told (qs.take i)))
    ⟨⟨_,_,_,rfl⟩,k2,D⟩ (fun i σ H3 _ ⟨_,k3,_⟩=>SqL.of (k3 m _ hm.top (by simp))) ?_ ?_⟩
   ·rintro i v σ H3 hv ⟨⟨o3,o4,o5,rfl⟩,k3,D⟩;obtain ⟨q,eq,rfl⟩:=ref_at hv;have mq:=qAO eq;obtain ⟨a,b,eab⟩:=hm.two q mq
    have hrow:H3 q.2=some (.tup [.str a,.str b]):=by
     have:=k3 q.2 _ (hm.row q mq) (by simp);rw [eab] at this;exact this
    have hb:b∈ns:=hq q mq b (by rw [eab];simp);have esnd:snd q=b:=by unfold snd;rw [eab];rfl
    have efst:fst q=a:=by unfold fst;rw [eab];rfl
    refine ⟨_,_,rfl,.inl (.inl hrow),rfl,_,_,rfl,_,_,rfl,rfl,?_⟩;refine ⟨_,rfl,_,rfl,_,.ref (la b),rfl,?_,.inl ⟨rfl,_,SqL.of (D.row b hb)⟩,_,rfl,_,_,_,rfl,rfl,D.row b hb,?_,?_⟩
    ·have:=DGet.k (k:=Sum.inr b) D.top;rw [zBl,qAC hb] at this;exact this
    ·have:=told_len (qs.take i) b;rw [qAe] at this;rw [qAE,qAK];lia
    ·refine ⟨⟨_,_,_,rfl⟩,Kp.new k3 (D.frs b hb),?_⟩;rw [zAh eq];refine ⟨(upd_ne (D.ne b hb).symm).trans D.top,fun x hx=>?_,D.ne,D.inj,D.fr,D.frs⟩;show upd H3 (la b) _ (la x)=some (.lst ((told (qs.take i++[q]) x).map V.str));rw [told_snoc,esnd,efst]
     by_cases z:b=x
     ·subst z;rw [qAC rfl,upd_same,qAQ];rfl
     ·rw [qAB z,upd_ne fun y=>z (D.inj b hb x hx y.symm)];exact D.row x hx
   ·rintro σ H3 ⟨⟨o3,o4,o5,rfl⟩,k3,D⟩;have eQ:qs.take (qs.map fun q=>V.ref q.2).length=qs:=by rw [qAE,qAi]
    rw [eQ] at D;exact ⟨_,rfl,k d la H3 D k3⟩
end
def addA (A:List Str) (x:Str):List Str:=if x∈A then A else A++[x]
theorem mem_addA {A:List Str} {x:Str}:y∈addA A x↔y∈A\/y=x:=by
 unfold addA
 by_cases h:x∈A
 ·rw [qAC h];exact ⟨.inl,fun z=>z.elim id fun e=>e▸h⟩
 ·rw [qAB h];simp
theorem zIf {A:List Str} {x:Str} (h:A.Nodup):(addA A x).Nodup:=by
 unfold addA
 by_cases hx:x∈A
 ·rw [qAC hx];exact h
 ·rw [qAB hx];refine qBj.mpr ⟨h,by simp,fun a ha b hb=>?_⟩;rw [qAP.mp hb];rintro rfl;exact hx ha
theorem zB3 :∀(B A:List Str),y∈B.foldl addA A↔y∈A\/y∈B
 | [],A=>by simp
 | b::B,A=>by
  rw [qBd,zB3 B (addA A b),mem_addA,qAN,or_assoc]
theorem zEi:∀(B A:List Str),A.Nodup->(B.foldl addA A).Nodup
 | [],A,h=>h
 | b::B,A,h=>zEi B _ (zIf h)
def zBv (S:Str->List Str) (ms:List Str):List Str:=ms.foldl (fun A m=>(S m).foldl addA (addA A m)) []
theorem joinA_snoc (S:Str->List Str) (ms:List Str) (m:Str):zBv S (ms++[m])=(S m).foldl addA (addA (zBv S ms) m):=by unfold zBv;rw [List.foldl_append];rfl
theorem zIg {S:Str->List Str} :∀(ms A:List Str),y∈ms.foldl (fun A m=>(S m).foldl addA (addA A m)) A↔y∈A\/y∈ms\/∃m∈ms,y∈S m
 | [],A=>by simp
 | m::ms,A=>by
  rw [qBd,zIg ms,zB3,mem_addA];constructor
  ·rintro (((h| h)| h)| h| ⟨q,h1,h2⟩)
   ·exact .inl h
   ·exact .inr (.inl (h▸qAT))
   ·exact .inr (.inr ⟨m,qAT,h⟩)
   ·exact .inr (.inl (qAR _ h))
   ·exact .inr (.inr ⟨q,qAR _ h1,h2⟩)
  ·rintro (h| h| ⟨q,h1,h2⟩)
   ·exact .inl (.inl (.inl h))
   ·rcases qAN.mp h with e| e
    ·exact .inl (.inl (.inr e))
    ·exact .inr (.inl e)
   ·rcases qAN.mp h1 with e| e
    ·exact .inl (.inr (e▸h2))
    ·exact .inr (.inr ⟨q,e,h2⟩)
theorem zHd {S:Str->List Str} {ms:List Str} :y∈zBv S ms↔y∈ms\/∃m∈ms,y∈S m:=by
 unfold zBv;rw [zIg];simp
theorem zF5 {S:Str->List Str}:∀(ms A:List Str),A.Nodup->(ms.foldl (fun A m=>(S m).foldl addA (addA A m)) A).Nodup
 | [],A,h=>h
 | m::ms,A,h=>zF5 ms _ (zEi _ _ (zIf h))
theorem zHa (S:Str->List Str) (ms:List Str):(zBv S ms).Nodup:=zF5 ms [] qAw
theorem zDm:∀{A B:List Str},A.Nodup->(∀x∈A,x∈B)->A.length<=B.length
 | [],B,_,_=>qAY _
 | a::A,B,h,hs=>by
  obtain ⟨h1,h2⟩:=qAv.mp h;have hb:=hs a qAT;have:=zDm (B:=B.erase a) h2 fun x hx=>(List.mem_erase_of_ne fun e=>h1 (by rw [<-e];exact hx)).mpr (hs x (qAR _ hx));rw [List.length_erase_of_mem hb] at this;have:=qDQ hb;rw [qAc];lia
abbrev SetD (H:Hp) (e:Addr) (A:List Str):Prop:=H e=some (.dK (dT1 A fun _=>.bl true))
theorem put_set (A:List Str) (x:Str):putK (dT1 A fun _=>.bl true) (.inr x) (.bl true)=dT1 (addA A x) fun _=>.bl true:=by
 unfold addA
 by_cases h:x∈A
 ·rw [qAC h];unfold putK;rw [zGg,zBl,qAC h];refine (qAC (by rfl)).trans ?_;unfold dT1;rw [qA1];refine List.map_congr_left fun y _=>?_;show (if (Sum.inr y:Key)=Sum.inr x then ((Sum.inr y:Key),V.bl true) else (Sum.inr y,V.bl true))=_;split<;>rfl
 ·rw [qAB h,zDp _ h];unfold dT1;rw [qAQ];rfl
theorem mrg_set:∀(B A:List Str),mrg (dT1 A fun _=>.bl true) (dT1 B fun _=>.bl true)=dT1 (B.foldl addA A) fun _=>.bl true
 | [],A=>rfl
 | b::B,A=>by
  show mrg (putK (dT1 A fun _=>.bl true) (.inr b) (.bl true)) (dT1 B fun _=>.bl true)=_;rw [put_set,mrg_set B];rfl
section
def spHasAll:Sp:=fun vs H Q _=>∃(d l:Addr) (kvs:List (Key×V)) (ms:List Str),vs=[.ref d,.ref l]/\H d=some (.dK kvs)/\Txs H l ms/\ms.length<=4096/\∀H',Kp [] H H'->Q (.bl (ms.all fun m=>(valV kvs (.inr m)).isSome)) H'
abbrev zEz:Stmt:=top 39
theorem sc_has_all:FnScope ["done", "names"] ["done", "names"] (zAd zEz):=fnS
theorem ok_has_all {f:Addr} (F:Fun K "has_all" "has_all" zEz f fd) (T:Txt K mg):FnOk P w K mg base CX0 1 f fd ["done", "names"] spHasAll:=by
 refine F.ok sc_has_all (fun vs H Q E h=>?_) (fun cdv A outer s H vs Q E hr h=>?_)
 ·obtain ⟨d,l,kvs,ms,rfl,_⟩:=h;rfl
 ·obtain ⟨d,l,kvs,ms,rfl,hd,hl,hz,k⟩:=h;have hu:=zDw hr;refine ⟨_,(zAe (zAm (zAi (zFj _ rfl) (by rfl) T.z_all bo_all (zAa (zBa rfl (zBe (sc:=zAd zEz) rfl (by decide +kernel)) (Draws.own (x:= "name") (dtk (i:=0) rfl Draws.nil)) (zAj (pv 1)) (fun _ _ _ _=>(pgB (i:=0))) (fun _ _ _ _=>zCl) (fun _ _ _ _=>(pe_cmp (zG3 hu (pv 0) (pv 1))))) zAb)))),?_⟩;refine ⟨_,rfl,_,rfl,⟨_,SqL.of hl⟩,fun D hD=>zA3 (ms.map V.str) (fun i ys τ H'=>(∃o0,τ=[o0,some (.ref d)])/\ys=((ms.take i).map fun m=>V.bl (valV kvs (.inr m)).isSome)/\H'=upd H D (.lst ys)) ⟨⟨_,rfl⟩,rfl,rfl⟩ (fun i ys τ H' ⟨_,_,e⟩=>by subst e;exact SqL.of ((upd_ne (ne_fre (show Fre H D from hD) hl)).trans hl)) ?_ ?_⟩
  ·rintro i v ys τ H' hv ⟨⟨o0,rfl⟩,rfl,rfl⟩;obtain ⟨m,em,rfl⟩:=zA0 hv;refine ⟨_,rfl,_,rfl,_,_,rfl,DGet.k (k:=Sum.inr m) ((upd_ne (ne_fre (show Fre H D from hD) hd)).trans hd),upd_same,?_,⟨_,rfl⟩,?_,zBg⟩
   ·rw [qAE,qAe,qAK];lia
   ·rw [zAh em,qAQ];rfl
  ·rintro ys τ H' ⟨_,rfl,rfl⟩;have eM:ms.take (ms.map V.str).length=ms:=by rw [qAE,qAi]
   refine ⟨D,ms.map fun m=>(valV kvs (.inr m)).isSome,rfl,SqL.of ?_,?_⟩
   ·rw [upd_same,eM,qA1];rfl
   ·rw [qCo];exact k _ (Kp.new Kp.refl hD)
def spJoined:Sp:=fun vs H Q _=>∃(l d:Addr) (ms D0 ns:List Str) (fa:Str->Addr) (S:Str->List Str),vs=[.ref l,.ref d]/\Txs H l ms/\H d=some (.dK (dT1 D0 fun n=>.ref (fa n)))/\(∀m∈ms,m∈D0/\m∈ns/\SetD H (fa m) (S m)/\∀x∈S m,x∈ns)/\ns.length<=20/\(∀m∈ms,(S m).length<=20) /\
 ∀e H',Fre H e->SetD H' e (zBv S ms)->Kp [] H H'->Q (.ref e) H'
abbrev zIu:Stmt:=top 41
theorem zGy:FnScope ["near", "far", "found", "name"] ["near", "far"] (zAd zIu):=fnS
theorem ok_joined {f:Addr} (F:Fun K "joined" "joined" zIu f fd):FnOk P w K mg base CX0 1 f fd ["near", "far"] spJoined:=by
 refine F.ok zGy (fun vs H Q E h=>?_) (fun cdv A outer s H vs Q E hr h=>?_)
 ·obtain ⟨l,d,ms,D0,ns,fa,S,rfl,_⟩:=h;rfl
 ·obtain ⟨l,d,ms,D0,ns,fa,S,rfl,hl,hd,hm,hn,hS,k⟩:=h;have hu:=zDw hr
  refine ⟨_,(zAc (psS (i:=2) zGy.nd zCd)
   (zAc (zA1 qAk rfl (zAj (pv 0)) (pgN (i:=3) zGy.nd)
    (zAc (zC0 hu (pv 2) (pv 3) pe_bl rfl)
    (zAe (zAu (zFr PySem.F.plainAttrs_dict PySem.F.slot_dict_update PySem.F.type_dict_update mt_dupd (pv 2) (zAa (zBj hu (pv 1) (pv 3) (fun _ _=>rfl)) zAb))))))
   (zAe (zAm (pv 2))))),?_⟩
  refine fun e he=>?_;have fe:Fre H e:=he
  have hsub:∀i x,x∈zBv S (ms.take i)->x∈ns:=fun i x hx=>by
   rcases zHd.mp hx with z| ⟨m,z,z'⟩
   ·exact (hm x (qBi z)).2.1
   ·exact (hm m (qBi z)).2.2.2 x z'
  have hlen:∀i,(zBv S (ms.take i)).length<=20:=fun i=>qAX (zDm (zHa S _) (hsub i)) hn
  refine ⟨_,rfl,_,rfl,⟨_,SqL.of ((Kp.new (M:=[]) Kp.refl fe) l _ hl (by simp))⟩,zAy (fun i σ H2=>(∃o3:Option V,σ=[some (.ref l),some (.ref d),some (.ref e),o3])/\Kp [] H H2/\SetD H2 e (zBv S (ms.take i)))
   ⟨⟨_,rfl⟩,Kp.new Kp.refl fe,upd_same⟩ (fun i σ H2 _ ⟨_,k2,_⟩=>SqL.of (k2 l _ hl (by simp))) ?_ ?_⟩
  ·rintro i v σ H2 hv ⟨⟨o3,rfl⟩,k2,h2⟩;obtain ⟨m,em,rfl⟩:=zA0 hv;obtain ⟨m1,m2,m3,m4⟩:=hm m (qAO em);have l2:=hlen i;refine ⟨_,rfl,_,rfl,_,_,rfl,DPut.k (k:=Sum.inr m) h2 (by rw [qAE,qAK];lia),?_⟩;rw [put_set];have k3:Kp [] H (upd H2 e (.dK (dT1 (addA (zBv S (ms.take i)) m) fun _=>.bl true))):=Kp.new k2 fe;have nfa:fa m≠e:=ne_fre fe m3;refine ⟨_,rfl,.inr (.inr (.inl ⟨rfl,.inl ⟨_,upd_same⟩⟩)),_,rfl,_,rfl,_,.ref (fa m),rfl,?_,_,fa m,_,_,rfl,rfl,upd_same,k3 _ _ m3 (by simp),nfa.symm,?_,?_⟩
   ·have:=DGet.k (k:=Sum.inr m) (k3 d _ hd (by simp));rw [zBl,qAC m1] at this;exact this
   ·have:=hS m (qAO em);rw [qAE,qAE,qAK]
    have:(addA (zBv S (ms.take i)) m).length<=(zBv S (ms.take i)).length+1:=by
     unfold addA;split
     ·lia
     ·rw [qAg];exact qAG _
    lia
   ·rw [mrg_set];refine ⟨⟨_,rfl⟩,Kp.new k3 fe,?_⟩;rw [zAh em,joinA_snoc];exact upd_same
  ·rintro σ H2 ⟨⟨o3,rfl⟩,k2,h2⟩;have eM:ms.take (ms.map V.str).length=ms:=by rw [qAE,qAi]
   rw [eM] at h2;exact ⟨_,rfl,k e H2 fe h2 k2⟩
end
structure Fp (H0 H:Hp) (e:Addr) (ns D:List Str) (fa:Str->Addr) (S f:Str->List Str):Prop where
 top:H e=some (.dK (dT1 D fun n=>.ref (fa n)))
 nd:D.Nodup
 sub:∀n∈D,n∈ns
 row:∀n∈D,SetD H (fa n) (S n)
 snd:∀n∈D,(S n).Nodup
 sns:∀n∈D,∀x∈S n,x∈ns
 mem:∀n∈D,∀x,x∈S n↔x∈f n\/∃m∈f n,x∈S m
 cl:∀n∈D,∀x∈f n,x∈D
 ne:∀n∈D,fa n≠e
 fr:Fre H0 e
 frs:∀n∈D,Fre H0 (fa n)
theorem Fp.kp {H0:Hp} {e:Addr} {D:List Str} {fa:Str->Addr} {S f:Str->List Str} (F:Fp H0 H e ns D fa S f) (k:Kp [] H H'):Fp H0 H' e ns D fa S f :=
 ⟨k e _ F.top (by simp),F.nd,F.sub,fun n hn=>k _ _ (F.row n hn) (by simp),F.snd,F.sns,F.mem,F.cl,F.ne,F.fr,F.frs⟩
theorem Fp.more {H0:Hp} {e b:Addr} {D:List Str} {fa:Str->Addr} {S f:Str->List Str} {n:Str} (F:Fp H0 H e ns D fa S f) (hn:n∈ns) (hD:n∉D) (hf:∀x∈f n,x∈D) (hs:∀x∈f n,x∈ns) (hb:SetD H b (zBv S (f n))) (nb:b≠e) (fb:Fre H0 b) :
  Fp H0 (upd H e (.dK (putK (dT1 D fun n=>.ref (fa n)) (.inr n) (.ref b)))) e ns (D++[n]) (fun x=>if x=n then b else fa x) (fun x=>if x=n then zBv S (f n) else S x) f:=by
 have hx:∀x∈D,¬x=n:=fun x h z=>hD (z▸h)
 have cs:∀x,x∈D++[n]->x∈D\/x=n:=fun x h=>by
  rcases qAU.mp h with z| z
  ·exact .inl z
  ·exact .inr (qAP.mp z)
 have eqS:∀{x},x∈D->(if x=n then zBv S (f n) else S x)=S x:=fun {x} h=>qAB (hx x h);have eqn:(if n=n then zBv S (f n) else S n)=zBv S (f n):=qAC rfl;refine ⟨?_,?_,fun x h=>?_,fun x h=>?_,fun x h=>?_,fun x h y hy=>?_,fun x h y=>?_,fun x h y hy=>?_,fun x h=>?_,F.fr,fun x h=>?_⟩
 ·rw [upd_same,zDp _ hD];have:dT1 D (fun n=>V.ref (fa n))=dT1 D (fun x=>V.ref (if x=n then b else fa x)):=zFb fun x h=>by rw [qAB (hx x h)]
  rw [this];unfold dT1;rw [qAQ];simp
 ·refine qBj.mpr ⟨F.nd,by simp,fun a ha c hc=>?_⟩;rw [qAP.mp hc];exact hx a ha
 ·rcases cs x h with z| z
  ·exact F.sub x z
  ·rw [z];exact hn
 ·rcases cs x h with z| z
  ·show upd H e _ (if x=n then b else fa x)=some (.dK (dT1 (if x=n then zBv S (f n) else S x) fun _=>.bl true));rw [qAB (hx x z),qAB (hx x z),upd_ne (F.ne x z)];exact F.row x z
  ·subst z;show upd H e _ (if x=x then b else fa x)=some (.dK (dT1 (if x=x then zBv S (f x) else S x) fun _=>.bl true));rw [qAC rfl,qAC rfl,upd_ne nb];exact hb
 ·rcases cs x h with z| z
  ·show (if x=n then zBv S (f n) else S x).Nodup;rw [eqS z];exact F.snd x z
  ·subst z;show (if x=x then zBv S (f x) else S x).Nodup;rw [qAC rfl];exact zHa _ _
 ·rcases cs x h with z| z
  ·have hy:y∈(if x=n then zBv S (f n) else S x):=hy;rw [eqS z] at hy;exact F.sns x z y hy
  ·subst z;have hy:y∈(if x=x then zBv S (f x) else S x):=hy;rw [qAC rfl] at hy;rcases zHd.mp hy with q| ⟨m,q1,q2⟩
   ·exact hs y q
   ·exact F.sns m (hf m q1) y q2
 ·rcases cs x h with z| z
  ·show y∈(if x=n then zBv S (f n) else S x)↔y∈f x\/∃m∈f x,y∈(if m=n then zBv S (f n) else S m);rw [eqS z,F.mem x z y];constructor
   ·rintro (q| ⟨m,q1,q2⟩)
    ·exact .inl q
    ·exact .inr ⟨m,q1,by rw [eqS (F.cl x z m q1)];exact q2⟩
   ·rintro (q| ⟨m,q1,q2⟩)
    ·exact .inl q
    ·rw [eqS (F.cl x z m q1)] at q2;exact .inr ⟨m,q1,q2⟩
  ·subst z;show y∈(if x=x then zBv S (f x) else S x)↔y∈f x\/∃m∈f x,y∈(if m=x then zBv S (f x) else S m);rw [qAC rfl,zHd];constructor
   ·rintro (q| ⟨m,q1,q2⟩)
    ·exact .inl q
    ·exact .inr ⟨m,q1,by rw [eqS (hf m q1)];exact q2⟩
   ·rintro (q| ⟨m,q1,q2⟩)
    ·exact .inl q
    ·rw [eqS (hf m q1)] at q2;exact .inr ⟨m,q1,q2⟩
 ·rcases cs x h with z| z
  ·exact qAs _ (F.cl x z y hy)
  ·subst z;exact qAs _ (hf y hy)
 ·rcases cs x h with z| z
  ·show (if x=n then b else fa x)≠e;rw [qAB (hx x z)];exact F.ne x z
  ·subst z;show (if x=x then b else fa x)≠e;rw [qAC rfl];exact nb
 ·rcases cs x h with z| z
  ·show Fre H0 (if x=n then b else fa x);rw [qAB (hx x z)];exact F.frs x z
  ·subst z;show Fre H0 (if x=x then b else fa x);rw [qAC rfl];exact fb
theorem zHi (r:Str->Nat):∀(L:List Str),L≠[]->∃n∈L,∀m∈L,r n<=r m
 | [],h=>absurd rfl h
 | [x],_=>⟨x,by simp,fun m hm=>by rw [qAP.mp hm];exact qAG _⟩
 | x::y::L,_=>by
  obtain ⟨n,hn,h⟩:=zHi r (y::L) (by simp)
  by_cases c:r x<=r n
  ·refine ⟨x,qAT,fun m hm=>?_⟩;rcases qAN.mp hm with z| z
   ·rw [z];exact qAG _
   ·exact qAX c (h m z)
  ·refine ⟨n,qAR _ hn,fun m hm=>?_⟩;rcases qAN.mp hm with z| z
   ·rw [z];lia
   ·exact h m z
theorem zHp {p:α->Bool} {x:α}:∀{L:List α},x∈L->p x=false->(L.filter p).length<L.length
 | a::L,h,hp=>by
  rcases qAN.mp h with z| z
  ·subst z;rw [qA7,qAB (by rw [hp];decide),qAc];exact Nat.lt_succ_of_le (qAy _ _)
  ·have:=zHp z hp;rw [qA7,qAc];split
   ·rw [qAc];lia
   ·lia
theorem zHo (D:List Str) (g:Str->V) (x:Str):(valV (dT1 D g) (.inr x)).isSome=decide (x∈D):=by
 rw [zBl]
 by_cases h:x∈D
 ·rw [qAC h,qAV h];rfl
 ·rw [qAB h,qAl h];rfl
section
def zIa:Sp:=fun vs H Q _=>∃(l d:Addr) (ns:List Str) (la:Str->Addr) (f:Str->List Str) (r:Str->Nat),vs=[.ref l,.ref d]/\Txs H l ns/\ns.Nodup/\ns.length<=20/\H d=some (.dK (dT1 ns fun n=>.ref (la n)))/\(∀n∈ns,Txs H (la n) (f n)/\(f n).length<=4096/\∀x∈f n,x∈ns/\r x<r n) /\
 ∀e D fa S H',Fp H H' e ns D fa S f->(∀n∈ns,n∈D)->Kp [] H H'->Q (.ref e) H'
abbrev zCk:Stmt:=top 40
theorem zBk:FnScope ["names", "told", "far", "left", "free", "name"] ["names", "told"] (zAd zCk):=fnS
def leftN (σ:St) (H:Hp):Nat:=match (σ[3]?:Option (Option V)) with
 | some (some (.ref a))=>match H a with
  | some (.lst xs)=>xs.length
  | _=>0
 | _=>0
theorem ok_all_ahead {f:Addr} (F:Fun K "all_ahead" "all_ahead" zCk f fd) (T:Txt K mg) (C_has_all:Cal P w K mg base "has_all" 1 ["done", "names"] spHasAll) (C_joined:Cal P w K mg base "joined" 1 ["near", "far"] spJoined):FnOk P w K mg base CX0 2 f fd ["names", "told"] zIa:=by
 refine F.ok zBk (fun vs H Q E h=>?_) (fun cdv A outer s H vs Q E hr h=>?_)
 ·obtain ⟨l,d,ns,la,f,r,rfl,_⟩:=h;rfl
 ·obtain ⟨l,d,ns,la,f,r,rfl,hl,hN,hn,hd,hf,k⟩:=h;have hu:=zDw hr;have HR_has_all:=hr;have HR_joined:=hr
  refine ⟨_,(zAc (psS (i:=2) zBk.nd zCd)
   (zAc (psS (i:=3) zBk.nd (zAq zAv (by rfl) T.z_list zC3 (zAa (pv 0) zAb)))
   (zAc (zGl qAk (zIw (pv 3) (fun _=>rfl))
    (zAc (zFq (i:=4) rfl (zBe (sc:=zAd zCk) rfl (by decide +kernel)) (Draws.own (x:= "name") (dtk (i:=2) rfl (dtk (i:=1) rfl Draws.nil))) (zAj (pv 3)) (fun _ _ _ _=>(pgB (i:=0))) (fun _ _ _ _=>(zB8 (zDj (zAf C_has_all HR_has_all rfl (zAa (pv 1) (zAa (zBj hu (pv 2) (pv 0) (fun _ _=>rfl)) zAb)))))) (fun _ _ _ _=>(pv 0)) zBk.nd rfl rfl)
    (zAc (zCz (zE2 (zIw (pv 4) (fun _=>rfl)))
     (zAe zCc)
     zAw)
    (zAc (zA1 qAk rfl (zAj (pv 4)) (pgN (i:=5) zBk.nd)
     (zAe (zC0 hu (pv 2) (pv 5) (zAf C_joined HR_joined rfl (zAa (zBj hu (pv 1) (pv 5) (fun _ _=>rfl)) (zAa (pv 2) zAb))) rfl)))
    (zAe (zFq (i:=3) rfl (zBe (sc:=zAd zCk) rfl (by decide +kernel)) (Draws.own (x:= "name") (dtk (i:=2) rfl Draws.nil)) (zAj (pv 3)) (fun _ _ _ _=>(pgB (i:=0))) (fun _ _ _ _=>(zB8 (zIb (zG2 hu (pv 0) (pv 1))))) (fun _ _ _ _=>(pv 0)) zBk.nd rfl rfl))))))
   (zAe (zAm (pv 2)))))),?_⟩
  refine fun e he=>?_;have fe:Fre H e:=he;refine ⟨_,rfl,_,_,rfl,.inl (SqL.of ((Kp.new (M:=[]) Kp.refl fe) l _ hl (by simp))),fun lf hlf=>?_⟩;have k0:Kp [] H (upd H e (.dK [])):=Kp.new Kp.refl fe;have flf:Fre H lf:=k0.fre hlf (by simp);have nel:e≠lf:=ne_fre (show Fre (upd H e (.dK [])) lf from hlf) upd_same;show tWhile (fun σ H Q=>tVar 3 σ H fun x H'=>∃k,TruV K x H' k/\Q k H') _ _ _ _
  refine zIn (fun σ H2=>∃(lf:Addr) (D:List Str) (fa:Str->Addr) (S:Str->List Str) (o4 o5:Option V),σ=[some (.ref l),some (.ref d),some (.ref e),some (.ref lf),o4,o5]/\Kp [] H H2/\Fp H H2 e ns D fa S f/\Txs H2 lf (ns.filter fun n=>decide (n∉D))) leftN
   ⟨lf,[],fun _=>0,fun _=>[],none,none,rfl,Kp.new k0 flf,⟨(upd_ne nel).trans upd_same,qAw,(fun n h=>nomatch h),(fun n h=>nomatch h),(fun n h=>nomatch h),(fun n h=>nomatch h),(fun n h=>nomatch h),(fun n h=>nomatch h),(fun n h=>nomatch h),fe,(fun n h=>nomatch h)⟩,by
    have ef:(ns.filter fun n=>decide (n∉([]:List Str)))=ns:=by simp
    show upd _ lf _ lf=some (.lst ((ns.filter fun n=>decide (n∉([]:List Str))).map V.str));rw [ef];exact upd_same⟩ ?_ (fun σ H Q Q' hq hc=>by
    obtain ⟨x,e,b,t,q⟩:=hc;exact ⟨x,e,b,t,hq _ _ q⟩)
  rintro σ H2 ⟨lf,D,fa,S,o4,o5,rfl,k2,FP,hlf⟩;refine ⟨_,rfl,_,.inl ⟨_,SqL.of hlf,rfl⟩,?_⟩;have hLs:∀n,n∈(ns.filter fun n=>decide (n∉D))↔n∈ns/\n∉D:=fun n=>by simp [qAS]
  have hLl:(ns.filter fun n=>decide (n∉D)).length<=20:=qAX (qAy _ _) hn;generalize hL:(ns.filter fun n=>decide (n∉D))=L at *
  refine ite2 (fun c=>?_) (fun c=>?_)
  ·have cL:L≠[]:=fun z=>by rw [z] at c;simp at c
   refine ⟨_,rfl,_,rfl,⟨_,SqL.of hlf⟩,fun B hB=>zBd (L.map V.str) (fun i ys τ H3=>(∃o0,τ=[o0,some (.ref e),some (.ref d)])/\ys=((L.take i).filter fun n=>(f n).all fun m=>decide (m∈D)).map V.str/\Kp [] H2 H3/\H3 B=some (.lst ys))
    ⟨⟨_,rfl⟩,rfl,Kp.new Kp.refl hB,upd_same⟩ (fun i ys τ H3 ⟨_,_,k3,_⟩=>SqL.of (k3 lf _ hlf (by simp))) ?_ ?_⟩
   ·rintro i v ys τ H3 hv ⟨⟨o0,rfl⟩,rfl,k3,h3⟩;obtain ⟨n,en,rfl⟩:=zA0 hv;have mn:=(hLs n).mp (qAO en);obtain ⟨n1,n2,n3⟩:=hf n mn.1;have k23:=k2.trans k3;refine ⟨_,rfl,_,rfl,_,rfl,_,.ref (la n),rfl,?_,e,la n,_,f n,rfl,k3 e _ FP.top (by simp),k23 _ _ n1 (by simp),n2,fun H4 k4=>?_⟩
    ·have:=DGet.k (k:=Sum.inr n) (k23 d _ hd (by simp));rw [zBl,qAC mn.1] at this;exact this
    have eall:((f n).all fun m=>(valV (dT1 D fun n=>V.ref (fa n)) (.inr m)).isSome)=(f n).all fun m=>decide (m∈D):=by
     congr 1;funext m;exact zHo D _ m
    rw [eall];have h4:=k4 B _ h3 (by simp);have et:=zAh en;refine ⟨_,rfl,ite2 (fun c=>?_) (fun c=>?_)⟩
    ·refine ⟨_,rfl,h4,?_,⟨_,rfl⟩,?_,Kp.new (k3.trans k4) hB,upd_same⟩
     ·rw [qAE,qAK];have h1:=qAy (fun n=>(f n).all fun m=>decide (m∈D)) (L.take i);rw [qAe] at h1;lia
     ·rw [et,qBx,qAQ];have:[n].filter (fun n=>(f n).all fun m=>decide (m∈D))=[n]:=by rw [qA7,qAC c];rfl
      rw [this];rfl
    ·refine ⟨⟨_,rfl⟩,?_,k3.trans k4,?_⟩
     ·rw [et,qBx];have:[n].filter (fun n=>(f n).all fun m=>decide (m∈D))=[]:=by rw [qA7,qAB c];rfl
      rw [this,qBI]
     ·exact h4
   ·rintro ys τ H3 ⟨_,rfl,k3,h3⟩;have eT:L.take (L.map V.str).length=L:=by rw [qAE,qAi]
    rw [eT] at h3;have hFr:∀n,n∈(L.filter fun n=>(f n).all fun m=>decide (m∈D))↔n∈L/\∀m∈f n,m∈D:=fun n=>by simp [qAS]
    have hFl:(L.filter fun n=>(f n).all fun m=>decide (m∈D)).length<=20:=qAX (qAy _ _) hLl
    have hFn:(L.filter fun n=>(f n).all fun m=>decide (m∈D)).Nodup:=by
     have:L.Nodup:=by rw [<-hL];exact hN.sublist qBA
     exact this.sublist qBA
    have hF0:(L.filter fun n=>(f n).all fun m=>decide (m∈D))≠[]:=by
     obtain ⟨n,n1,n2⟩:=zHi r L cL;refine List.ne_nil_of_mem ((hFr n).mpr ⟨n1,fun m hm=>?_⟩);have mn:=(hLs n).mp n1;obtain ⟨q1,q2⟩:=(hf n mn.1).2.2 m hm;apply qBQ;intro z;have:=n2 m ((hLs m).mpr ⟨q1,z⟩);lia
    generalize hFE:(L.filter fun n=>(f n).all fun m=>decide (m∈D))=FR at *
    have k23:=k2.trans k3;refine ⟨_,rfl,_,.inl ⟨_,SqL.of h3,rfl⟩,?_⟩
    have e0:(!(FR.map V.str).isEmpty)=true:=by
     cases FR with
     | nil=>exact absurd rfl hF0
     | cons _ _=>rfl
    rw [e0];refine iteF ?_
    refine ⟨_,rfl,_,rfl,⟨_,SqL.of h3⟩,zAy (fun i σ H4=>∃(fa:Str->Addr) (S:Str->List Str) (o5:Option V),σ=[some (.ref l),some (.ref d),some (.ref e),some (.ref lf),some (.ref B),o5]/\Kp [] H H4/\Fp H H4 e ns (D++FR.take i) fa S f/\Txs H4 lf L/\Txs H4 B FR)
     ⟨fa,S,_,rfl,k23,by rw [qCp,qBI];exact FP.kp k3,k3 lf _ hlf (by simp),h3⟩ (fun i σ H4 _ ⟨_,_,_,_,_,_,_,h⟩=>SqL.of h) ?_ ?_⟩
    ·rintro i v σ H4 hv ⟨fa4,S4,o5',rfl,k4,F4,hlf4,hB4⟩;obtain ⟨n,en,rfl⟩:=zA0 hv;have mF:=(hFr n).mp (qAO en);have mn:=(hLs n).mp mF.1;obtain ⟨n1,n2,n3⟩:=hf n mn.1
     have nD:n∉D++FR.take i:=fun z=>by
      rcases qAU.mp z with y| y
      ·exact mn.2 y
      ·exact zD4 hFn en y
     have fD:∀x∈f n,x∈D++FR.take i:=fun x hx=>qAs _ (mF.2 x hx);refine ⟨_,rfl,_,rfl,_,.ref (la n),rfl,?_,_,rfl,la n,e,f n,D++FR.take i,ns,fa4,S4,rfl,k4 _ _ n1 (by simp),F4.top,fun m hm=>⟨fD m hm,(n3 m hm).1,F4.row m (fD m hm),F4.sns m (fD m hm)⟩,hn,fun m hm=>qAX (zDm (F4.snd m (fD m hm)) (F4.sns m (fD m hm))) hn,fun b H5 fb hb k5=>?_⟩
     ·have:=DGet.k (k:=Sum.inr n) (k4 d _ hd (by simp));rw [zBl,qAC mn.1] at this;exact this
     have F5:=F4.kp k5;have fbH:Fre H b:=k4.fre fb (by simp);refine ⟨_,rfl,_,rfl,_,_,rfl,DPut.k (k:=Sum.inr n) F5.top ?_,?_⟩
     ·have:=zDm F5.nd F5.sub;rw [qAE,qAK];lia
     ·have FM:=F5.more mn.1 nD fD (fun x hx=>(n3 x hx).1) hb (qAr (ne_fre fb F4.top)) fbH;rw [qBp,<-zAh en] at FM;exact ⟨_,_,_,rfl,Kp.new (k4.trans k5) fe,FM,(upd_ne (zBb hlf4 F4.top (fun z=>nomatch z))).trans (k5 lf _ hlf4 (by simp)),(upd_ne (zBb hB4 F4.top (fun z=>nomatch z))).trans (k5 B _ hB4 (by simp))⟩
    ·rintro σ H4 ⟨fa4,S4,o5',rfl,k4,F4,hlf4,hB4⟩;have eF:FR.take (FR.map V.str).length=FR:=by rw [qAE,qAi]
     rw [eF] at F4
     refine ⟨_,rfl,_,rfl,⟨_,SqL.of hlf4⟩,fun G hG=>zBd (L.map V.str) (fun i ys τ H5=>(∃o0,τ=[o0,some (.ref e)])/\ys=((L.take i).filter fun n=>decide (n∉D++FR)).map V.str/\H5=upd H4 G (.lst ys))
      ⟨⟨_,rfl⟩,rfl,rfl⟩ (fun i ys τ H5 ⟨_,_,z⟩=>by subst z;exact SqL.of ((upd_ne (ne_fre (show Fre H4 G from hG) hlf4)).trans hlf4)) ?_ ?_⟩
     ·rintro i v ys τ H5 hv ⟨⟨o0,rfl⟩,rfl,rfl⟩;obtain ⟨n,en,rfl⟩:=zA0 hv;refine ⟨_,rfl,_,rfl,_,_,rfl,DGet.k (k:=Sum.inr n) ((upd_ne (ne_fre (show Fre H4 G from hG) F4.top)).trans F4.top),_,rfl,?_⟩;rw [zHo];have et:=zAh en;refine ite2 (fun c=>?_) (fun c=>?_)
      ·have c':n∉D++FR:=fun z=>by rw [qAV z] at c;exact nomatch c
       refine ⟨_,rfl,upd_same,?_,⟨_,rfl⟩,?_,zBg⟩
       ·rw [qAE,qAK];have h1:=qAy (fun n=>decide (n∉D++FR)) (L.take i);rw [qAe] at h1;lia
       ·rw [et,qBx,qAQ];have:[n].filter (fun n=>decide (n∉D++FR))=[n]:=by rw [qA7,qAC (qAV c')];rfl
        rw [this];rfl
      ·have c':n∈D++FR:=by
        apply qBQ;intro z;rw [qAl z] at c;exact c rfl
       have e2:(L.take (i+1)).filter (fun n=>decide (n∉D++FR))=(L.take i).filter (fun n=>decide (n∉D++FR)):=by
        rw [et,qBx];have:[n].filter (fun n=>decide (n∉D++FR))=[]:=by rw [qA7,qAB (by rw [qAl (fun z=>z c')];decide)];rfl
        rw [this,qBI]
       refine ⟨⟨_,rfl⟩,?_,?_⟩
       ·rw [e2]
       ·rfl
     ·rintro ys τ H5 ⟨_,rfl,rfl⟩;have eT:L.take (L.map V.str).length=L:=by rw [qAE,qAi]
      rw [eT];have nGe:e≠G:=ne_fre (show Fre H4 G from hG) F4.top
      have eFF:(L.filter fun n=>decide (n∉D++FR))=ns.filter fun n=>decide (n∉D++FR):=by
       rw [<-hL,List.filter_filter];refine qCq fun n _=>?_
       by_cases z:n∈D
       ·have:n∈D++FR:=qAs _ z;rw [qAl (fun y=>y this)];rfl
       ·rw [qAV z,Bool.and_true]
      refine ⟨⟨G,D++FR,fa4,S4,_,_,rfl,Kp.new k4 (k4.fre (show Fre H4 G from hG) (by simp)),F4.kp (Kp.new Kp.refl hG),?_⟩,?_⟩
      ·rw [<-eFF];exact upd_same
      ·have m1:leftN [some (V.ref l),some (.ref d),some (.ref e),some (.ref lf),o4,o5] H2=L.length:=by
        show (match H2 lf with| some (.lst xs)=>xs.length| _=>0)=_;rw [hlf];simp
       have m2:∀o4 o5,leftN [some (V.ref l),some (.ref d),some (.ref e),some (.ref G),o4,o5] (upd H4 G (.lst ((L.filter fun n=>decide (n∉D++FR)).map V.str)))=(L.filter fun n=>decide (n∉D++FR)).length:=fun o4 o5=>by
        show (match upd H4 G (.lst ((L.filter fun n=>decide (n∉D++FR)).map V.str)) G with| some (.lst xs)=>xs.length| _=>0)=_;rw [upd_same];simp
       rw [m1];refine qC7 (qBN (m2 _ _)) ?_;obtain ⟨n,hnF⟩:=List.exists_mem_of_ne_nil FR hF0;have hnL:=((hFr n).mp hnF).1;exact zHp hnL (qAl fun z=>z (qAu _ hnF))
  ·have cL:L=[]:=by
    cases L with
    | nil=>rfl
    | cons _ _=>exact absurd rfl c
   refine ⟨_,rfl,k e D fa S H2 FP (fun n hn'=>?_) k2⟩;apply qBQ;intro z;have:=(hLs n).mpr ⟨hn',z⟩;rw [cL] at this;exact nomatch this
end
def jf (r p e:Addr):List (Str×V):=putF "above" (.ref e) (putF "pairs" (.ref p) (putF "row" (.ref r) []))
theorem zIh (r p e:Addr):(jf r p e).lookup ("row" : Str)=some (.ref r):=by
 unfold jf;rw [zAo,qAB (by decide +kernel),zAo,qAB (by decide +kernel),zAo,qAC rfl]
theorem jf_pairs (r p e:Addr):(jf r p e).lookup ("pairs" : Str)=some (.ref p):=by
 unfold jf;rw [zAo,qAB (by decide +kernel),zAo,qAC rfl]
theorem zI6 (r p e:Addr):(jf r p e).lookup ("above" : Str)=some (.ref e):=by
 unfold jf;rw [zAo,qAC rfl]
theorem zHk (r p e:Addr) {m:Str} (h1:¬m= "above") (h2:¬m= "pairs") (h3:¬m= "row"):(jf r p e).lookup m=none:=by
 unfold jf;rw [zAo,qAB h1,zAo,qAB h2,zAo,qAB h3];rfl
structure JC (K:PySem.W.Frag) (mg:Str->Option Value) (C:Addr):Prop where
 cl:Cls K C
 n_row:zFm K C "row"
 n_pairs:zFm K C "pairs"
 n_above:zFm K C "above"
 mgC:mg "Jobs" = some (.ref C)
structure JR where
 dx:Addr
 r:Addr
 p:Addr
 e:Addr
 ns:List Str
 zs:List (List Str×Addr)
 D:List Str
 fa:Str->Addr
 S:Str->List Str
structure JobsAt (C:Addr) (H:Hp) (j:Addr) (J:JR):Prop where
 ob:H j=some (.ins C J.dx (jf J.r J.p J.e))
 row:Txs H J.r J.ns
 prs:Ords H J.p J.zs
 abv:H J.e=some (.dK (dT1 J.D fun n=>.ref (J.fa n)))
 all:∀n∈J.ns,n∈J.D
 sets:∀n∈J.D,SetD H (J.fa n) (J.S n)
 few:J.ns.length<=20
 zfew:J.zs.length<=306
 nd:J.ns.Nodup
 zin:∀q∈J.zs,∀x∈q.1,x∈J.ns
 mem:∀n∈J.ns,∀x,x∈J.S n↔x∈told J.zs n\/∃m∈told J.zs n,x∈J.S m
theorem JobsAt.kp {M:List Addr} {C:Addr} {j:Addr} {J:JR} (A:JobsAt C H j J) (k:Kp M H H') (h:∀a o,H a=some o->a∈M->a≠j/\a≠J.r/\a≠J.p/\a≠J.e/\(∀q∈J.zs,a≠q.2)/\∀n∈J.D,a≠J.fa n):JobsAt C H' j J where
 ob:=k _ _ A.ob fun z=>(h _ _ A.ob z).1 rfl
 row:=k _ _ A.row fun z=>(h _ _ A.row z).2.1 rfl
 prs:=⟨k _ _ A.prs.top fun z=>(h _ _ A.prs.top z).2.2.1 rfl,fun q hq=>k _ _ (A.prs.row q hq) fun z=>(h _ _ (A.prs.row q hq) z).2.2.2.2.1 q hq rfl,A.prs.two⟩
 abv:=k _ _ A.abv fun z=>(h _ _ A.abv z).2.2.2.1 rfl
 all:=A.all
 sets:=fun n hn=>k _ _ (A.sets n hn) fun z=>(h _ _ (A.sets n hn) z).2.2.2.2.2 n hn rfl
 few:=A.few
 zfew:=A.zfew
 nd:=A.nd
 zin:=A.zin
 mem:=A.mem
theorem JobsAt.kp0 {C:Addr} {j:Addr} {J:JR} (A:JobsAt C H j J) (k:Kp [] H H'):JobsAt C H' j J:=A.kp k fun _ _ _ z=>nomatch z
section
def zGt (C:Addr):Sp:=fun vs H Q _=>∃(j:Addr) (J:JR),vs=[.ref j]/\JobsAt C H j J/\∀l H',Fre H l->Txs H' l J.ns->Kp [] H H'->Q (.ref l) H'
abbrev zDo:Stmt:=zEm (top 43) 1
theorem zIr:FnScope ["self"] ["self"] (zAd zDo):=fnS
theorem zI2 {f:Addr} (F:Fun K "names" "Jobs.names" zDo f fd) (T:Txt K mg) (U:JC K mg C):FnOk P w K mg base CX0 1 f fd ["self"] (zGt C):=by
 refine F.ok zIr (fun vs H Q E h=>?_) (fun cdv A outer s H vs Q E hr h=>?_)
 ·obtain ⟨j,J,rfl,_⟩:=h;rfl
 ·obtain ⟨j,J,rfl,A0,k⟩:=h;refine ⟨_,(zAe (zAm (zAq zAv (by rfl) T.z_list zC3 (zAa (zDr (pv 0) rfl) zAb)))),?_⟩;refine ⟨_,rfl,_,_,_,_,_,rfl,A0.ob,U.cl,U.n_row,zIh _ _ _,_,_,rfl,.inl (SqL.of A0.row),fun l hl=>?_⟩;exact k l _ hl upd_same (Kp.new Kp.refl hl)
theorem abv_get {j:Addr} {J:JR} (A:JobsAt C H j J) (hy:y∈J.ns):DGet H J.e (.str y) (some (.ref (J.fa y))):=by
 have:=DGet.k (k:=Sum.inr y) A.abv;rw [zBl,qAC (A.all y hy)] at this;exact this
theorem zGv {e:Addr} {B:List Str} (h:SetD H e B) (x:Str):∃o,DGet H e (.str x) o/\o.isSome=decide (x∈B):=⟨_,DGet.k (k:=Sum.inr x) h,zHo B _ x⟩
end
section
theorem pe_fldK {X:Cx} {K:PySem.W.Frag} {e:Expr} {f:Str} {pos:Pos} {ta:TE} (he:PE X e ta) (hb:attributeBase e f X.env (eval e X.env)=eval e X.env) (hK:X.K=K:=by rfl):PE X (.Attribute e f pos) (tFld K ta f):=by
 subst hK;exact zDr he hb
theorem zBs {p:α->Bool} {xs:List α} {x:α} (e:xs[i]?=some x) (h:p x=true):(xs.take (i+1)).filter p=(xs.take i).filter p++[x]:=by
 rw [zAh e,qBx,qA7,qAC h];rfl
theorem zCn {p:α->Bool} {xs:List α} {x:α} (e:xs[i]?=some x) (h:¬p x=true):(xs.take (i+1)).filter p=(xs.take i).filter p:=by
 rw [zAh e,qBx,qA7,qAB h];simp
theorem zCe {p:α->Bool} {xs:List α} (h:xs.length<=4096):(((xs.take i).filter p)).length<sizeLine:=by
 have h1:=qAy p (xs.take i);rw [qAe] at h1;rw [qAK];lia
def zGi (C:Addr):Sp:=fun vs H Q _=>∃(j:Addr) (J:JR) (x:Str),vs=[.ref j,.str x]/\JobsAt C H j J/\x∈J.ns/\∀l H',Fre H l->Txs H' l (J.ns.filter fun n=>decide (x∈J.S n))->Kp [] H H'->Q (.ref l) H'
abbrev zCb:Stmt:=zEm (top 43) 4
theorem zHw:FnScope ["self", "name"] ["self", "name"] (zAd zCb):=fnS
theorem zH1 {f:Addr} (F:Fun K "behind" "Jobs.behind" zCb f fd) (T:Txt K mg) (U:JC K mg C) (C_check_job:Cal P w K mg base "check_job" 2 ["names", "thing"] zDz):FnOk P w K mg base CX0 3 f fd ["self", "name"] (zGi C):=by
 refine F.ok zHw (fun vs H Q E h=>?_) (fun cdv A outer s H vs Q E hr h=>?_)
 ·obtain ⟨j,J,x,rfl,_⟩:=h;rfl
 ·obtain ⟨j,J,x,rfl,A0,hx,k⟩:=h;have HR_check_job:=hr;have hu:=zDw hr
  refine ⟨_,(zAc (zAu (zAf C_check_job HR_check_job rfl (zAa (zDr (pv 0) rfl) (zAa (pv 1) zAb))))
   (zAe (zAm (zBa rfl (zBe (sc:=zAd zCb) rfl (by decide +kernel)) (Draws.own (x:= "other") (dtk (i:=1) rfl (dtk (i:=0) rfl Draws.nil))) (zAj (zDr (pv 0) rfl)) (fun _ _ _ _=>(pgB (i:=0))) (fun _ _ _ _=>(zB8 (zIb (zG3 hu (pv 1) (zBj hu (pe_fldK (K:=K) (pv 2) rfl) (pv 0) (fun _ _=>rfl)))))) (fun _ _ _ _=>(pv 0)))))),?_⟩
  refine ⟨_,rfl,_,_,_,_,_,rfl,A0.ob,U.cl,U.n_row,zIh _ _ _,_,rfl,x,_,_,rfl,A0.row,hx,?_⟩
  refine ⟨_,rfl,_,_,_,_,_,rfl,A0.ob,U.cl,U.n_row,zIh _ _ _,_,rfl,⟨_,SqL.of A0.row⟩,fun B hB=>zBd (J.ns.map V.str) (fun i ys τ H3=>(∃o0,τ=[o0,some (.str x),some (.ref j)])/\ys=((J.ns.take i).filter fun n=>decide (x∈J.S n)).map V.str/\H3=upd H B (.lst ys))
   ⟨⟨_,rfl⟩,rfl,rfl⟩ (fun i ys τ H3 ⟨_,_,z⟩=>by subst z;exact SqL.of ((Kp.new (M:=[]) Kp.refl hB) _ _ A0.row (by simp))) ?_ ?_⟩
  ·rintro i v ys τ H3 hv ⟨⟨o0,rfl⟩,rfl,rfl⟩;obtain ⟨n,en,rfl⟩:=zA0 hv;have mn:=qAO en;have A3:=A0.kp0 (Kp.new (l:=B) (o:=.lst (((J.ns.take i).filter fun n=>decide (x∈J.S n)).map V.str)) Kp.refl hB);obtain ⟨o,g1,g2⟩:=zGv (A3.sets n (A3.all n mn)) x;refine ⟨_,rfl,_,rfl,_,_,_,_,_,rfl,A3.ob,U.cl,U.n_above,zI6 _ _ _,_,rfl,_,_,rfl,abv_get A3 mn,_,o,rfl,g1,_,rfl,?_⟩;rw [g2];refine ite2 (fun c=>?_) (fun c=>?_)
   ·refine ⟨_,rfl,upd_same,?_,⟨_,rfl⟩,?_,zBg⟩
    ·rw [qAE];exact zCe (by have:=A0.few;lia)
    ·rw [zBs en c,qAQ];rfl
   ·refine ⟨⟨_,rfl⟩,?_,?_⟩
    ·rw [zCn en c]
    ·rfl
  ·rintro ys τ H3 ⟨_,rfl,rfl⟩;have eT:J.ns.take (J.ns.map V.str).length=J.ns:=by rw [qAE,qAi]
   rw [eT];exact k B _ hB upd_same (Kp.new Kp.refl hB)
def spAhead (C:Addr):Sp:=fun vs H Q _=>∃(j:Addr) (J:JR) (x:Str),vs=[.ref j,.str x]/\JobsAt C H j J/\x∈J.ns/\∀l H',Fre H l->Txs H' l (J.ns.filter fun n=>decide (n∈J.S x))->Kp [] H H'->Q (.ref l) H'
abbrev zCu:Stmt:=zEm (top 43) 5
theorem zIs:FnScope ["self", "name"] ["self", "name"] (zAd zCu):=fnS
theorem zI3 {f:Addr} (F:Fun K "ahead" "Jobs.ahead" zCu f fd) (T:Txt K mg) (U:JC K mg C) (C_check_job:Cal P w K mg base "check_job" 2 ["names", "thing"] zDz):FnOk P w K mg base CX0 3 f fd ["self", "name"] (spAhead C):=by
 refine F.ok zIs (fun vs H Q E h=>?_) (fun cdv A outer s H vs Q E hr h=>?_)
 ·obtain ⟨j,J,x,rfl,_⟩:=h;rfl
 ·obtain ⟨j,J,x,rfl,A0,hx,k⟩:=h;have HR_check_job:=hr;have hu:=zDw hr
  refine ⟨_,(zAc (zAu (zAf C_check_job HR_check_job rfl (zAa (zDr (pv 0) rfl) (zAa (pv 1) zAb))))
   (zAe (zAm (zBa rfl (zBe (sc:=zAd zCu) rfl (by decide +kernel)) (Draws.own (x:= "other") (dtk (i:=1) rfl (dtk (i:=0) rfl Draws.nil))) (zAj (zDr (pv 0) rfl)) (fun _ _ _ _=>(pgB (i:=0))) (fun _ _ _ _=>(zB8 (zIb (zG3 hu (pv 0) (zBj hu (pe_fldK (K:=K) (pv 2) rfl) (pv 1) (fun _ _=>rfl)))))) (fun _ _ _ _=>(pv 0)))))),?_⟩
  refine ⟨_,rfl,_,_,_,_,_,rfl,A0.ob,U.cl,U.n_row,zIh _ _ _,_,rfl,x,_,_,rfl,A0.row,hx,?_⟩
  refine ⟨_,rfl,_,_,_,_,_,rfl,A0.ob,U.cl,U.n_row,zIh _ _ _,_,rfl,⟨_,SqL.of A0.row⟩,fun B hB=>zBd (J.ns.map V.str) (fun i ys τ H3=>(∃o0,τ=[o0,some (.str x),some (.ref j)])/\ys=((J.ns.take i).filter fun n=>decide (n∈J.S x)).map V.str/\H3=upd H B (.lst ys))
   ⟨⟨_,rfl⟩,rfl,rfl⟩ (fun i ys τ H3 ⟨_,_,z⟩=>by subst z;exact SqL.of ((Kp.new (M:=[]) Kp.refl hB) _ _ A0.row (by simp))) ?_ ?_⟩
  ·rintro i v ys τ H3 hv ⟨⟨o0,rfl⟩,rfl,rfl⟩;obtain ⟨n,en,rfl⟩:=zA0 hv;have A3:=A0.kp0 (Kp.new (l:=B) (o:=.lst (((J.ns.take i).filter fun n=>decide (n∈J.S x)).map V.str)) Kp.refl hB);obtain ⟨o,g1,g2⟩:=zGv (A3.sets x (A3.all x hx)) n;refine ⟨_,rfl,_,rfl,_,_,_,_,_,rfl,A3.ob,U.cl,U.n_above,zI6 _ _ _,_,rfl,_,_,rfl,abv_get A3 hx,_,o,rfl,g1,_,rfl,?_⟩;rw [g2];refine ite2 (fun c=>?_) (fun c=>?_)
   ·refine ⟨_,rfl,upd_same,?_,⟨_,rfl⟩,?_,zBg⟩
    ·rw [qAE];exact zCe (by have:=A0.few;lia)
    ·rw [zBs en c,qAQ];rfl
   ·refine ⟨⟨_,rfl⟩,?_,?_⟩
    ·rw [zCn en c]
    ·rfl
  ·rintro ys τ H3 ⟨_,rfl,rfl⟩;have eT:J.ns.take (J.ns.map V.str).length=J.ns:=by rw [qAE,qAi]
   rw [eT];exact k B _ hB upd_same (Kp.new Kp.refl hB)
end
end My
namespace TimP
open PySem PyProof.Rows Tim
variable {i n lo nrem:Nat}{x:Keyed}{st:SortSt}{α:Type}
theorem perm_ct {l m:List Keyed} (h:∀p:Keyed->Bool,l.countP p=m.countP p):l.Perm m:=by
 letI:DecidableEq Keyed:=fun a b=>Classical.propDecidable (a=b)
 exact List.perm_iff_count.mpr fun x=>h (·==x)
theorem cd {a:Array Keyed} {j:Nat} (h:i<=j) (p:Keyed->Bool):(a.extract i j).toList.countP p+(a.toList.drop j).countP p=(a.toList.drop i).countP p:=by
 have e:a.toList.drop j=(a.toList.drop i).drop (j - i):=by rw [List.drop_drop];congr 1;lia
 rw [qB8,List.extract_eq_drop_take,e,<-qCE,qBt]
theorem ck {a:Array Keyed} {j:Nat} (h:i<=j) (p:Keyed->Bool):(a.extract i j).toList.countP p+(a.toList.take i).countP p=(a.toList.take j).countP p:=by
 have h1:=cd (a:=a) h p;have h2:=qAf (List.countP p) (qBt i a.toList);have h3:=qAf (List.countP p) (qBt j a.toList);rw [qCE] at h2 h3;lia
theorem zIz {a:Array Keyed} (e:a[i]?=some x):(a.extract i (i+1)).toList=[x]:=by
 have hi:=(qBg.mp e).1;have hx:=(qBg.mp e).2;rw [qB8,List.extract_eq_drop_take,Nat.add_sub_cancel_left,List.drop_eq_getElem_cons (by simpa using hi)];simp [hx]
theorem all0 (a:Array Keyed) (p:Keyed->Bool):(a.toList.drop a.size).countP p=0:=by rw [qDl (by simp)];rfl
theorem zDk (a b:Array Keyed) (p:Keyed->Bool):(a++b).toList.countP p=a.toList.countP p+b.toList.countP p:=by rw [qDC,qCE]
theorem zI9 (a:Array Keyed) (x:Keyed) (p:Keyed->Bool):(a.push x).toList.countP p=a.toList.countP p+[x].countP p:=by rw [qCf,qCE]
theorem ct_rev (a:Array Keyed) (p:Keyed->Bool):a.reverse.toList.countP p=a.toList.countP p:=by rw [Array.toList_reverse,List.countP_reverse]
section
variable {a b out:Array Keyed} {ia ib:Nat}
structure MI (a b out:Array Keyed) (ia ib:Nat):Prop where
 la:ia<=a.size
 lb:ib<=b.size
 ct:∀p,out.toList.countP p+(a.toList.drop ia).countP p+(b.toList.drop ib).countP p=a.toList.countP p+b.toList.countP p
def Fn (a b r:Array Keyed):Prop:=∀p,r.toList.countP p=a.toList.countP p+b.toList.countP p
theorem MI.tAs (M:MI a b out ia ib) (k:Nat) (h:ia+k<=a.size):MI a b (out++a.extract ia (ia+k)) (ia+k) ib:=⟨h,M.lb,fun p=>by
 have h1:=M.ct p;have h2:=cd (a:=a) (show ia<=ia+k by lia) p;rw [zDk];lia⟩
theorem MI.tBs (M:MI a b out ia ib) (k:Nat) (h:ib+k<=b.size):MI a b (out++b.extract ib (ib+k)) ia (ib+k):=⟨M.la,h,fun p=>by
 have h1:=M.ct p;have h2:=cd (a:=b) (show ib<=ib+k by lia) p;rw [zDk];lia⟩
theorem MI.tA (M:MI a b out ia ib) (e:a[ia]?=some x):MI a b (out.push x) (ia+1) ib:=⟨(qBg.mp e).1,M.lb,fun p=>by
 have h1:=M.ct p;have h2:=cd (a:=a) (show ia<=ia+1 by lia) p;rw [zIz e] at h2;rw [zI9];lia⟩
theorem MI.tB (M:MI a b out ia ib) (e:b[ib]?=some x):MI a b (out.push x) ia (ib+1):=⟨M.la,(qBg.mp e).1,fun p=>by
 have h1:=M.ct p;have h2:=cd (a:=b) (show ib<=ib+1 by lia) p;rw [zIz e] at h2;rw [zI9];lia⟩
theorem MI.f1 (M:MI a b out ia ib):Fn a b (out++a.extract ia a.size++b.extract ib b.size):=fun p=>by
 have h1:=M.ct p;have h2:=cd (a:=a) M.la p;have h3:=cd (a:=b) M.lb p;rw [all0] at h2 h3;rw [zDk,zDk];lia
theorem MI.f2 (M:MI a b out ia ib):Fn a b (out++b.extract ib b.size++a.extract ia a.size):=fun p=>by
 have h1:=M.f1 p;rw [zDk,zDk] at h1 ⊢;lia
structure MH (a b out:Array Keyed) (ia ib:Nat):Prop where
 la:ia<=a.size
 lb:ib<=b.size
 ct:∀p,out.toList.countP p+(a.toList.take ia).countP p+(b.toList.take ib).countP p=a.toList.countP p+b.toList.countP p
theorem MH.tAs (M:MH a b out ia ib) (k:Nat) (h:k<=ia):MH a b (out++(a.extract k ia).reverse) k ib:=⟨by have:=M.la;lia,M.lb,fun p=>by
 have h1:=M.ct p;have h2:=ck (a:=a) h p;rw [zDk,ct_rev];lia⟩
theorem MH.tBs (M:MH a b out ia ib) (k:Nat) (h:k<=ib):MH a b (out++(b.extract k ib).reverse) ia k:=⟨M.la,by have:=M.lb;lia,fun p=>by
 have h1:=M.ct p;have h2:=ck (a:=b) h p;rw [zDk,ct_rev];lia⟩
theorem MH.tA (M:MH a b out (ia+1) ib) (e:a[ia]?=some x):MH a b (out.push x) ia ib:=⟨by have:=M.la;lia,M.lb,fun p=>by
 have h1:=M.ct p;have h2:=ck (a:=a) (show ia<=ia+1 by lia) p;rw [zIz e] at h2;rw [zI9];lia⟩
theorem MH.tB (M:MH a b out ia (ib+1)) (e:b[ib]?=some x):MH a b (out.push x) ia ib:=⟨M.la,by have:=M.lb;lia,fun p=>by
 have h1:=M.ct p;have h2:=ck (a:=b) (show ib<=ib+1 by lia) p;rw [zIz e] at h2;rw [zI9];lia⟩
theorem MH.f1 (M:MH a b out ia ib):Fn a b (a.extract 0 ia++b.extract 0 ib++out.reverse):=fun p=>by
 have h1:=M.ct p;have h2:=ck (a:=a) (qAY ia) p;have h3:=ck (a:=b) (qAY ib) p;rw [qCp,List.countP_nil] at h2 h3;rw [zDk,zDk,ct_rev];lia
theorem MH.f2 (M:MH a b out ia ib):Fn a b (b.extract 0 ib++a.extract 0 ia++out.reverse):=fun p=>by
 have h1:=M.f1 p;rw [zDk,zDk] at h1 ⊢;lia
end
structure Like (st st':SortSt):Prop where
 kd:kindOf st'=kindOf st
 ar:arrOf st'=arrOf st
 pn:pendingOf st'=pendingOf st
 fl:failedOf st'=failedOf st
theorem Like.refl (st:SortSt):Like st st:=⟨rfl,rfl,rfl,rfl⟩
theorem Like.trans {a b c:SortSt} (h:Like a b) (k:Like b c):Like a c:=⟨k.kd.trans h.kd,k.ar.trans h.ar,k.pn.trans h.pn,k.fl.trans h.fl⟩
section
variable {prog:Program} {w:World} {A:Around} {E:Value->Shared->Prop} {s:Shared} {kd:SortKind} {κ:KeyKind} {a b:Array Keyed}
theorem zBq {a:Array Keyed} (ha:∀x∈a.toList,Has κ x) (hi:i<a.size):∃p,a[i]?=some p/\Has κ p :=
 ⟨a[i],by simp,ha _ (by simp)⟩
theorem w_gal {left:Bool} {key:Keyed} {arr:Array Keyed} {base hint:Nat} {Q:Option Nat->SortSt->Prop} (C:CmpOk prog w A s kd κ) (hk:kindOf st=kd) (hkey:Has κ key)
  (hin:∀i,i<n->∃q,arr[base+i]?=some q/\Has κ q) (hh:hint<n) (h:∀k,k<=n->Q (some k) st):wpS (model prog w) A E s (gal left key arr base n hint) Q st:=by
 have ask:∀(i:Nat) {R:Option Bool->SortSt->Prop},i<n->(∀c,R (some c) st)->wpS (model prog w) A E s (byd left key arr base i) R st:=fun i R hi hR=>w_byd C hk hkey (hin i hi) (hR _)
 have bin:∀(l r:Nat),l<=r->r<=n->∀(F:Nat->Option (Option Nat)×Nat×Nat->StateT SortSt Sem (ForInStep (Option (Option Nat)×Nat×Nat))),
   (∀x l r,F x (none,l,r)=(if l>=r then pure (ForInStep.done (none,l,r)) else do
    let c<-byd left key arr base (l+(r - l) / 2)
    match c with
    | some more=>if more=true then pure (ForInStep.yield (none,l+(r - l) / 2+1,r)) else pure (ForInStep.yield (none,l,l+(r - l) / 2))
    | _=>pure (ForInStep.done (some none,l,r))))->∀G:Option (Option Nat)×Nat×Nat->StateT SortSt Sem (Option Nat),(∀l r,G (none,l,r)=pure (some r)) ->
   wpS (model prog w) A E s (forIn [:n] ((none,l,r):Option (Option Nat)×Nat×Nat) F >>= G) Q st:=by
  intro l r hlr hrn F hF G hG
  refine qAF (qBB (qA5 (I:=fun x c st'=>st'=st/\∃l r,c=(none,l,r)/\l<=r/\r<=n/\r - l<=n - x)
   (Q:=fun c st'=>st'=st/\∃l r,c=(none,l,r)/\r<=n) ?step ?fin ⟨rfl,l,r,rfl,hlr,hrn,by lia⟩) ?post)
  case fin =>
   rintro c st' ⟨rfl,l,r,rfl,h1,h2,h3⟩;exact ⟨rfl,l,r,rfl,h2⟩
  case post =>
   rintro c st' ⟨rfl,l,r,rfl,h1⟩;rw [hG];exact qAI (h r h1)
  case step =>
   rintro x c st' _ hx ⟨rfl,l,r,rfl,h1,h2,h3⟩;rw [hF x l r]
   by_cases hge:l>=r
   ·rw [qAC hge];exact qAI ⟨rfl,l,r,rfl,h2⟩
   ·rw [qAB hge];refine qAF (ask _ (by lia) fun c=>?_);show wpS _ _ _ _ (if c=true then _ else _) _ _;split
    ·exact qAI ⟨rfl,_,_,rfl,by lia,h2,by lia⟩
    ·exact qAI ⟨rfl,_,_,rfl,by lia,by lia,by lia⟩
 refine qAF (ask hint hh fun c0=>?_);show wpS _ _ _ _ (if c0=true then _ else _) _ _;split
 ·refine qAF (qBB (qA5 (I:=fun x c st'=>st'=st/\∃l o,c=(none,l,o)/\l<o/\hint+l<n)
   (Q:=fun c st'=>st'=st/\∃l o,c=(none,l,o)/\l<o/\hint+l<n) ?step (fun c st' h=>h) ⟨rfl,0,1,rfl,by lia,by lia⟩) ?post)
  case step =>
   rintro x c st' _ hx ⟨rfl,l,o,rfl,h1,h2⟩;dsimp only
   by_cases ho:o>=n - hint
   ·rw [qAC ho];exact qAI ⟨rfl,l,o,rfl,h1,h2⟩
   ·rw [qAB ho];refine qAF (ask (hint+o) (by lia) fun c=>?_);show wpS _ _ _ _ (if (!c)=true then _ else _) _ _;split
    ·exact qAI ⟨rfl,l,o,rfl,h1,h2⟩
    ·exact qAI ⟨rfl,o,2*o+1,rfl,by lia,by lia⟩
  case post =>
   rintro c st' ⟨rfl,l,o,rfl,h1,h2⟩;exact bin (hint+l+1) (hint+min o (n - hint)) (by lia) (by lia) _ (fun x l r=>rfl) _ (fun l r=>rfl)
 ·refine qAF (qBB (qA5 (I:=fun x c st'=>st'=st/\∃l o,c=(none,l,o)/\l<o/\l<=hint)
   (Q:=fun c st'=>st'=st/\∃l o,c=(none,l,o)/\l<o/\l<=hint) ?step (fun c st' h=>h) ⟨rfl,0,1,rfl,by lia,by lia⟩) ?post)
  case step =>
   rintro x c st' _ hx ⟨rfl,l,o,rfl,h1,h2⟩;dsimp only
   by_cases ho:o>=hint+1
   ·rw [qAC ho];exact qAI ⟨rfl,l,o,rfl,h1,h2⟩
   ·rw [qAB ho];refine qAF (ask (hint - o) (by lia) fun c=>?_);show wpS _ _ _ _ (if c=true then _ else _) _ _;split
    ·exact qAI ⟨rfl,l,o,rfl,h1,h2⟩
    ·exact qAI ⟨rfl,o,2*o+1,rfl,by lia,by lia⟩
  case post =>
   rintro c st' ⟨rfl,l,o,rfl,h1,h2⟩;exact bin (hint+1 - min o (hint+1)) (hint - l) (by lia) (by lia) _ (fun x l r=>rfl) _ (fun l r=>rfl)
abbrev Cell:=Option (Array Keyed)×Array Keyed×Nat×Nat×Nat×Nat×Nat
def tA (a b o:Array Keyed) (i j g p q:Nat):StateT SortSt Sem (ForInStep Cell):=do
 let x<-elem' a i
 if (i+1+1==a.size)=true then pure (.done (some (o.push x++b.extract j b.size++a.extract (i+1) a.size),o.push x,i+1,j,g,p,q))
 else if (decide (p<7)&&decide (q<7))=true then pure (.done (none,o.push x,i+1,j,g,p,q))
 else pure (.yield (none,o.push x,i+1,j,g,p,q))
def tB (a b o:Array Keyed) (i j g p q:Nat):StateT SortSt Sem (ForInStep Cell):=do
 let y<-elem' b j
 if (j+1==b.size)=true then pure (.done (some (o.push y++a.extract i a.size++b.extract (j+1) b.size),o.push y,i,j+1,g,p,q))
 else do
  let x<-elem' a i
  let r<-gal true x b (j+1) (b.size - (j+1)) 0
  match r with
  | some k =>
   if k>0 then
    if (j+1+k==b.size)=true then pure (.done (some (o.push y++b.extract (j+1) (j+1+k)++a.extract i a.size++b.extract (j+1+k) b.size),o.push y++b.extract (j+1) (j+1+k),i,j+1+k,g,p,k))
    else tA a b (o.push y++b.extract (j+1) (j+1+k)) i (j+1+k) g p k
   else tA a b (o.push y) i (j+1) g p k
  | _=>pure (.done (some (o.push y++a.extract i a.size++b.extract (j+1) b.size),o.push y,i,j+1,g,p,q))
def tT (a b o:Array Keyed) (i j g p q:Nat):StateT SortSt Sem (ForInStep Cell):=do
 let y<-elem' b j
 let r<-gal false y a i (a.size - i) 0
 match r with
 | some k =>
  if k>0 then
   if (i+k+1==a.size)=true then pure (.done (some (o++a.extract i (i+k)++b.extract j b.size++a.extract (i+k) a.size),o++a.extract i (i+k),i+k,j,g,k,q))
   else if (i+k==a.size)=true then pure (.done (some (o++a.extract i (i+k)++a.extract (i+k) a.size++b.extract j b.size),o++a.extract i (i+k),i+k,j,g,k,q))
   else tB a b (o++a.extract i (i+k)) (i+k) j g k q
  else tB a b o i j g k q
 | _=>pure (.done (some (o++a.extract i a.size++b.extract j b.size),o,i,j,g,p,q))
theorem zAk {m:Nat} (h:¬(m==n)=true):m≠n:=by simpa using h
def TO (a b:Array Keyed) (m:Nat) (st3:SortSt) (R:ForInStep Cell->SortSt->Prop):Prop :=
 (∀r o i j g p q,Fn a b r->R (.done (some r,o,i,j,g,p,q)) st3)/\(∀o i j g p q,MI a b o i j->i+1<a.size->j<b.size->m<=i+j->R (.done (none,o,i,j,g,p,q)) st3/\R (.yield (none,o,i,j,g,p,q)) st3)
section
variable {st3:SortSt} {o:Array Keyed} {i j g p q m:Nat} {R:ForInStep Cell->SortSt->Prop}
theorem w_tA (ha:∀x∈a.toList,Has κ x) (M:MI a b o i j) (hi:i+1<a.size) (hj:j<b.size) (hm:m<=i+j) (hR:TO a b m st3 R):wpS (model prog w) A E s (tA a b o i j g p q) R st3:=by
 obtain ⟨x,ex,_⟩:=zBq ha (show i<a.size by lia);have M2:=M.tA ex;refine qAF (zA9 ex ?_)
 by_cases d1:(i+1+1==a.size)=true
 ·rw [qAC d1];exact qAI (hR.1 _ _ _ _ _ _ _ M2.f2)
 ·have:=zAk d1;rw [qAB d1];have q:=hR.2 _ _ _ g p q M2 (by lia) hj (by lia);split
  ·exact qAI q.1
  ·exact qAI q.2
theorem w_tB (C:CmpOk prog w A s kd κ) (hk:kindOf st3=kd) (ha:∀x∈a.toList,Has κ x) (hb:∀x∈b.toList,Has κ x) (M:MI a b o i j) (hi:i+1<a.size) (hj:j<b.size) (hm:m<=i+j) (hR:TO a b m st3 R) :
  wpS (model prog w) A E s (tB a b o i j g p q) R st3:=by
 obtain ⟨y,ey,hyy⟩:=zBq hb hj;obtain ⟨x,ex,hxx⟩:=zBq ha (show i<a.size by lia);have M2:=M.tB ey;refine qAF (zA9 ey ?_)
 by_cases d1:(j+1==b.size)=true
 ·rw [qAC d1];exact qAI (hR.1 _ _ _ _ _ _ _ M2.f1)
 ·have:=zAk d1;rw [qAB d1];refine qAF (zA9 ex (qAF (w_gal C hk hxx (fun i hi=>zBq hb (by lia)) (by lia) fun k k1=>?_)));have M3:=M2.tBs k (by lia);show wpS _ _ _ _ (if k>0 then _ else _) _ _
  by_cases hk0:k>0
  ·rw [qAC hk0]
   by_cases d2:(j+1+k==b.size)=true
   ·rw [qAC d2];exact qAI (hR.1 _ _ _ _ _ _ _ M3.f1)
   ·have:=zAk d2;rw [qAB d2];exact w_tA ha M3 hi (by lia) (by lia) hR
  ·rw [qAB hk0];exact w_tA ha M2 hi (by lia) (by lia) hR
theorem w_tT (C:CmpOk prog w A s kd κ) (hk:kindOf st3=kd) (ha:∀x∈a.toList,Has κ x) (hb:∀x∈b.toList,Has κ x) (M:MI a b o i j) (hi:i+1<a.size) (hj:j<b.size) (hm:m<=i+j) (hR:TO a b m st3 R):wpS (model prog w) A E s (tT a b o i j g p q) R st3:=by
 obtain ⟨y,ey,hyy⟩:=zBq hb hj;refine qAF (zA9 ey (qAF (w_gal C hk hyy (fun i hi=>zBq ha (by lia)) (by lia) fun k k1=>?_)));have M3:=M.tAs k (by lia);show wpS _ _ _ _ (if k>0 then _ else _) _ _
 by_cases hk0:k>0
 ·rw [qAC hk0]
  by_cases d1:(i+k+1==a.size)=true
  ·rw [qAC d1];exact qAI (hR.1 _ _ _ _ _ _ _ M3.f2)
  ·rw [qAB d1]
   by_cases d2:(i+k==a.size)=true
   ·rw [qAC d2];exact qAI (hR.1 _ _ _ _ _ _ _ M3.f1)
   ·have:=zAk d1;have:=zAk d2;rw [qAB d2];exact w_tB C hk ha hb M3 (by lia) hj (by lia) hR
 ·rw [qAB hk0];exact w_tB C hk ha hb M hi hj hm hR
end
theorem w_mLo {Q:Array Keyed->SortSt->Prop} (C:CmpOk prog w A s kd κ) (hk:kindOf st=kd) (ha:∀x∈a.toList,Has κ x) (hb:∀x∈b.toList,Has κ x) (na:1<=a.size) (nb:1<=b.size)
  (h:∀r st',Like st st'->Fn a b r->Q r st'):wpS (model prog w) A E s (mLo a b) Q st:=by
 refine qAF (qBs (qBL ⟨rfl,?_⟩));obtain ⟨y0,ey,hy⟩:=zBq hb (show 0<b.size by lia);refine qAF (zA9 ey ?_);have M0:MI a b #[] 0 0:=⟨by lia,by lia,fun p=>by simp⟩;have M1:MI a b #[y0] 0 1:=M0.tB ey;show wpS _ _ _ _ (if (1==b.size)=true then _ else _) _ _
 by_cases c1:(1==b.size)=true
 ·rw [qAC c1];exact qAI (h _ _ (Like.refl _) M1.f1)
 rw [qAB c1];show wpS _ _ _ _ (if (0+1==a.size)=true then _ else _) _ _
 by_cases c2:(0+1==a.size)=true
 ·rw [qAC c2];exact qAI (h _ _ (Like.refl _) M1.f2)
 rw [qAB c2];have:=zAk c1;have:=zAk c2;refine qAF (qBP ?_)
 refine qAF (qBB (qA5 (I:=fun x c st'=>Like st st'/\∃out ia ib g,c=(none,out,ia,ib,g)/\MI a b out ia ib/\ia+1<a.size/\ib<b.size/\x+1<=ia+ib)
  (Q:=fun c st'=>Like st st'/\∃r out ia ib g,c=(some r,out,ia,ib,g)/\Fn a b r) ?step ?fin ⟨Like.refl _,_,_,_,_,rfl,M1,by lia,by lia,by lia⟩) ?post)
 case fin =>
  rintro c st' ⟨_,out,ia,ib,g,rfl,M,h1,h2,h3⟩;lia
 case post =>
  rintro c st' ⟨L,r,out,ia,ib,g,rfl,F⟩;exact qAI (h r st' L F)
 case step =>
  rintro x c st1 _ hx1 ⟨L1,out0,ia0,ib0,g0,rfl,M,u1,u2,u3⟩;have hk1:kindOf st1=kd:=L1.kd.trans hk;dsimp only
  refine qAF (qBB (qA5 (I:=fun x c st'=>st'=st1/\∃out ia ib p q,c=(none,out,ia,ib,p,q)/\MI a b out ia ib/\ia+1<a.size/\ib<b.size/\ia0+ib0+x<=ia+ib)
   (Q:=fun c st'=>st'=st1/\((∃r out ia ib p q,c=(some r,out,ia,ib,p,q)/\Fn a b r)\/∃out ia ib p q,c=(none,out,ia,ib,p,q)/\MI a b out ia ib/\ia+1<a.size/\ib<b.size/\ia0+ib0+1<=ia+ib)) ?step1 ?fin1
   ⟨rfl,_,_,_,_,_,rfl,M,u1,u2,by lia⟩) ?post1)
  case fin1 =>
   rintro c st' ⟨rfl,out,ia,ib,p,q,rfl,M',v1,v2,v3⟩;exact ⟨rfl,.inr ⟨out,ia,ib,p,q,rfl,M',v1,v2,by lia⟩⟩
  case step1 =>
   rintro x2 c st' _ hx2 ⟨rfl,out,ia,ib,p,q,rfl,M',v1,v2,v3⟩;obtain ⟨yb,eb,hyb⟩:=zBq hb v2;obtain ⟨xa,ea,hxa⟩:=zBq ha (show ia<a.size by lia);dsimp only;refine qAF (zA9 eb (qAF (zA9 ea (qAF (w_lt C hk1 hyb hxa ?_)))));generalize κ.blt (kk κ yb) (kk κ xa)=c;show wpS _ _ _ _ (if c=true then _ else _) _ _
   by_cases e:c=true
   ·rw [qAC e];refine qAF (zA9 eb ?_);have M2:=M'.tB eb
    by_cases d1:(ib+1==b.size)=true
    ·rw [qAC d1];exact qAI ⟨rfl,.inl ⟨_,_,_,_,_,_,rfl,M2.f1⟩⟩
    ·have:=zAk d1;rw [qAB d1]
     by_cases d2:q+1>=g0
     ·rw [qAC d2];exact qAI ⟨rfl,.inr ⟨_,_,_,_,_,rfl,M2,v1,by lia,by lia⟩⟩
     ·rw [qAB d2];exact qAI ⟨rfl,_,_,_,_,_,rfl,M2,v1,by lia,by lia⟩
   ·rw [qAB e];refine qAF (zA9 ea ?_);have M2:=M'.tA ea
    by_cases d1:(ia+1+1==a.size)=true
    ·rw [qAC d1];exact qAI ⟨rfl,.inl ⟨_,_,_,_,_,_,rfl,M2.f2⟩⟩
    ·have:=zAk d1;rw [qAB d1]
     by_cases d2:p+1>=g0
     ·rw [qAC d2];exact qAI ⟨rfl,.inr ⟨_,_,_,_,_,rfl,M2,by lia,v2,by lia⟩⟩
     ·rw [qAB d2];exact qAI ⟨rfl,_,_,_,_,_,rfl,M2,by lia,v2,by lia⟩
  case post1 =>
   rintro c st' ⟨rfl,⟨r,out,ia,ib,p,q,rfl,F⟩| ⟨out,ia,ib,p,q,rfl,M',v1,v2,v3⟩⟩
   ·exact qAI ⟨L1,_,_,_,_,_,rfl,F⟩
   ·dsimp only;refine qAF (qBs (qBL ⟨rfl,?_⟩))
    refine qAF (qBB (qA5 (I:=fun x c st'=>Like st st'/\∃out ia ib g p q,c=(none,out,ia,ib,g,p,q)/\MI a b out ia ib/\ia+1<a.size/\ib<b.size/\ia0+ib0+1<=ia+ib)
     (Q:=fun c st'=>Like st st'/\((∃r out ia ib g p q,c=(some r,out,ia,ib,g,p,q)/\Fn a b r)\/∃out ia ib g p q,c=(none,out,ia,ib,g,p,q)/\MI a b out ia ib/\ia+1<a.size/\ib<b.size/\ia0+ib0+1<=ia+ib)) ?step2 ?fin2
     ⟨L1,_,_,_,_,_,_,rfl,M',v1,v2,v3⟩) ?post2)
    case fin2 =>
     rintro c st' ⟨L,out,ia,ib,g,p,q,rfl,M',v⟩;exact ⟨L,.inr ⟨_,_,_,_,_,_,rfl,M',v⟩⟩
    case post2 =>
     rintro c st' ⟨L,⟨r,out,ia,ib,g,p,q,rfl,F⟩| ⟨out,ia,ib,g,p,q,rfl,M',v1,v2,v3⟩⟩
     ·exact qAI ⟨L,_,_,_,_,_,rfl,F⟩
     ·dsimp only;refine qAF (qBE (qAI ⟨L.trans ⟨rfl,rfl,rfl,rfl⟩,_,_,_,_,rfl,M',v1,v2,by lia⟩))
    case step2 =>
     rintro x3 c st2 _ hx3 ⟨L2,out,ia,ib,g,p,q,rfl,M2,w1,w2,w3⟩;dsimp only
     have run:∀(g':Nat) (R:ForInStep Cell->SortSt->Prop),(∀L3:Like st (SortSt.mk' (kindOf st2) (arrOf st2) (pendingOf st2) g' (failedOf st2)),TO a b (ia0+ib0+1) (SortSt.mk' (kindOf st2) (arrOf st2) (pendingOf st2) g' (failedOf st2)) R)->wpS (model prog w) A E s (tT a b out ia ib g' p q) R (SortSt.mk' (kindOf st2) (arrOf st2) (pendingOf st2) g' (failedOf st2)):=fun g' R hR=>by
      have L3:Like st (SortSt.mk' (kindOf st2) (arrOf st2) (pendingOf st2) g' (failedOf st2)):=L2.trans ⟨rfl,rfl,rfl,rfl⟩;exact w_tT C (L3.kd.trans hk) ha hb M2 w1 w2 w3 (hR L3)
     by_cases d0:g>1
     ·rw [qAC d0];exact qAF (qBE (run (g - 1) _ fun L3=>⟨fun r o i j g p q F=>⟨L3,.inl ⟨_,_,_,_,_,_,_,rfl,F⟩⟩,fun o i j g p q M' h1 h2 h3=>⟨⟨L3,.inr ⟨_,_,_,_,_,_,rfl,M',h1,h2,h3⟩⟩,⟨L3,_,_,_,_,_,_,rfl,M',h1,h2,h3⟩⟩⟩))
     ·rw [qAB d0];exact qAF (qBE (run g _ fun L3=>⟨fun r o i j g p q F=>⟨L3,.inl ⟨_,_,_,_,_,_,_,rfl,F⟩⟩,fun o i j g p q M' h1 h2 h3=>⟨⟨L3,.inr ⟨_,_,_,_,_,_,rfl,M',h1,h2,h3⟩⟩,⟨L3,_,_,_,_,_,_,rfl,M',h1,h2,h3⟩⟩⟩))
abbrev CellH:=Option (Array Keyed)×Nat×Nat×Array Keyed×Nat×Nat×Nat
def uA (a b o:Array Keyed) (i j g p q:Nat):StateT SortSt Sem (ForInStep CellH):=do
 let x<-elem' a (i - 1)
 if (i - 1==0)=true then pure (.done (some (a.extract 0 (i - 1)++b.extract 0 j++(o.push x).reverse),i - 1,j,o.push x,g,p,q))
 else if (decide (p<7)&&decide (q<7))=true then pure (.done (none,i - 1,j,o.push x,g,p,q))
 else pure (.yield (none,i - 1,j,o.push x,g,p,q))
def uB (a b o:Array Keyed) (i j g p q:Nat):StateT SortSt Sem (ForInStep CellH):=do
 let y<-elem' b (j - 1)
 if (j - 1==1)=true then pure (.done (some (b.extract 0 (j - 1)++a.extract 0 i++(o.push y).reverse),i,j - 1,o.push y,g,p,q))
 else do
  let x<-elem' a (i - 1)
  let r<-gal true x b 0 (j - 1) (j - 1 - 1)
  match r with
  | some k =>
   if j - 1 - k>0 then
    if (k==1)=true then pure (.done (some (b.extract 0 k++a.extract 0 i++(o.push y++(b.extract k (j - 1)).reverse).reverse),i,k,o.push y++(b.extract k (j - 1)).reverse,g,p,j - 1 - k))
    else if (k==0)=true then pure (.done (some (a.extract 0 i++b.extract 0 k++(o.push y++(b.extract k (j - 1)).reverse).reverse),i,k,o.push y++(b.extract k (j - 1)).reverse,g,p,j - 1 - k))
    else uA a b (o.push y++(b.extract k (j - 1)).reverse) i k g p (j - 1 - k)
   else uA a b (o.push y) i (j - 1) g p (j - 1 - k)
  | _=>pure (.done (some (a.extract 0 i++b.extract 0 (j - 1)++(o.push y).reverse),i,j - 1,o.push y,g,p,q))
def uT (a b o:Array Keyed) (i j g p q:Nat):StateT SortSt Sem (ForInStep CellH):=do
 let y<-elem' b (j - 1)
 let r<-gal false y a 0 i (i - 1)
 match r with
 | some k =>
  if i - k>0 then
   if (k==0)=true then pure (.done (some (a.extract 0 k++b.extract 0 j++(o++(a.extract k i).reverse).reverse),k,j,o++(a.extract k i).reverse,g,i - k,q))
   else uB a b (o++(a.extract k i).reverse) k j g (i - k) q
  else uB a b o i j g (i - k) q
 | _=>pure (.done (some (a.extract 0 i++b.extract 0 j++o.reverse),i,j,o,g,p,q))
def TH (a b:Array Keyed) (m:Nat) (st3:SortSt) (R:ForInStep CellH->SortSt->Prop):Prop :=
 (∀r o i j g p q,Fn a b r->R (.done (some r,i,j,o,g,p,q)) st3)/\(∀o i j g p q,MH a b o i j->1<=i->1<j->i+j<=m->R (.done (none,i,j,o,g,p,q)) st3/\R (.yield (none,i,j,o,g,p,q)) st3)
section
variable {st3:SortSt} {o:Array Keyed} {i j g p q m:Nat} {R:ForInStep CellH->SortSt->Prop}
theorem w_uA (ha:∀x∈a.toList,Has κ x) (M:MH a b o i j) (hi:1<=i) (hj:1<j) (hm:i+j<=m+1) (hR:TH a b m st3 R):wpS (model prog w) A E s (uA a b o i j g p q) R st3:=by
 have hla:=M.la;obtain ⟨n,rfl⟩:∃n,i=n+1:=⟨i - 1,by lia⟩;obtain ⟨x,ex,_⟩:=zBq ha (show n<a.size by lia);have M2:=M.tA ex;refine qAF (zA9 ex ?_);show wpS _ _ _ _ (if (n==0)=true then _ else _) _ _
 by_cases d1:(n==0)=true
 ·rw [qAC d1];exact qAI (hR.1 _ _ _ _ _ _ _ M2.f1)
 ·have:=zAk d1;rw [qAB d1];have q:=hR.2 _ _ _ g p q M2 (by lia) hj (by lia);split
  ·exact qAI q.1
  ·exact qAI q.2
theorem w_uB (C:CmpOk prog w A s kd κ) (hk:kindOf st3=kd) (ha:∀x∈a.toList,Has κ x) (hb:∀x∈b.toList,Has κ x) (M:MH a b o i j) (hi:1<=i) (hj:1<j) (hm:i+j<=m+1) (hR:TH a b m st3 R) :
  wpS (model prog w) A E s (uB a b o i j g p q) R st3:=by
 have hla:=M.la;have hlb:=M.lb;obtain ⟨n,rfl⟩:∃n,j=n+1:=⟨j - 1,by lia⟩;obtain ⟨y,ey,hyy⟩:=zBq hb (show n<b.size by lia);obtain ⟨x,ex,hxx⟩:=zBq ha (show i - 1<a.size by lia);have M2:=M.tB ey;refine qAF (zA9 ey ?_);show wpS _ _ _ _ (if (n==1)=true then _ else _) _ _
 by_cases d1:(n==1)=true
 ·rw [qAC d1];exact qAI (hR.1 _ _ _ _ _ _ _ M2.f2)
 ·have:=zAk d1;rw [qAB d1];refine qAF (zA9 ex (qAF (w_gal C hk hxx (fun i hi=>zBq hb (show 0+i<b.size by have:i<n:=hi;lia)) (show n - 1<n by lia) fun k k1=>?_)));have k1:k<=n:=k1;have M3:=M2.tBs k k1;show wpS _ _ _ _ (if n - k>0 then _ else _) _ _
  by_cases hk0:n - k>0
  ·rw [qAC hk0]
   by_cases d2:(k==1)=true
   ·rw [qAC d2];exact qAI (hR.1 _ _ _ _ _ _ _ M3.f2)
   ·rw [qAB d2]
    by_cases d3:(k==0)=true
    ·rw [qAC d3];exact qAI (hR.1 _ _ _ _ _ _ _ M3.f1)
    ·have:=zAk d2;have:=zAk d3;rw [qAB d3];exact w_uA ha M3 hi (by lia) (by lia) hR
  ·rw [qAB hk0];exact w_uA ha M2 hi (by lia) (show i+n<=m+1 by lia) hR
theorem w_uT (C:CmpOk prog w A s kd κ) (hk:kindOf st3=kd) (ha:∀x∈a.toList,Has κ x) (hb:∀x∈b.toList,Has κ x) (M:MH a b o i j) (hi:1<=i) (hj:1<j) (hm:i+j<=m+1) (hR:TH a b m st3 R):wpS (model prog w) A E s (uT a b o i j g p q) R st3:=by
 have hla:=M.la;have hlb:=M.lb;obtain ⟨y,ey,hyy⟩:=zBq hb (show j - 1<b.size by lia);refine qAF (zA9 ey (qAF (w_gal C hk hyy (fun u hi=>zBq ha (show 0+u<a.size by have:u<i:=hi;lia)) (show i - 1<i by lia) fun k k1=>?_)));have k1:k<=i:=k1;have M3:=M.tAs k k1;show wpS _ _ _ _ (if i - k>0 then _ else _) _ _
 by_cases hk0:i - k>0
 ·rw [qAC hk0]
  by_cases d1:(k==0)=true
  ·rw [qAC d1];exact qAI (hR.1 _ _ _ _ _ _ _ M3.f1)
  ·have:=zAk d1;rw [qAB d1];exact w_uB C hk ha hb M3 (by lia) hj (by lia) hR
 ·rw [qAB hk0];exact w_uB C hk ha hb M hi hj hm hR
end
theorem w_mHi {Q:Array Keyed->SortSt->Prop} (C:CmpOk prog w A s kd κ) (hk:kindOf st=kd) (ha:∀x∈a.toList,Has κ x) (hb:∀x∈b.toList,Has κ x) (na:1<=a.size) (nb:1<=b.size)
  (h:∀r st',Like st st'->Fn a b r->Q r st'):wpS (model prog w) A E s (mHi a b) Q st:=by
 refine qAF (qBs (qBL ⟨rfl,?_⟩));obtain ⟨n,hn⟩:∃n,a.size=n+1:=⟨a.size - 1,by lia⟩;obtain ⟨x0,ex,hx⟩:=zBq ha (show n<a.size by lia);have en:a.size - 1=n:=by lia
 refine qAF (zA9 (p:=x0) (by rw [en];exact ex) ?_);have M0:MH a b #[] (n+1) b.size:=⟨by lia,by lia,fun p=>by rw [<-hn,qBh (show a.toList.length<=a.size by simp),qBh (show b.toList.length<=b.size by simp)];simp⟩;have M1:MH a b #[x0] n b.size:=M0.tA ex;rw [<-en] at M1;show wpS _ _ _ _ (if (a.size - 1==0)=true then _ else _) _ _
 by_cases c1:(a.size - 1==0)=true
 ·rw [qAC c1];exact qAI (h _ _ (Like.refl _) M1.f1)
 rw [qAB c1]
 by_cases c2:(b.size==1)=true
 ·rw [qAC c2];exact qAI (h _ _ (Like.refl _) M1.f2)
 rw [qAB c2];have:=zAk c1;have:=zAk c2;refine qAF (qBP ?_)
 refine qAF (qBB (qA5 (I:=fun x c st'=>Like st st'/\∃out i j g,c=(none,i,j,out,g)/\MH a b out i j/\1<=i/\1<j/\i+j+x<=a.size+b.size)
  (Q:=fun c st'=>Like st st'/\∃r out i j g,c=(some r,i,j,out,g)/\Fn a b r) ?step ?fin ⟨Like.refl _,_,_,_,_,rfl,M1,by lia,by lia,by lia⟩) ?post)
 case fin =>
  rintro c st' ⟨_,out,i,j,g,rfl,M,h1,h2,h3⟩;lia
 case post =>
  rintro c st' ⟨L,r,out,i,j,g,rfl,F⟩;exact qAI (h r st' L F)
 case step =>
  rintro x c st1 _ hx1 ⟨L1,out0,i0,j0,g0,rfl,M,u1,u2,u3⟩;have hk1:kindOf st1=kd:=L1.kd.trans hk;dsimp only
  refine qAF (qBB (qA5 (I:=fun x c st'=>st'=st1/\∃out i j p q,c=(none,i,j,out,p,q)/\MH a b out i j/\1<=i/\1<j/\i+j+x<=i0+j0)
   (Q:=fun c st'=>st'=st1/\((∃r out i j p q,c=(some r,i,j,out,p,q)/\Fn a b r)\/∃out i j p q,c=(none,i,j,out,p,q)/\MH a b out i j/\1<=i/\1<j/\i+j+1<=i0+j0)) ?step1 ?fin1
   ⟨rfl,_,_,_,_,_,rfl,M,u1,u2,by lia⟩) ?post1)
  case fin1 =>
   rintro c st' ⟨rfl,out,i,j,p,q,rfl,M',v1,v2,v3⟩;exact ⟨rfl,.inr ⟨out,i,j,p,q,rfl,M',v1,v2,by lia⟩⟩
  case step1 =>
   rintro x2 c st' _ hx2 ⟨rfl,out,i,j,p,q,rfl,M',v1,v2,v3⟩;have hla:=M'.la;have hlb:=M'.lb;obtain ⟨n,rfl⟩:∃n,i=n+1:=⟨i - 1,by lia⟩;obtain ⟨m,rfl⟩:∃m,j=m+1:=⟨j - 1,by lia⟩;obtain ⟨yb,eb,hyb⟩:=zBq hb (show m<b.size by lia);obtain ⟨xa,ea,hxa⟩:=zBq ha (show n<a.size by lia);dsimp only;refine qAF (zA9 eb (qAF (zA9 ea (qAF (w_lt C hk1 hyb hxa ?_)))));generalize κ.blt (kk κ yb) (kk κ xa)=c;show wpS _ _ _ _ (if c=true then _ else _) _ _
   by_cases e:c=true
   ·rw [qAC e];refine qAF (zA9 ea ?_);have M2:=M'.tA ea;show wpS _ _ _ _ (if (n==0)=true then _ else _) _ _
    by_cases d1:(n==0)=true
    ·rw [qAC d1];exact qAI ⟨rfl,.inl ⟨_,_,_,_,_,_,rfl,M2.f1⟩⟩
    ·have:=zAk d1;rw [qAB d1]
     by_cases d2:p+1>=g0
     ·rw [qAC d2];exact qAI ⟨rfl,.inr ⟨_,_,_,_,_,rfl,M2,by lia,v2,by lia⟩⟩
     ·rw [qAB d2];exact qAI ⟨rfl,_,_,_,_,_,rfl,M2,by lia,v2,by lia⟩
   ·rw [qAB e];refine qAF (zA9 eb ?_);have M2:=M'.tB eb;show wpS _ _ _ _ (if (m==1)=true then _ else _) _ _
    by_cases d1:(m==1)=true
    ·rw [qAC d1];exact qAI ⟨rfl,.inl ⟨_,_,_,_,_,_,rfl,M2.f2⟩⟩
    ·have:=zAk d1;rw [qAB d1]
     by_cases d2:q+1>=g0
     ·rw [qAC d2];exact qAI ⟨rfl,.inr ⟨_,_,_,_,_,rfl,M2,v1,by lia,by lia⟩⟩
     ·rw [qAB d2];exact qAI ⟨rfl,_,_,_,_,_,rfl,M2,v1,by lia,by lia⟩
  case post1 =>
   rintro c st' ⟨rfl,⟨r,out,i,j,p,q,rfl,F⟩| ⟨out,i,j,p,q,rfl,M',v1,v2,v3⟩⟩
   ·exact qAI ⟨L1,_,_,_,_,_,rfl,F⟩
   ·dsimp only;refine qAF (qBs (qBL ⟨rfl,?_⟩))
    refine qAF (qBB (qA5 (I:=fun x c st'=>Like st st'/\∃out i j g p q,c=(none,i,j,out,g,p,q)/\MH a b out i j/\1<=i/\1<j/\i+j+1<=i0+j0)
     (Q:=fun c st'=>Like st st'/\((∃r out i j g p q,c=(some r,i,j,out,g,p,q)/\Fn a b r)\/∃out i j g p q,c=(none,i,j,out,g,p,q)/\MH a b out i j/\1<=i/\1<j/\i+j+1<=i0+j0)) ?step2 ?fin2
     ⟨L1,_,_,_,_,_,_,rfl,M',v1,v2,v3⟩) ?post2)
    case fin2 =>
     rintro c st' ⟨L,out,i,j,g,p,q,rfl,M',v⟩;exact ⟨L,.inr ⟨_,_,_,_,_,_,rfl,M',v⟩⟩
    case post2 =>
     rintro c st' ⟨L,⟨r,out,i,j,g,p,q,rfl,F⟩| ⟨out,i,j,g,p,q,rfl,M',v1,v2,v3⟩⟩
     ·exact qAI ⟨L,_,_,_,_,_,rfl,F⟩
     ·dsimp only;refine qAF (qBE (qAI ⟨L.trans ⟨rfl,rfl,rfl,rfl⟩,_,_,_,_,rfl,M',v1,v2,by lia⟩))
    case step2 =>
     rintro x3 c st2 _ hx3 ⟨L2,out,i,j,g,p,q,rfl,M2,w1,w2,w3⟩;dsimp only
     have run:∀(g':Nat) (R:ForInStep CellH->SortSt->Prop),(∀L3:Like st (SortSt.mk' (kindOf st2) (arrOf st2) (pendingOf st2) g' (failedOf st2)),TH a b (i0+j0 - 1) (SortSt.mk' (kindOf st2) (arrOf st2) (pendingOf st2) g' (failedOf st2)) R)->wpS (model prog w) A E s (uT a b out i j g' p q) R (SortSt.mk' (kindOf st2) (arrOf st2) (pendingOf st2) g' (failedOf st2)):=fun g' R hR=>by
      have L3:Like st (SortSt.mk' (kindOf st2) (arrOf st2) (pendingOf st2) g' (failedOf st2)):=L2.trans ⟨rfl,rfl,rfl,rfl⟩;exact w_uT C (L3.kd.trans hk) ha hb M2 w1 w2 (by lia) (hR L3)
     by_cases d0:g>1
     ·rw [qAC d0];exact qAF (qBE (run (g - 1) _ fun L3=>⟨fun r o i j g p q F=>⟨L3,.inl ⟨_,_,_,_,_,_,_,rfl,F⟩⟩,fun o i j g p q M' h1 h2 h3=>⟨⟨L3,.inr ⟨_,_,_,_,_,_,rfl,M',h1,h2,by lia⟩⟩,⟨L3,_,_,_,_,_,_,rfl,M',h1,h2,by lia⟩⟩⟩))
     ·rw [qAB d0];exact qAF (qBE (run g _ fun L3=>⟨fun r o i j g p q F=>⟨L3,.inl ⟨_,_,_,_,_,_,_,rfl,F⟩⟩,fun o i j g p q M' h1 h2 h3=>⟨⟨L3,.inr ⟨_,_,_,_,_,_,rfl,M',h1,h2,by lia⟩⟩,⟨L3,_,_,_,_,_,_,rfl,M',h1,h2,by lia⟩⟩⟩))
end
section
variable {prog:Program} {w:World} {A:Around} {E:Value->Shared->Prop} {s:Shared} {kd:SortKind} {κ:KeyKind}
structure Fr (st st':SortSt):Prop where
 kd:kindOf st'=kindOf st
 pn:pendingOf st'=pendingOf st
 fl:failedOf st'=failedOf st
 perm:(arrOf st').Perm (arrOf st)
theorem Fr.refl (st:SortSt):Fr st st:=⟨rfl,rfl,rfl,qCr _⟩
theorem Fr.trans {a b c:SortSt} (h:Fr a b) (k:Fr b c):Fr a c:=⟨k.kd.trans h.kd,k.pn.trans h.pn,k.fl.trans h.fl,k.perm.trans h.perm⟩
theorem Fr.size {a b:SortSt} (h:Fr a b):(arrOf b).size=(arrOf a).size:=h.perm.size_eq
theorem Fr.rev (st:SortSt) (i j k:Nat):Fr st (setArr st (mirror (arrOf st) i j k)):=⟨rfl,rfl,rfl,mirror_perm _ _ _ _⟩
def All (κ:KeyKind) (st:SortSt):Prop:=∀x∈(arrOf st).toList,Has κ x
theorem All.fr {a b:SortSt} (h:All κ a) (f:Fr a b):All κ b:=fun x hx=>h x ((qCn.mp f.perm).mem_iff.mp hx)
theorem All.at (h:All κ st) (hi:i<(arrOf st).size):∃p,(arrOf st)[i]?=some p/\Has κ p:=zBq h hi
theorem w_ask {j:Nat} {Q:Option Bool->SortSt->Prop} (C:CmpOk prog w A s kd κ) (hk:kindOf st=kd) (al:All κ st) (hi:i<(arrOf st).size) (hj:j<(arrOf st).size) (h:∀c,Q (some c) st):wpS (model prog w) A E s (ltAt' i j) Q st:=w_ltAt C hk (al.at hi) (al.at hj) (h _)
theorem w_asc {n0:Nat} {Q:α->SortSt->Prop} (C:CmpOk prog w A s kd κ) (hk:kindOf st=kd) (al:All κ st) (hn:lo+nrem<=(arrOf st).size) (h1:1<=n0) (h2:n0<=nrem)
  (F:Nat->Option (Option Nat)×Nat->StateT SortSt Sem (ForInStep (Option (Option Nat)×Nat))) (hF:∀x n,F x (none,n)=(do
   let c<-ltAt' (lo+n) (lo+n - 1)
   match c with
   | some c=>if c=true then pure (ForInStep.done (none,n)) else pure (ForInStep.yield (none,n+1))
   | _=>pure (ForInStep.done (some none,n)))) (G:Option (Option Nat)×Nat->StateT SortSt Sem α)
  (hG:∀n,n0<=n->n<=nrem->wpS (model prog w) A E s (G (none,n)) Q st) :
  wpS (model prog w) A E s (forIn [n0:nrem] ((none,n0):Option (Option Nat)×Nat) F >>= G) Q st:=by
 refine qAF (qA5 (I:=fun x c st'=>st'=st/\c=(none,x)/\x<=nrem) ?step ?fin ⟨rfl,rfl,h2⟩)
 case fin =>
  rintro c st' ⟨rfl,rfl,h3⟩;rw [show max n0 nrem=nrem by lia];exact hG nrem h2 (qAG _)
 case step =>
  rintro x c st' hx1 hx2 ⟨rfl,rfl,h3⟩;rw [hF];refine qAF (w_ask C hk al (by lia) (by lia) fun c=>?_);show wpS _ _ _ _ (if c=true then _ else _) _ _;split
  ·exact qAI (hG x hx1 h3)
  ·exact qAI ⟨rfl,rfl,by lia⟩
theorem w_tail {Q:Option Nat->SortSt->Prop} (C:CmpOk prog w A s kd κ) (hk:kindOf st=kd) (al:All κ st) (hn:lo+nrem<=(arrOf st).size) (h1:1<=n) (h2:n<=nrem)
  (F:Nat->Option (Option Nat)×Nat->StateT SortSt Sem (ForInStep (Option (Option Nat)×Nat))) (hF:∀x n,F x (none,n)=(do
   let c<-ltAt' (lo+n) (lo+n - 1)
   match c with
   | some c=>if c=true then pure (ForInStep.done (none,n)) else pure (ForInStep.yield (none,n+1))
   | _=>pure (ForInStep.done (some none,n)))) (G:Option (Option Nat)×Nat->StateT SortSt Sem (Option Nat)) (hG:∀n,G (none,n)=pure (some n))
  (h:∀m st',Fr st st'->1<=m->m<=nrem->Q (some m) st') :
  wpS (model prog w) A E s (reverseSlice' lo (lo+n) >>= fun _=>forIn [n:nrem] ((none,n):Option (Option Nat)×Nat) F >>= G) Q st:=by
 have f:=Fr.rev st lo (lo+n) ((lo+n - lo) / 2);refine qAF (qCs ?_);refine w_asc C (f.kd.trans hk) (al.fr f) (by rw [f.size];exact hn) h1 h2 F hF G fun m m1 m2=>?_;rw [hG];exact qAI (h m _ f (by lia) m2)
theorem w_desc {n0:Nat} {Q:α->SortSt->Prop} (C:CmpOk prog w A s kd κ) (hk:kindOf st=kd) (al:All κ st) (hn:lo+nrem<=(arrOf st).size) (h1:1<=n0) (h2:n0<=nrem)
  (F:Nat->Option (Option Nat)×Nat×Nat->StateT SortSt Sem (ForInStep (Option (Option Nat)×Nat×Nat))) (hF:∀x n q,F x (none,n,q)=(ltAt' (lo+n) (lo+n - 1) >>= fun c=>match c with
   | some c=>(if c=true then (if q>0 then (reverseSlice' (lo+n - (q+1)) (lo+n) >>= fun _=>pure (ForInStep.yield (none,n+1,0))) else pure (ForInStep.yield (none,n+1,0)))
    else (ltAt' (lo+n - 1) (lo+n) >>= fun d=>match d with
     | some d=>(if d=true then pure (ForInStep.done (none,n,q)) else pure (ForInStep.yield (none,n+1,q+1)))
     | _=>pure (ForInStep.done (some none,n,q))))
   | _=>pure (ForInStep.done (some none,n,q)))) (G:Option (Option Nat)×Nat×Nat->StateT SortSt Sem α)
  (hG:∀n q st',Fr st st'->n0<=n->n<=nrem->wpS (model prog w) A E s (G (none,n,q)) Q st') :
  wpS (model prog w) A E s (forIn [n0:nrem] ((none,n0,0):Option (Option Nat)×Nat×Nat) F >>= G) Q st:=by
 refine qAF (qA5 (I:=fun x c st'=>Fr st st'/\∃q,c=(none,x,q)/\x<=nrem) ?step ?fin ⟨Fr.refl _,0,rfl,h2⟩)
 case fin =>
  rintro c st' ⟨f,q,rfl,h3⟩;rw [show max n0 nrem=nrem by lia];exact hG nrem q st' f h2 (qAG _)
 case step =>
  rintro x c st' hx1 hx2 ⟨f,q,rfl,h3⟩;have hz:(arrOf st').size=(arrOf st).size:=f.size;have al':=al.fr f;have hk':=f.kd.trans hk;rw [hF];refine qAF (w_ask C hk' al' (by lia) (by lia) fun c=>?_);show wpS _ _ _ _ (if c=true then _ else _) _ _
  by_cases e:c=true
  ·rw [qAC e]
   by_cases hq:q>0
   ·rw [qAC hq];exact qAF (qCs (qAI ⟨f.trans (Fr.rev _ _ _ _),0,rfl,by lia⟩))
   ·rw [qAB hq];exact qAI ⟨f,0,rfl,by lia⟩
  ·rw [qAB e];refine qAF (w_ask C hk' al' (by lia) (by lia) fun d=>?_);show wpS _ _ _ _ (if d=true then _ else _) _ _
   by_cases e2:d=true
   ·rw [qAC e2];exact qAI (hG x q st' f hx1 h3)
   ·rw [qAB e2];exact qAI ⟨f,q+1,rfl,by lia⟩
theorem w_count {Q:Option Nat->SortSt->Prop} (C:CmpOk prog w A s kd κ) (hk:kindOf st=kd) (al:All κ st) (hn:lo+nrem<=(arrOf st).size) (h1:1<=nrem)
  (h:∀m st',Fr st st'->1<=m->m<=nrem->Q (some m) st'):wpS (model prog w) A E s (countRun' lo nrem) Q st:=by
 refine w_asc C hk al hn (qAG 1) h1 _ (fun x n=>rfl) _ fun n n1 n2=>?_;show wpS _ _ _ _ (if (n==nrem)=true then _ else _) _ _
 by_cases c:(n==nrem)=true
 ·rw [qAC c];exact qAI (h n st (Fr.refl _) n1 n2)
 rw [qAB c];have c':=zAk c;show wpS _ _ _ _ (if n>1 then _ else _) _ _
 by_cases g:n>1
 ·rw [qAC g];refine qAF (w_ask C hk al (by lia) (by lia) fun c=>?_);show wpS _ _ _ _ (if c=true then _ else _) _ _
  by_cases e:c=true
  ·rw [qAC e];exact qAI (h n st (Fr.refl _) n1 n2)
  ·rw [qAB e];have f1:=Fr.rev st lo (lo+n) ((lo+n - lo) / 2);refine qAF (qCs ?_);refine qAF (qBs (qBL ⟨rfl,?_⟩));refine w_desc C (f1.kd.trans hk) (al.fr f1) (by rw [f1.size];exact hn) (by lia) (by lia) _ (fun x n q=>rfl) _ fun m q st2 f2 m1 m2=>?_;have f2:=f1.trans f2;show wpS _ _ _ _ (if q>0 then _ else _) _ _
   by_cases hq:q>0
   ·rw [qAC hq];have f3:=f2.trans (Fr.rev st2 (lo+m - (q+1)) (lo+m) ((lo+m - (lo+m - (q+1))) / 2));refine qAF (qCs ?_);exact w_tail C (f3.kd.trans hk) (al.fr f3) (by rw [f3.size];exact hn) (by lia) m2 _ (fun x n=>rfl) _ (fun n=>rfl) fun m' st' f'=>h m' st' (f3.trans f')
   ·rw [qAB hq];exact w_tail C (f2.kd.trans hk) (al.fr f2) (by rw [f2.size];exact hn) (by lia) m2 _ (fun x n=>rfl) _ (fun n=>rfl) fun m' st' f'=>h m' st' (f2.trans f')
 ·rw [qAB g];have en:n=1:=by lia
  subst en;refine qAF (qBs (qBL ⟨rfl,?_⟩));refine w_desc C hk al hn (by lia) (by lia) _ (fun x n q=>rfl) _ fun m q st2 f2 m1 m2=>?_;show wpS _ _ _ _ (if q>0 then _ else _) _ _
  by_cases hq:q>0
  ·rw [qAC hq];have f3:=f2.trans (Fr.rev st2 (lo+m - (q+1)) (lo+m) ((lo+m - (lo+m - (q+1))) / 2));refine qAF (qCs ?_);exact w_tail C (f3.kd.trans hk) (al.fr f3) (by rw [f3.size];exact hn) (by lia) m2 _ (fun x n=>rfl) _ (fun n=>rfl) fun m' st' f'=>h m' st' (f3.trans f')
  ·rw [qAB hq];exact w_tail C (f2.kd.trans hk) (al.fr f2) (by rw [f2.size];exact hn) (by lia) m2 _ (fun x n=>rfl) _ (fun n=>rfl) fun m' st' f'=>h m' st' (f2.trans f')
theorem w_ins {ok:Nat} {Q:Bool->SortSt->Prop} (C:CmpOk prog w A s kd κ) (hk:kindOf st=kd) (al:All κ st) (hn:lo+n<=(arrOf st).size)
  (h:∀st',Fr st st'->Q true st'):wpS (model prog w) A E s (binarySort' lo n ok) Q st:=by
 refine qAF (qBB (qA5 (I:=fun k c st'=>c=(none,())/\Fr st st') (Q:=fun c st'=>c=(none,())/\Fr st st') ?step (fun c st' h=>h) ⟨rfl,Fr.refl _⟩) ?post)
 case post =>
  rintro c st' ⟨rfl,f⟩;exact qAI (h st' f)
 case step =>
  rintro k c st' hk1 hk2 ⟨rfl,f⟩;have hz:(arrOf st').size=(arrOf st).size:=f.size
  refine qAF (qBB (qA5 (I:=fun x c st2=>st2=st'/\∃l r,c=(none,l,r)/\l<=r/\r<=k)
   (Q:=fun c st2=>st2=st'/\∃l r,c=(none,l,r)/\l<=r/\r<=k) ?s2 (fun c st' h=>h) ⟨rfl,0,k,rfl,by lia,by lia⟩) ?p2)
  case s2 =>
   rintro x c st2 _ hx ⟨rfl,l,r,rfl,a1,a2⟩;dsimp only
   by_cases g:l>=r
   ·rw [qAC g];exact qAI ⟨rfl,l,r,rfl,a1,a2⟩
   ·rw [qAB g];refine qAF (w_ask C (f.kd.trans hk) (al.fr f) (by lia) (by lia) fun c=>?_);show wpS _ _ _ _ (if c=true then _ else _) _ _;split
    ·exact qAI ⟨rfl,l,(l+r) / 2,rfl,by lia,by lia⟩
    ·exact qAI ⟨rfl,(l+r) / 2+1,r,rfl,by lia,by lia⟩
  case p2 =>
   rintro c st2 ⟨rfl,l,r,rfl,a1,a2⟩;show wpS _ _ _ _ (moveDown' (lo+k) (lo+l) >>= fun _=>pure (ForInStep.yield (none,()))) _ _;rw [moveDown'_eq];exact qAF (qBE (qAI ⟨rfl,f.trans ⟨rfl,rfl,rfl,bubble_perm _ _ _⟩⟩))
theorem w_set {M:Model} {σ:Type} {st st':σ} {Q:PUnit->σ->Prop} (h:Q ⟨⟩ st'):wpS M A E s (set st':StateT σ Sem PUnit) Q st:=by
 unfold wpS;rw [StateT.run_set];exact qAD ⟨rfl,h⟩
theorem splice:∀(m:List Keyed) (arr:Array Keyed) (sa k:Nat),sa+k+m.length<=arr.size ->
  ((m.zipIdx k).foldl (fun a x=>match x with| (p,j)=>a.setIfInBounds (sa+j) p) arr).toList=arr.toList.take (sa+k)++m++arr.toList.drop (sa+k+m.length)
 | [],arr,sa,k,_=>by simp
 | p::r,arr,sa,k,h=>by
  rw [qAc] at h;have hk:sa+k<arr.size:=by lia
  rw [List.zipIdx_cons,qBd];show ((r.zipIdx (k+1)).foldl _ (arr.setIfInBounds (sa+k) p)).toList=_;rw [splice r (arr.setIfInBounds (sa+k) p) sa (k+1) (by rw [qDh];lia)];have e:(arr.setIfInBounds (sa+k) p).toList=arr.toList.set (sa+k) p:=by simp
  have hl:sa+k<arr.toList.length:=by simpa using hk
  rw [e,show sa+(k+1)=sa+k+1 by lia,qAc,show sa+k+(r.length+1)=sa+k+1+r.length by lia]
  have e1:(arr.toList.set (sa+k) p).take (sa+k+1)=arr.toList.take (sa+k)++[p]:=by
   rw [qDI,qDb hl,List.take_set_of_le (qAG _)];rfl
  have e2:(arr.toList.set (sa+k) p).drop (sa+k+1+r.length)=arr.toList.drop (sa+k+1+r.length):=List.drop_set_of_lt (by lia);rw [e1,e2];simp
theorem zI8 {a:Array Keyed} (h:∀x∈a.toList,Has κ x) (i j:Nat):∀x∈(a.extract i j).toList,Has κ x:=fun x hx=>by
 rw [qB8,List.extract_eq_drop_take] at hx;exact h x (qDf (qBi hx))
theorem w_mergeAt {sa na pw nb pw2:Nat} {Q:Bool->SortSt->Prop} (C:CmpOk prog w A s kd κ) (hk:kindOf st=kd) (al:All κ st) (hp1:(pendingOf st)[i]?=some (sa,na,pw)) (hp2:(pendingOf st)[i+1]?=some (sa+na,nb,pw2))
  (h1:1<=na) (h2:1<=nb) (hz:sa+na+nb<=(arrOf st).size) (hfl:failedOf st=none)
  (h:∀st',kindOf st'=kindOf st->failedOf st'=none->pendingOf st'=((pendingOf st).setIfInBounds i (sa,na+nb,pw)).eraseIdxIfInBounds (i+1)->(arrOf st').Perm (arrOf st)->Q true st'):wpS (model prog w) A E s (mergeAt' i) Q st:=by
 obtain ⟨st1,e1⟩:∃st1:SortSt,st1=setPending st (((pendingOf st).setIfInBounds i (sa,na+nb,pw)).eraseIdxIfInBounds (i+1)):=⟨_,rfl⟩;have ka:kindOf st1=kindOf st:=by rw [e1]
 have fa:failedOf st1=failedOf st:=by rw [e1]
 have pa:pendingOf st1=((pendingOf st).setIfInBounds i (sa,na+nb,pw)).eraseIdxIfInBounds (i+1):=by rw [e1]
 have aa:arrOf st1=arrOf st:=by rw [e1]
 have plain:Q true st1:=h st1 ka (fa.trans hfl) pa (by rw [aa]);refine qAF (qBP ?_);show wpS _ _ _ _ (match ((pendingOf st)[i]?,(pendingOf st)[i+1]?) with| _=>_) _ _;rw [hp1,hp2];refine qAF (w_set ?_);show wpS _ _ _ _ _ _ (setPending st (((pendingOf st).setIfInBounds i (sa,na+nb,pw)).eraseIdxIfInBounds (i+1)));rw [<-e1];obtain ⟨y0,ey0,hy0⟩:=al.at (show sa+na<(arrOf st).size by lia);refine qAF (zA9 ey0 ?_);refine qAF (w_gal C (ka.trans hk) hy0 (fun j hj=>al.at (by lia)) (show 0<na by lia) fun k hkn=>?_);show wpS _ _ _ _ (if (na - k==0)=true then _ else _) _ _
 by_cases c1:(na - k==0)=true
 ·rw [qAC c1];exact qAI plain
 rw [qAB c1];have c1:=zAk c1;obtain ⟨z,ez,hz'⟩:=al.at (show sa+k+(na - k) - 1<(arrOf st).size by lia);refine qAF (zA9 ez ?_);refine qAF (w_gal C (ka.trans hk) hz' (fun j hj=>al.at (by lia)) (show nb - 1<nb by lia) fun m hmn=>?_);show wpS _ _ _ _ (if (m==0)=true then _ else _) _ _
 by_cases c2:(m==0)=true
 ·rw [qAC c2];exact qAI plain
 rw [qAB c2];have c2:=zAk c2;have zX:((arrOf st).extract (sa+k) (sa+na)).size=na - k:=by simp;lia
 have zY:((arrOf st).extract (sa+na) (sa+na+m)).size=m:=by simp;lia
 have fin:∀(r:Array Keyed) (st2:SortSt),Like st1 st2->Fn ((arrOf st).extract (sa+k) (sa+na)) ((arrOf st).extract (sa+na) (sa+na+m)) r ->
   wpS (model prog w) A E s (modify (fun s:SortSt=>SortSt.mk' (kindOf s) (r.toList.zipIdx.foldl (fun a x=>match x with| (p,j)=>a.setIfInBounds (sa+k+j) p) (arrOf s)) (pendingOf s) (gallopOf s) (failedOf s)) >>= fun _=>(get:StateT SortSt Sem SortSt) >>= fun s=>pure (failedOf s).isNone) Q st2:=fun r st2 L F=>by
  have ar2:arrOf st2=arrOf st:=L.ar.trans aa;have fl2:failedOf st2=none:=L.fl.trans (fa.trans hfl)
  have lr:r.toList.length=na - k+m:=by
   have:=F fun _=>true;simp only [List.countP_true,qBC,zX,zY] at this;simpa using this
  have sp:=splice r.toList (arrOf st2) (sa+k) 0 (by rw [ar2];lia);rw [ar2,qDB,lr] at sp;refine qAF (qBE (qAF (qBP ?_)));have e3:(failedOf st2).isNone=true:=by rw [fl2];rfl
  show wpS _ _ _ _ (pure (failedOf st2).isNone) _ _;rw [e3,ar2];generalize hR:(r.toList.zipIdx.foldl (fun a x=>match x with| (p,j)=>a.setIfInBounds (sa+k+j) p) (arrOf st))=R at sp;refine qAI (h _ (L.kd.trans ka) fl2 (L.pn.trans pa) ?_);show R.Perm (arrOf st);refine qCn.mpr (perm_ct fun p=>?_);have h1:=F p;have h2:=cd (a:=arrOf st) (show sa+k<=sa+na by lia) p;have h3:=cd (a:=arrOf st) (show sa+na<=sa+na+m by lia) p;have h4:=qAf (List.countP p) (qBt (sa+k) (arrOf st).toList);rw [qCE] at h4;rw [sp,qCE,qCE,show sa+k+(na - k+m)=sa+na+m by lia];lia
 show wpS _ _ _ _ (if na - k<=m then _ else _) _ _
 by_cases c3:na - k<=m
 ·rw [qAC c3];exact qAF (w_mLo (a:=(arrOf st).extract (sa+k) (sa+na)) (b:=(arrOf st).extract (sa+na) (sa+na+m)) C (ka.trans hk) (zI8 al _ _) (zI8 al _ _) (by rw [zX];lia) (by rw [zY];lia) fun r st2 L F=>fin r st2 L F)
 ·rw [qAB c3];exact qAF (w_mHi (a:=(arrOf st).extract (sa+k) (sa+na)) (b:=(arrOf st).extract (sa+na) (sa+na+m)) C (ka.trans hk) (zI8 al _ _) (zI8 al _ _) (by rw [zX];lia) (by rw [zY];lia) fun r st2 L F=>fin r st2 L F)
end
def Ch:List (Nat×Nat×Nat)->Nat->Nat->Prop
 | [],s,e=>s=e
 | (a,n,_)::r,s,e=>a=s/\1<=n/\Ch r (s+n) e
theorem Ch.app {P Q:List (Nat×Nat×Nat)}:∀{s e:Nat},Ch (P++Q) s e↔∃m,Ch P s m/\Ch Q m e:=by
 induction P with
 | nil=>intro s e;exact ⟨fun h=>⟨s,rfl,h⟩,fun ⟨m,h1,h2⟩=>by have h1:s=m:=h1;rw [h1];exact h2⟩
 | cons x P ih =>
  obtain ⟨a,n,q⟩:=x;intro s e;constructor
  ·rintro ⟨h1,h2,h3⟩;obtain ⟨m,k1,k2⟩:=ih.mp h3;exact ⟨m,⟨h1,h2,k1⟩,k2⟩
  ·rintro ⟨m,⟨h1,h2,h3⟩,h4⟩;exact ⟨h1,h2,ih.mpr ⟨m,h3,h4⟩⟩
theorem Ch.bnd:∀{P:List (Nat×Nat×Nat)} {s e:Nat},Ch P s e->s+P.length<=e
 | [],s,e,h=>qBN h
 | (a,n,t)::r,s,e,h=>by
  have:=Ch.bnd h.2.2;have:=h.2.1;rw [qAc];lia
theorem set_erase (P:List α) (x y v:α) (T:List α):((P++x::y::T).set P.length v).eraseIdx (P.length+1)=P++v::T:=by
 induction P with
 | nil=>rfl
 | cons p P ih =>
  show p::((P++x::y::T).set P.length v).eraseIdx (P.length+1)=p::(P++v::T);rw [ih]
theorem two_at :∀{L:List α} {i:Nat},i+1<L.length->∃P x y T,L=P++x::y::T/\P.length=i
 | [],i,h=>by simp at h
 | [_],i,h=>by simp at h
 | a::b::L,0,_=>⟨[],a,b,L,rfl,rfl⟩
 | a::b::L,i+1,h=>by
  obtain ⟨P,x,y,T,e,l⟩:=two_at (L:=b::L) (i:=i) (by simp at h ⊢;lia);exact ⟨a::P,x,y,T,by rw [e];rfl,by simp [l]⟩
theorem ch_map:∀{L L':List (Nat×Nat×Nat)} {s e:Nat},L'.map (fun q=>(q.1,q.2.1))=L.map (fun q=>(q.1,q.2.1))->Ch L s e->Ch L' s e
 | [],[],_,_,_,h=>h
 | [],_::_,_,_,h,_=>by simp at h
 | _::_,[],_,_,h,_=>by simp at h
 | (a,n,t)::r,(b,m,u)::r',s,e,h,c=>by
  simp at h;obtain ⟨⟨h1,h2⟩,h3⟩:=h;obtain ⟨c1,c2,c3⟩:=c;subst h1;subst h2;exact ⟨c1,c2,ch_map (by simpa using h3) c3⟩
theorem mod_map {f:Nat×Nat×Nat->Nat×Nat×Nat} (hf:∀q,(f q).1=q.1/\(f q).2.1=q.2.1) (p:Array (Nat×Nat×Nat)) (i:Nat):(p.modify i f).toList.map (fun q=>(q.1,q.2.1))=p.toList.map (fun q=>(q.1,q.2.1)):=by
 apply qDO;intro k;rw [qAW,qAW,qAo,qAo,Array.getElem?_modify];split
 ·cases h:p[k]? with
  | none=>rfl
  | some q =>
   have:=hf q;simp [this.1,this.2]
 ·rfl
section
variable {prog:Program} {w:World} {A:Around} {E:Value->Shared->Prop} {s:Shared} {kd:SortKind} {κ:KeyKind} {a₀:Array Keyed}
structure Rn (kd:SortKind) (a₀:Array Keyed) (lo:Nat) (st:SortSt):Prop where
 kd:kindOf st=kd
 fl:failedOf st=none
 perm:(arrOf st).Perm a₀
 ch:Ch (pendingOf st).toList 0 lo
theorem Rn.all (R:Rn kd a₀ lo st) (h:∀x∈a₀.toList,Has κ x):All κ st:=fun x hx=>h x ((qCn.mp R.perm).mem_iff.mp hx)
theorem w_merge {Q:Bool->SortSt->Prop} (C:CmpOk prog w A s kd κ) (ha:∀x∈a₀.toList,Has κ x) (R:Rn kd a₀ lo st) (hl:lo<=a₀.size) (hi:i+1<(pendingOf st).size)
  (h:∀st',Rn kd a₀ lo st'->(pendingOf st').size+1=(pendingOf st).size->Q true st'):wpS (model prog w) A E s (mergeAt' i) Q st:=by
 obtain ⟨P,⟨sa,na,pw⟩,⟨sb,nb,pw2⟩,T,e,l⟩:=two_at (L:=(pendingOf st).toList) (i:=i) (by simpa using hi);have hz:(arrOf st).size=a₀.size:=R.perm.size_eq;have ch:=R.ch;rw [e] at ch;obtain ⟨m,c1,d1,d2,d3,d4,d5⟩:=Ch.app.mp ch;subst d1;subst d3;have b2:=d5.bnd
 have e1:(pendingOf st)[i]?=some (sa,na,pw):=by
  rw [<-qAo,e,<-l];simp
 have e2:(pendingOf st)[i+1]?=some (sa+na,nb,pw2):=by
  rw [<-qAo,e,<-l,qBb (by lia)];simp
 refine w_mergeAt C R.kd (R.all ha) e1 e2 d2 d4 (by lia) R.fl fun st' k1 k2 k3 k4=>?_
 have ep:(pendingOf st').toList=P++(sa,na+nb,pw)::T:=by
  have hb:i+1<((pendingOf st).setIfInBounds i (sa,na+nb,pw)).size:=by rw [qDh];exact hi
  rw [k3,Array.eraseIdxIfInBounds,dif_pos hb,Array.toList_eraseIdx,Array.toList_setIfInBounds,e,<-l];exact set_erase P _ _ _ T
 refine h st' ⟨k1.trans R.kd,k2,k4.trans R.perm,?_⟩ ?_
 ·rw [ep];refine Ch.app.mpr ⟨sa,c1,rfl,by lia,?_⟩;rw [show sa+(na+nb)=sa+na+nb by lia];exact d5
 ·have h1:=qAf List.length ep;have h2:=qAf List.length e;simp at h1 h2;lia
theorem Rn.modify (R:Rn kd a₀ lo st) {f:Nat×Nat×Nat->Nat×Nat×Nat} (hf:∀q,(f q).1=q.1/\(f q).2.1=q.2.1) (i:Nat):Rn kd a₀ lo (setPending st ((pendingOf st).modify i f)):=⟨R.kd,R.fl,R.perm,ch_map (mod_map hf (pendingOf st) i) R.ch⟩
theorem ite_less (c:Prop) [Decidable c] (a:Nat):(if c then a - 1 else a)<=a:=by split<;>lia
theorem w_sort {Q:Unit->SortSt->Prop} (C:CmpOk prog w A s kd κ) (ha:∀x∈a₀.toList,Has κ x) (hk:kindOf st=kd) (hf:failedOf st=none) (hp:(arrOf st).Perm a₀) (hpn:pendingOf st=#[]) (h1:1<=a₀.size)
  (h:∀st',failedOf st'=none->(arrOf st').Perm a₀->Q () st'):wpS (model prog w) A E s sortRuns' Q st:=by
 have hz0:(arrOf st).size=a₀.size:=hp.size_eq;have hz0p:(arrOf st).size=a₀.size:=hz0;unfold arrOf at hz0p;refine qAF (qBP ?_);have R0:Rn kd a₀ 0 st:=⟨hk,hf,hp,by rw [hpn];rfl⟩;refine qAF (qBB (qA5 (I:=fun x c st'=>∃lo,c=(none,lo)/\Rn kd a₀ lo st'/\lo<=a₀.size/\(x<=lo\/lo=a₀.size)) (Q:=fun c st'=>∃lo,c=(none,lo)/\Rn kd a₀ a₀.size st') ?step ?fin ⟨0,rfl,R0,by lia,.inl (by lia)⟩) ?post)
 case fin =>
  rintro c st' ⟨lo,rfl,R,l1,l2⟩
  have:lo=a₀.size:=by
   have:max 0 (arrOf st).size=a₀.size:=by lia
   rcases l2 with z| z
   ·lia
   ·exact z
  subst this;exact ⟨_,rfl,R⟩
 case step =>
  rintro x c st1 _ hx ⟨lo,rfl,R,l1,l2⟩;show wpS _ _ _ _ (if lo>=(arrOf st).size then _ else _) _ _
  by_cases g:lo>=(arrOf st).size
  ·rw [qAC g];have:lo=a₀.size:=by lia
   subst this;exact qAI ⟨_,rfl,R⟩
  rw [qAB g];have hz1:(arrOf st1).size=a₀.size:=R.perm.size_eq;refine qAF (w_count C R.kd (R.all ha) (by rw [hz0,hz1];lia) (by lia) fun m st2 f2 m1 m2=>?_);have keepR:∀{st':SortSt},Fr st1 st'->Rn kd a₀ lo st':=fun {st'} f=>⟨f.kd.trans R.kd,f.fl.trans R.fl,f.perm.trans R.perm,by rw [f.pn];exact R.ch⟩
  have push:∀{n:Nat} {st4:SortSt},1<=n->Rn kd a₀ lo st4->Rn kd a₀ (lo+n) (setPending st4 ((pendingOf st4).push (lo,n,0))):=fun {n st4} n1 R4=>by
   refine ⟨R4.kd,R4.fl,R4.perm,?_⟩;show Ch ((pendingOf st4).push (lo,n,0)).toList 0 (lo+n);rw [qCf];exact Ch.app.mpr ⟨lo,R4.ch,rfl,n1,rfl⟩
  have loop:∀(st4:SortSt) (pw:Nat),Rn kd a₀ lo st4->∀(R:ForInStep (Option Unit×Unit)->SortSt->Prop),(∀st',Rn kd a₀ lo st'->R (.done (none,())) st'/\R (.yield (none,())) st') ->
    wpS (model prog w) A E s ((get:StateT SortSt Sem SortSt) >>= fun v=>match (if (pendingOf v).size>1 then (pendingOf v)[(pendingOf v).size - 2]? else none) with
       | some (_,_,older)=>(if older<=pw then pure (ForInStep.done (none,())) else (mergeAt' ((pendingOf v).size - 2) >>= fun b=>if (!b)=true then pure (ForInStep.done (some (),())) else pure (ForInStep.yield (none,()))))
       | _=>pure (ForInStep.done (none,()))) R st4:=by
   intro st4 pw R4 Rr hR;refine qAF (qBP ?_)
   by_cases c1:(pendingOf st4).size>1
   ·rw [qAC c1];rcases ho:(pendingOf st4)[(pendingOf st4).size - 2]? with _| ⟨o1,o2,o3⟩
    ·exact qAI (hR st4 R4).1
    ·show wpS _ _ _ _ (if o3<=pw then _ else _) _ _
     by_cases c2:o3<=pw
     ·rw [qAC c2];exact qAI (hR st4 R4).1
     ·rw [qAB c2];exact qAF (w_merge C ha R4 l1 (by lia) fun st5 R5 _=>qAI (hR st5 R5).2)
   ·rw [qAB c1];exact qAI (hR st4 R4).1
  have ends:∀{n:Nat} {st5:SortSt},1<=n->Rn kd a₀ (lo+n) st5->lo+n<=a₀.size->∃l,((none,lo+n):Option Unit×Nat)=(none,l)/\Rn kd a₀ l st5/\l<=a₀.size/\(x+1<=l\/l=a₀.size):=fun {n st5} n1 R5 n2=>⟨_,rfl,R5,n2,.inl (by lia)⟩
  by_cases c1:m<minRun' (arrOf st).size (arrOf st).size 0
  ·refine (show wpS _ _ _ _ (if m<minRun' (arrOf st).size (arrOf st).size 0 then _ else _) _ _ from ?_);rw [qAC c1];refine qAF (qBs (qBL ⟨rfl,?_⟩));refine qAF (w_ins (n:=min ((arrOf st).size - lo) (minRun' (arrOf st).size (arrOf st).size 0)) C (f2.kd.trans R.kd) ((R.all ha).fr f2) (by rw [f2.size,hz1];lia) fun st3 f3=>?_);show wpS _ _ _ _ (if false=true then _ else _) _ _;rw [qAB (by decide)];have R3:=keepR (f2.trans f3);have n1:1<=min ((arrOf st).size - lo) (minRun' (arrOf st).size (arrOf st).size 0):=by lia
   have n2:lo+min ((arrOf st).size - lo) (minRun' (arrOf st).size (arrOf st).size 0)<=a₀.size:=by lia
   refine qAF (qBP ?_);rcases hb:(pendingOf st3).back? with _| ⟨s1,q1,t1⟩
   ·exact qAF (qBE (qAI (ends n1 (push n1 R3) n2)))
   ·refine qAF (qBB (qA5 (I:=fun y c st'=>c=(none,())/\Rn kd a₀ lo st') (Q:=fun c st'=>c=(none,())/\Rn kd a₀ lo st') ?s2 (fun c st' h=>h) ⟨rfl,R3⟩) ?p2)
    case p2 =>
     rintro c st4 ⟨rfl,R4⟩;exact qAF (qBE (qAF (qBE (qAI (ends n1 (push n1 (R4.modify (f:=fun x=>match x with| (t,len,_)=>(t,len,power' (arrOf st).size (2*s1+q1) (2*s1+q1+q1+min ((arrOf st).size - lo) (minRun' (arrOf st).size (arrOf st).size 0)) (arrOf st).size)) (fun q=>⟨rfl,rfl⟩) ((pendingOf st4).size - 1))) n2)))))
    case s2 =>
     rintro y c st4 _ hy ⟨rfl,R4⟩;exact loop st4 _ R4 _ fun st' R'=>⟨⟨rfl,R'⟩,⟨rfl,R'⟩⟩
  ·refine (show wpS _ _ _ _ (if m<minRun' (arrOf st).size (arrOf st).size 0 then _ else _) _ _ from ?_);rw [qAB c1];have R3:=keepR f2;have n2:lo+m<=a₀.size:=by lia
   refine qAF (qBP ?_);rcases hb:(pendingOf st2).back? with _| ⟨s1,q1,t1⟩
   ·exact qAF (qBE (qAI (ends m1 (push m1 R3) n2)))
   ·refine qAF (qBB (qA5 (I:=fun y c st'=>c=(none,())/\Rn kd a₀ lo st') (Q:=fun c st'=>c=(none,())/\Rn kd a₀ lo st') ?s2 (fun c st' h=>h) ⟨rfl,R3⟩) ?p2)
    case p2 =>
     rintro c st4 ⟨rfl,R4⟩;exact qAF (qBE (qAF (qBE (qAI (ends m1 (push m1 (R4.modify (f:=fun x=>match x with| (t,len,_)=>(t,len,power' (arrOf st).size (2*s1+q1) (2*s1+q1+q1+m) (arrOf st).size)) (fun q=>⟨rfl,rfl⟩) ((pendingOf st4).size - 1))) n2)))))
    case s2 =>
     rintro y c st4 _ hy ⟨rfl,R4⟩;exact loop st4 _ R4 _ fun st' R'=>⟨⟨rfl,R'⟩,⟨rfl,R'⟩⟩
 case post =>
  rintro c st1 ⟨lo,rfl,R⟩;refine qAF (qBB (qA5 (I:=fun x c st'=>c=(none,())/\Rn kd a₀ a₀.size st') (Q:=fun c st'=>c=(none,())/\Rn kd a₀ a₀.size st') ?s3 (fun c st' h=>h) ⟨rfl,R⟩) ?p3)
  case p3 =>
   rintro c st' ⟨rfl,R'⟩;exact qAI (h st' R'.fl R'.perm)
  case s3 =>
   rintro y c st2 _ hy ⟨rfl,R2⟩;refine qAF (qBP ?_);show wpS _ _ _ _ (if (pendingOf st2).size<=1 then _ else _) _ _
   by_cases c1:(pendingOf st2).size<=1
   ·rw [qAC c1];exact qAI ⟨rfl,R2⟩
   ·rw [qAB c1];refine qAF (w_merge C ha R2 (qAG _) ?_ fun st5 R5 _=>qAI ⟨rfl,R5⟩);exact qC7 (Nat.add_le_add_right (ite_less _ _) 1) (show (pendingOf st2).size - 2+1<(pendingOf st2).size by lia)
end
end TimP
namespace ST
open PySem PyProof.Rows PySem.W
section
variable {prog:Program} {w:World} {A:Around} {E:Value->Shared->Prop} {s:Shared}
theorem w_lsortP {κ:PyProof.Rows.KeyKind} {kd:SortKind} {a:Addr} {vs:List Value} {n:Nat} {P:Fin->Shared->Prop} (ho:s.heap.get? a=some (seqObj "list" vs.toArray n)) (hz:vs.length<=4096)
  (hS:∀h',(∀b o,b≠a->s.heap.get? b=some o->h'.get? b=some o)->Sortable prog w A κ kd vs {s with heap:=h'})
  (h:∀out:Array Value,out.toList.Perm vs->P (.done (.ret .none)) {s with heap:=sortedHeap s.heap a vs out}) :
  wpAny (model prog w) A (Builtin.«list.sort» ⟨[.ref a],[]⟩) P E s:=by
 rw [list_sort_plain];have hsl:(4096:Nat)<=sizeLine:=by decide +kernel
 have ha:a<s.heap.objs.size:=qAL ho;have hsz:vs.toArray.size=vs.length:=by simp
 refine qAA (qCt ho rfl ?_);refine qAA (qBU ho rfl ?_ (by lia) (qAY _));have h1:(s.heap.update a (Obj.mapSeq fun _=>#[])).get? a=some (seqObj "list" #[] _):=qBS ho fun _=>#[];refine qAA (qCF h1 rfl ?_);refine qAA (qDN ?_ (by show vs.toArray.toList.length<=_;simp;lia));refine qAA (qCG ?_ (qAY _));refine qAz ?_;have h6:=qAJ (seqObj "list" #[] 0) (qAJ (seqObj "tuple" vs.toArray 0) h1);change wpAny (model prog w) A _ P E {s with heap:=((s.heap.update a (Obj.mapSeq fun _=>#[])).push (seqObj "tuple" vs.toArray 0)).push (seqObj "list" #[] 0)};dsimp only
 have S6:=hS (((s.heap.update a (Obj.mapSeq fun _=>#[])).push (seqObj "tuple" vs.toArray 0)).push (seqObj "list" #[] 0)) fun b o hb q=>by
  refine qAJ _ (qAJ _ ?_);rw [qBo _ _ (qAr hb)];exact q
 by_cases c:vs.toArray.size<2
 ·rw [qAC c,qAC c];refine qAA (qAD ?_);rw [StateT.run_pure];refine qAA (qAD ?_);dsimp only;refine qAA (qCF h6 rfl ?_);refine qAA (qBU h6 rfl ?_ (qAY _) (by rw [Array.size_map];show (pairsOf vs).size<=_;rw [pairsOf_size];lia));simp only [qDR,qBl,qBG];have e:(arrOf (SortSt.mk' general' (vs.toArray.zip vs.toArray) #[] 7 none)).Perm (pairsOf vs):=qCr _;exact qAD (h _ (zIp e))
 ·rw [qAB c,qAB c];refine qAA (S6.kind (by lia) _ _ ?_)
  have W:=TimP.w_sort (E:=E) (a₀:=pairsOf vs) (st:=SortSt.mk' kd (vs.toArray.zip vs.toArray) #[] 7 none) (Q:=fun _ st'=>failedOf st'=none/\(arrOf st').Perm (pairsOf vs)) S6.cmp (fun p hp=>by
   rw [pairsOf_toList] at hp;exact S6.has _ (mem_zip_self hp).2) rfl rfl (qCr _) rfl (by rw [pairsOf_size];lia) fun st' q1 q2=>⟨q1,q2⟩
  refine qAA (qAq W ?_ fun _ _ e=>e);rintro ⟨⟨⟩,st'⟩ s' ⟨rfl,q1,q2⟩;dsimp only;refine qAA (qCF h6 rfl ?_);have zz:=(zIp q2).length_eq;refine qAA (qBU h6 rfl ?_ (qAY _) (by simp at zz ⊢;lia));rw [q1];simp only [qDR,qBl,qBG];exact qAD (h _ (zIp q2))
theorem w_sortedCP {κ:PyProof.Rows.KeyKind} {kd:SortKind} {v:Value} {Q:Value->Shared->Prop} {J:List Value->Shared->Prop} (hc:wpAny (model prog w) A.in1 (collect v) J E s)
  (hJ:∀vs s1,J vs s1->vs.length<=4096/\(∀h',Up s1.heap h'->Sortable prog w A.in1.in1 κ kd vs {s1 with heap:=h'}) /\
   ∀(out:List Value) c h',out.Perm vs->h'.get? s1.heap.objs.size=some (seqObj "list" out.toArray c)->Up s1.heap h'->Q (.ref s1.heap.objs.size) {s1 with heap:=h'}) :
  wpAny (model prog w) A (call (.builtin "sorted") [v]) Q E s:=by
 refine Calls.call_function_entry kind_sorted plain_sorted entry_sorted (args_sorted1 _) ?_;unfold Builtin.«sorted»;refine qAA (m:=checkCount "sorted" 1 1 _) (qAD ?_);refine qAA (qAq hc (fun vs s1 j=>?_) fun _ _ x=>x);obtain ⟨j1,j2,j3⟩:=hJ vs s1 j;have hsl:(4096:Nat)<=sizeLine:=by decide +kernel
 refine qAA (qCG ?_ (by lia));have hD:(s1.heap.push (seqObj "list" vs.toArray 0)).get? s1.heap.objs.size=some (seqObj "list" vs.toArray 0):=qAb _ rfl;change wpAny _ _ _ _ _ {s1 with heap:=s1.heap.push (seqObj "list" vs.toArray 0)};have ne:∀b o,s1.heap.get? b=some o->b≠s1.heap.objs.size:=fun b o q=>qAZ (qAL q);refine qAA (qAz (qBw slot_list_sort ⟨_,hD,rfl⟩ entry_list_sort ?body (args_list_sort _)))
 case body =>
  refine w_lsortP (s:={s1 with heap:=s1.heap.push (seqObj "list" vs.toArray 0)}) hD j1 (fun h' q=>j2 h' fun b o e=>q b o (ne b o e) (qAJ _ e)) fun out p1=>?_;obtain ⟨⟨c,g1⟩,g2⟩:=srt_heap (out:=out) hD;refine ⟨_,rfl,qAD ⟨_,rfl,j3 out.toList c _ p1 (by simpa using g1) fun b o e=>g2 b o (ne b o e) (qAJ _ e)⟩⟩
end
end ST
namespace L2
open PySem PySem.Spec PyProof.Rows
section
variable {X:Cx} {pins:List (Addr×Obj)} {s:Shared} {σ:St} {H:Hp}
theorem zH2 {k:Nat} (hr:Room k X.A):zC5 X (.builtin "sorted") (fun xs H Q=>∃(a:Addr) (ys:List (List Str×Addr)),xs=[.ref a]/\H a=some (TSt X.prog X.w a ys)/\(∀p∈ys,RowT X.K H p)/\(∀p∈ys,p.1≠[])/\ys.length<=306 /\
  ∀(b:Addr) (zs:List (List Str×Addr)),H b=none->zs.Perm ys->Q (.ref b) (upd H b (.lst (zs.map fun p=>V.ref p.2)))):=by
 intro pins s σ H xs us Q I r h;obtain ⟨a,ys,rfl,ha,hk,hne,hc,q⟩:=h;obtain ⟨u,rfl,rx⟩:=zHu r
 cases rx
 obtain ⟨⟨o,es,ep,t,z1,z2,z3,z4,z5,z6,z7,z8⟩,_⟩:=I.hok a _ ha;have Z:ST.SetX (PySem.strKind X.prog X.w) s.heap a ys o es ep t:=⟨z1,z2,z3,z4,z5,z6,z7,fun p hp=>I.rowT (hk p hp),z8⟩
 refine ST.w_sortedCP (kd:=tuples' true) (κ:=ST.tupK fun b=>(ys.find? fun p=>p.2==b).map (·.1))
  (J:=fun vs s1=>vs.Perm (ys.map fun p=>Value.ref p.2)/\(∀b o,s.heap.get? b=some o->s1.heap.get? b=some o)/\s1.gens=s.gens/\s1.os=s.os)
  (ST.w_collect (A:=X.A.in1) hr.hd Z hc fun s' vs v1 v2 v3 v4 _=>⟨v1,v2,v3,v4⟩) fun vs s1 ⟨v1,v2,v3,v4⟩=>?_
 have hvl:vs.length=ys.length:=by rw [v1.length_eq,qAE]
 refine ⟨by lia,fun h' up=>ST.tups_sortable v1 (fun p hp=>ST.key_kept (I.rowT (hk p hp)) fun o e=>up _ o (v2 _ o e)) hne,fun out c h' p1 p3 up=>?_⟩;obtain ⟨zs,e1,e2⟩:=perm_back _ (p1.trans v1);subst e2;have I1:Inv X pins σ H s1:=I.call' (ch:=[]) v4 (Un.kept v2) (I.hok.kept v2) (by rw [v3];exact I.bare) (fun _ z=>nomatch z)
 have hz:(zs.map fun p=>V.ref p.2).length<=sizeLine:=by
  rw [qAE,e1.length_eq];exact qAX hc (by decide +kernel)
 exact ⟨.ref s1.heap.objs.size,_,I1.laid (t':=s1.toks) up (qAG _) (show zAs X.prog X.w _ h' _ (.lst (zs.map fun p=>V.ref p.2)) from ⟨hz,_,c,zG0 zs,p3⟩),rfl,q _ zs (I1.hok.fresh (qAG _)) e1⟩
theorem rise_S:∀{l:List Str},sortedS l=true->zEn l
 | [],_=>List.Pairwise.nil
 | [x],_=>List.pairwise_singleton _ _
 | x::y::r,h=>by
  have h:(!ltCps y.cps.toList x.cps.toList&&sortedS (y::r))=true:=h;obtain ⟨h1,h2⟩:=Bool.and_eq_true_iff.mp h;have h1:ltCps y.cps.toList x.cps.toList=false:=by simpa using h1
  rw [ltCps_eq] at h1;have ih:=rise_S h2;refine qCg.mpr ⟨fun z hz=>?_,ih⟩;rcases qAN.mp hz with e| e
  ·rw [e];exact qDP h1
  ·have h3:=(qCg.mp ih).1 z e;exact qDP (show PyProof.Rows.strKind.kle (ST.sg x) (ST.sg z) from KeyOrd.kle_trans (show PyProof.Rows.strKind.kle (ST.sg x) (ST.sg y) from h1) (show PyProof.Rows.strKind.kle (ST.sg y) (ST.sg z) from qAl h3))
theorem zBh:zC5 X (.builtin "sorted") (fun xs H Q=>∃(l:Addr) (ys:List Str),xs=[.ref l]/\SqL X.K H l (ys.map V.str)/\ys.length<64/\∀b zs,H b=none->zs.Perm ys->zEn zs->Q (.ref b) (upd H b (.lst (zs.map V.str)))):=by
 intro pins s σ H xs us Q I r h;obtain ⟨l,ys,rfl,hl,hc,q⟩:=h;obtain ⟨u,rfl,rx⟩:=zHu r
 cases rx
 obtain ⟨its,r',pl,hz⟩:=I.list hl;have hS:=zEp r';have hln:its.length=ys.length:=ST.strs_len hS;have hsl:(4096:Nat)<=sizeLine:=by decide +kernel
 refine sorted_strs pl.isList hS (by lia) fun out ss a1 a2 a3=>?_;obtain ⟨c,he⟩:=sortedAll_at s.heap its out
 have hz:(ss.map V.str).length<=sizeLine:=by
  rw [qAE,a2.length_eq];lia
 exact ⟨.ref (s.heap.objs.size+1),_,I.laid (t':=s.toks) (fun _ _=>sortedAll_old) (qCL _) (show zAs X.prog X.w _ (sortedAll s.heap its out) _ (.lst (ss.map V.str)) from ⟨hz,_,c,zEs a1,by simpa using he⟩),rfl,q _ _ (I.hok.fresh (qCL _)) a2 (rise_S a3)⟩
end
end L2
namespace My
open PySem L2
variable {P:Program}{w:World}{K:PySem.W.Frag}{mg:Str->Option Value}{base:Heap}{C:Addr}
variable {X:Cx}{n x a b y:Str}{qs:List (List Str×Addr)}{fd:FuncData}{C d l:Addr}{sp:Sp}{H H0 H':Hp}{J:JR}{r:Str->Nat}{ns:List Str}
theorem zGk (f:Str) (v:V):∀fs:List (Str×V),(putF f v fs).length<=fs.length+1
 | []=>qAG _
 | (g,x)::r=>by
  unfold putF;split
  ·exact qCL _
  ·have:=zGk f v r;simp only [qAc];lia
theorem call_setTP {P:Program} {w:World} {K:PySem.W.Frag} {k:Nat} (hr:Room k X.A) (hP:X.prog=P:=by rfl) (hw:X.w=w:=by rfl) (hK:X.K=K:=by rfl):zC5 X (.type "set") (fun xs H Q=>∃(l:Addr) (ks:List (List Str×Addr)),xs=[.ref l]/\SqL K H l (ks.map fun p=>V.ref p.2)/\(∀p∈ks,RowT K H p)/\ks.length<=306 /\
  ∀a ys,H a=none->(∀p∈ys,p∈ks)->(∀p∈ks,p.1∈ys.map (·.1))->(ys.map (·.1)).Nodup->ys.length<=ks.length->Q (.ref a) (upd H a (TSt P w a ys))):=by
 subst hP hw hK;exact call_setT hr
theorem zH3 {P:Program} {w:World} {K:PySem.W.Frag} {k:Nat} (hr:Room k X.A) (hP:X.prog=P:=by rfl) (hw:X.w=w:=by rfl) (hK:X.K=K:=by rfl):zC5 X (.builtin "sorted") (fun xs H Q=>∃(a:Addr) (ys:List (List Str×Addr)),xs=[.ref a]/\H a=some (TSt P w a ys)/\(∀p∈ys,RowT K H p)/\(∀p∈ys,p.1≠[])/\ys.length<=306 /\
  ∀(b:Addr) (zs:List (List Str×Addr)),H b=none->zs.Perm ys->Q (.ref b) (upd H b (.lst (zs.map fun p=>V.ref p.2)))):=by
 subst hP hw hK;exact zH2 hr
theorem zIx {K:PySem.W.Frag} {es:List Expr} {k:Nat} {t:TGs} {n:Nat} {pos:Pos} (hc:X.calm=true) (h:PGs X es t)
  (hn:(assignEach es X.env).length=n:=by rfl) (hst:(assignEach es X.env).findIdx? (·.1)=none:=by rfl) (hK:X.K=K:=by rfl):PG X (.Tuple es k pos) (gTup K n t):=by
 subst hK;exact pg_tup hc h hn hst
theorem zGm :x∈told qs n↔∃q∈qs,snd q=n/\fst q=x:=by
 unfold told;simp only [qAH,qAS,qBT];exact ⟨fun ⟨q,⟨a,b⟩,c⟩=>⟨q,a,b,c⟩,fun ⟨q,a,b,c⟩=>⟨q,⟨a,b⟩,c⟩⟩
theorem fst_of {q q':List Str×Addr} (h:q.1=q'.1):fst q=fst q'/\snd q=snd q':=by unfold fst snd;rw [h];exact ⟨rfl,rfl⟩
section
structure Good (ns:List Str) (qs:List (List Str×Addr)) (r:Str->Nat):Prop where
 nm:∀n∈ns,zH5 n
 nd:ns.Nodup
 few:ns.length<=20
 qfew:qs.length<=306
 qin:∀q∈qs,∀x∈q.1,x∈ns
 rk:∀q∈qs,r (fst q)<r (snd q)
structure JNew (H:Hp) (J:JR):Prop where
 r:Fre H J.r
 p:Fre H J.p
 e:Fre H J.e
 z:∀q∈J.zs,Fre H q.2
 s:∀n∈J.D,Fre H (J.fa n)
def spInit (C:Addr):Sp:=fun vs H Q _=>∃(x dx l m:Addr) (ns:List Str) (qs:List (List Str×Addr)) (r:Str->Nat),vs=[.ref x,.ref l,.ref m]/\H x=some (.ins C dx [])/\Txs H l ns/\Ords H m qs/\Good ns qs r /\
 ∀J H',JobsAt C H' x J->JNew H J->J.ns=ns->(∀k,k∈J.zs.map (·.1)↔k∈qs.map (·.1))->Kp [x] H H'->Q .non H'
abbrev zBo:Stmt:=zEm (top 43) 0
theorem zGb:FnScope ["self", "names", "orders"] ["self", "names", "orders"] (zAd zBo):=fnS
theorem ok_Jobs_init {f:Addr} (F:Fun K "__init__" "Jobs.__init__" zBo f fd) (T:Txt K mg) (U:JC K mg C) (C_check_names:Cal P w K mg base "check_names" 2 ["names"] zF2) (C_check_parts:Cal P w K mg base "check_parts" 3 ["names", "orders"] zF1)
  (C_all_ahead:Cal P w K mg base "all_ahead" 2 ["names", "told"] zIa) (C_told_ahead:Cal P w K mg base "told_ahead" 1 ["names", "orders"] zGs):FnOk P w K mg base CX0 4 f fd ["self", "names", "orders"] (spInit C):=by
 refine F.ok zGb (fun vs H Q E h=>?_) (fun cdv A outer s H vs Q E hr h=>?_)
 ·obtain ⟨x,dx,l,m,ns,qs,r,rfl,_⟩:=h;rfl
 ·obtain ⟨x,dx,l,m,ns,qs,r,rfl,hx,hl,hm,G,k⟩:=h;have HR_check_parts:=hr;have HR_check_names:=hr.mono (j:=2) (by decide);have HR_all_ahead:=hr.mono (j:=2) (by decide);have HR_told_ahead:=hr.mono (j:=1) (by decide)
  refine ⟨_,(zAc (zAu (zAf C_check_names HR_check_names rfl (zAa (pv 1) zAb)))
   (zAc (zAu (zAf C_check_parts HR_check_parts rfl (zAa (pv 1) (zAa (pv 2) zAb))))
   (zAc (ps_fld (pv 0) (zAq zAv (by rfl) T.z_list zC3 (zAa (pv 1) zAb)) rfl)
   (zAc (ps_fld (pv 0) (zAi (zH3 (P:=P) (w:=w) (K:=K) HR_told_ahead) (by rfl) T.z_sorted zBt (zAa (zAq (call_setTP (P:=P) (w:=w) (K:=K) HR_told_ahead) (by rfl) T.z_set bo_set (zAa (zBa rfl (zBe (sc:=zAd zBo) rfl (by decide +kernel)) (Draws.own (x:= "one") (Draws.own (x:= "other") Draws.nil)) (zAj (pv 2)) (fun _ _ _ _=>(zIx (K:=K) (n:=2) rfl (zA7 (pgB (i:=0)) (zA7 (pgB (i:=1)) zEf)))) (fun _ _ _ _=>zCl) (fun _ _ _ _=>(zC7 (zAa (pv 0) (zAa (pv 1) zAb))))) zAb)) zAb)) rfl)
   (zAe (ps_fld (pv 0) (zAf C_all_ahead HR_all_ahead rfl (zAa (zDr (pv 0) rfl) (zAa (zAf C_told_ahead HR_told_ahead rfl (zAa (zDr (pv 0) rfl) (zAa (zDr (pv 0) rfl) zAb))) zAb))) rfl)))))),?_⟩
  refine ⟨_,rfl,l,ns,rfl,hl,G.few,G.nm,G.nd,fun H1 k1=>?_⟩;have hm1:=hm.kp k1 (by simp) (by simp);refine ⟨_,rfl,_,rfl,l,m,ns,qs,rfl,k1 l _ hl (by simp),hm1,G.qin,?_⟩;have hx1:=k1 x _ hx (by simp);refine ⟨_,rfl,_,_,rfl,.inl (SqL.of (k1 l _ hl (by simp))),fun r1 hr1=>?_⟩;have nxr:x≠r1:=ne_fre hr1 hx1;refine ⟨_,rfl,_,_,_,_,rfl,(upd_ne nxr).trans hx1,U.cl,U.n_row,(by decide),?_⟩
  have hm2:∀o1 o2,Ords (upd (upd H1 r1 o1) x o2) m qs:=fun o1 o2 =>
   ⟨(upd_ne (zBb hm1.top hx1 (fun z=>nomatch z))).trans ((upd_ne (ne_fre hr1 hm1.top)).trans hm1.top),fun q hq=>(upd_ne (zBb (hm1.row q hq) hx1 (fun z=>nomatch z))).trans ((upd_ne (ne_fre hr1 (hm1.row q hq))).trans (hm1.row q hq)),hm1.two⟩
  have hrow2:∀o2,Txs (upd (upd H1 r1 (.lst (ns.map V.str))) x o2) r1 ns:=fun o2=>(upd_ne nxr.symm).trans upd_same;have k2:∀o1 o2,Kp [x] H (upd (upd H1 r1 o1) x o2):=fun o1 o2=>Kp.put (Kp.new (k1.weak (by simp)) (k1.fre hr1 (by simp))) (by simp);have hx2:∀o1 o2,(upd (upd H1 r1 o1) x o2) x=some o2:=fun o1 o2=>upd_same;have hm2:=hm2 (.lst (ns.map V.str)) (.ins C dx (putF "row" (.ref r1) []));have hrow2:=hrow2 (.ins C dx (putF "row" (.ref r1) []));have k2:=k2 (.lst (ns.map V.str)) (.ins C dx (putF "row" (.ref r1) []));have hx2:=hx2 (.lst (ns.map V.str)) (.ins C dx (putF "row" (.ref r1) []));generalize hH2:upd (upd H1 r1 (.lst (ns.map V.str))) x (.ins C dx (putF "row" (.ref r1) []))=H2 at hm2 hrow2 k2 hx2 ⊢
  refine ⟨_,rfl,_,rfl,⟨_,SqL.of hm2.top⟩,fun B hB=>zA3 (qs.map fun q=>V.ref q.2) (fun i ys τ H3=>∃ks:List (List Str×Addr),(∃o0 o1,τ=[o0,o1])/\ys=(ks.map fun q=>V.ref q.2)/\ks.map (·.1)=(qs.take i).map (·.1)/\(∀q∈ks,H3 q.2=some (.tup (q.1.map V.str)))/\(∀q∈ks,Fre H2 q.2)/\Kp [] H2 H3/\H3 B=some (.lst ys))
   ⟨[],⟨_,_,rfl⟩,rfl,rfl,(fun q h=>nomatch h),(fun q h=>nomatch h),Kp.new Kp.refl hB,upd_same⟩ (fun i ys τ H3 ⟨_,_,_,_,_,_,k3,_⟩=>SqL.of (k3 m _ hm2.top (by simp))) ?_ ?_⟩
  ·rintro i v ys τ H3 hv ⟨ks,⟨o0,o1,rfl⟩,rfl,ek,hk,fk,k3,h3⟩;obtain ⟨q,eq,rfl⟩:=ref_at hv;have mq:=qAO eq;obtain ⟨a,b,eab⟩:=hm2.two q mq
   have hrow:H3 q.2=some (.tup [.str a,.str b]):=by
    have:=k3 q.2 _ (hm2.row q mq) (by simp);rw [eab] at this;exact this
   refine ⟨_,_,rfl,.inl (.inl hrow),rfl,_,_,rfl,_,_,rfl,rfl,?_⟩;have hlen:ks.length=(qs.take i).length:=by have:=qAf List.length ek;simpa using this
   refine ⟨_,rfl,_,rfl,(by walk_at "ln"),fun t ht=>?_⟩;have ft:Fre H3 t:=ht;have nBt:B≠t:=ne_fre ft h3;refine ⟨(upd_ne nBt).trans h3,?_,ks++[([a,b],t)],⟨_,_,rfl⟩,?_,?_,fun q' hq'=>?_,fun q' hq'=>?_,?_,?_⟩
   ·rw [qAE,hlen,qAe,qAK];have:=G.qfew;lia
   ·rw [qAQ];rfl
   ·rw [qAQ,ek,zAh eq,qAQ,qAn,qAn,eab]
   ·rcases qAU.mp hq' with z| z
    ·exact (upd_ne (zBb (hk q' z) h3 (fun y=>nomatch y))).trans ((upd_ne (ne_fre ft (hk q' z))).trans (hk q' z))
    ·rw [qAP.mp z];exact (upd_ne nBt.symm).trans upd_same
   ·rcases qAU.mp hq' with z| z
    ·exact fk q' z
    ·rw [qAP.mp z];exact k3.fre ft (by simp)
   ·exact Kp.new (Kp.new k3 (k3.fre ft (by simp))) hB
   ·exact upd_same
  ·rintro ys τ H3 ⟨ks,_,rfl,ek,hk,fk,k3,h3⟩;have eT:qs.take (qs.map fun q=>V.ref q.2).length=qs:=by rw [qAE,qAi]
   rw [eT] at ek;have hlen:ks.length=qs.length:=by have:=qAf List.length ek;simpa using this
   have ktwo:∀q∈ks,∃a b,q.1=[a,b]:=fun q hq=>by
    have:q.1∈ks.map (·.1):=qAH.mpr ⟨q,hq,rfl⟩;rw [ek] at this;obtain ⟨q',hq',e⟩:=qAH.mp this;rw [<-e];exact hm2.two q' hq'
   refine ⟨B,ks,rfl,SqL.of h3,fun q hq=>.inl (.inl (hk q hq)),by rw [hlen];have:=G.qfew;lia,fun sa yk hsa y1 y2 y3 y4=>?_⟩;have fsa:Fre H3 sa:=hsa;refine ⟨sa,yk,rfl,upd_same,fun q hq=>.inl (.inl ((upd_ne (ne_fre fsa (hk q (y1 q hq)))).trans (hk q (y1 q hq)))),fun q hq=>?_,by have:=G.qfew;lia,fun p zs hp z1=>?_⟩
   ·obtain ⟨a,b,e⟩:=ktwo q (y1 q hq);rw [e];simp
   have fp:Fre (upd H3 sa (TSt P w sa yk)) p:=hp;have zk:∀q∈zs,q∈ks:=fun q hq=>y1 q (z1.mem_iff.mp hq)
   have zq:∀q∈zs,∃q'∈qs,q'.1=q.1:=fun q hq=>by
    have:q.1∈ks.map (·.1):=qAH.mpr ⟨q,zk q hq,rfl⟩;rw [ek] at this;exact qAH.mp this
   have zin:∀q∈zs,∀x∈q.1,x∈ns:=fun q hq x hx=>by
    obtain ⟨q',h1,h2⟩:=zq q hq;exact G.qin q' h1 x (by rw [h2];exact hx)
   have zrk:∀q∈zs,r (fst q)<r (snd q):=fun q hq=>by
    obtain ⟨q',h1,h2⟩:=zq q hq;obtain ⟨e1,e2⟩:=fst_of h2;rw [<-e1,<-e2];exact G.rk q' h1
   have zlen:zs.length<=306:=by rw [z1.length_eq];have:=G.qfew;lia
   have zset:∀k,k∈zs.map (·.1)↔k∈qs.map (·.1):=fun k=>by
    rw [<-ek,(z1.map (·.1)).mem_iff]
    exact ⟨fun h=>by
     obtain ⟨q,h1,h2⟩:=qAH.mp h;exact qAH.mpr ⟨q,y1 q h1,h2⟩,fun h=>by
     obtain ⟨q,h1,h2⟩:=qAH.mp h;rw [<-h2];exact y2 q h1⟩
   have k4:Kp [] H2 (upd (upd H3 sa (TSt P w sa yk)) p (.lst (zs.map fun q=>V.ref q.2))):=by
    have h1:Kp [] H2 (upd H3 sa (TSt P w sa yk)):=Kp.new k3 (k3.fre fsa (by simp));exact Kp.new h1 (h1.fre fp (by simp))
   have hzs4:Ords (upd (upd H3 sa (TSt P w sa yk)) p (.lst (zs.map fun q=>V.ref q.2))) p zs:=⟨upd_same,fun q hq=>by
    have h1:upd H3 sa (TSt P w sa yk) q.2=some (.tup (q.1.map V.str)):=(upd_ne (ne_fre fsa (hk q (zk q hq)))).trans (hk q (zk q hq));exact (upd_ne (ne_fre fp h1)).trans h1,fun q hq=>ktwo q (zk q hq)⟩
   generalize hH4:upd (upd H3 sa (TSt P w sa yk)) p (.lst (zs.map fun q=>V.ref q.2))=H4 at k4 hzs4 ⊢;have hx4:=k4 x _ hx2 (by simp);refine ⟨_,rfl,_,_,_,_,rfl,hx4,U.cl,U.n_pairs,(by have:=zGk "row" (V.ref r1) [];simp only [qBW] at this;lia),?_⟩;have hx5:(upd H4 x (.ins C dx (putF "pairs" (.ref p) (putF "row" (.ref r1) [])))) x=some (.ins C dx (putF "pairs" (.ref p) (putF "row" (.ref r1) []))):=upd_same;have hrow5:Txs (upd H4 x (.ins C dx (putF "pairs" (.ref p) (putF "row" (.ref r1) [])))) r1 ns:=(upd_ne nxr.symm).trans (k4 r1 _ hrow2 (by simp));have hzs5:Ords (upd H4 x (.ins C dx (putF "pairs" (.ref p) (putF "row" (.ref r1) [])))) p zs:=⟨(upd_ne (zBb hzs4.top hx4 (fun z=>nomatch z))).trans hzs4.top,fun q hq=>(upd_ne (zBb (hzs4.row q hq) hx4 (fun z=>nomatch z))).trans (hzs4.row q hq),hzs4.two⟩;have k5:Kp [x] H (upd H4 x (.ins C dx (putF "pairs" (.ref p) (putF "row" (.ref r1) [])))):=Kp.put (k2.trans (k4.weak (by simp))) (by simp);generalize hH5:upd H4 x (.ins C dx (putF "pairs" (.ref p) (putF "row" (.ref r1) [])))=H5 at hx5 hrow5 hzs5 k5 ⊢
   have e_row:(putF "pairs" (.ref p) (putF "row" (.ref r1) [])).lookup ("row" : Str)=some (.ref r1):=by
    rw [zAo,qAB (by decide +kernel),zAo,qAC rfl]
   have e_prs:(putF "pairs" (.ref p) (putF "row" (.ref r1) [])).lookup ("pairs" : Str)=some (.ref p):=by
    rw [zAo,qAC rfl]
   refine ⟨_,rfl,_,_,_,_,_,rfl,hx5,U.cl,U.n_row,e_row,_,rfl,_,_,_,_,_,rfl,hx5,U.cl,U.n_row,e_row,_,rfl,_,_,_,_,_,rfl,hx5,U.cl,U.n_pairs,e_prs,r1,p,ns,zs,rfl,hrow5,hzs5,G.nd,G.few,by lia,zin,fun d la H6 DD k6=>?_⟩;refine ⟨r1,d,ns,la,told zs,r,rfl,k6 r1 _ hrow5 (by simp),G.nd,G.few,DD.top,fun n hn=>⟨DD.row n hn,qAX (told_len zs n) (by lia),fun y hy=>?_⟩,fun e D fa S H7 FF all k7=>?_⟩
   ·obtain ⟨q,h1,h2,h3⟩:=zGm.mp hy;obtain ⟨a,b,eab⟩:=hzs5.two q h1;refine ⟨?_,by rw [<-h2,<-h3];exact zrk q h1⟩;rw [<-h3];refine zin q h1 _ ?_;unfold fst;rw [eab];simp
   have k57:Kp [] H5 H7:=k6.trans k7;have hx7:=k57 x _ hx5 (by simp);refine ⟨_,rfl,_,_,_,_,rfl,hx7,U.cl,U.n_above,?_,?_⟩
   ·have h1:=zGk "row" (V.ref r1) [];have h2:=zGk "pairs" (V.ref p) (putF "row" (V.ref r1) []);simp only [qBW] at h1;lia
   have f2H:∀a,Fre H2 a->Fre H a:=fun a ha=>k2.fre ha (nm1 fun z=>by
    subst z;have:H2 a=some _:=hx2;unfold Fre at ha;rw [ha] at this;exact nomatch this)
   have k3p:Kp [] H2 (upd H3 sa (TSt P w sa yk)):=Kp.new k3 (k3.fre fsa (by simp));have fpx:Fre H2 p:=k3p.fre fp (by simp)
   have f52:∀a,Fre H5 a->Fre H2 a:=fun a ha=>by
    have h1:Fre H4 a:=by
     have nax:a≠x:=fun z=>by
      subst z;unfold Fre at ha;rw [ha] at hx5;exact nomatch hx5
     have:H5 a=H4 a:=by rw [<-hH5];exact upd_ne nax
     unfold Fre at ha ⊢;rw [<-this];exact ha
    exact k4.fre h1 (by simp)
   have fex:Fre H2 e:=f52 e (k6.fre FF.fr (by simp));have ffx:∀n∈D,Fre H2 (fa n):=fun n hn=>f52 _ (k6.fre (FF.frs n hn) (by simp));refine k ⟨dx,r1,p,e,ns,zs,D,fa,S⟩ _ ⟨upd_same,?_,⟨?_,fun q hq=>?_,hzs5.two⟩,?_,all,fun n hn=>?_,G.few,zlen,G.nd,zin,fun n hn y=>FF.mem n (all n hn) y⟩ ⟨k1.fre hr1 (by simp),f2H p fpx,f2H e fex,fun q hq=>f2H q.2 (fk q (zk q hq)),fun n hn=>f2H _ (ffx n hn)⟩ rfl zset (Kp.put (k5.trans (k57.weak (by simp))) (by simp))
   ·exact (upd_ne nxr.symm).trans (k57 r1 _ hrow5 (by simp))
   ·have h1:=k57 p _ hzs5.top (by simp);exact (upd_ne (zBb h1 hx7 (fun z=>nomatch z))).trans h1
   ·have h1:=k57 _ _ (hzs5.row q hq) (by simp);exact (upd_ne (zBb h1 hx7 (fun z=>nomatch z))).trans h1
   ·exact (upd_ne (zBb FF.top hx7 (fun z=>nomatch z))).trans FF.top
   ·exact (upd_ne (zBb (FF.row n hn) hx7 (fun z=>nomatch z))).trans (FF.row n hn)
end
def zBi:List Str:=zDu.cps.toList.map fun c=>⟨#[c]⟩
theorem zEa:zBi.length=26:=by
 unfold zBi;rw [zDt];simp
theorem singles_nd:zBi.Nodup:=by decide +kernel
theorem single_ok (h:x∈zBi):zH5 x:=by
 unfold zBi at h;rw [zDt] at h;obtain ⟨c,hc,rfl⟩:=qAH.mp h;obtain ⟨i,hi,rfl⟩:=qAH.mp hc;have:=qA9.mp hi;refine ⟨qAG 1,by show 1<=8;decide,fun d hd=>?_⟩;have:d=97+i:=by simpa using hd
 lia
theorem some_single {found:List Str} (h:found.length<=20):(zBi.filter fun x=>decide (x∉found))≠[]:=fun z=>by
 have:zBi.length<=found.length:=zDm singles_nd fun x hx=>by
  apply qBQ;intro y;have:x∈zBi.filter fun x=>decide (x∉found):=qAS.mpr ⟨hx,qAV y⟩;rw [z] at this;exact nomatch this
 rw [zEa] at this;lia
section
def spLNames:Sp:=fun vs H Q _=>∃(p:Addr) (m:Int),vs=[.ref p,.int m]/\zB6 H p/\0<=m/\m<=20/\∀(l:Addr) (ns:List Str) (H':Hp),Fre H l->Txs H' l ns->ns.length=m.toNat->ns.Nodup->(∀n∈ns,zH5 n)->zB6 H' p->Kp [p] H H'->Q (.ref l) H'
abbrev zIt:Stmt:=top 48
theorem zCr:FnScope ["_law_purse_here", "_law_many", "_law_letters", "_law_found", "_law_k", "_law_word", "_law_j"] ["_law_purse_here", "_law_many"] (zAd zIt):=fnS
theorem ok_names {f:Addr} (F:Fun K "_law_names" "_law_names" zIt f fd) (T:Txt K mg) (C_take:Cal P w K mg base "_law_take" 1 ["_law_purse_here", "_law_many"] zH7):FnOk P w K mg base CX0 2 f fd ["_law_purse_here", "_law_many"] spLNames:=by
 refine F.ok zCr (fun vs H Q E h=>?_) (fun cdv A outer s H vs Q E hr h=>?_)
 ·obtain ⟨p,m,rfl,_⟩:=h;rfl
 ·obtain ⟨p,m,rfl,hP,h0,h1,k⟩:=h;have HR_take:=hr
  refine ⟨_,(zAc (psS (i:=2) zCr.nd zIc)
   (zAc (psS (i:=3) zCr.nd (zBp zAb))
   (zAc (zA1 qAk rfl (zB1 rfl T.z_range (zAa (pv 1) zAb)) (pgN (i:=4) zCr.nd)
    (zAc (psS (i:=5) zCr.nd zIc)
    (zAc (zA1 qAk rfl (zB1 rfl T.z_range (zAa (zAr zBx zAg (zAr zE5 (zAf C_take HR_take rfl (zAa (pv 0) (zAa zAg zAb))) (zAf C_take HR_take rfl (zAa (pv 0) (zAa zAg zAb))))) zAb)) (pgN (i:=6) zCr.nd)
     (zAe (psS (i:=5) zCr.nd (zAr op_add_str (pv 5) (zDc ix_str (pv 2) (zAf C_take HR_take rfl (zAa (pv 0) (zAa zAg zAb))) (fun _ _=>rfl))))))
    (zAc (zCz (zAz zG6 (pv 5) (pv 3) (by rfl))
     (zAe (psS (i:=5) zCr.nd (zDc zB9 (zBa rfl (zBe (sc:=zAd zIt) rfl (by decide +kernel)) (Draws.own (x:= "_law_letter") (dtk (i:=3) rfl Draws.nil)) (pi_str (pv 2)) (fun _ _ _ _=>(pgB (i:=0))) (fun _ _ _ _=>(zB8 (zAz (zE4 (K:=K)) (pv 0) (pv 1) (by rfl)))) (fun _ _ _ _=>(pv 0))) zAg (fun _ _=>rfl))))
     zAw)
    (zAe (zAu (zFr qBH qCC qCD zB2 (pv 3) (zAa (pv 5) zAb))))))))
   (zAe (zAm (pv 3)))))),?_⟩
  refine ⟨(by walk_at "ln"),fun l hl=>?_⟩;have fl:Fre H l:=hl;have npl:p≠l:=by obtain ⟨a,b,e,_⟩:=hP;exact ne_fre fl e
  have hP1:zB6 (upd H l (.lst [])) p:=hP.kp (M:=[]) (Kp.new Kp.refl fl) (by simp)
  refine ⟨_,rfl,_,rfl,by lia,by lia,zBr (lo:=0) (n:=m.toNat) (fun i σ H2=>∃(o4 o5 o6:Option V) (ws:List Str),σ=[some (.ref p),some (.int m),some (.str zDu),some (.ref l),o4,o5,o6]/\zB6 H2 p/\Kp [p] H H2/\Txs H2 l ws/\ws.length=i/\ws.Nodup/\∀s∈ws,zH5 s)
   ⟨none,none,none,[],rfl,hP1,Kp.new Kp.refl fl,upd_same,rfl,qAw,fun s h=>nomatch h⟩ ?_ ?_⟩
  ·rintro i σ H2 hi ⟨o4,o5,o6,ws,rfl,P2,K2,R2,e2,n2,q2⟩;refine ⟨_,rfl,p,2,rfl,P2,by decide,by decide,fun d1 H3 a0 a1 P3 K3=>?_⟩;refine ⟨_,rfl,p,8,rfl,P3,by decide,by decide,fun d2 H4 b0 b1 P4 K4=>?_⟩;have hm0:0<=d1*d2:=Int.mul_nonneg a0 b0
   have hm1:d1*d2<=7:=by
    have:d1*d2<=1*7:=Int.mul_le_mul (by lia) (by lia) b0 (by decide);lia
   have K24:Kp [p] H2 H4:=K3.trans K4
   refine ⟨_,_,rfl,rfl,(by walk_at "ml"),_,_,rfl,rfl,_,rfl,by lia,by lia,zBr (lo:=0) (n:=(1+d1*d2).toNat) (fun n σ H7=>∃(o4 o6:Option V) (x:Str),σ=[some (.ref p),some (.int m),some (.str zDu),some (.ref l),o4,some (.str x),o6]/\zB6 H7 p/\Kp [p] H2 H7/\WordS n x)
    ⟨_,_,_,rfl,P4,K24,rfl,(fun c h=>absurd (show c∈([]:List Nat) from h) (by simp))⟩ ?_ ?_⟩
   ·rintro n σ H7 hn ⟨o4,o6,x,rfl,P8,K7,W⟩;refine ⟨_,rfl,_,rfl,_,rfl,p,26,rfl,P8,by decide,by decide,fun d4 H8 e0 e1 P9 K8=>?_⟩;refine ⟨_,_,_,rfl,rfl,by decide,letters_at e0 e1,_,_,rfl,rfl,?_,?_⟩
    ·rw [W.1];show n+1<=sizeLine;rw [qAK];lia
    ·exact ⟨_,_,_,rfl,P9,K7.trans K8,W.more (by lia) (by lia)⟩
   ·rintro σ H7 ⟨o4,o6,x,rfl,P8,K7,W⟩;have h7:Txs H7 l ws:=K7 l _ R2 (nm1 npl.symm);have NX:zH5 x:=⟨by have:=W.1;lia,by have:=W.1;lia,W.2⟩;refine ⟨_,rfl,_,rfl,_,_,rfl,.inl (SqL.of h7),rfl,zFa ws,_,rfl,?_⟩;rw [qAB (by decide),zHn];refine if_mid (fun σ H8=>∃(y:Str),σ=[some (.ref p),some (.int m),some (.str zDu),some (.ref l),o4,some (.str y),o6]/\Kp [] H7 H8/\zH5 y/\y∉ws) (fun N hN=>ite2 (fun c=>?_) (fun c=>?_)) ?_
    ·-- _law_word=[..][0]
     refine ⟨_,rfl,_,rfl,fun B hB=>comp_str (z:=zDu) (fun i ys τ H8=>(∃o0,τ=[o0,some (.ref l)])/\ys=((zBi.take i).filter fun x=>decide (x∉ws)).map V.str/\H8=upd H7 B (.lst ys)) ⟨⟨_,rfl⟩,rfl,rfl⟩ ?_ ?_⟩
     ·rintro i c ys τ H8 hc ⟨⟨o0,rfl⟩,rfl,rfl⟩;have en:zBi[i]?=some ⟨#[c]⟩:=by unfold zBi;rw [qAW,hc];rfl
      refine ⟨_,rfl,_,rfl,_,_,rfl,.inl (SqL.of ((upd_ne (ne_fre (show Fre H7 B from hB) h7)).trans h7)),rfl,zFa ws,_,rfl,?_⟩;rw [qAC rfl,zHn]
      have ed:(!decide ((⟨#[c]⟩:Str)∈ws))=decide ((⟨#[c]⟩:Str)∉ws):=by
       by_cases z:(⟨#[c]⟩:Str)∈ws
       ·simp [z]
       ·simp [z]
      rw [ed];refine ite2 (fun c=>?_) (fun c=>?_)
      ·refine ⟨_,rfl,upd_same,?_,⟨_,rfl⟩,?_,zBg⟩
       ·rw [qAE];exact zCe (by rw [zEa];decide)
       ·rw [zBs (p:=fun x=>decide (x∉ws)) en c,qAQ];rfl
      ·refine ⟨⟨_,rfl⟩,?_,?_⟩
       ·rw [zCn (p:=fun x=>decide (x∉ws)) en c]
       ·rfl
     ·rintro ys τ H8 ⟨_,rfl,rfl⟩;have eT:zBi.take zDu.length=zBi:=qBh (by rw [zEa];decide);rw [eT];have hne:=some_single (found:=ws) (by lia)
      have hmm:∀y,y∈(zBi.filter fun x=>decide (x∉ws))->zH5 y/\y∉ws:=fun y hy=>by
       have:=qAS.mp hy;exact ⟨single_ok this.1,qAt this.2⟩
      generalize (zBi.filter fun x=>decide (x∉ws))=L at hne hmm
      obtain ⟨y,r,rfl⟩:∃y r,L=y::r:=by
       cases L with
       | nil=>exact absurd rfl hne
       | cons y r=>exact ⟨y,r,rfl⟩
      refine ⟨_,_,_,.str y,rfl,rfl,SqL.of upd_same,zFk (by decide) rfl,?_⟩;exact hN _ _ ⟨y,rfl,Kp.new Kp.refl hB,(hmm y qAT).1,(hmm y qAT).2⟩
    ·exact hN _ _ ⟨x,rfl,Kp.refl,NX,fun z=>c (qAV z)⟩
    ·rintro σ H8 ⟨y,rfl,K8,NY,ny⟩;have h8:Txs H8 l ws:=K8 l _ h7 (by simp);refine ⟨_,rfl,.inl ⟨rfl,_,SqL.of h8⟩,_,rfl,_,_,_,rfl,rfl,h8,?_,?_⟩
     ·rw [qAK,qAE];lia
     ·refine ⟨_,_,_,ws++[y],rfl,(P8.kp K8 (by simp)).kp (M:=[l]) (Kp.put Kp.refl (by simp)) (nm1 npl),Kp.new (K2.trans (K7.trans (K8.weak (by simp)))) fl,?_,by simp [e2],?_,fun s hs=>?_⟩
      ·show upd H8 l _ l=some (.lst ((ws++[y]).map V.str));rw [upd_same,qAQ];rfl
      ·refine qBj.mpr ⟨n2,by simp,fun a ha b hb=>?_⟩;rw [qAP.mp hb];rintro rfl;exact ny ha
      ·rcases qAU.mp hs with z| z
       ·exact q2 s z
       ·rw [qAP.mp z];exact NY
  ·rintro σ H2 ⟨o4,o5,o6,ws,rfl,P2,K2,R2,e2,n2,q2⟩;exact ⟨_,rfl,k l ws H2 fl R2 e2 n2 q2 P2 K2⟩
end
structure Mth (P:Program) (w:World) (K:PySem.W.Frag) (mg:Str->Option Value) (base:Heap) (C:Addr) (m:Str) (k:Nat) (ps:List Str) (sp:Sp):Prop where
 to:∃(f:Addr) (fd:FuncData),Meth K C m f/\zDg K fd ps []/\FnOk P w K mg base CX0 k f fd ps sp
theorem zD3 {m:Str} {k:Nat} {ps:List Str} {o e:Expr} {es:List Expr} {apos pos:Pos} {ta:TE} {t:TA} {pl:Sem Bool} (M:Mth X.prog X.w X.K X.mg X.base C m k ps sp) (c:Cls X.K C) (hr:Room k X.A) (he:PE X o ta) (ha:PA X (e::es) t)
  (hst:starEach (e::es) X.env=(false,eval e X.env)::starEach es X.env:=by rfl) (hpl:(backTo pos (starEach es X.env)).any (·.1)=false:=by rfl)
  (ht:eval (.Call (.Attribute o m apos) (e::es) [] pos) X.env=(do
   let ov<-eval o X.env
   standAt apos.atName
   let (f,first)<-holding [ov] (getMethod ov m pl)
   callWith pos f first (backTo pos (starEach (e::es) X.env)) (backToKw pos (keywordEach [] X.env))):=by rfl):PE X (.Call (.Attribute o m apos) (e::es) [] pos) (tMeth C m sp [] E0 ta t):=by
 obtain ⟨f,fd,h1,h2,h3⟩:=M.to;exact pe_meth he c h1 h3 hr h2 .nil pass0 ha hst hpl ht
theorem zDq {m:Str} {k:Nat} {ps:List Str} {o:Expr} {apos pos:Pos} {ta:TE} {pl:Sem Bool} (M:Mth X.prog X.w X.K X.mg X.base C m k ps sp) (c:Cls X.K C) (hr:Room k X.A) (he:PE X o ta)
  (ht:eval (.Call (.Attribute o m apos) [] [] pos) X.env=(do
   let ov<-eval o X.env
   standAt apos.atName
   let (f,first)<-holding [ov] (getMethod ov m pl)
   callWith pos f first (backTo pos (starEach [] X.env)) (backToKw pos (keywordEach [] X.env))):=by rfl):PE X (.Call (.Attribute o m apos) [] [] pos) (tMeth C m sp [] E0 ta tNil):=by
 obtain ⟨f,fd,h1,h2,h3⟩:=M.to;exact pe_meth0 he c h1 h3 hr h2 .nil pass0 ht
theorem S_rank {j:Addr} (A:JobsAt C H j J) (G:Good J.ns qs r) (hz:∀k,k∈J.zs.map (·.1)↔k∈qs.map (·.1)):∀(b:Nat) (n x:Str),r n<=b->n∈J.ns->x∈J.S n->r x<r n:=by
 have tk:∀n x,x∈told J.zs n->x∈J.ns/\r x<r n:=fun n x hx=>by
  obtain ⟨q,q1,q2,q3⟩:=zGm.mp hx;have:q.1∈qs.map (·.1):=(hz q.1).mp (qAH.mpr ⟨q,q1,rfl⟩);obtain ⟨q',h1,h2⟩:=qAH.mp this;obtain ⟨e1,e2⟩:=fst_of h2;obtain ⟨a,b,eab⟩:=A.prs.two q q1;refine ⟨?_,by rw [<-q2,<-q3,<-e1,<-e2];exact G.rk q' h1⟩;rw [<-q3];refine A.zin q q1 _ ?_;unfold fst;rw [eab];simp
 intro b
 induction b with
 | zero =>
  intro n x hb hn hx;rcases (A.mem n hn x).mp hx with z| ⟨m,z,_⟩
  ·exact (tk n x z).2
  ·have:=(tk n m z).2;lia
 | succ b ih =>
  intro n x hb hn hx;rcases (A.mem n hn x).mp hx with z| ⟨m,z,z'⟩
  ·exact (tk n x z).2
  ·have h1:=tk n m z;exact qCb (ih m x (by lia) h1.1 z') h1.2
structure Mkr (P:Program) (w:World) (K:PySem.W.Frag) (mg:Str->Option Value) (base:Heap) (C:Addr) (x:Str) (k:Nat) (ps:List Str) (sp:Sp):Prop where
 to:∃(f:Addr) (fd:FuncData),Mk K C f/\mg x=some (.ref C)/\zDg K fd ps []/\FnOk P w K mg base CX0 k f fd ps sp
theorem pe_makeC {k:Nat} {ps:List Str} {e:Expr} {es:List Expr} {p pos:Pos} {t:TA} (M:Mkr X.prog X.w X.K X.mg X.base C x k (("self" : Str)::ps) sp) (hr:Room (k+1) X.A) (hg:Gl X x) (ha:PA X (e::es) t)
  (hdb:(x==("__debug__" : Str))=false:=by decide) (he:starEach (e::es) X.env=(false,eval e X.env)::starEach es X.env:=by rfl) (hpl:(backTo pos (starEach es X.env)).any (·.1)=false:=by rfl):PE X (.Call (.Name x p) (e::es) [] pos) (tMake C sp [] E0 t):=by
 obtain ⟨f,fd,h1,h2,h3,h4⟩:=M.to;exact pe_make h1 h4 hr hg h2 h3 .nil pass0 ha hdb he hpl
def TA (qs:List (List Str×Addr)) (a b:Str):Prop:=∃q∈qs,fst q=a/\snd q=b
inductive Way (qs:List (List Str×Addr)):Str->Str->Prop
 | one {a b:Str}:TA qs a b->Way qs a b
 | more {a b c:Str}:Way qs a b->TA qs b c->Way qs a c
theorem Way.lead {c:Str} (h:TA qs a b) (w:Way qs b c):Way qs a c:=by
 induction w with
 | one h'=>exact .more (.one h) h'
 | more _ h' ih=>exact .more ih h'
theorem Way.trans {c:Str} (h:Way qs a b) (w:Way qs b c):Way qs a c:=by
 induction w with
 | one h'=>exact .more h h'
 | more _ h' ih=>exact .more ih h'
theorem TA.to (two:∀q∈qs,∃a b,q.1=[a,b]) (qin:∀q∈qs,∀x∈q.1,x∈ns) (h:TA qs a b):a∈ns/\b∈ns:=by
 obtain ⟨q,hq,rfl,rfl⟩:=h;obtain ⟨a,b,e⟩:=two q hq;unfold fst snd;rw [e];exact ⟨qin q hq a (by rw [e];simp),qin q hq b (by rw [e];simp)⟩
theorem Way.to (two:∀q∈qs,∃a b,q.1=[a,b]) (qin:∀q∈qs,∀x∈q.1,x∈ns) (h:Way qs a b):a∈ns/\b∈ns:=by
 induction h with
 | one h=>exact h.to two qin
 | more _ h ih=>exact ⟨ih.1,(h.to two qin).2⟩
theorem zFl {j:Addr} (A:JobsAt C H j J) (G:Good J.ns qs r) (hz:∀k,k∈J.zs.map (·.1)↔k∈qs.map (·.1)) (hn:n∈J.ns):x∈J.S n↔Way qs x n:=by
 have tk:∀n x,x∈told J.zs n↔TA qs x n:=fun n x=>by
  rw [zGm];constructor
  ·rintro ⟨q,h1,h2,h3⟩;obtain ⟨q',h4,h5⟩:=qAH.mp ((hz q.1).mp (qAH.mpr ⟨q,h1,rfl⟩));obtain ⟨e1,e2⟩:=fst_of h5;exact ⟨q',h4,e1.trans h3,e2.trans h2⟩
  ·rintro ⟨q,h1,h2,h3⟩;obtain ⟨q',h4,h5⟩:=qAH.mp ((hz q.1).mpr (qAH.mpr ⟨q,h1,rfl⟩));obtain ⟨e1,e2⟩:=fst_of h5;exact ⟨q',h4,e2.trans h3,e1.trans h2⟩
 have tin:∀n x,TA qs x n->x∈J.ns/\r x<r n:=fun n x h=>by
  have hT:=(tk n x).mpr h;obtain ⟨q,q1,q2,q3⟩:=zGm.mp hT;obtain ⟨a,b,e⟩:=A.prs.two q q1;refine ⟨?_,?_⟩
  ·rw [<-q3];refine A.zin q q1 _ ?_;unfold fst;rw [e];simp
  ·obtain ⟨q',h1,h2,h3⟩:=h;rw [<-h2,<-h3];exact G.rk q' h1
 constructor
 ·have:∀(b:Nat) (n:Str),r n<=b->n∈J.ns->∀x,x∈J.S n->Way qs x n:=by
   intro b
   induction b with
   | zero =>
    intro n hb hn x hx;rcases (A.mem n hn x).mp hx with z| ⟨m,z,_⟩
    ·exact .one ((tk n x).mp z)
    ·have:=(tin n m ((tk n m).mp z)).2;lia
   | succ b ih =>
    intro n hb hn x hx;rcases (A.mem n hn x).mp hx with z| ⟨m,z,z'⟩
    ·exact .one ((tk n x).mp z)
    ·have h1:=tin n m ((tk n m).mp z);exact .more (ih m (by lia) h1.1 x z') ((tk n m).mp z)
  exact this (r n) n (qAG _) hn x
 ·intro w
  induction w with
  | one h=>exact (A.mem _ hn _).mpr (.inl ((tk _ _).mpr h))
  | more _ h ih=>exact (A.mem _ hn _).mpr (.inr ⟨_,(tk _ _).mpr h,ih (tin _ _ h).1⟩)
section
def zF0 (C:Addr):Sp:=fun vs H Q _=>∃(j l:Addr) (J:JR) (ls:List Str) (y:Str),vs=[.ref j,.ref l,.str y]/\JobsAt C H j J/\Txs H l ls/\ls.length<=4096/\y∈J.ns/\∀H',Kp [] H H'->Q (.bl (ls.any fun n=>decide (n∈J.S y))) H'
abbrev zA6:Stmt:=zEm (top 43) 7
theorem zEb:FnScope ["self", "later", "other"] ["self", "later", "other"] (zAd zA6):=fnS
theorem zEh {f:Addr} (F:Fun K "has_between" "Jobs.has_between" zA6 f fd) (T:Txt K mg) (U:JC K mg C):FnOk P w K mg base CX0 1 f fd ["self", "later", "other"] (zF0 C):=by
 refine F.ok zEb (fun vs H Q E h=>?_) (fun cdv A outer s H vs Q E hr h=>?_)
 ·obtain ⟨j,l,J,ls,y,rfl,_⟩:=h;rfl
 ·obtain ⟨j,l,J,ls,y,rfl,A0,hl,hlen,hy,k⟩:=h;have hu:=zDw hr;refine ⟨_,(zAe (zAm (zAi (call_any _ rfl) (by rfl) T.z_any bo_any (zAa (zBa rfl (zBe (sc:=zAd zA6) rfl (by decide +kernel)) (Draws.own (x:= "name") (dtk (i:=2) rfl (dtk (i:=0) rfl Draws.nil))) (zAj (pv 1)) (fun _ _ _ _=>(pgB (i:=0))) (fun _ _ _ _=>zCl) (fun _ _ _ _=>(pe_cmp (zG3 hu (pv 0) (zBj hu (pe_fldK (K:=K) (pv 2) rfl) (pv 1) (fun _ _=>rfl)))))) zAb)))),?_⟩
  refine ⟨_,rfl,_,rfl,⟨_,SqL.of hl⟩,fun B hB=>zA3 (ls.map V.str) (fun i ys τ H3=>(∃o0,τ=[o0,some (.str y),some (.ref j)])/\ys=((ls.take i).map fun n=>V.bl (decide (n∈J.S y)))/\H3=upd H B (.lst ys))
   ⟨⟨_,rfl⟩,rfl,rfl⟩ (fun i ys τ H3 ⟨_,_,z⟩=>by subst z;exact SqL.of ((Kp.new (M:=[]) Kp.refl hB) _ _ hl (by simp))) ?_ ?_⟩
  ·rintro i v ys τ H3 hv ⟨⟨o0,rfl⟩,rfl,rfl⟩;obtain ⟨n,en,rfl⟩:=zA0 hv;have A3:=A0.kp0 (Kp.new (l:=B) (o:=.lst ((ls.take i).map fun n=>V.bl (decide (n∈J.S y)))) Kp.refl hB);obtain ⟨o,g1,g2⟩:=zGv (A3.sets y (A3.all y hy)) n;refine ⟨_,rfl,_,rfl,_,_,_,_,_,rfl,A3.ob,U.cl,U.n_above,zI6 _ _ _,_,rfl,_,_,rfl,abv_get A3 hy,_,o,rfl,g1,?_⟩;rw [g2];refine ⟨upd_same,?_,⟨_,rfl⟩,?_,zBg⟩
   ·rw [qAE,qAe,qAK];lia
   ·rw [zAh en,qAQ];rfl
  ·rintro ys τ H3 ⟨_,rfl,rfl⟩;have eT:ls.take (ls.map V.str).length=ls:=by rw [qAE,qAi]
   rw [eT];refine ⟨B,ls.map fun n=>decide (n∈J.S y),rfl,SqL.of ?_,?_⟩
   ·rw [upd_same,qA1];rfl
   ·have e:((ls.map fun n=>decide (n∈J.S y)).any id)=ls.any fun n=>decide (n∈J.S y):=by rw [List.any_map];rfl
    rw [e];exact k _ (Kp.new Kp.refl hB)
def strB (J:JR) (x:Str):List Str:=(J.ns.filter fun n=>decide (x∈J.S n)).filter fun o=>!((J.ns.filter fun n=>decide (x∈J.S n)).any fun n=>decide (n∈J.S o))
def zH8 (C:Addr):Sp:=fun vs H Q _=>∃(j:Addr) (J:JR) (x:Str),vs=[.ref j,.str x]/\JobsAt C H j J/\x∈J.ns/\∀l H',Fre H l->Txs H' l (strB J x)->Kp [] H H'->Q (.ref l) H'
abbrev zBn:Stmt:=zEm (top 43) 6
theorem zDi:FnScope ["self", "name", "later"] ["self", "name"] (zAd zBn):=fnS
theorem zGe {f:Addr} (F:Fun K "straight" "Jobs.straight" zBn f fd) (T:Txt K mg) (U:JC K mg C) (M_behind:Mth P w K mg base C "behind" 3 ["self", "name"] (zGi C)) (M_has_between:Mth P w K mg base C "has_between" 1 ["self", "later", "other"] (zF0 C)):FnOk P w K mg base CX0 4 f fd ["self", "name"] (zH8 C):=by
 refine F.ok zDi (fun vs H Q E h=>?_) (fun cdv A outer s H vs Q E hr h=>?_)
 ·obtain ⟨j,J,x,rfl,_⟩:=h;rfl
 ·obtain ⟨j,J,x,rfl,A0,hx,k⟩:=h;have hr1:=hr.mono (j:=1) (by decide)
  refine ⟨_,(zAc (psS (i:=2) zDi.nd (zD3 M_behind U.cl hr (pv 0) (zAa (pv 1) zAb)))
   (zAe (zAm (zBa rfl (zBe (sc:=zAd zBn) rfl (by decide +kernel)) (Draws.own (x:= "other") (dtk (i:=2) rfl (dtk (i:=0) rfl Draws.nil))) (zAj (pv 2)) (fun _ _ _ _=>(pgB (i:=0))) (fun C₀ s₀ H₀ ex=>(zB8 (zE2 (zDj (zD3 M_has_between U.cl hr1 (pv 2) (zAa (pv 1) (zAa (pv 0) zAb))))))) (fun _ _ _ _=>(pv 0)))))),?_⟩
  refine ⟨_,rfl,j,J.dx,_,rfl,A0.ob,zHk _ _ _ (by decide +kernel) (by decide +kernel) (by decide +kernel),_,rfl,j,J,x,rfl,A0,hx,fun l H1 fl hl k1=>?_⟩;have A1:=A0.kp0 k1;have hLn:∀n∈(J.ns.filter fun n=>decide (x∈J.S n)),n∈J.ns:=fun n hn=>(qAS.mp hn).1;have hLl:(J.ns.filter fun n=>decide (x∈J.S n)).length<=20:=qAX (qAy _ _) A0.few;have eS:strB J x=(J.ns.filter fun n=>decide (x∈J.S n)).filter fun o=>!((J.ns.filter fun n=>decide (x∈J.S n)).any fun n=>decide (n∈J.S o)):=rfl;rw [eS] at k;generalize (J.ns.filter fun n=>decide (x∈J.S n))=L at *
  refine ⟨_,rfl,_,rfl,⟨_,SqL.of hl⟩,fun B hB=>zBd (L.map V.str) (fun i ys τ H3=>(∃o0,τ=[o0,some (.ref l),some (.ref j)])/\ys=((L.take i).filter fun o=>!(L.any fun n=>decide (n∈J.S o))).map V.str/\Kp [] H1 H3/\H3 B=some (.lst ys))
   ⟨⟨_,rfl⟩,rfl,Kp.new Kp.refl hB,upd_same⟩ (fun i ys τ H3 ⟨_,_,k3,_⟩=>SqL.of (k3 l _ hl (by simp))) ?_ ?_⟩
  ·rintro i v ys τ H3 hv ⟨⟨o0,rfl⟩,rfl,k3,h3⟩;obtain ⟨n,en,rfl⟩:=zA0 hv;have A3:=A1.kp0 k3;refine ⟨_,rfl,j,J.dx,_,rfl,A3.ob,zHk _ _ _ (by decide +kernel) (by decide +kernel) (by decide +kernel),_,rfl,_,rfl,j,l,J,L,n,rfl,A3,k3 l _ hl (by simp),by lia,hLn n (qAO en),fun H4 k4=>⟨_,rfl,?_⟩⟩;have h4:=k4 B _ h3 (by simp);refine ite2 (fun c=>?_) (fun c=>?_)
   ·refine ⟨_,rfl,h4,?_,⟨_,rfl⟩,?_,Kp.new (k3.trans k4) hB,upd_same⟩
    ·rw [qAE];exact zCe (by lia)
    ·rw [zBs en c,qAQ];rfl
   ·refine ⟨⟨_,rfl⟩,?_,k3.trans k4,?_⟩
    ·rw [zCn en c]
    ·exact h4
  ·rintro ys τ H3 ⟨_,rfl,k3,h3⟩;have eT:L.take (L.map V.str).length=L:=by rw [qAE,qAi]
   rw [eT] at h3;exact k B H3 (k1.fre hB (by simp)) h3 (k1.trans k3)
end
structure DS (H0 H:Hp) (d:Addr) (ns:List Str) (la:Str->Addr) (L:Str->List Str):Prop where
 top:H d=some (.dK (dT1 ns fun n=>.ref (la n)))
 row:∀n∈ns,SetD H (la n) (L n)
 ne:∀n∈ns,la n≠d
 fr:Fre H0 d
 frs:∀n∈ns,Fre H0 (la n)
theorem ne_nil_is {K:PySem.W.Frag} {c e:Addr} {xs:List V} {Q:VK} (h1:SqL K H c xs) (h2:SqL K H e []) (h:Q (.bl (decide (xs≠[]))) H):rAlike K 8 false (.ref c) (.ref e) H Q\/rUnlen K true (.ref c) (.ref e) H Q:=by
 by_cases z:xs=[]
 ·subst z;exact .inl ⟨c,e,_,_,rfl,rfl,h1,h2,rfl,(fun i x y h=>by simp at h),h⟩
 ·rw [qAV z] at h;exact .inr ⟨c,e,_,_,rfl,rfl,h1,h2,fun y=>z (qCT.mp y),h⟩
def szAt (H:Hp) (a:Addr):Nat:=match H a with
 | some (.lst xs)=>xs.length
 | some (.dK kvs)=>kvs.length
 | _=>0
theorem zIo {a:Addr} {xs:List V} (h:H a=some (.lst xs)):szAt H a=xs.length:=by unfold szAt;rw [h]
theorem szAt_dK {a:Addr} {kvs:List (Key×V)} (h:H a=some (.dK kvs)):szAt H a=kvs.length:=by unfold szAt;rw [h]
theorem dT1_snoc (B:List Str) (x:Str) (g:Str->V):dT1 (B++[x]) g=dT1 B g++[(.inr x,g x)]:=by unfold dT1;rw [qAQ];rfl
theorem zFy (B:List Str) (g:Str->V):(dT1 B g).length=B.length:=by unfold dT1;rw [qAE]
structure DR (H:Hp) (d:Addr) (ns:List Str) (la:Str->Addr) (L:Str->List Str):Prop where
 top:H d=some (.dK (dT1 ns fun n=>.ref (la n)))
 row:∀n∈ns,SetD H (la n) (L n)
theorem DS.rd {la:Str->Addr} {L:Str->List Str} (D:DS H0 H d ns la L):DR H d ns la L:=⟨D.top,D.row⟩
theorem DR.kp0 {la:Str->Addr} {L:Str->List Str} (D:DR H d ns la L) (k:Kp [] H H'):DR H' d ns la L:=⟨k d _ D.top (by simp),fun n hn=>k _ _ (D.row n hn) (by simp)⟩
theorem DR.get {la:Str->Addr} {L:Str->List Str} (D:DR H d ns la L) (hy:y∈ns):DGet H d (.str y) (some (.ref (la y))):=by
 have:=DGet.k (k:=Sum.inr y) D.top;rw [zBl,qAC hy] at this;exact this
theorem JNew.back (N:JNew H' J) (k:Kp [] H H'):JNew H J:=⟨k.fre N.r (by simp),k.fre N.p (by simp),k.fre N.e (by simp),fun q hq=>k.fre (N.z q hq) (by simp),fun n hn=>k.fre (N.s n hn) (by simp)⟩
theorem Good.keys {zs:List (List Str×Addr)} (G:Good ns qs r) (hz:∀k,k∈zs.map (·.1)↔k∈qs.map (·.1)) (hl:zs.length<=306):Good ns zs r:=by
 have bk:∀q∈zs,∃q'∈qs,q'.1=q.1:=fun q hq=>qAH.mp ((hz q.1).mp (qAH.mpr ⟨q,hq,rfl⟩));refine ⟨G.nm,G.nd,G.few,hl,fun q hq x hx=>?_,fun q hq=>?_⟩
 ·obtain ⟨q',h1,h2⟩:=bk q hq;exact G.qin q' h1 x (by rw [h2];exact hx)
 ·obtain ⟨q',h1,h2⟩:=bk q hq;obtain ⟨e1,e2⟩:=fst_of h2;rw [<-e1,<-e2];exact G.rk q' h1
def topR (r:Str->Nat) (ns:List Str):Nat:=(ns.map r).sum
theorem le_topR (r:Str->Nat):∀{ns:List Str} {x:Str},x∈ns->r x<=topR r ns
 | y::ns,x,h=>by
  unfold topR;rw [qAn,List.sum_cons];rcases qAN.mp h with z| z
  ·rw [z];lia
  ·have:=le_topR r z;unfold topR at this;lia
theorem zC1 {q:List Str×Addr} (e:q.1=[a,b]):fst q=a/\snd q=b:=by unfold fst snd;rw [e];exact ⟨rfl,rfl⟩
theorem Good.rev {ks:List (List Str×Addr)} (G:Good ns qs r) (two:∀q∈qs,∃a b,q.1=[a,b]) (e:ks.map (·.1)=qs.map fun q=>q.1.reverse):Good ns ks fun x=>topR r ns - r x:=by
 have bk:∀k∈ks,∃q∈qs,q.1.reverse=k.1:=fun k hk=>by
  have:k.1∈ks.map (·.1):=qAH.mpr ⟨k,hk,rfl⟩;rw [e] at this;exact qAH.mp this
 refine ⟨G.nm,G.nd,G.few,?_,fun k hk x hx=>?_,fun k hk=>?_⟩
 ·have:=qAf List.length e;rw [qAE,qAE] at this;rw [this];exact G.qfew
 ·obtain ⟨q,h1,h2⟩:=bk k hk;rw [<-h2] at hx;exact G.qin q h1 x (qCu.mp hx)
 ·obtain ⟨q,h1,h2⟩:=bk k hk;obtain ⟨a,b,eab⟩:=two q h1;have e1:=zC1 eab;have e2:k.1=[b,a]:=by rw [<-h2,eab];rfl
  have e3:=zC1 e2;have hb:b∈ns:=G.qin q h1 b (by rw [eab];simp);have:=G.rk q h1;rw [e1.1,e1.2] at this;rw [e3.1,e3.2];have:=le_topR r hb;lia
section
def spTurned (C:Addr):Sp:=fun vs H Q _=>∃(j:Addr) (J:JR) (r:Str->Nat),vs=[.ref j]/\JobsAt C H j J/\Good J.ns J.zs r/\∀x J' H',Fre H x->JobsAt C H' x J'->JNew H J'->J'.ns=J.ns->(∀k,k∈J'.zs.map (·.1)↔k∈J.zs.map fun q=>q.1.reverse)->Kp [] H H'->Q (.ref x) H'
abbrev zCa:Stmt:=zEm (top 43) 8
theorem zHv:FnScope ["self"] ["self"] (zAd zCa):=fnS
theorem zH0 {f:Addr} (F:Fun K "turned" "Jobs.turned" zCa f fd) (T:Txt K mg) (U:JC K mg C) (M_Jobs:Mkr P w K mg base C "Jobs" 4 ["self", "names", "orders"] (spInit C)):FnOk P w K mg base CX0 6 f fd ["self"] (spTurned C):=by
 refine F.ok zHv (fun vs H Q E h=>?_) (fun cdv A outer s H vs Q E hr h=>?_)
 ·obtain ⟨j,J,r,rfl,_⟩:=h;rfl
 ·obtain ⟨j,J,r,rfl,A0,G,k⟩:=h;refine ⟨_,(zAe (zAm (pe_makeC M_Jobs hr rfl (zAa (zDr (pv 0) rfl) (zAa (zBa rfl (zBe (sc:=zAd zCa) rfl (by decide +kernel)) (Draws.own (x:= "one") (Draws.own (x:= "other") Draws.nil)) (zAj (zDr (pv 0) rfl)) (fun _ _ _ _=>(zIx (K:=K) (n:=2) rfl (zA7 (pgB (i:=0)) (zA7 (pgB (i:=1)) zEf)))) (fun _ _ _ _=>zCl) (fun _ _ _ _=>(zC7 (zAa (pv 1) (zAa (pv 0) zAb))))) zAb))))),?_⟩
  refine ⟨_,rfl,_,_,_,_,_,rfl,A0.ob,U.cl,U.n_row,zIh _ _ _,_,rfl,_,_,_,_,_,rfl,A0.ob,U.cl,U.n_pairs,jf_pairs _ _ _,_,rfl,⟨_,SqL.of A0.prs.top⟩,fun B hB=>zA3 (J.zs.map fun q=>V.ref q.2) (fun i ys τ H3=>∃ks:List (List Str×Addr),(∃o0 o1,τ=[o0,o1])/\ys=(ks.map fun q=>V.ref q.2)/\ks.map (·.1)=(J.zs.take i).map (fun q=>q.1.reverse)/\(∀q∈ks,H3 q.2=some (.tup (q.1.map V.str)))/\Kp [] H H3/\H3 B=some (.lst ys))
   ⟨[],⟨_,_,rfl⟩,rfl,rfl,(fun q h=>nomatch h),Kp.new Kp.refl hB,upd_same⟩ (fun i ys τ H3 ⟨_,_,_,_,_,k3,_⟩=>SqL.of (k3 _ _ A0.prs.top (by simp))) ?_ ?_⟩
  ·rintro i v ys τ H3 hv ⟨ks,⟨o0,o1,rfl⟩,rfl,ek,hk,k3,h3⟩;obtain ⟨q,eq,rfl⟩:=ref_at hv;have mq:=qAO eq;obtain ⟨a,b,eab⟩:=A0.prs.two q mq
   have hrow:H3 q.2=some (.tup [.str a,.str b]):=by
    have:=k3 q.2 _ (A0.prs.row q mq) (by simp);rw [eab] at this;exact this
   refine ⟨_,_,rfl,.inl (.inl hrow),rfl,_,_,rfl,_,_,rfl,rfl,?_⟩;have hlen:ks.length=(J.zs.take i).length:=by have:=qAf List.length ek;simpa using this
   refine ⟨_,rfl,_,rfl,(by walk_at "ln"),fun t ht=>?_⟩;have ft:Fre H3 t:=ht;have nBt:B≠t:=ne_fre ft h3;refine ⟨(upd_ne nBt).trans h3,?_,ks++[([b,a],t)],⟨_,_,rfl⟩,?_,?_,fun q' hq'=>?_,?_,?_⟩
   ·rw [qAE,hlen,qAe,qAK];have:=A0.zfew;lia
   ·rw [qAQ];rfl
   ·rw [qAQ,ek,zAh eq,qAQ,qAn,qAn,eab];rfl
   ·rcases qAU.mp hq' with z| z
    ·exact (upd_ne (zBb (hk q' z) h3 (fun y=>nomatch y))).trans ((upd_ne (ne_fre ft (hk q' z))).trans (hk q' z))
    ·rw [qAP.mp z];exact (upd_ne nBt.symm).trans upd_same
   ·exact Kp.new (Kp.new k3 (k3.fre ft (by simp))) hB
   ·exact upd_same
  ·rintro ys τ H3 ⟨ks,_,rfl,ek,hk,k3,h3⟩;have eT:J.zs.take (J.zs.map fun q=>V.ref q.2).length=J.zs:=by rw [qAE,qAi]
   rw [eT] at ek
   have ktwo:∀q∈ks,∃a b,q.1=[a,b]:=fun q hq=>by
    have:q.1∈ks.map (·.1):=qAH.mpr ⟨q,hq,rfl⟩;rw [ek] at this;obtain ⟨q',hq',e⟩:=qAH.mp this;obtain ⟨a,b,eab⟩:=A0.prs.two q' hq';exact ⟨b,a,by rw [<-e,eab];rfl⟩
   refine fun x dx hx hdx nxd=>?_;have fx:Fre H3 x:=hx;have k4:Kp [] H3 (upd (upd H3 dx (.own x)) x (.ins C dx [])):=Kp.new (Kp.new Kp.refl hdx) fx;have hx4:(upd (upd H3 dx (.own x)) x (.ins C dx [])) x=some (.ins C dx []):=upd_same;generalize upd (upd H3 dx (.own x)) x (.ins C dx [])=H4 at k4 hx4 ⊢;have k04:=k3.trans k4;refine ⟨x,dx,J.r,B,J.ns,ks,_,rfl,hx4,k04 _ _ A0.row (by simp),⟨k4 B _ h3 (by simp),fun q hq=>k4 _ _ (hk q hq) (by simp),ktwo⟩,G.rev A0.prs.two ek,fun J' H5 A5 N5 ens ezs K5=>⟨rfl,?_⟩⟩;refine k x J' H5 (k3.fre fx (by simp)) A5 (N5.back k04) ens (fun q=>?_) (k3.trans (Kp.drop k4 fx K5));rw [ezs q,ek]
end
def zA4 (qs:List (List Str×Addr)) (n:Str):List Str:=(qs.filter fun q=>decide (fst q=n)).map snd
theorem zE7 :y∈zA4 qs n↔TA qs n y:=by
 unfold zA4 TA;simp only [qAH,qAS,qBT];exact ⟨fun ⟨q,⟨a,b⟩,c⟩=>⟨q,a,b,c⟩,fun ⟨q,a,b,c⟩=>⟨q,⟨a,b⟩,c⟩⟩
theorem zE6 (qs:List (List Str×Addr)) (n:Str):(zA4 qs n).length<=qs.length:=by
 unfold zA4;rw [qAE];exact qAy _ _
structure NR (H:Hp) (d:Addr) (ns:List Str) (na:Str->Addr) (f:Str->List Str):Prop where
 top:H d=some (.dK (dT1 ns fun n=>.ref (na n)))
 row:∀n∈ns,Txs H (na n) (f n)
theorem NR.kp {M:List Addr} {na:Str->Addr} {f:Str->List Str} (D:NR H d ns na f) (k:Kp M H H') (h1:d∉M) (h2:∀n∈ns,na n∉M):NR H' d ns na f:=⟨k d _ D.top h1,fun n hn=>k _ _ (D.row n hn) (h2 n hn)⟩
theorem NR.get {na:Str->Addr} {f:Str->List Str} (D:NR H d ns na f) (hy:y∈ns):DGet H d (.str y) (some (.ref (na y))):=by
 have:=DGet.k (k:=Sum.inr y) D.top;rw [zBl,qAC hy] at this;exact this
structure BK (qs:List (List Str×Addr)) (ns:List Str) (n:Str) (B W:List Str):Prop where
 nd:B.Nodup
 sub:∀x∈B,x∈ns
 way:∀x∈B,Way qs n x
 wl:∀x∈W,Way qs n x
 c0:∀y,TA qs n y->y∈B\/y∈W
 cl:∀x∈B,∀y,TA qs x y->y∈B\/y∈W
 cap:W.length+307*(20 - B.length)<=6447
theorem BK.start (h:qs.length<=306):BK qs ns n [] (zA4 qs n) :=
 ⟨qAw,(fun x h=>nomatch h),(fun x h=>nomatch h),fun x h=>.one (zE7.mp h),fun y h=>.inr (zE7.mpr h),(fun x h=>nomatch h),by
  have:=zE6 qs n;simp only [qBW];lia⟩
theorem BK.old {x0:Str} {B W:List Str} (b:BK qs ns n B (W++[x0])) (h:x0∈B):BK qs ns n B W:=by
 have mv:∀y,(y∈B\/y∈W++[x0])->y∈B\/y∈W:=fun y hy=>by
  rcases hy with z| z
  ·exact .inl z
  ·rcases qAU.mp z with z| z
   ·exact .inr z
   ·rw [qAP.mp z];exact .inl h
 refine ⟨b.nd,b.sub,b.way,fun x hx=>b.wl x (qAs _ hx),fun y hy=>mv y (b.c0 y hy),fun x hx y hy=>mv y (b.cl x hx y hy),?_⟩;have:=b.cap;rw [qAg,qBe] at this;lia
theorem BK.new {x0:Str} {B W:List Str} (b:BK qs ns n B (W++[x0])) (h:x0∉B) (hx:x0∈ns) (hn:ns.length<=20) (hq:qs.length<=306):BK qs ns n (B++[x0]) (W++zA4 qs x0)/\(W++zA4 qs x0).length+307*(20 - (B++[x0]).length)<W.length+1+307*(20 - B.length):=by
 have nd:(B++[x0]).Nodup:=qBj.mpr ⟨b.nd,by simp,fun a ha d hd=>by
  rw [qAP.mp hd];exact fun z=>h (z▸ha)⟩
 have sub:∀x∈B++[x0],x∈ns:=fun x h=>by
  rcases qAU.mp h with z| z
  ·exact b.sub x z
  ·rw [qAP.mp z];exact hx
 have w0:Way qs n x0:=b.wl x0 (by simp)
 have mv:∀y,(y∈B\/y∈W++[x0])->y∈B++[x0]\/y∈W++zA4 qs x0:=fun y hy=>by
  rcases hy with z| z
  ·exact .inl (qAs _ z)
  ·rcases qAU.mp z with z| z
   ·exact .inr (qAs _ z)
   ·exact .inl (qAu _ z)
 have less:(W++zA4 qs x0).length+307*(20 - (B++[x0]).length)<W.length+1+307*(20 - B.length):=by
  have h1:=zDm nd sub;have h2:=zE6 qs x0;simp only [qAg,qBe] at *
  lia
 refine ⟨⟨nd,sub,fun x hx=>?_,fun x hx=>?_,fun y hy=>mv y (b.c0 y hy),fun x hx y hy=>?_,?_⟩,less⟩
 ·rcases qAU.mp hx with z| z
  ·exact b.way x z
  ·rw [qAP.mp z];exact w0
 ·rcases qAU.mp hx with z| z
  ·exact b.wl x (qAs _ z)
  ·exact .more w0 (zE7.mp z)
 ·rcases qAU.mp hx with z| z
  ·exact mv y (b.cl x z y hy)
  ·rw [qAP.mp z] at hy;exact .inr (qAu _ (zE7.mpr hy))
 ·have:=b.cap;rw [qAg,qBe] at this;lia
theorem BK.all {B:List Str} (b:BK qs ns n B []) (x:Str):x∈B↔Way qs n x:=by
 refine ⟨b.way x,fun h=>?_⟩
 induction h with
 | one h=>exact (b.c0 _ h).elim id (fun z=>nomatch z)
 | more _ h ih=>exact (b.cl _ ih _ h).elim id (fun z=>nomatch z)
theorem dT1_more {b:Addr} {la:Str->Addr} (h:n∉ns):dT1 ns (fun n=>V.ref (la n))++[(Sum.inr n,V.ref b)]=dT1 (ns++[n]) (fun x=>V.ref (if x=n then b else la x)):=by
 rw [dT1_snoc,qAC rfl];congr 1;exact zFb fun x hx=>by rw [qAB (show¬x=n from fun z=>h (z▸hx))]
section
def spLBehind:Sp:=fun vs H Q _=>∃(l m:Addr) (ns:List Str) (qs:List (List Str×Addr)),vs=[.ref l,.ref m]/\Txs H l ns/\Ords H m qs/\ns.Nodup/\ns.length<=20/\qs.length<=306/\(∀q∈qs,∀x∈q.1,x∈ns) /\
 ∀d la L H',DS H H' d ns la L->(∀n∈ns,(L n).Nodup/\∀x,x∈L n↔Way qs n x)->Kp [] H H'->Q (.ref d) H'
abbrev zGj:Stmt:=top 54
theorem zCi:FnScope ["_law_names_here", "_law_orders", "_law_near", "_law_name", "_law_found", "_law_waiting", "_law_here"] ["_law_names_here", "_law_orders"] (zAd zGj):=fnS
theorem ok_behind {f:Addr} (F:Fun K "_law_behind" "_law_behind" zGj f fd) (T:Txt K mg):FnOk P w K mg base CX0 1 f fd ["_law_names_here", "_law_orders"] spLBehind:=by
 refine F.ok zCi (fun vs H Q E h=>?_) (fun cdv A outer s H vs Q E hr h=>?_)
 ·obtain ⟨l,m,ns,qs,rfl,_⟩:=h;rfl
 ·obtain ⟨l,m,ns,qs,rfl,hl,hm,hN,hn,hz,hq,k⟩:=h;have hu:=zDw hr
  refine ⟨_,(zAc (psS (i:=2) zCi.nd zCd)
   (zAc (zA1 qAk rfl (zAj (pv 0)) (pgN (i:=3) zCi.nd)
    (zAe (zC0 hu (pv 2) (pv 3) (zBa rfl (zBe (sc:=zAd zGj) rfl (by decide +kernel)) (Draws.own (x:= "_law_one") (Draws.own (x:= "_law_other") (dtk (i:=3) rfl Draws.nil))) (zAj (pv 1)) (fun _ _ _ _=>(zIx (K:=K) (n:=2) rfl (zA7 (pgB (i:=0)) (zA7 (pgB (i:=1)) zEf)))) (fun _ _ _ _=>(zB8 (zAz zIy (pv 0) (pv 2) (zA8 _)))) (fun _ _ _ _=>(pv 1))) rfl)))
   (zAc (psS (i:=4) zCi.nd zCd)
   (zAc (zA1 qAk rfl (zAj (pv 0)) (pgN (i:=3) zCi.nd)
    (zAc (zC0 hu (pv 4) (pv 3) zCd rfl)
    (zAc (psS (i:=5) zCi.nd (zAq zAv (by rfl) T.z_list zC3 (zAa (zBj hu (pv 2) (pv 3) (fun _ _=>rfl)) zAb)))
    (zAe (zGl qAk (zAz (op_neAU hr) (pv 5) (zBp zAb) (zA8 _))
     (zAc (psS (i:=6) zCi.nd (pe_bm0 qBH PySem.F.slot_list_pop PySem.F.type_list_pop mt_pop (pv 5)))
     (zAe (zCz (zIb (zG2 hu (pv 6) (zBj hu (pv 4) (pv 3) (fun _ _=>rfl))))
      (zAc (zC0 hu (zBj hu (pv 4) (pv 3) (fun _ _=>rfl)) (pv 6) pe_bl rfl)
      (zAe (zAu (zFr qBH qDm qDn zHb (pv 5) (zAa (zBj hu (pv 2) (pv 6) (fun _ _=>rfl)) zAb)))))
      zAw))))))))
   (zAe (zAm (pv 4))))))),?_⟩
  refine fun d0 hd0=>?_;have fd0:Fre H d0:=hd0
  refine ⟨_,rfl,_,rfl,⟨_,SqL.of ((Kp.new (M:=[]) Kp.refl fd0) l _ hl (by simp))⟩,zAy (fun i σ H2=>(∃o3 o4 o5 o6:Option V,σ=[some (.ref l),some (.ref m),some (.ref d0),o3,o4,o5,o6])/\Kp [] H H2/\∃na,NR H2 d0 (ns.take i) na (zA4 qs))
   ⟨⟨_,_,_,_,rfl⟩,Kp.new Kp.refl fd0,fun _=>0,upd_same,(fun n h=>nomatch h)⟩ (fun i σ H2 _ ⟨_,k2,_⟩=>SqL.of (k2 l _ hl (by simp))) ?_ ?_⟩
  ·rintro i v σ H2 hv ⟨⟨o3,o4,o5,o6,rfl⟩,k2,na,N⟩;obtain ⟨n,en,rfl⟩:=zA0 hv;have ni:=zD4 hN en;have hm2:=hm.kp k2 (by simp) (by simp)
   refine ⟨_,rfl,_,rfl,⟨_,SqL.of hm2.top⟩,fun B hB=>zBd (qs.map fun q=>V.ref q.2) (fun i ys τ H3=>(∃o0 o1,τ=[o0,o1,some (.str n)])/\ys=(zA4 (qs.take i) n).map V.str/\H3=upd H2 B (.lst ys))
    ⟨⟨_,_,rfl⟩,rfl,rfl⟩ (fun i ys τ H3 ⟨_,_,z⟩=>by subst z;exact SqL.of ((Kp.new (M:=[]) Kp.refl hB) _ _ hm2.top (by simp))) ?_ ?_⟩
   ·rintro i v ys τ H3 hv ⟨⟨o0,o1,rfl⟩,rfl,rfl⟩;obtain ⟨q,eq,rfl⟩:=ref_at hv;have mq:=qAO eq;obtain ⟨x,y,exy⟩:=hm.two q mq
    have hrow:(upd H2 B (.lst ((zA4 (qs.take i) n).map V.str))) q.2=some (.tup [.str x,.str y]):=by
     have:=(Kp.new (l:=B) (o:=.lst ((zA4 (qs.take i) n).map V.str)) (M:=[]) Kp.refl hB) q.2 _ (hm2.row q mq) (by simp);rw [exy] at this;exact this
    have e1:fst q=x:=(by unfold fst;rw [exy];rfl);have e2:snd q=y:=(by unfold snd;rw [exy];rfl);refine ⟨_,_,rfl,.inl (.inl hrow),rfl,_,_,rfl,_,_,rfl,rfl,?_⟩;refine ⟨_,rfl,_,rfl,rfl,_,rfl,ite2 (fun c=>?_) (fun c=>?_)⟩
    ·have c':x=n:=by simpa using c
     refine ⟨_,rfl,upd_same,?_,⟨_,_,rfl⟩,?_,zBg⟩
     ·have:=zE6 (qs.take i) n;rw [qAe] at this;rw [qAE,qAK];lia
     ·have:zA4 (qs.take (i+1)) n=zA4 (qs.take i) n++[y]:=by
       unfold zA4;rw [zBs eq (qAV (e1.trans c')),qAQ,qAn,e2];rfl
      rw [this,qAQ];rfl
    ·have c':¬x=n:=fun z=>c (by simpa using z);refine ⟨⟨_,_,rfl⟩,?_,?_⟩
     ·have:zA4 (qs.take (i+1)) n=zA4 (qs.take i) n:=by
       unfold zA4;rw [zCn eq (by rw [e1];simpa using c')]
      rw [this]
     ·rfl
   ·rintro ys τ H3 ⟨_,rfl,rfl⟩;have eT:qs.take (qs.map fun q=>V.ref q.2).length=qs:=by rw [qAE,qAi]
    rw [eT];have fB:Fre H2 B:=hB;have nB:d0≠B:=ne_fre fB N.top;have k3:Kp [] H2 (upd H2 B (.lst ((zA4 qs n).map V.str))):=Kp.new Kp.refl fB;have hd3:=k3 d0 _ N.top (by simp);refine ⟨_,rfl,_,rfl,_,_,rfl,DPut.k (k:=Sum.inr n) hd3 ?_,?_⟩
    ·rw [zFy,qAe,qAK];lia
    rw [zDp _ ni,dT1_more ni,<-zAh en];refine ⟨⟨_,_,_,_,rfl⟩,Kp.new (k2.trans k3) fd0,fun x=>if x=n then B else na x,upd_same,fun x hx=>?_⟩;show Txs _ (if x=n then B else na x) (zA4 qs x)
    by_cases z:x=n
    ·rw [qAC z,z];exact (upd_ne nB.symm).trans upd_same
    ·rw [qAB z];rw [zAh en] at hx;rcases qAU.mp hx with y| y
     ·have h1:=k3 _ _ (N.row x y) (by simp);exact (upd_ne (zBb h1 hd3 (fun z=>nomatch z))).trans h1
     ·exact absurd (qAP.mp y) z
  ·rintro σ H1 ⟨⟨o3,o4,o5,o6,rfl⟩,k1,na,N⟩;have eT:ns.take (ns.map V.str).length=ns:=by rw [qAE,qAi]
   rw [eT] at N;refine fun d hd=>?_;have fd1:Fre H1 d:=hd;have fd:Fre H d:=k1.fre fd1 (by simp);have nd0:d0≠d:=ne_fre fd1 N.top;have N1:NR (upd H1 d (.dK [])) d0 ns na (zA4 qs):=N.kp (M:=[]) (Kp.new Kp.refl fd1) (by simp) (by simp)
   refine ⟨_,rfl,_,rfl,⟨_,SqL.of ((Kp.new (M:=[]) k1 fd) l _ hl (by simp))⟩,zAy (fun i σ H2=>(∃o3 o5 o6:Option V,σ=[some (.ref l),some (.ref m),some (.ref d0),o3,some (.ref d),o5,o6])/\Kp [] H H2/\Kp [d] H1 H2/\∃la L,DS H H2 d (ns.take i) la L/\∀n∈ns.take i,(L n).Nodup/\∀x,x∈L n↔Way qs n x)
    ⟨⟨_,_,_,rfl⟩,Kp.new k1 fd,Kp.put Kp.refl (by simp),fun _=>0,fun _=>[],⟨upd_same,(fun n h=>nomatch h),(fun n h=>nomatch h),fd,(fun n h=>nomatch h)⟩,(fun n h=>nomatch h)⟩ (fun i σ H2 _ ⟨_,k2,_⟩=>SqL.of (k2 l _ hl (by simp))) ?_ ?_⟩
   ·rintro i0 v σ H2 hv ⟨⟨o3,o5,o6,rfl⟩,k2,q2,la,L,D,hL⟩;obtain ⟨n,en,rfl⟩:=zA0 hv;have mn:=qAO en;have ni:=zD4 hN en;have nnd:∀x∈ns,na x≠d:=fun x hx=>ne_fre fd1 (N.row x hx);have N2:NR H2 d0 ns na (zA4 qs):=N.kp q2 (nm1 nd0) (fun x hx=>nm1 (nnd x hx));refine fun b hb=>?_;have fb:Fre H2 b:=hb;have ndb:d≠b:=ne_fre fb D.top;have fbH:Fre H b:=k2.fre fb (by simp);refine ⟨_,rfl,_,rfl,_,_,rfl,DPut.k (k:=Sum.inr n) ((upd_ne ndb).trans D.top) ?_,?_⟩
    ·rw [zFy,qAe,qAK];lia
    rw [zDp _ ni,dT1_more ni,<-zAh en];have k3:Kp [] H (upd (upd H2 b (.dK [])) d (.dK (dT1 (ns.take (i0+1)) (fun x=>.ref (if x=n then b else la x))))):=Kp.new (Kp.new k2 fbH) fd;have q3:Kp [d] H2 (upd (upd H2 b (.dK [])) d (.dK (dT1 (ns.take (i0+1)) (fun x=>.ref (if x=n then b else la x))))):=Kp.put (Kp.new Kp.refl fb) (by simp);have hd3:(upd (upd H2 b (.dK [])) d (.dK (dT1 (ns.take (i0+1)) (fun x=>.ref (if x=n then b else la x))))) d=some (.dK (dT1 (ns.take (i0+1)) (fun x=>.ref (if x=n then b else la x)))):=upd_same;have hb3:(upd (upd H2 b (.dK [])) d (.dK (dT1 (ns.take (i0+1)) (fun x=>.ref (if x=n then b else la x))))) b=some (.dK []):=(upd_ne ndb.symm).trans upd_same;generalize upd (upd H2 b (.dK [])) d (.dK (dT1 (ns.take (i0+1)) (fun x=>.ref (if x=n then b else la x))))=H3 at k3 q3 hd3 hb3 ⊢;have N3:NR H3 d0 ns na (zA4 qs):=N2.kp q3 (nm1 nd0) (fun x hx=>nm1 (nnd x hx));have hs3:∀x∈ns.take i0,SetD H3 (la x) (L x):=fun x hx=>q3 _ _ (D.row x hx) (nm1 (D.ne x hx));have nlb:∀x∈ns.take i0,la x≠b:=fun x hx=>ne_fre fb (D.row x hx);refine ⟨_,rfl,_,rfl,_,_,rfl,N3.get mn,_,_,rfl,.inl (SqL.of (N3.row n mn)),fun wa hwa=>?_⟩;have fw:Fre H3 wa:=hwa;have k4:Kp [] H3 (upd H3 wa (.lst ((zA4 qs n).map V.str))):=Kp.new Kp.refl fw;have hw4:Txs (upd H3 wa (.lst ((zA4 qs n).map V.str))) wa (zA4 qs n):=upd_same;have nwb:b≠wa:=ne_fre fw hb3;have nwd:d≠wa:=ne_fre fw hd3;have fwH:Fre H wa:=k3.fre fw (by simp);generalize upd H3 wa (.lst ((zA4 qs n).map V.str))=H4 at k4 hw4 ⊢;have hb4:SetD H4 b []:=k4 b _ hb3 (by simp);have hd4:=k4 d _ hd3 (by simp);have N4:NR H4 d0 ns na (zA4 qs):=N3.kp k4 (by simp) (by simp);have k04:=k3.trans k4;have nab:∀x∈ns,na x∉[b,wa]:=fun x hx=>nm2 (zBb (N3.row x hx) hb3 (fun z=>nomatch z)) (ne_fre fw (N3.row x hx));have n0b:d0∉[b,wa]:=nm2 (ne_fre fb N2.top) (ne_fre fw N3.top)
    have gd:∀{Hx:Hp},Hx d=some (.dK (dT1 (ns.take (i0+1)) (fun x=>.ref (if x=n then b else la x))))->DGet Hx d (.str n) (some (.ref b)):=fun h=>by
     have h1:=DGet.k (k:=Sum.inr n) h;rw [zBl,qAC (by rw [zAh en];simp),qAC rfl] at h1;exact h1
    refine zIn (fun σ H5=>(∃o6:Option V,σ=[some (.ref l),some (.ref m),some (.ref d0),some (.str n),some (.ref d),some (.ref wa),o6])/\Kp [b,wa] H4 H5/\∃B W,SetD H5 b B/\Txs H5 wa W/\BK qs ns n B W) (fun _ H5=>307*(20 - szAt H5 b)+szAt H5 wa)
     ⟨⟨_,rfl⟩,Kp.refl,[],zA4 qs n,hb4,hw4,BK.start hz⟩ ?_ (fun σ H Q Q' hq hc=>?_)
    ·rintro σ H5 ⟨⟨o6',rfl⟩,k5,B,W,hB,hW,I5⟩;refine ⟨_,rfl,(by walk_at "ln"),fun e he=>?_⟩;have fe:Fre H5 e:=he;have k5e:Kp [] H5 (upd H5 e (.lst [])):=Kp.new Kp.refl fe;have hB6:SetD (upd H5 e (.lst [])) b B:=k5e b _ hB (by simp);have hW6:Txs (upd H5 e (.lst [])) wa W:=k5e wa _ hW (by simp);have hE6:(upd H5 e (.lst [])) e=some (.lst []):=upd_same;have k46:Kp [b,wa] H4 (upd H5 e (.lst [])):=fun c o h z=>k5e c o (k5 c o h z) (by simp);generalize upd H5 e (.lst [])=H6 at k5e hB6 hW6 hE6 k46 ⊢;refine ne_nil_is (SqL.of hW6) (SqL.of hE6) ?_;refine ⟨_,rfl,ite2 (fun c=>?_) (fun c=>?_)⟩
     ·obtain ⟨W0,x0,rfl⟩:∃W0 x0,W=W0++[x0]:=by
       have:W≠[]:=fun z=>by rw [z] at c;exact absurd c (by decide)
       exact ⟨W.dropLast,W.getLast this,(List.dropLast_concat_getLast this).symm⟩
      have eW:(W0++[x0]).map V.str=W0.map V.str++[.str x0]:=by rw [qAQ];rfl
      have hW6:H6 wa=some (.lst (W0.map V.str++[.str x0])):=by rw [<-eW];exact hW6
      have cap0:=I5.cap;rw [qAg,qBe] at cap0;have hx0:x0∈ns:=((I5.wl x0 (by simp)).to hm.two hq).2;refine ⟨_,rfl,.inl ⟨rfl,_,SqL.of hW6⟩,_,_,.str x0,rfl,rfl,hW6,(by simp),?_⟩;rw [List.dropLast_concat];have k7:Kp [b,wa] H4 (upd H6 wa (.lst (W0.map V.str))):=Kp.put k46 (by simp);have hW7:Txs (upd H6 wa (.lst (W0.map V.str))) wa W0:=upd_same;have hB7:SetD (upd H6 wa (.lst (W0.map V.str))) b B:=(upd_ne nwb).trans hB6;generalize upd H6 wa (.lst (W0.map V.str))=H7 at k7 hW7 hB7 ⊢;have s3:szAt H5 b=B.length:=by rw [szAt_dK hB,zFy]
      have s4:szAt H5 wa=W0.length+1:=by rw [zIo hW,qAE,qAg];rfl
      obtain ⟨o,g1,g2⟩:=zGv hB7 x0;have hd7:=k7 d _ hd4 (nm2 ndb nwd);refine ⟨_,rfl,_,rfl,_,rfl,_,_,rfl,gd hd7,_,o,rfl,g1,_,rfl,?_⟩;rw [g2];refine ite2 (fun c2=>?_) (fun c2=>?_)
      ·have c2':x0∉B:=by simpa using c2
       obtain ⟨I7,less⟩:=I5.new c2' hx0 hn hz;refine ⟨_,rfl,_,rfl,_,_,rfl,gd hd7,_,rfl,_,_,rfl,DPut.k (k:=Sum.inr x0) hB7 ?_,?_⟩
       ·have:=zDm I5.nd I5.sub;rw [zFy,qAK];lia
       rw [zDp _ c2',<-dT1_snoc B x0 fun _=>.bl true];have hW8:Txs (upd H7 b (.dK (dT1 (B++[x0]) fun _=>.bl true))) wa W0:=(upd_ne nwb.symm).trans hW7;have k8:Kp [b,wa] H4 (upd H7 b (.dK (dT1 (B++[x0]) fun _=>.bl true))):=Kp.put k7 (by simp);have hB8:SetD (upd H7 b (.dK (dT1 (B++[x0]) fun _=>.bl true))) b (B++[x0]):=upd_same;generalize upd H7 b (.dK (dT1 (B++[x0]) fun _=>.bl true))=H8 at k8 hW8 hB8 ⊢;have N8:NR H8 d0 ns na (zA4 qs):=N4.kp k8 n0b nab;refine ⟨_,rfl,.inl ⟨rfl,_,SqL.of hW8⟩,_,rfl,_,rfl,_,_,rfl,N8.get hx0,_,_,_,_,rfl,rfl,hW8,N8.row x0 hx0,?_,?_⟩
       ·have:=zE6 qs x0;rw [qAE,qAE,qAK];lia
       have hW9:∀Hx:Hp,Txs (upd Hx wa (.lst (W0.map V.str++(zA4 qs x0).map V.str))) wa (W0++zA4 qs x0):=fun Hx=>by
        show upd _ wa _ wa=some (.lst ((W0++zA4 qs x0).map V.str));rw [upd_same,qAQ]
       refine ⟨⟨⟨_,rfl⟩,Kp.put k8 (by simp),B++[x0],W0++zA4 qs x0,(upd_ne nwb).trans hB8,hW9 _,I7⟩,?_⟩;have s1:∀o,szAt (upd H8 wa o) b=(B++[x0]).length:=fun o=>by rw [szAt_dK ((upd_ne nwb).trans hB8),zFy]
       have s2:szAt (upd H8 wa (.lst (W0.map V.str++(zA4 qs x0).map V.str))) wa=(W0++zA4 qs x0).length:=by rw [zIo (hW9 H8),qAE]
       show 307*(20 - szAt _ b)+szAt _ wa<307*(20 - szAt H5 b)+szAt H5 wa;rw [s1,s2,s3,s4];lia
      ·have c2':x0∈B:=by simpa using c2
       refine ⟨⟨⟨_,rfl⟩,k7,B,W0,hB7,hW7,I5.old c2'⟩,?_⟩;have s1:szAt H7 b=B.length:=by rw [szAt_dK hB7,zFy]
       have s2:szAt H7 wa=W0.length:=by rw [zIo hW7,qAE]
       show 307*(20 - szAt H7 b)+szAt H7 wa<307*(20 - szAt H5 b)+szAt H5 wa;rw [s1,s2,s3,s4];lia
     ·have eW:W=[]:=by
       cases W with
       | nil=>rfl
       | cons _ _=>exact absurd (qAV (by simp)) c
      subst eW;have k6:Kp [] H H6:=fun c o h _=>k46 c o (k04 c o h (by simp)) (nm2 (ne_fre fbH h) (ne_fre fwH h))
      have q6:Kp [d] H1 H6:=fun c o h z=>by
       have h2:=q2 c o h z;have h3:=q3 c o h2 z;exact k46 c o (k4 c o h3 (by simp)) (nm2 (ne_fre fb h2) (ne_fre fw h3))
      have hd6:=k46 d _ hd4 (nm2 ndb nwd)
      have cs:∀x,x∈ns.take (i0+1)->(x∈ns.take i0/\x≠n)\/x=n:=fun x h=>by
       rw [zAh en] at h;rcases qAU.mp h with z| z
       ·exact .inl ⟨z,fun y=>ni (y▸z)⟩
       ·exact .inr (qAP.mp z)
      refine ⟨⟨_,_,_,rfl⟩,k6,q6,fun x=>if x=n then b else la x,fun x=>if x=n then B else L x,⟨hd6,fun x hx=>?_,fun x hx=>?_,D.fr,fun x hx=>?_⟩,fun x hx=>?_⟩
      ·show SetD H6 (if x=n then b else la x) (if x=n then B else L x);rcases cs x hx with ⟨z1,z2⟩| z
       ·rw [qAB z2,qAB z2];have h3:=hs3 x z1;exact k46 _ _ (k4 _ _ h3 (by simp)) (nm2 (nlb x z1) (ne_fre fw h3))
       ·rw [qAC z,qAC z];exact hB6
      ·show (if x=n then b else la x)≠d;rcases cs x hx with ⟨z1,z2⟩| z
       ·rw [qAB z2];exact D.ne x z1
       ·rw [qAC z];exact ndb.symm
      ·show Fre H (if x=n then b else la x);rcases cs x hx with ⟨z1,z2⟩| z
       ·rw [qAB z2];exact D.frs x z1
       ·rw [qAC z];exact fbH
      ·show (if x=n then B else L x).Nodup/\∀y,y∈(if x=n then B else L x)↔_;rcases cs x hx with ⟨z1,z2⟩| z
       ·rw [qAB z2];exact hL x z1
       ·rw [qAC z,z];exact ⟨I5.nd,I5.all⟩
    ·obtain ⟨x,e,h1,h2⟩:=hc;refine ⟨x,e,h1,fun l hl=>?_⟩;rcases h2 l hl with ⟨a,c,xs,ys,q1,q2,q3,q4,q5,q6,b,q7,q8⟩| ⟨a,c,xs,ys,q1,q2,q3,q4,q5,b,q7,q8⟩
     ·exact .inl ⟨a,c,xs,ys,q1,q2,q3,q4,q5,q6,b,q7,hq _ _ q8⟩
     ·exact .inr ⟨a,c,xs,ys,q1,q2,q3,q4,q5,b,q7,hq _ _ q8⟩
   ·rintro σ H2 ⟨⟨o3,o5,o6,rfl⟩,k2,q2,la,L,D,hL⟩;rw [eT] at D hL;exact ⟨_,rfl,k d la L H2 D hL k2⟩
end
def gathB (J:JR):Bool:=J.ns.all fun n=>decide ((strB J n).length<=1)
section
def spGath (C:Addr):Sp:=fun vs H Q _=>∃(j:Addr) (J:JR),vs=[.ref j]/\JobsAt C H j J/\∀H',Kp [] H H'->Q (.bl (gathB J)) H'
abbrev zB0:Stmt:=top 29
theorem zGz:FnScope ["jobs"] ["jobs"] (zAd zB0):=fnS
theorem zG9 {f:Addr} (F:Fun K "is_gathering" "is_gathering" zB0 f fd) (T:Txt K mg) (U:JC K mg C) (M_names:Mth P w K mg base C "names" 1 ["self"] (zGt C)) (M_straight:Mth P w K mg base C "straight" 4 ["self", "name"] (zH8 C)):FnOk P w K mg base CX0 5 f fd ["jobs"] (spGath C):=by
 refine F.ok zGz (fun vs H Q E h=>?_) (fun cdv A outer s H vs Q E hr h=>?_)
 ·obtain ⟨j,J,rfl,_⟩:=h;rfl
 ·obtain ⟨j,J,rfl,A0,k⟩:=h;have hr1:=hr.mono (j:=1) (by decide);refine ⟨_,(zAe (zAm (zAi (zFj _ rfl) (by rfl) T.z_all bo_all (zAa (zBa rfl (zBe (sc:=zAd zB0) rfl (by decide +kernel)) (Draws.own (x:= "name") (dtk (i:=0) rfl Draws.nil)) (zAj (zDq M_names U.cl hr1 (pv 0))) (fun _ _ _ _=>(pgB (i:=0))) (fun _ _ _ _=>zCl) (fun C₀ s₀ H₀ ex=>(zCm op_le (zAi (zFg (K:=K)) (by rfl) T.z_len zCo (zAa (zD3 M_straight U.cl hr (pv 1) (zAa (pv 0) zAb)) zAb)) zAg (zA8 _)))) zAb)))),?_⟩;refine ⟨_,rfl,j,J.dx,_,rfl,A0.ob,zHk _ _ _ (by decide +kernel) (by decide +kernel) (by decide +kernel),j,J,rfl,A0,fun a H1 fa h1 k1=>?_⟩
  refine ⟨_,rfl,⟨_,SqL.of h1⟩,fun B hB=>zA3 (J.ns.map V.str) (fun i ys τ H3=>(∃o0,τ=[o0,some (.ref j)])/\ys=((J.ns.take i).map fun n=>V.bl (decide ((strB J n).length<=1)))/\Kp [] H1 H3/\H3 B=some (.lst ys))
   ⟨⟨_,rfl⟩,rfl,Kp.new Kp.refl hB,upd_same⟩ (fun i ys τ H3 ⟨_,_,k3,_⟩=>SqL.of (k3 a _ h1 (by simp))) ?_ ?_⟩
  ·rintro i v ys τ H3 hv ⟨⟨o0,rfl⟩,rfl,k3,h3⟩;obtain ⟨n,en,rfl⟩:=zA0 hv;have mn:=qAO en;have A3:=A0.kp0 (k1.trans k3);refine ⟨_,rfl,j,J.dx,_,rfl,A3.ob,zHk _ _ _ (by decide +kernel) (by decide +kernel) (by decide +kernel),_,rfl,j,J,n,rfl,A3,mn,fun b H4 fb hb k4=>?_⟩;refine ⟨_,_,rfl,.inl (SqL.of hb),_,_,rfl,rfl,?_⟩;have h4:=k4 B _ h3 (by simp);refine ⟨h4,?_,⟨_,rfl⟩,?_,Kp.new (k3.trans k4) hB,upd_same⟩
   ·have:=A0.few;rw [qAE,qAe,qAK];lia
   ·rw [zAh en,qAQ,qAE];have:decide (((strB J n).length:Int)<=1)=decide ((strB J n).length<=1):=by rw [qCv];lia
    show _++[V.bl (decide (((strB J n).length:Int)<=1))]=_;rw [this];rfl
  ·rintro ys τ H3 ⟨_,rfl,k3,h3⟩;have eT:J.ns.take (J.ns.map V.str).length=J.ns:=by rw [qAE,qAi]
   rw [eT] at h3;refine ⟨B,J.ns.map fun n=>decide ((strB J n).length<=1),rfl,SqL.of ?_,?_⟩
   ·rw [h3,qA1];rfl
   ·have e:((J.ns.map fun n=>decide ((strB J n).length<=1)).all id)=gathB J:=by unfold gathB;rw [qCo];rfl
    rw [e];exact k _ (k1.trans k3)
end
theorem kit_ib {K:PySem.W.Frag}:PySem.W.kitOne K (.type "int") (.type "bool")=some false:=by rfl
section
def spOneOf:Sp:=fun vs H Q _=>∃(x:Str) (l:Addr) (ns:List Str),vs=[.str x,.ref l]/\Txs H l ns/\Q (.bl (decide (x∈ns))) H
theorem ok_one_of {f:Addr} (F:Fun K "is_one_of" "is_one_of" zC8 f fd) (T:Txt K mg):FnOk P w K mg base CX0 1 f fd ["thing", "names"] spOneOf:=by
 refine F.ok zF3 (fun vs H Q E h=>?_) (fun cdv A outer s H vs Q E hr h=>?_)
 ·obtain ⟨v,l,ns,rfl,_⟩:=h;rfl
 ·obtain ⟨x,l,ns,rfl,hl,k⟩:=h;refine ⟨_,(zAe (zAm (pe_and (zAi zFh (by rfl) T.z_isinstance zBu (zAa (pv 0) (zAa (zG1 (by rfl) T.z_str bo_str (v:=.ty "str") rfl) zAb))) (pe_one (zCm zG6 (pv 0) (pv 1) (by rfl)))))),?_⟩;refine ⟨_,rfl,_,_,_,_,rfl,TyOf.str x,zGn,_,rfl,iteT ?_⟩;refine ⟨_,rfl,_,rfl,_,_,rfl,.inl (SqL.of hl),rfl,zFa ns,?_⟩;rw [qAB (by decide),zHn];exact k
def spWhole:Sp:=fun vs H Q _=>∃n:Int,vs=[.int n]/\Q (.bl true) H
abbrev zFp:Stmt:=top 17
theorem sc_is_whole:FnScope ["thing"] ["thing"] (zAd zFp):=fnS
theorem ok_is_whole {f:Addr} (F:Fun K "is_whole" "is_whole" zFp f fd) (T:Txt K mg):FnOk P w K mg base CX0 1 f fd ["thing"] spWhole:=by
 refine F.ok sc_is_whole (fun vs H Q E h=>?_) (fun cdv A outer s H vs Q E hr h=>?_)
 ·obtain ⟨n,rfl,_⟩:=h;rfl
 ·obtain ⟨n,rfl,k⟩:=h;refine ⟨_,(zAe (zAm (pe_and (zAi zFh (by rfl) T.z_isinstance zBu (zAa (pv 0) (zAa (zG1 (by rfl) T.z_int bo_int (v:=.ty "int") rfl) zAb))) (pe_one (pe_not (zAi zFh (by rfl) T.z_isinstance zBu (zAa (pv 0) (zAa (zG1 (by rfl) T.z_bool bo_bool (v:=.ty "bool") rfl) zAb)))))))),?_⟩;exact ⟨_,rfl,_,_,_,_,rfl,TyOf.int n,zGn,_,rfl,iteT ⟨_,rfl,_,_,_,_,rfl,TyOf.int n,kit_ib,_,rfl,k⟩⟩
def spBench:Sp:=fun vs H Q _=>∃b:Int,vs=[.int b]/\1<=b/\Q .non H
abbrev zCj:Stmt:=top 20
theorem zGa:FnScope ["benches"] ["benches"] (zAd zCj):=fnS
theorem zGd {f:Addr} (F:Fun K "check_benches" "check_benches" zCj f fd) (C_is_whole:Cal P w K mg base "is_whole" 1 ["thing"] spWhole):FnOk P w K mg base CX0 2 f fd ["benches"] spBench:=by
 refine F.ok zGa (fun vs H Q E h=>?_) (fun cdv A outer s H vs Q E hr h=>?_)
 ·obtain ⟨n,rfl,_⟩:=h;rfl
 ·obtain ⟨n,rfl,h1,k⟩:=h
  refine ⟨_,(zAe (zCz (PW.pt (pw_or (zE2 (zDj (zAf C_is_whole hr rfl (zAa (pv 0) zAb)))) (pw_or1 (zAz op_lt (pv 0) zAg (zA8 _)))))
    (zAe zCc)
    zAw)),?_⟩
  refine ⟨_,rfl,n,rfl,_,rfl,iteF ⟨_,rfl,_,_,rfl,rfl,_,rfl,?_⟩⟩;rw [qAl (by lia)];exact iteF k
def rdyB (J:JR) (A:List Str) (n:Str):Bool:=(J.ns.filter fun m=>decide (m∈J.S n)).all fun m=>decide (m∈A)
def spReady (C:Addr):Sp:=fun vs H Q _=>∃(j d:Addr) (J:JR) (A:List Str) (n:Str),vs=[.ref j,.ref d,.str n]/\JobsAt C H j J/\SetD H d A/\n∈J.ns/\∀H',Kp [] H H'->Q (.bl (rdyB J A n)) H'
abbrev zD1:Stmt:=top 23
theorem sc_is_ready:FnScope ["jobs", "earlier", "name"] ["jobs", "earlier", "name"] (zAd zD1):=fnS
theorem ok_is_ready {f:Addr} (F:Fun K "is_ready" "is_ready" zD1 f fd) (T:Txt K mg) (U:JC K mg C) (M_ahead:Mth P w K mg base C "ahead" 3 ["self", "name"] (spAhead C)):FnOk P w K mg base CX0 4 f fd ["jobs", "earlier", "name"] (spReady C):=by
 refine F.ok sc_is_ready (fun vs H Q E h=>?_) (fun cdv A outer s H vs Q E hr h=>?_)
 ·obtain ⟨j,d,J,A,n,rfl,_⟩:=h;rfl
 ·obtain ⟨j,d,J,D0,n,rfl,A0,hd,hn,k⟩:=h;have hu:=zDw hr;refine ⟨_,(zAe (zAm (zAi (zFj _ rfl) (by rfl) T.z_all bo_all (zAa (zBa rfl (zBe (sc:=zAd zD1) rfl (by decide +kernel)) (Draws.own (x:= "one") (dtk (i:=1) rfl Draws.nil)) (zAj (zD3 M_ahead U.cl hr (pv 0) (zAa (pv 2) zAb))) (fun _ _ _ _=>(pgB (i:=0))) (fun _ _ _ _=>zCl) (fun _ _ _ _=>(pe_cmp (zG3 hu (pv 0) (pv 1))))) zAb)))),?_⟩;refine ⟨_,rfl,j,J.dx,_,rfl,A0.ob,zHk _ _ _ (by decide +kernel) (by decide +kernel) (by decide +kernel),_,rfl,j,J,n,rfl,A0,hn,fun a H1 fa h1 k1=>?_⟩;have hd1:=k1 d _ hd (by simp);have hml:(J.ns.filter fun m=>decide (m∈J.S n)).length<=20:=qAX (qAy _ _) A0.few;have ek:rdyB J D0 n=(J.ns.filter fun m=>decide (m∈J.S n)).all fun m=>decide (m∈D0):=rfl;rw [ek] at k;generalize (J.ns.filter fun m=>decide (m∈J.S n))=ms at h1 hml k;refine ⟨_,rfl,⟨_,SqL.of h1⟩,fun B hB=>zA3 (ms.map V.str) (fun i ys τ H'=>(∃o0,τ=[o0,some (.ref d)])/\ys=((ms.take i).map fun m=>V.bl (decide (m∈D0)))/\H'=upd H1 B (.lst ys)) ⟨⟨_,rfl⟩,rfl,rfl⟩ (fun i ys τ H' ⟨_,_,e⟩=>by subst e;exact SqL.of ((upd_ne (ne_fre (show Fre H1 B from hB) h1)).trans h1)) ?_ ?_⟩
  ·rintro i v ys τ H' hv ⟨⟨o0,rfl⟩,rfl,rfl⟩;obtain ⟨m,em,rfl⟩:=zA0 hv;refine ⟨_,rfl,_,rfl,_,_,rfl,DGet.k (k:=Sum.inr m) ((upd_ne (ne_fre (show Fre H1 B from hB) hd1)).trans hd1),upd_same,?_,⟨_,rfl⟩,?_,zBg⟩
   ·rw [qAE,qAe,qAK];lia
   ·rw [zAh em,qAQ,zHo];rfl
  ·rintro ys τ H' ⟨_,rfl,rfl⟩;have eM:ms.take (ms.map V.str).length=ms:=by rw [qAE,qAi]
   refine ⟨B,ms.map fun m=>decide (m∈D0),rfl,SqL.of ?_,?_⟩
   ·rw [upd_same,eM,qA1];rfl
   ·rw [qCo];exact k _ (Kp.new k1 (k1.fre hB (by simp)))
theorem len_foldA:∀(B A:List Str),(B.foldl addA A).length<=A.length+B.length
 | [],A=>by simp
 | b::B,A=>by
  have h1:=len_foldA B (addA A b)
  have h2:(addA A b).length<=A.length+1:=by
   unfold addA;split
   ·lia
   ·simp
  rw [qBd,qAc];lia
def spPTake:Sp:=fun vs H Q _=>∃(d l:Addr) (A ws:List Str),vs=[.ref d,.ref l]/\SetD H d A/\Txs H l ws/\A.length+ws.length<=4096/\∀H',SetD H' d (ws.foldl addA A)->Kp [d] H H'->Q .non H'
abbrev s_ptake:Stmt:=top 24
theorem sc_ptake:FnScope ["taken", "row", "name"] ["taken", "row"] (zAd s_ptake):=fnS
theorem ok_ptake {f:Addr} (F:Fun K "take" "take" s_ptake f fd):FnOk P w K mg base CX0 1 f fd ["taken", "row"] spPTake:=by
 refine F.ok sc_ptake (fun vs H Q E h=>?_) (fun cdv A outer s H vs Q E hr h=>?_)
 ·obtain ⟨d,l,A,ws,rfl,_⟩:=h;rfl
 ·obtain ⟨d,l,D0,ws,rfl,hd,hl,hz,k⟩:=h;have hu:=zDw hr
  have ndl:l≠d:=fun z=>by
   have h2:H d=some (.lst (ws.map V.str)):=by rw [<-z];exact hl
   rw [show H d=_ from hd] at h2
   cases h2
  refine ⟨_,(zAe (zA1 qAk rfl (zAj (pv 1)) (pgN (i:=2) sc_ptake.nd)
    (zAe (zC0 hu (pv 0) (pv 2) pe_bl rfl)))),?_⟩
  refine ⟨_,rfl,_,rfl,⟨_,SqL.of hl⟩,zAy (xs:=ws.map V.str) (fun i σ H2=>(∃o2,σ=[some (.ref d),some (.ref l),o2])/\SetD H2 d ((ws.take i).foldl addA D0)/\Kp [d] H H2) ⟨⟨_,rfl⟩,hd,Kp.refl⟩ (fun i σ H2 _ ⟨_,_,k2⟩=>SqL.of (k2 l _ hl (nm1 ndl))) ?_ ?_⟩
  ·rintro i v σ H2 hv ⟨⟨o2,rfl⟩,h2,k2⟩;obtain ⟨m,em,rfl⟩:=zA0 hv;have hlf:=len_foldA (ws.take i) D0;rw [qAe] at hlf;refine ⟨_,rfl,_,rfl,_,_,rfl,DPut.k (k:=Sum.inr m) h2 (by rw [qAE,qAK];lia),?_⟩;refine ⟨⟨_,rfl⟩,?_,Kp.put k2 (by simp)⟩;rw [put_set,zAh em,List.foldl_append];exact upd_same
  ·rintro σ H2 ⟨_,h2,k2⟩;rw [qAE,qAi] at h2;exact k H2 h2 k2
end
theorem zE1:∀{xs ys:List Str},zEn xs->zEn ys->xs.Perm ys->xs=ys
 | [],ys,_,_,p=>by rw [List.nil_perm.mp p]
 | x::xs,ys,h1,h2,p=>by
  cases ys with
  | nil=>exact absurd p (by simp)
  | cons y ys =>
   obtain ⟨a1,a2⟩:=qCg.mp h1;obtain ⟨b1,b2⟩:=qCg.mp h2
   have ex:x=y:=by
    rcases qAN.mp (p.mem_iff.mp qAT) with z| z
    ·exact z
    rcases qAN.mp (p.mem_iff.mpr (qAT (a:=y) (l:=ys))) with z'| z'
    ·exact z'.symm
    ·rcases ST.sg_tri x y with q| q| q
     ·exact absurd q (b1 x z)
     ·exact q
     ·exact absurd q (a1 y z')
   subst ex;rw [zE1 a2 b2 (List.Perm.cons_inv p)]
section
def zH9:Sp:=fun vs H Q _=>∃(l m:Addr) (ns ws:List Str),vs=[.ref l,.ref m]/\Txs H l ns/\ns.length<=20/\Txs H m ws/\ws.Perm ns/\∀H',Kp [] H H'->Q .non H'
abbrev zC9:Stmt:=top 27
theorem sc_check_row:FnScope ["names", "row"] ["names", "row"] (zAd zC9):=fnS
theorem ok_check_row {f:Addr} (F:Fun K "check_row" "check_row" zC9 f fd) (T:Txt K mg) (C_is_one_of:Cal P w K mg base "is_one_of" 1 ["thing", "names"] spOneOf):FnOk P w K mg base CX0 2 f fd ["names", "row"] zH9:=by
 refine F.ok sc_check_row (fun vs H Q E h=>?_) (fun cdv A outer s H vs Q E hr h=>?_)
 ·obtain ⟨l,m,ns,xs,rfl,_⟩:=h;rfl
 ·obtain ⟨l,m,ns,ws,rfl,hl,hn,hm,pm,k⟩:=h;have HR_is_one_of:=hr;have hwl:ws.length<=20:=by rw [pm.length_eq];exact hn
  refine ⟨_,(zAe (zCz (PW.pt (pw_or (zE2 (zDj (zAi (zFj _ rfl) (by rfl) T.z_all bo_all (zAa (zBa rfl (zBe (sc:=zAd zC9) rfl (by decide +kernel)) (Draws.own (x:= "thing") (dtk (i:=0) rfl Draws.nil)) (zAj (pv 1)) (fun _ _ _ _=>(pgB (i:=0))) (fun _ _ _ _=>zCl) (fun _ _ _ _=>(zAf C_is_one_of HR_is_one_of rfl (zAa (pv 0) (zAa (pv 1) zAb))))) zAb)))) (pw_or1 (zAz (op_neS (hu0 hr)) (zAi zBh (by rfl) T.z_sorted zBt (zAa (pv 1) zAb)) (zAi zBh (by rfl) T.z_sorted zBt (zAa (pv 0) zAb)) (zA8 _)))))
    (zAe zCc)
    zAw)),?_⟩
  refine ⟨_,rfl,_,rfl,⟨_,SqL.of hm⟩,fun B hB=>zA3 (ws.map V.str) (fun i ys τ H'=>(∃o0,τ=[o0,some (.ref l)])/\ys=((ws.take i).map fun v=>V.bl (decide (v∈ns)))/\H'=upd H B (.lst ys)) ⟨⟨_,rfl⟩,rfl,rfl⟩ (fun i ys τ H' ⟨_,_,e⟩=>by subst e;exact SqL.of ((upd_ne (ne_fre (show Fre H B from hB) hm)).trans hm)) ?_ ?_⟩
  ·rintro i v ys τ H' hv ⟨⟨o0,rfl⟩,rfl,rfl⟩;obtain ⟨n,en,rfl⟩:=zA0 hv;have kB:Kp [] H (upd H B (.lst ((ws.take i).map fun v=>V.bl (decide (v∈ns))))):=Kp.new Kp.refl hB;refine ⟨_,rfl,_,rfl,n,l,ns,rfl,kB l _ hl (by simp),upd_same,?_,⟨_,rfl⟩,?_,zBg⟩
   ·rw [qAE,qAe,qAK];lia
   ·rw [zAh en,qAQ];rfl
  ·rintro ys τ H' ⟨_,rfl,rfl⟩;have eM:ws.take (ws.map V.str).length=ws:=by rw [qAE,qAi]
   refine ⟨B,ws.map fun v=>decide (v∈ns),rfl,SqL.of ?_,?_⟩
   ·rw [upd_same,eM,qA1];rfl
   ·rw [eM]
    have ea:((ws.map fun v=>decide (v∈ns)).all id)=true:=by
     rw [qCo,qAx];exact fun x hx=>qAV (pm.mem_iff.mp hx)
    rw [ea];have kB:Kp [] H (upd H B (.lst (ws.map fun v=>V.bl (decide (v∈ns))))):=Kp.new Kp.refl hB;generalize upd H B (.lst (ws.map fun v=>V.bl (decide (v∈ns))))=H1 at kB;refine ⟨_,rfl,iteF ?_⟩;refine ⟨_,rfl,_,ws,rfl,SqL.of (kB m _ hm (by simp)),by lia,fun b zs hb p1 r1=>?_⟩;have fb:Fre H1 b:=hb;refine ⟨_,rfl,_,ns,rfl,SqL.of ((upd_ne (ne_fre fb (kB l _ hl (by simp)))).trans (kB l _ hl (by simp))),by lia,fun c yz hc p2 r2=>?_⟩;have fc:=(show Fre _ c from hc);refine ⟨_,_,zs,yz,rfl,rfl,SqL.of ((upd_ne (ne_fre fc upd_same)).trans upd_same),SqL.of upd_same,_,rfl,?_⟩;have K2:Kp [] H1 (upd (upd H1 b (.lst (zs.map V.str))) c (.lst (yz.map V.str))):=Kp.trans (Kp.new Kp.refl fb) (Kp.new Kp.refl fc);have e:zs=yz:=zE1 r1 r2 (p1.trans (pm.trans p2.symm));rw [qAC rfl,qAV e];exact iteF (k _ (kB.trans K2))
end
structure RowsAt (H0 H:Hp) (l:Addr) (as:List Addr) (rs:List (List Str)):Prop where
 top:H l=some (.lst (as.map V.ref))
 len:as.length=rs.length
 row:∀(i:Nat) (a:Addr) (r:List Str),as[i]?=some a->rs[i]?=some r->H a=some (.lst (r.map V.str))
 ne:∀a∈as,a≠l
 fr:Fre H0 l
 frs:∀a∈as,Fre H0 a
theorem RowsAt.mem {as:List Addr} {rs:List (List Str)} (R:RowsAt H0 H l as rs) {a:Addr} (h:a∈as):∃r,r∈rs/\H a=some (.lst (r.map V.str)):=by
 obtain ⟨i,hi,rfl⟩:=qA4.mp h;have hi':i<rs.length:=by rw [<-R.len];exact hi
 exact ⟨rs[i],qBr hi',R.row i _ _ (by simp) (by simp)⟩
theorem RowsAt.kp {M:List Addr} {as:List Addr} {rs:List (List Str)} (R:RowsAt H0 H l as rs) (k:Kp M H H') (h1:l∉M) (h2:∀a∈as,a∉M):RowsAt H0 H' l as rs :=
 ⟨k l _ R.top h1,R.len,fun i a r e1 e2=>k a _ (R.row i a r e1 e2) (h2 a (qAO e1)),R.ne,R.fr,R.frs⟩
theorem RowsAt.nil (h:H l=some (.lst [])) (f:Fre H0 l):RowsAt H0 H l [] [] :=
 ⟨h,rfl,(fun i a r e=>by simp at e),(fun a h=>by simp at h),f,(fun a h=>by simp at h)⟩
theorem RowsAt.more {b:Addr} {as:List Addr} {rs:List (List Str)} {r:List Str} (R:RowsAt H0 H l as rs) (hb:H b=some (.lst (r.map V.str))) (n:b≠l) (f:Fre H0 b):RowsAt H0 (upd H l (.lst (as.map V.ref++[.ref b]))) l (as++[b]) (rs++[r]):=by
 refine ⟨by rw [upd_same];simp,by simp [R.len],fun i a q e1 e2=>?_,fun a h=>?_,R.fr,fun a h=>?_⟩
 ·by_cases hi:i<as.length
  ·rw [qBc hi] at e1;rw [qBc (by rw [<-R.len];exact hi)] at e2;rw [upd_ne (R.ne a (qAO e1))];exact R.row i a q e1 e2
  ·rw [qBb (by lia)] at e1;rw [qBb (by rw [<-R.len];lia)] at e2;have hl:=R.len
   have h0:i - as.length=0:=by
    have:=(qAd.mp e1).1;simp at this;lia
   rw [h0] at e1;rw [<-hl,h0] at e2;have e1:b=a:=by simpa using e1
   have e2:r=q:=by simpa using e2
   subst e1 e2;rw [upd_ne n];exact hb
 ·rcases qAU.mp h with z| z
  ·exact R.ne a z
  ·have:a=b:=by simpa using z
   subst this;exact n
 ·rcases qAU.mp h with z| z
  ·exact R.frs a z
  ·have:a=b:=by simpa using z
   subst this;exact f
def zB7 (J:JR) (b:Nat) (A L:List Str):List Str:=(L.filter (rdyB J A)).take b
def zDs (J:JR) (b:Nat) (A L:List Str):List Str:=(zB7 J b A L).foldl addA A
def zFs (J:JR) (b:Nat) (A L:List Str):List Str:=L.filter fun n=>decide (n∉zDs J b A L)
def zEj (J:JR) (b:Nat):Nat->List Str->List Str->List (List Str)
 | 0,_,_=>[]
 | f+1,A,L=>if L=[] then [] else zB7 J b A L::zEj J b f (zDs J b A L) (zFs J b A L)
theorem listB_nil (J:JR) (b f:Nat) (A:List Str):zEj J b f A []=[]:=by
 cases f with
 | zero=>rfl
 | succ f=>exact qAC rfl
structure ListI (J:JR) (r:Str->Nat) (A L:List Str):Prop where
 rk:∀n∈J.ns,∀x∈J.S n,r x<r n
 an:A.Nodup
 ai:∀n∈A,n∈J.ns
 li:∀n∈L,n∈J.ns
 al:∀n∈J.ns,n∈A\/n∈L
theorem ListI.turn {A L:List Str} (I:ListI J r A L) {b:Nat} (hb:1<=b) (h:L≠[]):zB7 J b A L≠[]:=by
 obtain ⟨n,n1,n2⟩:=zHi r L h
 have hr:rdyB J A n=true:=by
  unfold rdyB;rw [qAx];intro m hm;obtain ⟨m1,m2⟩:=qAS.mp hm;refine qAV ?_;rcases I.al m m1 with z| z
  ·exact z
  ·have h1:=n2 m z;have h2:=I.rk n (I.li n n1) m (qAt m2);lia
 have hn:n∈L.filter (rdyB J A):=qAS.mpr ⟨n1,hr⟩;unfold zB7
 cases e:L.filter (rdyB J A) with
 | nil=>rw [e] at hn;cases hn
 | cons x xs =>
  cases b with
  | zero=>lia
  | succ b=>simp
theorem zEr {b:Nat} {A L:List Str} (h:n∈zB7 J b A L):n∈L:=(qAS.mp (qBi h)).1
theorem ListI.next {A L:List Str} (I:ListI J r A L) (b:Nat):ListI J r (zDs J b A L) (zFs J b A L) where
 rk:=I.rk
 an:=zEi _ _ I.an
 ai:=fun n hn=>by
  rcases (zB3 _ _).mp hn with z| z
  ·exact I.ai n z
  ·exact I.li n (zEr z)
 li:=fun n hn=>I.li n (qAS.mp hn).1
 al:=fun n hn=>by
  by_cases z:n∈zDs J b A L
  ·exact .inl z
  ·refine .inr (qAS.mpr ⟨?_,qAV z⟩);rcases I.al n hn with q| q
   ·exact absurd ((zB3 _ _).mpr (.inl q)) z
   ·exact q
theorem ListI.less {A L:List Str} (I:ListI J r A L) {b:Nat} (hb:1<=b) (h:L≠[]):(zFs J b A L).length<L.length:=by
 cases e:zB7 J b A L with
 | nil=>exact absurd e (I.turn hb h)
 | cons x xs =>
  have hx:x∈zB7 J b A L:=by rw [e];exact qAT
  exact zHp (zEr hx) (qAl fun z=>z ((zB3 _ _).mpr (.inr hx)))
def lenAt (i:Nat) (σ:St) (H:Hp):Nat:=match (σ[i]?:Option (Option V)) with
 | some (some (.ref a))=>match H a with
  | some (.lst xs)=>xs.length
  | _=>0
 | _=>0
section
def spListed (C:Addr):Sp:=fun vs H Q _=>∃(j m:Addr) (b:Int) (J:JR) (r:Str->Nat) (ws:List Str),vs=[.ref j,.int b,.ref m]/\JobsAt C H j J/\(∀n∈J.ns,∀x∈J.S n,r x<r n)/\Txs H m ws/\1<=b/\ws.Perm J.ns/\∀(pl:Addr) (as:List Addr) (H':Hp),RowsAt H H' pl as (zEj J b.toNat ws.length [] ws)->Kp [] H H'->Q (.ref pl) H'
abbrev zEv:Stmt:=top 26
theorem zCh:FnScope ["jobs", "benches", "row", "plan", "taken", "left", "ready", "turn"] ["jobs", "benches", "row"] (zAd zEv):=fnS
theorem ok_listed {f:Addr} (F:Fun K "listed" "listed" zEv f fd) (T:Txt K mg) (U:JC K mg C) (M_names:Mth P w K mg base C "names" 1 ["self"] (zGt C)) (C_check_benches:Cal P w K mg base "check_benches" 2 ["benches"] spBench)
  (C_check_row:Cal P w K mg base "check_row" 2 ["names", "row"] zH9) (C_is_ready:Cal P w K mg base "is_ready" 4 ["jobs", "earlier", "name"] (spReady C)) (C_take:Cal P w K mg base "take" 1 ["taken", "row"] spPTake):FnOk P w K mg base CX0 5 f fd ["jobs", "benches", "row"] (spListed C):=by
 refine F.ok zCh (fun vs H Q E h=>?_) (fun cdv A outer s H vs Q E hr h=>?_)
 ·obtain ⟨j,m,b,J,r,ws,rfl,_⟩:=h;rfl
 ·obtain ⟨j,m,b,J,r,ws,rfl,A0,hrk,hm,hb,hp,k⟩:=h;have hu:=zDw hr;have hr2:=hr.mono (j:=2) (by decide);have hr1:=hr.mono (j:=1) (by decide);have HR_is_ready:Room 4 _:=hr
  refine ⟨_,(zAc (zAu (zAf C_check_benches hr2 rfl (zAa (pv 1) zAb)))
   (zAc (zAu (zAf C_check_row hr2 rfl (zAa (zDq M_names U.cl hr1 (pv 0)) (zAa (pv 2) zAb))))
   (zAc (psS (i:=3) zCh.nd (zBp zAb))
   (zAc (psS (i:=4) zCh.nd zCd)
   (zAc (psS (i:=5) zCh.nd (zAq zAv (by rfl) T.z_list zC3 (zAa (pv 2) zAb)))
   (zAc (zGl qAk (zIw (pv 5) (fun _=>rfl))
    (zAc (zFq (i:=6) rfl (zBe (sc:=zAd zEv) rfl (by decide +kernel)) (Draws.own (x:= "name") (dtk (i:=0) rfl (dtk (i:=4) rfl Draws.nil))) (zAj (pv 5)) (fun _ _ _ _=>(pgB (i:=0))) (fun _ _ _ _=>(zB8 (zDj (zAf C_is_ready HR_is_ready rfl (zAa (pv 1) (zAa (pv 2) (zAa (pv 0) zAb))))))) (fun _ _ _ _=>(pv 0)) zCh.nd rfl rfl)
    (zAc (psS (i:=7) zCh.nd (pe_slice sl_list (pv 6) po_none (po_some (pv 1))))
    (zAc (zAu (zFr qBH qCC qCD zB2 (pv 3) (zAa (pv 7) zAb)))
    (zAc (zAu (zAf C_take hr1 rfl (zAa (pv 4) (zAa (pv 7) zAb))))
    (zAe (zFq (i:=5) rfl (zBe (sc:=zAd zEv) rfl (by decide +kernel)) (Draws.own (x:= "name") (dtk (i:=4) rfl Draws.nil)) (zAj (pv 5)) (fun _ _ _ _=>(pgB (i:=0))) (fun _ _ _ _=>(zB8 (zIb (zG2 hu (pv 0) (pv 1))))) (fun _ _ _ _=>(pv 0)) zCh.nd rfl rfl)))))))
   (zAe (zAm (pv 3))))))))),?_⟩
  refine ⟨_,rfl,b,rfl,hb,?_⟩;refine ⟨_,rfl,j,J.dx,_,rfl,A0.ob,zHk _ _ _ (by decide +kernel) (by decide +kernel) (by decide +kernel),j,J,rfl,A0,fun a H1 fa h1 k1=>?_⟩;refine ⟨_,rfl,a,m,J.ns,ws,rfl,h1,A0.few,k1 m _ hm (by simp),hp,fun H2 k2=>?_⟩;have k12:=k1.trans k2;refine ⟨(by walk_at "ln"),fun pl hpl=>?_⟩;have fpl:Fre H2 pl:=hpl;refine fun tk htk=>?_;have ftk:Fre (upd H2 pl (.lst [])) tk:=htk;have npt:pl≠tk:=ne_fre ftk upd_same;have k3:Kp [] H (upd (upd H2 pl (.lst [])) tk (.dK [])):=Kp.trans k12 (Kp.trans (Kp.new Kp.refl fpl) (Kp.new Kp.refl ftk));refine ⟨_,rfl,_,_,rfl,.inl (SqL.of (k3 m _ hm (by simp))),fun lf hlf=>?_⟩;have flf:=(show Fre _ lf from hlf);have ntl:tk≠lf:=ne_fre flf upd_same;have npl:pl≠lf:=ne_fre flf ((upd_ne npt).trans upd_same);have fpl0:Fre H pl:=k12.fre fpl (by simp);have ftk0:Fre H tk:=(Kp.trans k12 (Kp.new Kp.refl fpl)).fre ftk (by simp);have hwl:ws.length<=20:=by rw [hp.length_eq];exact A0.few
  show tWhile (fun σ H Q=>tVar 5 σ H fun x H'=>∃k,TruV K x H' k/\Q k H') _ _ _ _
  refine zIn (fun σ H3=>∃(lf:Addr) (D L:List Str) (as:List Addr) (rs:List (List Str)) (f:Nat) (o6 o7:Option V),σ=[some (.ref j),some (.int b),some (.ref m),some (.ref pl),some (.ref tk),some (.ref lf),o6,o7]/\Kp [] H H3/\SetD H3 tk D/\Txs H3 lf L/\RowsAt H H3 pl as rs/\ListI J r D L/\L.length<=f/\f<=20/\rs.length+f<=20/\rs++zEj J b.toNat f D L=zEj J b.toNat ws.length [] ws) (lenAt 5)
   ⟨lf,[],ws,[],[],ws.length,none,none,rfl,Kp.trans k3 (Kp.new Kp.refl flf),(upd_ne ntl).trans upd_same,upd_same,RowsAt.nil ((upd_ne npl).trans ((upd_ne npt).trans upd_same)) fpl0,
    ⟨hrk,qAw,(fun _ h=>nomatch h),fun n hn=>hp.mem_iff.mp hn,fun n hn=>.inr (hp.mem_iff.mpr hn)⟩,qAG _,hwl,by simpa using hwl,rfl⟩ ?_ (fun σ H Q Q' hq hc=>by
    obtain ⟨x,e,b,t,q⟩:=hc;exact ⟨x,e,b,t,hq _ _ q⟩)
  rintro σ H3 ⟨lf,D,L,as,rs,f,o6,o7,rfl,kh,hD,hL,R,I,hf,hf20,hrf,el⟩;refine ⟨_,rfl,_,.inl ⟨_,SqL.of hL,rfl⟩,?_⟩;have hLl:L.length<=20:=by lia
  have A3:=A0.kp0 kh;refine ite2 (fun c=>?_) (fun c=>?_)
  ·have cL:L≠[]:=fun z=>by rw [z] at c;simp at c
   refine ⟨_,rfl,_,rfl,⟨_,SqL.of hL⟩,fun B hB=>zBd (L.map V.str) (fun i ys τ H4=>(∃o0,τ=[o0,some (.ref j),some (.ref tk)])/\ys=((L.take i).filter (rdyB J D)).map V.str/\Kp [] H3 H4/\H4 B=some (.lst ys))
    ⟨⟨_,rfl⟩,rfl,Kp.new Kp.refl hB,upd_same⟩ (fun i ys τ H4 ⟨_,_,k4,_⟩=>SqL.of (k4 lf _ hL (by simp))) ?_ ?_⟩
   ·rintro i y ys τ H4 hy ⟨⟨o0,rfl⟩,rfl,k4,h4⟩;obtain ⟨n,en,rfl⟩:=zA0 hy;have mn:=I.li n (qAO en);refine ⟨_,rfl,_,rfl,_,rfl,j,tk,J,D,n,rfl,A3.kp0 k4,k4 tk _ hD (by simp),mn,fun H5 k5=>?_⟩;have h5:=k5 B _ h4 (by simp);refine ⟨_,rfl,ite2 (fun c=>?_) (fun c=>?_)⟩
    ·refine ⟨_,rfl,h5,?_,⟨_,rfl⟩,?_,Kp.new (k4.trans k5) hB,upd_same⟩
     ·rw [qAE];exact zCe (by lia)
     ·rw [zBs en c,qAQ];rfl
    ·refine ⟨⟨_,rfl⟩,?_,k4.trans k5,h5⟩;rw [zCn en c]
   ·rintro ys τ H4 ⟨_,rfl,k4,h4⟩;have eT:L.take (L.map V.str).length=L:=by rw [qAE,qAi]
    rw [eT] at h4;refine ⟨_,rfl,_,rfl,_,rfl,_,_,rfl,SqL.of h4,fun tn htn=>?_⟩;have ftn:Fre H4 tn:=htn
    have ecut:cutV ((L.filter (rdyB J D)).map V.str) none (some b)=(zB7 J b.toNat D L).map V.str:=by
     rw [cut_to _ (by lia),<-qDG];rfl
    rw [ecut];have k5:Kp [] H3 (upd H4 tn (.lst ((zB7 J b.toNat D L).map V.str))):=Kp.trans k4 (Kp.new Kp.refl ftn);have e5:upd H4 tn (.lst ((zB7 J b.toNat D L).map V.str)) tn=some (.lst ((zB7 J b.toNat D L).map V.str)):=upd_same;have ftn3:Fre H3 tn:=k4.fre ftn (by simp);have ntp:tn≠pl:=(ne_fre ftn3 R.top).symm;have ntt:tn≠tk:=(ne_fre ftn3 hD).symm;generalize upd H4 tn (.lst ((zB7 J b.toNat D L).map V.str))=H5 at k5 e5;have R5:=R.kp k5 (by simp) (fun _ _=>by simp);refine ⟨_,rfl,.inl ⟨rfl,_,SqL.of R5.top⟩,_,rfl,_,_,_,rfl,rfl,R5.top,?_,?_⟩
    ·rw [qAE,R5.len,qAK];lia
    have fD5:SetD H5 tk D:=k5 tk _ hD (by simp)
    have ntpl:tk≠pl:=fun z=>by
     have h2:H5 pl=some (.dK (dT1 D fun _=>.bl true)):=by rw [<-z];exact fD5
     rw [R5.top] at h2;cases h2
    have nlpl:lf≠pl\/True:=.inr trivial;have k6:Kp [pl] H5 (upd H5 pl (.lst (as.map V.ref++[.ref tn]))):=Kp.put Kp.refl (by simp);have R6:=R5.more e5 ntp (kh.fre ftn3 (by simp));have e6:upd H5 pl (.lst (as.map V.ref++[.ref tn])) tn=some (.lst ((zB7 J b.toNat D L).map V.str)):=(upd_ne ntp).trans e5;have hL5:=k5 lf _ hL (by simp);have D6:SetD (upd H5 pl (.lst (as.map V.ref++[.ref tn]))) tk D:=(upd_ne ntpl).trans fD5;generalize hH6:upd H5 pl (.lst (as.map V.ref++[.ref tn]))=H6 at k6 R6 e6 D6;have hDl:D.length<=20:=qAX (zDm I.an I.ai) A0.few
    have htl:(zB7 J b.toNat D L).length<=20:=by
     have h1:(zB7 J b.toNat D L).length<=(L.filter (rdyB J D)).length:=by
      unfold zB7;rw [qAe];lia
     have h2:=qAy (rdyB J D) L;lia
    refine ⟨_,rfl,_,rfl,tk,tn,D,zB7 J b.toNat D L,rfl,D6,e6,by lia,fun H7 h7 k7=>?_⟩
    have K56:Kp [] H H6:=by
     rw [<-hH6];exact Kp.new (kh.trans k5) fpl0
    have K7:Kp [] H H7:=Kp.drop K56 ftk0 k7
    have nast:∀x∈as++[tn],x∉[tk]:=fun x hx=>nm1 fun z=>by
     obtain ⟨q,_,e⟩:=R6.mem hx;rw [z,show H6 tk=_ from D6] at e;cases e
    have R7:=R6.kp k7 (nm1 ntpl.symm) nast;have hfin:∀(lf7:Txs H7 lf L),True:=fun _=>trivial
    by_cases nlp:lf=pl
    ·exfalso;rw [nlp,R5.top] at hL5
     cases as with
     | nil =>
      have:L=[]:=by
       have h2:([]:List V)=L.map V.str:=by injection hL5 with h;injection h
       exact List.map_eq_nil_iff.mp h2.symm
      exact cL this
     | cons x xs =>
      cases L with
      | nil=>exact cL rfl
      | cons y ys =>
       injection hL5 with h;injection h with h;simp at h
    have nlt:lf≠tk:=fun z=>by
     rw [z,show H5 tk=_ from fD5] at hL5;cases hL5
    have hL7:Txs H7 lf L:=k7 lf _ (by rw [<-hH6];exact (upd_ne nlp).trans hL5) (nm1 nlt);have hnA:SetD H7 tk (zDs J b.toNat D L):=h7
    refine ⟨_,rfl,_,rfl,⟨_,SqL.of hL7⟩,fun B2 hB2=>zBd (L.map V.str) (fun i ys τ H8=>(∃o0,τ=[o0,some (.ref tk)])/\ys=((L.take i).filter fun n=>decide (n∉zDs J b.toNat D L)).map V.str/\H8=upd H7 B2 (.lst ys))
     ⟨⟨_,rfl⟩,rfl,rfl⟩ (fun i ys τ H8 ⟨_,_,e⟩=>by subst e;exact SqL.of ((upd_ne (ne_fre (show Fre H7 B2 from hB2) hL7)).trans hL7)) ?_ ?_⟩
    ·rintro i y ys τ H8 hy ⟨⟨o0,rfl⟩,rfl,rfl⟩;obtain ⟨n,en,rfl⟩:=zA0 hy;refine ⟨_,rfl,_,rfl,_,_,rfl,DGet.k (k:=Sum.inr n) ((upd_ne (ne_fre (show Fre H7 B2 from hB2) hnA)).trans hnA),_,rfl,?_⟩;rw [zHo]
     have ed:(!decide (n∈zDs J b.toNat D L))=decide (n∉zDs J b.toNat D L):=by
      by_cases z:n∈zDs J b.toNat D L<;>simp [z]
     rw [ed];refine ite2 (fun c=>?_) (fun c=>?_)
     ·refine ⟨_,rfl,upd_same,?_,⟨_,rfl⟩,?_,zBg⟩
      ·rw [qAE];exact zCe (by lia)
      ·rw [zBs en c,qAQ];rfl
     ·refine ⟨⟨_,rfl⟩,?_,rfl⟩;rw [zCn en c]
    ·rintro ys τ H8 ⟨_,rfl,rfl⟩;rw [eT];have fB2:Fre H7 B2:=hB2;have k8:Kp [] H7 (upd H7 B2 (.lst ((zFs J b.toNat D L).map V.str))):=Kp.new Kp.refl fB2;have hless:=I.less (b:=b.toNat) (by lia) cL
     obtain ⟨f',rfl⟩:∃f',f=f'+1:=⟨f - 1,by
      have:1<=L.length:=qDS.mpr cL;lia⟩
     refine ⟨⟨B2,zDs J b.toNat D L,zFs J b.toNat D L,as++[tn],rs++[zB7 J b.toNat D L],f',_,_,rfl,K7.trans k8,k8 tk _ hnA (by simp),upd_same,R7.kp k8 (by simp) (fun _ _=>by simp),I.next _,by lia,by lia,by simp;lia,?_⟩,?_⟩
     ·rw [<-el];show _=rs++(if L=[] then [] else _);rw [qAB cL,qBp];rfl
     ·show lenAt 5 [_,_,_,_,_,some (V.ref B2),_,_] _<lenAt 5 [_,_,_,_,_,some (V.ref lf),_,_] _
      have e1:lenAt 5 [some (V.ref j),some (.int b),some (.ref m),some (.ref pl),some (.ref tk),some (V.ref B2),some (.ref B),some (.ref tn)] (upd H7 B2 (.lst ((zFs J b.toNat D L).map V.str)))=(zFs J b.toNat D L).length:=by
       show (match (upd H7 B2 (.lst ((zFs J b.toNat D L).map V.str))) B2 with| some (.lst xs)=>xs.length| _=>0)=_;rw [upd_same];simp
      have e2:lenAt 5 [some (V.ref j),some (.int b),some (.ref m),some (.ref pl),some (.ref tk),some (V.ref lf),o6,o7] H3=L.length:=by
       show (match H3 lf with| some (.lst xs)=>xs.length| _=>0)=_;rw [hL];simp
      show lenAt 5 [some (V.ref j),some (.int b),some (.ref m),some (.ref pl),some (.ref tk),some (V.ref B2),some (.ref B),some (.ref tn)] _<lenAt 5 [some (V.ref j),some (.int b),some (.ref m),some (.ref pl),some (.ref tk),some (V.ref lf),o6,o7] H3;rw [e2];exact qC7 (qBN e1) hless
  ·have cL:L=[]:=by
    cases L with
    | nil=>rfl
    | cons x xs=>exact absurd rfl c
   subst cL;rw [listB_nil,qBI] at el;subst el;exact ⟨_,rfl,k pl as H3 R kh⟩
end
structure TurnOk (J:JR) (b:Int) (A r:List Str):Prop where
 ns:∀n∈r,n∈J.ns
 nd:r.Nodup
 nw:∀n∈r,n∉A
 rd:∀n∈r,rdyB J A n=true
 fit:(r.length:Int)<=b
theorem rdy_congr {A B:List Str} (h:∀n,n∈A↔n∈B) (n:Str):rdyB J A n=rdyB J B n:=by
 unfold rdyB;congr 1;funext m;exact qCv.mpr (h m)
abbrev AF (rs:List (List Str)) (A:List Str):List Str:=rs.foldl (fun A r=>r.foldl addA A) A
structure RightI (J:JR) (b:Int) (rs:List (List Str)):Prop where
 at':∀(i:Nat) (r:List Str),rs[i]?=some r->TurnOk J b (AF (rs.take i) []) r
 all:∀n∈J.ns,n∈AF rs []
theorem thaw_kp {H2:Hp} {kvs:List (Key×V)} (hd:H d=some (.dK kvs)) (k:Kp [d] H H2):Kp [] H (upd H2 d (.dK kvs)):=fun c o h n=>by
 by_cases e:c=d
 ·subst e;rw [hd] at h;cases h;exact upd_same
 ·rw [upd_ne e];exact k c o h (nm1 e)
def tFrz (t:TS):TS:=fun D σ H=>∃a kvs,H a=some (.dK kvs)/\∀o,t (thawE D a o kvs) σ (upd H a (.frz o (.dK kvs)))
theorem ps_frzN {st:Stmt} {t:TS} (h:PS X st t):PS X st (tFrz t):=ps_frz h
theorem zB4 :∀(rs:List (List Str)) (A:List Str),n∈AF rs A↔n∈A\/∃r∈rs,n∈r
 | [],A=>by simp
 | q::rs,A=>by
  show n∈AF rs (q.foldl addA A)↔_;rw [zB4 rs,zB3];constructor
  ·rintro ((h| h)| ⟨r,hr,h⟩)
   ·exact .inl h
   ·exact .inr ⟨q,qAT,h⟩
   ·exact .inr ⟨r,qAR _ hr,h⟩
  ·rintro (h| ⟨r,hr,h⟩)
   ·exact .inl (.inl h)
   ·rcases qAN.mp hr with z| z
    ·subst z;exact .inl (.inr h)
    ·exact .inr ⟨r,z,h⟩
def tI:List (List Str)->Str->Nat
 | [],_=>0
 | r::rs,n=>if n∈r then 0 else tI rs n+1
theorem tI_eq :∀{rs:List (List Str)} {i:Nat} {r:List Str},rs[i]?=some r->n∈r->(∀q∈rs.take i,n∉q)->tI rs n=i
 | [],i,r,h,_,_=>by simp at h
 | q::rs,0,r,h,hn,_=>by
  have e:q=r:=by simpa using h
  subst e;exact qAC hn
 | q::rs,i+1,r,h,hn,hq=>by
  have:n∉q:=hq q (by rw [qDT];exact qAT);show (if n∈q then 0 else tI rs n+1)=i+1;rw [qAB this,tI_eq (by simpa using h) hn fun p hp=>hq p (by rw [qDT];exact qAR _ hp)]
theorem tI_lt :∀{rs:List (List Str)} {i:Nat} {q:List Str},q∈rs.take i->n∈q->tI rs n<i
 | [],i,q,h,_=>by simp at h
 | p::rs,0,q,h,_=>by simp at h
 | p::rs,i+1,q,h,hn=>by
  show (if n∈p then 0 else tI rs n+1)<i+1;rw [qDT] at h
  by_cases c:n∈p
  ·rw [qAC c];lia
  ·rw [qAB c];rcases qAN.mp h with z| z
   ·subst z;exact absurd hn c
   ·have:=tI_lt z hn;lia
theorem tI_at :∀{rs:List (List Str)},(∃r∈rs,n∈r)->∃r,rs[tI rs n]?=some r/\n∈r
 | [],⟨r,h,_⟩=>nomatch h
 | p::rs,⟨r,h,hn⟩=>by
  by_cases c:n∈p
  ·have e:tI (p::rs) n=0:=qAC c;rw [e];exact ⟨p,rfl,c⟩
  ·have e:tI (p::rs) n=tI rs n+1:=qAB c;rw [e];rcases qAN.mp h with z| z
   ·subst z;exact absurd hn c
   ·obtain ⟨r',h1,h2⟩:=tI_at ⟨r,z,hn⟩;exact ⟨r',by simpa using h1,h2⟩
theorem zIv {b:Int} {rs:List (List Str)} (R:RightI J b rs) (hn:n∈J.ns) (hy:y∈J.ns) (h:n∈J.S y):tI rs n<tI rs y:=by
 have h1:=(zB4 rs []).mp (R.all y hy);obtain ⟨r,e,hr⟩:=tI_at (h1.resolve_left (by simp));have ok:=R.at' _ r e;have rd:=ok.rd y hr;unfold rdyB at rd;have:=qAt (qAx.mp rd n (qAS.mpr ⟨hn,qAV h⟩));obtain ⟨q,hq,hnq⟩:=((zB4 _ []).mp this).resolve_left (by simp);exact tI_lt hq hnq
end My
namespace SM
open PySem PyProof.Rows ST
section
variable {prog:Program} {w:World} {A:Around} {E:Value->Shared->Prop} {s:Shared} {a kS:Addr} {vs:List Value} {kz:List Int} {keys:Array Value} {e e1:Nat} {P:PySem.Fin->Shared->Prop}
theorem k_tail {st:SortSt} (nk:s.heap.get? kS=some (seqObj "list" keys e)) (na:s.heap.get? a=some (seqObj "list" #[] e1)) (hka:kS≠a)
  (hk:IntsAre keys.toList kz) (hlen:kz.length=vs.length) (h64:vs.length<64) (hp:(arrOf st).Perm (keys.zip vs.toArray)) (hs:SortedTo (arrOf st) (arrOf st).size) (hfl:failedOf st=none)
  (h:∀h' tk out c,(∀b o,b≠kS->b≠a->s.heap.get? b=some o->h'.get? b=some o)->h'.get? a=some (seqObj "list" out c)->KskOut false kz vs out.toList->P (.done (.ret .none)) {s with heap:=h',toks:=tk}) :
  wpAny (model prog w) A (ksk_tail a false e1 (.ref kS) st) P E s:=by
 have hsz:keys.size=vs.length:=by
  have h1:=hk.length;rw [qBC] at h1;lia
 have hsz2:(arrOf st).size=vs.length:=by rw [hp.size_eq,qDU,hsz,qAM,qCw]
 have hout:((arrOf st).map (·.2)).size=vs.length:=by rw [Array.size_map];exact hsz2
 have ko:KskOut false kz vs ((arrOf st).map (·.2)).toList:=ksk_out (b:=false) hk hp hs;unfold ksk_tail;simp only [qBl,qBG];generalize (arrOf st).map (·.2)=out at hout ko;have s1:=qAj s.heap kS (Obj.mapSeq fun _=>(#[]:Array Value));have na1:(s.heap.update kS (Obj.mapSeq fun _=>(#[]:Array Value))).get? a=some (seqObj "list" #[] e1):=(s1.2 a hka.symm).trans na;have s2:=qAj (s.heap.update kS (Obj.mapSeq fun _=>(#[]:Array Value))) a (Obj.mapSeq fun _=>out);have hc2:=qBS na1 fun _=>out;refine qAA (qBU nk rfl ?_ (by rw [hsz,qAK];lia) (qAY _));refine qAA (qCH ?_);refine qAA (qCF na1 rfl ?_);refine qAA (qBU na1 rfl ?_ (qAY _) (qAX (qBN hout) (by rw [qAK];lia)));rw [hfl];simp only [qDR,qBl,qBG];exact qAD (h _ _ out _ (fun b o n1 n2 q=>(s2.2 b n2).trans ((s1.2 b n1).trans q)) hc2 ko)
theorem k_end (nk:s.heap.get? kS=some (seqObj "list" keys e)) (na:s.heap.get? a=some (seqObj "list" #[] e1)) (hka:kS≠a)
  (hk:IntsAre keys.toList kz) (hlen:kz.length=vs.length) (h64:vs.length<64)
  (h:∀h' tk out c,(∀b o,b≠kS->b≠a->s.heap.get? b=some o->h'.get? b=some o)->h'.get? a=some (seqObj "list" out c)->KskOut false kz vs out.toList->P (.done (.ret .none)) {s with heap:=h',toks:=tk}) :
  wpAny (model prog w) A (ksk_end a false vs.toArray e1 (.ref kS) keys) P E s:=by
 have hsz:keys.size=vs.length:=by
  have h1:=hk.length;rw [qBC] at h1;lia
 have hzs:(keys.zip vs.toArray).size=vs.length:=by rw [qDU,hsz,qAM,qCw]
 unfold ksk_end;simp only [qBl,qBG]
 by_cases h2:vs.toArray.size<2
 ·rw [qAC h2,qAC h2];refine qAA (qAD ?_);rw [StateT.run_pure];refine qAA (qAD ?_)
  try dsimp only
  refine k_tail (st:=SortSt.mk' general' (keys.zip vs.toArray) #[] 7 none) nk na hka hk hlen h64 (qCr _) ?_ rfl h;intro i j hij hj;have hj2:j<(keys.zip vs.toArray).size:=hj;rw [hzs] at hj2;rw [qAM] at h2;have:i=j:=by lia
  subst this;exact qCx _
 ·rw [qAB h2,qAB h2];rw [qAM] at h2;rw [ksk_kind hk (by rw [hsz];lia)];refine qAA (qAD ?_)
  refine qAA (qAq (wpS_sortRuns (a₀:=keys.zip vs.toArray) (st:=SortSt.mk' oneType' (keys.zip vs.toArray) #[] 7 none)
   (Q:=fun _ st'=>(arrOf st').Perm (keys.zip vs.toArray)/\failedOf st'=none/\SortedTo (arrOf st') (keys.zip vs.toArray).size)
   (ksk_intKeys hk) ⟨qCr _,rfl,rfl,rfl⟩ (by rw [hzs];lia) (by rw [hzs];exact h64) fun st' a1 a2 a3=>⟨a1,a2,a3⟩) ?_ fun _ _ e=>e)
  rintro ⟨⟨⟩,st'⟩ s' ⟨rfl,hp,hf,hs⟩
  try dsimp only
  exact k_tail nk na hka hk hlen h64 hp (by rw [hp.size_eq];exact hs) hf h
theorem k_rest {f:Value} (J:Shared->Prop) (hJ:J s) (nk:s.heap.get? kS=some (seqObj "list" #[] 0)) (na:s.heap.get? a=some (seqObj "list" #[] e1)) (hka:kS≠a) (hlen:kz.length=vs.length) (h64:vs.length<64)
  (turn:∀(i:Nat) (v:Value) (k:Int),vs[i]?=some v->kz[i]?=some k->∀s',J s' ->
   wpAny (model prog w) A (call f [v]) (fun r s2=>(∃t,r= .int k t)/\J s2/\∀b,b=kS\/b=a->∀o,s'.heap.get? b=some o->s2.heap.get? b=some o) (fun _ _=>False) s')
  (put:∀s' h',J s'->(∀b o,b≠kS->s'.heap.get? b=some o->h'.get? b=some o)->(∃o,h'.get? kS=some o)->J {s' with heap:=h'})
  (h:∀s' h' tk out c,J s'->(∀b o,b≠kS->b≠a->s'.heap.get? b=some o->h'.get? b=some o)->h'.get? a=some (seqObj "list" out c)->KskOut false kz vs out.toList->P (.done (.ret .none)) {s' with heap:=h',toks:=tk}) :
  wpAny (model prog w) A (ksk_rest a f false vs.toArray e1 (.ref kS)) P E s:=by
 unfold ksk_rest;refine qAA (qBL ?_)
 first
  | rw [List.forIn_toArray]
  | (rw [<-qCS];simp only [List.toList_toArray])
  | rw [<-qCS]
 refine qAA (ksk_fold (fun i s'=>J s'/\∃kA e,s'.heap.get? kS=some (seqObj "list" kA e)/\s'.heap.get? a=some (seqObj "list" #[] e1)/\IntsAre kA.toList (kz.take i)) vs 0 s
  ⟨hJ,#[],0,nk,na,by simpa using IntsAre.nil⟩ ?step ?done)
 case step =>
  rintro j x s' hx ⟨hJ',kA,e,nk',na',hk⟩;simp only [qDA] at hk ⊢;have hj:j<vs.length:=(qAd.mp hx).1;obtain ⟨k,hkj⟩:∃k,kz[j]?=some k:=⟨_,qAh (by lia)⟩
  have hz:kA.size<=vs.length:=by
   have h1:=hk.length;rw [qBC,qAe] at h1;lia
  refine qAA (qB7 (qAq (turn j x k hx hkj s' hJ') (fun v s'' he=>?_) fun _ _ hF=>hF.elim));obtain ⟨⟨t2,rfl⟩,J2,kp⟩:=he
  try dsimp only
  have nk2:=kp kS (.inl rfl) _ nk';have na2:=kp a (.inr rfl) _ na';have s1:=qAj s''.heap kS (Obj.mapSeq (·.push (.int k t2)));obtain ⟨c2,hc2⟩:∃c2,(s''.heap.update kS (Obj.mapSeq (·.push (.int k t2)))).get? kS=some (seqObj "list" (kA.push (.int k t2)) c2):=⟨_,qBS nk2 (·.push (.int k t2))⟩;have ek:kz.take (j+1)=kz.take j++[k]:=by rw [List.take_add_one,hkj];simp
  have ea:(kA.push (Value.int k t2)).toList=kA.toList++[Value.int k t2]:=by simp
  refine qAA (qBU nk2 rfl ?_ (by rw [qAK];lia) (qAX (qBN (Array.size_push ..)) (by rw [qAK];lia)));exact qAD ⟨rfl,put s'' _ J2 (fun b o n q=>(s1.2 b n).trans q) ⟨_,hc2⟩,kA.push (.int k t2),c2,hc2,(s1.2 a hka.symm).trans na2,by rw [ea,ek];exact ksk_snoc hk⟩
 case done =>
  rintro s' ⟨hJ',kA,e,nk',na',hk⟩
  have hk':IntsAre kA.toList kz:=by
   have e3:kz.take (0+vs.length)=kz:=qBh (by lia);rw [e3] at hk;exact hk
  try dsimp only
  refine qAA (qCt nk' rfl ?_);exact k_end nk' na' hka hk' hlen h64 fun h3 tk3 out c k3 g3 o3=>h s' h3 tk3 out c hJ' k3 g3 o3
theorem w_sortedK {f:Addr} {v:Value} {Q:Value->Shared->Prop} {Jc:List Value->Shared->Prop} (hc:wpAny (model prog w) A.in1 (collect v) Jc E s)
  (hJ:∀vs s1,Jc vs s1->vs.length<64/\∃(kz:List Int) (J:Shared->Prop),kz.length=vs.length /\
   (∀h',(∀b o,s1.heap.get? b=some o->h'.get? b=some o)->(∃o,h'.get? s1.heap.objs.size=some o)->(∃o,h'.get? (s1.heap.objs.size+2)=some o)->J {s1 with heap:=h'}) /\
   (∀(i:Nat) (v:Value) (k:Int),vs[i]?=some v->kz[i]?=some k->∀s',J s'->wpAny (model prog w) A.in1.in1 (call (.ref f) [v]) (fun r s2=>(∃t,r= .int k t)/\J s2/\∀b,b=s1.heap.objs.size+2\/b=s1.heap.objs.size->∀o,s'.heap.get? b=some o->s2.heap.get? b=some o) (fun _ _=>False) s') /\
   (∀s' h',J s'->(∀b o,b≠s1.heap.objs.size+2->s'.heap.get? b=some o->h'.get? b=some o)->(∃o,h'.get? (s1.heap.objs.size+2)=some o)->J {s' with heap:=h'}) /\
   ∀s' h' tk out c,J s'->(∀b o,b≠s1.heap.objs.size+2->b≠s1.heap.objs.size->s'.heap.get? b=some o->h'.get? b=some o)->h'.get? s1.heap.objs.size=some (seqObj "list" out c)->KskOut false kz vs out.toList->Q (.ref s1.heap.objs.size) {s' with heap:=h',toks:=tk}) :
  wpAny (model prog w) A (call (.builtin "sorted") [v] [(Str.ofString "key",.ref f)]) Q E s:=by
 refine call_function_entry_kw kind_sorted plain_sorted entry_sorted (ksk_s1 _ _) ?_;unfold Builtin.«sorted»;refine qAA (m:=checkCount "sorted" 1 1 _) (qAD ?_);refine qAA (qAq hc (fun vs s1 j=>?_) fun _ _ x=>x);obtain ⟨j1,kz,J,j2,j3,j4,j5,j6⟩:=hJ vs s1 j;refine qAA (qCG ?_ (by rw [qAK];lia));have hD:(s1.heap.push (seqObj "list" vs.toArray 0)).get? s1.heap.objs.size=some (seqObj "list" vs.toArray 0):=qAb _ rfl;change wpAny _ _ _ _ _ {s1 with heap:=s1.heap.push (seqObj "list" vs.toArray 0)};have ne:∀b o,s1.heap.get? b=some o->b≠s1.heap.objs.size:=fun b o q=>qAZ (qAL q);refine qAA (qAz (wpAny_call_entry_kw slot_list_sort ⟨_,hD,rfl⟩ entry_list_sort ?body (ksk_l1 _ _)))
 case body =>
  rw [ksk_t1];have ha:s1.heap.objs.size<(s1.heap.push (seqObj "list" vs.toArray 0)).objs.size:=qAL hD;have s2:=qAj (s1.heap.push (seqObj "list" vs.toArray 0)) s1.heap.objs.size (Obj.mapSeq fun _=>(#[]:Array Value));obtain ⟨e1,ho1⟩:∃e1,((s1.heap.push (seqObj "list" vs.toArray 0)).update s1.heap.objs.size (Obj.mapSeq fun _=>(#[]:Array Value))).get? s1.heap.objs.size=some (seqObj "list" #[] e1):=⟨_,qBS hD fun _=>#[]⟩;have hkS:(((s1.heap.push (seqObj "list" vs.toArray 0)).update s1.heap.objs.size (Obj.mapSeq fun _=>(#[]:Array Value))).push (seqObj "tuple" vs.toArray 0)).objs.size=s1.heap.objs.size+2:=by rw [size_push',Heap.size_update,size_push']
  unfold ksk_tree;refine qAA (qCt hD rfl ?_);refine qAA (qBU hD rfl ?_ (by rw [qAM,qAK];lia) (qAY _));refine qAA (qCF ho1 rfl ?_);refine qAA (qDN ?_ (by show vs.length<=_;rw [qAK];lia));refine qAA (qCG ?_ (qAY _));refine qAz ?_;rw [hkS];refine k_rest (kS:=s1.heap.objs.size+2) (a:=s1.heap.objs.size) (s:={s1 with heap:=(((s1.heap.push (seqObj "list" vs.toArray 0)).update s1.heap.objs.size (Obj.mapSeq fun _=>(#[]:Array Value))).push (seqObj "tuple" vs.toArray 0)).push (seqObj "list" #[] 0)}) J (j3 _ (fun b o q=>?_) ⟨_,qAJ _ (qAJ _ ho1)⟩ ⟨seqObj "list" #[] 0,by rw [<-hkS];exact qAb _ rfl⟩) (by rw [<-hkS];exact qAb _ rfl) (qAJ _ (qAJ _ ho1)) (qBD (qBq (qB3 _))) j2 j1 j4 j5 fun s' h' tk out c jj kk gg oo=>?_
  ·exact qAJ _ (qAJ _ ((s2.2 b (ne b o q)).trans (qAJ _ q)))
  ·exact ⟨_,rfl,qAD ⟨_,rfl,j6 s' h' tk out c jj kk gg oo⟩⟩
end
end SM
namespace L2
open PySem PySem.Spec PyProof.Rows
section
variable {X:Cx} {pins:List (Addr×Obj)} {σ:St} {H:Hp} {s:Shared}
def tSortM (ta:TA) (iy:Nat) (P:Addr) (qual:Str) (lp:Pos) (te:TE):TE:=fun σ H Q=>ta σ H fun xs H1=>∃(a:Addr) (ks:List Str) (g:Str->Int) (vy:V),xs=[.ref a]/\σ[iy]?=some (some vy)/\H1 a=some (.lst (ks.map V.str))/\ks.length<64/\Tab0 H1 P qual lp /\
 ∀H2,Kp [P] H1 H2->Tab1 H2 P qual lp->(∀x∈ks,∀H',Kp [] H2 H'->te [some (.str x),some vy] H' fun r H3=>r= .int (g x)/\Kp [] H' H3)/\∀(b:Addr) (zs:List Str) (H3:Hp),Kp [] H2 H3->H3 b=none->zs.Perm ks->zs.Pairwise (fun x y=>g x<=g y)->Q (.ref b) (upd H3 b (.lst (zs.map V.str)))
theorem pe_sortedM {e:Expr} {ta:TA} {p pos kp lp:Pos} {params:Arguments} {body:Expr} {scope:Scope} {x y qual:Str} {c c0 P:Addr} {iy:Nat} {te:TE} {k:Nat} (hr:Room (k+3) X.A) (hc':X.calm=true) (hg:Gl X "sorted") (hm:X.mg "sorted" = none) (hb:bootBuiltins "sorted" = some (.builtin "sorted")) (ha:PA X [e] ta)
  (S:LamScope x y scope) (ne:x≠y) (hN:X.N[iy]?=some y) (hk:X.env.kindOf y=some .cell) (hy:X.env.cells.lookup y=some c) (hcl:closureFor scope X.env=pure [(y,c)]) (hq:X.env.qual++ "<lambda>" = qual) (hcode:X.env.code= .ref c0) (C:PySem.W.CodeHd X.base c0 P) (B:zHt X.mg X.base)
  (hdef:defaultsOf params X.env=([],[])) (hbind:∀(pm:Value) (c':Addr) (ctv u:Value),bindArgs (PySem.W.kla_fn "<lambda>" qual params body scope [(y,c)] pm (.ref c') ctv) ⟨[u],[]⟩=pure [(x,u)])
  (ht:∀(f:Addr) (cd:Value) (A:Around) (s:Shared) (H:Hp),Room k (A.deeper (PySem.W.envX qual scope s.heap.objs.size f cd [(y,c)]))->PE (cxLam X [x,y] qual scope f cd [(y,c)] A s H) body te) (hs:starEach [e] X.env=[(false,eval e X.env)]:=by rfl) :
  PE X (.Call (.Name "sorted" p) [e] [⟨some (Str.ofString "key"),.Lambda params body scope lp,kp⟩] pos) (tSortM ta iy P qual lp te):=by
 intro pins s σ H Q I h;refine qB4 (zF6 I hg hm hb ?_);refine qDo (by rw [hs];rfl) rfl ?_;have ha':=ha pos pins s σ H _ I h;have e0:backTo pos (starEach [e] X.env)=(false,eval e X.env)::[]:=by rw [hs];rfl
 rw [e0] at ha' ⊢;refine evalArgs_kwB rfl (thn ha' fun us s1 ⟨vs,H1,I1,r1,q1⟩=>?_);obtain ⟨a,ks,g,vy,e1,hσ,ea,hl64,T,q⟩:=q1;subst e1;obtain ⟨u,rfl,ru⟩:=r1.one
 cases ru
 show wpAny _ _ (evalAll ((do let v<-eval (.Lambda params body scope lp) X.env;standAt pos;pure v)::[])) _ _ s1;refine qC3 (qAA (PySem.W.kla_eval hdef ?_));rw [hq];refine lam_make I1 hcl hcode C B T fun f c' ctv pm H2 s2 I2 k2 T2 ec fo ff=>?_;refine qAA (qB0 (qAD (wpAny_evalAll_nil ?_)));obtain ⟨qb,qr⟩:=q H2 k2 T2
 have naP:a≠P:=fun z=>by
  rcases T with t| ⟨_,t,_⟩
  ·rw [z,t] at ea;cases ea
  ·rw [z,t] at ea;cases ea
 have ea2:H2 a=some (.lst (ks.map V.str)):=k2 a _ ea (by simp [naP]);obtain ⟨its0,r',pl,hz0⟩:=I2.list (SqL.of (K:=X.K) ea2);have hS0:=zEp r';have hln0:its0.length=ks.length:=ST.strs_len hS0
 refine SM.w_sortedK
  (Jc:=fun its s1=>StrsAre its ks/\∃h1 tk,s1={s2 with heap:=h1,toks:=tk}/\∀b o,s2.heap.get? b=some o->h1.get? b=some o)
  (collect_list pl.isList ⟨hS0,_,_,rfl,fun b o e=>?_⟩ (by rw [qAK];lia)) fun its s3 ⟨hS,h1,tk,v2,v3⟩=>?_
 ·have hlt:=qAL e;rw [qBo _ _ (qBD hlt)];exact qAJ _ e
 ·subst v2;have hln:its.length=ks.length:=ST.strs_len hS;have I3:Inv X pins σ H2 {s2 with heap:=h1,toks:=tk}:=I2.kept v3;have fo3:h1.get? f=some _:=v3 _ _ fo;have flt:f<h1.objs.size:=qAL fo3;have fa:FpOk X pins H2 h1.objs.size:=I3.fpOk (qAG _) (I3.hok.fresh (qAG _));have fk:FpOk X pins H2 (h1.objs.size+2):=I3.fpOk (qBX _ _) (I3.hok.fresh (qBX _ _));have ff3:H2 f=none:=ff.1;refine ⟨by lia,ks.map g,fun s'=>∃H',Kp [] H2 H'/\Inv X pins σ H' s'/\s'.heap.get? f=some (PySem.W.kla_obj "<lambda>" qual params body scope [(y,c)] pm c' ctv)/\H' f=none/\H' h1.objs.size=none/\H' (h1.objs.size+2)=none/\(∃o,s'.heap.get? h1.objs.size=some o)/\∃o,s'.heap.get? (h1.objs.size+2)=some o,by rw [qAE,hln],fun h' up ha hk=>⟨H2,Kp.refl,I3.kept (t':=tk) up,up _ _ fo3,ff3,fa.1,fk.1,ha,hk⟩,?_,?_,?_⟩
  ·rintro i v kx hv hkx s' ⟨H4,k4,I4,fo4,ff4,fa4,fk4,⟨oa,ha4⟩,ok',hk4⟩;rw [qAW] at hkx;obtain ⟨x',ex',rfl⟩:=qA6.mp hkx
   obtain ⟨t,rfl⟩:∃t,v= .str x' t:=by
    have h1:=hS.all v (qAO hv);obtain ⟨x2,t,rfl⟩:=h1;have h2:(its.map strOf)[i]?=some x2:=by rw [qAW,hv];rfl
    rw [hS.strs,ex'] at h2
    cases h2
    exact ⟨t,rfl⟩
   obtain ⟨uy,ry,iy'⟩:=I4.cellAt hN hσ hk hy;have hr2:Room (k+1) X.A.in1.in1:=Room.in1 (Room.in1 hr);have fa':FpOk X pins H4 h1.objs.size:=⟨fa4,fa.2⟩;have fk':FpOk X pins H4 (h1.objs.size+2):=⟨fk4,fk.2⟩;have ff':FpOk X pins H4 f:=⟨ff4,ff.2⟩;refine qAq (lam_call (A:=X.A.in1.in1) (vx:=.str x') I4 I4.ok.frames hr2.hd hr2.depth fo4 (codeO_rec I4 (k4 _ _ ec (by simp))) S ne (hbind _ _ _ _) hy iy' ry ⟨t,rfl⟩ (ht _ _ _ _ _ (hr2.deeper _)) (qb x' (qAO ex') H4 k4)) (fun r s5 hE=>?_) fun _ _ hF=>hF;obtain ⟨v,H5,os,bare,un,hok5,rv,qv,qh⟩:=hE;subst qv;obtain ⟨t',rfl⟩:=rv;have keepA:=un.keep _ _ ha4 fa'.1 (fa'.nstk I4) (by simp);have keepK:=un.keep _ _ hk4 fk'.1 (fk'.nstk I4) (by simp);refine ⟨⟨t',rfl⟩,⟨H5,k4.trans qh,I4.call' os un hok5 bare (fun b z=>nomatch z),un.keep _ _ fo4 ff'.1 (ff'.nstk I4) (by simp),un.free _ _ fo4 ff'.1 (by simp),un.free _ _ ha4 fa'.1 (by simp),un.free _ _ hk4 fk'.1 (by simp),⟨_,keepA⟩,_,keepK⟩,fun b hb o qo=>?_⟩;rcases hb with rfl| rfl
   ·exact un.keep _ _ qo fk'.1 (fk'.nstk I4) (by simp)
   ·exact un.keep _ _ qo fa'.1 (fa'.nstk I4) (by simp)
  ·rintro s' h' ⟨H4,k4,I4,fo4,ff4,fa4,fk4,⟨oa,ha4⟩,ok',hk4⟩ kk hex;exact ⟨H4,k4,I4.turned (t':=s'.toks) kk fk4 fk.2.1 fk.2.2.2.1 fk.2.2.2.2.1 fk.2.2.2.2.2,kk _ _ (qAZ (qAp flt (qBX _ _))) fo4,ff4,fa4,fk4,⟨_,kk _ _ (qAZ (Nat.lt_add_of_pos_right (by decide))) ha4⟩,hex⟩
  ·rintro s' h' tk' out c2 ⟨H4,k4,I4,fo4,ff4,fa4,fk4,_,_⟩ kk gg ⟨ps,pp,po,pw⟩;have hp':∀p∈ps,∃x t,x∈ks/\p=(g x,.str x t):=fun p hp=>zIm hS p (pp.mem_iff.mp hp)
   have hall:∀v∈out.toList,∃x t,v= .str x t:=fun v hv=>by
    rw [po] at hv;obtain ⟨p,hp,rfl⟩:=qAH.mp hv;obtain ⟨x,t,_,e⟩:=hp' p hp;exact ⟨x,t,by rw [e]⟩
   have hO:=strsAre_map out.toList hall
   have hpz:(out.toList.map strOf).Perm ks:=by
    have h1:(ps.map Prod.snd).Perm its:=by
     have:=pp.map Prod.snd
     rwa [List.map_snd_zip (by rw [qAE,hln];exact qAG _)] at this
    rw [po];have:=h1.map strOf
    rwa [hS.strs] at this
   have hsr:(out.toList.map strOf).Pairwise (fun x y=>g x<=g y):=by
    rw [po,qA1,qDD];refine pw.imp_of_mem fun {p q} hp hq z=>?_;obtain ⟨x,t,_,e⟩:=hp' p hp;obtain ⟨x',t',_,e'⟩:=hp' q hq;subst e e';exact z
   have hz:((out.toList.map strOf).map V.str).length<=sizeLine:=by rw [qAE,hpz.length_eq,qAK];lia
   have un:Un (frs X.stack) [h1.objs.size+2,h1.objs.size] H4 H4 s'.heap h':=by
    have k':∀b o,b∉([h1.objs.size+2,h1.objs.size]:List Addr)->s'.heap.get? b=some o->h'.get? b=some o:=fun b o n q=>kk b o (fun z=>n (by simp [z])) (fun z=>n (by simp [z])) q;exact ⟨fun b o q n _ x=>k' b o x q,fun b o q n _ x=>⟨o.slots,k' b o x q⟩,fun b o q n _=>n,fun b o q x=>⟨o,k' b o x q⟩,fun _ _ q=>q,fun _ _ _ q=>q,fun b ps q=>⟨#[],by rw [q];simp⟩⟩
   have hok2:HOk X.prog X.w H4 h':=fun b o q=>by
    refine (I4.hok b o q).stay (fun d v hd y=>?_) (fun _ y=>y) fun _ _ y=>y
    have nn:H4 d≠none:=by
     rcases hd with rfl| hd
     ·rw [q];simp
     ·rw [hd];simp
    exact kk d v (fun z=>nn (by rw [z];exact fk4)) (fun z=>nn (by rw [z];exact fa4)) y
   have I5:Inv X pins σ H4 {s' with heap:=h',toks:=tk'}:=I4.call' rfl un hok2 I4.bare fun b hb=>by
    have:b=h1.objs.size+2\/b=h1.objs.size:=by simpa using hb
    rcases this with rfl| rfl
    ·exact ⟨fk.2.2.2.1,fk.2.1,fk.2.2.2.2.1,fk.2.2.2.2.2⟩
    ·exact ⟨fa.2.2.2.1,fa.2.1,fa.2.2.2.2.1,fa.2.2.2.2.2⟩
   have new:zAs X.prog X.w (upd H4 h1.objs.size (.lst ((out.toList.map strOf).map V.str))) h' h1.objs.size (.lst ((out.toList.map strOf).map V.str)):=⟨hz,out.toList,c2,zEs hO,by simpa using gg⟩;exact ⟨.ref h1.objs.size,_,I5.adopt (⟨fa4,fa.2⟩:FpOk X pins H4 h1.objs.size) new,rfl,qr _ _ H4 k4 fa4 hpz hsr⟩
end
section
variable {prog:Program} {w:World} {A:Around} {R:Result->Shared->Prop} {I:Addr} {fp wr:List Addr} {n:Nat} {P:Nat->Value->Prop} {St:Nat->Heap->Prop} {d:Value}
theorem maxD_loop (W:Walks prog w A.in1 I fp wr n P St) (bt:Nat->Nat->Bool) (C:CmpOf prog w A.in1 .Gt P bt) (S:Addr) (hS:S∉fp):∀(k j:Nat) (s:Shared) (vb:Value) (c:Nat),n - (j+1)=k->j+1<=n->St (j+1) s.heap->P (argBest bt j) vb ->
  s.heap.get? S=some {cls:=Value.type "list",data:=Data.seq #[vb,vb] c}->(∀(v:Value) (h':Heap) (tk:Nat),P (argBest bt (n - 1)) v->(∀(b:Addr) (o:Obj),b∉wr->b≠S->s.heap.get? b=some o->h'.get? b=some o)->R (Except.ok (Flow.ret v)) {s with heap:=h',toks:=tk}) ->
  codeAny (model prog w) A (Code.builtin "max.loop" {pos:=[.ref I,.none,.ref S],kw:=[(Str.ofString "default",d)]}) R s:=by
 intro k
 induction k with
 | zero =>
  intro j s vb c hk hj hst hp hget h;refine qBY F.entry_max_loop ?_;rw [qBk F.plain_max_loop _];refine qAA (m:=seqItems? (.ref S)) ?_;rw [seqItems?.eq_1];refine qAA (qB2 hget ?_);refine qAD ?_;have en:j+1=n:=by lia
  rw [en] at hst;refine qAA (qCy (W.done s _ _ hst fun h' tk hk'=>?_));have g2:=hk' S _ (fun z=>hS (W.sub S z)) hget;have sb:=qAj h' S (Obj.mapSeq fun _=>(#[]:Array Value));refine qAA (qCV (s:={s with heap:=h',toks:=tk}) g2 rfl (qAA (qCH (qAD ?_))) (by rw [qAK];simp) (by rw [qAK];simp));refine h vb _ tk (by rw [<-en];exact hp) fun b o n1 n2 q=>(sb.2 b n2).trans (hk' b o n1 q)
 | succ k ih =>
  intro j s vb c hk hj hst hp hget h;refine qBY F.entry_max_loop ?_;rw [qBk F.plain_max_loop _];refine qAA (m:=seqItems? (.ref S)) ?_;rw [seqItems?.eq_1];refine qAA (qB2 hget ?_);refine qAD ?_;refine qAA (qCy (W.item (j+1) s _ _ (by lia) hst fun v h' tk hv st' hk'=>?_));have g2:=hk' S _ (fun z=>hS (W.sub S z)) hget;refine qAA (qAD ?_);refine qAA (qCy (qAz (qAA (C (j+1) (argBest bt j) v vb _ _ _ hv hp ?_))));refine qAA (qAz (qBF ?_));refine qAA (qCH (qAD ?_))
  cases e:bt (j+1) (argBest bt j) with
  | true =>
   show wpAny _ _ (if true=true then _ else _) _ _ _;rw [qAC rfl];have sb:=qAj h' S (Obj.mapSeq fun _=>(#[v,v]:Array Value));refine qAA (qCV (s:={s with heap:=h',toks:=tk}) g2 rfl (qAA (qCH (qAD ?_))) (by rw [qAK];simp) (by rw [qAK];simp));refine ⟨rfl,ih (j+1) _ v _ (by lia) (by lia) (W.frame _ _ _ st' fun b hb o q=>(sb.2 b (fun z=>hS (by rw [<-z];exact hb))).trans q) ?_ (qBS g2 fun _=>#[v,v]) fun v2 h2 tk2 p2 k2=>h v2 h2 tk2 p2 fun b o n1 n2 q=>k2 b o n1 n2 ((sb.2 b n2).trans (hk' b o n1 q))⟩;show P (if bt (j+1) (argBest bt j)=true then j+1 else argBest bt j) v;rw [e,qAC rfl];exact hv
  | false =>
   show wpAny _ _ (if false=true then _ else _) _ _ _;rw [qAB (by decide)];refine qAA (qCH (qAD ?_));refine ⟨rfl,ih (j+1) _ vb c (by lia) (by lia) st' ?_ g2 fun v2 h2 tk2 p2 k2=>h v2 h2 tk2 p2 fun b o n1 n2 q=>k2 b o n1 n2 (hk' b o n1 q)⟩;show P (if bt (j+1) (argBest bt j)=true then j+1 else argBest bt j) vb;rw [e,qAB (by decide)];exact hp
theorem maxD_first (W:Walks prog w A.in1 I fp wr n P St) (bt:Nat->Nat->Bool) (C:CmpOf prog w A.in1 .Gt P bt) (S:Addr) (hS:S∉fp) {s:Shared} {c:Nat} (hst:St 0 s.heap) (hget:s.heap.get? S=some {cls:=Value.type "list",data:=Data.seq #[] c})
  (h0:n=0->∀(h':Heap) (tk:Nat),(∀(b:Addr) (o:Obj),b∉wr->b≠S->s.heap.get? b=some o->h'.get? b=some o)->R (Except.ok (Flow.ret d)) {s with heap:=h',toks:=tk})
  (h:0<n->∀(v:Value) (h':Heap) (tk:Nat),P (argBest bt (n - 1)) v->(∀(b:Addr) (o:Obj),b∉wr->b≠S->s.heap.get? b=some o->h'.get? b=some o)->R (Except.ok (Flow.ret v)) {s with heap:=h',toks:=tk}) :
  codeAny (model prog w) A (Code.builtin "max.loop" {pos:=[.ref I,.none,.ref S],kw:=[(Str.ofString "default",d)]}) R s:=by
 refine qBY F.entry_max_loop ?_;rw [qBk F.plain_max_loop _];refine qAA (m:=seqItems? (.ref S)) ?_;rw [seqItems?.eq_1];refine qAA (qB2 hget ?_);refine qAD ?_
 by_cases c0:n=0
 ·have hst0:St n s.heap:=by rw [c0];exact hst
  refine qAA (qCy (W.done s _ _ hst0 fun h' tk hk'=>?_));exact qAA (qBL (qAD (h0 c0 h' tk fun b o n1 _ q=>hk' b o n1 q)))
 ·refine qAA (qCy (W.item 0 s _ _ (by lia) hst fun v h' tk hv st' hk'=>?_));have g2:=hk' S _ (fun z=>hS (W.sub S z)) hget;refine qAA (qAD ?_);have sb:=qAj h' S (Obj.mapSeq fun _=>(#[v,v]:Array Value));refine qAA (qCV (s:={s with heap:=h',toks:=tk}) g2 rfl (qAD ?_) (by rw [qAK];simp) (by rw [qAK];simp));exact ⟨rfl,maxD_loop W bt C S hS (n - 1) 0 _ v _ (by lia) (by lia) (W.frame _ _ _ st' fun b hb o q=>(sb.2 b (fun z=>hS (by rw [<-z];exact hb))).trans q) hv (qBS g2 fun _=>#[v,v]) fun v2 h2 tk2 p2 k2=>h (by lia) v2 h2 tk2 p2 fun b o n1 n2 q=>k2 b o n1 n2 ((sb.2 b n2).trans (hk' b o n1 q))⟩
end
section
variable {X:Cx}
def tMaxD (ta:TA) (dv:Int):TE:=fun σ H Q=>ta σ H fun xs H1=>∃(p:Addr) (ns:List Int),xs=[.ref p]/\SqL X.K H1 p (ns.map V.int)/\(ns=[]->Q (.int dv) H1)/\∀M,M∈ns->(∀a∈ns,a<=M)->Q (.int M) H1
theorem pe_maxD {a:Expr} {ta:TA} {p pos kp ip:Pos} {jj:Nat} {dv:Int} (hc':X.calm=true) (hg:Gl X "max") (hm:X.mg "max" = none) (hb:bootBuiltins "max" = some (.builtin "max")) (ha:PA X [a] ta) (hs:starEach [a] X.env=[(false,eval a X.env)]:=by rfl) :
  PE X (.Call (.Name "max" p) [a] [⟨some (Str.ofString "default"),.Constant (.int dv) jj ip,kp⟩] pos) (tMaxD (X:=X) ta dv):=by
 intro pins s σ H Q I h;refine qB4 (zF6 I hg hm hb ?_);refine qDo (by rw [hs];rfl) rfl ?_;have ha':=ha pos pins s σ H _ I h;have e0:backTo pos (starEach [a] X.env)=(false,eval a X.env)::[]:=by rw [hs];rfl
 rw [e0] at ha' ⊢;refine evalArgs_kwB rfl (thn ha' fun us s1 ⟨vs,H1,I1,r1,q1⟩=>?_);refine thn (pk_cons zAg pk_nil pos pins s1 σ H1 (fun zs H2=>zs=[.int dv]/\H2=H1) I1 ⟨rfl,rfl⟩) fun ws s2 ⟨zs,H2,I2,rz,ez,eh⟩=>?_;subst ez eh;obtain ⟨p,ns,e,hq,q0,q⟩:=q1;subst e;obtain ⟨u,rfl,ru⟩:=r1.one
 cases ru
 obtain ⟨w1,rfl,rw1⟩:=rz.one;obtain ⟨t1,rfl⟩:=rw1;obtain ⟨its,r,pl,hz⟩:=I2.list hq;obtain ⟨xs,rfl,e⟩:=ints_of r;have hd:=I2.ok.hd hc';have hI:=pl.isList;have ck:checkBuiltinCall "max" {pos:=[.ref p],kw:=[(Str.ofString "default",.int dv t1)]}=pure ():=rfl;refine qCX (f:=.builtin "max") (pos:=[.ref p]) (kw:=[(Str.ofString "default",.int dv t1)]) (codeAny_call_builtin_code rfl ?_);rw [ck];refine qAD (qBY F.entry_max ?_);rw [qBk F.plain_max _];refine qAA (m:=Builtin.Builtins.bindParams "max" ["key", "default"] 0 {kw:=[(Str.ofString "default",.int dv t1)]}) (qAD ?_);refine qAA (qAD ?_);refine qAA (Flt.iter_list_ hI fun s3 e3 ⟨w1,w2⟩ w3 w4=>?_);refine qAA (qCG ?_ (qAY _));refine qAD ⟨rfl,?_⟩;have k3:∀b o,s2.heap.get? b=some o->s3.heap.get? b=some o:=fun b o q=>by rw [e3];exact qAJ _ q
 have W:=Walks.list (prog:=X.prog) (w:=X.w) (A:=X.A.in1) hd s2.heap.objs.size p w4 (xs.map fun p=>Value.int p.1 p.2).toArray
 have hat:∀(i:Nat) (v:Value),(xs.map fun p=>Value.int p.1 p.2).toArray[i]?=some v->∃t,v= .int ((xs.map (·.1)).getD i 0) t:=fun i v hv=>by
  rw [List.getElem?_toArray,qAW] at hv;obtain ⟨y,ey,rfl⟩:=qA6.mp hv;exact ⟨y.2,by rw [qA0,qAW,ey];rfl⟩
 have C:=CmpOf.ints_gt (prog:=X.prog) (w:=X.w) (A:=X.A.in1) (P:=fun i v=>(xs.map fun p=>Value.int p.1 p.2).toArray[i]?=some v) (fun i=>(xs.map (·.1)).getD i 0) hat;have hnew:(s3.heap.push {cls:=.type "list",data:=.seq #[]}).get? s3.heap.objs.size=some {cls:=.type "list",data:=.seq #[] 0}:=qAb _ rfl;have up:∀b o,s3.heap.get? b=some o->(s3.heap.push {cls:=.type "list",data:=.seq #[]}).get? b=some o:=fun b o q=>qAJ _ q;have hnn:s3.heap.objs.size∉[s2.heap.objs.size,p]:=fun z=>qA3 _ (w3 _ z);refine maxD_first (A:=X.A) W _ C s3.heap.objs.size hnn ?_ hnew (fun n0 h' tk kk=>?_) (fun n0 v h' tk pv kk=>?_)
 ·exact W.frame 0 s3.heap _ ⟨w1,w2⟩ fun b hb o q=>up b o q
 ·have xn:xs=[]:=by
   have:xs.length=0:=by simpa using n0
   exact qCT.mp this
  have lk:∀b o,s2.heap.get? b=some o->h'.get? b=some o:=fun b o q=>kk b o (by
   have:=qAL q;intro z;have z:b=s2.heap.objs.size:=by simpa using z
   exact absurd this (by rw [z];exact qA3 _)) (fun z=>by
    have:=qAL (k3 b o q);exact absurd this (by rw [z];exact qA3 _)) (up b o (k3 b o q))
  subst e3;exact ⟨.int dv,H2,I2.kept (t':=tk) lk,⟨t1,rfl⟩,q0 (by rw [<-e,xn];rfl)⟩
 ·have n0:0<xs.length:=by simpa using n0
  have lk:∀b o,s2.heap.get? b=some o->h'.get? b=some o:=fun b o q=>kk b o (by
   have:=qAL q;intro z;have z:b=s2.heap.objs.size:=by simpa using z
   exact absurd this (by rw [z];exact qA3 _)) (fun z=>by
    have:=qAL (k3 b o q);exact absurd this (by rw [z];exact qA3 _)) (up b o (k3 b o q))
  have hz:(xs.map fun p=>Value.int p.1 p.2).toArray.size=xs.length:=by simp
  rw [hz] at pv;obtain ⟨b1,b2⟩:=argBest_gt (fun i=>(xs.map (·.1)).getD i 0) (xs.length - 1);obtain ⟨t,rfl⟩:=hat _ _ pv;subst e3;refine ⟨.int _,H2,I2.kept (t':=tk) lk,⟨t,rfl⟩,q _ ?_ fun a ha=>?_⟩
  ·rw [<-e];have hl:argBest (fun i j=>decide ((xs.map (·.1)).getD i 0>(xs.map (·.1)).getD j 0)) (xs.length - 1)<(xs.map (·.1)).length:=by rw [qAE];lia
   rw [qA0,qAh hl];exact qBr hl
  ·rw [<-e] at ha;obtain ⟨i,hi,rfl⟩:=qA4.mp ha;have:=b2 i (by rw [qAE] at hi;lia);have e5:(xs.map (·.1)).getD i 0=(xs.map (·.1))[i]:=by rw [qA0,qAh hi];rfl
   rw [e5] at this;exact this
end
end L2
namespace My
open PySem L2
variable {P:Program}{w:World}{K:PySem.W.Frag}{mg:Str->Option Value}{base:Heap}{C:Addr}
variable {l C j Pt:Addr}{m a b way:Int}{x y:Str}{i:Nat}{J:JR}{H H':Hp}{ts:List ((Int×Int)×Addr)}{β:Type}
def mx0:List Int->Int
 | []=>0
 | x::l=>if x>mx0 l then x else mx0 l
theorem mx0_nn:∀l:List Int,0<=mx0 l
 | []=>qCx _
 | x::l=>by
  have:=mx0_nn l;show 0<=if x>mx0 l then x else mx0 l;split<;>lia
theorem mx0_ge:∀{l:List Int} {x:Int},x∈l->x<=mx0 l
 | y::l,x,h=>by
  show x<=if y>mx0 l then y else mx0 l;rcases qAN.mp h with z| z
  ·subst z;split<;>lia
  ·have:=mx0_ge z;split<;>lia
theorem mx0_is:∀(l:List Int),mx0 l=0\/mx0 l∈l
 | []=>.inl rfl
 | x::l=>by
  show (if x>mx0 l then x else mx0 l)=0\/(if x>mx0 l then x else mx0 l)∈x::l;split
  ·exact .inr qAT
  ·rcases mx0_is l with z| z
   ·exact .inl z
   ·exact .inr (qAR _ z)
theorem mx0_eq {l:List Int} (h:∀x∈l,0<=x) {M:Int} (hM:M∈l) (hb:∀a∈l,a<=M):mx0 l=M:=by
 have h1:=mx0_ge hM;have h2:=h M hM;rcases mx0_is l with z| z
 ·lia
 ·have:=hb _ z;lia
theorem mx0_le {l m:List Int} (h:∀x∈l,x∈m):mx0 l<=mx0 m:=by
 rcases mx0_is l with z| z
 ·rw [z];exact mx0_nn m
 ·exact mx0_ge (h _ z)
theorem mx0_set {l m:List Str} {f g:Str->Int} (h1:∀y,y∈l↔y∈m) (h2:∀y∈l,f y=g y):mx0 (l.map f)=mx0 (m.map g):=by
 refine Int.le_antisymm (mx0_le fun x hx=>?_) (mx0_le fun x hx=>?_)
 ·obtain ⟨y,hy,rfl⟩:=qAH.mp hx;exact qAH.mpr ⟨y,(h1 y).mp hy,(h2 y hy).symm⟩
 ·obtain ⟨y,hy,rfl⟩:=qAH.mp hx;exact qAH.mpr ⟨y,(h1 y).mpr hy,h2 y ((h1 y).mpr hy)⟩
structure HF (beh:Str->List Str) (F:List Str) (f:Str->Int):Prop where
 nd:F.Nodup
 sub:∀x∈F,∀y∈beh x,y∈F
 eq:∀x∈F,f x=1+mx0 ((beh x).map f)
theorem HF.nil (beh:Str->List Str) (f:Str->Int):HF beh [] f:=⟨qAw,(fun _ h=>nomatch h),(fun _ h=>nomatch h)⟩
theorem HF.pos {beh:Str->List Str} {F:List Str} {f:Str->Int} (h:HF beh F f) (hx:x∈F):1<=f x:=by
 have:=mx0_nn ((beh x).map f);rw [h.eq x hx];lia
def addF (f:Str->Int) (x:Str) (v:Int):Str->Int:=fun y=>if y=x then v else f y
theorem HF.more {beh:Str->List Str} {F:List Str} {f:Str->Int} (h:HF beh F f) (hx:x∉F) (hb:∀y∈beh x,y∈F):HF beh (F++[x]) (addF f x (1+mx0 ((beh x).map f))):=by
 have old:∀y∈F,addF f x (1+mx0 ((beh x).map f)) y=f y:=fun y hy=>by
  unfold addF;rw [qAB (fun z=>hx (by rw [<-z];exact hy))]
 have xs:addF f x (1+mx0 ((beh x).map f)) x=1+mx0 ((beh x).map f):=by unfold addF;rw [qAC rfl]
 refine ⟨?_,fun y hy z hz=>?_,fun y hy=>?_⟩
 ·rw [qBj];refine ⟨h.nd,by simp,fun a ha b hb' e=>hx ?_⟩;have:b=x:=by simpa using hb'
  rw [<-this,<-e];exact ha
 ·rcases qAU.mp hy with w| w
  ·exact qAs _ (h.sub y w z hz)
  ·have:y=x:=by simpa using w
   subst this;exact qAs _ (hb z hz)
 ·rcases qAU.mp hy with w| w
  ·rw [old y w,h.eq y w];exact qAf (1+·) (mx0_set (fun _=>Iff.rfl) fun z hz=>(old z (h.sub y w z hz)).symm)
  ·have:y=x:=by simpa using w
   subst this;rw [xs];exact qAf (1+·) (mx0_set (fun _=>Iff.rfl) fun z hz=>(old z (hb z hz)).symm)
def Dec (ns:List Str) (beh:Str->List Str):Prop:=∀x∈ns,∀y∈beh x,y∈ns/\(beh y).length<(beh x).length
theorem sort_ahead {zs:List Str} {g:Str->Int} (h:zs.Pairwise fun x y=>g x<=g y) (e:zs[i]?=some x) (hy:y∈zs) (hg:g y<g x):y∈zs.take i:=by
 obtain ⟨j,hj,ej⟩:=qA4.mp hy;have hi:=(qAd.mp e).1;have ex:=(qAd.mp e).2
 by_cases c:j<i
 ·rw [List.mem_take_iff_getElem];exact ⟨j,by lia,by rw [<-ej]⟩
 ·by_cases c2:j=i
  ·subst c2;rw [ej] at ex;rw [ex] at hg;lia
  ·have:=List.pairwise_iff_getElem.mp h i j hi hj (by lia);rw [ex,ej] at this;lia
def behJ (J:JR) (x:Str):List Str:=J.ns.filter fun n=>decide (x∈J.S n)
theorem zE9 :y∈behJ J x↔y∈J.ns/\x∈J.S y:=by
 unfold behJ;rw [qAS];simp
theorem dec_J {qs:List (List Str×Addr)} {r:Str->Nat} (A:JobsAt C H j J) (G:Good J.ns qs r) (hz:∀k,k∈J.zs.map (·.1)↔k∈qs.map (·.1)):Dec J.ns (behJ J):=fun x hx y hy=>by
 obtain ⟨y1,y2⟩:=zE9.mp hy;refine ⟨y1,?_⟩
 have tr:∀z,z∈behJ J y->z∈behJ J x:=fun z hz'=>by
  obtain ⟨z1,z2⟩:=zE9.mp hz';exact zE9.mpr ⟨z1,(zFl A G hz z1).mpr (((zFl A G hz y1).mp y2).trans ((zFl A G hz z1).mp z2))⟩
 have ny:y∉behJ J y:=fun z=>by
  obtain ⟨_,z2⟩:=zE9.mp z;exact absurd (S_rank A G hz _ y y (qAG _) y1 z2) (qA3 _)
 unfold behJ at tr ny hy ⊢;generalize J.ns=ns at tr ny hy
 have key:∀(l:List Str),(∀z∈l,y∈J.S z->x∈J.S z)->y∈l->x∈J.S y->y∉J.S y->(l.filter fun n=>decide (y∈J.S n)).length<(l.filter fun n=>decide (x∈J.S n)).length:=by
  intro l
  have le:∀(l:List Str),(∀z∈l,y∈J.S z->x∈J.S z)->(l.filter fun n=>decide (y∈J.S n)).length<=(l.filter fun n=>decide (x∈J.S n)).length:=fun l h=>by
   rw [<-List.countP_eq_length_filter,<-List.countP_eq_length_filter];exact List.countP_mono_left fun z hz' w=>qAV (h z hz' (qAt w))
  induction l with
  | nil=>intro _ h;cases h
  | cons a l ih =>
   intro h hy' h1 h2;have hl:∀z∈l,y∈J.S z->x∈J.S z:=fun z hz'=>h z (qAR _ hz');rw [qA7,qA7];rcases qAN.mp hy' with e| e
   ·subst e;rw [qAB (by simpa using h2),qAC (by simpa using h1),qAc];have:=le l hl;lia
   ·have:=ih hl e h1 h2
    by_cases c:y∈J.S a
    ·rw [qAC (by simpa using c),qAC (by simpa using h a qAT c),qAc,qAc];lia
    ·rw [qAB (by simpa using c)];split
     ·rw [qAc];lia
     ·exact this
 refine key ns (fun z hz' w=>?_) (qAS.mp hy).1 y2 (fun w=>ny (qAS.mpr ⟨(qAS.mp hy).1,qAV w⟩));have:=tr z (qAS.mpr ⟨hz',qAV w⟩);exact qAt (qAS.mp this).2
def lamQ:Str:=Str.ofString "last_ones_first" ++ ".<locals>." ++ "<lambda>"
def lamPos:Pos:=⟨41,36,41,71⟩
abbrev TabA (H:Hp) (Pt:Addr):Prop:=Tab0 H Pt lamQ lamPos
theorem TabA.kp (h:TabA H Pt) (k:Kp [] H H'):TabA H' Pt:=by
 rcases h with e| ⟨c,e,ec⟩
 ·exact .inl (k _ _ e (by simp))
 ·exact .inr ⟨c,k _ _ e (by simp),k _ _ ec (by simp)⟩
theorem TabA.tbl (h:TabA H Pt):∃ps,H Pt=some (.tbl ps):=by
 rcases h with e| ⟨c,e,_⟩
 ·exact ⟨_,e⟩
 ·exact ⟨_,e⟩
theorem TabA.off {a:Addr} {o:HO} (t:TabA H Pt) (h:H a=some o) (no:∀ps,o≠.tbl ps):a≠Pt:=fun z=>by
 obtain ⟨ps,e⟩:=t.tbl;rw [z,e] at h;exact no ps (qAa h).symm
theorem JobsAt.kpT (A:JobsAt C H j J) (k:Kp [Pt] H H') (t:TabA H Pt):JobsAt C H' j J:=by
 refine A.kp k fun a o ha hm=>?_;have e:a=Pt:=by simpa using hm
 subst e;exact ⟨(t.off A.ob fun _ z=>nomatch z).symm,(t.off A.row fun _ z=>nomatch z).symm,(t.off A.prs.top fun _ z=>nomatch z).symm,(t.off A.abv fun _ z=>nomatch z).symm,fun q hq=>(t.off (A.prs.row q hq) fun _ z=>nomatch z).symm,fun n hn=>(t.off (A.sets n hn) fun _ z=>nomatch z).symm⟩
theorem okC {P:Program} {w:World} {K:PySem.W.Frag} {mg:Str->Option Value} {base:Heap} {qual:Str} {st:Stmt} {f c0:Addr} {oc:Value} {od an:Option Addr} {osl:Array (Option Value)} {kV doc pm ct:Value} {N ps:List Str} {k:Nat} {sp:Sp}
  (lk:K.lookup f=some ⟨oc,od,.func (PySem.W.fnOf x qual (zBc st) (zA2 st) (zAd st) .none kV doc pm an (.ref c0) ct),osl⟩) (hcd:PySem.W.codeIn K (.ref c0) qual=true) (S:FnScope N ps (zAd st)) (len:∀vs H Q E,sp vs H Q E->vs.length=ps.length)
  (hbody:∀(A:Around) (outer:List Env) (s:Shared) (H:Hp) (vs:List V) (Q:VK) (E:XK),Room k (A.deeper (PyProof.Rows.envOfC qual (zAd st) s.heap.objs.size f (.ref c0)))->sp vs H Q E ->
   ∃t,PSs (cxOf CX0 P w K mg base N qual (zAd st) f (.ref c0) A outer s H E).nox (zA2 st) t/\t {nx:=fun _ H'=>Q .non H',rt:=Q} (L2.start N vs) H):FnOk P w K mg base CX0 (k+1) f (PySem.W.fnOf x qual (zBc st) (zA2 st) (zAd st) .none kV doc pm an (.ref c0) ct) ps sp:=by
 refine fn_of lk hcd S len fun A outer s H vs Q E hr hsp=>?_;obtain ⟨t,h,q⟩:=hbody A outer s H vs Q E hr hsp;exact ⟨t,h.nox,q⟩
theorem zFt {M:List Addr} {e:Addr} {H1 H2:Hp} (a:Kp M H H1) (f:Fre H e) (b:Kp [e] H1 H2):Kp M H H2:=fun c o h n=>b c o (a c o h n) (nm1 (ne_fre f h))
def kvI (F:List Str) (f:Str->Int):List (Key×V):=dT1 F fun n=>.int (f n)
theorem kvI_put {F:List Str} {f:Str->Int} {v:Int} (h:x∉F):putK (kvI F f) (Sum.inr x) (.int v)=kvI (F++[x]) (addF f x v):=by
 unfold kvI;rw [zDp _ h];have e:dT1 (F++[x]) (fun n=>V.int (addF f x v n))=dT1 F (fun n=>V.int (addF f x v n))++[(.inr x,.int (addF f x v x))]:=by unfold dT1;rw [qAQ];rfl
 rw [e]
 have e2:dT1 F (fun n=>V.int (addF f x v n))=dT1 F (fun n=>V.int (f n)):=zFb fun n hn=>by
  unfold addF;rw [qAB (fun z=>h (by rw [<-z];exact hn))]
 rw [e2];unfold addF;rw [qAC rfl]
theorem kvI_get {F:List Str} {f:Str->Int} (h:x∈F):valV (kvI F f) (Sum.inr x)=some (.int (f x)):=by
 unfold kvI;rw [zBl,qAC h]
theorem kvI_len (F:List Str) (f:Str->Int):(kvI F f).length=F.length:=by unfold kvI dT1;rw [qAE]
section
def spLast (C Pt:Addr):Sp:=fun vs H Q _=>∃(j:Addr) (J:JR),vs=[.ref j]/\JobsAt C H j J/\TabA H Pt/\∀(l:Addr) (zs:List Str) (H':Hp),Kp [Pt] H H'->TabA H' Pt->Txs H' l zs->zs.Perm J.ns->zs.Pairwise (fun x y=>((behJ J x).length:Int)<=(behJ J y).length)->Q (.ref l) H'
abbrev zEw:Stmt:=top 13
theorem sc_last:FnScope ["jobs"] ["jobs"] (zAd zEw):=fnS
theorem zBt:bootBuiltins "sorted" = some (.builtin "sorted"):=by decide +kernel
theorem ok_last {f c0:Addr} {oc:Value} {od an:Option Addr} {osl:Array (Option Value)} {kV doc pm ct:Value} (lk:K.lookup f=some ⟨oc,od,.func (PySem.W.fnOf "last_ones_first" "last_ones_first" (zBc zEw) (zA2 zEw) (zAd zEw) .none kV doc pm an (.ref c0) ct),osl⟩) (hcd:PySem.W.codeIn K (.ref c0) "last_ones_first" = true) (T:Txt K mg) (U:JC K mg C) (B:zHt mg base) (CH:PySem.W.CodeHd base c0 Pt)
  (M_names:Mth P w K mg base C "names" 1 ["self"] (zGt C)) (M_behind:Mth P w K mg base C "behind" 3 ["self", "name"] (zGi C)):FnOk P w K mg base CX0 7 f (PySem.W.fnOf "last_ones_first" "last_ones_first" (zBc zEw) (zA2 zEw) (zAd zEw) .none kV doc pm an (.ref c0) ct) ["jobs"] (spLast C Pt):=by
 refine okC lk hcd sc_last (fun vs H Q E h=>?_) (fun A outer s H vs Q E hr h=>?_)
 ·obtain ⟨j,J,rfl,_⟩:=h;rfl
 ·obtain ⟨j,J,rfl,A0,T0,k⟩:=h;have hr1:=hr.mono (j:=1) (by decide);refine ⟨_,(zAe (zAm (pe_sortedM (x:= "name") (y:= "jobs") (iy:=0) (P:=Pt) (c0:=c0) (qual:=lamQ) (k:=3) hr rfl (by rfl) T.z_sorted zBt (zAa (zDq M_names U.cl hr1 (pv 0)) zAb) (by exact ⟨rfl,rfl,rfl,rfl,rfl,by decide +kernel,by decide +kernel⟩) (by decide) rfl rfl rfl rfl rfl rfl CH B rfl (fun _ _ _ _=>rfl) (fun f' cd' A' s' H' hA=>zAi (zFg (K:=K)) (by rfl) T.z_len zCo (zAa (zD3 M_behind U.cl hA (pv 1) (zAa (pv 0) zAb)) zAb))))),?_⟩;refine ⟨_,rfl,j,J.dx,_,rfl,A0.ob,zHk _ _ _ (by decide +kernel) (by decide +kernel) (by decide +kernel),j,J,rfl,A0,fun l H1 fl hl k1=>?_⟩;have A1:=A0.kp0 k1;have T1:=T0.kp k1;have few:=A0.few;refine ⟨l,J.ns,fun x=>(behJ J x).length,.ref j,rfl,rfl,hl,by lia,T1,fun H2 k2 T2=>⟨fun x hx H3 k3=>?_,fun b zs H3 k3 hb pz sz=>?_⟩⟩
  ·have A3:=(A1.kpT k2 T1).kp0 k3;refine ⟨_,rfl,j,J.dx,_,rfl,A3.ob,zHk _ _ _ (by decide +kernel) (by decide +kernel) (by decide +kernel),_,rfl,j,J,x,rfl,A3,hx,fun m H4 fm hm k4=>?_⟩;refine ⟨_,_,rfl,.inl (SqL.of hm),?_,k4⟩;rw [qAE];rfl
  ·have fb:Fre H3 b:=hb;have kb:Kp [] H3 (upd H3 b (.lst (zs.map V.str))):=Kp.new Kp.refl fb;have T3:TabA H3 Pt:=TabA.kp (.inr T2) k3;exact k b zs _ (((k1.weak (by simp)).trans k2).trans ((k3.trans kb).weak (by simp))) (T3.kp kb) upd_same pz sz
def zGu (C Pt:Addr):Sp:=fun vs H Q _=>∃(j:Addr) (J:JR) (qs:List (List Str×Addr)) (r:Str->Nat),vs=[.ref j]/\JobsAt C H j J/\Good J.ns qs r/\(∀k,k∈J.zs.map (·.1)↔k∈qs.map (·.1))/\TabA H Pt/\∀(d:Addr) (F:List Str) (f:Str->Int) (H':Hp),Kp [Pt] H H'->TabA H' Pt->Fre H d->H' d=some (.dK (kvI F f))->HF (behJ J) F f->F.Perm J.ns->Q (.ref d) H'
abbrev zEy:Stmt:=top 14
theorem zFo:FnScope ["jobs", "found", "name"] ["jobs"] (zAd zEy):=fnS
theorem ok_heights {f:Addr} {fd:FuncData} (F:Fun K "heights" "heights" zEy f fd) (T:Txt K mg) (U:JC K mg C) (C_last:Cal P w K mg base "last_ones_first" 7 ["jobs"] (spLast C Pt)) (M_behind:Mth P w K mg base C "behind" 3 ["self", "name"] (zGi C)):FnOk P w K mg base CX0 8 f fd ["jobs"] (zGu C Pt):=by
 refine F.ok zFo (fun vs H Q E h=>?_) (fun cdv A outer s H vs Q E hr h=>?_)
 ·obtain ⟨j,J,qs,r,rfl,_⟩:=h;rfl
 ·obtain ⟨j,J,qs,r,rfl,A0,G,hz,T0,k⟩:=h;have hr3:=hr.mono (j:=3) (by decide);have hu:=zDw hr
  refine ⟨_,(zAc (psS (i:=1) zFo.nd zCd)
   (zAc (zA1 qAk rfl (zAj (zAf C_last hr rfl (zAa (pv 0) zAb))) (pgN (i:=2) zFo.nd)
    (zAe (zC0 hu (pv 1) (pv 2) (zAr zBx zAg (pe_maxD rfl (by rfl) T.z_max bo_max (zAa (zBa rfl (zBe (sc:=zAd zEy) rfl (by decide +kernel)) (Draws.own (x:= "other") (dtk (i:=1) rfl Draws.nil)) (zAj (zD3 M_behind U.cl hr3 (pv 0) (zAa (pv 2) zAb))) (fun _ _ _ _=>(pgB (i:=0))) (fun _ _ _ _=>zCl) (fun _ _ _ _=>(zBj hu (pv 1) (pv 0) (fun _ _=>rfl)))) zAb))) rfl)))
   (zAe (zAm (pv 1))))),?_⟩
  have few:=A0.few;have D:=dec_J A0 G hz;refine fun d hd=>?_;have fd0:Fre H d:=hd;have k1:Kp [] H (upd H d (.dK [])):=Kp.new Kp.refl fd0;have e1:upd H d (.dK []) d=some (.dK []):=upd_same;generalize upd H d (.dK [])=H1 at k1 e1;refine ⟨_,rfl,j,J,rfl,A0.kp0 k1,T0.kp k1,fun l zs H2 k2 T2 hl pz sz=>?_⟩;have T1:=T0.kp k1;have e2:=k2 d _ e1 (nm1 (T1.off e1 fun _ z=>nomatch z));have A2:=(A0.kp0 k1).kpT k2 T1;have K2:Kp [Pt] H H2:=(k1.weak (by simp)).trans k2;have zn:zs.Nodup:=pz.nodup_iff.mpr A0.nd;have zl:zs.length<=20:=by rw [pz.length_eq];exact few
  refine ⟨_,rfl,⟨_,SqL.of hl⟩,zAy (xs:=zs.map V.str) (fun i σ H3=>∃(o2:Option V) (g:Str->Int),σ=[some (.ref j),some (.ref d),o2]/\Kp [d] H2 H3/\H3 d=some (.dK (kvI (zs.take i) g))/\HF (behJ J) (zs.take i) g) ⟨none,fun _=>0,rfl,Kp.refl,e2,HF.nil _ _⟩ (fun i σ H3 _ ⟨_,_,_,k3,_⟩=>SqL.of (k3 _ _ hl (nm1 fun z=>by have h:H2 l=_:=hl;rw [z,e2] at h;cases h))) ?_ ?_⟩
  ·rintro i v σ H3 hv ⟨o2,g,rfl,k3,h3,hf⟩;obtain ⟨x,ex,rfl⟩:=zA0 hv;have xz:x∈zs:=qAO ex;have xn:x∈J.ns:=pz.mem_iff.mp xz
   have A3:JobsAt C H3 j J:=A2.kp k3 fun a o ha hm=>by
    have e:a=d:=by simpa using hm
    subst e;have nof:∀b,Fre H a->H b≠none->a≠b:=fun b h1 h2 e=>h2 (by rw [<-e];exact h1);refine ⟨nof _ fd0 (by rw [A0.ob];simp),nof _ fd0 (by rw [A0.row];simp),nof _ fd0 (by rw [A0.prs.top];simp),nof _ fd0 (by rw [A0.abv];simp),fun q hq=>nof _ fd0 (by rw [A0.prs.row q hq];simp),fun n hn=>nof _ fd0 (by rw [A0.sets n hn];simp)⟩
   have bs:∀y∈behJ J x,y∈zs.take i:=fun y hy=>by
    obtain ⟨h1,h2⟩:=D x xn y hy;exact sort_ahead sz ex (pz.mem_iff.mpr h1) (by lia)
   have nx:x∉zs.take i:=zD4 zn ex;refine ⟨_,rfl,j,J.dx,_,rfl,A3.ob,zHk _ _ _ (by decide +kernel) (by decide +kernel) (by decide +kernel),_,rfl,j,J,x,rfl,A3,xn,fun m H4 fm hm k4=>?_⟩;have hm:Txs H4 m (behJ J x):=hm;have h4:=k4 _ _ h3 (by simp);refine ⟨_,rfl,⟨_,SqL.of hm⟩,fun E' hE'=>zA3 ((behJ J x).map V.str) (fun n ys τ H5=>(∃o0,τ=[o0,some (.ref d)])/\ys=(((behJ J x).take n).map fun y=>V.int (g y))/\H5=upd H4 E' (.lst ys)) ⟨⟨_,rfl⟩,rfl,rfl⟩ (fun n ys τ H5 ⟨_,_,z⟩=>by subst z;exact SqL.of ((Kp.new (M:=[]) Kp.refl hE') _ _ hm (by simp))) ?_ ?_⟩
   ·rintro n v ys τ H5 hv ⟨⟨o0,rfl⟩,rfl,rfl⟩;obtain ⟨y,ey,rfl⟩:=zA0 hv;have yb:=qAO ey;have h5:=(Kp.new (M:=[]) (l:=E') (o:=.lst (((behJ J x).take n).map fun y=>V.int (g y))) Kp.refl hE') _ _ h4 (by simp);have bl:(behJ J x).length<=J.ns.length:=qAy _ _;refine ⟨_,rfl,_,rfl,d,_,rfl,by have:=DGet.k (k:=Sum.inr y) h5;rw [kvI_get (bs y yb)] at this;exact this,upd_same,by rw [qAE,qAe,qAK];lia,⟨_,rfl⟩,?_,zBg⟩;rw [zAh ey,qAQ];rfl
   ·rintro ys τ H5 ⟨_,rfl,rfl⟩;have eT:(behJ J x).take ((behJ J x).map V.str).length=behJ J x:=by rw [qAE,qAi]
    rw [eT];have fE:Fre H4 E':=hE';have k5:Kp [] H4 (upd H4 E' (.lst ((behJ J x).map fun y=>V.int (g y)))):=Kp.new Kp.refl fE;have e5:upd H4 E' (.lst ((behJ J x).map fun y=>V.int (g y))) E'=some (.lst (((behJ J x).map g).map V.int)):=by rw [upd_same,qA1];rfl
    generalize upd H4 E' (.lst ((behJ J x).map fun y=>V.int (g y)))=H5 at k5 e5;have h5:=k5 _ _ h4 (by simp)
    have fin:∀M:Int,M=mx0 ((behJ J x).map g)->DPut H5 d (.str x) (.int (1+M)) (upd H5 d (.dK (kvI (zs.take (i+1)) (addF g x (1+mx0 ((behJ J x).map g)))))):=fun M hM=>by
     have:=DPut.k (k:=Sum.inr x) (v:=.int (1+M)) h5 (by rw [kvI_len,qAe,qAK];lia);rw [hM,kvI_put nx,<-zAh ex] at this;rw [hM];exact this
    have last:∀o2:Option V,∃(o2':Option V) (g':Str->Int),([some (V.ref j),some (V.ref d),o2]:St)=[some (.ref j),some (.ref d),o2']/\Kp [d] H2 (upd H5 d (.dK (kvI (zs.take (i+1)) (addF g x (1+mx0 ((behJ J x).map g))))))/\(upd H5 d (.dK (kvI (zs.take (i+1)) (addF g x (1+mx0 ((behJ J x).map g)))))) d=some (.dK (kvI (zs.take (i+1)) g'))/\HF (behJ J) (zs.take (i+1)) g':=fun o2=>by
     refine ⟨o2,_,rfl,Kp.put (k3.trans ((k4.trans k5).weak (by simp))) (by simp),upd_same,?_⟩;rw [zAh ex];exact hf.more nx bs
    refine ⟨_,_,rfl,SqL.of e5,fun en=>?_,fun M hM bM=>?_⟩
    ·have:mx0 ((behJ J x).map g)=0:=by rw [en];rfl
     exact ⟨_,_,rfl,rfl,_,rfl,_,rfl,_,_,rfl,fin 0 this.symm,last _⟩
    ·have:mx0 ((behJ J x).map g)=M:=mx0_eq (fun a ha=>by
      obtain ⟨y,hy,rfl⟩:=qAH.mp ha;have:=hf.pos (bs y hy);lia) hM bM
     exact ⟨_,_,rfl,rfl,_,rfl,_,rfl,_,_,rfl,fin M this.symm,last _⟩
  ·rintro σ H3 ⟨o2,g,rfl,k3,h3,hf⟩;have eT:zs.take (zs.map V.str).length=zs:=by rw [qAE,qAi]
   rw [eT] at h3 hf
   have T3:TabA H3 Pt:=by
    have nd:∀a o,H2 a=some o->(∀kv,o≠.dK kv)->a∉[d]:=fun a o h no=>nm1 fun z=>by rw [z,e2] at h;exact no _ (qAa h).symm
    rcases T2 with e| ⟨c,e,ec⟩
    ·exact .inl (k3 _ _ e (nd _ _ e fun _ z=>nomatch z))
    ·exact .inr ⟨c,k3 _ _ e (nd _ _ e fun _ z=>nomatch z),k3 _ _ ec (nd _ _ ec fun _ z=>nomatch z)⟩
   exact ⟨_,rfl,k d zs g H3 (zFt K2 fd0 k3) T3 fd0 h3 hf pz⟩
end
theorem rev_keys {zs zs' qs ks:List (List Str×Addr)} (h1:∀k,k∈zs'.map (·.1)↔k∈zs.map fun q=>q.1.reverse) (h2:∀k,k∈zs.map (·.1)↔k∈qs.map (·.1)) (e:ks.map (·.1)=qs.map fun q=>q.1.reverse) (k:List Str):k∈zs'.map (·.1)↔k∈ks.map (·.1):=by
 rw [h1,e];constructor
 ·intro h;obtain ⟨q,hq,rfl⟩:=qAH.mp h;obtain ⟨q',hq',e'⟩:=qAH.mp ((h2 q.1).mp (qAH.mpr ⟨q,hq,rfl⟩));exact qAH.mpr ⟨q',hq',by rw [e']⟩
 ·intro h;obtain ⟨q,hq,rfl⟩:=qAH.mp h;obtain ⟨q',hq',e'⟩:=qAH.mp ((h2 q.1).mpr (qAH.mpr ⟨q,hq,rfl⟩));exact qAH.mpr ⟨q',hq',by rw [e']⟩
structure ITs (H:Hp) (l:Addr) (ts:List ((Int×Int)×Addr)):Prop where
 top:H l=some (.lst (ts.map fun t=>V.ref t.2))
 row:∀t∈ts,H t.2=some (.tup [.int t.1.1,.int t.1.2])
theorem ITs.kp {M:List Addr} (I:ITs H l ts) (k:Kp M H H') (h1:l∉M) (h2:∀t∈ts,t.2∉M):ITs H' l ts:=⟨k l _ I.top h1,fun t ht=>k _ _ (I.row t ht) (h2 t ht)⟩
theorem ITs.more {t:Addr} (I:ITs H l ts) (ht:H t=some (.tup [.int a,.int b])):ITs (upd H l (.lst (ts.map (fun t=>V.ref t.2)++[.ref t]))) l (ts++[((a,b),t)]):=by
 refine ⟨by rw [upd_same,qAQ];rfl,fun q hq=>?_⟩;rcases qAU.mp hq with z| z
 ·exact (upd_ne (zBb (I.row q z) I.top (fun y=>nomatch y))).trans (I.row q z)
 ·rw [qAP.mp z];exact (upd_ne (zBb ht I.top (fun y=>nomatch y))).trans ht
theorem ITs.same (I:ITs H l ts):ITs (upd H l (.lst (ts.map (fun t=>V.ref t.2)++[]))) l ts:=by
 rw [qBI];exact ⟨upd_same,fun q z=>(upd_ne (zBb (I.row q z) I.top (fun y=>nomatch y))).trans (I.row q z)⟩
theorem inV12 (w:Int):inV (.int w) [.int 1,.int 2]=(decide (w=1)||decide (w=2)):=by
 show ((1==w)||((2==w)||false))=_
 by_cases h1:w=1
 ·subst h1;rfl
 ·by_cases h2:w=2
  ·subst h2;rfl
  ·rw [qAl h1,qAl h2,qA8.mpr (qAr h1),qA8.mpr (qAr h2)];rfl
def zDy (m:Int) (ts:List ((Int×Int)×Addr)):Prop:=∀t∈ts,0<=t.1.1/\t.1.1<t.1.2/\t.1.2<m
theorem zDy.more {t:Addr} (h:zDy m ts) (h1:0<=a) (h2:a<b) (h3:b<m):zDy m (ts++[((a,b),t)]):=fun q hq=>by
 rcases qAU.mp hq with z| z
 ·exact h q z
 ·rw [qAP.mp z];exact ⟨h1,h2,h3⟩
structure WOk (way m j:Int) (ts:List ((Int×Int)×Addr)):Prop where
 ok:zDy m ts
 len:(ts.length:Int)<=j
 w1:way=1->(∀t∈ts,t.1.1<j)/\(ts.map fun t=>t.1.1).Nodup
 w2:way=2->(∀t∈ts,t.1.2<=j)/\(ts.map fun t=>t.1.2).Nodup
theorem WOk.mono {way m j j':Int} (h:WOk way m j ts) (e:j<=j'):WOk way m j' ts :=
 ⟨h.ok,by have:=h.len;lia,fun z=>⟨fun t ht=>by have:=(h.w1 z).1 t ht;lia,(h.w1 z).2⟩,fun z=>⟨fun t ht=>by have:=(h.w2 z).1 t ht;lia,(h.w2 z).2⟩⟩
theorem nd_snoc {l:List Int} (h:l.Nodup) (n:a∉l):(l++[a]).Nodup:=qBj.mpr ⟨h,by simp,fun x hx y hy=>by
 rw [qAP.mp hy];exact fun z=>n (z▸hx)⟩
theorem WOk.add1 {way m j b:Int} {t:Addr} (h:WOk way m j ts) (w:way=1) (h0:0<=j) (h1:j<b) (h2:b<m):WOk way m (j+1) (ts++[((j,b),t)]):=by
 refine ⟨h.ok.more h0 h1 h2,by have:=h.len;simp only [qAg,qBe];lia,fun z=>⟨fun u hu=>?_,?_⟩,fun z=>by lia⟩
 ·rcases qAU.mp hu with y| y
  ·have:=(h.w1 z).1 u y;lia
  ·rw [qAP.mp y];show j<j+1;lia
 ·rw [qAQ];refine nd_snoc (h.w1 z).2 fun y=>?_;obtain ⟨u,hu,e⟩:=qAH.mp y;have e:u.1.1=j:=e;have:=(h.w1 z).1 u hu;lia
theorem WOk.add2 {way m j a:Int} {t:Addr} (h:WOk way m j ts) (w:way=2) (h0:0<=a) (h1:a<j+1) (h2:j+1<m):WOk way m (j+1) (ts++[((a,j+1),t)]):=by
 refine ⟨h.ok.more h0 h1 h2,by have:=h.len;simp only [qAg,qBe];lia,fun z=>by lia,fun z=>⟨fun u hu=>?_,?_⟩⟩
 ·rcases qAU.mp hu with y| y
  ·have:=(h.w2 z).1 u y;lia
  ·rw [qAP.mp y];show j+1<=j+1;lia
 ·rw [qAQ];refine nd_snoc (h.w2 z).2 fun y=>?_;obtain ⟨u,hu,e⟩:=qAH.mp y;have e:u.1.2=j+1:=e;have:=(h.w2 z).1 u hu;lia
theorem ext_pair {H3:Hp} {p t q r:Addr} {a b d:Int} {bb:Bool} (hb:bb=decide (0<d)) (K3:Kp [p] H H3) (P3:zB6 H3 p) (R3:ITs H3 l ts) (fl:Fre H l) (npl:p≠l) (ft:Fre H3 t) (fq:Fre (upd H3 t (.tup [.int a,.int b])) q) (fr:Fre (upd (upd H3 t (.tup [.int a,.int b])) q (.lst [.ref t])) r) :
  Fre H t/\zB6 (upd (upd (upd (upd H3 t (.tup [.int a,.int b])) q (.lst [.ref t])) r (.lst (List.replicate (if bb=true then (1:Int) else 0).toNat [V.ref t]).flatten)) l (.lst (ts.map (fun t=>V.ref t.2)++(List.replicate (if bb=true then (1:Int) else 0).toNat [V.ref t]).flatten))) p /\
  Kp [p] H (upd (upd (upd (upd H3 t (.tup [.int a,.int b])) q (.lst [.ref t])) r (.lst (List.replicate (if bb=true then (1:Int) else 0).toNat [V.ref t]).flatten)) l (.lst (ts.map (fun t=>V.ref t.2)++(List.replicate (if bb=true then (1:Int) else 0).toNat [V.ref t]).flatten))) /\
  ITs (upd (upd (upd (upd H3 t (.tup [.int a,.int b])) q (.lst [.ref t])) r (.lst (List.replicate (if bb=true then (1:Int) else 0).toNat [V.ref t]).flatten)) l (.lst (ts.map (fun t=>V.ref t.2)++(List.replicate (if bb=true then (1:Int) else 0).toNat [V.ref t]).flatten))) l (if 0<d then ts++[((a,b),t)] else ts):=by
 have a1:Kp [] H3 (upd H3 t (.tup [.int a,.int b])):=Kp.new Kp.refl ft;have a2:Kp [] H3 (upd (upd H3 t (.tup [.int a,.int b])) q (.lst [.ref t])):=Kp.new a1 (a1.fre fq (by simp));have b1:(upd (upd H3 t (.tup [.int a,.int b])) q (.lst [.ref t])) t=some (.tup [.int a,.int b]):=(upd_ne (ne_fre fq upd_same)).trans upd_same;generalize upd (upd H3 t (.tup [.int a,.int b])) q (.lst [.ref t])=H4 at fr a2 b1;have kA:∀o,Kp [] H3 (upd H4 r o):=fun o=>Kp.new a2 (a2.fre fr (by simp));have hTt:∀o,upd H4 r o t=some (.tup [.int a,.int b]):=fun o=>(upd_ne (ne_fre fr b1)).trans b1;have ntp:t≠p:=by obtain ⟨a,b,e,_⟩:=P3;exact (ne_fre ft e).symm
 refine ⟨K3.fre ft (nm1 ntp),?_⟩
 by_cases c:0<d
 ·have eb:bb=true:=by rw [hb];exact qAV c
  subst eb;rw [qAC c];exact ⟨(P3.kp (kA _) (by simp)).kp (M:=[l]) (Kp.put Kp.refl (by simp)) (nm1 npl),Kp.new (K3.trans ((kA _).weak (by simp))) fl,(R3.kp (kA _) (by simp) (by simp)).more (hTt _)⟩
 ·have eb:bb=false:=by rw [hb];exact qAl c
  subst eb;rw [qAB c];exact ⟨(P3.kp (kA _) (by simp)).kp (M:=[l]) (Kp.put Kp.refl (by simp)) (nm1 npl),Kp.new (K3.trans ((kA _).weak (by simp))) fl,(R3.kp (kA _) (by simp) (by simp)).same⟩
section
def spLPairs:Sp:=fun vs H Q _=>∃(p:Addr) (m way thin:Int),vs=[.ref p,.int m,.int way,.int thin]/\zB6 H p/\0<=m/\m<=20/\(way=1\/way=2)/\∀(l:Addr) (ts:List ((Int×Int)×Addr)) (H':Hp),Fre H l->ITs H' l ts->(∀t∈ts,Fre H t.2)->WOk way m 19 ts->zB6 H' p->Kp [p] H H'->Q (.ref l) H'
abbrev s_pairs:Stmt:=top 49
theorem zCq:FnScope ["_law_purse_here", "_law_many", "_law_way", "_law_thin", "_law_pairs_here", "_law_j", "_law_far", "_law_i", "_law_near"] ["_law_purse_here", "_law_many", "_law_way", "_law_thin"] (zAd s_pairs):=fnS
theorem ok_pairs {f:Addr} {fd:FuncData} (F:Fun K "_law_pairs" "_law_pairs" s_pairs f fd) (T:Txt K mg) (C_take:Cal P w K mg base "_law_take" 1 ["_law_purse_here", "_law_many"] zH7):FnOk P w K mg base CX0 2 f fd ["_law_purse_here", "_law_many", "_law_way", "_law_thin"] spLPairs:=by
 refine F.ok zCq (fun vs H Q E h=>?_) (fun cdv A outer s H vs Q E hr h=>?_)
 ·obtain ⟨p,m,way,thin,rfl,_⟩:=h;rfl
 ·obtain ⟨p,m,way,thin,rfl,hP,h0,h1,hw,k⟩:=h;have HR_take:=hr
  refine ⟨_,(zAc (psS (i:=4) zCq.nd (zBp zAb))
   (zAc (zA1 qAk rfl (pi_range2 rfl T.z_range (zAa zAg (zAa (pv 1) zAb))) (pgN (i:=5) zCq.nd)
    (zAc (psS (i:=6) zCq.nd zAg)
    (zAc (zCz (zAz zIy (pv 2) zAg (zA8 _))
     (zAc (psS (i:=6) zCq.nd (zAf C_take HR_take rfl (zAa (pv 0) (zAa (zAr zBx (zAr zG4 (pv 1) (pv 5)) zAg) zAb))))
     (zAe (zAu (zFr qBH qDm qDn zHb (pv 4) (zAa (zAr op_rep (zBp (zAa (zC7 (zAa (zAr zG4 (pv 5) zAg) (zAa (zAr zBx (zAr zG4 (pv 5) zAg) (pv 6)) zAb))) zAb)) (zAq zFi (by rfl) T.z_int bo_int (zAa (zCm op_gt (pv 6) zAg (zA8 _)) zAb))) zAb)))))
     zAw)
    (zAc (zCz (zAz zIy (pv 2) zAg (zA8 _))
     (zAc (psS (i:=6) zCq.nd (zAf C_take HR_take rfl (zAa (pv 0) (zAa (zAr zBx (pv 5) zAg) zAb))))
     (zAe (zAu (zFr qBH qDm qDn zHb (pv 4) (zAa (zAr op_rep (zBp (zAa (zC7 (zAa (zAr zG4 (pv 5) (pv 6)) (zAa (pv 5) zAb))) zAb)) (zAq zFi (by rfl) T.z_int bo_int (zAa (zCm op_gt (pv 6) zAg (zA8 _)) zAb))) zAb)))))
     zAw)
    (zAe (zA1 qAk rfl (zB1 rfl T.z_range (zAa (zAr zE5 (pv 5) (zAq zFi (by rfl) T.z_int bo_int (zAa (zCm zF4 (pv 2) (zBp (zAa zAg (zAa zAg zAb))) (by rfl)) zAb))) zAb)) (pgN (i:=7) zCq.nd)
     (zAc (psS (i:=8) zCq.nd (pe_or (zCm op_ne (pv 2) zAg (zA8 _)) (pe_one (zCm zIy (zAr zBx (zAr op_fdiv (pv 7) (pv 3)) zAg) (zAr op_fdiv (pv 5) (pv 3)) (zA8 _)))))
     (zAe (zCz (PW.pt (pw_and (zDj (pv 8)) (pw_and1 (zAz zIy (zCm zIy (zAf C_take HR_take rfl (zAa (pv 0) (zAa (pv 3) zAb))) zAg (zA8 _)) (zCm op_ne (pv 2) zAg (zA8 _)) (zA8 _)))))
      (zAe (zAu (zFr qBH qCC qCD zB2 (pv 4) (zAa (zC7 (zAa (pv 7) (zAa (pv 5) zAb))) zAb))))
      zAw)))))))))
   (zAe (zAm (pv 4))))),?_⟩
  refine ⟨(by walk_at "ln"),fun (l:Addr) hl=>?_⟩;have fl:Fre H l:=hl;have npl:p≠l:=by obtain ⟨a,b,e,_⟩:=hP;exact ne_fre fl e
  have hP1:zB6 (upd H l (.lst [])) p:=hP.kp (M:=[]) (Kp.new Kp.refl fl) (by simp)
  refine ⟨_,rfl,_,_,rfl,?_,zBr (lo:=1) (n:=(m - 1).toNat) (fun i σ H2=>∃(o5 o6 o7 o8:Option V) (ts:List ((Int×Int)×Addr)),σ=[some (.ref p),some (.int m),some (.int way),some (.int thin),some (.ref l),o5,o6,o7,o8]/\zB6 H2 p/\Kp [p] H H2/\ITs H2 l ts/\(∀t∈ts,Fre H t.2)/\WOk way m i ts)
   ⟨none,none,none,none,[],rfl,hP1,Kp.new Kp.refl fl,⟨upd_same,(fun t h=>nomatch h)⟩,(fun t h=>nomatch h),⟨(fun t h=>nomatch h),qCx _,fun _=>⟨(fun t h=>nomatch h),qAw⟩,fun _=>⟨(fun t h=>nomatch h),qAw⟩⟩⟩ ?_ ?_⟩
  ·exact ⟨by decide,by decide,by lia,by lia⟩
  ·rintro i σ H2 hi ⟨o5,o6,o7,o8,ts,rfl,P2,K2,R2,f2,q2⟩;have hi19:i<=18:=by lia
   have ntP:∀{t:Addr},Fre H t->t≠p:=fun h=>by obtain ⟨a,b,e,_⟩:=hP;exact (ne_fre h e).symm
   refine ⟨_,rfl,rfl,_,rfl,if_mid (fun σ H3=>∃(v6:Int) (ts1:List ((Int×Int)×Addr)),σ=[some (.ref p),some (.int m),some (.int way),some (.int thin),some (.ref l),some (.int (1+(i:Int))),some (.int v6),o7,o8]/\zB6 H3 p/\Kp [p] H H3/\ITs H3 l ts1/\(∀t∈ts1,Fre H t.2)/\(way=1->WOk way m ((i:Int)+1) ts1)/\(way=2->WOk way m i ts1)) (fun N hN=>ite2 (fun c=>?_) (fun c=>?_)) ?_⟩
   ·have cw:way=1:=by simpa using c
    refine ⟨_,rfl,_,rfl,_,rfl,_,_,rfl,rfl,_,_,rfl,rfl,p,m - (1+(i:Int))+1,rfl,P2,by lia,by lia,fun d H3 d0 d1 P3 K3=>?_⟩;have K23:=K2.trans K3;have R3:ITs H3 l ts:=R2.kp K3 (nm1 npl.symm) fun t ht=>nm1 (ntP (f2 t ht));refine ⟨_,rfl,.inl ⟨rfl,_,SqL.of R3.top⟩,_,rfl,_,_,rfl,rfl,_,rfl,_,_,rfl,rfl,_,rfl,_,_,rfl,rfl,(by walk_at "ln"),fun t ht=>?_⟩;have ft:Fre H3 t:=ht;refine ⟨(by walk_at "ln"),fun q hq=>?_⟩;have fq:Fre (upd H3 t _) q:=hq;refine ⟨_,rfl,_,_,rfl,rfl,.inr ⟨_,rfl,?_⟩⟩;have nlt:l≠t:=ne_fre ft R3.top;have h4:∀o,(upd H3 t o) l=some (.lst (ts.map fun t=>V.ref t.2)):=fun o=>(upd_ne nlt).trans R3.top;have nlq:l≠q:=ne_fre fq (h4 _);refine ⟨_,_,_,rfl,rfl,upd_same,by split<;>decide,by split<;>decide,?_,fun r hr'=>?_⟩
    ·rw [qAK];show 1*_<=_;split<;>decide
    have nlr:l≠r:=ne_fre (show Fre _ r from hr') ((upd_ne nlq).trans (h4 _));obtain ⟨g0,g1,g2,g3⟩:=ext_pair (d:=d) rfl K23 P3 R3 fl npl ft fq hr';refine ⟨_,_,_,_,rfl,rfl,(upd_ne nlr).trans ((upd_ne nlq).trans (h4 _)),upd_same,?_,hN _ _ ⟨d,_,rfl,g1,g2,g3,?_,fun _=>?_,fun z=>by lia⟩⟩
    ·have hl3:=q2.len;rw [qAE,len_rep,qAK];have:(if decide (0<d)=true then (1:Int) else 0).toNat<=1:=by split<;>decide
     simp only [qAc,qBW];lia
    ·intro u hu;split at hu
     ·rcases qAU.mp hu with z| z
      ·exact f2 u z
      ·rw [qAP.mp z];exact g0
     ·exact f2 u hu
    ·split
     ·have:=q2.add1 (b:=1+(i:Int) - 1+d) (t:=t) cw (by lia) (by lia) (by lia);have e:1+(i:Int) - 1=i:=by lia
      rw [e] at this ⊢;exact this
     ·exact q2.mono (by lia)
   ·have cw:¬way=1:=by simpa using c
    exact hN _ _ ⟨0,ts,rfl,P2,K2,R2,f2,fun z=>absurd z cw,fun _=>q2⟩
   ·rintro σ H4 ⟨v6,ts1,rfl,P4,K4,R4,f3,qa,qb⟩;refine ⟨_,rfl,rfl,_,rfl,if_mid (fun σ H3=>∃(v6:Int) (ts2:List ((Int×Int)×Addr)),σ=[some (.ref p),some (.int m),some (.int way),some (.int thin),some (.ref l),some (.int (1+(i:Int))),some (.int v6),o7,o8]/\zB6 H3 p/\Kp [p] H H3/\ITs H3 l ts2/\(∀t∈ts2,Fre H t.2)/\WOk way m ((i:Int)+1) ts2) (fun N hN=>ite2 (fun c=>?_) (fun c=>?_)) ?_⟩
    ·have cw:way=2:=by simpa using c
     have q3:=qb cw;refine ⟨_,rfl,_,rfl,_,_,rfl,rfl,p,1+(i:Int)+1,rfl,P4,by lia,by lia,fun d H5 d0 d1 P5 K5=>?_⟩;have K25:=K4.trans K5;have R5:ITs H5 l ts1:=R4.kp K5 (nm1 npl.symm) fun t ht=>nm1 (ntP (f3 t ht));refine ⟨_,rfl,.inl ⟨rfl,_,SqL.of R5.top⟩,_,rfl,_,rfl,_,_,rfl,rfl,_,rfl,(by walk_at "ln"),fun t ht=>?_⟩;have ft:Fre H5 t:=ht;refine ⟨(by walk_at "ln"),fun q hq=>?_⟩;have fq:Fre (upd H5 t _) q:=hq;refine ⟨_,rfl,_,_,rfl,rfl,.inr ⟨_,rfl,?_⟩⟩;have nlt:l≠t:=ne_fre ft R5.top;have h4:∀o,(upd H5 t o) l=some (.lst (ts1.map fun t=>V.ref t.2)):=fun o=>(upd_ne nlt).trans R5.top;have nlq:l≠q:=ne_fre fq (h4 _);refine ⟨_,_,_,rfl,rfl,upd_same,by split<;>decide,by split<;>decide,?_,fun r hr'=>?_⟩
     ·rw [qAK];show 1*_<=_;split<;>decide
     have nlr:l≠r:=ne_fre (show Fre _ r from hr') ((upd_ne nlq).trans (h4 _));obtain ⟨g0,g1,g2,g3⟩:=ext_pair (d:=d) rfl K25 P5 R5 fl npl ft fq hr';refine ⟨_,_,_,_,rfl,rfl,(upd_ne nlr).trans ((upd_ne nlq).trans (h4 _)),upd_same,?_,hN _ _ ⟨d,_,rfl,g1,g2,g3,?_,?_⟩⟩
     ·have hl3:=q3.len;rw [qAE,len_rep,qAK];have:(if decide (0<d)=true then (1:Int) else 0).toNat<=1:=by split<;>decide
      simp only [qAc,qBW];lia
     ·intro u hu;split at hu
      ·rcases qAU.mp hu with z| z
       ·exact f3 u z
       ·rw [qAP.mp z];exact g0
      ·exact f3 u hu
     ·split
      ·have:=q3.add2 (a:=1+(i:Int) - d) (t:=t) cw (by lia) (by lia) (by lia);rw [show 1+(i:Int)=(i:Int)+1 by lia] at this ⊢;exact this
      ·exact q3.mono (by lia)
    ·have cw:¬way=2:=by simpa using c
     exact hN _ _ ⟨v6,ts1,rfl,P4,K4,R4,f3,qa (hw.resolve_right cw)⟩
    ·rintro σ H5 ⟨v6,ts2,rfl,P5,K5,R5,f4,q4⟩;refine ⟨_,rfl,_,rfl,(by walk_at "ln"),fun b hb=>?_⟩;have fb:Fre H5 b:=hb;refine ⟨_,_,rfl,.inl (SqL.of upd_same),rfl,rfl,.inr ⟨_,rfl,?_⟩⟩;rw [qAC rfl,inV12]
     have hb2:(if (!(decide (way=1)||decide (way=2)))=true then (1:Int) else 0)=0:=by
      have:(decide (way=1)||decide (way=2))=true:=by
       rcases hw with z| z<;>simp [z]
      rw [this];rfl
     rw [hb2];have k5b:Kp [] H5 (upd H5 b (.lst [.int 1,.int 2])):=Kp.new Kp.refl fb;refine ⟨_,_,rfl,rfl,Or.inl ⟨by lia,by lia⟩,_,rfl,by lia,by lia,zBr (lo:=0) (n:=((1+(i:Int))*0).toNat) (fun a σ H6=>σ=[some (.ref p),some (.int m),some (.int way),some (.int thin),some (.ref l),some (.int (1+(i:Int))),some (.int v6),o7,o8]/\H6=upd H5 b (.lst [.int 1,.int 2])) ⟨rfl,rfl⟩ ?_ ?_⟩
     ·intro a σ H6 ha;rw [Int.mul_zero] at ha;exact absurd ha (qBu _)
     ·rintro σ H6 ⟨rfl,rfl⟩;exact ⟨_,_,_,_,ts2,rfl,P5.kp k5b (by simp),K5.trans (k5b.weak (by simp)),R5.kp k5b (by simp) (by simp),f4,q4⟩
  ·rintro σ H2 ⟨o5,o6,o7,o8,ts,rfl,P2,K2,R2,f2,q2⟩;exact ⟨_,rfl,k l ts H2 fl R2 f2 (q2.mono (by lia)) P2 K2⟩
end
theorem zDv {α:Type} [BEq α] [LawfulBEq α]:∀{L:List α} {i:Nat} {x:α},L.Nodup->L[i]?=some x->L.idxOf x=i
 | [],i,x,_,h=>by simp at h
 | y::L,0,x,_,h=>by
  have:y=x:=qAa h;subst this;simp
 | y::L,i+1,x,hn,h=>by
  rw [qCh] at h;obtain ⟨h1,h2⟩:=qAv.mp hn;have hne:y≠x:=fun z=>h1 (z▸qAO h);rw [List.idxOf_cons,qA8.mpr hne];show L.idxOf x+1=i+1;rw [zDv h2 h]
theorem zHe {α:Type} {f:α->β}:∀{L:List α},L.Nodup->(∀a∈L,∀b∈L,f a=f b->a=b)->(L.map f).Nodup
 | [],_,_=>qAw
 | x::L,h,hi=>by
  obtain ⟨h1,h2⟩:=qAv.mp h;rw [qAn];refine qAv.mpr ⟨fun z=>?_,zHe h2 fun a ha b hb=>hi a (qAR _ ha) b (qAR _ hb)⟩;obtain ⟨y,hy,e⟩:=qAH.mp z;rw [hi y (qAR _ hy) x qAT e] at hy;exact h1 hy
theorem ne_nil_read {K:PySem.W.Frag} {c e:Addr} {xs:List V} {Q:VK} (h1:SqL K H c xs) (h2:SqL K H e []) (h:∀bb:Bool,(bb=true->xs≠[])->Q (.bl bb) H):rAlike K 8 false (.ref c) (.ref e) H Q\/rUnlen K true (.ref c) (.ref e) H Q:=by
 by_cases z:xs=[]
 ·subst z;exact .inl ⟨c,e,_,_,rfl,rfl,h1,h2,rfl,(fun i x y h=>by simp at h),h false (fun z=>nomatch z)⟩
 ·refine .inr ⟨c,e,_,_,rfl,rfl,h1,h2,fun y=>z (qCT.mp y),h true fun _=>z⟩
structure Spots (Is:List Int) (m:Nat):Prop where
 len:Is.length=m
 nd:Is.Nodup
 lt:∀x∈Is,0<=x/\x<m
theorem Spots.put {Is:List Int} {m:Nat} (S:Spots Is m) (d:Nat):Spots (Is.take d++(m:Int)::Is.drop d) (m+1):=by
 have hp:=ST.ins_perm Is d (m:Int);refine ⟨by rw [hp.length_eq,qAc,S.len],hp.nodup_iff.mpr (qAv.mpr ⟨fun z=>?_,S.nd⟩),fun x hx=>?_⟩
 ·have:=(S.lt _ z).2;lia
 ·rcases qAN.mp (hp.mem_iff.mp hx) with z| z
  ·subst z;lia
  ·have:=S.lt x z;lia
def zHx (ns:List Str) (Is:List Int):List Str:=Is.map fun k=>ns.getD k.toNat Str.empty
theorem rowOf_nd {ns:List Str} {Is:List Int} (hn:ns.Nodup) (S:Spots Is ns.length):(zHx ns Is).Nodup:=by
 refine zHe S.nd fun a ha b hb e=>?_;have h1:=S.lt a ha;have h2:=S.lt b hb;have e1:ns.getD a.toNat Str.empty=ns[a.toNat]'(by lia):=by rw [qA0,qAh (by lia)];rfl
 have e2:ns.getD b.toNat Str.empty=ns[b.toNat]'(by lia):=by rw [qA0,qAh (by lia)];rfl
 rw [e1,e2] at e;have:=(List.getElem_inj hn).mp e;lia
theorem rowOf_at {ns:List Str} {Is:List Int} (S:Spots Is ns.length) {i:Int} (h0:0<=i) (h1:i<ns.length):∃s n,Is[i.toNat]?=some s/\0<=s/\ns[s.toNat]?=some n/\(zHx ns Is)[i.toNat]?=some n:=by
 have hi:i.toNat<Is.length:=by rw [S.len];lia
 have hs:=S.lt Is[i.toNat] (qBr hi);have hs':Is[i.toNat].toNat<ns.length:=by lia
 refine ⟨Is[i.toNat],ns[Is[i.toNat].toNat],qAh hi,hs.1,qAh hs',?_⟩;unfold zHx;rw [qAW,qAh hi];show some (ns.getD _ _)=_;rw [qA0,qAh hs'];rfl
theorem ins_map {α:Type} (f:α->β) (L:List α) (d:Nat) (x:α):(L.map f).take d++f x::(L.map f).drop d=(L.take d++x::L.drop d).map f:=by
 rw [qAQ,qAn,qDG,qDH]
theorem it_at {v:V} (h:(ts.map fun q=>V.ref q.2)[i]?=some v):∃q,ts[i]?=some q/\v= .ref q.2:=by
 rw [qAW] at h;obtain ⟨n,e,r⟩:=qA6.mp h;exact ⟨n,e,r.symm⟩
theorem ITs.kpP {p:Addr} (I:ITs H l ts) (k:Kp [p] H H') (P:zB6 H p) (h1:l≠p):ITs H' l ts:=I.kp k (nm1 h1) fun t ht=>nm1 (by
 obtain ⟨a,b,e,_⟩:=P;exact zBb (I.row t ht) e (fun z=>nomatch z))
theorem it_mem {j x:Int} (h:x∈(ts.filter fun t=>decide (t.1.1=j)).map fun t=>t.1.2):∃t∈ts,t.1.1=j/\t.1.2=x:=by
 obtain ⟨t,h1,h2⟩:=qAH.mp h;obtain ⟨h3,h4⟩:=qAS.mp h1;exact ⟨t,h3,qAt h4,h2⟩
inductive WI (ts:List ((Int×Int)×Addr)):Int->Int->Prop
 | one {t:(Int×Int)×Addr}:t∈ts->WI ts t.1.1 t.1.2
 | tr {a b c:Int}:WI ts a b->WI ts b c->WI ts a c
structure Clo (ts ts':List ((Int×Int)×Addr)):Prop where
 old:∀t∈ts,t∈ts'
 fol:∀t∈ts',WI ts t.1.1 t.1.2
theorem Clo.refl (ts:List ((Int×Int)×Addr)):Clo ts ts:=⟨fun _ h=>h,fun _ h=>.one h⟩
theorem Clo.add {ts' ts2:List ((Int×Int)×Addr)} {t u:(Int×Int)×Addr} {x:Int} {q:Addr} (c:Clo ts ts') (hp:ts2.Perm (((t.1.1,x),q)::ts')) (ht:t∈ts') (hu:u∈ts') (u1:u.1.1=t.1.2) (u2:u.1.2=x):Clo ts ts2:=by
 refine ⟨fun v hv=>hp.mem_iff.mpr (qAR _ (c.old v hv)),fun v hv=>?_⟩;rcases qAN.mp (hp.mem_iff.mp hv) with z| z
 ·rw [z];have h1:=c.fol t ht;have h2:=c.fol u hu;rw [u1,u2] at h2;exact .tr h1 h2
 ·exact c.fol v z
section
def spMore:Sp:=fun vs H Q _=>∃(p c:Addr) (m:Int) (ts:List ((Int×Int)×Addr)),vs=[.ref p,.ref c]/\zB6 H p/\ITs H c ts/\c≠p/\zDy m ts/\ts.length<=19/\∀(g:Addr) (ts':List ((Int×Int)×Addr)) (H':Hp),Fre H g->ITs H' g ts'->zDy m ts'->Clo ts ts'->ts'.length<=22->zB6 H' p->Kp [p] H H'->Q (.ref g) H'
abbrev zCt:Stmt:=top 51
theorem zBf:FnScope ["_law_purse_here", "_law_pairs_here", "_law_found", "_law_k", "_law_i", "_law_j", "_law_onward_here"] ["_law_purse_here", "_law_pairs_here"] (zAd zCt):=fnS
theorem zI1 {f:Addr} {fd:FuncData} (F:Fun K "_law_more_pairs" "_law_more_pairs" zCt f fd) (T:Txt K mg) (C_take:Cal P w K mg base "_law_take" 1 ["_law_purse_here", "_law_many"] zH7):FnOk P w K mg base CX0 2 f fd ["_law_purse_here", "_law_pairs_here"] spMore:=by
 refine F.ok zBf (fun vs H Q E h=>?_) (fun cdv A outer s H vs Q E hr h=>?_)
 ·obtain ⟨p,c,m,ts,rfl,_⟩:=h;rfl
 ·obtain ⟨p,c,m,ts,rfl,hP,I0,ncp,ok0,hts,k⟩:=h
  refine ⟨_,(zAc (psS (i:=2) zBf.nd (zAq zAv (by rfl) T.z_list zC3 (zAa (pv 1) zAb)))
   (zAc (zA1 qAk rfl (zB1 rfl T.z_range (zAa (zAr zE5 (zAq zFi (by rfl) T.z_int bo_int (zAa (zCm (op_neAU hr) (pv 1) (zBp zAb) (zA8 _)) zAb)) (zAf C_take hr rfl (zAa (pv 0) (zAa zAg zAb)))) zAb)) (pgN (i:=3) zBf.nd)
    (zAc (ps_asg (zDc zB9 (pv 2) (zAf C_take hr rfl (zAa (pv 0) (zAa (zAi zAl (by rfl) T.z_len zCo (zAa (pv 2) zAb)) zAb))) (fun _ _=>rfl)) (pg_tup rfl (zA7 (pgN (i:=4) zBf.nd) (zA7 (pgN (i:=5) zBf.nd) zEf))))
    (zAc (zFq (i:=6) rfl (zBe (sc:=zAd zCt) rfl (by decide +kernel)) (Draws.own (x:= "_law_pair") (dtk (i:=5) rfl Draws.nil)) (zAj (pv 2)) (fun _ _ _ _=>(pgB (i:=0))) (fun _ _ _ _=>(zB8 (zAz zIy (zDc (ix_tupK (K:=K)) (pv 0) zAg (fun _ _=>rfl)) (pv 1) (zA8 _)))) (fun _ _ _ _=>(zDc (ix_tupK (K:=K)) (pv 0) zAg (fun _ _=>rfl))) zBf.nd rfl rfl)
    (zAe (zCz (zAz (op_neAU hr) (pv 6) (zBp zAb) (zA8 _))
     (zAe (zAu (zFr qBH PySem.F.slot_list_insert PySem.F.type_list_insert mt_insert (pv 2) (zAa (zAf C_take hr rfl (zAa (pv 0) (zAa (zAr zBx (zAi zAl (by rfl) T.z_len zCo (zAa (pv 2) zAb)) zAg) zAb))) (zAa (zC7 (zAa (pv 4) (zAa (zDc zB9 (pv 6) (zAf C_take hr rfl (zAa (pv 0) (zAa (zAi zAl (by rfl) T.z_len zCo (zAa (pv 6) zAb)) zAb))) (fun _ _=>rfl)) zAb))) zAb)))))
     zAw)))))
   (zAe (zAm (pv 2))))),?_⟩
  refine ⟨_,rfl,_,_,rfl,.inl (SqL.of I0.top),fun g hg=>?_⟩;have fg:Fre H g:=hg;have npg:p≠g:=by obtain ⟨x,y,q,_⟩:=hP;exact ne_fre fg q
  have k1:Kp [] H (upd H g (.lst (ts.map fun t=>V.ref t.2))):=Kp.new Kp.refl fg;have I1:ITs (upd H g (.lst (ts.map fun t=>V.ref t.2))) g ts:=⟨upd_same,fun t ht=>k1 _ _ (I0.row t ht) (by simp)⟩;have J1:=I0.kp k1 (by simp) (by simp);have P1:=hP.kp k1 (by simp);generalize upd H g (.lst (ts.map fun t=>V.ref t.2))=H1 at k1 I1 J1 P1 ⊢;refine ⟨_,rfl,(by walk_at "ln"),fun e he=>?_⟩;have fe:Fre H1 e:=he;have k2:Kp [] H1 (upd H1 e (.lst [])):=Kp.new Kp.refl fe;have J2:=J1.kp k2 (by simp) (by simp);refine ne_nil_read (xs:=ts.map fun t=>V.ref t.2) (SqL.of J2.top) (SqL.of upd_same) fun bb hbb=>?_;have I2:=I1.kp k2 (by simp) (by simp);have P2:=P1.kp k2 (by simp);generalize upd H1 e (.lst [])=H2 at k2 I2 P2 ⊢;refine .inr ⟨bb,rfl,?_⟩;refine ⟨_,rfl,p,4,rfl,P2,by decide,by decide,fun dd H3 dd0 dd1 P3 K3=>?_⟩;have I3:=I2.kpP K3 P2 npg.symm;have K03:Kp [p] H H3:=Kp.trans ((k1.trans k2).weak (by simp)) K3
  have hmul:(if bb=true then (1:Int) else 0)*dd=0\/((if bb=true then (1:Int) else 0)*dd=dd/\ts≠[]):=by
   cases bb with
   | false=>left;rw [qAB (by decide)];lia
   | true=>right;rw [qAC rfl];exact ⟨by lia,fun z=>hbb rfl (by rw [z];rfl)⟩
  have hml:(if bb=true then (1:Int) else 0)=0\/(if bb=true then (1:Int) else 0)=1:=by cases bb<;>simp
  generalize (if bb=true then (1:Int) else 0)=n01 at hmul hml ⊢
  refine ⟨_,_,rfl,rfl,?_,_,rfl,by rcases hmul with z| ⟨z,_⟩<;>lia,by rcases hmul with z| ⟨z,_⟩<;>lia,zBr (lo:=0) (n:=(n01*dd).toNat) (fun i σ H7=>∃(o3 o4 o5 o6:Option V) (ts':List ((Int×Int)×Addr)),σ=[some (.ref p),some (.ref c),some (.ref g),o3,o4,o5,o6]/\zB6 H7 p/\Kp [p] H H7/\ITs H7 g ts'/\zDy m ts'/\Clo ts ts'/\ts.length<=ts'.length/\ts'.length<=ts.length+i)
   ⟨_,_,_,_,ts,rfl,P3,K03,I3,ok0,Clo.refl ts,qAG _,qAG _⟩ ?_ ?_⟩
  ·rcases hml with z| z
   ·exact Or.inl ⟨by lia,by lia⟩
   ·exact Or.inl ⟨by lia,by lia⟩
  ·rintro i σ H7 hi ⟨o3,o4,o5,o6,ts',rfl,P7,K7,I7,ok7,cl7,l7,u7⟩;have hi4:i<4:=by rcases hmul with z| ⟨z,_⟩<;>lia
   have ne:ts≠[]:=by
    rcases hmul with z| ⟨_,z⟩
    ·rw [z] at hi;exact absurd hi (qBu _)
    ·exact z
   have pos:0<ts'.length:=by
    have:=qDS.mpr ne;lia
   refine ⟨_,rfl,_,rfl,_,rfl,_,_,rfl,.inl (SqL.of I7.top),p,_,rfl,P7,?_,?_,fun d1 H8 x0 x1 P8 K8=>?_⟩
   ·rw [qAE];lia
   ·rw [qAE];lia
   rw [qAE] at x1;have I8:=I7.kpP K8 P7 npg.symm;obtain ⟨t,et⟩:∃t,ts'[d1.toNat]?=some t:=⟨ts'[d1.toNat]'(by lia),qAh (by lia)⟩;have mt:=qAO et;have evt:(ts'.map fun t=>V.ref t.2)[d1.toNat]?=some (V.ref t.2):=by rw [qAW,et];rfl
   refine ⟨_,_,_,.ref t.2,rfl,rfl,SqL.of I8.top,zFk x0 evt,_,_,rfl,.inl (.inl (I8.row t mt)),rfl,_,_,rfl,_,_,rfl,rfl,?_⟩
   refine ⟨_,rfl,_,rfl,⟨_,SqL.of I8.top⟩,fun b hb=>zBd (ts'.map fun t=>V.ref t.2) (fun i ys τ H9=>(∃o0,τ=[o0,some (.int t.1.2)])/\ys=(((ts'.take i).filter fun u=>decide (u.1.1=t.1.2)).map fun u=>V.int u.1.2)/\H9=upd H8 b (.lst ys))
    ⟨⟨_,rfl⟩,rfl,rfl⟩ (fun i ys τ H9 ⟨_,_,z⟩=>by subst z;exact SqL.of ((Kp.new (M:=[]) Kp.refl hb) _ _ I8.top (by simp))) ?_ ?_⟩
   ·rintro i v ys τ H9 hv ⟨⟨o0,rfl⟩,rfl,rfl⟩;obtain ⟨u,eu,rfl⟩:=it_at hv;have hrow:(upd H8 b (.lst (((ts'.take i).filter fun u=>decide (u.1.1=t.1.2)).map fun u=>V.int u.1.2))) u.2=some (.tup [.int u.1.1,.int u.1.2]):=(Kp.new (M:=[]) Kp.refl hb) _ _ (I8.row u (qAO eu)) (by simp);refine ⟨_,rfl,_,_,_,_,rfl,rfl,.inl (.inl hrow),atI_natc (n:=0) rfl,_,rfl,rfl,_,rfl,ite2 (fun c=>?_) (fun c=>?_)⟩
    ·have c':u.1.1=t.1.2:=by simpa using c
     refine ⟨_,rfl,_,_,_,_,rfl,rfl,.inl (.inl hrow),atI_natc (n:=1) rfl,upd_same,?_,⟨_,rfl⟩,?_,zBg⟩
     ·have h1:=qAy (fun u:(Int×Int)×Addr=>decide (u.1.1=t.1.2)) (ts'.take i);rw [qAe] at h1;rw [qAE,qAK];lia
     ·rw [zBs eu (qAV c'),qAQ];rfl
    ·have c':¬u.1.1=t.1.2:=fun z=>c (by simpa using z);refine ⟨⟨_,rfl⟩,?_,?_⟩
     ·rw [zCn eu (by simpa using c')]
     ·rfl
   rintro ys τ H9 ⟨_,rfl,rfl⟩;have eT:ts'.take (ts'.map fun t=>V.ref t.2).length=ts':=by rw [qAE,qAi]
   rw [eT];have fb:Fre H8 b:=hb;have npb:p≠b:=by obtain ⟨x,y,q,_⟩:=P8;exact ne_fre fb q
   have eO:((ts'.filter fun u=>decide (u.1.1=t.1.2)).map fun u=>V.int u.1.2)=((ts'.filter fun u=>decide (u.1.1=t.1.2)).map fun u=>u.1.2).map V.int:=by rw [qA1];rfl
   rw [eO];have hOl:((ts'.filter fun u=>decide (u.1.1=t.1.2)).map fun u=>u.1.2).length<=ts'.length:=by rw [qAE];exact qAy _ _
   have hOm:∀x∈((ts'.filter fun u=>decide (u.1.1=t.1.2)).map fun u=>u.1.2),∃u∈ts',u.1.1=t.1.2/\u.1.2=x:=fun x hx=>it_mem hx;generalize ((ts'.filter fun u=>decide (u.1.1=t.1.2)).map fun u=>u.1.2)=On at hOl hOm ⊢;have k9:Kp [] H8 (upd H8 b (.lst (On.map V.int))):=Kp.new Kp.refl fb;have h9:(upd H8 b (.lst (On.map V.int))) b=some (.lst (On.map V.int)):=upd_same;have I9:=I8.kp k9 (by simp) (by simp);have P9:=P8.kp k9 (by simp);generalize upd H8 b (.lst (On.map V.int))=H9 at k9 h9 I9 P9 ⊢;have K79:Kp [p] H7 H9:=K8.trans (k9.weak (by simp));refine ⟨_,rfl,(by walk_at "ln"),fun e2 he2=>?_⟩;have fe2:Fre H9 e2:=he2;have k10:Kp [] H9 (upd H9 e2 (.lst [])):=Kp.new Kp.refl fe2;have h10:=k10 b _ h9 (by simp);have h10e:(upd H9 e2 (.lst [])) e2=some (.lst []):=upd_same;have I10:=I9.kp k10 (by simp) (by simp);have P10:=P9.kp k10 (by simp);generalize upd H9 e2 (.lst [])=H10 at k10 h10 h10e I10 P10 ⊢;have K710:Kp [p] H7 H10:=K79.trans (k10.weak (by simp));refine ne_nil_is (SqL.of h10) (SqL.of h10e) ?_;refine ⟨_,rfl,ite2 (fun c1=>?_) (fun c1=>?_)⟩
   ·have posO:0<On.length:=qDS.mpr fun z=>by rw [z] at c1;exact absurd c1 (by decide)
    refine ⟨_,rfl,.inl ⟨rfl,_,SqL.of I10.top⟩,_,rfl,_,rfl,_,_,rfl,.inl (SqL.of I10.top),_,_,rfl,rfl,p,_,rfl,P10,?_,?_,fun d2 H11 y0 y1 P11 K11=>?_⟩
    ·lia
    ·rw [qAE];lia
    rw [qAE] at y1;have I11:=I10.kpP K11 P10 npg.symm;have h11:=K11 b _ h10 (nm1 npb.symm);refine ⟨_,rfl,_,rfl,_,rfl,_,rfl,_,_,rfl,.inl (SqL.of h11),p,_,rfl,P11,?_,?_,fun d3 H12 z0 z1 P12 K12=>?_⟩
    ·rw [qAE];lia
    ·rw [qAE];lia
    rw [qAE] at z1;have I12:=I11.kpP K12 P11 npg.symm;have h12:=K12 b _ h11 (nm1 npb.symm);obtain ⟨x,ex⟩:∃x,On[d3.toNat]?=some x:=⟨On[d3.toNat]'(by lia),qAh (by lia)⟩;obtain ⟨u,mu,u1,u2⟩:=hOm x (qAO ex);have evx:(On.map V.int)[d3.toNat]?=some (V.int x):=by rw [qAW,ex];rfl
    refine ⟨_,_,_,.int x,rfl,rfl,SqL.of h12,zFk z0 evx,(by walk_at "ln"),fun q hq=>?_⟩;have fq:Fre H12 q:=hq;have k13:Kp [] H12 (upd H12 q (.tup [.int t.1.1,.int x])):=Kp.new Kp.refl fq;have h13:(upd H12 q (.tup [.int t.1.1,.int x])) q=some (.tup [.int t.1.1,.int x]):=upd_same;have I13:=I12.kp k13 (by simp) (by simp);have P13:=P12.kp k13 (by simp);generalize upd H12 q (.tup [.int t.1.1,.int x])=H13 at k13 h13 I13 P13 ⊢;refine ⟨_,_,_,_,rfl,rfl,I13.top,?_,y0,?_,?_⟩
    ·rw [qAE,qAK];lia
    ·rw [qAE];lia
    ·have hp:=ST.ins_perm ts' d2.toNat (((t.1.1,x),q):(Int×Int)×Addr);have K713:Kp [p] H7 H13:=K710.trans (K11.trans (K12.trans (k13.weak (by simp))));refine ⟨_,_,_,_,ts'.take d2.toNat++((t.1.1,x),q)::ts'.drop d2.toNat,rfl,P13.kp (M:=[g]) (Kp.put Kp.refl (by simp)) (nm1 npg),Kp.new (K7.trans K713) fg,⟨?_,fun v hv=>?_⟩,fun v hv=>?_,cl7.add hp mt mu u1 u2,?_,?_⟩
     ·rw [upd_same,<-ins_map (fun t:(Int×Int)×Addr=>V.ref t.2)]
     ·rcases qAN.mp (hp.mem_iff.mp hv) with z| z
      ·rw [z];exact (upd_ne (zBb h13 I13.top (fun y=>nomatch y))).trans h13
      ·exact (upd_ne (zBb (I13.row v z) I13.top (fun y=>nomatch y))).trans (I13.row v z)
     ·rcases qAN.mp (hp.mem_iff.mp hv) with z| z
      ·rw [z];have q1:=ok7 t mt;have q2:=ok7 u mu;exact ⟨q1.1,by show t.1.1<x;lia,by show x<m;lia⟩
      ·exact ok7 v z
     ·rw [hp.length_eq,qAc];lia
     ·rw [hp.length_eq,qAc];lia
   ·exact ⟨_,_,_,_,ts',rfl,P10,K7.trans K710,I10,ok7,cl7,l7,by lia⟩
  ·rintro σ H7 ⟨o3,o4,o5,o6,ts',rfl,P7,K7,I7,ok7,cl7,l7,u7⟩;refine ⟨_,rfl,k g ts' H7 fg I7 ok7 cl7 ?_ P7 K7⟩;rcases hmul with z| ⟨z,_⟩<;>lia
end
structure WoodQ (way m:Int) (ts ts':List ((Int×Int)×Addr)) (R:List Str) (qs:List (List Str×Addr)):Prop where
 nd:R.Nodup
 ok:WOk way m 19 ts
 cl:Clo ts ts'
 wy:way=1\/way=2
 len:qs.length=ts'.length
 at':∀(j:Nat) (q:List Str×Addr) (t:(Int×Int)×Addr),qs[j]?=some q->ts'[j]?=some t->R[t.1.1.toNat]?=some (fst q)/\R[t.1.2.toNat]?=some (snd q)
section
def spWood:Sp:=fun vs H Q _=>∃(p:Addr) (mo:Int),vs=[.ref p,.int mo]/\0<=mo/\mo<=20/\zB6 H p/\∀(t l m:Addr) (ns:List Str) (qs:List (List Str×Addr)) (r:Str->Nat) (way mm:Int) (ts ts':List ((Int×Int)×Addr)) (R:List Str) (H':Hp),(ns.length:Int)<=mo->qs.length<=22->H' t=some (.tup [.ref l,.ref m])->Fre H t->Fre H l->Fre H m->(∀q∈qs,Fre H q.2)->Txs H' l ns->Ords H' m qs->Good ns qs r->WoodQ way mm ts ts' R qs->zB6 H' p->Kp [p] H H'->Q (.ref t) H'
abbrev s_wood:Stmt:=top 52
theorem zFn:FnScope ["_law_purse_here", "_law_most", "_law_many", "_law_names_here", "_law_pairs_here", "_law_spots", "_law_k"] ["_law_purse_here", "_law_most"] (zAd s_wood):=fnS
theorem ok_wood {f:Addr} {fd:FuncData} (F:Fun K "_law_wood" "_law_wood" s_wood f fd) (T:Txt K mg) (C_take:Cal P w K mg base "_law_take" 1 ["_law_purse_here", "_law_many"] zH7) (C_names:Cal P w K mg base "_law_names" 2 ["_law_purse_here", "_law_many"] spLNames)
  (C_pairs:Cal P w K mg base "_law_pairs" 2 ["_law_purse_here", "_law_many", "_law_way", "_law_thin"] spLPairs) (C_more_pairs:Cal P w K mg base "_law_more_pairs" 2 ["_law_purse_here", "_law_pairs_here"] spMore):FnOk P w K mg base CX0 3 f fd ["_law_purse_here", "_law_most"] spWood:=by
 refine F.ok zFn (fun vs H Q E h=>?_) (fun cdv A outer s H vs Q E hr h=>?_)
 ·obtain ⟨p,mo,rfl,_⟩:=h;rfl
 ·obtain ⟨p,mo,rfl,mo0,mo1,hP,k⟩:=h;have HR_take:=hr.mono (j:=1) (by decide)
  refine ⟨_,(zAc (psS (i:=2) zFn.nd (zAf C_take HR_take rfl (zAa (pv 0) (zAa (zAr zBx (pv 1) zAg) zAb))))
   (zAc (psS (i:=3) zFn.nd (zAf C_names hr rfl (zAa (pv 0) (zAa (pv 2) zAb))))
   (zAc (psS (i:=4) zFn.nd (zAf C_more_pairs hr rfl (zAa (pv 0) (zAa (zAf C_pairs hr rfl (zAa (pv 0) (zAa (pv 2) (zAa (zAr zBx zAg (zAf C_take HR_take rfl (zAa (pv 0) (zAa zAg zAb)))) (zAa zAg zAb))))) zAb))))
   (zAc (psS (i:=5) zFn.nd (zBp zAb))
   (zAc (zA1 qAk rfl (zB1 rfl T.z_range (zAa (pv 2) zAb)) (pgN (i:=6) zFn.nd)
    (zAe (zAu (zFr qBH PySem.F.slot_list_insert PySem.F.type_list_insert mt_insert (pv 5) (zAa (zAf C_take HR_take rfl (zAa (pv 0) (zAa (zAr zBx (pv 6) zAg) zAb))) (zAa (pv 6) zAb))))))
   (zAe (zAm (zC7 (zAa (pv 3) (zAa (zBa rfl (zBe (sc:=zAd s_wood) rfl (by decide +kernel)) (Draws.own (x:= "_law_i") (Draws.own (x:= "_law_j") (dtk (i:=3) rfl (dtk (i:=5) rfl Draws.nil)))) (zAj (pv 4)) (fun _ _ _ _=>(zIx (K:=K) (n:=2) rfl (zA7 (pgB (i:=0)) (zA7 (pgB (i:=1)) zEf)))) (fun _ _ _ _=>zCl) (fun _ _ _ _=>(zC7 (zAa (zDc (zGo (K:=K)) (pv 2) (zDc (zGo (K:=K)) (pv 3) (pv 0) (fun _ _=>rfl)) (fun _ _=>rfl)) (zAa (zDc (zGo (K:=K)) (pv 2) (zDc (zGo (K:=K)) (pv 3) (pv 1) (fun _ _=>rfl)) (fun _ _=>rfl)) zAb))))) zAb)))))))))),?_⟩
  refine ⟨_,rfl,_,rfl,_,_,rfl,rfl,p,mo+1,rfl,hP,by lia,by lia,fun m H1 m0 m1 P1 K1=>?_⟩;refine ⟨_,rfl,_,rfl,p,m,rfl,P1,m0,by lia,fun l ns H2 fl hl en nd nm P2 K2=>?_⟩;have npl:p≠l:=by obtain ⟨a,b,e,_⟩:=P1;exact ne_fre fl e
  refine ⟨_,rfl,_,rfl,_,rfl,_,rfl,p,2,rfl,P2,by decide,by decide,fun dw H3 w0 w1 P3 K3=>?_⟩;refine ⟨_,_,rfl,rfl,p,m,_,2,rfl,P3,m0,by lia,by lia,fun c0 ts H4 fc0 I4 ft4 wk4 P4 K4=>?_⟩;have npc0:p≠c0:=by obtain ⟨x,y,e,_⟩:=P3;exact ne_fre fc0 e
  refine ⟨p,c0,m,ts,rfl,P4,I4,npc0.symm,wk4.ok,by have:=wk4.len;lia,fun c ts' H7 fc I7 ok7 cl7 hts P7 K47=>?_⟩;have npc:p≠c:=by obtain ⟨x,y,e,_⟩:=P4;exact ne_fre fc e
  have K27:Kp [p] H2 H7:=K3.trans (K4.trans K47);have K7:Kp [p] H H7:=K1.trans (K2.trans K27);have hl7:Txs H7 l ns:=K27 l _ hl (nm1 npl.symm);have flH:Fre H l:=K1.fre fl (nm1 npl.symm);refine ⟨(by walk_at "ln"),fun g hg=>?_⟩;have fg:Fre H7 g:=hg;have npg:p≠g:=by obtain ⟨x,y,q,_⟩:=P7;exact ne_fre fg q
  have nlg:l≠g:=ne_fre fg hl7;have ncg:c≠g:=ne_fre fg I7.top;have fgH:Fre H g:=K7.fre fg (nm1 npg.symm);have k7g:Kp [] H7 (upd H7 g (.lst [])):=Kp.new Kp.refl fg;have ntp':∀t∈ts',t.2∉[p]:=fun t ht=>nm1 (by obtain ⟨x,y,q,_⟩:=P7;exact zBb (I7.row t ht) q (fun z=>nomatch z))
  refine ⟨_,rfl,_,rfl,by lia,by lia,zBr (lo:=0) (n:=m.toNat) (fun i σ H8=>∃(o7:Option V) (Is:List Int),σ=[some (.ref p),some (.int mo),some (.int m),some (.ref l),some (.ref c),some (.ref g),o7]/\zB6 H8 p/\Kp [p] H H8/\Txs H8 l ns/\ITs H8 c ts'/\H8 g=some (.lst (Is.map V.int))/\Spots Is i)
   ⟨_,[],rfl,P7.kp k7g (by simp),Kp.new K7 fgH,k7g l _ hl7 (by simp),I7.kp k7g (by simp) (by simp),upd_same,rfl,qAw,(fun x h=>nomatch h)⟩ ?_ ?_⟩
  ·rintro i σ H8 hi ⟨o7,Is,rfl,P8,K8,hl8,I8,hg8,S8⟩;refine ⟨_,rfl,.inl ⟨rfl,_,SqL.of hg8⟩,_,rfl,_,rfl,_,_,rfl,rfl,p,_,rfl,P8,?_,?_,fun d1 H9 x0 x1 P9 K9=>?_⟩
   ·lia
   ·lia
   have hg9:=K9 g _ hg8 (nm1 npg.symm);refine ⟨_,rfl,_,_,_,_,rfl,rfl,hg9,?_,x0,?_,?_⟩
   ·rw [qAE,S8.len,qAK];lia
   ·rw [qAE,S8.len];lia
   ·have e1:(Is.map V.int).take d1.toNat++V.int (0+(i:Int))::(Is.map V.int).drop d1.toNat=(Is.take d1.toNat++(i:Int)::Is.drop d1.toNat).map V.int:=by
     rw [qDV];exact ins_map V.int Is d1.toNat (i:Int)
    rw [e1];have hl9:=K9 l _ hl8 (nm1 npl.symm);have I9:=I8.kp K9 (nm1 npc.symm) ntp';exact ⟨_,_,rfl,P9.kp (M:=[g]) (Kp.put Kp.refl (by simp)) (nm1 npg),Kp.new (K8.trans K9) fgH,(upd_ne nlg).trans hl9,⟨(upd_ne ncg).trans I9.top,fun u hu=>(upd_ne (zBb (I9.row u hu) hg9 (fun y=>nomatch y))).trans (I9.row u hu)⟩,upd_same,S8.put _⟩
  ·rintro σ H8 ⟨o7,Is,rfl,P8,K8,hl8,I8,hg8,S8⟩;rw [<-en] at S8;have hmn:(ns.length:Int)=m:=by rw [en];lia
   refine ⟨_,rfl,_,rfl,_,rfl,⟨_,SqL.of I8.top⟩,fun B hB=>zA3 (ts'.map fun t=>V.ref t.2) (fun i ys τ H9=>∃ks:List (List Str×Addr),(∃o0 o1,τ=[o0,o1,some (.ref l),some (.ref g)])/\ys=(ks.map fun q=>V.ref q.2)/\ks.length=i/\(∀(j:Nat) (q:List Str×Addr) (t:(Int×Int)×Addr),ks[j]?=some q->ts'[j]?=some t->(zHx ns Is)[t.1.1.toNat]?=some (fst q)/\(zHx ns Is)[t.1.2.toNat]?=some (snd q))/\(∀q∈ks,H9 q.2=some (.tup (q.1.map V.str))/\Fre H q.2/\∃(a b:Str) (x y:Nat),q.1=[a,b]/\x<y/\(zHx ns Is)[x]?=some a/\(zHx ns Is)[y]?=some b)/\Kp [] H8 H9/\H9 B=some (.lst ys))
    ⟨[],⟨_,_,rfl⟩,rfl,rfl,(fun j q t h=>by simp at h),(fun q h=>nomatch h),Kp.new Kp.refl hB,upd_same⟩ (fun i ys τ H9 ⟨_,_,_,_,_,_,k9,_⟩=>SqL.of (k9 c _ I8.top (by simp))) ?_ ?_⟩
   ·rintro i v ys τ H9 hv ⟨ks,⟨o0,o1,rfl⟩,rfl,ek,hj,hk,k9,h9⟩;obtain ⟨t,eq,rfl⟩:=it_at hv;have mt:=qAO eq;have okt:=ok7 t mt;have hrow:H9 t.2=some (.tup [.int t.1.1,.int t.1.2]):=k9 t.2 _ (I8.row t mt) (by simp);refine ⟨_,_,rfl,.inl (.inl hrow),rfl,_,_,rfl,_,_,rfl,rfl,?_⟩;obtain ⟨s1,n1,a1,a2,a3,a4⟩:=rowOf_at S8 okt.1 (by lia);obtain ⟨s2,n2,b1,b2,b3,b4⟩:=rowOf_at S8 (i:=t.1.2) (by lia) (by lia);have hl9:=k9 l _ hl8 (by simp);have hg9:=k9 g _ hg8 (by simp);have ai:∀{x:Int} {s:Int},0<=x->Is[x.toNat]?=some s->atI (Is.map V.int) x=some (.int s):=fun h0 h=>zFk h0 (by rw [qAW,h];rfl);have an:∀{x:Int} {n:Str},0<=x->ns[x.toNat]?=some n->atI (ns.map V.str) x=some (.str n):=fun h0 h=>zFk h0 (by rw [qAW,h];rfl);refine ⟨_,rfl,_,rfl,_,rfl,_,_,_,_,rfl,rfl,SqL.of hg9,ai okt.1 a1,_,_,_,_,rfl,rfl,SqL.of hl9,an a2 a3,_,rfl,_,rfl,_,rfl,_,_,_,_,rfl,rfl,SqL.of hg9,ai (by lia) b1,_,_,_,_,rfl,rfl,SqL.of hl9,an b2 b3,(by walk_at "ln"),fun u hu=>?_⟩;have fu:Fre H9 u:=hu;have nBu:B≠u:=ne_fre fu h9;have hu8:Fre H8 u:=k9.fre fu (by simp);have npu:p≠u:=by obtain ⟨x,y,q,_⟩:=P8;exact ne_fre hu8 q
    have fuH:Fre H u:=K8.fre hu8 (nm1 npu.symm);refine ⟨(upd_ne nBu).trans h9,?_,ks++[([n1,n2],u)],⟨_,_,rfl⟩,?_,by rw [qAg,ek];rfl,fun j q t' e1 e2=>?_,fun q hq=>?_,Kp.new (Kp.new k9 (k9.fre fu (by simp))) hB,upd_same⟩
    ·have:=(qAd.mp eq).1;rw [qAE,ek,qAK];lia
    ·rw [qAQ];rfl
    ·by_cases c:j<ks.length
     ·rw [qBc c] at e1;exact hj j q t' e1 e2
     ·have hjl:=(qAd.mp e1).1;rw [qAg,qBe] at hjl;have ej:j=i:=by lia
      rw [qBb (by lia),show j - ks.length=0 by lia] at e1;have e1:([n1,n2],u)=q:=by simpa using e1
      rw [ej,eq] at e2
      cases e2
      rw [<-e1];exact ⟨a4,b4⟩
    ·rcases qAU.mp hq with z| z
     ·obtain ⟨z1,z2⟩:=hk q z;exact ⟨(upd_ne (zBb z1 h9 (fun y=>nomatch y))).trans ((upd_ne (ne_fre fu z1)).trans z1),z2⟩
     ·rw [qAP.mp z];exact ⟨(upd_ne nBu.symm).trans upd_same,fuH,n1,n2,t.1.1.toNat,t.1.2.toNat,rfl,by lia,a4,b4⟩
   ·rintro ys τ H9 ⟨ks,_,rfl,ek,hj,hk,k9,h9⟩;rw [qAE] at ek;refine ⟨(by walk_at "ln"),fun t ht=>?_⟩;have ft:Fre H9 t:=ht;have k10:Kp [] H9 (upd H9 t (.tup [.ref l,.ref B])):=Kp.new Kp.refl ft;have ft8:Fre H8 t:=k9.fre ft (by simp);have npt:p≠t:=by obtain ⟨x,y,q,_⟩:=P8;exact ne_fre ft8 q
    have npB:p≠B:=by obtain ⟨x,y,q,_⟩:=P8;exact ne_fre (show Fre H8 B from hB) q
    have rnd:=rowOf_nd nd S8
    have rin:∀{x:Nat} {a:Str},(zHx ns Is)[x]?=some a->a∈ns:=fun {x a} h=>by
     obtain ⟨s,hs,e⟩:=qAH.mp (qAO h);have:=S8.lt s hs;rw [<-e,qA0,qAh (by lia)];exact qBr _
    refine k t l B ns ks (fun n=>(zHx ns Is).idxOf n) _ m ts ts' (zHx ns Is) _ (by rw [en];lia) (by lia) upd_same (K8.fre ft8 (nm1 npt.symm)) flH (K8.fre (show Fre H8 B from hB) (nm1 npB.symm)) (fun q hq=>(hk q hq).2.1) ((k9.trans k10) l _ hl8 (by simp)) ⟨k10 B _ h9 (by simp),fun q hq=>k10 _ _ (hk q hq).1 (by simp),fun q hq=>?_⟩ ⟨nm,nd,by rw [en];lia,by lia,fun q hq x hx=>?_,fun q hq=>?_⟩ ⟨rnd,wk4,cl7,by lia,ek,hj⟩ (P8.kp (k9.trans k10) (by simp)) (K8.trans ((k9.trans k10).weak (by simp)))
    ·obtain ⟨a,b,x,y,e,_⟩:=(hk q hq).2.2;exact ⟨a,b,e⟩
    ·obtain ⟨a,b,i,j,e,_,h1,h2⟩:=(hk q hq).2.2;rw [e] at hx;rcases qAN.mp hx with z| z
     ·rw [z];exact rin h1
     ·rw [qAP.mp z];exact rin h2
    ·obtain ⟨a,b,i,j,e,hij,h1,h2⟩:=(hk q hq).2.2;have e1:fst q=a:=by unfold fst;rw [e];rfl
     have e2:snd q=b:=by unfold snd;rw [e];rfl
     rw [e1,e2,zDv rnd h1,zDv rnd h2];exact hij
end
theorem WI.first (h:WI ts a b):∃t∈ts,t.1.1=a/\(t.1.2=b\/WI ts t.1.2 b):=by
 induction h with
 | one h=>exact ⟨_,h,rfl,.inl rfl⟩
 | tr _ h2 ih1 _ =>
  obtain ⟨t,h,e,z⟩:=ih1;exact ⟨t,h,e,.inr (z.elim (fun y=>y▸h2) fun y=>.tr y h2)⟩
theorem WI.last (h:WI ts a b):∃t∈ts,t.1.2=b/\(t.1.1=a\/WI ts a t.1.1):=by
 induction h with
 | one h=>exact ⟨_,h,rfl,.inl rfl⟩
 | tr h1 _ _ ih2 =>
  obtain ⟨t,h,e,z⟩:=ih2;exact ⟨t,h,e,.inr (z.elim (fun y=>y▸h1) fun y=>.tr h1 y)⟩
theorem nd_same {f:β->Int}:∀{L:List β},(L.map f).Nodup->∀a∈L,∀b∈L,f a=f b->a=b
 | [],_,_,h,_,_,_=>nomatch h
 | c::L,nd,a,ha,b,hb,e=>by
  rw [qAn] at nd;obtain ⟨n1,n2⟩:=qAv.mp nd;rcases qAN.mp ha with y| y
  ·rcases qAN.mp hb with z| z
   ·exact y.trans z.symm
   ·exact absurd (qAH.mpr ⟨b,z,by rw [<-e,y]⟩) n1
  ·rcases qAN.mp hb with z| z
   ·exact absurd (qAH.mpr ⟨a,y,by rw [e,z]⟩) n1
   ·exact nd_same n2 a y b z e
section
variable {way m:Int} {ts ts':List ((Int×Int)×Addr)} {R:List Str} {qs:List (List Str×Addr)}
theorem WI.pos (ok:zDy m ts) (h:WI ts a b):0<=a/\0<=b:=by
 induction h with
 | one h=>have:=ok _ h;lia
 | tr _ _ i1 i2=>lia
theorem WoodQ.same (W:WoodQ way m ts ts' R qs) {x y:Int} {a:Str} (hx:0<=x) (hy:0<=y) (h1:R[x.toNat]?=some a) (h2:R[y.toNat]?=some a):x=y:=by
 have e1:=zDv W.nd h1;have e2:=zDv W.nd h2;lia
theorem WoodQ.fwd (W:WoodQ way m ts ts' R qs) {a b:Str} (h:Way qs a b):∃x y:Int,R[x.toNat]?=some a/\R[y.toNat]?=some b/\WI ts x y:=by
 have one:∀{a b:Str},TA qs a b->∃x y:Int,R[x.toNat]?=some a/\R[y.toNat]?=some b/\WI ts x y:=fun {a b} ⟨q,hq,e1,e2⟩=>by
  obtain ⟨j,ej⟩:=qDW hq;have hj:=(qAd.mp ej).1;obtain ⟨t,et⟩:∃t,ts'[j]?=some t:=⟨_,qAh (by rw [<-W.len];exact hj)⟩;obtain ⟨h1,h2⟩:=W.at' j q t ej et;rw [e1] at h1;rw [e2] at h2;exact ⟨_,_,h1,h2,W.cl.fol t (qAO et)⟩
 induction h with
 | one h=>exact one h
 | more _ h ih =>
  obtain ⟨x,y,h1,h2,h3⟩:=ih;obtain ⟨y',z,g1,g2,g3⟩:=one h;have e:=W.same (h3.pos W.ok.ok).2 (g3.pos W.ok.ok).1 h2 g1;rw [<-e] at g3;exact ⟨x,z,h1,g2,.tr h3 g3⟩
theorem WoodQ.bwd (W:WoodQ way m ts ts' R qs) {x y:Int} (h:WI ts x y):∃a b:Str,R[x.toNat]?=some a/\R[y.toNat]?=some b/\Way qs a b:=by
 induction h with
 | @one t h =>
  obtain ⟨j,ej⟩:=qDW (W.cl.old t h);have hj:=(qAd.mp ej).1;obtain ⟨q,eq⟩:∃q,qs[j]?=some q:=⟨_,qAh (by rw [W.len];exact hj)⟩;obtain ⟨h1,h2⟩:=W.at' j q t eq ej;exact ⟨_,_,h1,h2,.one ⟨q,qAO eq,rfl,rfl⟩⟩
 | tr _ _ i1 i2 =>
  obtain ⟨a,b,h1,h2,h3⟩:=i1;obtain ⟨b',c,g1,g2,g3⟩:=i2;rw [h2] at g1
  cases g1
  exact ⟨a,c,h1,g2,h3.trans g3⟩
theorem WoodQ.gath (W:WoodQ 1 m ts ts' R qs) {n y':Str} (h:Way qs n y) (s:∀z,Way qs n z->¬Way qs z y) (h':Way qs n y') (s':∀z,Way qs n z->¬Way qs z y'):y=y':=by
 have key:∀{y:Str},Way qs n y->(∀z,Way qs n z->¬Way qs z y)->∃t∈ts,R[t.1.1.toNat]?=some n/\R[t.1.2.toNat]?=some y:=fun {y} h s=>by
  obtain ⟨i,k,h1,h2,h3⟩:=W.fwd h;obtain ⟨t,ht,e,z⟩:=h3.first;rw [<-e] at h1;rcases z with z| z
  ·rw [<-z] at h2;exact ⟨t,ht,h1,h2⟩
  ·obtain ⟨a,b,g1,g2,g3⟩:=W.bwd z;obtain ⟨a',b',g4,g5,g6⟩:=W.bwd (.one ht);rw [h1] at g4;cases g4;rw [g1] at g5;cases g5;rw [h2] at g2;cases g2;exact absurd g3 (s _ g6)
 obtain ⟨t,t1,t2,t3⟩:=key h s;obtain ⟨u,u1,u2,u3⟩:=key h' s';have p1:=W.ok.ok t t1;have p2:=W.ok.ok u u1;have e:=nd_same (f:=fun t:(Int×Int)×Addr=>t.1.1) (W.ok.w1 rfl).2 t t1 u u1 (W.same p1.1 p2.1 t2 u2);rw [<-e,t3] at u3;exact qAa u3
theorem WoodQ.spread (W:WoodQ 2 m ts ts' R qs) {n y':Str} (h:Way qs y n) (s:∀z,Way qs z n->¬Way qs y z) (h':Way qs y' n) (s':∀z,Way qs z n->¬Way qs y' z):y=y':=by
 have key:∀{y:Str},Way qs y n->(∀z,Way qs z n->¬Way qs y z)->∃t∈ts,R[t.1.2.toNat]?=some n/\R[t.1.1.toNat]?=some y:=fun {y} h s=>by
  obtain ⟨i,k,h1,h2,h3⟩:=W.fwd h;obtain ⟨t,ht,e,z⟩:=h3.last;rw [<-e] at h2;rcases z with z| z
  ·rw [<-z] at h1;exact ⟨t,ht,h2,h1⟩
  ·obtain ⟨a,b,g1,g2,g3⟩:=W.bwd z;obtain ⟨a',b',g4,g5,g6⟩:=W.bwd (.one ht);rw [h2] at g5;cases g5;rw [g2] at g4;cases g4;rw [h1] at g1;cases g1;exact absurd g3 (s _ g6)
 obtain ⟨t,t1,t2,t3⟩:=key h s;obtain ⟨u,u1,u2,u3⟩:=key h' s';have p1:=W.ok.ok t t1;have p2:=W.ok.ok u u1;have e:=nd_same (f:=fun t:(Int×Int)×Addr=>t.1.2) (W.ok.w2 rfl).2 t t1 u u1 (W.same (by lia) (by lia) t2 u2);rw [<-e,t3] at u3;exact qAa u3
end
theorem strB_mem (h:y∈strB J x):y∈J.ns/\x∈J.S y:=by
 have h1:=(qAS.mp (qAS.mp h).1);exact ⟨h1.1,qAt h1.2⟩
structure OrdJ (J:JR) (r:Str->Nat):Prop where
 nd:J.ns.Nodup
 few:J.ns.length<=20
 rk:∀n∈J.ns,∀x∈J.S n,r x<r n
 sub:∀n∈J.ns,∀x∈J.S n,x∈J.ns
 tr:∀n∈J.ns,∀m∈J.S n,∀x∈J.S m,x∈J.S n
theorem zId {qs:List (List Str×Addr)} {r:Str->Nat} (A:JobsAt C H j J) (G:Good J.ns qs r) (hz:∀k,k∈J.zs.map (·.1)↔k∈qs.map (·.1)) (two:∀q∈qs,∃a b,q.1=[a,b]):OrdJ J r:=by
 have sub:∀n∈J.ns,∀x∈J.S n,x∈J.ns:=fun n hn x hx=>(Way.to two G.qin ((zFl A G hz hn).mp hx)).1;exact ⟨A.nd,A.few,fun n hn x hx=>S_rank A G hz _ n x (qAG _) hn hx,sub,fun n hn m hm x hx=>(zFl A G hz hn).mpr (((zFl A G hz (sub n hn m hm)).mp hx).trans ((zFl A G hz hn).mp hm))⟩
theorem strB_iff :y∈strB J x↔y∈J.ns/\x∈J.S y/\∀z∈J.ns,x∈J.S z->z∉J.S y:=by
 unfold strB;rw [qAS,qAS,qBT,Bool.not_eq_true',List.any_eq_false];constructor
 ·rintro ⟨⟨h1,h2⟩,h3⟩;exact ⟨h1,h2,fun z hz hx hs=>h3 z (qAS.mpr ⟨hz,qAV hx⟩) (qAV hs)⟩
 ·rintro ⟨h1,h2,h3⟩;refine ⟨⟨h1,h2⟩,fun z hz c=>?_⟩;obtain ⟨z1,z2⟩:=qAS.mp hz;exact h3 z z1 (qAt z2) (qAt c)
theorem list_at {r:Str->Nat} {b:Nat} (hb:1<=b):∀(f:Nat) (A L:List Str),ListI J r A L->(∀n∈L,n∉A)->L.Nodup->∀(i:Nat) (q:List Str),(zEj J b f A L)[i]?=some q->∃A' L':List Str,ListI J r A' L'/\(∀n∈L',n∉A')/\L'.Nodup/\L'.Sublist L/\L'≠[]/\q=zB7 J b A' L'/\∀n,n∈A'↔n∈A\/∃p∈(zEj J b f A L).take i,n∈p
 | 0,A,L,_,_,_,i,q,h=>by simp [zEj] at h
 | f+1,A,L,I,dj,nd,i,q,h=>by
  by_cases cL:L=[]
  ·rw [cL,listB_nil] at h;simp at h
  ·have e:zEj J b (f+1) A L=zB7 J b A L::zEj J b f (zDs J b A L) (zFs J b A L):=qAB cL;rw [e] at h ⊢
   cases i with
   | zero =>
    have:zB7 J b A L=q:=by simpa using h
    exact ⟨A,L,I,dj,nd,List.Sublist.refl _,cL,this.symm,fun n=>by simp⟩
   | succ i =>
    obtain ⟨A',L',h1,h2,h3,h4,h5,h6,h7⟩:=list_at hb f (zDs J b A L) (zFs J b A L) (I.next b) (fun n hn z=>qAt (qAS.mp hn).2 z) (nd.sublist qBA) i q (by simpa using h);refine ⟨A',L',h1,h2,h3,h4.trans qBA,h5,h6,fun n=>?_⟩;rw [h7 n,qDT];unfold zDs;rw [zB3];constructor
    ·rintro ((z| z)| ⟨p,p1,p2⟩)
     ·exact .inl z
     ·exact .inr ⟨_,qAT,z⟩
     ·exact .inr ⟨p,qAR _ p1,p2⟩
    ·rintro (z| ⟨p,p1,p2⟩)
     ·exact .inl (.inl z)
     ·rcases qAN.mp p1 with e| e
      ·exact .inl (.inr (e▸p2))
      ·exact .inr ⟨p,e,p2⟩
theorem list_all {r:Str->Nat} {b:Nat} (hb:1<=b):∀(f:Nat) (A L:List Str),ListI J r A L->L.length<=f->∀n∈L,n∈A\/∃p∈zEj J b f A L,n∈p
 | 0,A,L,_,hf,n,hn=>by
  have:L=[]:=List.eq_nil_of_length_eq_zero (by lia);rw [this] at hn;exact nomatch hn
 | f+1,A,L,I,hf,n,hn=>by
  have cL:L≠[]:=fun z=>by rw [z] at hn;exact nomatch hn
  have e:zEj J b (f+1) A L=zB7 J b A L::zEj J b f (zDs J b A L) (zFs J b A L):=qAB cL;rw [e]
  by_cases z:n∈zDs J b A L
  ·rcases (zB3 _ _).mp z with y| y
   ·exact .inl y
   ·exact .inr ⟨_,qAT,y⟩
  ·have hless:=I.less hb cL;rcases list_all hb f (zDs J b A L) (zFs J b A L) (I.next b) (by lia) n (qAS.mpr ⟨hn,qAV z⟩) with y| ⟨p,p1,p2⟩
   ·exact absurd y z
   ·exact .inr ⟨p,qAR _ p1,p2⟩
theorem zHf (J:JR) (b:Nat):∀(f:Nat) (A L:List Str),(zEj J b f A L).length<=f
 | 0,_,_=>qAG _
 | f+1,A,L=>by
  show (if L=[] then [] else _).length<=_
  by_cases c:L=[]
  ·rw [qAC c];simp
  ·rw [qAB c];have:=zHf J b f (zDs J b A L) (zFs J b A L);simp;lia
section
variable {α:Type} [DecidableEq α] {ns:List α} {S:α->List α} {hg:α->Nat} {g:α->Nat} {k b:Nat}
structure Wood (ns:List α) (S:α->List α) (hg g:α->Nat) (k b:Nat):Prop where
 nd:ns.Nodup
 sub:∀n∈ns,∀m∈S n,m∈ns
 tr:∀n∈ns,∀m∈S n,∀x∈S m,x∈S n
 ch:∀a∈ns,∀y∈ns,∀z∈ns,a∈S y->a∈S z->y=z\/y∈S z\/z∈S y
 dn:∀n∈ns,∀m∈S n,hg n<hg m
 pos:∀n∈ns,1<=hg n
 att:∀n∈ns,2<=hg n->∃y∈ns,n∈S y/\hg y+1=hg n
 lt:∀n∈ns,g n<k
 od:∀n∈ns,∀m∈S n,g m<g n
 last:1<=k->∃n∈ns,g n+1=k
 gr:∀i,i<k->∀x∈ns,i<g x->(∀m∈S x,g m<i)->b<=(ns.filter fun y=>decide (g y=i)&&decide (hg x<=hg y)).length
theorem zF7 [DecidableEq β]:∀{A B:List β},A.Nodup->(∀x∈A,x∈B)->A.length<=B.length
 | [],_,_,_=>qAY _
 | a::A,B,nd,h=>by
  obtain ⟨n1,n2⟩:=qAv.mp nd;have h1:=zF7 (A:=A) (B:=B.erase a) n2 fun x hx=>(List.mem_erase_of_ne (fun z:x=a=>n1 (z▸hx))).mpr (h x (qAR _ hx));have h2:=List.length_erase_of_mem (h a qAT);have h3:0<B.length:=qDQ (h a qAT);rw [qAc];lia
theorem hu_least {Q:α->Prop} {x:α} (hx:Q x):∃y,Q y/\∀z,Q z->g y<=g z:=by
 suffices H:∀n x,Q x->g x<=n->∃y,Q y/\∀z,Q z->g y<=g z from H (g x) x hx (qAG _)
 intro n
 induction n with
 | zero=>exact fun x hx h=>⟨x,hx,fun z _=>by lia⟩
 | succ n ih =>
  intro x hx h
  by_cases c:∃z,Q z/\g z<g x
  ·obtain ⟨z,h1,h2⟩:=c;exact ih z h1 (by lia)
  ·exact ⟨x,hx,fun z hz=>qC6 fun y=>c ⟨z,hz,y⟩⟩
theorem Wood.rdy (W:Wood ns S hg g k b) {y:α} (hy:y∈ns) {j:Nat} (hj:j<=g y):∃a∈ns,(a=y\/a∈S y)/\j<=g a/\(∀m∈S a,g m<j)/\hg y<=hg a:=by
 obtain ⟨a,⟨a1,a2⟩,mn⟩:=hu_least (g:=g) (Q:=fun a=>(a=y\/a∈S y)/\j<=g a) (x:=y) ⟨.inl rfl,hj⟩;have an:a∈ns:=a1.elim (fun z=>z▸hy) (W.sub y hy a);refine ⟨a,an,a1,a2,fun m hm=>qDJ fun z=>?_,?_⟩
 ·have h1:=mn m ⟨.inr (a1.elim (fun w=>w▸hm) fun w=>W.tr y hy a w m hm),z⟩;have h2:=W.od a an m hm;lia
 ·rcases a1 with z| z
  ·rw [z];exact qAG _
  ·exact qBz (W.dn y hy a z)
theorem hu_pick {R:β->β->Prop}:∀{Y:List β},(∀y∈Y,∃a,R y a)->∃f:β->β,∀y∈Y,R y (f y):=fun {Y} h=>by
 classical
 exact ⟨fun y=>if hy:y∈Y then (h y hy).choose else y,fun y hy=>by
  show R y (if hy:y∈Y then (h y hy).choose else y);rw [dif_pos hy];exact (h y hy).choose_spec⟩
theorem hu_nd {γ:Type} {f:β->γ}:∀{L:List β},L.Nodup->(∀a∈L,∀b∈L,f a=f b->a=b)->(L.map f).Nodup
 | [],_,_=>qAw
 | a::L,nd,h=>by
  obtain ⟨n1,n2⟩:=qAv.mp nd;rw [qAn];refine qAv.mpr ⟨fun z=>?_,hu_nd n2 fun x hx y hy=>h x (qAR _ hx) y (qAR _ hy)⟩;obtain ⟨y,h1,h2⟩:=qAH.mp z;exact n1 (h y (qAR _ h1) a qAT h2▸h1)
theorem Wood.fill (W:Wood ns S hg g k b) {Y:List α} {h t:Nat} (nd:Y.Nodup) (hY:∀y∈Y,y∈ns/\hg y=h/\t<=g y) (many:b<Y.length) {j:Nat} (hj:j<=t):b<=(ns.filter fun y=>decide (g y=j)&&decide (h<=hg y)).length:=by
 obtain ⟨f,hf⟩:=hu_pick (R:=fun y a=>a∈ns/\(a=y\/a∈S y)/\j<=g a/\(∀m∈S a,g m<j)/\hg y<=hg a) (Y:=Y) fun y hy=>by
  obtain ⟨y1,y2,y3⟩:=hY y hy;obtain ⟨a,a1,a2,a3,a4,a5⟩:=W.rdy y1 (j:=j) (by lia);exact ⟨a,a1,a2,a3,a4,a5⟩
 have inj:∀y∈Y,∀z∈Y,f y=f z->y=z:=fun y hy z hz e=>by
  obtain ⟨y1,y2,_⟩:=hY y hy;obtain ⟨z1,z2,_⟩:=hY z hz;obtain ⟨a1,a2,_⟩:=hf y hy;obtain ⟨_,c2,_⟩:=hf z hz;rw [<-e] at c2;rcases a2 with u| u
  ·rcases c2 with v| v
   ·rw [<-u,v]
   ·have:=W.dn z z1 _ v;rw [u] at this;lia
  ·rcases c2 with v| v
   ·have:=W.dn y y1 _ u;rw [v] at this;lia
   ·rcases W.ch (f y) a1 y y1 z z1 u v with w| w| w
    ·exact w
    ·have:=W.dn z z1 y w;lia
    ·have:=W.dn y y1 z w;lia
 have ndA:=hu_nd nd inj
 by_cases c:∃y∈Y,j<g (f y)
 ·obtain ⟨y,hy,hg'⟩:=c;obtain ⟨a1,_,a3,a4,a5⟩:=hf y hy;have hk:j<k:=qCb hg' (W.lt _ a1);refine qAX (W.gr j hk (f y) a1 hg' a4) (zF7 (W.nd.sublist qBA) fun x hx=>?_);obtain ⟨x1,x2⟩:=qAS.mp hx;have:=(hY y hy).2.1;simp at x2;exact qAS.mpr ⟨x1,by simp;lia⟩
 ·have h1:=zF7 ndA (B:=ns.filter fun y=>decide (g y=j)&&decide (h<=hg y)) fun x hx=>by
   obtain ⟨y,hy,rfl⟩:=qAH.mp hx;obtain ⟨a1,_,a3,_,a5⟩:=hf y hy;have:g (f y)=j:=Nat.le_antisymm (qC6 fun z=>c ⟨y,hy,z⟩) a3;have:=(hY y hy).2.1;exact qAS.mpr ⟨a1,by simp;lia⟩
  rw [qAE] at h1;lia
theorem hu_or {p q:β->Bool}:∀{L:List β},(∀x∈L,¬(p x=true/\q x=true))->(L.filter fun x=>p x||q x).length=(L.filter p).length+(L.filter q).length
 | [],_=>rfl
 | a::L,h=>by
  have ih:=hu_or (p:=p) (q:=q) (L:=L) fun x hx=>h x (qAR _ hx);have ha:=h a qAT;rw [qA7,qA7,qA7]
  cases e1:p a<;>cases e2:q a
  ·simpa using ih
  ·simp;lia
  ·simp;lia
  ·exact absurd ⟨e1,e2⟩ ha
theorem Wood.full (ns:List α) (hg g:α->Nat) (b h:Nat):∀t,(∀j,j<t->b<=(ns.filter fun y=>decide (g y=j)&&decide (h<=hg y)).length)->b*t<=(ns.filter fun y=>decide (g y<t)&&decide (h<=hg y)).length
 | 0,_=>qAY _
 | t+1,H=>by
  have e:(ns.filter fun y=>decide (g y<t+1)&&decide (h<=hg y))=ns.filter fun y=>(decide (g y<t)&&decide (h<=hg y))||(decide (g y=t)&&decide (h<=hg y)):=qCq fun x _=>by
   rw [qBa];simp;lia
  rw [e,hu_or fun x _ z=>by simp at z;lia];have h1:=Wood.full ns hg g b h t fun j hj=>H j (by lia);have h2:=H t (by lia);rw [Nat.mul_succ];lia
theorem Wood.shows (W:Wood ns S hg g k b) (hk:1<=k):∃h,h<k/\b*(k - h - 1)+1<=(ns.filter fun y=>decide (h<hg y)).length:=by
 have ex:∀d,d<=k - 1->(∃h,h<k/\(∃x∈ns,h<hg x/\k<=g x+h+1)/\(h+1=k\/∀x∈ns,h+1<hg x->¬k<=g x+h+2))\/∃x∈ns,d<hg x/\k<=g x+d+1:=by
  intro d
  induction d with
  | zero =>
   intro _;obtain ⟨n,n1,n2⟩:=W.last hk;exact .inr ⟨n,n1,W.pos n n1,by lia⟩
  | succ d ih =>
   intro hd;rcases ih (by lia) with z| ⟨x,x1,x2,x3⟩
   ·exact .inl z
   ·by_cases c:∃x∈ns,d+1<hg x/\k<=g x+(d+1)+1
    ·exact .inr c
    ·exact .inl ⟨d,by lia,⟨x,x1,x2,x3⟩,.inr fun y y1 y2 y3=>c ⟨y,y1,y2,by lia⟩⟩
 have:∃h,h<k/\(∃x∈ns,h<hg x/\k<=g x+h+1)/\(h+1=k\/∀x∈ns,h+1<hg x->¬k<=g x+h+2):=by
  rcases ex (k - 1) (qAG _) with z| z
  ·exact z
  ·exact ⟨k - 1,by lia,z,.inl (by lia)⟩
 obtain ⟨h,hk',⟨x,x1,x2,x3⟩,hs⟩:=this;refine ⟨h,hk',?_⟩;rcases hs with z| no
 ·have e:k - h - 1=0:=by lia
  rw [e,Nat.mul_zero];have:x∈ns.filter fun y=>decide (h<hg y):=qAS.mpr ⟨x1,qAV x2⟩;have:=qDQ this;lia
 ·by_cases ht:k<=h+1
  ·have e:k - h - 1=0:=by lia
   rw [e,Nat.mul_zero];have:x∈ns.filter fun y=>decide (h<hg y):=qAS.mpr ⟨x1,qAV x2⟩;have:=qDQ this;lia
  ·-- t=k - h - 2:none higher than h+1 from t on;x of height h+1 waits behind t
   obtain ⟨t,et⟩:∃t,k=t+h+2:=⟨k - h - 2,by lia⟩;have low:∀y∈ns,t<=g y->hg y<=h+1:=fun y hy hg'=>qC6 fun z=>no y hy z (by lia)
   have xh:hg x=h+1:=by
    have:=low x x1 (by lia);lia
   have rx:∀m∈S x,g m<t:=fun m hm=>qDJ fun z=>by
    have h1:=low m (W.sub x x1 m hm) z;have h2:=W.dn x x1 m hm;lia
   have ft:=W.gr t (by lia) x x1 (by lia) rx;have big:b<(x::ns.filter fun y=>decide (g y=t)&&decide (hg x<=hg y)).length:=by rw [qAc];lia
   have all:=fun j (hj:j<=t)=>W.fill (Y:=x::ns.filter fun y=>decide (g y=t)&&decide (hg x<=hg y)) (h:=h+1) (t:=t) (qAv.mpr ⟨fun z=>by
     have:=(qAS.mp z).2;simp at this;lia,W.nd.sublist qBA⟩) (fun y hy=>by
     rcases qAN.mp hy with z| z
     ·rw [z];exact ⟨x1,xh,by lia⟩
     ·obtain ⟨y1,y2⟩:=qAS.mp z;simp at y2;have:=low y y1 (by lia);exact ⟨y1,by lia,by lia⟩) big hj
   have h1:=Wood.full ns hg g b (h+1) (t+1) fun j hj=>all j (by lia);have e:k - h - 1=t+1:=by lia
   rw [e]
   have h2:=zF7 (A:=x::ns.filter fun y=>decide (g y<t+1)&&decide (h+1<=hg y)) (B:=ns.filter fun y=>decide (h<hg y)) (qAv.mpr ⟨fun z=>by
     have:=(qAS.mp z).2;simp at this;lia,W.nd.sublist qBA⟩) fun y hy=>by
     rcases qAN.mp hy with z| z
     ·rw [z];exact qAS.mpr ⟨x1,qAV x2⟩
     ·obtain ⟨y1,y2⟩:=qAS.mp z;simp at y2;exact qAS.mpr ⟨y1,qAV (by lia)⟩
   rw [qAc] at h2;lia
theorem Wood.after (W:Wood ns S hg g k b) {f:α->Nat} {m:Nat} (fo:∀n∈ns,∀x∈S n,f x<f n) (fm:∀n∈ns,f n<m):∀(d:Nat) (x:α),x∈ns->hg x<=d+1->f x+hg x<=m:=by
 intro d
 induction d with
 | zero =>
  intro x hx h;have:=fm x hx;lia
 | succ d ih =>
  intro x hx h
  by_cases c:2<=hg x
  ·obtain ⟨y,y1,y2,y3⟩:=W.att x hx c;have h1:=ih y y1 (by lia);have h2:=fo y y1 x y2;lia
  ·have:=fm x hx;lia
theorem hu_few {f:α->Nat} (h2:∀u,(ns.filter fun x=>decide (f x=u)).length<=b):∀(c:Nat) (q:α->Bool),(∀x∈ns,q x=true->f x<c)->(ns.filter q).length<=b*c
 | 0,q,hq=>by
  have:ns.filter q=[]:=qDX.mpr fun x hx z=>by
   have:=hq x hx z;lia
  rw [this];exact qAY _
 | c+1,q,hq=>by
  have e:ns.filter q=ns.filter fun x=>(q x&&decide (f x≠c))||(q x&&decide (f x=c)):=qCq fun x _=>by
   by_cases z:f x=c<;>simp [z]
  rw [e,hu_or fun x _ z=>by simp at z;lia]
  have h3:=hu_few h2 c (fun x=>q x&&decide (f x≠c)) fun x hx z=>by
   simp at z;have:=hq x hx z.1;lia
  have h4:(ns.filter fun x=>q x&&decide (f x=c)).length<=(ns.filter fun x=>decide (f x=c)).length:=by
   rw [<-List.filter_filter];exact qAy _ _
  have h5:=h2 c;rw [Nat.mul_succ];lia
theorem Wood.least (W:Wood ns S hg g k b) (hb:1<=b) {f:α->Nat} {m:Nat} (fo:∀n∈ns,∀x∈S n,f x<f n) (h2:∀u,(ns.filter fun x=>decide (f x=u)).length<=b) (fm:∀n∈ns,f n<m):k<=m:=by
 by_cases hk:1<=k
 ·obtain ⟨h,h1,h3⟩:=W.shows hk
  have h4:=hu_few h2 (m - h) (fun y=>decide (h<hg y)) fun x hx z=>by
   have z:=qAt z;have:=W.after fo fm (hg x) x hx (by lia);lia
  have h5:b*(k - h - 1)<b*(m - h):=by lia
  have h6:k - h - 1<m - h:=Nat.lt_of_mul_lt_mul_left h5;lia
 ·lia
end
def rsB (J:JR) (b:Nat) (ws:List Str):List (List Str):=zEj J b ws.length [] ws
structure HgtJ (J:JR) (hg:Str->Nat):Prop where
 dn:∀n∈J.ns,∀m∈J.S n,hg n<hg m
 pos:∀n∈J.ns,1<=hg n
 att:∀n∈J.ns,2<=hg n->∃y∈J.ns,n∈J.S y/\hg y+1=hg n
section
variable {J:JR} {r:Str->Nat} {ws:List Str} {b:Nat}
theorem list_iB (A:OrdJ J r) (pm:ws.Perm J.ns):ListI J r [] ws:=⟨A.rk,qAw,(fun _ h=>nomatch h),fun n hn=>pm.mem_iff.mp hn,fun n hn=>.inr (pm.mem_iff.mpr hn)⟩
theorem zGh (A:OrdJ J r) (pm:ws.Perm J.ns) (hb:1<=b) {q:List Str} (h:(rsB J b ws)[i]?=some q):∃A' L':List Str,ListI J r A' L'/\(∀n∈L',n∉A')/\L'.Nodup/\L'.Sublist ws/\L'≠[]/\q=zB7 J b A' L'/\∀n,n∈A'↔n∈AF ((rsB J b ws).take i) []:=by
 obtain ⟨A',L',h1,h2,h3,h4,h5,h6,h7⟩:=list_at (b:=b) hb ws.length [] ws (list_iB A pm) (fun _ _ h=>nomatch h) (pm.nodup_iff.mpr A.nd) i q h;refine ⟨A',L',h1,h2,h3,h4,h5,h6,fun n=>?_⟩;rw [h7 n,zB4];rfl
theorem zEe (A:OrdJ J r) (pm:ws.Perm J.ns) (hb:1<=b):RightI J (b:Int) (rsB J b ws):=by
 refine ⟨fun i q h=>?_,fun n hn=>(zB4 _ _).mpr (list_all (b:=b) hb ws.length [] ws (list_iB A pm) (qAG _) n (pm.mem_iff.mpr hn))⟩;obtain ⟨A',L',h1,h2,h3,h4,h5,rfl,h7⟩:=zGh A pm hb h;refine ⟨fun n hn=>h1.li n (zEr hn),(h3.sublist qBA).sublist (qC4 _ _),fun n hn z=>h2 n (zEr hn) ((h7 n).mpr z),fun n hn=>?_,?_⟩
 ·rw [<-rdy_congr h7];exact (qAS.mp (qBi hn)).2
 ·have:(zB7 J b A' L').length<=b:=by unfold zB7;rw [qAe];lia
  lia
theorem tI_isB (A:OrdJ J r) (pm:ws.Perm J.ns) (hb:1<=b) {q:List Str} {n:Str} (h:(rsB J b ws)[i]?=some q) (hn:n∈q):tI (rsB J b ws) n=i :=
 tI_eq h hn fun p hp z=>((zEe A pm hb).at' i q h).nw n hn ((zB4 _ _).mpr (.inr ⟨p,hp,z⟩))
theorem gath_ch (A:OrdJ J r) (G:∀n∈J.ns,(strB J n).length<=1):∀(k:Nat) (a y z:Str),a∈J.ns->y∈J.ns->z∈J.ns->a∈J.S y->a∈J.S z->r y<=r a+k->y=z\/y∈J.S z\/z∈J.S y:=by
 have first:∀a∈J.ns,∀y∈J.ns,a∈J.S y->∃s∈strB J a,s=y\/s∈J.S y:=fun a ha y hy h=>by
  obtain ⟨s,⟨s1,s2,s3⟩,mn⟩:=hu_least (g:=r) (Q:=fun s=>s∈J.ns/\a∈J.S s/\(s=y\/s∈J.S y)) (x:=y) ⟨hy,h,.inl rfl⟩;refine ⟨s,strB_iff.mpr ⟨s1,s2,fun z hz h1 h2=>?_⟩,s3⟩;have g1:=mn z ⟨hz,h1,.inr (s3.elim (fun e=>e▸h2) fun e=>A.tr y hy s e z h2)⟩;have g2:=A.rk s s1 z h2;lia
 intro k
 induction k with
 | zero =>
  intro a y z ha hy hz h1 h2 hk;have:=A.rk y hy a h1;lia
 | succ k ih =>
  intro a y z ha hy hz h1 h2 hk;obtain ⟨s,s1,s2⟩:=first a ha y hy h1;obtain ⟨s',t1,t2⟩:=first a ha z hz h2
  have e:s=s':=by
   have:=G a ha;clear s2 t2;generalize strB J a=L at this s1 t1
   match L,this,s1,t1 with
   | [u],_,s1,t1=>exact (qAP.mp s1).trans (qAP.mp t1).symm
   | _::_::_,this,_,_=>simp only [qAc] at this;lia
  subst e;rcases s2 with u| u
  ·rcases t2 with v| v
   ·exact .inl (u.symm.trans v)
   ·rw [u] at v;exact .inr (.inl v)
  ·rcases t2 with v| v
   ·rw [v] at u;exact .inr (.inr u)
   ·have sn:=(strB_mem s1).1;have:=A.rk s sn a (strB_mem s1).2;exact ih s y z sn hy hz u v (by lia)
theorem wood_is {hg:Str->Nat} (A:OrdJ J r) (G:∀n∈J.ns,(strB J n).length<=1) (Hg:HgtJ J hg) (pm:ws.Perm J.ns) (pw:ws.Pairwise (fun x y=>hg y<=hg x)) (hb:1<=b):Wood J.ns J.S hg (tI (rsB J b ws)) (rsB J b ws).length b:=by
 have R:=zEe A pm hb;have inR:∀n∈J.ns,∃q,(rsB J b ws)[tI (rsB J b ws) n]?=some q/\n∈q:=fun n hn=>tI_at (((zB4 _ _).mp (R.all n hn)).resolve_left (by simp));refine ⟨A.nd,A.sub,A.tr,fun a ha y hy z hz h1 h2=>gath_ch A G (r y) a y z ha hy hz h1 h2 (Nat.le_add_left _ _),Hg.dn,Hg.pos,Hg.att,fun n hn=>?_,fun n hn m hm=>zIv R (A.sub n hn m hm) hn hm,fun hk=>?_,fun i hi x hx hgx hS=>?_⟩
 ·obtain ⟨q,e,_⟩:=inR n hn;exact (qAd.mp e).1
 ·obtain ⟨q,e⟩:∃q,(rsB J b ws)[(rsB J b ws).length - 1]?=some q:=⟨_,qAh (by lia)⟩;obtain ⟨A',L',h1,_,_,_,h5,e',_⟩:=zGh A pm hb e
  cases z:q with
  | nil=>exact absurd (e'.symm.trans z) (h1.turn hb h5)
  | cons x l =>
   have hx:x∈q:=by rw [z];exact qAT
   exact ⟨x,(R.at' _ q e).ns x hx,by rw [tI_isB A pm hb e hx];lia⟩
 ·obtain ⟨q,e⟩:∃q,(rsB J b ws)[i]?=some q:=⟨_,qAh hi⟩;obtain ⟨A',L',h1,h2,h3,h4,_,e',h7⟩:=zGh A pm hb e
  have nA:x∉A':=fun z=>by
   have z:=(zB4 _ _).mp ((h7 x).mp z);obtain ⟨q,q1,q2⟩:=z.resolve_left (by simp);have:=tI_lt q1 q2;lia
  have xL:x∈L':=(h1.al x hx).resolve_left nA
  have rd:rdyB J A' x=true:=by
   unfold rdyB;rw [qAx];intro m hm;have hs:=qAt (qAS.mp hm).2;refine qAV ((h7 m).mpr ((zB4 _ _).mpr (.inr ?_)));have lt:=hS m hs;obtain ⟨q,q1,q2⟩:=inR m (A.sub x hx m hs);refine ⟨q,qAO (i:=tI (rsB J b ws) m) ?_,q2⟩;rw [qB5 lt];exact q1
  have xF:x∈L'.filter (rdyB J A'):=qAS.mpr ⟨xL,rd⟩;have pF:=pw.sublist (qBA.trans h4:(L'.filter (rdyB J A')).Sublist ws);have nF:=h3.sublist (qBA (p:=rdyB J A'));have eq:q=(L'.filter (rdyB J A')).take b:=e'
  have xq:x∉q:=fun z=>by
   have:=tI_isB A pm hb e z;lia
  generalize L'.filter (rdyB J A')=M at xF pF nF eq
  have xd:x∈M.drop b:=by
   rw [<-qBt b M] at xF;rcases qAU.mp xF with z| z
   ·exact absurd (eq▸z) xq
   ·exact z
  have bl:b<=q.length:=by
   rw [eq,qAe];have:b<M.length:=qDJ fun z=>by rw [List.drop_eq_nil_of_le z] at xd;exact nomatch xd
   lia
  have up:∀y∈q,hg x<=hg y:=fun y hy=>by
   rw [<-qBt b M] at pF;exact (List.pairwise_append.mp pF).2.2 y (eq▸hy) x xd
  have nq:q.Nodup:=by rw [eq];exact nF.sublist (qC4 _ _)
  refine qAX bl (zF7 nq fun y hy=>qAS.mpr ⟨(R.at' i q e).ns y hy,?_⟩);simp only [qCM,qBT];exact ⟨tI_isB A pm hb e hy,up y hy⟩
end
theorem few_of {l:List Str} (nd:l.Nodup) (h:∀x∈l,∀y∈l,x=y):l.length<=1:=by
 match l,nd,h with
 | [],_,_=>exact qAY _
 | [_],_,_=>exact qAG _
 | a::b::_,nd,h=>exact absurd (h a qAT b (qAR _ qAT)) fun z=>(qAv.mp nd).1 (by rw [z];exact qAT)
theorem gath_J {qs:List (List Str×Addr)} {r:Str->Nat} (A:JobsAt C H j J) (G:Good J.ns qs r) (hz:∀k,k∈J.zs.map (·.1)↔k∈qs.map (·.1)) (two:∀q∈qs,∃a b,q.1=[a,b])
  (one:∀n y y':Str,Way qs n y->(∀z,Way qs n z->¬Way qs z y)->Way qs n y'->(∀z,Way qs n z->¬Way qs z y')->y=y'):gathB J=true:=by
 unfold gathB;rw [qAx];intro n hn
 have key:∀y∈strB J n,Way qs n y/\∀z,Way qs n z->¬Way qs z y:=fun y hy=>by
  obtain ⟨h1,h2,h3⟩:=strB_iff.mp hy;refine ⟨(zFl A G hz h1).mp h2,fun z w1 w2=>?_⟩;have zn:=(Way.to two G.qin w1).2;exact h3 z zn ((zFl A G hz zn).mpr w1) ((zFl A G hz h1).mpr w2)
 exact qAV (few_of ((A.nd.sublist qBA).sublist qBA) fun x hx y hy=>one n x y (key x hx).1 (key x hx).2 (key y hy).1 (key y hy).2)
end My
namespace SR
open PySem PyProof.Rows ST
section
variable {prog:Program} {w:World} {A:Around} {E:Value->Shared->Prop} {s:Shared} {a kS:Addr} {vs:List Value} {kz:List Int} {keys:Array Value} {e e1:Nat} {P:PySem.Fin->Shared->Prop}
theorem k_tail {st:SortSt} (nk:s.heap.get? kS=some (seqObj "list" keys e)) (na:s.heap.get? a=some (seqObj "list" #[] e1)) (hka:kS≠a)
  (hk:IntsAre keys.toList kz) (hlen:kz.length=vs.length) (h64:vs.length<64) (hp:(arrOf st).Perm (keys.zip vs.toArray)) (hs:SortedTo (arrOf st) (arrOf st).size) (hfl:failedOf st=none)
  (h:∀h' tk out c,(∀b o,b≠kS->b≠a->s.heap.get? b=some o->h'.get? b=some o)->h'.get? a=some (seqObj "list" out c)->KskOut true kz vs out.toList->P (.done (.ret .none)) {s with heap:=h',toks:=tk}) :
  wpAny (model prog w) A (ksk_tail a true e1 (.ref kS) st) P E s:=by
 have hsz:keys.size=vs.length:=by
  have h1:=hk.length;rw [qBC] at h1;lia
 have hsz2:(arrOf st).size=vs.length:=by rw [hp.size_eq,qDU,hsz,qAM,qCw]
 have hout:((arrOf st).map (·.2)).reverse.size=vs.length:=by rw [Array.size_reverse,Array.size_map];exact hsz2
 have ko:KskOut true kz vs ((arrOf st).map (·.2)).reverse.toList:=ksk_out (b:=true) hk hp hs;unfold ksk_tail;simp only [qB6];generalize ((arrOf st).map (·.2)).reverse=out at hout ko;have s1:=qAj s.heap kS (Obj.mapSeq fun _=>(#[]:Array Value));have na1:(s.heap.update kS (Obj.mapSeq fun _=>(#[]:Array Value))).get? a=some (seqObj "list" #[] e1):=(s1.2 a hka.symm).trans na;have s2:=qAj (s.heap.update kS (Obj.mapSeq fun _=>(#[]:Array Value))) a (Obj.mapSeq fun _=>out);have hc2:=qBS na1 fun _=>out;refine qAA (qBU nk rfl ?_ (by rw [hsz,qAK];lia) (qAY _));refine qAA (qCH ?_);refine qAA (qCF na1 rfl ?_);refine qAA (qBU na1 rfl ?_ (qAY _) (qAX (qBN hout) (by rw [qAK];lia)));rw [hfl];simp only [qDR,qBl,qBG];exact qAD (h _ _ out _ (fun b o n1 n2 q=>(s2.2 b n2).trans ((s1.2 b n1).trans q)) hc2 ko)
theorem k_end (nk:s.heap.get? kS=some (seqObj "list" keys e)) (na:s.heap.get? a=some (seqObj "list" #[] e1)) (hka:kS≠a)
  (hk:IntsAre keys.toList kz) (hlen:kz.length=vs.length) (h64:vs.length<64)
  (h:∀h' tk out c,(∀b o,b≠kS->b≠a->s.heap.get? b=some o->h'.get? b=some o)->h'.get? a=some (seqObj "list" out c)->KskOut true kz vs out.toList->P (.done (.ret .none)) {s with heap:=h',toks:=tk}) :
  wpAny (model prog w) A (ksk_end a true vs.toArray e1 (.ref kS) keys) P E s:=by
 have hsz:keys.size=vs.length:=by
  have h1:=hk.length;rw [qBC] at h1;lia
 have hzs:(keys.zip vs.toArray).size=vs.length:=by rw [qDU,hsz,qAM,qCw]
 have hst:((keys.zip vs.toArray).reverse).Perm (keys.zip vs.toArray):=qCn.mpr (by rw [Array.toList_reverse];exact List.reverse_perm _);unfold ksk_end;simp only [qB6];refine qAA (qBL ?_)
 by_cases h2:vs.toArray.size<2
 ·rw [qAC h2,qAC h2];refine qAA (qAD ?_);rw [StateT.run_pure];refine qAA (qAD ?_)
  try dsimp only
  refine k_tail (st:=SortSt.mk' general' ((keys.zip vs.toArray).reverse) #[] 7 none) nk na hka hk hlen h64 hst ?_ rfl h;intro i j hij hj;have hj2:j<((keys.zip vs.toArray).reverse).size:=hj;rw [Array.size_reverse,hzs] at hj2;rw [qAM] at h2;have:i=j:=by lia
  subst this;exact qCx _
 ·rw [qAB h2,qAB h2];rw [qAM] at h2;rw [ksk_kind hk (by rw [hsz];lia)];refine qAA (qAD ?_)
  refine qAA (qAq (wpS_sortRuns (a₀:=keys.zip vs.toArray) (st:=SortSt.mk' oneType' ((keys.zip vs.toArray).reverse) #[] 7 none)
   (Q:=fun _ st'=>(arrOf st').Perm (keys.zip vs.toArray)/\failedOf st'=none/\SortedTo (arrOf st') (keys.zip vs.toArray).size)
   (ksk_intKeys hk) ⟨hst,rfl,rfl,rfl⟩ (by rw [hzs];lia) (by rw [hzs];exact h64) fun st' a1 a2 a3=>⟨a1,a2,a3⟩) ?_ fun _ _ e=>e)
  rintro ⟨⟨⟩,st'⟩ s' ⟨rfl,hp,hf,hs⟩
  try dsimp only
  exact k_tail nk na hka hk hlen h64 hp (by rw [hp.size_eq];exact hs) hf h
theorem k_rest {f:Value} (J:Shared->Prop) (hJ:J s) (nk:s.heap.get? kS=some (seqObj "list" #[] 0)) (na:s.heap.get? a=some (seqObj "list" #[] e1)) (hka:kS≠a) (hlen:kz.length=vs.length) (h64:vs.length<64)
  (turn:∀(i:Nat) (v:Value) (k:Int),vs[i]?=some v->kz[i]?=some k->∀s',J s' ->
   wpAny (model prog w) A (call f [v]) (fun r s2=>(∃t,r= .int k t)/\J s2/\∀b,b=kS\/b=a->∀o,s'.heap.get? b=some o->s2.heap.get? b=some o) (fun _ _=>False) s')
  (put:∀s' h',J s'->(∀b o,b≠kS->s'.heap.get? b=some o->h'.get? b=some o)->(∃o,h'.get? kS=some o)->J {s' with heap:=h'})
  (h:∀s' h' tk out c,J s'->(∀b o,b≠kS->b≠a->s'.heap.get? b=some o->h'.get? b=some o)->h'.get? a=some (seqObj "list" out c)->KskOut true kz vs out.toList->P (.done (.ret .none)) {s' with heap:=h',toks:=tk}) :
  wpAny (model prog w) A (ksk_rest a f true vs.toArray e1 (.ref kS)) P E s:=by
 unfold ksk_rest;refine qAA (qBL ?_)
 first
  | rw [List.forIn_toArray]
  | (rw [<-qCS];simp only [List.toList_toArray])
  | rw [<-qCS]
 refine qAA (ksk_fold (fun i s'=>J s'/\∃kA e,s'.heap.get? kS=some (seqObj "list" kA e)/\s'.heap.get? a=some (seqObj "list" #[] e1)/\IntsAre kA.toList (kz.take i)) vs 0 s
  ⟨hJ,#[],0,nk,na,by simpa using IntsAre.nil⟩ ?step ?done)
 case step =>
  rintro j x s' hx ⟨hJ',kA,e,nk',na',hk⟩;simp only [qDA] at hk ⊢;have hj:j<vs.length:=(qAd.mp hx).1;obtain ⟨k,hkj⟩:∃k,kz[j]?=some k:=⟨_,qAh (by lia)⟩
  have hz:kA.size<=vs.length:=by
   have h1:=hk.length;rw [qBC,qAe] at h1;lia
  refine qAA (qB7 (qAq (turn j x k hx hkj s' hJ') (fun v s'' he=>?_) fun _ _ hF=>hF.elim));obtain ⟨⟨t2,rfl⟩,J2,kp⟩:=he
  try dsimp only
  have nk2:=kp kS (.inl rfl) _ nk';have na2:=kp a (.inr rfl) _ na';have s1:=qAj s''.heap kS (Obj.mapSeq (·.push (.int k t2)));obtain ⟨c2,hc2⟩:∃c2,(s''.heap.update kS (Obj.mapSeq (·.push (.int k t2)))).get? kS=some (seqObj "list" (kA.push (.int k t2)) c2):=⟨_,qBS nk2 (·.push (.int k t2))⟩;have ek:kz.take (j+1)=kz.take j++[k]:=by rw [List.take_add_one,hkj];simp
  have ea:(kA.push (Value.int k t2)).toList=kA.toList++[Value.int k t2]:=by simp
  refine qAA (qBU nk2 rfl ?_ (by rw [qAK];lia) (qAX (qBN (Array.size_push ..)) (by rw [qAK];lia)));exact qAD ⟨rfl,put s'' _ J2 (fun b o n q=>(s1.2 b n).trans q) ⟨_,hc2⟩,kA.push (.int k t2),c2,hc2,(s1.2 a hka.symm).trans na2,by rw [ea,ek];exact ksk_snoc hk⟩
 case done =>
  rintro s' ⟨hJ',kA,e,nk',na',hk⟩
  have hk':IntsAre kA.toList kz:=by
   have e3:kz.take (0+vs.length)=kz:=qBh (by lia);rw [e3] at hk;exact hk
  try dsimp only
  refine qAA (qCt nk' rfl ?_);exact k_end nk' na' hka hk' hlen h64 fun h3 tk3 out c k3 g3 o3=>h s' h3 tk3 out c hJ' k3 g3 o3
theorem w_sortedK {f:Addr} {v:Value} {Q:Value->Shared->Prop} {Jc:List Value->Shared->Prop} (hc:wpAny (model prog w) A.in1 (collect v) Jc E s)
  (hJ:∀vs s1,Jc vs s1->vs.length<64/\∃(kz:List Int) (J:Shared->Prop),kz.length=vs.length /\
   (∀h',(∀b o,s1.heap.get? b=some o->h'.get? b=some o)->(∃o,h'.get? s1.heap.objs.size=some o)->(∃o,h'.get? (s1.heap.objs.size+2)=some o)->J {s1 with heap:=h'}) /\
   (∀(i:Nat) (v:Value) (k:Int),vs[i]?=some v->kz[i]?=some k->∀s',J s'->wpAny (model prog w) A.in1.in1 (call (.ref f) [v]) (fun r s2=>(∃t,r= .int k t)/\J s2/\∀b,b=s1.heap.objs.size+2\/b=s1.heap.objs.size->∀o,s'.heap.get? b=some o->s2.heap.get? b=some o) (fun _ _=>False) s') /\
   (∀s' h',J s'->(∀b o,b≠s1.heap.objs.size+2->s'.heap.get? b=some o->h'.get? b=some o)->(∃o,h'.get? (s1.heap.objs.size+2)=some o)->J {s' with heap:=h'}) /\
   ∀s' h' tk out c,J s'->(∀b o,b≠s1.heap.objs.size+2->b≠s1.heap.objs.size->s'.heap.get? b=some o->h'.get? b=some o)->h'.get? s1.heap.objs.size=some (seqObj "list" out c)->KskOut true kz vs out.toList->Q (.ref s1.heap.objs.size) {s' with heap:=h',toks:=tk}) :
  wpAny (model prog w) A (call (.builtin "sorted") [v] [(Str.ofString "key",.ref f),(Str.ofString "reverse",.bool true)]) Q E s:=by
 refine call_function_entry_kw kind_sorted plain_sorted entry_sorted (ksk_s2 _ _ _) ?_;unfold Builtin.«sorted»;refine qAA (m:=checkCount "sorted" 1 1 _) (qAD ?_);refine qAA (qAq hc (fun vs s1 j=>?_) fun _ _ x=>x);obtain ⟨j1,kz,J,j2,j3,j4,j5,j6⟩:=hJ vs s1 j;refine qAA (qCG ?_ (by rw [qAK];lia));have hD:(s1.heap.push (seqObj "list" vs.toArray 0)).get? s1.heap.objs.size=some (seqObj "list" vs.toArray 0):=qAb _ rfl;change wpAny _ _ _ _ _ {s1 with heap:=s1.heap.push (seqObj "list" vs.toArray 0)};have ne:∀b o,s1.heap.get? b=some o->b≠s1.heap.objs.size:=fun b o q=>qAZ (qAL q);refine qAA (qAz (wpAny_call_entry_kw slot_list_sort ⟨_,hD,rfl⟩ entry_list_sort ?body (ksk_l2 _ _ _)))
 case body =>
  rw [ksk_t2];have ha:s1.heap.objs.size<(s1.heap.push (seqObj "list" vs.toArray 0)).objs.size:=qAL hD;have s2:=qAj (s1.heap.push (seqObj "list" vs.toArray 0)) s1.heap.objs.size (Obj.mapSeq fun _=>(#[]:Array Value));obtain ⟨e1,ho1⟩:∃e1,((s1.heap.push (seqObj "list" vs.toArray 0)).update s1.heap.objs.size (Obj.mapSeq fun _=>(#[]:Array Value))).get? s1.heap.objs.size=some (seqObj "list" #[] e1):=⟨_,qBS hD fun _=>#[]⟩;have hkS:(((s1.heap.push (seqObj "list" vs.toArray 0)).update s1.heap.objs.size (Obj.mapSeq fun _=>(#[]:Array Value))).push (seqObj "tuple" vs.toArray 0)).objs.size=s1.heap.objs.size+2:=by rw [size_push',Heap.size_update,size_push']
  unfold ksk_tree;refine qAA (qCt hD rfl ?_);refine qAA (qBU hD rfl ?_ (by rw [qAM,qAK];lia) (qAY _));refine qAA (qCF ho1 rfl ?_);refine qAA (qDN ?_ (by show vs.length<=_;rw [qAK];lia));refine qAA (qCG ?_ (qAY _));refine qAz ?_;rw [hkS];refine k_rest (kS:=s1.heap.objs.size+2) (a:=s1.heap.objs.size) (s:={s1 with heap:=(((s1.heap.push (seqObj "list" vs.toArray 0)).update s1.heap.objs.size (Obj.mapSeq fun _=>(#[]:Array Value))).push (seqObj "tuple" vs.toArray 0)).push (seqObj "list" #[] 0)}) J (j3 _ (fun b o q=>?_) ⟨_,qAJ _ (qAJ _ ho1)⟩ ⟨seqObj "list" #[] 0,by rw [<-hkS];exact qAb _ rfl⟩) (by rw [<-hkS];exact qAb _ rfl) (qAJ _ (qAJ _ ho1)) (qBD (qBq (qB3 _))) j2 j1 j4 j5 fun s' h' tk out c jj kk gg oo=>?_
  ·exact qAJ _ (qAJ _ ((s2.2 b (ne b o q)).trans (qAJ _ q)))
  ·exact ⟨_,rfl,qAD ⟨_,rfl,j6 s' h' tk out c jj kk gg oo⟩⟩
end
end SR
namespace L2
open PySem PySem.Spec PyProof.Rows
section
variable {X:Cx} {pins:List (Addr×Obj)} {σ:St} {H:Hp} {s:Shared}
def tSortKR (ta:TA) (iy:Nat) (P:Addr) (qual:Str) (lp:Pos) (te:TE):TE:=fun σ H Q=>ta σ H fun xs H1=>∃(a:Addr) (ks:List Str) (g:Str->Int) (vy:V),xs=[.ref a]/\σ[iy]?=some (some vy)/\H1 a=some (.lst (ks.map V.str))/\ks.length<64/\Tab0 H1 P qual lp /\
 ∀H2,Kp [P] H1 H2->Tab1 H2 P qual lp->(∀x∈ks,∀H',Kp [] H2 H'->te [some (.str x),some vy] H' fun r H3=>r= .int (g x)/\Kp [] H' H3)/\∀(b:Addr) (zs:List Str) (H3:Hp),Kp [] H2 H3->H3 b=none->zs.Perm ks->zs.Pairwise (fun x y=>g y<=g x)->Q (.ref b) (upd H3 b (.lst (zs.map V.str)))
theorem pe_sortedKR {e:Expr} {ta:TA} {p pos kp lp kp2 ip:Pos} {jj:Nat} {params:Arguments} {body:Expr} {scope:Scope} {x y qual:Str} {c c0 P:Addr} {iy:Nat} {te:TE} {k:Nat} (hr:Room (k+3) X.A) (hc':X.calm=true) (hg:Gl X "sorted") (hm:X.mg "sorted" = none) (hb:bootBuiltins "sorted" = some (.builtin "sorted")) (ha:PA X [e] ta)
  (S:LamScope x y scope) (ne:x≠y) (hN:X.N[iy]?=some y) (hk:X.env.kindOf y=some .cell) (hy:X.env.cells.lookup y=some c) (hcl:closureFor scope X.env=pure [(y,c)]) (hq:X.env.qual++ "<lambda>" = qual) (hcode:X.env.code= .ref c0) (C:PySem.W.CodeHd X.base c0 P) (B:zHt X.mg X.base)
  (hdef:defaultsOf params X.env=([],[])) (hbind:∀(pm:Value) (c':Addr) (ctv u:Value),bindArgs (PySem.W.kla_fn "<lambda>" qual params body scope [(y,c)] pm (.ref c') ctv) ⟨[u],[]⟩=pure [(x,u)])
  (ht:∀(f:Addr) (cd:Value) (A:Around) (s:Shared) (H:Hp),Room k (A.deeper (PySem.W.envX qual scope s.heap.objs.size f cd [(y,c)]))->PE (cxLam X [x,y] qual scope f cd [(y,c)] A s H) body te) (hs:starEach [e] X.env=[(false,eval e X.env)]:=by rfl) :
  PE X (.Call (.Name "sorted" p) [e] [⟨some (Str.ofString "key"),.Lambda params body scope lp,kp⟩,⟨some (Str.ofString "reverse"),.Constant (.bool true) jj ip,kp2⟩] pos) (tSortKR ta iy P qual lp te):=by
 intro pins s σ H Q I h;refine qB4 (zF6 I hg hm hb ?_);refine qDo (by rw [hs];rfl) rfl ?_;have ha':=ha pos pins s σ H _ I h;have e0:backTo pos (starEach [e] X.env)=(false,eval e X.env)::[]:=by rw [hs];rfl
 rw [e0] at ha' ⊢;refine evalArgs_kwB rfl (thn ha' fun us s1 ⟨vs,H1,I1,r1,q1⟩=>?_);obtain ⟨a,ks,g,vy,e1,hσ,ea,hl64,T,q⟩:=q1;subst e1;obtain ⟨u,rfl,ru⟩:=r1.one
 cases ru
 show wpAny _ _ (evalAll ((do let v<-eval (.Lambda params body scope lp) X.env;standAt pos;pure v)::_)) _ _ s1;refine qC3 (qAA (PySem.W.kla_eval hdef ?_));rw [hq];refine lam_make I1 hcl hcode C B T fun f c' ctv pm H2 s2 I2 k2 T2 ec fo ff=>?_;refine qAA (qB0 (qAD ?_));show wpAny _ _ (evalAll ((do let v<-eval (.Constant (.bool true) jj ip) X.env;standAt pos;pure v)::[])) _ _ s2;refine qC3 (qAA (Constant_bool (qAA (qB0 (qAD (wpAny_evalAll_nil ?_))))));obtain ⟨qb,qr⟩:=q H2 k2 T2
 have naP:a≠P:=fun z=>by
  rcases T with t| ⟨_,t,_⟩
  ·rw [z,t] at ea;cases ea
  ·rw [z,t] at ea;cases ea
 have ea2:H2 a=some (.lst (ks.map V.str)):=k2 a _ ea (by simp [naP]);obtain ⟨its0,r',pl,hz0⟩:=I2.list (SqL.of (K:=X.K) ea2);have hS0:=zEp r';have hln0:its0.length=ks.length:=ST.strs_len hS0
 refine SR.w_sortedK
  (Jc:=fun its s1=>StrsAre its ks/\∃h1 tk,s1={s2 with heap:=h1,toks:=tk}/\∀b o,s2.heap.get? b=some o->h1.get? b=some o)
  (collect_list pl.isList ⟨hS0,_,_,rfl,fun b o e=>?_⟩ (by rw [qAK];lia)) fun its s3 ⟨hS,h1,tk,v2,v3⟩=>?_
 ·have hlt:=qAL e;rw [qBo _ _ (qBD hlt)];exact qAJ _ e
 ·subst v2;have hln:its.length=ks.length:=ST.strs_len hS;have I3:Inv X pins σ H2 {s2 with heap:=h1,toks:=tk}:=I2.kept v3;have fo3:h1.get? f=some _:=v3 _ _ fo;have flt:f<h1.objs.size:=qAL fo3;have fa:FpOk X pins H2 h1.objs.size:=I3.fpOk (qAG _) (I3.hok.fresh (qAG _));have fk:FpOk X pins H2 (h1.objs.size+2):=I3.fpOk (qBX _ _) (I3.hok.fresh (qBX _ _));have ff3:H2 f=none:=ff.1;refine ⟨by lia,ks.map g,fun s'=>∃H',Kp [] H2 H'/\Inv X pins σ H' s'/\s'.heap.get? f=some (PySem.W.kla_obj "<lambda>" qual params body scope [(y,c)] pm c' ctv)/\H' f=none/\H' h1.objs.size=none/\H' (h1.objs.size+2)=none/\(∃o,s'.heap.get? h1.objs.size=some o)/\∃o,s'.heap.get? (h1.objs.size+2)=some o,by rw [qAE,hln],fun h' up ha hk=>⟨H2,Kp.refl,I3.kept (t':=tk) up,up _ _ fo3,ff3,fa.1,fk.1,ha,hk⟩,?_,?_,?_⟩
  ·rintro i v kx hv hkx s' ⟨H4,k4,I4,fo4,ff4,fa4,fk4,⟨oa,ha4⟩,ok',hk4⟩;rw [qAW] at hkx;obtain ⟨x',ex',rfl⟩:=qA6.mp hkx
   obtain ⟨t,rfl⟩:∃t,v= .str x' t:=by
    have h1:=hS.all v (qAO hv);obtain ⟨x2,t,rfl⟩:=h1;have h2:(its.map strOf)[i]?=some x2:=by rw [qAW,hv];rfl
    rw [hS.strs,ex'] at h2
    cases h2
    exact ⟨t,rfl⟩
   obtain ⟨uy,ry,iy'⟩:=I4.cellAt hN hσ hk hy;have hr2:Room (k+1) X.A.in1.in1:=Room.in1 (Room.in1 hr);have fa':FpOk X pins H4 h1.objs.size:=⟨fa4,fa.2⟩;have fk':FpOk X pins H4 (h1.objs.size+2):=⟨fk4,fk.2⟩;have ff':FpOk X pins H4 f:=⟨ff4,ff.2⟩;refine qAq (lam_call (A:=X.A.in1.in1) (vx:=.str x') I4 I4.ok.frames hr2.hd hr2.depth fo4 (codeO_rec I4 (k4 _ _ ec (by simp))) S ne (hbind _ _ _ _) hy iy' ry ⟨t,rfl⟩ (ht _ _ _ _ _ (hr2.deeper _)) (qb x' (qAO ex') H4 k4)) (fun r s5 hE=>?_) fun _ _ hF=>hF;obtain ⟨v,H5,os,bare,un,hok5,rv,qv,qh⟩:=hE;subst qv;obtain ⟨t',rfl⟩:=rv;have keepA:=un.keep _ _ ha4 fa'.1 (fa'.nstk I4) (by simp);have keepK:=un.keep _ _ hk4 fk'.1 (fk'.nstk I4) (by simp);refine ⟨⟨t',rfl⟩,⟨H5,k4.trans qh,I4.call' os un hok5 bare (fun b z=>nomatch z),un.keep _ _ fo4 ff'.1 (ff'.nstk I4) (by simp),un.free _ _ fo4 ff'.1 (by simp),un.free _ _ ha4 fa'.1 (by simp),un.free _ _ hk4 fk'.1 (by simp),⟨_,keepA⟩,_,keepK⟩,fun b hb o qo=>?_⟩;rcases hb with rfl| rfl
   ·exact un.keep _ _ qo fk'.1 (fk'.nstk I4) (by simp)
   ·exact un.keep _ _ qo fa'.1 (fa'.nstk I4) (by simp)
  ·rintro s' h' ⟨H4,k4,I4,fo4,ff4,fa4,fk4,⟨oa,ha4⟩,ok',hk4⟩ kk hex;exact ⟨H4,k4,I4.turned (t':=s'.toks) kk fk4 fk.2.1 fk.2.2.2.1 fk.2.2.2.2.1 fk.2.2.2.2.2,kk _ _ (qAZ (qAp flt (qBX _ _))) fo4,ff4,fa4,fk4,⟨_,kk _ _ (qAZ (Nat.lt_add_of_pos_right (by decide))) ha4⟩,hex⟩
  ·rintro s' h' tk' out c2 ⟨H4,k4,I4,fo4,ff4,fa4,fk4,_,_⟩ kk gg ⟨ps,pp,po,pw⟩;have hp':∀p∈ps,∃x t,x∈ks/\p=(g x,.str x t):=fun p hp=>zIm hS p (pp.mem_iff.mp hp)
   have hall:∀v∈out.toList,∃x t,v= .str x t:=fun v hv=>by
    rw [po] at hv;obtain ⟨p,hp,rfl⟩:=qAH.mp hv;obtain ⟨x,t,_,e⟩:=hp' p hp;exact ⟨x,t,by rw [e]⟩
   have hO:=strsAre_map out.toList hall
   have hpz:(out.toList.map strOf).Perm ks:=by
    have h1:(ps.map Prod.snd).Perm its:=by
     have:=pp.map Prod.snd
     rwa [List.map_snd_zip (by rw [qAE,hln];exact qAG _)] at this
    rw [po];have:=h1.map strOf
    rwa [hS.strs] at this
   have hsr:(out.toList.map strOf).Pairwise (fun x y=>g y<=g x):=by
    rw [po,qA1,qDD];refine pw.imp_of_mem fun {p q} hp hq z=>?_;obtain ⟨x,t,_,e⟩:=hp' p hp;obtain ⟨x',t',_,e'⟩:=hp' q hq;subst e e';exact z
   have hz:((out.toList.map strOf).map V.str).length<=sizeLine:=by rw [qAE,hpz.length_eq,qAK];lia
   have un:Un (frs X.stack) [h1.objs.size+2,h1.objs.size] H4 H4 s'.heap h':=by
    have k':∀b o,b∉([h1.objs.size+2,h1.objs.size]:List Addr)->s'.heap.get? b=some o->h'.get? b=some o:=fun b o n q=>kk b o (fun z=>n (by simp [z])) (fun z=>n (by simp [z])) q;exact ⟨fun b o q n _ x=>k' b o x q,fun b o q n _ x=>⟨o.slots,k' b o x q⟩,fun b o q n _=>n,fun b o q x=>⟨o,k' b o x q⟩,fun _ _ q=>q,fun _ _ _ q=>q,fun b ps q=>⟨#[],by rw [q];simp⟩⟩
   have hok2:HOk X.prog X.w H4 h':=fun b o q=>by
    refine (I4.hok b o q).stay (fun d v hd y=>?_) (fun _ y=>y) fun _ _ y=>y
    have nn:H4 d≠none:=by
     rcases hd with rfl| hd
     ·rw [q];simp
     ·rw [hd];simp
    exact kk d v (fun z=>nn (by rw [z];exact fk4)) (fun z=>nn (by rw [z];exact fa4)) y
   have I5:Inv X pins σ H4 {s' with heap:=h',toks:=tk'}:=I4.call' rfl un hok2 I4.bare fun b hb=>by
    have:b=h1.objs.size+2\/b=h1.objs.size:=by simpa using hb
    rcases this with rfl| rfl
    ·exact ⟨fk.2.2.2.1,fk.2.1,fk.2.2.2.2.1,fk.2.2.2.2.2⟩
    ·exact ⟨fa.2.2.2.1,fa.2.1,fa.2.2.2.2.1,fa.2.2.2.2.2⟩
   have new:zAs X.prog X.w (upd H4 h1.objs.size (.lst ((out.toList.map strOf).map V.str))) h' h1.objs.size (.lst ((out.toList.map strOf).map V.str)):=⟨hz,out.toList,c2,zEs hO,by simpa using gg⟩;exact ⟨.ref h1.objs.size,_,I5.adopt (⟨fa4,fa.2⟩:FpOk X pins H4 h1.objs.size) new,rfl,qr _ _ H4 k4 fa4 hpz hsr⟩
end
end L2
namespace My
open PySem L2
variable {H H':Hp}{J:JR}
def lamQ2:Str:=Str.ofString "highest_first" ++ ".<locals>." ++ "<lambda>"
def lamPos2:Pos:=⟨110,58,110,81⟩
abbrev TabU (H:Hp) (Pu:Addr):Prop:=Tab0 H Pu lamQ2 lamPos2
theorem zDl {Q:Addr} {q:Str} {ps:Pos} (h:Tab0 H Q q ps):∃xs,H Q=some (.tbl xs):=by
 rcases h with e| ⟨c,e,_⟩
 ·exact ⟨_,e⟩
 ·exact ⟨_,e⟩
theorem zBw {Q a:Addr} {o:HO} (t:∃xs,H Q=some (.tbl xs)) (h:H a=some o) (no:∀ps,o≠.tbl ps):a≠Q:=fun z=>by
 obtain ⟨ps,e⟩:=t;rw [z,e] at h;exact no ps (qAa h).symm
theorem zCf {M:List Addr} {Q:Addr} {q:Str} {ps:Pos} (h:Tab0 H Q q ps) (k:Kp M H H') (n:Q∉M) (n':∀a o,H a=some o->(∀xs,o≠.lst xs)->(∀xs,o≠.tbl xs)->a∉M):Tab0 H' Q q ps:=by
 rcases h with e| ⟨c,e,ec⟩
 ·exact .inl (k _ _ e n)
 ·exact .inr ⟨c,k _ _ e n,k _ _ ec (n' _ _ ec (fun _ z=>nomatch z) fun _ z=>nomatch z)⟩
theorem JobsAt.kp2 {C:Addr} {j Pt Pu:Addr} (A:JobsAt C H j J) (k:Kp [Pt,Pu] H H') (t:∃xs,H Pt=some (.tbl xs)) (u:∃xs,H Pu=some (.tbl xs)):JobsAt C H' j J:=by
 refine A.kp k fun a o ha hm=>?_
 have t':∃xs,H a=some (.tbl xs):=by
  rcases qAN.mp hm with e| e
  ·rw [e];exact t
  ·rw [qAP.mp e];exact u
 exact ⟨(zBw t' A.ob fun _ z=>nomatch z).symm,(zBw t' A.row fun _ z=>nomatch z).symm,(zBw t' A.prs.top fun _ z=>nomatch z).symm,(zBw t' A.abv fun _ z=>nomatch z).symm,fun q hq=>(zBw t' (A.prs.row q hq) fun _ z=>nomatch z).symm,fun n hn=>(zBw t' (A.sets n hn) fun _ z=>nomatch z).symm⟩
theorem fre_two {Pt Pu a:Addr} (t:∃xs,H' Pt=some (.tbl xs)) (u:∃xs,H' Pu=some (.tbl xs)) (k:Kp [Pt,Pu] H H') (f:Fre H' a):Fre H a:=by
 cases z:H a with
 | none=>exact z
 | some o =>
  obtain ⟨ps,e⟩:=t;obtain ⟨qs,e'⟩:=u;have f:H' a=none:=f;have:=k a o z (nm2 (fun y=>by rw [<-y,f] at e;cases e) (fun y=>by rw [<-y,f] at e';cases e'));rw [f] at this;cases this
theorem RowsAt.back {H0 H1:Hp} {l:Addr} {as:List Addr} {rs:List (List Str)} (R:RowsAt H1 H l as rs) (f:∀a,Fre H1 a->Fre H0 a):RowsAt H0 H l as rs:=⟨R.top,R.len,R.row,R.ne,f _ R.fr,fun a h=>f a (R.frs a h)⟩
section
variable {P:Program} {w:World} {K:PySem.W.Frag} {mg:Str->Option Value} {base:Heap} {C:Addr}
def spHigh (C Pt Pu:Addr):Sp:=fun vs H Q _=>∃(j:Addr) (b:Int) (J:JR) (qs:List (List Str×Addr)) (r:Str->Nat),vs=[.ref j,.int b]/\JobsAt C H j J/\Good J.ns qs r/\(∀k,k∈J.zs.map (·.1)↔k∈qs.map (·.1))/\OrdJ J r/\1<=b/\TabA H Pt/\TabU H Pu/\Pt≠Pu /\
 ∀(pl:Addr) (as:List Addr) (ws F:List Str) (f:Str->Int) (H':Hp),Kp [Pt,Pu] H H'->TabA H' Pt->TabU H' Pu->HF (behJ J) F f->F.Perm J.ns->ws.Perm J.ns->ws.Pairwise (fun x y=>f y<=f x)->RowsAt H H' pl as (rsB J b.toNat ws)->Q (.ref pl) H'
abbrev zAn:Stmt:=top 31
theorem zDh:FnScope ["jobs", "benches", "high"] ["jobs", "benches"] (zAd zAn):=fnS
theorem zGc {f c0 Pt Pu:Addr} {oc:Value} {od an:Option Addr} {osl:Array (Option Value)} {kV doc pm ct:Value} (lk:K.lookup f=some ⟨oc,od,.func (PySem.W.fnOf "highest_first" "highest_first" (zBc zAn) (zA2 zAn) (zAd zAn) .none kV doc pm an (.ref c0) ct),osl⟩) (hcd:PySem.W.codeIn K (.ref c0) "highest_first" = true) (T:Txt K mg) (U:JC K mg C) (B:zHt mg base) (CH:PySem.W.CodeHd base c0 Pu)
  (C_heights:Cal P w K mg base "heights" 8 ["jobs"] (zGu C Pt)) (M_names:Mth P w K mg base C "names" 1 ["self"] (zGt C)) (C_listed:Cal P w K mg base "listed" 5 ["jobs", "benches", "row"] (spListed C)):FnOk P w K mg base CX0 9 f (PySem.W.fnOf "highest_first" "highest_first" (zBc zAn) (zA2 zAn) (zAd zAn) .none kV doc pm an (.ref c0) ct) ["jobs", "benches"] (spHigh C Pt Pu):=by
 refine okC lk hcd zDh (fun vs H Q E h=>?_) (fun A outer s H vs Q E hr h=>?_)
 ·obtain ⟨j,b,J,qs,r,rfl,_⟩:=h;rfl
 ·obtain ⟨j,b,J,qs,r,rfl,A0,G,hz,OJ,hb,T0,U0,nPU,k⟩:=h;have hr1:=hr.mono (j:=1) (by decide);have hr3:=hr.mono (j:=0+3) (by decide);have hr5:=hr.mono (j:=5) (by decide)
  refine ⟨_,(zAc (psS (i:=2) zDh.nd (zAf C_heights hr rfl (zAa (pv 0) zAb)))
   (zAe (zAm (zAf C_listed hr5 rfl (zAa (pv 0) (zAa (pv 1) (zAa (pe_sortedKR (x:= "name") (y:= "high") (iy:=2) (P:=Pu) (c0:=c0) (qual:=lamQ2) (k:=0) hr3 rfl (by rfl) T.z_sorted zBt (zAa (zDq M_names U.cl hr1 (pv 0)) zAb) (by exact ⟨rfl,rfl,rfl,rfl,rfl,by decide +kernel,by decide +kernel⟩) (by decide) rfl rfl rfl rfl rfl rfl CH B rfl (fun _ _ _ _=>rfl) (fun f' cd' A' s' H' hA=>zBj (zDw hA) (pv 1) (pv 0) (fun _ _=>rfl))) zAb))))))),?_⟩
  have few:=A0.few;refine ⟨_,rfl,j,J,qs,r,rfl,A0,G,hz,T0,fun d F f H1 k1 T1 fd hd hf pmF=>?_⟩;have U1:TabU H1 Pu:=zCf U0 k1 (nm1 nPU.symm) fun a o h _ no=>nm1 (zBw T0.tbl h no);have K1:Kp [Pt,Pu] H H1:=k1.weak (by simp);have A1:=A0.kp2 K1 T0.tbl (zDl U0);refine ⟨_,rfl,_,rfl,_,rfl,j,J.dx,_,rfl,A1.ob,zHk _ _ _ (by decide +kernel) (by decide +kernel) (by decide +kernel),j,J,rfl,A1,fun l H2 fl hl k2=>?_⟩;have U2:TabU H2 Pu:=zCf U1 k2 (by simp) (fun _ _ _ _ _=>by simp);have d2:=k2 _ _ hd (by simp);have T2:=T1.kp k2;refine ⟨l,J.ns,f,.ref d,rfl,rfl,hl,by lia,U2,fun H3 k3 U3=>?_⟩;have u2:=zDl U2;have d3:H3 d=some (.dK (kvI F f)):=k3 _ _ d2 (nm1 (zBw u2 d2 fun _ z=>nomatch z));have T3:TabA H3 Pt:=zCf T2 k3 (nm1 nPU) fun a o h _ no=>nm1 (zBw u2 h no);have U3:TabU H3 Pu:=.inr U3;have K3:Kp [Pt,Pu] H H3:=(K1.trans (k2.weak (by simp))).trans (k3.weak (by simp));refine ⟨fun x hx H' k'=>⟨_,rfl,_,rfl,d,_,rfl,by have:=DGet.k (k:=Sum.inr x) (k' _ _ d3 (by simp));rw [kvI_get (pmF.mem_iff.mpr hx)] at this;exact this,rfl,Kp.refl⟩,fun m ws H4 k4 hm pm' pw=>?_⟩;have fb4:Fre H4 m:=hm;have k5:Kp [] H4 (upd H4 m (.lst (ws.map V.str))):=Kp.new Kp.refl fb4;have e5:Txs (upd H4 m (.lst (ws.map V.str))) m ws:=upd_same;generalize upd H4 m (.lst (ws.map V.str))=H5 at k5 e5;have k35:=k4.trans k5;have K5:Kp [Pt,Pu] H H5:=K3.trans (k35.weak (by simp));have T5:=T3.kp k35;have U5:TabU H5 Pu:=zCf U3 k35 (by simp) (fun _ _ _ _ _=>by simp);have A5:=A0.kp2 K5 T0.tbl (zDl U0);have bk:∀a,Fre H5 a->Fre H a:=fun a=>fre_two T5.tbl (zDl U5) K5;refine ⟨j,m,b,J,r,ws,rfl,A5,OJ.rk,e5,hb,pm',fun pl as H6 R6 k6=>?_⟩;have U6:TabU H6 Pu:=zCf U5 k6 (by simp) (fun _ _ _ _ _=>by simp);exact k pl as ws F f H6 (K5.trans (k6.weak (by simp))) (T5.kp k6) U6 hf pmF pm' pw (RowsAt.back R6 bk)
end
def tf (m b:Int):Int:=(m+b - 1) / b
theorem DGet.f {a:Addr} {kvs:List (Key×V)} {k:Key} {o:Obj} (e:H a=some (.frz o (.dK kvs))):DGet H a (kV k) (valV kvs k):=.inl ⟨kvs,k,.inr ⟨o,e⟩,rfl,rfl⟩
def manyF (F:List Str) (f:Str->Int) (h:Int):Nat:=(F.filter fun x=>decide (f x>h)).length
theorem kvI_at {F:List Str} {f:Str->Int} {m:Nat} {kk:Key} {v:V} (h:(kvI F f)[m]?=some (kk,v)):∃y,F[m]?=some y/\kk=Sum.inr y:=by
 unfold kvI dT1 at h;rw [qAW] at h;obtain ⟨y,e,r⟩:=qA6.mp h
 cases r
 exact ⟨y,e,rfl⟩
section
variable {P:Program} {w:World} {K:PySem.W.Frag} {mg:Str->Option Value} {base:Heap} {C:Addr}
def spTf:Sp:=fun vs H Q _=>∃m b:Int,vs=[.int m,.int b]/\1<=b/\b<10^100/\Q (.int (tf m b)) H
abbrev zCy:Stmt:=top 25
theorem zGw:FnScope ["many", "benches"] ["many", "benches"] (zAd zCy):=fnS
theorem zG7 {f:Addr} {fd:FuncData} (F:Fun K "turns_filled" "turns_filled" zCy f fd):FnOk P w K mg base CX0 1 f fd ["many", "benches"] spTf:=by
 refine F.ok zGw (fun vs H Q E h=>?_) (fun cdv A outer s H vs Q E hr h=>?_)
 ·obtain ⟨m,b,rfl,_⟩:=h;rfl
 ·obtain ⟨m,b,rfl,h1,h2,k⟩:=h;exact ⟨_,(zAe (zAm (zAr op_fdivB (zAr zG4 (zAr zBx (pv 0) (pv 1)) zAg) (pv 1)))),⟨_,rfl,_,rfl,_,_,rfl,rfl,_,_,rfl,rfl,_,rfl,_,_,rfl,rfl,⟨by lia,h2⟩,k⟩⟩
def spPaper:Sp:=fun vs H Q _=>∃(d:Addr) (b:Int) (n:Nat) (F:List Str) (f:Str->Int),vs=[.ref d,.int b,.int n]/\H d=some (.dK (kvI F f))/\F.length<=20/\n<=20/\1<=b/\b<10^100/\∀(h:Nat) (H':Hp),(h<n/\tf (manyF F f h) b+h=n)\/(h=0/\∀h':Nat,h'<n->tf (manyF F f h') b+h'≠n)->Kp [] H H'->Q (.int h) H'
abbrev zBz:Stmt:=top 32
theorem zCg:FnScope ["high", "benches", "length", "number", "many"] ["high", "benches", "length"] (zAd zBz):=fnS
theorem zG8 {f:Addr} {fd:FuncData} (F:Fun K "paper_number" "paper_number" zBz f fd) (T:Txt K mg) (C_turns_filled:Cal P w K mg base "turns_filled" 1 ["many", "benches"] spTf):FnOk P w K mg base CX0 2 f fd ["high", "benches", "length"] spPaper:=by
 refine F.ok zCg (fun vs H Q E h=>?_) (fun cdv A outer s H vs Q E hr h=>?_)
 ·obtain ⟨d,b,n,F,f,rfl,_⟩:=h;rfl
 ·obtain ⟨d,b,n,F,f,rfl,hd,lF,ln,b1,b2,k⟩:=h;have hu:=zDw hr
  refine ⟨_,(zAc (zA1 qAk rfl (zB1 rfl T.z_range (zAa (pv 2) zAb)) (pgN (i:=3) zCg.nd)
    (zAc (ps_frzN (psS (i:=4) zCg.nd (zAi zAl (by rfl) T.z_len zCo (zAa (zBa rfl (zBe (sc:=zAd zBz) rfl (by decide +kernel)) (Draws.own (x:= "name") (dtk (i:=3) rfl (dtk (i:=0) rfl Draws.nil))) (pi_keys (pv 0)) (fun _ _ _ _=>(pgB (i:=0))) (fun _ _ _ _=>(zB8 (zAz op_gt (zBj hu (pv 2) (pv 0) (fun _ _=>rfl)) (pv 1) (zA8 _)))) (fun _ _ _ _=>(pv 0))) zAb))))
    (zAe (zCz (zAz zIy (zAr zBx (zAf C_turns_filled hr rfl (zAa (pv 4) (zAa (pv 1) zAb))) (pv 3)) (pv 2) (zA8 _))
     (zAe (zAm (pv 3)))
     zAw))))
   (zAe (zAm zAg))),?_⟩
  refine ⟨_,rfl,_,rfl,by lia,by lia,zBr (lo:=0) (n:=n) (fun i σ H2=>(∃o3 o4,σ=[some (.ref d),some (.int b),some (.int n),o3,o4])/\Kp [] H H2/\∀h':Nat,h'<i->tf (manyF F f h') b+h'≠n) ⟨⟨_,_,rfl⟩,Kp.refl,fun h' z=>absurd z (qBu _)⟩ ?_ ?_⟩
  ·rintro i σ H2 hi ⟨⟨o3,o4,rfl⟩,k2,no⟩;have e2:=k2 _ _ hd (by simp);refine ⟨d,kvI F f,e2,fun o=>?_⟩;have kf:Kp [d] H2 (upd H2 d (.frz o (.dK (kvI F f)))):=Kp.put Kp.refl (by simp);have ff:upd H2 d (.frz o (.dK (kvI F f))) d=some (.frz o (.dK (kvI F f))):=upd_same;generalize upd H2 d (.frz o (.dK (kvI F f)))=H4 at kf ff;refine ⟨_,rfl,d,o,_,rfl,ff,fun B hB=>comp_keys (fun m ys τ H5=>(∃o0,τ=[o0,some (.int (0+(i:Int))),some (.ref d)])/\ys=(((F.take m).filter fun x=>decide (f x>0+(i:Int))).map V.str)/\H5=upd H4 B (.lst ys)) ⟨⟨_,rfl⟩,rfl,rfl⟩ (fun m ys τ H5 ⟨_,_,z⟩=>by subst z;exact (Kp.new (M:=[]) Kp.refl hB) _ _ ff (by simp)) ?_ ?_⟩
   ·rintro m kk v ys τ H5 hv ⟨⟨o0,rfl⟩,rfl,rfl⟩;obtain ⟨y,ey,rfl⟩:=kvI_at hv;have yb:=qAO ey;have f5:=(Kp.new (M:=[]) (l:=B) (o:=.lst (((F.take m).filter fun x=>decide (f x>0+(i:Int))).map V.str)) Kp.refl hB) _ _ ff (by simp);unfold gName;refine ⟨_,rfl,_,rfl,d,_,rfl,by have:=DGet.f (k:=Sum.inr y) f5;rw [kvI_get yb] at this;exact this,_,rfl,_,_,rfl,rfl,_,rfl,ite2 (fun c=>?_) (fun c=>?_)⟩
    ·refine ⟨_,rfl,upd_same,?_,⟨_,rfl⟩,?_,zBg⟩
     ·rw [qAE];exact zCe (by lia)
     ·rw [zBs ey c,qAQ];rfl
    ·refine ⟨⟨_,rfl⟩,?_,rfl⟩;rw [zCn ey c]
   ·rintro ys τ H5 ⟨_,rfl,rfl⟩;have eT:F.take (kvI F f).length=F:=by rw [kvI_len,qAi]
    rw [eT];have fB:Fre H4 B:=hB;refine ⟨_,_,rfl,.inl (SqL.of upd_same),?_⟩;have k5:Kp [] H4 (upd H4 B (.lst ((F.filter fun x=>decide (f x>0+(i:Int))).map V.str))):=Kp.new Kp.refl fB;generalize upd H4 B (.lst ((F.filter fun x=>decide (f x>0+(i:Int))).map V.str))=H5 at k5;refine ⟨k5 _ _ ff (by simp),?_⟩;have k6:Kp [] H (upd H5 d (.dK (kvI F f))):=k2.trans (thaw_kp e2 (kf.trans (k5.weak (by simp))));generalize upd H5 d (.dK (kvI F f))=H6 at k6;rw [qAE];have eM:(F.filter fun x=>decide (f x>0+(i:Int))).length=manyF F f i:=by unfold manyF;rw [qDV]
    rw [eM];refine ⟨_,rfl,_,rfl,_,b,rfl,b1,b2,_,rfl,_,_,rfl,rfl,_,rfl,rfl,_,rfl,ite2 (fun c=>?_) (fun c=>?_)⟩
    ·have c:V.int (tf (manyF F f i) b+(0+(i:Int)))=V.int n:=qAt c;injection c with c;refine ⟨_,rfl,?_⟩;rw [qDV];exact k i H6 (.inl ⟨hi,by lia⟩) k6
    ·refine ⟨⟨_,_,rfl⟩,k6,fun h' hh=>?_⟩
     by_cases z:h'=i
     ·subst z;exact fun y=>c (qAV (by show V.int (tf (manyF F f h') b+(0+(h':Int)))=V.int n;rw [qDV,y]))
     ·exact no h' (by lia)
  ·rintro σ H2 ⟨_,k2,no⟩;exact k 0 H2 (.inr ⟨rfl,no⟩) k2
end
section
variable {qs ks:List (List Str×Addr)}
theorem ta_rev (two:∀q∈qs,∃a b,q.1=[a,b]) (ek:ks.map (·.1)=qs.map fun q=>q.1.reverse) {a b:Str}:TA ks a b↔TA qs b a:=by
 constructor
 ·rintro ⟨q,hq,rfl,rfl⟩;have h1:q.1∈ks.map (·.1):=qAH.mpr ⟨q,hq,rfl⟩;rw [ek] at h1;obtain ⟨q',hq',e⟩:=qAH.mp h1;obtain ⟨x,y,e'⟩:=two q' hq';have e2:q.1=[y,x]:=by rw [<-e,e'];rfl
  exact ⟨q',hq',by rw [(zC1 e').1,(zC1 e2).2],by rw [(zC1 e').2,(zC1 e2).1]⟩
 ·rintro ⟨q,hq,rfl,rfl⟩;have h1:q.1.reverse∈qs.map fun q=>q.1.reverse:=qAH.mpr ⟨q,hq,rfl⟩;rw [<-ek] at h1;obtain ⟨q',hq',e⟩:=qAH.mp h1;obtain ⟨x,y,e'⟩:=two q hq;have e2:q'.1=[y,x]:=by rw [e,e'];rfl
  exact ⟨q',hq',by rw [(zC1 e').2,(zC1 e2).1],by rw [(zC1 e').1,(zC1 e2).2]⟩
theorem way_rev (two:∀q∈qs,∃a b,q.1=[a,b]) (ek:ks.map (·.1)=qs.map fun q=>q.1.reverse) {a b:Str}:Way ks a b↔Way qs b a:=by
 constructor
 ·intro h
  induction h with
  | one h=>exact .one ((ta_rev two ek).mp h)
  | more _ h ih=>exact .lead ((ta_rev two ek).mp h) ih
 ·intro h
  induction h with
  | one h=>exact .one ((ta_rev two ek).mpr h)
  | more _ h ih=>exact .lead ((ta_rev two ek).mpr h) ih
end
def One (qs:List (List Str×Addr)):Prop:=∀n y y':Str,Way qs n y->(∀z,Way qs n z->¬Way qs z y)->Way qs n y'->(∀z,Way qs n z->¬Way qs z y')->y=y'
theorem WoodQ.one {way m:Int} {ts ts':List ((Int×Int)×Addr)} {R:List Str} {qs ks:List (List Str×Addr)} (W:WoodQ way m ts ts' R qs) (two:∀q∈qs,∃a b,q.1=[a,b]) (ek:ks.map (·.1)=qs.map fun q=>q.1.reverse):One qs\/One ks:=by
 rcases W.wy with rfl| rfl
 ·exact .inl fun n y y' h s h' s'=>W.gath h s h' s'
 ·refine .inr fun n y y' h s h' s'=>?_;have t:∀{a b:Str},Way ks a b↔Way qs b a:=way_rev two ek;exact W.spread (t.mp h) (fun z hz w=>s z (t.mpr hz) (t.mpr w)) (t.mp h') (fun z hz w=>s' z (t.mpr hz) (t.mpr w))
theorem right_rev {J':JR} {b:Int} {rs:List (List Str)} (R:RightI J' b rs) (en:J'.ns=J.ns) (hS:∀n∈J.ns,∀m∈J.ns,m∈J.S n->n∈J'.S m):RightI J b rs.reverse:=by
 have place:∀{i:Nat} {r:List Str},rs.reverse[i]?=some r->i<rs.length/\rs[rs.length - 1 - i]?=some r:=fun {i r} h=>by
  have hi:i<rs.length:=by
   have:=(qAd.mp h).1
   rwa [qCI] at this
  rw [qCz hi] at h;exact ⟨hi,h⟩
 have only:∀{i k:Nat} {q r:List Str} {n:Str},rs[i]?=some q->rs[k]?=some r->n∈q->n∈r->¬i<k:=fun {i k q r n} e1 e2 h1 h2 lt=>by
  refine (R.at' k r e2).nw n h2 ((zB4 _ _).mpr (.inr ⟨q,qAO (i:=i) ?_,h1⟩));rw [qB5 lt];exact e1
 refine ⟨fun i r h=>?_,fun n hn=>?_⟩
 ·obtain ⟨hi,e⟩:=place h;have ok:=R.at' _ r e
  have nw:∀n∈r,n∉AF (rs.reverse.take i) []:=fun n hn z=>by
   obtain ⟨q,q1,q2⟩:=((zB4 _ _).mp z).resolve_left (by simp);obtain ⟨p,hp⟩:=qDW q1;have lp:=(qAd.mp hp).1;rw [qAe] at lp;rw [qB5 (by lia)] at hp;obtain ⟨h1,h2⟩:=place hp;exact only e h2 hn q2 (by lia)
  refine ⟨fun n hn=>en▸ok.ns n hn,ok.nd,nw,fun n hn=>?_,ok.fit⟩;unfold rdyB;rw [qAx];intro m hm;obtain ⟨m1,m2⟩:=qAS.mp hm;have nn:n∈J.ns:=en▸ok.ns n hn;have lt:=zIv R (ok.ns n hn) (en.symm▸m1) (hS n nn m m1 (qAt m2));have tn:tI rs n=rs.length - 1 - i:=tI_eq e hn fun q hq z=>ok.nw n hn ((zB4 _ _).mpr (.inr ⟨q,hq,z⟩));obtain ⟨q,e',hq⟩:=tI_at (((zB4 rs []).mp (R.all m (en.symm▸m1))).resolve_left (by simp));have lq:=(qAd.mp e').1;refine qAV ((zB4 _ _).mpr (.inr ⟨q,qAO (i:=rs.length - 1 - tI rs m) ?_,hq⟩));rw [qB5 (by lia),qCz (by lia)];have:rs.length - 1 - (rs.length - 1 - tI rs m)=tI rs m:=by lia
  rw [this];exact e'
 ·obtain ⟨q,q1,q2⟩:=((zB4 rs []).mp (R.all n (en.symm▸hn))).resolve_left (by simp);exact (zB4 _ _).mpr (.inr ⟨q,qCu.mpr q1,q2⟩)
theorem hgt_of {F:List Str} {f:Str->Int} {beh:Str->List Str} (sub:∀n∈J.ns,∀x∈J.S n,x∈J.ns) (hb:∀n∈J.ns,∀y,y∈beh n↔y∈J.ns/\n∈J.S y) (hf:HF beh F f) (pm:F.Perm J.ns):HgtJ J fun x=>(f x).toNat:=by
 have ps:∀n∈J.ns,1<=f n:=fun n hn=>hf.pos (pm.mem_iff.mpr hn);refine ⟨fun n hn m hm=>?_,fun n hn=>?_,fun n hn h2=>?_⟩
 ·have mn:=sub n hn m hm;have h1:=hf.eq m (pm.mem_iff.mpr mn);have h2:=mx0_ge (qAH.mpr ⟨n,(hb m mn n).mpr ⟨hn,hm⟩,rfl⟩:f n∈(beh m).map f);have:=ps n hn;show (f n).toNat<(f m).toNat;lia
 ·have:=ps n hn;show 1<=(f n).toNat;lia
 ·have h2:2<=(f n).toNat:=h2;have h1:=hf.eq n (pm.mem_iff.mpr hn);rcases mx0_is ((beh n).map f) with z| z
  ·lia
  ·obtain ⟨y,y1,y2⟩:=qAH.mp z;obtain ⟨y3,y4⟩:=(hb n hn y).mp y1;have:=ps y y3;exact ⟨y,y3,y4,by show (f y).toNat+1=(f n).toNat;lia⟩
structure PlF (J:JR) (b m:Nat) (f:Str->Nat):Prop where
 od:∀n∈J.ns,∀x∈J.S n,f x<f n
 few:∀u,(J.ns.filter fun x=>decide (f x=u)).length<=b
 lt:∀n∈J.ns,f n<m
structure PlanQ (J:JR) (b:Int) (rs:List (List Str)):Prop where
 rt:RightI J b rs
 le:∀m f,PlF J b.toNat m f->rs.length<=m
 ne:∀q∈rs,q≠[]
 l20:rs.length<=20
section
variable {J J':JR} {b b':Int} {rs rs':List (List Str)}
theorem right_row (R:RightI J b rs) {n:Str} (hn:n∈J.ns):∃q,rs[tI rs n]?=some q/\n∈q:=tI_at (((zB4 _ _).mp (R.all n hn)).resolve_left (by simp))
theorem right_lt' (R:RightI J b rs) {n:Str} (hn:n∈J.ns):tI rs n<rs.length:=by
 obtain ⟨q,e,_⟩:=right_row R hn;exact (qAd.mp e).1
theorem turn_few (nd:J.ns.Nodup) (R:RightI J b rs) (u:Nat) (g:Str->Bool) (B:List Str->List Str) (hB:∀q x,x∈q->g x=true->rs[u]?=some q->x∈B q):(J.ns.filter fun x=>decide (tI rs x=u)&&g x).length<=(B ((rs[u]?).getD [])).length:=by
 refine zF7 (nd.sublist qBA) fun x hx=>?_;obtain ⟨x1,x2⟩:=qAS.mp hx;obtain ⟨x2,x3⟩:=Bool.and_eq_true_iff.mp x2;obtain ⟨q,e,hq⟩:=right_row R x1;rw [qAt x2] at e;rw [e];exact hB q x hq x3 e
theorem right_f (nd:J.ns.Nodup) (sub:∀n∈J.ns,∀x∈J.S n,x∈J.ns) (R:RightI J b rs) (hb:b<=b') (h1:1<=b):PlF J b'.toNat rs.length (tI rs):=by
 refine ⟨fun n hn x hx=>zIv R (sub n hn x hx) hn hx,fun u=>?_,fun n hn=>right_lt' R hn⟩;have h:=turn_few nd R u (fun _=>true) id fun q x h _ _=>h;simp only [Bool.and_true] at h;refine qAX h ?_
 cases e:rs[u]? with
 | none=>exact qAY _
 | some q =>
  have:=(R.at' u q e).fit;show q.length<=_;lia
theorem PlanQ.rev (en:J'.ns=J.ns) (hS:∀n∈J.ns,∀m∈J.ns,m∈J.S n↔n∈J'.S m) (sub:∀n∈J.ns,∀x∈J.S n,x∈J.ns) (sub':∀n∈J'.ns,∀x∈J'.S n,x∈J'.ns) (P:PlanQ J' b rs):PlanQ J b rs.reverse:=by
 refine ⟨right_rev P.rt en fun n hn m hm h=>(hS n hn m hm).mp h,fun m f F=>?_,fun q hq=>P.ne q (qCu.mp hq),by rw [qCI];exact P.l20⟩;rw [qCI];refine P.le m (fun x=>m - 1 - f x) ⟨fun n hn x hx=>?_,fun u=>?_,fun n hn=>?_⟩
 ·have xn:=sub' n hn x hx;rw [en] at hn xn;have h1:=F.od x xn n ((hS x xn n hn).mpr hx);have h2:=F.lt x xn;show m - 1 - f x<m - 1 - f n;lia
 ·rw [en]
  by_cases c:u<m
  ·refine qAX (qBN (qAf List.length (qCq fun x hx=>?_))) (F.few (m - 1 - u));have:=F.lt x hx;exact qCv.mpr (by lia)
  ·have:J.ns.filter (fun x=>decide (m - 1 - f x=u))=[]:=qDX.mpr fun x hx z=>by
    have:=F.lt x hx;have:=qAt z;lia
   rw [this];exact qAY _
 ·have:=F.lt n (en▸hn);show m - 1 - f n<m;lia
end
theorem high_plan {r:Str->Nat} {ws F:List Str} {f:Str->Int} {b:Int} (OJ:OrdJ J r) (G:gathB J=true) (hb:1<=b) (hf:HF (behJ J) F f) (pmF:F.Perm J.ns) (pm:ws.Perm J.ns) (pw:ws.Pairwise fun x y=>f y<=f x):PlanQ J b (rsB J b.toNat ws):=by
 have hb':1<=b.toNat:=by lia
 have Gs:∀n∈J.ns,(strB J n).length<=1:=fun n hn=>qAt (qAx.mp G n hn);have W:=wood_is OJ Gs (hgt_of OJ.sub (fun n _ y=>zE9) hf pmF) pm (pw.imp fun z=>by lia) hb';have e:((b.toNat:Nat):Int)=b:=by lia
 have R:=zEe OJ pm hb';rw [e] at R;refine ⟨R,fun m g F=>W.least hb' F.od F.few F.lt,fun q hq=>?_,qAX (zHf J b.toNat ws.length [] ws) (by rw [pm.length_eq];exact OJ.few)⟩;obtain ⟨i,hi⟩:=qDW hq;obtain ⟨A',L',h1,_,_,_,h5,e',_⟩:=zGh OJ pm hb' hi;rw [e'];exact h1.turn hb' h5
end My
namespace ST
open PySem L2 PySem.SetTable PyProof.Rows
end ST
namespace L2
open PySem PySem.Spec PyProof.Rows PySem.W
def del (H:Hp) (a:Addr):Hp:=fun b=>if b=a then none else H b
theorem del_same {H:Hp} {a:Addr}:del H a a=none:=qAC rfl
theorem zF8 {H:Hp} {a b:Addr} (h:b≠a):del H a b=H b:=qAB h
theorem del_some {H:Hp} {a b:Addr} {o:HO} (h:del H a b=some o):b≠a/\H b=some o:=by
 by_cases z:b=a
 ·rw [z,del_same] at h;cases h
 ·exact ⟨z,by rw [zF8 z] at h;exact h⟩
end L2
namespace L2
open PySem PySem.Spec PyProof.Rows PySem.W PySem.Builtin PySem.Builtin.ObjectAttr
end L2
namespace L2
open PySem PySem.Spec PyProof.Rows
section
variable {prog:Program} {w:World} {A:Around} {E:Value->Shared->Prop} {s:Shared}
theorem rv_len:typeLookup (.type "list_reverseiterator") "__len__" = pure none:=by rw [qCl,qCm];kernel_rfl
theorem rv_hint:typeLookup (.type "list_reverseiterator") "__length_hint__" = pure (some (.builtin "list_reverseiterator.__length_hint__")):=by rw [qCl,qCm];kernel_rfl
theorem hint_rev {r l:Addr} {i:Int} {Q:Bool->Shared->Prop} (hr:s.heap.IsRevIter r l i) (h:Q false s):wpAny (model prog w) A (Builtin.List.listLengthHint (.ref r)) Q E s:=by
 unfold Builtin.List.listLengthHint;refine qAA (qCc hr.typeIs rv_len ?_);refine qBM (fun hab=>absurd hab (by decide +kernel)) (fun _=>?_);refine qBM (fun hab=>absurd hab (by decide)) (fun _=>?_);refine qAA (qCc hr.typeIs rv_hint ?_);generalize hid:("list_reverseiterator.__length_hint__" : String)=id0
 wp_delta
 rw [show splitId id0=some ("list_reverseiterator", "__length_hint__") from by subst hid;decide +kernel];subst hid;refine qAA (qDM (T:= "list_reverseiterator") (b:=true) hr.typeIs (by rw [isSubtype_type];kernel_rfl) ?_);refine qBM (fun hab=>absurd hab (by decide)) (fun _=>?_);refine qBM (fun _=>?_) (fun hab=>absurd (by decide +kernel) hab);refine qBM (fun hab=>absurd hab (by decide +kernel)) (fun _=>?_);exact qAD h
theorem rev_items {its acc:Array Value} (h:ItemsOf (fun i v=>its[its.size - 1 - i]?=some v) acc its.size):acc.toList=its.toList.reverse:=by
 refine qDO fun i=>?_;rw [qAo]
 by_cases hi:i<its.size
 ·have e:acc[i]?=some (acc[i]'(by rw [h.1];exact hi)):=qB9 (by rw [h.1];exact hi);rw [e,<-h.2 i _ e,qCz (by simpa using hi)];simp
 ·rw [qDp (by rw [h.1];lia),qCi (by simp;lia)]
theorem list_rev {r l:Addr} {its:Array Value} {Q:Value->Shared->Prop} (hh:A.handled=none) (hr:s.heap.IsRevIter r l ((its.size:Int) - 1)) (hl:s.heap.IsList l its) (ne:l≠r) (hz:its.size<=sizeLine)
  (q:∀h' tk acc c,(∀b o,b≠r->s.heap.get? b=some o->h'.get? b=some o)->h'.get? s.heap.objs.size=some {cls:=.type "list",dict:=none,data:=.seq acc c,slots:=#[]}->acc.toList=its.toList.reverse->Q (.ref s.heap.objs.size) {s with heap:=h',toks:=tk}) :
  wpAny (model prog w) A (call (.type "list") [.ref r]) Q E s:=by
 obtain ⟨h0,g,dd,tk,os⟩:=s;have lr:r<h0.objs.size:=by obtain ⟨o,y,_⟩:=hr;exact qAL y
 have ll:l<h0.objs.size:=by obtain ⟨o,y,_⟩:=hl;exact qAL y
 refine callType_codes (Q₁:=fun obj s₁=>obj= .ref h0.objs.size/\s₁=⟨h0.push {cls:=.type "list",data:=.seq #[]},g,dd,tk,os⟩) F.called_list (F.typeCall_list_1 _) F.entry_list_init (code_list_new _ ⟨rfl,rfl⟩) fun obj s1 h1=>?_;obtain ⟨rfl,rfl⟩:=h1;have hS:(h0.push {cls:=.type "list",data:=.seq #[]}).get? h0.objs.size=some {cls:=.type "list",data:=.seq #[]}:=qAb _ rfl;refine ⟨⟨_,hS,rfl⟩,F.args_list_init_2 _ _,?_⟩;show wpAny _ A.in1.in1 (do let old<-Builtin.List.listItems (.ref h0.objs.size);Builtin.List.listUpdate (.ref h0.objs.size) (fun _=>#[]);letGo old.toList.reverse;Builtin.List.listExtendWith (.ref h0.objs.size) (.ref r) .none) _ _ _;refine qAA ?_;unfold Builtin.List.listItems;refine qAA (wpAny_seqItems hS rfl (qAD ?_));show wpAny _ A.in1.in1 (updateSeq h0.objs.size (fun _=>#[]) >>= fun _=>letGo (#[]:Array Value).toList.reverse >>= fun _=>Builtin.List.listExtendWith (.ref h0.objs.size) (.ref r) .none) _ _ _;refine qAA (qCV hS rfl ?_);have S1:=qBJ (Obj.mapSeq (fun _=>(#[]:Array Value))) hS rfl;have o1:∀b o,h0.get? b=some o->((h0.push {cls:=.type "list",data:=.seq #[]}).update h0.objs.size (Obj.mapSeq (fun _=>(#[]:Array Value)))).get? b=some o:=fun b o y=>(qBo _ _ (qBD (qAL y))).trans (qAJ _ y);generalize (h0.push {cls:=.type "list",data:=.seq #[]}).update h0.objs.size (Obj.mapSeq (fun _=>(#[]:Array Value)))=h1 at S1 o1 ⊢;refine qAA (qCH ?_);have hr1:h1.IsRevIter r l ((its.size:Int) - 1):=Heap.IsRevIter.at hr fun o y=>o1 _ _ y;have hl1:h1.IsList l its:=hl.at fun o y=>o1 _ _ y;unfold Builtin.List.listExtendWith;refine qAA (qDF (T:= "list_reverseiterator") (s:=⟨h1,g,dd,tk,os⟩) hr1.typeIs ?_);have d1:Builtin.List.listSameRef (.ref h0.objs.size) (.ref r)=false:=qA8.mpr (qBD lr);have d2:(Value.type "list_reverseiterator" == Value.type "list")=false:=by decide
 have d3:(Value.type "list_reverseiterator" == Value.type "tuple")=false:=by decide
 simp only [d1,d2,d3,Bool.or_false,qBl,qBG];refine qAA (wpAny_pyIter_revIter (s:=⟨h1,g,dd,tk,os⟩) hr1 (qAA (qAz (hint_rev (s:=⟨h1,g,dd,tk,os⟩) hr1 ?_))));refine qBM (fun hab=>absurd hab (by decide +kernel)) fun _=>qAD ⟨qCk F.plain_extend_loop _,?_⟩;have W:=(Walks.listRev (prog:=prog) (w:=w) (A:=A.in1.in1) hh r l ne its).toS;refine codeAny_extend_loopS W hz h0.objs.size ?_ .none its.size 0 ⟨h1,g,dd,tk,os⟩ #[] _ rfl (qAY _) ⟨qAY _,by simpa using hr1,hl1⟩ S1 (ItemsOf.nil _) fun s' acc c mv hS' it=>?_
 ·simp only [qAN,qCA,or_false,not_or];exact ⟨qBD lr,qBD ll⟩
 ·rw [Moved.eq_with mv];refine ⟨rfl,q s'.heap s'.toks acc c (fun b o hb e=>mv.heap b o ?_ (o1 b o e)) hS' (rev_items it)⟩;simp only [qAN,qCA,or_false,not_or];exact ⟨qAZ (qAL e),hb⟩
end
def rvN (n0:Nat) (r l:Addr) (n:Nat):HO:=.ext fun h=>h.IsRevIter r l ((n:Int) - 1)/\n0<=r
theorem vals_rev:∀{xs:List V} {us:List Value},Vals xs us->Vals xs.reverse us.reverse
 | _,_,.nil=>.nil
 | _,_,.cons r t=>by rw [List.reverse_cons,List.reverse_cons];exact (vals_rev t).append (.cons r .nil)
section
variable {X:Cx}
theorem zH4:zC5 X (.type "reversed") (fun xs H Q=>∃l ys,xs=[.ref l]/\H l=some (.lst ys)/\∀r,H r=none->Q (.ref r) (upd H r (rvN X.s₀.heap.objs.size r l ys.length))):=by
 intro pins s σ H xs us Q I rv h;obtain ⟨l,ys,rfl,e,q⟩:=h;obtain ⟨u,rfl,ru⟩:=rv.one
 cases ru
 obtain ⟨z,its,n,rel,hl⟩:zAs X.prog X.w H s.heap l (.lst ys):=I.hok l _ e;have len:=rel.length;refine call_reversed_list (items:=its.toArray) ⟨_,hl,rfl,n,rfl⟩ ?_;have ge:(s.heap.push (revObj l ((its.toArray.size:Int) - 1))).IsRevIter s.heap.objs.size l ((ys.length:Int) - 1):=⟨_,qAb _ rfl,rfl,by rw [qAM,<-len];rfl⟩;refine ⟨.ref s.heap.objs.size,_,I.laid (o:=rvN X.s₀.heap.objs.size s.heap.objs.size l ys.length) (t':=s.toks) (fun b o z=>qAJ _ z) (qAG _) ?_,rfl,q _ (I.hok.fresh (qAG _))⟩;exact ⟨⟨ge,I.sz⟩,⟨_,qAb _ rfl⟩,fun h1 h2 x y=>⟨x.1.at y,x.2⟩⟩
theorem call_listRv (hc:X.calm=true):zC5 X (.type "list") (fun xs H Q=>∃r l ys,xs=[.ref r]/\H r=some (rvN X.s₀.heap.objs.size r l ys.length)/\H l=some (.lst ys)/\∀p,H p=none->Q (.ref p) (upd (del H r) p (.lst ys.reverse))):=by
 intro pins s σ H xs us Q I rv h;obtain ⟨r,l,ys,rfl,er,e,q⟩:=h;obtain ⟨u,rfl,ru⟩:=rv.one
 cases ru
 obtain ⟨⟨hr,n0⟩,_,_⟩:zAs X.prog X.w H s.heap r (rvN X.s₀.heap.objs.size r l ys.length):=I.hok r _ er;obtain ⟨z,its,n,rel,hl⟩:zAs X.prog X.w H s.heap l (.lst ys):=I.hok l _ e;have len:=rel.length;have ne:l≠r:=zBb e er fun z=>nomatch z;refine list_rev (its:=its.toArray) (I.ok.hd hc) (by rw [qAM,<-len];exact hr) ⟨_,hl,rfl,n,rfl⟩ ne (by rw [qAM];lia) fun h' tk acc c kp ge ea=>?_;have fr:H s.heap.objs.size=none:=I.hok.fresh (qAG _);refine ⟨.ref s.heap.objs.size,_,?_,rfl,q _ fr⟩;have rs:r≠s.heap.objs.size:=zAp er fr;refine I.call' (s':={s with heap:=h',toks:=tk}) (ch:=[r]) rfl ⟨fun b o z m _ nr=>kp b o (fun y=>nr (by rw [y];simp)) z,fun b o z m _ nr=>⟨o.slots,kp b o (fun y=>nr (by rw [y];simp)) z⟩,fun b o z m nr=>?_,fun b o z nr=>⟨o,kp b o (fun y=>nr (by rw [y];simp)) z⟩,fun b xs z=>?_,fun b o u z=>?_,fun b ps z=>⟨#[],?_⟩⟩ (fun b o z=>?_) I.bare (fun b hb=>?_)
 ·rw [upd_ne (qAZ (qAL z)),zF8 (fun y=>nr (by rw [y];simp))];exact m
 ·rw [upd_ne (zAp z fr),zF8 (zBb z er fun y=>nomatch y)];exact z
 ·rw [upd_ne (zAp z fr),zF8 (zBb z er fun y=>nomatch y)];exact z
 ·rw [Array.append_empty,upd_ne (zAp z fr),zF8 (zBb z er fun y=>nomatch y)];exact z
 ·by_cases hb:b=s.heap.objs.size
  ·subst hb;rw [upd_same] at z;cases z;refine ⟨by rw [qCI];exact ‹ys.length<=sizeLine›,acc.toList,c,?_,by simpa using ge⟩;rw [ea];exact vals_rev rel
  ·rw [upd_ne hb] at z;obtain ⟨br,z⟩:=del_some z;refine (I.hok b o z).stay (fun d v hd y=>kp d v ?_ y) (fun d y=>?_) fun d xs y=>?_
   ·rcases hd with rfl| hd
    ·exact br
    ·exact zBb hd er fun y=>nomatch y
   ·rw [upd_ne (zAp y fr),zF8 (zBb y er fun y=>nomatch y)];exact y
   ·rw [upd_ne (zAp y fr),zF8 (zBb y er fun y=>nomatch y)];exact y
 ·rw [qAP.mp hb];refine ⟨.inr n0,fun y=>?_,fun x c y w=>?_,fun p hp y=>?_⟩
  ·rw [y,I.free] at er;cases er
  ·rw [<-w,I.freeC x c y] at er;cases er
  ·rw [<-y,(I.pin p hp).2.1] at er;cases er
end
end L2
namespace My
open PySem L2
theorem kp_rev {H:Hp} {r p:Addr} {o o':HO} (hr:H r=none) (hp:upd H r o p=none):Kp [] H (upd (del (upd H r o) r) p o')/\upd (del (upd H r o) r) p o' p=some o':=⟨fun c x hc _=>by
 have n1:c≠r:=zAp hc hr;have e:upd H r o c=some x:=by rw [upd_ne n1];exact hc
 rw [upd_ne (zAp e hp),zF8 n1];exact e,upd_same⟩
theorem RowsAt.rev {H0 H H':Hp} {l p:Addr} {as:List Addr} {rs:List (List Str)} (R:RowsAt H0 H l as rs) (k:Kp [] H H') (hp:H' p=some (.lst (as.map V.ref).reverse)) (f:Fre H p) (f0:Fre H0 p):RowsAt H0 H' p as.reverse rs.reverse:=by
 refine ⟨by rw [hp,List.map_reverse],by rw [qCI,qCI,R.len],fun i a r e1 e2=>?_,fun a ha=>?_,f0,fun a ha=>R.frs a (qCu.mp ha)⟩
 ·have hi:=(qAd.mp e1).1;rw [qCI] at hi;rw [qCz hi] at e1;rw [qCz (by rw [<-R.len];exact hi),<-R.len] at e2;exact k _ _ (R.row _ a r e1 e2) (by simp)
 ·obtain ⟨r,_,hr'⟩:=R.mem (qCu.mp ha);exact ne_fre f hr'
theorem RowsAt.len' {H0 H:Hp} {l:Addr} {as:List Addr} {rs:List (List Str)} (R:RowsAt H0 H l as rs):(((as.map V.ref).length:Nat):Int)=(rs.length:Int):=by rw [qAE,R.len]
section
variable {P:Program} {w:World} {K:PySem.W.Frag} {mg:Str->Option Value} {base:Heap} {C:Addr}
def spWP (C Pt Pu:Addr):Sp:=fun vs H Q _=>∃(j:Addr) (b:Int) (J:JR) (qs ks:List (List Str×Addr)) (r:Str->Nat),vs=[.ref j,.int b]/\JobsAt C H j J/\Good J.ns qs r/\(∀k,k∈J.zs.map (·.1)↔k∈qs.map (·.1))/\(∀q∈qs,∃a b,q.1=[a,b])/\ks.map (·.1)=(qs.map fun q=>q.1.reverse)/\(One qs\/One ks)/\1<=b/\b<10^100/\TabA H Pt/\TabU H Pu/\Pt≠Pu /\
 ∀(t pl pa:Addr) (as:List Addr) (rs:List (List Str)) (H':Hp),Kp [Pt,Pu] H H'->TabA H' Pt->TabU H' Pu->H' t=some (.tup [.ref pl,.ref pa])->RowsAt H H' pl as rs->PlanQ J b rs->Q (.ref t) H'
abbrev zEc:Stmt:=top 30
theorem zCp:FnScope ["jobs", "benches", "plan", "turned"] ["jobs", "benches"] (zAd zEc):=fnS
theorem ok_wood_plan {f Pt Pu:Addr} {fd:FuncData} (F:Fun K "wood_plan" "wood_plan" zEc f fd) (T:Txt K mg) (U:JC K mg C) (C_check_benches:Cal P w K mg base "check_benches" 2 ["benches"] spBench) (C_is_gathering:Cal P w K mg base "is_gathering" 5 ["jobs"] (spGath C)) (C_highest_first:Cal P w K mg base "highest_first" 9 ["jobs", "benches"] (spHigh C Pt Pu))
  (C_paper_number:Cal P w K mg base "paper_number" 2 ["high", "benches", "length"] spPaper) (C_heights:Cal P w K mg base "heights" 8 ["jobs"] (zGu C Pt)) (M_turned:Mth P w K mg base C "turned" 6 ["self"] (spTurned C)):FnOk P w K mg base CX0 10 f fd ["jobs", "benches"] (spWP C Pt Pu):=by
 refine F.ok zCp (fun vs H Q E h=>?_) (fun cdv A outer s H vs Q E hr h=>?_)
 ·obtain ⟨j,b,J,qs,ks,r,rfl,_⟩:=h;rfl
 ·obtain ⟨j,b,J,qs,ks,r,rfl,A0,G,hz,two,ek,one,b1,b2,T0,U0,nPU,k⟩:=h;have hr2:=hr.mono (j:=2) (by decide);have hr5:=hr.mono (j:=5) (by decide);have hr6:=hr.mono (j:=6) (by decide);have hr8:=hr.mono (j:=8) (by decide)
  refine ⟨_,(zAc (zAu (zAf C_check_benches hr2 rfl (zAa (pv 1) zAb)))
   (zAc (zCz (zDj (zAf C_is_gathering hr5 rfl (zAa (pv 0) zAb)))
    (zAc (psS (i:=2) zCp.nd (zAf C_highest_first hr rfl (zAa (pv 0) (zAa (pv 1) zAb))))
    (zAe (zAm (zC7 (zAa (pv 2) (zAa (zC7 (zAa zIc (zAa (zAf C_paper_number hr2 rfl (zAa (zAf C_heights hr8 rfl (zAa (pv 0) zAb)) (zAa (pv 1) (zAa (zAi zAl (by rfl) T.z_len zCo (zAa (pv 2) zAb)) zAb)))) zAb))) zAb))))))
    zAw)
   (zAc (psS (i:=3) zCp.nd (zDq M_turned U.cl hr6 (pv 0)))
   (zAc (zCz (zDj (zAf C_is_gathering hr5 rfl (zAa (pv 3) zAb)))
    (zAc (psS (i:=2) zCp.nd (zAf C_highest_first hr rfl (zAa (pv 3) (zAa (pv 1) zAb))))
    (zAe (zAm (zC7 (zAa (zAq (call_listRv rfl) (by rfl) T.z_list zC3 (zAa (zAq zH4 (by rfl) T.z_reversed bo_reversed (zAa (pv 2) zAb)) zAb)) (zAa (zC7 (zAa zIc (zAa (zAf C_paper_number hr2 rfl (zAa (zAf C_heights hr8 rfl (zAa (pv 3) zAb)) (zAa (pv 1) (zAa (zAi zAl (by rfl) T.z_len zCo (zAa (pv 2) zAb)) zAb)))) zAb))) zAb))))))
    zAw)
   (zAe zCc))))),?_⟩
  have few:=A0.few;refine ⟨_,rfl,b,rfl,b1,?_⟩;refine ⟨_,rfl,j,J,rfl,A0,fun H1 k1=>?_⟩;have A1:=A0.kp0 k1;have T1:=T0.kp k1;have U1:TabU H1 Pu:=zCf U0 k1 (by simp) (fun _ _ _ _ _=>by simp);have plan:∀{J1:JR} {qs1:List (List Str×Addr)} {r1:Str->Nat} {x:Addr} {H2:Hp} {F ws:List Str} {f:Str->Int},JobsAt C H2 x J1->Good J1.ns qs1 r1->(∀k,k∈J1.zs.map (·.1)↔k∈qs1.map (·.1))->(∀q∈qs1,∃a b,q.1=[a,b])->gathB J1=true->HF (behJ J1) F f->F.Perm J1.ns->ws.Perm J1.ns->ws.Pairwise (fun x y=>f y<=f x)->PlanQ J1 b (rsB J1 b.toNat ws):=fun A2 G2 z2 two2 g2 hf pmF pm pw=>high_plan (zId A2 G2 z2 two2) g2 b1 hf pmF pm pw;have rows20:∀{J1:JR} {ws:List Str},ws.Perm J1.ns->J1.ns.length<=20->(rsB J1 b.toNat ws).length<=20:=fun {J1 ws} pm hl=>qAX (zHf J1 b.toNat ws.length [] ws) (by rw [pm.length_eq];exact hl);refine ⟨_,rfl,ite2 (fun g=>?_) (fun g=>?_)⟩
  ·-- gathering
   refine ⟨_,rfl,_,rfl,j,b,J,qs,r,rfl,A1,G,hz,zId A0 G hz two,b1,T1,U1,nPU,fun pl as ws F f H2 k2 T2 U2 hf pmF pm pw R2=>?_⟩;have bk2:∀a,Fre H1 a->Fre H a:=fun a h=>k1.fre h (by simp);have A2:=A1.kp2 k2 T1.tbl (zDl U1);refine ⟨_,rfl,_,rfl,j,J,qs,r,rfl,A2,G,hz,T2,fun d F2 f2 H3 k3 T3 fd hd hf2 pm2=>?_⟩;have U3:TabU H3 Pu:=zCf U2 k3 (nm1 nPU.symm) fun a o h _ no=>nm1 (zBw T2.tbl h no);have R3:=R2.kp k3 (nm1 (zBw T2.tbl R2.top fun _ z=>nomatch z)) fun a ha=>nm1 (by obtain ⟨q,_,e⟩:=R2.mem ha;exact zBw T2.tbl e fun _ z=>nomatch z);refine ⟨_,rfl,_,rfl,_,_,rfl,.inl (SqL.of R3.top),?_⟩;rw [R3.len'];refine ⟨d,b,_,F2,f2,rfl,hd,by rw [pm2.length_eq];exact few,rows20 pm few,b1,b2,fun h H4 told k4=>?_⟩;have pq:=plan A0 G hz two g hf pmF pm pw;refine ⟨(by walk_at "ln"),fun pa hpa=>?_⟩;have fpa:Fre H4 pa:=hpa;have k5:Kp [] H4 (upd H4 pa (.tup [.str "behind",.int h])):=Kp.new Kp.refl fpa;have e5:upd H4 pa (.tup [.str "behind",.int h]) pa=some (.tup [.str "behind",.int h]):=upd_same;generalize upd H4 pa (.tup [.str "behind",.int h])=H5 at k5 e5 ⊢;refine ⟨(by walk_at "ln"),fun t ht=>?_⟩;have ft:Fre H5 t:=ht;have k6:Kp [] H5 (upd H5 t (.tup [.ref pl,.ref pa])):=Kp.new Kp.refl ft;have e6:upd H5 t (.tup [.ref pl,.ref pa]) t=some (.tup [.ref pl,.ref pa]):=upd_same;generalize upd H5 t (.tup [.ref pl,.ref pa])=H6 at k6 e6 ⊢;have k36:=(k4.trans k5).trans k6;exact k t pl pa as _ H6 (((k1.weak (by simp)).trans k2).trans ((k3.weak (by simp)).trans (k36.weak (by simp)))) (T3.kp k36) (zCf U3 k36 (by simp) (fun _ _ _ _ _=>by simp)) e6 ((R3.kp k36 (by simp) (by simp)).back bk2) pq
  ·-- spreading
   refine ⟨_,rfl,j,J.dx,_,rfl,A1.ob,zHk _ _ _ (by decide +kernel) (by decide +kernel) (by decide +kernel),j,J,r,rfl,A1,G.keys hz A0.zfew,fun x J' H2 fx A2 _ en hz' k2=>?_⟩;have G':=G.rev two ek;have hk:=rev_keys hz' hz ek
   have two':∀q∈ks,∃a b,q.1=[a,b]:=fun q hq=>by
    have h1:q.1∈ks.map (·.1):=qAH.mpr ⟨q,hq,rfl⟩;rw [ek] at h1;obtain ⟨q',hq',e⟩:=qAH.mp h1;obtain ⟨a,b,e'⟩:=two q' hq';exact ⟨b,a,by rw [<-e,e'];rfl⟩
   rw [<-en] at G'
   have g':gathB J'=true:=by
    rcases one with z| z
    ·exact absurd (gath_J A0 G hz two z) g
    ·exact gath_J A2 G' hk two' z
   have T2:=T1.kp k2;have U2:TabU H2 Pu:=zCf U1 k2 (by simp) (fun _ _ _ _ _=>by simp);refine ⟨_,rfl,x,J',rfl,A2,fun H3 k3=>?_⟩;have A3:=A2.kp0 k3;have T3:=T2.kp k3;have U3:TabU H3 Pu:=zCf U2 k3 (by simp) (fun _ _ _ _ _=>by simp);refine ⟨_,rfl,?_⟩;rw [g'];refine iteT ?_;refine ⟨_,rfl,_,rfl,x,b,J',ks,_,rfl,A3,G',hk,zId A3 G' hk two',b1,T3,U3,nPU,fun pl as ws F f H4 k4 T4 U4 hf pmF pm pw R4=>?_⟩;have k13:=k2.trans k3;have bk4:∀a,Fre H3 a->Fre H a:=fun a h=>(k1.trans k13).fre h (by simp);have A4:=A3.kp2 k4 T3.tbl (zDl U3);refine ⟨_,rfl,pl,_,rfl,R4.top,fun rv hrv=>⟨rv,pl,_,rfl,upd_same,(upd_ne (zAp R4.top hrv)).trans R4.top,fun bl hbl=>?_⟩⟩;obtain ⟨k5,h5⟩:=kp_rev hrv hbl (o':=.lst (as.map V.ref).reverse);have fbl:Fre H4 bl:=(Kp.new (M:=[]) Kp.refl hrv).fre hbl (by simp);generalize upd (del (upd H4 rv _) rv) bl (.lst (as.map V.ref).reverse)=H5 at k5 h5 ⊢;have T5:=T4.kp k5;have U5:TabU H5 Pu:=zCf U4 k5 (by simp) (fun _ _ _ _ _=>by simp);have fbl3:Fre H3 bl:=fre_two T4.tbl (zDl U4) k4 fbl;have Rv:=R4.rev k5 h5 fbl fbl3;have R5:=R4.kp k5 (by simp) (by simp);have fewJ:J'.ns.length<=20:=A2.few;refine ⟨_,rfl,x,J',ks,_,rfl,A4.kp0 k5,G',hk,T5,fun d F2 f2 H6 k6 T6 fd hd hf2 pm2=>?_⟩;have U6:TabU H6 Pu:=zCf U5 k6 (nm1 nPU.symm) fun a o h _ no=>nm1 (zBw T5.tbl h no);have R6:=R5.kp k6 (nm1 (zBw T5.tbl R5.top fun _ z=>nomatch z)) fun a ha=>nm1 (by obtain ⟨q,_,e⟩:=R5.mem ha;exact zBw T5.tbl e fun _ z=>nomatch z);have Rv6:=Rv.kp k6 (nm1 (zBw T5.tbl Rv.top fun _ z=>nomatch z)) fun a ha=>nm1 (by obtain ⟨q,_,e⟩:=Rv.mem ha;exact zBw T5.tbl e fun _ z=>nomatch z);refine ⟨_,rfl,_,rfl,_,_,rfl,.inl (SqL.of R6.top),?_⟩;rw [R6.len'];refine ⟨d,b,_,F2,f2,rfl,hd,by rw [pm2.length_eq];exact fewJ,rows20 pm fewJ,b1,b2,fun h H7 told k7=>?_⟩;have pq:=plan A2 G' hk two' g' hf pmF pm pw;refine ⟨(by walk_at "ln"),fun pa hpa=>?_⟩;have fpa:Fre H7 pa:=hpa;have k8:Kp [] H7 (upd H7 pa (.tup [.str "ahead",.int h])):=Kp.new Kp.refl fpa;have e8:upd H7 pa (.tup [.str "ahead",.int h]) pa=some (.tup [.str "ahead",.int h]):=upd_same;generalize upd H7 pa (.tup [.str "ahead",.int h])=H8 at k8 e8 ⊢;refine ⟨(by walk_at "ln"),fun t ht=>?_⟩;have ft:Fre H8 t:=ht;have k9:Kp [] H8 (upd H8 t (.tup [.ref bl,.ref pa])):=Kp.new Kp.refl ft;have e9:upd H8 t (.tup [.ref bl,.ref pa]) t=some (.tup [.ref bl,.ref pa]):=upd_same;generalize upd H8 t (.tup [.ref bl,.ref pa])=H9 at k9 e9 ⊢;have k69:=(k7.trans k8).trans k9;have sub:=(zId A0 G hz two).sub;have sub':=(zId A2 G' hk two').sub;have rq:=pq.rev (J:=J) en (fun n hn m hm=>((zFl A0 G hz hn).trans (way_rev two ek).symm).trans (zFl A2 G' hk (by rw [en];exact hm)).symm) sub sub';exact k t bl pa as.reverse _ H9 ((((k1.trans k13).weak (by simp)).trans k4).trans ((k5.weak (by simp)).trans ((k6.weak (by simp)).trans (k69.weak (by simp))))) (T6.kp k69) (zCf U6 k69 (by simp) (fun _ _ _ _ _=>by simp)) e9 ((Rv6.kp k69 (by simp) (by simp)).back bk4) rq
end
end My
namespace L2
open PySem PySem.Spec PyProof.Rows
end L2
namespace RV3
open PySem
variable {ep:Nat}{od:Obj}
section
variable {P:Program} {w:World} {A:Around} {E:Value->Shared->Prop} {s:Shared}
theorem key_next {it d:Addr} {i n:Nat} {es:Array DictEntry} {en:DictEntry} {Q:Option Value->Shared->Prop} (hit:s.heap.IsKeyIter it d i n ep) (o1:s.heap.get? d=some od) (o2:od.data= .dict es ep) (hn:es.size=n) (he:es[i]?=some en)
  (q:∀h',h'.IsKeyIter it d (i+1) n ep->Heap.SameBut it s.heap h'->Q (some en.key) {s with heap:=h'}):wpAny (model P w) A (pyNext (.ref it)) Q E s:=by
 obtain ⟨o,ho,hc,hd⟩:=id hit;have ty:=hit.typeIs
 have hlt:i<es.size:=by
  rcases Nat.lt_or_ge i es.size with h| h
  ·exact h
  ·rw [qDp h] at he;cases he
 have en':es[i]=en:=by rw [qB9 hlt] at he;exact qAa he
 unfold pyNext;refine qAA (qB7 (qDK (name:=Str.ofString "__next__") ty qC0 (qBw qC0 ty F.entry_dict_keyiterator_next ?_ (F.args_dict_keyiterator_next_1 _))));refine qAA (qAD (qAA (qAA ?_)))
 first| refine qAA (qDY ty (qAD ?_))| refine qAA (qDZ ty (qAD ?_))
 refine qAA (qDL ho hd ?_);have own:Builtin.Dict_items.ownsTuple "dict_keyiterator" = false:=by decide
 simp only [own,qBl,qBG];have ni:¬((i:Int)<0):=by lia
 show wpAny _ _ (if (Value.ref d==Value.none)=true then _ else _) _ _ _;refine qBM (fun z=>absurd z qAm) fun _=>qAA (qAD (qAA (wpAny_dictEntries o1 o2 ?_)));refine qBM (fun z=>absurd z (by rw [hn];simp)) fun _=>qAA (qAD (qAA (wpAny_dictEpoch o1 o2 ?_)));refine qBM (fun z=>absurd z (by simp)) fun _=>qAD ?_;simp only [ni,qBG,qCY,he];refine qAA ?_
 first| refine qAA (qDY ty (qAD ?_))| refine qAA (qDZ ty (qAD ?_))
 refine qAA (wpAny_isOneOf_keyiter ty ?_)
 have up:(s.heap.update it (Obj.mapFields (·.setIfInBounds 1 (rawInt ((i:Int)+1))))).IsKeyIter it d (i+1) n ep :=
  ⟨_,qBJ _ ho (qCB (qA2 hd _)),(qCU ..).trans hc,by rw [qA2 hd];simp [rawInt]⟩
 refine qAA (show wpAny _ _ (setField (.ref it) 1 (rawInt ((i:Int)+1))) _ _ s from qBR ho hd (by simp) ?_);refine qAA (qAz (qAA (wpAny_isOneOf_keyiter (s:={s with heap:=s.heap.update it (Obj.mapFields (·.setIfInBounds 1 (rawInt ((i:Int)+1))))}) up.typeIs ?_)));exact (show wpAny _ _ (pure en.key) _ _ _ from qAD (qAD ⟨_,rfl,qAD (q _ up (qAj ..))⟩))
theorem stopped {Q:Option Value->Shared->Prop} {Z:PySem.Fin->Shared->Prop} (hh:A.handled=none) (q:∀h',(∀b o,s.heap.get? b=some o->h'.get? b=some o)->Q none {s with heap:=h'}) :
  wpAny (model P w) A.in1 (do let e<-newExc (.type "StopIteration") [];raiseNew e:Sem PySem.Fin) Z (fun e s'=>wpAny (model P w) A (do if (<-isInstance e (.type "StopIteration")) then pure none else throw e) Q E s') s:=by
 refine qAA ?_;simp only [newExc,newTuple];refine qAA (qBf ?_ (by size_fits));refine qAA (m:=firstArgMember _ _) (wpAny_of_eq (a:=Value.none) (by first| rfl| (simp only [firstArgMember];rfl)) ?_);refine qBf ?_ (by size_fits);simp only [raiseNew];refine qAA (wpAny_handled ?_);rw [show A.in1.handled=none from hh];refine qAA (qAD (wpAny_throw ?_));refine qAA (qDM (T:= "StopIteration") (b:=true) ⟨_,qAb _ rfl,rfl⟩ isSubtype_stop ?_);exact qAD (q _ fun b o y=>qAJ _ (qAJ _ y))
theorem key_end {it d:Addr} {i n:Nat} {es:Array DictEntry} {Q:Option Value->Shared->Prop} (hh:A.handled=none) (hit:s.heap.IsKeyIter it d i n ep) (o1:s.heap.get? d=some od) (o2:od.data= .dict es ep) (hn:es.size=n) (he:n<=i)
  (q:∀h',Heap.ExtBut it s.heap h'->Q none {s with heap:=h'}):wpAny (model P w) A (pyNext (.ref it)) Q E s:=by
 obtain ⟨o,ho,hc,hd⟩:=id hit;have ty:=hit.typeIs;have en:es[i]?=none:=qDp (by lia);have ni:¬((i:Int)<0):=by lia
 unfold pyNext;refine qAA (qB7 (qDK (name:=Str.ofString "__next__") ty qC0 (qBw qC0 ty F.entry_dict_keyiterator_next ?_ (F.args_dict_keyiterator_next_1 _))));refine qAA (qAD (qAA (qAA ?_)))
 first| refine qAA (qDY ty (qAD ?_))| refine qAA (qDZ ty (qAD ?_))
 refine qAA (qDL ho hd ?_);have own:Builtin.Dict_items.ownsTuple "dict_keyiterator" = false:=by decide
 simp only [own,qBl,qBG];show wpAny _ _ (if (Value.ref d==Value.none)=true then _ else _) _ _ _;refine qBM (fun z=>absurd z qAm) fun _=>qAA (qAD (qAA (wpAny_dictEntries o1 o2 ?_)));refine qBM (fun z=>absurd z (by rw [hn];simp)) fun _=>qAA (qAD (qAA (wpAny_dictEpoch o1 o2 ?_)));refine qBM (fun z=>absurd z (by simp)) fun _=>qAD ?_;simp only [ni,qBG,qCY,en];refine qAA ?_
 first| refine qAA (qDY ty (qAD ?_))| refine qAA (qDZ ty (qAD ?_))
 refine qAA (show wpAny _ _ (setField (.ref it) 0 .none) _ _ s from qBR ho hd (by simp) ?_);exact stopped (s:={s with heap:=s.heap.update it (Obj.mapFields (·.setIfInBounds 0 .none))}) hh fun h' k=>q h' fun b o nb y=>k b o ((qAj ..).extBut b o nb y)
end
section
variable {P:Program} {w:World} {A:Around} {E:Value->Shared->Prop} {s:Shared}
theorem keys_iter {d:Addr} {es:Array DictEntry} {Q:Value->Shared->Prop} (hd:(d==sysModules)=false) (o1:s.heap.get? d=some od) (c1:od.cls= .type "dict") (o2:od.data= .dict es ep)
  (q:Q (.ref s.heap.objs.size) {s with heap:=s.heap.push {cls:=.type "dict_keyiterator",data:=.fields #[.ref d,.int 0 0,.int es.size 0,.int ep 0]}}):wpAny (model P w) A (pyIter (.ref d)) Q E s:=by
 have ty:s.TypeIs (.ref d) "dict" := ⟨_,o1,c1⟩;refine wpAny_pyIter_slot ty F.slot_dict_iter (qBw F.slot_dict_iter ty F.entry_dict_iter ?_ (F.args_dict_iter_1 _));unfold Builtin.«dict.__iter__»;refine qAA ?_;unfold Builtin.Dict.dictSlotNone;refine qAA (wpAny_notOrdered_dict ty (show wpAny _ _ (pure (Value.ref d)) _ _ s from qAD ?_));show wpAny _ _ (Builtin.Dict.showsAll d >>= _) _ _ s;unfold Builtin.Dict.showsAll;rw [qAB (by rw [hd];exact qAm)];refine qAA (qAD (qAA (wpAny_dictEntries o1 o2 (qAA (wpAny_dictEpoch o1 o2 ?_)))));refine qAA (qBf (qAD ⟨_,rfl, "dict_keyiterator",_,⟨_,qAb _ rfl,rfl⟩,qC0.lookup,?_⟩));simpa [rawInt] using q
end
end RV3
namespace L2
open PySem PySem.Spec PyProof.Rows
end L2
namespace L2
open PySem PySem.Spec PyProof.Rows PySem.W
section
variable {X:Cx} {pins:List (Addr×Obj)} {s:Shared} {σ:St} {H:Hp}
theorem dT_at {a:Addr} {kvs:List (List Key×V)} (I:Inv X pins σ H s) (e:H a=some (.dT kvs)) :
  ∃(o:Obj) (es:Array DictEntry) (ep:Nat),o.data= .dict es ep/\es.size=kvs.length/\(a==sysModules)=false/\s.heap.get? a=some o/\o.cls= .type "dict" /\∀(i:Nat) (k:List Key) (v:V),kvs[i]?=some (k,v)->∃(en:DictEntry) (b:Addr),es[i]?=some en/\en.key=Value.ref b/\H b=some (.tup (k.map kV)):=by
 obtain ⟨z,hd,xs,rel,o1,es,ep,y1,y2,y3,y4,y5⟩:zAs X.prog X.w H s.heap a (.dT kvs):=I.hok a _ e;have l1:kvs.length=xs.length:=qBy rel;have l2:es.toList.length=xs.length:=by rw [y4,qAE]
 refine ⟨o1,es,ep,y3,by simp only [qBC] at l2;lia,hd,y1,y2.1,fun i k v ek=>?_⟩;have hi:i<xs.length:=by have:=(qAd.mp ek).1;lia
 have key:∀{l:List (List Key×V)} {m:List (List Key×Addr×Value)},KT H l m->∀(i:Nat) (k:List Key) (v:V),l[i]?=some (k,v)->∃q,m[i]?=some q/\k=q.1/\H q.2.1=some (.tup (k.map kV))/\RelV v q.2.2:=by
  intro l m r
  induction r with
  | nil=>intro i k v h;simp at h
  | @cons p q ps qs h t ih =>
   intro i k v hk
   cases i with
   | zero =>
    have:p=(k,v):=by simpa using hk
    subst this;exact ⟨q,rfl,h⟩
   | succ i=>exact ih i k v (by simpa using hk)
 obtain ⟨q,eq,h1,h2,h3⟩:=key rel i k v ek
 have ee:es[i]?=some (entryOfKey (tupleKind (zA5 X.prog X.w)) q):=by
  rw [<-qAo,y4,qAW,eq];rfl
 exact ⟨_,q.2.1,ee,rfl,h2⟩
theorem kdl_raw {P:Program} {w:World} {d:Addr} {o:Obj} {es:Array DictEntry} {ep:Nat} (lo:(d==sysModules)=false) (hc:o.cls= .type "dict") (hd:o.data= .dict es ep) :
  KdlSrc P w "dict" d d es.size (fun i v=>∃en,es[i]?=some en/\v=en.key) (fun h=>h.get? d=some o) where
 type:=fun s hm=>⟨_,hm,hc⟩
 there:=fun h hm=>⟨qAL hm,qAL hm⟩
 keep:=fun h h' hm hk=>hk d (.inl rfl) o hm
 notList:=by decide
 notTuple:=by decide
 hint:=fun _ _ _ _ hm hq=>kdl_hint_dict ⟨_,hm,hc⟩ hq
 iter:=fun A s hh hm=>by
  refine ⟨_,fun i h=>h.IsKeyIter s.heap.objs.size d i es.size ep/\h.get? d=some o,fun E Q hq=>RV3.keys_iter lo hm hc hd hq,?_,⟨⟨_,qAb _ rfl,rfl,rfl⟩,qAJ _ hm⟩⟩;have hne:d≠s.heap.objs.size:=qAZ (qAL hm)
  exact {
   sub:=fun b hb=>by simp at hb;simp [hb]
   frame:=fun _ _ _ st hk=>⟨st.1.at fun o e=>hk _ (by simp) o e,hk d (by simp) o st.2⟩
   item:=fun i s' Q E hi st hQ=>by
    have he:es[i]?=some es[i]:=qB9 hi;exact RV3.key_next st.1 st.2 hd rfl he fun h' st' sb=>hQ _ h' s'.toks ⟨_,he,rfl⟩ ⟨st',sb.extBut d o hne st.2⟩ fun b o hb e=>sb.extBut b o (fun h=>hb (by simp [h])) e
   done:=fun s' Q E st hQ=>RV3.key_end hh st.1 st.2 hd rfl (qAG _) fun h' eb=>hQ h' s'.toks fun b o hb e=>eb b o (fun h=>hb (by simp [h])) e
   self:=fun _ _ _ _ st hQ=>wpAny_pyIter_keyiter st.1 hQ}
def kT (L:List (List Str)):List (List Key):=L.map fun r=>r.map (Sum.inr:Str->Key)
theorem zJb {k:Nat} (hr:Room k X.A):zC5 X (.builtin "sorted") (fun xs H Q=>∃(a:Addr) (L:List (List Str)) (kvs:List (List Key×V)),xs=[.ref a]/\H a=some (.dT kvs)/\kvs.map (·.1)=kT L/\(∀r∈L,r≠[])/\L.length<=306 /\
  ∀(b:Addr) (zs:List (List Str×Addr)),H b=none->(zs.map (·.1)).Perm L->(∀q∈zs,H q.2=some (.tup (q.1.map V.str)))->Q (.ref b) (upd H b (.lst (zs.map fun p=>V.ref p.2)))):=by
 intro pins s σ H xs us Q I r h;obtain ⟨a,L,kvs,rfl,ha,hk,hne,hc,q⟩:=h;obtain ⟨u,rfl,rx⟩:=zHu r
 cases rx
 obtain ⟨o,es,ep,hd,sz,lo,hget,hcl,en⟩:=dT_at I ha;have lk:kvs.length=L.length:=by have:=qAf List.length hk;simpa [kT] using this
 obtain ⟨ys,y1,y2,y3⟩:∃ys:List (List Str×Addr),ys.map (·.1)=L/\(∀(i:Nat) (v:Value),(∃en,es[i]?=some en/\v=en.key)->∃q,ys[i]?=some q/\v= .ref q.2)/\∀q∈ys,H q.2=some (.tup (q.1.map V.str)):=by
  have at':∀i:Nat,∃b:Addr,∀hi:i<L.length,∃en:DictEntry,es[i]?=some en/\en.key=Value.ref b/\H b=some (.tup ((L[i]).map V.str)):=fun i=>by
   by_cases hi:i<L.length
   ·obtain ⟨e,b,z1,z2,z3⟩:=en i _ _ (show kvs[i]?=some ((kvs[i]'(by lia)).1,(kvs[i]'(by lia)).2) from qAh (by lia))
    have ek:(kvs[i]'(by lia)).1=(L[i]).map (Sum.inr:Str->Key):=by
     have h1:(kvs.map (·.1))[i]?=some (kvs[i]'(by lia)).1:=by rw [qAW,qAh (by lia)];rfl
     have h2:(kT L)[i]?=some ((L[i]).map (Sum.inr:Str->Key)):=by unfold kT;rw [qAW,qAh hi];rfl
     rw [hk,h2] at h1;exact (qAa h1).symm
    rw [ek,qA1] at z3;exact ⟨b,fun _=>⟨e,z1,z2,z3⟩⟩
   ·exact ⟨0,fun h=>absurd h hi⟩
  refine ⟨L.mapIdx fun i r=>(r,Classical.choose (at' i)),?_,fun i v hv=>?_,fun q hq=>?_⟩
  ·exact List.ext_getElem (by simp) fun i h1 h2=>by simp
  ·obtain ⟨e,e1,rfl⟩:=hv
   have hi:i<L.length:=by
    have:=(qBg.mp e1).1;lia
   refine ⟨(L[i],Classical.choose (at' i)),by rw [List.getElem?_mapIdx,qAh hi];rfl,?_⟩;obtain ⟨e',z1,z2,_⟩:=Classical.choose_spec (at' i) hi;rw [e1] at z1
   cases z1
   exact z2
  ·obtain ⟨i,hi,rfl⟩:=List.mem_mapIdx.mp hq;obtain ⟨_,_,_,z3⟩:=Classical.choose_spec (at' i) hi;exact z3
 have ly:ys.length=L.length:=by rw [<-y1,qAE]
 have hrow:∀p∈ys,RowT X.K H p:=fun p hp=>SqT.of (y3 p hp)
 refine ST.w_sortedCP (kd:=tuples' true) (κ:=ST.tupK fun b=>(ys.find? fun p=>p.2==b).map (·.1))
  (J:=fun vs s1=>vs.Perm (ys.map fun p=>Value.ref p.2)/\(∀b o,s.heap.get? b=some o->s1.heap.get? b=some o)/\s1.gens=s.gens/\s1.os=s.os)
  (kdu_collect (A:=X.A.in1) (kdl_raw lo hcl hd) hr.hd hget (by rw [sz,lk,qAK];lia) fun h' tk acc up it=>⟨?_,up,rfl,rfl⟩) fun vs s1 ⟨v1,v2,v3,v4⟩=>?_
 ·obtain ⟨i1,i2⟩:=it
  have e:acc.toList=ys.map fun p=>Value.ref p.2:=by
   refine qDO fun i=>?_
   by_cases hi:i<acc.size
   ·obtain ⟨q,q1,q2⟩:=y2 i _ (i2 i _ (qB9 hi));rw [qAW,q1,qAo,qB9 hi,q2];rfl
   ·rw [qCi (by simp;lia),qCi (by simp;lia)]
  rw [e]
 have hvl:vs.length=ys.length:=by rw [v1.length_eq,qAE]
 refine ⟨by lia,fun h' up=>ST.tups_sortable v1 (fun p hp=>ST.key_kept (I.rowT (hrow p hp)) fun o e=>up _ o (v2 _ o e)) (fun p hp=>hne _ (y1▸qAH.mpr ⟨p,hp,rfl⟩)),fun out c h' p1 p3 up=>?_⟩;obtain ⟨zs,e1,e2⟩:=perm_back _ (p1.trans v1);subst e2;have I1:Inv X pins σ H s1:=I.call' (ch:=[]) v4 (Un.kept v2) (I.hok.kept v2) (by rw [v3];exact I.bare) (fun _ z=>nomatch z)
 have hz:(zs.map fun p=>V.ref p.2).length<=sizeLine:=by
  rw [qAE,e1.length_eq,ly];exact qAX hc (by decide +kernel)
 exact ⟨.ref s1.heap.objs.size,_,I1.laid (t':=s1.toks) up (qAG _) (show zAs X.prog X.w _ h' _ (.lst (zs.map fun p=>V.ref p.2)) from ⟨hz,_,c,zG0 zs,p3⟩),rfl,q _ zs (I1.hok.fresh (qAG _)) (y1▸e1.map _) fun p hp=>y3 p (e1.mem_iff.mp hp)⟩
theorem flat_items2 {A:Around} {s:Shared} {xs ys:List V} {its its2:List Value} (r:Vals xs its) (r2:Vals ys its2) (fx:xs.all zDd=true) (fy:ys.all zDd=true) :
  ∀j (h1:j<its.toArray.size) (h2:j<its2.toArray.size),SeqAt.EqAt A s its.toArray[j] its2.toArray[j] (eqV (xs.getD j .non) (ys.getD j .non)):=fun j h1 h2=>by
 have e1:=r.length;have e2:=r2.length;rw [qAM] at h1 h2;have t1:Vals (xs.take (min xs.length ys.length)) (its.take (min xs.length ys.length)):=r.take _;have t2:Vals (ys.take (min xs.length ys.length)) (its2.take (min xs.length ys.length)):=r2.take _;have hj:j<min xs.length ys.length:=by lia
 have:=zIk (A:=A) (s:=s) t1 t2 (qAx.mpr fun v hv=>qAx.mp fx v (qBi hv)) (qAx.mpr fun v hv=>qAx.mp fy v (qBi hv)) (by simp) j (by simp;lia) (by simp;lia);have g1:xs.getD j .non=xs[j]'(by lia):=by rw [qA0,qAh (by lia)];rfl
 have g2:ys.getD j .non=ys[j]'(by lia):=by rw [qA0,qAh (by lia)];rfl
 rw [g1,g2];simpa [List.getElem?_take,hj] using this
theorem tup_eqAt (I:Inv X pins σ H s) {a b:Addr} {as bs:List Str} (hx:H a=some (.tup (as.map V.str))) (hy:H b=some (.tup (bs.map V.str))) {A:Around} (hu:A.units<cLine):SeqAt.EqAt A s (.ref a) (.ref b) (decide (as=bs)):=by
 obtain ⟨its,r,pl,hz⟩:=I.tuple (SqT.of hx);obtain ⟨its2,r2,pl2,hz2⟩:=I.tuple (SqT.of hy);have e1:=r.length;have e2:=r2.length;rw [qAE] at e1 e2
 by_cases ab:a=b
 ·subst ab
  have:as=bs:=by
   rw [hx] at hy;exact List.map_inj_right (f:=V.str) (fun x y h=>V.str.inj h) |>.mp (HO.tup.inj (qAa hy))
  rw [qAV this];exact qCZ _
 ·have q:=SeqAt.RcAt.tuples (A:=A) (s:=s) (e:=fun j=>eqV ((as.map V.str).getD j .non) ((bs.map V.str).getD j .non)) (show s.heap.IsTuple a its.toArray from pl) (show s.heap.IsTuple b its2.toArray from pl2) hu (flat_items2 r r2 (flatS as) (flatS bs));rw [qAM,qAM,<-e1,<-e2] at q
  by_cases hl:as.length=bs.length
  ·rw [<-hl,qCw,strs_all as bs hl,beq_self_eq_true,Bool.and_true] at q;exact qC9 ab q
  ·rw [show (as.length==bs.length)=false from qA8.mpr hl,Bool.and_false] at q;rw [qAl fun z=>hl (by rw [z])];exact qC9 ab q
def rTupNotIn (K:PySem.W.Frag):R2:=fun x y H Q=>∃(a p:Addr) (as:List Str) (ks:List (List Str×Addr)),x= .ref a/\y= .ref p/\H a=some (.tup (as.map V.str))/\SqL K H p (ks.map fun q=>V.ref q.2)/\(∀q∈ks,H q.2=some (.tup (q.1.map V.str)))/\Q (.bl (!decide (as∈ks.map (·.1)))) H
open Classical in
theorem op_notIn_tup {k:Nat} (hr:Room k X.A):OpR X (compareOp .NotIn) (rTupNotIn X.K):=by
 intro pins s σ H x y v u Q I rx ry h;obtain ⟨a,p,as,ks,rfl,rfl,ha,hq,hk,q⟩:=h
 cases rx
 cases ry
 obtain ⟨its,r,pl,hz⟩:=I.list hq
 have ei:∀q∈ks,decide (∃q'∈ks,Value.ref q.2=Value.ref q'.2/\q'.1=as)=decide (q.1=as):=fun q hq=>by
  rw [qCv];refine ⟨fun ⟨q',h1,h2,h3⟩=>?_,fun h=>⟨q,hq,rfl,h⟩⟩;have e:q.2=q'.2:=by injection h2
  have h4:=hk q hq;rw [e,hk q' h1] at h4;rw [<-h3];exact (List.map_inj_right (f:=V.str) (fun x y h=>V.str.inj h) |>.mp (HO.tup.inj (qAa h4))).symm
 refine SeqAt.notIn_listAt (fun v=>decide (∃q'∈ks,v=Value.ref q'.2/\q'.1=as)) pl.isList (fun w hw=>?_) ⟨.bl _,H,I,rfl,?_⟩
 ·obtain ⟨z,hz,rz⟩:=valsBack r w (by simpa using hw);obtain ⟨q,hq,rfl⟩:=qAH.mp hz
  cases rz
  show SeqAt.EqAt _ _ _ _ (decide (∃q'∈ks,Value.ref q.2=Value.ref q'.2/\q'.1=as));rw [ei q hq];exact tup_eqAt I (hk q hq) ha (by have:=hu2 (n:=0) hr;show X.A.units+1<cLine;lia)
 ·have e:its.toArray.any (fun v=>decide (∃q'∈ks,v=Value.ref q'.2/\q'.1=as))=decide (as∈ks.map (·.1)):=by
   rw [qBa,qBT,show its.toArray.any (fun v=>decide (∃q'∈ks,v=Value.ref q'.2/\q'.1=as))=its.any (fun v=>decide (∃q'∈ks,v=Value.ref q'.2/\q'.1=as)) by simp,qCd];constructor
   ·rintro ⟨v,hv,h⟩;obtain ⟨q',h1,_,h3⟩:=qAt h;exact qAH.mpr ⟨q',h1,h3⟩
   ·intro h;obtain ⟨q',h1,h3⟩:=qAH.mp h;obtain ⟨i,hi,e⟩:=qA4.mp h1;obtain ⟨u,e2,ru⟩:=r.get (show (ks.map fun q=>V.ref q.2)[i]?=some (V.ref q'.2) by rw [qAW,qAh hi,e];rfl)
    cases ru
    exact ⟨_,qAO e2,qAV ⟨q',h1,rfl,h3⟩⟩
  rw [e];have ed:∀i1 i2:Decidable (as∈ks.map (·.1)),@decide _ i1=@decide _ i2:=fun i1 i2=>by congr
  rw [ed _ (inferInstance)];exact q
end
end L2
namespace My
open PySem L2
variable {P:Program}{w:World}{K:PySem.W.Frag}{mg:Str->Option Value}{base:Heap}{C:Addr}
variable {J:JR}{b:Nat}{H:Hp}{fd:FuncData}{Pt Pu:Addr}
def chs:List Str->Nat->List (List Str)
 | _,0=>[[]]
 | [],_+1=>[]
 | x::L,m+1=>(chs L m).map (x::·)++chs L (m+1)
theorem zGp (L:List Str):chs L 0=[[]]:=by cases L<;>rfl
theorem chs_nil (m:Nat):chs [] (m+1)=[]:=rfl
theorem zHq:∀(L:List Str) (m:Nat),(chs L m).length<=2^L.length
 | L,0=>by rw [zGp];exact Nat.one_le_two_pow
 | [],m+1=>by rw [chs_nil];simp
 | x::L,m+1=>by
  have h1:=zHq L m;have h2:=zHq L (m+1);show ((chs L m).map (x::·)++chs L (m+1)).length<=_;rw [qAg,qAE,qAc,Nat.pow_succ];lia
theorem zFz:∀{L:List Str} {m:Nat} {C:List Str},C∈chs L m->C.Sublist L/\C.length=m
 | L,0,C,h=>by
  rw [zGp] at h;rw [qAP.mp h];exact ⟨List.nil_sublist _,rfl⟩
 | [],m+1,C,h=>by rw [chs_nil] at h;cases h
 | x::L,m+1,C,h=>by
  rcases qAU.mp (show C∈(chs L m).map (x::·)++chs L (m+1) from h) with z| z
  ·obtain ⟨D,hD,rfl⟩:=qAH.mp z;obtain ⟨h1,h2⟩:=zFz hD;exact ⟨h1.cons₂ x,by rw [qAc,h2]⟩
  ·obtain ⟨h1,h2⟩:=zFz z;exact ⟨h1.cons x,h2⟩
theorem zGq (p:Str->Bool):∀{L:List Str} {m:Nat},(L.filter p).length<=m->m<=L.length->∃C∈chs L m,∀x∈L,p x=true->x∈C
 | L,0,h,_=>⟨[],by rw [zGp];exact qAP.mpr rfl,fun x hx hp=>by
   have:x∈L.filter p:=qAS.mpr ⟨hx,hp⟩;rw [qCT.mp (Nat.le_zero.mp h)] at this
   cases this⟩
 | [],m+1,_,h=>absurd h (by simp)
 | y::L,m+1,h,h'=>by
  rw [qAc] at h'
  by_cases c:p y=true
  ·rw [qA7,qAC c,qAc] at h;obtain ⟨C,hC,hp⟩:=zGq p (L:=L) (m:=m) (by lia) (by lia);exact ⟨y::C,qAs _ (qAH.mpr ⟨C,hC,rfl⟩),fun x hx hx'=>(qAN.mp hx).elim (fun z=>z▸qAT) fun z=>qAR _ (hp x z hx')⟩
  ·rw [qA7,qAB c] at h
   by_cases c2:m+1<=L.length
   ·obtain ⟨C,hC,hp⟩:=zGq p (L:=L) (m:=m+1) h c2;exact ⟨C,qAu _ hC,fun x hx hx'=>(qAN.mp hx).elim (fun z=>absurd (z▸hx') c) fun z=>hp x z hx'⟩
   ·obtain ⟨C,hC,hp⟩:=zGq (fun _=>true) (L:=L) (m:=m) (by rw [List.filter_eq_self.mpr (fun _ _=>rfl)];lia) (by lia);exact ⟨y::C,qAs _ (qAH.mpr ⟨C,hC,rfl⟩),fun x hx _=>(qAN.mp hx).elim (fun z=>z▸qAT) fun z=>qAR _ (hp x z rfl)⟩
def lft (J:JR) (A:List Str):List Str:=J.ns.filter fun n=>decide (n∉A)
def rdy (J:JR) (A:List Str):List Str:=(lft J A).filter fun n=>!((lft J A).any fun x=>decide (x∈J.S n))
theorem zHc {A:List Str} {n:Str}:n∈lft J A↔n∈J.ns/\n∉A:=by
 unfold lft;rw [qAS,qBT]
theorem mem_rdy {A:List Str} {n:Str} (sub:∀n∈J.ns,∀x∈J.S n,x∈J.ns):n∈rdy J A↔n∈J.ns/\n∉A/\∀x∈J.S n,x∈A:=by
 unfold rdy;rw [qAS,zHc];constructor
 ·rintro ⟨⟨h1,h2⟩,h3⟩;refine ⟨h1,h2,fun x hx=>?_⟩
  by_cases c:x∈A
  ·exact c
  ·have:(lft J A).any (fun x=>decide (x∈J.S n))=true:=qCd.mpr ⟨x,zHc.mpr ⟨sub n h1 x hx,c⟩,qAV hx⟩;rw [this] at h3;cases h3
 ·rintro ⟨h1,h2,h3⟩;refine ⟨⟨h1,h2⟩,?_⟩
  have:(lft J A).any (fun x=>decide (x∈J.S n))=false:=by
   rw [Bool.eq_false_iff];intro z;obtain ⟨x,hx,hs⟩:=qCd.mp z;exact (zHc.mp hx).2 (h3 x (qAt hs))
  rw [this];rfl
structure Don (J:JR) (b t:Nat) (A:List Str):Prop where
 sub:∀n∈A,n∈J.ns
 nd:A.Nodup
 pl:∃f:Str->Nat,(∀n∈A,f n<t/\∀x∈J.S n,x∈A/\f x<f n)/\∀u,(A.filter fun x=>decide (f x=u)).length<=b
structure Lev (J:JR) (b t:Nat) (Ls:List (List Str)):Prop where
 don:∀A∈Ls,Don J b t A
 srt:∀A∈Ls,zEn A
 dom:∀m g,PlF J b m g->∃A∈Ls,∀n∈J.ns,g n<t->n∈A
def mny (J:JR) (b:Nat) (A:List Str):Nat:=min (rdy J A).length b
theorem Don.step {t:Nat} {A A' C:List Str} (sub:∀n∈J.ns,∀x∈J.S n,x∈J.ns) (nd:J.ns.Nodup) (D:Don J b t A) (hC:C∈chs (rdy J A) (mny J b A)) (pm:A'.Perm (A++C)):Don J b (t+1) A':=by
 obtain ⟨sC,lC⟩:=zFz hC;have rC:∀n∈C,n∈J.ns/\n∉A/\∀x∈J.S n,x∈A:=fun n hn=>(mem_rdy sub).mp (sC.subset hn);have ndr:(rdy J A).Nodup:=(nd.filter _).filter _;have ndC:C.Nodup:=ndr.sublist sC;obtain ⟨f,f1,f2⟩:=D.pl;have mem:∀n,n∈A'↔n∈A\/n∈C:=fun n=>by rw [pm.mem_iff,qAU]
 refine ⟨fun n hn=>((mem n).mp hn).elim (D.sub n) fun z=>(rC n z).1,pm.nodup_iff.mpr (qBj.mpr ⟨D.nd,ndC,fun a ha c hc z=>(rC c hc).2.1 (z▸ha)⟩),fun n=>if n∈C then t else f n,fun n hn=>?_,fun u=>?_⟩
 ·rcases (mem n).mp hn with z| z
  ·have nc:n∉C:=fun y=>(rC n y).2.1 z;obtain ⟨h1,h2⟩:=f1 n z;show (if n∈C then t else f n)<t+1/\∀x∈J.S n,x∈A'/\(if x∈C then t else f x)<if n∈C then t else f n;rw [qAB nc];refine ⟨by lia,fun x hx=>?_⟩;obtain ⟨h3,h4⟩:=h2 x hx;rw [qAB fun y=>(rC x y).2.1 h3];exact ⟨(mem x).mpr (.inl h3),h4⟩
  ·show (if n∈C then t else f n)<t+1/\∀x∈J.S n,x∈A'/\(if x∈C then t else f x)<if n∈C then t else f n;rw [qAC z];refine ⟨by lia,fun x hx=>?_⟩;have h3:=(rC n z).2.2 x hx;rw [qAB fun y=>(rC x y).2.1 h3];exact ⟨(mem x).mpr (.inl h3),(f1 x h3).1⟩
 ·rw [(pm.filter _).length_eq,qBx,qAg]
  by_cases c:u=t
  ·subst c
   have e1:A.filter (fun x=>decide ((if x∈C then u else f x)=u))=[]:=qDX.mpr fun x hx=>by
    rw [qAB fun y=>(rC x y).2.1 hx,qBT];have:=(f1 x hx).1;lia
   rw [e1];have h2:C.length<=b:=by rw [lC];exact Nat.min_le_right _ _
   rw [qBW,qDA];exact qAX (qAy _ _) h2
  ·have e2:C.filter (fun x=>decide ((if x∈C then t else f x)=u))=[]:=qDX.mpr fun x hx=>by
    rw [qAC hx,qBT];lia
   have e1:A.filter (fun x=>decide ((if x∈C then t else f x)=u))=A.filter fun x=>decide (f x=u):=qCq fun x hx=>by
    rw [qAB fun y=>(rC x y).2.1 hx]
   rw [e1,e2];exact f2 u
theorem Lev.zero (J:JR) (b:Nat):Lev J b 0 [[]] :=
 ⟨fun A h=>by rw [qAP.mp h];exact ⟨fun n h=>(nomatch h),qAw,fun _=>0,fun n h=>(nomatch h),fun u=>qAY _⟩,fun A h=>by rw [qAP.mp h];exact List.Pairwise.nil,fun m g _=>⟨[],qAP.mpr rfl,fun n _ h=>absurd h (qBu _)⟩⟩
theorem Lev.step {t:Nat} {Ls Ls':List (List Str)} (sub:∀n∈J.ns,∀x∈J.S n,x∈J.ns) (nd:J.ns.Nodup) (V:Lev J b t Ls) (h1:∀A'∈Ls',zEn A'/\∃A∈Ls,∃C∈chs (rdy J A) (mny J b A),A'.Perm (A++C)) (h2:∀A∈Ls,∀C∈chs (rdy J A) (mny J b A),∃A'∈Ls',A'.Perm (A++C)):Lev J b (t+1) Ls':=by
 refine ⟨fun A' hA'=>?_,fun A' hA'=>(h1 A' hA').1,fun m g G=>?_⟩
 ·obtain ⟨_,A,hA,C,hC,pm⟩:=h1 A' hA';exact (V.don A hA).step sub nd hC pm
 ·obtain ⟨A,hA,hd⟩:=V.dom m g G;have rd:∀n∈J.ns,n∉A->g n=t->n∈rdy J A:=fun n hn ha hg=>(mem_rdy sub).mpr ⟨hn,ha,fun x hx=>hd x (sub n hn x hx) (by have:=G.od n hn x hx;lia)⟩
  have few:((rdy J A).filter fun x=>decide (g x=t)).length<=mny J b A:=by
   refine Nat.le_min.mpr ⟨qAy _ _,qAX ?_ (G.few t)⟩;have s1:((rdy J A).filter fun x=>decide (g x=t)).Sublist (J.ns.filter fun x=>decide (g x=t)):=(qBA.trans qBA).filter _;exact s1.length_le
  obtain ⟨C,hC,hp⟩:=zGq (fun x=>decide (g x=t)) few (Nat.min_le_left _ _);obtain ⟨A',hA',pm⟩:=h2 A hA C hC;refine ⟨A',hA',fun n hn hg=>?_⟩;rw [pm.mem_iff,qAU]
  by_cases c:n∈A
  ·exact .inl c
  ·by_cases c2:g n<t
   ·exact .inl (hd n hn c2)
   ·exact .inr (hp n (rd n hn c (by lia)) (qAV (by lia)))
theorem Lev.full {t:Nat} {Ls:List (List Str)} {F:List Str} {g:Str->Nat} {m:Nat} (V:Lev J b t Ls) (nd:J.ns.Nodup) (pF:F.Perm J.ns) (rF:zEn F) (uq:∀A B:List Str,A.Perm B->zEn A->zEn B->A=B) (G:PlF J b m g) (h:m<=t):F∈Ls:=by
 obtain ⟨A,hA,hd⟩:=V.dom m g G;have D:=V.don A hA;have pm:A.Perm J.ns:=(qDE D.nd nd).mpr fun n=>⟨D.sub n,fun hn=>hd n hn (qAp (G.lt n hn) h)⟩;rw [uq F A (pF.trans pm.symm) rF (V.srt A hA)];exact hA
theorem Lev.plan {t:Nat} {Ls:List (List Str)} {F:List Str} (V:Lev J b t Ls) (pF:F.Perm J.ns) (h:F∈Ls):∃f,PlF J b t f:=by
 obtain ⟨f,f1,f2⟩:=(V.don F h).pl;exact ⟨f,fun n hn x hx=>((f1 n (pF.mem_iff.mpr hn)).2 x hx).2,fun u=>by rw [<-(pF.filter _).length_eq];exact f2 u,fun n hn=>(f1 n (pF.mem_iff.mpr hn)).1⟩
theorem rdy_ne {b t:Nat} {A:List Str} {r:Str->Nat} (sub:∀n∈J.ns,∀x∈J.S n,x∈J.ns) (rk:∀n∈J.ns,∀x∈J.S n,r x<r n) (h:∃n∈J.ns,n∉A):rdy J A≠[]:=by
 obtain ⟨n,hn,ha⟩:=h
 suffices key:∀(k:Nat) (n:Str),r n<k->n∈J.ns->n∉A->∃m,m∈rdy J A by
  obtain ⟨m,hm⟩:=key (r n+1) n (by lia) hn ha;exact List.ne_nil_of_mem hm
 intro k
 induction k with
 | zero=>intro n h;lia
 | succ k ih =>
  intro n hk hn ha
  by_cases c:∀x∈J.S n,x∈A
  ·exact ⟨n,(mem_rdy sub).mpr ⟨hn,ha,c⟩⟩
  ·obtain ⟨x,hx⟩:=Classical.not_forall.mp c;obtain ⟨h1,h2⟩:=Classical.not_imp.mp hx;exact ih x (by have:=rk n hn x h1;lia) (sub n hn x h1) h2
structure LsR (H:Hp) (c:Addr) (ks:List (List Str×Addr)):Prop where
 top:H c=some (.lst (ks.map fun q=>V.ref q.2))
 row:∀q∈ks,H q.2=some (.lst (q.1.map V.str))
theorem LsR.kp0 {H':Hp} {c:Addr} {ks:List (List Str×Addr)} (R:LsR H c ks) (k:Kp [] H H'):LsR H' c ks:=⟨k _ _ R.top (by simp),fun q hq=>k _ _ (R.row q hq) (by simp)⟩
section
def zEt (m:Nat):Sp:=fun vs H Q _=>∃(l:Addr) (L:List Str) (k:Nat),vs=[.ref l,.int k]/\Txs H l L/\L.length<=7/\k<m/\∀(c:Addr) (ks:List (List Str×Addr)) (H':Hp),Fre H c->(∀q∈ks,Fre H q.2/\q.2≠c)->LsR H' c ks->ks.map (·.1)=chs L k->Kp [] H H'->Q (.ref c) H'
abbrev zE0:Stmt:=top 55
theorem zD0:FnScope ["_law_some", "_law_many", "_law_found", "_law_k", "_law_rest"] ["_law_some", "_law_many"] (zAd zE0):=fnS
theorem choices_step {f:Addr} (F:Fun K "_law_choices" "_law_choices" zE0 f fd) (T:Txt K mg) (m:Nat) (C_choices:Cal P w K mg base "_law_choices" m ["_law_some", "_law_many"] (zEt m)):FnOk P w K mg base CX0 (m+1) f fd ["_law_some", "_law_many"] (zEt (m+1)):=by
 refine F.ok zD0 (fun vs H Q E h=>?_) (fun cdv A outer s H vs Q E hr h=>?_)
 ·obtain ⟨l,L,k,rfl,_⟩:=h;rfl
 ·obtain ⟨l,L,k,rfl,hl,few,hk,kk⟩:=h
  refine ⟨_,(zAc (zCz (zAz zIy (pv 1) zAg (zA8 _)) (zAe (zAm (zBp (zAa (zBp zAb) zAb)))) zAw)
   (zAc (psS (i:=2) zD0.nd (zBp zAb))
   (zAc (zA1 qAk rfl (zB1 rfl T.z_range (zAa (zAi zAl (by rfl) T.z_len zCo (zAa (pv 0) zAb)) zAb)) (pgN (i:=3) zD0.nd)
    (zAe (zA1 qAk rfl (zAj (zAf C_choices hr rfl (zAa (pe_slice sl_list (pv 0) (po_some (zAr zBx (pv 3) zAg)) po_none) (zAa (zAr zG4 (pv 1) zAg) zAb)))) (pgN (i:=4) zD0.nd)
     (zAe (zAu (zFr qBH qCC qCD zB2 (pv 2) (zAa (zAr op_cat (zBp (zAa (zDc zB9 (pv 0) (pv 3) (fun _ _=>rfl)) zAb)) (pv 4)) zAb)))))))
   (zAe (zAm (pv 2)))))),?_⟩
  refine ⟨_,rfl,rfl,_,rfl,ite2 (fun c=>?_) (fun c=>?_)⟩
  ·have c:(V.int (k:Int))=V.int 0:=by simpa using c
   have k0:k=0:=by injection c with c;lia
   subst k0;refine ⟨(by walk_at "ln"),fun e he=>?_⟩;have fe:Fre H e:=he;have k1:Kp [] H (upd H e (.lst [])):=Kp.new Kp.refl fe;have e1:upd H e (.lst []) e=some (.lst (([]:List Str).map V.str)):=upd_same;generalize upd H e (.lst [])=H1 at k1 e1;refine ⟨(by walk_at "ln"),fun c hc=>?_⟩;have fc:Fre H1 c:=hc;have nec:e≠c:=ne_fre fc e1;refine kk c [([],e)] _ (k1.fre fc (by simp)) (fun q hq=>by rw [qAP.mp hq];exact ⟨fe,nec⟩) ⟨upd_same,fun q hq=>by rw [qAP.mp hq];exact (upd_ne nec).trans e1⟩ (zGp L).symm (k1.trans (Kp.new Kp.refl fc))
  ·obtain ⟨k,rfl⟩:∃k',k=k'+1:=⟨k - 1,by
    have:k≠0:=fun z=>c (by rw [z];rfl);lia⟩
   refine ⟨(by walk_at "ln"),fun c0 hc0=>?_⟩;have f0:Fre H c0:=hc0;have k1:Kp [] H (upd H c0 (.lst [])):=Kp.new Kp.refl f0;have e1:upd H c0 (.lst []) c0=some (.lst []):=upd_same;generalize upd H c0 (.lst [])=H1 at k1 e1;have hl1:Txs H1 l L:=k1 _ _ hl (by simp);have nlc:l≠c0:=ne_fre f0 hl;refine ⟨_,rfl,_,_,rfl,.inl (SqL.of hl1),_,rfl,by lia,by rw [qAE];lia,?_⟩;rw [qAE,qCY];refine zBr (lo:=0) (n:=L.length) (fun i σ H2=>∃(o3 o4:Option V) (ks:List (List Str×Addr)),σ=[some (.ref l),some (.int ((k+1:Nat):Int)),some (.ref c0),o3,o4]/\Kp [] H H2/\LsR H2 c0 ks/\(∀q∈ks,Fre H q.2/\q.2≠c0)/\ks.map (·.1)++chs (L.drop i) (k+1)=chs L (k+1)) ⟨_,_,[],rfl,k1,⟨e1,fun q h=>nomatch h⟩,(fun q h=>nomatch h),by rw [List.drop_zero];rfl⟩ ?_ ?_
   ·rintro i σ H2 hi ⟨o3,o4,ks,rfl,k2,R2,fr,ek⟩;have hl2:Txs H2 l L:=k2 _ _ hl (by simp);obtain ⟨x,ex⟩:∃x,L[i]?=some x:=⟨_,qAh hi⟩
    have ed:L.drop i=x::L.drop (i+1):=by
     rw [List.drop_eq_getElem_cons hi];congr 1;rw [qAh hi] at ex;exact qAa ex
    refine ⟨_,rfl,_,rfl,_,_,rfl,rfl,_,rfl,_,_,rfl,SqL.of hl2,fun (sl:Addr) hsl=>?_⟩
    have e3:cutV (L.map V.str) (some (0+(i:Int)+1)) none=(L.drop (i+1)).map V.str:=by
     rw [cut_from _ (by lia),show (0+(i:Int)+1).toNat=i+1 by lia,qDH]
    rw [e3];have k3:Kp [] H2 (upd H2 sl (.lst ((L.drop (i+1)).map V.str))):=Kp.new Kp.refl hsl;have h3:Txs (upd H2 sl (.lst ((L.drop (i+1)).map V.str))) sl (L.drop (i+1)):=upd_same;generalize upd H2 sl (.lst ((L.drop (i+1)).map V.str))=H3 at k3 h3;refine ⟨_,rfl,_,_,rfl,rfl,sl,L.drop (i+1),k,?_,h3,by rw [qBV];lia,by lia,fun c1 js H4 fc1 fj R4 ej k4=>?_⟩
    ·show [V.ref sl,V.int (((k+1:Nat):Int) - 1)]=_;rw [show ((k+1:Nat):Int) - 1=(k:Int) by lia]
    have k34:=k3.trans k4;have n10:c1≠c0:=(ne_fre fc1 (k3 _ _ R2.top (by simp))).symm;have f1H:Fre H c1:=(k2.trans k3).fre fc1 (by simp);have jn0:∀q∈js,q.2≠c0:=fun q hq=>(ne_fre (fj q hq).1 (k3 _ _ R2.top (by simp))).symm;refine ⟨_,rfl,⟨_,SqL.of R4.top⟩,zAy (xs:=js.map fun q=>V.ref q.2) (fun j σ H5=>∃(o4:Option V) (hs:List (List Str×Addr)),σ=[some (.ref l),some (.int ((k+1:Nat):Int)),some (.ref c0),some (.int (0+(i:Int))),o4]/\Kp [] H H5/\LsR H5 c1 js/\LsR H5 c0 (ks++hs)/\(∀q∈hs,Fre H q.2/\q.2≠c0)/\hs.map (·.1)=((chs (L.drop (i+1)) k).take j).map (x::·)) ⟨_,[],rfl,k2.trans k34,R4,by rw [qBI];exact R2.kp0 k34,(fun q h=>nomatch h),by rw [qCp];rfl⟩ (fun j σ H5 _ ⟨_,_,_,_,R5,_⟩=>SqL.of R5.top) ?_ ?_⟩
    ·rintro j v σ H5 hv ⟨o4,hs,rfl,k5,R5,S5,fh,eh⟩
     obtain ⟨q,eq,rfl⟩:∃q,js[j]?=some q/\V.ref q.2=v:=by
      rw [qAW] at hv;exact qA6.mp hv
     have mq:=qAO eq;have hl5:Txs H5 l L:=k5 _ _ hl (by simp);refine ⟨_,rfl,.inl ⟨rfl,_,SqL.of S5.top⟩,_,rfl,_,rfl,_,_,_,_,rfl,rfl,SqL.of hl5,zFk (v:=.str x) (by lia) (by rw [qAW,show (0+(i:Int)).toNat=i by lia,ex];rfl),?_⟩;refine ⟨(by walk_at "ln"),fun e he=>?_⟩;have fe:Fre H5 e:=he;have k6:Kp [] H5 (upd H5 e (.lst [.str x])):=Kp.new Kp.refl fe;have e6:upd H5 e (.lst [.str x]) e=some (.lst [.str x]):=upd_same;generalize upd H5 e (.lst [.str x])=H6 at k6 e6;have hq6:=k6 _ _ (R5.row q mq) (by simp);have lq:q.1∈chs (L.drop (i+1)) k:=ej▸qAH.mpr ⟨q,mq,rfl⟩
     have lq':q.1.length<=7:=by
      have h1:=(zFz lq).1.length_le;rw [qBV] at h1;lia
     refine ⟨_,rfl,_,_,_,_,rfl,rfl,e6,hq6,by rw [qAE,qAK];show 1+q.1.length<=_;lia,fun u hu=>?_⟩;have fu:Fre H6 u:=hu;have k7:Kp [] H6 (upd H6 u (.lst ([V.str x]++q.1.map V.str))):=Kp.new Kp.refl fu;have e7:upd H6 u (.lst ([V.str x]++q.1.map V.str)) u=some (.lst ((x::q.1).map V.str)):=upd_same;generalize upd H6 u (.lst ([V.str x]++q.1.map V.str))=H7 at k7 e7;have k57:=k6.trans k7;have S7:=S5.kp0 k57;have R7:=R5.kp0 k57;have fuH:Fre H u:=k5.fre (k6.fre fu (by simp)) (by simp);have nu0:u≠c0:=(ne_fre fu (k6 _ _ S5.top (by simp))).symm
     have lh:hs.length=j:=by
      have:=qAf List.length eh;rw [qAE,qAE,qAe,<-ej,qAE] at this;have hj:=(qAd.mp eq).1;lia
     have lks:ks.length<=128:=by
      have h1:=qAf List.length ek;rw [qAg,qAE] at h1;have h2:=zHq L (k+1);have h3:2^L.length<=2^7:=qCe (by decide) few;lia
     have ljs:js.length<=128:=by
      have h1:=qAf List.length ej;rw [qAE] at h1;have h2:=zHq (L.drop (i+1)) k;have h3:2^(L.drop (i+1)).length<=2^7:=qCe (by decide) (by rw [qBV];lia);lia
     refine ⟨_,_,_,rfl,rfl,S7.top,by rw [qAE,qAg,qAK];have hj:=(qAd.mp eq).1;lia,?_⟩;have k8:Kp [c0] H7 (upd H7 c0 (.lst (((ks++hs).map fun q=>V.ref q.2)++[.ref u]))):=Kp.put Kp.refl (by simp);have e8:upd H7 c0 (.lst (((ks++hs).map fun q=>V.ref q.2)++[.ref u])) c0=some (.lst (((ks++hs).map fun q=>V.ref q.2)++[.ref u])):=upd_same;generalize upd H7 c0 (.lst (((ks++hs).map fun q=>V.ref q.2)++[.ref u]))=H8 at k8 e8;refine ⟨_,hs++[(x::q.1,u)],rfl,zFt (k5.trans k57) f0 k8,⟨k8 _ _ R7.top (nm1 n10),fun z hz=>k8 _ _ (R7.row z hz) (nm1 (jn0 z hz))⟩,⟨?_,fun z hz=>?_⟩,fun z hz=>?_,?_⟩
     ·rw [e8,<-qBp,qAQ (l₁:=ks++hs)];rfl
     ·rw [<-qBp] at hz;rcases qAU.mp hz with y| y
      ·refine k8 _ _ (S7.row z y) (nm1 ?_);rcases qAU.mp y with y| y
       ·exact (fr z y).2
       ·exact (fh z y).2
      ·rw [qAP.mp y];exact k8 _ _ e7 (nm1 nu0)
     ·rcases qAU.mp hz with y| y
      ·exact fh z y
      ·rw [qAP.mp y];exact ⟨fuH,nu0⟩
     ·rw [qAQ,eh,List.take_add_one,qAQ];congr 1;have:(chs (L.drop (i+1)) k)[j]?=some q.1:=by rw [<-ej,qAW,eq];rfl
      rw [this];rfl
    ·rintro σ H5 ⟨o4,hs,rfl,k5,R5,S5,fh,eh⟩;refine ⟨_,_,ks++hs,rfl,k5,S5,fun z hz=>(qAU.mp hz).elim (fr z) (fh z),?_⟩;have lj:js.length=(chs (L.drop (i+1)) k).length:=by rw [<-ej,qAE]
     rw [qAE,lj,qAi] at eh;rw [qAQ,eh,<-ek,ed,qBp];rfl
   ·rintro σ H2 ⟨o3,o4,ks,rfl,k2,R2,fr,ek⟩;rw [List.drop_length,chs_nil,qBI] at ek;exact ⟨_,rfl,kk c0 ks H2 f0 fr R2 ek k2⟩
theorem zIe {f:Addr} (F:Fun K "_law_choices" "_law_choices" zE0 f fd) (T:Txt K mg) (g:mg "_law_choices" = some (.ref f)) (b:zDg K fd ["_law_some", "_law_many"] []):∀m,FnOk P w K mg base CX0 m f fd ["_law_some", "_law_many"] (zEt m)
 | 0=>⟨fun vs H Q E h=>by
   obtain ⟨_,_,_,_,_,_,h,_⟩:=h;exact absurd h (qBu _),fun A outer s H args us vs Q E _ _ _ _ h=>by
   obtain ⟨_,_,_,_,_,_,h,_⟩:=h;exact absurd h (qBu _)⟩
 | m+1=>choices_step F T m ⟨f,fd,g,F.kp,b,zIe F T g b m⟩
end
section
def spOnward:Sp:=fun vs H Q _=>∃(l d t:Addr) (b:Int) (J:JR) (A:List Str) (la:Str->Addr) (L:Str->List Str),vs=[.ref l,.ref d,.ref t,.int b]/\Txs H l J.ns/\DR H d J.ns la L/\(∀n∈J.ns,∀x∈J.ns,x∈L n↔n∈J.S x)/\J.ns.length<=7/\1<=b/\b<=4/\H t=some (.tup (A.map V.str))/\A.length<=7 /\
 ∀(c:Addr) (ks:List (List Str×Addr)) (H':Hp),Fre H c->H' c=some (.lst (ks.map fun q=>V.ref q.2))->(∀q∈ks,H' q.2=some (.tup (q.1.map V.str))/\zEn q.1)->ks.length=(chs (rdy J A) (mny J b.toNat A)).length->(∀(i:Nat) (q:List Str×Addr) (C:List Str),ks[i]?=some q->(chs (rdy J A) (mny J b.toNat A))[i]?=some C->q.1.Perm (A++C))->Kp [] H H'->Q (.ref c) H'
abbrev zEu:Stmt:=top 56
theorem zC6:FnScope ["_law_names_here", "_law_later", "_law_done", "_law_benches_here", "_law_ready", "_law_left", "_law_name", "_law_found", "_law_some"] ["_law_names_here", "_law_later", "_law_done", "_law_benches_here"] (zAd zEu):=fnS
theorem ok_onward {f:Addr} (F:Fun K "_law_onward" "_law_onward" zEu f fd) (T:Txt K mg) (C_choices:Cal P w K mg base "_law_choices" 5 ["_law_some", "_law_many"] (zEt 5)):FnOk P w K mg base CX0 6 f fd ["_law_names_here", "_law_later", "_law_done", "_law_benches_here"] spOnward:=by
 refine F.ok zC6 (fun vs H Q E h=>?_) (fun cdv A outer s H vs Q E hr h=>?_)
 ·obtain ⟨l,d,t,b,J,A,la,L,rfl,_⟩:=h;rfl
 ·obtain ⟨l,d,t,b,J,A,la,L,rfl,hl,D,hLS,few,hb,hb4,ht,lA,kk⟩:=h;have hu:=zDw hr
  refine ⟨_,(zAc (psS (i:=4) zC6.nd (zBp zAb))
   (zAc (zFq (i:=5) rfl (zBe (sc:=zAd zEu) rfl (by decide +kernel)) (Draws.own (x:= "_law_name") (dtk (i:=2) rfl Draws.nil)) (zAj (pv 0)) (fun _ _ _ _=>(pgB (i:=0))) (fun _ _ _ _=>(zB8 (zAz (zE4 (K:=K)) (pv 0) (pv 1) (by rfl)))) (fun _ _ _ _=>(pv 0)) zC6.nd rfl rfl)
   (zAc (zA1 qAk rfl (zAj (pv 5)) (pgN (i:=6) zC6.nd)
    (zAe (zCz (zE2 (zDj (zAi (call_any _ rfl) (by rfl) T.z_any bo_any (zAa (zBa rfl (zBe (sc:=zAd zEu) rfl (by decide +kernel)) (Draws.own (x:= "_law_other") (dtk (i:=6) rfl (dtk (i:=1) rfl Draws.nil))) (zAj (pv 5)) (fun _ _ _ _=>(pgB (i:=0))) (fun _ _ _ _=>zCl) (fun _ _ _ _=>(pe_cmp (zG3 hu (pv 1) (zBj hu (pv 2) (pv 0) (fun _ _=>rfl)))))) zAb))))
     (zAe (zAu (zFr qBH qCC qCD zB2 (pv 4) (zAa (pv 6) zAb))))
     zAw)))
   (zAc (psS (i:=7) zC6.nd (zBp zAb))
   (zAc (zA1 qAk rfl (zAj (zAf C_choices hr rfl (zAa (pv 4) (zAa (zAi (call_min2 rfl) (by rfl) T.z_min bo_min (zAa (zAi zAl (by rfl) T.z_len zCo (zAa (pv 4) zAb)) (zAa (pv 3) zAb))) zAb)))) (pgN (i:=8) zC6.nd)
    (zAe (zAu (zFr qBH qCC qCD zB2 (pv 7) (zAa (zAq zFf (by rfl) T.z_tuple bo_tuple (zAa (zAi zBh (by rfl) T.z_sorted zBt (zAa (zAr op_cat (zAq zAv (by rfl) T.z_list zC3 (zAa (pv 2) zAb)) (pv 8)) zAb)) zAb)) zAb)))))
   (zAe (zAm (pv 7)))))))),?_⟩
  refine ⟨(by walk_at "ln"),fun rd hrd=>?_⟩;have fr:Fre H rd:=hrd;have k1:Kp [] H (upd H rd (.lst [])):=Kp.new Kp.refl fr;have e1:Txs (upd H rd (.lst [])) rd []:=upd_same;generalize upd H rd (.lst [])=H1 at k1 e1;have hl1:Txs H1 l J.ns:=k1 _ _ hl (by simp);have ht1:=k1 _ _ ht (by simp);refine ⟨_,rfl,_,rfl,⟨_,SqL.of hl1⟩,fun B hB=>zBd (J.ns.map V.str) (fun j ys τ H3=>(∃o0,τ=[o0,some (.ref t)])/\ys=((J.ns.take j).filter fun n=>decide (n∉A)).map V.str/\H3=upd H1 B (.lst ys)) ⟨⟨_,rfl⟩,rfl,rfl⟩ (fun j ys τ H3 ⟨_,_,z⟩=>by subst z;exact SqL.of ((Kp.new (M:=[]) Kp.refl hB) _ _ hl1 (by simp))) ?_ ?_⟩
  ·rintro j v ys τ H3 hv ⟨⟨o0,rfl⟩,rfl,rfl⟩;obtain ⟨x,ex,rfl⟩:=zA0 hv;have kB:Kp [] H1 (upd H1 B (.lst (((J.ns.take j).filter fun n=>decide (n∉A)).map V.str))):=Kp.new Kp.refl hB;refine ⟨_,rfl,_,rfl,_,_,rfl,.inr (SqT.of (kB _ _ ht1 (by simp))),rfl,flatS A,_,rfl,?_⟩;rw [qAC rfl,zHn,show (!decide (x∈A))=decide (x∉A) by simp];refine ite2 (fun c=>?_) (fun c=>?_)
   ·refine ⟨_,rfl,upd_same,by rw [qAE];exact zCe (by lia),⟨_,rfl⟩,?_,zBg⟩;rw [zBs (p:=fun n=>decide (n∉A)) ex c,qAQ];rfl
   ·refine ⟨⟨_,rfl⟩,?_,rfl⟩;rw [zCn (p:=fun n=>decide (n∉A)) ex c]
  rintro ys τ H3 ⟨_,rfl,rfl⟩;rw [qAE,qAi];show∃_,_;have fB:Fre H1 B:=hB;have k2:Kp [] H1 (upd H1 B (.lst ((lft J A).map V.str))):=Kp.new Kp.refl fB;have e2:Txs (upd H1 B (.lst ((lft J A).map V.str))) B (lft J A):=upd_same;have eL:(J.ns.filter fun n=>decide (n∉A))=lft J A:=rfl;rw [eL];generalize upd H1 B (.lst ((lft J A).map V.str))=H2 at k2 e2;have r2:Txs H2 rd []:=k2 _ _ e1 (by simp);have nBr:B≠rd:=(ne_fre fB e1).symm;have lL:(lft J A).length<=7:=qAX (qAy _ _) few;have K2:=k1.trans k2;have fBH:Fre H B:=k1.fre fB (by simp);refine ⟨_,rfl,_,rfl,⟨_,SqL.of e2⟩,zAy (xs:=(lft J A).map V.str) (fun i σ H3=>(∃o6:Option V,σ=[some (.ref l),some (.ref d),some (.ref t),some (.int b),some (.ref rd),some (.ref B),o6,none,none])/\Kp [] H H3/\Txs H3 B (lft J A)/\Txs H3 rd (((lft J A).take i).filter fun n=>!((lft J A).any fun x=>decide (x∈J.S n)))) ⟨⟨_,rfl⟩,K2,e2,r2⟩ (fun i σ H3 _ ⟨_,_,h,_⟩=>SqL.of h) ?_ ?_⟩
  ·rintro i v σ H3 hv ⟨⟨o6,rfl⟩,k3,hB3,hr3⟩;obtain ⟨n,en,rfl⟩:=zA0 hv;have hn:n∈J.ns:=(zHc.mp (qAO en)).1
   refine ⟨_,rfl,_,rfl,⟨_,SqL.of hB3⟩,fun B2 hB2=>zA3 ((lft J A).map V.str) (fun j ys τ H4=>(∃o0,τ=[o0,some (.str n),some (.ref d)])/\ys=(((lft J A).take j).map fun x=>V.bl (decide (x∈J.S n)))/\H4=upd H3 B2 (.lst ys))
    ⟨⟨_,rfl⟩,rfl,rfl⟩ (fun j ys τ H4 ⟨_,_,z⟩=>by subst z;exact SqL.of ((Kp.new (M:=[]) Kp.refl hB2) _ _ hB3 (by simp))) ?_ ?_⟩
   ·rintro j v ys τ H4 hv ⟨⟨o0,rfl⟩,rfl,rfl⟩;obtain ⟨x,ex,rfl⟩:=zA0 hv;have hx:x∈J.ns:=(zHc.mp (qAO ex)).1;have kB:Kp [] H3 (upd H3 B2 (.lst (((lft J A).take j).map fun x=>V.bl (decide (x∈J.S n))))):=Kp.new Kp.refl hB2;have D4:=D.kp0 (k3.trans kB);obtain ⟨o,g1,g2⟩:=zGv (D4.row x hx) n;refine ⟨_,rfl,_,rfl,_,rfl,_,_,rfl,D4.get hx,_,o,rfl,g1,?_⟩;rw [g2,show decide (n∈L x)=decide (x∈J.S n) from qCv.mpr (hLS x hx n hn)];refine ⟨upd_same,?_,⟨_,rfl⟩,?_,zBg⟩
    ·rw [qAE,qAe,qAK];lia
    ·rw [zAh ex,qAQ];rfl
   ·rintro ys τ H4 ⟨_,rfl,rfl⟩;rw [qAE,qAi];have k4:Kp [] H3 (upd H3 B2 (.lst ((lft J A).map fun x=>V.bl (decide (x∈J.S n))))):=Kp.new Kp.refl hB2;have e4:upd H3 B2 (.lst ((lft J A).map fun x=>V.bl (decide (x∈J.S n)))) B2=some (.lst (((lft J A).map fun x=>decide (x∈J.S n)).map V.bl)):=by rw [upd_same,qA1];rfl
    generalize upd H3 B2 (.lst ((lft J A).map fun x=>V.bl (decide (x∈J.S n))))=H4 at k4 e4;refine ⟨B2,_,rfl,SqL.of e4,_,rfl,?_⟩;have ea:(((lft J A).map fun x=>decide (x∈J.S n)).any id)=(lft J A).any fun x=>decide (x∈J.S n):=by rw [List.any_map];rfl
    rw [ea];have hr4:=k4 _ _ hr3 (by simp);have hB4:=k4 _ _ hB3 (by simp);show ite _ _ _;refine ite2 (fun c=>?_) (fun c=>?_)
    ·refine ⟨_,rfl,.inl ⟨rfl,_,SqL.of hr4⟩,_,rfl,_,_,_,rfl,rfl,hr4,by rw [qAE];exact zCe (by lia),?_⟩;have k5:Kp [rd] H4 (upd H4 rd (.lst (((((lft J A).take i).filter fun n=>!((lft J A).any fun x=>decide (x∈J.S n))).map V.str)++[.str n]))):=Kp.put Kp.refl (by simp);refine ⟨⟨_,rfl⟩,zFt (k3.trans k4) fr k5,k5 _ _ hB4 (nm1 nBr),?_⟩;show upd _ _ _ _=_;rw [upd_same,zBs (p:=fun n=>!((lft J A).any fun x=>decide (x∈J.S n))) en c,qAQ];rfl
    ·refine ⟨⟨_,rfl⟩,k3.trans k4,hB4,?_⟩;rw [zCn (p:=fun n=>!((lft J A).any fun x=>decide (x∈J.S n))) en c];exact hr4
  rintro σ H3 ⟨⟨o6,rfl⟩,k3,hB3,hr3⟩;rw [qAE,qAi] at hr3;have hr3:Txs H3 rd (rdy J A):=hr3;refine ⟨(by walk_at "ln"),fun c0 hc0=>?_⟩;have f0:Fre H3 c0:=hc0;have k4:Kp [] H3 (upd H3 c0 (.lst [])):=Kp.new Kp.refl f0;have e4:upd H3 c0 (.lst []) c0=some (.lst []):=upd_same;generalize upd H3 c0 (.lst [])=H4 at k4 e4;have hr4:Txs H4 rd (rdy J A):=k4 _ _ hr3 (by simp);have lr:(rdy J A).length<=7:=qAX (qAy _ _) lL;have f0H:Fre H c0:=k3.fre f0 (by simp);have K4:=k3.trans k4;refine ⟨_,rfl,_,rfl,_,_,rfl,.inl (SqL.of hr4),_,rfl,_,_,rfl,rd,rdy J A,mny J b.toNat A,?_,hr4,lr,?_,fun c1 js H5 fc1 fj R5 ej k5=>?_⟩
  ·have ei:∀x y:Int,x=y->[V.ref rd,V.int x]=[V.ref rd,V.int y]:=fun _ _ h=>by rw [h]
   refine ei _ _ ?_;unfold mny;rw [qAE];split<;>lia
  ·unfold mny;lia
  have n10:c1≠c0:=(ne_fre fc1 e4).symm;have jn0:∀q∈js,q.2≠c0:=fun q hq=>(ne_fre (fj q hq).1 e4).symm;have lj:js.length=(chs (rdy J A) (mny J b.toNat A)).length:=by rw [<-ej,qAE]
  have l128:js.length<=128:=by
   have h2:=zHq (rdy J A) (mny J b.toNat A);have h3:2^(rdy J A).length<=2^7:=qCe (by decide) lr;lia
  refine ⟨_,rfl,⟨_,SqL.of R5.top⟩,zAy (xs:=js.map fun q=>V.ref q.2) (fun j σ H6=>∃(o8:Option V) (ks:List (List Str×Addr)),σ=[some (.ref l),some (.ref d),some (.ref t),some (.int b),some (.ref rd),some (.ref B),o6,some (.ref c0),o8]/\Kp [] H H6/\LsR H6 c1 js/\H6 c0=some (.lst (ks.map fun q=>V.ref q.2))/\(∀q∈ks,H6 q.2=some (.tup (q.1.map V.str))/\zEn q.1)/\ks.length=j/\∀(i:Nat) (q p:List Str×Addr),ks[i]?=some q->js[i]?=some p->q.1.Perm (A++p.1)) ⟨_,[],rfl,K4.trans k5,R5,k5 _ _ e4 (by simp),(fun q h=>nomatch h),rfl,(fun i q p h=>by simp at h)⟩ (fun j σ H6 _ ⟨_,_,_,_,R6,_⟩=>SqL.of R6.top) ?_ ?_⟩
  ·rintro j v σ H6 hv ⟨o8,ks,rfl,k6,R6,S6,fk,lk,pk⟩
   obtain ⟨q,eq,rfl⟩:∃q,js[j]?=some q/\V.ref q.2=v:=by
    rw [qAW] at hv;exact qA6.mp hv
   have mq:=qAO eq;have hj:=(qAd.mp eq).1
   have lq:q.1.length<=7:=by
    have h1:=(zFz (show q.1∈chs (rdy J A) (mny J b.toNat A) from ej▸qAH.mpr ⟨q,mq,rfl⟩)).1.length_le;lia
   have ht6:=k6 _ _ ht (by simp);refine ⟨_,rfl,.inl ⟨rfl,_,SqL.of S6⟩,_,rfl,_,_,rfl,.inr (SqT.of ht6),fun e he=>?_⟩;have k7:Kp [] H6 (upd H6 e (.lst (A.map V.str))):=Kp.new Kp.refl he;have e7:upd H6 e (.lst (A.map V.str)) e=some (.lst (A.map V.str)):=upd_same;generalize upd H6 e (.lst (A.map V.str))=H7 at k7 e7;refine ⟨_,rfl,_,_,_,_,rfl,rfl,e7,k7 _ _ (R6.row q mq) (by simp),by rw [qAE,qAE,qAK];lia,fun u hu=>?_⟩;rw [<-qAQ];have k8:Kp [] H7 (upd H7 u (.lst ((A++q.1).map V.str))):=Kp.new Kp.refl hu;have e8:upd H7 u (.lst ((A++q.1).map V.str)) u=some (.lst ((A++q.1).map V.str)):=upd_same;generalize upd H7 u (.lst ((A++q.1).map V.str))=H8 at k8 e8;refine ⟨u,A++q.1,rfl,SqL.of e8,by rw [qAg];lia,fun b2 zs hb2 pz rz=>?_⟩;have k9:Kp [] H8 (upd H8 b2 (.lst (zs.map V.str))):=Kp.new Kp.refl hb2;have e9:upd H8 b2 (.lst (zs.map V.str)) b2=some (.lst (zs.map V.str)):=upd_same;generalize upd H8 b2 (.lst (zs.map V.str))=H9 at k9 e9;refine ⟨b2,_,rfl,.inl ⟨SqL.of e9,fun y hy=>?_⟩⟩;have fy:Fre H9 y:=hy;have k10:Kp [] H9 (upd H9 y (.tup (zs.map V.str))):=Kp.new Kp.refl fy;have e10:upd H9 y (.tup (zs.map V.str)) y=some (.tup (zs.map V.str)):=upd_same;generalize upd H9 y (.tup (zs.map V.str))=H10 at k10 e10;have k610:=((k7.trans k8).trans k9).trans k10;have S10:=k610 _ _ S6 (by simp);have R10:=R6.kp0 k610;refine ⟨_,_,_,rfl,rfl,S10,by rw [qAE,qAK];lia,?_⟩;have k11:Kp [c0] H10 (upd H10 c0 (.lst ((ks.map fun q=>V.ref q.2)++[.ref y]))):=Kp.put Kp.refl (by simp);have e11:upd H10 c0 (.lst ((ks.map fun q=>V.ref q.2)++[.ref y])) c0=some (.lst ((ks.map fun q=>V.ref q.2)++[.ref y])):=upd_same;generalize upd H10 c0 (.lst ((ks.map fun q=>V.ref q.2)++[.ref y]))=H11 at k11 e11;refine ⟨_,ks++[(zs,y)],rfl,zFt (k6.trans k610) f0H k11,⟨k11 _ _ R10.top (nm1 n10),fun z hz=>k11 _ _ (R10.row z hz) (nm1 (jn0 z hz))⟩,by rw [e11,qAQ];rfl,fun z hz=>?_,by rw [qAg,lk];rfl,fun i z p h1 h2=>?_⟩
   ·rcases qAU.mp hz with x| x
    ·exact ⟨k11 _ _ (k610 _ _ (fk z x).1 (by simp)) (nm1 (zBb (k610 _ _ (fk z x).1 (by simp)) S10 fun y=>nomatch y)),(fk z x).2⟩
    ·rw [qAP.mp x];exact ⟨k11 _ _ e10 (nm1 (zBb e10 S10 fun y=>nomatch y)),rz⟩
   ·by_cases hi:i<ks.length
    ·rw [qBc hi] at h1;exact pk i z p h1 h2
    ·have hi':i=j:=by
      have:=(qAd.mp h1).1;rw [qAg,qBe] at this;lia
     subst hi';rw [qBb (by lia),lk,Nat.sub_self] at h1
     cases h1
     rw [eq] at h2
     cases h2
     exact pz
  ·rintro σ H6 ⟨o8,ks,rfl,k6,R6,S6,fk,lk,pk⟩;rw [qAE] at lk;refine ⟨_,rfl,kk c0 ks H6 f0H S6 fk (by lia) (fun i q C h1 h2=>?_) k6⟩;rw [<-ej,qAW] at h2;obtain ⟨p,h3,rfl⟩:=qA6.mp h2;exact pk i q p h1 h3
end
def powL:List Str->List (List Str)
 | []=>[[]]
 | n::ns=>powL ns++(powL ns).map (n::·)
theorem powL_len:∀ns:List Str,(powL ns).length=2^ns.length
 | []=>rfl
 | n::ns=>by
  show (powL ns++(powL ns).map (n::·)).length=2^(ns.length+1);rw [qAg,qAE,powL_len ns,Nat.pow_succ];lia
theorem zFw (p:Str->Bool):∀ns:List Str,ns.filter p∈powL ns
 | []=>qAP.mpr rfl
 | n::ns=>by
  rw [qA7];show _∈powL ns++(powL ns).map (n::·);split
  ·exact qAu _ (qAH.mpr ⟨_,zFw p ns,rfl⟩)
  ·exact qAs _ (zFw p ns)
section
variable {κ:Type} [DecidableEq κ]
theorem val_none:∀{kvs:List (κ×V)} {k:κ},k∉kvs.map (·.1)->valV kvs k=none
 | [],k,h=>rfl
 | p::r,k,h=>by
  rw [qAn,qAN,not_or] at h;rw [zEq fun z=>h.1 z.symm];exact val_none h.2
theorem keys_putK (kvs:List (κ×V)) (k:κ) (v:V):(putK kvs k v).map (·.1)=if k∈kvs.map (·.1) then kvs.map (·.1) else kvs.map (·.1)++[k]:=by
 by_cases h:k∈kvs.map (·.1)
 ·rw [qAC h];unfold putK
  have:(kvs.any fun kv=>decide (kv.1=k))=true:=by
   obtain ⟨q,h1,h2⟩:=qAH.mp h;exact qCd.mpr ⟨q,h1,qAV h2⟩
  rw [qAC this,qA1]
  exact List.map_congr_left fun q _=>by
   show (if q.1=k then (q.1,v) else q).1=q.1;split<;>rfl
 ·rw [qAB h,putK_new v (val_none h),qAQ];rfl
end
theorem while_at {c:TT} {tb:TS} {D:Ends} {σ:St} (Pv:Nat->St->Hp->Prop) (m:Nat) (h0:Pv m σ H)
  (hs:∀m σ H,Pv m σ H->c σ H fun b H1=>if b=true then tb {D with nx:=fun σ' H'=>∃m',m'<m/\Pv m' σ' H',ct:=fun σ' H'=>∃m',m'<m/\Pv m' σ' H',bk:=D.nx} σ H1 else D.nx σ H1)
  (mono:∀σ H Q Q',(∀b H1,Q b H1->Q' b H1)->c σ H Q->c σ H Q'):tWhile c tb D σ H:=by
 refine ⟨Pv,⟨m,h0⟩,fun m σ H p=>mono σ H _ _ (fun b H1 q=>?_) (hs m σ H p)⟩
 cases b with
 | true=>exact ⟨_,fun σ' H' h=>h,q⟩
 | false=>exact q
theorem kT_nd {kvs:List (List Key×V)} {L:List (List Str)} (h:kvs.map (·.1)=kT L) (nd:L.Nodup) (r:List Str) (v:V):∃L',(putK kvs (r.map Sum.inr) v).map (·.1)=kT L'/\L'.Nodup/\∀x,x∈L'↔x∈L\/x=r:=by
 rw [keys_putK,h];have inj:∀{A B:List Str},A.map (Sum.inr:Str->Key)=B.map Sum.inr->A=B:=fun {A B} e=>List.map_inj_right (fun _ _ h=>Sum.inr.inj h) |>.mp e
 by_cases c:r.map (Sum.inr:Str->Key)∈kT L
 ·rw [qAC c];obtain ⟨r',h1,h2⟩:=qAH.mp c;have e:=inj h2;exact ⟨L,rfl,nd,fun x=>⟨.inl,fun z=>z.elim id fun z=>by rw [z,<-e];exact h1⟩⟩
 ·rw [qAB c];have c':r∉L:=fun z=>c (qAH.mpr ⟨r,z,rfl⟩);exact ⟨L++[r],by unfold kT;rw [qAQ];rfl,qBj.mpr ⟨nd,qAv.mpr ⟨by simp,qAw⟩,fun a ha b hb z=>c' (by rw [<-qAP.mp hb,<-z];exact ha)⟩,fun x=>by rw [qAU,qAP]⟩
theorem sets_few {b t:Nat} {L:List (List Str)} (few:J.ns.length<=7) (nd:L.Nodup) (h:∀r∈L,Don J b t r/\zEn r):L.length<=128:=by
 have h1:(L.map fun r=>J.ns.filter fun n=>decide (n∈r)).Nodup:=zHe nd fun a ha c hc e=>by
  obtain ⟨d1,r1⟩:=h a ha;obtain ⟨d2,r2⟩:=h c hc;refine zE1 r1 r2 ((qDE d1.nd d2.nd).mpr fun n=>?_)
  have m:∀r:List Str,(∀n∈r,n∈J.ns)->(n∈r↔n∈J.ns.filter fun n=>decide (n∈r)):=fun r hr=>by
   rw [qAS,qBT];exact ⟨fun z=>⟨hr n z,z⟩,fun z=>z.2⟩
  rw [m a d1.sub,m c d2.sub,e]
 have h2:=zF7 (B:=powL J.ns) h1 fun x hx=>by
  obtain ⟨r,_,rfl⟩:=qAH.mp hx;exact zFw _ _
 rw [qAE,powL_len] at h2;exact qAX h2 (qCe (by decide) few:2^J.ns.length<=2^7)
section
def spLeast:Sp:=fun vs H Q _=>∃(l d:Addr) (b:Int) (J:JR) (r:Str->Nat) (la:Str->Addr) (L:Str->List Str) (rs:List (List Str)),vs=[.ref l,.ref d,.int b]/\Txs H l J.ns/\DR H d J.ns la L/\J.ns.Nodup/\J.ns.length<=7/\1<=b/\b<=4/\(∀n∈J.ns,∀x∈J.S n,x∈J.ns)/\(∀n∈J.ns,∀x∈J.S n,r x<r n)/\(∀n∈J.ns,∀x∈J.ns,x∈L n↔n∈J.S x)/\PlanQ J b rs/\∀H',Kp [] H H'->Q (.int (rs.length:Nat)) H'
abbrev s_least:Stmt:=top 57
theorem zCs:FnScope ["_law_names_here", "_law_later", "_law_benches_here", "_law_here", "_law_turns", "_law_there", "_law_done", "_law_made"] ["_law_names_here", "_law_later", "_law_benches_here"] (zAd s_least):=fnS
theorem ok_least {f:Addr} (F:Fun K "_law_least" "_law_least" s_least f fd) (T:Txt K mg) (C_onward:Cal P w K mg base "_law_onward" 6 ["_law_names_here", "_law_later", "_law_done", "_law_benches_here"] spOnward):FnOk P w K mg base CX0 7 f fd ["_law_names_here", "_law_later", "_law_benches_here"] spLeast:=by
 refine F.ok zCs (fun vs H Q E h=>?_) (fun cdv A outer s H vs Q E hr h=>?_)
 ·obtain ⟨l,d,b,J,r,la,L,rs,rfl,_⟩:=h;rfl
 ·obtain ⟨l,d,b,J,r,la,L,rs,rfl,hl,D0,nd,few,hb,hb4,sub,rk,hLS,PQ,k⟩:=h;have hu:=zDw hr
  refine ⟨_,(zAc (psS (i:=3) zCs.nd (zBp (zAa (zC7 zAb) zAb)))
   (zAc (psS (i:=4) zCs.nd zAg)
   (zAc (zGl qAk (zAz (op_notIn_tup hr) (zAq zFf (by rfl) T.z_tuple bo_tuple (zAa (zAi zBh (by rfl) T.z_sorted zBt (zAa (pv 0) zAb)) zAb)) (pv 3) (by rfl))
    (zAc (psS (i:=5) zCs.nd pe_dnewT)
    (zAc (zA1 qAk rfl (zAj (pv 3)) (pgN (i:=6) zCs.nd)
     (zAe (zA1 qAk rfl (zAj (zAf C_onward hr rfl (zAa (pv 0) (zAa (pv 1) (zAa (pv 6) (zAa (pv 2) zAb)))))) (pgN (i:=7) zCs.nd)
      (zAe (zC0 hu (pv 5) (pv 7) pe_bl rfl)))))
    (zAc (psS (i:=3) zCs.nd (zAi (zJb hr) (by rfl) T.z_sorted zBt (zAa (pv 5) zAb)))
    (zAe (psS (i:=4) zCs.nd (zAr zBx (pv 4) zAg)))))))
   (zAe (zAm (pv 4)))))),?_⟩
  have hs:=qAK;have G:=right_f nd sub PQ.rt (qCx b) hb;refine ⟨(by walk_at "ln"),fun t0 ht0=>?_⟩;have k1:Kp [] H (upd H t0 (.tup [])):=Kp.new Kp.refl ht0;have e1:upd H t0 (.tup []) t0=some (.tup (([]:List Str).map V.str)):=upd_same;generalize upd H t0 (.tup [])=H1 at k1 e1;refine ⟨(by walk_at "ln"),fun p0 hp0=>?_⟩;have k2:Kp [] H1 (upd H1 p0 (.lst [.ref t0])):=Kp.new Kp.refl hp0;have e2:upd H1 p0 (.lst [.ref t0]) p0=some (.lst ([(([]:List Str),t0)].map fun q=>V.ref q.2)):=upd_same;generalize upd H1 p0 (.lst [.ref t0])=H2 at k2 e2;refine while_at (fun m σ H7=>∃(t:Nat) (p:Addr) (ks:List (List Str×Addr)) (o5 o6 o7:Option V),σ=[some (.ref l),some (.ref d),some (.int b),some (.ref p),some (.int t),o5,o6,o7]/\Kp [] H H7/\H7 p=some (.lst (ks.map fun q=>V.ref q.2))/\(∀q∈ks,H7 q.2=some (.tup (q.1.map V.str)))/\Lev J b.toNat t (ks.map (·.1))/\t<=rs.length/\m=rs.length - t) rs.length ⟨0,p0,[([],t0)],none,none,none,rfl,k1.trans k2,e2,fun q hq=>by rw [qAP.mp hq];exact k2 _ _ e1 (by simp),Lev.zero J _,qAY _,rfl⟩ ?_ (fun σ H Q Q' hq hc=>?_)
  ·rintro m σ H7 ⟨t,p,ks,o5,o6,o7,rfl,k7,hp7,hk7,VL,tl,rfl⟩;have hl7:Txs H7 l J.ns:=k7 _ _ hl (by simp);refine ⟨_,rfl,l,J.ns,rfl,SqL.of hl7,by lia,fun b1 zs hb1 pz rz=>?_⟩;have k8:Kp [] H7 (upd H7 b1 (.lst (zs.map V.str))):=Kp.new Kp.refl hb1;have e8:upd H7 b1 (.lst (zs.map V.str)) b1=some (.lst (zs.map V.str)):=upd_same;generalize upd H7 b1 (.lst (zs.map V.str))=H8 at k8 e8;refine ⟨b1,_,rfl,.inl ⟨SqL.of e8,fun tp htp=>?_⟩⟩;have k9:Kp [] H8 (upd H8 tp (.tup (zs.map V.str))):=Kp.new Kp.refl htp;have e9:upd H8 tp (.tup (zs.map V.str)) tp=some (.tup (zs.map V.str)):=upd_same;generalize upd H8 tp (.tup (zs.map V.str))=H9 at k9 e9;have k79:=k8.trans k9;have hp9:=k79 _ _ hp7 (by simp);have hk9:∀q∈ks,H9 q.2=some (.tup (q.1.map V.str)):=fun q hq=>k79 _ _ (hk7 q hq) (by simp);refine ⟨_,rfl,tp,p,zs,ks,rfl,rfl,e9,SqL.of hp9,hk9,_,rfl,?_⟩;have K9:=k7.trans k79;refine ite2 (fun c=>?_) (fun c=>?_)
   ·have c:zs∉ks.map (·.1):=by simpa using c
    have tlt:t<rs.length:=by
     by_cases z:t<rs.length
     ·exact z
     ·exact absurd (VL.full nd pz rz (fun _ _ h1 h2 h3=>zE1 h2 h3 h1) G (by lia)) c
    have nf:∀q∈ks,∃n∈J.ns,n∉q.1:=fun q hq=>by
     apply qBQ;intro z;have z':∀n∈J.ns,n∈q.1:=fun n hn=>qBQ fun y=>z ⟨n,hn,y⟩;have hq':q.1∈ks.map (·.1):=qAH.mpr ⟨q,hq,rfl⟩;have DQ:=VL.don _ hq';have pm:q.1.Perm J.ns:=(qDE DQ.nd nd).mpr fun n=>⟨DQ.sub n,z' n⟩;exact c (zE1 rz (VL.srt _ hq') (pz.trans pm.symm)▸hq')
    refine fun mo hmo=>?_;have fmo:Fre H9 mo:=hmo;have k10:Kp [] H9 (upd H9 mo (.dT [])):=Kp.new Kp.refl fmo;have e10:upd H9 mo (.dT []) mo=some (.dT []):=upd_same;generalize upd H9 mo (.dT [])=H10 at k10 e10;have hp10:=k10 _ _ hp9 (by simp);have hk10:∀q∈ks,H10 q.2=some (.tup (q.1.map V.str)):=fun q hq=>k10 _ _ (hk9 q hq) (by simp);have npm:p≠mo:=ne_fre fmo hp9;have K10:=K9.trans k10;have fmoH:Fre H mo:=K9.fre fmo (by simp);have hp':∀{H11:Hp},Kp [mo] H10 H11->H11 p=some (.lst (ks.map fun q=>V.ref q.2)):=fun k11=>k11 _ _ hp10 (nm1 npm)
    refine ⟨_,rfl,_,rfl,⟨_,SqL.of hp10⟩,zAy (xs:=ks.map fun q=>V.ref q.2) (fun i σ H11=>∃(lv:List (List Key×V)) (L':List (List Str)) (o6 o7:Option V),σ=[some (.ref l),some (.ref d),some (.int b),some (.ref p),some (.int t),some (.ref mo),o6,o7]/\Kp [mo] H10 H11/\H11 mo=some (.dT lv)/\lv.map (·.1)=kT L'/\L'.Nodup/\(∀x∈L',x≠[]/\zEn x/\∃q∈ks,∃C∈chs (rdy J q.1) (mny J b.toNat q.1),x.Perm (q.1++C))/\∀q∈ks.take i,∀C∈chs (rdy J q.1) (mny J b.toNat q.1),∃x∈L',x.Perm (q.1++C))
     ⟨[],[],o6,o7,rfl,Kp.refl,e10,rfl,qAw,(fun x h=>nomatch h),by rw [qCp];exact fun q h=>nomatch h⟩ (fun i σ H11 _ ⟨_,_,_,_,_,k11,_⟩=>SqL.of (hp' k11)) ?_ ?_⟩
    ·rintro i v σ H11 hv ⟨lv,L',o6,o7,rfl,k11,e11,el,ndL,inL,cov⟩
     obtain ⟨q,eq,rfl⟩:∃q,ks[i]?=some q/\V.ref q.2=v:=by
      rw [qAW] at hv;exact qA6.mp hv
     have mq:=qAO eq;have DQ:=VL.don q.1 (qAH.mpr ⟨q,mq,rfl⟩);have K11:Kp [] H H11:=zFt K10 fmoH k11;have hq11:=k11 _ _ (hk10 q mq) (nm1 (ne_fre fmo (hk9 q mq)));have lq:q.1.length<=7:=qAX (zF7 DQ.nd DQ.sub) few;refine ⟨_,rfl,_,rfl,_,rfl,_,rfl,l,d,q.2,b,J,q.1,la,L,rfl,K11 _ _ hl (by simp),D0.kp0 K11,hLS,few,hb,hb4,hq11,lq,fun c1 js H12 fc1 hc1 hj ej pj k12=>?_⟩;have e12:=k12 _ _ e11 (by simp);have k112:Kp [mo] H10 H12:=k11.trans (k12.weak (by simp))
     have rne:1<=mny J b.toNat q.1:=by
      have h1:=qDS.mpr (rdy_ne (b:=b.toNat) (t:=t) sub rk (nf q mq));unfold mny;lia
     refine ⟨_,rfl,⟨_,SqL.of hc1⟩,zAy (xs:=js.map fun q=>V.ref q.2) (fun j σ H13=>∃(lv:List (List Key×V)) (L2:List (List Str)) (o7:Option V),σ=[some (.ref l),some (.ref d),some (.int b),some (.ref p),some (.int t),some (.ref mo),some (.ref q.2),o7]/\Kp [mo] H12 H13/\H13 mo=some (.dT lv)/\lv.map (·.1)=kT L2/\L2.Nodup/\(∀x∈L2,x≠[]/\zEn x/\∃q∈ks,∃C∈chs (rdy J q.1) (mny J b.toNat q.1),x.Perm (q.1++C))/\(∀x∈L',x∈L2)/\∀y∈js.take j,y.1∈L2)
      ⟨lv,L',o7,rfl,Kp.refl,e12,el,ndL,inL,fun x h=>h,by rw [qCp];exact fun q h=>nomatch h⟩ (fun j σ H13 _ ⟨_,_,_,_,k13,_⟩=>SqL.of (k13 _ _ hc1 (nm1 (zBb hc1 e12 fun z=>nomatch z)))) ?_ ?_⟩
     ·rintro j v σ H13 hv ⟨lv,L2,o7,rfl,k13,e13,el,ndL,inL,old,new⟩
      obtain ⟨y,ey,rfl⟩:∃y,js[j]?=some y/\V.ref y.2=v:=by
       rw [qAW] at hv;exact qA6.mp hv
      have my:=qAO ey;have hy13:=k13 _ _ (hj y my).1 (nm1 (zBb (hj y my).1 e12 fun z=>nomatch z))
      have ll:lv.length<=128:=by
       have:=qAf List.length el;rw [qAE] at this;rw [this];unfold kT;rw [qAE]
       exact sets_few (b:=b.toNat) (t:=t+1) few ndL fun x hx=>by
        obtain ⟨_,rx,q,hq,C,hC,pm⟩:=inL x hx;exact ⟨(VL.don q.1 (qAH.mpr ⟨q,hq,rfl⟩)).step sub nd hC pm,rx⟩
      refine ⟨_,rfl,_,rfl,_,_,rfl,DPut.t (k:=y.1.map Sum.inr) e13 (by rw [qA1];exact hy13) (by lia),?_⟩;obtain ⟨L3,el3,nd3,m3⟩:=kT_nd el ndL y.1 (.bl true);refine ⟨_,L3,_,rfl,Kp.put k13 (by simp),upd_same,el3,nd3,fun x hx=>?_,fun x hx=>(m3 x).mpr (.inl (old x hx)),fun z hz=>?_⟩
      ·rcases (m3 x).mp hx with h| h
       ·exact inL x h
       ·have hj':=(qAd.mp ey).1;obtain ⟨C,eC⟩:∃C,(chs (rdy J q.1) (mny J b.toNat q.1))[j]?=some C:=⟨_,qAh (by lia)⟩;have pm:=pj j y C ey eC;have mC:=qAO eC;have lC:=(zFz mC).2;subst h;refine ⟨fun z=>?_,(hj y my).2,q,mq,C,mC,pm⟩;have:=pm.length_eq;rw [z,qAg,qBW] at this;lia
      ·rw [zAh ey] at hz;rcases qAU.mp hz with h| h
       ·exact (m3 _).mpr (.inl (new z h))
       ·rw [qAP.mp h];exact (m3 _).mpr (.inr rfl)
     ·rintro σ H13 ⟨lv,L2,o7,rfl,k13,e13,el,ndL,inL,old,new⟩;rw [qAE,qAi] at new;refine ⟨lv,L2,_,_,rfl,k112.trans k13,e13,el,ndL,inL,fun z hz C hC=>?_⟩;rw [zAh eq] at hz;rcases qAU.mp hz with h| h
      ·obtain ⟨x,hx,pm⟩:=cov z h C hC;exact ⟨x,old x hx,pm⟩
      ·rw [qAP.mp h] at hC ⊢;obtain ⟨j,hj',eC⟩:=qA4.mp hC;obtain ⟨y,ey⟩:∃y,js[j]?=some y:=⟨_,qAh (by lia)⟩;exact ⟨y.1,new y (qAO ey),pj j y C ey (by rw [qAh hj',eC])⟩
    ·rintro σ H11 ⟨lv,L',o6,o7,rfl,k11,e11,el,ndL,inL,cov⟩;rw [qAE,qAi] at cov
     have don:∀x∈L',Don J b.toNat (t+1) x/\zEn x:=fun x hx=>by
      obtain ⟨_,rx,q,hq,C,hC,pm⟩:=inL x hx;exact ⟨(VL.don q.1 (qAH.mpr ⟨q,hq,rfl⟩)).step sub nd hC pm,rx⟩
     have K11:Kp [] H H11:=zFt K10 fmoH k11;refine ⟨_,rfl,mo,L',lv,rfl,e11,el,fun x hx=>(inL x hx).1,qAX (sets_few few ndL don) (by decide),fun b2 ws hb2 pw hw=>?_⟩;have k12:Kp [] H11 (upd H11 b2 (.lst (ws.map fun p=>V.ref p.2))):=Kp.new Kp.refl hb2;refine ⟨_,rfl,_,_,rfl,rfl,rs.length - (t+1),by lia,t+1,b2,ws,_,_,_,rfl,K11.trans k12,upd_same,fun q hq=>k12 _ _ (hw q hq) (by simp),?_,by lia,rfl⟩;refine VL.step sub nd (fun x hx=>?_) (fun A hA C hC=>?_)
     ·obtain ⟨_,rx,q,hq,C,hC,pm⟩:=inL x (pw.mem_iff.mp hx);exact ⟨rx,q.1,qAH.mpr ⟨q,hq,rfl⟩,C,hC,pm⟩
     ·obtain ⟨q,hq,rfl⟩:=qAH.mp hA;obtain ⟨x,hx,pm⟩:=cov q hq C hC;exact ⟨x,pw.mem_iff.mpr hx,pm⟩
   ·have c:zs∈ks.map (·.1):=by simpa using c
    obtain ⟨g,G'⟩:=VL.plan pz c;have h1:=PQ.le _ _ G';have et:t=rs.length:=by lia
    subst et;exact ⟨_,rfl,k H9 K9⟩
  ·obtain ⟨x,ex,l0,ys,e2,h2,h3,h4⟩:=hc;refine ⟨x,ex,l0,ys,e2,h2,h3,fun b1 zs hb1 pz rz=>?_⟩;obtain ⟨p1,y1,e5,h5⟩:=h4 b1 zs hb1 pz rz;refine ⟨p1,y1,e5,?_⟩;rcases h5 with ⟨h6,h7⟩| ⟨h6,h7⟩
   ·refine .inl ⟨h6,fun l hl=>?_⟩;obtain ⟨x1,z1,a1,a2,a3,a4,z2,z3,z4,z5,z6,x4,z7,q⟩:=h7 l hl;exact ⟨x1,z1,a1,a2,a3,a4,z2,z3,z4,z5,z6,x4,z7,hq _ _ q⟩
   ·obtain ⟨x1,z1,a1,a2,a3,a4,z2,z3,z4,z5,z6,x4,z7,q⟩:=h7;exact .inr ⟨h6,x1,z1,a1,a2,a3,a4,z2,z3,z4,z5,z6,x4,z7,hq _ _ q⟩
end
theorem tb_off {M:List Addr} (t:∀a∈M,∃xs,H a=some (.tbl xs)) {a:Addr} {o:HO} (h:H a=some o) (no:∀ps,o≠.tbl ps):a∉M:=fun z=>zBw (t a z) h no rfl
theorem seq_kpM {K:PySem.W.Frag} {M:List Addr} {H':Hp} {a:Addr} {xs:List V} (k:Kp M H H') (t:∀a∈M,∃xs,H a=some (.tbl xs)) (h:SqL K H a xs):SqL K H' a xs:=by
 rcases h with (h| ⟨o,h⟩)| h
 ·exact .inl (.inl (k _ _ h (tb_off t h fun _ z=>nomatch z)))
 ·exact .inl (.inr ⟨o,k _ _ h (tb_off t h fun _ z=>nomatch z)⟩)
 ·exact .inr h
theorem tbs (T:TabA H Pt) (U:TabU H Pu):∀a∈[Pt,Pu],∃xs,H a=some (.tbl xs):=fun a h=>by
 have:a=Pt\/a=Pu:=by simpa using h
 rcases this with rfl| rfl
 ·exact T.tbl
 ·exact zDl U
theorem way_rank {ns:List Str} {qs:List (List Str×Addr)} {r:Str->Nat} (G:Good ns qs r) {a b:Str} (h:Way qs a b):r a<r b:=by
 have one:∀{a b:Str},TA qs a b->r a<r b:=fun {a b} ⟨q,hq,e1,e2⟩=>by rw [<-e1,<-e2];exact G.rk q hq
 induction h with
 | one h=>exact one h
 | more _ h ih=>exact qCb ih (one h)
section
def spLaw (K:PySem.W.Frag) (Pt Pu:Addr):Sp:=fun vs H Q _=>∃(a:Addr) (ns:List Int),vs=[.ref a]/\SqL K H a (ns.map V.int)/\ns.length<=63/\TabA H Pt/\TabU H Pu/\∀H',Q (.bl true) H'
abbrev s_law:Stmt:=top 58
theorem zGx:FnScope ["_law_script", "_law_k", "_law_purse_here", "_law_benches_here", "_law_names_here", "_law_orders", "_law_told"] ["_law_script"] (zAd s_law):=fnS
theorem ok_law {f:Addr} (F:Fun K "law" "law" s_law f fd) (nPU:Pt≠Pu) (T:Txt K mg) (C_cell:Cal P w K mg base "_law_cell" 1 ["_law_script", "_law_k"] (spCell K)) (C_purse:Cal P w K mg base "_law_purse" 1 ["_law_cell_here", "_law_k"] spPurse) (C_take:Cal P w K mg base "_law_take" 1 ["_law_purse_here", "_law_many"] zH7)
  (C_wood:Cal P w K mg base "_law_wood" 3 ["_law_purse_here", "_law_most"] spWood) (C_behind:Cal P w K mg base "_law_behind" 1 ["_law_names_here", "_law_orders"] spLBehind) (C_wood_plan:Cal P w K mg base "wood_plan" 10 ["jobs", "benches"] (spWP C Pt Pu))
  (C_least:Cal P w K mg base "_law_least" 7 ["_law_names_here", "_law_later", "_law_benches_here"] spLeast) (M_Jobs:Mkr P w K mg base C "Jobs" 4 ["self", "names", "orders"] (spInit C)):FnOk P w K mg base CX0 11 f fd ["_law_script"] (spLaw K Pt Pu):=by
 refine F.ok zGx (fun vs H Q E h=>?_) (fun cdv A outer s H vs Q E hr h=>?_)
 ·obtain ⟨a,ns,rfl,_⟩:=h;rfl
 ·obtain ⟨sc,is,rfl,hS,hlen,T0,U0,k⟩:=h;have hr1:=hr.mono (j:=1) (by decide);have hr3:=hr.mono (j:=3) (by decide);have hr5:=hr.mono (j:=5) (by decide);have hr7:=hr.mono (j:=7) (by decide)
  refine ⟨_,(zAc (zA1 qAk rfl (zB1 rfl T.z_range (zAa (zAi (call_max2 rfl) (by rfl) T.z_max bo_max (zAa zAg (zAa (zAi (call_min2 rfl) (by rfl) T.z_min bo_min (zAa (zAi zAl (by rfl) T.z_len zCo (zAa (pv 0) zAb)) (zAa zAg zAb))) zAb))) zAb)) (pgN (i:=1) zGx.nd)
    (zAc (psS (i:=2) zGx.nd (zAf C_purse hr1 rfl (zAa (zAf C_cell hr1 rfl (zAa (pv 0) (zAa (pv 1) zAb))) (zAa (pv 1) zAb))))
    (zAc (psS (i:=3) zGx.nd (zAr zBx zAg (zAf C_take hr1 rfl (zAa (pv 2) (zAa zAg zAb)))))
    (zAc (ps_asg (zAf C_wood hr3 rfl (zAa (pv 2) (zAa zAg zAb))) (pg_tup rfl (zA7 (pgN (i:=4) zGx.nd) (zA7 (pgN (i:=5) zGx.nd) zEf))))
    (zAc (psS (i:=6) zGx.nd (zDc ix_tup (zAf C_wood_plan hr rfl (zAa (pe_makeC M_Jobs hr5 rfl (zAa (zAq zAv (by rfl) T.z_list zC3 (zAa (pv 4) zAb)) (zAa (zAq zAv (by rfl) T.z_list zC3 (zAa (pv 5) zAb)) zAb))) (zAa (pv 3) zAb))) zAg (fun _ _=>rfl)))
    (zAe (zCz (zAz op_ne (zAi zAl (by rfl) T.z_len zCo (zAa (pv 6) zAb)) (zAf C_least hr7 rfl (zAa (pv 4) (zAa (zAf C_behind hr1 rfl (zAa (pv 4) (zAa (pv 5) zAb))) (zAa (pv 3) zAb)))) (zA8 _))
     (zAe zCc)
     zAw)))))))
   (zAe (zAm pe_bl))),?_⟩
  refine ⟨_,rfl,_,_,rfl,.inl hS,_,_,rfl,_,_,rfl,_,rfl,?_,?_,?_⟩
  ·rw [qAE];split<;>split<;>lia
  ·rw [qAE];split<;>split<;>lia
  refine zBr (lo:=0) (fun i σ H2=>(∃o1 o2 o3 o4 o5 o6:Option V,σ=[some (.ref sc),o1,o2,o3,o4,o5,o6])/\Kp [Pt,Pu] H H2/\TabA H2 Pt/\TabU H2 Pu) ⟨⟨_,_,_,_,_,_,rfl⟩,Kp.refl,T0,U0⟩ ?_ (fun _ _ _=>k _);rintro i σ H2 hi ⟨⟨o1,o2,o3,o4,o5,o6,rfl⟩,k2,T2,U2⟩
  have hi10:i<10:=by
   rw [qAE] at hi;split at hi<;>split at hi<;>lia
  refine ⟨_,rfl,_,rfl,sc,is,_,rfl,seq_kpM k2 (tbs T0 U0) hS,by lia,fun c=>?_⟩;refine ⟨_,rfl,c,_,rfl,by lia,by lia,fun p H3 fp P3 k3=>?_⟩;refine ⟨_,rfl,p,4,rfl,P3,by decide,by decide,fun b H3' b1 b2 P3' K3=>?_⟩;refine ⟨_,_,rfl,rfl,?_⟩;refine ⟨_,rfl,p,7,rfl,by decide,by decide,P3',fun t l m ns qs r way mm ts ts' R H4 few _ ht ft fl fm fq hl hm G W _ K4=>?_⟩;have k4:Kp [] H2 H4:=Kp.drop k3 fp (K3.trans K4);refine ⟨_,_,rfl,.inl (.inl ht),rfl,_,_,rfl,_,_,rfl,rfl,?_⟩;clear K4 K3 k3 P3 P3' fp ht ft fl fm fq;have two:=hm.two;refine ⟨_,rfl,_,_,rfl,.inl (SqL.of hl),fun a1 ha1=>?_⟩;have k6:Kp [] H4 (upd H4 a1 (.lst (ns.map V.str))):=Kp.new Kp.refl ha1;have h6:Txs (upd H4 a1 (.lst (ns.map V.str))) a1 ns:=upd_same;generalize upd H4 a1 (.lst (ns.map V.str))=H6 at k6 h6;have hm6:=hm.kp k6 (by simp) (by simp);refine ⟨_,rfl,_,_,rfl,.inl (SqL.of hm6.top),fun a2 ha2=>?_⟩;have k7:Kp [] H6 (upd H6 a2 (.lst (qs.map fun q=>V.ref q.2))):=Kp.new Kp.refl ha2;have h7:upd H6 a2 (.lst (qs.map fun q=>V.ref q.2)) a2=some (.lst (qs.map fun q=>V.ref q.2)):=upd_same;generalize upd H6 a2 (.lst (qs.map fun q=>V.ref q.2))=H7 at k7 h7;have hm7:=hm6.kp k7 (by simp) (by simp);have h17:Txs H7 a1 ns:=k7 _ _ h6 (by simp);refine fun x dx hx hdx nxd=>?_;have fx:Fre H7 x:=hx;have k8:Kp [] H7 (upd (upd H7 dx (.own x)) x (.ins C dx [])):=Kp.new (Kp.new Kp.refl hdx) fx;have hx8:(upd (upd H7 dx (.own x)) x (.ins C dx [])) x=some (.ins C dx []):=upd_same;generalize upd (upd H7 dx (.own x)) x (.ins C dx [])=H8 at k8 hx8 ⊢;refine ⟨x,dx,a1,a2,ns,qs,r,rfl,hx8,k8 a1 _ h17 (by simp),⟨k8 a2 _ h7 (by simp),fun q hq=>k8 _ _ (hm7.row q hq) (by simp),hm7.two⟩,G,fun J H9 A9 N9 ens ezs K9=>⟨rfl,?_⟩⟩;subst ens;have k49:Kp [] H4 H9:=(k6.trans k7).trans (Kp.drop k8 fx K9);clear K9 N9 hx8 k8 fx h17 hm7 h7 k7 hm6 h6 k6 ha1 ha2 hx hdx nxd;have k29:=k4.trans k49;have T9:=T2.kp k29;have U9:TabU H9 Pu:=zCf U2 k29 (by simp) (fun _ _ _ _ _=>by simp);have hl9:Txs H9 l J.ns:=k49 _ _ hl (by simp);have hm9:=hm.kp k49 (by simp) (by simp);have ek:(qs.map fun q=>(q.1.reverse,q.2)).map (·.1)=qs.map fun q=>q.1.reverse:=by rw [qA1];rfl
  generalize (qs.map fun q=>(q.1.reverse,q.2))=ks at ek;have one:=W.one two ek;have OJ:=zId A9 G ezs two;refine ⟨_,rfl,x,1+b,J,qs,ks,r,rfl,A9,G,ezs,two,ek,one,by lia,by lia,T9,U9,nPU,fun t2 pl pa as rs H10 k10 T10 U10 ht2 Rp PQ=>?_⟩;refine ⟨_,_,_,_,rfl,rfl,SqT.of ht2,rfl,?_⟩;have off:=tbs T9 U9;have hl10:Txs H10 l J.ns:=k10 _ _ hl9 (tb_off off hl9 fun _ z=>nomatch z);have hm10:Ords H10 m qs:=hm9.kp k10 (tb_off off hm9.top fun _ z=>nomatch z) fun q hq=>tb_off off (hm9.row q hq) fun _ z=>nomatch z;refine ⟨_,rfl,_,_,rfl,.inl (SqL.of Rp.top),?_⟩;refine ⟨_,rfl,_,rfl,_,rfl,l,m,J.ns,qs,rfl,hl10,hm10,G.nd,G.few,by have:=G.qfew;lia,G.qin,fun d la L H11 D11 hL k11=>?_⟩;have hLS:∀n∈J.ns,∀x∈J.ns,x∈L n↔n∈J.S x:=fun n hn x hx=>by rw [(hL n hn).2 x,zFl A9 G ezs hx]
  refine ⟨_,rfl,l,d,1+b,J,r,la,L,rs,rfl,k11 _ _ hl10 (by simp),D11.rd,G.nd,by lia,by lia,by lia,OJ.sub,fun n hn x hx=>way_rank G ((zFl A9 G ezs hn).mp hx),hLS,PQ,fun H12 k12=>?_⟩;refine ⟨rfl,_,rfl,?_⟩;rw [qAE,Rp.len,show (!decide (V.int ((rs.length:Nat):Int)=V.int ((rs.length:Nat):Int)))=false by simp];refine iteF ?_;have k1012:=k11.trans k12;exact ⟨⟨_,_,_,_,_,_,rfl⟩,((k2.trans (k29.weak (by simp))).trans k10).trans (k1012.weak (by simp)),T10.kp k1012,zCf U10 k1012 (by simp) (fun _ _ _ _ _=>by simp)⟩
end
def Hd (K:PySem.W.Frag) (x q:Str) (st:Stmt) (f:Addr):Prop:=∃oc od kV dc pm an cd ct sl,K.lookup f=some ⟨oc,od,.func (PySem.W.fnOf x q (zBc st) (zA2 st) (zAd st) .none kV dc pm an cd ct),sl⟩/\PySem.W.codeIn K cd q=true/\PySem.W.keepIn K (.ref f)=true
def Dft (K:PySem.W.Frag) (x:Str) (st:Stmt) (f:Addr):Prop:=PySem.W.nsIn K mainGlobals x=some (some (.ref f))/\Hd K x x st f
def nnB (K:PySem.W.Frag) (x:Str):Bool:=match PySem.W.nsIn K mainGlobals x with
 | some none=>true
 | _=>false
theorem nnB_of {K:PySem.W.Frag} {x:Str} {h:Heap} {mg:Str->Option Value} (X:K.In h) (G:h.Ns mainGlobals mg) {xs:List Str} (a:xs.all (nnB K)=true) (m:x∈xs):mg x=none:=by
 have e:=qAx.mp a x m;unfold nnB at e;split at e
 ·rename_i e2;exact PySem.W.mg_none_of X G e2
 ·cases e
theorem Hd.to {K:PySem.W.Frag} {x q:Str} {st:Stmt} {f:Addr} (t:Hd K x q st f):∃fd,Fun K x q st f fd:=by
 obtain ⟨_,_,_,_,_,_,_,_,_,l,c,k⟩:=t;exact ⟨_,fun_mk l c k⟩
section
variable {K:PySem.W.Frag} {x q a b c d g:Str} {st:Stmt} {f:Addr} {fd:FuncData} (F:Fun K x q st f fd)
include F
theorem _root_.L2.Fun.b1 (h:∀(kV doc pm:Value) (an:Option Addr) (cdv ct u:Value),bindArgs (PySem.W.fnOf x q (zBc st) (zA2 st) (zAd st) .none kV doc pm an cdv ct) ⟨[u],[]⟩=pure [(a,u)]:=by intros;rfl):zDg K fd [a] []:=F.binds fun kV doc pm an cdv ct us hl=>match us,hl with| [u],_=>h kV doc pm an cdv ct u
theorem _root_.L2.Fun.b2 (h:∀(kV doc pm:Value) (an:Option Addr) (cdv ct u v:Value),bindArgs (PySem.W.fnOf x q (zBc st) (zA2 st) (zAd st) .none kV doc pm an cdv ct) ⟨[u,v],[]⟩=pure [(a,u),(b,v)]:=by intros;rfl):zDg K fd [a,b] []:=F.binds fun kV doc pm an cdv ct us hl=>match us,hl with| [u,v],_=>h kV doc pm an cdv ct u v
theorem _root_.L2.Fun.b3 (h:∀(kV doc pm:Value) (an:Option Addr) (cdv ct u v w:Value),bindArgs (PySem.W.fnOf x q (zBc st) (zA2 st) (zAd st) .none kV doc pm an cdv ct) ⟨[u,v,w],[]⟩=pure [(a,u),(b,v),(c,w)]:=by intros;rfl):zDg K fd [a,b,c] []:=F.binds fun kV doc pm an cdv ct us hl=>match us,hl with| [u,v,w],_=>h kV doc pm an cdv ct u v w
theorem _root_.L2.Fun.b4 (h:∀(kV doc pm:Value) (an:Option Addr) (cdv ct u v w z:Value),bindArgs (PySem.W.fnOf x q (zBc st) (zA2 st) (zAd st) .none kV doc pm an cdv ct) ⟨[u,v,w,z],[]⟩=pure [(a,u),(b,v),(c,w),(d,z)]:=by intros;rfl):zDg K fd [a,b,c,d] []:=F.binds fun kV doc pm an cdv ct us hl=>match us,hl with| [u,v,w,z],_=>h kV doc pm an cdv ct u v w z
end
section
variable {K:PySem.W.Frag} {mg:Str->Option Value} {x q:Str} {st:Stmt} {f:Addr} {fd:FuncData} {ps:List Str} {sp:Sp} {k:Nat} (P:Program) (w:World) (base:Heap)
theorem cal (g:mg x=some (.ref f)) (F:Fun K x q st f fd) (b:zDg K fd ps []) (h:FnOk P w K mg base CX0 k f fd ps sp):Cal P w K mg base x k ps sp:=⟨f,fd,g,F.kp,b,h⟩
def Dfm (K:PySem.W.Frag) (C:Addr) (m q:Str) (st:Stmt) (f:Addr):Prop:=PySem.W.findIn K (.ref C) m=some (some (.ref f))/\PySem.W.isFn K (.ref f)=true/\Hd K m q st f
theorem mth {C:Addr} {m:Str} (t:Dfm K C m q st f) (F:Fun K m q st f fd) (b:zDg K fd ps []) (h:FnOk P w K mg base CX0 k f fd ps sp):Mth P w K mg base C m k ps sp:=⟨f,fd,⟨t.1,t.2.1,F.kp⟩,b,h⟩
end
def DftL (K:PySem.W.Frag) (x:Str) (st:Stmt) (f c:Addr):Prop:=PySem.W.nsIn K mainGlobals x=some (some (.ref f))/\∃oc od kV dc pm an ct sl,K.lookup f=some ⟨oc,od,.func (PySem.W.fnOf x x (zBc st) (zA2 st) (zAd st) .none kV dc pm an (.ref c) ct),sl⟩/\PySem.W.codeIn K (.ref c) x=true/\PySem.W.keepIn K (.ref f)=true
theorem all_mk {c Pt cU Pu:Addr} {l:PySem.W.OpenLaw} {w:World} {K:PySem.W.Frag} {h:Heap} {mg:Str->Option Value} {fa:Addr} (X:K.In h) (G:h.Ns mainGlobals mg) (hfa:mg "law" = some (.ref fa)) {C f0 f1 f2 f3 f4 f5 f6 f7 f8 f9 f10 f11 f12 f13 f14 f15 f16 f17 f18 f19 f20 f21 f22 f23 f24 f25 f26 f27 f28 f29 f30 f31 f32 f33 f34 f35 f36 f37 f38 f39 f40:Addr} {t_LONGEST_NAME t_MOST_JOBS:Tok}
  (aC:PySem.W.nsIn K mainGlobals "Jobs" = some (some (.ref C)))
  (l0:Dft K "_law_take" s_take f0)
  (l1:Dft K "_law_purse" s_purse f1)
  (l2:Dft K "_law_cell" s_cell f2)
  (l3:Dft K "is_name" zEx f3)
  (l4:Dft K "is_one_of" zC8 f4)
  (l5:Dft K "check_job" zEd f5)
  (l6:Dft K "check_names" zDb f6)
  (l7:Dft K "check_parts" zDa f7)
  (l8:Dft K "told_ahead" zDn f8)
  (l9:Dft K "has_all" zEz f9)
  (l10:Dft K "joined" zIu f10)
  (l11:Dft K "all_ahead" zCk f11)
  (l12:Dfm K C "__init__" "Jobs.__init__" zBo f12)
  (l13:Dfm K C "names" "Jobs.names" zDo f13)
  (l14:Dfm K C "turned" "Jobs.turned" zCa f14)
  (l15:Dfm K C "behind" "Jobs.behind" zCb f15)
  (l16:Dfm K C "ahead" "Jobs.ahead" zCu f16)
  (l17:Dfm K C "has_between" "Jobs.has_between" zA6 f17)
  (l18:Dfm K C "straight" "Jobs.straight" zBn f18)
  (l19:DftL K "last_ones_first" zEw f19 c)
  (l20:Dft K "heights" zEy f20)
  (l21:Dft K "is_whole" zFp f21)
  (l22:Dft K "check_benches" zCj f22)
  (l23:Dft K "is_ready" zD1 f23)
  (l24:Dft K "take" s_ptake f24)
  (l25:Dft K "check_row" zC9 f25)
  (l26:Dft K "listed" zEv f26)
  (l27:Dft K "is_gathering" zB0 f27)
  (l28:DftL K "highest_first" zAn f28 cU)
  (l29:Dft K "turns_filled" zCy f29)
  (l30:Dft K "paper_number" zBz f30)
  (l31:Dft K "wood_plan" zEc f31)
  (l32:Dft K "_law_names" zIt f32)
  (l33:Dft K "_law_pairs" s_pairs f33)
  (l34:Dft K "_law_more_pairs" zCt f34)
  (l35:Dft K "_law_wood" s_wood f35)
  (l36:Dft K "_law_behind" zGj f36)
  (l37:Dft K "_law_choices" zE0 f37)
  (l38:Dft K "_law_onward" zEu f38)
  (l39:Dft K "_law_least" s_least f39)
  (l40:Dft K "law" s_law f40)
  (pg:PySem.W.plainGet K C Str.empty=true)
  (hd:PySem.W.hasDictIn K C=true)
  (po:PySem.W.plainOver K C=true)
  (sa:PySem.W.findIn K (.ref C) "__setattr__" = some (some (.builtin "object.__setattr__")))
  (mk:PySem.W.makesIn K C=true)
  (kc:PySem.W.keepIn K (.ref C)=true)
  (n_row:PySem.W.findIn K (.ref C) "row" = some none)
  (n_pairs:PySem.W.findIn K (.ref C) "pairs" = some none)
  (n_above:PySem.W.findIn K (.ref C) "above" = some none)
  (zz:List.all (α:=Str) ["len", "max", "range", "int", "str", "list", "all", "min", "dict", "bool", "abs", "reversed", "enumerate", "any", "isinstance", "sorted", "set", "tuple"] (nnB K)=true)
  (n_Pt_Pu:Pt≠Pu)
  (e_LONGEST_NAME:PySem.W.nsIn K mainGlobals "LONGEST_NAME" = some (some (.int 8 t_LONGEST_NAME)))
  (e_MOST_JOBS:PySem.W.nsIn K mainGlobals "MOST_JOBS" = some (some (.int 20 t_MOST_JOBS)))
  :∃fd:FuncData,(∀(s:Shared) (v:Value),BindsTo s fd ⟨[v],[]⟩ [("_law_script",v)])/\∀base:Heap,K.In base->base.Ns mainGlobals mg->zHt mg base->(∀q∈[(c,Pt),(cU,Pu)],PySem.W.CodeHd base q.1 q.2)->FnOk l.prog w K mg base CX0 11 fa fd ["_law_script"] (spLaw K Pt Pu):=by
 have z:∀x,x∈_->mg x=none:=fun x m=>nnB_of X G zz m;have m:=fun (x:Str) (v:Value) (e:PySem.W.nsIn K mainGlobals x=some (some v))=>PySem.W.mg_of X G e;obtain ⟨a,_,_,kV,dc,pm,an,cd,ct,_,u,v,k⟩:=l40
 cases hfa.symm.trans (m _ _ a)
 have T:Txt K mg:={z_len:=z _ (by decide),z_max:=z _ (by decide),z_range:=z _ (by decide),z_int:=z _ (by decide),z_str:=z _ (by decide),z_list:=z _ (by decide),z_all:=z _ (by decide),z_min:=z _ (by decide),z_dict:=z _ (by decide),z_bool:=z _ (by decide),z_abs:=z _ (by decide),z_reversed:=z _ (by decide),z_enumerate:=z _ (by decide),z_any:=z _ (by decide),z_isinstance:=z _ (by decide),z_sorted:=z _ (by decide),z_set:=z _ (by decide),z_tuple:=z _ (by decide),c_LONGEST_NAME:=⟨_,m _ _ e_LONGEST_NAME⟩,c_MOST_JOBS:=⟨_,m _ _ e_MOST_JOBS⟩};have U:JC K mg C:=⟨⟨pg,hd,po,sa⟩,n_row,n_pairs,n_above,m _ _ aC⟩;obtain ⟨_,F0⟩:=l0.2.to;obtain ⟨_,F1⟩:=l1.2.to;obtain ⟨_,F2⟩:=l2.2.to;obtain ⟨_,F3⟩:=l3.2.to;obtain ⟨_,F4⟩:=l4.2.to;obtain ⟨_,F5⟩:=l5.2.to;obtain ⟨_,F6⟩:=l6.2.to;obtain ⟨_,F7⟩:=l7.2.to;obtain ⟨_,F8⟩:=l8.2.to;obtain ⟨_,F9⟩:=l9.2.to;obtain ⟨_,F10⟩:=l10.2.to;obtain ⟨_,F11⟩:=l11.2.to;obtain ⟨_,F12⟩:=l12.2.2.to;obtain ⟨_,F13⟩:=l13.2.2.to;obtain ⟨_,F14⟩:=l14.2.2.to;obtain ⟨_,F15⟩:=l15.2.2.to;obtain ⟨_,F16⟩:=l16.2.2.to;obtain ⟨_,F17⟩:=l17.2.2.to;obtain ⟨_,F18⟩:=l18.2.2.to;obtain ⟨a19,_,_,_,_,_,_,_,_,u19,v19,k19⟩:=l19;have F19:=fun_mk (st:=zEw) u19 v19 k19;obtain ⟨_,F20⟩:=l20.2.to;obtain ⟨_,F21⟩:=l21.2.to;obtain ⟨_,F22⟩:=l22.2.to;obtain ⟨_,F23⟩:=l23.2.to;obtain ⟨_,F24⟩:=l24.2.to;obtain ⟨_,F25⟩:=l25.2.to;obtain ⟨_,F26⟩:=l26.2.to;obtain ⟨_,F27⟩:=l27.2.to;obtain ⟨a28,_,_,_,_,_,_,_,_,u28,v28,k28⟩:=l28;have F28:=fun_mk (st:=zAn) u28 v28 k28;obtain ⟨_,F29⟩:=l29.2.to;obtain ⟨_,F30⟩:=l30.2.to;obtain ⟨_,F31⟩:=l31.2.to;obtain ⟨_,F32⟩:=l32.2.to;obtain ⟨_,F33⟩:=l33.2.to;obtain ⟨_,F34⟩:=l34.2.to;obtain ⟨_,F35⟩:=l35.2.to;obtain ⟨_,F36⟩:=l36.2.to;obtain ⟨_,F37⟩:=l37.2.to;obtain ⟨_,F38⟩:=l38.2.to;obtain ⟨_,F39⟩:=l39.2.to;have F40:=fun_mk (st:=s_law) u v k;refine ⟨PySem.W.fnOf "law" "law" (zBc s_law) (zA2 s_law) (zAd s_law) .none kV dc pm an cd ct,fun s v=>.of_eq rfl,fun B _ _ BL CH=>?_⟩;have C_take:=cal l.prog w B (m _ _ l0.1) F0 F0.b2 (ok_take F0);have C_purse:=cal l.prog w B (m _ _ l1.1) F1 F1.b2 (ok_purse F1 T);have C_cell:=cal l.prog w B (m _ _ l2.1) F2 F2.b2 (ok_cell F2 T);have C_is_name:=cal l.prog w B (m _ _ l3.1) F3 F3.b1 (ok_is_name F3 T);have C_is_one_of:=cal l.prog w B (m _ _ l4.1) F4 F4.b2 (ok_is_one_of F4 T);have C_one_of:=cal l.prog w B (m _ _ l4.1) F4 F4.b2 (ok_one_of F4 T);have C_check_job:=cal l.prog w B (m _ _ l5.1) F5 F5.b2 (ok_check_job F5 T C_is_one_of);have C_check_names:=cal l.prog w B (m _ _ l6.1) F6 F6.b1 (zHz F6 T C_is_name);have C_check_parts:=cal l.prog w B (m _ _ l7.1) F7 F7.b2 (zHy F7 T C_check_job);have C_told_ahead:=cal l.prog w B (m _ _ l8.1) F8 F8.b2 (zI0 F8);have C_has_all:=cal l.prog w B (m _ _ l9.1) F9 F9.b2 (ok_has_all F9 T);have C_joined:=cal l.prog w B (m _ _ l10.1) F10 F10.b2 (ok_joined F10);have C_all_ahead:=cal l.prog w B (m _ _ l11.1) F11 F11.b2 (ok_all_ahead F11 T C_has_all C_joined);have M_Jobs:Mkr l.prog w K mg B C "Jobs" 4 ["self", "names", "orders"] (spInit C):=⟨f12,_,⟨mk,l12.1,l12.2.1,kc⟩,m _ _ aC,F12.b3,(ok_Jobs_init F12 T U C_check_names C_check_parts C_all_ahead C_told_ahead)⟩;have M_names:=mth l.prog w B l13 F13 F13.b1 (zI2 F13 T U);have M_turned:=mth l.prog w B l14 F14 F14.b1 (zH0 F14 T U M_Jobs);have M_behind:=mth l.prog w B l15 F15 F15.b2 (zH1 F15 T U C_check_job);have M_ahead:=mth l.prog w B l16 F16 F16.b2 (zI3 F16 T U C_check_job);have M_has_between:=mth l.prog w B l17 F17 F17.b3 (zEh F17 T U);have M_straight:=mth l.prog w B l18 F18 F18.b2 (zGe F18 T U M_behind M_has_between);have C_last:=cal l.prog w B (m _ _ a19) F19 F19.b1 (ok_last u19 v19 T U BL (CH (c,Pt) (by simp)) M_names M_behind);have C_heights:=cal l.prog w B (m _ _ l20.1) F20 F20.b1 (ok_heights F20 T U C_last M_behind);have C_is_whole:=cal l.prog w B (m _ _ l21.1) F21 F21.b1 (ok_is_whole F21 T);have C_check_benches:=cal l.prog w B (m _ _ l22.1) F22 F22.b1 (zGd F22 C_is_whole);have C_is_ready:=cal l.prog w B (m _ _ l23.1) F23 F23.b3 (ok_is_ready F23 T U M_ahead);have C_ptake:=cal l.prog w B (m _ _ l24.1) F24 F24.b2 (ok_ptake F24);have C_check_row:=cal l.prog w B (m _ _ l25.1) F25 F25.b2 (ok_check_row F25 T C_one_of);have C_listed:=cal l.prog w B (m _ _ l26.1) F26 F26.b3 (ok_listed F26 T U M_names C_check_benches C_check_row C_is_ready C_ptake);have C_gath:=cal l.prog w B (m _ _ l27.1) F27 F27.b1 (zG9 F27 T U M_names M_straight);have C_highest:=cal l.prog w B (m _ _ a28) F28 F28.b2 (zGc u28 v28 T U BL (CH (cU,Pu) (by simp)) C_heights M_names C_listed);have C_turns_filled:=cal l.prog w B (m _ _ l29.1) F29 F29.b2 (zG7 F29);have C_paper_number:=cal l.prog w B (m _ _ l30.1) F30 F30.b3 (zG8 F30 T C_turns_filled);have C_wood_plan:=cal l.prog w B (m _ _ l31.1) F31 F31.b2 (ok_wood_plan F31 T U C_check_benches C_gath C_highest C_paper_number C_heights M_turned);have C_lnames:=cal l.prog w B (m _ _ l32.1) F32 F32.b2 (ok_names F32 T C_take);have C_pairs:=cal l.prog w B (m _ _ l33.1) F33 F33.b4 (ok_pairs F33 T C_take);have C_more_pairs:=cal l.prog w B (m _ _ l34.1) F34 F34.b2 (zI1 F34 T C_take);have C_wood:=cal l.prog w B (m _ _ l35.1) F35 F35.b2 (ok_wood F35 T C_take C_lnames C_pairs C_more_pairs);have C_lbehind:=cal l.prog w B (m _ _ l36.1) F36 F36.b2 (ok_behind F36 T);have C_choices:=cal l.prog w B (m _ _ l37.1) F37 F37.b2 (zIe F37 T (m _ _ l37.1) F37.b2 5);have C_onward:=cal l.prog w B (m _ _ l38.1) F38 F38.b4 (ok_onward F38 T C_choices);have C_least:=cal l.prog w B (m _ _ l39.1) F39 F39.b3 (ok_least F39 T C_onward);exact ok_law F40 n_Pt_Pu T C_cell C_purse C_take C_wood C_lbehind C_wood_plan C_least M_Jobs
theorem walk {c Pt cU Pu:Addr} {l:PySem.W.OpenLaw} {q:Program} {loose:List Str} {XP:(Str->Option Value)->Heap->Prop} {YP:World->Heap->Prop} {d:DefRec} {K:Params->PySem.W.Frag} (hn:l.most=some 63) (hdf:d.params.defaults=[])
  (hY:∀(w:World) (h:Heap),YP w h->(K w.params).In h) (hT:∀(w:World) (h:Heap),YP w h->PySem.W.TabsAt [(c,Pt),(cU,Pu)] h) (hKT:∀(w:World),∀q∈[(c,Pt),(cU,Pu)],(K w.params).lookup q.2=none)
  (F:∀(w:World) (mg:Str->Option Value) (fa:Addr) (h:Heap),(K w.params).In h->h.Ns mainGlobals mg->mg d.name=some (.ref fa) ->
   ∃fd:FuncData,(∀(s:Shared) (u:Value),BindsTo s fd ⟨[u],[]⟩ [("_law_script",u)])/\∀base:Heap,(K w.params).In base->base.Ns mainGlobals mg->zHt mg base->(∀q∈[(c,Pt),(cU,Pu)],PySem.W.CodeHd base q.1 q.2)->FnOk l.prog w (K w.params) mg base CX0 11 fa fd ["_law_script"] (spLaw (K w.params) Pt Pu)) :
  PySem.W.WalkO q loose XP YP l.row.toRowW d [] (fun f vs=>PySem.call f vs) :=
 L2.walk_ofT (n:=63) (k:=11) (x:= "_law_script") (CX:=fun _=>CX0) (sp:=fun w=>spLaw (K w.params) Pt Pu) hn (by decide) hdf ⟨rfl,by decide,by decide,rfl⟩ hY hT hKT F (fun _ _ a ns hl hS hH=>⟨a,ns,rfl,hS,hl,.inl (hH (c,Pt) (by simp)),.inl (hH (cU,Pu) (by simp)),fun _=>rfl⟩) fun _ _ _ _ _ z=>z
end My
namespace PySem.W.Fast
def tw14819262509886565433:Nat:=0
def tw10448959797750222068:Nat:=0
def tw10721427059337860362:Nat:=0
def tw12477540991350571116:Nat:=0
def tw1905784293406604535:Nat:=0
def tw6504117297160906809:Nat:=0
def tw16384309334666648593:Nat:=0
def tw14150009922465804265:Nat:=0
def tw7171485024939854254:Nat:=0
def tw8709221753483647390:Nat:=0
def tw8675335543866247830:Nat:=0
def tw12547416061119501220:Nat:=0
def tw17715492442647265072:Nat:=0
def tw17802244331273790795:Nat:=0
def tw11350840329726169778:Nat:=0
def tw9108536553021647298:Nat:=0
def tw5514839208225003138:Nat:=0
def tw14448435662621400072:Nat:=0
def tw6306652427381356814:Nat:=0
def tw5606607188202052166:Nat:=0
def tw12543216234414097133:Nat:=0
def tw8145015243285248155:Nat:=0
def tw6254153411557953456:Nat:=0
def tw18121908602585720994:Nat:=0
def tw3885484758216407499:Nat:=0
def tw2670129855188718427:Nat:=0
def tw15751545515569990805:Nat:=0
def tw9077796467953948068:Nat:=0
def tw4520447807768890599:Nat:=0
def tw9770694918466959573:Nat:=0
def tw5579842997860640273:Nat:=0
def tw18042561306504100561:Nat:=0
def tw2316293933183033159:Nat:=0
def tw6330477174307910323:Nat:=0
def tw4279714413096541917:Nat:=0
def tw11662323060832556436:Nat:=0
def tw17580467014957240920:Nat:=0
def tw5373408961585195159:Nat:=0
def tw3189222486585278771:Nat:=0
def tw10743085251239062292:Nat:=0
def tw1381319382355350665:Nat:=0
def tw17758537041016017703:Nat:=0
def tw17859145721946198344:Nat:=0
def tw12148866731758324793:Nat:=0
def tw14344692127923641124:Nat:=0
def tw14944916700584537300:Nat:=0
def tw8711770868153144916:Nat:=0
def tw3792000648561019736:Nat:=0
def tw4659873771177441391:Nat:=0
def tw17742979266301013075:Nat:=0
def tw6579722330049189316:Nat:=0
def tw8932989119274078552:Nat:=0
def tw4098755892378047420:Nat:=0
def tw1042963654840447071:Nat:=0
def tw4405573015673652887:Nat:=0
def tw14495584847881520247:Nat:=0
def tw4533275986567151765:Nat:=0
def tw13779167810896867445:Nat:=0
def tw6218106796197187887:Nat:=0
def tw3694929718196675070:Nat:=0
def tw5507924389440654624:Nat:=0
def tw2890416933466054335:Nat:=0
def tw3945495671942596418:Nat:=0
def tw1129032665891693551:Nat:=0
def tw5862827756220922034:Nat:=0
def tw13297223284194015118:Nat:=0
def tw15577360046794437805:Nat:=0
def tw9690484441532876430:Nat:=0
def tw7567031425895703801:Nat:=0
def tw186202973722193797:Nat:=0
def tw16145664104338322270:Nat:=0
def tw13972312863205377099:Nat:=0
def tw12364311459839890168:Nat:=0
def tw3996650347970820918:Nat:=0
def tw5365893202422689282:Nat:=0
def tw5074632320609484579:Nat:=0
def tw478313023499612833:Nat:=0
def tw10008188883748388020:Nat:=0
def tw4721966613605224826:Nat:=0
def tw14251509756120714057:Nat:=0
def tw10425973568372351753:Nat:=0
def tw1614257965961866978:Nat:=0
def tw13090092171090757717:Nat:=0
def tw15140987725501320876:Nat:=0
def tw14692237917727392029:Nat:=0
def tw12166177164788369915:Nat:=0
def tw1867342831513518042:Nat:=0
def tw8340125815720022388:Nat:=0
def tw6045277683708382345:Nat:=0
def tw2377151034958722945:Nat:=0
def tw16246315860507345448:Nat:=0
def tw7431029128980511029:Nat:=0
def tw1306077727350938521:Nat:=0
def tw12489749959614098843:Nat:=0
def tw12457726241066517235:Nat:=0
def tw4081521669344878427:Nat:=0
def tw309491924637824722:Nat:=0
def tw9356793060268071792:Nat:=0
def tw7965825404664685163:Nat:=0
def tw331866764441769333:Nat:=0
def tw8052771839960895856:Nat:=0
def tw6445717007003900934:Nat:=0
def tw16949596200569992104:Nat:=0
def tw16524428293218283090:Nat:=0
def tw4321877203719828726:Nat:=0
def tw7424444415105884107:Nat:=0
def tw1296955862009460401:Nat:=0
def tw10118647694210536450:Nat:=0
def tw9561203103985806058:Nat:=0
def tw16155388969049186488:Nat:=0
def tw12486548963260634660:Nat:=0
def tw10812916047927406325:Nat:=0
def tw8706030008575719791:Nat:=0
def tw8057955797487178782:Nat:=0
def tw11751079605331957628:Nat:=0
def tw6303832417916102829:Nat:=0
def tw15310041393541704531:Nat:=0
def tw14960744381879241433:Nat:=0
def tw11437441601708818662:Nat:=0
def tw536809568992763945:Nat:=0
def tw7463662185766329168:Nat:=0
def tw7553543828056676617:Nat:=0
def tw9894766872805823978:Nat:=0
def tw3847161648071078280:Nat:=0
def tw3851397818603031633:Nat:=0
def tw974880804988277294:Nat:=0
def tw18130762890194091169:Nat:=0
def tw15115733883409090176:Nat:=0
def tw6846754120283420623:Nat:=0
def tw16461353949825126984:Nat:=0
def tw15527201868069232486:Nat:=0
def tw7047340464712899738:Nat:=0
def tw15022431561810420538:Nat:=0
def tw3210931219677862196:Nat:=0
def tw2149679511738218570:Nat:=0
def tw12555315866602173694:Nat:=0
def tw2747721292320615343:Nat:=0
def tw1856146933020334955:Nat:=0
def tw12912234317064208636:Nat:=0
def tw14482790950455199151:Nat:=0
def tw14575588055348909825:Nat:=0
def tw2626786829601053497:Nat:=0
def tw3355932474992943478:Nat:=0
def tw3037922678579027450:Nat:=0
def tw5246819520829167433:Nat:=0
def tw14855318614656090481:Nat:=0
def tw15644188386746821167:Nat:=0
def tw1735801926518234938:Nat:=0
def tw1201977744555640748:Nat:=0
def tw17799539717867970201:Nat:=0
def tw15160430989876218865:Nat:=0
def tw18186462469156286214:Nat:=0
def tw14389868516822689984:Nat:=0
def tw12891318831310160351:Nat:=0
def tw13441963651765718134:Nat:=0
def tw12386368545694313948:Nat:=0
def tw6038900006712067294:Nat:=0
def tw15071664884292699071:Nat:=0
def tw8786326841064964225:Nat:=0
def tw2630342106588729937:Nat:=0
def tw14440995791627131741:Nat:=0
def tw4327948363748412894:Nat:=0
def tw6334562078963187445:Nat:=0
def tw12847850336422365862:Nat:=0
def tw8265881655499439300:Nat:=0
def tw1153714517539043210:Nat:=0
def tw8916183716601184081:Nat:=0
def tw15769230848533358250:Nat:=0
def tw15641025419769860132:Nat:=0
def tw17752781716368819899:Nat:=0
def tw5621409969440017751:Nat:=0
def tw10243818889497338528:Nat:=0
def tw14482382975305979109:Nat:=0
def tw4267345235750435373:Nat:=0
def tw12809778566505110268:Nat:=0
def tw6539179025643044737:Nat:=0
def tw6681817460868303656:Nat:=0
def tw1868356736283353608:Nat:=0
def tw4455081175783382531:Nat:=0
def tw14517729390716767047:Nat:=0
def tw3843883432600759329:Nat:=0
def tw5066526430896684855:Nat:=0
def tw18419332552517721025:Nat:=0
def tw14601035789438392721:Nat:=0
def tw18439768717717536622:Nat:=0
def tw4525560074285132839:Nat:=0
def tw12557751645924829658:Nat:=0
end PySem.W.Fast
open PySem PySem.W PyProof.Rows
set_option maxRecDepth 100000 in
set_option maxHeartbeats 0 in
theorem PySem.Challenge.cw_levelbench_k55_whole_woods_by_all_ways_holds : PySem.Challenge.rw_levelbench_k55_whole_woods_by_all_ways.Holds := by
 w_on;o_law;k_head;(case hw=>w_witness2)
 k_fill
 refine My.walk (c:=171) (Pt:=167) (cU:=256) (Pu:=252) (l:=PySem.Challenge.rw_levelbench_k55_whole_woods_by_all_ways) rfl rfl (fun w h Y=>PySem.W.km_in_of Y) (fun w h Y=>qDa.mpr ⟨⟨PySem.W.codeHd_of_K (c:=171) (P:=167) (PySem.W.km_in_of Y) (by kernel_rfl),PySem.W.km_tabs_of Y 167 (by k_mem)⟩,qDa.mpr ⟨⟨PySem.W.codeHd_of_K (c:=256) (P:=252) (PySem.W.km_in_of Y) (by kernel_rfl),PySem.W.km_tabs_of Y 252 (by k_mem)⟩,fun _ h=>nomatch h⟩⟩) (fun w=>qDa.mpr ⟨by kernel_rfl,qDa.mpr ⟨by kernel_rfl,fun _ h=>nomatch h⟩⟩) ?F
 case F =>
  intro w mg fa h KX G hmg;refine' My.all_mk (c:=171) (Pt:=167) (cU:=256) (Pu:=252) KX G hmg ?h0 ?h1 ?h2 ?h3 ?h4 ?h5 ?h6 ?h7 ?h8 ?h9 ?h10 ?h11 ?h12 ?h13 ?h14 ?h15 ?h16 ?h17 ?h18 ?h19 ?h20 ?h21 ?h22 ?h23 ?h24 ?h25 ?h26 ?h27 ?h28 ?h29 ?h30 ?h31 ?h32 ?h33 ?h34 ?h35 ?h36 ?h37 ?h38 ?h39 ?h40 ?h41 ?h42 ?h43 ?h44 ?h45 ?h46 ?h47 ?h48 ?h49 ?h50 ?h51 ?h52 ?h53 ?h54
  all_goals try first| k_is| exact ⟨by k_is,_,_,_,_,_,_,_,_,_,by k_is,by k_is,by k_is⟩| exact ⟨by k_is,_,_,_,_,_,_,_,_,by k_is,by k_is,by k_is⟩| exact ⟨by k_is,by k_is,_,_,_,_,_,_,_,_,_,by k_is,by k_is,by k_is⟩| kernel_rfl| decide
