import PyProof.Rows.All
import Wide.All
import OpenK.AllK
import Wide.FinOn
import Lean
import PyProof.EqAt
import PyProof.EqKinds
import PyProof.TupleCall
import PyProof.StrLawsTight
import PyProof.FitsReplace
import KE.KSortTup
import PyProof.TupleKey
import PyProof.SetKind
import PyProof.IsRules
import PyProof.Rows.SetFrom
import PyProof.CollectWalk
import PyProof.DictUpdate
import PyProof.AutoListH
import PyProof.SeqI3
import PyProof.EnumStmt
import PyProof.EnumMake
import PyProof.Rows.CallKwBuiltin
import PyProof.NeKinds
import PyProof.StationsW
import PyProof.ExcClass3
import PyProof.PassesOwn
import OpenK.KOwn
import PyProof.RulesAs
import PyProof.RulesDel
import KE.KIsAll
import PyProof.ExcArgsOwn
import PyProof.StrLawsIn
import PyProof.Rows.Range3
import PyProof.Rows.FStr
import PyProof.DictItems
import PyProof.AttrMissHeap
import PyProof.ListCopy
import KE.KDictOf
import KE.KDictSum
import PyProof.Rows.SortRev
import PyProof.Rows.IntMath
import KE.KLam
import KE.KSortKey
import KE.KNestM
import KE.KRevIter
import PyProof.Rows.SetObj
import PyProof.InstStoreFacts
import OpenK.KMake
import OpenK.KCls
import OpenK.KMore
import PyProof.ReprHeads
import PyProof.StrLawsRepr
import PySem.Challenge.RW_levelbench_k54_woods_turned_about
set_option Elab.async false
set_option linter.all false
set_option maxRecDepth 100000
def qAA:=@PySem.wpAny_bind
def qAB:=@if_neg
def qAC:=@if_pos
def qAD:=@List.length_map
def qAE:=@PySem.wpAny_pure
def qAF:=@PyProof.Rows.wpS_bind
def qAG:=@Nat.le_refl
def qAH:=@PyProof.Rows.wpS_pure
def qAI:=@List.mem_map
def qAJ:=@PySem.Heap.get?_push_of_some
def qAK:=@PySem.sizeLine_eq
def qAL:=@PySem.Heap.lt_size
def qAM:=@List.size_toArray
def qAN:=@List.mem_of_getElem?
def qAO:=@List.mem_cons
def qAP:=@List.mem_cons_of_mem
def qAQ:=@List.mem_filter
def qAR:=@List.mem_cons_self
def qAS:=@List.map_append
def qAT:=@Nat.le_trans
def qAU:=@decide_eq_true
def qAV:=@Nat.ne_of_lt
def qAW:=@List.mem_append
def qAX:=@Nat.zero_le
def qAY:=@List.length_take
def qAZ:=@List.mem_singleton
def qAa:=@List.length_cons
def qAb:=@PySem.Heap.get?_push_size
def qAc:=@Option.some.inj
def qAd:=@List.map_cons
def qAe:=@List.getElem?_map
def qAf:=@List.getElem?_eq_some_iff
def qAg:=@congrArg
def qAh:=@decide_eq_false
def qAi:=@List.take_length
def qAj:=@PySem.Heap.SameBut.update
def qAk:=@PySem.PassesOwn.never
def qAl:=@Nat.lt_of_lt_of_le
def qAm:=@of_decide_eq_true
def qAn:=@Bool.false_ne_true
def qAo:=@List.length_append
def qAp:=@PySem.wpAny_mono
def qAq:=@Array.getElem?_toList
def qAr:=@List.getElem?_eq_getElem
def qAs:=@Ne.symm
def qAt:=@List.map_map
def qAu:=@Nat.lt_irrefl
def qAv:=@List.mem_append_left
def qAw:=@List.nodup_cons
def qAx:=@List.length_filter_le
def qAy:=@PySem.wpAny_holding
def qAz:=@List.mem_append_right
def qA0:=@List.mem_iff_getElem
def qA1:=@List.nodup_nil
def qA2:=@PyProof.Rows.wpS_forRange
def qA3:=@List.mem_range
def qA4:=@Nat.ne_of_gt
def qA5:=@List.all_eq_true
def qA6:=@List.getD_eq_getElem?_getD
def qA7:=@PySem.Obj.data_mapFields
def qA8:=@List.filter_cons
def qA9:=@PyProof.Rows.wpS_mono
def qBA:=@Array.length_toList
def qBB:=@List.filter_sublist
def qBC:=@PyProof.Rows.wpS_modify
def qBD:=@beq_eq_false_iff_ne
def qBE:=@PySem.wpAny_truthy_bool
def qBF:=@Nat.le_of_eq
def qBG:=@PySem.wpAny_rule
def qBH:=@Option.map_eq_some_iff
def qBI:=@List.lookup_cons
def qBJ:=@PySem.W.kia_one
def qBK:=@PySem.Heap.get?_update_self
def qBL:=@PyProof.Rows.wpS_get
def qBM:=@PyProof.Rows.get?_update_seq
def qBN:=@decide_eq_true_eq
def qBO:=@PyProof.Rows.listUpdate_at
def qBP:=@List.length_reverse
def qBQ:=@Bool.eq_iff_iff
def qBR:=@List.append_nil
def qBS:=@List.length_nil
def qBT:=@Nat.le_add_right
def qBU:=@List.take_append_drop
def qBV:=@PySem.codeAny_builtin
def qBW:=@PySem.wpAny_askSetting
def qBX:=@PySem.F.plainAttrs_list
def qBY:=@List.sum_cons
def qBZ:=@Int.le_refl
def qBa:=@PySem.Heap.size_push
def qBb:=@if_false
def qBc:=@List.foldl_cons
def qBd:=@List.getElem_mem
def qBe:=@Classical.byContradiction
def qBf:=@PySem.Around.under_plainId
def qBg:=@PySem.wpAny_setField
def qBh:=@PySem.mem_of_lookup
def qBi:=@List.getElem?_append_right
def qBj:=@List.getElem?_append_left
def qBk:=@PySem.Heap.get?_update_other
def qBl:=@if_true
def qBm:=@List.length_singleton
def qBn:=@Nat.lt_succ_of_lt
def qBo:=@PyProof.Rows.wpS_lift
def qBp:=@Array.getElem?_eq_some_iff
def qBq:=@List.take_of_length_le
def qBr:=@List.mem_of_mem_take
def qBs:=@PySem.F.called_set
def qBt:=@PySem.wpAny_letGo
def qBu:=@Nat.le_of_lt
def qBv:=@PySem.wpAny_standAt
def qBw:=@PySem.wpAny_passesOwn
def qBx:=@PySem.wpAny_load
def qBy:=@Nat.lt_succ_self
def qBz:=@PySem.wpAny_Call_Name_kw
def qB0:=@List.getElem?_take_of_lt
def qB1:=@List.length_drop
def qB2:=@PySem.wpAny_attempt
def qB3:=@Array.toList_extract
def qB4:=@List.nodup_append
def qB5:=@List.not_mem_nil
def qB6:=@PySem.wpAny_call_entry
def qB7:=@List.filter_append
def qB8:=@List.countP_append
def qB9:=@PyProof.Rows.seqEpoch_at
def qCA:=@PySem.wpAny_newList
def qCB:=@Bool.false_eq_true
def qCC:=@List.getElem?_reverse
def qCD:=@PySem.Paired.length
def qCE:=@List.filterMap_cons
def qCF:=@PySem.wpAny_call
def qCG:=@PySem.codeAny_mono
def qCH:=@Nat.le_succ
def qCI:=@Bool.and_eq_true
def qCJ:=@List.any_cons
def qCK:=@PySem.call_meets
def qCL:=@List.find?_cons
def qCM:=@PySem.wpAny_newObj_type
def qCN:=@Int.emod_nonneg
def qCO:=@Int.emod_lt_of_pos
def qCP:=@Array.forIn_toList
def qCQ:=@PySem.Obj.isFreed_of_fields
def qCR:=@PySem.wpAny_updateSeq
def qCS:=@PySem.wpAny_field
def qCT:=@List.filter_congr
def qCU:=@PySem.wpAny_ite_split
def qCV:=@List.forall_mem_cons
def qCW:=@beq_iff_eq
def qCX:=@List.replicate_succ
def qCY:=@List.append_assoc
def qCZ:=@Nat.lt_trans
def qCa:=@PySem.wpAny_specialOf
def qCb:=@Array.toList_push
def qCc:=@List.pairwise_cons
def qCd:=@List.getElem?_cons_succ
def qCe:=@Nat.not_lt
def qCf:=@Nat.not_lt_zero
def qCg:=@PySem.plainId_quiet
def qCh:=@PySem.typeLookup_type
def qCi:=@PySem.builtinLookup_eq_fast
def qCj:=@List.length_eq_zero_iff
def qCk:=@PySem.Obj.cls_mapFields
def qCl:=@PySem.wpAny_newTuple
def qCm:=@Array.perm_iff_toList_perm
def qCn:=@PySem.wpAny_setField_rec
def qCo:=@List.all_map
def qCp:=@Array.Perm.refl
def qCq:=@PyProof.Rows.wpS_reverse
def qCr:=@PyProof.Rows.listItems_at
def qCs:=@List.mem_reverse
def qCt:=@PySem.wpAny_tryCatch
def qCu:=@PySem.wpAny_execs_nil
def qCv:=@PySem.wpAny_pyIter_list
def qCw:=@PyProof.Rows.callWith_type1
def qCx:=@PySem.wpAny_evalAll_cons
def qCy:=@List.take_sublist
def qCz:=@PySem.SeqAt.EqAt.same
def qC0:=@List.flatten_cons
def qC1:=@Nat.le_of_not_lt
def qC2:=@Nat.lt_of_le_of_lt
def qC3:=@PySem.tupleKind_room_in1
def qC4:=@Nat.add_zero
def qC5:=@Array.toList_append
def qC6:=@List.pairwise_map
def qC7:=@PySem.wpAny_typeOf
def qC8:=@List.map_take
def qC9:=@List.take_succ
def qDA:=@Nat.lt_of_not_le
def qDB:=@PySem.wpAny_callSpecial?_slot
def qDC:=@PySem.wpAny_isInstance
def qDD:=@of_decide_eq_false
def qDE:=@List.length_pos_iff
def qDF:=@PySem.F.slot_enumerate_next
def qDG:=@PySem.F.slot_list_append
def qDH:=@PySem.F.type_list_append
def qDI:=@List.foldl_append
def qDJ:=@List.length_pos_of_mem
def qDK:=@bne_self_eq_false
def qDL:=@Bool.and_eq_true_iff
def qDM:=@List.take_succ_cons
def qDN:=@Nat.le_antisymm
def qDO:=@Array.size_zip
def qDP:=@Nat.min_self
def qDQ:=@Int.zero_add
def qDR:=@List.getElem?_of_mem
def qDS:=@PySem.W.km_in_of
def qDT:=@List.getElem?_set_self
def qDU:=@Array.mem_toList_iff
def qDV:=@PySem.W.cellsFrom_some
def qDW:=@List.mem_of_mem_drop
def qDX:=@Array.getElem?_eq_getElem
def qDY:=@List.mem_of_find?_eq_some
def qDZ:=@List.getElem?_eq_none
def qDa:=@Array.size_setIfInBounds
def qDb:=@PyProof.Rows.F.plain_set_update_loop
def qDc:=@List.getElem?_eq_none_iff
def qDd:=@Option.map_eq_none_iff
def qDe:=@List.getElem?_toArray
def qDf:=@PySem.F.slot_dict_values
def qDg:=@List.mem_erase_of_ne
def qDh:=@List.length_erase_of_mem
def qDi:=@PySem.F.slot_list_extend
def qDj:=@PySem.F.type_list_extend
def qDk:=@PyProof.Rows.callWith_builtin_kwB
namespace L2
open PySem PySem.Spec PyProof.Rows
variable {us:List Value}{x:Str}{u:Value}{a b C:Addr}{P:Program}{w:World}{h base:Heap}{t' i:Nat}{e tg:Expr}{A:Around}{s:Shared}{pins:List (Addr×Obj)}{op:CmpOp}{K:PySem.W.Frag}
abbrev Key:=Sum Int Str
def keyIs:Key->Value->Bool
 | .inl k,v=>Value.isInt k v
 | .inr x,v=>Value.isStrOf x v
def keyH (w:World):Key->Int
 | .inl k=>hashInt k
 | .inr x=>hashStr w x
theorem zA1:∀{k:Key} {v:Value},keyIs k v=true->(∃i t,k=Sum.inl i/\v=Value.int i t)\/(∃x t,k=Sum.inr x/\v=Value.str x t)
 | .inl i,v,h=>by
  obtain ⟨t,e⟩:=Value.isInt_shape (k:=i) (v:=v) h;exact .inl ⟨i,t,rfl,e⟩
 | .inr x,v,h=>by
  obtain ⟨t,e⟩:=Value.isStrOf_shape (x:=x) (v:=v) h;exact .inr ⟨x,t,rfl,e⟩
theorem keyIs_int (i:Int) (t:Tok):keyIs (.inl i) (.int i t)=true:=by simp [keyIs,Value.isInt]
theorem keyIs_str (x:Str) (t:Tok):keyIs (.inr x) (.str x t)=true:=by simp [keyIs,Value.isStrOf]
theorem key_ll (a b:Int):decide ((Sum.inl a:Key)=Sum.inl b)=(a==b):=by
 by_cases e:a=b
 ·subst e;simp
 ·have h:¬(Sum.inl a:Key)=Sum.inl b:=fun q=>e (Sum.inl.inj q);rw [qAh h];exact (qBD.mpr e).symm
theorem key_rr (a b:Str):decide ((Sum.inr a:Key)=Sum.inr b)=decide (a=b):=by
 by_cases e:a=b
 ·subst e;simp
 ·have h:¬(Sum.inr a:Key)=Sum.inr b:=fun q=>e (Sum.inr.inj q);rw [qAh h,qAh e]
theorem key_lr (a:Int) (b:Str):decide ((Sum.inl a:Key)=Sum.inr b)=false:=qAh (fun q=>nomatch q)
theorem key_rl (a:Str) (b:Int):decide ((Sum.inr a:Key)=Sum.inl b)=false:=qAh (fun q=>nomatch q)
def zA6 (prog:Program) (w:World):PySem.KeyKind prog w Key where
 is:=keyIs
 hash:=keyH w
 inj:=fun v a b ha hb=>by
  rcases zA1 ha with ⟨i,t,rfl,rfl⟩| ⟨x,t,rfl,rfl⟩
  ·rcases zA1 hb with ⟨j,u,rfl,e⟩| ⟨y,u,rfl,e⟩
   ·injection e with e1 _;rw [e1]
   ·exact nomatch e
  ·rcases zA1 hb with ⟨j,u,rfl,e⟩| ⟨y,u,rfl,e⟩
   ·exact nomatch e
   ·injection e with e1 _;rw [e1]
 byValue:=fun k v h=>by
  rcases zA1 h with ⟨i,t,rfl,rfl⟩| ⟨x,t,rfl,rfl⟩<;>rfl
 pyHash:=fun hv h=>by
  rcases zA1 hv with ⟨i,t,rfl,rfl⟩| ⟨x,t,rfl,rfl⟩
  ·exact wpAny_pyHash_int h
  ·exact wpAny_pyHash_str h
 eqBool:=fun hu hv h=>by
  rcases zA1 hu with ⟨i,t,rfl,rfl⟩| ⟨x,t,rfl,rfl⟩
  ·rcases zA1 hv with ⟨j,u,rfl,rfl⟩| ⟨y,u,rfl,rfl⟩
   ·rw [key_ll] at h;exact wpAny_eqBool_int h
   ·rw [key_lr] at h;exact SeqAt.EqAt.int_str i t y u _ _ _ _ h
  ·rcases zA1 hv with ⟨j,u,rfl,rfl⟩| ⟨y,u,rfl,rfl⟩
   ·rw [key_rl] at h;exact SeqAt.EqAt.str_int x t j u _ _ _ _ h
   ·rw [key_rr] at h;exact wpAny_eqBool_str h
 «strs»:=fun k x t v h=>by
  rcases zA1 h with ⟨i,u,rfl,e⟩| ⟨y,u,rfl,e⟩
  ·exact nomatch e
  ·injection e with e1 _;subst e1
   cases v<;>rfl
theorem mixKind_int (prog:Program) (w:World) (i:Int) (t:Tok):(zA6 prog w).is (.inl i) (.int i t)=true:=keyIs_int i t
theorem mixKind_str (prog:Program) (w:World) (x:Str) (t:Tok):(zA6 prog w).is (.inr x) (.str x t)=true:=keyIs_str x t
inductive V where
 | non| bl (b:Bool)| int (i:Int)| str (x:Str)| byt (b:Array UInt8)| flt (b:UInt64)| ref (a:Addr)| ty (n:String)
 deriving DecidableEq
variable {xs:List V}{v y:V}
def RelV:V->Value->Prop
 | .non,u=>u=Value.none
 | .bl b,u=>u=Value.bool b
 | .int i,u=>∃t,u=Value.int i t
 | .str x,u=>∃t,u=Value.str x t
 | .byt b,u=>∃t,u=Value.bytes b t
 | .flt b,u=>∃t,u=Value.float b t
 | .ref a,u=>u=Value.ref a
 | .ty n,u=>u=Value.type n
abbrev Vals:List V->List Value->Prop:=Paired RelV
theorem Vals.length (r:Vals xs us):xs.length=us.length:=qCD r
theorem Vals.get:∀{xs:List V} {us:List Value} {i:Nat} {x:V},Vals xs us->xs[i]?=some x->∃u,us[i]?=some u/\RelV x u
 | _,_,_,_,.nil,e=>by simp at e
 | _,_,0,_,.cons r _,e=>by simp at e;subst e;exact ⟨_,rfl,r⟩
 | _,_,i+1,x,.cons _ t,e=>by
  obtain ⟨u,h1,h2⟩:=Vals.get (i:=i) (x:=x) t (by simpa using e);exact ⟨u,by simpa using h1,h2⟩
theorem Vals.set {x:V} (r:RelV x u):∀{xs:List V} {us:List Value} (i:Nat),Vals xs us->Vals (xs.set i x) (us.set i u)
 | _,_,_,.nil=>.nil
 | _,_,0,.cons _ t=>.cons r t
 | _,_,i+1,.cons q t=>.cons q (Vals.set r i t)
theorem Vals.append:∀{xs ys:List V} {us ws:List Value},Vals xs us->Vals ys ws->Vals (xs++ys) (us++ws)
 | _,_,_,_,.nil,s=>s
 | _,_,_,_,.cons r t,s=>.cons r (Vals.append t s)
theorem Vals.take:∀{xs:List V} {us:List Value} (n:Nat),Vals xs us->Vals (xs.take n) (us.take n)
 | _,_,0,_=>.nil
 | _,_,_+1,.nil=>.nil
 | _,_,n+1,.cons r t=>.cons r (Vals.take n t)
theorem Vals.drop:∀{xs:List V} {us:List Value} (n:Nat),Vals xs us->Vals (xs.drop n) (us.drop n)
 | _,_,0,r=>r
 | _,_,_+1,.nil=>.nil
 | _,_,n+1,.cons _ t=>Vals.drop n t
def RelO:Option V->Option Value->Prop
 | some v,some u=>RelV v u
 | none,none=>True
 | _,_=>False
def KV {κ:Type}:List (κ×V)->List (κ×Value)->Prop:=Paired fun (p:κ×V) (q:κ×Value)=>p.1=q.1/\RelV p.2 q.2
def kV:Key->V
 | .inl i=>.int i
 | .inr x=>.str x
inductive HO where
 | lst (xs:List V)
 | tup (xs:List V)
 | dK (kvs:List (Key×V))| dT (kvs:List (List Key×V))
 | set (S:Int->Bool) (n:Nat)
 | ins (C dx:Addr) (fs:List (Str×V))
 | own (x:Addr)
 | xd (fs:List (Str×V))
 | met (f x:Addr)
 | rng (lo hi:Int)
 | frz (o:Obj) (u:HO)
 | tbl (ps:Array Value)
 | ext (φ:Heap->Prop)
variable {o:HO}
abbrev Hp:=Addr->Option HO
variable {H:Hp}
def upd (H:Hp) (a:Addr) (o:HO):Hp:=fun b=>if b=a then some o else H b
theorem upd_same :upd H a o a=some o:=by unfold upd;rw [qAC rfl]
theorem upd_ne (h:b≠a):upd H a o b=H b:=by unfold upd;rw [qAB h]
theorem zBo {u:HO}:upd (upd H a o) a u=upd H a u:=by
 funext b;unfold upd;split<;>rfl
theorem zBl {u:HO} (h:H a=some o) (h':H b=some u) (d:o≠u):a≠b:=by
 intro e;subst e;rw [h] at h';exact d (qAc h')
theorem zAk (h:H a=some o) (h':H b=none):a≠b:=by
 intro e;subst e;rw [h] at h';cases h'
section
variable (P:Program) (w:World)
def zAy (H:Hp) (h:Heap) (a:Addr):HO->Prop
 | .lst xs=>xs.length<=sizeLine/\∃(its:List Value) (n:Nat),Vals xs its/\h.get? a=some {cls:=.type "list",data:=.seq its.toArray n}
 | .tup xs=>xs.length<=sizeLine/\∃its:List Value,Vals xs its/\IsTup h a its.toArray
 | .dK kvs=>kvs.length<=sizeLine/\(a==sysModules)=false/\∃vs,KV kvs vs/\h.DictOf (zA6 P w) a vs
 | .dT kvs=>kvs.length<=sizeLine/\(a==sysModules)=false/\∃xs:List (List Key×Addr×Value),
   Paired (fun (p:List Key×V) (q:List Key×Addr×Value)=>p.1=q.1/\H q.2.1=some (.tup (p.1.map kV))/\RelV p.2 q.2.2) kvs xs /\
   ∃o es ep,h.get? a=some o/\o.ExactDict/\o.data= .dict es ep/\es.toList=xs.map (entryOfKey (tupleKind (zA6 P w)))/\(xs.map (·.1)).Nodup
 | .set S n=>h.SetOf (intKind P w) a S n
 | .ins C dx fs=>H dx=some (.own a)/\fs.length<=1000/\dx≠a/\h.get? a=some (PySem.W.instObj C dx) /\
   ∃mA,h.Ns1 dx mA/\(∀f,RelO (fs.lookup f) (mA f))/\PySem.Within mA (fs.map (·.1))
 | .own _=>∃o,h.get? a=some o
 | .xd fs=>∃mA,h.Ns1 a mA/\∀f,RelO (fs.lookup f) (mA f)
 | .rng lo hi=>∃t u v,h.get? a=some {cls:=.type "range",data:=.fields #[.int lo t,.int hi u,.int 1 v]}
 | .frz o u=>h.get? a=some o/\zAy H h a u
 | .tbl ps=>h.get? a=some {cls:=.none,data:=.fields ps}
 | .met f x=>h.get? a=some (PySem.W.methodObj (.ref f) (.ref x))
 | .ext φ=>φ h/\(∃o,h.get? a=some o)/\∀h1 h2:Heap,φ h1->(∀o,h1.get? a=some o->h2.get? a=some o)->φ h2
def HOk (H:Hp) (h:Heap):Prop:=∀a o,H a=some o->zAy P w H h a o
end
section
variable {P:Program} {w:World} {H H':Hp} {h h':Heap} {a:Addr} {o:HO}
theorem zAy.lt (x:zAy P w H h a o):a<h.objs.size:=by
 cases o with
 | lst xs=>obtain ⟨_,_,_,_,e⟩:=x;exact qAL e
 | tup xs=>obtain ⟨_,_,_,p⟩:=x;exact p.lt
 | dK kvs=>obtain ⟨_,_,_,_,o,_,_,e,_⟩:=x;exact qAL e
 | dT kvs=>obtain ⟨_,_,_,_,o,_,_,e,_⟩:=x;exact qAL e
 | set S n=>obtain ⟨o,_,_,_,e,_⟩:=x;exact qAL e
 | ins C dx fs=>obtain ⟨_,_,_,e,_⟩:=x;exact qAL e
 | own y=>obtain ⟨_,e⟩:=x;exact qAL e
 | xd fs=>obtain ⟨_,⟨_,_,_,e,_⟩,_⟩:=x;exact qAL e
 | rng lo hi=>obtain ⟨_,_,_,e⟩:=x;exact qAL e
 | frz ob u=>obtain ⟨e,_⟩:=x;exact qAL e
 | tbl ps=>exact qAL (show h.get? a=some _ from x)
 | met f y=>exact qAL (show h.get? a=some _ from x)
 | ext φ=>obtain ⟨_,⟨_,e⟩,_⟩:=x;exact qAL e
theorem Paired.mapP {α β:Type} {F G:α->β->Prop}:∀{l₁:List α} {l₂:List β},Paired F l₁ l₂->(∀a b,F a b->G a b)->Paired G l₁ l₂
 | _,_,.nil,_=>.nil
 | _,_,.cons r t,f=>.cons (f _ _ r) (Paired.mapP t f)
theorem zAy.stay (x:zAy P w H h a o) (k:∀b u,(b=a\/H b=some (.own a))->h.get? b=some u->h'.get? b=some u)
  (ho:∀b,H b=some (.own a)->H' b=some (.own a)) (ht:∀b xs,H b=some (.tup xs)->H' b=some (.tup xs)):zAy P w H' h' a o:=by
 induction o with
 | lst xs=>obtain ⟨z,its,n,r,e⟩:=x;exact ⟨z,its,n,r,k _ _ (.inl rfl) e⟩
 | tup xs=>obtain ⟨z,its,r,ob,e,c⟩:=x;exact ⟨z,its,r,ob,k _ _ (.inl rfl) e,c⟩
 | dK kvs=>obtain ⟨z,y,vs,r,ob,es,ep,e,c⟩:=x;exact ⟨z,y,vs,r,ob,es,ep,k _ _ (.inl rfl) e,c⟩
 | dT kvs =>
  obtain ⟨z,y,xs,r,ob,es,ep,e,c⟩:=x;exact ⟨z,y,xs,Paired.mapP r fun p q z=>⟨z.1,ht _ _ z.2.1,z.2.2⟩,ob,es,ep,k _ _ (.inl rfl) e,c⟩
 | set S n=>obtain ⟨ob,es,ep,t,e,c⟩:=x;exact ⟨ob,es,ep,t,k _ _ (.inl rfl) e,c⟩
 | ins C dx fs =>
  obtain ⟨d,z,ne,e,mA,⟨od,es,ep,e2,c⟩,r⟩:=x;exact ⟨ho _ d,z,ne,k _ _ (.inl rfl) e,mA,⟨od,es,ep,k _ _ (.inr d) e2,c⟩,r⟩
 | own y=>obtain ⟨ob,e⟩:=x;exact ⟨ob,k _ _ (.inl rfl) e⟩
 | xd fs=>obtain ⟨mA,⟨od,es,ep,e,c⟩,r⟩:=x;exact ⟨mA,⟨od,es,ep,k _ _ (.inl rfl) e,c⟩,r⟩
 | rng lo hi=>obtain ⟨t,u,v,e⟩:=x;exact ⟨t,u,v,k _ _ (.inl rfl) e⟩
 | frz ob u ih=>obtain ⟨e,q⟩:=x;exact ⟨k _ _ (.inl rfl) e,ih q⟩
 | tbl ps =>
  have e:h.get? a=some {cls:=.none,data:=.fields ps}:=x;show h'.get? a=some {cls:=.none,data:=.fields ps};exact k a _ (.inl rfl) e
 | met f y =>
  have e:h.get? a=some (PySem.W.methodObj (.ref f) (.ref y)):=x;show h'.get? a=some (PySem.W.methodObj (.ref f) (.ref y));exact k a _ (.inl rfl) e
 | ext φ=>obtain ⟨p,⟨o,e⟩,st⟩:=x;exact ⟨st _ _ p fun o q=>k _ _ (.inl rfl) q,⟨o,k _ _ (.inl rfl) e⟩,st⟩
theorem HOk.lt (x:HOk P w H h) (e:H a=some o):a<h.objs.size:=(x a o e).lt
theorem HOk.fresh (x:HOk P w H h) (e:h.objs.size<=a):H a=none:=by
 cases q:H a with
 | none=>rfl
 | some u=>exact absurd (qAl (x.lt q) e) (qAu _)
theorem HOk.kept (x:HOk P w H h) (k:∀b u,h.get? b=some u->h'.get? b=some u):HOk P w H h':=fun a o e =>
 (x a o e).stay (fun b u _ q=>k b u q) (fun _ q=>q) fun _ _ q=>q
theorem HOk.laid (x:HOk P w H h) (k:∀b u,h.get? b=some u->h'.get? b=some u) (hp:h.objs.size<=a) (new:zAy P w (upd H a o) h' a o):HOk P w (upd H a o) h':=fun b u e=>by
 have hn:=x.fresh hp
 by_cases hb:b=a
 ·subst hb;rw [upd_same] at e;cases e;exact new
 ·rw [upd_ne hb] at e;exact (x b u e).stay (fun c v _ q=>k c v q) (fun c q=>by rw [upd_ne (zAk q hn)];exact q) fun c xs q=>by rw [upd_ne (zAk q hn)];exact q
end
def Rd (H:Hp) (a:Addr) (u:HO):Prop:=H a=some u\/∃o,H a=some (.frz o u)
theorem Rd.ok {u:HO} (r:Rd H a u) (x:HOk P w H h):zAy P w H h a u:=by
 rcases r with r| ⟨o,r⟩
 ·exact x a u r
 ·obtain ⟨_,q⟩:=x a _ r;exact q
def Mut:Option HO->Prop
 | some (.lst _)=>True
 | some (.dK _)=>True
 | some (.dT _)=>True
 | some (.set _ _)=>True
 | some (.ins _ _ _)=>True
 | some (.ext _)=>True
 | _=>False
section
variable {P:Program} {w:World} {H:Hp} {h h':Heap} {x e:Addr} {o':HO}
theorem HOk.write (ok:HOk P w H h) (mu:Mut (H x)) (he:e=x\/H e=some (.own x)) (k:∀b u,b≠e->h.get? b=some u->h'.get? b=some u) (heo:∃u,h'.get? e=some u)
  (new:zAy P w (upd H x o') h' x o'):HOk P w (upd H x o') h':=fun b u q=>by
 have nown:∀c y,H c=some (.own y)->c≠x:=fun c y r z=>by subst z;rw [r] at mu;exact mu
 have ntup:∀c xs,H c=some (.tup xs)->c≠x:=fun c xs r z=>by subst z;rw [r] at mu;exact mu
 by_cases hb:b=x
 ·subst hb;rw [upd_same] at q;cases q;exact new
 ·rw [upd_ne hb] at q
  by_cases hbe:b=e
  ·have q':H b=some (.own x):=by
    rcases he with z| z
    ·exact absurd (hbe.trans z) hb
    ·rw [hbe];exact z
   rw [q] at q';cases q';obtain ⟨v,hv⟩:=heo;exact ⟨v,by rw [hbe];exact hv⟩
  ·refine (ok b u q).stay (fun c v hc r=>k c v ?_ r) (fun c r=>by rw [upd_ne (nown c b r)];exact r) fun c xs r=>by rw [upd_ne (ntup c xs r)];exact r
   rcases hc with rfl| hc
   ·exact hbe
   ·rintro rfl;rcases he with z| z
    ·exact nown c b hc z
    ·rw [hc] at z;cases z;exact hb rfl
end
structure Un (fs ex:List Addr) (H H':Hp) (h h':Heap):Prop where
 keep:∀b o,h.get? b=some o->H b=none->b∉fs->b∉ex->h'.get? b=some o
 slot:∀b o,h.get? b=some o->H b=none->b∈fs->b∉ex->∃sl,h'.get? b=some {o with slots:=sl}
 free:∀b o,h.get? b=some o->H b=none->b∉ex->H' b=none
 there:∀b o,h.get? b=some o->b∉ex->∃o',h'.get? b=some o'
 tups:∀b xs,H b=some (.tup xs)->H' b=some (.tup xs)
 frzs:∀b o u,H b=some (.frz o u)->H' b=some (.frz o u)
 tbls:∀b ps,H b=some (.tbl ps)->∃more,H' b=some (.tbl (ps++more))
section
variable {fs fs' ex ex':List Addr} {H H1 H2:Hp} {h h1 h2 h':Heap} {a x e:Addr} {o:HO}
theorem Un.any (u:Un fs ex H H1 h h1) {ob:Obj} (q:h.get? b=some ob) (n:H b=none) (hx:b∉ex):∃sl,h1.get? b=some {ob with slots:=sl}:=by
 by_cases hb:b∈fs
 ·exact u.slot b ob q n hb hx
 ·exact ⟨ob.slots,u.keep b ob q n hb hx⟩
theorem Un.kept (k:∀b u,h.get? b=some u->h'.get? b=some u):Un fs ex H H h h' :=
 ⟨fun b ob q _ _ _=>k b ob q,fun b ob q _ _ _=>⟨ob.slots,k b ob q⟩,fun _ _ _ n _=>n,fun b ob q _=>⟨ob,k b ob q⟩,fun _ _ q=>q,fun _ _ _ q=>q,fun _ ps q=>⟨#[],by rw [q];simp⟩⟩
theorem Un.refl:Un fs ex H H h h:=Un.kept fun _ _ q=>q
theorem Un.laid (k:∀b u,h.get? b=some u->h'.get? b=some u) (hp:h.objs.size<=a) (hn:H a=none):Un fs ex H (upd H a o) h h' where
 keep:=fun b u q _ _ _=>k b u q
 slot:=fun b u q _ _ _=>⟨u.slots,k b u q⟩
 free:=fun b u q n _=>by rw [upd_ne (qAV (qAl (qAL q) hp))];exact n
 there:=fun b u q _=>⟨u,k b u q⟩
 tups:=fun b xs q=>by rw [upd_ne (zAk q hn)];exact q
 frzs:=fun b u xs q=>by rw [upd_ne (zAk q hn)];exact q
 tbls:=fun b ps q=>⟨#[],by rw [upd_ne (zAk q hn),q];simp⟩
theorem Un.write (mu:Mut (H x)) (he:e=x\/H e=some (.own x)) (k:∀b u,b≠e->h.get? b=some u->h'.get? b=some u) (heo:∃u,h'.get? e=some u):Un fs ex H (upd H x o) h h':=by
 have hx:∀b,H b=none->b≠x:=fun b n z=>by subst z;rw [n] at mu;exact mu
 have hb:∀b,H b=none->b≠e:=fun b n z=>by
  subst z;rcases he with r| r
  ·exact hx b n r
  ·rw [n] at r;cases r
 have hm:∀b u,H b=some u->¬Mut (some u)->b≠x:=fun b u q nm z=>by subst z;rw [q] at mu;exact nm mu
 refine ⟨fun b u q n _ _=>k b u (hb b n) q,fun b u q n _ _=>⟨u.slots,k b u (hb b n) q⟩,fun b u q n _=>by rw [upd_ne (hx b n)];exact n,fun b u q _=>?_,
  fun b xs q=>by rw [upd_ne (hm b _ q fun z=>z)];exact q,fun b u xs q=>by rw [upd_ne (hm b _ q fun z=>z)];exact q,fun b ps q=>⟨#[],by rw [upd_ne (hm b _ q fun z=>z),q];simp⟩⟩
 by_cases hbe:b=e
 ·subst hbe;exact heo
 ·exact ⟨u,k b u hbe q⟩
end
def trk (h:Heap) (H:Hp):List Addr:=(List.range h.objs.size).filter fun a=>(H a).isSome
def hidT (h:Heap) (H:Hp):Heap:=PySem.W.hideAll h (trk h H)
theorem hidT_size (h:Heap) (H:Hp):(hidT h H).objs.size=h.objs.size:=PySem.W.hideAll_size _ _
theorem hidT_get {o:Obj} (e:h.get? b=some o) (n:H b=none):(hidT h H).get? b=some o :=
 PySem.W.hideAll_get _ e fun hm=>by
  have q:(H b).isSome=true:=(qAQ.mp hm).2;rw [n] at q;simp at q
theorem of_hidT {o:Obj} (e:(hidT h H).get? b=some o):h.get? b=some o/\H b=none:=by
 have e':h.get? b=some o:=PySem.W.of_hideAll (trk h H) e;refine ⟨e',?_⟩
 cases q:H b with
 | none=>rfl
 | some x =>
  have hm:b∈trk h H:=qAQ.mpr ⟨qA3.mpr (qAL e'),by simp [q]⟩;have z:(hidT h H).get? b=none:=PySem.W.hideAll_none (trk h H) hm;rw [z] at e;cases e
structure Mod (K:PySem.W.Frag) (mg:Str->Option Value) (base:Heap):Prop where
 kin:K.In base
 glob:base.Ns mainGlobals mg
 blt:∃mb,base.Ns builtinsNs mb/\∀x:Str,x≠ "__name__" ->mb x=bootBuiltins x
 nolimit:base.NoLimit
structure Cx where
 prog:Program
 w:World
 K:PySem.W.Frag
 mg:Str->Option Value
 base:Heap
 A:Around
 N:List Str
 s₀:Shared
 H₀:Hp
 env:Env
 outer:List Env
 stack:List Env
 ex:List Addr
 fn:Str->Bool
 calm:Bool
 pn:List (Addr×Obj)
 xe:Value->Shared->Prop
variable {X:Cx}
def frs (l:List Env):List Addr:=l.filterMap (·.frame)
abbrev Cx.fs (X:Cx):List Addr:=frs X.outer
def Vis (sc:Scope) (x:Str):Prop:=sc.names.lookup x=some .local\/sc.names.lookup x=some .cell\/sc.names.lookup x=some .free
def Loc (sc:Scope) (x:Str):Prop:=sc.names.lookup x=some .local\/sc.names.lookup x=some .cell
def Look (env:Env) (h:Heap) (m:Str->Option Value) (x:Str) (u:Value):Prop :=
 (env.kindOf x=some .local/\m x=some u)\/((env.kindOf x=some .cell\/env.kindOf x=some .free)/\∃c,env.cells.lookup x=some c/\h.IsCell c (some u))
structure Cx.Ok (X:Cx):Prop where
 mod:Mod X.K X.mg X.base
 kind:X.env.scope.kind= .function
 glob:X.env.globals=mainGlobals
 blt:X.env.builtins=builtinsNs
 above:X.s₀.heap.objs.size<=X.env.locals
 inj:∀x y c,X.env.cells.lookup x=some c->X.env.cells.lookup y=some c->x=y
 has:∀x,(X.env.kindOf x=some .cell\/X.env.kindOf x=some .free)->∃c,X.env.cells.lookup x=some c
 cab:∀x c,X.fn x=true->X.env.cells.lookup x=some c->X.s₀.heap.objs.size<=c
 hd:X.calm=true->X.A.handled=none
 frames:X.A.frames=some X.stack
 stk:X.stack=X.outer\/(X.stack=X.env::X.outer/\X.env.frame=some X.env.locals)
 exf:∀b∈X.ex,b≠X.env.locals/\∀x c,X.env.cells.lookup x=some c->c≠b
 bs:∀b o,X.base.get? b=some o->X.s₀.heap.get? b=some o/\X.H₀ b=none
 bsz:X.base.objs.size<=X.s₀.heap.objs.size
 noex:∀b o,X.base.get? b=some o->b∉X.ex
 exfs:∀b∈X.ex,b∉X.fs
 funs:X.s₀.heap.FunFrames X.base X.outer
 frf:∀b∈X.fs,X.H₀ b=none
structure Inv (X:Cx) (pins:List (Addr×Obj)) (σ:List (Option V)) (H:Hp) (s:Shared):Prop where
 ok:X.Ok
 os:s.os=X.s₀.os
 bare:AllBare s.gens
 base:Un X.fs X.ex X.H₀ H X.s₀.heap s.heap
 loc:∃m,s.heap.Ns X.env.locals m/\∀(i:Nat) (x:Str) (v:V),X.N[i]?=some x->σ[i]?=some (some v)->Vis X.env.scope x->∃u,RelV v u/\Look X.env s.heap m x u
 cell:∀x c,X.env.cells.lookup x=some c->∃v,s.heap.IsCell c v
 free:H X.env.locals=none
 freeC:∀x c,X.env.cells.lookup x=some c->H c=none
 pin:∀p∈X.pn++pins,s.heap.get? p.1=some p.2/\H p.1=none/\p.1≠X.env.locals/\p.1∉X.fs/\∀v,p.2.data≠.cell v
 hok:HOk X.prog X.w H s.heap
 len:σ.length=X.N.length
section
variable {X:Cx} {pins:List (Addr×Obj)} {σ:List (Option V)} {H H':Hp} {s:Shared} {h':Heap}
theorem Cx.Ok.nofr (ok:X.Ok) {o:Obj} (e:X.base.get? b=some o):b∉X.fs:=fun hb=>by
 have:=(ok.funs.mem hb).1;rw [e] at this;cases this
theorem Inv.bs (I:Inv X pins σ H s):∀b o,X.base.get? b=some o->s.heap.get? b=some o/\H b=none:=fun b o e =>
 ⟨I.base.keep b o (I.ok.bs b o e).1 (I.ok.bs b o e).2 (I.ok.nofr e) (I.ok.noex b o e),I.base.free b o (I.ok.bs b o e).1 (I.ok.bs b o e).2 (I.ok.noex b o e)⟩
theorem Inv.bk (I:Inv X pins σ H s):∀b o,X.base.get? b=some o->s.heap.get? b=some o:=fun b o e=>(I.bs b o e).1
theorem Inv.mod (I:Inv X pins σ H s):Mod X.K X.mg X.base:=I.ok.mod
theorem Inv.kIn (I:Inv X pins σ H s):X.K.In s.heap:=I.ok.mod.kin.keeps I.bk
theorem Inv.nolimit (I:Inv X pins σ H s):s.heap.NoLimit:=I.ok.mod.nolimit.keeps I.bk
theorem Inv.lt (I:Inv X pins σ H s):X.env.locals<s.heap.objs.size:=let ⟨_,hn,_⟩:=I.loc;hn.lt
theorem Inv.sz (I:Inv X pins σ H s):X.s₀.heap.objs.size<=s.heap.objs.size:=qAT I.ok.above (qBu I.lt)
theorem Inv.nofs (I:Inv X pins σ H s) (h:s.heap.objs.size<=a):a∉X.fs:=fun hb=>by
 obtain ⟨_,o,ho,_⟩:=I.ok.funs.mem hb;exact absurd (qAl (qAL ho) (qAT I.sz h)) (qAu _)
theorem Inv.cne (I:Inv X pins σ H s):∀x c,X.env.cells.lookup x=some c->c≠X.env.locals:=fun x c e z=>by
 obtain ⟨v,o,ho,hd⟩:=I.cell x c e;obtain ⟨m,⟨o',es,ep,ho',hd',_⟩,_⟩:=I.loc;rw [z,ho'] at ho;cases ho;rw [hd'] at hd;cases hd
theorem Inv.funs (I:Inv X pins σ H s):s.heap.FunFrames X.base X.outer:=by
 have all:∀(l:List Env),(∀b∈frs l,b∈X.fs)->X.s₀.heap.FunFrames X.base l->s.heap.FunFrames X.base l:=by
  intro l
  induction l with
  | nil=>intro _ _;trivial
  | cons env r ih =>
   intro hs hl;obtain ⟨hk,⟨L,o,hf,hn,ho,hd⟩,hr⟩:=hl;have hL:L∈X.fs:=hs L (by unfold frs;rw [qCE,hf];exact qAR);obtain ⟨sl,e⟩:=I.base.slot L o ho (I.ok.frf L hL) hL fun z=>I.ok.exfs L z hL;exact ⟨hk,⟨L,_,hf,hn,e,hd⟩,ih (fun b hb=>hs b (by unfold frs;rw [qCE,hf];exact qAP _ hb)) hr⟩
 exact all X.outer (fun _ hb=>hb) I.ok.funs
theorem Inv.stack (I:Inv X pins σ H s):s.heap.FunFrames X.base X.stack:=by
 rcases I.ok.stk with e| ⟨e,hf⟩
 ·rw [e];exact I.funs
 ·rw [e];obtain ⟨m,hn,_⟩:=I.loc;refine .cons (by rw [I.ok.kind];decide) hf hn ?_ I.funs;exact Heap.get?_none_of_le (qAT I.ok.bsz I.ok.above)
theorem Inv.stkSub (I:Inv X pins σ H s):∀b∈frs X.stack,b∈X.env.locals::X.fs:=fun b hb=>by
 rcases I.ok.stk with e| ⟨e,hf⟩
 ·rw [e] at hb;exact qAP _ hb
 ·rw [e] at hb;unfold frs at hb;rw [qCE,hf] at hb;exact hb
theorem Inv.stkFree (I:Inv X pins σ H s):∀b∈frs X.stack,H b=none:=fun b hb=>by
 rcases qAO.mp (I.stkSub b hb) with e| hb
 ·rw [e];exact I.free
 ·obtain ⟨_,o,ho,_⟩:=I.ok.funs.mem hb;exact I.base.free b o ho (I.ok.frf b hb) fun z=>I.ok.exfs b z hb
theorem Inv.step {g':Array GenState} {t':Nat} {d':Drawn} {ch:List Addr} (I:Inv X pins σ H s)
  (hch:∀b∈ch,(b∈X.ex\/X.s₀.heap.objs.size<=b)/\b≠X.env.locals/\(∀x c,X.env.cells.lookup x=some c->c≠b)/\∀p∈X.pn++pins,p.1≠b)
  (keep:∀b o,b≠X.env.locals->b∉X.fs->b∉ch->s.heap.get? b=some o->H b=none->h'.get? b=some o)
  (slot:∀b o,b≠X.env.locals->b∈X.fs->b∉ch->s.heap.get? b=some o->H b=none->∃sl,h'.get? b=some {o with slots:=sl}) (free:∀b o,b∉ch->s.heap.get? b=some o->H b=none->H' b=none)
  (there:∀b o,b∉ch->s.heap.get? b=some o->∃o',h'.get? b=some o')
  (tups:∀b xs,H b=some (.tup xs)->H' b=some (.tup xs)) (frzs:∀b o u,H b=some (.frz o u)->H' b=some (.frz o u)) (tbls:∀b ps,H b=some (.tbl ps)->∃more,H' b=some (.tbl (ps++more)))
  (ns:∀m,s.heap.Ns X.env.locals m->h'.Ns X.env.locals m) (hok:HOk X.prog X.w H' h') (hg:AllBare g') :
  Inv X pins σ H' {s with heap:=h',gens:=g',drawn:=d',toks:=t'}:=by
 have neL:∀b o,X.s₀.heap.get? b=some o->b≠X.env.locals:=fun b o e=>qAV (qAl (qAL e) I.ok.above)
 have neC:∀b o,X.s₀.heap.get? b=some o->b∉X.ex->b∉ch:=fun b o e hx hb=>by
  rcases (hch b hb).1 with z| z
  ·exact hx z
  ·exact absurd (qAl (qAL e) z) (qAu _)
 have cellK:∀x c,X.env.cells.lookup x=some c->∀v,s.heap.IsCell c v->h'.IsCell c v:=fun x c e v ⟨o,ho,hd⟩=>by
  have nch:c∉ch:=fun z=>(hch c z).2.2.1 x c e rfl
  by_cases hc:c∈X.fs
  ·obtain ⟨sl,q⟩:=slot c o (I.cne x c e) hc nch ho (I.freeC x c e);exact ⟨_,q,hd⟩
  ·exact ⟨o,keep c o (I.cne x c e) hc nch ho (I.freeC x c e),hd⟩
 refine ⟨I.ok,I.os,hg,⟨fun b o e n hb hx=>?_,fun b o e n hb hx=>?_,fun b o e n hx=>?_,fun b o e hx=>?_,fun b xs e=>tups b xs (I.base.tups b xs e),fun b o xs e=>frzs b o xs (I.base.frzs b o xs e),fun b ps e=>?_⟩,?_,fun x c e=>?_,?_,fun x c e=>?_,fun p hp=>?_,hok,I.len⟩
 ·exact keep b o (neL b o e) hb (neC b o e hx) (I.base.keep b o e n hb hx) (I.base.free b o e n hx)
 ·obtain ⟨sl,e1⟩:=I.base.slot b o e n hb hx;obtain ⟨sl',e2⟩:=slot b _ (neL b o e) hb (neC b o e hx) e1 (I.base.free b o e n hx);exact ⟨sl',e2⟩
 ·obtain ⟨o',e1⟩:=I.base.there b o e hx;exact free b o' (neC b o e hx) e1 (I.base.free b o e n hx)
 ·obtain ⟨o',e1⟩:=I.base.there b o e hx;exact there b o' (neC b o e hx) e1
 ·obtain ⟨m1,e1⟩:=I.base.tbls b ps e;obtain ⟨m2,e2⟩:=tbls b _ e1;exact ⟨m1++m2,by rw [e2,Array.append_assoc]⟩
 ·obtain ⟨m,hn,hl⟩:=I.loc;refine ⟨m,ns m hn,fun i x v e1 e2 e3=>?_⟩;obtain ⟨u,r,l⟩:=hl i x v e1 e2 e3;refine ⟨u,r,?_⟩;rcases l with l| ⟨k,c,e,z⟩
  ·exact .inl l
  ·exact .inr ⟨k,c,e,cellK x c e _ z⟩
 ·obtain ⟨v,z⟩:=I.cell x c e;exact ⟨v,cellK x c e v z⟩
 ·obtain ⟨m,⟨o,_,_,ho,_⟩,_⟩:=I.loc;exact free _ o (fun z=>(hch _ z).2.1 rfl) ho I.free
 ·obtain ⟨v,o,ho,hd⟩:=I.cell x c e;exact free c o (fun z=>(hch c z).2.2.1 x c e rfl) ho (I.freeC x c e)
 ·obtain ⟨e,n,ne,nf,d⟩:=I.pin p hp;have nch:p.1∉ch:=fun z=>(hch p.1 z).2.2.2 p hp rfl;exact ⟨keep p.1 p.2 ne nf nch e n,free p.1 p.2 nch e n,ne,nf,d⟩
theorem Inv.un {t':Nat} (I:Inv X pins σ H s) (u:Un X.fs [] H H' s.heap h') (hok:HOk X.prog X.w H' h'):Inv X pins σ H' {s with heap:=h',toks:=t'}:=by
 obtain ⟨m,⟨o,es,ep,ho,r⟩,_⟩:=id I.loc;obtain ⟨sl,hL⟩:=u.any ho I.free (by simp)
 exact I.step (g':=s.gens) (d':=s.drawn) (ch:=[]) (fun _ z=>nomatch z) (fun b o _ hb _ e n=>u.keep b o e n hb (by simp)) (fun b o _ hb _ e n=>u.slot b o e n hb (by simp)) (fun b o _ e n=>u.free b o e n (by simp)) (fun b o _ e=>u.there b o e (by simp)) u.tups u.frzs u.tbls (fun m' hm=>by
  obtain ⟨o',es',ep',ho',r'⟩:=hm;rw [ho] at ho';cases ho';exact ⟨_,es',ep',hL,r'⟩) hok I.bare
theorem Inv.call {g':Array GenState} {t':Nat} {d':Drawn} {ch:List Addr} (I:Inv X pins σ H s) (u:Un (frs X.stack) ch H H' s.heap h') (hok:HOk X.prog X.w H' h') (hg:AllBare g')
  (hch:∀b∈ch,(b∈X.ex\/X.s₀.heap.objs.size<=b)/\b≠X.env.locals/\(∀x c,X.env.cells.lookup x=some c->c≠b)/\∀p∈X.pn++pins,p.1≠b) :
  Inv X pins σ H' {s with heap:=h',gens:=g',drawn:=d',toks:=t'}:=by
 obtain ⟨m,⟨o,es,ep,ho,r⟩,_⟩:=id I.loc;obtain ⟨sl,hL⟩:=u.any ho I.free fun z=>(hch _ z).2.1 rfl
 exact I.step (ch:=ch) hch (fun b o hL hb hc e n=>u.keep b o e n (fun z=>(qAO.mp (I.stkSub b z)).elim hL hb) hc) (fun b o _ _ hc e n=>u.any e n hc) (fun b o hc e n=>u.free b o e n hc) (fun b o hc e=>u.there b o e hc) u.tups u.frzs u.tbls (fun m' hm=>by
  obtain ⟨o',es',ep',ho',r'⟩:=hm;rw [ho] at ho';cases ho';exact ⟨_,es',ep',hL,r'⟩) hok hg
theorem Inv.turned {t':Nat} {it:Addr} (I:Inv X pins σ H s) (k:∀b o,b≠it->s.heap.get? b=some o->h'.get? b=some o) (hn:H it=none) (hL:it≠X.env.locals)
  (h1:it∈X.ex\/X.s₀.heap.objs.size<=it) (h2:∀x c,X.env.cells.lookup x=some c->c≠it) (h3:∀p∈X.pn++pins,p.1≠it):Inv X pins σ H {s with heap:=h',toks:=t'}:=by
 have nit:∀b u,H b=some u->b≠it:=fun b u e z=>by rw [z,hn] at e;cases e
 refine I.step (g':=s.gens) (d':=s.drawn) (ch:=[it]) (fun b hb=>?_) (fun b o _ _ hc e _=>k b o (fun z=>hc (by simp [z])) e) (fun b o _ _ hc e _=>⟨o.slots,k b o (fun z=>hc (by simp [z])) e⟩) (fun _ _ _ _ n=>n)
  (fun b o hc e=>⟨o,k b o (fun z=>hc (by simp [z])) e⟩) (fun _ _ e=>e) (fun _ _ _ e=>e) (fun b ps e=>⟨#[],by rw [e];simp⟩) (fun m hm=>?_) (fun b u e=>?_) I.bare
 ·have e:b=it:=by simpa using hb
  subst e;exact ⟨h1,hL,h2,h3⟩
 ·obtain ⟨o,es,ep,ho,r⟩:=hm;exact ⟨o,es,ep,k _ o (qAs hL) ho,r⟩
 ·refine (I.hok b u e).stay (fun c v hc q=>k c v ?_ q) (fun _ q=>q) fun _ _ q=>q;rcases hc with z| z
  ·rw [z];exact nit b u e
  ·exact nit c _ z
theorem Inv.tok (I:Inv X pins σ H s) (t:Nat):Inv X pins σ H {s with toks:=t}:=I.un (h':=s.heap) (t':=t) Un.refl I.hok
theorem Inv.kept {t':Nat} (I:Inv X pins σ H s) (k:∀b u,s.heap.get? b=some u->h'.get? b=some u):Inv X pins σ H {s with heap:=h',toks:=t'}:=I.un (Un.kept k) (I.hok.kept k)
theorem Inv.laid {a:Addr} {o:HO} {t':Nat} (I:Inv X pins σ H s) (k:∀b u,s.heap.get? b=some u->h'.get? b=some u) (hp:s.heap.objs.size<=a) (new:zAy X.prog X.w (upd H a o) h' a o) :
  Inv X pins σ (upd H a o) {s with heap:=h',toks:=t'}:=I.un (Un.laid k hp (I.hok.fresh hp)) (I.hok.laid k hp new)
theorem Inv.write {x e:Addr} {t':Nat} (I:Inv X pins σ H s) (mu:Mut (H x)) (he:e=x\/H e=some (.own x)) (k:∀b u,b≠e->s.heap.get? b=some u->h'.get? b=some u) (heo:∃u,h'.get? e=some u)
  (new:zAy X.prog X.w (upd H x o) h' x o):Inv X pins σ (upd H x o) {s with heap:=h',toks:=t'}:=I.un (Un.write mu he k heo) (I.hok.write mu he k heo new)
theorem Inv.pins_of {pins':List (Addr×Obj)} (I:Inv X pins σ H s) (h:∀p∈pins',s.heap.get? p.1=some p.2/\H p.1=none/\p.1≠X.env.locals/\p.1∉X.fs/\∀v,p.2.data≠.cell v):Inv X pins' σ H s :=
 ⟨I.ok,I.os,I.bare,I.base,I.loc,I.cell,I.free,I.freeC,fun p hp=>(qAW.mp hp).elim (fun z=>I.pin p (qAv _ z)) (h p),I.hok,I.len⟩
theorem nodup_ix {N:List Str} (hN:N.Nodup) {j:Nat} (a:N[i]?=some x) (b:N[j]?=some x):i=j:=by
 obtain ⟨h1,e1⟩:=qAf.mp a;obtain ⟨h2,e2⟩:=qAf.mp b;exact (List.getElem_inj hN).mp (e1.trans e2.symm)
theorem store_ok2 {M:Model} {E:Value->Shared->Prop} {Q:Unit->Shared->Prop} (I:Inv X pins σ H s) (hN:X.N.Nodup) (hi:X.N[i]?=some x) (hx:Loc X.env.scope x) (r:RelV v u)
  (h:∀s',Inv X pins (σ.set i (some v)) H s'->(∃a,Heap.SameBut a s.heap s'.heap/\(a=X.env.locals\/X.env.cells.lookup x=some a))->Q () s') (hf:X.fn x=true\/X.env.scope.names.lookup x=some .local:=by first| exact .inl rfl| exact .inr rfl| assumption):wpAny M A (storeName X.env x u) Q E s:=by
 obtain ⟨m,hn,hl⟩:=id I.loc;have hcls:(X.env.scope.kind== .class||(X.env.scope.kind== .module&&X.env.locals != X.env.globals))=false:=by rw [I.ok.kind];rfl
 have hiσ:i<σ.length:=by rw [I.len];exact (qAf.mp hi).1
 have cne:=I.cne
 have tracked:∀{a:Addr} {h':Heap},(∃o,s.heap.get? a=some o/\H a=none)->Heap.SameBut a s.heap h'->HOk X.prog X.w H h':=fun {a h'} ha hs b ob e=>by
  obtain ⟨_,_,hfree⟩:=ha;refine (I.hok b ob e).stay (fun c w' hc q=>(hs.2 c ?_).trans q) (fun _ q=>q) fun _ _ q=>q;rintro rfl;rcases hc with rfl| hc
  ·rw [hfree] at e;cases e
  ·rw [hfree] at hc;cases hc
 rcases hx with hk| hk
 ·refine wpAny_storeName_local hk hn (fun h' hn' hs=>?_) hcls;obtain ⟨oL,_,_,hoL,_⟩:=id hn;refine h _ ⟨I.ok,I.os,I.bare,⟨fun b o e n hb hx=>?_,fun b o e n hb hx=>?_,I.base.free,fun b o e hx=>?_,I.base.tups,I.base.frzs,I.base.tbls⟩,⟨_,hn',fun j y v' e1 e2 e3=>?_⟩,fun y c e=>?_,I.free,I.freeC,fun p hp=>?_,tracked ⟨oL,hoL,I.free⟩ hs,by simpa using I.len⟩ ⟨_,hs,.inl rfl⟩
  ·exact (hs.2 b (qAV (qAl (qAL e) I.ok.above))).trans (I.base.keep b o e n hb hx)
  ·obtain ⟨sl,e1⟩:=I.base.slot b o e n hb hx;exact ⟨sl,(hs.2 b (qAV (qAl (qAL e) I.ok.above))).trans e1⟩
  ·obtain ⟨o',e1⟩:=I.base.there b o e hx;exact ⟨o',(hs.2 b (qAV (qAl (qAL e) I.ok.above))).trans e1⟩
  ·by_cases hj:j=i
   ·subst hj;rw [hi] at e1;cases e1;rw [qDT hiσ] at e2
    cases e2
    exact ⟨u,r,.inl ⟨hk,by simp⟩⟩
   ·rw [List.getElem?_set_ne (qAs hj)] at e2;obtain ⟨u',r',q⟩:=hl j y v' e1 e2 e3;refine ⟨u',r',?_⟩;rcases q with ⟨k,e⟩| ⟨k,c,e,z⟩
    ·refine .inl ⟨k,?_⟩;have:y≠x:=fun e=>hj (nodup_ix hN e1 (e▸hi));simp [this,e]
    ·exact .inr ⟨k,c,e,z.sameBut hs (cne y c e)⟩
  ·obtain ⟨w',z⟩:=I.cell y c e;exact ⟨w',z.sameBut hs (cne y c e)⟩
  ·obtain ⟨e,n,ne,nf,d⟩:=I.pin p hp;exact ⟨(hs.2 p.1 ne).trans e,n,ne,nf,d⟩
 ·have hfn:X.fn x=true:=by
   rcases hf with z| z
   ·exact z
   ·rw [z] at hk;cases hk
  obtain ⟨c,hc⟩:=I.ok.has x (.inl hk);obtain ⟨w',z⟩:=I.cell x c hc;refine wpAny_storeName_cell I.ok.kind hk hc z (fun h' hc' hs=>?_);obtain ⟨oc,hoc,hocd⟩:=id z;refine h {s with heap:=h'} ⟨I.ok,I.os,I.bare,⟨fun b o e n hb hx=>?_,fun b o e n hb hx=>?_,I.base.free,fun b o e hx=>?_,I.base.tups,I.base.frzs,I.base.tbls⟩,⟨m,hn.sameBut hs (qAs (cne x c hc)),fun j y v' e1 e2 e3=>?_⟩,fun y c' e=>?_,I.free,I.freeC,fun p hp=>?_,tracked ⟨oc,hoc,I.freeC x c hc⟩ hs,by simpa using I.len⟩ ⟨c,hs,.inr hc⟩
  ·exact (hs.2 b (qAV (qAl (qAL e) (I.ok.cab x c hfn hc)))).trans (I.base.keep b o e n hb hx)
  ·obtain ⟨sl,e1⟩:=I.base.slot b o e n hb hx;exact ⟨sl,(hs.2 b (qAV (qAl (qAL e) (I.ok.cab x c hfn hc)))).trans e1⟩
  ·obtain ⟨o',e1⟩:=I.base.there b o e hx;exact ⟨o',(hs.2 b (qAV (qAl (qAL e) (I.ok.cab x c hfn hc)))).trans e1⟩
  ·by_cases hj:j=i
   ·subst hj;rw [hi] at e1;cases e1;rw [qDT hiσ] at e2
    cases e2
    exact ⟨u,r,.inr ⟨.inl hk,c,hc,hc'⟩⟩
   ·rw [List.getElem?_set_ne (qAs hj)] at e2;obtain ⟨u',r',q⟩:=hl j y v' e1 e2 e3;refine ⟨u',r',?_⟩;rcases q with q| ⟨k,c',e,z'⟩
    ·exact .inl q
    ·refine .inr ⟨k,c',e,z'.sameBut hs ?_⟩;rintro rfl;exact hj (nodup_ix hN e1 (I.ok.inj _ _ _ e hc▸hi))
  ·by_cases hcc:c'=c
   ·subst hcc;exact ⟨_,hc'⟩
   ·obtain ⟨w2,z2⟩:=I.cell y c' e;exact ⟨w2,z2.sameBut hs hcc⟩
  ·obtain ⟨e,n,ne,nf,d⟩:=I.pin p hp;refine ⟨(hs.2 p.1 ?_).trans e,n,ne,nf,d⟩;intro q;rw [q,hoc] at e;have q':oc=p.2:=qAc e;exact d w' (by rw [<-q'];exact hocd)
theorem store_ok {M:Model} {E:Value->Shared->Prop} {Q:Unit->Shared->Prop} (I:Inv X pins σ H s) (hN:X.N.Nodup) (hi:X.N[i]?=some x) (hx:Loc X.env.scope x) (r:RelV v u)
  (h:∀s',Inv X pins (σ.set i (some v)) H s'->Q () s') (hf:X.fn x=true\/X.env.scope.names.lookup x=some .local:=by first| exact .inl rfl| exact .inr rfl| assumption):wpAny M A (storeName X.env x u) Q E s :=
 store_ok2 I hN hi hx r (fun s' I' _=>h s' I') hf
theorem Inv.call' {s':Shared} {ch:List Addr} (I:Inv X pins σ H s) (ho:s'.os=s.os) (u:Un (frs X.stack) ch H H' s.heap s'.heap) (hok:HOk X.prog X.w H' s'.heap) (hg:AllBare s'.gens)
  (hch:∀b∈ch,(b∈X.ex\/X.s₀.heap.objs.size<=b)/\b≠X.env.locals/\(∀x c,X.env.cells.lookup x=some c->c≠b)/\∀p∈X.pn++pins,p.1≠b):Inv X pins σ H' s':=by
 obtain ⟨h',g',d',t',o'⟩:=s';have e:o'=s.os:=ho;subst e;exact I.call (g':=g') (t':=t') (d':=d') u hok hg hch
end
abbrev XK:=Value->Option Addr->Hp->Prop
abbrev St:=List (Option V)
variable {σ:St}
abbrev VK:=V->Hp->Prop
abbrev TE:=St->Hp->VK->Prop
variable {t:TE}
abbrev TT:=St->Hp->(Bool->Hp->Prop)->Prop
abbrev TA:=St->Hp->(List V->Hp->Prop)->Prop
structure Ends where
 nx:St->Hp->Prop
 rt:VK
 bk:St->Hp->Prop:=fun _ _=>False
 ct:St->Hp->Prop:=fun _ _=>False
variable {D:Ends}
abbrev TS:=Ends->St->Hp->Prop
variable {tb:TS}
def EP (X:Cx) (pins:List (Addr×Obj)) (σ:St) (Q:VK) (u:Value) (s':Shared):Prop:=∃v H',Inv X pins σ H' s'/\RelV v u/\Q v H'
def TP (X:Cx) (pins:List (Addr×Obj)) (σ:St) (Q:Bool->Hp->Prop) (b:Bool) (s':Shared):Prop:=∃H',Inv X pins σ H' s'/\Q b H'
def AP (X:Cx) (pins:List (Addr×Obj)) (σ:St) (Q:List V->Hp->Prop) (us:List Value) (s':Shared):Prop:=∃vs H',Inv X pins σ H' s'/\Vals vs us/\Q vs H'
def SP (X:Cx) (pins:List (Addr×Obj)) (D:Ends) (f:Flow) (s':Shared):Prop :=
 match f with
 | .next=>∃σ' H',Inv X pins σ' H' s'/\D.nx σ' H'
 | .brk=>∃σ' H',Inv X pins σ' H' s'/\D.bk σ' H'
 | .cont=>∃σ' H',Inv X pins σ' H' s'/\D.ct σ' H'
 | .ret u=>∃v σ' H',Inv X pins σ' H' s'/\RelV v u/\D.rt v H'
def PE (X:Cx) (e:Expr) (t:TE):Prop :=
 ∀(pins:List (Addr×Obj)) (s:Shared) (σ:St) (H:Hp) (Q:VK),Inv X pins σ H s->t σ H Q->wpAny (model X.prog X.w) X.A (eval e X.env) (EP X pins σ Q) X.xe s
def PT (X:Cx) (e:Expr) (t:TT):Prop :=
 ∀(pins:List (Addr×Obj)) (s:Shared) (σ:St) (H:Hp) (Q:Bool->Hp->Prop),Inv X pins σ H s->t σ H Q->wpAny (model X.prog X.w) X.A (isTrue e X.env (eval e X.env)) (TP X pins σ Q) X.xe s
def PW (X:Cx) (e:Expr) (t:TT):Prop :=
 ∀(whole:Sem Value) (pins:List (Addr×Obj)) (s:Shared) (σ:St) (H:Hp) (Q:Bool->Hp->Prop),Inv X pins σ H s->t σ H Q->wpAny (model X.prog X.w) X.A (isTrue e X.env whole) (TP X pins σ Q) X.xe s
theorem PW.pt {t:TT} (h:PW X e t):PT X e t:=h _
def PA (X:Cx) (es:List Expr) (t:TA):Prop :=
 ∀(pos:Pos) (pins:List (Addr×Obj)) (s:Shared) (σ:St) (H:Hp) (Q:List V->Hp->Prop),Inv X pins σ H s->t σ H Q->wpAny (model X.prog X.w) X.A (spliced (backTo pos (starEach es X.env))) (AP X pins σ Q) X.xe s
def PS (X:Cx) (st:Stmt) (t:TS):Prop :=
 ∀(pins:List (Addr×Obj)) (s:Shared) (σ:St) (H:Hp) (D:Ends),Inv X pins σ H s->t D σ H->wpAny (model X.prog X.w) X.A (exec st X.env) (SP X pins D) X.xe s
def PSs (X:Cx) (st:List Stmt) (t:TS):Prop :=
 ∀(pins:List (Addr×Obj)) (s:Shared) (σ:St) (H:Hp) (D:Ends),Inv X pins σ H s->t D σ H->wpAny (model X.prog X.w) X.A (execs st X.env) (SP X pins D) X.xe s
theorem thn {α:Type} {t:Sem α} {Q Q':α->Shared->Prop} {M:Model} {E:Value->Shared->Prop} (h:wpAny M A t Q E s) (hQ:∀a s,Q a s->Q' a s):wpAny M A t Q' E s:=qAp h hQ fun _ _ x=>x
section
variable {X:Cx}
def tVar (i:Nat):TE:=fun σ H Q=>∃v,σ[i]?=some (some v)/\Q v H
def tC (v:V):TE:=fun _ H Q=>Q v H
theorem pe_var {pos:Pos} (hN:X.N[i]?=some x) (hv:Vis X.env.scope x) (hd:(x==("__debug__" : Str))=false:=by decide) (hcd:(x==("__classdict__" : Str))=false:=by decide):PE X (.Name x pos) (tVar i):=by
 intro pins s σ H Q I h;obtain ⟨v,e,h⟩:=h;obtain ⟨m,hn,hl⟩:=I.loc;obtain ⟨u,r,l⟩:=hl i x v hN e hv;have fin:EP X pins σ Q u s:=⟨v,H,I,r,h⟩;rcases l with ⟨hk,hm⟩| ⟨hk,c,hc,hcell⟩
 ·exact wpAny_Name (wpAny_loadName_local I.ok.kind hk hn hm fin) hd
 ·rcases hk with hk| hk
  ·exact wpAny_Name (wpAny_loadName_cell I.ok.kind hk hc hcell fin) hd
  ·exact wpAny_Name (wpAny_loadName_free I.ok.kind hk hc hcell fin hcd) hd
theorem zAg {i j pos}:PE X (.Constant (.int i) j pos) (tC (.int i)):=fun _ _ _ H _ I h=>wpAny_Constant_int ⟨.int i,H,I.tok _,⟨_,rfl⟩,h⟩
theorem pe_bl {b j pos}:PE X (.Constant (.bool b) j pos) (tC (.bl b)):=fun _ _ _ H _ I h=>Constant_bool ⟨.bl b,H,I,rfl,h⟩
theorem zId {x j pos}:PE X (.Constant (.str x) j pos) (tC (.str x)):=fun _ _ _ H _ I h=>Calls.Constant_str ⟨.str x,H,I.tok _,⟨_,rfl⟩,h⟩
def Gl (X:Cx) (x:Str):Prop:=X.env.kindOf x=some .globalImplicit
theorem ld_glob {E:Value->Shared->Prop} {pos:Pos} {Q:Value->Shared->Prop} (I:Inv X pins σ H s) (hg:Gl X x) (hm:X.mg x=some u) (h:Q u s)
  (hd:(x==("__debug__" : Str))=false:=by decide):wpAny (model X.prog X.w) X.A (eval (.Name x pos) X.env) Q E s :=
 Calls.Name_function_global I.ok.kind hg (Calls.loadGlobal_global (by rw [I.ok.glob];exact I.mod.glob.keeps I.bk) hm h) hd
theorem zFe {E:Value->Shared->Prop} {pos:Pos} {Q:Value->Shared->Prop} (I:Inv X pins σ H s) (hg:Gl X x) (hm:X.mg x=none) (hv:bootBuiltins x=some u) (h:Q u s)
  (hn:x≠ "__name__" := by decide) (hd:(x==("__debug__" : Str))=false:=by decide):wpAny (model X.prog X.w) X.A (eval (.Name x pos) X.env) Q E s:=by
 obtain ⟨mb,h1,h2⟩:=I.mod.blt;exact Calls.Name_function_global I.ok.kind hg (Calls.loadGlobal_builtin (by rw [I.ok.glob];exact I.mod.glob.keeps I.bk) hm (by rw [I.ok.blt];exact h1.keeps I.bk) ((h2 x hn).trans hv) h) hd
theorem pe_glob {pos:Pos} (hg:Gl X x) (hm:X.mg x=some u) (r:RelV v u) (hd:(x==("__debug__" : Str))=false:=by decide):PE X (.Name x pos) (tC v) :=
 fun _ _ _ H _ I h=>ld_glob I hg hm ⟨v,H,I,r,h⟩ hd
theorem zFt {pos:Pos} (hg:Gl X x) (hm:X.mg x=none) (hv:bootBuiltins x=some u) (r:RelV v u) (hn:x≠ "__name__" := by decide) (hd:(x==("__debug__" : Str))=false:=by decide):PE X (.Name x pos) (tC v) :=
 fun _ _ _ H _ I h=>zFe I hg hm hv ⟨v,H,I,r,h⟩ hn hd
variable {a b:Expr} {ta tb:TE} {pos:Pos}
def PC (X:Cx) (op:CmpOp) (a b:Expr) (t:TE):Prop :=
 ∀(pins:List (Addr×Obj)) (s:Shared) (σ:St) (H:Hp) (Q:VK),Inv X pins σ H s->t σ H Q ->
  wpAny (model X.prog X.w) X.A (eval a X.env) (fun v s₁=>wpAny (model X.prog X.w) X.A (eval b X.env) (fun u s₂=>wpAny (model X.prog X.w) X.A (compareOp op v u) (EP X pins σ Q) X.xe s₂) X.xe s₁) X.xe s
def tB (t:TE):TT:=fun σ H Q=>t σ H fun x H1=>∃c,x= .bl c/\Q c H1
theorem pe_cmp (h:PC X op a b t) (h1:behindInMarks op b=false:=by first| exact nobehind _ (by decide) (by decide)| rfl):PE X (.Compare a [op] [b] pos) t:=fun pins s σ H Q I hw=>wpAny_Compare1 (h pins s σ H Q I hw) h1
theorem zF4 (h:PC X op a b t) (h1:behindInMarks op b=false:=by first| exact nobehind _ (by decide) (by decide)| rfl):PT X (.Compare a [op] [b] pos) (tB t):=by
 intro pins s σ H Q I hw;refine wpAny_isTrue_Compare1 (thn (h pins s σ H _ I hw) fun v s1 h1=>thn h1 fun u s2 h2=>thn h2 fun c s3 ⟨x,H1,I1,r1,q1⟩=>?_) h1;obtain ⟨d,rfl,q⟩:=q1
 cases r1
 exact qBE ⟨H1,I1,q⟩
theorem zC1 (h:PE X e t) (he:∀whole,isTrue e X.env whole=(do let v<-whole;standAt e.pos;holding [v] (truthy v)):=by intro _;rfl):PT X e (tB t):=by
 intro pins s σ H Q I hw;refine isTrue_plain (thn (h pins s σ H _ I hw) fun v s1 ⟨x,H1,I1,r1,q1⟩=>?_) (he _);obtain ⟨d,rfl,q⟩:=q1
 cases r1
 exact qBE ⟨H1,I1,q⟩
variable {tA tB':TT} {rest:List Expr}
def tAnd (t u:TT):TT:=fun σ H Q=>t σ H fun c H1=>if c=true then u σ H1 Q else Q false H1
def tOr (t u:TT):TT:=fun σ H Q=>t σ H fun c H1=>if c=true then Q true H1 else u σ H1 Q
def tNot (t:TT):TT:=fun σ H Q=>t σ H fun c H1=>Q (!c) H1
theorem pw_and1 (ha:PT X a tA):PW X (.BoolOp .And [a] pos) tA:=by
 intro wh pins s σ H Q I h;refine isTrue_and (thn (ha pins s σ H Q I h) fun c s1 e=>?_)
 cases c with
 | true=>exact isTrue_and_nil e
 | false=>exact e
theorem zG2 (ha:PT X a tA):PW X (.BoolOp .Or [a] pos) tA:=by
 intro wh pins s σ H Q I h;refine isTrue_or (thn (ha pins s σ H Q I h) fun c s1 e=>?_)
 cases c with
 | false=>exact isTrue_or_nil e
 | true=>exact e
theorem pw_and (ha:PT X a tA) (hb:PW X (.BoolOp .And (b::rest) pos) tB'):PW X (.BoolOp .And (a::b::rest) pos) (tAnd tA tB'):=by
 intro wh pins s σ H Q I h;refine isTrue_and (thn (ha pins s σ H _ I h) fun c s1 ⟨H1,I1,q1⟩=>?_)
 cases c with
 | true=>exact hb wh pins s1 σ H1 Q I1 q1
 | false=>exact ⟨H1,I1,q1⟩
theorem pw_or (ha:PT X a tA) (hb:PW X (.BoolOp .Or (b::rest) pos) tB'):PW X (.BoolOp .Or (a::b::rest) pos) (tOr tA tB'):=by
 intro wh pins s σ H Q I h;refine isTrue_or (thn (ha pins s σ H _ I h) fun c s1 ⟨H1,I1,q1⟩=>?_)
 cases c with
 | true=>exact ⟨H1,I1,q1⟩
 | false=>exact hb wh pins s1 σ H1 Q I1 q1
theorem zDx (ha:PT X a tA):PT X (.UnaryOp .Not a pos) (tNot tA):=by
 intro pins s σ H Q I h;exact isTrue_not (ha pins s σ H (fun c H1=>Q (!c) H1) I h)
def tAndV (ta tb:TE):TE:=fun σ H Q=>ta σ H fun x H1=>∃c,x= .bl c/\if c=true then tb σ H1 Q else Q (.bl false) H1
def tOrV (ta tb:TE):TE:=fun σ H Q=>ta σ H fun x H1=>∃c,x= .bl c/\if c=true then Q (.bl true) H1 else tb σ H1 Q
def tNotV (ta:TE):TE:=fun σ H Q=>ta σ H fun x H1=>∃c,x= .bl c/\Q (.bl (!c)) H1
theorem pe_one {op} (h:PE X a t):PE X (.BoolOp op [a] pos) t:=fun pins s σ H Q I hw=>BoolOp_one (h pins s σ H Q I hw)
theorem pe_and (ha:PE X a ta) (hb:PE X (.BoolOp .And (b::rest) pos) tb):PE X (.BoolOp .And (a::b::rest) pos) (tAndV ta tb):=by
 intro pins s σ H Q I h;refine BoolOp_and (thn (ha pins s σ H _ I h) fun v s1 ⟨x,H1,I1,r1,q1⟩=>?_);obtain ⟨c,rfl,q1⟩:=q1
 cases r1
 refine qBE ?_
 cases c with
 | true=>exact hb pins s1 σ H1 Q I1 q1
 | false=>exact ⟨.bl false,H1,I1,rfl,q1⟩
theorem pe_or (ha:PE X a ta) (hb:PE X (.BoolOp .Or (b::rest) pos) tb):PE X (.BoolOp .Or (a::b::rest) pos) (tOrV ta tb):=by
 intro pins s σ H Q I h;refine BoolOp_or (thn (ha pins s σ H _ I h) fun v s1 ⟨x,H1,I1,r1,q1⟩=>?_);obtain ⟨c,rfl,q1⟩:=q1
 cases r1
 refine qBE ?_
 cases c with
 | false=>exact hb pins s1 σ H1 Q I1 q1
 | true=>exact ⟨.bl true,H1,I1,rfl,q1⟩
theorem pe_not (ha:PE X a ta):PE X (.UnaryOp .Not a pos) (tNotV ta):=by
 intro pins s σ H Q I h;refine UnaryOp_ (thn (ha pins s σ H _ I h) fun v s1 ⟨x,H1,I1,r1,q1⟩=>?_);obtain ⟨c,rfl,q1⟩:=q1
 cases r1
 exact not_of (qBE ⟨.bl (!c),H1,I1,rfl,q1⟩)
def tIf (t:TT) (ta tb:TE):TE:=fun σ H Q=>t σ H fun c H1=>if c=true then ta σ H1 Q else tb σ H1 Q
theorem pe_ifExp {c:Expr} (hc:PT X c tA) (ha:PE X a ta) (hb:PE X b tb):PE X (.IfExp c a b pos) (tIf tA ta tb):=by
 intro pins s σ H Q I h;refine wpAny_IfExp (thn (hc pins s σ H _ I h) fun d s1 ⟨H1,I1,q1⟩=>?_)
 cases d with
 | true=>exact ha pins s1 σ H1 Q I1 q1
 | false=>exact hb pins s1 σ H1 Q I1 q1
end
def SqL (K:PySem.W.Frag) (H:Hp) (a:Addr) (xs:List V):Prop :=
 Rd H a (.lst xs) \/
  ∃(o:Obj) (its:Array Value) (n:Nat),K.lookup a=some o/\o.cls= .type "list" /\o.dict=none/\o.data= .seq its n/\its.size<=sizeLine/\Vals xs its.toList
def SqT (K:PySem.W.Frag) (H:Hp) (a:Addr) (xs:List V):Prop :=
 Rd H a (.tup xs) \/
  ∃(o:Obj) (its:Array Value) (n:Nat),K.lookup a=some o/\o.cls= .type "tuple" /\o.data= .seq its n/\its.size<=sizeLine/\Vals xs its.toList
def absV:Value->Option V
 | .none=>some .non
 | .bool b=>some (.bl b)
 | .int i _=>some (.int i)
 | .str x _=>some (.str x)
 | .bytes b _=>some (.byt b)
 | .float b _=>some (.flt b)
 | .ref a=>some (.ref a)
 | .type n=>some (.ty n)
 | _=>none
theorem RelV.abs {x:V} (r:RelV x u):absV u=some x:=by
 cases x with
 | non=>cases r;rfl
 | bl _=>cases r;rfl
 | int _=>obtain ⟨t,rfl⟩:=r;rfl
 | str _=>obtain ⟨t,rfl⟩:=r;rfl
 | byt _=>obtain ⟨t,rfl⟩:=r;rfl
 | flt _=>obtain ⟨t,rfl⟩:=r;rfl
 | ref _=>cases r;rfl
 | ty _=>cases r;rfl
theorem RelV.inj {x:V} (r:RelV x u) (q:RelV y u):x=y:=qAc (r.abs.symm.trans q.abs)
theorem Vals.inj:∀{xs ys:List V} {us:List Value},Vals xs us->Vals ys us->xs=ys
 | _,_,_,.nil,.nil=>rfl
 | _,_,_,.cons r t,.cons r' t'=>by rw [r.inj r',Vals.inj t t']
section
variable {X:Cx} {pins:List (Addr×Obj)} {σ:St} {H:Hp} {s:Shared} {a:Addr} {xs ys:List V}
theorem SqL.of {K:PySem.W.Frag} (h:H a=some (.lst xs)):SqL K H a xs:=.inl (.inl h)
theorem SqT.of {K:PySem.W.Frag} (h:H a=some (.tup xs)):SqT K H a xs:=.inl (.inl h)
theorem Inv.list (I:Inv X pins σ H s) (h:SqL X.K H a xs):∃its:List Value,Vals xs its/\PlainL s.heap a its.toArray/\xs.length<=sizeLine:=by
 rcases h with h| ⟨o,its,n,hk,hc,hd,hs,hz,r⟩
 ·obtain ⟨z,its,n,r,e⟩:=h.ok I.hok;exact ⟨its,r,⟨_,n,e,rfl,rfl,rfl⟩,z⟩
 ·refine ⟨its.toList,r,⟨o,n,I.kIn a o hk,hc,hd,by simpa using hs⟩,?_⟩;have e:=r.length;simp only [qBA] at e;lia
theorem Inv.tuple (I:Inv X pins σ H s) (h:SqT X.K H a xs):∃its:List Value,Vals xs its/\IsTup s.heap a its.toArray/\xs.length<=sizeLine:=by
 rcases h with h| ⟨o,its,n,hk,hc,hs,hz,r⟩
 ·obtain ⟨z,its,r,p⟩:=h.ok I.hok;exact ⟨its,r,p,z⟩
 ·refine ⟨its.toList,r,⟨o,I.kIn a o hk,hc,n,by simpa using hs⟩,?_⟩;have e:=r.length;simp only [qBA] at e;lia
theorem Inv.list_inj (I:Inv X pins σ H s) (h:SqL X.K H a xs) (h':SqL X.K H a ys):xs=ys:=by
 obtain ⟨its,r,⟨o,n,e,_,_,d⟩,_⟩:=I.list h;obtain ⟨its',r',⟨o',n',e',_,_,d'⟩,_⟩:=I.list h';rw [e] at e';cases e';rw [d] at d';injection d' with d1 _;have:its=its':=by simpa using qAg Array.toList d1
 subst this;exact r.inj r'
theorem Inv.tuple_inj (I:Inv X pins σ H s) (h:SqT X.K H a xs) (h':SqT X.K H a ys):xs=ys:=by
 obtain ⟨its,r,⟨o,e,_,n,d⟩,_⟩:=I.tuple h;obtain ⟨its',r',⟨o',e',_,n',d'⟩,_⟩:=I.tuple h';rw [e] at e';cases e';rw [d] at d';injection d' with d1 _;have:its=its':=by simpa using qAg Array.toList d1
 subst this;exact r.inj r'
end
abbrev Cx.wish (X:Cx) (E:Value->Shared->Prop):Cx:={X with xe:=E}
abbrev Cx.nox (X:Cx):Cx:=X.wish fun _ _=>False
theorem Cx.Ok.wish (ok:X.Ok) (E:Value->Shared->Prop):(X.wish E).Ok :=
 ⟨ok.mod,ok.kind,ok.glob,ok.blt,ok.above,ok.inj,ok.has,ok.cab,ok.hd,ok.frames,ok.stk,ok.exf,ok.bs,ok.bsz,ok.noex,ok.exfs,ok.funs,ok.frf⟩
theorem Cx.Ok.unwish {E:Value->Shared->Prop} (ok:(X.wish E).Ok):X.Ok :=
 ⟨ok.mod,ok.kind,ok.glob,ok.blt,ok.above,ok.inj,ok.has,ok.cab,ok.hd,ok.frames,ok.stk,ok.exf,ok.bs,ok.bsz,ok.noex,ok.exfs,ok.funs,ok.frf⟩
section
variable {X:Cx} {pins:List (Addr×Obj)} {σ:St} {H:Hp} {s:Shared} {E:Value->Shared->Prop}
theorem Inv.wish (I:Inv X pins σ H s) (E:Value->Shared->Prop):Inv (X.wish E) pins σ H s:=⟨I.ok.wish E,I.os,I.bare,I.base,I.loc,I.cell,I.free,I.freeC,I.pin,I.hok,I.len⟩
theorem Inv.unwish (I:Inv (X.wish E) pins σ H s):Inv X pins σ H s:=⟨I.ok.unwish,I.os,I.bare,I.base,I.loc,I.cell,I.free,I.freeC,I.pin,I.hok,I.len⟩
theorem SP.unwish {f:Flow} {s':Shared} (h:SP (X.wish E) pins D f s'):SP X pins D f s':=by
 cases f with
 | next=>obtain ⟨σ',H',I,q⟩:=h;exact ⟨σ',H',I.unwish,q⟩
 | brk=>obtain ⟨σ',H',I,q⟩:=h;exact ⟨σ',H',I.unwish,q⟩
 | cont=>obtain ⟨σ',H',I,q⟩:=h;exact ⟨σ',H',I.unwish,q⟩
 | ret u=>obtain ⟨v,σ',H',I,r,q⟩:=h;exact ⟨v,σ',H',I.unwish,r,q⟩
theorem PSs.nox {st:List Stmt} {t:TS} (h:PSs X.nox st t):PSs X st t:=fun pins s σ H D I hw =>
 qAp (h pins s σ H D (I.wish _) hw) (fun _ _ q=>q.unwish) fun _ _ z=>False.elim z
end
section
variable {X:Cx} {st:Stmt} {rest:List Stmt} {t u:TS} {e:Expr} {te:TE} {pos:Pos}
def tNext:TS:=fun D σ H=>D.nx σ H
def tSeq (t u:TS):TS:=fun D σ H=>t {D with nx:=u D} σ H
theorem zAq:PSs X [] tNext:=fun _ _ σ H _ I h=>qCu ⟨σ,H,I,h⟩
theorem zAc (h1:PS X st t) (h2:PSs X rest u):PSs X (st::rest) (tSeq t u):=by
 intro pins s σ H D I h;refine wpAny_execs_cons (thn (h1 pins s σ H {D with nx:=u D} I h) fun f s1 q=>?_)
 cases f with
 | next =>
  obtain ⟨σ',H',I',q⟩:=q;exact h2 pins s1 σ' H' D I' q
 | ret v=>exact q
 | brk=>exact q
 | cont=>exact q
theorem zAe (h1:PS X st t):PSs X [st] t:=by
 intro pins s σ H D I h;refine wpAny_execs_cons (thn (h1 pins s σ H D I h) fun f s1 q=>?_)
 cases f with
 | next=>exact qCu q
 | ret v=>exact q
 | brk=>exact q
 | cont=>exact q
theorem Inv.quiet (I:Inv X pins σ H s):interactive X.env=false:=by simp [interactive,I.ok.kind]
def tDrop (te:TE):TS:=fun D σ H=>te σ H fun _ H1=>D.nx σ H1
theorem zA8 (he:PE X e te) (hs:swapsWith e none pos.line X.env=pure false:=by rfl):PS X (.Expr e pos) (tDrop te):=by
 intro pins s σ H D I h;exact wpAny_Expr_any (thn (he pins s σ H _ I h) fun v s1 ⟨x,H1,I1,r1,q1⟩=>⟨σ,H1,I1,q1⟩) I.quiet hs
def tRet (te:TE):TS:=fun D σ H=>te σ H D.rt
theorem zAo (he:PE X e te):PS X (.Return (some e) pos) (tRet te):=by
 intro pins s σ H D I h;exact wpAny_Return_some (thn (he pins s σ H _ I h) fun v s1 ⟨x,H1,I1,r1,q1⟩=>⟨x,σ,H1,I1,r1,q1⟩)
def tIfS (c:TT) (t u:TS):TS:=fun D σ H=>c σ H fun b H1=>if b=true then t D σ H1 else u D σ H1
theorem zBx {c:Expr} {a b:List Stmt} {tc:TT} (hc:PT X c tc) (ha:PSs X a t) (hb:PSs X b u):PS X (.If c a b pos) (tIfS tc t u):=by
 intro pins s σ H D I h;refine wpAny_If (thn (hc pins s σ H _ I h) fun d s1 ⟨H1,I1,q1⟩=>?_)
 cases d with
 | true=>exact ha pins s1 σ H1 D I1 q1
 | false=>exact hb pins s1 σ H1 D I1 q1
def tNever:TS:=fun _ _ _=>False
theorem zAv:PS X st tNever:=fun _ _ _ _ _ _ h=>h.elim
end
abbrev TG:=V->St->Hp->(St->Hp->Prop)->Prop
variable {g:TG}
abbrev TGs:=List V->St->Hp->(St->Hp->Prop)->Prop
def PG (X:Cx) (target:Expr) (t:TG):Prop :=
 ∀(pins:List (Addr×Obj)) (s:Shared) (σ:St) (H:Hp) (v:V) (u:Value) (Q:St->Hp->Prop),Inv X pins σ H s->RelV v u->t v σ H Q ->
  wpAny (model X.prog X.w) X.A (assign target X.env u) (fun _ s'=>∃σ' H',Inv X pins σ' H' s'/\Q σ' H') X.xe s
def PGs (X:Cx) (ts:List Expr) (t:TGs):Prop :=
 ∀(pins:List (Addr×Obj)) (s:Shared) (σ:St) (H:Hp) (vs:List V) (us:List Value) (Q:St->Hp->Prop),Inv X pins σ H s->Vals vs us->t vs σ H Q ->
  wpAny (model X.prog X.w) X.A (assignInOrder ((assignEach ts X.env).map (·.2)) us) (fun _ s'=>∃σ' H',Inv X pins σ' H' s'/\Q σ' H') X.xe s
abbrev TSet:=V->V->V->Hp->(Hp->Prop)->Prop
def PSet (X:Cx) (t:TSet):Prop :=
 ∀(pins:List (Addr×Obj)) (s:Shared) (σ:St) (H:Hp) (o i v:V) (ov iv u:Value) (Q:Hp->Prop),Inv X pins σ H s->RelV o ov->RelV i iv->RelV v u->t o i v H Q ->
  wpAny (model X.prog X.w) X.A (setItem ov iv u) (fun _ s'=>∃H',Inv X pins σ H' s'/\Q H') X.xe s
section
variable {X:Cx} {pos:Pos}
def zJl (i:Nat):TG:=fun v σ H Q=>Q (σ.set i (some v)) H
theorem pg_name (hN:X.N.Nodup) (hi:X.N[i]?=some x) (hx:Loc X.env.scope x) (hf:X.fn x=true\/X.env.scope.names.lookup x=some .local:=by first| exact .inl rfl| exact .inr rfl| assumption):PG X (.Name x pos) (zJl i):=by
 intro pins s σ H v u Q I r h;exact wpAny_assign_Name (store_ok I hN hi hx r (fun s' I'=>⟨_,H,I',h⟩) hf)
def gNil:TGs:=fun vs σ H Q=>vs=[]/\Q σ H
def gCons (t:TG) (u:TGs):TGs:=fun vs σ H Q=>∃v r,vs=v::r/\t v σ H fun σ' H'=>u r σ' H' Q
theorem zDi:PGs X [] gNil:=by
 intro pins s σ H vs us Q I r h;obtain ⟨e,h⟩:=h;subst e
 cases r
 exact assignInOrder_nil ⟨σ,H,I,h⟩
theorem zAw {es:List Expr} {t:TG} {u:TGs} (h1:PG X e t) (h2:PGs X es u)
  (hs:(assignEach (e::es) X.env).map (·.2)=assign e X.env::(assignEach es X.env).map (·.2):=by rfl):PGs X (e::es) (gCons t u):=by
 intro pins s σ H vs us Q I r h;obtain ⟨v,vr,e1,h⟩:=h;subst e1
 cases r with
 | cons r rr =>
  rw [hs];refine assignInOrder_cons (thn (h1 pins s σ H _ _ _ I r h) fun _ s1 ⟨σ1,H1,I1,q1⟩=>?_);exact h2 pins s1 σ1 H1 _ _ Q I1 rr q1
def gTup (K:PySem.W.Frag) (n:Nat) (t:TGs):TG:=fun v σ H Q=>∃a xs,v= .ref a/\SqT K H a xs/\xs.length=n/\t xs σ H Q
theorem pg_tup {es:List Expr} {k:Nat} {t:TGs} {n:Nat} (hc:X.calm=true) (h:PGs X es t)
  (hn:(assignEach es X.env).length=n:=by rfl) (hst:(assignEach es X.env).findIdx? (·.1)=none:=by rfl):PG X (.Tuple es k pos) (gTup X.K n t):=by
 intro pins s σ H v u Q I r hw;obtain ⟨a,xs,e1,hq,hl,hw⟩:=hw;subst e1
 cases r
 obtain ⟨its,rv,ht,hz⟩:=I.tuple hq;refine assign_Tuple_tuple (I.ok.hd hc) ht (by simp [hn,<-hl,rv.length]) hst fun h' hx=>?_;have I1:Inv X pins σ H {s with heap:=h'}:=I.kept (t':=s.toks) fun b o e=>hx b o (qAV (qAL e)) e;exact h pins _ σ H xs _ Q I1 (by simpa using rv) hw
def gSub (to ti:TE) (t:TSet):TG:=fun v σ H Q=>to σ H fun o H1=>ti σ H1 fun i H2=>t o i v H2 fun H3=>Q σ H3
theorem pg_sub {o i:Expr} {to ti:TE} {t:TSet} (ho:PE X o to) (hi:PE X i ti) (hs:PSet X t)
  (ha:∀v,assign (.Subscript o i pos) X.env v=(do
   let ov<-holding [v] (eval o X.env)
   let iv<-holding [v,ov] (eval i X.env)
   standAt pos
   holding [v,ov,iv] (setItem ov iv v)
   release [v,ov,iv] []):=by intro _;rfl):PG X (.Subscript o i pos) (gSub to ti t):=by
 intro pins s σ H v u Q I r h;rw [ha];refine qAA (qAy (thn (ho pins s σ H _ I h) fun ov s1 ⟨x,H1,I1,r1,q1⟩=>?_));refine qAA (qAy (thn (hi pins s1 σ H1 _ I1 q1) fun iv s2 ⟨y,H2,I2,r2,q2⟩=>?_));refine qAA (qBv (qAA (qAy (thn (hs pins s2 σ H2 x y v ov iv u _ I2 r1 r2 r q2) fun _ s3 ⟨H3,I3,q3⟩=>?_))));exact wpAny_release ⟨σ,H3,I3,q3⟩
def tAsg (te:TE) (g:TG):TS:=fun D σ H=>te σ H fun x H1=>g x σ H1 D.nx
theorem ps_asg {te:TE} (he:PE X e te) (hg:PG X tg g) (hs:swapsWithSole [tg] e pos.line X.env=pure false:=by rfl) (hw:swappedStores [tg] e X.env=pure none:=by rfl)
  (h1:(assignEach [tg] X.env).map (·.2)=[assign tg X.env]:=by rfl):PS X (.Assign [tg] e pos) (tAsg te g):=by
 intro pins s σ H D I h;refine wpAny_Assign_stores (thn (he pins s σ H _ I h) fun v s1 ⟨x,H1,I1,r1,q1⟩=>?_) hs hw;rw [h1];exact thn (hg pins s1 σ H1 x v _ I1 r1 q1) fun _ s2 q=>q
theorem ps_set {te:TE} {pos':Pos} (hN:X.N.Nodup) (hi:X.N[i]?=some x) (hx:Loc X.env.scope x) (he:PE X e te) (hs:swapsWith e (some (.Name x pos')) pos.line X.env=pure false:=by rfl) (hf:X.fn x=true\/X.env.scope.names.lookup x=some .local:=by first| exact .inl rfl| exact .inr rfl| assumption) :
  PS X (.Assign [.Name x pos'] e pos) (tAsg te (zJl i)):=by
 intro pins s σ H D I h;refine wpAny_Assign_Name (thn (he pins s σ H _ I h) fun v s1 ⟨y,H1,I1,r1,q1⟩=>?_) hs;exact store_ok I1 hN hi hx r1 (fun s2 I2=>⟨_,H1,I2,q1⟩) hf
end
section
variable {X:Cx} {pos:Pos}
def tWhile (c:TT) (tb:TS):TS:=fun D σ H=>∃W:Nat->St->Hp->Prop,(∃m,W m σ H)/\∀m σ H,W m σ H ->
 c σ H fun b H1=>if b=true then∃N:St->Hp->Prop,(∀σ' H',N σ' H'->∃m',m'<m/\W m' σ' H')/\tb {D with nx:=N,ct:=N,bk:=D.nx} σ H1 else D.nx σ H1
theorem zI4 {c:Expr} {body:List Stmt} {tc:TT} (hp:PassesOwn (model X.prog X.w) X.A X.env X.xe) (hc:PT X c tc) (hb:PSs X body tb):PS X (.While c body [] pos) (tWhile tc tb):=by
 intro pins s σ H D I h;obtain ⟨W,⟨m0,w0⟩,turn⟩:=h;refine wpAny_While (codeAny_whileLoop (fun n s'=>∃σ' H',Inv X pins σ' H' s'/\W n σ' H') ?_ m0 ⟨σ,H,I,w0⟩);rintro n s1 ⟨σ1,H1,I1,w1⟩;refine qBw hp (thn (hc pins s1 σ1 H1 _ I1 (turn n σ1 H1 w1)) fun b s2 ⟨H2,I2,q2⟩=>?_)
 cases b with
 | true =>
  obtain ⟨N,hN,q2⟩:=q2;rw [qAC rfl];refine qBw hp (thn (hb pins s2 σ1 H2 _ I2 q2) fun f s3 q3=>?_)
  cases f with
  | next =>
   obtain ⟨σ3,H3,I3,n3⟩:=q3;obtain ⟨m',hm,w3⟩:=hN σ3 H3 n3;exact ⟨m',hm,σ3,H3,I3,w3⟩
  | cont =>
   obtain ⟨σ3,H3,I3,n3⟩:=q3;obtain ⟨m',hm,w3⟩:=hN σ3 H3 n3;exact ⟨m',hm,σ3,H3,I3,w3⟩
  | brk=>exact q3
  | ret v=>exact q3
 | false =>
  rw [qAB qAn];exact qCu ⟨σ1,H2,I2,q2⟩
end
structure It where
 go:Nat->Hp->Prop
 yld:Nat->Hp->V->Hp->Prop
 stop:Nat->Hp->Prop
def FpOk (X:Cx) (pins:List (Addr×Obj)) (H:Hp) (b:Addr):Prop :=
 H b=none/\b≠X.env.locals/\b∉X.fs/\(b∈X.ex\/X.s₀.heap.objs.size<=b)/\(∀x c,X.env.cells.lookup x=some c->c≠b)/\∀p∈X.pn++pins,p.1≠b
theorem Inv.fpOk {H':Hp} {b:Addr} (I:Inv X pins σ H s) (hb:s.heap.objs.size<=b) (hn:H' b=none):FpOk X pins H' b:=by
 refine ⟨hn,qA4 (qAl I.lt hb),I.nofs hb,.inr (qAT I.sz hb),fun x c e z=>?_,fun p hp z=>?_⟩
 ·obtain ⟨v,q⟩:=I.cell x c e;exact absurd (qAl q.lt (by rw [z];exact hb)) (qAu _)
 ·exact absurd (qAl (qAL (I.pin p hp).1) (by rw [z];exact hb)) (qAu _)
structure Turn (P:Program) (w:World) (K:PySem.W.Frag) (tg:Expr) (J:It) (fp:List Addr) (it:Addr) (tn:Nat->Heap->Prop):Prop where
 mem:it∈fp
 obj:∀i h,tn i h->∀b∈fp,∃o,h.get? b=some o/\∀v,o.data≠.cell v
 keep:∀i h h',tn i h->(∀b∈fp,∀o,h.get? b=some o->h'.get? b=some o)->tn i h'
 item:∀(X:Cx),X.prog=P->X.w=w->X.K=K->X.calm=true->∀(i:Nat) (pins:List (Addr×Obj)) (s:Shared) (σ:St) (H:Hp) (E:Value->Shared->Prop),Inv X pins σ H s->(∀b∈fp,FpOk X pins H b)->tn i s.heap->J.go i H ->
  wpAny (model P w) X.A (pyNext (.ref it)) (fun r s1=>∃u,r=some u /\
   wpAny (model P w) X.A (letOwnedTupleGo tg (.ref it) u) (fun _ s2=>∃x H',Inv X pins σ H' s2/\RelV x u/\J.yld i H x H'/\tn (i+1) s2.heap/\∀b∈fp,H' b=none) E s1) E s
 done:∀(X:Cx),X.prog=P->X.w=w->X.K=K->X.calm=true->∀(i:Nat) (pins:List (Addr×Obj)) (s:Shared) (σ:St) (H:Hp) (E:Value->Shared->Prop),Inv X pins σ H s->(∀b∈fp,FpOk X pins H b)->tn i s.heap->J.stop i H ->
  wpAny (model P w) X.A (pyNext (.ref it)) (fun r s1=>r=none/\Inv X pins σ H s1) E s
 self:∀(A:Around) (i:Nat) (s:Shared) (Q:Value->Shared->Prop) (E:Value->Shared->Prop),tn i s.heap->Q (.ref it) s->wpAny (model P w) A (pyIter (.ref it)) Q E s
abbrev TI:=St->Hp->(It->Hp->Prop)->Prop
def PIE (X:Cx) (pins:List (Addr×Obj)) (σ:St) (tg:Expr) (R:It->Hp->Prop) (itv:Value) (s2:Shared):Prop :=
 ∃(it:Addr) (fp:List Addr) (tn:Nat->Heap->Prop) (J:It) (H':Hp),itv= .ref it/\Inv X pins σ H' s2/\Turn X.prog X.w X.K tg J fp it tn/\tn 0 s2.heap/\(∀b∈fp,FpOk X pins H' b)/\R J H'
def PI (X:Cx) (tg iter:Expr) (wi:TI):Prop :=
 ∀(pins:List (Addr×Obj)) (s:Shared) (σ:St) (H:Hp) (R:It->Hp->Prop),Inv X pins σ H s->wi σ H R ->
  wpAny (model X.prog X.w) X.A (eval iter X.env) (fun v s1=>wpAny (model X.prog X.w) X.A (pyIter v) (PIE X pins σ tg R) X.xe s1) X.xe s
theorem go_of {M:Model} {E:Value->Shared->Prop} {s:Shared} {it:Addr} {o:Obj} {n:String} {vs:Array Value} {Q:Unit->Shared->Prop} (ho:s.heap.get? it=some o) (hc:o.cls= .type n) (hd:o.data= .fields vs)
  (hn:["enumerate", "zip", "dict_itemiterator", "dict_reverseitemiterator", "odict_iterator", "itertools.zip_longest", "itertools.pairwise"].contains n=false) (hQ:Q () s):wpAny M A (letOwnedTupleGo tg (.ref it) u) Q E s:=by
 unfold letOwnedTupleGo
 cases tg<;>first
  | exact qAE hQ
  | (cases u<;>first
    | exact qAE hQ
    | (refine qAA (qBx ho ?_)
       rw [hc,hd];show wpAny M A (if (["enumerate", "zip", "dict_itemiterator", "dict_reverseitemiterator", "odict_iterator", "itertools.zip_longest", "itertools.pairwise"].contains n&&vs[0]?==some (rawInt _))=true then _ else _) Q E s;rw [qAB (by intro h;rw [hn,Bool.false_and] at h;cases h)];exact qAE hQ))
def Itl (K:PySem.W.Frag) (a:Addr):It :=
 ⟨fun i H=>∃xs x,SqL K H a xs/\xs[i]?=some x,fun i H x H'=>H'=H/\∀xs,SqL K H a xs->xs[i]?=some x,fun i H=>∃xs,SqL K H a xs/\xs.length<=i⟩
def Itt (K:PySem.W.Frag) (a:Addr):It :=
 ⟨fun i H=>∃xs x,SqT K H a xs/\xs[i]?=some x,fun i H x H'=>H'=H/\∀xs,SqT K H a xs->xs[i]?=some x,fun i H=>∃xs,SqT K H a xs/\xs.length<=i⟩
def Itr (lo:Int) (n:Nat):It:=⟨fun i _=>i<n,fun i H x H'=>H'=H/\x= .int (lo+i),fun i _=>n<=i⟩
theorem turn_list (a it:Addr):Turn P w K tg (Itl K a) [it] it (fun i h=>h.IsListIter it a i) where
 mem:=by simp
 obj:=fun i h st b hb=>by
  have e:b=it:=by simpa using hb
  subst e;obtain ⟨o,e,c,d⟩:=st;exact ⟨o,e,fun v z=>by rw [d] at z;cases z⟩
 keep:=fun i h h' st k=>st.at fun o e=>k it (by simp) o e
 item:=by
  intro X hP hw hK hc i pins s σ H E I hf st hg;subst hP hw hK;obtain ⟨xs,x,hq,hx⟩:=hg;obtain ⟨its,rv,p,hz⟩:=I.list hq;obtain ⟨u,hu,ru⟩:=rv.get hx;obtain ⟨f0,f1,f2,f3,f4,f5⟩:=hf it (by simp);refine wpAny_pyNext_list_item st p.isList (x:=u) (by simpa using hu) fun h' st' sb=>?_;have I1:Inv X pins σ H {s with heap:=h'}:=I.turned (t':=s.toks) (fun b o hb e=>(sb.2 b hb).trans e) f0 f1 f3 f4 f5;obtain ⟨o,e,c,d⟩:=id st';exact ⟨u,rfl,go_of (s:={s with heap:=h'}) e c d (by decide) ⟨x,H,I1,ru,⟨rfl,fun ys hy=>by rw [I.list_inj hy hq];exact hx⟩,st',fun b hb=>(hf b hb).1⟩⟩
 done:=by
  intro X hP hw hK hc i pins s σ H E I hf st hg;subst hP hw hK;obtain ⟨xs,hq,hx⟩:=hg;obtain ⟨its,rv,p,hz⟩:=I.list hq;obtain ⟨f0,f1,f2,f3,f4,f5⟩:=hf it (by simp);have hl:=rv.length;exact wpAny_pyNext_list_end (I.ok.hd hc) st p.isList (by simp;lia) fun h' eb=>⟨rfl,I.turned (t':=s.toks) (fun b o hb e=>eb b o hb e) f0 f1 f3 f4 f5⟩
 self:=fun _ _ _ _ _ st h=>wpAny_pyIter_listiter st h
theorem turn_tuple (a it:Addr):Turn P w K tg (Itt K a) [it] it (fun i h=>h.IsTupleIter it a i) where
 mem:=by simp
 obj:=fun i h st b hb=>by
  have e:b=it:=by simpa using hb
  subst e;obtain ⟨o,e,c,d⟩:=st;exact ⟨o,e,fun v z=>by rw [d] at z;cases z⟩
 keep:=fun i h h' st k=>st.at fun o e=>k it (by simp) o e
 item:=by
  intro X hP hw hK hc i pins s σ H E I hf st hg;subst hP hw hK;obtain ⟨xs,x,hq,hx⟩:=hg;obtain ⟨its,rv,p,hz⟩:=I.tuple hq;obtain ⟨u,hu,ru⟩:=rv.get hx;obtain ⟨f0,f1,f2,f3,f4,f5⟩:=hf it (by simp);refine wpAny_pyNext_tuple_item st (show s.heap.IsTuple a its.toArray from p) (x:=u) (by simpa using hu) fun h' st' sb=>?_;have I1:Inv X pins σ H {s with heap:=h'}:=I.turned (t':=s.toks) (fun b o hb e=>(sb.2 b hb).trans e) f0 f1 f3 f4 f5;obtain ⟨o,e,c,d⟩:=id st';exact ⟨u,rfl,go_of (s:={s with heap:=h'}) e c d (by decide) ⟨x,H,I1,ru,⟨rfl,fun ys hy=>by rw [I.tuple_inj hy hq];exact hx⟩,st',fun b hb=>(hf b hb).1⟩⟩
 done:=by
  intro X hP hw hK hc i pins s σ H E I hf st hg;subst hP hw hK;obtain ⟨xs,hq,hx⟩:=hg;obtain ⟨its,rv,p,hz⟩:=I.tuple hq;obtain ⟨f0,f1,f2,f3,f4,f5⟩:=hf it (by simp);have hl:=rv.length;exact wpAny_pyNext_tuple_end (I.ok.hd hc) st (show s.heap.IsTuple a its.toArray from p) (by simp;lia) fun h' eb=>⟨rfl,I.turned (t':=s.toks) (fun b o hb e=>eb b o hb e) f0 f1 f3 f4 f5⟩
 self:=fun _ _ _ _ _ st h=>wpAny_pyIter_tupleiter st h
theorem turn_range (it:Addr) (lo:Int) (n:Nat):Turn P w K tg (Itr lo n) [it] it (fun i h=>IsRangeIter h it (lo+(i:Nat)*1) ((n:Int) - (i:Nat)) 1) where
 mem:=by simp
 obj:=fun i h st b hb=>by
  have e:b=it:=by simpa using hb
  subst e
  exact ⟨_,st,fun v z=>by
   have z':Data.fields _=Data.cell v:=z
   cases z'⟩
 keep:=fun i h h' st k=>k it (by simp) _ st
 item:=by
  intro X hP hw hK hc i pins s σ H E I hf st hg;subst hP hw hK;obtain ⟨f0,f1,f2,f3,f4,f5⟩:=hf it (by simp);have W:=Walks.range (prog:=X.prog) (w:=X.w) (I.ok.hd hc) it lo 1 n;refine W.item i s _ _ hg st fun v h' tk hv st' kk=>?_;obtain ⟨t,rfl⟩:=hv;have I1:Inv X pins σ H {s with heap:=h',toks:=tk}:=I.turned (fun b o hb e=>kk b o (by simpa using hb) e) f0 f1 f3 f4 f5;refine ⟨_,rfl,go_of (s:={s with heap:=h',toks:=tk}) (n:= "range_iterator") st' rfl rfl (by decide) ⟨.int (lo+i),H,I1,⟨t,?_⟩,⟨rfl,rfl⟩,st',fun b hb=>(hf b hb).1⟩⟩;rw [Int.mul_one]
 done:=by
  intro X hP hw hK hc i pins s σ H E I hf st hg;subst hP hw hK;obtain ⟨f0,f1,f2,f3,f4,f5⟩:=hf it (by simp);exact wpAny_pyNext_range_end (I.ok.hd hc) st (by have:n<=i:=hg;lia) fun h' eb=>⟨rfl,I.turned (t':=s.toks) (fun b o hb e=>eb b o hb e) f0 f1 f3 f4 f5⟩
 self:=fun _ _ _ _ _ st h=>wpAny_pyIter_rangeiter st h
section
variable {X:Cx} {tg:Expr}
def iList (K:PySem.W.Frag) (tl:TE):TI:=fun σ H R=>tl σ H fun x H1=>∃a,x= .ref a/\(∃xs,SqL K H1 a xs)/\R (Itl K a) H1
def iTup (K:PySem.W.Frag) (tl:TE):TI:=fun σ H R=>tl σ H fun x H1=>∃a,x= .ref a/\(∃xs,SqT K H1 a xs)/\R (Itt K a) H1
theorem zAl {l:Expr} {tl:TE} (hl:PE X l tl):PI X tg l (iList X.K tl):=by
 intro pins s σ H R I h;refine thn (hl pins s σ H _ I h) fun v s1 ⟨x,H1,I1,r1,q1⟩=>?_;obtain ⟨a,e,⟨xs,hq⟩,q⟩:=q1;subst e
 cases r1
 obtain ⟨its,rv,p,hz⟩:=I1.list hq;refine qCv p.isList ?_;refine ⟨s1.heap.objs.size,[s1.heap.objs.size],_,_,H1,rfl,I1.kept (t':=s1.toks) fun b o e=>qAJ _ e,turn_list a _,⟨_,qAb _ rfl,rfl,rfl⟩,fun b hb=>?_,q⟩;have e:b=s1.heap.objs.size:=by simpa using hb
 subst e;exact I1.fpOk (qAG _) (I1.hok.fresh (qAG _))
theorem pi_tup {l:Expr} {tl:TE} (hl:PE X l tl):PI X tg l (iTup X.K tl):=by
 intro pins s σ H R I h;refine thn (hl pins s σ H _ I h) fun v s1 ⟨x,H1,I1,r1,q1⟩=>?_;obtain ⟨a,e,⟨xs,hq⟩,q⟩:=q1;subst e
 cases r1
 obtain ⟨its,rv,p,hz⟩:=I1.tuple hq;refine wpAny_pyIter_tuple (show s1.heap.IsTuple a its.toArray from p) ?_;refine ⟨s1.heap.objs.size,[s1.heap.objs.size],_,_,H1,rfl,I1.kept (t':=s1.toks) fun b o e=>qAJ _ e,turn_tuple a _,⟨_,qAb _ rfl,rfl,rfl⟩,fun b hb=>?_,q⟩;have e:b=s1.heap.objs.size:=by simpa using hb
 subst e;exact I1.fpOk (qAG _) (I1.hok.fresh (qAG _))
theorem range_it {R:It->Hp->Prop} {E:Value->Shared->Prop} {lo hi:Int} {t u v:Tok} {tk:Nat} (I:Inv X pins σ H s) (h1:-(2^62)<=lo) (h2:lo<2^62) (h3:-(2^62)<=hi) (h4:hi<2^62)
  (q:R (Itr lo (hi - lo).toNat) H):wpAny (model X.prog X.w) X.A (pyIter (.ref s.heap.objs.size)) (PIE X pins σ tg R) E {s with heap:=s.heap.push {cls:=.type "range",data:=.fields #[.int lo t,.int hi u,.int 1 v]},toks:=tk}:=by
 refine wpAny_pyIter_range (IsRange.new ..) (small_one h1 h2 h3 h4) ?_;have I1:Inv X pins σ H {s with heap:=s.heap.push {cls:=.type "range",data:=.fields #[.int lo t,.int hi u,.int 1 v]},toks:=tk}:=I.kept fun b o e=>qAJ _ e
 refine ⟨(s.heap.push {cls:=.type "range",data:=.fields #[.int lo t,.int hi u,.int 1 v]}).objs.size,[(s.heap.push {cls:=.type "range",data:=.fields #[.int lo t,.int hi u,.int 1 v]}).objs.size],_,_,H,rfl,
  I1.kept (t':=tk) fun b o e=>qAJ _ e,turn_range _ lo (hi - lo).toNat,?_,fun b hb=>?_,q⟩
 ·have e1:lo+((0:Nat):Int)*1=lo:=by simp
  have e2:(((hi - lo).toNat:Nat):Int) - ((0:Nat):Int)=Builtin.Range.rangeSize lo hi 1:=by rw [rangeSize_one];split<;>lia
  show IsRangeIter _ _ (lo+((0:Nat):Int)*1) ((((hi - lo).toNat:Nat):Int) - ((0:Nat):Int)) 1;rw [e1,e2];exact qAb _ rfl
 ·have e:b=(s.heap.push {cls:=.type "range",data:=.fields #[.int lo t,.int hi u,.int 1 v]}).objs.size:=by simpa using hb
  subst e;exact I1.fpOk (qAG _) (I1.hok.fresh (qAG _))
def iRng1 (ta:TA):TI:=fun σ H R=>ta σ H fun vs H1=>∃j:Int,vs=[.int j]/\-(2^62)<=j/\j<2^62/\R (Itr 0 j.toNat) H1
def iRng2 (ta:TA):TI:=fun σ H R=>ta σ H fun vs H1=>∃i j:Int,vs=[.int i,.int j]/\(-(2^62)<=i/\i<2^62/\-(2^62)<=j/\j<2^62)/\R (Itr i (j - i).toNat) H1
theorem zCq {a:Expr} {ta:TA} {p pos:Pos} (hg:Gl X "range") (hm:X.mg "range" = none) (ha:PA X [a] ta) (hs:starEach [a] X.env=[(false,eval a X.env)]:=by rfl):PI X tg (.Call (.Name "range" p) [a] [] pos) (iRng1 ta):=by
 intro pins s σ H R I h;refine Call_ (zFe I hg hm boot_range (qCw (thn (ha pos pins s σ H _ I h) fun us s1 ⟨vs,H1,I1,r1,q1⟩=>?_) hs rfl));obtain ⟨j,e,q1,q2,q⟩:=q1;subst e
 cases r1 with
 | cons r rr =>
  cases rr
  obtain ⟨t,rfl⟩:=r;exact call_range_1 (range_it I1 (by lia) (by lia) q1 q2 (by simpa using q))
theorem pi_range2 {a b:Expr} {ta:TA} {p pos:Pos} (hg:Gl X "range") (hm:X.mg "range" = none) (ha:PA X [a,b] ta) (hs:starEach [a,b] X.env=[(false,eval a X.env),(false,eval b X.env)]:=by rfl) (hs2:starEach [b] X.env=[(false,eval b X.env)]:=by rfl) :
  PI X tg (.Call (.Name "range" p) [a,b] [] pos) (iRng2 ta):=by
 intro pins s σ H R I h;refine Call_ (zFe I hg hm boot_range (qCw (thn (ha pos pins s σ H _ I h) fun us s1 ⟨vs,H1,I1,r1,q1⟩=>?_) (by rw [hs,hs2]) (by rw [hs2];rfl)));obtain ⟨i,j,e,⟨q1,q2,q3,q4⟩,q⟩:=q1;subst e
 cases r1 with
 | cons r rr =>
  cases rr with
  | cons r' rr =>
   cases rr
   obtain ⟨t,rfl⟩:=r;obtain ⟨t',rfl⟩:=r';exact call_range_2 (range_it I1 q1 q2 q3 q4 q)
def tFor (wi:TI) (g:TG) (tb:TS):TS:=fun D σ H=>wi σ H fun J H1=>∃W:Nat->Nat->St->Hp->Prop,(∃m,W 0 m σ H1)/\∀i m σ H,W i m σ H ->
 (J.stop i H/\D.nx σ H)\/(J.go i H/\∃N:St->Hp->Prop,(∀σ' H',N σ' H'->∃m',m'<m/\W (i+1) m' σ' H')/\∀x H',J.yld i H x H'->g x σ H' fun σ2 H2=>tb {D with nx:=N,ct:=N,bk:=D.nx} σ2 H2)
def pinsAt (fp:List Addr) (h:Heap):List (Addr×Obj):=fp.filterMap fun b=>(h.get? b).map fun o=>(b,o)
theorem zEe {fp:List Addr} {o:Obj} (hb:b∈fp) (e:h.get? b=some o):(b,o)∈pinsAt fp h:=List.mem_filterMap.mpr ⟨b,hb,by rw [e];rfl⟩
theorem of_pinsAt {fp:List Addr} {p:Addr×Obj} (hp:p∈pinsAt fp h):p.1∈fp/\h.get? p.1=some p.2:=by
 obtain ⟨b,hb,e⟩:=List.mem_filterMap.mp hp
 cases q:h.get? b with
 | none=>rw [q] at e;cases e
 | some o =>
  rw [q] at e;have e':(b,o)=p:=qAc e;subst e';exact ⟨hb,q⟩
theorem Inv.pinned {fp:List Addr} (I:Inv X pins σ H s) (hf:∀b∈fp,FpOk X pins H b) (ho:∀b∈fp,∃o,s.heap.get? b=some o/\∀v,o.data≠.cell v):Inv X (pins++pinsAt fp s.heap) σ H s :=
 I.pins_of fun p hp=>(qAW.mp hp).elim (fun z=>I.pin p (qAz _ z)) fun z=>by
  obtain ⟨hb,e⟩:=of_pinsAt z;obtain ⟨f0,f1,f2,_⟩:=hf p.1 hb;obtain ⟨o,e',d⟩:=ho p.1 hb;rw [e] at e';cases e';exact ⟨e,f0,f1,f2,d⟩
theorem Inv.unpinned {pl:List (Addr×Obj)} (I:Inv X (pins++pl) σ H s):Inv X pins σ H s:=I.pins_of fun p hp=>I.pin p (qAz _ (qAv _ hp))
theorem zBb {iter:Expr} {body:List Stmt} {wi:TI} {pos:Pos} (hp:PassesOwn (model X.prog X.w) X.A X.env X.xe) (hc:X.calm=true) (hi:PI X tg iter wi) (hg:PG X tg g) (hb:PSs X body tb)
  (hs:∀x,foldedSetIterable iter X.env x=pure x:=by intro _;rfl):PS X (.For tg iter body [] pos) (tFor wi g tb):=by
 intro pins s σ H D I h;refine wpAny_For (thn (hi pins s σ H _ I h) fun v s1 h1=>thn h1 fun itv s2 h2=>?_) hs;obtain ⟨it,fp,tn,J,H2,e,I2,T,st2,f2,W,⟨m0,w0⟩,turn⟩:=h2;subst e;have stat:∀{H':Hp},(∀b∈fp,H' b=none)->∀b∈fp,FpOk X pins H' b:=fun hn b hb=>⟨hn b hb,(f2 b hb).2⟩;refine codeAny_forLoop_any (fun n s'=>∃i σ' H',Inv X pins σ' H' s'/\tn i s'.heap/\(∀b∈fp,H' b=none)/\W i n σ' H') ?_ m0 ⟨0,σ,H2,I2,st2,fun b hb=>(f2 b hb).1,w0⟩;rintro n s3 ⟨i,σ3,H3,I3,st3,fr3,w3⟩;rcases turn i n σ3 H3 w3 with ⟨stop,qn⟩| ⟨go,N,hN,step⟩
 ·refine qBw hp (thn (T.done X rfl rfl rfl hc i pins s3 σ3 H3 X.xe I3 (stat fr3) st3 stop) fun r s4 ⟨hr,I4⟩=>?_);subst hr;exact qCu ⟨σ3,H3,I4,qn⟩
 ·refine qBw hp (thn (T.item X rfl rfl rfl hc i pins s3 σ3 H3 X.xe I3 (stat fr3) st3 go) fun r s4 ⟨u,hr,h4⟩=>?_);subst hr;refine qBw hp (thn h4 fun _ s5 ⟨x,H5,I5,r5,y5,st5,fr5⟩=>?_);have I5':=I5.pinned (stat fr5) (T.obj _ _ st5);refine qBw hp (thn (hg _ s5 σ3 H5 x u _ I5' r5 (step x H5 y5)) fun _ s6 ⟨σ6,H6,I6,q6⟩=>?_);refine qBw hp (thn (hb _ s6 σ6 H6 _ I6 q6) fun f s7 q7=>?_)
  have again:∀{σ7:St} {H7:Hp},Inv X (pins++pinsAt fp s5.heap) σ7 H7 s7->N σ7 H7->∃m,m<n/\∃i σ' H',Inv X pins σ' H' s7/\tn i s7.heap/\(∀b∈fp,H' b=none)/\W i m σ' H':=fun {σ7 H7} I7 n7=>by
   obtain ⟨m',hm,w7⟩:=hN σ7 H7 n7;refine ⟨m',hm,i+1,σ7,H7,I7.unpinned,T.keep _ _ _ st5 fun b hb o e=>(I7.pin (b,o) (qAz _ (qAz _ (zEe hb e)))).1,fun b hb=>?_,w7⟩;obtain ⟨o,e,d⟩:=T.obj _ _ st5 b hb;exact (I7.pin (b,o) (qAz _ (qAz _ (zEe hb e)))).2.1
  cases f with
  | next=>obtain ⟨σ7,H7,I7,n7⟩:=q7;exact again I7 n7
  | cont=>obtain ⟨σ7,H7,I7,n7⟩:=q7;exact again I7 n7
  | brk=>obtain ⟨σ7,H7,I7,q7⟩:=q7;exact ⟨σ7,H7,I7.unpinned,q7⟩
  | ret v=>obtain ⟨x7,σ7,H7,I7,r7,q7⟩:=q7;exact ⟨x7,σ7,H7,I7.unpinned,r7,q7⟩
end
theorem zA9 {xs:List V} (Pv:Nat->St->Hp->Prop) (h0:Pv 0 σ H) (hl:∀i σ H,i<=xs.length->Pv i σ H->SqL K H a xs)
  (hs:∀i x σ H,xs[i]?=some x->Pv i σ H->g x σ H fun σ2 H2=>tb {D with nx:=Pv (i+1),ct:=Pv (i+1),bk:=D.nx} σ2 H2) (hd:∀σ H,Pv xs.length σ H->D.nx σ H) :
  ∃W:Nat->Nat->St->Hp->Prop,(∃m,W 0 m σ H)/\∀i m σ H,W i m σ H ->
   ((Itl K a).stop i H/\D.nx σ H)\/((Itl K a).go i H/\∃N:St->Hp->Prop,(∀σ' H',N σ' H'->∃m',m'<m/\W (i+1) m' σ' H')/\∀x H',(Itl K a).yld i H x H'->g x σ H' fun σ2 H2=>tb {D with nx:=N,ct:=N,bk:=D.nx} σ2 H2):=by
 refine ⟨fun i m σ H=>m=xs.length - i/\i<=xs.length/\Pv i σ H,⟨xs.length,by simp,qAX _,h0⟩,?_⟩;rintro i m σ H ⟨rfl,hi,p⟩;have q:=hl i σ H hi p
 by_cases hlt:i<xs.length
 ·refine .inr ⟨⟨xs,xs[i],q,by simp [hlt]⟩,Pv (i+1),fun σ' H' p'=>⟨xs.length - (i+1),by lia,rfl,hlt,p'⟩,fun x H' y=>?_⟩;obtain ⟨e,y⟩:=y;subst e;exact hs i x σ _ (y xs q) p
 ·have e:i=xs.length:=by lia
  subst e;exact .inl ⟨⟨xs,q,qAG _⟩,hd σ H p⟩
theorem for_tup (Pv:Nat->St->Hp->Prop) (h0:Pv 0 σ H) (hl:∀i σ H,i<=xs.length->Pv i σ H->SqT K H a xs)
  (hs:∀i x σ H,xs[i]?=some x->Pv i σ H->g x σ H fun σ2 H2=>tb {D with nx:=Pv (i+1),ct:=Pv (i+1),bk:=D.nx} σ2 H2) (hd:∀σ H,Pv xs.length σ H->D.nx σ H) :
  ∃W:Nat->Nat->St->Hp->Prop,(∃m,W 0 m σ H)/\∀i m σ H,W i m σ H ->
   ((Itt K a).stop i H/\D.nx σ H)\/((Itt K a).go i H/\∃N:St->Hp->Prop,(∀σ' H',N σ' H'->∃m',m'<m/\W (i+1) m' σ' H')/\∀x H',(Itt K a).yld i H x H'->g x σ H' fun σ2 H2=>tb {D with nx:=N,ct:=N,bk:=D.nx} σ2 H2):=by
 refine ⟨fun i m σ H=>m=xs.length - i/\i<=xs.length/\Pv i σ H,⟨xs.length,by simp,qAX _,h0⟩,?_⟩;rintro i m σ H ⟨rfl,hi,p⟩;have q:=hl i σ H hi p
 by_cases hlt:i<xs.length
 ·refine .inr ⟨⟨xs,xs[i],q,by simp [hlt]⟩,Pv (i+1),fun σ' H' p'=>⟨xs.length - (i+1),by lia,rfl,hlt,p'⟩,fun x H' y=>?_⟩;obtain ⟨e,y⟩:=y;subst e;exact hs i x σ _ (y xs q) p
 ·have e:i=xs.length:=by lia
  subst e;exact .inl ⟨⟨xs,q,qAG _⟩,hd σ H p⟩
theorem zCb {lo:Int} {n:Nat} (Pv:Nat->St->Hp->Prop) (h0:Pv 0 σ H)
  (hs:∀i σ H,i<n->Pv i σ H->g (.int (lo+i)) σ H fun σ2 H2=>tb {D with nx:=Pv (i+1),ct:=Pv (i+1),bk:=D.nx} σ2 H2) (hd:∀σ H,Pv n σ H->D.nx σ H) :
  ∃W:Nat->Nat->St->Hp->Prop,(∃m,W 0 m σ H)/\∀i m σ H,W i m σ H ->
   ((Itr lo n).stop i H/\D.nx σ H)\/((Itr lo n).go i H/\∃N:St->Hp->Prop,(∀σ' H',N σ' H'->∃m',m'<m/\W (i+1) m' σ' H')/\∀x H',(Itr lo n).yld i H x H'->g x σ H' fun σ2 H2=>tb {D with nx:=N,ct:=N,bk:=D.nx} σ2 H2):=by
 refine ⟨fun i m σ H=>m=n - i/\i<=n/\Pv i σ H,⟨n,by simp,qAX _,h0⟩,?_⟩;rintro i m σ H ⟨rfl,hi,p⟩
 by_cases hlt:i<n
 ·refine .inr ⟨hlt,Pv (i+1),fun σ' H' p'=>⟨n - (i+1),by lia,rfl,hlt,p'⟩,fun x H' y=>?_⟩;obtain ⟨e,y⟩:=y;subst e y;exact hs i σ _ hlt p
 ·have e:i=n:=by lia
  subst e;exact .inl ⟨qAG _,hd σ H p⟩
theorem zIp {c:TT} (Pv:St->Hp->Prop) (μ:St->Hp->Nat) (h0:Pv σ H)
  (hs:∀σ H,Pv σ H->c σ H fun b H1=>if b=true then tb {D with nx:=fun σ' H'=>Pv σ' H'/\μ σ' H'<μ σ H,ct:=fun σ' H'=>Pv σ' H'/\μ σ' H'<μ σ H,bk:=D.nx} σ H1 else D.nx σ H1)
  (mono:∀σ H Q Q',(∀b H1,Q b H1->Q' b H1)->c σ H Q->c σ H Q'):tWhile c tb D σ H:=by
 refine ⟨fun m σ H=>m=μ σ H/\Pv σ H,⟨_,rfl,h0⟩,?_⟩;rintro m σ H ⟨rfl,p⟩;refine mono σ H _ _ (fun b H1 q=>?_) (hs σ H p)
 cases b with
 | true=>exact ⟨_,fun σ' H' ⟨p',l⟩=>⟨_,l,rfl,p'⟩,q⟩
 | false=>exact q
abbrev R2:=V->V->Hp->VK->Prop
variable {r:R2}
def OpR (X:Cx) (f:Value->Value->Sem Value) (r:R2):Prop :=
 ∀(pins:List (Addr×Obj)) (s:Shared) (σ:St) (H:Hp) (x y:V) (v u:Value) (Q:VK),Inv X pins σ H s->RelV x v->RelV y u->r x y H Q ->
  wpAny (model X.prog X.w) X.A (f v u) (EP X pins σ Q) X.xe s
def zCu (X:Cx) (f:Value) (r:List V->Hp->VK->Prop):Prop :=
 ∀(pins:List (Addr×Obj)) (s:Shared) (σ:St) (H:Hp) (xs:List V) (us:List Value) (Q:VK),Inv X pins σ H s->Vals xs us->r xs H Q ->
  wpAny (model X.prog X.w) X.A (call f us) (EP X pins σ Q) X.xe s
def TruR (X:Cx) (r:V->Hp->(Bool->Hp->Prop)->Prop):Prop :=
 ∀(pins:List (Addr×Obj)) (s:Shared) (σ:St) (H:Hp) (x:V) (v:Value) (Q:Bool->Hp->Prop),Inv X pins σ H s->RelV x v->r x H Q ->
  wpAny (model X.prog X.w) X.A (truthy v) (TP X pins σ Q) X.xe s
def tOp (r:R2) (ta tb:TE):TE:=fun σ H Q=>ta σ H fun x H1=>tb σ H1 fun y H2=>r x y H2 Q
def rI (C:Int->Int->Prop) (g:Int->Int->V):R2:=fun x y H Q=>∃i j,x= .int i/\y= .int j/\C i j/\Q (g i j) H
def rI0 (g:Int->Int->V):R2:=fun x y H Q=>∃i j,x= .int i/\y= .int j/\Q (g i j) H
section
variable {X:Cx} {a b c:Expr} {ta tb tc:TE} {pos:Pos}
theorem binT (ha:PE X a ta) (hb:PE X b tb) {R:V->V->Hp->Prop} (I:Inv X pins σ H s)
  (h:ta σ H fun x H1=>tb σ H1 fun y H2=>R x y H2) {Q:Value->Shared->Prop} {f:Value->Value->Sem Value}
  (hf:∀v u s2 x y H2,Inv X pins σ H2 s2->RelV x v->RelV y u->R x y H2->wpAny (model X.prog X.w) X.A (f v u) Q X.xe s2) :
  wpAny (model X.prog X.w) X.A (eval a X.env) (fun v s₁=>wpAny (model X.prog X.w) X.A (eval b X.env) (fun u s₂=>wpAny (model X.prog X.w) X.A (f v u) Q X.xe s₂) X.xe s₁) X.xe s:=by
 refine thn (ha pins s σ H _ I h) fun v s1 ⟨x,H1,I1,r1,q1⟩=>?_;refine thn (hb pins s1 σ H1 _ I1 q1) fun u s2 ⟨y,H2,I2,r2,q2⟩=>?_;exact hf v u s2 x y H2 I2 r1 r2 q2
theorem zAt {op:Operator} (ho:OpR X (binaryOp op) r) (ha:PE X a ta) (hb:PE X b tb):PE X (.BinOp a op b pos) (tOp r ta tb):=by
 intro pins s σ H Q I h;exact wpAny_BinOp (binT ha hb I h fun v u s2 x y H2 I2 rx ry q=>ho pins s2 σ H2 x y v u Q I2 rx ry q)
theorem opI {f:Value->Value->Sem Value} {C:Int->Int->Prop} {g:Int->Int->Int}
  (rule:∀(i j:Int) (t u:Tok) (s:Shared) (Q:Value->Shared->Prop) (E:Value->Shared->Prop),C i j->Q (.int (g i j) s.toks) {s with toks:=s.toks+1}->wpAny (model X.prog X.w) X.A (f (.int i t) (.int j u)) Q E s) :
  OpR X f (rI C fun i j=>.int (g i j)):=by
 intro pins s σ H x y v u Q I rx ry h;obtain ⟨i,j,rfl,rfl,hc,q⟩:=h;obtain ⟨t,rfl⟩:=rx;obtain ⟨t',rfl⟩:=ry;exact rule i j t t' s _ _ hc ⟨.int (g i j),H,I.tok _,⟨_,rfl⟩,q⟩
theorem opI0 {f:Value->Value->Sem Value} {g:Int->Int->Int}
  (rule:∀(i j:Int) (t u:Tok) (s:Shared) (Q:Value->Shared->Prop) (E:Value->Shared->Prop),Q (.int (g i j) s.toks) {s with toks:=s.toks+1}->wpAny (model X.prog X.w) X.A (f (.int i t) (.int j u)) Q E s) :
  OpR X f (rI0 fun i j=>.int (g i j)):=by
 intro pins s σ H x y v u Q I rx ry h;obtain ⟨i,j,rfl,rfl,q⟩:=h;obtain ⟨t,rfl⟩:=rx;obtain ⟨t',rfl⟩:=ry;exact rule i j t t' s _ _ ⟨.int (g i j),H,I.tok _,⟨_,rfl⟩,q⟩
theorem opB0 {f:Value->Value->Sem Value} {g:Int->Int->Bool}
  (rule:∀(i j:Int) (t u:Tok) (s:Shared) (Q:Value->Shared->Prop) (E:Value->Shared->Prop),Q (.bool (g i j)) s->wpAny (model X.prog X.w) X.A (f (.int i t) (.int j u)) Q E s) :
  OpR X f (rI0 fun i j=>.bl (g i j)):=by
 intro pins s σ H x y v u Q I rx ry h;obtain ⟨i,j,rfl,rfl,q⟩:=h;obtain ⟨t,rfl⟩:=rx;obtain ⟨t',rfl⟩:=ry;exact rule i j t t' s _ _ ⟨.bl (g i j),H,I,rfl,q⟩
def CDiv (i j:Int):Prop:=0<j/\j<1073741824
def CPow (i j:Int):Prop:=0<=j/\j<=1000000/\i.natAbs<2^64
def CMul (i j:Int):Prop:=(-(2^64)<i/\i<2^64)\/(-(2^64)<j/\j<2^64)
theorem CMul.ok {i j:Int} (h:CMul i j):IntMulOk i j:=by
 rcases h with ⟨h1,h2⟩| ⟨h1,h2⟩
 ·exact .of_left (intBits_le_64 h1 h2)
 ·exact .of_right (intBits_le_64 h1 h2)
theorem zBz:OpR X (binaryOp .Add) (rI0 fun i j=>.int (i+j)):=opI0 fun _ _ _ _ _ _ _ q=>add_int q
theorem zIf:OpR X (binaryOp .Sub) (rI0 fun i j=>.int (i - j)):=opI0 fun _ _ _ _ _ _ _ q=>sub_int q
theorem zE9:OpR X (binaryOp .Mult) (rI CMul fun i j=>.int (i*j)):=opI fun _ _ _ _ _ _ _ hc q=>mul_int q hc.ok
theorem op_fdiv:OpR X (binaryOp .FloorDiv) (rI CDiv fun i j=>.int (i / j)):=opI fun i j _ _ _ _ _ hc q=>by
 have h1:(0:Int)<j:=hc.1;have h2:j<1073741824:=hc.2;exact floordiv_int (by lia) (by rw [Int.fdiv_eq_ediv_of_nonneg i (by lia)];exact q) (.inl (PyProof.noPylong_small (by lia)))
theorem zG7:OpR X (binaryOp .Mod) (rI (fun _ j=>0<j) fun i j=>.int (i % j)):=opI fun i j _ _ _ _ _ hc q=>by
 have h1:(0:Int)<j:=hc;exact mod_int' (by lia) (by rw [Int.fmod_eq_emod_of_nonneg i (by lia)];exact q)
theorem op_pow:OpR X (binaryOp .Pow) (rI CPow fun i j=>.int (i^j.toNat)):=opI fun _ _ _ _ _ _ _ hc q=>pow_int_small hc.1 hc.2.1 hc.2.2 q
end
def scal:V->V->Bool
 | .non,.non=>true| .non,.int _=>true| .int _,.non=>true| .non,.bl _=>true| .bl _,.non=>true| .non,.str _=>true| .str _,.non=>true
 | .int _,.int _=>true| .bl _,.bl _=>true| .str _,.str _=>true| .byt _,.byt _=>true
 | .int _,.str _=>true| .str _,.int _=>true| .bl _,.str _=>true| .str _,.bl _=>true
 | _,_=>false
def rEq:R2:=fun x y H Q=>scal x y=true/\Q (.bl (decide (x=y))) H
def rNe:R2:=fun x y H Q=>scal x y=true/\Q (.bl (!decide (x=y))) H
theorem dec_int {i j:Int}:decide (V.int i=V.int j)=(i==j):=by
 rw [qBQ];simp
theorem dec_bl {i j:Bool}:decide (V.bl i=V.bl j)=(i==j):=by
 rw [qBQ];simp
theorem dec_str {i j:Str}:decide (V.str i=V.str j)=(i==j):=by
 rw [qBQ];simp
theorem dec_byt {i j:Array UInt8}:decide (V.byt i=V.byt j)=(i.toList==j.toList):=by
 rw [qBQ]
 cases i
 cases j
 simp
section
variable {X:Cx} {a b c:Expr} {ta tb tc:TE} {pos:Pos}
theorem zAx {Q:VK} {k k':Bool} (I:Inv X pins σ H s) (q:Q (.bl k) H) (e:k=k'):EP X pins σ Q (.bool k') s:=by
 subst e;exact ⟨.bl k,H,I,rfl,q⟩
theorem zI8:OpR X (compareOp .Eq) rEq:=by
 intro pins s σ H x y v u Q I rx ry h;obtain ⟨hs,q⟩:=h
 cases x with
 | non =>
  cases rx
  cases y with
  | non=>cases ry;exact PySem.EqNone.eq_none_none (zAx I q (by simp))
  | bl j=>cases ry;exact PySem.EqNone.eq_none_bool (zAx I q (by simp))
  | int j=>obtain ⟨t',rfl⟩:=ry;exact PySem.EqNone.eq_none_int (zAx I q (by simp))
  | str j=>obtain ⟨t',rfl⟩:=ry;exact PySem.EqNone.eq_none_str (zAx I q (by simp))
  | _=>exact absurd (show false=true from hs) qAn
 | bl i =>
  cases rx
  cases y with
  | non=>cases ry;exact PySem.EqNone.eq_bool_none (zAx I q (by simp))
  | bl j=>cases ry;exact eq_bool (zAx I q dec_bl)
  | str j=>obtain ⟨t',rfl⟩:=ry;exact PySem.EqMixed.eq_bool_str (zAx I q (by simp))
  | _=>exact absurd (show false=true from hs) qAn
 | int i =>
  obtain ⟨t,rfl⟩:=rx
  cases y with
  | non=>cases ry;exact PySem.EqNone.eq_int_none (zAx I q (by simp))
  | int j=>obtain ⟨t',rfl⟩:=ry;exact eq_int (zAx I q dec_int)
  | str j=>obtain ⟨t',rfl⟩:=ry;exact PySem.EqMixed.eq_int_str (zAx I q (by simp))
  | _=>exact absurd (show false=true from hs) qAn
 | str i =>
  obtain ⟨t,rfl⟩:=rx
  cases y with
  | non=>cases ry;exact PySem.EqNone.eq_str_none (zAx I q (by simp))
  | bl j=>cases ry;exact PySem.EqMixed.eq_str_bool (zAx I q (by simp))
  | int j=>obtain ⟨t',rfl⟩:=ry;exact PySem.EqMixed.eq_str_int (zAx I q (by simp))
  | str j=>obtain ⟨t',rfl⟩:=ry;exact eq_str (zAx I q dec_str)
  | _=>exact absurd (show false=true from hs) qAn
 | byt i =>
  obtain ⟨t,rfl⟩:=rx
  cases y with
  | byt j=>obtain ⟨t',rfl⟩:=ry;exact PySem.W.eq_bytes (zAx I q dec_byt)
  | _=>exact absurd (show false=true from hs) qAn
 | _=>cases y<;>exact absurd (show false=true from hs) qAn
theorem op_ne:OpR X (compareOp .NotEq) rNe:=by
 intro pins s σ H x y v u Q I rx ry h;obtain ⟨hs,q⟩:=h
 cases x with
 | non =>
  cases rx
  cases y with
  | non=>cases ry;exact PySem.EqNone.ne_none_none (zAx I q (by simp))
  | bl j=>cases ry;exact PySem.EqNone.ne_none_bool (zAx I q (by simp))
  | int j=>obtain ⟨t',rfl⟩:=ry;exact PySem.EqNone.ne_none_int (zAx I q (by simp))
  | str j=>obtain ⟨t',rfl⟩:=ry;exact PySem.EqNone.ne_none_str (zAx I q (by simp))
  | _=>exact absurd (show false=true from hs) qAn
 | bl i =>
  cases rx
  cases y with
  | non=>cases ry;exact PySem.EqNone.ne_bool_none (zAx I q (by simp))
  | bl j=>cases ry;exact ne_bool (zAx I q (qAg not dec_bl))
  | str j=>obtain ⟨t',rfl⟩:=ry;exact PySem.EqMixed.ne_bool_str (zAx I q (by simp))
  | _=>exact absurd (show false=true from hs) qAn
 | int i =>
  obtain ⟨t,rfl⟩:=rx
  cases y with
  | non=>cases ry;exact PySem.EqNone.ne_int_none (zAx I q (by simp))
  | int j=>obtain ⟨t',rfl⟩:=ry;exact ne_int (zAx I q (qAg not dec_int))
  | str j=>obtain ⟨t',rfl⟩:=ry;exact PySem.EqMixed.ne_int_str (zAx I q (by simp))
  | _=>exact absurd (show false=true from hs) qAn
 | str i =>
  obtain ⟨t,rfl⟩:=rx
  cases y with
  | non=>cases ry;exact PySem.EqNone.ne_str_none (zAx I q (by simp))
  | bl j=>cases ry;exact PySem.EqMixed.ne_str_bool (zAx I q (by simp))
  | int j=>obtain ⟨t',rfl⟩:=ry;exact PySem.EqMixed.ne_str_int (zAx I q (by simp))
  | str j=>obtain ⟨t',rfl⟩:=ry;exact ne_str (zAx I q (qAg not dec_str))
  | _=>exact absurd (show false=true from hs) qAn
 | byt i =>
  obtain ⟨t,rfl⟩:=rx
  cases y with
  | byt j=>obtain ⟨t',rfl⟩:=ry;exact PySem.W.ne_bytes (zAx I q (qAg not dec_byt))
  | _=>exact absurd (show false=true from hs) qAn
 | _=>cases y<;>exact absurd (show false=true from hs) qAn
theorem op_lt:OpR X (compareOp .Lt) (rI0 fun i j=>.bl (decide (i<j))):=opB0 fun _ _ _ _ _ _ _ q=>lt_int q
theorem op_le:OpR X (compareOp .LtE) (rI0 fun i j=>.bl (decide (i<=j))):=opB0 fun _ _ _ _ _ _ _ q=>le_int q
theorem op_gt:OpR X (compareOp .Gt) (rI0 fun i j=>.bl (decide (j<i))):=opB0 fun _ _ _ _ _ _ _ q=>gt_int q
theorem zAu (b:Expr) (h:op≠.In:=by decide) (h2:op≠.NotIn:=by decide):behindInMarks op b=false:=by
 have e1:(op==CmpOp.In)=false:=by cases op<;>first| rfl| exact absurd rfl h
 have e2:(op==CmpOp.NotIn)=false:=by cases op<;>first| rfl| exact absurd rfl h2
 cases b<;>simp [behindInMarks,e1,e2]
theorem zCr (ho:OpR X (compareOp op) r) (ha:PE X a ta) (hb:PE X b tb) (hm:behindInMarks op b=false):PE X (.Compare a [op] [b] pos) (tOp r ta tb):=by
 intro pins s σ H Q I h;exact wpAny_Compare1 (binT ha hb I h fun v u s2 x y H2 I2 rx ry q=>ho pins s2 σ H2 x y v u Q I2 rx ry q) hm
def tTest (t:TE):TT:=fun σ H Q=>t σ H fun x H'=>∃k,x= .bl k/\Q k H'
theorem zAs (ho:OpR X (compareOp op) r) (ha:PE X a ta) (hb:PE X b tb) (hm:behindInMarks op b=false):PT X (.Compare a [op] [b] pos) (tTest (tOp r ta tb)):=by
 intro pins s σ H Q I h
 refine wpAny_isTrue_Compare1 (thn (ha pins s σ H _ I h) fun v s1 ⟨x,H1,I1,r1,q1⟩=>thn (hb pins s1 σ H1 _ I1 q1) fun u s2 ⟨y,H2,I2,r2,q2⟩ =>
  thn (ho pins s2 σ H2 x y v u _ I2 r1 r2 q2) fun c s3 ⟨z,H3,I3,r3,k,e,q3⟩=>?_) hm
 subst e
 cases r3
 exact qBE ⟨H3,I3,q3⟩
def tChain (r r':R2) (ta tb tc:TE):TE:=fun σ H Q=>ta σ H fun x H1=>tb σ H1 fun y H2=>r x y H2 fun z H3=>∃k,z= .bl k /\
 (if k=true then tc σ H3 fun w' H4=>r' y w' H4 Q else Q (.bl false) H3)
theorem pe_chain {op':CmpOp} {r':R2} (ho:OpR X (compareOp op) r) (ho':OpR X (compareOp op') r') (ha:PE X a ta) (hb:PE X b tb) (hc:PE X c tc)
  (hm:lastMarks [op,op'] [b,c]=false:=by with_unfolding_all rfl):PE X (.Compare a [op,op'] [b,c] pos) (tChain r r' ta tb tc):=by
 intro pins s σ H Q I h
 refine Compare_chain (thn (ha pins s σ H _ I h) fun v s1 ⟨x,H1,I1,r1,q1⟩=>chain_link (thn (hb pins s1 σ H1 _ I1 q1) fun u s2 ⟨y,H2,I2,r2,q2⟩ =>
  thn (ho pins s2 σ H2 x y v u _ I2 r1 r2 q2) fun d s3 ⟨z,H3,I3,r3,k,e,q3⟩=>?_)) hm
 subst e
 cases r3
 refine qBE ?_
 cases k with
 | false=>exact ite_ff ⟨.bl false,H3,I3,rfl,q3⟩
 | true=>exact ite_tt (chain_last (thn (hc pins s3 σ H3 _ I3 q3) fun w' s4 ⟨z',H4,I4,r4,q4⟩=>ho' pins s4 σ H4 y z' u w' Q I4 r2 r4 q4))
theorem pt_chain {op':CmpOp} {r':R2} (ho:OpR X (compareOp op) r) (ho':OpR X (compareOp op') r') (ha:PE X a ta) (hb:PE X b tb) (hc:PE X c tc)
  (hm:lastMarks [op,op'] [b,c]=false:=by with_unfolding_all rfl):PT X (.Compare a [op,op'] [b,c] pos) (tTest (tChain r r' ta tb tc)):=by
 intro pins s σ H Q I h
 refine isTrue_chain (thn (ha pins s σ H _ I h) fun v s1 ⟨x,H1,I1,r1,q1⟩=>test_link (thn (hb pins s1 σ H1 _ I1 q1) fun u s2 ⟨y,H2,I2,r2,q2⟩ =>
  thn (ho pins s2 σ H2 x y v u _ I2 r1 r2 q2) fun d s3 ⟨z,H3,I3,r3,k,e,q3⟩=>?_)) hm
 subst e
 cases r3
 refine qBE ?_
 cases k with
 | false =>
  obtain ⟨k',e',q'⟩:=q3
  cases e'
  exact ite_ff ⟨H3,I3,q'⟩
 | true =>
  refine ite_tt (test_last (thn (hc pins s3 σ H3 _ I3 q3) fun w' s4 ⟨z',H4,I4,r4,q4⟩=>thn (ho' pins s4 σ H4 y z' u w' _ I4 r2 r4 q4) fun d' s5 ⟨z2,H5,I5,r5,k2,e2,q5⟩=>?_));subst e2
  cases r5
  exact qBE ⟨H5,I5,q5⟩
def TruV (K:PySem.W.Frag) (x:V) (H:Hp) (k:Bool):Prop :=
 match x with
 | .non=>k=false
 | .bl b=>k=b
 | .int i=>k=(i != 0)
 | .str y=>y.length<=sizeLine/\k=((y.length:Int) != 0)
 | .byt y=>y.size<=sizeLine/\k=((y.size:Int) != 0)
 | .ref p=>(∃xs,SqL K H p xs/\k= !xs.isEmpty)\/(∃xs,SqT K H p xs/\k= !xs.isEmpty)\/∃kvs,H p=some (.dK kvs)/\k= !kvs.isEmpty
 | _=>False
theorem isEmpty_kv {κ:Type} {kvs:List (κ×V)} {vs:List (κ×Value)} (r:KV kvs vs):(!vs.isEmpty)= !kvs.isEmpty:=by
 cases r<;>rfl
theorem zIk {its:List Value} (r:Vals xs its):(!its.toArray.isEmpty)= !xs.isEmpty:=by
 cases r<;>simp
theorem zHh:(sizeLine:Nat)<2^63:=by rw [qAK];decide
theorem tru_ok:TruR X (fun x H Q=>∃k,TruV X.K x H k/\Q k H):=by
 intro pins s σ H x v Q I rx h;obtain ⟨k,e,q⟩:=h;have hl:=zHh;have hs:sizeLine=16777216:=qAK
 cases x with
 | non =>
  cases rx
  have e':k=false:=e;subst e';exact truthy_none ⟨H,I,q⟩
 | bl b =>
  cases rx
  have e':k=b:=e;subst e';exact qBE ⟨H,I,q⟩
 | int i =>
  obtain ⟨t,rfl⟩:=rx;have e':k=(i != 0):=e;subst e';exact PySem.P.truthy_int ⟨H,I,q⟩
 | str y =>
  obtain ⟨t,rfl⟩:=rx;obtain ⟨hy,e'⟩:y.length<=sizeLine/\k=((y.length:Int) != 0):=e;subst e';exact PySem.P.truthy_str (by lia) ⟨H,I.tok _,q⟩
 | byt y =>
  obtain ⟨t,rfl⟩:=rx;obtain ⟨hy,e'⟩:y.size<=sizeLine/\k=((y.size:Int) != 0):=e;subst e';exact PySem.W.truthy_bytes (by lia) ⟨H,I.tok _,q⟩
 | ref p =>
  cases rx
  have e':(∃xs,SqL X.K H p xs/\k= !xs.isEmpty)\/(∃xs,SqT X.K H p xs/\k= !xs.isEmpty)\/∃kvs,H p=some (.dK kvs)/\k= !kvs.isEmpty:=e;rcases e' with ⟨xs,hx,e'⟩| ⟨xs,hx,e'⟩| ⟨kvs,hx,e'⟩
  ·subst e';obtain ⟨its,r,pl,hz⟩:=I.list hx;have hlen:=r.length;exact wpAny_truthy_list pl.isList (by simp only [qAM];lia) ⟨H,I.tok _,by rw [zIk r];exact q⟩
  ·subst e';obtain ⟨its,r,pl,hz⟩:=I.tuple hx;have hlen:=r.length;exact truthy_tuple pl (by simp only [qAM];lia) ⟨H,I.tok _,by rw [zIk r];exact q⟩
  ·subst e';obtain ⟨hz,hS,vs,r,m⟩:kvs.length<=sizeLine/\(p==sysModules)=false/\∃vs,KV kvs vs/\s.heap.DictOf (zA6 X.prog X.w) p vs:=I.hok p _ hx;have hlen:kvs.length=vs.length:=qCD r;exact wpAny_truthy_dict hS m (by lia) ⟨H,I.tok _,by rw [isEmpty_kv r];exact q⟩
 | _=>exact (show False from e).elim
theorem zI3 (ha:PE X a ta) (he:∀whole,isTrue a X.env whole=(do let v<-whole;standAt a.pos;holding [v] (truthy v))) :
  PT X a (fun σ H Q=>ta σ H fun x H'=>∃k,TruV X.K x H' k/\Q k H'):=by
 intro pins s σ H Q I h;exact isTrue_plain (thn (ha pins s σ H _ I h) fun v s1 ⟨x,H1,I1,r1,q1⟩=>tru_ok pins s1 σ H1 x v Q I1 r1 q1) (he _)
theorem op_add_str:OpR X (binaryOp .Add) (fun x y H Q=>∃i j,x= .str i/\y= .str j/\i.length+j.length<=sizeLine/\Q (.str (i++j)) H):=by
 intro pins s σ H x y v u Q I rx ry h;obtain ⟨i,j,rfl,rfl,hz,q⟩:=h;obtain ⟨t,rfl⟩:=rx;obtain ⟨t',rfl⟩:=ry;exact add_str (fun t' tk=>⟨.str (i++j),H,I.tok _,⟨_,rfl⟩,q⟩) hz
theorem zIq {x:V} (r:Vals [x] us):∃u,us=[u]/\RelV x u:=by
 cases r with
 | cons r1 r2=>cases r2;exact ⟨_,rfl,r1⟩
theorem vals2 {x:V} (r:Vals [x,y] us):∃u w',us=[u,w']/\RelV x u/\RelV y w':=by
 cases r with
 | cons r1 r2 =>
  cases r2 with
  | cons r3 r4=>cases r4;exact ⟨_,_,rfl,r1,r3⟩
theorem zHr (hc:X.calm=true):zCu X (.builtin "max") (fun xs H Q=>∃i j,xs=[.int i,.int j]/\Q (.int (if j>i then j else i)) H):=by
 intro pins s σ H xs us Q I r h;obtain ⟨i,j,rfl,q⟩:=h;obtain ⟨u,w',rfl,⟨t,rfl⟩,⟨t',rfl⟩⟩:=vals2 r;refine max_two_ints (I.ok.hd hc) fun h' tk k=>⟨_,H,I.kept k,?_,q⟩
 by_cases hj:j>i
 ·rw [qAC hj,qAC hj];exact ⟨_,rfl⟩
 ·rw [qAB hj,qAB hj];exact ⟨_,rfl⟩
theorem call_min2 (hc:X.calm=true):zCu X (.builtin "min") (fun xs H Q=>∃i j,xs=[.int i,.int j]/\Q (.int (if j<i then j else i)) H):=by
 intro pins s σ H xs us Q I r h;obtain ⟨i,j,rfl,q⟩:=h;obtain ⟨u,w',rfl,⟨t,rfl⟩,⟨t',rfl⟩⟩:=vals2 r;refine min_two_ints (I.ok.hd hc) fun h' tk k=>⟨_,H,I.kept k,?_,q⟩
 by_cases hj:j<i
 ·rw [qAC hj,qAC hj];exact ⟨_,rfl⟩
 ·rw [qAB hj,qAB hj];exact ⟨_,rfl⟩
theorem zFl:zCu X (.type "int") (fun xs H Q=>(∃i,xs=[.int i]/\Q (.int i) H)\/∃k,xs=[.bl k]/\Q (.int (if k then 1 else 0)) H):=by
 intro pins s σ H xs us Q I r h;rcases h with ⟨i,rfl,q⟩| ⟨k,rfl,q⟩
 ·obtain ⟨u,rfl,t,rfl⟩:=zIq r;exact call_int_int ⟨.int i,H,I,⟨_,rfl⟩,q⟩
 ·obtain ⟨u,rfl,r1⟩:=zIq r
  cases r1
  exact call_int_bool ⟨.int (if k then 1 else 0),H,I.tok _,⟨_,rfl⟩,q⟩
end
structure ObjM (h:Heap) (x dx C:Addr) (mA:Str->Option Value):Prop where
 obj:h.get? x=some (PySem.W.instObj C dx)
 ns:h.Ns1 dx mA
 ne:dx≠x
theorem lookIn_ns {dx:Addr} {mA:Str->Option Value} (n:h.Ns1 dx mA):∃od,h.get? dx=some od/\∀name,PySem.W.lookIn name od=some (mA name):=by
 obtain ⟨o,es,ep,ho,hd,hk,_,hm⟩:=n;refine ⟨o,ho,fun name=>?_⟩;have e:=hm name;unfold nsFind findBy at e;rw [<-Array.find?_toList] at e;unfold PySem.W.lookIn;rw [hd];dsimp only;split
 ·rename_i y q;rw [q] at e;exact qAg some e
 ·rename_i q;rw [q] at e
  have a:es.toList.any (·.refKey)=false:=by
   rw [List.any_eq_false];intro y hy;obtain ⟨z,t,hkey⟩:=hk y (qDU.mp hy);simp [DictEntry.refKey,hkey]
  have a':¬es.toList.any (·.refKey)=true:=by rw [a];exact qAn
  rw [qAB a'];exact qAg some e
theorem ObjM.look {x dx:Addr} {mA:Str->Option Value} (I:ObjM h x dx C mA):∃od,PySem.W.InstAt h x (PySem.W.instObj C dx) C (some od)/\∀name,PySem.W.lookIn name od=some (mA name) :=
 let ⟨od,ho,hl⟩:=lookIn_ns I.ns
 ⟨od,⟨I.obj,rfl,rfl,ho⟩,hl⟩
section
variable {prog:Program} {w:World} {A:Around} {E:Value->Shared->Prop} {s:Shared} {K:PySem.W.Frag} {x dx C f:Addr} {mA:Str->Option Value} {name:Str} {v:Value}
theorem get_map {expr:Bool} {Q:Value->Shared->Prop} (X:K.In s.heap) (I:ObjM s.heap x dx C mA) (hg:PySem.W.plainGet K C name=true) (hh:PySem.W.hasDictIn K C=true)
  (ha:PySem.W.findIn K (.ref C) name=some none) (hv:mA name=some v) (hv':PySem.W.handedIn v=true) (h:Q v {s with toks:=s.toks+1}) :
  wpAny (model prog w) A (getAttr (.ref x) name expr) Q E s:=by
 obtain ⟨od,J,hl⟩:=I.look;exact PySem.W.get_value X J (PySem.W.plainGet_of hg).1 (PySem.W.findObj_own hh ha rfl (by rw [hl,hv])) hv' h
theorem get_meth {pl:Sem Bool} {Q:Value×List Value->Shared->Prop} (X:K.In s.heap) (I:ObjM s.heap x dx C mA) (hg:PySem.W.plainGet K C name=true)
  (hf:PySem.W.findIn K (.ref C) name=some (some (.ref f))) (ht:PySem.W.isFn K (.ref f)=true) (hv:mA name=none) (h:Q (.ref f,[.ref x]) s) :
  wpAny (model prog w) A (getMethod (.ref x) name pl) Q E s:=by
 obtain ⟨od,J,hl⟩:=I.look;exact PySem.W.method_fn X J (PySem.W.plainGet_of hg).1 (PySem.W.plainGet_of hg).2 hf (qCW.mp ht) (by show (PySem.W.lookIn name od).map (·.isSome)=some false;rw [hl,hv];rfl) h
theorem set_map {ns:List Str} {Q:Unit->Shared->Prop} (X:K.In s.heap) (I:ObjM s.heap x dx C mA)
  (hs:PySem.W.findIn K (.ref C) "__setattr__" = some (some (.builtin "object.__setattr__"))) (hp:PySem.W.plainOver K C=true) (ht:PySem.W.takerIn K C name=some none) (hh:PySem.W.hasDictIn K C=true)
  (hw:PySem.Within mA ns) (hsz:ns.length<=sizeLine)
  (h:∀h',ObjM h' x dx C (fun y=>if y=name then some v else mA y)->Heap.SameBut dx s.heap h'->Q () {s with heap:=h',toks:=s.toks+2}) :
  wpAny (model prog w) A (setAttr (.ref x) name v) Q E s:=by
 obtain ⟨od,J,hl⟩:=I.look;refine PySem.W.set_plain X J hs (PySem.W.osa_open (s:={s with toks:=s.toks+1}) (r:=none) X J hp ht fun b=>?_);obtain ⟨cd,hc,hd'⟩:=PySem.W.any_some hh;have hx:s.heap.get? x=some ⟨.ref C,some dx,.plain,#[]⟩:=I.obj;refine qAA (qAE (qAA (qAA (wpAny_loadPart hx (qAA (PySem.W.Looks.here (s:={s with toks:=s.toks+1}) (PySem.W.looks_clsIn X hc) ?_))))));rw [hd'];refine qAE (a:=some dx) (qAA (qAE (qAA ?_)));refine wpAny_nsSet1 (s:={s with toks:=s.toks+1}) I.ns fun h' hn2 hs2=>?_;obtain ⟨oD,esD,epD,hoD,hdD,hcD⟩:=hn2.count (PySem.Within.cons name v hw);refine qAA (wpAny_lookBehind hoD (by rw [hdD];exact pastItsLine_dict (qAT hcD (by rw [qAa];lia))) ?_);exact qAE (h _ ⟨(hs2.2 _ (qAs I.ne)).trans I.obj,hn2,I.ne⟩ hs2)
theorem make_map {R:Result->Shared->Prop} {vs:List Value} {kw:List (Str×Value)} (X:K.In s.heap) (hm:PySem.W.makesIn K C=true)
  (hi:PySem.W.findIn K (.ref C) "__init__" = some (some (.ref f))) (hf:PySem.W.typeIn K (.ref f)=some (.type "function"))
  (h:codeAny (model prog w) (A.under (.builtin "type.__call__" ⟨.ref C::vs,kw⟩)) (.call (.ref f) ⟨.ref (s.heap.objs.size+1)::vs,kw⟩) (PySem.W.InitBack (s.heap.objs.size+1) R)
   {s with heap:=(s.heap.push PySem.W.emptyDict).push (PySem.W.instObj C s.heap.objs.size)}) :
  codeAny (model prog w) A (.call (.ref C) ⟨vs,kw⟩) R s:=by
 obtain ⟨hh,g,d,t,os⟩:=s;exact PySem.W.make_core (PySem.W.makes_of X hm) (PySem.W.looks_findIn X hi) (fun self=>PySem.W.bind_fn X self hf) (.inl rfl) h
end
def putF (f:Str) (v:V):List (Str×V)->List (Str×V)
 | []=>[(f,v)]
 | (g,x)::r=>if g=f then (g,v)::r else (g,x)::putF f v r
theorem zAr (f g:Str) (v:V):∀fs:List (Str×V),(putF f v fs).lookup g=if g=f then some v else fs.lookup g
 | []=>by
  show List.lookup g [(f,v)]=_
  by_cases h:g=f
  ·have hb:(g==f)=true:=qCW.mpr h;simp only [List.lookup,hb,qAC h]
  ·have hb:(g==f)=false:=qBD.mpr h;simp only [List.lookup,hb,qAB h]
 | (k,x)::r=>by
  have ih:=zAr f g v r;rw [show putF f v ((k,x)::r)=(if k=f then (k,v)::r else (k,x)::putF f v r) from rfl]
  by_cases hk:k=f
  ·rw [qAC hk]
   by_cases h:g=k
   ·have hb:(g==k)=true:=qCW.mpr h;simp only [List.lookup,hb,qAC (h.trans hk)]
   ·have hb:(g==k)=false:=qBD.mpr h;simp only [List.lookup,hb,qAB (fun e:g=f=>h (e.trans hk.symm))]
  ·rw [qAB hk]
   by_cases h:g=k
   ·have hb:(g==k)=true:=qCW.mpr h;simp only [List.lookup,hb,qAB (fun e:g=f=>hk (h.symm.trans e))]
   ·have hb:(g==k)=false:=qBD.mpr h;simp only [List.lookup,hb];exact ih
theorem zHl (f:Str) (v:V):∀fs:List (Str×V),f∈(putF f v fs).map (·.1)/\∀g,g∈fs.map (·.1)->g∈(putF f v fs).map (·.1)
 | []=>⟨by simp [putF],fun g h=>by simp at h⟩
 | (k,x)::r=>by
  obtain ⟨i1,i2⟩:=zHl f v r;rw [show putF f v ((k,x)::r)=(if k=f then (k,v)::r else (k,x)::putF f v r) from rfl]
  by_cases hk:k=f
  ·rw [qAC hk];subst hk;exact ⟨by simp,fun g h=>by simpa using h⟩
  ·rw [qAB hk];refine ⟨?_,fun g h=>?_⟩
   ·rw [qAd];exact qAP _ i1
   ·rw [qAd] at h ⊢;rcases qAO.mp h with e| e
    ·exact qAO.mpr (.inl e)
    ·exact qAP _ (i2 g e)
theorem zHi (f:Str) (v:V):∀fs:List (Str×V),(putF f v fs).length<=fs.length+1
 | []=>by simp [putF]
 | (k,x)::r=>by
  have ih:=zHi f v r;rw [show putF f v ((k,x)::r)=(if k=f then (k,v)::r else (k,x)::putF f v r) from rfl]
  by_cases hk:k=f
  ·rw [qAC hk,qAa,qAa];lia
  ·rw [qAB hk,qAa,qAa];lia
theorem RelO.some_of {v:V} {o:Option Value} (r:RelO (some v) o):∃u,o=some u/\RelV v u:=by
 cases o with
 | none=>exact (show False from r).elim
 | some u=>exact ⟨u,rfl,r⟩
theorem RelO.none_of {o:Option Value} (r:RelO none o):o=none:=by
 cases o with
 | none=>rfl
 | some u=>exact (show False from r).elim
theorem handed_of (r:RelV v u):PySem.W.handedIn u=true:=by
 cases v with
 | non=>cases (show u=Value.none from r);rfl
 | bl b=>cases (show u=Value.bool b from r);rfl
 | int i=>obtain ⟨t,e⟩:=(show∃t,u=Value.int i t from r);cases e;rfl
 | str x=>obtain ⟨t,e⟩:=(show∃t,u=Value.str x t from r);cases e;rfl
 | byt b=>obtain ⟨t,e⟩:=(show∃t,u=Value.bytes b t from r);cases e;rfl
 | flt b=>obtain ⟨t,e⟩:=(show∃t,u=Value.float b t from r);cases e;rfl
 | ref a=>cases (show u=Value.ref a from r);rfl
 | ty n=>cases (show u=Value.type n from r);rfl
section
variable {P:Program} {w:World} {H H':Hp} {h h':Heap} {a C dx:Addr} {fs fs':List (Str×V)}
theorem zFw (hok:HOk P w H h) (e:H a=some (.ins C dx fs)):∃mA,ObjM h a dx C mA/\(∀f,RelO (fs.lookup f) (mA f))/\PySem.Within mA (fs.map (·.1))/\fs.length<=1000/\H dx=some (.own a):=by
 obtain ⟨d,z,ne,ob,mA,n,r,q⟩:=(show zAy P w H h a (.ins C dx fs) from hok a _ e);exact ⟨mA,⟨ob,n,ne⟩,r,q,z,d⟩
end
structure Cls (K:PySem.W.Frag) (C:Addr):Prop where
 pg:PySem.W.plainGet K C Str.empty=true
 hd:PySem.W.hasDictIn K C=true
 po:PySem.W.plainOver K C=true
 sa:PySem.W.findIn K (.ref C) "__setattr__" = some (some (.builtin "object.__setattr__"))
theorem Cls.get (c:Cls K C) (f:Str):PySem.W.plainGet K C f=true:=c.pg
def zFn (K:PySem.W.Frag) (C:Addr) (f:Str):Prop:=PySem.W.findIn K (.ref C) f=some none
theorem zFn.taker {f:Str} (n:zFn K C f):PySem.W.takerIn K C f=some none:=by
 unfold PySem.W.takerIn;rw [show PySem.W.findIn K (.ref C) f=some none from n];rfl
structure Meth (K:PySem.W.Frag) (C:Addr) (m:Str) (f:Addr):Prop where
 at_:PySem.W.findIn K (.ref C) m=some (some (.ref f))
 fn:PySem.W.isFn K (.ref f)=true
 kp:PySem.W.keepIn K (.ref f)=true
section
variable {X:Cx} {pins:List (Addr×Obj)} {σ:St} {H:Hp} {s:Shared} {a C dx:Addr} {fs:List (Str×V)} {f:Str} {v:V} {A:Around} {E:Value->Shared->Prop}
theorem getattr_ok {b:Bool} {Q:Value->Shared->Prop} (I:Inv X pins σ H s) (e:H a=some (.ins C dx fs)) (c:Cls X.K C) (n:zFn X.K C f) (l:fs.lookup f=some v)
  (h:∀u s',Inv X pins σ H s'->RelV v u->Q u s'):wpAny (model X.prog X.w) A (getAttr (.ref a) f b) Q E s:=by
 obtain ⟨mA,O,r,_,_,_⟩:=zFw I.hok e;obtain ⟨u,hu,ru⟩:=RelO.some_of (v:=v) (o:=mA f) (by rw [<-l];exact r f);exact get_map I.kIn O (c.get f) c.hd n hu (handed_of ru) (h u _ (I.tok _) ru)
theorem zIl {m:Str} {g:Addr} {pl:Sem Bool} {Q:Value×List Value->Shared->Prop} (I:Inv X pins σ H s) (e:H a=some (.ins C dx fs)) (c:Cls X.K C) (k:Meth X.K C m g) (l:fs.lookup m=none)
  (h:Q (.ref g,[.ref a]) s):wpAny (model X.prog X.w) A (getMethod (.ref a) m pl) Q E s:=by
 obtain ⟨mA,O,r,_,_,_⟩:=zFw I.hok e;have hn:mA m=none:=RelO.none_of (by rw [<-l];exact r m);exact get_meth I.kIn O (c.get m) k.at_ k.fn hn h
theorem setattr_ok {Q:Unit->Shared->Prop} (I:Inv X pins σ H s) (e:H a=some (.ins C dx fs)) (c:Cls X.K C) (n:zFn X.K C f) (hl:fs.length<1000) (ry:RelV y u)
  (h:∀s',Inv X pins σ (upd H a (.ins C dx (putF f y fs))) s'->Q () s'):wpAny (model X.prog X.w) A (setAttr (.ref a) f u) Q E s:=by
 obtain ⟨mA,O,r,wi,_,ho⟩:=zFw I.hok e;have hz:(fs.map (·.1)).length<=sizeLine:=by rw [qAD,qAK];lia
 refine set_map I.kIn O c.sa c.po n.taker c.hd wi hz fun h' O' sb=>h _ ?_;have hd:∃o,h'.get? dx=some o:=let ⟨o,_,_,e',_⟩:=O'.ns;⟨o,e'⟩;refine I.write (x:=a) (e:=dx) (by rw [e];exact True.intro) (.inr ho) (fun b q hb z=>(sb.2 b hb).trans z) hd ?_;refine ⟨by rw [upd_ne O.ne];exact ho,?_,O.ne,O'.obj,_,O'.ns,fun g=>?_,fun g hg=>?_⟩
 ·have:=zHi f y fs;lia
 ·show RelO ((putF f y fs).lookup g) (if g=f then some u else mA g);rw [zAr]
  by_cases q:g=f
  ·rw [qAC q,qAC q];exact ry
  ·rw [qAB q,qAB q];exact r g
 ·by_cases q:g=f
  ·rw [q];exact (zHl f y fs).1
  ·refine (zHl f y fs).2 g (wi g fun z=>hg ?_);show (if g=f then some u else mA g)=none;rw [qAB q];exact z
theorem Inv.made (I:Inv X pins σ H s):Inv X pins σ (upd (upd H s.heap.objs.size (.own (s.heap.objs.size+1))) (s.heap.objs.size+1) (.ins C s.heap.objs.size []))
  {s with heap:=(s.heap.push PySem.W.emptyDict).push (PySem.W.instObj C s.heap.objs.size)}:=by
 have e1:(s.heap.push PySem.W.emptyDict).get? s.heap.objs.size=some PySem.W.emptyDict:=qAb s.heap rfl
 have e2:((s.heap.push PySem.W.emptyDict).push (PySem.W.instObj C s.heap.objs.size)).get? (s.heap.objs.size+1)=some (PySem.W.instObj C s.heap.objs.size):=by
  have:=qAb (s.heap.push PySem.W.emptyDict) (o:=PySem.W.instObj C s.heap.objs.size) rfl
  rwa [qBa] at this
 have e3:(s.heap.push PySem.W.emptyDict).Ns s.heap.objs.size (fun _=>none):=⟨PySem.W.emptyDict,#[],_,e1,rfl,(fun e he=>absurd he (by simp)),fun _=>rfl⟩;have I1:=I.laid (a:=s.heap.objs.size) (o:=.own (s.heap.objs.size+1)) (h':=s.heap.push PySem.W.emptyDict) (t':=s.toks) (fun b u q=>qAJ _ q) (qAG _) ⟨_,e1⟩;refine I1.laid (a:=s.heap.objs.size+1) (o:=.ins C s.heap.objs.size []) (t':=s.toks) (fun b u q=>qAJ _ q) (qBF (qBa _ _)) ?_;have ne:s.heap.objs.size≠s.heap.objs.size+1:=qAV (qBy _);refine ⟨by rw [upd_ne ne,upd_same],qAX _,ne,e2,fun _=>none,(Heap.Ns1.of_empty e3).at fun o q=>qAJ _ q,fun _=>True.intro,fun y hy=>absurd rfl hy⟩
theorem attr_of {prog:Program} {env:Env} {f:Str} {pos:Pos} {Q:Value->Shared->Prop} (hb:attributeBase e f env (eval e env)=eval e env)
  (h:wpAny (model prog w) A (eval e env) (fun o s₁=>wpAny (model prog w) A (getAttr o f true) Q E s₁) E s):wpAny (model prog w) A (eval (.Attribute e f pos) env) Q E s :=
 Attribute_any_ h (by rw [arm_eval_Attribute,hb])
end
def tFld (K:PySem.W.Frag) (ta:TE) (f:Str):TE:=fun σ H Q=>ta σ H fun x H1=>∃a C dx fs v,x= .ref a/\H1 a=some (.ins C dx fs)/\Cls K C/\zFn K C f/\fs.lookup f=some v/\Q v H1
def sFld (K:PySem.W.Frag) (ta tv:TE) (f:Str):TS:=fun D σ H=>tv σ H fun y H1=>ta σ H1 fun x H2=>∃a C dx fs,x= .ref a/\H2 a=some (.ins C dx fs)/\Cls K C/\zFn K C f/\fs.length<1000 /\
 D.nx σ (upd H2 a (.ins C dx (putF f y fs)))
section
variable {X:Cx} {o e value:Expr} {f:Str} {pos pos' tpos:Pos} {ta tv:TE}
theorem zDy (he:PE X e ta) (hb:attributeBase e f X.env (eval e X.env)=eval e X.env):PE X (.Attribute e f pos) (tFld X.K ta f):=by
 intro pins s σ H Q I h;refine attr_of hb (thn (he pins s σ H _ I h) fun u s1 ⟨x,H1,I1,rx,a,C,dx,fs,v,ex,ea,c,n,l,q⟩=>?_);subst ex;obtain rfl:u=Value.ref a:=rx;exact getattr_ok I1 ea c n l fun u' s2 I2 ru=>⟨v,H1,I2,ru,q⟩
theorem ps_fld (ha:PE X o ta) (hv:PE X value tv) (hs:swapsWith value (some (.Attribute o f pos')) pos.line X.env=pure false):PS X (.Assign [.Attribute o f pos'] value pos) (sFld X.K ta tv f):=by
 intro pins s σ H D I h;refine plainObj_wpAny_Assign_Attribute (thn (hv pins s σ H _ I h) fun u s1 ⟨y,H1,I1,ry,q⟩=>thn (ha pins s1 σ H1 _ I1 q) fun ov s2 ⟨x,H2,I2,rx,a,C,dx,fs,ex,ea,c,n,l,q2⟩=>?_) hs;subst ex;obtain rfl:ov=Value.ref a:=rx;exact setattr_ok I2 ea c n l ry fun s3 I3=>⟨σ,_,I3,q2⟩
end
section
variable {X:Cx} {pins:List (Addr×Obj)} {σ:St} {H:Hp} {s:Shared} {A:Around} {E:Value->Shared->Prop} {Q:Value->Shared->Prop} {c:Value} {b:Bool}
inductive TyOf (K:PySem.W.Frag) (H:Hp):V->Value->Prop where
 | non:TyOf K H .non (.type "NoneType")
 | bl (x:Bool):TyOf K H (.bl x) (.type "bool")
 | int (i:Int):TyOf K H (.int i) (.type "int")
 | str (x:Str):TyOf K H (.str x) (.type "str")
 | flt (x:UInt64):TyOf K H (.flt x) (.type "float")
 | lst {a:Addr} {xs:List V} (e:H a=some (.lst xs)):TyOf K H (.ref a) (.type "list")
 | frz {a:Addr} {o:Obj} {xs:List V} (e:H a=some (.frz o (.lst xs))):TyOf K H (.ref a) (.type "list")
 | tup {a:Addr} {xs:List V} (e:H a=some (.tup xs)):TyOf K H (.ref a) (.type "tuple")
 | dK {a:Addr} {kvs:List (Key×V)} (e:H a=some (.dK kvs)):TyOf K H (.ref a) (.type "dict")
 | dT {a:Addr} {kvs:List (List Key×V)} (e:H a=some (.dT kvs)):TyOf K H (.ref a) (.type "dict")
 | ins {a C dx:Addr} {fs:List (Str×V)} (e:H a=some (.ins C dx fs)) (cl:Cls K C) (ha:PySem.W.findIn K (.ref C) "__class__" = some (some (.builtin "object.__class__")))
   (hn:PySem.W.specialIn K (.builtin "object.__class__") "__get__" = some (some (.builtin "getset_descriptor.__get__"))) (htk:PySem.W.takesIn K (.builtin "object.__class__")=some true)
   (hm:PySem.W.mroIn K C (.type "object")=some true):TyOf K H (.ref a) (.ref C)
theorem isinst_ok {x:V} {t:Value} (I:Inv X pins σ H s) (rx:RelV x u) (ty:TyOf X.K H x t) (e:PySem.W.kitOne X.K t c=some b) (h:∀tk,Q (.bool b) {s with toks:=tk}) :
  wpAny (model X.prog X.w) A (call (.builtin "isinstance") [u,c]) Q E s:=by
 cases ty with
 | non=>cases (show u=Value.none from rx);exact qBJ PySem.W.kitx_none I.kIn True.intro e (fun z=>nomatch z) h
 | bl y=>cases (show u=Value.bool y from rx);exact qBJ PySem.W.kitx_bool I.kIn True.intro e (fun z=>nomatch z) h
 | int i=>obtain ⟨t,q⟩:=(show∃t,u=Value.int i t from rx);cases q;exact qBJ PySem.W.kitx_int I.kIn True.intro e (fun z=>nomatch z) h
 | str y=>obtain ⟨t,q⟩:=(show∃t,u=Value.str y t from rx);cases q;exact qBJ PySem.W.kitx_str I.kIn True.intro e (fun z=>nomatch z) h
 | flt y=>obtain ⟨t,q⟩:=(show∃t,u=Value.float y t from rx);cases q;exact qBJ PySem.W.kitx_float I.kIn True.intro e (fun z=>nomatch z) h
 | @lst a xs ea =>
  cases (show u=Value.ref a from rx)
  obtain ⟨_,_,n,_,h1⟩:=(show zAy X.prog X.w H s.heap a (.lst xs) from I.hok a _ ea);exact qBJ PySem.W.kitx_list I.kIn ⟨_,h1,rfl⟩ e (fun z=>nomatch z) h
 | @frz a ob xs ea =>
  cases (show u=Value.ref a from rx)
  obtain ⟨_,_,_,n,_,h1⟩:=(show zAy X.prog X.w H s.heap a (.frz ob (.lst xs)) from I.hok a _ ea);exact qBJ PySem.W.kitx_list I.kIn ⟨_,h1,rfl⟩ e (fun z=>nomatch z) h
 | @tup a xs ea =>
  cases (show u=Value.ref a from rx)
  obtain ⟨_,_,_,p⟩:=(show zAy X.prog X.w H s.heap a (.tup xs) from I.hok a _ ea);obtain ⟨o,h1,h2,_⟩:=p;exact qBJ PySem.W.kitx_tuple I.kIn ⟨o,h1,h2⟩ e (fun z=>nomatch z) h
 | @dK a kvs ea =>
  cases (show u=Value.ref a from rx)
  obtain ⟨_,_,vs,_,p⟩:=(show zAy X.prog X.w H s.heap a (.dK kvs) from I.hok a _ ea);obtain ⟨o,es,ep,h1,h2,_⟩:=p;exact qBJ PySem.W.kitx_dict I.kIn ⟨o,h1,h2.1⟩ e (fun z=>nomatch z) h
 | @dT a kvs ea =>
  cases (show u=Value.ref a from rx)
  obtain ⟨_,_,xs,_,o,es,ep,h1,h2,_⟩:=(show zAy X.prog X.w H s.heap a (.dT kvs) from I.hok a _ ea);exact qBJ PySem.W.kitx_dict I.kIn ⟨o,h1,h2.1⟩ e (fun z=>nomatch z) h
 | @ins a C dx fs ea cl ha hn htk hm =>
  cases (show u=Value.ref a from rx)
  obtain ⟨mA,O,_⟩:=zFw I.hok ea;obtain ⟨od,J,_⟩:=O.look;exact qBJ (PySem.W.kitx_own (cl.get _) cl.hd ha hn htk hm) I.kIn J e (fun z=>nomatch z) h
end
structure Room (k:Nat) (A:Around):Prop where
 hd:A.handled=none
 dp:A.depth+3*k+5<recursionLimit
 un:A.units+16*k+200<cLine
 gd:A.guards=some []
theorem Room.mono {j k:Nat} (r:Room k A) (h:j<=k):Room j A:=⟨r.hd,by have:=r.dp;lia,by have:=r.un;lia,r.gd⟩
theorem Room.deeper {k:Nat} (r:Room (k+1) A) (env:Env):Room k (A.deeper env) :=
 ⟨r.hd,by have:=r.dp;show A.depth+1+3*k+5<_;lia,by have:=r.un;show A.units+3+16*k+200<_;lia,r.gd⟩
theorem Room.in1 {k:Nat} (r:Room (k+1) A):Room k A.in1 :=
 ⟨r.hd,by have:=r.dp;show A.depth+3*k+5<_;lia,by have:=r.un;show A.units+1+16*k+200<_;lia,r.gd⟩
theorem make_depth {kw:List (Str×Value)}:(A.under (.builtin "type.__call__" ⟨.ref C::us,kw⟩)).depth=A.depth+1:=by
 first| rfl| simp [Around.under,Code.weight,Code.isCreation,Code.isGuard,Code.isCaller,Code.frames,Code.isFrame,guardIds]
theorem make_units {kw:List (Str×Value)}:(A.under (.builtin "type.__call__" ⟨.ref C::us,kw⟩)).units=A.units+1:=by
 first| rfl| simp [Around.under,Code.cUnits,Code.frames,Code.isFrame]
theorem Room.make {k:Nat} (r:Room (k+1) A) (C:Addr) (us:List Value) (kw:List (Str×Value)):Room k (A.under (.builtin "type.__call__" ⟨.ref C::us,kw⟩)) :=
 ⟨r.hd,by have:=r.dp;rw [make_depth];lia,by have:=r.un;rw [make_units];lia,(by unfold Around.under;dsimp only;rw [r.gd];rfl)⟩
theorem Room.depth {k:Nat} (r:Room k A):A.depth<recursionLimit:=by have:=r.dp;lia
theorem Room.units {k:Nat} (r:Room k A):A.units+64<cLine:=by have:=r.un;lia
def tNil:TA:=fun _ H Q=>Q [] H
def tCons (ta:TE) (tr:TA):TA:=fun σ H Q=>ta σ H fun x H1=>tr σ H1 fun xs H2=>Q (x::xs) H2
section
variable {X:Cx} {e:Expr} {es:List Expr} {te:TE} {t:TA} {pos:Pos}
theorem zAb:PA X [] tNil:=fun _ _ _ _ H Q I h=>Calls.spliced_nil ⟨[],H,I,.nil,h⟩
theorem zAa (ha:PE X e te) (hr:PA X es t) (hs:starEach (e::es) X.env=(false,eval e X.env)::starEach es X.env:=by rfl):PA X (e::es) (tCons te t):=by
 intro pos pins s σ H Q I h;rw [hs];show wpAny _ _ (spliced ((false,eval e X.env)::backTo pos (starEach es X.env))) _ _ s;refine Calls.spliced_cons (thn (ha pins s σ H _ I h) fun u s1 ⟨x,H1,I1,r1,q1⟩=>?_);exact thn (hr pos pins s1 σ H1 _ I1 q1) fun us s2 ⟨xs,H2,I2,r2,q2⟩=>⟨x::xs,H2,I2,.cons r1 r2,q2⟩
def tTup (t:TA):TE:=fun σ H Q=>t σ H fun xs H1=>xs.length<=sizeLine/\∀p,H1 p=none->Q (.ref p) (upd H1 p (.tup xs))
def tLst (t:TA):TE:=fun σ H Q=>t σ H fun xs H1=>xs.length<=sizeLine/\∀p,H1 p=none->Q (.ref p) (upd H1 p (.lst xs))
theorem zC2 {x1} (h:PA X es t):PE X (.Tuple es x1 pos) (tTup t):=by
 intro pins s σ H Q I hq;refine wpAny_Tuple_spliced (thn (h pos pins s σ H _ I hq) fun us s1 ⟨xs,H1,I1,r,z,q⟩=>⟨by rw [<-r.length];exact z,?_⟩);have hf:H1 s1.heap.objs.size=none:=I1.hok.fresh (qAG _);refine ⟨.ref s1.heap.objs.size,upd H1 s1.heap.objs.size (.tup xs),I1.laid (t':=s1.toks) (fun b u e=>qAJ _ e) (qAG _) ?_,rfl,q _ hf⟩;exact ⟨z,us,r,⟨_,qAb _ rfl,rfl,_,rfl⟩⟩
theorem zCf (h:PA X es t):PE X (.List es pos) (tLst t):=by
 intro pins s σ H Q I hq;refine wpAny_List_spliced (thn (h pos pins s σ H _ I hq) fun us s1 ⟨xs,H1,I1,r,z,q⟩=>⟨by rw [<-r.length];exact z,?_⟩);have hf:H1 s1.heap.objs.size=none:=I1.hok.fresh (qAG _);refine ⟨.ref s1.heap.objs.size,upd H1 s1.heap.objs.size (.lst xs),I1.laid (t':=s1.toks) (fun b u e=>qAJ _ e) (qAG _) ?_,rfl,q _ hf⟩;exact ⟨z,us,0,r,qAb _ rfl⟩
end
abbrev Sp:=List V->Hp->VK->XK->Prop
abbrev CXT:=List Env->Hp->Shared->XK->Value->Shared->Prop
structure Env0 (P:Program) (w:World) (K:PySem.W.Frag) (mg:Str->Option Value) (base:Heap) (A:Around) (outer:List Env) (s:Shared) (H:Hp):Prop where
 frames:A.frames=some outer
 mod:Mod K mg base
 bs:∀b o,base.get? b=some o->s.heap.get? b=some o/\H b=none
 bsz:base.objs.size<=s.heap.objs.size
 funs:s.heap.FunFrames base outer
 frf:∀b∈frs outer,H b=none
 hok:HOk P w H s.heap
 bare:AllBare s.gens
def CE (outer:List Env) (P:Program) (w:World) (H:Hp) (s:Shared) (Q:VK) (u:Value) (s':Shared):Prop :=
 ∃v H',s'.os=s.os/\AllBare s'.gens/\Un (frs outer) [] H H' s.heap s'.heap/\HOk P w H' s'.heap/\RelV v u/\Q v H'
def CR (CX:CXT) (outer:List Env) (P:Program) (w:World) (H:Hp) (s:Shared) (Q:VK) (E:XK) (r:Result) (s':Shared):Prop :=
 match r with
 | .ok (.ret u)=>CE outer P w H s Q u s'
 | .ok _=>False
 | .error e=>CX outer H s E e s'
structure FnOk (P:Program) (w:World) (K:PySem.W.Frag) (mg:Str->Option Value) (base:Heap) (CX:CXT) (k:Nat) (f:Addr) (fd:FuncData) (ps:List Str) (sp:Sp):Prop where
 len:∀vs H Q E,sp vs H Q E->vs.length=ps.length
 run:∀(A:Around) (outer:List Env) (s:Shared) (H:Hp) (args:Args) (us:List Value) (vs:List V) (Q:VK) (E:XK),Room k A->Env0 P w K mg base A outer s H->BindsTo s fd args (ps.zip us)->Vals vs us->sp vs H Q E ->
  codeAny (model P w) A (.call (.ref f) args) (CR CX outer P w H s Q E) s
theorem Env0.make {mg:Str->Option Value} {outer:List Env} (e:Env0 P w K mg base A outer s H) (C:Addr) (us:List Value) (kw:List (Str×Value)) :
  Env0 P w K mg base (A.under (.builtin "type.__call__" ⟨.ref C::us,kw⟩)) outer s H:=⟨by first| exact e.frames| (simpa [Around.under,Code.envs,Code.isFrame,pushEnvs] using e.frames),e.mod,e.bs,e.bsz,e.funs,e.frf,e.hok,e.bare⟩
section
variable {X:Cx} {pins:List (Addr×Obj)} {σ:St} {H:Hp} {s s':Shared}
theorem Inv.env0 (I:Inv X pins σ H s):Env0 X.prog X.w X.K X.mg X.base X.A X.stack s H :=
 ⟨I.ok.frames,I.ok.mod,I.bs,qAT I.ok.bsz I.sz,I.stack,I.stkFree,I.hok,I.bare⟩
theorem Inv.after {Q:VK} (I:Inv X pins σ H s) (h:CE X.stack X.prog X.w H s Q u s'):EP X pins σ Q u s':=by
 obtain ⟨v,H',os,bare,un,hok,r,q⟩:=h;obtain ⟨hh,g,d,t,os'⟩:=s';obtain rfl:os'=s.os:=os;exact ⟨v,H',I.call (h':=hh) (g':=g) (d':=d) (t':=t) (ch:=[]) un hok bare (fun b z=>absurd z (by simp)),r,q⟩
end
def tCall (sp:Sp) (dvs:List V) (E:XK) (t:TA):TE:=fun σ H Q=>t σ H fun vs H1=>sp (vs++dvs) H1 Q E
def tMeth (C:Addr) (m:Str) (sp:Sp) (dvs:List V) (E:XK) (ta:TE) (t:TA):TE:=fun σ H Q=>ta σ H fun x H1=>∃a dx fs,x= .ref a/\H1 a=some (.ins C dx fs)/\fs.lookup m=none /\
 t σ H1 fun vs H2=>sp (x::(vs++dvs)) H2 Q E
def tMake (C:Addr) (sp:Sp) (dvs:List V) (E:XK) (t:TA):TE:=fun σ H Q=>t σ H fun vs H1=>∀x dx,H1 x=none->H1 dx=none->dx≠x ->
 sp (.ref x::(vs++dvs)) (upd (upd H1 dx (.own x)) x (.ins C dx [])) (fun v H2=>v= .non/\Q (.ref x) H2) E
def zDu (K:PySem.W.Frag) (fd:FuncData) (ps:List Str) (ds:List Value):Prop :=
 ∀(s:Shared) (us:List Value),K.In s.heap->(us++ds).length=ps.length->BindsTo s fd ⟨us,[]⟩ (ps.zip (us++ds))
theorem zDu.all {fd:FuncData} {ps:List Str} (h:∀us:List Value,us.length=ps.length->bindArgs fd ⟨us,[]⟩=pure (ps.zip us)):zDu K fd ps []:=fun s us _ hl=>by
 rw [qBR] at hl ⊢;exact .of_eq (h us hl)
def zHt (CX:CXT) (X:Cx) (E:XK):Prop:=∀(pins:List (Addr×Obj)) (σ:St) (H:Hp) (s:Shared) (e:Value) (s':Shared),Inv X pins σ H s->CX X.stack H s E e s'->X.xe e s'
section
variable {X:Cx} {CX:CXT} {k:Nat} {f C:Addr} {fd:FuncData} {ps:List Str} {sp:Sp} {dvs:List V} {ds:List Value} {E:XK} {x m:Str} {p pos apos:Pos} {e o:Expr} {es:List Expr} {ta:TE} {t:TA}
theorem run_fn {Q:VK} {us:List Value} {vs:List V} (F:FnOk X.prog X.w X.K X.mg X.base CX k f fd ps sp) (hr:Room k X.A) (hb:zDu X.K fd ps ds) (hd:Vals dvs ds) (hx:zHt CX X E)
  (I:Inv X pins σ H s) (r:Vals vs us) (h:sp (vs++dvs) H Q E):wpAny (model X.prog X.w) X.A (call (.ref f) us) (EP X pins σ Q) X.xe s:=by
 have r2:Vals (vs++dvs) (us++ds):=r.append hd;have hl:(us++ds).length=ps.length:=by rw [<-r2.length];exact F.len _ _ _ _ h
 refine qCF (qCG (F.run X.A X.stack s H ⟨us,[]⟩ (us++ds) (vs++dvs) Q E hr I.env0 (hb s us I.kIn hl) r2 h) fun r s' hq=>?_)
 cases r with
 | error e=>exact hx pins σ H s e s' I hq
 | ok fl =>
  cases fl with
  | ret u=>exact I.after hq
  | next=>exact False.elim hq
  | brk=>exact False.elim hq
  | cont=>exact False.elim hq
theorem pe_call (F:FnOk X.prog X.w X.K X.mg X.base CX k f fd ps sp) (hr:Room k X.A) (hg:Gl X x) (hm:X.mg x=some (.ref f)) (hk:PySem.W.keepIn X.K (.ref f)=true) (hb:zDu X.K fd ps ds) (hd:Vals dvs ds) (hx:zHt CX X E)
  (ha:PA X (e::es) t) (hdb:(x==("__debug__" : Str))=false:=by decide) (he:starEach (e::es) X.env=(false,eval e X.env)::starEach es X.env:=by rfl) (hpl:(backTo pos (starEach es X.env)).any (·.1)=false:=by rfl) :
  PE X (.Call (.Name x p) (e::es) [] pos) (tCall sp dvs E t):=by
 intro pins s σ H Q I h;refine qBz (ld_glob I hg hm ?_ hdb);refine PySem.W.callWith_K (h₀:=X.base) I.ok.mod.kin hk (thn (ha pos pins s σ H _ I h) fun us s1 ⟨vs,H1,I1,r,q⟩=>⟨I1.kIn,?_⟩) he hpl;exact run_fn F hr hb hd hx I1 r q
theorem pe_meth {pl:Sem Bool} (he:PE X o ta) (c:Cls X.K C) (hm:Meth X.K C m f) (F:FnOk X.prog X.w X.K X.mg X.base CX k f fd ps sp) (hr:Room k X.A) (hb:zDu X.K fd ps ds) (hd:Vals dvs ds) (hx:zHt CX X E) (ha:PA X (e::es) t)
  (hst:starEach (e::es) X.env=(false,eval e X.env)::starEach es X.env:=by rfl) (hpl:(backTo pos (starEach es X.env)).any (·.1)=false:=by rfl)
  (ht:eval (.Call (.Attribute o m apos) (e::es) [] pos) X.env=(do
   let ov<-eval o X.env
   standAt apos.atName
   let (f,first)<-holding [ov] (getMethod ov m pl)
   callWith pos f first (backTo pos (starEach (e::es) X.env)) (backToKw pos (keywordEach [] X.env))):=by rfl) :
  PE X (.Call (.Attribute o m apos) (e::es) [] pos) (tMeth C m sp dvs E ta t):=by
 intro pins s σ H Q I h;refine PySem.W.methodCall_KW (pl:=pl) (thn (he pins s σ H _ I h) fun u s1 ⟨x,H1,I1,rx,a,dx,fs,ex,ea,l,q⟩=>?_) ht;subst ex;obtain rfl:u=Value.ref a:=rx;refine zIl I1 ea c hm l ?_;refine PySem.W.callWith_K (first:=[.ref a]) (h₀:=X.base) I.ok.mod.kin hm.kp (thn (ha pos pins s1 σ H1 _ I1 q) fun us s2 ⟨vs,H2,I2,r,q2⟩=>⟨I2.kIn,?_⟩) hst hpl;exact run_fn (us:=.ref a::us) (vs:=.ref a::vs) F hr hb hd hx I2 (.cons rfl r) q2
theorem pe_meth0 {pl:Sem Bool} (he:PE X o ta) (c:Cls X.K C) (hm:Meth X.K C m f) (F:FnOk X.prog X.w X.K X.mg X.base CX k f fd ps sp) (hr:Room k X.A) (hb:zDu X.K fd ps ds) (hd:Vals dvs ds) (hx:zHt CX X E)
  (ht:eval (.Call (.Attribute o m apos) [] [] pos) X.env=(do
   let ov<-eval o X.env
   standAt apos.atName
   let (f,first)<-holding [ov] (getMethod ov m pl)
   callWith pos f first (backTo pos (starEach [] X.env)) (backToKw pos (keywordEach [] X.env))):=by rfl) :
  PE X (.Call (.Attribute o m apos) [] [] pos) (tMeth C m sp dvs E ta tNil):=by
 intro pins s σ H Q I h;refine PySem.W.methodCall_KW (pl:=pl) (thn (he pins s σ H _ I h) fun u s1 ⟨x,H1,I1,rx,a,dx,fs,ex,ea,l,q⟩=>?_) ht;subst ex;obtain rfl:u=Value.ref a:=rx;refine zIl I1 ea c hm l ?_;exact PySem.W.callWith_K0 (first:=[.ref a]) I1.kIn hm.kp (run_fn (us:=[.ref a]) (vs:=[.ref a]) F hr hb hd hx I1 (.cons rfl .nil) q)
structure Mk (K:PySem.W.Frag) (C f:Addr):Prop where
 makes:PySem.W.makesIn K C=true
 init:PySem.W.findIn K (.ref C) "__init__" = some (some (.ref f))
 fn:PySem.W.isFn K (.ref f)=true
 kp:PySem.W.keepIn K (.ref C)=true
theorem run_make {Q:VK} {vs:List V} (M:Mk X.K C f) (F:FnOk X.prog X.w X.K X.mg X.base CX k f fd ps sp) (hr:Room (k+1) X.A) (hb:zDu X.K fd ps ds) (hd:Vals dvs ds)
  (hx:zHt CX X E) (I:Inv X pins σ H s) (r:Vals vs us)
  (h:∀x dx,H x=none->H dx=none->dx≠x->sp (.ref x::(vs++dvs)) (upd (upd H dx (.own x)) x (.ins C dx [])) (fun v H2=>v= .non/\Q (.ref x) H2) E) :
  wpAny (model X.prog X.w) X.A (call (.ref C) us) (EP X pins σ Q) X.xe s:=by
 have hq:=h (s.heap.objs.size+1) s.heap.objs.size (I.hok.fresh (qCH _)) (I.hok.fresh (qAG _)) (qAV (qBy _));have I2:=Inv.made (C:=C) I;have r2:Vals (V.ref (s.heap.objs.size+1)::(vs++dvs)) (Value.ref (s.heap.objs.size+1)::(us++ds)):=.cons rfl (r.append hd)
 have hl:(Value.ref (s.heap.objs.size+1)::us++ds).length=ps.length:=by
  have e:=r2.length;rw [F.len _ _ _ _ hq] at e;exact e.symm
 refine qCF (make_map (f:=f) I.kIn M.makes M.init (qCW.mp M.fn) (qCG (F.run _ X.stack _ _ ⟨Value.ref (s.heap.objs.size+1)::us,[]⟩ (Value.ref (s.heap.objs.size+1)::(us++ds)) _ _ E (hr.make C us [])
  (I2.env0.make C us []) (hb _ (Value.ref (s.heap.objs.size+1)::us) I2.kIn hl) r2 hq) fun r s' hq'=>?_))
 cases r with
 | error e=>exact hx pins σ _ _ e s' I2 hq'
 | ok fl =>
  cases fl with
  | ret u =>
   obtain ⟨v,H',I3,rv,ev,q3⟩:=I2.after hq';subst ev;exact ⟨rv,⟨V.ref (s.heap.objs.size+1),H',I3,rfl,q3⟩⟩
  | next=>exact False.elim hq'
  | brk=>exact False.elim hq'
  | cont=>exact False.elim hq'
theorem pe_make (M:Mk X.K C f) (F:FnOk X.prog X.w X.K X.mg X.base CX k f fd ps sp) (hr:Room (k+1) X.A) (hg:Gl X x) (hm:X.mg x=some (.ref C)) (hb:zDu X.K fd ps ds) (hd:Vals dvs ds) (hx:zHt CX X E)
  (ha:PA X (e::es) t) (hdb:(x==("__debug__" : Str))=false:=by decide) (he:starEach (e::es) X.env=(false,eval e X.env)::starEach es X.env:=by rfl) (hpl:(backTo pos (starEach es X.env)).any (·.1)=false:=by rfl) :
  PE X (.Call (.Name x p) (e::es) [] pos) (tMake C sp dvs E t):=by
 intro pins s σ H Q I h;refine qBz (ld_glob I hg hm ?_ hdb);refine PySem.W.callWith_K (h₀:=X.base) I.ok.mod.kin M.kp (thn (ha pos pins s σ H _ I h) fun us s1 ⟨vs,H1,I1,r,q⟩=>⟨I1.kIn,?_⟩) he hpl;exact run_make M F hr hb hd hx I1 r q
end
def PK (X:Cx) (kws:List Keyword) (t:TA):Prop :=
 ∀(pos:Pos) (pins:List (Addr×Obj)) (s:Shared) (σ:St) (H:Hp) (Q:List V->Hp->Prop),Inv X pins σ H s->t σ H Q->wpAny (model X.prog X.w) X.A (evalAll ((backToKw pos (keywordEach kws X.env)).map (·.2))) (AP X pins σ Q) X.xe s
section
variable {X:Cx} {CX:CXT} {k:Nat} {f C:Addr} {fd:FuncData} {ps ks:List Str} {sp:Sp} {E:XK} {x m:Str} {p pos apos kpos:Pos} {e o:Expr} {es:List Expr} {kws:List Keyword} {te ta:TE} {t tk:TA} {nm:Option Str}
theorem pk_nil:PK X [] tNil:=fun _ _ _ _ H Q I h=>wpAny_evalAll_nil ⟨[],H,I,.nil,h⟩
theorem pk_cons (ha:PE X e te) (hr:PK X kws t):PK X (⟨nm,e,kpos⟩::kws) (tCons te t):=by
 intro pos pins s σ H Q I h;show wpAny _ _ (evalAll ((do let v<-eval e X.env;standAt pos;pure v)::(backToKw pos (keywordEach kws X.env)).map (·.2))) _ _ s;refine qCx (qAA (thn (ha pins s σ H _ I h) fun u s1 ⟨x,H1,I1,r1,q1⟩=>qAA (qBv (qAE ?_))));exact thn (hr pos pins s1 σ H1 _ I1 q1) fun us s2 ⟨xs,H2,I2,r2,q2⟩=>⟨x::xs,H2,I2,.cons r1 r2,q2⟩
variable {g:List Value->List Value->List Value} {gV:List V->List V->List V}
end
structure FnScope (N P:List Str) (sc:Scope):Prop where
 kind:sc.kind= .function
 co:sc.isCoroutine=false
 gen:sc.isGenerator=false
 nd:N.Nodup
 pre:N.take P.length=P
 par:∀x∈P,sc.names.lookup x=some .local\/sc.names.lookup x=some .cell
 nofree:∀y∈sc.names,y.2≠.free
theorem bindL_out {kindOf:Str->Option NameKind} :∀{binds:List (Str×Value)} {m:Str->Option Value},(∀v,(x,v)∉binds)->bindL kindOf binds m x=m x
 | [],_,_=>rfl
 | (n,v)::r,m,h=>by
  unfold bindL;rw [bindL_out fun w hw=>h w (qAP _ hw)];split
  ·have:x≠n:=by rintro rfl;exact h v qAR
   simp [this]
  ·rfl
theorem bindC_out {kindOf:Str->Option NameKind} :∀{binds:List (Str×Value)} {m:Str->Option Value},(∀v,(x,v)∉binds)->bindC kindOf binds m x=m x
 | [],_,_=>rfl
 | (n,v)::r,m,h=>by
  unfold bindC;rw [bindC_out fun w hw=>h w (qAP _ hw)];split
  ·rfl
  ·have:x≠n:=by rintro rfl;exact h v qAR
   simp [this]
theorem bindL_get {kindOf:Str->Option NameKind} {v:Value}:∀{P:List Str} {vs:List Value} {i:Nat} {m:Str->Option Value},P.Nodup->P[i]?=some x->vs[i]?=some v->kindOf x=some .local ->
  bindL kindOf (P.zip vs) m x=some v
 | [],_,_,_,_,h,_,_=>by simp at h
 | _::_,[],_,_,_,_,h,_=>by simp at h
 | p::P,w::vs,0,m,nd,h1,h2,hk=>by
  simp at h1 h2;subst h1;subst h2;show bindL kindOf ((p,w)::P.zip vs) m p=_;unfold bindL;rw [bindL_out fun v hv=>(qAw.mp nd).1 (List.of_mem_zip hv).1,qAC hk];simp
 | p::P,w::vs,i+1,m,nd,h1,h2,hk=>by
  show bindL kindOf ((p,w)::P.zip vs) m x=_;unfold bindL;exact bindL_get (i:=i) (qAw.mp nd).2 (by simpa using h1) (by simpa using h2) hk
theorem bindC_get {kindOf:Str->Option NameKind} {v:Value}:∀{P:List Str} {vs:List Value} {i:Nat} {m:Str->Option Value},P.Nodup->P[i]?=some x->vs[i]?=some v->kindOf x≠some .local ->
  bindC kindOf (P.zip vs) m x=some v
 | [],_,_,_,_,h,_,_=>by simp at h
 | _::_,[],_,_,_,_,h,_=>by simp at h
 | p::P,w::vs,0,m,nd,h1,h2,hk=>by
  simp at h1 h2;subst h1;subst h2;show bindC kindOf ((p,w)::P.zip vs) m p=_;unfold bindC;rw [bindC_out fun v hv=>(qAw.mp nd).1 (List.of_mem_zip hv).1,qAB hk];simp
 | p::P,w::vs,i+1,m,nd,h1,h2,hk=>by
  show bindC kindOf ((p,w)::P.zip vs) m x=_;unfold bindC;exact bindC_get (i:=i) (qAw.mp nd).2 (by simpa using h1) (by simpa using h2) hk
def start (N:List Str) (vs:List V):St:=vs.map some++List.replicate (N.length - vs.length) none
def cxOf (CX:CXT) (P:Program) (w:World) (K:PySem.W.Frag) (mg:Str->Option Value) (base:Heap) (N:List Str) (qual:Str) (scope:Scope) (f:Addr) (cd:Value) (A:Around) (outer:List Env) (s:Shared) (H:Hp) (E:XK):Cx where
 prog:=P
 w:=w
 K:=K
 mg:=mg
 base:=base
 A:=A.deeper (envOfC qual scope s.heap.objs.size f cd)
 N:=N
 s₀:=s
 H₀:=H
 env:=envOfC qual scope s.heap.objs.size f cd
 outer:=outer
 stack:=envOfC qual scope s.heap.objs.size f cd::outer
 ex:=[]
 calm:=true
 fn:=fun _=>true
 pn:=[]
 xe:=fun e s'=>wpAny (model P w) (A.deeper (envOfC qual scope s.heap.objs.size f cd)) (leaving (envOfC qual scope s.heap.objs.size f cd) e) (fun _ s''=>CX outer H s E e s'') (fun e' s''=>CX outer H s E e' s'') s'
theorem cell_has {sc:Scope} {n:Nat} (h:sc.names.lookup x=some .cell):∃c,(cellsFrom n sc.names []).lookup x=some c:=by
 have q:=qDV sc.names n [] (.inl h);exact Option.isSome_iff_exists.mp q
theorem inv_start {CX:CXT} {mg:Str->Option Value} {N ps:List Str} {qual:Str} {scope:Scope} {f:Addr} {cd:Value} {outer:List Env} {s1:Shared} {E:XK} {vs:List V}
  (S:FnScope N ps scope) (hd:A.handled=none) (e0:Env0 P w K mg base A outer s H) (hl:vs.length=ps.length) (r:Vals vs us)
  (x:InCallC s s.heap.objs.size (bindL (envOfC qual scope s.heap.objs.size f cd).kindOf (ps.zip us) fun _=>none) (cellsFrom (s.heap.objs.size+1) scope.names []) (bindC (envOfC qual scope s.heap.objs.size f cd).kindOf (ps.zip us) fun _=>none) s1) :
  Inv (cxOf CX P w K mg base N qual scope f cd A outer s H E) [] (start N vs) H s1:=by
 have hpl:ps.length<=N.length:=by have:=qAg List.length S.pre;rw [qAY] at this;lia
 obtain ⟨h1,tk,rfl,hk⟩:=x.done;have noA:∀b:Addr,b∉(cxOf CX P w K mg base N qual scope f cd A outer s H E).ex:=fun b z=>absurd (show b∈([]:List Addr) from z) (by simp)
 refine ⟨⟨e0.mod,S.kind,rfl,rfl,qAG _,fun y z c h1 h2=>?_,fun y hy=>?_,fun y c _ h=>?_,fun _=>hd,Around.frames_deeper e0.frames,.inr ⟨rfl,rfl⟩,fun b z=>absurd z (noA b),e0.bs,e0.bsz,fun b _ _=>noA b,fun b z=>absurd z (noA b),e0.funs,e0.frf⟩,
  rfl,e0.bare,Un.kept hk,⟨_,x.toInCall.ns,fun i y v h1 h2 h3=>?_⟩,fun y c h=>⟨_,x.cell y c h⟩,e0.hok.fresh (qAG _),fun y c h=>?_,fun p hp=>absurd (show p∈([]:List (Addr×Obj)) from hp) (by simp),e0.hok.kept hk,?_⟩
 ·exact name_of_addr x.apart (qBh h1) (qBh h2)
 ·have hy:scope.names.lookup y=some .cell\/scope.names.lookup y=some .free:=hy;rcases hy with hy| hy
  ·exact cell_has hy
  ·exact absurd rfl (S.nofree _ (qBh hy))
 ·exact qBu (x.above y c (qBh h))
 ·have hi:i<vs.length:=by
   unfold start at h2
   by_cases hi:i<vs.length
   ·exact hi
   ·rw [qBi (by simpa using hi)] at h2;rw [List.getElem?_replicate] at h2;split at h2<;>cases h2
  have ha:vs[i]?=some v:=by
   unfold start at h2;rw [qBj (by simpa using hi),qAe] at h2
   cases e:vs[i]? with
   | none=>rw [e] at h2;cases h2
   | some a=>rw [e] at h2;cases h2;rfl
  obtain ⟨u,hu,rv⟩:=r.get ha
  have hp:ps[i]?=some y:=by
   rw [<-S.pre,qB0 (by lia)];exact h1
  have ndP:ps.Nodup:=by rw [<-S.pre];exact S.nd.sublist (qCy _ _)
  refine ⟨u,rv,?_⟩;rcases S.par y (qAN hp) with k| k
  ·exact .inl ⟨k,bindL_get ndP hp hu k⟩
  ·obtain ⟨c,e⟩:=cell_has (n:=s.heap.objs.size+1) k;refine .inr ⟨.inl k,c,e,?_⟩;have q:=x.cell y c e;rw [bindC_get ndP hp hu (by show scope.names.lookup y≠_;rw [k];decide)] at q;exact q
 ·exact e0.hok.fresh (qBu (x.above y c (qBh h)))
 ·unfold start;show _=N.length;rw [qAo,qAD,List.length_replicate];lia
theorem fn_of {CX:CXT} {mg:Str->Option Value} {k:Nat} {f:Addr} {name qual:Str} {params:Arguments} {body:List Stmt} {scope:Scope} {dV kV doc pm cdv ct oc:Value} {an od:Option Addr}
  {osl:Array (Option Value)} {N ps:List Str} {sp:Sp} (lk:K.lookup f=some ⟨oc,od,.func (PySem.W.fnOf name qual params body scope dV kV doc pm an cdv ct),osl⟩) (hcd:PySem.W.codeIn K cdv qual=true) (S:FnScope N ps scope)
  (len:∀vs H Q E,sp vs H Q E->vs.length=ps.length)
  (hbody:∀(A:Around) (outer:List Env) (s:Shared) (H:Hp) (vs:List V) (Q:VK) (E:XK),Room k (A.deeper (envOfC qual scope s.heap.objs.size f cdv))->sp vs H Q E ->
   ∃t,PSs (cxOf CX P w K mg base N qual scope f cdv A outer s H E) body t/\t {nx:=fun _ H'=>Q .non H',rt:=Q} (start N vs) H) :
  FnOk P w K mg base CX (k+1) f (PySem.W.fnOf name qual params body scope dV kV doc pm an cdv ct) ps sp:=by
 refine ⟨len,fun A outer s H args us vs Q E hr e0 hb r hsp=>?_⟩;have hl:=len _ _ _ _ hsp;have KX:K.In s.heap:=e0.mod.kin.keeps fun b o e=>(e0.bs b o e).1;have lim:s.heap.NoLimit:=e0.mod.nolimit.keeps fun b o e=>(e0.bs b o e).1
 have hkind:∀y∈ps.zip us,scope.names.lookup y.1=some .local\/(scope.names.lookup y.1=some .cell/\((cellsFrom (s.heap.objs.size+1) scope.names []).lookup y.1).isSome=true):=fun ⟨n,v⟩ hy=>by
  rcases S.par n (List.of_mem_zip hy).1 with q| q
  ·exact .inl q
  ·exact .inr ⟨q,qDV _ _ _ (.inl q)⟩
 refine codeAny_call_function hr.depth (KX _ _ lk) rfl S.co S.gen rfl (PySem.W.codeRec_of KX hcd) (hb _ _ _ _ ?_);refine wpAny_newFunctionEnv_cells S.kind hkind fun env he s1 x=>?_;subst he;refine ⟨lim.keeps x.toInCall.keep,codeAny_func ?_⟩;obtain ⟨t,ht,hq⟩:=hbody A outer s H vs Q E (hr.deeper _) hsp;have I:Inv (cxOf CX P w K mg base N qual scope f cdv A outer s H E) [] (start N vs) H s1:=inv_start S hr.hd e0 hl r x;refine qAp (ht [] s1 (start N vs) H _ I hq) (fun fl s' hs=>?_) fun e s' hs=>hs
 have fin:∀{σ':St} {H':Hp} {v:V} {u:Value},Inv (cxOf CX P w K mg base N qual scope f cdv A outer s H E) [] σ' H' s'->RelV v u->Q v H'->CE outer P w H s Q u s' :=
  fun {σ' H' v u} J rv q=>⟨v,H',J.os,J.bare,J.base,J.hok,rv,q⟩
 cases fl with
 | ret u =>
  obtain ⟨v,σ',H',J,rv,q⟩:=hs;exact fin J rv q
 | next =>
  obtain ⟨σ',H',J,q⟩:=hs;exact fin (v:=V.non) (u:=Value.none) J rfl q
 | brk =>
  obtain ⟨_,_,_,q⟩:=hs;exact False.elim q
 | cont =>
  obtain ⟨_,_,_,q⟩:=hs;exact False.elim q
section
variable {X:Cx} {x:Str} {p pos:Pos} {e:Expr} {es:List Expr} {t:TA} {id T:String} {r:List V->Hp->VK->Prop}
def tCB (r:List V->Hp->VK->Prop) (t:TA):TE:=fun σ H Q=>t σ H fun vs H1=>r vs H1 Q
theorem zAh (hc:zCu X (.builtin id) r) (hg:Gl X x) (hm:X.mg x=none) (hv:bootBuiltins x=some (.builtin id)) (ha:PA X (e::es) t) (hn:x≠ "__name__" := by decide) (hdb:(x==("__debug__" : Str))=false:=by decide)
  (he:starEach (e::es) X.env=(false,eval e X.env)::starEach es X.env:=by rfl) (hpl:(backTo pos (starEach es X.env)).any (·.1)=false:=by rfl):PE X (.Call (.Name x p) (e::es) [] pos) (tCB r t):=by
 intro pins s σ H Q I h;refine qBz (zFe I hg hm hv ?_ hn hdb);exact PyProof.Rows.callWith_builtin1 (thn (ha pos pins s σ H _ I h) fun us s1 ⟨vs,H1,I1,r1,q1⟩=>hc pins s1 σ H1 vs us Q I1 r1 q1) he hpl
theorem zAm (hc:zCu X (.type T) r) (hg:Gl X x) (hm:X.mg x=none) (hv:bootBuiltins x=some (.type T)) (ha:PA X (e::es) t) (hn:x≠ "__name__" := by decide) (hdb:(x==("__debug__" : Str))=false:=by decide)
  (he:starEach (e::es) X.env=(false,eval e X.env)::starEach es X.env:=by rfl) (hpl:(backTo pos (starEach es X.env)).any (·.1)=false:=by rfl):PE X (.Call (.Name x p) (e::es) [] pos) (tCB r t):=by
 intro pins s σ H Q I h;refine qBz (zFe I hg hm hv ?_ hn hdb);exact qCw (thn (ha pos pins s σ H _ I h) fun us s1 ⟨vs,H1,I1,r1,q1⟩=>hc pins s1 σ H1 vs us Q I1 r1 q1) he hpl
end
end L2
namespace HT
open PySem PyProof.Rows
section
open PySem.SeqAt
open PySem.AutoSeq1 (wpAny_loadPart')
open PySem.MeetsSeq PySem.MeetsSeq2 PySem.MeetsSeq3
end
section
variable {prog:Program} {w:World} {A:Around} {E:Value->Shared->Prop} {s:Shared}
def sIx (n d:Nat):Option Int->Nat
 | none=>d
 | some v=>if v<0 then (v+(n:Int)).toNat else min v.toNat n
theorem sIx_none (n d:Nat):sIx n d none=d:=rfl
theorem sIx_nat (n d k:Nat):sIx n d (some (k:Int))=min k n:=by
 show (if (k:Int)<0 then ((k:Int)+(n:Int)).toNat else min (k:Int).toNat n)=min k n;rw [qAB (by lia),Int.toNat_natCast]
end
end HT
namespace L2
open PySem PySem.Spec PyProof.Rows
variable {α:Type}{n:Nat}{x:V}
abbrev TO:=St->Hp->(Option Int->Hp->Prop)->Prop
def PO (X:Cx) (e:Option Expr) (t:TO):Prop :=
 ∀(pins:List (Addr×Obj)) (s:Shared) (σ:St) (H:Hp) (Q:Option Int->Hp->Prop),Inv X pins σ H s->t σ H Q ->
  wpAny (model X.prog X.w) X.A (evalPart e X.env) (fun u s'=>∃o H',Inv X pins σ H' s'/\IsPart u o/\Q o H') X.xe s
def tNoPart:TO:=fun _ H Q=>Q none H
def tPart (t:TE):TO:=fun σ H Q=>t σ H fun x H1=>∃i,x= .int i/\Q (some i) H1
section
variable {X:Cx} {e:Expr} {te:TE} {lo hi:Option Expr} {tl th:TO} {pos p2:Pos}
theorem po_none:PO X none tNoPart:=by
 intro pins s σ H Q I h;rw [evalPart_none];exact qAE ⟨none,H,I,.none,h⟩
theorem po_some (h:PE X e te):PO X (some e) (tPart te):=by
 intro pins s σ H Q I hw;rw [evalPart_some];refine thn (h pins s σ H _ I hw) fun u s1 ⟨x,H1,I1,r1,q1⟩=>?_;obtain ⟨i,rfl,q⟩:=q1;obtain ⟨t,rfl⟩:=r1;exact ⟨some i,H1,I1,.int i t,q⟩
def SlR (X:Cx) (r:V->Option Int->Option Int->Hp->VK->Prop):Prop :=
 ∀(pins:List (Addr×Obj)) (s:Shared) (σ:St) (H:Hp) (x:V) (v vl vu:Value) (lo hi:Option Int) (sl:Addr) (Q:VK),Inv X pins σ H s->RelV x v->s.heap.IsSliceOf sl vl vu .none->IsPart vl lo->IsPart vu hi->r x lo hi H Q ->
  ∃T id,typeLookup (.type T) "__getitem__" = pure (some (.builtin id))/\s.TypeIs v T/\wpAny (model X.prog X.w) X.A (getItem v (.ref sl)) (EP X pins σ Q) X.xe s
def tSl (r:V->Option Int->Option Int->Hp->VK->Prop) (te:TE) (tl th:TO):TE:=fun σ H Q=>te σ H fun x H1=>tl σ H1 fun l H2=>th σ H2 fun u H3=>r x l u H3 Q
theorem pe_slice {r:V->Option Int->Option Int->Hp->VK->Prop} (hr:SlR X r) (he:PE X e te) (hl:PO X lo tl) (hu:PO X hi th):PE X (.Subscript e (.Slice lo hi none p2) pos) (tSl r te tl th):=by
 intro pins s σ H Q I h;refine Subscript_ (thn (he pins s σ H _ I h) fun v s1 ⟨x,H1,I1,r1,q1⟩=>?_);refine wpAny_Slice (thn (hl pins s1 σ H1 _ I1 q1) fun vl s2 ⟨l,H2,I2,pl,q2⟩=>thn (hu pins s2 σ H2 _ I2 q2) fun vu s3 ⟨u,H3,I3,pu,q3⟩=>?_);rw [evalPart_none];refine qAE ?_;have I4:Inv X pins σ H3 {s3 with heap:=s3.heap.push {cls:=.type "slice",data:=.fields #[vl,vu,.none]}}:=I3.kept (t':=s3.toks) fun b ob q=>qAJ _ q;obtain ⟨T,id,hT,ht,hg⟩:=hr pins {s3 with heap:=s3.heap.push {cls:=.type "slice",data:=.fields #[vl,vu,.none]}} σ H3 x v vl vu l u s3.heap.objs.size Q I4 r1 (Heap.IsSliceOf.new ..) pl pu q3;show wpAny (model X.prog X.w) X.A (subscriptTail e (.Slice lo hi none p2) v (.ref s3.heap.objs.size)) (EP X pins σ Q) X.xe {s3 with heap:=s3.heap.push {cls:=.type "slice",data:=.fields #[vl,vu,.none]}};exact tail_any (ops:=[.ref s3.heap.objs.size,v]) ht hT hg (by with_unfolding_all rfl)
def cutV (xs:List V) (lo hi:Option Int):List V:=(xs.drop (HT.sIx xs.length 0 lo)).take (HT.sIx xs.length xs.length hi - HT.sIx xs.length 0 lo)
theorem cutV_length (xs:List V) (lo hi:Option Int):(cutV xs lo hi).length<=xs.length:=by
 unfold cutV;rw [qAY,qB1];lia
end
def ixN (n:Nat) (i:Int):Option Nat:=if 0<=i then (if i<n then some i.toNat else none) else if -(n:Int)<=i then some (i+n).toNat else none
def atI (xs:List α) (i:Int):Option α:=(ixN xs.length i).bind fun j=>xs[j]?
theorem ixN_seq {i:Int} {j:Nat} (h:ixN n i=some j):seqIndex? i n=some j/\j<n/\-(n:Int)<=i/\i<n:=by
 unfold ixN at h
 by_cases h0:0<=i
 ·rw [qAC h0] at h
  by_cases h1:i<n
  ·rw [qAC h1] at h;have e:i.toNat=j:=qAc h;exact ⟨by rw [seqIndex_of h0 h1,e],by lia,by lia,h1⟩
  ·rw [qAB h1] at h;cases h
 ·rw [qAB h0] at h
  by_cases h1:-(n:Int)<=i
  ·rw [qAC h1] at h;have e:(i+n).toNat=j:=qAc h;exact ⟨by rw [seqIndex_neg (by lia) h1,e],by lia,h1,by lia⟩
  ·rw [qAB h1] at h;cases h
theorem atI_get {xs:List α} {i:Int} {v:α} (h:atI xs i=some v):∃j,seqIndex? i xs.length=some j/\xs[j]?=some v/\j<xs.length/\-(xs.length:Int)<=i/\i<xs.length:=by
 unfold atI at h
 cases e:ixN xs.length i with
 | none=>rw [e] at h;cases h
 | some j =>
  rw [e] at h;obtain ⟨h1,h2,h3,h4⟩:=ixN_seq e;exact ⟨j,h1,h,h2,h3,h4⟩
def PlainIx (b:Expr):Prop:=∀o i,subscripted b false o i=operate [o,i] (getItem o i)
def IxR (X:Cx) (r:R2):Prop :=
 ∀(value slice:Expr) (pins:List (Addr×Obj)) (s:Shared) (σ:St) (H:Hp) (x y:V) (v u:Value) (Q:VK),Inv X pins σ H s->RelV x v->RelV y u->r x y H Q ->
  subscripted slice false v u=operate [v,u] (getItem v u)->wpAny (model X.prog X.w) X.A (subscriptTail value slice v u) (EP X pins σ Q) X.xe s
def MtR (X:Cx) (id:String) (r:V->List V->Hp->VK->Prop):Prop :=
 ∀(pins:List (Addr×Obj)) (s:Shared) (σ:St) (H:Hp) (x:V) (xs:List V) (v:Value) (us:List Value) (Q:VK),Inv X pins σ H s->RelV x v->Vals xs us->r x xs H Q ->
  wpAny (model X.prog X.w) X.A (call (.builtin id) (v::us)) (EP X pins σ Q) X.xe s
section
variable {X:Cx} {a b:Expr} {ta tb:TE} {pos:Pos}
theorem zCi {r:R2} (hr:IxR X r) (ha:PE X a ta) (hb:PE X b tb) (hs:PlainIx b):PE X (.Subscript a b pos) (tOp r ta tb):=by
 intro pins s σ H Q I h;exact Subscript_ (binT ha hb I h fun v u s2 x y H2 I2 rx ry q=>hr a b pins s2 σ H2 x y v u Q I2 rx ry q (hs _ _))
def rIxL (K:PySem.W.Frag):R2:=fun x y H Q=>∃p xs i v,x= .ref p/\y= .int i/\SqL K H p xs/\atI xs i=some v/\Q v H
def rIxT (K:PySem.W.Frag):R2:=fun x y H Q=>∃p xs i v,x= .ref p/\y= .int i/\SqT K H p xs/\atI xs i=some v/\Q v H
def rIxS:R2:=fun x y H Q=>∃z i c,x= .str z/\y= .int i/\z.length<=sizeLine/\atI z.cps.toList i=some c/\Q (.str ⟨#[c]⟩) H
theorem zCs:IxR X (rIxL X.K):=by
 intro value slice pins s σ H x y v u Q I rx ry h hs;obtain ⟨p,xs,i,z,rfl,rfl,hq,he,q⟩:=h
 cases rx
 obtain ⟨t,rfl⟩:=ry;obtain ⟨its,r,pl,hz⟩:=I.list hq;obtain ⟨j,h1,h2,h3,h4,h5⟩:=atI_get he;obtain ⟨w,ew,rw'⟩:=r.get h2;have hl:=r.length;have hn:=zHh;have fin:EP X pins σ Q w s:=⟨z,H,I,rw',q⟩
 by_cases h0:0<=i
 ·have hj:i.toNat=j:=by
   rw [seqIndex_of h0 h5] at h1;exact qAc h1
  exact item_listR pl.isList h0 (by lia) (by rw [hj];simpa using ew) fin hs
 ·have hj:(i+(its.toArray.size:Int)).toNat=j:=by
   rw [seqIndex_neg (by lia) h4] at h1;rw [qAM,<-hl];exact qAc h1
  exact subscriptTail_builtinR (x:=w) pl.isList.typeIs slot_list_getitem.lookup
   (wpAny_getItem_list_neg (Q:=fun r s'=>r=w/\EP X pins σ Q r s') pl.isList (by lia) (by rw [qAM]<;>lia) (by lia) (by rw [hj];simpa using ew) ⟨rfl,fin⟩) hs
theorem zF7:IxR X (rIxT X.K):=by
 intro value slice pins s σ H x y v u Q I rx ry h hs;obtain ⟨p,xs,i,z,rfl,rfl,hq,he,q⟩:=h
 cases rx
 obtain ⟨t,rfl⟩:=ry;obtain ⟨its,r,pl,hz⟩:=I.tuple hq;obtain ⟨j,h1,h2,h3,h4,h5⟩:=atI_get he;obtain ⟨w,ew,rw'⟩:=r.get h2;have hl:=r.length;have hn:=zHh;have fin:EP X pins σ Q w s:=⟨z,H,I,rw',q⟩
 exact subscriptTail_builtinR (x:=w) pl.typeIs slot_tuple_getitem.lookup
  (getItem_tuple (j:=j) (Q:=fun r s'=>r=w/\EP X pins σ Q r s') pl (by lia) (by lia) (by rw [qAM,<-hl];exact h1) (by simpa using ew) ⟨rfl,fin⟩) hs
theorem ix_str:IxR X rIxS:=by
 intro value slice pins s σ H x y v u Q I rx ry h hs;obtain ⟨z,i,c,rfl,rfl,hz,he,q⟩:=h;obtain ⟨t,rfl⟩:=rx;obtain ⟨t',rfl⟩:=ry;obtain ⟨j,h1,h2,h3,h4,h5⟩:=atI_get he;have hl:z.cps.toList.length=z.length:=by simp [Str.length]
 rw [hl] at h1 h4 h5;have hn:=zHh
 exact tail_any (typeIs_str s z t) slot_str_getitem.lookup (getItem_str (c:=c) (by
  have e1:decide (i< -(2^63:Int))=false:=qAh (by lia);have e2:decide (i>=2^63)=false:=qAh (by lia);rw [e1,e2,Bool.or_false]) (by rw [h1];simpa using h2) ⟨.str ⟨#[c]⟩,H,I.tok _,⟨_,rfl⟩,q⟩) hs
theorem mapSeq_set (its:List Value) (n j:Nat) (u:Value):Obj.mapSeq (·.setIfInBounds j u) {cls:=.type "list",data:=.seq its.toArray n}={cls:=.type "list",data:=.seq (its.set j u).toArray n}:=by
 simp [Obj.mapSeq]
theorem Inv.lst {pins:List (Addr×Obj)} {σ:St} {H:Hp} {s:Shared} {p:Addr} {xs:List V} (I:Inv X pins σ H s) (h:H p=some (.lst xs)) :
  ∃(its:List Value) (n:Nat),Vals xs its/\s.heap.get? p=some {cls:=.type "list",data:=.seq its.toArray n}/\xs.length<=sizeLine:=by
 obtain ⟨z,its,n,r,e⟩:=I.hok p _ h;exact ⟨its,n,r,e,z⟩
theorem Inv.lstUpd {pins:List (Addr×Obj)} {σ:St} {H:Hp} {s:Shared} {p:Addr} {xs ys:List V} {its its':List Value} {n':Nat} {f:Obj->Obj} (I:Inv X pins σ H s) (h:H p=some (.lst xs))
  (ho:s.heap.get? p=some {cls:=.type "list",data:=.seq its.toArray n}) (hf:f {cls:=.type "list",data:=.seq its.toArray n}={cls:=.type "list",data:=.seq its'.toArray n'}) (r:Vals ys its') (hz:ys.length<=sizeLine) (t:Nat) :
  Inv X pins σ (upd H p (.lst ys)) {s with heap:=s.heap.update p f,toks:=t}:=by
 have e:(s.heap.update p f).get? p=some {cls:=.type "list",data:=.seq its'.toArray n'}:=by
  rw [qBK f ho (by rw [hf]<;>rfl),hf]
 refine I.write (x:=p) (e:=p) (by rw [h];trivial) (.inl rfl) (fun b u hb q=>(qBk _ _ (qAs hb)).trans q) ⟨_,e⟩ ?_;exact ⟨hz,its',n',r,e⟩
def rSetL:V->V->V->Hp->(Hp->Prop)->Prop:=fun o i v H Q=>∃p xs k j,o= .ref p/\i= .int k/\H p=some (.lst xs)/\ixN xs.length k=some j/\Q (upd H p (.lst (xs.set j v)))
theorem set_list:PSet X rSetL:=by
 intro pins s σ H o i v ov iv u Q I ro ri rv h;obtain ⟨p,xs,k,j,rfl,rfl,hp,hj,q⟩:=h
 cases ro
 obtain ⟨t,rfl⟩:=ri;obtain ⟨its,n,r,ho,hz⟩:=I.lst hp;obtain ⟨h1,h2,h3,h4⟩:=ixN_seq hj;have hl:=r.length;have hn:=zHh
 have I':Inv X pins σ (upd H p (.lst (xs.set j v))) {s with heap:=s.heap.update p (Obj.mapSeq (·.setIfInBounds j u))} :=
  I.lstUpd hp ho (mapSeq_set its n j u) (r.set rv j) (by rw [List.length_set];exact hz) s.toks
 by_cases h0:0<=k
 ·have hk:k.toNat=j:=by
   rw [seqIndex_of h0 h4] at h1;exact qAc h1
  exact PySem.W.ki_setAt ho h0 (by lia) (by rw [qAM,<-hl];exact h4) (by rw [hk];exact ⟨_,I',q⟩)
 ·have hk:(k+(its.toArray.size:Int)).toNat=j:=by
   rw [seqIndex_neg (by lia) h3] at h1;rw [qAM,<-hl];exact qAc h1
  exact PySem.W.ki_setBack ho (by lia) (by rw [qAM,<-hl];exact h3) (by lia) (by rw [hk];exact ⟨_,I',q⟩)
theorem slice_bounds (lo hi:Option Int) (n:Nat):(sliceBounds lo hi none n).1=((HT.sIx n 0 lo:Nat):Int)/\(sliceBounds lo hi none n).2.1=((HT.sIx n n hi:Nat):Int)/\(sliceBounds lo hi none n).2.2=1:=by
 refine ⟨?_,?_,rfl⟩
 ·cases lo with
  | none=>simp [sliceBounds,HT.sIx]
  | some i =>
   simp only [sliceBounds,HT.sIx,Option.getD_none,show (1:Int)>0 by decide,qBl]
   by_cases h:i<0
   ·simp only [h,qBl]<;>lia
   ·simp only [h,qBb]<;>lia
 ·cases hi with
  | none=>simp [sliceBounds,HT.sIx]
  | some i =>
   simp only [sliceBounds,HT.sIx,Option.getD_none,show (1:Int)>0 by decide,qBl]
   by_cases h:i<0
   ·simp only [h,qBl]<;>lia
   ·simp only [h,qBb]<;>lia
theorem zIv (its:List Value) (lo hi:Option Int):slicePick its.toArray lo hi none=((its.drop (HT.sIx its.length 0 lo)).take (HT.sIx its.length its.length hi - HT.sIx its.length 0 lo)).toArray:=by
 obtain ⟨h1,h2,h3⟩:=slice_bounds lo hi its.toArray.size;unfold slicePick;rw [h1,h2,h3];simp only [sliceRange_one,pick_run,qAM]<;>rfl
def rSlL (K:PySem.W.Frag):V->Option Int->Option Int->Hp->VK->Prop:=fun x lo hi H Q=>∃a xs,x= .ref a/\SqL K H a xs/\∀p,H p=none->Q (.ref p) (upd H p (.lst (cutV xs lo hi)))
theorem sl_list:SlR X (rSlL X.K):=by
 intro pins s σ H x v vl vu lo hi sl Q I rx hs pl pu h;obtain ⟨a,xs,rfl,hx,q⟩:=h
 cases rx
 obtain ⟨its,r,ht,hz⟩:=I.list hx;have hlen:=r.length;refine ⟨"list",_,slot_list_getitem.lookup,ht.isList.typeIs,?_⟩;refine wpAny_getItem_list_slice ht.isList hs pl pu .none (by simp) ?_ (by rw [qAM]<;>lia);rw [zIv,<-hlen];refine ⟨.ref s.heap.objs.size,_,I.laid (t':=s.toks) (o:=.lst (cutV xs lo hi)) (fun b ob q=>qAJ _ q) (qAG _) ?_,rfl,q _ (I.hok.fresh (qAG _))⟩;exact ⟨qAT (cutV_length xs lo hi) hz,_,0,(r.drop (HT.sIx xs.length 0 lo)).take (HT.sIx xs.length xs.length hi - HT.sIx xs.length 0 lo),qAb _ rfl⟩
def zD6:V->Bool
 | .non=>true
 | .bl _=>true
 | .int _=>true
 | .str _=>true
 | _=>false
def eqV:V->V->Bool
 | .non,.non=>true
 | .bl a,.bl b=>a==b
 | .bl a,.int b=>(if a then 1 else 0)==b
 | .int a,.bl b=>a==(if b then 1 else 0)
 | .int a,.int b=>a==b
 | .str a,.str b=>a==b
 | _,_=>false
theorem eqAt_V {A:Around} {s:Shared} {y:V} {u v:Value} (ry:RelV y u) (rx:RelV x v) (fy:zD6 y=true) (fx:zD6 x=true):SeqAt.EqAt A s u v (eqV y x):=by
 cases y with
 | non =>
  cases ry
  cases x with
  | non=>cases rx;exact qCz _
  | bl b=>cases rx;exact SeqAt.EqAt.none_bool b
  | int b=>obtain ⟨t,rfl⟩:=rx;exact SeqAt.EqAt.none_int b t
  | str b=>obtain ⟨t,rfl⟩:=rx;exact SeqAt.EqAt.none_str b t
  | _=>exact absurd (show false=true from fx) qAn
 | bl a =>
  cases ry
  cases x with
  | non=>cases rx;exact SeqAt.EqAt.bool_none a
  | bl b=>cases rx;exact SeqAt.EqAt.bool_bool a b
  | int b=>obtain ⟨t,rfl⟩:=rx;exact SeqAt.EqAt.bool_int a b t
  | str b=>obtain ⟨t,rfl⟩:=rx;exact SeqAt.EqAt.bool_str a b t
  | _=>exact absurd (show false=true from fx) qAn
 | int a =>
  obtain ⟨t',rfl⟩:=ry
  cases x with
  | non=>cases rx;exact SeqAt.EqAt.int_none a t'
  | bl b=>cases rx;exact SeqAt.EqAt.int_bool a t' b
  | int b=>obtain ⟨t,rfl⟩:=rx;exact SeqAt.EqAt.int_int a t' b t
  | str b=>obtain ⟨t,rfl⟩:=rx;exact SeqAt.EqAt.int_str a t' b t
  | _=>exact absurd (show false=true from fx) qAn
 | str a =>
  obtain ⟨t',rfl⟩:=ry
  cases x with
  | non=>cases rx;exact SeqAt.EqAt.str_none a t'
  | bl b=>cases rx;exact SeqAt.EqAt.str_bool a t' b
  | int b=>obtain ⟨t,rfl⟩:=rx;exact SeqAt.EqAt.str_int a t' b t
  | str b=>obtain ⟨t,rfl⟩:=rx;exact SeqAt.EqAt.str_str a t' b t
  | _=>exact absurd (show false=true from fx) qAn
 | _=>exact absurd (show false=true from fy) qAn
def eqU (x:V) (u:Value):Bool:=match u with
 | .none=>eqV .non x
 | .bool b=>eqV (.bl b) x
 | .int i _=>eqV (.int i) x
 | .str z _=>eqV (.str z) x
 | _=>false
theorem eqU_of {y:V} {u:Value} (r:RelV y u) (f:zD6 y=true):eqU x u=eqV y x:=by
 cases y with
 | non=>cases r;rfl
 | bl b=>cases r;rfl
 | int i=>obtain ⟨t,rfl⟩:=r;rfl
 | str z=>obtain ⟨t,rfl⟩:=r;rfl
 | _=>exact absurd (show false=true from f) qAn
theorem zHs :∀{xs:List V} {us:List Value},Vals xs us->xs.all zD6=true->us.any (eqU x)=xs.any fun y=>eqV y x
 | _,_,.nil,_=>rfl
 | y::xs,u::us,.cons r t,f=>by
  rw [List.all_cons,qCI] at f;rw [qCJ,qCJ,eqU_of r f.1,zHs t f.2]
theorem zFc {A:Around} {s:Shared} {v:Value} (rx:RelV x v) (fx:zD6 x=true):∀{xs:List V} {us:List Value},Vals xs us->xs.all zD6=true->∀u∈us,SeqAt.EqAt A s u v (eqU x u)
 | _,_,.nil,_=>fun u hu=>by cases hu
 | y::xs,u::us,.cons r t,f=>fun u' hu=>by
  rw [List.all_cons,qCI] at f;rcases qAO.mp hu with rfl| hu
  ·rw [eqU_of r f.1];exact eqAt_V r rx f.1 fx
  ·exact zFc rx fx t f.2 u' hu
def inV (x:V) (xs:List V):Bool:=xs.any fun y=>eqV y x
def rIn (K:PySem.W.Frag) (neg:Bool):R2:=fun x y H Q=>∃p xs,y= .ref p/\(SqL K H p xs\/SqT K H p xs)/\zD6 x=true/\xs.all zD6=true/\Q (.bl (if neg then !inV x xs else inV x xs)) H
theorem zG8:OpR X (compareOp .In) (rIn X.K false):=by
 intro pins s σ H x y v u Q I rx ry h;obtain ⟨p,xs,rfl,hq,fx,fs,q⟩:=h
 cases ry
 rcases hq with hq| hq
 ·obtain ⟨its,r,pl,hz⟩:=I.list hq;refine SeqAt.in_listAt (eqU x) pl.isList (fun w hw=>zFc rx fx r fs w (by simpa using hw)) ⟨.bl _,H,I,rfl,?_⟩;rw [show its.toArray.any (eqU x)=its.any (eqU x) by simp,zHs r fs];exact q
 ·obtain ⟨its,r,pl,hz⟩:=I.tuple hq;refine SeqAt.in_tupleAt (eqU x) pl (fun w hw=>zFc rx fx r fs w (by simpa using hw)) ⟨.bl _,H,I,rfl,?_⟩;rw [show its.toArray.any (eqU x)=its.any (eqU x) by simp,zHs r fs];exact q
theorem zDz:OpR X (compareOp .NotIn) (rIn X.K true):=by
 intro pins s σ H x y v u Q I rx ry h;obtain ⟨p,xs,rfl,hq,fx,fs,q⟩:=h
 cases ry
 rcases hq with hq| hq
 ·obtain ⟨its,r,pl,hz⟩:=I.list hq;refine SeqAt.notIn_listAt (eqU x) pl.isList (fun w hw=>zFc rx fx r fs w (by simpa using hw)) ⟨.bl _,H,I,rfl,?_⟩;rw [show its.toArray.any (eqU x)=its.any (eqU x) by simp,zHs r fs];exact q
 ·obtain ⟨its,r,pl,hz⟩:=I.tuple hq;refine SeqAt.notIn_tupleAt (eqU x) pl (fun w hw=>zFc rx fx r fs w (by simpa using hw)) ⟨.bl _,H,I,rfl,?_⟩;rw [show its.toArray.any (eqU x)=its.any (eqU x) by simp,zHs r fs];exact q
theorem zAi:zCu X (.builtin "len") (fun xs H Q=>∃p ys,xs=[.ref p]/\(SqL X.K H p ys\/SqT X.K H p ys)/\Q (.int ys.length) H):=by
 intro pins s σ H xs us Q I r h;obtain ⟨p,ys,rfl,hq,q⟩:=h;obtain ⟨u,rfl,rx⟩:=zIq r
 cases rx
 have hn:=zHh;rcases hq with hq| hq
 ·obtain ⟨its,r',pl,hz⟩:=I.list hq;have hlen:=r'.length;exact Calls.call_len_list pl.isList (by simp only [qAM]<;>lia) ⟨.int ys.length,H,I.tok _,⟨s.toks+1,by rw [qAM,hlen]⟩,q⟩
 ·obtain ⟨its,r',pl,hz⟩:=I.tuple hq;have hlen:=r'.length;exact len_tuple pl (by simp only [qAM]<;>lia) ⟨.int ys.length,H,I.tok _,⟨s.toks+1,by rw [qAM,hlen]⟩,q⟩
theorem call_len_str:zCu X (.builtin "len") (fun xs H Q=>∃z,xs=[.str z]/\z.length<=sizeLine/\Q (.int z.length) H):=by
 intro pins s σ H xs us Q I r h;obtain ⟨z,rfl,hz,q⟩:=h;obtain ⟨u,rfl,t,rfl⟩:=zIq r;have hn:=zHh;exact len_str (by lia) ⟨.int z.length,H,I.tok _,⟨_,rfl⟩,q⟩
theorem zAz:zCu X (.type "list") (fun xs H Q=>∃p ys,xs=[.ref p]/\(SqL X.K H p ys\/SqT X.K H p ys)/\∀l,H l=none->Q (.ref l) (upd H l (.lst ys))):=by
 intro pins s σ H xs us Q I r h;obtain ⟨p,ys,rfl,hq,q⟩:=h;obtain ⟨u,rfl,rx⟩:=zIq r
 cases rx
 have fin:∀(its:List Value),Vals ys its->ys.length<=sizeLine->∀(h':Heap) (c':Nat),(∀b o',s.heap.get? b=some o'->h'.get? b=some o') ->
   h'.get? s.heap.objs.size=some {cls:=.type "list",dict:=none,data:=.seq its.toArray c',slots:=#[]}->EP X pins σ Q (.ref s.heap.objs.size) {s with heap:=h'}:=fun its r' hz h' c' kp e =>
  ⟨.ref s.heap.objs.size,_,I.laid (t':=s.toks) kp (qAG _) (show zAy X.prog X.w _ h' _ (.lst ys) from ⟨hz,its,c',r',e⟩),rfl,q _ (I.hok.fresh (qAG _))⟩
 rcases hq with hq| hq
 ·obtain ⟨its,r',pl,hz⟩:=I.list hq;have hlen:=r'.length;obtain ⟨o,ho,hc,n,hd⟩:=pl.isList;exact call_list_seq p (.inl rfl) ho hc hd (fun h' c' kp e=>fin its r' hz h' c' kp e) (by simp only [qAM]<;>lia)
 ·obtain ⟨its,r',pl,hz⟩:=I.tuple hq;have hlen:=r'.length;obtain ⟨o,ho,hc,n,hd⟩:=pl;exact call_list_seq p (.inr rfl) ho hc hd (fun h' c' kp e=>fin its r' hz h' c' kp e) (by simp only [qAM]<;>lia)
def tyV (K:PySem.W.Frag) (T:String) (x:V) (H:Hp):Prop:=match x with
 | .str _=>T= "str"
 | .int _=>T= "int"
 | .ref p=>(T= "list" /\∃xs,SqL K H p xs)\/(T= "tuple" /\∃o,K.lookup p=some o/\o.cls= .type "tuple" /\o.dict=none) \/
   (T= "dict" /\((∃kvs,H p=some (.dK kvs))\/∃kvs,H p=some (.dT kvs)))\/(T= "set" /\∃S n,H p=some (.set S n))
 | _=>False
theorem tyV_is {pins:List (Addr×Obj)} {σ:St} {H:Hp} {s:Shared} {T:String} {v:Value} (I:Inv X pins σ H s) (r:RelV x v) (ty:tyV X.K T x H) :
  s.TypeIs v T/\∀a,v= .ref a->∃ob,s.heap.get? a=some ob/\ob.dict=none:=by
 cases x with
 | str z =>
  obtain ⟨t,rfl⟩:=r
  cases (show T= "str" from ty)
  exact ⟨typeIs_str s z t,fun _ e=>nomatch e⟩
 | int i =>
  obtain ⟨t,rfl⟩:=r
  cases (show T= "int" from ty)
  exact ⟨typeIs_int s i t,fun _ e=>nomatch e⟩
 | ref p =>
  cases r
  rcases ty with ⟨rfl,xs,hq⟩| ⟨rfl,o,hk,hc,hd⟩| ⟨rfl,hk⟩| ⟨rfl,S,n,hk⟩
  ·obtain ⟨its,_,pl,_⟩:=I.list hq;refine ⟨pl.isList.typeIs,fun a e=>?_⟩
   cases e
   obtain ⟨o,n,e,c,hd,_⟩:=pl;exact ⟨o,e,hd⟩
  ·refine ⟨⟨o,I.kIn p o hk,hc⟩,fun a e=>?_⟩
   cases e
   exact ⟨o,I.kIn _ o hk,hd⟩
  ·have z:∃o,s.heap.get? p=some o/\o.ExactDict:=by
    rcases hk with ⟨kvs,hk⟩| ⟨kvs,hk⟩
    ·obtain ⟨_,_,_,_,o,_,_,e,ex,_⟩:=I.hok p _ hk;exact ⟨o,e,ex⟩
    ·obtain ⟨_,_,_,_,o,_,_,e,ex,_⟩:=I.hok p _ hk;exact ⟨o,e,ex⟩
   obtain ⟨o,e,ex⟩:=z;refine ⟨⟨o,e,ex.1⟩,fun a e2=>?_⟩
   cases e2
   exact ⟨o,e,ex.2.1⟩
  ·obtain ⟨o,_,_,_,e,ex,_⟩:=I.hok p _ hk;refine ⟨⟨o,e,ex.1⟩,fun a e2=>?_⟩
   cases e2
   exact ⟨o,e,ex.2.1⟩
 | _=>exact False.elim ty
def tBM0 (K:PySem.W.Frag) (T:String) (r:V->List V->Hp->VK->Prop) (to:TE):TE:=fun σ H Q=>to σ H fun x H1=>tyV K T x H1/\r x [] H1 Q
def tBM (K:PySem.W.Frag) (T:String) (r:V->List V->Hp->VK->Prop) (to:TE) (t:TA):TE:=fun σ H Q=>to σ H fun x H1=>tyV K T x H1/\t σ H1 fun xs H2=>r x xs H2 Q
variable {o e:Expr} {es:List Expr} {to:TE} {t:TA} {name:Str} {apos cpos:Pos} {T id:String} {r:V->List V->Hp->VK->Prop}
theorem pe_bm0 (pa:PlainAttrs T) (slot:Slot T name id) (hty:typeOf (.builtin id)=pure (.type "method_descriptor")) (hm:MtR X id r) (ho:PE X o to)
  (hbase:attributeBase o name X.env (eval o X.env)=eval o X.env:=by rfl) (hline:(apos.endLine==cpos.line)=true:=by rfl):PE X (.Call (.Attribute o name apos) [] [] cpos) (tBM0 X.K T r to):=by
 intro pins s σ H Q I h;refine wpAny_Call_method0_late hbase hline (thn (ho pins s σ H _ I h) fun v s1 ⟨x,H1,I1,r1,ty,q1⟩=>?_);obtain ⟨h1,h2⟩:=tyV_is I1 r1 ty;exact ⟨T,id,pa,slot,hty,h1,h2,Calls.callWith_builtin rfl (PySem.evalArgs_none (hm pins s1 σ H1 x [] v [] Q I1 r1 .nil q1))⟩
theorem zHx (pa:PlainAttrs T) (slot:Slot T name id) (hty:typeOf (.builtin id)=pure (.type "method_descriptor")) (hm:MtR X id r) (ho:PE X o to) (ha:PA X (e::es) t)
  (hbase:attributeBase o name X.env (eval o X.env)=eval o X.env:=by rfl)
  (hfew:((backTo cpos (starEach (e::es) X.env)).all (fun x=>!x.1)&&(backToKw cpos (keywordEach [] X.env)).all (fun x=>x.1.isSome)
   &&decide ((e::es).length+([]:List Keyword).length+(if ([]:List Keyword).isEmpty then 0 else 1)<30))=true:=by rfl)
  (hline:(apos.endLine==cpos.line)=true:=by rfl) (hs:starEach (e::es) X.env=(false,eval e X.env)::starEach es X.env:=by rfl) (hplain:(backTo cpos (starEach es X.env)).any (·.1)=false:=by rfl) :
  PE X (.Call (.Attribute o name apos) (e::es) [] cpos) (tBM X.K T r to t):=by
 intro pins s σ H Q I h;refine wpAny_Call_method_late hbase hfew hline rfl (thn (ho pins s σ H _ I h) fun v s1 ⟨x,H1,I1,r1,ty,q1⟩=>?_);obtain ⟨h1,h2⟩:=tyV_is I1 r1 ty;refine ⟨T,id,pa,slot,hty,h1,h2,?_⟩;have hA:=ha cpos pins s1 σ H1 _ I1 q1;rw [hs] at hA ⊢;refine Calls.callWith_builtin (by show (false||(backTo cpos (starEach es X.env)).any (·.1))=false;rw [hplain]<;>rfl) (Calls.evalArgs_plain ?_);exact thn hA fun us s2 ⟨vs,H2,I2,r2,q2⟩=>hm pins s2 σ H2 x vs v us Q I2 r1 r2 q2
end
def MtM (X:Cx) (id:String) (r:V->List V->Hp->VK->Prop):Prop :=
 ∀(pins:List (Addr×Obj)) (s:Shared) (σ:St) (H:Hp) (x:V) (xs:List V) (v:Value) (us:List Value) (Q:VK),Inv X pins σ H s->RelV x v->Vals xs us->r x xs H Q ->
  wpAny (model X.prog X.w) X.A (call (.builtin id) (v::us)) (EP X pins σ Q) X.xe s
theorem Vals.one:∀{x:V} {us:List Value},Vals [x] us->∃u,us=[u]/\RelV x u
 | _,_,.cons r .nil=>⟨_,rfl,r⟩
theorem Vals.two:∀{x y:V} {us:List Value},Vals [x,y] us->∃u v,us=[u,v]/\RelV x u/\RelV y v
 | _,_,_,.cons r (.cons q .nil)=>⟨_,_,rfl,r,q⟩
theorem Vals.zero:∀{us:List Value},Vals [] us->us=[]
 | _,.nil=>rfl
theorem Vals.dropLast {xs:List V} {us:List Value} (h:Vals xs us):Vals xs.dropLast us.dropLast:=by
 induction h with
 | nil=>exact .nil
 | cons r t ih =>
  cases t with
  | nil=>exact .nil
  | cons q t'=>exact .cons r ih
theorem Vals.rep {xs:List V} {us:List Value} (h:Vals xs us):∀k:Nat,Vals (List.replicate k xs).flatten (List.replicate k us).flatten
 | 0=>.nil
 | k+1=>by
  rw [qCX,qCX,qC0,qC0];exact Vals.append h (Vals.rep h k)
theorem erase_last (l:List α):l.eraseIdx (l.length - 1)=l.dropLast:=by
 induction l with
 | nil=>rfl
 | cons a r ih =>
  cases r with
  | nil=>rfl
  | cons b r =>
   have e:(a::b::r).length - 1=((b::r).length - 1)+1:=by
    have h1:(a::b::r).length=r.length+2:=rfl;have h2:(b::r).length=r.length+1:=rfl;lia
   rw [e,List.eraseIdx_cons_succ,ih]
   all_goals rfl
theorem foldl_rep (its:List Value):∀(k:Nat) (acc:List Value),
  List.foldl (fun x1 x2=>x1++x2) acc.toArray (List.replicate k its.toArray)=(acc++(List.replicate k its).flatten).toArray
 | 0,acc=>by simp
 | k+1,acc=>by
  have e:acc.toArray++its.toArray=(acc++its).toArray:=by simp
  have e2:(acc++its)++(List.replicate k its).flatten=acc++(List.replicate (k+1) its).flatten:=by
   rw [qCX,qC0,qCY]
  rw [<-e2,<-foldl_rep its k (acc++its),<-e,qCX,qBc]
section
variable {X:Cx} {pins:List (Addr×Obj)} {σ:St} {H:Hp} {s:Shared} {l b:Addr} {xs ys zs:List V}
theorem Inv.lset {its its':List Value} {f:Array Value->Array Value} {t':Nat} (I:Inv X pins σ H s) (hH:H l=some (.lst xs))
  (e:s.heap.get? l=some {cls:=.type "list",data:=.seq its.toArray n}) (hf:f its.toArray=its'.toArray) (hv:Vals ys its') (hz:ys.length<=sizeLine) :
  Inv X pins σ (upd H l (.lst ys)) {s with heap:=s.heap.update l (Obj.mapSeq f),toks:=t'}:=by
 have q:=PySem.IsL.update e f;rw [hf] at q;refine I.write (x:=l) (e:=l) (by rw [hH];exact trivial) (.inl rfl) (fun b' u hb hu=>(qBk s.heap (Obj.mapSeq f) (qAs hb)).trans hu) ⟨_,q⟩ ?_;exact ⟨hz,its',_,hv,q⟩
theorem Inv.lnew {its:List Value} {t':Nat} (I:Inv X pins σ H s) (hv:Vals ys its) (hz:ys.length<=sizeLine) :
  Inv X pins σ (upd H s.heap.objs.size (.lst ys)) {s with heap:=s.heap.push {cls:=.type "list",data:=.seq its.toArray},toks:=t'} :=
 I.laid (fun _ _ q=>qAJ _ q) (qAG _) ⟨hz,its,0,hv,qAb _ rfl⟩
theorem Inv.fresh (I:Inv X pins σ H s):H s.heap.objs.size=none:=I.hok.fresh (qAG _)
theorem Inv.lstM (I:Inv X pins σ H s) (hH:H l=some (.lst xs)):xs.length<=sizeLine/\∃(its:List Value) (n:Nat),Vals xs its/\xs.length=its.length/\s.heap.get? l=some {cls:=.type "list",data:=.seq its.toArray n}:=by
 obtain ⟨z,its,n,r,e⟩:=I.hok l _ hH;exact ⟨z,its,n,r,r.length,e⟩
theorem notLongL (h:n<=sizeLine):Builtin.List.listTooLong n=false:=by
 unfold Builtin.List.listTooLong;exact qAh (by lia)
end
section
variable {X:Cx}
def rAppend:V->List V->Hp->VK->Prop:=fun x vs H Q=>∃l xs y,x= .ref l/\vs=[y]/\H l=some (.lst xs)/\xs.length<sizeLine/\Q .non (upd H l (.lst (xs++[y])))
theorem zD1:MtM X "list.append" rAppend:=by
 intro pins s σ H x vs v us Q I rx rv h;obtain ⟨l,xs,y,rfl,rfl,hH,hz,q⟩:=h
 cases rx
 obtain ⟨u,rfl,ru⟩:=rv.one;obtain ⟨z,its,n,r,hl,e⟩:=I.lstM hH;refine qCK F.slot_list_append ⟨_,e,rfl⟩ F.entry_list_append (F.args_list_append_2 _ _) (PySem.list_append l its.toArray n u (by rw [qAM];lia)) ⟨e,?_⟩;refine ⟨.non,_,I.lset (its':=its++[u]) hH e (by simp) (r.append (.cons ru .nil)) ?_,rfl,q⟩;rw [qAo,qBm];lia
def rExtend:V->List V->Hp->VK->Prop:=fun x vs H Q=>∃l b xs zs,x= .ref l/\vs=[.ref b]/\H l=some (.lst xs)/\H b=some (.lst zs)/\xs.length+zs.length<=sizeLine/\Q .non (upd H l (.lst (xs++zs)))
theorem zHe:MtM X "list.extend" rExtend:=by
 intro pins s σ H x vs v us Q I rx rv h;obtain ⟨l,b,xs,zs,rfl,rfl,hH,hB,hz,q⟩:=h
 cases rx
 obtain ⟨u,rfl,ru⟩:=rv.one
 cases ru
 obtain ⟨z,its,n,r,hl,e⟩:=I.lstM hH;obtain ⟨z2,its2,n2,r2,hl2,e2⟩:=I.lstM hB;have hsz:its.toArray.size+its2.toArray.size<=sizeLine:=by rw [qAM,qAM];lia
 have hlong:¬(!its.toArray.isEmpty&&Builtin.List.listTooLong (its.toArray.size+its2.toArray.size))=true:=by
  rw [notLongL hsz,Bool.and_false];exact qAn
 refine qCK F.slot_list_extend ⟨_,e,rfl⟩ F.entry_list_extend (F.args_list_extend_2 _ _)
  (AutoSeq1.list_extend_list_list_0 l its.toArray n b its2.toArray n2 hlong (by rw [qAM];lia) (by lia)) ⟨e,e2,?_⟩
 refine ⟨.non,_,I.lset (its':=its++its2) hH e (by simp) (r.append r2) ?_,rfl,q⟩;rw [qAo];lia
def rPop:V->List V->Hp->VK->Prop:=fun x vs H Q=>∃l xs y,x= .ref l/\vs=[]/\H l=some (.lst xs)/\xs[xs.length - 1]?=some y/\Q y (upd H l (.lst xs.dropLast))
theorem mt_pop:MtM X "list.pop" rPop:=by
 intro pins s σ H x vs v us Q I rx rv h;obtain ⟨l,xs,y,rfl,rfl,hH,hy,q⟩:=h
 cases rx
 have hus:=rv.zero;subst hus;obtain ⟨z,its,n,r,hl,e⟩:=I.lstM hH;obtain ⟨u,hu,ru⟩:=r.get hy
 have hy':its.toArray[its.toArray.size - 1]?=some u:=by
  show its.toArray[its.length - 1]?=some u;rw [<-qAq,<-hl];exact hu
 refine qCK F.slot_list_pop ⟨_,e,rfl⟩ F.entry_list_pop (F.args_list_pop_1 _) (MeetsSeq.list_pop_last l its.toArray n u hy' (by rw [qAM];lia)) ⟨e,?_⟩;refine ⟨y,_,I.lset (its':=its.dropLast) hH e ?_ r.dropLast ?_,ru,q⟩
 ·show its.toArray.eraseIdxIfInBounds (its.toArray.size - 1)=its.dropLast.toArray;rw [qAM,List.eraseIdxIfInBounds_toArray,erase_last]
 ·rw [List.length_dropLast];lia
def rCat:R2:=fun x y H Q=>∃l b xs zs,x= .ref l/\y= .ref b/\H l=some (.lst xs)/\H b=some (.lst zs)/\xs.length+zs.length<=sizeLine/\∀p,H p=none->Q (.ref p) (upd H p (.lst (xs++zs)))
theorem op_cat:OpR X (binaryOp .Add) rCat:=by
 intro pins s σ H x y v u Q I rx ry h;obtain ⟨l,b,xs,zs,rfl,rfl,hH,hB,hz,q⟩:=h
 cases rx
 cases ry
 obtain ⟨z,its,n,r,hl,e⟩:=I.lstM hH;obtain ⟨z2,its2,n2,r2,hl2,e2⟩:=I.lstM hB;refine PySem.P.add_list e e2 ?_ (by rw [qAM,qAM];lia);have ea:its.toArray++its2.toArray=(its++its2).toArray:=by simp
 rw [ea];exact ⟨.ref _,_,I.lnew (t':=s.toks) (r.append r2) (by rw [qAo];lia),rfl,q _ I.fresh⟩
def rRep:R2:=fun x y H Q=>∃l k xs,x= .ref l/\y= .int k/\H l=some (.lst xs)/\-(2^63)<=k/\k<2^63/\xs.length*k.toNat<=sizeLine /\
 ∀p,H p=none->Q (.ref p) (upd H p (.lst (List.replicate k.toNat xs).flatten))
theorem len_rep (xs:List α) (k:Nat):(List.replicate k xs).flatten.length=k*xs.length:=by
 induction k with
 | zero=>simp
 | succ k ih=>rw [qCX,qC0,qAo,ih,Nat.succ_mul,Nat.add_comm]
theorem op_rep:OpR X (binaryOp .Mult) rRep:=by
 intro pins s σ H x y v u Q I rx ry h;obtain ⟨l,k,xs,rfl,rfl,hH,h1,h2,hz,q⟩:=h
 cases rx
 obtain ⟨t,rfl⟩:=ry;obtain ⟨z,its,n,r,hl,e⟩:=I.lstM hH;have hlen:its.toArray.size*k.toNat<=sizeLine:=by rw [qAM,<-hl];exact hz
 have hcap:¬its.toArray.size*k.toNat>(2^63 - 1) / 8:=by
  have:(sizeLine:Nat)<=(2^63 - 1) / 8:=by decide
  lia
 have hfit:¬(!Builtin.List.listFitsIndex k)=true:=by
  rw [fitsIndex_both h1 h2];exact qAn
 have hlong:¬Builtin.List.listTooLong (its.toArray.size*k.toNat)=true:=by
  rw [notLongL hlen];exact qAn
 have hnew:List.foldl (fun x1 x2=>x1++x2) #[] (List.replicate (if its.toArray.isEmpty=true then 0 else k.toNat) its.toArray)=(List.replicate k.toNat its).flatten.toArray:=by
  have f0:∀m:Nat,List.foldl (fun x1 x2=>x1++x2) #[] (List.replicate m its.toArray)=(List.replicate m its).flatten.toArray:=fun m=>by
   have:=foldl_rep its m [];rw [List.nil_append] at this;exact this
  rw [f0]
  cases its with
  | nil=>simp
  | cons a r'=>rw [qAB (by simp)]
 refine wpAny_binaryOp_repeat_ref (T:= "list") (U:= "int") (by decide) ⟨_,e,rfl⟩ (fun s'=>typeIs_int s' k t) noFill_list_mul F.fills_int_mul F.slot_int_rmul repeat_list F.slot_int_index.lookup
  (qCK F.slot_int_rmul (typeIs_int s k t) F.entry_int_rmul (F.args_int_rmul_2 _ _) (int___rmul___int_list k t l its.toArray n)
   ⟨e,rfl,⟨_,e,rfl⟩,qCK F.slot_list_mul ⟨_,e,rfl⟩ F.entry_list_mul (F.args_list_mul_2 _ _) (AutoListH.list___mul___list_int_3 l its.toArray n k t hfit hcap hlong) ⟨e,?_⟩⟩)
 rw [hnew];exact ⟨.ref _,_,I.lnew (t':=s.toks) (r.rep k.toNat) (by rw [len_rep,Nat.mul_comm];exact hz),rfl,q _ I.fresh⟩
end
section
variable {prog:Program} {w:World} {A:Around} {E:Value->Shared->Prop} {s:Shared}
set_option maxRecDepth 100000 in
end
end L2
namespace Att
open PySem PySem.W PySem.Calls PyProof.Rows
theorem zHn {P:Params} {h:Heap}:∀(ns:List Int) (vs:List Value),WellAll P h vs (ns.map WData.int)->IntsAre vs ns:=by
 intro ns
 induction ns with
 | nil =>
  intro vs w;rw [List.map_nil] at w
  cases w
  exact .nil
 | cons n ns ih =>
  intro vs w;rw [qAd] at w
  cases w with
  | cons a b =>
   cases a
   exact .cons _ _ (ih _ b)
theorem script_of {l:OpenLaw} {n:Nat} (hn:l.most=some n) {P:Params} {h:Heap} {args:List WData} {vals:List Value}
  (hpre:l.row.toRowW.claim.pre args=true) (hwl:WellAll P h vals args) :
  ∃a vs ns,vals=[Value.ref a]/\args=[WData.list (ns.map WData.int)]/\h.get? a=some {cls:=.type "list",data:=.seq vs.toArray}/\IntsAre vs ns/\ns.length<=n:=by
 have hsh:WShape.hasAll [] args [.list .int]=true:=(pre_splitW hpre).1;have hc:l.pre.holds [] {args:=args}=true:=(pre_splitW hpre).2;obtain ⟨d,r,rfl,h1,h2⟩:=hasAllW_cons hsh;obtain rfl:=hasAllW_nil h2;obtain ⟨xs,rfl,h3⟩:=hasW_list h1;obtain ⟨ns,rfl⟩:=items_int h3
 have hlen:ns.length<=n:=by
  unfold OpenLaw.pre at hc
  have h4:(WTm.not (.lt (.lit (.int (n:Int))) (.len (.arg 0)))).holds [] {args:=[.list (ns.map .int)]}=true:=by
   have h4:=(holds_andW hc).1;rw [hn] at h4;exact h4
  have h5:=condW_of h4 (w_not (w_lt w_lit (w_len_list (w_arg rfl))));rw [qAD] at h5;refine qC1 fun q=>?_;have q':(n:Int)<((ns.length:Nat):Int):=by lia
  first
   | (rw [qAU q'] at h5;exact absurd h5 (by decide))
   | (simp at h5;lia)
 cases hwl with
 | cons w1 w2 =>
  cases w2
  cases w1 with
  | list ho hall=>exact ⟨_,_,ns,rfl,rfl,ho,zHn ns _ hall,hlen⟩
theorem post_true (l:OpenLaw) (args:List WData):l.row.toRowW.claim.post args (.bool true) args=true :=
 postW_of (r:=l.row.toRowW) (X:=(true==true))
  (show WShape.has [] (.bool true) .bool=true by first| rfl| decide| simp [WShape.has,WShape.arms,WShape.armsAll])
  (show (WTm.eq .res (.lit (.bool true))).value [] {args:=args,res:=some (.bool true),after:=args}=some (.bool (true==true)) from w_eq_bool (w_res rfl) w_lit) rfl
theorem attach_call {l:OpenLaw} {n:Nat} {q:Program} {loose:List Str} {XP:(Str->Option Value)->Heap->Prop} {YP:World->Heap->Prop} {d:DefRec}
  (hn:l.most=some n) (hdf:d.params.defaults=[])
  (call:∀(w:World) (s₀ s₁:Shared) (mg mb:Str->Option Value) (fa:Addr) (o:Obj) (pm cd doc:Value) (a:Addr) (vs:List Value) (ns:List Int),
   Ground q loose [] XP w s₀ mg mb s₁.heap->YP w s₁.heap ->
   s₁.heap.get? fa=some o->o.data= .func (docDef d.name d.params d.body d.scope pm cd doc)->s₁.heap.CodeRec cd d.name->mg d.name=some (.ref fa) ->
   s₁.heap.get? a=some {cls:=.type "list",data:=.seq vs.toArray}->IntsAre vs ns->ns.length<=n->s₁.gens=#[] ->
   codeAny (model l.prog w) callerA (.call (.ref fa) ⟨[.ref a],[]⟩) (fun r s'=>r= .ok (.ret (.bool true))/\OldK s₁.heap s'.heap/\s'.os=s₁.os/\AllBare s'.gens) s₁) :
  WalkO q loose XP YP l.row.toRowW d [] (fun f vs=>PySem.call f vs):=by
 intro w s₀ s₁ mg mb G Y fa o pm cd doc dV kV ho hd hcd hD hmg hg args vals as hpre hlay hrd hwl hlo;obtain rfl:dV= .none:=Dflts.none hD hdf;obtain rfl:kV= .none:=Dflts.noKw hD;obtain ⟨a,vs,ns,rfl,rfl,hobj,hints,hlen⟩:=script_of hn hpre hwl;refine enter_call (qCG (call w s₀ s₁ mg mb fa o pm cd doc a vs ns G Y ho (fd_plain hd) hcd hmg hobj hints hlen hg) fun r s' hq=>?_);obtain ⟨rfl,h2,h3,h4⟩:=hq;exact ⟨.inl ⟨.bool true,.bool true,[],rfl,fun _=>rfl,.bool true,post_true l _,fun _=>⟨List.Pairwise.nil,fun _ hm=>(nomatch hm)⟩⟩,h2,h3,h4⟩
end Att
namespace L2
open PySem PySem.Spec PyProof.Rows
variable {x qual:Str}{u:Value}{y:V}{w:World}{H H':Hp}
theorem vals_ints:∀{vs:List Value} {ns:List Int},IntsAre vs ns->Vals (ns.map V.int) vs
 | _,_,.nil=>.nil
 | _,_,.cons n t h=>.cons ⟨t,rfl⟩ (vals_ints h)
def zEv (s:Stmt) (j:Nat):Stmt:=match s with
 | .ClassDef _ _ _ body _ _ _ _ _ _ _=>body.getD j (.Pass ⟨0,0,0,0⟩)
 | _=>.Pass ⟨0,0,0,0⟩
def zBa (s:Stmt):Arguments:=match s with
 | .FunctionDef _ a _ _ _ _ _ _ _ _=>a
 | _=>{posonlyargs:=[],args:=[],vararg:=none,kwonlyargs:=[],kw_defaults:=[],kwarg:=none,defaults:=[]}
def zA2 (s:Stmt):List Stmt:=match s with
 | .FunctionDef _ _ b _ _ _ _ _ _ _=>b
 | _=>[]
def zAd (s:Stmt):Scope:=match s with
 | .FunctionDef _ _ _ _ _ _ sc _ _ _=>sc
 | _=>{kind:=.function,names:=[],isGenerator:=false,isCoroutine:=false}
abbrev CX0:CXT:=fun _ _ _ _ _ _=>False
abbrev E0:XK:=fun _ _ _=>False
theorem pass0 {X:Cx}:zHt CX0 X E0:=fun _ _ _ _ _ _ _ h=>h.elim
structure Fun (K:PySem.W.Frag) (x qual:Str) (st:Stmt) (f:Addr) (fd:FuncData):Prop where
 ex:∃(oc:Value) (od:Option Addr) (kV doc pm:Value) (an:Option Addr) (cdv ct:Value) (osl:Array (Option Value)),
  fd=PySem.W.fnOf x qual (zBa st) (zA2 st) (zAd st) .none kV doc pm an cdv ct/\K.lookup f=some ⟨oc,od,.func fd,osl⟩/\PySem.W.codeIn K cdv qual=true
 kp:PySem.W.keepIn K (.ref f)=true
section
variable {P:Program} {w:World} {K:PySem.W.Frag} {mg:Str->Option Value} {base:Heap}
theorem Fun.ok {st:Stmt} {f:Addr} {fd:FuncData} {N ps:List Str} {k:Nat} {sp:Sp} (F:Fun K x qual st f fd) (S:FnScope N ps (zAd st)) (len:∀vs H Q E,sp vs H Q E->vs.length=ps.length)
  (hbody:∀(cdv:Value) (A:Around) (outer:List Env) (s:Shared) (H:Hp) (vs:List V) (Q:VK) (E:XK),Room k (A.deeper (envOfC qual (zAd st) s.heap.objs.size f cdv))->sp vs H Q E ->
   ∃t,PSs (cxOf CX0 P w K mg base N qual (zAd st) f cdv A outer s H E).nox (zA2 st) t/\t {nx:=fun _ H'=>Q .non H',rt:=Q} (start N vs) H):FnOk P w K mg base CX0 (k+1) f fd ps sp:=by
 obtain ⟨oc,od,kV,doc,pm,an,cdv,ct,osl,rfl,lk,hcd⟩:=F.ex;refine fn_of lk hcd S len fun A outer s H vs Q E hr hsp=>?_;obtain ⟨t,h,q⟩:=hbody cdv A outer s H vs Q E hr hsp;exact ⟨t,h.nox,q⟩
theorem Fun.binds {st:Stmt} {f:Addr} {fd:FuncData} {ps:List Str} (F:Fun K x qual st f fd)
  (h:∀(kV doc pm:Value) (an:Option Addr) (cdv ct:Value) (us:List Value),us.length=ps.length->bindArgs (PySem.W.fnOf x qual (zBa st) (zA2 st) (zAd st) .none kV doc pm an cdv ct) ⟨us,[]⟩=pure (ps.zip us)):zDu K fd ps []:=by
 obtain ⟨oc,od,kV,doc,pm,an,cdv,ct,osl,rfl,lk,hcd⟩:=F.ex;exact .all (h kV doc pm an cdv ct)
theorem fun_mk {st:Stmt} {f:Addr} {oc:Value} {od an:Option Addr} {osl:Array (Option Value)} {kV doc pm cdv ct:Value} (l:K.lookup f=some ⟨oc,od,.func (PySem.W.fnOf x qual (zBa st) (zA2 st) (zAd st) .none kV doc pm an cdv ct),osl⟩)
  (c:PySem.W.codeIn K cdv qual=true) (k:PySem.W.keepIn K (.ref f)=true):Fun K x qual st f (PySem.W.fnOf x qual (zBa st) (zA2 st) (zAd st) .none kV doc pm an cdv ct):=⟨⟨oc,od,kV,doc,pm,an,cdv,ct,osl,rfl,l,c⟩,k⟩
end
theorem zDk {A:Around} {k:Nat} (hr:Room k A):A.units+1<cLine:=qC2 (Nat.add_le_add_left (by decide:1<=64) _) hr.units
section
variable {X:Cx}
theorem pv (i:Nat) {pos:Pos} (hN:X.N[i]?=some x:=by rfl) (hv:Vis X.env.scope x:=by first| exact Or.inl rfl| exact Or.inr (Or.inl rfl)| exact Or.inr (Or.inr rfl)) (hd:(x==("__debug__" : Str))=false:=by decide)
  (hcd:(x==("__classdict__" : Str))=false:=by decide):PE X (.Name x pos) (tVar i):=pe_var hN hv hd hcd
end
theorem iteF {A B:Prop} (h:B):if false=true then A else B:=by
 rw [qAB qAn];exact h
theorem iteT {A B:Prop} (h:A):if true=true then A else B:=by
 rw [qAC rfl];exact h
theorem ite2 {c A B:Prop} [Decidable c] (h1:c->A) (h2:¬c->B):if c then A else B:=by
 by_cases h:c
 ·rw [qAC h];exact h1 h
 ·rw [qAB h];exact h2 h
section
variable {κ:Type} [DecidableEq κ]
def valV (kvs:List (κ×V)) (k:κ):Option V:=(kvs.find? fun kv=>decide (kv.1=k)).map (·.2)
def putK (kvs:List (κ×V)) (k:κ) (v:V):List (κ×V) :=
 if (kvs.any fun kv=>decide (kv.1=k))=true then kvs.map (fun kv=>if kv.1=k then (kv.1,v) else kv) else kvs++[(k,v)]
theorem zGj {p:κ×V} {r:List (κ×V)} {k:κ} (e:p.1=k):valV (p::r) k=some p.2:=by simp [valV,qCL,e]
theorem zGk {p:κ×V} {r:List (κ×V)} {k:κ} (e:¬p.1=k):valV (p::r) k=valV r k:=by simp [valV,qCL,e]
theorem zGl (k:κ):∀kvs:List (κ×V),(kvs.any fun kv=>decide (kv.1=k))=(valV kvs k).isSome
 | []=>rfl
 | p::r=>by
  rw [qCJ]
  by_cases e:p.1=k
  ·simp only [zGj e,qAU e,Bool.true_or,Option.isSome_some]
  ·rw [zGk e,qAh e,Bool.false_or];exact zGl k r
theorem zEt (kvs:List (κ×V)) (k:κ) (v:V):(putK kvs k v).length<=kvs.length+1:=by
 unfold putK;split
 ·rw [qAD];lia
 ·rw [qAo,qAa,qBS];lia
theorem putK_new {kvs:List (κ×V)} {k:κ} (v:V) (h:valV kvs k=none):putK kvs k v=kvs++[(k,v)]:=by
 unfold putK;rw [zGl,h];exact qAB (by decide)
theorem RelO.isSome_eq {o:Option V} {u:Option Value} (r:RelO o u):o.isSome=u.isSome:=by
 cases o with
 | none=>cases u with
  | none=>rfl
  | some _=>exact (show False from r).elim
 | some _=>cases u with
  | none=>exact (show False from r).elim
  | some _=>rfl
theorem KV.val {kvs:List (κ×V)} {vs:List (κ×Value)} (r:KV kvs vs) (k:κ):RelO (valV kvs k) (valueAt vs k):=by
 unfold KV at r
 induction r with
 | nil=>exact True.intro
 | @cons p q ps qs h t ih =>
  obtain ⟨h1,h2⟩:=h
  by_cases e:p.1=k
  ·have e':q.1=k:=h1.symm.trans e;have b:valueAt (q::qs) k=some q.2:=by simp [valueAt,qCL,e']
   rw [zGj e,b];exact h2
  ·have e':¬q.1=k:=fun z=>e (h1.trans z);have b:valueAt (q::qs) k=valueAt qs k:=by simp [valueAt,qCL,e']
   rw [zGk e,b];exact ih
theorem KV.any {kvs:List (κ×V)} {vs:List (κ×Value)} (r:KV kvs vs) (k:κ):(kvs.any fun kv=>decide (kv.1=k))=vs.any fun kv=>decide (kv.1=k):=by
 unfold KV at r
 induction r with
 | nil=>rfl
 | cons h t ih=>rw [qCJ,qCJ,ih,h.1]
theorem KV.repl {kvs:List (κ×V)} {vs:List (κ×Value)} (r:KV kvs vs) (k:κ) (ry:RelV y u) :
  KV (kvs.map fun kv=>if kv.1=k then (kv.1,y) else kv) (vs.map fun kv=>if kv.1=k then (kv.1,u) else kv):=by
 unfold KV at r ⊢
 induction r with
 | nil=>exact .nil
 | @cons p q ps qs h t ih =>
  rw [qAd,qAd];refine .cons ?_ ih;obtain ⟨h1,h2⟩:=h
  by_cases e:p.1=k
  ·rw [qAC e,qAC (h1.symm.trans e)];exact ⟨h1,ry⟩
  ·rw [qAB e,qAB (fun z=>e (h1.trans z))];exact ⟨h1,h2⟩
theorem KV.put {kvs:List (κ×V)} {vs:List (κ×Value)} (r:KV kvs vs) (k:κ) (ry:RelV y u):KV (putK kvs k y) (stored vs k u):=by
 unfold putK stored;rw [r.any k]
 by_cases e:(vs.any fun kv=>decide (kv.1=k))=true
 ·rw [qAC e,qAC e];exact r.repl k ry
 ·rw [qAB e,qAB e];exact Paired.snoc r ⟨rfl,ry⟩
theorem KV.length {kvs:List (κ×V)} {vs:List (κ×Value)} (r:KV kvs vs):kvs.length=vs.length:=qCD r
end
theorem kV_is {P:Program} {k:Key} (r:RelV (kV k) u):(zA6 P w).is k u=true:=by
 cases k with
 | inl i=>obtain ⟨t,e⟩:=(show∃t,u=Value.int i t from r);subst e;exact mixKind_int P w i t
 | inr x=>obtain ⟨t,e⟩:=(show∃t,u=Value.str x t from r);subst e;exact mixKind_str P w x t
theorem items_are {P:Program} :∀{ks:List Key} {us:List Value},Vals (ks.map kV) us->ItemsAre (zA6 P w) ks us
 | [],_,r=>by rw [List.map_nil] at r;cases r;exact .nil
 | k::ks,_,r=>by
  rw [qAd] at r
  cases r with
  | cons h t=>exact .cons (kV_is h) (items_are t)
abbrev KT (H:Hp):List (List Key×V)->List (List Key×Addr×Value)->Prop:=Paired fun p q=>p.1=q.1/\H q.2.1=some (.tup (p.1.map kV))/\RelV p.2 q.2.2
theorem KT.val {kvs:List (List Key×V)} {xs:List (List Key×Addr×Value)} (r:KT H kvs xs) (k:List Key):RelO (valV kvs k) ((atKey xs k).map (·.2)):=by
 induction r with
 | nil=>exact True.intro
 | @cons p q ps qs h t ih =>
  obtain ⟨h1,_,h2⟩:=h
  by_cases e:p.1=k
  ·have e':q.1=k:=h1.symm.trans e;have b:atKey (q::qs) k=some q.2:=by simp [atKey,qCL,e']
   rw [zGj e,b];exact h2
  ·have e':¬q.1=k:=fun z=>e (h1.trans z);have b:atKey (q::qs) k=atKey qs k:=by simp [atKey,qCL,e']
   rw [zGk e,b];exact ih
theorem KT.repl {kvs:List (List Key×V)} {xs:List (List Key×Addr×Value)} (r:KT H kvs xs) (k:List Key) (ry:RelV y u) :
  KT H (kvs.map fun kv=>if kv.1=k then (kv.1,y) else kv) (xs.map (putAt k u)):=by
 induction r with
 | nil=>exact .nil
 | @cons p q ps qs h t ih =>
  rw [qAd,qAd];refine .cons ?_ ih;obtain ⟨h1,h2,h3⟩:=h;unfold putAt
  by_cases e:p.1=k
  ·rw [qAC e,qAC (h1.symm.trans e)];exact ⟨h1,h2,ry⟩
  ·rw [qAB e,qAB (fun z=>e (h1.trans z))];exact ⟨h1,h2,h3⟩
theorem KT.put {kvs:List (List Key×V)} {xs:List (List Key×Addr×Value)} (r:KT H kvs xs) (k:List Key) {b:Addr} (hb:H b=some (.tup (k.map kV))) (ry:RelV y u) :
  KT H (putK kvs k y) (storedH xs k b u):=by
 have e:(kvs.any fun kv=>decide (kv.1=k))=(atKey xs k).isSome:=by
  rw [zGl,(r.val k).isSome_eq,Option.isSome_map]
 unfold putK storedH;rw [e]
 by_cases q:(atKey xs k).isSome=true
 ·rw [qAC q,qAC q];exact r.repl k ry
 ·rw [qAB q,qAB q];exact Paired.snoc r ⟨rfl,hb,ry⟩
theorem KT.keeps {kvs:List (List Key×V)} {xs:List (List Key×Addr×Value)} (r:KT H kvs xs) (ht:∀b ys,H b=some (.tup ys)->H' b=some (.tup ys)):KT H' kvs xs :=
 Paired.mapP r fun _ _ z=>⟨z.1,ht _ _ z.2.1,z.2.2⟩
section
variable {P:Program} {w:World} {H:Hp} {h:Heap} {a:Addr}
theorem rd_of {u:HO} (ok:HOk P w H h) (e:Rd H a u):zAy P w H h a u:=e.ok ok
theorem dk_rd {kvs:List (Key×V)} (ok:HOk P w H h) (e:Rd H a (.dK kvs)):kvs.length<=sizeLine/\(a==sysModules)=false/\∃vs,KV kvs vs/\h.DictOf (zA6 P w) a vs :=
 show zAy P w H h a (.dK kvs) from rd_of ok e
theorem dk_of {kvs:List (Key×V)} (ok:HOk P w H h) (e:H a=some (.dK kvs)):kvs.length<=sizeLine/\(a==sysModules)=false/\∃vs,KV kvs vs/\h.DictOf (zA6 P w) a vs:=dk_rd ok (.inl e)
theorem key_of {ks:List Key} (ok:HOk P w H h) (e:H a=some (.tup (ks.map kV))):(tupleKind (zA6 P w)).is h ks a:=by
 obtain ⟨_,its,r,o,h1,h2,n,h3⟩:=(show zAy P w H h a (.tup (ks.map kV)) from ok a _ e);exact ⟨o,its.toArray,n,h1,h2,h3,by simpa using items_are r⟩
theorem dt_rd {kvs:List (List Key×V)} (ok:HOk P w H h) (e:Rd H a (.dT kvs)):kvs.length<=sizeLine/\(a==sysModules)=false /\
  ∃xs,KT H kvs xs/\h.DictOfH (tupleKind (zA6 P w)) a xs:=by
 obtain ⟨z,y,xs,r,o,es,ep,h1,h2,h3,h4,h5⟩:=(show zAy P w H h a (.dT kvs) from rd_of ok e);refine ⟨z,y,xs,r,o,es,ep,h1,h2,h3,h4,fun x hx=>?_,h5⟩
 have all:∀{l:List (List Key×V)} {m:List (List Key×Addr×Value)},KT H l m->∀x∈m,(tupleKind (zA6 P w)).is h x.1 x.2.1:=by
  intro l m q
  induction q with
  | nil=>intro x hx;exact nomatch hx
  | @cons p q ps qs hq t ih =>
   intro x hx;rcases qAO.mp hx with e| hx
   ·subst e;exact key_of ok (by rw [<-hq.1];exact hq.2.1)
   ·exact ih x hx
 exact all r x hx
theorem dt_of {kvs:List (List Key×V)} (ok:HOk P w H h) (e:H a=some (.dT kvs)):kvs.length<=sizeLine/\(a==sysModules)=false /\
  ∃xs,KT H kvs xs/\h.DictOfH (tupleKind (zA6 P w)) a xs:=dt_rd ok (.inl e)
end
def DGet (H:Hp) (a:Addr) (y:V) (r:Option V):Prop :=
 (∃kvs k,Rd H a (.dK kvs)/\y=kV k/\r=valV kvs k)\/∃kvs k b,Rd H a (.dT kvs)/\y= .ref b/\H b=some (.tup (k.map kV))/\r=valV kvs k
def DPut (H:Hp) (a:Addr) (y v:V) (H':Hp):Prop :=
 (∃kvs k,H a=some (.dK kvs)/\y=kV k/\kvs.length<sizeLine/\H'=upd H a (.dK (putK kvs k v))) \/
 ∃kvs k b,H a=some (.dT kvs)/\y= .ref b/\H b=some (.tup (k.map kV))/\kvs.length<sizeLine/\H'=upd H a (.dT (putK kvs k v))
theorem DGet.k {a:Addr} {kvs:List (Key×V)} {k:Key} (e:H a=some (.dK kvs)):DGet H a (kV k) (valV kvs k):=.inl ⟨kvs,k,.inl e,rfl,rfl⟩
theorem DPut.k {a:Addr} {kvs:List (Key×V)} {k:Key} {v:V} (e:H a=some (.dK kvs)) (hl:kvs.length<sizeLine):DPut H a (kV k) v (upd H a (.dK (putK kvs k v))):=.inl ⟨kvs,k,e,rfl,hl,rfl⟩
section
variable {X:Cx} {pins:List (Addr×Obj)} {σ:St} {H:Hp} {s:Shared} {a:Addr} {y v:V} {u r:Value} {o:Option V} {A:Around} {E:Value->Shared->Prop}
theorem Inv.big (I:Inv X pins σ H s):sysModules<s.heap.objs.size:=by
 have h:mainGlobals<s.heap.objs.size:=(I.mod.glob.keeps I.bk).lt;exact qCZ (by decide) h
theorem d_getItem {Q:Value->Shared->Prop} (hu:A.units+1<cLine) (I:Inv X pins σ H s) (g:DGet H a y (some v)) (ry:RelV y u) (h:∀w' s',Inv X pins σ H s'->RelV v w'->Q w' s') :
  wpAny (model X.prog X.w) A (getItem (.ref a) u) Q E s:=by
 rcases g with ⟨kvs,k,e,ey,l⟩| ⟨kvs,k,b,e,ey,eb,l⟩
 ·subst ey;obtain ⟨z,hd,vs,rel,dd⟩:=dk_rd I.hok e;obtain ⟨w',hw,rw'⟩:=RelO.some_of (v:=v) (o:=valueAt vs k) (by rw [l];exact rel.val k);exact wpAny_getItem_of (kV_is ry) dd.mapOf hw (h w' _ (I.tok _) rw')
 ·subst ey
  cases (show u=Value.ref b from ry)
  obtain ⟨z,hd,xs,rel,dd⟩:=dt_rd I.hok e;obtain ⟨w',hw,rw'⟩:=RelO.some_of (v:=v) (o:=(atKey xs k).map (·.2)) (by rw [l];exact rel.val k);obtain ⟨p,hp,hp2⟩:=qBH.mp hw;refine wpAny_getItem_heap (qC3 hu) (key_of I.hok eb) dd hp ?_;rw [hp2];exact h w' _ (I.tok _) rw'
theorem d_in {Q:Value->Shared->Prop} (hu:A.units+1<cLine) (I:Inv X pins σ H s) (g:DGet H a y o) (ry:RelV y u) (h:∀s',Inv X pins σ H s'->Q (.bool o.isSome) s') :
  wpAny (model X.prog X.w) A (compareOp .In u (.ref a)) Q E s:=by
 rcases g with ⟨kvs,k,e,ey,l⟩| ⟨kvs,k,b,e,ey,eb,l⟩
 ·subst ey;obtain ⟨z,hd,vs,rel,dd⟩:=dk_rd I.hok e;refine wpAny_in_of (kV_is ry) hd dd.mapOf ?_;rw [<-(rel.val k).isSome_eq,<-l];exact h _ (I.tok _)
 ·subst ey
  cases (show u=Value.ref b from ry)
  obtain ⟨z,hd,xs,rel,dd⟩:=dt_rd I.hok e;refine wpAny_in_heap (qC3 hu) (key_of I.hok eb) hd dd ?_;have q:=(rel.val k).isSome_eq;rw [Option.isSome_map] at q;rw [<-q,<-l];exact h _ (I.tok _)
theorem d_notIn {Q:Value->Shared->Prop} (hu:A.units+1<cLine) (I:Inv X pins σ H s) (g:DGet H a y o) (ry:RelV y u) (h:∀s',Inv X pins σ H s'->Q (.bool (!o.isSome)) s') :
  wpAny (model X.prog X.w) A (compareOp .NotIn u (.ref a)) Q E s:=by
 rcases g with ⟨kvs,k,e,ey,l⟩| ⟨kvs,k,b,e,ey,eb,l⟩
 ·subst ey;obtain ⟨z,hd,vs,rel,dd⟩:=dk_rd I.hok e;refine wpAny_notIn_of (kV_is ry) hd dd.mapOf ?_;rw [<-(rel.val k).isSome_eq,<-l];exact h _ (I.tok _)
 ·subst ey
  cases (show u=Value.ref b from ry)
  obtain ⟨z,hd,xs,rel,dd⟩:=dt_rd I.hok e;refine wpAny_notIn_heap (qC3 hu) (key_of I.hok eb) hd dd ?_;have q:=(rel.val k).isSome_eq;rw [Option.isSome_map] at q;rw [<-q,<-l];exact h _ (I.tok _)
theorem d_write {h':Heap} {t':Nat} {ob:HO} (I:Inv X pins σ H s) (mu:Mut (H a)) (hs:Heap.SameBut a s.heap h') (he:∃q,h'.get? a=some q) (new:zAy X.prog X.w (upd H a ob) h' a ob) :
  Inv X pins σ (upd H a ob) {s with heap:=h',toks:=t'} :=
 I.write (x:=a) (e:=a) mu (.inl rfl) (fun b q hb z=>(hs.2 b hb).trans z) he new
theorem dk_new {P:Program} {h':Heap} {kvs:List (Key×V)} {vs:List (Key×Value)} (z:kvs.length<=sizeLine) (hd:(a==sysModules)=false) (rel:KV kvs vs) (dd:h'.DictOf (zA6 P w) a vs) :
  zAy P w H' h' a (.dK kvs):=⟨z,hd,vs,rel,dd⟩
theorem d_setItem {Q:Unit->Shared->Prop} (hu:A.units+1<cLine) (I:Inv X pins σ H s) (g:DPut H a y v H') (ry:RelV y u) (rv:RelV v r) (h:∀s',Inv X pins σ H' s'->Q () s') :
  wpAny (model X.prog X.w) A (setItem (.ref a) u r) Q E s:=by
 rcases g with ⟨kvs,k,e,ey,l,eH⟩| ⟨kvs,k,b,e,ey,eb,l,eH⟩
 ·subst ey eH;obtain ⟨z,hd,vs,rel,dd⟩:=dk_of I.hok e;have hz:vs.length<=sizeLine:=by rw [<-rel.length];exact z
  have hl:(putK kvs k v).length<=sizeLine:=by have:=zEt kvs k v;lia
  refine wpAny_setItem_pairs (hsz:=hz) (kV_is ry) dd fun h' dd' hs=>h _ ?_;have he:∃q,h'.get? a=some q:=let ⟨q,_,_,hq,_⟩:=dd';⟨q,hq⟩;exact d_write I (by rw [e];exact True.intro) hs he (dk_new hl hd (rel.put k rv) dd')
 ·subst ey eH
  cases (show u=Value.ref b from ry)
  obtain ⟨z,hd,xs,rel,dd⟩:=dt_of I.hok e;have hz:xs.length<=sizeLine:=by rw [<-qCD rel];exact z
  have hl:(putK kvs k v).length<=sizeLine:=by have:=zEt kvs k v;lia
  refine wpAny_setItem_heap (hsz:=hz) (qC3 hu) (key_of I.hok eb) dd fun h' dd' hs=>h _ ?_;obtain ⟨q,es,ep,hq,h2,h3,h4,_,h5⟩:=dd';refine d_write I (by rw [e];exact True.intro) hs ⟨q,hq⟩ ⟨hl,hd,_,(rel.put k eb rv).keeps fun c ys ec=>?_,q,es,ep,hq,h2,h3,h4,h5⟩;rw [upd_ne (zBl ec e (fun z=>nomatch z))];exact ec
end
section
variable {X:Cx} {pins:List (Addr×Obj)} {σ:St} {H:Hp} {s:Shared} {a:Addr} {kvs:List (Key×V)} {k:Key} {u:Value} {A:Around} {E:Value->Shared->Prop}
theorem d_len {Q:Value->Shared->Prop} (I:Inv X pins σ H s) (e:Rd H a (.dK kvs)) (h:∀t s',Inv X pins σ H s'->Q (.int kvs.length t) s'):wpAny (model X.prog X.w) A (call (.builtin "len") [.ref a]) Q E s:=by
 obtain ⟨z,hd,vs,rel,dd⟩:=dk_rd I.hok e;refine call_len_dict hd dd (by rw [<-rel.length];rw [qAK] at z;lia) ?_;rw [<-rel.length];exact h _ _ (I.tok _)
end
def NoSl (i:Expr):Prop:=∀ov iv,subscripted i false ov iv=operate [ov,iv] (getItem ov iv)
theorem subD_of {prog:Program} {A:Around} {E:Value->Shared->Prop} {s:Shared} {env:Env} {value slice:Expr} {pos:Pos} {T id:String} {Q:Value->Shared->Prop}
  (hl:typeLookup (.type T) "__getitem__" = pure (some (.builtin id))) (hs:NoSl slice)
  (h:wpAny (model prog w) A (eval value env) (fun o s₁=>wpAny (model prog w) A (eval slice env) (fun i s₂=>s₂.TypeIs o T/\wpAny (model prog w) A (getItem o i) Q E s₂) E s₁) E s) :
  wpAny (model prog w) A (eval (.Subscript value slice pos) env) Q E s:=by
 refine Subscript_ (qAp h (fun o s₁ h₁=>qAp h₁ (fun i s₂ h₂=>?_) fun _ _ x=>x) fun _ _ x=>x);obtain ⟨hT,h₂⟩:=h₂;unfold subscriptTail;refine qAA ?_;rw [getitemInPython_of_ne hT.not_modules];refine qAA (qCa hT hl ?_)
 have fin:wpAny (model prog w) A (subscripted slice false o i) (fun r s₃=>wpAny (model prog w) A (letTemporaryGo value o r >>= fun _=>pure r) Q E s₃) E s₂:=by
  rw [hs o i];exact wpAny_operating (qAp h₂ (fun r s₃ h₃=>qAA (wpAny_letTemporaryGo (qAE h₃))) fun _ _ x=>x)
 first
  | exact qAE (qAA fin)
  | exact qAA (qAE (qAA fin))
  | exact qAA fin
theorem dict_typeIs {X:Cx} {pins:List (Addr×Obj)} {σ:St} {s:Shared} {a:Addr} {o:Option V} (I:Inv X pins σ H s) (g:DGet H a y o):s.TypeIs (.ref a) "dict" := by
 rcases g with ⟨kvs,k,e,_,_⟩| ⟨kvs,k,b,e,_,_,_⟩
 ·obtain ⟨_,_,vs,_,dd⟩:=dk_rd I.hok e;exact dd.typeIs
 ·obtain ⟨_,_,xs,_,dd⟩:=dt_rd I.hok e;exact dd.typeIs
def tDGet (td ty:TE):TE:=fun σ H Q=>td σ H fun x H1=>ty σ H1 fun y H2=>∃a v,x= .ref a/\DGet H2 a y (some v)/\Q v H2
def tDIn (ty td:TE):TE:=fun σ H Q=>ty σ H fun y H1=>td σ H1 fun x H2=>∃a o,x= .ref a/\DGet H2 a y o/\Q (.bl o.isSome) H2
def tDNotIn (ty td:TE):TE:=fun σ H Q=>ty σ H fun y H1=>td σ H1 fun x H2=>∃a o,x= .ref a/\DGet H2 a y o/\Q (.bl (!o.isSome)) H2
def sDPut (td ty tv:TE):TS:=fun D σ H=>tv σ H fun v H1=>td σ H1 fun x H2=>ty σ H2 fun y H3=>∃a H4,x= .ref a/\DPut H3 a y v H4/\D.nx σ H4
section
variable {X:Cx} {o i e value:Expr} {pos pos' tpos:Pos} {td ty tv:TE}
theorem zA0 (hu:X.A.units+1<cLine) (ho:PE X o td) (hi:PE X i ty) (hs:NoSl i):PE X (.Subscript o i pos) (tDGet td ty):=by
 intro pins s σ H Q I h;refine subD_of PySem.F.slot_dict_getitem.lookup hs (thn (ho pins s σ H _ I h) fun u s1 ⟨x,H1,I1,rx,q1⟩=>thn (hi pins s1 σ H1 _ I1 q1) fun iv s2 ⟨y,H2,I2,ry,a,v,ex,g,q2⟩=>?_);subst ex;obtain rfl:u=Value.ref a:=rx;exact ⟨dict_typeIs I2 g,d_getItem hu I2 g ry fun w' s3 I3 rw'=>⟨v,H2,I3,rw',q2⟩⟩
theorem zF5 (hu:X.A.units+1<cLine) (hi:PE X i ty) (ho:PE X o td):PC X .In i o (tDIn ty td):=by
 intro pins s σ H Q I h;refine thn (hi pins s σ H _ I h) fun iv s1 ⟨y,H1,I1,ry,q1⟩=>thn (ho pins s1 σ H1 _ I1 q1) fun u s2 ⟨x,H2,I2,rx,a,ov,ex,g,q2⟩=>?_;subst ex;obtain rfl:u=Value.ref a:=rx;exact d_in hu I2 g ry fun s3 I3=>⟨.bl ov.isSome,H2,I3,rfl,q2⟩
theorem zG5 (hu:X.A.units+1<cLine) (hi:PE X i ty) (ho:PE X o td):PC X .NotIn i o (tDNotIn ty td):=by
 intro pins s σ H Q I h;refine thn (hi pins s σ H _ I h) fun iv s1 ⟨y,H1,I1,ry,q1⟩=>thn (ho pins s1 σ H1 _ I1 q1) fun u s2 ⟨x,H2,I2,rx,a,ov,ex,g,q2⟩=>?_;subst ex;obtain rfl:u=Value.ref a:=rx;exact d_notIn hu I2 g ry fun s3 I3=>⟨.bl (!ov.isSome),H2,I3,rfl,q2⟩
theorem zCp (hu:X.A.units+1<cLine) (ho:PE X o td) (hi:PE X i ty) (hv:PE X value tv) (hs:swapsWith value (some (.Subscript o i pos')) pos.line X.env=pure false) :
  PS X (.Assign [.Subscript o i pos'] value pos) (sDPut td ty tv):=by
 intro pins s σ H D I h;refine wpAny_Assign_Subscript (thn (hv pins s σ H _ I h) fun r s1 ⟨v,H1,I1,rv,q1⟩=>thn (ho pins s1 σ H1 _ I1 q1) fun u s2 ⟨x,H2,I2,rx,q2⟩=>thn (hi pins s2 σ H2 _ I2 q2) fun iv s3 ⟨y,H3,I3,ry,a,H4,ex,g,q3⟩=>?_) hs;subst ex;obtain rfl:u=Value.ref a:=rx;exact d_setItem hu I3 g ry rv fun s4 I4=>⟨σ,H4,I4,q3⟩
end
theorem dk_empty {P:Program} (h:Heap) (hb:sysModules<h.objs.size):zAy P w H (h.push {cls:=.type "dict",data:=.dict #[]}) h.objs.size (.dK []) :=
 ⟨qAX _,qBD.mpr (qAs (qAV hb)),[],.nil,Heap.DictOf.new h⟩
def tDNewK:TE:=fun _ H Q=>∀p,H p=none->Q (.ref p) (upd H p (.dK []))
section
variable {X:Cx} {pos:Pos}
theorem zBy:PE X (.Dict [] [] pos) tDNewK:=fun pins s σ H Q I h =>
 wpAny_Dict_empty ⟨.ref s.heap.objs.size,_,I.laid (a:=s.heap.objs.size) (o:=.dK []) (t':=s.toks) (fun _ _ q=>qAJ _ q) (qAG _) (dk_empty s.heap I.big),rfl,h _ (I.hok.fresh (qAG _))⟩
end
section
variable {X:Cx}
theorem call_lenD:zCu X (.builtin "len") (fun xs H Q=>∃a kvs,xs=[V.ref a]/\H a=some (.dK kvs)/\Q (.int kvs.length) H):=by
 intro pins s σ H xs us Q I r h;obtain ⟨a,kvs,rfl,ha,q⟩:=h;obtain ⟨u,rfl,ru⟩:=zIq r
 cases ru
 exact d_len I (.inl ha) fun t s' I'=>⟨.int kvs.length,H,I',⟨t,rfl⟩,q⟩
end
end L2
set_option maxHeartbeats 4000000
namespace L2
open PySem PySem.Spec PyProof.Rows
variable {env:Env}{scope:Scope}{x:Str}{c:Addr}{X:Cx}{elt iter tg:Expr}{ifs:List Expr}{g:TG}{tt:TT}{te:TE}{wi:TI}
def clOf (env:Env):List (Str×NameKind)->List (Str×Addr)->List (Str×Addr)
 | [],cs=>cs
 | (n,k)::r,cs=>if (k==NameKind.free)=true then (match env.cells.lookup n with| some c=>clOf env r ((n,c)::cs)| none=>clOf env r cs) else clOf env r cs
theorem zD7 {env:Env}:∀(l:List (Str×NameKind)) (cs:List (Str×Addr)),(∀x∈l,x.2= .free->∃c,env.cells.lookup x.1=some c) ->
  (forIn l cs (fun (x:Str×NameKind) (cs:List (Str×Addr))=>match x with
   | (name,kind)=>if (kind==NameKind.free)=true then (do let c<-cellOf env name;pure (ForInStep.yield ((name,c)::cs))) else pure (ForInStep.yield cs)):Sem (List (Str×Addr)))=pure (clOf env l cs)
 | [],_,_=>rfl
 | (n,k)::r,cs,h=>by
  rw [List.forIn_cons];have hr:∀x∈r,x.2= .free->∃c,env.cells.lookup x.1=some c:=fun x hx=>h x (qAP _ hx)
  by_cases hk:(k==NameKind.free)=true
  ·obtain ⟨c,hc⟩:=h (n,k) qAR (by simpa using hk)
   have e1:clOf env ((n,k)::r) cs=clOf env r ((n,c)::cs):=by
    show (if (k==NameKind.free)=true then _ else _)=_;rw [qAC hk];have hc:env.cells.lookup n=some c:=hc;rw [hc]
   have e2:cellOf env n=pure c:=by
    have hc:env.cells.lookup n=some c:=hc;unfold cellOf;rw [hc]
   rw [e1,<-zD7 r ((n,c)::cs) hr];show (if (k==NameKind.free)=true then (do let c<-cellOf env n;pure (ForInStep.yield ((n,c)::cs))) else pure (ForInStep.yield cs)) >>= _=_;rw [qAC hk,e2,pure_bind,pure_bind]
  ·have e1:clOf env ((n,k)::r) cs=clOf env r cs:=by
    show (if (k==NameKind.free)=true then _ else _)=_;rw [qAB hk]
   rw [e1,<-zD7 r cs hr];show (if (k==NameKind.free)=true then (do let c<-cellOf env n;pure (ForInStep.yield ((n,c)::cs))) else pure (ForInStep.yield cs)) >>= _=_;rw [qAB hk,pure_bind]
theorem zJp (h:∀x∈scope.names,x.2= .free->∃c,env.cells.lookup x.1=some c):closureFor scope env=pure (clOf env scope.names []):=by
 unfold closureFor;have e:=zD7 (env:=env) scope.names [] h
 first
  | exact e
  | (refine Eq.trans ?_ e;rfl)
  | (rw [bind_pure];exact e)
  | simpa using e
theorem zEf :∀{l:List (Str×NameKind)} {cs:List (Str×Addr)},(∀y d,cs.lookup y=some d->env.cells.lookup y=some d)->(clOf env l cs).lookup x=some c->env.cells.lookup x=some c
 | [],cs,h,e=>h x c e
 | (n,k)::r,cs,h,e=>by
  unfold clOf at e
  by_cases hk:(k==NameKind.free)=true
  ·rw [qAC hk] at e
   cases q:env.cells.lookup n with
   | none=>rw [q] at e;exact zEf h e
   | some d =>
    rw [q] at e;refine zEf (fun y z hy=>?_) e;rw [qBI] at hy
    cases hyn:y==n with
    | true =>
     rw [hyn] at hy;have:y=n:=by simpa using hyn
     subst this;rw [q];exact hy
    | false=>rw [hyn] at hy;exact h y z hy
  ·rw [qAB hk] at e;exact zEf h e
theorem zEg (hx:env.cells.lookup x=some c):∀{l:List (Str×NameKind)} {cs:List (Str×Addr)},cs.lookup x=some c->(clOf env l cs).lookup x=some c
 | [],_,h=>h
 | (n,k)::r,cs,h=>by
  unfold clOf
  by_cases hk:(k==NameKind.free)=true
  ·rw [qAC hk]
   cases q:env.cells.lookup n with
   | none=>exact zEg hx h
   | some d =>
    refine zEg hx ?_;rw [qBI]
    cases hxn:x==n with
    | true =>
     have:x=n:=by simpa using hxn
     subst this;rw [<-q,hx]
    | false=>exact h
  ·rw [qAB hk];exact zEg hx h
theorem zFj (hx:env.cells.lookup x=some c):∀{l:List (Str×NameKind)} {cs:List (Str×Addr)},(x,NameKind.free)∈l->(clOf env l cs).lookup x=some c
 | [],_,h=>nomatch h
 | (n,k)::r,cs,h=>by
  unfold clOf;rcases qAO.mp h with e| h
  ·cases e
   rw [qAC (show (NameKind.free==NameKind.free)=true by decide),hx];exact zEg hx (by rw [qBI];simp)
  ·by_cases hk:(k==NameKind.free)=true
   ·rw [qAC hk]
    cases q:env.cells.lookup n with
    | none=>exact zFj hx h
    | some d=>exact zFj hx h
   ·rw [qAB hk];exact zFj hx h
theorem zDm :∀{l:List (Str×NameKind)} {n:Nat} {acc:List (Str×Addr)},(∀y∈l,y.2= .cell->y.1≠x)->(cellsFrom n l acc).lookup x=acc.lookup x
 | [],_,_,_=>rfl
 | (y,k)::r,n,acc,h=>by
  have hr:∀z∈r,z.2= .cell->z.1≠x:=fun z hz=>h z (qAP _ hz);unfold cellsFrom;split
  ·rename_i hk;rw [zDm hr,qBI]
   have:(x==y)=false:=by
    have:=h (y,k) qAR (by simpa using hk);exact qBD.mpr (fun z=>this z.symm)
   rw [this]
  ·exact zDm hr
theorem zCc :∀{l:List (Str×NameKind)} {n:Nat} {acc:List (Str×Addr)},(cellsFrom n l acc).lookup x=some c->acc.lookup x=some c\/(n<=c/\(x,NameKind.cell)∈l)
 | [],_,_,h=>.inl h
 | (y,k)::r,n,acc,h=>by
  unfold cellsFrom at h;split at h
  ·rename_i hk;have hk':k= .cell:=by simpa using hk
   rcases zCc h with z| ⟨z1,z2⟩
   ·rw [qBI] at z
    cases hx:x==y with
    | true =>
     rw [hx] at z;have e:n=c:=qAc z;have e2:x=y:=by simpa using hx
     subst e2;subst hk';exact .inr ⟨qBF e,qAR⟩
    | false=>rw [hx] at z;exact .inl z
   ·exact .inr ⟨qAT (qCH _) z1,qAP _ z2⟩
  ·rcases zCc h with z| ⟨z1,z2⟩
   ·exact .inl z
   ·exact .inr ⟨z1,qAP _ z2⟩
theorem zDn:∀{l:List (Str×NameKind)} {n:Nat} {acc:List (Str×Addr)},(∀x y c,acc.lookup x=some c->acc.lookup y=some c->x=y)->(∀z d,acc.lookup z=some d->d<n)->∀x y c,(cellsFrom n l acc).lookup x=some c->(cellsFrom n l acc).lookup y=some c->x=y
 | [],_,_,p,_=>p
 | (w,k)::r,n,acc,p,lt=>by
  unfold cellsFrom;split
  ·refine zDn (l:=r) (n:=n+1) (acc:=(w,n)::acc) (fun x y c h1 h2=>?_) (fun z d h=>?_)
   ·rw [qBI] at h1 h2
    cases hx:x==w with
    | true =>
     rw [hx] at h1;have e1:n=c:=qAc h1
     cases hy:y==w with
     | true=>exact (by simpa using hx:x=w).trans (by simpa using hy:y=w).symm
     | false =>
      rw [hy] at h2;have:=lt y c h2;rw [<-e1] at this;exact absurd this (qAu _)
    | false =>
     rw [hx] at h1
     cases hy:y==w with
     | true =>
      rw [hy] at h2;have e2:n=c:=qAc h2;have:=lt x c h1;rw [<-e2] at this;exact absurd this (qAu _)
     | false=>rw [hy] at h2;exact p x y c h1 h2
   ·rw [qBI] at h
    cases hz:z==w with
    | true =>
     rw [hz] at h;have e:n=d:=qAc h;rw [<-e];exact qBy _
    | false =>
     rw [hz] at h;exact qBn (lt z d h)
  ·exact zDn p lt
theorem zC9 :∀{l:List (Str×NameKind)} {h:Heap} {acc:List (Str×Addr)},(∀y d,acc.lookup y=some d->∃v,h.IsCell d v)->(cellsFrom h.objs.size l acc).lookup x=some c->∃v,(pushCells h l).IsCell c v
 | [],_,_,hA,e=>hA x c e
 | (y,k)::r,h,acc,hA,e=>by
  unfold cellsFrom at e;unfold pushCells;split at e
  ·rename_i hk;rw [qAC hk];have hs:(h.push {cls:=.type "cell",data:=.cell none}:Heap).objs.size=h.objs.size+1:=qBa ..;rw [<-hs] at e;refine zC9 (fun z d hz=>?_) e;rw [qBI] at hz
   cases hzy:z==y with
   | true =>
    rw [hzy] at hz;have e:h.objs.size=d:=qAc hz;subst e;exact ⟨none,_,qAb _ rfl,rfl⟩
   | false =>
    rw [hzy] at hz;obtain ⟨v,o,ho,hd⟩:=hA z d hz;exact ⟨v,o,qAJ _ ho,hd⟩
  ·rename_i hk;rw [qAB hk];exact zC9 hA e
theorem zEy {M:Model} {A:Around} {E:Value->Shared->Prop} {s:Shared} {globals:Addr} {cl:List (Str×Addr)} {qual:Str} {outer:Env} {Q:Env->Shared->Prop}
  (h:Q (newEnv scope s.heap.objs.size globals (cellsFrom (s.heap.objs.size+1) scope.names cl) qual none .none (some outer) builtinsNs) {s with heap:=pushCells (s.heap.push {cls:=.type "dict",data:=.dict #[]}) scope.names}) :
  wpAny M A (newFunctionEnv scope globals cl [] qual none .none (some outer)) Q E s:=by
 simp only [newFunctionEnv,Option.isSome_some,qBl];refine qAA (wpAny_alloc ?_);refine qAA (wpAny_layCells _ (fun name kind cells=>by cases hkc:kind==NameKind.cell<;>simp [hkc]) _ _ _ _ ?_);rw [show ({s with heap:=s.heap.push {cls:=.type "dict",data:=.dict #[]}}:Shared).heap.objs.size=s.heap.objs.size+1 from qBa ..];rw [List.forIn_nil];exact qAA (qAE (qAE h))
theorem zFi :∀{l:List (Str×NameKind)} {cs:List (Str×Addr)},(∀y∈l,y.2= .free->y.1≠x)->(clOf env l cs).lookup x=cs.lookup x
 | [],_,_=>rfl
 | (n,k)::r,cs,h=>by
  have hr:∀z∈r,z.2= .free->z.1≠x:=fun z hz=>h z (qAP _ hz);unfold clOf
  by_cases hk:(k==NameKind.free)=true
  ·rw [qAC hk];have nx:(x==n)=false:=qBD.mpr fun z=>h (n,k) qAR (by simpa using hk) z.symm
   cases q:env.cells.lookup n with
   | none=>exact zFi hr
   | some d =>
    rw [show (clOf env r ((n,d)::cs)).lookup x=((n,d)::cs).lookup x from zFi hr,qBI,nx]
  ·rw [qAB hk];exact zFi hr
def Cx.block (X:Cx) (scope:Scope) (C:Addr) (s₀:Shared) (H₀:Hp) (ex:List Addr) (N:List Str):Cx where
 prog:=X.prog
 w:=X.w
 K:=X.K
 mg:=X.mg
 base:=X.base
 A:=X.A
 N:=N
 s₀:=s₀
 H₀:=H₀
 env:=compEnvC scope (cellsFrom (C+1) scope.names (clOf X.env scope.names [])) C X.env
 outer:=X.stack
 stack:=X.stack
 ex:=ex
 fn:=fun x=>scope.names.lookup x==some .cell
 calm:=X.calm
 pn:=[]
 xe:=fun _ _=>False
structure BlkSc (X:Cx) (scope:Scope):Prop where
 kind:scope.kind= .function
 apart:∀y∈scope.names,∀z∈scope.names,y.2= .cell->z.2= .free->y.1≠z.1
 owns:∀y∈scope.names,y.2= .cell->scope.names.lookup y.1=some .cell
 free:∀y∈scope.names,y.2= .free->X.env.kindOf y.1=some .cell\/X.env.kindOf y.1=some .free
 locs:∀y∈scope.names,y.2= .local->scope.names.lookup y.1=some .local
theorem zC0 {scope:Scope} {k:NameKind}:∀{l:List (Str×NameKind)}, 
  (l.map fun (n,k)=>if (k==NameKind.free&&env.scope.kind== .function&&env.kindOf n==some .cell) then (n,NameKind.cell) else (n,k)).lookup x=some k ->
  k= .cell\/k= .free->∃k',(x,k')∈l/\(k'= .cell\/k'= .free)
 | [],h,_=>by simp at h
 | (n,j)::r,h,hk=>by
  have h:List.lookup x ((if (j==NameKind.free&&env.scope.kind== .function&&env.kindOf n==some .cell)=true then (n,NameKind.cell) else (n,j))::(r.map fun (n,k)=>if (k==NameKind.free&&env.scope.kind== .function&&env.kindOf n==some .cell) then (n,NameKind.cell) else (n,k)))=some k:=h
  by_cases hc:(j==NameKind.free&&env.scope.kind== .function&&env.kindOf n==some .cell)=true
  ·rw [qAC hc,qBI] at h
   have hj:j= .free:=by
    simp only [qCI] at hc;simpa using hc.1.1
   cases hx:x==n with
   | true =>
    have:x=n:=by simpa using hx
    subst this;exact ⟨j,qAR,.inr hj⟩
   | false =>
    rw [hx] at h;obtain ⟨k',m,q⟩:=zC0 (scope:=scope) h hk;exact ⟨k',qAP _ m,q⟩
  ·rw [qAB hc,qBI] at h
   cases hx:x==n with
   | true =>
    rw [hx] at h;have e:j=k:=qAc h;have:x=n:=by simpa using hx
    subst this;exact ⟨j,qAR,by rw [e];exact hk⟩
   | false =>
    rw [hx] at h;obtain ⟨k',m,q⟩:=zC0 (scope:=scope) h hk;exact ⟨k',qAP _ m,q⟩
inductive Draws (X:Cx) (scope:Scope):List Str->List (Option Nat)->Prop
 | nil:Draws X scope [] []
 | own {x:Str} {N:List Str} {ix:List (Option Nat)}:Draws X scope N ix->Draws X scope (x::N) (Option.none::ix)
 | tk {x:Str} {N:List Str} {ix:List (Option Nat)} {i:Nat} (hN:X.N[i]?=some x) (hv:Vis X.env.scope x) (hk:(relabel scope X.env).names.lookup x=some .cell\/(relabel scope X.env).names.lookup x=some .free) (hf:(x,NameKind.free)∈scope.names) :
   Draws X scope N ix->Draws X scope (x::N) (some i::ix)
def zDb (σ:St) (ix:List (Option Nat)):St:=ix.map fun o=>o.bind fun i=>(σ[i]?).join
theorem Draws.len {N:List Str} {ix:List (Option Nat)} (D:Draws X scope N ix):ix.length=N.length:=by
 induction D with
 | nil=>rfl
 | own _ ih=>simp [ih]
 | tk _ _ _ _ _ ih=>simp [ih]
theorem Draws.get {N:List Str} {ix:List (Option Nat)} {σ:St} (D:Draws X scope N ix):∀(j:Nat) (x:Str) (v:V),N[j]?=some x->(zDb σ ix)[j]?=some (some v) ->
  ∃(i:Nat),X.N[i]?=some x/\σ[i]?=some (some v)/\Vis X.env.scope x/\((relabel scope X.env).names.lookup x=some .cell\/(relabel scope X.env).names.lookup x=some .free)/\(x,NameKind.free)∈scope.names:=by
 induction D with
 | nil=>intro j x v h;simp at h
 | own d ih =>
  intro j x v h1 h2
  cases j with
  | zero=>simp [zDb] at h2
  | succ j=>exact ih j x v (by simpa using h1) (by simpa [zDb] using h2)
 | @tk y N ix i hN hv hk hf d ih =>
  intro j x v h1 h2
  cases j with
  | zero =>
   have e:y=x:=by simpa using h1
   subst e;refine ⟨i,hN,?_,hv,hk,hf⟩;have h2:((σ[i]?).join)=some v:=by simpa [zDb] using h2
   cases q:σ[i]? with
   | none=>rw [q] at h2;cases h2
   | some o=>rw [q] at h2;exact qAg some h2
  | succ j=>exact ih j x v (by simpa using h1) (by simpa [zDb] using h2)
section
variable {X:Cx} {pins:List (Addr×Obj)} {σ:St} {H:Hp} {s:Shared} {scope:Scope} {N:List Str} {ix:List (Option Nat)} {fp:List Addr}
theorem Inv.nostk (I:Inv X pins σ H s) {b:Addr} (h1:b≠X.env.locals) (h2:b∉X.fs):b∉frs X.stack:=fun z=>(qAO.mp (I.stkSub b z)).elim h1 h2
theorem Inv.blockStart {h':Heap} {tk:Nat} {m:Str->Option Value} (I:Inv X pins σ H s) (B:BlkSc X scope) (D:Draws X scope N ix) (hfp:∀b∈fp,FpOk X pins H b) (hfo:∀b∈fp,∃o,s.heap.get? b=some o)
  (hns:h'.Ns s.heap.objs.size m) (hk:∀b o,s.heap.get? b=some o->h'.get? b=some o) (hcl:∀x c,(cellsFrom (s.heap.objs.size+1) scope.names (clOf X.env scope.names [])).lookup x=some c->∃v,h'.IsCell c v) :
  Inv (X.block scope s.heap.objs.size s H fp N) (X.pn++pins) (zDb σ ix) H {s with heap:=h',toks:=tk}:=by
 have sub:∀{x:Str} {c:Addr},(clOf X.env scope.names []).lookup x=some c->X.env.cells.lookup x=some c:=fun {x c} e=>zEf (fun y d z=>by simp at z) e
 have old:∀{x:Str} {c:Addr},(clOf X.env scope.names []).lookup x=some c->c<s.heap.objs.size:=fun {x c} e=>by
  obtain ⟨v,o,ho,_⟩:=I.cell x c (sub e);exact qAL ho
 have two:∀{x:Str} {c:Addr},(cellsFrom (s.heap.objs.size+1) scope.names (clOf X.env scope.names [])).lookup x=some c->X.env.cells.lookup x=some c\/s.heap.objs.size<c:=fun {x c} e=>by
  rcases zCc e with z| ⟨z,_⟩
  ·exact .inl (sub z)
  ·exact .inr z
 have own:∀{x:Str},(x,NameKind.free)∈scope.names->(cellsFrom (s.heap.objs.size+1) scope.names (clOf X.env scope.names [])).lookup x=(clOf X.env scope.names []).lookup x:=fun {x} hx=>zDm fun y hy e=>B.apart y hy _ hx e rfl
 have okB:(X.block scope s.heap.objs.size s H fp N).Ok:=by
  refine ⟨I.ok.mod,B.kind,I.ok.glob,I.ok.blt,qAG _,zDn (fun x y c h1 h2=>I.ok.inj x y c (sub h1) (sub h2)) (fun z d h=>qBn (old h)),fun x hx=>?_,(fun x c z e=>?_),I.ok.hd,I.ok.frames,.inl rfl,fun b hb=>⟨?_,fun x c e=>?_⟩,
   I.bs,qAT I.ok.bsz I.sz,fun b o e hb=>?_,fun b hb=>I.nostk (hfp b hb).2.1 (hfp b hb).2.2.1,I.stack,I.stkFree⟩
  ·have hx':(relabel scope X.env).names.lookup x=some .cell\/(relabel scope X.env).names.lookup x=some .free:=hx
   have key:∃k',(x,k')∈scope.names/\(k'= .cell\/k'= .free):=by
    rcases hx' with e| e
    ·exact zC0 (scope:=scope) e (.inl rfl)
    ·exact zC0 (scope:=scope) e (.inr rfl)
   obtain ⟨k',m1,q⟩:=key;rcases q with q| q
   ·subst q;exact Option.isSome_iff_exists.mp (qDV _ _ _ (.inl (B.owns _ m1 rfl)))
   ·subst q;obtain ⟨c,hc⟩:=I.ok.has x (B.free _ m1 rfl);exact ⟨c,(own m1).trans (zFj hc m1)⟩
  ·rcases zCc e with q| ⟨q,_⟩
   ·have z:scope.names.lookup x=some .cell:=by
     have z:(scope.names.lookup x==some NameKind.cell)=true:=z;simpa using z
    have hm:=qBh z;have:(x,NameKind.free)∈scope.names\/True:=.inr trivial
    exact absurd q (by
     rw [zFi (fun y hy e1 e2=>B.apart _ hm y hy rfl e1 e2.symm)];intro h;cases h)
   ·exact qBu q
  ·obtain ⟨o,e⟩:=hfo b hb;exact qAV (qAL e)
  ·rcases two e with z| z
   ·exact (hfp b hb).2.2.2.2.1 x c z
   ·obtain ⟨o,e⟩:=hfo b hb;exact qA4 (qCZ (qAL e) z)
  ·rcases (hfp b hb).2.2.2.1 with z| z
   ·exact I.ok.noex b o e z
   ·exact absurd (qAl (qAL (I.ok.bs b o e).1) z) (qAu _)
 refine ⟨okB,rfl,I.bare,Un.kept hk,⟨m,hns,fun j x v h1 h2 h3=>?_⟩,fun x c e=>?_,I.hok.fresh (qAG _),fun x c e=>(two e).elim (fun z=>I.freeC x c z) (fun z=>I.hok.fresh (qBu z)),fun p hp=>?_,I.hok.kept hk,?_⟩
 ·obtain ⟨i,e1,e2,vis,kd,fr⟩:=D.get j x v h1 h2;obtain ⟨m0,hn0,hl⟩:=I.loc;obtain ⟨u,r,l⟩:=hl i x v e1 e2 vis;refine ⟨u,r,?_⟩;rcases l with ⟨k,_⟩| ⟨_,c,hc,o,ho,hd⟩
  ·rcases B.free _ fr rfl with z| z
   ·have z:X.env.kindOf x=some .cell:=z;rw [k] at z;cases z
   ·have z:X.env.kindOf x=some .free:=z;rw [k] at z;cases z
  ·exact .inr ⟨kd,c,(own fr).trans (zFj hc fr),o,hk c o ho,hd⟩
 ·exact hcl x c e
 ·have hp':p∈X.pn++pins:=by simpa [Cx.block] using hp
  obtain ⟨e,n,ne,nf,d⟩:=I.pin p hp';exact ⟨hk _ _ e,n,qAV (qAL e),I.nostk ne nf,d⟩
 ·show (zDb σ ix).length=N.length;unfold zDb;rw [qAD];exact D.len
end
def PTs (X:Cx) (ifs:List Expr) (t:TT):Prop :=
 ∀(pins:List (Addr×Obj)) (s:Shared) (σ:St) (H:Hp) (Q:Bool->Hp->Prop),Inv X pins σ H s->t σ H Q ->
  wpAny (model X.prog X.w) X.A (forIn ifs true fun c r=>if r=true then do let ok<-isTrue c X.env (eval c X.env);pure (ForInStep.yield ok) else pure (ForInStep.yield r)) (TP X pins σ Q) X.xe s
def tTrue:TT:=fun _ H Q=>Q true H
theorem zCe :PTs X [] tTrue:=fun _ _ _ H _ I h=>wpAny_tests_nil ⟨H,I,h⟩
theorem zB6 {c:Expr} {t:TT} (h:PT X c t):PTs X [c] t:=fun pins s σ H Q I hw=>wpAny_tests_one (h pins s σ H Q I hw)
theorem comp_loop {prog:Program} {w:World} {A:Around} {R:Result->Shared->Prop} {s:Shared} {elt target iter:Expr} {ifs:List Expr} {scope:Scope} {pos:Pos} {it acc:Value} {env:Env} (I:Nat->Shared->Prop)
  (turn:∀n s,I n s->wpAny (model prog w) A (pyNext it) (fun r s₁=>match r with
   | none=>R (.ok .next) s₁
   | some v=>wpAny (model prog w) A (letOwnedTupleGo target it v) (fun _ s₁'=>wpAny (model prog w) A (assign target env v) (fun _ s₂ =>
     wpAny (model prog w) A (forIn ifs true fun c r=>if r=true then do let ok<-isTrue c env (eval c env);pure (ForInStep.yield ok) else pure (ForInStep.yield r)) (fun ok s₃ =>
      if ok=true then wpAny (model prog w) A (eval elt env) (fun x s₄ =>
       wpAny (model prog w) A (call (.builtin "list.append") [acc,x]) (fun _ s₅=>∃m,m<n/\I m s₅) (fun _ _=>False) s₄) (fun _ _=>False) s₃
      else∃m,m<n/\I m s₃) (fun _ _=>False) s₂) (fun _ _=>False) s₁') (fun _ _=>False) s₁) (fun _ _=>False) s)
  (n:Nat) (h:I n s) :
  codeAny (model prog w) A (.compLoop (.ListComp elt [⟨target,iter,ifs,0⟩] scope pos) 0 it acc env) R s:=by
 refine codeAny_loop rfl I (fun n s hI=>?_) n h;show wpAny _ A ((compTurn (.ListComp elt [⟨target,iter,ifs,0⟩] scope pos) 0 it acc env).onRaise (fun x=>do noteFrame x env;theTreesLotGoes x)) _ _ s;refine wpAny_noted ?_;rw [compTurn_list];refine qAA (qBv (qAA (qAp (turn n s hI) (fun r s₁ h₁=>?_) fun _ _ h'=>h'.elim)))
 cases r with
 | none=>exact qAE h₁
 | some v =>
  refine qAA (qAp h₁ (fun _ s₁' h₁'=>?_) fun _ _ h'=>h'.elim);refine qAA (qAp h₁' (fun _ s₂ h₂=>qAA (qAp h₂ (fun ok s₃ h₃=>?_) fun _ _ h'=>h'.elim)) fun _ _ h'=>h'.elim)
  cases ok with
  | false=>exact qAE ⟨rfl,h₃⟩
  | true =>
   exact qAA (qAA (qAp h₃ (fun x s₄ h₄=>qAA (qAp h₄ (fun _ s₅ h₅=>qAE (qAE ⟨rfl,h₅⟩)) fun _ _ h'=>h'.elim)) fun _ _ h'=>h'.elim))
def tComp (wi:TI) (ix:List (Option Nat)) (g:TG) (tt:TT) (te:TE):TE:=fun σ H Q=>wi σ H fun J H1=>∀D,H1 D=none->∃W:Nat->Nat->List V->St->Hp->Prop,
 (∃m,W 0 m [] (zDb σ ix) (upd H1 D (.lst [])))/\∀i m ys τ H2,W i m ys τ H2 ->
  (J.stop i H2/\Q (.ref D) H2)\/(J.go i H2/\∃N:List V->St->Hp->Prop,(∀ys' τ' H',N ys' τ' H'->∃m',m'<m/\W (i+1) m' ys' τ' H')/\∀x H3,J.yld i H2 x H3->g x τ H3 fun τ' H4=>tt τ' H4 fun b H5 =>
   if b=true then te τ' H5 fun v H6=>H6 D=some (.lst ys)/\ys.length<sizeLine/\N (ys++[v]) τ' (upd H6 D (.lst (ys++[v])))
   else N ys τ' H5)
theorem block_loop {Y:Cx} {pos:Pos} {J:It} {fp:List Addr} {it D:Addr} {tn:Nat->Heap->Prop} {P:List (Addr×Obj)} {W:Nat->Nat->List V->St->Hp->Prop} {m0:Nat}
  {R:Result->Shared->Prop} {QD:Hp->Prop} {s4:Shared} {τ0:St} {H4:Hp}
  (hc:Y.calm=true) (hx:∀e s,Y.xe e s->False) (hg:PG Y tg g) (ht:PTs Y ifs tt) (he:PE Y elt te) (T:Turn Y.prog Y.w Y.K tg J fp it tn)
  (stat:∀{H':Hp},(∀b∈fp,H' b=none)->∀b∈fp,FpOk Y P H' b)
  (turn:∀i m ys τ H2,W i m ys τ H2->(J.stop i H2/\QD H2)\/(J.go i H2/\∃N:List V->St->Hp->Prop,(∀ys' τ' H',N ys' τ' H'->∃m',m'<m/\W (i+1) m' ys' τ' H')/\∀x H3,J.yld i H2 x H3->g x τ H3 fun τ' H4=>tt τ' H4 fun b H5 =>
   if b=true then te τ' H5 fun v H6=>H6 D=some (.lst ys)/\ys.length<sizeLine/\N (ys++[v]) τ' (upd H6 D (.lst (ys++[v])))
   else N ys τ' H5))
  (fin:∀τ H' s',Inv Y P τ H' s'->QD H'->R (.ok .next) s')
  (I0:Inv Y P τ0 H4 s4) (t0:tn 0 s4.heap) (n0:∀b∈fp,H4 b=none) (w0:W 0 m0 [] τ0 H4) :
  codeAny (model Y.prog Y.w) Y.A (.compLoop (.ListComp elt [⟨tg,iter,ifs,0⟩] scope pos) 0 (.ref it) (.ref D) Y.env) R s4:=by
 have nx:∀{α:Type} {t:Sem α} {Q:α->Shared->Prop} {s:Shared},wpAny (model Y.prog Y.w) Y.A t Q Y.xe s->wpAny (model Y.prog Y.w) Y.A t Q (fun _ _=>False) s:=fun h=>qAp h (fun _ _ q=>q) hx;refine comp_loop (fun n s'=>∃i ys τ H',Inv Y P τ H' s'/\tn i s'.heap/\(∀b∈fp,H' b=none)/\W i n ys τ H') ?_ m0 ⟨0,[],τ0,H4,I0,t0,n0,w0⟩;rintro n s5 ⟨i,ys,τ,H5,I5,st5,fr5,w5⟩;rcases turn i n ys τ H5 w5 with ⟨stop,q⟩| ⟨go,N,hN,step⟩
 ·refine thn (T.done Y rfl rfl rfl hc i P s5 τ H5 _ I5 (stat fr5) st5 stop) fun r s6 ⟨hr,I6⟩=>?_;subst hr;exact fin τ H5 s6 I6 q
 ·refine thn (T.item Y rfl rfl rfl hc i P s5 τ H5 _ I5 (stat fr5) st5 go) fun r s6 ⟨u,hr,h6⟩=>?_;subst hr;refine thn h6 fun _ s7 ⟨x,H7,I7,r7,y7,st7,fr7⟩=>?_;have I7':=I7.pinned (stat fr7) (T.obj _ _ st7);refine nx (thn (hg _ s7 τ H7 x u _ I7' r7 (step x H7 y7)) fun _ s8 ⟨τ8,H8,I8,q8⟩=>?_);refine nx (thn (ht _ s8 τ8 H8 _ I8 q8) fun ok s9 ⟨H9,I9,q9⟩=>?_)
  have again:∀{ys':List V} {H':Hp} {s':Shared},Inv Y (P++pinsAt fp s7.heap) τ8 H' s'->(∃m',m'<n/\W (i+1) m' ys' τ8 H')->∃m,m<n/\∃i ys τ H',Inv Y P τ H' s'/\tn i s'.heap/\(∀b∈fp,H' b=none)/\W i m ys τ H':=fun {ys' H' s'} I' ⟨m',hm,w'⟩=>by
   refine ⟨m',hm,i+1,ys',τ8,H',I'.unpinned,T.keep _ _ _ st7 fun b hb o e=>(I'.pin (b,o) (qAz _ (qAz _ (zEe hb e)))).1,fun b hb=>?_,w'⟩;obtain ⟨o,e,d⟩:=T.obj _ _ st7 b hb;exact (I'.pin (b,o) (qAz _ (qAz _ (zEe hb e)))).2.1
  cases ok with
  | false =>
   rw [qAB qAn] at q9 ⊢;exact again I9 (hN _ _ _ q9)
  | true =>
   rw [qAC rfl] at q9 ⊢;refine nx (thn (he _ s9 τ8 H9 _ I9 q9) fun y s10 ⟨v,H10,I10,r10,hD,hz,w10⟩=>?_);refine nx (thn (zD1 (X:=Y) _ s10 τ8 H10 (.ref D) [v] (.ref D) [y] (fun _ H'=>H'=upd H10 D (.lst (ys++[v]))) I10 rfl (.cons r10 .nil) ⟨D,ys,v,rfl,rfl,hD,hz,rfl⟩) fun _ s11 ⟨z,H11,I11,_,e11⟩=>?_);subst e11;exact again I11 (hN _ _ _ w10)
theorem run_comp {pos p1:Pos} {N:List Str} {ix:List (Option Nat)} {pins:List (Addr×Obj)} {s:Shared} {σ:St} {H:Hp} {Q:VK} {use:Option (Value->Sem Unit)}
  {Z:Value->Shared->Prop}
  (hc:X.calm=true) (B:BlkSc X scope) (Dr:Draws X scope N ix) (hi:PI X tg iter wi)
  (hg:∀C s₀ H₀ ex,PG (X.block scope C s₀ H₀ ex N) tg g) (ht:∀C s₀ H₀ ex,PTs (X.block scope C s₀ H₀ ex N) ifs tt) (he:∀C s₀ H₀ ex,PE (X.block scope C s₀ H₀ ex N) elt te)
  (hs:∀x,foldedSetIterable iter X.env x=pure x)
  (I:Inv X pins σ H s) (h:tComp wi ix g tt te σ H Q)
  (fin:∀(D C:Addr) (H':Hp) (s':Shared) (m:Str->Option Value),Inv X pins σ H' s'->Q (.ref D) H'->s'.heap.Ns C m->(∀h',Heap.SameBut C s'.heap h'->Inv X pins σ H' {s' with heap:=h'})->C≠X.env.locals->(∀x c,X.env.cells.lookup x=some c->c≠C)->H' C=none ->
   (∀p∈X.pn++pins,p.1≠C)->X.s₀.heap.objs.size<=C->compPost (model X.prog X.w) X.A X.xe use Z (.ref D) C (.ok .next) s') :
  wpAny (model X.prog X.w) X.A (comprehension (.ListComp elt [⟨tg,iter,ifs,0⟩] scope pos) scope X.env p1 (newList []) false (eval iter X.env) use) Z X.xe s:=by
 have hfree:∀x∈scope.names,x.2= .free->∃c,X.env.cells.lookup x.1=some c:=fun x hx e=>I.ok.has _ (B.free x hx e);refine wpAny_comprehension_free (use:=use) rfl hs (zJp hfree) B.kind B.locs ?_;refine thn (hi pins s σ H _ I h) fun v s1 h1=>thn h1 fun itv s2 h2=>?_;obtain ⟨it,fp,tn,J,H2,e,I2,T,st2,f2,R⟩:=h2;subst e;have hDf:H2 s2.heap.objs.size=none:=I2.hok.fresh (qAG _);obtain ⟨W,⟨m0,w0⟩,turn⟩:=R _ hDf;refine qCM ?_ (by show (0:Nat)<=sizeLine;exact qAX _);have I3:Inv X pins σ (upd H2 s2.heap.objs.size (.lst [])) {s2 with heap:=s2.heap.push {cls:=.type "list",data:=.seq ([]:List Value).toArray}}:=I2.lnew (t':=s2.toks) (ys:=[]) (its:=[]) .nil (qAX _);generalize hD:s2.heap.objs.size=D at *
 have fpo:∀b∈fp,∃o,s2.heap.get? b=some o:=fun b hb=>let ⟨o,q,_⟩:=T.obj _ _ st2 b hb;⟨o,q⟩
 have fpD:∀b∈fp,b≠D:=fun b hb=>by
  obtain ⟨o,q⟩:=fpo b hb;rw [<-hD];exact qAV (qAL q)
 have f3:∀b∈fp,FpOk X pins (upd H2 D (.lst [])) b:=fun b hb=>⟨by rw [upd_ne (fpD b hb)];exact (f2 b hb).1,(f2 b hb).2⟩;generalize hs3:({s2 with heap:=s2.heap.push {cls:=.type "list",data:=.seq ([]:List Value).toArray}}:Shared)=s3 at I3 ⊢;have k23:∀b o,s2.heap.get? b=some o->s3.heap.get? b=some o:=fun b o q=>by rw [<-hs3];exact qAJ _ q
 have fpo3:∀b∈fp,∃o,s3.heap.get? b=some o:=fun b hb=>let ⟨o,q⟩:=fpo b hb;⟨o,k23 b o q⟩;have st3:tn 0 s3.heap:=T.keep _ _ _ st2 fun b hb o q=>k23 b o q;refine zEy ?_;have k34:∀b o,s3.heap.get? b=some o->(pushCells (s3.heap.push {cls:=.type "dict",data:=.dict #[]}) scope.names).get? b=some o:=fun b o q=>pushCells_keeps _ _ b o (qAJ _ q);have hns4:(pushCells (s3.heap.push {cls:=.type "dict",data:=.dict #[]}) scope.names).Ns s3.heap.objs.size (fun _=>none):=(Heap.Ns.new s3.heap (.type "dict")).keeps (pushCells_keeps _ _)
 have hcl4:∀x c,(cellsFrom (s3.heap.objs.size+1) scope.names (clOf X.env scope.names [])).lookup x=some c->∃v,(pushCells (s3.heap.push {cls:=.type "dict",data:=.dict #[]}) scope.names).IsCell c v:=fun x c e=>by
  refine zC9 (h:=s3.heap.push {cls:=.type "dict",data:=.dict #[]}) (acc:=clOf X.env scope.names []) (fun y d hy=>?_) (by rw [qBa];exact e);obtain ⟨v,o,ho,hd⟩:=I3.cell y d (zEf (fun y d z=>by simp at z) hy);exact ⟨v,o,qAJ _ ho,hd⟩
 have IB:=I3.blockStart (tk:=s3.toks) B Dr f3 fpo3 hns4 k34 hcl4;generalize hh4:pushCells (s3.heap.push {cls:=.type "dict",data:=.dict #[]}) scope.names=h4 at *
 generalize hC:s3.heap.objs.size=C at *
 have hCX:X.s₀.heap.objs.size<=C:=by rw [<-hC];exact I3.sz
 have CL:C≠X.env.locals:=by rw [<-hC];exact qA4 I3.lt
 have Cc:∀x c,X.env.cells.lookup x=some c->c≠C:=fun x c q=>by
  obtain ⟨v,o,ho,_⟩:=I3.cell x c q;rw [<-hC];exact qAV (qAL ho)
 have Cp:∀p∈X.pn++pins,p.1≠C:=fun p hp=>by
  rw [<-hC];exact qAV (qAL (I3.pin p hp).1)
 have fpC:∀b∈fp,b≠C:=fun b hb=>by
  obtain ⟨o,q⟩:=fpo3 b hb;rw [<-hC];exact qAV (qAL q)
 have stat:∀{H':Hp},(∀b∈fp,H' b=none)->∀b∈fp,FpOk (X.block scope C s3 (upd H2 D (.lst [])) fp N) (X.pn++pins) H' b:=fun {H'} hn b hb=>by
  obtain ⟨_,q1,q2,q3,q4,q5⟩:=f2 b hb;exact ⟨hn b hb,fpC b hb,I3.nostk q1 q2,.inl hb,fun x c e=>(zCc e).elim (fun z=>q4 x c (zEf (fun y d z=>by simp at z) z)) (fun z=>by obtain ⟨o,q⟩:=fpo3 b hb;have:=qAL q;rw [hC] at this;exact qA4 (qAl (qBn this) z.1)),fun p hp=>q5 p (by simpa [Cx.block] using hp)⟩
 have st4:tn 0 h4:=T.keep _ _ _ st3 fun b hb o q=>k34 b o q;have n4:∀b∈fp,(upd H2 D (.lst [])) b=none:=fun b hb=>(f3 b hb).1
 have loop:=block_loop (Y:=X.block scope C s3 (upd H2 D (.lst [])) fp N) (iter:=iter) (pos:=pos) (scope:=scope) (D:=D) (R:=compPost (model X.prog X.w) X.A X.xe use Z (.ref D) C) hc (fun _ _ z=>z) (hg C s3 _ fp) (ht C s3 _ fp) (he C s3 _ fp) T stat turn
  (fun τ H' s' I' q=>by
   have I5:Inv X pins σ H' s':=I3.call' (ch:=fp) I'.os I'.base I'.hok I'.bare fun b hb=>by
    obtain ⟨_,q1,q2,q3,q4,q5⟩:=f2 b hb;exact ⟨q3,q1,q4,q5⟩
   obtain ⟨m,hn,_⟩:=I'.loc;have hC0:H' C=none:=I'.free;exact fin D C H' s' m I5 q hn (fun h'' hs''=>I5.turned (t':=s'.toks) (fun b o hb e=>hs''.extBut b o hb e) hC0 CL (.inr hCX) Cc Cp) CL Cc hC0 Cp hCX) IB st4 n4 w0
 exact codeAny_compStart_list loop (T.self _ 0 _ _ _ st4 loop)
theorem zA5 {pos:Pos} {N:List Str} {ix:List (Option Nat)} (hc:X.calm=true) (B:BlkSc X scope) (Dr:Draws X scope N ix) (hi:PI X tg iter wi)
  (hg:∀C s₀ H₀ ex,PG (X.block scope C s₀ H₀ ex N) tg g) (ht:∀C s₀ H₀ ex,PTs (X.block scope C s₀ H₀ ex N) ifs tt) (he:∀C s₀ H₀ ex,PE (X.block scope C s₀ H₀ ex N) elt te)
  (hs:∀x,foldedSetIterable iter X.env x=pure x:=by intro _;rfl):PE X (.ListComp elt [⟨tg,iter,ifs,0⟩] scope pos) (tComp wi ix g tt te):=by
 intro pins s σ H Q I h;rw [eval_ListComp];exact run_comp (use:=none) hc B Dr hi hg ht he hs I h fun D C H' s' m I' q hn k _ _ _ _ _=>⟨m,hn,fun h' hs'=>⟨.ref D,H',k h' hs',rfl,q⟩⟩
theorem zG3 {pos spos py:Pos} {N:List Str} {ix:List (Option Nat)} {i:Nat} {y:Str} (hc:X.calm=true) (B:BlkSc X scope) (Dr:Draws X scope N ix) (hi:PI X tg iter wi)
  (hg:∀C s₀ H₀ ex,PG (X.block scope C s₀ H₀ ex N) tg g) (ht:∀C s₀ H₀ ex,PTs (X.block scope C s₀ H₀ ex N) ifs tt) (he:∀C s₀ H₀ ex,PE (X.block scope C s₀ H₀ ex N) elt te)
  (hN:X.N.Nodup) (hy:X.N[i]?=some y) (hl:X.env.scope.names.lookup y=some .local)
  (hsw:swapsWith (.ListComp elt [⟨tg,iter,ifs,0⟩] scope pos) (some (.Name y py)) spos.line X.env=pure true:=by rfl)
  (hs:∀x,foldedSetIterable iter X.env x=pure x:=by intro _;rfl):PS X (.Assign [.Name y py] (.ListComp elt [⟨tg,iter,ifs,0⟩] scope pos) spos) (tAsg (tComp wi ix g tt te) (zJl i)):=by
 intro pins s σ H Dn I h;rw [exec_Assign_Name_used _ _ _ _ hsw];refine qAA (qBv (qAA ?_));show wpAny _ X.A (do let _<-comprehension (.ListComp elt [⟨tg,iter,ifs,0⟩] scope pos) scope X.env _ (newList []) false (eval iter X.env) (some (assign (.Name y py) X.env))) _ _ s;refine qAA (thn (run_comp (use:=some (assign (.Name y py) X.env)) (Z:=fun _ s'=>SP X pins Dn .next s') hc B Dr hi hg ht he hs I h fun D C H' s' m I' q hn k CL Cc C0 Cp CX=>?_) fun _ s' hq=>qAE (qAE hq));show wpAny _ _ (assign (.Name y py) X.env (.ref D)) _ _ s';refine wpAny_assign_Name (store_ok2 I' hN hy (.inl hl) (v:=.ref D) rfl (fun s'' I'' ⟨a,sb,ha⟩=>?_) (.inr hl))
 have aC:C≠a:=by
  rcases ha with z| z
  ·rw [z];exact CL
  ·exact (Cc _ _ z).symm
 exact ⟨m,hn.sameBut sb aC,fun h' hs'=>⟨_,H',I''.turned (t':=s''.toks) (fun b o hb e=>hs'.extBut b o hb e) C0 CL (.inr CX) Cc Cp,q⟩⟩
theorem comp_by {J:It} {ix:List (Option Nat)} {Q:VK} {σ:St} {H1:Hp} {D:Addr} (xs:List V) (Pv:Nat->List V->St->Hp->Prop) (h0:Pv 0 [] (zDb σ ix) (upd H1 D (.lst [])))
  (hJ:∀i ys τ H,Pv i ys τ H->(∀x,xs[i]?=some x->J.go i H/\∀y H',J.yld i H y H'->H'=H/\y=x)/\(i=xs.length->J.stop i H))
  (hs:∀i x ys τ H,xs[i]?=some x->Pv i ys τ H->g x τ H fun τ' H4=>tt τ' H4 fun b H5=>if b=true then te τ' H5 fun v H6=>H6 D=some (.lst ys)/\ys.length<sizeLine/\Pv (i+1) (ys++[v]) τ' (upd H6 D (.lst (ys++[v]))) else Pv (i+1) ys τ' H5)
  (hd:∀ys τ H,Pv xs.length ys τ H->Q (.ref D) H) :
  ∃W:Nat->Nat->List V->St->Hp->Prop,(∃m,W 0 m [] (zDb σ ix) (upd H1 D (.lst [])))/\∀i m ys τ H2,W i m ys τ H2 ->
   (J.stop i H2/\Q (.ref D) H2)\/(J.go i H2/\∃N:List V->St->Hp->Prop,(∀ys' τ' H',N ys' τ' H'->∃m',m'<m/\W (i+1) m' ys' τ' H')/\∀x H3,J.yld i H2 x H3->g x τ H3 fun τ' H4=>tt τ' H4 fun b H5 =>
    if b=true then te τ' H5 fun v H6=>H6 D=some (.lst ys)/\ys.length<sizeLine/\N (ys++[v]) τ' (upd H6 D (.lst (ys++[v])))
    else N ys τ' H5):=by
 refine ⟨fun i m ys τ H=>m=xs.length - i/\i<=xs.length/\Pv i ys τ H,⟨xs.length,by simp,qAX _,h0⟩,?_⟩;rintro i m ys τ H ⟨rfl,hi,p⟩;obtain ⟨j1,j2⟩:=hJ i ys τ H p
 by_cases hlt:i<xs.length
 ·have hx:xs[i]?=some xs[i]:=by simp [hlt]
  obtain ⟨go,yl⟩:=j1 _ hx;refine .inr ⟨go,Pv (i+1),fun ys' τ' H' p'=>⟨xs.length - (i+1),by lia,rfl,hlt,p'⟩,fun y H' yd=>?_⟩;obtain ⟨e1,e2⟩:=yl y H' yd;subst e1 e2;exact hs i _ ys τ _ hx p
 ·have e:i=xs.length:=by lia
  subst e;exact .inl ⟨j2 rfl,hd ys τ H p⟩
def blkOk (scope sc:Scope):Bool:=(scope.kind== .function)&&(scope.names.all (fun y=>scope.names.all fun z=>y.2 != .cell||z.2 != .free||y.1 != z.1)&&scope.names.all (fun y=>y.2 != .cell||scope.names.lookup y.1==some .cell))&&scope.names.all (fun y=>y.2 != .free||sc.names.lookup y.1==some .cell||sc.names.lookup y.1==some .free)&&scope.names.all (fun y=>y.2 != .local||scope.names.lookup y.1==some .local)
theorem zBc {scope sc:Scope} (hsc:X.env.scope=sc) (h:blkOk scope sc=true):BlkSc X scope:=by
 unfold blkOk at h;simp only [qCI,qA5,Bool.or_eq_true] at h;obtain ⟨⟨⟨h1,h2,h5⟩,h3⟩,h4⟩:=h;refine ⟨by simpa using h1,fun y hy z hz e1 e2=>?_,fun y hy e=>?_,fun y hy e=>?_,fun y hy e=>?_⟩
 ·rcases h2 y hy z hz with (q| q)| q
  ·rw [e1] at q;simp at q
  ·rw [e2] at q;simp at q
  ·simpa using q
 ·rcases h5 y hy with q| q
  ·rw [e] at q;simp at q
  ·simpa using q
 ·have q:=h3 y hy;show X.env.scope.names.lookup y.1=some .cell\/X.env.scope.names.lookup y.1=some .free;rw [hsc];rcases q with (q| q)| q
  ·rw [e] at q;simp at q
  ·exact .inl (by simpa using q)
  ·exact .inr (by simpa using q)
 ·have q:=h4 y hy;rcases q with q| q
  ·rw [e] at q;simp at q
  ·simpa using q
def Its (z:Str):It:=⟨fun i _=>i<z.cps.size,fun i H x H'=>H'=H/\∃c,z.cps[i]?=some c/\x= .str ⟨#[c]⟩,fun i _=>z.cps.size<=i⟩
theorem turn_str {P:Program} {w:World} {K:PySem.W.Frag} (it:Addr) (z:Str) (t:Tok) (ty:String) (hty:ty= "str_ascii_iterator" \/ty= "str_iterator"):Turn P w K tg (Its z) [it] it (fun i h=>h.IsStrIter it ty z t i) where
 mem:=by simp
 obj:=fun i h st b hb=>by
  have e:b=it:=by simpa using hb
  subst e;obtain ⟨o,e,c,d⟩:=st;exact ⟨o,e,fun v z=>by rw [d] at z;cases z⟩
 keep:=fun i h h' st k=>by
  obtain ⟨o,e,c,d⟩:=st;exact ⟨o,k it (by simp) o e,c,d⟩
 item:=by
  intro X hP hw hK hc i pins s σ H E I hf st hg;subst hP hw hK;obtain ⟨f0,f1,f2,f3,f4,f5⟩:=hf it (by simp);have hlt:i<z.cps.size:=hg;have hx:z.cps[i]?=some z.cps[i]:=by simp [hlt]
  have fin:∀h':Heap,h'.IsStrIter it ty z t (i+1)->Heap.SameBut it s.heap h'->∃u,some (Value.str ⟨#[z.cps[i]]⟩ s.toks)=some u /\
    wpAny (model X.prog X.w) X.A (letOwnedTupleGo tg (.ref it) u) (fun _ s2=>∃x H',Inv X pins σ H' s2/\RelV x u/\(Its z).yld i H x H'/\s2.heap.IsStrIter it ty z t (i+1)/\∀b∈[it],H' b=none) E {s with heap:=h',toks:=s.toks+1}:=fun h' st' sb=>by
   have I1:Inv X pins σ H {s with heap:=h',toks:=s.toks+1}:=I.turned (t':=s.toks+1) (fun b o hb e=>(sb.2 b hb).trans e) f0 f1 f3 f4 f5;obtain ⟨o,e,c,d⟩:=id st';exact ⟨_,rfl,go_of (s:={s with heap:=h',toks:=s.toks+1}) e c d (by rcases hty with rfl| rfl<;>decide) ⟨.str ⟨#[z.cps[i]]⟩,H,I1,⟨_,rfl⟩,⟨rfl,_,hx,rfl⟩,st',fun b hb=>(hf b hb).1⟩⟩
  rcases hty with rfl| rfl
  ·exact wpAny_pyNext_ascii_item st hx fin
  ·exact wpAny_pyNext_wide_item st hx fin
 done:=by
  intro X hP hw hK hc i pins s σ H E I hf st hg;subst hP hw hK;obtain ⟨f0,f1,f2,f3,f4,f5⟩:=hf it (by simp);have hle:z.cps.size<=i:=hg;have hx:z.cps[i]?=none:=by simp [hle]
  have fin:∀h':Heap,Heap.ExtBut it s.heap h'->(none:Option Value)=none/\Inv X pins σ H {s with heap:=h'}:=fun h' eb=>⟨rfl,I.turned (t':=s.toks) (fun b o hb e=>eb b o hb e) f0 f1 f3 f4 f5⟩;rcases hty with rfl| rfl
  ·exact wpAny_pyNext_ascii_end (I.ok.hd hc) st hx fin
  ·exact wpAny_pyNext_wide_end (I.ok.hd hc) st hx fin
 self:=fun _ _ _ _ _ st h=>by
  rcases hty with rfl| rfl
  ·exact wpAny_pyIter_striter_ascii st h
  ·exact wpAny_pyIter_striter_wide st h
def iStr (tl:TE):TI:=fun σ H R=>tl σ H fun x H1=>∃z,x= .str z/\R (Its z) H1
theorem pi_str {l:Expr} {tl:TE} (hl:PE X l tl):PI X tg l (iStr tl):=by
 intro pins s σ H R I h;refine thn (hl pins s σ H _ I h) fun v s1 ⟨x,H1,I1,r1,q1⟩=>?_;obtain ⟨z,e,q⟩:=q1;subst e;obtain ⟨t,rfl⟩:=r1
 have fin:∀(ty:String),(ty= "str_ascii_iterator" \/ty= "str_iterator")->PIE X pins σ tg R (.ref s1.heap.objs.size) {s1 with heap:=s1.heap.push {cls:=.type ty,data:=.fields #[.str z t,.int 0 0]}}:=fun ty hty =>
  ⟨s1.heap.objs.size,[s1.heap.objs.size],_,_,H1,rfl,I1.kept (t':=s1.toks) fun b o e=>qAJ _ e,turn_str _ z t ty hty,⟨_,qAb _ rfl,rfl,rfl⟩,fun b hb=>by
   have e:b=s1.heap.objs.size:=by simpa using hb
   subst e;exact I1.fpOk (qAG _) (I1.hok.fresh (qAG _)),q⟩
 cases ha:z.cps.all (·<128)
 ·exact wpAny_pyIter_wide ha (fin _ (.inr rfl))
 ·exact wpAny_pyIter_ascii ha (fin _ (.inl rfl))
theorem bls_get {bs:List Bool} {its:List Value} (r:Vals (bs.map V.bl) its) {i:Nat} {v:Value} (h:its[i]?=some v):v= .bool (bs.getD i false)/\i<bs.length:=by
 have hl:=r.length;rw [qAD] at hl;have hi:i<its.length:=(qAf.mp h).1;have hb:i<bs.length:=by lia
 have e:(bs.map V.bl)[i]?=some (V.bl bs[i]):=by simp [hb]
 obtain ⟨u,hu,ru⟩:=r.get e;rw [h] at hu
 cases hu
 refine ⟨?_,hb⟩;have:v= .bool bs[i]:=ru;rw [this,qA6];simp [hb]
theorem all_range (bs:List Bool):(List.range bs.length).all (fun i=>bs.getD i false)=bs.all id:=by
 rw [qBQ];simp only [qA5,qA3];constructor
 ·intro h x hx;obtain ⟨i,hi,rfl⟩:=qA0.mp hx;have:=h i hi;simpa [qA6,hi] using this
 ·intro h i hi;have:=h bs[i] (qBd hi);simpa [qA6,hi] using this
theorem any_range (bs:List Bool):(List.range bs.length).any (fun i=>bs.getD i false)=bs.any id:=by
 rw [qBQ];simp only [List.any_eq_true,qA3];constructor
 ·rintro ⟨i,hi,h⟩;exact ⟨bs[i],qBd hi,by simpa [qA6,hi] using h⟩
 ·rintro ⟨x,hx,h⟩;obtain ⟨i,hi,rfl⟩:=qA0.mp hx;exact ⟨i,hi,by simpa [qA6,hi] using h⟩
theorem zFm (X:Cx) (hc:X.calm=true):zCu X (.builtin "all") (fun xs H Q=>∃(p:Addr) (bs:List Bool),xs=[.ref p]/\SqL X.K H p (bs.map V.bl)/\Q (.bl (bs.all id)) H):=by
 intro pins s σ H xs us Q I rv h;obtain ⟨p,bs,rfl,hq,q⟩:=h;obtain ⟨u,rfl,ru⟩:=rv.one
 cases ru
 obtain ⟨its,r,pl,hz⟩:=I.list hq;have hl:=r.length;rw [qAD] at hl;refine call_all_walk (qCv pl.isList ?_);have hp:p<s.heap.objs.size:=by obtain ⟨o,n,e,_⟩:=pl;exact qAL e
 have I1:Inv X pins σ H {s with heap:=s.heap.push {cls:=.type "list_iterator",data:=.fields #[.ref p,.int 0 0]}}:=I.kept (t':=s.toks) fun b o e=>qAJ _ e;refine ⟨s.heap.objs.size,_,_,_,_,_,fun i=>bs.getD i false,rfl,Walks.list (A:=X.A.in1) (show X.A.in1.handled=none from I.ok.hd hc) s.heap.objs.size p (qAV hp) its.toArray,⟨⟨_,qAb _ rfl,rfl,rfl⟩,pl.isList.at fun o e=>qAJ _ e⟩,?_,fun h' tk hk=>?_⟩
 ·intro i v s' E' Q' hv hq';obtain ⟨rfl,_⟩:=bls_get r (by simpa using hv);exact qBE hq'
 ·have e:(List.range its.toArray.size).all (fun i=>bs.getD i false)=bs.all id:=by
   rw [qAM,<-hl];exact all_range bs
  refine ⟨.bl (bs.all id),H,?_,by rw [e];rfl,q⟩;obtain ⟨f0,f1,f2,f3,f4,f5⟩:=I.fpOk (b:=s.heap.objs.size) (qAG _) (I.hok.fresh (qAG _));exact I1.turned (t':=tk) (fun b o hb e=>hk b o (by simpa using hb) e) f0 f1 f3 f4 f5
theorem call_any (X:Cx) (hc:X.calm=true):zCu X (.builtin "any") (fun xs H Q=>∃(p:Addr) (bs:List Bool),xs=[.ref p]/\SqL X.K H p (bs.map V.bl)/\Q (.bl (bs.any id)) H):=by
 intro pins s σ H xs us Q I rv h;obtain ⟨p,bs,rfl,hq,q⟩:=h;obtain ⟨u,rfl,ru⟩:=rv.one
 cases ru
 obtain ⟨its,r,pl,hz⟩:=I.list hq;have hl:=r.length;rw [qAD] at hl;refine call_any_walk (qCv pl.isList ?_);have hp:p<s.heap.objs.size:=by obtain ⟨o,n,e,_⟩:=pl;exact qAL e
 have I1:Inv X pins σ H {s with heap:=s.heap.push {cls:=.type "list_iterator",data:=.fields #[.ref p,.int 0 0]}}:=I.kept (t':=s.toks) fun b o e=>qAJ _ e;refine ⟨s.heap.objs.size,_,_,_,_,_,fun i=>bs.getD i false,rfl,Walks.list (A:=X.A.in1) (show X.A.in1.handled=none from I.ok.hd hc) s.heap.objs.size p (qAV hp) its.toArray,⟨⟨_,qAb _ rfl,rfl,rfl⟩,pl.isList.at fun o e=>qAJ _ e⟩,?_,fun h' tk hk=>?_⟩
 ·intro i v s' E' Q' hv hq';obtain ⟨rfl,_⟩:=bls_get r (by simpa using hv);exact qBE hq'
 ·have e:(List.range its.toArray.size).any (fun i=>bs.getD i false)=bs.any id:=by
   rw [qAM,<-hl];exact any_range bs
  refine ⟨.bl (bs.any id),H,?_,by rw [e];rfl,q⟩;obtain ⟨f0,f1,f2,f3,f4,f5⟩:=I.fpOk (b:=s.heap.objs.size) (qAG _) (I.hok.fresh (qAG _));exact I1.turned (t':=tk) (fun b o hb e=>hk b o (by simpa using hb) e) f0 f1 f3 f4 f5
theorem zEh :zCu X (.builtin "isinstance") (fun xs H Q=>∃x n t b,xs=[x,.ty n]/\TyOf X.K H x t/\PySem.W.kitOne X.K t (.type n)=some b/\Q (.bl b) H):=by
 intro pins s σ H xs us Q I rv h;obtain ⟨x,n,t,b,rfl,ty,e,q⟩:=h;obtain ⟨u,c,rfl,rx,rc⟩:=rv.two
 cases (show c=Value.type n from rc)
 exact isinst_ok I rx ty e fun tk=>⟨.bl b,H,I.tok tk,rfl,q⟩
theorem op_le_str :OpR X (compareOp .LtE) (fun x y H Q=>∃i j,x= .str i/\y= .str j/\Q (.bl (!(decide (j.cps.toList<i.cps.toList)))) H):=by
 intro pins s σ H x y v u Q I rx ry h;obtain ⟨i,j,rfl,rfl,q⟩:=h;obtain ⟨t,rfl⟩:=rx;obtain ⟨t',rfl⟩:=ry;exact PySem.P.le_str ⟨.bl _,H,I,rfl,q⟩
inductive Alike (K:PySem.W.Frag) (H:Hp):Nat->V->V->Prop
 | flat {n:Nat} {x:V} (fx:zD6 x=true):Alike K H n x x
 | same {n:Nat} {a:Addr}:Alike K H n (.ref a) (.ref a)
 | lists {n:Nat} {a b:Addr} {xs ys:List V} (hx:SqL K H a xs) (hy:SqL K H b ys) (hl:xs.length=ys.length) (he:∀(i:Nat) (x y:V),xs[i]?=some x->ys[i]?=some y->Alike K H n x y):Alike K H (n+1) (.ref a) (.ref b)
 | tups {n:Nat} {a b:Addr} {xs ys:List V} (hx:SqT K H a xs) (hy:SqT K H b ys) (hl:xs.length=ys.length) (he:∀(i:Nat) (x y:V),xs[i]?=some x->ys[i]?=some y->Alike K H n x y):Alike K H (n+1) (.ref a) (.ref b)
theorem eqV_refl {x:V} (h:zD6 x=true):eqV x x=true:=by
 cases x<;>simp [eqV]<;>simp [zD6] at h
section
variable {X:Cx} {pins:List (Addr×Obj)} {σ:St} {H:Hp} {s:Shared}
theorem zJs (n:Nat):(List.range n).all (fun _=>true)=true:=by simp
theorem alike_at (I:Inv X pins σ H s) {n:Nat} {x y:V} (h:Alike X.K H n x y):∀{u v:Value} {A:Around},RelV x u->RelV y v->A.units+n<cLine->SeqAt.EqAt A s u v true:=by
 induction h with
 | flat fx =>
  intro u v A ru rv _;have q:=eqAt_V (A:=A) (s:=s) ru rv fx fx
  rwa [eqV_refl fx] at q
 | same =>
  intro u v A ru rv _
  cases ru
  cases rv
  exact qCz _
 | @lists n a b xs ys hx hy hl he ih =>
  intro u v A ru rv hu
  cases ru
  cases rv
  by_cases ab:a=b
  ·subst ab;exact qCz _
  ·obtain ⟨its,r,pl,hz⟩:=I.list hx;obtain ⟨its2,r2,pl2,hz2⟩:=I.list hy;have e1:=r.length;have e2:=r2.length
   have q:=SeqAt.RcAt.lists (A:=A) (s:=s) (e:=fun _=>true) pl.isList pl2.isList (by rw [qAM,qAM];lia) (by lia) (fun j h1 h2=>by
    rw [qAM] at h1 h2;have hjx:xs[j]?=some (xs[j]'(by lia)):=by simp
    have hjy:ys[j]?=some (ys[j]'(by lia)):=by simp
    obtain ⟨u1,q1,ru1⟩:=r.get hjx;obtain ⟨v1,q2,rv1⟩:=r2.get hjy
    have e3:its.toArray[j]=u1:=by
     have:its[j]?=some its[j]:=by simp
     rw [this] at q1;simpa using q1
    have e4:its2.toArray[j]=v1:=by
     have:its2[j]?=some its2[j]:=by simp
     rw [this] at q2;simpa using q2
    rw [e3,e4];exact ih j _ _ hjx hjy ru1 rv1 (by show A.units+1+n<cLine;lia))
   rw [zJs] at q;exact SeqAt.EqAt.of_refs ab q
 | @tups n a b xs ys hx hy hl he ih =>
  intro u v A ru rv hu
  cases ru
  cases rv
  by_cases ab:a=b
  ·subst ab;exact qCz _
  ·obtain ⟨its,r,pl,hz⟩:=I.tuple hx;obtain ⟨its2,r2,pl2,hz2⟩:=I.tuple hy;have e1:=r.length;have e2:=r2.length
   have q:=SeqAt.RcAt.tuples (A:=A) (s:=s) (e:=fun _=>true) (show s.heap.IsTuple a its.toArray from pl) (show s.heap.IsTuple b its2.toArray from pl2) (by lia) (fun j h1 h2=>by
    rw [qAM] at h1 h2;have hjx:xs[j]?=some (xs[j]'(by lia)):=by simp
    have hjy:ys[j]?=some (ys[j]'(by lia)):=by simp
    obtain ⟨u1,q1,ru1⟩:=r.get hjx;obtain ⟨v1,q2,rv1⟩:=r2.get hjy
    have e3:its.toArray[j]=u1:=by
     have:its[j]?=some its[j]:=by simp
     rw [this] at q1;simpa using q1
    have e4:its2.toArray[j]=v1:=by
     have:its2[j]?=some its2[j]:=by simp
     rw [this] at q2;simpa using q2
    rw [e3,e4];exact ih j _ _ hjx hjy ru1 rv1 (by show A.units+1+n<cLine;lia))
   rw [zJs,Bool.true_and,qAM,qAM,<-e1,<-e2,hl,beq_self_eq_true] at q;exact SeqAt.EqAt.of_refs ab q
theorem alike_items (I:Inv X pins σ H s) {n:Nat} {xs ys:List V} {its its2:List Value} {A:Around} (r:Vals xs its) (r2:Vals ys its2) (he:∀(i:Nat) (x y:V),xs[i]?=some x->ys[i]?=some y->Alike X.K H n x y) (hu:A.units+n<cLine) :
  ∀j (h1:j<its.toArray.size) (h2:j<its2.toArray.size),SeqAt.EqAt A s its.toArray[j] its2.toArray[j] true:=fun j h1 h2=>by
 have e1:=r.length;have e2:=r2.length;rw [qAM] at h1 h2;have hjx:xs[j]?=some (xs[j]'(by lia)):=by simp
 have hjy:ys[j]?=some (ys[j]'(by lia)):=by simp
 obtain ⟨u1,q1,ru1⟩:=r.get hjx;obtain ⟨v1,q2,rv1⟩:=r2.get hjy
 have e3:its.toArray[j]=u1:=by
  have:its[j]?=some its[j]:=by simp
  rw [this] at q1;simpa using q1
 have e4:its2.toArray[j]=v1:=by
  have:its2[j]?=some its2[j]:=by simp
  rw [this] at q2;simpa using q2
 rw [e3,e4];exact alike_at I (he j _ _ hjx hjy) ru1 rv1 hu
end
def rAlike (K:PySem.W.Frag) (n:Nat) (b:Bool):R2:=fun x y H Q=>∃a c xs ys,x= .ref a/\y= .ref c/\SqL K H a xs/\SqL K H c ys/\xs.length=ys.length/\(∀(i:Nat) (x y:V),xs[i]?=some x->ys[i]?=some y->Alike K H n x y)/\Q (.bl b) H
def rUnlen (K:PySem.W.Frag) (b:Bool):R2:=fun x y H Q=>∃a c xs ys,x= .ref a/\y= .ref c/\SqL K H a xs/\SqL K H c ys/\xs.length≠ys.length/\Q (.bl b) H
section
variable {X:Cx}
theorem op_neA {n:Nat} (hu:X.A.units+1+n<cLine):OpR X (compareOp .NotEq) (rAlike X.K n false):=by
 intro pins s σ H x y v u Q I rx ry h;obtain ⟨a,c,xs,ys,rfl,rfl,hx,hy,hl,he,q⟩:=h
 cases rx
 cases ry
 obtain ⟨its,r,pl,hz⟩:=I.list hx;obtain ⟨its2,r2,pl2,hz2⟩:=I.list hy;have e1:=r.length;have e2:=r2.length;refine SeqAt.RcNeAt.lists (e:=fun _=>true) pl.isList pl2.isList (by rw [qAM,qAM];lia) (by lia) (alike_items I r r2 he (by show X.A.units+1+n<cLine;lia)) X.prog X.w X.xe _ ?_;rw [zJs];exact ⟨.bl false,H,I,rfl,q⟩
theorem OpR.either {f:Value->Value->Sem Value} {r r':R2} (h:OpR X f r) (h':OpR X f r'):OpR X f (fun x y H Q=>r x y H Q\/r' x y H Q):=by
 intro pins s σ H x y v u Q I rx ry q;rcases q with q| q
 ·exact h pins s σ H x y v u Q I rx ry q
 ·exact h' pins s σ H x y v u Q I rx ry q
end
end L2
namespace SM
open PySem PySem.StrLaws PySem.Builtin PySem.Builtin.Str
end SM
namespace L2
open PySem PySem.Spec PyProof.Rows
variable {M:List Addr}{H H1 H':Hp}{a D:Addr}{σ:St}{g:TG}{te:TE}
structure Cal (P:Program) (w:World) (K:PySem.W.Frag) (mg:Str->Option Value) (base:Heap) (x:Str) (k:Nat) (ps:List Str) (sp:Sp):Prop where
 to:∃(f:Addr) (fd:FuncData),mg x=some (.ref f)/\PySem.W.keepIn K (.ref f)=true/\zDu K fd ps []/\FnOk P w K mg base CX0 k f fd ps sp
theorem zAf {X:Cx} {x:Str} {k:Nat} {ps:List Str} {sp:Sp} {e:Expr} {es:List Expr} {p pos:Pos} {t:TA} (C:Cal X.prog X.w X.K X.mg X.base x k ps sp) (hr:Room k X.A) (hg:Gl X x) (ha:PA X (e::es) t)
  (hdb:(x==("__debug__" : Str))=false:=by decide) (he:starEach (e::es) X.env=(false,eval e X.env)::starEach es X.env:=by rfl) (hpl:(backTo pos (starEach es X.env)).any (·.1)=false:=by rfl) :
  PE X (.Call (.Name x p) (e::es) [] pos) (tCall sp [] E0 t):=by
 obtain ⟨f,fd,h1,h2,h3,h4⟩:=C.to;exact pe_call h4 hr hg h1 h2 h3 .nil pass0 ha hdb he hpl
theorem zIn:bootBuiltins "max" = some (.builtin "max"):=by decide +kernel
theorem bo_min:bootBuiltins "min" = some (.builtin "min"):=by decide +kernel
theorem bo_all:bootBuiltins "all" = some (.builtin "all"):=by decide +kernel
theorem bo_any:bootBuiltins "any" = some (.builtin "any"):=by decide +kernel
theorem zBk:bootBuiltins "isinstance" = some (.builtin "isinstance"):=by decide +kernel
theorem zCt:bootBuiltins "sorted" = some (.builtin "sorted"):=by decide +kernel
theorem zA4:bootBuiltins "len" = some (.builtin "len"):=by decide +kernel
theorem bo_int:bootBuiltins "int" = some (.type "int"):=by decide +kernel
theorem bo_str:bootBuiltins "str" = some (.type "str"):=by decide +kernel
theorem zB2:bootBuiltins "list" = some (.type "list"):=by decide +kernel
theorem bo_set:bootBuiltins "set" = some (.type "set"):=by decide +kernel
theorem bo_bool:bootBuiltins "bool" = some (.type "bool"):=by decide +kernel
theorem zEx:bootBuiltins "reversed" = some (.type "reversed"):=by decide +kernel
def Fre (H:Hp) (l:Addr):Prop:=H l=none
def Kp (M:List Addr) (H H':Hp):Prop:=∀b o,H b=some o->b∉M->H' b=some o
theorem Kp.refl :Kp M H H:=fun _ _ h _=>h
theorem Kp.trans {H2:Hp} (a:Kp M H H1) (b:Kp M H1 H2):Kp M H H2:=fun c o h n=>b c o (a c o h n) n
theorem Kp.weak {M':List Addr} (k:Kp M H H') (s:∀b,b∈M->b∈M'):Kp M' H H':=fun b o h n=>k b o h fun z=>n (s b z)
theorem Kp.new {M:List Addr} {l:Addr} {o:HO} (k:Kp M H H') (f:Fre H l):Kp M H (upd H' l o):=fun b u h n=>by
 rw [upd_ne (zAk h f)];exact k b u h n
theorem Kp.put {l:Addr} {o:HO} (k:Kp M H H') (f:l∈M):Kp M H (upd H' l o):=fun b u h n=>by
 rw [upd_ne (by intro e;subst e;exact n f)];exact k b u h n
theorem Kp.fre {l:Addr} (k:Kp M H H') (f:Fre H' l) (n:l∉M):Fre H l:=by
 unfold Fre
 cases q:H l with
 | none=>rfl
 | some o =>
  have:=k l o q n;unfold Fre at f;rw [f] at this;cases this
theorem ne_fre {b:Addr} {o:HO} (f:Fre H b) (h:H a=some o):a≠b:=zAk h f
theorem nm1 {b:Addr} (h:a≠b):a∉[b]:=by simpa using h
theorem nm2 {b c:Addr} (h:a≠b) (h':a≠c):a∉[b,c]:=by simp;exact ⟨h,h'⟩
theorem zGa {α:Type} {xs:List α} {i:Int} {v:α} (h0:0<=i) (h:xs[i.toNat]?=some v):atI xs i=some v:=by
 have hl:i.toNat<xs.length:=(qAf.mp h).1;unfold atI ixN;rw [qAC h0,qAC (by lia)];exact h
theorem atI_natc {α:Type} {xs:List α} {n:Nat} {v:α} (h:xs[n]?=some v):atI xs (n:Int)=some v:=zGa (by lia) (by simpa using h)
theorem hu2 {A:Around} {k n:Nat} (hr:Room k A) (h:n<=60:=by decide):A.units+1+n<cLine:=by
 have:=hr.units;lia
theorem hu0 {A:Around} {k:Nat} (hr:Room k A):A.units<cLine:=by
 have:=hr.units;lia
theorem zFf {K:PySem.W.Frag} {t:Value} (h:(t==t)=true:=by rfl):PySem.W.kitOne K t t=some true:=by
 unfold PySem.W.kitOne;rw [qAC h]
theorem if_mid {tb:TS} {D:Ends} {b:Bool} (Mid:St->Hp->Prop) (h1:∀N:St->Hp->Prop,(∀σ H,Mid σ H->N σ H)->if b=true then tb {D with nx:=N} σ H else N σ H) (h2:∀σ H,Mid σ H->D.nx σ H) :
  if b=true then tb D σ H else tNext D σ H:=h1 D.nx h2
theorem zBi {K:PySem.W.Frag} {ix:List (Option Nat)} {tt:TT} {QD:Hp->Prop} (xs:List V) (Pv:Nat->List V->St->Hp->Prop) (h0:Pv 0 [] (zDb σ ix) (upd H1 D (.lst [])))
  (hl:∀i ys τ H,Pv i ys τ H->SqL K H a xs)
  (hs:∀i x ys τ H,xs[i]?=some x->Pv i ys τ H->g x τ H fun τ' H4=>tt τ' H4 fun b H5=>if b=true then te τ' H5 fun v H6=>H6 D=some (.lst ys)/\ys.length<sizeLine/\Pv (i+1) (ys++[v]) τ' (upd H6 D (.lst (ys++[v]))) else Pv (i+1) ys τ' H5)
  (hd:∀ys τ H,Pv xs.length ys τ H->QD H) :
  ∃W:Nat->Nat->List V->St->Hp->Prop,(∃m,W 0 m [] (zDb σ ix) (upd H1 D (.lst [])))/\∀i m ys τ H2,W i m ys τ H2 ->
   ((Itl K a).stop i H2/\QD H2)\/((Itl K a).go i H2/\∃N:List V->St->Hp->Prop,(∀ys' τ' H',N ys' τ' H'->∃m',m'<m/\W (i+1) m' ys' τ' H')/\∀x H3,(Itl K a).yld i H2 x H3->g x τ H3 fun τ' H4=>tt τ' H4 fun b H5 =>
    if b=true then te τ' H5 fun v H6=>H6 D=some (.lst ys)/\ys.length<sizeLine/\N (ys++[v]) τ' (upd H6 D (.lst (ys++[v])))
    else N ys τ' H5):=by
 refine comp_by (Q:=fun _ H=>QD H) xs Pv h0 (fun i ys τ H p=>⟨fun x hx=>⟨⟨xs,x,hl i ys τ H p,hx⟩,fun y H' yl=>?_⟩,fun e=>⟨xs,hl i ys τ H p,by lia⟩⟩) hs hd;obtain ⟨e,z⟩:=yl;subst e;have:=z xs (hl i ys τ _ p);rw [hx] at this;exact ⟨rfl,(qAc this).symm⟩
theorem comp_str {z:Str} {ix:List (Option Nat)} {tt:TT} {QD:Hp->Prop} (Pv:Nat->List V->St->Hp->Prop) (h0:Pv 0 [] (zDb σ ix) (upd H1 D (.lst [])))
  (hs:∀i c ys τ H,z.cps.toList[i]?=some c->Pv i ys τ H->g (.str ⟨#[c]⟩) τ H fun τ' H4=>tt τ' H4 fun b H5=>if b=true then te τ' H5 fun v H6=>H6 D=some (.lst ys)/\ys.length<sizeLine/\Pv (i+1) (ys++[v]) τ' (upd H6 D (.lst (ys++[v]))) else Pv (i+1) ys τ' H5)
  (hd:∀ys τ H,Pv z.length ys τ H->QD H) :
  ∃W:Nat->Nat->List V->St->Hp->Prop,(∃m,W 0 m [] (zDb σ ix) (upd H1 D (.lst [])))/\∀i m ys τ H2,W i m ys τ H2 ->
   ((Its z).stop i H2/\QD H2)\/((Its z).go i H2/\∃N:List V->St->Hp->Prop,(∀ys' τ' H',N ys' τ' H'->∃m',m'<m/\W (i+1) m' ys' τ' H')/\∀x H3,(Its z).yld i H2 x H3->g x τ H3 fun τ' H4=>tt τ' H4 fun b H5 =>
    if b=true then te τ' H5 fun v H6=>H6 D=some (.lst ys)/\ys.length<sizeLine/\N (ys++[v]) τ' (upd H6 D (.lst (ys++[v])))
    else N ys τ' H5):=by
 refine ⟨fun i m ys τ H=>m=z.length - i/\i<=z.length/\Pv i ys τ H,⟨z.length,by simp,qAX _,h0⟩,?_⟩;rintro i m ys τ H ⟨rfl,hi,p⟩
 by_cases hlt:i<z.length
 ·refine .inr ⟨hlt,Pv (i+1),fun ys' τ' H' p'=>⟨z.length - (i+1),by lia,rfl,hlt,p'⟩,fun y H' yd=>?_⟩;obtain ⟨e1,c,e2,e3⟩:=yd;subst e1 e3;exact hs i c ys τ _ (by simpa using e2) p
 ·have e:i=z.length:=by lia
  subst e;exact .inl ⟨qAG _,hd ys τ H p⟩
theorem zBd {K:PySem.W.Frag} {ix:List (Option Nat)} {QD:Hp->Prop} (xs:List V) (Pv:Nat->List V->St->Hp->Prop) (h0:Pv 0 [] (zDb σ ix) (upd H1 D (.lst [])))
  (hl:∀i ys τ H,Pv i ys τ H->SqL K H a xs)
  (hs:∀i x ys τ H,xs[i]?=some x->Pv i ys τ H->g x τ H fun τ' H4=>te τ' H4 fun v H6=>H6 D=some (.lst ys)/\ys.length<sizeLine/\Pv (i+1) (ys++[v]) τ' (upd H6 D (.lst (ys++[v]))))
  (hd:∀ys τ H,Pv xs.length ys τ H->QD H) :
  ∃W:Nat->Nat->List V->St->Hp->Prop,(∃m,W 0 m [] (zDb σ ix) (upd H1 D (.lst [])))/\∀i m ys τ H2,W i m ys τ H2 ->
   ((Itl K a).stop i H2/\QD H2)\/((Itl K a).go i H2/\∃N:List V->St->Hp->Prop,(∀ys' τ' H',N ys' τ' H'->∃m',m'<m/\W (i+1) m' ys' τ' H')/\∀x H3,(Itl K a).yld i H2 x H3->g x τ H3 fun τ' H4=>tTrue τ' H4 fun b H5 =>
    if b=true then te τ' H5 fun v H6=>H6 D=some (.lst ys)/\ys.length<sizeLine/\N (ys++[v]) τ' (upd H6 D (.lst (ys++[v])))
    else N ys τ' H5):=zBi (tt:=tTrue) xs Pv h0 hl hs hd
theorem comp_str0 {z:Str} {ix:List (Option Nat)} {QD:Hp->Prop} (Pv:Nat->List V->St->Hp->Prop) (h0:Pv 0 [] (zDb σ ix) (upd H1 D (.lst [])))
  (hs:∀i c ys τ H,z.cps.toList[i]?=some c->Pv i ys τ H->g (.str ⟨#[c]⟩) τ H fun τ' H4=>te τ' H4 fun v H6=>H6 D=some (.lst ys)/\ys.length<sizeLine/\Pv (i+1) (ys++[v]) τ' (upd H6 D (.lst (ys++[v]))))
  (hd:∀ys τ H,Pv z.length ys τ H->QD H) :
  ∃W:Nat->Nat->List V->St->Hp->Prop,(∃m,W 0 m [] (zDb σ ix) (upd H1 D (.lst [])))/\∀i m ys τ H2,W i m ys τ H2 ->
   ((Its z).stop i H2/\QD H2)\/((Its z).go i H2/\∃N:List V->St->Hp->Prop,(∀ys' τ' H',N ys' τ' H'->∃m',m'<m/\W (i+1) m' ys' τ' H')/\∀x H3,(Its z).yld i H2 x H3->g x τ H3 fun τ' H4=>tTrue τ' H4 fun b H5 =>
    if b=true then te τ' H5 fun v H6=>H6 D=some (.lst ys)/\ys.length<sizeLine/\N (ys++[v]) τ' (upd H6 D (.lst (ys++[v])))
    else N ys τ' H5):=comp_str (tt:=tTrue) Pv h0 hs hd
section
variable {X:Cx} {K:PySem.W.Frag}
theorem zGs (hK:X.K=K:=by rfl):IxR X (rIxL K):=by subst hK;exact zCs
theorem ix_tupK (hK:X.K=K:=by rfl):IxR X (rIxT K):=by subst hK;exact zF7
theorem zFk (hK:X.K=K:=by rfl):zCu X (.builtin "len") (fun xs H Q=>∃p ys,xs=[.ref p]/\(SqL K H p ys\/SqT K H p ys)/\Q (.int ys.length) H):=by subst hK;exact zAi
theorem zI6 (hK:X.K=K:=by rfl):OpR X (compareOp .NotIn) (rIn K true):=by subst hK;exact zDz
end
theorem Kp.drop {H2:Hp} {p:Addr} (k1:Kp [] H H1) (f:Fre H p) (k2:Kp [p] H1 H2):Kp [] H H2:=fun b o h _=>k2 b o (k1 b o h (by simp)) (nm1 (ne_fre f h))
end L2
namespace Tim
open PySem PyProof.Rows
variable {i:Nat}{st:SortSt}
def gal:Bool->Keyed->Array Keyed->Nat->Nat->Nat->StateT SortSt Sem (Option Nat):=sortPriv% PySem.Builtin.gallop
def mLo:Array Keyed->Array Keyed->StateT SortSt Sem (Array Keyed):=sortPriv% PySem.Builtin.mergeLo
def mHi:Array Keyed->Array Keyed->StateT SortSt Sem (Array Keyed):=sortPriv% PySem.Builtin.mergeHi
def kk (κ:KeyKind) (p:Keyed):κ.α:=(κ.keyOf p.1).getD κ.dflt
def Has (κ:KeyKind) (p:Keyed):Prop:=∃a,κ.keyOf p.1=some a
theorem Has.key {κ:KeyKind} {p:Keyed} (h:Has κ p):κ.keyOf p.1=some (kk κ p):=by
 obtain ⟨a,e⟩:=h;unfold kk;rw [e];rfl
theorem KK_at {κ:KeyKind} {xs:Array Keyed} {p:Keyed} (h:xs[i]?=some p):KK κ xs i=kk κ p:=by
 unfold KK kk;rw [h]
def CmpOk (prog:Program) (w:World) (A:Around) (s:Shared) (kd:SortKind) (κ:KeyKind):Prop :=
 ∀(E:Value->Shared->Prop) (x y:Value) (a b:κ.α) (Q:Bool->Shared->Prop),κ.keyOf x=some a->κ.keyOf y=some b->Q (κ.blt a b) s->wpAny (model prog w) A (keyLt' kd x y) Q E s
section
variable {prog:Program} {w:World} {A:Around} {E:Value->Shared->Prop} {s:Shared} {kd:SortKind} {κ:KeyKind}
theorem w_lt {x y:Keyed} {Q:Option Bool->SortSt->Prop} (C:CmpOk prog w A s kd κ) (hk:kindOf st=kd) (hx:Has κ x) (hy:Has κ y) (h:Q (some (κ.blt (kk κ x) (kk κ y))) st):wpS (model prog w) A E s (lt' x y) Q st:=by
 rw [lt'_eq];refine qAF (qBL ?_);rw [hk];exact qAF (qBo (qB2 (C _ x.1 y.1 _ _ _ hx.key hy.key ⟨rfl,qAH h⟩)))
theorem zBh {arr:Array Keyed} {p:Keyed} {Q:Keyed->SortSt->Prop} (e:arr[i]?=some p) (h:Q p st):wpS (model prog w) A E s (elem' arr i) Q st:=by
 rw [elem'_eq,e];exact qAH h
theorem w_ltAt {j:Nat} {Q:Option Bool->SortSt->Prop} (C:CmpOk prog w A s kd κ) (hk:kindOf st=kd) (hi:∃p,(arrOf st)[i]?=some p/\Has κ p) (hj:∃p,(arrOf st)[j]?=some p/\Has κ p)
  (h:Q (some (κ.blt (KK κ (arrOf st) i) (KK κ (arrOf st) j))) st):wpS (model prog w) A E s (ltAt' i j) Q st:=by
 obtain ⟨p,e1,h1⟩:=hi;obtain ⟨q,e2,h2⟩:=hj;rw [KK_at e1,KK_at e2] at h;rw [ltAt'_eq];exact qAF (qBL (qAF (zBh e1 (qAF (zBh e2 (w_lt C hk h1 h2 h))))))
def byd (left:Bool) (key:Keyed) (arr:Array Keyed) (base i:Nat):StateT SortSt Sem (Option Bool):=do
 let x<-elem' arr (base+i)
 if left=true then lt' x key else (do let r<-lt' key x;pure (r.map fun b=>!b))
theorem w_byd {left:Bool} {key:Keyed} {arr:Array Keyed} {base:Nat} {Q:Option Bool->SortSt->Prop} (C:CmpOk prog w A s kd κ) (hk:kindOf st=kd) (hkey:Has κ key) (hi:∃p,arr[base+i]?=some p/\Has κ p)
  (h:Q (some (if left=true then κ.blt (KK κ arr (base+i)) (kk κ key) else !κ.blt (kk κ key) (KK κ arr (base+i)))) st):wpS (model prog w) A E s (byd left key arr base i) Q st:=by
 obtain ⟨p,e,hp⟩:=hi;rw [KK_at e] at h;refine qAF (zBh e ?_)
 cases left with
 | true=>exact w_lt C hk hp hkey h
 | false=>exact qAF (w_lt C hk hkey hp (qAH h))
end
end Tim
namespace ST
open PySem PySem.SetTable
variable {xs:Array Nat}{i j mask N:Nat}{α:Type}{hs:List Int}{b:Addr}
abbrev Rise (l:List Nat):Prop:=l.Pairwise (·<·)
theorem zEc (hr:Rise xs.toList) {k:Nat} {x y:Nat} (hik:i<k) (ex:xs[i]?=some x) (ey:xs[k]?=some y):x<y:=by
 rw [<-qAq] at ex ey;obtain ⟨hi,rfl⟩:=qAf.mp ex;obtain ⟨hk,rfl⟩:=qAf.mp ey;exact List.pairwise_iff_getElem.mp hr i k hi hk hik
structure Bel (xs:Array Nat) (j r:Nat):Prop where
 le:r<=xs.size
 lo:∀i x,i<r->xs[i]?=some x->x<j
 hi:∀i x,r<=i->xs[i]?=some x->j<=x
theorem zJr (hr:Rise xs.toList) :∀(fuel lo hi:Nat),hi - lo<=fuel->lo<=hi->hi<=xs.size->(∀i x,i<lo->xs[i]?=some x->x<j)->(∀i x,hi<=i->xs[i]?=some x->j<=x)->Bel xs j (below.go xs j fuel lo hi)
 | 0,lo,hi,h1,h2,h3,h4,h5=>by
  have e:lo=hi:=by lia
  subst e;exact ⟨h3,h4,h5⟩
 | fuel+1,lo,hi,h1,h2,h3,h4,h5=>by
  unfold below.go
  by_cases c:lo<hi
  ·rw [qAC c];have hm:(lo+hi) / 2<xs.size:=by lia
   have em:xs[(lo+hi) / 2]?=some xs[(lo+hi) / 2]:=by simp
   have eD:xs.getD ((lo+hi) / 2) j=xs[(lo+hi) / 2]:=by simp [Array.getD,hm]
   show Bel xs j (if xs.getD ((lo+hi) / 2) j<j then _ else _);rw [eD]
   by_cases d:xs[(lo+hi) / 2]<j
   ·rw [qAC d];refine zJr hr fuel _ hi (by lia) (by lia) h3 (fun i x hi' ex=>?_) h5
    by_cases q:i=(lo+hi) / 2
    ·subst q;rw [em] at ex;cases ex;exact d
    ·have:=zEc hr (show i<(lo+hi) / 2 by lia) ex em;lia
   ·rw [qAB d];refine zJr hr fuel lo _ (by lia) (by lia) (by lia) h4 (fun i x hi' ex=>?_)
    by_cases q:i=(lo+hi) / 2
    ·subst q;rw [em] at ex;cases ex;lia
    ·have:=zEc hr (show (lo+hi) / 2<i by lia) em ex;lia
  ·rw [qAB c];have e:lo=hi:=by lia
   subst e;exact ⟨h3,h4,h5⟩
theorem zEi (hr:Rise xs.toList) (j:Nat):Bel xs j (below xs j) :=
 zJr hr xs.size 0 xs.size (by lia) (by lia) (qAG _) (fun i x h=>by lia) (fun i x h e=>by
  have:=(qBp.mp e).1;lia)
theorem Bel.at (hr:Rise xs.toList) {r:Nat} (B:Bel xs j r) (e:xs[i]?=some j):r=i:=by
 rcases Nat.lt_trichotomy r i with z| z| z
 ·have hi:i<xs.size:=(qBp.mp e).1;have er:xs[r]?=some (xs[r]'(by lia)):=by simp
  have h1:=B.hi r _ (qAG _) er;have h2:=zEc hr z er e;lia
 ·exact z
 ·have:=B.lo i j z e;lia
def Tb (mask:Nat):SetTable:={mask:=mask,place:=#[],dummies:=#[],finger:=0,led:=false,moves:=0,plain:=false}
def pr (mask:Nat) (h:Int):Nat->Probe
 | 0=>(Tb mask).probeStart h
 | n+1=>(Tb mask).advance (pr mask h n)
def rs (mask:Nat) (h:Int):Nat->Nat×Nat
 | 0=>(bits h % (mask+1),bits h)
 | r+1=>leap mask (rs mask h r).1 (rs mask h r).2
def stt (mask:Nat) (h:Int):Nat->Nat
 | 0=>0
 | r+1=>stt mask h r+(runEnd mask (rs mask h r).1 - (rs mask h r).1+1)
theorem rs_le (mask:Nat) (h:Int):∀r,(rs mask h r).1<=mask
 | 0=>Nat.le_of_lt_succ (Nat.mod_lt _ (Nat.succ_pos _))
 | r+1=>Nat.le_of_lt_succ (Nat.mod_lt _ (Nat.succ_pos _))
theorem run_le (mask i:Nat) (hi:i<=mask):i<=runEnd mask i/\runEnd mask i<=mask/\runEnd mask i - i<=9:=by
 unfold runEnd;split<;>lia
theorem stt_le (mask:Nat) (h:Int):∀r,stt mask h r<=10*r
 | 0=>qAG _
 | r+1=>by
  have h1:=stt_le mask h r;have h2:=(run_le mask _ (rs_le mask h r)).2.2;show stt mask h r+(runEnd mask (rs mask h r).1 - (rs mask h r).1+1)<=_;lia
theorem adv_more (mask:Nat) (p:Probe) (h:p.more>0):(Tb mask).advance p={p with j:=p.j+1,more:=p.more - 1}:=by
 unfold advance;rw [qAC h]
theorem adv_leap (mask:Nat) (p:Probe) (h:p.more=0):(Tb mask).advance p={p with j:=(leap mask p.i p.perturb).1,more:=runEnd mask (leap mask p.i p.perturb).1 - (leap mask p.i p.perturb).1,i:=(leap mask p.i p.perturb).1,perturb:=(leap mask p.i p.perturb).2}:=by
 unfold advance;rw [qAB (by lia)];rfl
theorem zE8 (mask:Nat) (h:Int):∀(r k:Nat),k<=runEnd mask (rs mask h r).1 - (rs mask h r).1 ->
  pr mask h (stt mask h r+k)={j:=(rs mask h r).1+k,more:=runEnd mask (rs mask h r).1 - (rs mask h r).1 - k,i:=(rs mask h r).1,perturb:=(rs mask h r).2,dummy:=none}
 | 0,0,_=>rfl
 | r+1,0,_=>by
  have ih:=zE8 mask h r (runEnd mask (rs mask h r).1 - (rs mask h r).1) (qAG _);show pr mask h (stt mask h r+(runEnd mask (rs mask h r).1 - (rs mask h r).1)+1)=_;show (Tb mask).advance (pr mask h (stt mask h r+(runEnd mask (rs mask h r).1 - (rs mask h r).1)))=_;rw [ih,adv_leap _ _ (by simp)];rfl
 | r,k+1,hk=>by
  have ih:=zE8 mask h r k (by lia);show (Tb mask).advance (pr mask h (stt mask h r+k))=_;rw [ih,adv_more _ _ (by show _ - k>0;lia)];simp only [Probe.mk.injEq];exact ⟨by lia,by lia,trivial,trivial,trivial⟩
theorem pr_at (mask:Nat) (h:Int) (n:Nat):∃r k,n=stt mask h r+k/\k<=runEnd mask (rs mask h r).1 - (rs mask h r).1:=by
 induction n with
 | zero=>exact ⟨0,0,rfl,qAX _⟩
 | succ n ih =>
  obtain ⟨r,k,e,hk⟩:=ih
  by_cases c:k<runEnd mask (rs mask h r).1 - (rs mask h r).1
  ·exact ⟨r,k+1,by lia,c⟩
  ·refine ⟨r+1,0,?_,qAX _⟩;show n+1=stt mask h r+(runEnd mask (rs mask h r).1 - (rs mask h r).1+1)+0;lia
theorem pr_le (mask:Nat) (h:Int) (n:Nat):(pr mask h n).j<=mask:=by
 obtain ⟨r,k,e,hk⟩:=pr_at mask h n;rw [e,zE8 mask h r k hk];have:=run_le mask _ (rs_le mask h r);show (rs mask h r).1+k<=mask;lia
theorem pr_dummy (mask:Nat) (h:Int) (n:Nat):(pr mask h n).dummy=none:=by
 obtain ⟨r,k,e,hk⟩:=pr_at mask h n;rw [e,zE8 mask h r k hk]
theorem bits_lt (h:Int):bits h<2^64:=by
 unfold bits;have h1:=qCN h (show (2^64:Int)≠0 by decide);have h2:=qCO h (show (0:Int)<2^64 by decide);lia
theorem rs_pert (mask:Nat) (h:Int):∀r,(rs mask h r).2=bits h / 32^r
 | 0=>by simp [rs]
 | r+1=>by
  show (rs mask h r).2 / 32=_;rw [rs_pert mask h r,Nat.div_div_eq_div_mul,Nat.pow_succ]
theorem rs_pert0 (mask:Nat) (h:Int) (r:Nat) (hr:13<=r):(rs mask h r).2=0:=by
 rw [rs_pert];have h1:=bits_lt h;have h2:32^13<=32^r:=Nat.pow_le_pow_right (by decide) hr;have h3:(2:Nat)^64<32^13:=by decide
 exact Nat.div_eq_of_lt (by lia)
def f5 (mask i:Nat):Nat:=(i*5+1) % (mask+1)
def it5 (mask:Nat):Nat->Nat->Nat
 | 0,i=>i
 | n+1,i=>it5 mask n (f5 mask i)
theorem zHm (mask:Nat):∀(a b i:Nat),it5 mask (a+b) i=it5 mask b (it5 mask a i)
 | 0,b,i=>by rw [Nat.zero_add];rfl
 | a+1,b,i=>by
  rw [show a+1+b=(a+b)+1 by lia];show it5 mask (a+b) (f5 mask i)=it5 mask b (it5 mask a (f5 mask i));exact zHm mask a b _
theorem rs_it5 (mask:Nat) (h:Int) (n:Nat):(rs mask h (13+n)).1=it5 mask n (rs mask h 13).1:=by
 induction n with
 | zero=>rfl
 | succ n ih =>
  show (leap mask (rs mask h (13+n)).1 (rs mask h (13+n)).2).1=_;rw [rs_pert0 mask h (13+n) (by lia),ih,show n+1=n+1 from rfl,zHm mask n 1];show ((it5 mask n _)*5+1+0 / 32) % (mask+1)=f5 mask (it5 mask n _);unfold f5;simp
def Msk (mask:Nat):Prop:=mask=7\/mask=31\/mask=127\/mask=511
def orb (mask:Nat):Nat->Nat->List Nat
 | 0,_=>[]
 | n+1,i=>i::orb mask n (f5 mask i)
theorem orb_mem (mask:Nat):∀(n i s:Nat),s∈orb mask n i->∃a,a<n/\it5 mask a i=s
 | 0,i,s,h=>by simp [orb] at h
 | n+1,i,s,h=>by
  rcases qAO.mp h with z| z
  ·exact ⟨0,by lia,z.symm⟩
  ·obtain ⟨a,ha,e⟩:=orb_mem mask n (f5 mask i) s z;exact ⟨a+1,by lia,e⟩
theorem orb_all (hm:Msk mask):(List.range (mask+1)).all (fun s=>(orb mask (mask+1) 0).contains s)=true/\it5 mask (mask+1) 0=0:=by
 rcases hm with rfl| rfl| rfl| rfl
 ·exact ⟨by decide +kernel,by decide +kernel⟩
 ·exact ⟨by decide +kernel,by decide +kernel⟩
 ·exact ⟨by decide +kernel,by decide +kernel⟩
 ·exact ⟨by decide +kernel,by decide +kernel⟩
theorem cyc (hm:Msk mask) (i s:Nat) (hi:i<=mask) (hs:s<=mask):∃r,r<=mask/\it5 mask r i=s:=by
 obtain ⟨h1,h2⟩:=orb_all hm
 have get:∀x,x<=mask->∃a,a<mask+1/\it5 mask a 0=x:=fun x hx=>by
  have:=qA5.mp h1 x (qA3.mpr (by lia));exact orb_mem mask (mask+1) 0 x (by simpa using this)
 obtain ⟨a,ha,ea⟩:=get i hi;obtain ⟨b,hb,eb⟩:=get s hs
 by_cases c:a<=b
 ·refine ⟨b - a,by lia,?_⟩;rw [<-ea,<-zHm,show a+(b - a)=b by lia,eb]
 ·refine ⟨mask+1 - a+b,by lia,?_⟩;rw [<-ea,<-zHm,show a+(mask+1 - a+b)=mask+1+b by lia,zHm,h2,eb]
theorem pr_all (hm:Msk mask) (h:Int) (s:Nat) (hs:s<=mask):∃r,r<=13+mask/\(rs mask h r).1=s:=by
 obtain ⟨r,hr,e⟩:=cyc hm (rs mask h 13).1 s (rs_le mask h 13) hs;exact ⟨13+r,by lia,by rw [rs_it5,e]⟩
theorem free_slot {L:List Nat} (hL:L.length<=mask):∃s,s<=mask/\s∉L:=by
 apply qBe;intro h
 have sub:∀s,s∈List.range (mask+1)->s∈L:=fun s hs=>by
  apply qBe;intro q;exact h ⟨s,by have:=qA3.mp hs;lia,q⟩
 have:=(List.nodup_range (n:=mask+1)).length_le_of_subset sub;rw [List.length_range] at this;lia
theorem pr_free (hm:Msk mask) (h:Int) {L:List Nat} (hL:L.length<=mask):∃n,n<10*turns mask/\(pr mask h n).j∉L:=by
 obtain ⟨s,hs,q⟩:=free_slot hL;obtain ⟨r,hr,e⟩:=pr_all hm h s hs;refine ⟨stt mask h r,?_,?_⟩
 ·have:=stt_le mask h r;unfold turns;lia
 ·have:=zE8 mask h r 0 (qAX _);rw [qC4] at this;rw [this];show (rs mask h r).1+0∉L;rw [qC4,e];exact q
theorem zIm (hm:Msk mask) (h:Int) {L:List Nat} (hL:L.length<=mask):∃n,n<10*turns mask/\(pr mask h n).j∉L/\∀m,m<n->(pr mask h m).j∈L:=by
 obtain ⟨n,hn,q⟩:=pr_free hm h hL
 induction n using Nat.strongRecOn with
 | _ n ih =>
  by_cases c:∃m,m<n/\(pr mask h m).j∉L
  ·obtain ⟨m,hm',qm⟩:=c;exact ih m hm' (by lia) qm
  ·refine ⟨n,hn,q,fun m hmn=>?_⟩;apply qBe;intro z;exact c ⟨m,hmn,z⟩
structure TOk (t:SetTable) (hs:List Int):Prop where
 m:Msk t.mask
 d:t.dummies=#[]
 r:Rise t.place.toList
 l:∀j∈t.place.toList,j<=t.mask
 n:t.place.size=hs.length
 f:t.place.size<=t.mask
 reach:∀(i j:Nat) (h:Int),t.place[i]?=some j->hs[i]?=some h->∃n,(pr t.mask h n).j=j/\∀m,m<n->(pr t.mask h m).j∈t.place.toList
theorem fresh_ok (fi mo:Nat) (led:Bool):TOk (SetTable.fresh fi mo led) [] :=
 ⟨.inl rfl,rfl,List.Pairwise.nil,(fun j h=>absurd (show j∈([]:List Nat) from h) (by simp)),rfl,qAX _,(fun i j h _ e=>by simp at e)⟩
theorem has_nil (j:Nat):has #[] j=false:=by
 unfold SetTable.has;simp
section
variable {t:SetTable} {hs:List Int}
theorem slot_live (T:TOk t hs) (e:t.place[i]?=some j):t.slot j= .live i:=by
 have b:=(zEi T.r j).at T.r e;unfold slot;rw [b];show (if (t.place[i]?==some j)=true then _ else _)=_;rw [e];simp
theorem slot_empty (T:TOk t hs) (h:j∉t.place.toList):t.slot j= .empty:=by
 unfold slot
 have e:(t.place[below t.place j]?==some j)=false:=by
  rw [qBD];intro z;exact h (qAN (i:=below t.place j) (by rw [qAq];exact z))
 simp only [e,T.d,has_nil];simp
theorem mem_at (h:j∈xs.toList):∃i:Nat,xs[i]?=some j:=by
 obtain ⟨i,hi,e⟩:=qA0.mp h;exact ⟨i,by rw [<-qAq];exact qAf.mpr ⟨hi,e⟩⟩
def Oth (t:SetTable) (hashAt:Nat->Int) (h:Int) (m:Nat):Prop:=∃i:Nat,t.place[i]?=some (pr t.mask h m).j/\hashAt i≠h
theorem adv_pr (t:SetTable) (h:Int) (n:Nat):t.advance (pr t.mask h n)=pr t.mask h (n+1):=rfl
theorem go_ok (T:TOk t hs) (hashAt:Nat->Int) (h:Int) (hN:(pr t.mask h N).j∉t.place.toList) (hb:∀m,m<N->(pr t.mask h m).j∈t.place.toList):∀(d n fuel:Nat),N=n+d->d<fuel ->
  (probe.go t hashAt h fuel (pr t.mask h n)=some (.empty (pr t.mask h N).j none)/\∀m,n<=m->m<N->Oth t hashAt h m) \/
  ∃m i,n<=m/\m<N/\t.place[i]?=some (pr t.mask h m).j/\hashAt i=h/\probe.go t hashAt h fuel (pr t.mask h n)=some (.candidate (pr t.mask h m).j i (pr t.mask h (m+1)))/\∀m',n<=m'->m'<m->Oth t hashAt h m'
 | 0,n,fuel+1,e,_=>by
  have e:N=n:=by lia
  subst e;left;refine ⟨?_,fun m h1 h2=>by lia⟩;unfold probe.go;rw [slot_empty T hN];show some (Met.empty _ (pr t.mask h N).dummy)=_;rw [pr_dummy]
 | d+1,n,fuel+1,e,hf=>by
  obtain ⟨i,ei⟩:=mem_at (hb n (by lia));unfold probe.go;rw [slot_live T ei]
  by_cases c:hashAt i=h
  ·right;refine ⟨n,i,qAG _,by lia,ei,c,?_,fun m' h1 h2=>by lia⟩;show (if (hashAt i==h)=true then _ else _)=_;rw [qAC (by simpa using c),adv_pr]
  ·have q:(if (hashAt i==h)=true then some (Met.candidate (pr t.mask h n).j i (t.advance (pr t.mask h n))) else probe.go t hashAt h fuel (t.advance (pr t.mask h n)))=probe.go t hashAt h fuel (pr t.mask h (n+1)):=by
    rw [qAB (by simpa using c),adv_pr]
   rcases go_ok T hashAt h hN hb d (n+1) fuel (by lia) (by lia) with ⟨z1,z2⟩| ⟨m,i',z1,z2,z3,z4,z5,z6⟩
   ·left;refine ⟨q.trans z1,fun m h1 h2=>?_⟩
    by_cases cm:m=n
    ·subst cm;exact ⟨i,ei,c⟩
    ·exact z2 m (by lia) h2
   ·right;refine ⟨m,i',by lia,z2,z3,z4,q.trans z5,fun m' h1 h2=>?_⟩
    by_cases cm:m'=n
    ·subst cm;exact ⟨i,ei,c⟩
    ·exact z6 m' (by lia) h2
 | _,_,0,_,h=>by lia
theorem zJj (xs:Array α) (p:Nat) (x:α) (hp:p<=xs.size):(insertAt xs p x).toList=xs.toList.take p++x::xs.toList.drop p:=by
 unfold insertAt;rw [qC5,qCb,qB3,qB3,List.extract_eq_drop_take,List.extract_eq_drop_take];rw [qBq (l:=xs.toList.drop p) (by simp)];simp
theorem ins_rise (hr:Rise xs.toList) (hj:j∉xs.toList):Rise (insertAt xs (below xs j) j).toList:=by
 have B:=zEi hr j;rw [zJj _ _ _ B.le];refine List.pairwise_append.mpr ⟨hr.sublist (qCy _ _),qCc.mpr ⟨fun y hy=>?_,hr.sublist (List.drop_sublist _ _)⟩,fun x hx y hy=>?_⟩
 ·obtain ⟨i,hi,rfl⟩:=qA0.mp hy;rw [qB1] at hi
  have e:xs[below xs j+i]?=some (xs.toList.drop (below xs j))[i]:=by
   rw [<-qAq,<-List.getElem?_drop];simp
  have h1:=B.hi _ _ (qBT _ i) e;have h2:(xs.toList.drop (below xs j))[i]≠j:=fun z=>hj (z▸qDW hy);lia
 ·have hxj:x<j:=by
   obtain ⟨i,hi,rfl⟩:=qA0.mp hx;rw [qAY] at hi
   have e:xs[i]?=some (xs.toList.take (below xs j))[i]:=by
    rw [<-qAq,<-qB0 (show i<below xs j by lia)];exact qAr _
   exact B.lo i _ (by lia) e
  rcases qAO.mp hy with z| z
  ·rw [z];exact hxj
  ·obtain ⟨i,hi,rfl⟩:=qA0.mp z;rw [qB1] at hi
   have e:xs[below xs j+i]?=some (xs.toList.drop (below xs j))[i]:=by
    rw [<-qAq,<-List.getElem?_drop];simp
   have h1:=B.hi _ _ (qBT _ i) e;lia
theorem zFw {β:Type} {L:List α} {M:List β} (hl:L.length=M.length) {p:Nat} (hp:p<=L.length) {x:α} {y:β} {u:α} {v:β} (h1:(L.take p++x::L.drop p)[i]?=some u) (h2:(M.take p++y::M.drop p)[i]?=some v) :
  (u=x/\v=y)\/∃i':Nat,L[i']?=some u/\M[i']?=some v:=by
 have l1:(L.take p).length=p:=by rw [qAY];lia
 have l2:(M.take p).length=p:=by rw [qAY];lia
 by_cases c:i<p
 ·rw [qBj (by lia),qB0 c] at h1 h2;exact .inr ⟨i,h1,h2⟩
 ·rw [qBi (by lia)] at h1 h2;rw [l1] at h1;rw [l2] at h2
  cases e:i - p with
  | zero =>
   rw [e] at h1 h2;exact .inl ⟨(by simpa using h1.symm),(by simpa using h2.symm)⟩
  | succ k =>
   rw [e] at h1 h2;rw [qCd,List.getElem?_drop] at h1 h2;exact .inr ⟨p+k,h1,h2⟩
theorem put_ok (T:TOk t hs) (h:Int) (hN:(pr t.mask h N).j∉t.place.toList) (hb:∀m,m<N->(pr t.mask h m).j∈t.place.toList) (hf:t.place.size+1<=t.mask) :
  TOk (t.put (pr t.mask h N).j).1 (hs.take (t.put (pr t.mask h N).j).2++h::hs.drop (t.put (pr t.mask h N).j).2):=by
 have B:=zEi T.r (pr t.mask h N).j;have ep:(t.put (pr t.mask h N).j).2=below t.place (pr t.mask h N).j:=rfl;have el:(t.put (pr t.mask h N).j).1.place=insertAt t.place (below t.place (pr t.mask h N).j) (pr t.mask h N).j:=rfl;have em:(t.put (pr t.mask h N).j).1.mask=t.mask:=rfl;have tl:=zJj t.place (below t.place (pr t.mask h N).j) (pr t.mask h N).j B.le
 have mem:∀j,j∈t.place.toList->j∈(insertAt t.place (below t.place (pr t.mask h N).j) (pr t.mask h N).j).toList:=fun j hj=>by
  rw [tl];have:j∈t.place.toList.take (below t.place (pr t.mask h N).j)++t.place.toList.drop (below t.place (pr t.mask h N).j):=by rw [qBU];exact hj
  rcases qAW.mp this with z| z
  ·exact qAv _ z
  ·exact qAz _ (qAP _ z)
 have sz:(insertAt t.place (below t.place (pr t.mask h N).j) (pr t.mask h N).j).size=t.place.size+1:=by
  have:=qAg List.length tl;simp only [qBA,qAo,qAa,qAY,qB1] at this;have:=B.le;lia
 refine ⟨T.m,?_,ins_rise T.r hN,fun j hj=>?_,?_,?_,fun i j h' e1 e2=>?_⟩
 ·show (if has t.dummies (pr t.mask h N).j then _ else t.dummies)=#[];rw [T.d,has_nil];rfl
 ·rw [em];rw [el,tl] at hj;rcases qAW.mp hj with z| z
  ·exact T.l j (qBr z)
  ·rcases qAO.mp z with z| z
   ·rw [z];exact pr_le _ _ _
   ·exact T.l j (qDW z)
 ·rw [el,sz,ep,qAo,qAa,qAY,qB1];have:=B.le;have:=T.n;lia
 ·rw [el,sz];exact hf
 ·rw [em];rw [el,<-qAq,tl] at e1;rw [ep] at e2;rw [el];rcases zFw (L:=t.place.toList) (M:=hs) (by simpa using T.n) (by simpa using B.le) e1 e2 with ⟨z1,z2⟩| ⟨i',z1,z2⟩
  ·subst z1 z2;exact ⟨N,rfl,fun m hm=>mem _ (hb m hm)⟩
  ·obtain ⟨n,q1,q2⟩:=T.reach i' j h' (by rw [<-qAq];exact z1) z2;exact ⟨n,q1,fun m hm=>mem _ (q2 m hm)⟩
end
structure Ow (mask:Nat) (hs:List Int) (owner:Array (Option Nat)) (sl:List Nat):Prop where
 z:owner.size=mask+1
 n:sl.length=hs.length
 nd:sl.Nodup
 l:∀j∈sl,j<=mask
 a:∀(k j:Nat),sl[k]?=some j->owner[j]?=some (some k)
 e:∀j,j<=mask->j∉sl->owner[j]?=some none
 reach:∀(k j:Nat) (h:Int),sl[k]?=some j->hs[k]?=some h->∃n,(pr mask h n).j=j/\∀m,m<n->(pr mask h m).j∈sl
theorem zJe {owner:Array (Option Nat)} {sl:List Nat} (O:Ow mask hs owner sl) (hj:j<=mask):((owner.getD j (some 0)).isNone=true)↔j∉sl:=by
 have hz:j<owner.size:=by rw [O.z];lia
 have eD:owner.getD j (some 0)=owner[j]:=by simp [Array.getD,hz]
 rw [eD];constructor
 ·intro h q;obtain ⟨k,hk,e⟩:=qA0.mp q;have:=O.a k j (qAf.mpr ⟨hk,e⟩);rw [qDX hz] at this;rw [qAc this] at h;simp at h
 ·intro q;have:=O.e j hj q;rw [qDX hz] at this;rw [qAc this];rfl
theorem free_go {owner:Array (Option Nat)} {sl:List Nat} (hm:Msk mask) (O:Ow mask hs owner sl) (hl:sl.length<=mask) (h:Int) (hN:(pr mask h N).j∉sl) (hb:∀m,m<N->(pr mask h m).j∈sl) {R:Nat} (hR:(rs mask h R).1∉sl) :
  ∀(fuel r:Nat),stt mask h r<=N->R<r+fuel->layClean.free mask owner fuel (rs mask h r).1 (rs mask h r).2=some (pr mask h N).j
 | 0,r,h1,h2=>by
  exfalso
  have key:∀d,stt mask h R<=stt mask h (R+d)/\(0<d->stt mask h R<stt mask h (R+d)):=by
   intro d
   induction d with
   | zero=>exact ⟨qAG _,fun z=>by lia⟩
   | succ d ih =>
    have e:stt mask h (R+(d+1))=stt mask h (R+d)+(runEnd mask (rs mask h (R+d)).1 - (rs mask h (R+d)).1+1):=rfl;exact ⟨by lia,fun _=>by lia⟩
  obtain ⟨d,rfl⟩:∃d,r=R+d:=⟨r - R,by lia⟩;have hd:0<d:=by lia
  have:=(key d).2 hd;have q:=hb (stt mask h R) (by lia);have e:=zE8 mask h R 0 (qAX _);rw [qC4] at e;rw [e] at q;exact hR (by simpa using q)
 | fuel+1,r,h1,h2=>by
  have rl:=run_le mask _ (rs_le mask h r);unfold layClean.free
  cases q:(List.range (runEnd mask (rs mask h r).1+1 - (rs mask h r).1)).find? fun k=>(owner.getD ((rs mask h r).1+k) (some 0)).isNone with
  | some k =>
   have q1:=List.find?_some q;have q2:=qDY q;rw [qA3] at q2;have q1:((owner.getD ((rs mask h r).1+k) (some 0)).isNone)=true:=q1;rw [zJe O (by lia)] at q1;have e:=zE8 mask h r k (by lia);have hk:(pr mask h (stt mask h r+k)).j=(rs mask h r).1+k:=by rw [e]
   have c1:¬stt mask h r+k<N:=fun z=>q1 (hk▸hb _ z)
   have c2:¬N<stt mask h r+k:=fun z=>by
    obtain ⟨d,hd⟩:∃d,N=stt mask h r+d:=⟨N - stt mask h r,by lia⟩;have hdk:d<k:=by lia
    rw [List.find?_eq_some_iff_append] at q;obtain ⟨_,as,bs,e1,e2⟩:=q
    have la:as.length=k:=by
     have:=qAg (fun l=>l[as.length]?) e1;simp at this
     by_cases cc:as.length<runEnd mask (rs mask h r).1+1 - (rs mask h r).1
     ·rw [List.getElem?_range cc] at this;exact qAc this
     ·rw [qDZ (by simp;lia)] at this
      cases this
    have mem:d∈as:=by
     have hd':(List.range (runEnd mask (rs mask h r).1+1 - (rs mask h r).1))[d]?=some d:=List.getElem?_range (by lia);rw [e1,qBj (by lia)] at hd';exact qAN hd'
    have z1:=e2 d mem;have ed:=zE8 mask h r d (by lia);have hjd:(pr mask h N).j=(rs mask h r).1+d:=by rw [hd,ed]
    have z2:((owner.getD ((rs mask h r).1+d) (some 0)).isNone)=true:=(zJe O (by lia)).mpr (hjd▸hN);rw [z2] at z1;simp at z1
   have eN:N=stt mask h r+k:=by lia
   show some ((rs mask h r).1+k)=_;rw [eN,hk]
  | none =>
   have q1:=List.find?_eq_none.mp q;refine free_go hm O hl h hN hb hR fuel (r+1) ?_ (by lia);show stt mask h r+(runEnd mask (rs mask h r).1 - (rs mask h r).1+1)<=N;apply qBe;intro c;obtain ⟨d,hd⟩:∃d,N=stt mask h r+d:=⟨N - stt mask h r,by lia⟩;have ed:=zE8 mask h r d (by lia);have hjd:(pr mask h N).j=(rs mask h r).1+d:=by rw [hd,ed]
   have z1:=q1 d (qA3.mpr (by lia));have z2:((owner.getD ((rs mask h r).1+d) (some 0)).isNone)=true:=(zJe O (by lia)).mpr (hjd▸hN);exact z1 z2
theorem free_ok {owner:Array (Option Nat)} {sl:List Nat} (hm:Msk mask) (O:Ow mask hs owner sl) (hl:sl.length<=mask) (h:Int) :
  ∃N,(pr mask h N).j∉sl/\(∀m,m<N->(pr mask h m).j∈sl)/\layClean.free mask owner (turns mask) (bits h % (mask+1)) (bits h)=some (pr mask h N).j:=by
 obtain ⟨N,_,hN,hb⟩:=zIm hm h hl;obtain ⟨s,hs',q⟩:=free_slot hl;obtain ⟨R,hR,e⟩:=pr_all hm h s hs';exact ⟨N,hN,hb,free_go hm O hl h hN hb (R:=R) (by rw [e];exact q) (turns mask) 0 (qAX _) (by unfold turns;lia)⟩
theorem Ow.more {owner:Array (Option Nat)} {sl:List Nat} (O:Ow mask hs owner sl) (h:Int) (hN:(pr mask h N).j∉sl) (hb:∀m,m<N->(pr mask h m).j∈sl) :
  Ow mask (hs++[h]) (owner.setIfInBounds (pr mask h N).j (some hs.length)) (sl++[(pr mask h N).j]):=by
 have hj:=pr_le mask h N;have hz:(pr mask h N).j<owner.size:=by rw [O.z];lia
 have one:∀{k j:Nat},(sl++[(pr mask h N).j])[k]?=some j->(k<sl.length/\sl[k]?=some j)\/(k=sl.length/\j=(pr mask h N).j):=fun {k j} e=>by
  by_cases c:k<sl.length
  ·rw [qBj c] at e;exact .inl ⟨c,e⟩
  ·rw [qBi (by lia)] at e
   have hk:k=sl.length:=by
    have:=(qAf.mp e).1;simp at this;lia
   subst hk;exact .inr ⟨rfl,by simpa using e.symm⟩
 refine ⟨by rw [qDa];exact O.z,by simp [O.n],?_,fun j hj'=>?_,fun k j e=>?_,fun j hj1 hj2=>?_,fun k j h' e1 e2=>?_⟩
 ·refine qB4.mpr ⟨O.nd,qAw.mpr ⟨by simp,qA1⟩,fun a ha b hb'=>?_⟩;have:b=(pr mask h N).j:=by simpa using hb'
  subst this;intro z;subst z;exact hN ha
 ·rcases qAW.mp hj' with z| z
  ·exact O.l j z
  ·have:j=(pr mask h N).j:=by simpa using z
   rw [this];exact hj
 ·rcases one e with ⟨_,z⟩| ⟨z1,z2⟩
  ·have hne:j≠(pr mask h N).j:=fun q=>hN (q▸qAN z);rw [Array.getElem?_setIfInBounds_ne (qAs hne)];exact O.a k j z
  ·subst z1 z2;rw [Array.getElem?_setIfInBounds_self_of_lt hz,O.n]
 ·have h1:j∉sl:=fun q=>hj2 (qAv _ q);have h2:j≠(pr mask h N).j:=fun q=>hj2 (qAz _ (by simp [q]));rw [Array.getElem?_setIfInBounds_ne (qAs h2)];exact O.e j hj1 h1
 ·rcases one e1 with ⟨c,z⟩| ⟨z1,z2⟩
  ·rw [qBj (by rw [<-O.n];exact c)] at e2;obtain ⟨n,q1,q2⟩:=O.reach k j h' z e2;exact ⟨n,q1,fun m hm=>qAv _ (q2 m hm)⟩
  ·subst z1 z2;rw [qBi (by rw [O.n];exact qAG _),O.n] at e2;have:h'=h:=by simpa using e2.symm
   subst this;exact ⟨N,rfl,fun m hm=>qAv _ (hb m hm)⟩
theorem lay_ok (hm:Msk mask) (hs:List Int) (hl:hs.length<=mask):∃owner sl,Ow mask hs owner sl/\layClean mask hs.toArray=some owner:=by
 have key:∀(rest done:List Int) (owner:Array (Option Nat)) (sl:List Nat),Ow mask done owner sl->done.length+rest.length<=mask ->
   ∃owner' sl',Ow mask (done++rest) owner' sl'/\rest.foldl (fun (acc:Option (Array (Option Nat)×Nat)) h=>do
    let (owner,k)<-acc
    let j<-layClean.free mask owner (turns mask) (bits h % (mask+1)) (bits h)
    pure (owner.setIfInBounds j (some k),k+1)) (some (owner,done.length))=some (owner',(done++rest).length):=by
  intro rest
  induction rest with
  | nil=>intro done owner sl O _;exact ⟨owner,sl,by rw [qBR];exact O,by rw [qBR];rfl⟩
  | cons h rest ih =>
   intro done owner sl O hl;rw [qAa] at hl;obtain ⟨N,hN,hb,ef⟩:=free_ok hm O (by rw [O.n];lia) h;have O2:=O.more h hN hb;obtain ⟨o',s',O3,e3⟩:=ih (done++[h]) _ _ O2 (by rw [qAo];simp;lia);refine ⟨o',s',by simpa using O3,?_⟩;rw [qBc]
   have e4:(do
    let (owner,k)<-(some (owner,done.length):Option (Array (Option Nat)×Nat))
    let j<-layClean.free mask owner (turns mask) (bits h % (mask+1)) (bits h)
    pure (owner.setIfInBounds j (some k),k+1))=some (owner.setIfInBounds (pr mask h N).j (some done.length),(done++[h]).length):=by
    show (do
     let j<-layClean.free mask owner (turns mask) (bits h % (mask+1)) (bits h)
     pure (owner.setIfInBounds j (some done.length),done.length+1))=_
    rw [ef];simp
   rw [e4,e3];simp
 have O0:Ow mask [] (Array.replicate (mask+1) none) []:=⟨Array.size_replicate,rfl,qA1,(fun j h=>absurd h qB5),(fun k j e=>by rw [List.getElem?_nil] at e;cases e),(fun j hj _=>by rw [Array.getElem?_replicate,qAC (by lia)]),(fun k j h e=>by rw [List.getElem?_nil] at e;cases e)⟩;obtain ⟨o,sl,O,e⟩:=key hs [] _ _ O0 (by simpa using hl);refine ⟨o,sl,by simpa using O,?_⟩;unfold layClean;rw [List.foldl_toArray];have e':=e;simp only [List.nil_append,qBS] at e';show Option.map _ (hs.foldl _ (some (Array.replicate (mask+1) none,0)))=_;rw [e'];rfl
theorem laid_ok (hm:Msk mask) (hs:List Int) (hl:hs.length<=mask) (fi mo:Nat) (led plain:Bool):∃t order,laid mask fi mo led plain hs.toArray=some (t,order)/\t.mask=mask/\t.led=led/\t.plain=plain/\order.toList.Perm (List.range hs.length) /\
  TOk t (order.toList.map fun k=>hs.getD k 0):=by
 obtain ⟨owner,sl,O,e⟩:=lay_ok hm hs hl
 have hg:∀j,j<=mask->owner.getD j none=(owner[j]?).getD none:=fun j hj=>by
  have hz:j<owner.size:=by rw [O.z];lia
  simp [Array.getD,hz]
 have el:∀j,j<=mask->((owner.getD j none).map (j,·)=none↔j∉sl):=fun j hj=>by
  rw [hg j hj];constructor
  ·intro q z;obtain ⟨k,hk,ek⟩:=qA0.mp z;rw [O.a k j (qAf.mpr ⟨hk,ek⟩)] at q
   cases q
  ·intro q;rw [O.e j hj q];rfl
 have es:∀j k,j<=mask->((owner.getD j none).map (j,·)=some (j,k)↔sl[k]?=some j):=fun j k hj=>by
  rw [hg j hj];constructor
  ·intro q
   by_cases c:j∈sl
   ·obtain ⟨k',hk,ek⟩:=qA0.mp c;have ek':=qAf.mpr ⟨hk,ek⟩;rw [O.a k' j ek'] at q;have q:some (j,k')=some (j,k):=q;injection q with q;injection q with _ q;rw [<-q];exact ek'
   ·rw [O.e j hj c] at q;cases q
  ·intro q;rw [O.a k j q];rfl
 generalize hlive:(List.range (mask+1)).filterMap (fun j=>(owner.getD j none).map (j,·))=live
 have mem:∀p,p∈live↔sl[p.2]?=some p.1:=fun p=>by
  rw [<-hlive,List.mem_filterMap];constructor
  ·rintro ⟨j,hj,q⟩;have hj':j<=mask:=by have:=qA3.mp hj;lia
   have:p.1=j:=by
    cases h:owner.getD j none with
    | none=>rw [h] at q;cases q
    | some k=>rw [h] at q;have q:some (j,k)=some p:=q;injection q with q;rw [<-q]
   subst this;exact (es p.1 p.2 hj').mp q
  ·intro q;have hj:p.1<=mask:=O.l _ (qAN q);exact ⟨p.1,qA3.mpr (by lia),(es p.1 p.2 hj).mpr q⟩
 have rise:Rise (live.map (·.1)):=by
  have h1:(List.range (mask+1)).Pairwise (·<·):=List.pairwise_lt_range;rw [<-hlive,List.map_filterMap];refine List.Pairwise.filterMap _ (fun a b hab x hx y hy=>?_) h1
  cases ha:owner.getD a none with
  | none=>rw [ha] at hx;cases hx
  | some k =>
   rw [ha] at hx;have hx:some a=some x:=hx
   cases hb:owner.getD b none with
   | none=>rw [hb] at hy;cases hy
   | some k' =>
    rw [hb] at hy;have hy:some b=some y:=hy;injection hx with hx;injection hy with hy;lia
 have nd2:(live.map (·.2)).Nodup:=by
  have hr:live.Pairwise (fun a b=>a.1<b.1):=qC6.mp rise;refine qC6.mpr (hr.imp_of_mem fun {a b} ha hb hab q=>?_);have h1:=(mem a).mp ha;have h2:=(mem b).mp hb;rw [q] at h1;rw [h1] at h2;have:=qAc h2;lia
 have perm:(live.map (·.2)).Perm (List.range hs.length):=by
  refine (List.perm_ext_iff_of_nodup nd2 List.nodup_range).mpr fun k=>?_;rw [qA3,qAI];constructor
  ·rintro ⟨p,hp,rfl⟩;have:=(qAf.mp ((mem p).mp hp)).1;rw [O.n] at this;exact this
  ·intro hk;have hk':k<sl.length:=by rw [O.n];exact hk
   exact ⟨(sl[k],k),(mem _).mpr (by simp),rfl⟩
 have pmem:∀j,j∈live.map (·.1)↔j∈sl:=fun j=>by
  rw [qAI];constructor
  ·rintro ⟨p,hp,rfl⟩;exact qAN ((mem p).mp hp)
  ·intro q;obtain ⟨k,hk,ek⟩:=qA0.mp q;exact ⟨(j,k),(mem _).mpr (qAf.mpr ⟨hk,ek⟩),rfl⟩
 have llen:live.length=hs.length:=by
  have:=perm.length_eq;simpa using this
 refine ⟨{mask,place:=(live.map (·.1)).toArray,dummies:=#[],finger:=fi,led,moves:=mo,plain},(live.map (·.2)).toArray,?_,rfl,rfl,rfl,by simpa using perm,?_⟩
 ·unfold laid;rw [e];show some (_,_)=some (_,_);rw [hlive]
 ·refine ⟨hm,rfl,by simpa using rise,fun j hj=>?_,by simp [llen],by simp [llen];exact hl,fun i j h e1 e2=>?_⟩
  ·exact O.l j ((pmem j).mp (by simpa using hj))
  ·have e1:(live.map (·.1))[i]?=some j:=by simpa using e1
   have e2:((live.map (·.2)).map fun k=>hs.getD k 0)[i]?=some h:=by simpa using e2
   cases q:live[i]? with
   | none=>rw [qAe,q] at e1;cases e1
   | some p =>
    rw [qAe,q] at e1;rw [qAe,qAe,q] at e2;have e1:p.1=j:=by simpa using e1
    have e2:hs.getD p.2 0=h:=by simpa using e2
    have hp:=(mem p).mp (qAN q);rw [e1] at hp;have hk:p.2<hs.length:=by rw [<-O.n];exact (qAf.mp hp).1
    have hh:hs[p.2]?=some h:=by
     rw [<-e2,qA6];simp [hk]
    obtain ⟨n,q1,q2⟩:=O.reach p.2 j h hp hh
    exact ⟨n,q1,fun m hm=>by
     have:=(pmem _).mpr (q2 m hm);simpa using this⟩
section
variable {prog:Program} {w:World} {K:Type} [DecidableEq K] {knd:KeyKind prog w K} {A:Around} {E:Value->Shared->Prop} {s:Shared}
theorem byv_noref {v:Value} (h:carriedByValue v=true):∀a,v≠.ref a:=by
 intro a e;subst e;simp [carriedByValue] at h
theorem cls_byv (n:Nat) {v:Value} (h:carriedByValue v=true):ofAClassStatement n v=pure false:=by
 cases v with
 | ref a=>exact absurd rfl (byv_noref h a)
 | _=>cases n<;>(unfold ofAClassStatement;rfl)
theorem w_cls {k:List K} {Q:Bool->Shared->Prop} (hk:IsTupleKey knd s.heap k b) (h:Q false s):wpAny (model prog w) A (ofAClassStatement 8 (.ref b)) Q E s:=by
 have hT:=hk.typeIs;obtain ⟨o,items,n,ho,_,hd,hi⟩:=hk;unfold ofAClassStatement;refine qAA (qC7 hT ?_);show wpAny _ _ (if ("tuple" == "tuple")=true then _ else _) _ _ _;rw [qAC (by decide)];refine qAA (qAE ?_);show wpAny _ _ (if (!true)=true then _ else _) _ _ _;rw [qAB (by decide)];show wpAny _ _ (seqItems? (.ref b) >>= _) _ _ _;refine qAA ?_;show wpAny _ _ (load b >>= _) _ _ _;refine qAA (qBx ho ?_);rw [hd];refine qAE ?_;dsimp only;refine qAA ?_;show wpAny _ _ (forIn items _ _) _ _ s;rw [<-qCP];refine wpAny_forIn_list _ (fun rest r s'=>r.1=none/\s'=s/\∀v∈rest,carriedByValue v=true) _ ?_ ?_ _ _ ⟨rfl,rfl,hi.byValue⟩
 ·rintro v rest r s' ⟨hr,rfl,hall⟩;refine qAA (wpAny_of_eq (cls_byv _ (hall v qAR)) ?_);rw [qAB (by decide)];exact qAE ⟨rfl,rfl,fun u hu'=>hall u (qAP _ hu')⟩
 ·rintro ⟨r1,r2⟩ s' ⟨hr,rfl,_⟩;have hr:r1=none:=hr;subst hr;exact qAE h
theorem w_seen {k:List K} {stored:List Value} {Q:Bool->Shared->Prop} (hk:IsTupleKey knd s.heap k b) (hs:∀v∈stored,∃k' b',v= .ref b'/\IsTupleKey knd s.heap k' b') (h:Q false s):wpAny (model prog w) A (searchCouldBeSeen (.ref b) stored) Q E s:=by
 unfold searchCouldBeSeen;refine qAA ?_;refine wpAny_forIn_list _ (fun rest r s'=>r.1=none/\s'=s/\∀v∈rest,∃k' b',v= .ref b'/\IsTupleKey knd s.heap k' b') _ ?_ ?_ _ _ ⟨rfl,rfl,hs⟩
 ·rintro v rest r s' ⟨hr,rfl,hall⟩;obtain ⟨k',b',rfl,hk'⟩:=hall v qAR;have hall':∀u∈rest,∃k' b',u= .ref b'/\IsTupleKey knd s'.heap k' b':=fun u hu'=>hall u (qAP _ hu');dsimp only
  by_cases c:((b==b')||(carriedByValue (.ref b)&&carriedByValue (.ref b')))=true
  ·rw [qAC c];exact qAE ⟨rfl,rfl,hall'⟩
  ·rw [qAB c];refine qAA (wpAny_eqIsQuiet_tuple hk ?_);rw [qAB (by decide)];refine qAA (wpAny_eqIsQuiet_tuple hk' ?_);rw [qAB (by decide)];refine qAA (w_cls hk ?_);rw [qAB (by decide)];refine qAA (w_cls hk' ?_);rw [qAB (by decide)];exact qAE ⟨rfl,rfl,hall'⟩
 ·rintro ⟨r1,r2⟩ s' ⟨hr,rfl,_⟩;have hr:r1=none:=hr;subst hr;exact qAE h
theorem hbv_byv (n:Nat) {v:Value} (h:carriedByValue v=true):∃c,hashByValue n v=pure c:=by
 cases v with
 | ref a=>exact absurd rfl (byv_noref h a)
 | _=>cases n<;>(unfold hashByValue;exact ⟨_,rfl⟩)
theorem w_hbv {k:List K} {Q:Bool->Shared->Prop} (hk:IsTupleKey knd s.heap k b) (h:∀c,Q c s):wpAny (model prog w) A (hashByValue 8 (.ref b)) Q E s:=by
 have hT:=hk.typeIs;obtain ⟨o,items,n,ho,_,hd,hi⟩:=hk;unfold hashByValue;refine qAA (qCa hT F.slot_tuple_hash.lookup ?_);show wpAny _ _ (seqItems? (.ref b) >>= _) _ _ _;refine qAA ?_;show wpAny _ _ (load b >>= _) _ _ _;refine qAA (qBx ho ?_);rw [hd];refine qAE ?_;dsimp only;refine qAA ?_;show wpAny _ _ (forIn items _ _) _ _ s;rw [<-qCP];refine wpAny_forIn_list _ (fun rest r s'=>s'=s/\∀v∈rest,carriedByValue v=true) _ ?_ ?_ _ _ ⟨rfl,hi.byValue⟩
 ·rintro v rest r s' ⟨rfl,hall⟩;obtain ⟨c,ec⟩:=hbv_byv 7 (hall v qAR);rw [ec];refine qAA (qAE ?_);split
  ·exact qAE (qAE (h _))
  ·exact qAE ⟨rfl,fun u hu'=>hall u (qAP _ hu')⟩
 ·rintro ⟨r1,r2⟩ s' ⟨rfl,_⟩
  cases r1 with
  | none=>exact qAE (h _)
  | some c=>exact qAE (h _)
end
section
variable {prog:Program} {w:World} {K:Type} [DecidableEq K] {knd:KeyKind prog w K} {A:Around} {E:Value->Shared->Prop} {s:Shared}
def en (knd:KeyKind prog w K) (p:List K×Addr):Int×Value:=(tupleKeyHash knd p.1,.ref p.2)
def byt (w:World):Bool:=w.params.followText "set-order"
structure SetX (knd:KeyKind prog w K) (h:Heap) (a:Addr) (xs:List (List K×Addr)) (o:Obj) (es:Array (Int×Value)) (ep:Nat) (t:SetTable):Prop where
 ho:h.get? a=some o
 ex:o.ExactSet
 hd:o.data= .set es ep t
 el:es.toList=xs.map (en knd)
 ok:TOk t (xs.map fun p=>tupleKeyHash knd p.1)
 room:xs.length*5<t.mask*3
 nd:(xs.map (·.1)).Nodup
 ky:∀p∈xs,IsTupleKey knd h p.1 p.2
 ld:t.led= !byt w
section
variable {a:Addr} {xs:List (List K×Addr)} {o:Obj} {es:Array (Int×Value)} {ep:Nat} {t:SetTable}
theorem SetX.at (X:SetX knd s.heap a xs o es ep t) (i:Nat):es[i]?=(xs[i]?).map (en knd):=by
 rw [<-qAq,X.el,qAe]
theorem SetX.size (X:SetX knd s.heap a xs o es ep t):es.size=xs.length:=by
 have:=qAg List.length X.el;simpa using this
theorem SetX.fits (X:SetX knd s.heap a xs o es ep t):t.fits es.size=true:=by
 unfold SetTable.fits;have h1:t.place.size=es.size:=by rw [X.ok.n,X.size];simp
 have h2:t.fill<=t.mask:=by
  unfold fill;rw [X.ok.d];exact X.ok.f
 rw [h1];simp [h2]
theorem SetX.state (X:SetX knd s.heap a xs o es ep t) {Q:(Array (Int×Value)×Nat×SetTable)->Shared->Prop} (h:Q (es,ep,t) s):wpAny (model prog w) A (setState a) Q E s:=wpAny_setState_of X.ho X.hd X.fits h
theorem msk_odd {m:Nat} (h:Msk m):(m % 2==0)=false:=by
 rcases h with rfl| rfl| rfl| rfl<;>decide
theorem SetX.has (X:SetX knd s.heap a xs o es ep t) (e:t.place[i]?=some j):∃p,xs[i]?=some p:=by
 have h1:i<t.place.size:=(qBp.mp e).1;have h2:=X.ok.n;rw [qAD] at h2;exact ⟨xs[i]'(by lia),by simp⟩
theorem split_seen {c:Bool} {m:Sem Bool} {u:String} {jp:Unit->Sem α} {Q:α->Shared->Prop} (hm:∀f:Bool->Sem α,wpAny (model prog w) A (f false) Q E s->wpAny (model prog w) A (m >>= f) Q E s) (h:wpAny (model prog w) A (jp ()) Q E s) :
  wpAny (model prog w) A (if c=true then (m >>= fun l=>if l=true then (unsupported u >>= jp) else jp ()) else jp ()) Q E s:=by
 by_cases z:c=true
 ·rw [qAC z];exact hm _ h
 ·rw [qAB z];exact h
theorem w_search (hu:A.units<cLine) (X:SetX knd s.heap a xs o es ep t) {k:List K} (hk:IsTupleKey knd s.heap k b) (hN:(pr t.mask (tupleKeyHash knd k) N).j∉t.place.toList) (hb:∀m,m<N->(pr t.mask (tupleKeyHash knd k) m).j∈t.place.toList) (hNf:N<10*turns t.mask)
  {Q:SetFound->Shared->Prop} (h1:k∈xs.map (·.1)->Q (.there none) s) (h2:k∉xs.map (·.1)->Q (.free (pr t.mask (tupleKeyHash knd k) N).j false) s) :
  ∀(d n fuel:Nat) (stand:Option Probe),N=n+d->d<fuel->stand.getD (t.probeStart (tupleKeyHash knd k))=pr t.mask (tupleKeyHash knd k) n ->
   (∀m,m<n->∃(i:Nat) (p:List K×Addr),t.place[i]?=some (pr t.mask (tupleKeyHash knd k) m).j/\xs[i]?=some p/\p.1≠k)->wpAny (model prog w) A (setSearchFrom a (.ref b) (tupleKeyHash knd k) true fuel stand) Q E s:=by
 intro d
 induction d using Nat.strongRecOn with
 | _ d ih =>
  intro n fuel stand e hf hst hseen;obtain ⟨fuel,rfl⟩:∃f,fuel=f+1:=⟨fuel - 1,by lia⟩;unfold setSearchFrom;refine qAA (X.state ?_);show wpAny _ _ (if (t.mask % 2==0)=true then _ else _) _ _ _;rw [msk_odd X.ok.m,qAB (by decide)]
  have oth:∀m,Oth t (fun i=>(es[i]?.map (·.1)).getD 0) (tupleKeyHash knd k) m->∃(i:Nat) (p:List K×Addr),t.place[i]?=some (pr t.mask (tupleKeyHash knd k) m).j/\xs[i]?=some p/\p.1≠k:=fun m ⟨i,ei,hi⟩=>by
   obtain ⟨p,ep'⟩:=X.has ei;refine ⟨i,p,ei,ep',fun z=>hi ?_⟩;show (es[i]?.map (·.1)).getD 0=_;rw [X.at i,ep',<-z];rfl
  rw [hst];rcases go_ok X.ok (fun i=>(es[i]?.map (·.1)).getD 0) (tupleKeyHash knd k) hN hb d n (10*turns t.mask) e (by lia) with ⟨z1,z2⟩| ⟨m,i,z1,z2,z3,z4,z5,z6⟩
  ·have z1:t.probe (fun i=>(es[i]?.map (·.1)).getD 0) (tupleKeyHash knd k) (pr t.mask (tupleKeyHash knd k) n)=some (.empty (pr t.mask (tupleKeyHash knd k) N).j none):=z1
   erw [z1]
   refine qAE (h2 fun hm=>?_);obtain ⟨p,hp,rfl⟩:=qAI.mp hm;obtain ⟨i,hi,ei⟩:=qA0.mp hp;have exi:xs[i]?=some p:=qAf.mpr ⟨hi,ei⟩;have hpl:i<t.place.size:=by rw [X.ok.n,qAD];exact hi
   have epl:t.place[i]?=some t.place[i]:=by simp
   obtain ⟨q,q1,q2⟩:=X.ok.reach i t.place[i] (tupleKeyHash knd p.1) epl (by rw [qAe,exi];rfl)
   have hqN:q<N:=by
    apply qBe;intro c
    by_cases cq:q=N
    ·subst cq;exact hN (by rw [q1];exact qAN (i:=i) (by rw [qAq];exact epl))
    ·exact hN (q2 N (by lia))
   have:∃(i':Nat) (p':List K×Addr),t.place[i']?=some (pr t.mask (tupleKeyHash knd p.1) q).j/\xs[i']?=some p'/\p'.1≠p.1:=by
    by_cases c:q<n
    ·exact hseen q c
    ·exact oth q (z2 q (by lia) hqN)
   obtain ⟨i',p',w1,w2,w3⟩:=this;rw [q1] at w1
   have:i'=i:=by
    rcases Nat.lt_trichotomy i' i with z| z| z
    ·have:=zEc X.ok.r z w1 epl;lia
    ·exact z
    ·have:=zEc X.ok.r z epl w1;lia
   subst this;rw [exi] at w2
   cases w2
   exact w3 rfl
  ·have z5:t.probe (fun i=>(es[i]?.map (·.1)).getD 0) (tupleKeyHash knd k) (pr t.mask (tupleKeyHash knd k) n)=some (.candidate (pr t.mask (tupleKeyHash knd k) m).j i (pr t.mask (tupleKeyHash knd k) (m+1))):=z5
   erw [z5]
   obtain ⟨p,exi⟩:=X.has z3;have hp:=X.ky p (qAN exi);have eei:es[i]?=some (tupleKeyHash knd p.1,.ref p.2):=by rw [X.at i,exi];rfl
   refine split_seen (fun f hf=>qAA (w_seen hk ?_ hf)) ?_
   ·intro v hv;obtain ⟨q,hq,rfl⟩:=qAI.mp hv
    have hq:q∈es.toList:=by
     have:=(Array.mem_filter.mp (qDU.mp hq)).1;exact qDU.mpr this
    rw [X.el] at hq;obtain ⟨p',hp',rfl⟩:=qAI.mp hq;exact ⟨p'.1,p'.2,rfl,X.ky p' hp'⟩
   dsimp only;rw [eei];dsimp only;refine qAA (qAy (wpAny_eqBool_tuple hu hp hk ?_));refine qAA (X.state ?_);dsimp only
   by_cases c:p.1=k
   ·rw [qAC (by simp [c])];exact qAE (h1 (qAI.mpr ⟨p,qAN exi,c⟩))
   ·rw [qAB (by simp [c])];have esm:t.sameMemory t.moves t.mask=some true:=by unfold SetTable.sameMemory;simp
    rw [esm];dsimp only;rw [qAC rfl,slot_live X.ok z3];dsimp only;rw [eei];dsimp only;refine qAA (wpAny_isSame_ref_self ?_);rw [qAC rfl];refine qAA (qAE ?_);dsimp only;rw [qAB (by simp [c])];refine ih (N - (m+1)) (by lia) (m+1) fuel (some _) (by lia) (by lia) rfl ?_;intro q hq
    by_cases cq:q<n
    ·exact hseen q cq
    by_cases cm:q=m
    ·subst cm;exact ⟨i,p,z3,exi,c⟩
    ·exact oth q (z6 q (by lia) (by lia))
end
end
section
variable {prog:Program} {w:World} {K:Type} [DecidableEq K] {knd:KeyKind prog w K} {A:Around} {E:Value->Shared->Prop} {s:Shared}
variable {a:Addr} {xs:List (List K×Addr)} {o:Obj} {es:Array (Int×Value)} {ep:Nat} {t:SetTable}
theorem key_but {h h':Heap} {k:List K} (x:IsTupleKey knd h k b) (ho:h.get? a=some o) (hd:o.data= .set es ep t) (hs:Heap.SameBut a h h'):IsTupleKey knd h' k b:=by
 obtain ⟨o1,its,n,p1,p2,p3,p4⟩:=x;refine ⟨o1,its,n,(hs.2 b fun z=>?_).trans p1,p2,p3,p4⟩;subst z;have:=qAc (p1.symm.trans ho);subst this;rw [hd] at p3;exact nomatch p3
theorem put_get {h:Heap} (ho:h.get? a=some o) (hd:o.data= .set es ep t) (es':Array (Int×Value)) (t':SetTable):(h.update a (Obj.putSet es' t')).get? a=some {o with data:=.set es' (ep+1) t'}:=by
 have:=qBK (Obj.putSet es' t') ho (by rw [putSet_of es' t' hd];rfl)
 rwa [putSet_of es' t' hd] at this
theorem put_X {h:Heap} (ho:h.get? a=some o) (ex:o.ExactSet) (hd:o.data= .set es ep t) {es':Array (Int×Value)} {t':SetTable} {ys:List (List K×Addr)} (e1:es'.toList=ys.map (en knd)) (e2:TOk t' (ys.map fun p=>tupleKeyHash knd p.1)) (e3:ys.length*5<t'.mask*3) (e4:(ys.map (·.1)).Nodup) (e5:∀p∈ys,IsTupleKey knd h p.1 p.2) (e6:t'.led= !byt w) :
  SetX knd (h.update a (Obj.putSet es' t')) a ys {o with data:=.set es' (ep+1) t'} es' (ep+1) t' :=
 ⟨put_get ho hd es' t',ex,rfl,e1,e2,e3,e4,fun p hp=>key_but (e5 p hp) ho hd (qAj h a _),e6⟩
theorem not_scan (b:Addr) (es:Array (Int×Value)):byScan (.ref b) es=false:=by
 unfold byScan;rfl
theorem grow_mask {m n:Nat} (hm:Msk m) (h0:n*5<m*3) (h1:m*3<=(n+1)*5) (hc:n+1<=306):Msk (sizeAbove (grown (n+1)) - 1)/\n+1<=sizeAbove (grown (n+1)) - 1/\(n+1)*5<(sizeAbove (grown (n+1)) - 1)*3/\sizeAbove (grown (n+1))<=512:=by
 rcases hm with rfl| rfl| rfl| rfl
 ·obtain rfl:n=4:=by lia
  refine ⟨by unfold Msk;decide +kernel,by decide +kernel,by decide +kernel,by decide +kernel⟩
 ·obtain rfl:n=18:=by lia
  refine ⟨by unfold Msk;decide +kernel,by decide +kernel,by decide +kernel,by decide +kernel⟩
 ·obtain rfl:n=76:=by lia
  refine ⟨by unfold Msk;decide +kernel,by decide +kernel,by decide +kernel,by decide +kernel⟩
 ·lia
theorem getD_hash (ys:List (List K×Addr)) (order:List Nat) (hp:order.Perm (List.range ys.length)):(order.filterMap (ys[·]?)).map (fun p=>tupleKeyHash knd p.1)=order.map (fun k=>(ys.map fun p=>tupleKeyHash knd p.1).getD k 0):=by
 have hall:∀k∈order,k<ys.length:=fun k hk=>qA3.mp (hp.mem_iff.mp hk);clear hp
 induction order with
 | nil=>rfl
 | cons k ks ih =>
  have hk:=hall k qAR;have e:ys[k]?=some ys[k]:=by simp [hk]
  rw [qCE,e];show tupleKeyHash knd ys[k].1::_=_::_;rw [ih (fun q hq=>hall q (qAP _ hq))];congr 1;show _=(List.map (fun p=>tupleKeyHash knd p.fst) ys).getD k 0;rw [qA6,qAe,e];rfl
theorem range_get (ys:List α):(List.range ys.length).filterMap (ys[·]?)=ys:=by
 induction ys with
 | nil=>rfl
 | cons y ys ih =>
  rw [qAa,List.range_succ_eq_map,qCE];show y::_=_;rw [List.filterMap_map];congr 1
theorem perm_get (ys:List α) {order:List Nat} (hp:order.Perm (List.range ys.length)):(order.filterMap (ys[·]?)).Perm ys:=by
 have:=hp.filterMap (ys[·]?)
 rwa [range_get] at this
theorem w_relay {s:Shared} {m n:Nat} (ho:s.heap.get? a=some o) (ex:o.ExactSet) (hd:o.data= .set es ep t) (e1:es.toList=xs.map (en knd)) (e2:TOk t (xs.map fun p=>tupleKeyHash knd p.1)) (hn:xs.length=n+1) (h0:n*5<t.mask*3) (h1:t.mask*3<=(n+1)*5) (hc:n+1<=306)
  (e4:(xs.map (·.1)).Nodup) (e5:∀p∈xs,IsTupleKey knd s.heap p.1 p.2) (e6:t.led= !byt w) {Q:Unit->Shared->Prop} (h:∀h' ys o' es' ep' t',Heap.SameBut a s.heap h'->ys.Perm xs->SetX knd h' a ys o' es' ep' t'->Q () {s with heap:=h'}) :
  wpAny (model prog w) A (setRelay a (grown (n+1))) Q E s:=by
 obtain ⟨g1,g2,g3,g4⟩:=grow_mask e2.m h0 h1 hc;have ez:es.size=xs.length:=by have:=qAg List.length e1;simpa using this
 have hfit:t.fits es.size=true:=by
  unfold SetTable.fits;have z1:t.place.size=es.size:=by rw [e2.n,ez];simp
  have z2:t.fill<=t.mask:=by unfold fill;rw [e2.d];exact e2.f
  rw [z1];simp [z2]
 unfold setRelay;refine qAA (wpAny_setState_of ho hd hfit ?_);dsimp only;have hsl:sizeAbove (grown (n+1))<=sizeLine:=qAT g4 (by decide +kernel);rw [qAB (qCe.mpr hsl)];obtain ⟨t',order,l1,l2,l3,l4,l5,l6⟩:=laid_ok g1 (xs.map fun p=>tupleKeyHash knd p.1) (by rw [qAD];lia) t.finger (t.movedTo (sizeAbove (grown (n+1)) - 1)) t.led t.plain
 have lr:t.relaid (es.map (·.1)) (grown (n+1))=some (t',order):=by
  unfold relaid
  have:es.map (·.1)=(xs.map fun p=>tupleKeyHash knd p.1).toArray:=by
   apply Array.ext';rw [Array.toList_map,e1,qAt];rfl
  rw [this];exact l1
 rw [lr];rw [qAD] at l5;have lp:=perm_get xs l5
 have el':(order.filterMap (es[·]?)).toList=(order.toList.filterMap (xs[·]?)).map (en knd):=by
  rw [Array.toList_filterMap,List.map_filterMap];congr 1;funext k;rw [<-qAq,e1,qAe]
 have ez':(order.filterMap (es[·]?)).size=es.size:=by
  rw [<-qBA,el',qAD,lp.length_eq,ez]
 refine qAA ?_;show wpAny _ _ (if ((order.filterMap (es[·]?)).size != es.size)=true then _ else _) _ _ _;rw [qAB (by rw [ez'];simp)];refine qAE ?_;dsimp only;refine wpAny_storeSet_of ho hd ?_ (by rw [ez',ez,hn];exact qAT hc (by decide +kernel));refine h _ _ _ _ _ _ (qAj _ a _) lp (put_X ho ex hd el' ?_ ?_ ?_ (fun p hp=>e5 p (lp.mem_iff.mp hp)) (l3.trans e6))
 ·rw [getD_hash xs order.toList l5];exact l6
 ·rw [lp.length_eq,hn,l2];exact g3
 ·exact (lp.map (·.1)).nodup_iff.mpr e4
theorem ins_perm (L:List α) (p:Nat) (x:α):(L.take p++x::L.drop p).Perm (x::L):=by
 have h1:(L.take p++x::L.drop p).Perm (x::(L.take p++L.drop p)):=List.perm_middle
 rwa [qBU] at h1
theorem plain_off {t:SetTable} (T:TOk t hs) (c:Bool):TOk (if c=true then t else {t with plain:=false}) hs/\(if c=true then t else {t with plain:=false}).mask=t.mask/\(if c=true then t else {t with plain:=false}).tooFull=t.tooFull/\(if c=true then t else {t with plain:=false}).led=t.led:=by
 cases c
 ·exact ⟨⟨T.m,T.d,T.r,T.l,T.n,T.f,T.reach⟩,rfl,rfl,rfl⟩
 ·exact ⟨T,rfl,rfl,rfl⟩
theorem w_add (hu:A.units<cLine) (X:SetX knd s.heap a xs o es ep t) {k:List K} (hk:IsTupleKey knd s.heap k b) (hc:xs.length+1<=306) {Q:Bool->Shared->Prop} (h1:k∈xs.map (·.1)->Q false s)
  (h2:k∉xs.map (·.1)->∀h' ys o' es' ep' t',Heap.SameBut a s.heap h'->ys.Perm ((k,b)::xs)->SetX knd h' a ys o' es' ep' t'->Q true {s with heap:=h'}) :
  wpAny (model prog w) A (setAddHashed a (.ref b) (tupleKeyHash knd k)) Q E s:=by
 unfold setAddHashed setAddHashedIn;refine qAy (qAA (X.state ?_));dsimp only;rw [not_scan,qAB (by decide)]
 have hpl:t.place.toList.length=xs.length:=by
  have:=X.ok.n;rw [qAD] at this;simpa using this
 have hroom:=X.room;obtain ⟨N,hNf,hN,hb⟩:=zIm X.ok.m (tupleKeyHash knd k) (L:=t.place.toList) (by rw [hpl];lia)
 have hT:10*turns t.mask<100000:=by
  rcases X.ok.m with z| z| z| z<;>rw [z]<;>decide +kernel
 unfold setSearch;refine qAA (w_search hu X hk hN hb hNf ?_ ?_ N 0 100000 none (by lia) (by lia) rfl (fun m hm=>absurd hm (qCf m)))
 ·intro z;exact qAE (h1 z)
 ·intro z;dsimp only;refine qAA (X.state ?_);dsimp only
  have hf1:t.place.size+1<=t.mask:=by
   have:t.place.size=xs.length:=by simpa using hpl
   rcases X.ok.m with z| z| z| z<;>lia
  have T1:=put_ok X.ok (tupleKeyHash knd k) hN hb hf1;have em:(t.put (pr t.mask (tupleKeyHash knd k) N).j).1.mask=t.mask:=rfl;have ed:(t.put (pr t.mask (tupleKeyHash knd k) N).j).1.led=t.led:=rfl;have B:=(zEi X.ok.r (pr t.mask (tupleKeyHash knd k) N).j).le;have ep2:(t.put (pr t.mask (tupleKeyHash knd k) N).j).2=below t.place (pr t.mask (tupleKeyHash knd k) N).j:=rfl
  have fin:∀c:Bool,wpAny (model prog w) A (do
    storeSet a (SetTable.insertAt es (t.put (pr t.mask (tupleKeyHash knd k) N).j).2 (tupleKeyHash knd k,.ref b)) (if c=true then (t.put (pr t.mask (tupleKeyHash knd k) N).j).1 else {(t.put (pr t.mask (tupleKeyHash knd k) N).j).1 with plain:=false})
    if (!false&&(if c=true then (t.put (pr t.mask (tupleKeyHash knd k) N).j).1 else {(t.put (pr t.mask (tupleKeyHash knd k) N).j).1 with plain:=false}).tooFull)=true then do
     setRelay a (SetTable.grown (es.size+1))
     pure true
    else pure true) Q E s:=by
   intro c;generalize hp:(t.put (pr t.mask (tupleKeyHash knd k) N).j).2=p at *
   generalize ht:(t.put (pr t.mask (tupleKeyHash knd k) N).j).1=t1 at *
   have hple:p<=es.size:=by
    rw [X.size,ep2];have:t.place.size=xs.length:=by simpa using hpl
    lia
   obtain ⟨T2,m2,f2,d2⟩:=plain_off T1 c;generalize ht2:(if c=true then t1 else {t1 with plain:=false})=t2 at *
   have el:(SetTable.insertAt es p (tupleKeyHash knd k,Value.ref b)).toList=(xs.take p++(k,b)::xs.drop p).map (en knd):=by
    rw [zJj es p _ hple,X.el,qAS,qAd,qC8,List.map_drop];rfl
   have ip:=ins_perm xs p (k,b)
   have eT:(xs.map fun p=>tupleKeyHash knd p.1).take p++tupleKeyHash knd k::(xs.map fun p=>tupleKeyHash knd p.1).drop p=(xs.take p++(k,b)::xs.drop p).map fun p=>tupleKeyHash knd p.1:=by
    rw [qAS,qAd,qC8,List.map_drop]
   rw [eT] at T2;have len:(xs.take p++(k,b)::xs.drop p).length=xs.length+1:=by rw [ip.length_eq];rfl
   have nd:((xs.take p++(k,b)::xs.drop p).map (·.1)).Nodup:=by
    refine (ip.map (·.1)).nodup_iff.mpr ?_;exact qAw.mpr ⟨z,X.nd⟩
   have ky:∀q∈xs.take p++(k,b)::xs.drop p,IsTupleKey knd s.heap q.1 q.2:=fun q hq=>by
    rcases qAO.mp (ip.mem_iff.mp hq) with y| y
    ·subst y;exact hk
    ·exact X.ky q y
   have sz:(SetTable.insertAt es p (tupleKeyHash knd k,Value.ref b)).size=xs.length+1:=by
    have:=qAg List.length el;rw [qAD,len] at this;simpa using this
   refine qAA (wpAny_storeSet_of X.ho X.hd ?_ (by rw [sz];exact qAT hc (by decide +kernel)))
   have fl:t2.tooFull=decide (t.mask*3<=(xs.length+1)*5):=by
    unfold tooFull fill;rw [T2.d,T2.n,qAD,len,m2,em];rfl
   by_cases cf:t.mask*3<=(xs.length+1)*5
   ·rw [qAC (by rw [fl];simp [cf])];rw [X.size];refine qAA ?_;refine w_relay (m:=0) (o:={o with data:=.set (insertAt es p (tupleKeyHash knd k,Value.ref b)) (ep+1) t2}) (put_get X.ho X.hd _ _) X.ex rfl el T2 len ?_ ?_ hc nd ?_ (d2.trans (ed.trans X.ld)) ?_
    ·rw [m2,em];exact hroom
    ·rw [m2,em];exact cf
    ·intro q hq;exact key_but (ky q hq) X.ho X.hd (qAj _ a _)
    ·intro h' ys o' es' ep' t' q1 q2 q3;exact qAE (h2 z h' ys o' es' ep' t' ((qAj _ a _).trans q1) (q2.trans ip) q3)
   ·rw [qAB (by rw [fl];simp [cf])];refine qAE (h2 z _ _ _ _ _ _ (qAj _ a _) ip (put_X X.ho X.ex X.hd el T2 ?_ nd ky (d2.trans (ed.trans X.ld))));rw [len,m2,em];lia
  by_cases cp:(t.put (pr t.mask (tupleKeyHash knd k) N).j).1.plain=true
  ·rw [qAC cp];exact qAA (w_hbv hk fin)
  ·rw [qAB cp];exact qAA (qAE (fin true))
end
end ST
namespace ST
open PySem PySem.SetTable PyProof.Rows
variable {h:Heap}{α:Type}
section
variable {prog:Program} {w:World} {K:Type} [DecidableEq K] {knd:KeyKind prog w K} {A:Around} {E:Value->Shared->Prop} {s:Shared}
variable {a:Addr} {xs:List (List K×Addr)} {o:Obj} {es:Array (Int×Value)} {ep:Nat} {t:SetTable}
theorem key_kept {h':Heap} {k:List K} {b:Addr} (x:IsTupleKey knd h k b) (e:∀o,h.get? b=some o->h'.get? b=some o):IsTupleKey knd h' k b :=
 let ⟨o,its,n,p1,r⟩:=x;⟨o,its,n,e o p1,r⟩
theorem SetX.kept {h h':Heap} (X:SetX knd h a xs o es ep t) (e:∀b o,(b=a\/∃p∈xs,p.2=b)->h.get? b=some o->h'.get? b=some o):SetX knd h' a xs o es ep t :=
 ⟨e a o (.inl rfl) X.ho,X.ex,X.hd,X.el,X.ok,X.room,X.nd,fun p hp=>key_kept (X.ky p hp) fun o q=>e _ o (.inr ⟨p,hp,rfl⟩) q,X.ld⟩
def Got (knd:KeyKind prog w K) (h:Heap) (a:Addr) (ks:List (List K×Addr)):Prop :=
 ∃xs o es ep t,SetX knd h a xs o es ep t/\(∀p∈xs,p∈ks)/\(∀p∈ks,p.1∈xs.map (·.1))/\xs.length<=ks.length
theorem Got.kept {h h':Heap} {ks:List (List K×Addr)} (g:Got knd h a ks) (e:∀b o,(b=a\/∃p∈ks,p.2=b)->h.get? b=some o->h'.get? b=some o):Got knd h' a ks:=by
 obtain ⟨xs,o,es,ep,t,X,g1,g2,g3⟩:=g;exact ⟨xs,o,es,ep,t,X.kept fun b o hb=>e b o (hb.imp id fun ⟨p,hp,q⟩=>⟨p,g1 p hp,q⟩),g1,g2,g3⟩
theorem Got.fresh {a:Addr} (ho:h.get? a=some {cls:=.type "set",dict:=none,data:=.set #[] 0 (.fresh 0 0 (!byt w))}):Got knd h a [] :=
 ⟨[],_,_,_,_,⟨ho,⟨rfl,rfl,rfl⟩,rfl,rfl,fresh_ok 0 0 _,(show 0*5<7*3 by decide),qA1,(fun p hp=>nomatch hp),rfl⟩,(fun p hp=>nomatch hp),(fun p hp=>nomatch hp),qAG _⟩
theorem w_more {ks:List (List K×Addr)} {k:List K} {b:Addr} (hu:A.units<cLine) (g:Got knd s.heap a ks) (hk:IsTupleKey knd s.heap k b) (hc:ks.length+1<=306) {Q:Bool->Shared->Prop}
  (h:∀c h',Heap.SameBut a s.heap h'->Got knd h' a (ks++[(k,b)])->Q c {s with heap:=h',toks:=s.toks+(k.length+1)}):wpAny (model prog w) A (setAdd a (.ref b)) Q E s:=by
 obtain ⟨xs,o,es,ep,t,X,g1,g2,g3⟩:=g;unfold setAdd;refine qAy (qAA (wpAny_pyHash_tuple hu hk ?_));refine w_add (s:={s with toks:=s.toks+(k.length+1)}) hu X hk (by lia) (fun z=>?_) fun z h' ys o' es' ep' t' q1 q2 q3=>?_
 ·refine h false s.heap (Heap.SameBut.refl a s.heap) ⟨xs,o,es,ep,t,X,fun p hp=>qAv _ (g1 p hp),fun p hp=>?_,by rw [qAo];exact Nat.le_succ_of_le g3⟩;rcases qAW.mp hp with y| y
  ·exact g2 p y
  ·rw [qAZ.mp y];exact z
 ·refine h true h' q1 ⟨ys,o',es',ep',t',q3,fun p hp=>?_,fun p hp=>?_,?_⟩
  ·rcases qAO.mp (q2.mem_iff.mp hp) with y| y
   ·rw [y];exact qAz _ (qAZ.mpr rfl)
   ·exact qAv _ (g1 p y)
  ·have m:=(q2.map (·.1)).mem_iff (a:=p.1);refine m.mpr ?_;rcases qAW.mp hp with y| y
   ·exact qAP _ (g2 p y)
   ·rw [qAZ.mp y];exact qAR
  ·rw [q2.length_eq,qAo];exact Nat.succ_le_succ g3
end
section
variable {prog:Program} {w:World} {K:Type} [DecidableEq K] {knd:KeyKind prog w K} {A:Around} {R:Result->Shared->Prop} {I:Addr} {fp wr:List Addr} {G:Array GenState->Array GenState->Prop} {P:Nat->Value->Prop} {St:Nat->Shared->Prop}
theorem c_fill {ks:List (List K×Addr)} (hu:A.in1.units<cLine) (W:WalksS prog w A.in1 I fp wr G ks.length P St) (a:Addr) (haf:a∉fp) (hP:∀i v,P i v->∃p,ks[i]?=some p/\v= .ref p.2) (hka:∀p∈ks,p.2≠a/\p.2∉wr) (hc:ks.length<=306) :
  ∀(k i:Nat) (s:Shared),ks.length=i+k->St i s->Got knd s.heap a (ks.take i)->(∀p∈ks,IsTupleKey knd s.heap p.1 p.2) ->
   (∀s',Moved (a::wr) G s s'->Got knd s'.heap a ks->R (.ok (.ret .none)) s')->codeAny (model prog w) A (.builtin "set.update.loop" ⟨[.ref a,.ref I],[]⟩) R s:=by
 have haw:a∉wr:=fun z=>haf (W.sub a z);intro k
 induction k with
 | zero =>
  intro i s e st g ky hR;have e:i=ks.length:=by lia
  subst e;rw [qAi] at g;refine qBV PyProof.Rows.F.entry_set_update_loop ?_;rw [qBf qDb _];change wpAny _ A.in1 (pyNext (Value.ref I) >>= _) _ _ s;refine qAA (W.done s _ _ st fun s1 mv=>?_);refine qAE (hR s1 (mv.mono fun b hb=>qAP a hb) (g.kept fun b o hb q=>mv.heap b o ?_ q));rcases hb with rfl| ⟨p,hp,rfl⟩
  ·exact haw
  ·exact (hka p hp).2
 | succ k ih =>
  intro i s e st g ky hR;have hi:i<ks.length:=by lia
  refine qBV PyProof.Rows.F.entry_set_update_loop ?_;rw [qBf qDb _];change wpAny _ A.in1 (pyNext (Value.ref I) >>= _) _ _ s;refine qAA (W.item i s _ _ hi st fun v s1 pv st1 mv=>?_);obtain ⟨p,ep,rfl⟩:=hP i v pv;have pm:p∈ks:=qAN ep
  have up:∀b o,(b=a\/∃q∈ks,q.2=b)->s.heap.get? b=some o->s1.heap.get? b=some o:=fun b o hb q=>mv.heap b o (by
   rcases hb with rfl| ⟨p,hp,rfl⟩
   ·exact haw
   ·exact (hka p hp).2) q
  have g1:=g.kept (h':=s1.heap) fun b o hb=>up b o (hb.imp id fun ⟨q,hq,z⟩=>⟨q,qBr hq,z⟩);have ky1:∀q∈ks,IsTupleKey knd s1.heap q.1 q.2:=fun q hq=>key_kept (ky q hq) fun o=>up _ o (.inr ⟨q,hq,rfl⟩);change wpAny _ A.in1 (holding [Value.ref p.2] (setAdd a (.ref p.2)) >>= _) _ _ s1;refine qAA (qAy (w_more (knd:=knd) hu g1 (ky1 p pm) (by rw [qAY];lia) fun c h' sb g2=>?_))
  have et:ks.take i++[(p.1,p.2)]=ks.take (i+1):=by
   rw [qC9,ep];rfl
  rw [et] at g2
  have st2:=W.frame (i+1) s1 h' (s1.toks+(p.1.length+1)) st1 (qBT _ _) fun b hb o q=>by
   rw [sb.2 b fun z=>haf (z▸hb)];exact q
  refine qAE ⟨qCg qDb _,ih (i+1) _ (by lia) st2 g2 (fun q hq=>key_kept (ky1 q hq) fun o z=>(sb.2 _ (hka q hq).1).trans z) fun s2 mv2 g3=>hR s2 ?_ g3⟩;refine Moved.trans W.gtrans ((mv.mono fun b hb=>qAP a hb).then_heap (qBT _ _) fun b o hb z=>?_) mv2;exact (sb.2 b fun y=>hb (y▸qAR)).trans z
end
section
variable {prog:Program} {w:World} {K:Type} [DecidableEq K] {knd:KeyKind prog w K} {A:Around} {E:Value->Shared->Prop} {s:Shared}
def set0 (w:World):Obj:={cls:=.type "set",dict:=none,data:=.set #[] 0 (.fresh 0 0 (!byt w))}
theorem c_new (v:Value) {Q:Value->Shared->Prop} (h:Q (.ref s.heap.objs.size) {s with heap:=s.heap.push (set0 w)}):codeAny (model prog w) A (.call (.builtin "set.__new__") ⟨[.type "set",v],[]⟩) (wants Q E) s:=by
 refine codeAny_of_tree ?_;change wpAny _ A.in1 (checkBuiltinCall "set.__new__" ⟨[.type "set",v],[]⟩ >>= fun _=>again (.builtin "set.__new__" ⟨[.type "set",v],[]⟩)) _ _ s;refine qAA (wpAny_of_eq (F.newCall_set_1 v) (qAE ⟨qCg F.plain_set_new _,qBV F.entry_set_new ?_⟩));rw [qBf F.plain_set_new _];unfold Builtin.«set.__new__» Builtin.Frozenset.newClass;have q:=sub_set_self;obtain ⟨hp,g,d,tk,os⟩:=s;dsimp only
 wp_walk
 refine qBW (qAE ?_);dsimp only;simp only [newObj];refine qAA (wpAny_alloc (qAE (qAE ?_)));exact h
theorem w_setBy {l:Addr} {its:Array Value} {Z:Heap->Prop} {Q:Value->Shared->Prop} (hh:A.handled=none) (hl:s.heap.IsList l its)
  (fill:∀(A1:Around) (R:Result->Shared->Prop) (s3:Shared) (fp:List Addr) (G:Array GenState->Array GenState->Prop) (St:Nat->Shared->Prop),A1.in1.units<=A.units+3->WalksS prog w A1.in1 (s.heap.objs.size+1) fp [s.heap.objs.size+1] G its.size (fun i v=>its[i]?=some v) St->s.heap.objs.size∉fp ->
   s3.heap.get? s.heap.objs.size=some (set0 w)->(∀b o,s.heap.get? b=some o->s3.heap.get? b=some o)->St 0 s3->(∀s',Moved [s.heap.objs.size,s.heap.objs.size+1] G s3 s'->Z s'.heap->R (.ok (.ret .none)) s') ->
   codeAny (model prog w) A1 (.builtin "set.update.loop" ⟨[.ref s.heap.objs.size,.ref (s.heap.objs.size+1)],[]⟩) R s3)
  (h:∀(h':Heap) (tk:Nat),s.toks<=tk->Z h'->(∀b o,s.heap.get? b=some o->h'.get? b=some o)->Q (.ref s.heap.objs.size) {s with heap:=h',toks:=tk}) :
  wpAny (model prog w) A (call (.type "set") [.ref l]) Q E s:=by
 obtain ⟨c,tl,hmro⟩:=qBs.mro;have k1:=qBs.made;have k2:=qBs.sub;refine qCF (codeAny_of_tree ?_);change wpAny _ _ (callAny (.type "set") _) _ _ _;refine qAE ⟨Code.quiet_builtin _ (by decide +kernel),qBV F.entry_type_call ?_⟩;rw [Around.under_plain (weight_type_call_type "set" [.ref l] []) rfl];have k3:=qBs.notType;have k4:=qBs.canCreate;have k5:=F.typeCall_set_1 (.ref l)
 repeat (any_goals (first| assumption| wp_step))
 have hne:∀b o,s.heap.get? b=some o->b≠s.heap.objs.size:=fun b o q=>qAV (qAL q);refine qCG (c_new (w:=w) (.ref l) (E:=E) (Q:=fun ob s1=>ob= .ref s.heap.objs.size/\s1={s with heap:=s.heap.push (set0 w)}) ⟨rfl,rfl⟩) fun r s1 hr=>?_
 cases r with
 | error e=>exact hr
 | ok fl =>
  cases fl with
  | ret ob =>
   obtain ⟨rfl,rfl⟩:=hr;have hS:(s.heap.push (set0 w)).get? s.heap.objs.size=some (set0 w):=qAb _ rfl;have hT:Shared.TypeIs {s with heap:=s.heap.push (set0 w)} (.ref s.heap.objs.size) "set" := ⟨_,hS,rfl⟩;have k6:=qBs.init.lookup;have k7:=qBs.init.bind (.ref s.heap.objs.size)
   repeat (any_goals (first| assumption| wp_step))
   refine qCG (codeAny_call_builtin (R:=wants (fun r s2=>r= .none/\∃h' tk,s2={s with heap:=h',toks:=tk}/\s.toks<=tk/\Z h'/\(∀b o,s.heap.get? b=some o->h'.get? b=some o)) E) qBs.init.plain F.entry_set_init (check_set_init_1 hT ?_)) fun r2 s2 hr2=>?_
   ·obtain ⟨ol,hol,hcl,nl,hdl⟩:=hl;obtain ⟨o1,o2,o3,o4⟩:=ol;simp only at hcl hdl;subst hcl hdl;have hol1:(s.heap.push (set0 w)).get? l=some {cls:=.type "list",dict:=o2,data:=.seq its nl,slots:=o4}:=qAJ _ hol;have k8:=F.sub_list_set;have k9:=F.sub_list_frozenset;have k10:(Value.type "list" == Value.type "dict")=false:=by decide
    have hl1:(s.heap.push (set0 w)).IsList l its:=⟨_,hol1,rfl,nl,rfl⟩;unfold Builtin.«set.__init__» noKeywords Builtin.Frozenset.updateFrom;generalize hPI:pyIter=PI
    wp_walk
    subst hPI;refine qCv hl1 ?_;refine qAA (wpAny_runValue ?_);have esz:(s.heap.push (set0 w)).objs.size=s.heap.objs.size+1:=qBa _ _;have hls:l<s.heap.objs.size:=qAL hol;have W:=(Walks.list (prog:=prog) (w:=w) (A:=A.in1.in1.in1) (by simpa using hh) (s.heap.push (set0 w)).objs.size l (by rw [esz];exact qAV (qBn hls)) its).toS;rw [esz] at W;rw [esz];refine fill A.in1.in1 _ _ _ _ _ (by show A.units+1+1+1<=A.units+3;lia) W ?_ (qAJ _ hS) (fun b o q=>qAJ _ (qAJ _ q)) ⟨⟨_,by rw [<-esz];exact qAb _ rfl,rfl,rfl⟩,hl1.push _⟩ ?_
    ·simp only [qAO,qB5,or_false,not_or];exact ⟨qAV (qBy _),qA4 hls⟩
    ·intro s1 mv g;obtain ⟨h1,g1,d1,tk1,os1⟩:=s1;have e1:g1=s.gens:=mv.gens;have e2:d1=s.drawn:=mv.drawn;have e3:os1=s.os:=mv.os;subst e1 e2 e3;show wpAny _ _ _ _ _ _;refine qAE (qAE ⟨rfl,h1,tk1,rfl,mv.toks,g,fun b o q=>?_⟩);have:=qAL q
     exact mv.heap b o (by
      simp only [qAO,qB5,or_false,not_or];exact ⟨qAV this,qAV (qBn this)⟩) (qAJ _ (qAJ _ q))
   ·cases r2 with
    | error e=>exact hr2
    | ok f2 =>
     cases f2 with
     | ret r =>
      obtain ⟨rfl,h',tk,rfl,q1,q2,q3⟩:=hr2
      repeat (any_goals (first| assumption| wp_step))
      exact h _ _ q1 q2 q3
     | _=>exact hr2.elim
  | _=>exact hr.elim
theorem w_mkset {l:Addr} {its:Array Value} {ks:List (List K×Addr)} {Q:Value->Shared->Prop} (hh:A.handled=none) (hu:A.units+8<cLine) (hl:s.heap.IsList l its) (ei:its.toList=ks.map fun p=>.ref p.2) (ky:∀p∈ks,IsTupleKey knd s.heap p.1 p.2) (hc:ks.length<=306)
  (h:∀(h':Heap) (tk:Nat),s.toks<=tk->Got knd h' s.heap.objs.size ks->(∀b o,s.heap.get? b=some o->h'.get? b=some o)->Q (.ref s.heap.objs.size) {s with heap:=h',toks:=tk}) :
  wpAny (model prog w) A (call (.type "set") [.ref l]) Q E s:=by
 refine w_setBy hh hl (fun A1 R s3 fp G St hv W hf hS kp st hR=>?_) h
 have ez:its.size=ks.length:=by
  have:=qAg List.length ei;simpa using this
 rw [ez] at W;refine c_fill (knd:=knd) (by lia) W s.heap.objs.size hf (fun i v hv=>?_) (fun p hp=>?_) hc ks.length 0 _ (by lia) st (Got.fresh hS) (fun p hp=>key_kept (ky p hp) fun o q=>kp _ o q) hR
 ·have:its.toList[i]?=some v:=by rw [qAq];exact hv
  rw [ei,qAe] at this
  cases hk:ks[i]? with
  | none=>rw [hk] at this;exact nomatch this
  | some p=>rw [hk] at this;exact ⟨p,rfl,(qAc this).symm⟩
 ·obtain ⟨o,_,_,ho,_⟩:=ky p hp;have:=qAL ho;simp only [qAO,qB5,or_false];exact ⟨qAV this,qAV (qBn this)⟩
end
theorem zEk:Slot "set_iterator" "__next__" "set_iterator.__next__" :=
 .of (owner:= "set_iterator") (n:= "__next__") (by rw [qCh,qCi];kernel_rfl) (by decide +kernel) (by decide +kernel) (by decide +kernel) (by first| exact .inl (by decide +kernel)| exact .inr (by decide +kernel)) (by rw [isSubtype_type];kernel_rfl)
theorem sl_self:Slot "set_iterator" "__iter__" "set_iterator.__iter__" :=
 .of (owner:= "set_iterator") (n:= "__iter__") (by rw [qCh,qCi];kernel_rfl) (by decide +kernel) (by decide +kernel) (by decide +kernel) (by first| exact .inl (by decide +kernel)| exact .inr (by decide +kernel)) (by rw [isSubtype_type];kernel_rfl)
theorem en_next:entryFor table "set_iterator.__next__" = some Builtin.«set_iterator.__next__»:=entryFor_of_fast (by kernel_rfl)
theorem en_self:entryFor table "set_iterator.__iter__" = some Builtin.«dict_keyiterator.__iter__»:=entryFor_alias (id':= "dict_keyiterator.__iter__") (by kernel_rfl) rfl (by decide +kernel) (by kernel_rfl)
theorem en_iter:entryFor table "set.__iter__" = some Builtin.«frozenset.__iter__»:=entryFor_alias (id':= "frozenset.__iter__") (by kernel_rfl) rfl (by decide +kernel) (by kernel_rfl)
theorem ar_next (a:Value):argsOk "set_iterator.__next__" ⟨[a],[]⟩:=by unfold argsOk;kernel_rfl
theorem ar_self (a:Value):argsOk "set_iterator.__iter__" ⟨[a],[]⟩:=by unfold argsOk;kernel_rfl
theorem zC4 {M:Model} {A:Around} {E:Value->Shared->Prop} {s:Shared} {c:Prop} [Decidable c] {x y:Sem α} {Q:α->Shared->Prop} (hc:¬c) (h:wpAny M A y Q E s):wpAny M A (if c then x else y) Q E s:=by rw [qAB hc];exact h
theorem zEu {M:Model} {A:Around} {E:Value->Shared->Prop} {s:Shared} {c:Prop} [Decidable c] {x y:Sem α} {Q:α->Shared->Prop} (hc:c) (h:wpAny M A x Q E s):wpAny M A (if c then x else y) Q E s:=by rw [qAC hc];exact h
theorem zFz :∀{L:List α} {i:Nat} {x:α},L[i]?=some x->(x::L.eraseIdx i).Perm L
 | [],i,x,h=>by simp at h
 | y::r,0,x,h=>by
  have:y=x:=qAc h;subst this;exact List.Perm.refl _
 | y::r,i+1,x,h=>by
  rw [qCd] at h;exact (List.Perm.swap y x _).trans (List.Perm.cons y (zFz h))
theorem pick_go (next:Nat->Nat):∀(fuel k:Nat) (left:List α) (out:Array α),left.length<=fuel->(pickOrder.go next fuel k left out).toList.Perm (out.toList++left)
 | 0,k,left,out,h=>by
  have:left=[]:=qCj.mp (Nat.le_zero.mp h);subst this;unfold pickOrder.go;rw [qBR]
 | fuel+1,k,left,out,h=>by
  unfold pickOrder.go
  cases e:left[next k % left.length]? with
  | none =>
   have:left=[]:=by
    cases left with
    | nil=>rfl
    | cons x r =>
     have:=qDc.mp e;have h2:=Nat.mod_lt (next k) (show 0<(x::r).length from Nat.succ_pos _);exact absurd h2 (qCe.mpr this)
   subst this;dsimp only;rw [qBR]
  | some x =>
   dsimp only;have p:=zFz e;have hl:=p.length_eq;rw [qAa] at hl;refine (pick_go next fuel (k+1) _ _ (by lia)).trans ?_;rw [qCb,qCY];exact List.Perm.append_left _ p
theorem pick_perm (next:Nat->Nat) (xs:Array α):(pickOrder next xs).toList.Perm xs.toList:=by
 have:=pick_go next xs.size 0 xs.toList #[] (by simp);show (pickOrder.go next xs.size 0 xs.toList #[]).toList.Perm _;simpa using this
section
variable {prog:Program} {w:World} {K:Type} [DecidableEq K] {knd:KeyKind prog w K} {A:Around} {E:Value->Shared->Prop}
theorem w_choose {s:Shared} {src:Source} {n:Nat} (hn:n≠0) {Q:Nat->Shared->Prop} (h:∀i d,i<n->Q i {s with drawn:=d}):wpAny (model prog w) A (choose src n) Q E s:=fun _ _ _=>⟨hn,h _ _ (Nat.mod_lt _ (Nat.pos_of_ne_zero hn))⟩
theorem w_draw :∀(n:Nat) (L:List α) (s:Shared) (Q:List α->Shared->Prop),L.length=n->(∀M d,M.Perm L->Q M {s with drawn:=d})->wpAny (model prog w) A (drawOrder n L) Q E s
 | 0,L,s,Q,hl,h=>by
  have:L=[]:=qCj.mp hl;subst this;unfold drawOrder;exact qAE (h [] s.drawn (List.Perm.refl _))
 | n+1,[],s,Q,hl,h=>nomatch hl
 | n+1,x::r,s,Q,hl,h=>by
  unfold drawOrder;refine qAA (w_choose (by rw [hl];exact Nat.succ_ne_zero n) fun i d hi=>?_);obtain ⟨y,ey⟩:∃y,(x::r)[i]?=some y:=⟨(x::r)[i],qAr hi⟩;rw [ey];dsimp only;have p:=zFz ey;have hl2:=p.length_eq;rw [qAa] at hl2;refine qAA (w_draw n _ _ _ (by lia) fun M d' hM=>qAE ?_);exact h (y::M) d' ((List.Perm.cons y hM).trans p)
end
def dr (es:Array (Int×Value)) (t:SetTable):Bool:=!t.plain&&decide (es.size>1)
def ItM (w:World) (h:Heap) (a:Addr) (es:Array (Int×Value)) (ep:Nat) (t:SetTable) (ord:List Value) (i:Nat) (first:Value):Prop :=
 (byt w=true/\(∃j:Nat,first= .int j 0)/\ord=(pickOrder (w.params.setOrder a ep) es).toList.map (·.2)) \/
 (byt w=false/\∃(T:Addr) (oT:Obj) (c:Nat) (pl:List Nat),first= .ref T/\h.get? T=some oT/\oT.data= .seq (pl.map fun (p:Nat)=>Value.int p 0).toArray c/\pl.Perm (List.range es.size)/\ord=pl.filterMap fun p=>(es[p]?).map (·.2)) \/
 (byt w=false/\dr es t=false/\∃slot:Nat,first= .int slot 0/\below t.place slot=i/\ord=es.toList.map (·.2))
structure ItS (w:World) (h:Heap) (I a:Addr) (es:Array (Int×Value)) (ep:Nat) (t:SetTable) (ord:List Value) (i:Nat) (o:Obj) (first:Value):Prop where
 ho:h.get? I=some o
 hc:o.cls= .type "set_iterator"
 hd:o.data= .fields #[first,.int i 0,.ref a,.int es.size 0,.int ep 0]
 hm:ItM w h a es ep t ord i first
section
variable {prog:Program} {w:World} {K:Type} [DecidableEq K] {knd:KeyKind prog w K} {A:Around} {E:Value->Shared->Prop} {s:Shared}
variable {a I:Addr} {xs:List (List K×Addr)} {o oI:Obj} {es:Array (Int×Value)} {ep i:Nat} {t:SetTable} {ord:List Value} {first:Value}
theorem below_zero (hr:Rise t.place.toList):below t.place 0=0:=by
 have B:=zEi hr 0;rcases Nat.eq_zero_or_pos (below t.place 0) with z| z
 ·exact z
 ·have hs:0<t.place.size:=qAl z B.le;have e:t.place[0]?=some t.place[0]:=by simp [hs]
  exact absurd (B.lo 0 _ z e) (qCf _)
theorem below_next (hr:Rise t.place.toList) {i j:Nat} (e:t.place[i]?=some j):below t.place (j+1)=i+1:=by
 have B:=zEi hr (j+1);have hi:i<t.place.size:=(qBp.mp e).1;have h1:i<below t.place (j+1):=qDA fun z=>by have:=B.hi i j z e;lia
 rcases Nat.lt_or_ge (i+1) (below t.place (j+1)) with z| z
 ·have hs:i+1<t.place.size:=qAl z B.le;have e2:t.place[i+1]?=some t.place[i+1]:=by simp [hs]
  have q1:=B.lo (i+1) _ z e2;have q2:=zEc hr (qBy i) e e2;lia
 ·lia
theorem ItM.perm (m:ItM w h a es ep t ord i first):ord.Perm (es.toList.map (·.2)):=by
 rcases m with ⟨_,_,rfl⟩| ⟨_,T,oT,c,pl,_,_,_,hp,rfl⟩| ⟨_,_,slot,_,_,rfl⟩
 ·exact (pick_perm _ es).map _
 ·have:=hp.filterMap fun p=>(es[p]?).map (·.2);refine this.trans (List.Perm.of_eq ?_);rw [<-List.map_filterMap];congr 1;have:=range_get es.toList;rw [qBA] at this;simpa using this
 ·exact List.Perm.refl _
theorem ItM.len (m:ItM w h a es ep t ord i first):ord.length=es.size:=by
 rw [m.perm.length_eq];simp
theorem ItS.typeIs (it:ItS w s.heap I a es ep t ord i oI first):s.TypeIs (.ref I) "set_iterator" := ⟨_,it.ho,it.hc⟩
theorem fm_at {pl:List Nat} (hp:pl.Perm (List.range es.size)) (i:Nat):(pl.filterMap fun p=>(es[p]?).map (·.2))[i]?=(pl[i]?).bind fun p=>(es[p]?).map (·.2):=by
 have hall:∀k∈pl,k<es.size:=fun k hk=>qA3.mp (hp.mem_iff.mp hk);clear hp
 induction pl generalizing i with
 | nil=>simp
 | cons k ks ih =>
  have hk:=hall k qAR;have e:es[k]?=some es[k]:=by simp [hk]
  have ih':=fun i=>ih i fun q hq=>hall q (qAP _ hq);rw [qCE,e]
  cases i with
  | zero=>simp [e]
  | succ i =>
   show (_::_)[i+1]?=_;rw [qCd,ih' i,qCd]
theorem w_item (X:SetX knd s.heap a xs o es ep t) (it:ItS w s.heap I a es ep t ord i oI first) (hne:I≠a) {v:Value} (hv:ord[i]?=some v) {Q:Option Value->Shared->Prop}
  (h:∀h' o' f',Heap.SameBut I s.heap h'->ItS w h' I a es ep t ord (i+1) o' f'->(∀T,f'= .ref T->first= .ref T)->Q (some v) {s with heap:=h'}):wpAny (model prog w) A (pyNext (.ref I)) Q E s:=by
 unfold pyNext;refine qAA (qB2 (qDB (name:=Str.ofString "__next__") it.typeIs zEk (qB6 zEk it.typeIs en_next ?_ (ar_next _))));unfold Builtin.«set_iterator.__next__»;refine qAA (m:=slotArgs "__next__" 0 _) (qAE ?_);refine qAA (wpAny_fieldsOf it.ho it.hd ?_);dsimp only;refine qAA (wpAny_setEntries_of X.ho X.hd X.fits ?_);refine zC4 (by simp) ?_;rcases it.hm with ⟨m1,⟨j,rfl⟩,m3⟩| ⟨m1,T,oT,c,pl,rfl,m3,m4,m5,m6⟩| ⟨m1,m2,slot,rfl,m4,m5⟩
 ·dsimp only;refine qAA ?_;unfold setNext;refine qAA (X.state ?_);dsimp only;refine qAA (qAA (qBW (qAE ?_)));refine zEu m1 ?_;refine zC4 (by simp) ?_;refine qAA ?_;unfold setWalk;refine qAA (X.state ?_);dsimp only;refine qAA (qAA (qBW (qAE ?_)));refine zEu m1 ?_;refine qAA (qBW (qAE (qAE ?_)))
  have e1:(pickOrder (w.params.setOrder a ep) es)[i]?.map (·.2)=some v:=by
   rw [m3,qAe] at hv;rw [<-qAq];exact hv
  obtain ⟨q,q1,q2⟩:=qBH.mp e1;subst q2;have e2:(pickOrder ((model prog w).w.params.setOrder a ep) es)[(i:Int).toNat]?=some q:=q1
  erw [e2]
  show wpAny _ _ (setField (.ref I) 0 (rawInt _) >>= _) _ _ _;refine qAA (qBg it.ho it.hd (by simp) ?_);have g1:=qBK (Obj.mapFields (·.setIfInBounds 0 (rawInt (j:Int).toNat))) it.ho (qCQ (qA7 it.hd _));refine qAA (qBg g1 (qA7 it.hd _) (by simp) ?_);refine qAE ⟨_,rfl,qAE (h _ _ _ ((qAj ..).trans (qAj ..)) ⟨qBK _ g1 (qCQ (qA7 (qA7 it.hd _) _)),?_,?_,.inl ⟨m1,⟨j,rfl⟩,m3⟩⟩ (fun T z=>nomatch z))⟩
  ·rw [qCk,qCk];exact it.hc
  ·rw [qA7 (qA7 it.hd _)];simp [rawInt]
 ·dsimp only
  have hTI:T≠I:=fun z=>by
   subst z;have:=qAc (m3.symm.trans it.ho);subst this;rw [it.hd] at m4;exact nomatch m4
  refine qAA (m:=seqItems? (.ref T)) (wpAny_seqItems m3 m4 ?_);dsimp only;rw [m6,fm_at m5] at hv;obtain ⟨p,p1,p2⟩:=Option.bind_eq_some_iff.mp hv;obtain ⟨q,q1,q2⟩:=qBH.mp p2;subst q2
  have e1:(pl.map fun (p:Nat)=>Value.int p 0).toArray[(i:Int).toNat]?=some (.int p 0):=by
   simp [p1]
  rw [e1];dsimp only;refine qAA ?_;unfold setNextDrawn;refine qAA (X.state ?_);dsimp only;refine zC4 (by simp) ?_;have e2:es[(p:Int).toNat]?=some q:=q1;rw [e2];refine qAE ?_;refine qAA (qBg it.ho it.hd (by simp) ?_);refine qAE ⟨_,rfl,qAE (h _ _ _ (qAj ..) ⟨qBK _ it.ho (qCQ (qA7 it.hd _)),(qCk ..).trans it.hc,?_,.inr (.inl ⟨m1,T,oT,c,pl,rfl,?_,m4,m5,m6⟩)⟩ (fun T z=>z))⟩
  ·rw [qA7 it.hd];simp [rawInt]
  ·exact ((qAj s.heap I _).2 T hTI).trans m3
 ·dsimp only;refine qAA ?_;unfold setNext;refine qAA (X.state ?_);dsimp only;refine qAA (qAA (qBW (qAE ?_)));refine zC4 (by show¬(byt w=true);rw [m1];decide) ?_;refine zC4 (show¬(dr es t=true) by rw [m2];decide) ?_;refine qAA (zC4 (show¬((!t.led&& !es.isEmpty)=true) by rw [X.ld,m1];simp) (qAE ?_))
  have hl:i<es.size:=by
   rw [<-it.hm.len];exact (qAf.mp hv).1
  have hl2:i<t.place.size:=by
   rw [X.ok.n,qAD,<-X.size];exact hl
  have e1:es[i]?=some es[i]:=by simp [hl]
  have e2:t.place[i]?=some t.place[i]:=by simp [hl2]
  have e3:es[i].2=v:=by
   rw [m5,qAe,qAq,e1] at hv;exact qAc hv
  have e4:below t.place (slot:Int).toNat=i:=m4;rw [e4,e1,e2];refine qAE ?_;show wpAny _ _ (setField (.ref I) 0 (rawInt _) >>= _) _ _ _;refine qAA (qBg it.ho it.hd (by simp) ?_);have g1:=qBK (Obj.mapFields (·.setIfInBounds 0 (rawInt ((t.place[i]+1:Nat):Int)))) it.ho (qCQ (qA7 it.hd _));refine qAA (qBg g1 (qA7 it.hd _) (by simp) ?_);subst e3;refine qAE ⟨_,rfl,qAE (h _ _ _ ((qAj ..).trans (qAj ..)) ⟨qBK _ g1 (qCQ (qA7 (qA7 it.hd _) _)),?_,?_,.inr (.inr ⟨m1,m2,t.place[i]+1,rfl,below_next X.ok.r e2,m5⟩)⟩ (fun T z=>nomatch z))⟩
  ·rw [qCk,qCk];exact it.hc
  ·rw [qA7 (qA7 it.hd _)];simp [rawInt]
theorem w_stop {s:Shared} {Q:Option Value->Shared->Prop} (hh:A.handled=none) (h:∀h',(∀b o,s.heap.get? b=some o->h'.get? b=some o)->Q none {s with heap:=h'}) :
  wpAny (model prog w) A.in1 (newExc (.type "StopIteration") [] >>= fun e=>(raiseNew e:Sem Fin)) (fun fin s'=>∃r,fin= .done (.ret r)/\wpAny (model prog w) A (pure (some r)) Q E s')
   (fun e s'=>wpAny (model prog w) A (isInstance e (.type "StopIteration") >>= fun b=>if b=true then pure none else throw e) Q E s') s:=by
 refine qAA ?_;simp only [newExc,newTuple];refine qAA (qCM ?_ (by size_fits));refine qAA (m:=firstArgMember _ _) (wpAny_of_eq (a:=Value.none) (by first| rfl| (simp only [firstArgMember];rfl)) ?_);refine qCM ?_ (by size_fits);simp only [raiseNew];refine qAA (wpAny_handled ?_);rw [show A.in1.handled=none from hh];refine qAA (qAE (wpAny_throw ?_));refine qAA (qDC (T:= "StopIteration") (b:=true) ⟨_,qAb _ rfl,rfl⟩ isSubtype_stop ?_);exact qAE (h _ fun b o q=>qAJ _ (qAJ _ q))
theorem w_done (hh:A.handled=none) (X:SetX knd s.heap a xs o es ep t) (it:ItS w s.heap I a es ep t ord i oI first) (hv:ord[i]?=none) {Q:Option Value->Shared->Prop}
  (h:∀h',(∀b o,b≠I->s.heap.get? b=some o->h'.get? b=some o)->Q none {s with heap:=h'}):wpAny (model prog w) A (pyNext (.ref I)) Q E s:=by
 unfold pyNext;refine qAA (qB2 (qDB (name:=Str.ofString "__next__") it.typeIs zEk (qB6 zEk it.typeIs en_next ?_ (ar_next _))));unfold Builtin.«set_iterator.__next__»;refine qAA (m:=slotArgs "__next__" 0 _) (qAE ?_);refine qAA (wpAny_fieldsOf it.ho it.hd ?_);dsimp only;refine qAA (wpAny_setEntries_of X.ho X.hd X.fits ?_);refine zC4 (by simp) ?_;have up:∀h1,Heap.SameBut I s.heap h1->∀h',(∀b o,h1.get? b=some o->h'.get? b=some o)->Q none {s with heap:=h'}:=fun h1 sb h' q=>h h' fun b o hb z=>q b o ((sb.2 b hb).trans z);rcases it.hm with ⟨m1,⟨j,rfl⟩,m3⟩| ⟨m1,T,oT,c,pl,rfl,m3,m4,m5,m6⟩| ⟨m1,m2,slot,rfl,m4,m5⟩
 ·dsimp only;refine qAA ?_;unfold setNext;refine qAA (X.state ?_);dsimp only;refine qAA (qAA (qBW (qAE ?_)));refine zEu m1 ?_;refine zC4 (by simp) ?_;refine qAA ?_;unfold setWalk;refine qAA (X.state ?_);dsimp only;refine qAA (qAA (qBW (qAE ?_)));refine zEu m1 ?_;refine qAA (qBW (qAE (qAE ?_)))
  have e1:(pickOrder (w.params.setOrder a ep) es)[i]?.map (·.2)=none:=by
   rw [m3,qAe] at hv;rw [<-qAq];exact hv
  have e2:(pickOrder ((model prog w).w.params.setOrder a ep) es)[(i:Int).toNat]?=none:=qDd.mp e1
  erw [e2]
  show wpAny _ _ (setField (.ref I) 2 Value.none >>= _) _ _ _;refine qAA (qBg it.ho it.hd (by simp) ?_);refine w_stop hh ?_;exact up _ (qAj ..)
 ·dsimp only;refine qAA (m:=seqItems? (.ref T)) (wpAny_seqItems m3 m4 ?_);dsimp only
  have e1:(pl.map fun (p:Nat)=>Value.int p 0).toArray[(i:Int).toNat]?=none:=by
   have h1:ord.length<=i:=qDc.mp hv;rw [it.hm.len] at h1;have h2:=m5.length_eq;rw [List.length_range] at h2;simp only [Int.toNat_natCast,qDe,qAe,qDd,qDc];lia
  rw [e1];dsimp only;refine qAA (qBg it.ho it.hd (by simp) ?_);have g1:=qBK (Obj.mapFields (·.setIfInBounds 0 (rawInt 0))) it.ho (qCQ (qA7 it.hd _));refine qAA (qBg g1 (qA7 it.hd _) (by simp) ?_);refine w_stop hh ?_;exact up _ ((qAj ..).trans (qAj ..))
 ·dsimp only;refine qAA ?_;unfold setNext;refine qAA (X.state ?_);dsimp only;refine qAA (qAA (qBW (qAE ?_)));refine zC4 (by show¬(byt w=true);rw [m1];decide) ?_;refine zC4 (show¬(dr es t=true) by rw [m2];decide) ?_;refine qAA (zC4 (show¬((!t.led&& !es.isEmpty)=true) by rw [X.ld,m1];simp) (qAE ?_))
  have e1:es[i]?=none:=by
   rw [m5,qAe,qAq] at hv;exact qDd.mp hv
  have e4:below t.place (slot:Int).toNat=i:=m4;rw [e4,e1];refine qAE ?_;show wpAny _ _ (setField (.ref I) 2 Value.none >>= _) _ _ _;refine qAA (qBg it.ho it.hd (by simp) ?_);refine w_stop hh ?_;exact up _ (qAj ..)
theorem w_self (it:ItS w s.heap I a es ep t ord i oI first) {Q:Value->Shared->Prop} (h:Q (.ref I) s):wpAny (model prog w) A (pyIter (.ref I)) Q E s:=by
 refine wpAny_pyIter_slot it.typeIs sl_self (qB6 sl_self it.typeIs en_self ?_ (ar_self _));show wpAny _ _ (ret (.ref I)) _ _ s;exact qAE ⟨_,rfl, "set_iterator",_,it.typeIs,zEk.lookup,h⟩
theorem SetX.typeIs (X:SetX knd s.heap a xs o es ep t):s.TypeIs (.ref a) "set" := ⟨_,X.ho,X.ex.1⟩
theorem w_iter (X:SetX knd s.heap a xs o es ep t) (hn:xs.length<=306) {Q:Value->Shared->Prop}
  (h:∀I h' d ord oI first,(∀b o,s.heap.get? b=some o->h'.get? b=some o)->s.heap.objs.size<=I->ItS w h' I a es ep t ord 0 oI first->(∀T,first= .ref T->s.heap.objs.size<=T)->Q (.ref I) {s with heap:=h',drawn:=d}):wpAny (model prog w) A (pyIter (.ref a)) Q E s:=by
 refine wpAny_pyIter_slot X.typeIs F.slot_set_iter (qB6 F.slot_set_iter X.typeIs en_iter ?_ (F.args_set_iter_1 _));unfold Builtin.«frozenset.__iter__» Builtin.Frozenset.slot0;refine qAA (qAA (m:=slotArgs "__iter__" 0 _) (qAE (qAE ?_)));dsimp only;unfold Builtin.Frozenset.sizeOf;refine qAA (qAA (wpAny_setEntries_of X.ho X.hd X.fits (qAE ?_)));unfold setDrawn;refine qAA (qAA (X.state (qAA (qAA (qBW (qAE (qAE ?_)))))));have hsz:es.size<=306:=by rw [X.size];exact hn
 by_cases c:(!byt w&&dr es t)=true
 ·refine zEu c ?_;have c1:byt w=false:=by cases z:byt w<;>simp [z] at c ⊢
  refine qAA (w_draw es.size (List.range es.size) s _ (by simp) fun pl d hp=>?_);have hpl:pl.length=es.size:=by rw [hp.length_eq];simp
  refine qAA (qCl ?_ (by rw [qAD,hpl];exact qAT hsz (by decide +kernel)));refine qAA (wpAny_setEpoch_of (qAJ _ X.ho) X.hd X.fits ?_);refine qAA (qCM (qAE ⟨_,rfl, "set_iterator",_,⟨_,qAb _ rfl,rfl⟩,zEk.lookup,?_⟩));refine h _ _ d (pl.filterMap fun p=>(es[p]?).map (·.2)) _ (.ref s.heap.objs.size) (fun b o q=>qAJ _ (qAJ _ q)) ?_ ⟨qAb _ rfl,rfl,rfl,.inr (.inl ⟨c1,_,_,_,pl,rfl,qAJ _ (qAb _ rfl),rfl,hp,rfl⟩)⟩ (fun T z=>by cases z;exact qAG _);show s.heap.objs.size<=(s.heap.push _).objs.size;rw [qBa];exact qCH _
 ·refine zC4 c ?_;refine qAA (qAE ?_);refine qAA (wpAny_setEpoch_of X.ho X.hd X.fits ?_);refine qAA (qCM (qAE ⟨_,rfl, "set_iterator",_,⟨_,qAb _ rfl,rfl⟩,zEk.lookup,?_⟩))
  cases z:byt w with
  | true =>
   exact h _ _ s.drawn ((pickOrder (w.params.setOrder a ep) es).toList.map (·.2)) _ (.int 0 0) (fun b o q=>qAJ _ q) (qAG _) ⟨qAb _ rfl,rfl,rfl,.inl ⟨z,⟨0,rfl⟩,rfl⟩⟩ (fun T z=>nomatch z)
  | false =>
   have c2:dr es t=false:=by rw [z] at c;simpa using c
   exact h _ _ s.drawn (es.toList.map (·.2)) _ (.int 0 0) (fun b o q=>qAJ _ q) (qAG _) ⟨qAb _ rfl,rfl,rfl,.inr (.inr ⟨z,c2,0,rfl,below_zero X.ok.r,rfl⟩)⟩ (fun T z=>nomatch z)
end
theorem len_set:typeLookup (.type "set") "__len__" = pure (some (.builtin "set.__len__")):=by rw [qCh,qCi];kernel_rfl
section
variable {prog:Program} {w:World} {K:Type} [DecidableEq K] {knd:KeyKind prog w K} {A:Around} {E:Value->Shared->Prop} {s:Shared}
variable {a I:Addr} {xs:List (List K×Addr)} {o oI:Obj} {es:Array (Int×Value)} {ep i:Nat} {t:SetTable} {ord:List Value} {first:Value}
def WSt (knd:KeyKind prog w K) (a I:Addr) (xs:List (List K×Addr)) (o:Obj) (es:Array (Int×Value)) (ep:Nat) (t:SetTable) (ord:List Value) (Ts:List Addr) (i:Nat) (s:Shared):Prop :=
 ∃oI first,SetX knd s.heap a xs o es ep t/\ItS w s.heap I a es ep t ord i oI first/\∀T,first= .ref T->T∈Ts
theorem w_walks (hh:A.handled=none) (a I:Addr) (hne:I≠a) (xs:List (List K×Addr)) (hx:∀p∈xs,p.2≠I) (o:Obj) (es:Array (Int×Value)) (ep:Nat) (t:SetTable) (ord:List Value) (Ts:List Addr) (hT:I∉Ts) :
  WalksS prog w A I (I::a::(xs.map (·.2)++Ts)) [I] (fun a b=>b=a) ord.length (fun i v=>ord[i]?=some v) (WSt knd a I xs o es ep t ord Ts) where
 sub:=fun b hb=>by rw [qAZ.mp hb];exact qAR
 grefl:=fun _=>rfl
 gtrans:=fun _ _ _ x y=>y.trans x
 frame:=fun i s h' tk ⟨oI,first,X,it,hf⟩ _ hk=>by
  refine ⟨oI,first,X.kept fun b o hb q=>hk b ?_ o q,⟨hk I qAR _ it.ho,it.hc,it.hd,?_⟩,hf⟩
  ·rcases hb with rfl| ⟨p,hp,rfl⟩
   ·exact qAP _ qAR
   ·exact qAP _ (qAP _ (qAv _ (qAI.mpr ⟨p,hp,rfl⟩)))
  ·rcases it.hm with m| ⟨m1,T,oT,c,pl,m2,m3,m4⟩| m
   ·exact .inl m
   ·exact .inr (.inl ⟨m1,T,oT,c,pl,m2,hk T (qAP _ (qAP _ (qAz _ (hf T m2)))) _ m3,m4⟩)
   ·exact .inr (.inr m)
 item:=fun i s Q E hi ⟨oI,first,X,it,hf⟩ hQ=>by
  refine w_item X it hne (v:=ord[i]) (by simp [hi]) fun h' o' f' sb it' hf'=>hQ _ _ (by simp [hi]) ⟨o',f',X.kept fun b o hb q=>?_,it',fun T z=>hf T (hf' T z)⟩ ⟨fun b o hb q=>(sb.2 b fun z=>hb (z▸qAR)).trans q,rfl,rfl,rfl,qAG _⟩;rcases hb with rfl| ⟨p,hp,rfl⟩
  ·exact (sb.2 _ (qAs hne)).trans q
  ·exact (sb.2 _ (hx p hp)).trans q
 done:=fun s Q E ⟨oI,first,X,it,hf⟩ hQ=>w_done hh X it (by simp) fun h' q=>hQ _ ⟨fun b o hb=>q b o fun z=>hb (z▸qAR),rfl,rfl,rfl,qAG _⟩
 self:=fun i s Q E ⟨oI,first,X,it,hf⟩ hQ=>w_self it hQ
theorem items_ord {acc:Array Value} (h:ItemsOf (fun i v=>ord[i]?=some v) acc ord.length):acc.toList=ord:=by
 refine List.ext_getElem? fun i=>?_;rw [qAq]
 cases e:acc[i]? with
 | some v=>exact (h.2 i v e).symm
 | none =>
  have:=Array.getElem?_eq_none_iff.mp e;rw [h.1] at this;exact (qDZ this).symm
theorem w_collect (hh:A.handled=none) (X:SetX knd s.heap a xs o es ep t) (hn:xs.length<=306) {Q:List Value->Shared->Prop}
  (h:∀s' vs,vs.Perm (xs.map fun p=>.ref p.2)->(∀b o,s.heap.get? b=some o->s'.heap.get? b=some o)->s'.gens=s.gens->s'.os=s.os->s.toks<=s'.toks->Q vs s'):wpAny (model prog w) A (collect (.ref a)) Q E s:=by
 unfold collect;refine qAA (wpAny_runValue (qBV F.entry_proto_collect ?_));rw [qBf F.plain_proto_collect _];change wpAny _ A.in1 (newList [] >>= fun l=>again (.builtin "list.__iadd__" ⟨[l,Value.ref a],[]⟩)) _ _ s;refine qAA (qCM ?_);refine qAE ⟨qCg F.plain_list_iadd _,qBV F.entry_list_iadd ?_⟩;rw [qBf F.plain_list_iadd _];generalize hL:s.heap.objs.size=L;have hS1:(s.heap.push {cls:=.type "list",data:=.seq ([]:List Value).toArray}).get? L=some {cls:=.type "list",data:=.seq ([]:List Value).toArray}:=by rw [<-hL];exact qAb _ rfl
 generalize hH1:s.heap.push {cls:=.type "list",data:=.seq ([]:List Value).toArray}=H1 at hS1 ⊢;have up1:∀b o,s.heap.get? b=some o->H1.get? b=some o:=fun b o q=>by rw [<-hH1];exact qAJ _ q
 have sz1:H1.objs.size=L+1:=by rw [<-hH1,qBa,hL]
 have below:∀b o,s.heap.get? b=some o->b<L:=fun b o q=>by rw [<-hL];exact qAL q
 have X1:SetX knd H1 a xs o es ep t:=X.kept fun b o _ q=>up1 b o q;have haL:a≠L:=qAV (below a _ X.ho);change wpAny _ A.in1 (Builtin.List.listExtendWith (Value.ref L) (.ref a) (.ref L)) _ _ _;unfold Builtin.List.listExtendWith;refine qAA (qC7 (T:= "set") ⟨_,X1.ho,X1.ex.1⟩ ?_);have n1:Builtin.List.listSameRef (.ref L) (.ref a)=false:=by simp [Builtin.List.listSameRef,qAs haL]
 refine zC4 (by rw [n1];decide) ?_;refine qAA (w_iter (s:={s with heap:=H1}) X1 hn fun I h2 d ord oI first up2 hI it hf=>?_);have hI:L+1<=I:=by rw [<-sz1];exact hI
 have X2:SetX knd h2 a xs o es ep t:=X1.kept fun b o _ q=>up2 b o q;refine qAA (qAy ?_);unfold Builtin.List.listLengthHint;have T2:Shared.TypeIs {s with heap:=h2,drawn:=d} (.ref a) "set" := ⟨_,X2.ho,X2.ex.1⟩;refine qAA (qCa T2 len_set ?_);generalize hid:("set.__len__" : String)=id0;dsimp only;rw [show splitId id0=some ("set", "__len__") from by subst hid;decide +kernel];subst hid;dsimp only;refine qAA (qDC (b:=true) T2 sub_set_self ?_);refine zC4 (by decide) ?_;refine zEu (by decide +kernel) ?_;refine qAA (qC7 T2 ?_);refine qAE ?_;refine zEu (by decide +kernel) ?_;refine qAA (qBG ?_);have hS2:=up2 L _ hS1;refine qAA ?_;change wpAny _ A.in1 (updateSeq L (·.push Value.none) >>= fun _=>updateSeq L (·.pop)) _ _ _;refine qAA (qCR hS2 rfl ?_);have hS3:=qBK (Obj.mapSeq (·.push Value.none)) hS2 rfl;refine qCR hS3 rfl ?_;have hS4:=qBK (Obj.mapSeq (·.pop)) hS3 rfl;dsimp only;have sb:Heap.SameBut L h2 ((h2.update L (Obj.mapSeq (·.push Value.none))).update L (Obj.mapSeq (·.pop))):=(qAj ..).trans (qAj ..);generalize hH4:(h2.update L (Obj.mapSeq (·.push Value.none))).update L (Obj.mapSeq (·.pop))=H4 at hS4 sb ⊢
 have hIa:I≠a:=fun z=>by
  have:=below a _ X.ho;rw [<-z] at this;exact absurd this (qCe.mpr (Nat.le_of_succ_le hI))
 have hxI:∀p∈xs,p.2≠I:=fun p hp z=>by
  obtain ⟨ob,_,_,q,_⟩:=X.ky p hp;have:=below _ _ q;rw [z] at this;exact absurd this (qCe.mpr (Nat.le_of_succ_le hI))
 obtain ⟨Ts,hTs,hT1⟩:∃Ts:List Addr,(∀T,first= .ref T->T∈Ts)/\∀T∈Ts,first= .ref T:=by
  cases first with
  | ref T=>exact ⟨[T],fun T' z=>by cases z;exact qAZ.mpr rfl,fun T' z=>by rw [qAZ.mp z]⟩
  | _=>exact ⟨[],(fun T z=>nomatch z),(fun T z=>nomatch z)⟩
 have hTge:∀T∈Ts,L+1<=T:=fun T hT=>by rw [<-sz1];exact hf T (hT1 T hT)
 have hTI:I∉Ts:=fun z=>by
  rcases it.hm with ⟨_,⟨j,e⟩,_⟩| ⟨_,T,oT,c,pl,e,m3,m4,_⟩| ⟨_,_,j,e,_⟩
  ·have:=(hT1 _ z).symm.trans e;exact nomatch this
  ·have:=(hT1 _ z).symm.trans e
   cases this
   have:=qAc (m3.symm.trans it.ho);subst this;rw [it.hd] at m4;exact nomatch m4
  ·have:=(hT1 _ z).symm.trans e;exact nomatch this
 have W:=w_walks (prog:=prog) (w:=w) (knd:=knd) (A:=A.in1) hh a I hIa xs hxI o es ep t ord Ts hTI
 have hLf:L∉I::a::(xs.map (·.2)++Ts):=fun z=>by
  rcases qAO.mp z with z| z
  ·rw [<-z] at hI;exact absurd hI (Nat.not_succ_le_self L)
  rcases qAO.mp z with z| z
  ·exact haL z.symm
  rcases qAW.mp z with z| z
  ·obtain ⟨p,hp,e⟩:=qAI.mp z;obtain ⟨ob,_,_,q,_⟩:=X.ky p hp;have:=below _ _ q;rw [e] at this;exact qAu _ this
  ·exact absurd (hTge _ z) (Nat.not_succ_le_self L)
 have hol:ord.length<=sizeLine:=by
  rw [it.hm.len,X.size];exact qAT hn (by decide +kernel)
 have st2:WSt knd a I xs o es ep t ord Ts 0 {s with heap:=h2,drawn:=d}:=⟨oI,first,X2,it,hTs⟩;have st4:=W.frame 0 _ H4 s.toks st2 (qAG _) fun b hb ob q=>(sb.2 b fun z=>hLf (z▸hb)).trans q;refine qAE ⟨qCg F.plain_extend_loop _,codeAny_extend_loopS W hol L hLf _ ord.length 0 _ _ _ rfl (qAX _) st4 hS4 (ItemsOf.nil _) fun s' acc c' mv hS' hacc=>?_⟩;change wpAny _ A (load L >>= _) _ _ s';refine qAA (qBx hS' ?_);refine qAE (h s' acc.toList ?_ (fun b ob q=>?_) mv.gens mv.os mv.toks)
 ·rw [items_ord hacc];refine it.hm.perm.trans (List.Perm.of_eq ?_);rw [X.el,qAt];rfl
 ·have hb:=below b ob q;refine mv.heap b ob ?_ ((sb.2 b (qAV hb)).trans (up2 b ob (up1 b ob q)));intro z;rcases qAO.mp z with z| z
  ·exact qAV hb z
  ·rw [qAZ.mp z] at hb;exact absurd hb (qCe.mpr (Nat.le_of_succ_le hI))
end
end ST
namespace ST
open PySem PyProof.Rows PySem.W
variable {vs:List Value}
abbrev sg (x:Str):List Nat:=x.cps.toList
theorem sg_inj {x y:Str} (h:sg x=sg y):x=y:=by
 cases x;cases y
 exact qAg Str.mk (Array.toList_inj.mp h)
def tlt:List Str->List Str->Bool
 | [],[]=>false
 | [],_::_=>true
 | _::_,[]=>false
 | x::r,y::q=>if x=y then tlt r q else decide (sg x<sg y)
theorem sg_tri (x y:Str):sg x<sg y\/x=y\/sg y<sg x:=by
 by_cases h1:sg x<sg y
 ·exact .inl h1
 by_cases h2:sg y<sg x
 ·exact .inr (.inr h2)
 ·exact .inr (.inl (sg_inj (List.le_antisymm (List.not_lt.mp h2) (List.not_lt.mp h1))))
theorem tlt_irr:∀a,tlt a a=false
 | []=>rfl
 | x::r=>by unfold tlt;rw [qAC rfl];exact tlt_irr r
theorem zGt:∀a b c,tlt a b=true->tlt b c=true->tlt a c=true
 | [],[],c,h1,h2=>h2
 | [],_::_,[],h1,h2=>by simp [tlt] at h2
 | [],_::_,_::_,h1,h2=>rfl
 | _::_,[],c,h1,h2=>by simp [tlt] at h1
 | x::r,y::q,[],h1,h2=>by simp [tlt] at h2
 | x::r,y::q,z::p,h1,h2=>by
  unfold tlt at h1 h2 ⊢
  by_cases e1:x=y
  ·subst e1;rw [qAC rfl] at h1
   by_cases e2:x=z
   ·subst e2;rw [qAC rfl] at h2 ⊢;exact zGt r q p h1 h2
   ·rw [qAB e2] at h2 ⊢;exact h2
  ·rw [qAB e1] at h1
   by_cases e2:y=z
   ·subst e2;rw [qAB e1];exact h1
   ·rw [qAB e2] at h2;have q1:=qAm h1;have q2:=qAm h2;have q3:=List.lt_trans q1 q2;rw [qAB fun e=>by subst e;exact List.lt_irrefl _ q3];exact qAU q3
theorem tlt_tot:∀a b,tlt a b=false->tlt b a=false->a=b
 | [],[],_,_=>rfl
 | [],_::_,h,_=>by simp [tlt] at h
 | _::_,[],_,h=>by simp [tlt] at h
 | x::r,y::q,h1,h2=>by
  unfold tlt at h1 h2
  by_cases e:x=y
  ·subst e;rw [qAC rfl] at h1 h2;rw [tlt_tot r q h1 h2]
  ·rw [qAB e] at h1;rw [qAB (qAs e)] at h2;rcases sg_tri x y with z| z| z
   ·exact absurd z (qDD h1)
   ·exact absurd z e
   ·exact absurd z (qDD h2)
theorem tlt_neg (a b c:List Str) (h:tlt a c=true):tlt a b=true\/tlt b c=true:=by
 cases h1:tlt a b with
 | true=>exact .inl rfl
 | false =>
  right
  cases h2:tlt b a with
  | true=>exact zGt b a c h2 h
  | false=>rw [<-tlt_tot a b h1 h2];exact h
@[reducible] def tupK (f:Addr->Option (List Str)):PyProof.Rows.KeyKind where
 α:=List Str
 blt:=tlt
 irrefl:=tlt_irr
 trans:=zGt
 negTrans:=tlt_neg
 total:=tlt_tot
 keyOf v:=match v with| .ref b=>f b| _=>none
 dflt:=[]
section
variable {prog:Program} {w:World} {A:Around} {E:Value->Shared->Prop} {s:Shared}
theorem zFv {ks:List Str} (h:ItemsAre (PySem.strKind prog w) ks vs):StrsAre vs ks:=by
 induction h with
 | nil=>exact .nil
 | @cons k v ks vs h1 _ ih =>
  obtain ⟨t,rfl⟩:=Value.isStrOf_shape h1;exact .cons k t ih
theorem kat_strs {b fin:Bool} {Q:Bool->Shared->Prop}:∀{xs ys:List Value} {ax ay:List Str},StrsAre xs ax->StrsAre ys ay->∀i,fin=decide (xs.length<ys.length)->Q (tlt ax ay) s->KatLex prog w A b fin Q (xs.zip ys) i s
 | _,_,_,_,.nil,.nil,i,e,h=>by subst e;exact kat_nil h
 | _,_,_,_,.nil,.cons y t hy,i,e,h=>by subst e;exact kat_nil h
 | _,_,_,_,.cons x t hx,.nil,i,e,h=>by subst e;exact kat_nil h
 | _,_,_,_,.cons x t hx,.cons y u hy,i,e,h=>by
  rw [List.zip_cons_cons];refine kat_cons (wpAny_eqBool_str ?_);unfold tlt at h
  by_cases c:x=y
  ·rw [qAC c] at h;rw [qAU c];refine kat_yes (kat_strs hx hy (i+1) ?_ h);rw [e];simp
  ·rw [qAB c] at h;rw [qAh c];refine kat_no ?_
   cases z:(b&&i==0) with
   | true=>exact oneLt_str h
   | false=>exact kat_one _ _ (lt_str h)
theorem strs_len {ss:List Str} (h:StrsAre vs ss):vs.length=ss.length:=by
 induction h with
 | nil=>rfl
 | cons _ _ _ ih=>simp [ih]
theorem tup_cmp (f:Addr->Option (List Str)) (hf:∀b k,f b=some k->IsTupleKey (PySem.strKind prog w) s.heap k b) (b:Bool):Tim.CmpOk prog w A s (tuples' b) (tupK f):=by
 intro E x y a c Q hx hy h
 cases x<;>simp only [reduceCtorEq] at hx
 cases y<;>simp only [reduceCtorEq] at hy
 obtain ⟨ox,ix,nx,x1,_,x2,x3⟩:=hf _ _ hx;obtain ⟨oy,iy,ny,y1,_,y2,y3⟩:=hf _ _ hy;exact kat_lt x1 x2 y1 y2 (kat_strs (zFv x3) (zFv y3) 0 (by simp) h)
end
theorem zIu {xs:Array Keyed} (hp:xs.Perm (pairsOf vs)):(xs.map (·.2)).toList.Perm vs:=by
 have hl:xs.toList.Perm (vs.zip vs):=by rw [<-pairsOf_toList];exact qCm.mp hp
 have:=hl.map (·.2);rw [List.map_snd_zip (qAG _)] at this
 rwa [Array.toList_map]
section
variable {prog:Program} {w:World} {A:Around} {E:Value->Shared->Prop} {s:Shared}
structure Sortable (prog:Program) (w:World) (A:Around) (κ:PyProof.Rows.KeyKind) (kd:SortKind) (vs:List Value) (s:Shared):Prop where
 cmp:Tim.CmpOk prog w A s kd κ
 kind:2<=vs.length->∀(E:Value->Shared->Prop) (Q:SortKind->Shared->Prop),Q kd s->wpAny (model prog w) A (keyKind' vs.toArray) Q E s
 has:∀v∈vs,∃k,κ.keyOf v=some k
theorem srt_heap {h:Heap} {a:Addr} {n:Nat} {out:Array Value} (ho:h.get? a=some (seqObj "list" vs.toArray n)):(∃c,(sortedHeap h a vs out).get? a=some (seqObj "list" out c))/\∀b o,b≠a->h.get? b=some o->(sortedHeap h a vs out).get? b=some o:=by
 have ha:a<h.objs.size:=qAL ho;have h1:(h.update a (Obj.mapSeq fun _=>#[])).get? a=some (seqObj "list" #[] _):=qBM ho fun _=>#[];have h2:=qAJ (seqObj "list" #[] 0) (qAJ (seqObj "tuple" vs.toArray 0) h1);refine ⟨⟨_,qBM h2 fun _=>out⟩,fun b o hb q=>?_⟩;unfold sortedHeap;rw [qBk _ _ (qAs hb)];refine qAJ _ (qAJ _ ?_);rw [qBk _ _ (qAs hb)];exact q
end
section
variable {prog:Program} {w:World} {A:Around} {E:Value->Shared->Prop} {s:Shared}
abbrev Up (h h':Heap):Prop:=∀b o,h.get? b=some o->h'.get? b=some o
end
section
variable {prog:Program} {w:World} {A:Around} {E:Value->Shared->Prop} {s:Shared}
theorem tups_sortable {ks:List (List Str×Addr)} (hv:vs.Perm (ks.map fun p=>.ref p.2)) (ky:∀p∈ks,IsTupleKey (PySem.strKind prog w) s.heap p.1 p.2) (hne:∀p∈ks,p.1≠[]) :
  Sortable prog w A (tupK fun b=>(ks.find? fun p=>p.2==b).map (·.1)) (tuples' true) vs s:=by
 have look:∀p∈ks,∃q∈ks,(ks.find? fun p'=>p'.2==p.2)=some q/\q.2=p.2:=fun p hp=>by
  cases e:ks.find? fun p'=>p'.2==p.2 with
  | none=>exact absurd (List.find?_eq_none.mp e p hp) (by simp)
  | some q=>exact ⟨q,qDY e,rfl,by simpa using List.find?_some e⟩
 refine ⟨tup_cmp _ (fun b k e=>?_) true,fun h2 E Q h=>?_,fun v hvm=>?_⟩
 ·obtain ⟨p,p1,p2⟩:=qBH.mp e;have p3:p.2=b:=by simpa using List.find?_some p1
  rw [<-p2,<-p3];exact ky p (qDY p1)
 ·have go:∀(us:List Value),(∀u∈us,∃p∈ks,u= .ref p.2)->∃fs:List Value,KatTups s.heap us fs/\fs.length=us.length/\∀f∈fs,∃x t,f= .str x t:=by
   intro us
   induction us with
   | nil=>intro _;exact ⟨[],.nil,rfl,(fun f hf=>nomatch hf)⟩
   | cons u us ih =>
    intro hu;obtain ⟨fs,t1,t2,t3⟩:=ih fun u hu'=>hu u (qAP _ hu');obtain ⟨p,hp,rfl⟩:=hu u qAR;obtain ⟨ob,its,n,q1,q2,q3,q4⟩:=ky p hp;have q5:=zFv q4;have q6:=hne p hp;generalize hk:p.1=k at q5 q6;generalize hl:its.toList=l at q5
    cases q5 with
    | nil=>exact absurd rfl q6
    | cons x t r =>
     refine ⟨.str x t::fs,.cons q1 q2 q3 ?_ t1,by simp [t2],fun f hf=>?_⟩
     ·rw [<-qAq,hl];rfl
     ·rcases qAO.mp hf with z| z
      ·exact ⟨x,t,z⟩
      ·exact t3 f z
  obtain ⟨fs,t1,t2,t3⟩:=go vs fun u hu=>by
   obtain ⟨p,hp,e⟩:=qAI.mp (hv.mem_iff.mp hu);exact ⟨p,hp,e.symm⟩
  refine kat_kind (T:=.type "str") t1 (by lia) (fun f hf=>?_) (by decide) h;obtain ⟨x,t,rfl⟩:=t3 f hf;exact .now
 ·obtain ⟨p,hp,rfl⟩:=qAI.mp (hv.mem_iff.mp hvm);obtain ⟨q,hq,e,_⟩:=look p hp;exact ⟨q.1,by show Option.map _ _=_;rw [e];rfl⟩
end
end ST
namespace L2
open PySem PySem.Spec PyProof.Rows
def TSt (P:Program) (w:World) (a:Addr) (xs:List (List Str×Addr)):HO :=
 .ext fun h=>∃o es ep t,h.get? a=some o/\o.ExactSet/\o.data= .set es ep t/\es.toList=xs.map (ST.en (PySem.strKind P w))/\ST.TOk t (xs.map fun p=>tupleKeyHash (PySem.strKind P w) p.1)/\xs.length*5<t.mask*3/\(xs.map (·.1)).Nodup/\t.led= !ST.byt w
def RowT (K:PySem.W.Frag) (H:Hp) (p:List Str×Addr):Prop:=SqT K H p.2 (p.1.map V.str)
section
variable {X:Cx} {pins:List (Addr×Obj)} {σ:St} {H:Hp} {s:Shared}
theorem zH5 {prog:Program} {w:World}:∀{ks:List Str} {its:List Value},Vals (ks.map V.str) its->ItemsAre (PySem.strKind prog w) ks its
 | [],_,.nil=>.nil
 | k::ks,_,.cons ⟨t,e⟩ r=>by
  subst e;exact .cons (by show Value.isStrOf k (.str k t)=true;simp [Value.isStrOf]) (zH5 r)
theorem Inv.rowT (I:Inv X pins σ H s) {p:List Str×Addr} (h:RowT X.K H p):IsTupleKey (PySem.strKind X.prog X.w) s.heap p.1 p.2:=by
 obtain ⟨its,r,⟨o,ho,hc,n,hd⟩,_⟩:=I.tuple h;exact ⟨o,its.toArray,n,ho,hc,hd,by simpa using zH5 r⟩
theorem vals_refs:∀{ks:List (List Str×Addr)} {its:List Value},Vals (ks.map fun p=>V.ref p.2) its->its=ks.map fun p=>Value.ref p.2
 | [],_,.nil=>rfl
 | k::ks,_,.cons e r=>by
  have e:_=Value.ref k.2:=e;subst e;rw [vals_refs r];rfl
theorem refs_vals:∀(ks:List (List Str×Addr)),Vals (ks.map fun p=>V.ref p.2) (ks.map fun p=>Value.ref p.2)
 | []=>.nil
 | k::ks=>.cons rfl (refs_vals ks)
theorem got_ok {h:Heap} {H:Hp} {a:Addr} {xs:List (List Str×Addr)} {o:Obj} {es:Array (Int×Value)} {ep:Nat} {t:SetTable} (Z:ST.SetX (PySem.strKind X.prog X.w) h a xs o es ep t):zAy X.prog X.w H h a (TSt X.prog X.w a xs) :=
 ⟨⟨o,es,ep,t,Z.ho,Z.ex,Z.hd,Z.el,Z.ok,Z.room,Z.nd,Z.ld⟩,⟨o,Z.ho⟩,fun h1 h2 ⟨o,es,ep,t,q,r⟩ k=>⟨o,es,ep,t,k o q,r⟩⟩
theorem call_setT {k:Nat} (hr:Room k X.A):zCu X (.type "set") (fun xs H Q=>∃(l:Addr) (ks:List (List Str×Addr)),xs=[.ref l]/\SqL X.K H l (ks.map fun p=>V.ref p.2)/\(∀p∈ks,RowT X.K H p)/\ks.length<=306 /\
  ∀a ys,H a=none->(∀p∈ys,p∈ks)->(∀p∈ks,p.1∈ys.map (·.1))->(ys.map (·.1)).Nodup->ys.length<=ks.length->Q (.ref a) (upd H a (TSt X.prog X.w a ys))):=by
 intro pins s σ H xs us Q I r h;obtain ⟨l,ks,rfl,hl,hk,hc,q⟩:=h;obtain ⟨u,rfl,rx⟩:=zIq r
 cases rx
 obtain ⟨its,r',pl,hz⟩:=I.list hl;have ei:=vals_refs r';refine ST.w_mkset (knd:=PySem.strKind X.prog X.w) (ks:=ks) hr.hd (by have:=hr.un;lia) pl.isList (by rw [ei]) (fun p hp=>I.rowT (hk p hp)) hc fun h' tk _ g kp=>?_;obtain ⟨ys,o,es,ep,t,Z,g1,g2,g3⟩:=g;exact ⟨.ref s.heap.objs.size,_,I.laid (t':=tk) kp (qAG _) (got_ok Z),rfl,q _ ys (I.hok.fresh (qAG _)) g1 g2 Z.nd g3⟩
theorem perm_back {α β:Type} (f:α->β):∀{vs:List β} {ks:List α},vs.Perm (ks.map f)->∃zs:List α,zs.Perm ks/\vs=zs.map f:=by
 intro vs ks h;generalize hm:ks.map f=ms at h
 induction h generalizing ks with
 | nil=>exact ⟨[],by rw [List.map_eq_nil_iff.mp hm],rfl⟩
 | @cons x l₁ l₂ _ ih =>
  cases ks with
  | nil=>exact nomatch hm
  | cons k ks =>
   rw [qAd] at hm;obtain ⟨e1,e2⟩:=List.cons.inj hm;obtain ⟨zs,p,e⟩:=ih e2;exact ⟨k::zs,.cons k p,by rw [qAd,<-e,e1]⟩
 | swap x y l =>
  match ks,hm with
  | a::b::ks,hm =>
   simp only [qAd,List.cons.injEq] at hm;obtain ⟨e1,e2,e3⟩:=hm;exact ⟨b::a::ks,.swap a b ks,by simp [e1,e2,e3]⟩
 | trans _ _ ih1 ih2 =>
  obtain ⟨zs,p,e⟩:=ih2 hm;obtain ⟨zs',p',e'⟩:=ih1 e.symm;exact ⟨zs',p'.trans p,e'⟩
end
end L2
namespace ST
section
open PySem PyProof.Rows
variable {prog:Program} {w:World} {A:Around} {s:Shared}
end
end ST
namespace L2
open PySem PySem.Spec PyProof.Rows
variable {i:Nat}{H:Hp}{a:Addr}
section
variable {X:Cx} {pins:List (Addr×Obj)} {σ:St} {H:Hp} {s:Shared}
theorem zEz:∀{xs:List Str} {its:List Value},Vals (xs.map V.str) its->StrsAre its xs
 | [],_,.nil=>.nil
 | k::ks,_,.cons ⟨t,e⟩ r=>by subst e;exact .cons k t (zEz r)
theorem zE1:∀{xs:List Str} {its:List Value},StrsAre its xs->Vals (xs.map V.str) its
 | _,_,.nil=>.nil
 | _,_,.cons y t r=>.cons ⟨t,rfl⟩ (zE1 r)
def RiseS (xs:List Str):Prop:=xs.Pairwise fun x y=>¬(ST.sg y<ST.sg x)
end
section
variable {X:Cx}
def rInsert:V->List V->Hp->VK->Prop:=fun x vs H Q=>∃l xs i y,x= .ref l/\vs=[.int i,y]/\H l=some (.lst xs)/\xs.length<sizeLine/\0<=i/\i<=xs.length/\Q .non (upd H l (.lst (xs.take i.toNat++y::xs.drop i.toNat)))
theorem mt_insert:MtM X "list.insert" rInsert:=by
 intro pins s σ H x vs v us Q I rx rv h;obtain ⟨l,xs,i,y,rfl,rfl,hH,hz,h0,h1,q⟩:=h
 cases rx
 obtain ⟨u1,u,rfl,r1,ru⟩:=rv.two;obtain ⟨t,rfl⟩:=r1;obtain ⟨z,its,n,r,hl,e⟩:=I.lstM hH;have hsl:sizeLine<2^62:=by decide +kernel
 have hfit:¬(!Builtin.List.listFitsIndex i)=true:=by
  unfold Builtin.List.listFitsIndex;have a1:-(2^63:Int)<=i:=by lia
  have a2:i<2^63:=by lia
  rw [qAU a1,qAU a2];decide
 refine qCK F.slot_list_insert ⟨_,e,rfl⟩ F.entry_list_insert (F.args_list_insert_3 _ _ _) (PySem.AutoListH.list_insert_list_int_val_1 l its.toArray n i t u hfit (by rw [qAM];lia)) ⟨e,?_⟩;refine ⟨.non,_,I.lset (its':=its.take i.toNat++u::its.drop i.toNat) hH e ?_ ((r.take _).append (.cons ru (r.drop _))) ?_,rfl,q⟩
 ·have hk:(if i<0 then (i+((its.toArray.size:Nat):Int)).toNat else min i.toNat its.toArray.size)=i.toNat:=by
   rw [qAB (by lia),qAM];lia
  show (its.toArray.extract 0 _).push u++its.toArray.extract _=_;rw [hk];apply Array.ext';rw [qC5,qCb,qB3,qB3,qCY];simp [List.extract_eq_drop_take,qBq]
 ·rw [qAo,qAa,qAY,qB1];lia
def mrg (kvs more:List (Key×V)):List (Key×V):=more.foldl (fun acc p=>putK acc p.1 p.2) kvs
theorem KV.mrg {kvs:List (Key×V)} {vs:List (Key×Value)} (r:KV kvs vs):∀{more:List (Key×V)} {ms:List (Key×Value)},KV more ms->KV (mrg kvs more) (merged vs ms):=by
 intro more ms r2;unfold L2.mrg merged;unfold KV at r2
 induction r2 generalizing kvs vs with
 | nil=>exact r
 | @cons p q l₁ l₂ h _ ih =>
  rw [qBc,qBc,h.1];exact ih (r.put q.1 h.2)
theorem mrg_len (kvs more:List (Key×V)):(mrg kvs more).length<=kvs.length+more.length:=by
 unfold mrg
 induction more generalizing kvs with
 | nil=>exact qAG _
 | cons p r ih =>
  rw [qBc,qAa];have h1:=ih (putK kvs p.1 p.2);have h2:=zEt kvs p.1 p.2;lia
def rDUpd:V->List V->Hp->VK->Prop:=fun x vs H Q=>∃a b kvs more,x= .ref a/\vs=[.ref b]/\H a=some (.dK kvs)/\H b=some (.dK more)/\a≠b/\kvs.length+more.length<=sizeLine/\Q .non (upd H a (.dK (mrg kvs more)))
theorem mt_dupd:MtR X "dict.update" rDUpd:=by
 intro pins s σ H x vs v us Q I rx rv h;obtain ⟨a,b,kvs,more,rfl,rfl,hA,hB,hne,hz,q⟩:=h
 cases rx
 obtain ⟨u,rfl,ru⟩:=rv.one
 cases ru
 obtain ⟨_,a2,vs1,a3,a4⟩:=I.hok a _ hA;obtain ⟨_,b2,vs2,b3,b4⟩:=I.hok b _ hB;have l1:kvs.length=vs1.length:=qCD a3;have l2:more.length=vs2.length:=qCD b3;refine call_meetsIn F.slot_dict_update a4.typeIs F.entry_dict_update (F.args_dict_update_2 _ _) (meets_dict_update (zA6 X.prog X.w) a b hne b2) ⟨vs1,vs2,a4,b4,by lia,fun h' d1 d2 sb=>?_⟩;have new:zAy X.prog X.w (upd H a (.dK (mrg kvs more))) h' a (.dK (mrg kvs more)):=⟨qAT (mrg_len kvs more) hz,a2,_,a3.mrg b3,d1⟩;refine ⟨.non,_,I.write (x:=a) (e:=a) (t':=s.toks) (by rw [hA];exact trivial) (.inl rfl) (fun c o hc z=>(sb.2 c hc).trans z) ?_ new,rfl,q⟩;obtain ⟨o,_,_,e,_⟩:=d1;exact ⟨o,e⟩
end
section
variable {X:Cx}
theorem op_neU (hu:X.A.units<cLine):OpR X (compareOp .NotEq) (rUnlen X.K true):=by
 intro pins s σ H x y v u Q I rx ry h;obtain ⟨a,c,xs,ys,rfl,rfl,hx,hy,hl,q⟩:=h
 cases rx
 cases ry
 obtain ⟨its,r,pl,hz⟩:=I.list hx;obtain ⟨its2,r2,pl2,hz2⟩:=I.list hy;have e1:=r.length;have e2:=r2.length;exact SeqAt.RcNeAt.lists_lengths pl.isList pl2.isList (by rw [qAM,qAM];simp;lia) hu X.prog X.w X.xe _ ⟨.bl true,H,I,rfl,q⟩
end
theorem zI7 {X:Cx} {k:Nat} (hr:Room k X.A):OpR X (compareOp .NotEq) (fun x y H Q=>rAlike X.K 8 false x y H Q\/rUnlen X.K true x y H Q):=(op_neA (hu2 hr)).either (op_neU (hu0 hr))
theorem ints_of {ns:List Int}:∀{its:List Value},Vals (ns.map V.int) its->∃xs:List (Int×Tok),its=(xs.map fun p=>Value.int p.1 p.2)/\xs.map (·.1)=ns:=by
 induction ns with
 | nil =>
  intro its r
  cases r
  exact ⟨[],rfl,rfl⟩
 | cons n ns ih =>
  intro its r
  cases r with
  | cons r1 r2 =>
   obtain ⟨t,rfl⟩:=r1;obtain ⟨xs,rfl,e⟩:=ih r2;exact ⟨(n,t)::xs,rfl,by rw [qAd,e]⟩
theorem numAt_of {xs:List (Int×Tok)} (h:i<xs.length):numAt xs.toArray i∈xs.map (·.1)/\(xs.map (·.1))[i]?=some (numAt xs.toArray i):=by
 have e:numAt xs.toArray i=(xs[i]).1:=by
  unfold numAt;rw [qDe,qAr h];rfl
 rw [e];exact ⟨qAI.mpr ⟨xs[i],qBd h,rfl⟩,by rw [qAe,qAr h];rfl⟩
section
variable {X:Cx}
theorem call_max1 (hc:X.calm=true):zCu X (.builtin "max") (fun xs H Q=>∃(p:Addr) (ns:List Int),xs=[.ref p]/\SqL X.K H p (ns.map V.int)/\ns≠[]/\∀M,M∈ns->(∀a∈ns,a<=M)->Q (.int M) H):=by
 intro pins s σ H xs us Q I rv h;obtain ⟨p,ns,rfl,hq,hne,q⟩:=h;obtain ⟨u,rfl,ru⟩:=rv.one
 cases ru
 obtain ⟨its,r,pl,hz⟩:=I.list hq;obtain ⟨xs,rfl,e⟩:=ints_of r
 have hpos:0<xs.length:=by
  have:=qDE.mpr hne;rw [<-e,qAD] at this;exact this
 have hI:s.heap.IsList p (intItems xs.toArray):=by
  have:=pl.isList
  rwa [show (xs.map fun p=>Value.int p.1 p.2).toArray=intItems xs.toArray from by unfold intItems;simp] at this
 refine max_intList (I.ok.hd hc) hI (by simpa using hpos) fun v h' tk hv hk=>?_;obtain ⟨t,rfl⟩:=intItems_at hv;obtain ⟨b1,b2⟩:=argBest_gt (numAt xs.toArray) (xs.toArray.size - 1);rw [qAM] at b1 b2;have hb:argBest (fun i j=>decide (numAt xs.toArray i>numAt xs.toArray j)) (xs.length - 1)<xs.length:=by lia
 refine ⟨.int _,H,I.kept (t':=tk) hk,⟨t,rfl⟩,q _ ?_ fun a ha=>?_⟩
 ·rw [<-e,qAM];exact (numAt_of hb).1
 ·rw [<-e] at ha;obtain ⟨i,hi,rfl⟩:=qA0.mp ha;rw [qAD] at hi;have h1:=(numAt_of hi).2;rw [qAr (by rw [qAD];exact hi)] at h1;rw [qAc h1,qAM];exact b2 i (by lia)
end
section
variable {P:Program} {w:World} {A:Around} {E:Value->Shared->Prop} {s:Shared}
theorem enum_step {e it l:Addr} {c:Int} {ys:Array Value} {x old:Value} {Q:Value->Shared->Prop} (he:IsEnum s.heap e it c old) (hi:s.heap.IsListIter it l i) (hl:s.heap.IsList l ys) (hx:ys[i]?=some x) (ne:e≠it)
  (q:∀k,IsEnumOut k e it (c+1) x s.heap.objs.size->k.IsListIter it l (i+1)->k.get? s.heap.objs.size=some {cls:=.type "tuple",data:=.seq #[.int c s.toks,x]}->k.objs.size=s.heap.objs.size+1 ->
   (∀b o,b≠e->b≠it->s.heap.get? b=some o->k.get? b=some o)->Q (.ref s.heap.objs.size) {s with heap:=k,toks:=s.toks+1}) :
  wpAny (model P w) A (Builtin.«enumerate.__next__» ⟨[.ref e],[]⟩) (fun r s'=>∃v,r= .done (.ret v)/\Q v s') E s:=by
 obtain ⟨h0,g,d,tk,os⟩:=s;have esz:e<h0.objs.size:=qAL he;show wpAny _ _ (field (Value.ref e) 2 >>= _) _ _ ⟨h0,g,d,tk,os⟩;refine qAA (qCS he rfl (x:=Value.ref it) rfl ?_);refine qAA (wpAny_nextOf_list_item hi hl hx fun k1 i1 b1=>?_);have b1:Heap.SameBut it h0 k1:=b1;have e1:IsEnum k1 e it c old:=(b1.2 e ne).trans he;show wpAny _ _ (field (Value.ref e) 3 >>= _) _ _ ⟨k1,g,d,tk,os⟩;refine qAA (qCS (s:=⟨k1,g,d,tk,os⟩) e1 rfl (x:=rawInt c) rfl ?_);show wpAny _ _ (field (Value.ref e) 4 >>= _) _ _ ⟨k1,g,d,tk,os⟩;refine qAA (qCS (s:=⟨k1,g,d,tk,os⟩) e1 rfl (x:=Value.none) rfl ?_);show wpAny _ _ (mkInt c >>= _) _ _ ⟨k1,g,d,tk,os⟩;refine qAA (wpAny_mkInt ?_);show wpAny _ _ (setField (Value.ref e) 3 (rawInt (c+1)) >>= _) _ _ ⟨k1,g,d,tk+1,os⟩;refine qAA (qCn (s:=⟨k1,g,d,tk+1,os⟩) e1 (by simp) fun k2 e2 b2=>?_);have b2:Heap.SameBut e k1 k2:=b2;have e2:IsEnum k2 e it (c+1) old:=e2;show wpAny _ _ (setField (Value.ref e) 4 Value.none >>= _) _ _ ⟨k2,g,d,tk+1,os⟩;refine qAA (qCn (s:=⟨k2,g,d,tk+1,os⟩) e2 (by simp) fun k3 e3 b3=>?_);have b3:Heap.SameBut e k2 k3:=b3;have e3:IsEnum k3 e it (c+1) old:=e3;show wpAny _ _ (newTuple [Value.int c tk,x] >>= _) _ _ ⟨k3,g,d,tk+1,os⟩;refine qAA (qCl ?_);have z3:k3.objs.size=h0.objs.size:=b3.1.trans (b2.1.trans b1.1);have i3:k3.IsListIter it l (i+1):=(i1.extBut b2.extBut ne.symm).extBut b3.extBut ne.symm;have t4:(k3.push {cls:=.type "tuple",data:=.seq #[Value.int c tk,x]}).get? h0.objs.size=some {cls:=.type "tuple",data:=.seq #[Value.int c tk,x]}:=by rw [<-z3];exact qAb _ rfl
 have z4:(k3.push {cls:=.type "tuple",data:=.seq #[Value.int c tk,x]}).objs.size=h0.objs.size+1:=by rw [qBa,z3]
 have o4:∀b o,b≠e->b≠it->h0.get? b=some o->(k3.push {cls:=.type "tuple",data:=.seq #[Value.int c tk,x]}).get? b=some o:=fun b o n1 n2 y=>qAJ _ (b3.extBut b o n1 (b2.extBut b o n1 (b1.extBut b o n2 y)));have i4:(k3.push {cls:=.type "tuple",data:=.seq #[Value.int c tk,x]}).IsListIter it l (i+1):=i3.at fun o y=>qAJ _ y;have e4:IsEnum (k3.push {cls:=.type "tuple",data:=.seq #[Value.int c tk,x]}) e it (c+1) old:=qAJ _ e3;show wpAny _ _ (Builtin.SmallTypes.ownedTupleIsFree (.ref e) >>= _) _ _ ⟨k3.push {cls:=.type "tuple",data:=.seq #[Value.int c tk,x]},g,d,tk+1,os⟩;have z3':(Shared.heap ⟨k3,g,d,tk+1,os⟩).objs.size=h0.objs.size:=z3;rw [z3'];generalize k3.push {cls:=.type "tuple",data:=.seq #[Value.int c tk,x]}=k4 at t4 z4 o4 i4 e4 ⊢;refine qAA ?_;unfold Builtin.SmallTypes.ownedTupleIsFree;refine qAA (qCS e4 rfl (x:=Value.none) rfl (qAE ?_));simp only [qBl];refine qAA (qBG ?_);refine qAA (qCS (s:=⟨k4,g,d,tk+1,os⟩) e4 rfl (x:=old) rfl ?_);refine qAA (qCn (s:=⟨k4,g,d,tk+1,os⟩) e4 (by simp) fun k5 e5 b5=>?_);have b5:Heap.SameBut e k4 k5:=b5;have e5:IsEnum k5 e it (c+1) x:=e5;refine qAA ?_;unfold Builtin.SmallTypes.ownedTupleHandOut;refine qAA (qCn (s:=⟨k5,g,d,tk+1,os⟩) e5 (by simp) fun k6 e6 b6=>?_);have b6:Heap.SameBut e k5 k6:=b6;have e6:IsEnumOut k6 e it (c+1) x h0.objs.size:=e6;refine qCn (s:=⟨k6,g,d,tk+1,os⟩) e6 (by simp) fun k7 e7 b7=>?_;have b7:Heap.SameBut e k6 k7:=b7;have e7:IsEnumOut k7 e it (c+1) x h0.objs.size:=e7;have on:∀b o,b≠e->k4.get? b=some o->k7.get? b=some o:=fun b o n y=>b7.extBut b o n (b6.extBut b o n (b5.extBut b o n y));refine qAA (qBt (qAE ⟨_,rfl,q k7 e7 (i4.at fun o y=>on it o ne.symm y) (on _ _ (qA4 esz) t4) (by rw [b7.1,b6.1,b5.1,z4]) fun b o n1 n2 y=>on b o n1 (o4 b o n1 n2 y)⟩))
theorem enum_next {e it l:Addr} {c:Int} {ys:Array Value} {x old:Value} {Q:Option Value->Shared->Prop} (he:IsEnum s.heap e it c old) (hi:s.heap.IsListIter it l i) (hl:s.heap.IsList l ys) (hx:ys[i]?=some x) (ne:e≠it)
  (q:∀k,IsEnumOut k e it (c+1) x s.heap.objs.size->k.IsListIter it l (i+1)->k.get? s.heap.objs.size=some {cls:=.type "tuple",data:=.seq #[.int c s.toks,x]}->k.objs.size=s.heap.objs.size+1 ->
   (∀b o,b≠e->b≠it->s.heap.get? b=some o->k.get? b=some o)->Q (some (.ref s.heap.objs.size)) {s with heap:=k,toks:=s.toks+1}):wpAny (model P w) A (pyNext (.ref e)) Q E s:=by
 have ty:s.TypeIs (.ref e) "enumerate" := ⟨_,he,rfl⟩;unfold pyNext;refine qAA (qB2 (qDB (name:=Str.ofString "__next__") ty qDF ?_));exact qB6 qDF ty F.entry_enumerate_next (enum_step he hi hl hx ne fun k a b c d y=>qAE (q k a b c d y)) (F.args_enumerate_next_1 _)
theorem enum_end {e it l:Addr} {c:Int} {ys:Array Value} {old:Value} {Q:Option Value->Shared->Prop} (hh:A.handled=none) (he:IsEnum s.heap e it c old) (hi:s.heap.IsListIter it l i) (hl:s.heap.IsList l ys) (hx:ys[i]?=none)
  (q:∀k,Heap.ExtBut it s.heap k->Q none {s with heap:=k}):wpAny (model P w) A (pyNext (.ref e)) Q E s:=by
 have ty:s.TypeIs (.ref e) "enumerate" := ⟨_,he,rfl⟩;unfold pyNext;refine qAA (qB2 (qDB (name:=Str.ofString "__next__") ty qDF ?_));refine qB6 qDF ty F.entry_enumerate_next ?_ (F.args_enumerate_next_1 _);show wpAny _ _ (field (Value.ref e) 2 >>= _) _ _ s;refine qAA (qCS he rfl (x:=Value.ref it) rfl ?_);refine qAA (wpAny_nextOf_list_end hh hi hl hx fun k y b ⟨o,ho,hc⟩=>?_);exact qAA (qDC (T:= "StopIteration") (b:=true) ⟨o,ho,hc⟩ isSubtype_stop (qAE (q _ b)))
end
def Ite (K:PySem.W.Frag) (a:Addr) (lo:Int):It :=
 ⟨fun i H=>∃xs x,SqL K H a xs/\xs[i]?=some x,fun i H v H'=>∃t x,v= .ref t/\H t=none/\H'=upd H t (.tup [.int (lo+i),x])/\∀xs,SqL K H a xs->xs[i]?=some x,fun i H=>∃xs,SqL K H a xs/\xs.length<=i⟩
theorem un_laid {fs ex:List Addr} {h h':Heap} {o:HO} (k:∀b u,b∉ex->h.get? b=some u->h'.get? b=some u) (hp:h.objs.size<=a) (hn:H a=none):Un fs ex H (upd H a o) h h' where
 keep:=fun b u q _ _ hx=>k b u hx q
 slot:=fun b u q _ _ hx=>⟨u.slots,k b u hx q⟩
 free:=fun b u q n _=>by rw [upd_ne (qAV (qAl (qAL q) hp))];exact n
 there:=fun b u q hx=>⟨u,k b u hx q⟩
 tups:=fun b xs q=>by rw [upd_ne (zAk q hn)];exact q
 frzs:=fun b u xs q=>by rw [upd_ne (zAk q hn)];exact q
 tbls:=fun b ps q=>⟨#[],by rw [upd_ne (zAk q hn),q];simp⟩
theorem hok_laid {P:Program} {w:World} {h h':Heap} {ex:List Addr} {o:HO} (x:HOk P w H h) (k:∀b u,b∉ex->h.get? b=some u->h'.get? b=some u) (hex:∀b∈ex,H b=none) (hp:h.objs.size<=a) (new:zAy P w (upd H a o) h' a o):HOk P w (upd H a o) h':=fun b u e=>by
 have hn:=x.fresh hp
 by_cases hb:b=a
 ·subst hb;rw [upd_same] at e;cases e;exact new
 ·rw [upd_ne hb] at e;refine (x b u e).stay (fun c v hc q=>k c v (fun z=>?_) q) (fun c q=>by rw [upd_ne (zAk q hn)];exact q) fun c xs q=>by rw [upd_ne (zAk q hn)];exact q
  have hz:=hex c z;rcases hc with y| y
  ·rw [y,e] at hz;cases hz
  ·rw [y] at hz;cases hz
theorem turn_enum {P:Program} {w:World} {K:PySem.W.Frag} {elts:List Expr} {kk:Nat} {tp:Pos} (a e it:Addr) (lo:Int) (ne:e≠it):Turn P w K (.Tuple elts kk tp) (Ite K a lo) [e,it] e (fun i h=>∃old,IsEnum h e it (lo+(i:Nat)) old/\h.IsListIter it a i) where
 mem:=by simp
 obj:=fun i h st b hb=>by
  obtain ⟨old,s1,o,s2,s3,s4⟩:=st;have cs:b=e\/b=it:=by simpa using hb
  rcases cs with z| z
  ·rw [z];exact ⟨_,s1,fun v y=>by cases y⟩
  ·rw [z];exact ⟨o,s2,fun v y=>by rw [s4] at y;cases y⟩
 keep:=fun i h h' ⟨old,s1,s2⟩ k=>⟨old,k e (by simp) _ s1,s2.at fun o y=>k it (by simp) o y⟩
 item:=by
  intro X hP hw hK hc i pins s σ H E I hf st hg;subst hP hw hK;obtain ⟨xs,x,hq,hx⟩:=hg;obtain ⟨old,s1,s2⟩:=st;obtain ⟨its,rv,p,hz⟩:=I.list hq;obtain ⟨u,hu,ru⟩:=rv.get hx;refine enum_next s1 s2 p.isList (x:=u) (by simpa using hu) ne fun k eo i1 t1 z1 o1=>?_;refine ⟨_,rfl,wpAny_letOwnedTupleGo_enum eo fun k2 e2 b2=>?_⟩;have b2:Heap.SameBut e k k2:=b2;have esz:e<s.heap.objs.size:=qAL s1;have t2:k2.get? s.heap.objs.size=some {cls:=.type "tuple",data:=.seq #[.int (lo+(i:Nat)) s.toks,u]}:=b2.extBut _ _ (qA4 esz) t1;have on:∀b o,b∉[e,it]->s.heap.get? b=some o->k2.get? b=some o:=fun b o nb y=>b2.extBut b o (fun z=>nb (by simp [z])) (o1 b o (fun z=>nb (by simp [z])) (fun z=>nb (by simp [z])) y);have hn:∀b∈[e,it],H b=none:=fun b hb=>(hf b hb).1;have new:zAy X.prog X.w (upd H s.heap.objs.size (.tup [.int (lo+(i:Nat)),x])) k2 s.heap.objs.size (.tup [.int (lo+(i:Nat)),x]):=⟨by show (2:Nat)<=sizeLine;decide,[.int (lo+(i:Nat)) s.toks,u],.cons ⟨_,rfl⟩ (.cons ru .nil),⟨_,t2,rfl,_,rfl⟩⟩
  have I2:Inv X pins σ (upd H s.heap.objs.size (.tup [.int (lo+(i:Nat)),x])) {s with heap:=k2,toks:=s.toks+1}:=I.call' (ch:=[e,it]) rfl (un_laid on (qAG _) (I.hok.fresh (qAG _))) (hok_laid I.hok on hn (qAG _) new) I.bare fun b hb=>by
   obtain ⟨_,f1,_,f3,f4,f5⟩:=hf b hb;exact ⟨f3,f1,f4,f5⟩
  refine ⟨.ref s.heap.objs.size,_,I2,rfl,⟨_,x,rfl,I.hok.fresh (qAG _),rfl,fun ys hy=>by rw [I.list_inj hy hq];exact hx⟩,⟨u,?_,i1.extBut b2.extBut ne.symm⟩,fun b hb=>?_⟩
  ·have e2:IsEnum k2 e it (lo+(i:Nat)+1) u:=e2;show IsEnum k2 e it (lo+((i+1:Nat):Int)) u;rw [show lo+((i+1:Nat):Int)=lo+(i:Nat)+1 by lia];exact e2
  ·have hb':=hn b hb
   have:b≠s.heap.objs.size:=by
    have cs:b=e\/b=it:=by simpa using hb
    rcases cs with z| z
    ·rw [z];exact qAV esz
    ·obtain ⟨o,y,_⟩:=s2;rw [z];exact qAV (qAL y)
   rw [upd_ne this];exact hb'
 done:=by
  intro X hP hw hK hc i pins s σ H E I hf st hg;subst hP hw hK;obtain ⟨xs,hq,hx⟩:=hg;obtain ⟨old,s1,s2⟩:=st;obtain ⟨its,rv,p,hz⟩:=I.list hq;obtain ⟨f0,f1,f2,f3,f4,f5⟩:=hf it (by simp);have hl:=rv.length;exact enum_end (I.ok.hd hc) s1 s2 p.isList (by simp;lia) fun h' eb=>⟨rfl,I.turned (t':=s.toks) (fun b o hb y=>eb b o hb y) f0 f1 f3 f4 f5⟩
 self:=fun _ _ _ _ _ ⟨_,st,_⟩ h=>wpAny_pyIter_enum st h
section
variable {X:Cx} {elts:List Expr} {kk:Nat} {tp:Pos}
theorem boot_enum:bootBuiltins "enumerate" = some (.type "enumerate"):=by decide +kernel
theorem enum_it {pins:List (Addr×Obj)} {σ:St} {s:Shared} {R:It->Hp->Prop} {E:Value->Shared->Prop} {lo:Int} {h':Heap} {tk:Nat} (I:Inv X pins σ H s) (he:IsEnum h' (s.heap.objs.size+1) s.heap.objs.size lo .none) (hi:h'.IsListIter s.heap.objs.size a 0)
  (k:∀b o,s.heap.get? b=some o->h'.get? b=some o) (q:R (Ite X.K a lo) H) :
  wpAny (model X.prog X.w) X.A (pyIter (.ref (s.heap.objs.size+1))) (PIE X pins σ (.Tuple elts kk tp) R) E {s with heap:=h',toks:=tk}:=by
 refine wpAny_pyIter_enum he ?_;refine ⟨s.heap.objs.size+1,[s.heap.objs.size+1,s.heap.objs.size],_,_,H,rfl,I.kept (t':=tk) k,turn_enum a (s.heap.objs.size+1) s.heap.objs.size lo (Nat.succ_ne_self _),⟨.none,by simpa using he,hi⟩,fun b hb=>?_,q⟩;have cs:b=s.heap.objs.size+1\/b=s.heap.objs.size:=by simpa using hb
 rcases cs with e| e
 ·subst e;exact I.fpOk (by lia) (I.hok.fresh (by lia))
 ·subst e;exact I.fpOk (qAG _) (I.hok.fresh (qAG _))
def iEnum (K:PySem.W.Frag) (ta:TA):TI:=fun σ H R=>ta σ H fun vs H1=>∃a,vs=[.ref a]/\(∃xs,SqL K H1 a xs)/\R (Ite K a 0) H1
theorem pi_enum {a:Expr} {ta:TA} {p pos:Pos} (hg:Gl X "enumerate") (hm:X.mg "enumerate" = none) (ha:PA X [a] ta) (hs:starEach [a] X.env=[(false,eval a X.env)]:=by rfl):PI X (.Tuple elts kk tp) (.Call (.Name "enumerate" p) [a] [] pos) (iEnum X.K ta):=by
 intro pins s σ H R I h;refine Call_ (zFe I hg hm boot_enum (qCw (thn (ha pos pins s σ H _ I h) fun us s1 ⟨vs,H1,I1,r1,q1⟩=>?_) hs rfl));obtain ⟨a,e,⟨xs,hq⟩,q⟩:=q1;subst e;obtain ⟨u,rfl,ru⟩:=r1.one
 cases ru
 obtain ⟨its,r,pl,hz⟩:=I1.list hq;exact call_enumerate_list pl.isList fun h' e1 e2 e3 e4=>enum_it (tk:=s1.toks) I1 e1 e2 e4 q
theorem for_enum {K:PySem.W.Frag} {lo:Int} {xs:List V} {g:TG} {tb:TS} {D:Ends} {σ:St} (Pv:Nat->St->Hp->Prop) (h0:Pv 0 σ H) (hl:∀i σ H,i<=xs.length->Pv i σ H->SqL K H a xs)
  (hs:∀i x σ H t,xs[i]?=some x->Pv i σ H->H t=none->g (.ref t) σ (upd H t (.tup [.int (lo+i),x])) fun σ2 H2=>tb {D with nx:=Pv (i+1),ct:=Pv (i+1),bk:=D.nx} σ2 H2) (hd:∀σ H,Pv xs.length σ H->D.nx σ H) :
  ∃W:Nat->Nat->St->Hp->Prop,(∃m,W 0 m σ H)/\∀i m σ H,W i m σ H ->
   ((Ite K a lo).stop i H/\D.nx σ H)\/((Ite K a lo).go i H/\∃N:St->Hp->Prop,(∀σ' H',N σ' H'->∃m',m'<m/\W (i+1) m' σ' H')/\∀x H',(Ite K a lo).yld i H x H'->g x σ H' fun σ2 H2=>tb {D with nx:=N,ct:=N,bk:=D.nx} σ2 H2):=by
 refine ⟨fun i m σ H=>m=xs.length - i/\i<=xs.length/\Pv i σ H,⟨xs.length,by simp,qAX _,h0⟩,?_⟩;rintro i m σ H ⟨rfl,hi,p⟩;have q:=hl i σ H hi p
 by_cases hlt:i<xs.length
 ·refine .inr ⟨⟨xs,xs[i],q,by simp [hlt]⟩,Pv (i+1),fun σ' H' p'=>⟨xs.length - (i+1),by lia,rfl,hlt,p'⟩,fun v H' y=>?_⟩;obtain ⟨t,x,rfl,hn,rfl,y⟩:=y;exact hs i x σ H t (y xs q) p hn
 ·have e:i=xs.length:=by lia
  subst e;exact .inl ⟨⟨xs,q,qAG _⟩,hd σ H p⟩
end
open AutoSeq1 (wpAny_loadPart')
end L2
namespace L2
open PySem PySem.Spec PyProof.Rows PySem.W PySem.Builtin PySem.Builtin.ObjectAttr PySem.Builtin.Getset_descriptor
end L2
namespace L2
open PySem PySem.Spec PyProof.Rows
section
variable {X:Cx}
theorem strs_all (as bs:List Str) (h:as.length=bs.length):((List.range as.length).all fun j=>eqV ((as.map V.str).getD j .non) ((bs.map V.str).getD j .non))=decide (as=bs):=by
 rw [qBQ,qA5,qBN];constructor
 ·intro q;refine List.ext_getElem h fun j h1 h2=>?_;have:=q j (qA3.mpr h1);simp [eqV,h1,h2] at this;exact this
 ·rintro rfl j hj;have hj:=qA3.mp hj;simp [eqV,hj]
theorem flat_items {A:Around} {s:Shared} {xs ys:List V} {its its2:List Value} (r:Vals xs its) (r2:Vals ys its2) (fx:xs.all zD6=true) (fy:ys.all zD6=true) (hl:xs.length=ys.length) :
  ∀j (h1:j<its.toArray.size) (h2:j<its2.toArray.size),SeqAt.EqAt A s its.toArray[j] its2.toArray[j] (eqV (xs.getD j .non) (ys.getD j .non)):=fun j h1 h2=>by
 have e1:=r.length;have e2:=r2.length;rw [qAM] at h1 h2;have hjx:xs[j]?=some (xs[j]'(by lia)):=by simp
 have hjy:ys[j]?=some (ys[j]'(by lia)):=by simp
 obtain ⟨u1,q1,ru1⟩:=r.get hjx;obtain ⟨v1,q2,rv1⟩:=r2.get hjy
 have e3:its.toArray[j]=u1:=by
  have:its[j]?=some its[j]:=by simp
  rw [this] at q1;simpa using q1
 have e4:its2.toArray[j]=v1:=by
  have:its2[j]?=some its2[j]:=by simp
  rw [this] at q2;simpa using q2
 rw [e3,e4];have g1:xs.getD j .non=xs[j]'(by lia):=by rw [qA6,hjx];rfl
 have g2:ys.getD j .non=ys[j]'(by lia):=by rw [qA6,hjy];rfl
 rw [g1,g2];exact eqAt_V ru1 rv1 (qA5.mp fx _ (qBd _)) (qA5.mp fy _ (qBd _))
def rStrs (K:PySem.W.Frag) (neg:Bool):R2:=fun x y H Q=>∃(a c:Addr) (as bs:List Str),x= .ref a/\y= .ref c/\SqL K H a (as.map V.str)/\SqL K H c (bs.map V.str)/\Q (.bl (if neg then !decide (as=bs) else decide (as=bs))) H
theorem flatS (ns:List Str):(ns.map V.str).all zD6=true:=by simp [zD6]
theorem op_neS (hu:X.A.units<cLine):OpR X (compareOp .NotEq) (rStrs X.K true):=by
 intro pins s σ H x y v u Q I rx ry h;obtain ⟨a,c,as,bs,rfl,rfl,hx,hy,q⟩:=h
 cases rx
 cases ry
 obtain ⟨its,r,pl,hz⟩:=I.list hx;obtain ⟨its2,r2,pl2,hz2⟩:=I.list hy;have e1:=r.length;have e2:=r2.length;rw [qAD] at e1 e2
 by_cases hl:as.length=bs.length
 ·refine SeqAt.RcNeAt.lists (e:=fun j=>eqV ((as.map V.str).getD j .non) ((bs.map V.str).getD j .non)) pl.isList pl2.isList (by rw [qAM,qAM];lia) hu (flat_items r r2 (flatS as) (flatS bs) (by simpa using hl)) X.prog X.w X.xe _ ?_;rw [qAM,<-e1,strs_all as bs hl];exact ⟨.bl _,H,I,rfl,q⟩
 ·rw [qAC rfl,qAh (fun z=>hl (by rw [z]))] at q;exact SeqAt.RcNeAt.lists_lengths pl.isList pl2.isList (by rw [qAM,qAM];simp;lia) hu X.prog X.w X.xe _ ⟨.bl true,H,I,rfl,q⟩
end
theorem cut_to (xs:List V) {b:Int} (h:0<=b):cutV xs none (some b)=xs.take b.toNat:=by
 obtain ⟨k,rfl⟩:∃k:Nat,b=k:=⟨b.toNat,by lia⟩;unfold cutV;rw [HT.sIx_nat,HT.sIx_none,List.drop_zero,Nat.sub_zero];show xs.take (min k xs.length)=xs.take k;rw [List.take_eq_take_min (i:=k)]
open AutoSeq1 (wpAny_loadPart')
section
variable {X:Cx}
theorem op_fdivB:OpR X (binaryOp .FloorDiv) (rI (fun _ j=>0<j/\j<10^100) fun i j=>.int (i / j)):=opI fun i j _ _ _ _ _ hc q=>by
 have h1:(0:Int)<j:=hc.1;have h2:j<10^100:=hc.2;refine floordiv_int (by lia) (by rw [Int.fdiv_eq_ediv_of_nonneg i (by lia)];exact q) (.inl (PyProof.noPylong_of_log2 ?_));have hj:j.natAbs≠0:=by lia
 rw [Nat.log2_lt hj];have:j.natAbs<10^100:=by lia
 exact qAl this (by decide +kernel)
end
end L2
namespace RV
open PySem
end RV
namespace L2
open PySem PySem.Spec PyProof.Rows
section
variable {X:Cx}
theorem rel_key {P:Program} {w:World} {k:Key} {u:Value} (h:(zA6 P w).is k u=true):RelV (kV k) u:=by
 rcases zA1 (show keyIs k u=true from h) with ⟨i,t,rfl,rfl⟩| ⟨x,t,rfl,rfl⟩
 ·exact ⟨t,rfl⟩
 ·exact ⟨t,rfl⟩
theorem kv_at:∀{kvs:List (Key×V)} {vs:List (Key×Value)} {j:Nat} {k:Key} {v:V},KV kvs vs->kvs[j]?=some (k,v)->∃u,vs[j]?=some (k,u)/\RelV v u
 | _,_,j,_,_,.nil,h=>by simp at h
 | _,_,0,k,v,.cons (a:=a) (b:=b) r _,h=>by
  have e:a=(k,v):=by simpa using h
  subst e;exact ⟨b.2,by simp;exact Prod.ext r.1.symm rfl,r.2⟩
 | _,_,j+1,k,v,.cons r rr,h=>by
  obtain ⟨u,h1,h2⟩:=kv_at rr (show _=some (k,v) by simpa using h);exact ⟨u,by simpa using h1,h2⟩
end
section
variable {X:Cx} {pins:List (Addr×Obj)} {σ:St} {H:Hp} {s:Shared} {a:Addr} {u o':HO}
theorem Inv.retell (I:Inv X pins σ H s) (e:H a=some u) (nt:∀xs,u≠.tup xs) (no:∀x,u≠.own x) (nb:∀ps,u≠.tbl ps) (nf:∀o v,X.H₀ a≠some (.frz o v)) (new:zAy X.prog X.w (upd H a o') s.heap a o'):Inv X pins σ (upd H a o') s:=by
 have ne:∀b,H b=none->b≠a:=fun b h z=>by rw [z,e] at h;cases h
 refine ⟨I.ok,I.os,I.bare,⟨I.base.keep,I.base.slot,fun b o q n x=>?_,I.base.there,fun b xs q=>?_,fun b o v q=>?_,fun b ps q=>?_⟩,I.loc,I.cell,?_,fun x c h=>?_,fun p hp=>?_,fun b o q=>?_,I.len⟩
 ·have:=I.base.free b o q n x;rw [upd_ne (ne b this)];exact this
 ·have:=I.base.tups b xs q;rw [upd_ne (fun z=>by rw [z,e] at this;exact nt xs (qAc this))];exact this
 ·have:=I.base.frzs b o v q;rw [upd_ne (fun z=>nf o v (by rw [<-z];exact q))];exact this
 ·obtain ⟨more,this⟩:=I.base.tbls b ps q;exact ⟨more,by rw [upd_ne (fun z=>by rw [z,e] at this;exact nb _ (qAc this))];exact this⟩
 ·rw [upd_ne (ne _ I.free)];exact I.free
 ·rw [upd_ne (ne _ (I.freeC x c h))];exact I.freeC x c h
 ·obtain ⟨h1,h2,h3⟩:=I.pin p hp;exact ⟨h1,by rw [upd_ne (ne _ h2)];exact h2,h3⟩
 ·by_cases z:b=a
  ·subst z;rw [upd_same] at q;cases q;exact new
  ·rw [upd_ne z] at q;refine (I.hok b o q).stay (fun c v _ y=>y) (fun c y=>?_) fun c xs y=>?_
   ·rw [upd_ne (fun z=>by rw [z,e] at y;exact no _ (qAc y))];exact y
   ·rw [upd_ne (fun z=>by rw [z,e] at y;exact nt _ (qAc y))];exact y
end
def thawE (D:Ends) (a:Addr) (o:Obj) (kvs:List (Key×V)):Ends where
 nx:=fun σ H=>H a=some (.frz o (.dK kvs))/\D.nx σ (upd H a (.dK kvs))
 rt:=fun v H=>H a=some (.frz o (.dK kvs))/\D.rt v (upd H a (.dK kvs))
 bk:=fun σ H=>H a=some (.frz o (.dK kvs))/\D.bk σ (upd H a (.dK kvs))
 ct:=fun σ H=>H a=some (.frz o (.dK kvs))/\D.ct σ (upd H a (.dK kvs))
section
variable {X:Cx}
theorem Inv.thaw {pins:List (Addr×Obj)} {σ:St} {H:Hp} {s:Shared} {a:Addr} {o:Obj} {kvs:List (Key×V)} (I:Inv X pins σ H s) (e:H a=some (.frz o (.dK kvs))) (nf:∀o v,X.H₀ a≠some (.frz o v)):Inv X pins σ (upd H a (.dK kvs)) s:=by
 obtain ⟨_,z⟩:zAy X.prog X.w H s.heap a (.frz o (.dK kvs)):=I.hok a _ e;exact I.retell e (fun _ h=>nomatch h) (fun _ h=>nomatch h) (fun _ h=>nomatch h) nf z
theorem ps_frz {st:Stmt} {t:TS} (h:PS X st t):PS X st (fun D σ H=>∃a kvs,H a=some (.dK kvs)/\∀o,t (thawE D a o kvs) σ (upd H a (.frz o (.dK kvs)))):=by
 intro pins s σ H D I ⟨a,kvs,e,q⟩;have ok:zAy X.prog X.w H s.heap a (.dK kvs):=I.hok a _ e;obtain ⟨_,_,_,_,o,_,_,ho,_⟩:=id ok
 have nf:∀o v,X.H₀ a≠some (.frz o v):=fun o v z=>by
  have:=I.base.frzs a o v z;rw [e] at this;cases this
 have I1:Inv X pins σ (upd H a (.frz o (.dK kvs))) s:=I.retell e (fun _ h=>nomatch h) (fun _ h=>nomatch h) (fun _ h=>nomatch h) nf ⟨ho,ok⟩;refine thn (h pins s σ _ _ I1 (q o)) fun f s' r=>?_
 cases f with
 | next=>obtain ⟨σ',H',I',e',d'⟩:=r;exact ⟨σ',_,I'.thaw e' nf,d'⟩
 | brk=>obtain ⟨σ',H',I',e',d'⟩:=r;exact ⟨σ',_,I'.thaw e' nf,d'⟩
 | cont=>obtain ⟨σ',H',I',e',d'⟩:=r;exact ⟨σ',_,I'.thaw e' nf,d'⟩
 | ret u=>obtain ⟨v,σ',H',I',rv,e',d'⟩:=r;exact ⟨v,σ',_,I'.thaw e' nf,rv,d'⟩
end
end L2
namespace RV
open PySem
end RV
namespace L2
open PySem PySem.Spec PyProof.Rows
theorem frz_at {X:Cx} {pins:List (Addr×Obj)} {σ:St} {H:Hp} {s:Shared} {a:Addr} {o:Obj} {kvs:List (Key×V)} (I:Inv X pins σ H s) (e:H a=some (.frz o (.dK kvs))) :
  ∃vs es ep,KV kvs vs/\o.data= .dict es ep/\es.size=kvs.length/\s.heap.DictAt (zA6 X.prog X.w) a vs ep/\(a==sysModules)=false/\kvs.length<=sizeLine/\s.heap.get? a=some o/\o.ExactDict:=by
 obtain ⟨ho,z,hd,vs,rel,o1,es,ep,y1,y2,y3,y4,y5,y6⟩:zAy X.prog X.w H s.heap a (.frz o (.dK kvs)):=I.hok a _ e;rw [ho] at y1
 cases y1
 have l1:=y5.length;have l2:=rel.length;exact ⟨vs,es,ep,rel,y3,by simp only [qBA] at l1;lia,⟨o,es,ho,y2,y3,y4,y5,y6⟩,hd,z,ho,y2⟩
def vvO (p a:Addr):HO:=.ext fun h=>h.IsValuesView p a
section
variable {X:Cx}
theorem mt_values:MtM X "dict.values" (fun x xs H Q=>∃a kvs,x= .ref a/\xs=[]/\H a=some (.dK kvs)/\∀p,H p=none->Q (.ref p) (upd H p (vvO p a))):=by
 intro pins s σ H x xs v us Q I rx rv h;obtain ⟨a,kvs,rfl,rfl,e,q⟩:=h
 cases rx
 cases rv.zero
 obtain ⟨z,hd,vs,rel,dd⟩:=dk_of I.hok e;have ty:s.TypeIs (.ref a) "dict" := dd.typeIs;refine qCF (codeAny_call_builtin qDf.plain PySem.F.entry_dict_values (qDf.check _ _ _ _ _ _ _ _ ty (PySem.F.args_dict_values_1 _) (meets_dict_values (zA6 X.prog X.w) a hd X.A (wants (EP X pins σ Q) X.xe) s ⟨⟨vs,dd⟩,?_⟩)));refine ⟨.ref s.heap.objs.size,_,I.laid (o:=vvO s.heap.objs.size a) (t':=s.toks) (fun b u y=>qAJ _ y) (qAG _) ?_,rfl,q _ (I.hok.fresh (qAG _))⟩;exact ⟨⟨_,qAb _ rfl,rfl,rfl⟩,⟨_,qAb _ rfl⟩,fun h1 h2 ⟨o,y,r⟩ k=>⟨o,k _ y,r⟩⟩
end
section
variable {X:Cx}
theorem vals_at:∀{kvs:List (Key×V)} {vs:List (Key×Value)},KV kvs vs->Vals (kvs.map (·.2)) (vs.map (·.2))
 | _,_,.nil=>.nil
 | _,_,.cons r rr=>.cons r.2 (vals_at rr)
theorem zJq (hc:X.calm=true):zCu X (.type "list") (fun xs H Q=>∃(p a:Addr) (kvs:List (Key×V)),xs=[.ref p]/\H p=some (vvO p a)/\H a=some (.dK kvs)/\∀l,H l=none->Q (.ref l) (upd H l (.lst (kvs.map (·.2))))):=by
 intro pins s σ H xs us Q I rv h;obtain ⟨p,a,kvs,rfl,ep,ea,q⟩:=h;obtain ⟨u,rfl,ru⟩:=rv.one
 cases ru
 obtain ⟨z,hd,vs,rel,dd⟩:=dk_of I.hok ea;obtain ⟨hv,_,_⟩:zAy X.prog X.w H s.heap p (vvO p a):=I.hok p _ ep;obtain ⟨o,es,ep',y1,y2,y3,y4,y5,y6⟩:=id dd;have len:=rel.length;have K0:=PySem.W.kdl_values (prog:=X.prog) (w:=X.w) (knd:=zA6 X.prog X.w) (r:=p) (d:=a) (kvs:=vs) (ep:=ep');have hok:s.heap.IsValuesView p a/\s.heap.DictAt (zA6 X.prog X.w) a vs ep':=⟨hv,o,es,y1,y2,y3,y4,y5,y6⟩;refine PySem.W.kdl_call K0 (I.ok.hd hc) hok (by lia) fun h' tk acc c' hk hS hacc=>?_;have ea':acc.toList=vs.map (·.2):=PySem.W.kdl_vals_eq acc.toList (by rw [qBA];exact hacc.1) fun j v e=>hacc.2 j v (by simpa using e);refine ⟨.ref s.heap.objs.size,_,I.laid (o:=.lst (kvs.map (·.2))) (t':=tk) hk (qAG _) ?_,rfl,q _ (I.hok.fresh (qAG _))⟩;refine ⟨by rw [qAD];exact z,vs.map (·.2),c',vals_at rel,?_⟩;rw [<-ea',Array.toArray_toList];exact hS
end
end L2
namespace ST
open PySem PyProof.Rows PySem.W
end ST
namespace L2
open PySem PySem.Spec PyProof.Rows
variable {c:Addr}
section
variable {X:Cx}
theorem op_mulB:OpR X (binaryOp .Mult) (rI (fun i j=>i.natAbs<10^100/\j.natAbs<10^100) fun i j=>.int (i*j)):=opI fun i j _ _ _ _ _ hc q=>mul_int q (by
 have h1:Builtin.Int.intBits i<=340:=PyProof.Rows.intBits_le (qAl hc.1 (by decide +kernel));have h2:Builtin.Int.intBits j<=340:=PyProof.Rows.intBits_le (qAl hc.2 (by decide +kernel))
 have h':Builtin.Int.intTooBig (Builtin.Int.intBits i+Builtin.Int.intBits j)=false:=by
  unfold Builtin.Int.intTooBig bitsLine;exact qAh (by lia)
 unfold IntMulOk;rw [h'];simp)
end
def Itk (a:Addr) (o:Obj) (kvs:List (Key×V)):It :=
 ⟨fun i H=>H a=some (.frz o (.dK kvs))/\i<kvs.length,fun i H v H'=>H'=H/\∃k x,kvs[i]?=some (k,x)/\v=kV k,fun i H=>H a=some (.frz o (.dK kvs))/\kvs.length<=i⟩
theorem turn_keys {P:Program} {w:World} {K:PySem.W.Frag} {tg:Expr} (a it:Addr) (o:Obj) (es:Array DictEntry) (ep:Nat) (kvs:List (Key×V)) (hd:o.data= .dict es ep):Turn P w K tg (Itk a o kvs) [it] it (fun i h=>h.IsKeyIter it a i kvs.length ep) where
 mem:=by simp
 obj:=fun i h ⟨o,st,c,dt⟩ b hb=>by
  have:b=it:=by simpa using hb
  subst this;exact ⟨_,st,fun v y=>by rw [dt] at y;cases y⟩
 keep:=fun i h h' st k=>st.at fun o e=>k it (by simp) o e
 item:=by
  intro X hP hw hK hc i pins s σ H E I hf st hg;subst hP hw hK;obtain ⟨e,hi⟩:=hg;obtain ⟨vs,es',ep',rel,hd',_,da,_,_,ho,_⟩:=frz_at I e;have ee:ep'=ep:=by rw [hd] at hd';cases hd';rfl
  subst ee;have len:=rel.length;have ek:kvs[i]?=some (kvs[i].1,kvs[i].2):=qAr hi;obtain ⟨v,ev,rv⟩:=kv_at rel ek;rw [len] at st;obtain ⟨f0,f1,f2,f3,f4,f5⟩:=hf it (by simp);refine wpAny_pyNext_dict_item st da ev fun key h' hk st' sb=>?_;have I1:Inv X pins σ H {s with heap:=h',toks:=s.toks}:=I.turned (t':=s.toks) (fun b o hb y=>sb.extBut b o hb y) f0 f1 f3 f4 f5;rw [<-len] at st';obtain ⟨o2,g1,g2,g3⟩:=id st';exact ⟨_,rfl,go_of (s:={s with heap:=h'}) (n:= "dict_keyiterator") g1 g2 g3 (by decide) ⟨kV kvs[i].1,H,I1,rel_key hk,⟨rfl,_,_,ek,rfl⟩,st',fun b hb=>(hf b hb).1⟩⟩
 done:=by
  intro X hP hw hK hc i pins s σ H E I hf st hg;subst hP hw hK;obtain ⟨e,hi⟩:=hg;obtain ⟨vs,es',ep',rel,hd',_,da,_,_,ho,_⟩:=frz_at I e;have ee:ep'=ep:=by rw [hd] at hd';cases hd';rfl
  subst ee;have len:=rel.length;rw [len] at st;obtain ⟨f0,f1,f2,f3,f4,f5⟩:=hf it (by simp);exact wpAny_pyNext_dict_end (I.ok.hd hc) st da (by simp;lia) fun h' eb=>⟨rfl,I.turned (t':=s.toks) (fun b o hb y=>eb b o hb y) f0 f1 f3 f4 f5⟩
 self:=fun _ _ _ _ _ st h=>wpAny_pyIter_keyiter st h
section
variable {X:Cx}
theorem pi_keys {tg o:Expr} {to:TE} (ho:PE X o to):PI X tg o (fun σ H R=>to σ H fun x H1=>∃a ob kvs,x= .ref a/\H1 a=some (.frz ob (.dK kvs))/\R (Itk a ob kvs) H1):=by
 intro pins s σ H R I h;refine thn (ho pins s σ H _ I h) fun v s1 ⟨x,H1,I1,r1,a,ob,kvs,ex,e,q⟩=>?_;subst ex
 cases r1
 obtain ⟨vs,es,ep,rel,hd,sz,da,nsys,z,hget,exd⟩:=frz_at I1 e;have len:=rel.length;refine wpAny_pyIter_dict nsys da ?_;refine ⟨s1.heap.objs.size,[s1.heap.objs.size],_,_,H1,rfl,I1.kept (t':=s1.toks) fun b o e=>qAJ _ e,turn_keys a _ ob es ep kvs hd,⟨_,qAb _ rfl,rfl,by rw [len];rfl⟩,fun b hb=>?_,q⟩;have e:b=s1.heap.objs.size:=by simpa using hb
 subst e;exact I1.fpOk (qAG _) (I1.hok.fresh (qAG _))
theorem zHq {a:Addr} {o:Obj} {kvs:List (Key×V)} {ix:List (Option Nat)} {g:TG} {tt:TT} {te:TE} {QD:Hp->Prop} {σ:St} {H1:Hp} {D:Addr} (Pv:Nat->List V->St->Hp->Prop) (h0:Pv 0 [] (zDb σ ix) (upd H1 D (.lst [])))
  (hl:∀i ys τ H,Pv i ys τ H->H a=some (.frz o (.dK kvs)))
  (hs:∀i k v ys τ H,kvs[i]?=some (k,v)->Pv i ys τ H->g (kV k) τ H fun τ' H4=>tt τ' H4 fun b H5=>if b=true then te τ' H5 fun v H6=>H6 D=some (.lst ys)/\ys.length<sizeLine/\Pv (i+1) (ys++[v]) τ' (upd H6 D (.lst (ys++[v]))) else Pv (i+1) ys τ' H5)
  (hd:∀ys τ H,Pv kvs.length ys τ H->QD H) :
  ∃W:Nat->Nat->List V->St->Hp->Prop,(∃m,W 0 m [] (zDb σ ix) (upd H1 D (.lst [])))/\∀i m ys τ H2,W i m ys τ H2 ->
   ((Itk a o kvs).stop i H2/\QD H2)\/((Itk a o kvs).go i H2/\∃N:List V->St->Hp->Prop,(∀ys' τ' H',N ys' τ' H'->∃m',m'<m/\W (i+1) m' ys' τ' H')/\∀x H3,(Itk a o kvs).yld i H2 x H3->g x τ H3 fun τ' H4=>tt τ' H4 fun b H5 =>
    if b=true then te τ' H5 fun v H6=>H6 D=some (.lst ys)/\ys.length<sizeLine/\N (ys++[v]) τ' (upd H6 D (.lst (ys++[v])))
    else N ys τ' H5):=by
 refine ⟨fun i m ys τ H=>m=kvs.length - i/\i<=kvs.length/\Pv i ys τ H,⟨kvs.length,by simp,qAX _,h0⟩,?_⟩;rintro i m ys τ H ⟨rfl,hi,p⟩
 by_cases hlt:i<kvs.length
 ·refine .inr ⟨⟨hl i ys τ H p,hlt⟩,Pv (i+1),fun ys' τ' H' p'=>⟨_,?_,rfl,hlt,p'⟩,fun x H' y=>?_⟩
  ·show kvs.length - (i+1)<kvs.length - i;lia
  ·obtain ⟨rfl,k,v,ek,rfl⟩:=y;exact hs i k v ys τ H' ek p
 ·have e:i=kvs.length:=by lia
  subst e;exact .inl ⟨⟨hl _ ys τ H p,qAG _⟩,hd ys τ H p⟩
end
def cxLam (X:Cx) (N:List Str) (qual:Str) (scope:Scope) (f:Addr) (cd:Value) (cl:List (Str×Addr)) (A:Around) (s:Shared) (H:Hp):Cx where
 prog:=X.prog
 w:=X.w
 K:=X.K
 mg:=X.mg
 base:=X.base
 A:=A.deeper (PySem.W.envX qual scope s.heap.objs.size f cd cl)
 N:=N
 s₀:=s
 H₀:=H
 env:=PySem.W.envX qual scope s.heap.objs.size f cd cl
 outer:=X.stack
 stack:=PySem.W.envX qual scope s.heap.objs.size f cd cl::X.stack
 ex:=[]
 calm:=true
 fn:=fun _=>false
 pn:=[]
 xe:=fun _ _=>False
structure LamScope (x y:Str) (sc:Scope):Prop where
 kind:sc.kind= .function
 co:sc.isCoroutine=false
 gen:sc.isGenerator=false
 px:sc.names.lookup x=some .local
 fy:sc.names.lookup y=some .free
 nocell:∀z∈sc.names,z.2≠.cell
 onlyy:∀z∈sc.names,z.2= .free->z.1=y
section
variable {X:Cx} {pins:List (Addr×Obj)} {σ:St} {H:Hp} {s:Shared}
theorem zGb {h h':Heap} {v:Option Value} (x:h.IsCell c v) (k:∀b o,h.get? b=some o->h'.get? b=some o):h'.IsCell c v:=by
 obtain ⟨o,e,r⟩:=x;exact ⟨o,k _ _ e,r⟩
theorem look1 {y z:Str} {d:Addr} (h:([(y,c)]:List (Str×Addr)).lookup z=some d):z=y/\d=c:=by
 rw [qBI] at h
 cases e:(z==y) with
 | true=>rw [e] at h;cases h;exact ⟨by simpa using e,rfl⟩
 | false=>rw [e] at h;cases h
theorem inv_lam {A:Around} {f c:Addr} {cd:Value} {qual x y:Str} {scope:Scope} {vx vy:V} {ux uy:Value} {h₁:Heap} {tk:Nat} (I:Inv X pins σ H s) (hA:A.frames=some X.stack) (hh:A.handled=none) (S:LamScope x y scope) (ne:x≠y)
  {y':Str} (hy:X.env.cells.lookup y'=some c) (iy:s.heap.IsCell c (some uy)) (ry:RelV vy uy) (rx:RelV vx ux) (hns:h₁.Ns s.heap.objs.size (fun z=>([(x,ux)]:List (Str×Value)).reverse.lookup z)) (hk:∀b o,s.heap.get? b=some o->h₁.get? b=some o) :
  Inv (cxLam X [x,y] qual scope f cd [(y,c)] A s H) [] [some vx,some vy] H {s with heap:=h₁,toks:=tk}:=by
 have e0:=I.env0;have noA:∀b:Addr,b∉(cxLam X [x,y] qual scope f cd [(y,c)] A s H).ex:=fun b z=>absurd (show b∈([]:List Addr) from z) (by simp);have hc0:=I.freeC y' c hy
 refine ⟨⟨e0.mod,S.kind,rfl,rfl,qAG _,fun a b d h1 h2=>?_,fun z hz=>?_,fun z d h _=>Bool.noConfusion h,fun _=>hh,Around.frames_deeper hA,.inr ⟨rfl,rfl⟩,fun b z=>absurd z (noA b),e0.bs,e0.bsz,fun b _ _=>noA b,fun b z=>absurd z (noA b),e0.funs,e0.frf⟩,
  rfl,e0.bare,Un.kept hk,⟨_,hns,fun i z v h1 h2 h3=>?_⟩,fun z d h=>?_,e0.hok.fresh (qAG _),fun z d h=>?_,fun p hp=>absurd (show p∈([]:List (Addr×Obj)) from hp) (by simp),e0.hok.kept hk,rfl⟩
 ·rw [(look1 h1).1,(look1 h2).1]
 ·have hz:scope.names.lookup z=some .cell\/scope.names.lookup z=some .free:=hz;rcases hz with hz| hz
  ·exact absurd rfl (S.nocell _ (qBh hz))
  ·have:z=y:=S.onlyy _ (qBh hz) rfl;subst this;exact ⟨c,by show ([(z,c)]:List (Str×Addr)).lookup z=some c;simp⟩
 ·match i,h1,h2 with
  | 0,h1,h2 =>
   have h1:some x=some z:=h1;have h2:some (some vx)=some (some v):=h2
   cases h1
   cases h2
   exact ⟨ux,rx,.inl ⟨S.px,by simp⟩⟩
  | 1,h1,h2 =>
   have h1:some y=some z:=h1;have h2:some (some vy)=some (some v):=h2
   cases h1
   cases h2
   exact ⟨uy,ry,.inr ⟨.inr S.fy,c,by show ([(y,c)]:List (Str×Addr)).lookup y=some c;simp,zGb iy hk⟩⟩
  | n+2,h1,_=>exact absurd (show ([]:List Str)[n]?=some z from h1) (by simp)
 ·obtain ⟨_,rfl⟩:=look1 h;exact ⟨_,zGb iy hk⟩
 ·obtain ⟨_,rfl⟩:=look1 h;exact hc0
theorem lam_call {A:Around} {f c':Addr} {qual x y:Str} {params:Arguments} {body:Expr} {scope:Scope} {pm ctv:Value} {vx vy:V} {ux uy:Value} {te:TE} {Q:VK} (I:Inv X pins σ H s) (hA:A.frames=some X.stack) (hh:A.handled=none) (room:A.depth<recursionLimit)
  (ho:s.heap.get? f=some (PySem.W.kla_obj "<lambda>" qual params body scope [(y,c)] pm c' ctv)) (hcd:s.heap.CodeRec (.ref c') qual) (S:LamScope x y scope) (ne:x≠y)
  (hb:bindArgs (PySem.W.kla_fn "<lambda>" qual params body scope [(y,c)] pm (.ref c') ctv) ⟨[ux],[]⟩=pure [(x,ux)])
  {y':Str} (hy:X.env.cells.lookup y'=some c) (iy:s.heap.IsCell c (some uy)) (ry:RelV vy uy) (rx:RelV vx ux)
  (ht:PE (cxLam X [x,y] qual scope f (.ref c') [(y,c)] A s H) body te) (hq:te [some vx,some vy] H Q) :
  wpAny (model X.prog X.w) A (call (.ref f) [ux]) (CE X.stack X.prog X.w H s Q) (fun _ _=>False) s:=by
 refine qCF (PySem.W.kla_callFunE room ho rfl S.co S.gen rfl hcd ?_);rw [hb];refine qAE (wpAny_newFunctionEnv S.nocell (fun z hz=>?_) (fun h₁ hns hsb=>⟨I.nolimit.fresh _ hsb,?_⟩) S.kind)
 ·have:z=(x,ux):=by simpa using hz
  subst this;exact S.px
 ·show codeAny _ _ (.expr body (PySem.W.envX qual scope s.heap.objs.size f (.ref c') [(y,c)])) _ _;have hk₁:∀b o,s.heap.get? b=some o->h₁.get? b=some o:=fun b o e=>hsb.extBut b o (qAV (qAL e)) (qAJ _ e);have J:=inv_lam (qual:=qual) (f:=f) (cd:=.ref c') (tk:=s.toks+[(x,ux)].length) I hA hh S ne hy iy ry rx hns hk₁;refine PySem.W.kla_codeExpr (qAp (ht [] _ _ H _ J hq) (fun v s' hs=>?_) fun _ _ h=>h.elim);obtain ⟨v',H',J',rv,q⟩:=hs;exact ⟨v',H',J'.os,J'.bare,J'.base,J'.hok,rv,q⟩
end
end L2
namespace ST
open PySem PyProof.Rows
end ST
namespace L2
open PySem PySem.Spec PyProof.Rows
variable {qual:Str}
def zGi (mg:Str->Option Value) (h:Heap):Prop:=∃bm o,mg "__builtins__" = some (.ref bm)/\bm≠builtinsNs/\h.get? bm=some o/\o.cls= .type "module" /\o.dict=some builtinsNs/\o.data= .plain
def zFh (c:Addr) (qual:Str):HO:=.ext fun h=>h.CodeRec (.ref c) qual
def Tab1 (H:Hp) (P:Addr) (qual:Str) (pos:Pos):Prop:=∃c',H P=some (.tbl #[rawInt pos.line,rawInt pos.col,.ref c'])/\H c'=some (zFh c' qual)
def Tab0 (H:Hp) (P:Addr) (qual:Str) (pos:Pos):Prop:=H P=some (.tbl #[])\/Tab1 H P qual pos
section
variable {X:Cx} {pins:List (Addr×Obj)} {σ:St} {H:Hp} {s:Shared}
theorem codeO_rec (I:Inv X pins σ H s) {c:Addr} (e:H c=some (zFh c qual)):s.heap.CodeRec (.ref c) qual:=by
 obtain ⟨x,_,_⟩:zAy X.prog X.w H s.heap c (zFh c qual):=I.hok c _ e;exact x
theorem codeO_ok {P:Program} {w:World} {c:Addr} {h:Heap} (x:h.CodeRec (.ref c) qual):zAy P w H h c (zFh c qual):=by
 refine ⟨x,?_,fun h1 h2 y k=>?_⟩
 ·obtain ⟨d,o,vs,t,e,g,_⟩:=x
  cases e
  exact ⟨o,g⟩
 ·obtain ⟨d,o,vs,t,e,g,r⟩:=y
  cases e
  exact ⟨c,o,vs,t,rfl,k o g,r⟩
theorem among1 (pos:Pos) (c:Addr):codeAmong pos [rawInt pos.line,rawInt pos.col,.ref c]=some (.ref c):=by
 unfold rawInt codeAmong;simp
theorem lam_make {E:Value->Shared->Prop} {params:Arguments} {body:Expr} {scope:Scope} {clos:List (Str×Addr)} {c0 P:Addr} {pos:Pos} {Q:Value->Shared->Prop} (I:Inv X pins σ H s) (hcl:closureFor scope X.env=pure clos) (hcode:X.env.code= .ref c0) (C:PySem.W.CodeHd X.base c0 P) (B:zGi X.mg X.base) (T:Tab0 H P qual pos)
  (h:∀f c' ctv pm H2 s2,Inv X pins σ H2 s2->Kp [P] H H2->Tab1 H2 P qual pos->H2 c'=some (zFh c' qual)->s2.heap.get? f=some (PySem.W.kla_obj "<lambda>" qual params body scope clos pm c' ctv)->FpOk X pins H2 f->Q (.ref f) s2) :
  wpAny (model X.prog X.w) X.A (makeFunction "<lambda>" qual params (.expr body) scope X.env [] [] [] pos pos.line) Q E s:=by
 obtain ⟨bm,ob,b1,b2,b3,b4,b5,b6⟩:=B
 have tbl:∃ps,H P=some (.tbl ps):=by
  rcases T with e| ⟨c',e,_⟩
  ·exact ⟨_,e⟩
  ·exact ⟨_,e⟩
 obtain ⟨ps0,eP⟩:=tbl;have pP:s.heap.get? P=some (PySem.W.tabObj ps0):=I.hok P _ eP;have hgs:s.heap.Ns mainGlobals X.mg:=I.mod.glob.keeps I.bk
 have hgP:mainGlobals≠P:=fun q=>by
  obtain ⟨o,es,ep,e,hd,_⟩:=hgs;rw [q,pP] at e;cases e;cases hd
 have hbP:bm≠P:=fun q=>by
  have e:=I.bk _ _ b3;rw [q,pP] at e;cases e;cases b4
 have hbG:bm≠mainGlobals:=fun q=>by
  obtain ⟨o,es,ep,e,hd,_⟩:=I.mod.glob;rw [q,e] at b3;cases b3;rw [hd] at b6;cases b6
 have hB:s.heap.BuiltinsAt X.mg P:=⟨bm,ob,b1,b2,hbG,hbP,I.bk _ _ b3,b4,b5,b6⟩;rcases T with e| ⟨c',e,ec⟩
 ·rw [e] at eP
  cases eP
  refine PySem.W.kla_makeFunction (mg:=X.mg) hcl I.ok.glob hgs hcode (C.keeps I.bk) pP trivial rfl hgP hB fun c' ctv h' tk hx hge hlt hrec htb=>?_;have htb:h'.get? P=some (PySem.W.tabObj #[rawInt pos.line,rawInt pos.col,.ref c']):=by simpa using htb
  have fc:H c'=none:=I.hok.fresh hge;have nPc:c'≠P:=fun z=>by rw [z,e] at fc;cases fc
  have hk:∀b o,b≠P->s.heap.get? b=some o->(h'.push (PySem.W.kla_obj "<lambda>" qual params body scope clos ((X.mg "__name__").getD .none) c' ctv)).get? b=some o:=fun b o n q=>qAJ _ (hx b o n q);have nP:∀b,H b=none->b≠P:=fun b n z=>by rw [z,e] at n;cases n
  have old:∀b,b≠P->b≠c'->upd (upd H P (.tbl #[rawInt pos.line,rawInt pos.col,.ref c'])) c' (zFh c' qual) b=H b:=fun b n1 n2=>by rw [upd_ne n2,upd_ne n1]
  have eP2:upd (upd H P (.tbl #[rawInt pos.line,rawInt pos.col,.ref c'])) c' (zFh c' qual) P=some (.tbl #[rawInt pos.line,rawInt pos.col,.ref c']):=by rw [upd_ne nPc.symm,upd_same]
  have ec2:upd (upd H P (.tbl #[rawInt pos.line,rawInt pos.col,.ref c'])) c' (zFh c' qual) c'=some (zFh c' qual):=upd_same
  have un:Un (frs X.stack) [] H (upd (upd H P (.tbl #[rawInt pos.line,rawInt pos.col,.ref c'])) c' (zFh c' qual)) s.heap (h'.push (PySem.W.kla_obj "<lambda>" qual params body scope clos ((X.mg "__name__").getD .none) c' ctv)):=by
   refine ⟨fun b o q n _ _=>hk b o (nP b n) q,fun b o q n _ _=>⟨o.slots,hk b o (nP b n) q⟩,fun b o q n _=>?_,fun b o q _=>?_,fun b xs q=>?_,fun b o u q=>?_,fun b ps q=>?_⟩
   ·rw [old b (nP b n) (qAV (qAl (qAL q) hge))];exact n
   ·by_cases z:b=P
    ·rw [z];exact ⟨_,qAJ _ htb⟩
    ·exact ⟨o,hk b o z q⟩
   ·rw [old b (fun z=>by rw [z,e] at q;cases q) (fun z=>by rw [z,fc] at q;cases q)];exact q
   ·rw [old b (fun z=>by rw [z,e] at q;cases q) (fun z=>by rw [z,fc] at q;cases q)];exact q
   ·by_cases z:b=P
    ·rw [z,e] at q
     cases q
     exact ⟨#[rawInt pos.line,rawInt pos.col,.ref c'],by rw [z,eP2];simp⟩
    ·exact ⟨#[],by rw [old b z (fun z=>by rw [z,fc] at q;cases q),q];simp⟩
  have hok:HOk X.prog X.w (upd (upd H P (.tbl #[rawInt pos.line,rawInt pos.col,.ref c'])) c' (zFh c' qual)) (h'.push (PySem.W.kla_obj "<lambda>" qual params body scope clos ((X.mg "__name__").getD .none) c' ctv)):=fun b o q=>by
   by_cases z1:b=c'
   ·subst z1;rw [ec2] at q;cases q;obtain ⟨d,oc,vs,t,e3,g,r⟩:=hrec;exact codeO_ok ⟨d,oc,vs,t,e3,qAJ _ g,r⟩
   ·by_cases z2:b=P
    ·subst z2;rw [eP2] at q;cases q;exact qAJ _ htb
    ·rw [old b z2 z1] at q;refine (I.hok b o q).stay (fun c v hc y=>hk c v (fun z=>?_) y) (fun c y=>?_) fun c xs y=>?_
     ·rcases hc with hc| hc
      ·exact z2 (hc.symm.trans z)
      ·rw [z,e] at hc;cases hc
     ·rw [old c (fun z=>by rw [z,e] at y;cases y) (fun z=>by rw [z,fc] at y;cases y)];exact y
     ·rw [old c (fun z=>by rw [z,e] at y;cases y) (fun z=>by rw [z,fc] at y;cases y)];exact y
  have J:Inv X pins σ (upd (upd H P (.tbl #[rawInt pos.line,rawInt pos.col,.ref c'])) c' (zFh c' qual)) {s with heap:=h'.push (PySem.W.kla_obj "<lambda>" qual params body scope clos ((X.mg "__name__").getD .none) c' ctv),toks:=tk}:=I.call' rfl un hok I.bare fun b z=>nomatch z
  have kp:Kp [P] H (upd (upd H P (.tbl #[rawInt pos.line,rawInt pos.col,.ref c'])) c' (zFh c' qual)):=fun b o q n=>by
   rw [old b (fun z=>n (by simp [z])) (fun z=>by rw [z,fc] at q;cases q)];exact q
  have fs:s.heap.objs.size<=h'.objs.size:=qAT hge (qBu hlt)
  have ff:upd (upd H P (.tbl #[rawInt pos.line,rawInt pos.col,.ref c'])) c' (zFh c' qual) h'.objs.size=none:=by
   have n1:h'.objs.size≠P:=fun z=>by
    have:=qAL htb;rw [<-z] at this;exact qAu _ this
   rw [old _ n1 (qA4 hlt)];exact I.hok.fresh fs
  exact h h'.objs.size c' ctv _ _ _ J kp ⟨c',eP2,ec2⟩ ec2 (qAb _ rfl) (I.fpOk fs ff)
 ·rw [e] at eP
  cases eP
  refine PySem.W.kla_makeFunctionHit (mg:=X.mg) hcl I.ok.glob hgs hcode (C.keeps I.bk) pP trivial (among1 pos c') hB fun ctv h' tk hk hsz=>?_;have J:Inv X pins σ H {s with heap:=h'.push (PySem.W.kla_obj "<lambda>" qual params body scope clos ((X.mg "__name__").getD .none) c' ctv),toks:=tk}:=I.kept fun b o q=>qAJ _ (hk b o q);exact h h'.objs.size c' ctv _ _ _ J Kp.refl ⟨c',e,ec⟩ ec (qAb _ rfl) (I.fpOk hsz (I.hok.fresh hsz))
end
section
variable {X:Cx} {pins:List (Addr×Obj)} {σ:St} {H:Hp} {s:Shared}
theorem Inv.adopt {a:Addr} {o':HO} (I:Inv X pins σ H s) (f:FpOk X pins H a) (new:zAy X.prog X.w (upd H a o') s.heap a o'):Inv X pins σ (upd H a o') s:=by
 obtain ⟨f0,f1,f2,f3,f4,f5⟩:=f;have ne:∀b u,H b=some u->b≠a:=fun b u q z=>by rw [z,f0] at q;cases q
 refine ⟨I.ok,I.os,I.bare,⟨I.base.keep,I.base.slot,fun b o q n x=>?_,I.base.there,fun b xs q=>?_,fun b o v q=>?_,fun b ps q=>?_⟩,I.loc,I.cell,?_,fun x c h=>?_,fun p hp=>?_,fun b o q=>?_,I.len⟩
 ·have:=I.base.free b o q n x
  have nb:b≠a:=fun z=>by
   rcases f3 with y| y
   ·exact x (by rw [z];exact y)
   ·exact absurd (qAl (qAL q) (by rw [z];exact y)) (qAu _)
  rw [upd_ne nb];exact this
 ·have:=I.base.tups b xs q;rw [upd_ne (ne b _ this)];exact this
 ·have:=I.base.frzs b o v q;rw [upd_ne (ne b _ this)];exact this
 ·obtain ⟨more,this⟩:=I.base.tbls b ps q;exact ⟨more,by rw [upd_ne (ne b _ this)];exact this⟩
 ·rw [upd_ne f1.symm];exact I.free
 ·rw [upd_ne (f4 x c h)];exact I.freeC x c h
 ·obtain ⟨h1,h2,h3⟩:=I.pin p hp;exact ⟨h1,by rw [upd_ne (f5 p hp)];exact h2,h3⟩
 ·by_cases z:b=a
  ·subst z;rw [upd_same] at q;cases q;exact new
  ·rw [upd_ne z] at q;refine (I.hok b o q).stay (fun c v _ y=>y) (fun c y=>?_) fun c xs y=>?_
   ·rw [upd_ne (ne c _ y)];exact y
   ·rw [upd_ne (ne c _ y)];exact y
theorem FpOk.nstk {b:Addr} (I:Inv X pins σ H s) (f:FpOk X pins H b):b∉frs X.stack:=fun z=>by
 obtain ⟨f0,f1,f2,_⟩:=f;rcases qAO.mp (I.stkSub b z) with y| y
 ·exact f1 y
 ·exact f2 y
theorem Inv.cellAt {iy:Nat} {y:Str} {c:Addr} {vy:V} (I:Inv X pins σ H s) (hN:X.N[iy]?=some y) (hσ:σ[iy]?=some (some vy)) (hk:X.env.kindOf y=some .cell) (hy:X.env.cells.lookup y=some c):∃u,RelV vy u/\s.heap.IsCell c (some u):=by
 obtain ⟨m,_,l⟩:=I.loc;obtain ⟨u,r,lk⟩:=l iy y vy hN hσ (.inr (.inl hk));rcases lk with ⟨z,_⟩| ⟨_,d,e,ic⟩
 ·rw [hk] at z;cases z
 ·rw [hy] at e;cases e;exact ⟨u,r,ic⟩
theorem zIo {g:Str->Int}:∀{vs:List Value} {ks:List Str},StrsAre vs ks->∀p∈(ks.map g).zip vs,∃x t,x∈ks/\p=(g x,.str x t)
 | _,_,.nil,p,hp=>by simp at hp
 | _,_,.cons x t h,p,hp=>by
  rw [qAd,List.zip_cons_cons] at hp;rcases qAO.mp hp with z| z
  ·exact ⟨x,t,qAR,z⟩
  ·obtain ⟨x',t',h1,h2⟩:=zIo h p z;exact ⟨x',t',qAP _ h1,h2⟩
end
theorem law_callT {P:Program} {w:World} {K:PySem.W.Frag} {mg mb:Str->Option Value} {CX:CXT} {k:Nat} {fa a:Addr} {fd:FuncData} {x:Str} {sp:Sp} {s₁:Shared} {vs:List Value} {ns:List Int} {tabs:List (Addr×Addr)}
  (KX:K.In s₁.heap) (hns:s₁.heap.Ns mainGlobals mg) (hb:s₁.heap.Ns builtinsNs mb) (hbb:∀x:Str,x≠ "__name__" ->mb x=bootBuiltins x) (hlim:s₁.heap.NoLimit) (hg:s₁.gens=#[]) (hB:zGi mg s₁.heap) (hT:PySem.W.TabsAt tabs s₁.heap) (hKT:∀q∈tabs,K.lookup q.2=none)
  (ha:s₁.heap.get? a=some {cls:=.type "list",data:=.seq vs.toArray}) (hi:IntsAre vs ns) (hl:ns.length<=sizeLine) (hr:Room k callerA)
  (F:∀base:Heap,K.In base->base.Ns mainGlobals mg->zGi mg base->(∀q∈tabs,PySem.W.CodeHd base q.1 q.2)->FnOk P w K mg base CX k fa fd [x] sp) (hbind:∀(s:Shared) (u:Value),BindsTo s fd ⟨[u],[]⟩ [(x,u)])
  (hsp:∀H:Hp,SqL K H a (ns.map V.int)->(∀q∈tabs,H q.2=some (.tbl #[]))->sp [.ref a] H (fun v _=>v= .bl true) fun _ _ _=>False)
  (hCX:∀H e s',CX [] H s₁ (fun _ _ _=>False) e s'->False) :
  codeAny (model P w) callerA (.call (.ref fa) ⟨[.ref a],[]⟩) (fun r s'=>r= .ok (.ret (.bool true))/\OldK s₁.heap s'.heap/\s'.os=s₁.os/\AllBare s'.gens) s₁:=by
 have rv:=vals_ints hi;have lenV:=hi.length
 have naT:∀q∈tabs,q.2≠a:=fun q hq z=>by
  have:=(hT q hq).2;rw [z,ha] at this;cases this
 have core:∀H:Hp,(∀b,H b=none\/(∃o xs,H b=some (.frz o (.lst xs)))\/(H b=some (.tbl #[])/\∃q∈tabs,q.2=b))->SqL K H a (ns.map V.int)->(∀q∈tabs,H q.2=some (.tbl #[]))->HOk P w H s₁.heap->(∀b,H b≠none->b=a\/∃q∈tabs,q.2=b)->(H a≠none->K.lookup a=none) ->
   codeAny (model P w) callerA (.call (.ref fa) ⟨[.ref a],[]⟩) (fun r s'=>r= .ok (.ret (.bool true))/\OldK s₁.heap s'.heap/\s'.os=s₁.os/\AllBare s'.gens) s₁:=by
  intro H hO hS hH hok hA hK;have base_of:∀{b:Addr} {o:Obj},s₁.heap.get? b=some o->H b=none->(hidT s₁.heap H).get? b=some o:=fun e n=>hidT_get e n
  have non:∀{b:Addr} {o:Obj},s₁.heap.get? b=some o->(∀xs n,o.data≠.seq xs n)->(∀ps,o.data≠.fields ps\/o.cls≠.none)->H b=none:=fun {b o} e n1 n2=>by
   cases q:H b with
   | none=>rfl
   | some u =>
    rcases hA b (by rw [q];simp) with z| ⟨r,hr,z⟩
    ·subst z;rw [ha] at e;cases e;exact absurd rfl (n1 _ _)
    ·subst z;rw [(hT r hr).2] at e;cases e;rcases n2 #[] with z| z<;>exact absurd rfl z
  have noA:∀{b:Addr} {o:Obj} {es:Array DictEntry} {ep:Nat},s₁.heap.get? b=some o->o.data= .dict es ep->H b=none:=fun {b o es ep} e d=>non e (fun xs n z=>by rw [d] at z;cases z) fun ps=>.inl fun z=>by rw [d] at z;cases z
  have nsK:∀{b:Addr} {m:Str->Option Value},s₁.heap.Ns b m->(hidT s₁.heap H).Ns b m:=fun {b m} ⟨o,es,ep,e,d,r⟩=>⟨o,es,ep,base_of e (noA e d),d,r⟩
  have hKb:K.In (hidT s₁.heap H):=fun b o e=>base_of (KX b o e) (by
   cases q:H b with
   | none=>rfl
   | some u =>
    rcases hA b (by rw [q];simp) with z| ⟨r,hr,z⟩
    ·subst z;rw [hK (by rw [q];simp)] at e;cases e
    ·subst z;rw [hKT r hr] at e;cases e)
  have hBb:zGi mg (hidT s₁.heap H):=by
   obtain ⟨bm,o,b1,b2,b3,b4,b5,b6⟩:=hB;exact ⟨bm,o,b1,b2,base_of b3 (non b3 (fun xs n z=>by rw [b6] at z;cases z) fun ps=>.inl fun z=>by rw [b6] at z;cases z),b4,b5,b6⟩
  have hCb:∀q∈tabs,PySem.W.CodeHd (hidT s₁.heap H) q.1 q.2:=fun q hq=>by
   obtain ⟨o,vs',file,tf,flags,tg,inF,text,tt,c1,c2,c3,c4⟩:=(hT q hq).1;exact ⟨o,vs',file,tf,flags,tg,inF,text,tt,base_of c1 (non c1 (fun xs n z=>by rw [c3] at z;cases z) fun ps=>.inr fun z=>by rw [c2] at z;cases z),c2,c3,c4⟩
  have hM:Mod K mg (hidT s₁.heap H):=⟨hKb,nsK hns,⟨mb,nsK hb,hbb⟩,let ⟨mc,h1,h2⟩:=hlim;⟨mc,nsK h1,h2⟩⟩;have e0:Env0 P w K mg (hidT s₁.heap H) callerA [] s₁ H:=⟨rfl,hM,fun b o e=>of_hidT e,qBF (hidT_size _ _),trivial,fun b hb=>absurd (show b∈([]:List Addr) from hb) (by simp),hok,.of_eq hg⟩;refine qCG ((F _ hKb (nsK hns) hBb hCb).run callerA [] s₁ H ⟨[.ref a],[]⟩ [.ref a] [.ref a] _ _ hr e0 (hbind s₁ (.ref a)) (.cons rfl .nil) (hsp H hS hH)) fun r s' h=>?_
  cases r with
  | error e=>exact (hCX H e s' h).elim
  | ok fl =>
   cases fl with
   | next=>exact False.elim h
   | brk=>exact False.elim h
   | cont=>exact False.elim h
   | ret u =>
    obtain ⟨v,H',os,bare,un,hok',r',q⟩:=h;have q':v= .bl true:=q;subst q';obtain rfl:u=Value.bool true:=r'
    have kept:∀b o,s₁.heap.get? b=some o->(∀r∈tabs,r.2≠b)->s'.heap.get? b=some o:=fun b o e nt=>by
     cases q:H b with
     | none=>exact un.keep b o e q (by intro z;exact absurd (show b∈([]:List Addr) from z) (by simp)) (by simp)
     | some u =>
      rcases hO b with z| ⟨ob,xs,z⟩| ⟨z,r,hr,y⟩
      ·rw [q] at z;cases z
      ·have z2:=un.frzs b ob _ z;obtain ⟨e1,_⟩:=hok b _ z;obtain ⟨e2,_⟩:=hok' b _ z2;rw [e] at e1;cases e1;exact e2
      ·exact absurd y (nt r hr)
    refine ⟨rfl,⟨fun b o e=>?_,fun b o e=>?_⟩,os,bare⟩
    ·by_cases t:∃r∈tabs,r.2=b
     ·obtain ⟨r,hr,rfl⟩:=t;obtain ⟨c1,c2⟩:=hT r hr;rw [c2] at e;cases e;obtain ⟨more,z⟩:=un.tbls _ _ (hH r hr);have z2:s'.heap.get? r.2=some {cls:=.none,data:=.fields (#[]++more)}:=hok' _ _ z;exact .inr (.inl ⟨(c1.tab c2).isCodeTable,rfl,#[],more,rfl,z2⟩)
     ·exact .inl (kept b o e fun r hr z=>t ⟨r,hr,z⟩)
    ·by_cases t:∃r∈tabs,r.2=b
     ·obtain ⟨r,hr,rfl⟩:=t;obtain ⟨more,z⟩:=un.tbls _ _ (hH r hr);exact ⟨_,hok' _ _ z⟩
     ·exact ⟨o,kept b o e fun r hr z=>t ⟨r,hr,z⟩⟩
 have hTb:∀b:Addr,(∃q∈tabs,q.2=b)->s₁.heap.get? b=some (PySem.W.tabObj #[]):=fun b ⟨q,hq,e⟩=>by rw [<-e];exact (hT q hq).2
 open Classical in
 cases hk:K.lookup a with
 | some o =>
  have e:=KX a o hk;rw [ha] at e
  cases e
  refine core (fun b=>if (∃q∈tabs,q.2=b) then some (.tbl #[]) else none) (fun b=>?_) (.inr ⟨_,vs.toArray,_,hk,rfl,rfl,rfl,by rw [qAM,lenV];exact hl,by simpa using rv⟩) (fun q hq=>qAC ⟨q,hq,rfl⟩) (fun b u z=>?_) (fun b z=>?_) fun z=>?_
  ·by_cases t:∃q∈tabs,q.2=b
   ·exact .inr (.inr ⟨qAC t,t⟩)
   ·exact .inl (qAB t)
  ·by_cases t:∃q∈tabs,q.2=b
   ·have z':=(qAC t).symm.trans z
    cases z'
    exact hTb b t
   ·have z':=(qAB t).symm.trans z
    cases z'
  ·by_cases t:∃q∈tabs,q.2=b
   ·exact .inr t
   ·exact absurd (qAB t) z
  ·by_cases t:∃q∈tabs,q.2=a
   ·obtain ⟨q,hq,e⟩:=t;exact absurd e (naT q hq)
   ·exact absurd (qAB t) z
 | none =>
  have nta:¬∃q∈tabs,q.2=a:=fun ⟨q,hq,e⟩=>naT q hq e;refine core (fun b=>if b=a then some (.frz {cls:=.type "list",data:=.seq vs.toArray} (.lst (ns.map V.int))) else if (∃q∈tabs,q.2=b) then some (.tbl #[]) else none) (fun b=>?_) (.inl (.inr ⟨{cls:=.type "list",data:=.seq vs.toArray},qAC rfl⟩)) (fun q hq=>(qAB (naT q hq)).trans (qAC ⟨q,hq,rfl⟩)) (fun b u z=>?_) (fun b z=>?_) fun _=>hk
  ·by_cases hb:b=a
   ·exact .inr (.inl ⟨_,_,qAC hb⟩)
   ·by_cases t:∃q∈tabs,q.2=b
    ·exact .inr (.inr ⟨(qAB hb).trans (qAC t),t⟩)
    ·exact .inl ((qAB hb).trans (qAB t))
  ·by_cases hb:b=a
   ·have z':=(qAC hb).symm.trans z
    cases z'
    subst hb;exact ⟨ha,by rw [qAD];exact hl,vs,_,rv,ha⟩
   ·by_cases t:∃q∈tabs,q.2=b
    ·have z':=((qAB hb).trans (qAC t)).symm.trans z
     cases z'
     exact hTb b t
    ·have z':=((qAB hb).trans (qAB t)).symm.trans z
     cases z'
  ·by_cases hb:b=a
   ·exact .inl hb
   ·by_cases t:∃q∈tabs,q.2=b
    ·exact .inr t
    ·exact absurd ((qAB hb).trans (qAB t)) z
theorem walk_ofT {l:PySem.W.OpenLaw} {n k:Nat} {q:Program} {loose:List Str} {XP:(Str->Option Value)->Heap->Prop} {YP:World->Heap->Prop} {d:DefRec} {K:Params->PySem.W.Frag} {CX:World->CXT} {sp:World->Sp} {x:Str} {tabs:List (Addr×Addr)}
  (hn:l.most=some n) (hn2:n<=sizeLine) (hdf:d.params.defaults=[]) (hr:Room k callerA)
  (hY:∀(w:World) (h:Heap),YP w h->(K w.params).In h) (hT:∀(w:World) (h:Heap),YP w h->PySem.W.TabsAt tabs h) (hKT:∀(w:World),∀q∈tabs,(K w.params).lookup q.2=none)
  (F:∀(w:World) (mg:Str->Option Value) (fa:Addr) (h:Heap),(K w.params).In h->h.Ns mainGlobals mg->mg d.name=some (.ref fa) ->
   ∃fd:FuncData,(∀(s:Shared) (u:Value),BindsTo s fd ⟨[u],[]⟩ [(x,u)]) /\
    ∀base:Heap,(K w.params).In base->base.Ns mainGlobals mg->zGi mg base->(∀q∈tabs,PySem.W.CodeHd base q.1 q.2)->FnOk l.prog w (K w.params) mg base (CX w) k fa fd [x] (sp w))
  (hsp:∀(w:World) (H:Hp) (a:Addr) (ns:List Int),ns.length<=n->SqL (K w.params) H a (ns.map V.int)->(∀q∈tabs,H q.2=some (.tbl #[]))->sp w [.ref a] H (fun v _=>v= .bl true) fun _ _ _=>False)
  (hCX:∀(w:World) (H:Hp) (s:Shared) (e:Value) (s':Shared),CX w [] H s (fun _ _ _=>False) e s'->False) :
  PySem.W.WalkO q loose XP YP l.row.toRowW d [] (fun f vs=>PySem.call f vs):=by
 refine Att.attach_call hn hdf fun w s₀ s₁ mg mb fa o pm cd doc a vs ns G Y ho hd hcd hmg hobj hints hlen hg=>?_;have KX:=hY w _ Y;obtain ⟨fd,hb,hF⟩:=F w mg fa _ KX G.T.g hmg;exact law_callT KX G.T.g G.T.b G.T.builtins G.T.nolimit hg G.T.bmain (hT w _ Y) (hKT w) hobj hints (qAT hlen hn2) hr hF hb (fun H hS hH=>hsp w H a ns hlen hS hH) fun H e s'=>hCX w H s₁ e s'
end L2
namespace RV
open PySem
end RV
namespace L2
open PySem PySem.Spec PyProof.Rows
end L2
local macro_rules| `(tactic| walk_at "lc")=>`(tactic| first| exact Or.inl rfl| exact Or.inr rfl)
local macro_rules| `(tactic| walk_at "nm")=>`(tactic| first| assumption| exact qB5| (refine L2.nm1 ?_;walk_at "ne")| (refine L2.nm2 ?_ ?_<;>walk_at "ne")| (refine L2.nm3 ?_ ?_ ?_<;>walk_at "ne"))
local macro_rules| `(tactic| walk_at "lk")=>`(tactic| first| assumption| exact L2.upd_same| (refine (L2.upd_ne ?_).trans ?_;walk_at "ne";walk_at "lk")| (refine L2.Kp.look (by assumption) ?_ ?_;walk_at "lk";walk_at "nm"))
local macro_rules| `(tactic| walk_at "ne")=>`(tactic| first| assumption| (refine qAs ?_;assumption)| (refine L2.ne_fre (by assumption) ?_;walk_at "lk")| (refine qAs (L2.ne_fre (by assumption) ?_);walk_at "lk"))
local macro_rules| `(tactic| walk_at "bd")=>`(tactic| first| decide| lia| (dsimp only;first| decide| lia))
local macro_rules| `(tactic| walk_at "ml")=>`(tactic| first| exact Or.inr ⟨by decide,by decide⟩| exact Or.inl ⟨by lia,by lia⟩| exact Or.inr ⟨by lia,by lia⟩)
local macro_rules| `(tactic| walk_at "ln")=>`(tactic| first| decide| (have hsz:=PySem.sizeLine_eq;simp only [qAa,qBS,qAD,qAo] at *;lia))
local macro_rules| `(tactic| walk_at "ix")=>`(tactic| first| rfl| assumption| (refine L2.atI_natc ?_;assumption))
local macro_rules| `(tactic| walk_at "vs")=>`(tactic| first| exact Or.inl rfl| exact Or.inr (Or.inl rfl)| exact Or.inr (Or.inr rfl))
local macro_rules| `(tactic| walk_at "vk")=>`(tactic| first| exact Or.inl rfl| exact Or.inr rfl)
local macro_rules| `(tactic| walk_at "vf")=>`(tactic| first| decide +kernel| (simp only [qAO];decide))
namespace My
open PySem L2
variable {P:Program}{w:World}{K:PySem.W.Frag}{mg:Str->Option Value}{base:Heap}{C:Addr}
variable {H H':Hp}{fd:FuncData}{ns:List Str}{α:Type}{i:Nat}{y:Str}
section
variable {X:Cx} {scope sc:Scope} {C:Addr} {s₀:Shared} {H₀:Hp} {ex:List Addr} {N P:List Str} {i:Nat} {x:Str} {e:Expr} {te:TE} {pos pos':Pos} {ix:List (Option Nat)}
theorem psS (hN:X.N.Nodup) (he:PE X e te) (hi:X.N[i]?=some x:=by rfl) (hx:Loc X.env.scope x:=by walk_at "lc") (hs:swapsWith e (some (.Name x pos')) pos.line X.env=pure false:=by rfl) (hf:X.fn x=true\/X.env.scope.names.lookup x=some .local:=by first| exact .inl rfl| exact .inr rfl| assumption):PS X (.Assign [.Name x pos'] e pos) (tAsg te (zJl i)):=ps_set hN hi hx he hs hf
theorem pgN (hN:X.N.Nodup) (hi:X.N[i]?=some x:=by rfl) (hx:Loc X.env.scope x:=by walk_at "lc") (hf:X.fn x=true\/X.env.scope.names.lookup x=some .local:=by first| exact .inl rfl| exact .inr rfl| assumption):PG X (.Name x pos) (zJl i):=pg_name hN hi hx hf
theorem pgB (hi:(X.block scope C s₀ H₀ ex N).N[i]?=some x:=by rfl) (hN:N.Nodup:=by decide +kernel) (hx:Loc (X.block scope C s₀ H₀ ex N).env.scope x:=by walk_at "lc") (hf:(X.block scope C s₀ H₀ ex N).fn x=true\/(X.block scope C s₀ H₀ ex N).env.scope.names.lookup x=some .local:=by first| exact .inl rfl| exact .inr rfl| assumption):PG (X.block scope C s₀ H₀ ex N) (.Name x pos) (zJl i):=pg_name hN hi hx hf
theorem dtk (hN:X.N[i]?=some x) (D:Draws X scope N ix) (hv:Vis X.env.scope x:=by walk_at "vs") (hk:(relabel scope X.env).names.lookup x=some .cell\/(relabel scope X.env).names.lookup x=some .free:=by walk_at "vk") (hf:(x,NameKind.free)∈scope.names:=by walk_at "vf"):Draws X scope (x::N) (some i::ix):=.tk hN hv hk hf D
theorem fnS (a:sc.kind= .function:=by rfl) (b:sc.isCoroutine=false:=by rfl) (c:sc.isGenerator=false:=by rfl) (d:N.Nodup:=by decide +kernel) (e:N.take P.length=P:=by rfl) (f:∀x∈P,sc.names.lookup x=some .local\/sc.names.lookup x=some .cell:=by decide +kernel) (g:∀y∈sc.names,y.2≠.free:=by decide +kernel):FnScope N P sc:=⟨a,b,c,d,e,f,g⟩
end
def top (i:Nat):Stmt:=PySem.Challenge.pw_levelbench_k54_woods_turned_about.main.body.getD i (.Pass ⟨0,0,0,0⟩)
structure Txt (K:PySem.W.Frag) (mg:Str->Option Value):Prop where
 z_len:mg "len" = none
 z_max:mg "max" = none
 z_range:mg "range" = none
 z_int:mg "int" = none
 z_str:mg "str" = none
 z_list:mg "list" = none
 z_all:mg "all" = none
 z_min:mg "min" = none
 z_dict:mg "dict" = none
 z_bool:mg "bool" = none
 z_abs:mg "abs" = none
 z_reversed:mg "reversed" = none
 z_enumerate:mg "enumerate" = none
 z_any:mg "any" = none
 z_isinstance:mg "isinstance" = none
 z_sorted:mg "sorted" = none
 z_set:mg "set" = none
 z_tuple:mg "tuple" = none
 c_MOST_JOBS:∃t,mg "MOST_JOBS" = some (.int 20 t)
 c_LONGEST_NAME:∃t,mg "LONGEST_NAME" = some (.int 8 t)
section
def zB4 (H:Hp) (p:Addr):Prop:=∃a b:Int,H p=some (.lst [.int a,.int b])/\0<=a/\0<=b/\b<2147483629
theorem zB4.kp {M:List Addr} {p:Addr} (h:zB4 H p) (k:Kp M H H') (n:p∉M):zB4 H' p:=by
 obtain ⟨a,b,e,r⟩:=h;exact ⟨a,b,k p _ e n,r⟩
def zH6:Sp:=fun vs H Q _=>∃(p:Addr) (m:Int),vs=[.ref p,.int m]/\zB4 H p/\1<=m/\m<10^100/\∀(d:Int) (H':Hp),0<=d->d<m->zB4 H' p->Kp [p] H H'->Q (.int d) H'
abbrev s_take:Stmt:=top 47
theorem sc_take:FnScope ["_law_purse_here", "_law_many", "_law_digit"] ["_law_purse_here", "_law_many"] (zAd s_take):=fnS
theorem ok_take {f:Addr} (F:Fun K "_law_take" "_law_take" s_take f fd):FnOk P w K mg base CX0 1 f fd ["_law_purse_here", "_law_many"] zH6:=by
 refine F.ok sc_take (fun vs H Q E h=>?_) (fun cdv A outer s H vs Q E hr h=>?_)
 ·obtain ⟨p,m,rfl,_⟩:=h;rfl
 ·obtain ⟨p,m,rfl,⟨a,b,hp,ha,hb,hb'⟩,hm,hm',k⟩:=h
  refine ⟨_,(zAc (zBx (zAs op_gt (zCi zCs (pv 0) zAg (fun _ _=>rfl)) zAg (zAu _))
    (zAc (psS (i:=2) sc_take.nd (zAt zG7 (zCi zCs (pv 0) zAg (fun _ _=>rfl)) (pv 1)))
    (zAc (ps_asg (zAt op_fdivB (zCi zCs (pv 0) zAg (fun _ _=>rfl)) (pv 1)) (pg_sub (pv 0) zAg set_list))
    (zAe (zAo (pv 2)))))
    zAq)
   (zAc (ps_asg (zAt zG7 (zAt zBz (zAt zE9 (zCi zCs (pv 0) zAg (fun _ _=>rfl)) zAg) zAg) zAg) (pg_sub (pv 0) zAg set_list))
   (zAe (zAo (zAt zG7 (zAt op_fdiv (zAt zG7 (zAt zE9 (zCi zCs (pv 0) zAg (fun _ _=>rfl)) (zCi zCs (pv 0) zAg (fun _ _=>rfl))) zAg) zAg) (pv 1)))))),?_⟩
  refine ⟨_,rfl,_,_,_,_,rfl,rfl,SqL.of (by walk_at "lk"),(by walk_at "ix"),_,_,rfl,rfl,_,rfl,?_⟩;refine ite2 (fun c=>?_) (fun c=>?_)
  ·have c':0<a:=by simpa using c
   refine ⟨_,rfl,_,_,_,_,rfl,rfl,SqL.of (by walk_at "lk"),(by walk_at "ix"),_,rfl,_,_,rfl,rfl,(by walk_at "bd"),?_⟩;refine ⟨_,rfl,_,_,_,_,rfl,rfl,SqL.of (by walk_at "lk"),(by walk_at "ix"),_,rfl,_,_,rfl,rfl,⟨by walk_at "bd",hm'⟩,_,rfl,_,_,_,_,rfl,rfl,(by walk_at "lk"),(by walk_at "ix"),?_⟩;refine ⟨_,rfl,?_⟩;refine k _ _ (qCN _ (by lia)) (qCO _ (by lia)) ⟨a / m,b,upd_same,Int.ediv_nonneg ha (by lia),hb,hb'⟩ (Kp.put Kp.refl (by simp))
  ·refine ⟨_,rfl,_,_,_,_,rfl,rfl,SqL.of (by walk_at "lk"),(by walk_at "ix"),_,_,rfl,rfl,(by walk_at "ml"),_,_,rfl,rfl,_,_,rfl,rfl,(by walk_at "bd"),_,rfl,_,_,_,_,rfl,rfl,(by walk_at "lk"),(by walk_at "ix"),?_⟩;have h1:=qCN (b*39373+7919) (show (2147483629:Int)≠0 by decide);have h2:=qCO (b*39373+7919) (show (0:Int)<2147483629 by decide);refine ⟨_,rfl,_,_,_,_,rfl,rfl,SqL.of (by walk_at "lk"),(by walk_at "ix"),_,rfl,_,_,_,_,rfl,rfl,SqL.of (by walk_at "lk"),(by walk_at "ix"),_,_,rfl,rfl,(by walk_at "ml"),_,_,rfl,rfl,(by walk_at "bd"),_,_,rfl,rfl,⟨by walk_at "bd",by walk_at "bd"⟩,_,rfl,_,_,rfl,rfl,(by walk_at "bd"),?_⟩;refine k _ _ (qCN _ (by lia)) (qCO _ (by lia)) ⟨a,_,upd_same,ha,h1,h2⟩ (Kp.put Kp.refl (by simp))
def spPurse:Sp:=fun vs H Q _=>∃(c k:Int),vs=[.int c,.int k]/\-(2^31)<k/\k<2^31/\∀(p:Addr) (H':Hp),Fre H p->zB4 H' p->Kp [] H H'->Q (.ref p) H'
abbrev s_purse:Stmt:=top 46
theorem sc_purse:FnScope ["_law_cell_here", "_law_k", "_law_number"] ["_law_cell_here", "_law_k"] (zAd s_purse):=fnS
theorem ok_purse {f:Addr} (F:Fun K "_law_purse" "_law_purse" s_purse f fd) (T:Txt K mg):FnOk P w K mg base CX0 1 f fd ["_law_cell_here", "_law_k"] spPurse:=by
 refine F.ok sc_purse (fun vs H Q E h=>?_) (fun cdv A outer s H vs Q E hr h=>?_)
 ·obtain ⟨p,m,rfl,_⟩:=h;rfl
 ·obtain ⟨c,n,rfl,hn,hn',k⟩:=h
  refine ⟨_,(zAc (psS (i:=2) sc_purse.nd (zAt zG7 (zAt zBz (zAt zBz (zAt zE9 (zAt zG7 (pv 0) zAg) zAg) (zAt zE9 (zAt zE9 (pv 1) (pv 1)) zAg)) zAg) zAg))
   (zAe (zAo (zCf (zAa (zAh (zHr rfl) (by rfl) T.z_max zIn (zAa zAg (zAa (zAt zIf (pv 0) (zAt op_pow zAg zAg)) zAb))) (zAa (zAt zG7 (zAt zE9 (pv 2) (pv 2)) zAg) zAb)))))),?_⟩
  refine ⟨_,rfl,_,_,rfl,rfl,(by walk_at "bd"),_,_,rfl,rfl,(by walk_at "ml"),_,rfl,_,rfl,_,_,rfl,rfl,(by walk_at "ml"),_,_,rfl,rfl,(by walk_at "ml"),_,_,rfl,rfl,_,_,rfl,rfl,_,_,rfl,rfl,(by walk_at "bd"),?_⟩;generalize c % 2147483629*48271+n*n*69623+11=y;have h1:=qCN y (show (2147483647:Int)≠0 by decide);have h2:=qCO y (show (0:Int)<2147483647 by decide);refine ⟨_,rfl,_,_,rfl,rfl,⟨by decide,by decide,by decide⟩,_,_,rfl,rfl,_,_,rfl,_,rfl,_,rfl,_,_,rfl,rfl,(by walk_at "ml"),_,_,rfl,rfl,(by walk_at "bd"),(by walk_at "ln"),fun p hp=>?_⟩;refine k p _ hp ⟨_,_,upd_same,?_,qCN _ (by decide),qCO _ (by decide)⟩ (Kp.new Kp.refl hp);split<;>lia
def spCell (K:PySem.W.Frag):Sp:=fun vs H Q _=>∃(a:Addr) (ns:List Int) (k:Int),vs=[.ref a,.int k]/\SqL K H a (ns.map V.int)/\0<=k/\∀c:Int,Q (.int c) H
abbrev s_cell:Stmt:=top 45
theorem sc_cell:FnScope ["_law_script", "_law_k"] ["_law_script", "_law_k"] (zAd s_cell):=fnS
theorem ok_cell {f:Addr} (F:Fun K "_law_cell" "_law_cell" s_cell f fd) (T:Txt K mg):FnOk P w K mg base CX0 1 f fd ["_law_script", "_law_k"] (spCell K):=by
 refine F.ok sc_cell (fun vs H Q E h=>?_) (fun cdv A outer s H vs Q E hr h=>?_)
 ·obtain ⟨p,m,n,rfl,_⟩:=h;rfl
 ·obtain ⟨a,ns,n,rfl,hS,hn,k⟩:=h;refine ⟨_,(zAe (zAo (pe_ifExp (zAs op_lt (pv 1) (zAh zAi (by rfl) T.z_len zA4 (zAa (pv 0) zAb)) (zAu _)) (zCi zCs (pv 0) (pv 1) (fun _ _=>rfl)) zAg))),?_⟩;refine ⟨_,rfl,_,rfl,_,_,rfl,.inl hS,_,_,rfl,rfl,_,rfl,?_⟩;refine ite2 (fun c=>?_) (fun c=>?_)
  ·have c':n<ns.length:=by simpa using c
   have hx:(ns.map V.int)[n.toNat]?=some (V.int (ns[n.toNat]'(by lia))):=by simp
   refine ⟨_,rfl,_,rfl,_,_,_,_,rfl,rfl,hS,zGa hn hx,k _⟩
  ·exact k _
end
def zH4 (s:Str):Prop:=1<=s.length/\s.length<=8/\∀c∈s.cps.toList,97<=c/\c<=122
def WordS (n:Nat) (s:Str):Prop:=s.length=n/\∀c∈s.cps.toList,97<=c/\c<=122
theorem len_app (a b:Str):(a++b).length=a.length+b.length:=by
 show (a++b).cps.size=_;rw [Str.cps_append,Array.size_append];rfl
theorem WordS.more {n:Nat} {s:Str} (h:WordS n s) {c:Nat} (h1:97<=c) (h2:c<=122):WordS (n+1) (s++⟨#[c]⟩):=by
 refine ⟨by rw [len_app,h.1];rfl,fun x hx=>?_⟩;rw [Str.cps_append,qC5] at hx;rcases qAW.mp hx with z| z
 ·exact h.2 x z
 ·have:x=c:=by simpa using z
  lia
def zD3:Str:= "abcdefghijklmnopqrstuvwxyz"
theorem zD2:zD3.cps.toList=(List.range 26).map (97+·):=by decide +kernel
theorem letters_at {d:Int} (h0:0<=d) (h1:d<26):atI zD3.cps.toList d=some (97+d.toNat):=by
 refine zGa h0 ?_;have:d.toNat<26:=by lia
 rw [zD2,qAe,List.getElem?_range this];rfl
theorem zEq (a c:Nat):(!(decide (([c]:List Nat)<[a])))=decide (a<=c):=by
 have:(([c]:List Nat)<[a])↔c<a:=by
  constructor
  ·intro h
   cases h with
   | rel h=>exact h
   | cons h=>cases h
  ·intro h;exact List.Lex.rel h
 by_cases h:c<a
 ·rw [qAU (this.mpr h),qAh (by lia)];rfl
 ·rw [qAh (fun z=>h (this.mp z)),qAU (by lia)];rfl
section
def zJg (s:Str):Bool:=decide (1<=s.length)&&decide (s.length<=8)&&s.cps.toList.all fun c=>decide (97<=c)&&decide (c<=122)
theorem nameB_iff (s:Str):zJg s=true↔zH4 s:=by
 unfold zJg zH4;simp only [qCI,qBN,qA5];exact ⟨fun ⟨⟨a,b⟩,c⟩=>⟨a,b,c⟩,fun ⟨a,b,c⟩=>⟨⟨a,b⟩,c⟩⟩
def spIsName:Sp:=fun vs H Q _=>∃(x:Str),vs=[.str x]/\x.length<=1000000/\∀H',Kp [] H H'->Q (.bl (zJg x)) H'
abbrev zE4:Stmt:=top 18
theorem sc_is_name:FnScope ["thing"] ["thing"] (zAd zE4):=fnS
theorem ok_is_name {f:Addr} (F:Fun K "is_name" "is_name" zE4 f fd) (T:Txt K mg):FnOk P w K mg base CX0 1 f fd ["thing"] spIsName:=by
 refine F.ok sc_is_name (fun vs H Q E h=>?_) (fun cdv A outer s H vs Q E hr h=>?_)
 ·obtain ⟨x,rfl,_⟩:=h;rfl
 ·obtain ⟨x,rfl,hx,k⟩:=h;obtain ⟨tL,hL⟩:=T.c_LONGEST_NAME
  refine ⟨_,(zAc (zBx (PW.pt (pw_or (zDx (zC1 (zAh zEh (by rfl) T.z_isinstance zBk (zAa (pv 0) (zAa (zFt (by rfl) T.z_str bo_str (v:=.ty "str") rfl) zAb))))) (zG2 (zDx (pt_chain op_le op_le zAg (zAh call_len_str (by rfl) T.z_len zA4 (zAa (pv 0) zAb)) (pe_glob rfl hL (v:=.int 8) ⟨_,rfl⟩))))))
    (zAe (zAo pe_bl))
    zAq)
   (zAe (zAo (zAh (zFm _ rfl) (by rfl) T.z_all bo_all (zAa (zA5 rfl (zBc (sc:=zAd zE4) rfl (by decide +kernel)) (Draws.own (x:= "sign") Draws.nil) (pi_str (pv 0)) (fun _ _ _ _=>(pgB (i:=0))) (fun _ _ _ _=>zCe) (fun _ _ _ _=>(pe_chain op_le_str op_le_str zId (pv 0) zId))) zAb))))),?_⟩
  refine ⟨_,rfl,_,_,_,_,rfl,TyOf.str x,zFf,_,rfl,iteF ?_⟩;refine ⟨_,rfl,_,rfl,?_,_,_,rfl,rfl,_,rfl,?_⟩
  ·rw [qAK];lia
  refine ite2 (fun c=>?_) (fun c=>?_)
  ·have c1:1<=x.length:=by
    have:=qAm c;lia
   refine ⟨_,_,rfl,rfl,_,rfl,?_⟩;refine ite2 (fun c=>?_) (fun c=>?_)
   ·-- too long
    have c2:¬(x.length<=8):=fun z=>by
     have:decide ((x.length:Int)<=8)=true:=qAU (by lia);rw [this] at c;cases c
    have e:zJg x=false:=by
     unfold zJg;rw [qAh c2];simp
    rw [<-e];exact k H Kp.refl
   ·have c2:x.length<=8:=by
     by_cases z:(x.length:Int)<=8
     ·lia
     ·rw [qAh z] at c;exact absurd rfl c
    refine ⟨_,rfl,_,rfl,fun D hD=>comp_str0 (z:=x) (fun i ys τ H'=>(∃o0,τ=[o0])/\ys=((x.cps.toList.take i).map fun c=>V.bl (decide (97<=c)&&decide (c<=122)))/\H'=upd H D (.lst ys)) ⟨⟨_,rfl⟩,rfl,rfl⟩ ?_ ?_⟩
    ·rintro i c ys τ H' hc ⟨⟨o0,rfl⟩,rfl,rfl⟩;have ei:x.cps.toList.take (i+1)=x.cps.toList.take i++[c]:=by rw [qC9,hc];rfl
     have hi:i<x.cps.toList.length:=(qAf.mp hc).1;have hlen:x.cps.toList.length=x.length:=by simp [Str.length]
     have fin:∀b:Bool,b=(decide (97<=c)&&decide (c<=122))->(upd H D (.lst ((x.cps.toList.take i).map fun c=>V.bl (decide (97<=c)&&decide (c<=122))))) D=some (.lst ((x.cps.toList.take i).map fun c=>V.bl (decide (97<=c)&&decide (c<=122))))/\((x.cps.toList.take i).map fun c=>V.bl (decide (97<=c)&&decide (c<=122))).length<sizeLine /\
       ((∃o0,([some (V.str ⟨#[c]⟩)]:St)=[o0])/\((x.cps.toList.take i).map fun c=>V.bl (decide (97<=c)&&decide (c<=122)))++[V.bl b]=((x.cps.toList.take (i+1)).map fun c=>V.bl (decide (97<=c)&&decide (c<=122))) /\
       upd (upd H D (.lst ((x.cps.toList.take i).map fun c=>V.bl (decide (97<=c)&&decide (c<=122))))) D (.lst (((x.cps.toList.take i).map fun c=>V.bl (decide (97<=c)&&decide (c<=122)))++[V.bl b]))=upd H D (.lst (((x.cps.toList.take i).map fun c=>V.bl (decide (97<=c)&&decide (c<=122)))++[V.bl b]))):=fun b hb=>by
      refine ⟨upd_same,?_,⟨_,rfl⟩,?_,zBo⟩
      ·rw [qAD,qAY,qAK];lia
      ·rw [ei,qAS,hb];rfl
     refine ⟨_,rfl,_,_,rfl,rfl,_,rfl,?_⟩;refine ite2 (fun c1=>?_) (fun c1=>?_)
     ·refine ⟨_,_,rfl,rfl,fin _ ?_⟩;have c1:(!(decide (([c]:List Nat)<[97])))=true:=c1;rw [zEq] at c1;show (!(decide (([122]:List Nat)<[c])))=_;rw [zEq,c1];rfl
     ·refine fin _ ?_;have c1:¬(!(decide (([c]:List Nat)<[97])))=true:=c1;rw [zEq] at c1;rw [Bool.not_eq_true] at c1;rw [c1];rfl
    ·rintro ys τ H' ⟨⟨o0,rfl⟩,rfl,rfl⟩;have hlen:x.cps.toList.take x.length=x.cps.toList:=qBq (by simp [Str.length]);refine ⟨D,x.cps.toList.map (fun c=>decide (97<=c)&&decide (c<=122)),rfl,SqL.of ?_,?_⟩
     ·rw [upd_same,hlen,qAt];rfl
     ·have e:((x.cps.toList.map (fun c=>decide (97<=c)&&decide (c<=122))).all id)=zJg x:=by
       unfold zJg;rw [qAU c1,qAU c2,qCo];rfl
      rw [e];exact k _ (Kp.new Kp.refl hD)
  ·-- empty
   have c1:¬(1<=x.length):=fun z=>c (qAU (by lia));refine ⟨_,rfl,?_⟩;refine iteT ?_
   have e:zJg x=false:=by
    unfold zJg;rw [qAh c1];simp
   rw [<-e];exact k H Kp.refl
end
abbrev Txs (H:Hp) (l:Addr) (ns:List Str):Prop:=H l=some (.lst (ns.map V.str))
structure Ords (H:Hp) (l:Addr) (qs:List (List Str×Addr)):Prop where
 top:H l=some (.lst (qs.map fun q=>V.ref q.2))
 row:∀q∈qs,H q.2=some (.tup (q.1.map V.str))
 two:∀q∈qs,∃a b,q.1=[a,b]
theorem zHo (x:Str) (ns:List Str):inV (.str x) (ns.map V.str)=decide (x∈ns):=by
 unfold inV
 induction ns with
 | nil=>rfl
 | cons n r ih =>
  rw [qAd,qCJ,ih];show ((n==x)||_)=_
  by_cases e:n=x
  ·subst e;simp
  ·have e':¬x=n:=fun z=>e z.symm;rw [qBD.mpr e];simp [e']
theorem zD5 (ns:List Str):(ns.map V.str).all zD6=true:=by simp [zD6]
section
def spIsOneOf:Sp:=fun vs H Q _=>∃(x:Str) (l:Addr) (ns:List Str),vs=[.str x,.ref l]/\Txs H l ns/\Q (.bl (decide (x∈ns))) H
abbrev zDd:Stmt:=top 19
theorem zF3:FnScope ["thing", "names"] ["thing", "names"] (zAd zDd):=fnS
theorem ok_is_one_of {f:Addr} (F:Fun K "is_one_of" "is_one_of" zDd f fd) (T:Txt K mg):FnOk P w K mg base CX0 1 f fd ["thing", "names"] spIsOneOf:=by
 refine F.ok zF3 (fun vs H Q E h=>?_) (fun cdv A outer s H vs Q E hr h=>?_)
 ·obtain ⟨x,l,ns,rfl,_⟩:=h;rfl
 ·obtain ⟨x,l,ns,rfl,hl,k⟩:=h;refine ⟨_,(zAe (zAo (pe_and (zAh zEh (by rfl) T.z_isinstance zBk (zAa (pv 0) (zAa (zFt (by rfl) T.z_str bo_str (v:=.ty "str") rfl) zAb))) (pe_one (zCr zG8 (pv 0) (pv 1) (by rfl)))))),?_⟩;refine ⟨_,rfl,_,_,_,_,rfl,TyOf.str x,zFf,_,rfl,iteT ?_⟩;refine ⟨_,rfl,_,rfl,_,_,rfl,.inl (SqL.of hl),rfl,zD5 ns,?_⟩;rw [zHo];exact k
def zD9:Sp:=fun vs H Q _=>∃(x:Str) (l:Addr) (ns:List Str),vs=[.ref l,.str x]/\Txs H l ns/\x∈ns/\Q .non H
abbrev zEo:Stmt:=top 37
theorem sc_check_job:FnScope ["names", "thing"] ["names", "thing"] (zAd zEo):=fnS
theorem ok_check_job {f:Addr} (F:Fun K "check_job" "check_job" zEo f fd) (T:Txt K mg) (C_is_one_of:Cal P w K mg base "is_one_of" 1 ["thing", "names"] spIsOneOf):FnOk P w K mg base CX0 2 f fd ["names", "thing"] zD9:=by
 refine F.ok sc_check_job (fun vs H Q E h=>?_) (fun cdv A outer s H vs Q E hr h=>?_)
 ·obtain ⟨x,l,ns,rfl,_⟩:=h;rfl
 ·obtain ⟨x,l,ns,rfl,hl,hx,k⟩:=h;have HR_is_one_of:=hr
  refine ⟨_,(zAe (zBx (zDx (zC1 (zAf C_is_one_of HR_is_one_of rfl (zAa (pv 1) (zAa (pv 0) zAb)))))
    (zAe zAv)
    zAq)),?_⟩
  refine ⟨_,rfl,_,rfl,x,l,ns,rfl,hl,?_⟩;rw [qAU hx];exact ⟨_,rfl,iteF k⟩
end
abbrev dT1 (ns:List Str) (g:Str->V):List (Key×V):=ns.map fun n=>(Sum.inr n,g n)
theorem zBe (g:Str->V) (x:Str):∀ns:List Str,valV (dT1 ns g) (.inr x)=if x∈ns then some (g x) else none
 | []=>rfl
 | n::r=>by
  by_cases e:n=x
  ·subst e;have h1:valV (dT1 (n::r) g) (.inr n)=some (g n):=zGj rfl;rw [h1];simp
  ·have h1:valV (dT1 (n::r) g) (.inr x)=valV (dT1 r g) (.inr x):=zGk fun z=>e (Sum.inr.inj z);rw [h1,zBe g x r];have e':¬x=n:=fun z=>e z.symm;simp [e']
theorem zDh {g:Str->V} {x:Str} (v:V) (h:x∉ns):putK (dT1 ns g) (.inr x) v=dT1 ns g++[(.inr x,v)]:=putK_new v (by rw [zBe];simp [h])
theorem zAj {xs:List α} {x:α} (h:xs[i]?=some x):xs.take (i+1)=xs.take i++[x]:=by rw [qC9,h];rfl
theorem zA3 {v:V} (h:(ns.map V.str)[i]?=some v):∃n,ns[i]?=some n/\v= .str n:=by
 rw [qAe] at h;obtain ⟨n,e,r⟩:=qBH.mp h;exact ⟨n,e,r.symm⟩
theorem zC3 {xs:List α} (h:xs.Nodup) {x:α} (e:xs[i]?=some x):x∉xs.take i:=fun z=>by
 obtain ⟨hi,rfl⟩:=qAf.mp e;obtain ⟨j,hj,e2⟩:=qA0.mp z;rw [qAY] at hj;rw [List.getElem_take] at e2;have:=(List.getElem_inj h).mp e2;lia
section
def zF2:Sp:=fun vs H Q _=>∃(l:Addr) (ns:List Str),vs=[.ref l]/\Txs H l ns/\ns.length<=20/\(∀n∈ns,zH4 n)/\ns.Nodup/\∀H',Kp [] H H'->Q .non H'
abbrev zDg:Stmt:=top 35
theorem zB7:FnScope ["names", "thing", "seen", "name"] ["names"] (zAd zDg):=fnS
theorem zHz {f:Addr} (F:Fun K "check_names" "check_names" zDg f fd) (T:Txt K mg) (C_is_name:Cal P w K mg base "is_name" 1 ["thing"] spIsName):FnOk P w K mg base CX0 2 f fd ["names"] zF2:=by
 refine F.ok zB7 (fun vs H Q E h=>?_) (fun cdv A outer s H vs Q E hr h=>?_)
 ·obtain ⟨l,ns,rfl,_⟩:=h;rfl
 ·obtain ⟨l,ns,rfl,hl,hn,hN,hD,k⟩:=h;have HR_is_name:=hr;have hu:=zDk hr;obtain ⟨tM,hM⟩:=T.c_MOST_JOBS
  refine ⟨_,(zAc (zBx (zAs op_gt (zAh zAi (by rfl) T.z_len zA4 (zAa (pv 0) zAb)) (pe_glob rfl hM (v:=.int 20) ⟨_,rfl⟩) (zAu _))
    (zAe zAv)
    zAq)
   (zAc (zBb qAk rfl (zAl (pv 0)) (pgN (i:=1) zB7.nd)
    (zAe (zBx (zDx (zC1 (zAf C_is_name HR_is_name rfl (zAa (pv 1) zAb))))
     (zAe zAv)
     zAq)))
   (zAc (psS (i:=2) zB7.nd zBy)
   (zAe (zBb qAk rfl (zAl (pv 0)) (pgN (i:=3) zB7.nd)
    (zAc (zBx (zF4 (zF5 hu (pv 3) (pv 2)))
     (zAe zAv)
     zAq)
    (zAe (zCp hu (pv 2) (pv 3) pe_bl rfl)))))))),?_⟩
  refine ⟨_,rfl,_,_,rfl,.inl (SqL.of hl),_,_,rfl,rfl,_,rfl,?_⟩;rw [qAh (by rw [qAD];lia)];refine iteF ?_;refine ⟨_,rfl,_,rfl,⟨_,SqL.of hl⟩,zA9 (fun i σ H2=>(∃o1 o2 o3:Option V,σ=[some (.ref l),o1,o2,o3])/\Kp [] H H2) ⟨⟨_,_,_,rfl⟩,Kp.refl⟩ (fun i σ H2 _ ⟨_,k2⟩=>SqL.of (k2 l _ hl (by simp))) ?_ ?_⟩
  ·rintro i v σ H2 hv ⟨⟨o1,o2,o3,rfl⟩,k2⟩;obtain ⟨n,en,rfl⟩:=zA3 hv;have nn:=hN n (qAN en);refine ⟨_,rfl,n,rfl,by have:=nn.2.1;lia,fun H3 k3=>?_⟩;rw [(nameB_iff n).mpr nn];exact ⟨_,rfl,iteF ⟨⟨_,_,_,rfl⟩,k2.trans k3⟩⟩
  ·rintro σ H2 ⟨⟨o1,o2,o3,rfl⟩,k2⟩;have hl2:Txs H2 l ns:=k2 l _ hl (by simp);refine fun d hd=>?_;have fd:Fre H2 d:=hd;have fdH:Fre H d:=k2.fre fd (by simp);refine ⟨_,rfl,_,rfl,⟨_,SqL.of ((Kp.new (M:=[]) Kp.refl fd) l _ hl2 (by simp))⟩,zA9 (fun i σ H3=>(∃o1 o3:Option V,σ=[some (.ref l),o1,some (.ref d),o3])/\Kp [] H H3/\H3 d=some (.dK (dT1 (ns.take i) fun _=>.bl true))) ⟨⟨_,_,rfl⟩,Kp.new k2 fdH,upd_same⟩ (fun i σ H3 _ ⟨_,k3,_⟩=>SqL.of (k3 l _ hl (by simp))) ?_ ?_⟩
   ·rintro i v σ H3 hv ⟨⟨o1,o3,rfl⟩,k3,h3⟩;obtain ⟨n,en,rfl⟩:=zA3 hv;have ni:=zC3 hD en;refine ⟨_,rfl,_,rfl,_,_,rfl,DGet.k (k:=Sum.inr n) h3,_,rfl,?_⟩;rw [zBe,qAB ni];refine iteF ?_;refine ⟨_,rfl,_,rfl,_,_,rfl,DPut.k (k:=Sum.inr n) h3 ?_,?_⟩
    ·rw [qAD,qAY,qAK];lia
    ·refine ⟨⟨_,_,rfl⟩,Kp.new k3 fdH,?_⟩;rw [upd_same,zDh _ ni,zAj en];unfold dT1;rw [qAS];rfl
   ·rintro σ H3 ⟨⟨o1,o3,rfl⟩,k3,h3⟩;exact k H3 k3
end
theorem zIc {qs:List (List Str×Addr)} {v:V} (h:(qs.map fun q=>V.ref q.2)[i]?=some v):∃q,qs[i]?=some q/\v= .ref q.2:=by
 rw [qAe] at h;obtain ⟨n,e,r⟩:=qBH.mp h;exact ⟨n,e,r.symm⟩
theorem Ords.kp {M:List Addr} {l:Addr} {qs:List (List Str×Addr)} (o:Ords H l qs) (k:Kp M H H') (h1:l∉M) (h2:∀q∈qs,q.2∉M):Ords H' l qs:=⟨k l _ o.top h1,fun q hq=>k _ _ (o.row q hq) (h2 q hq),o.two⟩
section
def zF1:Sp:=fun vs H Q _=>∃(l m:Addr) (ns:List Str) (qs:List (List Str×Addr)),vs=[.ref l,.ref m]/\Txs H l ns/\Ords H m qs/\(∀q∈qs,∀x∈q.1,x∈ns)/\Q .non H
abbrev zDf:Stmt:=top 36
theorem zC5:FnScope ["names", "orders", "order", "part"] ["names", "orders"] (zAd zDf):=fnS
theorem zHy {f:Addr} (F:Fun K "check_parts" "check_parts" zDf f fd) (T:Txt K mg) (C_check_job:Cal P w K mg base "check_job" 2 ["names", "thing"] zD9):FnOk P w K mg base CX0 3 f fd ["names", "orders"] zF1:=by
 refine F.ok zC5 (fun vs H Q E h=>?_) (fun cdv A outer s H vs Q E hr h=>?_)
 ·obtain ⟨l,m,ns,qs,rfl,_⟩:=h;rfl
 ·obtain ⟨l,m,ns,qs,rfl,hl,hm,hq,k⟩:=h;have HR_check_job:=hr
  refine ⟨_,(zAe (zBb qAk rfl (zAl (pv 1)) (pgN (i:=2) zC5.nd)
    (zAe (zBb qAk rfl (pi_tup (pv 2)) (pgN (i:=3) zC5.nd)
     (zAe (zA8 (zAf C_check_job HR_check_job rfl (zAa (pv 0) (zAa (pv 3) zAb))))))))),?_⟩
  refine ⟨_,rfl,_,rfl,⟨_,SqL.of hm.top⟩,zA9 (fun i σ H2=>(∃o2 o3:Option V,σ=[some (.ref l),some (.ref m),o2,o3])/\H2=H) ⟨⟨_,_,rfl⟩,rfl⟩ (fun i σ H2 _ ⟨_,e⟩=>by subst e;exact SqL.of hm.top) ?_ ?_⟩
  ·rintro i v σ H2 hv ⟨⟨o2,o3,rfl⟩,rfl⟩;obtain ⟨q,eq,rfl⟩:=zIc hv;have mq:=qAN eq;refine ⟨_,rfl,_,rfl,⟨_,.inl (.inl (hm.row q mq))⟩,for_tup (fun j σ H3=>(∃o3:Option V,σ=[some (.ref l),some (.ref m),some (.ref q.2),o3])/\H3=H2) ⟨⟨_,rfl⟩,rfl⟩ (fun j σ H3 _ ⟨_,e⟩=>by subst e;exact .inl (.inl (hm.row q mq))) ?_ ?_⟩
   ·rintro j v σ H3 hv ⟨⟨o3,rfl⟩,rfl⟩;obtain ⟨x,ex,rfl⟩:=zA3 hv;exact ⟨_,rfl,_,rfl,x,l,ns,rfl,hl,hq q mq x (qAN ex),⟨_,rfl⟩,rfl⟩
   ·rintro σ H3 ⟨⟨o3,rfl⟩,rfl⟩;exact ⟨⟨_,_,rfl⟩,rfl⟩
  ·rintro σ H2 ⟨⟨o2,o3,rfl⟩,rfl⟩;exact k
end
def fst (q:List Str×Addr):Str:=q.1.getD 0 Str.empty
def snd (q:List Str×Addr):Str:=q.1.getD 1 Str.empty
def told (qs:List (List Str×Addr)) (n:Str):List Str:=(qs.filter fun q=>decide (snd q=n)).map fst
theorem told_snoc (qs:List (List Str×Addr)) (q:List Str×Addr) (n:Str):told (qs++[q]) n=if snd q=n then told qs n++[fst q] else told qs n:=by
 unfold told;rw [qB7]
 by_cases e:snd q=n
 ·rw [qAC e];simp [e]
 ·rw [qAB e];simp [e]
theorem told_len (qs:List (List Str×Addr)) (n:Str):(told qs n).length<=qs.length:=by
 unfold told;rw [qAD];exact qAx _ _
structure DL (H0 H:Hp) (d:Addr) (ns:List Str) (la:Str->Addr) (f:Str->List Str):Prop where
 top:H d=some (.dK (dT1 ns fun n=>.ref (la n)))
 row:∀n∈ns,Txs H (la n) (f n)
 ne:∀n∈ns,la n≠d
 inj:∀n∈ns,∀m∈ns,la n=la m->n=m
 fr:Fre H0 d
 frs:∀n∈ns,Fre H0 (la n)
theorem zFg {g g':Str->V} (h:∀n∈ns,g n=g' n):dT1 ns g=dT1 ns g':=List.map_congr_left fun n hn=>by rw [h n hn]
section
def zGu:Sp:=fun vs H Q _=>∃(l m:Addr) (ns:List Str) (qs:List (List Str×Addr)),vs=[.ref l,.ref m]/\Txs H l ns/\Ords H m qs/\ns.Nodup/\ns.length<=20/\qs.length<=4096/\(∀q∈qs,∀x∈q.1,x∈ns) /\
 ∀d la H',DL H H' d ns la (told qs)->Kp [] H H'->Q (.ref d) H'
abbrev zDv:Stmt:=top 38
theorem zBu:FnScope ["names", "orders", "told", "name", "one", "other"] ["names", "orders"] (zAd zDv):=fnS
theorem zJa {f:Addr} (F:Fun K "told_ahead" "told_ahead" zDv f fd):FnOk P w K mg base CX0 1 f fd ["names", "orders"] zGu:=by
 refine F.ok zBu (fun vs H Q E h=>?_) (fun cdv A outer s H vs Q E hr h=>?_)
 ·obtain ⟨l,m,ns,qs,rfl,_⟩:=h;rfl
 ·obtain ⟨l,m,ns,qs,rfl,hl,hm,hN,hn,hz,hq,k⟩:=h;have hu:=zDk hr
  refine ⟨_,(zAc (psS (i:=2) zBu.nd zBy)
   (zAc (zBb qAk rfl (zAl (pv 0)) (pgN (i:=3) zBu.nd)
    (zAe (zCp hu (pv 2) (pv 3) (zCf zAb) rfl)))
   (zAc (zBb qAk rfl (zAl (pv 1)) (pg_tup rfl (zAw (pgN (i:=4) zBu.nd) (zAw (pgN (i:=5) zBu.nd) zDi)))
    (zAe (zA8 (zHx qBX qDG qDH zD1 (zA0 hu (pv 2) (pv 5) (fun _ _=>rfl)) (zAa (pv 4) zAb)))))
   (zAe (zAo (pv 2)))))),?_⟩
  refine fun d hd=>?_;have fd:Fre H d:=hd
  refine ⟨_,rfl,_,rfl,⟨_,SqL.of ((Kp.new (M:=[]) Kp.refl fd) l _ hl (by simp))⟩,zA9 (fun i σ H2=>(∃o3 o4 o5:Option V,σ=[some (.ref l),some (.ref m),some (.ref d),o3,o4,o5])/\Kp [] H H2/\∃la,DL H H2 d (ns.take i) la fun _=>[])
   ⟨⟨_,_,_,rfl⟩,Kp.new Kp.refl fd,fun _=>0,upd_same,(fun n h=>nomatch h),(fun n h=>nomatch h),(fun n h=>nomatch h),fd,(fun n h=>nomatch h)⟩ (fun i σ H2 _ ⟨_,k2,_⟩=>SqL.of (k2 l _ hl (by simp))) ?_ ?_⟩
  ·rintro i v σ H2 hv ⟨⟨o3,o4,o5,rfl⟩,k2,la,D⟩;obtain ⟨n,en,rfl⟩:=zA3 hv;have ni:=zC3 hN en;refine ⟨(by walk_at "ln"),fun b hb=>?_⟩;have fb:Fre H2 b:=hb;have ndb:d≠b:=ne_fre fb D.top;have fbH:Fre H b:=k2.fre fb (by simp);refine ⟨_,rfl,_,rfl,_,_,rfl,DPut.k (k:=Sum.inr n) ((upd_ne ndb).trans D.top) ?_,?_⟩
   ·rw [qAD,qAY,qAK];lia
   ·have nlb:∀x∈ns.take i,la x≠b:=fun x hx=>ne_fre fb (D.row x hx);refine ⟨⟨_,_,_,rfl⟩,Kp.new (Kp.new k2 fbH) fd,fun x=>if x=n then b else la x,?_,fun x hx=>?_,fun x hx=>?_,fun x hx y hy e=>?_,fd,fun x hx=>?_⟩
    ·rw [upd_same,zDh _ ni,zAj en];have:dT1 (ns.take i) (fun n=>V.ref (la n))=dT1 (ns.take i) (fun x=>V.ref (if x=n then b else la x)):=zFg fun x hx=>by rw [qAB fun (z:x=n)=>ni (z▸hx)]
     rw [this];unfold dT1;rw [qAS];simp
    ·rw [zAj en] at hx
     by_cases z:x=n
     ·rw [qAC z];exact (upd_ne ndb.symm).trans upd_same
     ·rw [qAB z]
      have hx':x∈ns.take i:=by
       rcases qAW.mp hx with y| y
       ·exact y
       ·exact absurd (qAZ.mp y) z
      exact (upd_ne (D.ne x hx')).trans ((upd_ne (nlb x hx')).trans (D.row x hx'))
    ·rw [zAj en] at hx
     by_cases z:x=n
     ·rw [qAC z];exact ndb.symm
     ·rw [qAB z];rcases qAW.mp hx with y| y
      ·exact D.ne x y
      ·exact absurd (qAZ.mp y) z
    ·rw [zAj en] at hx hy
     have mem:∀x,x∈ns.take i++[n]->x≠n->x∈ns.take i:=fun x hx z=>by
      rcases qAW.mp hx with y| y
      ·exact y
      ·exact absurd (qAZ.mp y) z
     by_cases z:x=n
     ·by_cases z':y=n
      ·rw [z,z']
      ·rw [qAC z,qAB z'] at e;exact absurd e.symm (nlb y (mem y hy z'))
     ·by_cases z':y=n
      ·rw [qAB z,qAC z'] at e;exact absurd e (nlb x (mem x hx z))
      ·rw [qAB z,qAB z'] at e;exact D.inj x (mem x hx z) y (mem y hy z') e
    ·rw [zAj en] at hx
     by_cases z:x=n
     ·rw [qAC z];exact fbH
     ·rw [qAB z];rcases qAW.mp hx with y| y
      ·exact D.frs x y
      ·exact absurd (qAZ.mp y) z
  ·rintro σ H2 ⟨⟨o3,o4,o5,rfl⟩,k2,la,D⟩;have eN:ns.take (ns.map V.str).length=ns:=by rw [qAD,qAi]
   rw [eN] at D
   refine ⟨_,rfl,_,rfl,⟨_,SqL.of (k2 m _ hm.top (by simp))⟩,zA9 (fun i σ H3=>(∃o3 o4 o5:Option V,σ=[some (.ref l),some (.ref m),some (.ref d),o3,o4,o5])/\Kp [] H H3/\DL H H3 d ns la (told (qs.take i)))
    ⟨⟨_,_,_,rfl⟩,k2,D⟩ (fun i σ H3 _ ⟨_,k3,_⟩=>SqL.of (k3 m _ hm.top (by simp))) ?_ ?_⟩
   ·rintro i v σ H3 hv ⟨⟨o3,o4,o5,rfl⟩,k3,D⟩;obtain ⟨q,eq,rfl⟩:=zIc hv;have mq:=qAN eq;obtain ⟨a,b,eab⟩:=hm.two q mq
    have hrow:H3 q.2=some (.tup [.str a,.str b]):=by
     have:=k3 q.2 _ (hm.row q mq) (by simp);rw [eab] at this;exact this
    have hb:b∈ns:=hq q mq b (by rw [eab];simp);have esnd:snd q=b:=by unfold snd;rw [eab];rfl
    have efst:fst q=a:=by unfold fst;rw [eab];rfl
    refine ⟨_,_,rfl,.inl (.inl hrow),rfl,_,_,rfl,_,_,rfl,rfl,?_⟩;refine ⟨_,rfl,_,rfl,_,.ref (la b),rfl,?_,.inl ⟨rfl,_,SqL.of (D.row b hb)⟩,_,rfl,_,_,_,rfl,rfl,D.row b hb,?_,?_⟩
    ·have:=DGet.k (k:=Sum.inr b) D.top;rw [zBe,qAC hb] at this;exact this
    ·have:=told_len (qs.take i) b;rw [qAY] at this;rw [qAD,qAK];lia
    ·refine ⟨⟨_,_,_,rfl⟩,Kp.new k3 (D.frs b hb),?_⟩;rw [zAj eq];refine ⟨(upd_ne (D.ne b hb).symm).trans D.top,fun x hx=>?_,D.ne,D.inj,D.fr,D.frs⟩;show upd H3 (la b) _ (la x)=some (.lst ((told (qs.take i++[q]) x).map V.str));rw [told_snoc,esnd,efst]
     by_cases z:b=x
     ·subst z;rw [qAC rfl,upd_same,qAS];rfl
     ·rw [qAB z,upd_ne fun y=>z (D.inj b hb x hx y.symm)];exact D.row x hx
   ·rintro σ H3 ⟨⟨o3,o4,o5,rfl⟩,k3,D⟩;have eQ:qs.take (qs.map fun q=>V.ref q.2).length=qs:=by rw [qAD,qAi]
    rw [eQ] at D;exact ⟨_,rfl,k d la H3 D k3⟩
end
def addA (A:List Str) (x:Str):List Str:=if x∈A then A else A++[x]
theorem mem_addA {A:List Str} {x:Str}:y∈addA A x↔y∈A\/y=x:=by
 unfold addA
 by_cases h:x∈A
 ·rw [qAC h];exact ⟨.inl,fun z=>z.elim id fun e=>e▸h⟩
 ·rw [qAB h];simp
theorem zIg {A:List Str} {x:Str} (h:A.Nodup):(addA A x).Nodup:=by
 unfold addA
 by_cases hx:x∈A
 ·rw [qAC hx];exact h
 ·rw [qAB hx];refine qB4.mpr ⟨h,by simp,fun a ha b hb=>?_⟩;rw [qAZ.mp hb];rintro rfl;exact hx ha
theorem zBn :∀(B A:List Str),y∈B.foldl addA A↔y∈A\/y∈B
 | [],A=>by simp
 | b::B,A=>by
  rw [qBc,zBn B (addA A b),mem_addA,qAO,or_assoc]
theorem zDj:∀(B A:List Str),A.Nodup->(B.foldl addA A).Nodup
 | [],A,h=>h
 | b::B,A,h=>zDj B _ (zIg h)
def zB3 (S:Str->List Str) (ms:List Str):List Str:=ms.foldl (fun A m=>(S m).foldl addA (addA A m)) []
theorem joinA_snoc (S:Str->List Str) (ms:List Str) (m:Str):zB3 S (ms++[m])=(S m).foldl addA (addA (zB3 S ms) m):=by unfold zB3;rw [qDI];rfl
theorem zIi {S:Str->List Str} :∀(ms A:List Str),y∈ms.foldl (fun A m=>(S m).foldl addA (addA A m)) A↔y∈A\/y∈ms\/∃m∈ms,y∈S m
 | [],A=>by simp
 | m::ms,A=>by
  rw [qBc,zIi ms,zBn,mem_addA];constructor
  ·rintro (((h| h)| h)| h| ⟨q,h1,h2⟩)
   ·exact .inl h
   ·exact .inr (.inl (h▸qAR))
   ·exact .inr (.inr ⟨m,qAR,h⟩)
   ·exact .inr (.inl (qAP _ h))
   ·exact .inr (.inr ⟨q,qAP _ h1,h2⟩)
  ·rintro (h| h| ⟨q,h1,h2⟩)
   ·exact .inl (.inl (.inl h))
   ·rcases qAO.mp h with e| e
    ·exact .inl (.inl (.inr e))
    ·exact .inr (.inl e)
   ·rcases qAO.mp h1 with e| e
    ·exact .inl (.inr (e▸h2))
    ·exact .inr (.inr ⟨q,e,h2⟩)
theorem zHf {S:Str->List Str} {ms:List Str} :y∈zB3 S ms↔y∈ms\/∃m∈ms,y∈S m:=by
 unfold zB3;rw [zIi];simp
theorem zF6 {S:Str->List Str}:∀(ms A:List Str),A.Nodup->(ms.foldl (fun A m=>(S m).foldl addA (addA A m)) A).Nodup
 | [],A,h=>h
 | m::ms,A,h=>zF6 ms _ (zDj _ _ (zIg h))
theorem zHc (S:Str->List Str) (ms:List Str):(zB3 S ms).Nodup:=zF6 ms [] qA1
theorem zBt:∀{A B:List Str},A.Nodup->(∀x∈A,x∈B)->A.length<=B.length
 | [],B,_,_=>qAX _
 | a::A,B,h,hs=>by
  obtain ⟨h1,h2⟩:=qAw.mp h;have hb:=hs a qAR;have:=zBt (B:=B.erase a) h2 fun x hx=>(qDg fun e=>h1 (by rw [<-e];exact hx)).mpr (hs x (qAP _ hx));rw [qDh hb] at this;have:=qDJ hb;rw [qAa];lia
abbrev SetD (H:Hp) (e:Addr) (A:List Str):Prop:=H e=some (.dK (dT1 A fun _=>.bl true))
theorem put_set (A:List Str) (x:Str):putK (dT1 A fun _=>.bl true) (.inr x) (.bl true)=dT1 (addA A x) fun _=>.bl true:=by
 unfold addA
 by_cases h:x∈A
 ·rw [qAC h];unfold putK;rw [zGl,zBe,qAC h];refine (qAC (by rfl)).trans ?_;unfold dT1;rw [qAt];refine List.map_congr_left fun y _=>?_;show (if (Sum.inr y:Key)=Sum.inr x then ((Sum.inr y:Key),V.bl true) else (Sum.inr y,V.bl true))=_;split<;>rfl
 ·rw [qAB h,zDh _ h];unfold dT1;rw [qAS];rfl
theorem mrg_set:∀(B A:List Str),mrg (dT1 A fun _=>.bl true) (dT1 B fun _=>.bl true)=dT1 (B.foldl addA A) fun _=>.bl true
 | [],A=>rfl
 | b::B,A=>by
  show mrg (putK (dT1 A fun _=>.bl true) (.inr b) (.bl true)) (dT1 B fun _=>.bl true)=_;rw [put_set,mrg_set B];rfl
section
def spHasAll:Sp:=fun vs H Q _=>∃(d l:Addr) (kvs:List (Key×V)) (ms:List Str),vs=[.ref d,.ref l]/\H d=some (.dK kvs)/\Txs H l ms/\ms.length<=4096/\∀H',Kp [] H H'->Q (.bl (ms.all fun m=>(valV kvs (.inr m)).isSome)) H'
abbrev zE6:Stmt:=top 39
theorem sc_has_all:FnScope ["done", "names"] ["done", "names"] (zAd zE6):=fnS
theorem ok_has_all {f:Addr} (F:Fun K "has_all" "has_all" zE6 f fd) (T:Txt K mg):FnOk P w K mg base CX0 1 f fd ["done", "names"] spHasAll:=by
 refine F.ok sc_has_all (fun vs H Q E h=>?_) (fun cdv A outer s H vs Q E hr h=>?_)
 ·obtain ⟨d,l,kvs,ms,rfl,_⟩:=h;rfl
 ·obtain ⟨d,l,kvs,ms,rfl,hd,hl,hz,k⟩:=h;have hu:=zDk hr;refine ⟨_,(zAe (zAo (zAh (zFm _ rfl) (by rfl) T.z_all bo_all (zAa (zA5 rfl (zBc (sc:=zAd zE6) rfl (by decide +kernel)) (Draws.own (x:= "name") (dtk (i:=0) rfl Draws.nil)) (zAl (pv 1)) (fun _ _ _ _=>(pgB (i:=0))) (fun _ _ _ _=>zCe) (fun _ _ _ _=>(pe_cmp (zF5 hu (pv 0) (pv 1))))) zAb)))),?_⟩;refine ⟨_,rfl,_,rfl,⟨_,SqL.of hl⟩,fun D hD=>zBd (ms.map V.str) (fun i ys τ H'=>(∃o0,τ=[o0,some (.ref d)])/\ys=((ms.take i).map fun m=>V.bl (valV kvs (.inr m)).isSome)/\H'=upd H D (.lst ys)) ⟨⟨_,rfl⟩,rfl,rfl⟩ (fun i ys τ H' ⟨_,_,e⟩=>by subst e;exact SqL.of ((upd_ne (ne_fre (show Fre H D from hD) hl)).trans hl)) ?_ ?_⟩
  ·rintro i v ys τ H' hv ⟨⟨o0,rfl⟩,rfl,rfl⟩;obtain ⟨m,em,rfl⟩:=zA3 hv;refine ⟨_,rfl,_,rfl,_,_,rfl,DGet.k (k:=Sum.inr m) ((upd_ne (ne_fre (show Fre H D from hD) hd)).trans hd),upd_same,?_,⟨_,rfl⟩,?_,zBo⟩
   ·rw [qAD,qAY,qAK];lia
   ·rw [zAj em,qAS];rfl
  ·rintro ys τ H' ⟨_,rfl,rfl⟩;have eM:ms.take (ms.map V.str).length=ms:=by rw [qAD,qAi]
   refine ⟨D,ms.map fun m=>(valV kvs (.inr m)).isSome,rfl,SqL.of ?_,?_⟩
   ·rw [upd_same,eM,qAt];rfl
   ·rw [qCo];exact k _ (Kp.new Kp.refl hD)
def spJoined:Sp:=fun vs H Q _=>∃(l d:Addr) (ms D0 ns:List Str) (fa:Str->Addr) (S:Str->List Str),vs=[.ref l,.ref d]/\Txs H l ms/\H d=some (.dK (dT1 D0 fun n=>.ref (fa n)))/\(∀m∈ms,m∈D0/\m∈ns/\SetD H (fa m) (S m)/\∀x∈S m,x∈ns)/\ns.length<=20/\(∀m∈ms,(S m).length<=20) /\
 ∀e H',Fre H e->SetD H' e (zB3 S ms)->Kp [] H H'->Q (.ref e) H'
abbrev zIz:Stmt:=top 41
theorem zGz:FnScope ["near", "far", "found", "name"] ["near", "far"] (zAd zIz):=fnS
theorem ok_joined {f:Addr} (F:Fun K "joined" "joined" zIz f fd):FnOk P w K mg base CX0 1 f fd ["near", "far"] spJoined:=by
 refine F.ok zGz (fun vs H Q E h=>?_) (fun cdv A outer s H vs Q E hr h=>?_)
 ·obtain ⟨l,d,ms,D0,ns,fa,S,rfl,_⟩:=h;rfl
 ·obtain ⟨l,d,ms,D0,ns,fa,S,rfl,hl,hd,hm,hn,hS,k⟩:=h;have hu:=zDk hr
  refine ⟨_,(zAc (psS (i:=2) zGz.nd zBy)
   (zAc (zBb qAk rfl (zAl (pv 0)) (pgN (i:=3) zGz.nd)
    (zAc (zCp hu (pv 2) (pv 3) pe_bl rfl)
    (zAe (zA8 (zHx PySem.F.plainAttrs_dict PySem.F.slot_dict_update PySem.F.type_dict_update mt_dupd (pv 2) (zAa (zA0 hu (pv 1) (pv 3) (fun _ _=>rfl)) zAb))))))
   (zAe (zAo (pv 2))))),?_⟩
  refine fun e he=>?_;have fe:Fre H e:=he
  have hsub:∀i x,x∈zB3 S (ms.take i)->x∈ns:=fun i x hx=>by
   rcases zHf.mp hx with z| ⟨m,z,z'⟩
   ·exact (hm x (qBr z)).2.1
   ·exact (hm m (qBr z)).2.2.2 x z'
  have hlen:∀i,(zB3 S (ms.take i)).length<=20:=fun i=>qAT (zBt (zHc S _) (hsub i)) hn
  refine ⟨_,rfl,_,rfl,⟨_,SqL.of ((Kp.new (M:=[]) Kp.refl fe) l _ hl (by simp))⟩,zA9 (fun i σ H2=>(∃o3:Option V,σ=[some (.ref l),some (.ref d),some (.ref e),o3])/\Kp [] H H2/\SetD H2 e (zB3 S (ms.take i)))
   ⟨⟨_,rfl⟩,Kp.new Kp.refl fe,upd_same⟩ (fun i σ H2 _ ⟨_,k2,_⟩=>SqL.of (k2 l _ hl (by simp))) ?_ ?_⟩
  ·rintro i v σ H2 hv ⟨⟨o3,rfl⟩,k2,h2⟩;obtain ⟨m,em,rfl⟩:=zA3 hv;obtain ⟨m1,m2,m3,m4⟩:=hm m (qAN em);have l2:=hlen i;refine ⟨_,rfl,_,rfl,_,_,rfl,DPut.k (k:=Sum.inr m) h2 (by rw [qAD,qAK];lia),?_⟩;rw [put_set];have k3:Kp [] H (upd H2 e (.dK (dT1 (addA (zB3 S (ms.take i)) m) fun _=>.bl true))):=Kp.new k2 fe;have nfa:fa m≠e:=ne_fre fe m3;refine ⟨_,rfl,.inr (.inr (.inl ⟨rfl,.inl ⟨_,upd_same⟩⟩)),_,rfl,_,rfl,_,.ref (fa m),rfl,?_,_,fa m,_,_,rfl,rfl,upd_same,k3 _ _ m3 (by simp),nfa.symm,?_,?_⟩
   ·have:=DGet.k (k:=Sum.inr m) (k3 d _ hd (by simp));rw [zBe,qAC m1] at this;exact this
   ·have:=hS m (qAN em);rw [qAD,qAD,qAK]
    have:(addA (zB3 S (ms.take i)) m).length<=(zB3 S (ms.take i)).length+1:=by
     unfold addA;split
     ·lia
     ·rw [qAo];exact qAG _
    lia
   ·rw [mrg_set];refine ⟨⟨_,rfl⟩,Kp.new k3 fe,?_⟩;rw [zAj em,joinA_snoc];exact upd_same
  ·rintro σ H2 ⟨⟨o3,rfl⟩,k2,h2⟩;have eM:ms.take (ms.map V.str).length=ms:=by rw [qAD,qAi]
   rw [eM] at h2;exact ⟨_,rfl,k e H2 fe h2 k2⟩
end
structure Fp (H0 H:Hp) (e:Addr) (ns D:List Str) (fa:Str->Addr) (S f:Str->List Str):Prop where
 top:H e=some (.dK (dT1 D fun n=>.ref (fa n)))
 nd:D.Nodup
 sub:∀n∈D,n∈ns
 row:∀n∈D,SetD H (fa n) (S n)
 snd:∀n∈D,(S n).Nodup
 sns:∀n∈D,∀x∈S n,x∈ns
 mem:∀n∈D,∀x,x∈S n↔x∈f n\/∃m∈f n,x∈S m
 cl:∀n∈D,∀x∈f n,x∈D
 ne:∀n∈D,fa n≠e
 fr:Fre H0 e
 frs:∀n∈D,Fre H0 (fa n)
theorem Fp.kp {H0:Hp} {e:Addr} {D:List Str} {fa:Str->Addr} {S f:Str->List Str} (F:Fp H0 H e ns D fa S f) (k:Kp [] H H'):Fp H0 H' e ns D fa S f :=
 ⟨k e _ F.top (by simp),F.nd,F.sub,fun n hn=>k _ _ (F.row n hn) (by simp),F.snd,F.sns,F.mem,F.cl,F.ne,F.fr,F.frs⟩
theorem Fp.more {H0:Hp} {e b:Addr} {D:List Str} {fa:Str->Addr} {S f:Str->List Str} {n:Str} (F:Fp H0 H e ns D fa S f) (hn:n∈ns) (hD:n∉D) (hf:∀x∈f n,x∈D) (hs:∀x∈f n,x∈ns) (hb:SetD H b (zB3 S (f n))) (nb:b≠e) (fb:Fre H0 b) :
  Fp H0 (upd H e (.dK (putK (dT1 D fun n=>.ref (fa n)) (.inr n) (.ref b)))) e ns (D++[n]) (fun x=>if x=n then b else fa x) (fun x=>if x=n then zB3 S (f n) else S x) f:=by
 have hx:∀x∈D,¬x=n:=fun x h z=>hD (z▸h)
 have cs:∀x,x∈D++[n]->x∈D\/x=n:=fun x h=>by
  rcases qAW.mp h with z| z
  ·exact .inl z
  ·exact .inr (qAZ.mp z)
 have eqS:∀{x},x∈D->(if x=n then zB3 S (f n) else S x)=S x:=fun {x} h=>qAB (hx x h);have eqn:(if n=n then zB3 S (f n) else S n)=zB3 S (f n):=qAC rfl;refine ⟨?_,?_,fun x h=>?_,fun x h=>?_,fun x h=>?_,fun x h y hy=>?_,fun x h y=>?_,fun x h y hy=>?_,fun x h=>?_,F.fr,fun x h=>?_⟩
 ·rw [upd_same,zDh _ hD];have:dT1 D (fun n=>V.ref (fa n))=dT1 D (fun x=>V.ref (if x=n then b else fa x)):=zFg fun x h=>by rw [qAB (hx x h)]
  rw [this];unfold dT1;rw [qAS];simp
 ·refine qB4.mpr ⟨F.nd,by simp,fun a ha c hc=>?_⟩;rw [qAZ.mp hc];exact hx a ha
 ·rcases cs x h with z| z
  ·exact F.sub x z
  ·rw [z];exact hn
 ·rcases cs x h with z| z
  ·show upd H e _ (if x=n then b else fa x)=some (.dK (dT1 (if x=n then zB3 S (f n) else S x) fun _=>.bl true));rw [qAB (hx x z),qAB (hx x z),upd_ne (F.ne x z)];exact F.row x z
  ·subst z;show upd H e _ (if x=x then b else fa x)=some (.dK (dT1 (if x=x then zB3 S (f x) else S x) fun _=>.bl true));rw [qAC rfl,qAC rfl,upd_ne nb];exact hb
 ·rcases cs x h with z| z
  ·show (if x=n then zB3 S (f n) else S x).Nodup;rw [eqS z];exact F.snd x z
  ·subst z;show (if x=x then zB3 S (f x) else S x).Nodup;rw [qAC rfl];exact zHc _ _
 ·rcases cs x h with z| z
  ·have hy:y∈(if x=n then zB3 S (f n) else S x):=hy;rw [eqS z] at hy;exact F.sns x z y hy
  ·subst z;have hy:y∈(if x=x then zB3 S (f x) else S x):=hy;rw [qAC rfl] at hy;rcases zHf.mp hy with q| ⟨m,q1,q2⟩
   ·exact hs y q
   ·exact F.sns m (hf m q1) y q2
 ·rcases cs x h with z| z
  ·show y∈(if x=n then zB3 S (f n) else S x)↔y∈f x\/∃m∈f x,y∈(if m=n then zB3 S (f n) else S m);rw [eqS z,F.mem x z y];constructor
   ·rintro (q| ⟨m,q1,q2⟩)
    ·exact .inl q
    ·exact .inr ⟨m,q1,by rw [eqS (F.cl x z m q1)];exact q2⟩
   ·rintro (q| ⟨m,q1,q2⟩)
    ·exact .inl q
    ·rw [eqS (F.cl x z m q1)] at q2;exact .inr ⟨m,q1,q2⟩
  ·subst z;show y∈(if x=x then zB3 S (f x) else S x)↔y∈f x\/∃m∈f x,y∈(if m=x then zB3 S (f x) else S m);rw [qAC rfl,zHf];constructor
   ·rintro (q| ⟨m,q1,q2⟩)
    ·exact .inl q
    ·exact .inr ⟨m,q1,by rw [eqS (hf m q1)];exact q2⟩
   ·rintro (q| ⟨m,q1,q2⟩)
    ·exact .inl q
    ·rw [eqS (hf m q1)] at q2;exact .inr ⟨m,q1,q2⟩
 ·rcases cs x h with z| z
  ·exact qAv _ (F.cl x z y hy)
  ·subst z;exact qAv _ (hf y hy)
 ·rcases cs x h with z| z
  ·show (if x=n then b else fa x)≠e;rw [qAB (hx x z)];exact F.ne x z
  ·subst z;show (if x=x then b else fa x)≠e;rw [qAC rfl];exact nb
 ·rcases cs x h with z| z
  ·show Fre H0 (if x=n then b else fa x);rw [qAB (hx x z)];exact F.frs x z
  ·subst z;show Fre H0 (if x=x then b else fa x);rw [qAC rfl];exact fb
theorem zHk (r:Str->Nat):∀(L:List Str),L≠[]->∃n∈L,∀m∈L,r n<=r m
 | [],h=>absurd rfl h
 | [x],_=>⟨x,by simp,fun m hm=>by rw [qAZ.mp hm];exact qAG _⟩
 | x::y::L,_=>by
  obtain ⟨n,hn,h⟩:=zHk r (y::L) (by simp)
  by_cases c:r x<=r n
  ·refine ⟨x,qAR,fun m hm=>?_⟩;rcases qAO.mp hm with z| z
   ·rw [z];exact qAG _
   ·exact qAT c (h m z)
  ·refine ⟨n,qAP _ hn,fun m hm=>?_⟩;rcases qAO.mp hm with z| z
   ·rw [z];lia
   ·exact h m z
theorem zHp {p:α->Bool} {x:α}:∀{L:List α},x∈L->p x=false->(L.filter p).length<L.length
 | a::L,h,hp=>by
  rcases qAO.mp h with z| z
  ·subst z;rw [qA8,qAB (by rw [hp];decide),qAa];exact Nat.lt_succ_of_le (qAx _ _)
  ·have:=zHp z hp;rw [qA8,qAa];split
   ·rw [qAa];lia
   ·lia
theorem zFx (D:List Str) (g:Str->V) (x:Str):(valV (dT1 D g) (.inr x)).isSome=decide (x∈D):=by
 rw [zBe]
 by_cases h:x∈D
 ·rw [qAC h,qAU h];rfl
 ·rw [qAB h,qAh h];rfl
section
def zIa:Sp:=fun vs H Q _=>∃(l d:Addr) (ns:List Str) (la:Str->Addr) (f:Str->List Str) (r:Str->Nat),vs=[.ref l,.ref d]/\Txs H l ns/\ns.Nodup/\ns.length<=20/\H d=some (.dK (dT1 ns fun n=>.ref (la n)))/\(∀n∈ns,Txs H (la n) (f n)/\(f n).length<=4096/\∀x∈f n,x∈ns/\r x<r n) /\
 ∀e D fa S H',Fp H H' e ns D fa S f->(∀n∈ns,n∈D)->Kp [] H H'->Q (.ref e) H'
abbrev zCo:Stmt:=top 40
theorem zBr:FnScope ["names", "told", "far", "left", "free", "name"] ["names", "told"] (zAd zCo):=fnS
def leftN (σ:St) (H:Hp):Nat:=match (σ[3]?:Option (Option V)) with
 | some (some (.ref a))=>match H a with
  | some (.lst xs)=>xs.length
  | _=>0
 | _=>0
theorem ok_all_ahead {f:Addr} (F:Fun K "all_ahead" "all_ahead" zCo f fd) (T:Txt K mg) (C_has_all:Cal P w K mg base "has_all" 1 ["done", "names"] spHasAll) (C_joined:Cal P w K mg base "joined" 1 ["near", "far"] spJoined):FnOk P w K mg base CX0 2 f fd ["names", "told"] zIa:=by
 refine F.ok zBr (fun vs H Q E h=>?_) (fun cdv A outer s H vs Q E hr h=>?_)
 ·obtain ⟨l,d,ns,la,f,r,rfl,_⟩:=h;rfl
 ·obtain ⟨l,d,ns,la,f,r,rfl,hl,hN,hn,hd,hf,k⟩:=h;have hu:=zDk hr;have HR_has_all:=hr;have HR_joined:=hr
  refine ⟨_,(zAc (psS (i:=2) zBr.nd zBy)
   (zAc (psS (i:=3) zBr.nd (zAm zAz (by rfl) T.z_list zB2 (zAa (pv 0) zAb)))
   (zAc (zI4 qAk (zI3 (pv 3) (fun _=>rfl))
    (zAc (zG3 (i:=4) rfl (zBc (sc:=zAd zCo) rfl (by decide +kernel)) (Draws.own (x:= "name") (dtk (i:=2) rfl (dtk (i:=1) rfl Draws.nil))) (zAl (pv 3)) (fun _ _ _ _=>(pgB (i:=0))) (fun _ _ _ _=>(zB6 (zC1 (zAf C_has_all HR_has_all rfl (zAa (pv 1) (zAa (zA0 hu (pv 2) (pv 0) (fun _ _=>rfl)) zAb)))))) (fun _ _ _ _=>(pv 0)) zBr.nd rfl rfl)
    (zAc (zBx (zDx (zI3 (pv 4) (fun _=>rfl)))
     (zAe zAv)
     zAq)
    (zAc (zBb qAk rfl (zAl (pv 4)) (pgN (i:=5) zBr.nd)
     (zAe (zCp hu (pv 2) (pv 5) (zAf C_joined HR_joined rfl (zAa (zA0 hu (pv 1) (pv 5) (fun _ _=>rfl)) (zAa (pv 2) zAb))) rfl)))
    (zAe (zG3 (i:=3) rfl (zBc (sc:=zAd zCo) rfl (by decide +kernel)) (Draws.own (x:= "name") (dtk (i:=2) rfl Draws.nil)) (zAl (pv 3)) (fun _ _ _ _=>(pgB (i:=0))) (fun _ _ _ _=>(zB6 (zF4 (zG5 hu (pv 0) (pv 1))))) (fun _ _ _ _=>(pv 0)) zBr.nd rfl rfl))))))
   (zAe (zAo (pv 2)))))),?_⟩
  refine fun e he=>?_;have fe:Fre H e:=he;refine ⟨_,rfl,_,_,rfl,.inl (SqL.of ((Kp.new (M:=[]) Kp.refl fe) l _ hl (by simp))),fun lf hlf=>?_⟩;have k0:Kp [] H (upd H e (.dK [])):=Kp.new Kp.refl fe;have flf:Fre H lf:=k0.fre hlf (by simp);have nel:e≠lf:=ne_fre (show Fre (upd H e (.dK [])) lf from hlf) upd_same;show tWhile (fun σ H Q=>tVar 3 σ H fun x H'=>∃k,TruV K x H' k/\Q k H') _ _ _ _
  refine zIp (fun σ H2=>∃(lf:Addr) (D:List Str) (fa:Str->Addr) (S:Str->List Str) (o4 o5:Option V),σ=[some (.ref l),some (.ref d),some (.ref e),some (.ref lf),o4,o5]/\Kp [] H H2/\Fp H H2 e ns D fa S f/\Txs H2 lf (ns.filter fun n=>decide (n∉D))) leftN
   ⟨lf,[],fun _=>0,fun _=>[],none,none,rfl,Kp.new k0 flf,⟨(upd_ne nel).trans upd_same,qA1,(fun n h=>nomatch h),(fun n h=>nomatch h),(fun n h=>nomatch h),(fun n h=>nomatch h),(fun n h=>nomatch h),(fun n h=>nomatch h),(fun n h=>nomatch h),fe,(fun n h=>nomatch h)⟩,by
    have ef:(ns.filter fun n=>decide (n∉([]:List Str)))=ns:=by simp
    show upd _ lf _ lf=some (.lst ((ns.filter fun n=>decide (n∉([]:List Str))).map V.str));rw [ef];exact upd_same⟩ ?_ (fun σ H Q Q' hq hc=>by
    obtain ⟨x,e,b,t,q⟩:=hc;exact ⟨x,e,b,t,hq _ _ q⟩)
  rintro σ H2 ⟨lf,D,fa,S,o4,o5,rfl,k2,FP,hlf⟩;refine ⟨_,rfl,_,.inl ⟨_,SqL.of hlf,rfl⟩,?_⟩;have hLs:∀n,n∈(ns.filter fun n=>decide (n∉D))↔n∈ns/\n∉D:=fun n=>by simp [qAQ]
  have hLl:(ns.filter fun n=>decide (n∉D)).length<=20:=qAT (qAx _ _) hn;generalize hL:(ns.filter fun n=>decide (n∉D))=L at *
  refine ite2 (fun c=>?_) (fun c=>?_)
  ·have cL:L≠[]:=fun z=>by rw [z] at c;simp at c
   refine ⟨_,rfl,_,rfl,⟨_,SqL.of hlf⟩,fun B hB=>zBi (L.map V.str) (fun i ys τ H3=>(∃o0,τ=[o0,some (.ref e),some (.ref d)])/\ys=((L.take i).filter fun n=>(f n).all fun m=>decide (m∈D)).map V.str/\Kp [] H2 H3/\H3 B=some (.lst ys))
    ⟨⟨_,rfl⟩,rfl,Kp.new Kp.refl hB,upd_same⟩ (fun i ys τ H3 ⟨_,_,k3,_⟩=>SqL.of (k3 lf _ hlf (by simp))) ?_ ?_⟩
   ·rintro i v ys τ H3 hv ⟨⟨o0,rfl⟩,rfl,k3,h3⟩;obtain ⟨n,en,rfl⟩:=zA3 hv;have mn:=(hLs n).mp (qAN en);obtain ⟨n1,n2,n3⟩:=hf n mn.1;have k23:=k2.trans k3;refine ⟨_,rfl,_,rfl,_,rfl,_,.ref (la n),rfl,?_,e,la n,_,f n,rfl,k3 e _ FP.top (by simp),k23 _ _ n1 (by simp),n2,fun H4 k4=>?_⟩
    ·have:=DGet.k (k:=Sum.inr n) (k23 d _ hd (by simp));rw [zBe,qAC mn.1] at this;exact this
    have eall:((f n).all fun m=>(valV (dT1 D fun n=>V.ref (fa n)) (.inr m)).isSome)=(f n).all fun m=>decide (m∈D):=by
     congr 1;funext m;exact zFx D _ m
    rw [eall];have h4:=k4 B _ h3 (by simp);have et:=zAj en;refine ⟨_,rfl,ite2 (fun c=>?_) (fun c=>?_)⟩
    ·refine ⟨_,rfl,h4,?_,⟨_,rfl⟩,?_,Kp.new (k3.trans k4) hB,upd_same⟩
     ·rw [qAD,qAK];have h1:=qAx (fun n=>(f n).all fun m=>decide (m∈D)) (L.take i);rw [qAY] at h1;lia
     ·rw [et,qB7,qAS];have:[n].filter (fun n=>(f n).all fun m=>decide (m∈D))=[n]:=by rw [qA8,qAC c];rfl
      rw [this];rfl
    ·refine ⟨⟨_,rfl⟩,?_,k3.trans k4,?_⟩
     ·rw [et,qB7];have:[n].filter (fun n=>(f n).all fun m=>decide (m∈D))=[]:=by rw [qA8,qAB c];rfl
      rw [this,qBR]
     ·exact h4
   ·rintro ys τ H3 ⟨_,rfl,k3,h3⟩;have eT:L.take (L.map V.str).length=L:=by rw [qAD,qAi]
    rw [eT] at h3;have hFr:∀n,n∈(L.filter fun n=>(f n).all fun m=>decide (m∈D))↔n∈L/\∀m∈f n,m∈D:=fun n=>by simp [qAQ]
    have hFl:(L.filter fun n=>(f n).all fun m=>decide (m∈D)).length<=20:=qAT (qAx _ _) hLl
    have hFn:(L.filter fun n=>(f n).all fun m=>decide (m∈D)).Nodup:=by
     have:L.Nodup:=by rw [<-hL];exact hN.sublist qBB
     exact this.sublist qBB
    have hF0:(L.filter fun n=>(f n).all fun m=>decide (m∈D))≠[]:=by
     obtain ⟨n,n1,n2⟩:=zHk r L cL;refine List.ne_nil_of_mem ((hFr n).mpr ⟨n1,fun m hm=>?_⟩);have mn:=(hLs n).mp n1;obtain ⟨q1,q2⟩:=(hf n mn.1).2.2 m hm;apply qBe;intro z;have:=n2 m ((hLs m).mpr ⟨q1,z⟩);lia
    generalize hFE:(L.filter fun n=>(f n).all fun m=>decide (m∈D))=FR at *
    have k23:=k2.trans k3;refine ⟨_,rfl,_,.inl ⟨_,SqL.of h3,rfl⟩,?_⟩
    have e0:(!(FR.map V.str).isEmpty)=true:=by
     cases FR with
     | nil=>exact absurd rfl hF0
     | cons _ _=>rfl
    rw [e0];refine iteF ?_
    refine ⟨_,rfl,_,rfl,⟨_,SqL.of h3⟩,zA9 (fun i σ H4=>∃(fa:Str->Addr) (S:Str->List Str) (o5:Option V),σ=[some (.ref l),some (.ref d),some (.ref e),some (.ref lf),some (.ref B),o5]/\Kp [] H H4/\Fp H H4 e ns (D++FR.take i) fa S f/\Txs H4 lf L/\Txs H4 B FR)
     ⟨fa,S,_,rfl,k23,by rw [List.take_zero,qBR];exact FP.kp k3,k3 lf _ hlf (by simp),h3⟩ (fun i σ H4 _ ⟨_,_,_,_,_,_,_,h⟩=>SqL.of h) ?_ ?_⟩
    ·rintro i v σ H4 hv ⟨fa4,S4,o5',rfl,k4,F4,hlf4,hB4⟩;obtain ⟨n,en,rfl⟩:=zA3 hv;have mF:=(hFr n).mp (qAN en);have mn:=(hLs n).mp mF.1;obtain ⟨n1,n2,n3⟩:=hf n mn.1
     have nD:n∉D++FR.take i:=fun z=>by
      rcases qAW.mp z with y| y
      ·exact mn.2 y
      ·exact zC3 hFn en y
     have fD:∀x∈f n,x∈D++FR.take i:=fun x hx=>qAv _ (mF.2 x hx);refine ⟨_,rfl,_,rfl,_,.ref (la n),rfl,?_,_,rfl,la n,e,f n,D++FR.take i,ns,fa4,S4,rfl,k4 _ _ n1 (by simp),F4.top,fun m hm=>⟨fD m hm,(n3 m hm).1,F4.row m (fD m hm),F4.sns m (fD m hm)⟩,hn,fun m hm=>qAT (zBt (F4.snd m (fD m hm)) (F4.sns m (fD m hm))) hn,fun b H5 fb hb k5=>?_⟩
     ·have:=DGet.k (k:=Sum.inr n) (k4 d _ hd (by simp));rw [zBe,qAC mn.1] at this;exact this
     have F5:=F4.kp k5;have fbH:Fre H b:=k4.fre fb (by simp);refine ⟨_,rfl,_,rfl,_,_,rfl,DPut.k (k:=Sum.inr n) F5.top ?_,?_⟩
     ·have:=zBt F5.nd F5.sub;rw [qAD,qAK];lia
     ·have FM:=F5.more mn.1 nD fD (fun x hx=>(n3 x hx).1) hb (qAs (ne_fre fb F4.top)) fbH;rw [qCY,<-zAj en] at FM;exact ⟨_,_,_,rfl,Kp.new (k4.trans k5) fe,FM,(upd_ne (zBl hlf4 F4.top (fun z=>nomatch z))).trans (k5 lf _ hlf4 (by simp)),(upd_ne (zBl hB4 F4.top (fun z=>nomatch z))).trans (k5 B _ hB4 (by simp))⟩
    ·rintro σ H4 ⟨fa4,S4,o5',rfl,k4,F4,hlf4,hB4⟩;have eF:FR.take (FR.map V.str).length=FR:=by rw [qAD,qAi]
     rw [eF] at F4
     refine ⟨_,rfl,_,rfl,⟨_,SqL.of hlf4⟩,fun G hG=>zBi (L.map V.str) (fun i ys τ H5=>(∃o0,τ=[o0,some (.ref e)])/\ys=((L.take i).filter fun n=>decide (n∉D++FR)).map V.str/\H5=upd H4 G (.lst ys))
      ⟨⟨_,rfl⟩,rfl,rfl⟩ (fun i ys τ H5 ⟨_,_,z⟩=>by subst z;exact SqL.of ((upd_ne (ne_fre (show Fre H4 G from hG) hlf4)).trans hlf4)) ?_ ?_⟩
     ·rintro i v ys τ H5 hv ⟨⟨o0,rfl⟩,rfl,rfl⟩;obtain ⟨n,en,rfl⟩:=zA3 hv;refine ⟨_,rfl,_,rfl,_,_,rfl,DGet.k (k:=Sum.inr n) ((upd_ne (ne_fre (show Fre H4 G from hG) F4.top)).trans F4.top),_,rfl,?_⟩;rw [zFx];have et:=zAj en;refine ite2 (fun c=>?_) (fun c=>?_)
      ·have c':n∉D++FR:=fun z=>by rw [qAU z] at c;exact nomatch c
       refine ⟨_,rfl,upd_same,?_,⟨_,rfl⟩,?_,zBo⟩
       ·rw [qAD,qAK];have h1:=qAx (fun n=>decide (n∉D++FR)) (L.take i);rw [qAY] at h1;lia
       ·rw [et,qB7,qAS];have:[n].filter (fun n=>decide (n∉D++FR))=[n]:=by rw [qA8,qAC (qAU c')];rfl
        rw [this];rfl
      ·have c':n∈D++FR:=by
        apply qBe;intro z;rw [qAh z] at c;exact c rfl
       have e2:(L.take (i+1)).filter (fun n=>decide (n∉D++FR))=(L.take i).filter (fun n=>decide (n∉D++FR)):=by
        rw [et,qB7];have:[n].filter (fun n=>decide (n∉D++FR))=[]:=by rw [qA8,qAB (by rw [qAh (fun z=>z c')];decide)];rfl
        rw [this,qBR]
       refine ⟨⟨_,rfl⟩,?_,?_⟩
       ·rw [e2]
       ·rfl
     ·rintro ys τ H5 ⟨_,rfl,rfl⟩;have eT:L.take (L.map V.str).length=L:=by rw [qAD,qAi]
      rw [eT];have nGe:e≠G:=ne_fre (show Fre H4 G from hG) F4.top
      have eFF:(L.filter fun n=>decide (n∉D++FR))=ns.filter fun n=>decide (n∉D++FR):=by
       rw [<-hL,List.filter_filter];refine qCT fun n _=>?_
       by_cases z:n∈D
       ·have:n∈D++FR:=qAv _ z;rw [qAh (fun y=>y this)];rfl
       ·rw [qAU z,Bool.and_true]
      refine ⟨⟨G,D++FR,fa4,S4,_,_,rfl,Kp.new k4 (k4.fre (show Fre H4 G from hG) (by simp)),F4.kp (Kp.new Kp.refl hG),?_⟩,?_⟩
      ·rw [<-eFF];exact upd_same
      ·have m1:leftN [some (V.ref l),some (.ref d),some (.ref e),some (.ref lf),o4,o5] H2=L.length:=by
        show (match H2 lf with| some (.lst xs)=>xs.length| _=>0)=_;rw [hlf];simp
       have m2:∀o4 o5,leftN [some (V.ref l),some (.ref d),some (.ref e),some (.ref G),o4,o5] (upd H4 G (.lst ((L.filter fun n=>decide (n∉D++FR)).map V.str)))=(L.filter fun n=>decide (n∉D++FR)).length:=fun o4 o5=>by
        show (match upd H4 G (.lst ((L.filter fun n=>decide (n∉D++FR)).map V.str)) G with| some (.lst xs)=>xs.length| _=>0)=_;rw [upd_same];simp
       rw [m1];refine qC2 (qBF (m2 _ _)) ?_;obtain ⟨n,hnF⟩:=List.exists_mem_of_ne_nil FR hF0;have hnL:=((hFr n).mp hnF).1;exact zHp hnL (qAh fun z=>z (qAz _ hnF))
  ·have cL:L=[]:=by
    cases L with
    | nil=>rfl
    | cons _ _=>exact absurd rfl c
   refine ⟨_,rfl,k e D fa S H2 FP (fun n hn'=>?_) k2⟩;apply qBe;intro z;have:=(hLs n).mpr ⟨hn',z⟩;rw [cL] at this;exact nomatch this
end
def jf (r p e:Addr):List (Str×V):=putF "above" (.ref e) (putF "pairs" (.ref p) (putF "row" (.ref r) []))
theorem zIj (r p e:Addr):(jf r p e).lookup ("row" : Str)=some (.ref r):=by
 unfold jf;rw [zAr,qAB (by decide +kernel),zAr,qAB (by decide +kernel),zAr,qAC rfl]
theorem jf_pairs (r p e:Addr):(jf r p e).lookup ("pairs" : Str)=some (.ref p):=by
 unfold jf;rw [zAr,qAB (by decide +kernel),zAr,qAC rfl]
theorem zJi (r p e:Addr):(jf r p e).lookup ("above" : Str)=some (.ref e):=by
 unfold jf;rw [zAr,qAC rfl]
theorem zGh (r p e:Addr) {m:Str} (h1:¬m= "above") (h2:¬m= "pairs") (h3:¬m= "row"):(jf r p e).lookup m=none:=by
 unfold jf;rw [zAr,qAB h1,zAr,qAB h2,zAr,qAB h3];rfl
structure JC (K:PySem.W.Frag) (mg:Str->Option Value) (C:Addr):Prop where
 cl:Cls K C
 n_row:zFn K C "row"
 n_pairs:zFn K C "pairs"
 n_above:zFn K C "above"
 mgC:mg "Jobs" = some (.ref C)
structure JR where
 dx:Addr
 r:Addr
 p:Addr
 e:Addr
 ns:List Str
 zs:List (List Str×Addr)
 D:List Str
 fa:Str->Addr
 S:Str->List Str
structure JobsAt (C:Addr) (H:Hp) (j:Addr) (J:JR):Prop where
 ob:H j=some (.ins C J.dx (jf J.r J.p J.e))
 row:Txs H J.r J.ns
 prs:Ords H J.p J.zs
 abv:H J.e=some (.dK (dT1 J.D fun n=>.ref (J.fa n)))
 all:∀n∈J.ns,n∈J.D
 sets:∀n∈J.D,SetD H (J.fa n) (J.S n)
 few:J.ns.length<=20
 zfew:J.zs.length<=306
 nd:J.ns.Nodup
 zin:∀q∈J.zs,∀x∈q.1,x∈J.ns
 mem:∀n∈J.ns,∀x,x∈J.S n↔x∈told J.zs n\/∃m∈told J.zs n,x∈J.S m
theorem JobsAt.kp {M:List Addr} {C:Addr} {j:Addr} {J:JR} (A:JobsAt C H j J) (k:Kp M H H') (h:∀a o,H a=some o->a∈M->a≠j/\a≠J.r/\a≠J.p/\a≠J.e/\(∀q∈J.zs,a≠q.2)/\∀n∈J.D,a≠J.fa n):JobsAt C H' j J where
 ob:=k _ _ A.ob fun z=>(h _ _ A.ob z).1 rfl
 row:=k _ _ A.row fun z=>(h _ _ A.row z).2.1 rfl
 prs:=⟨k _ _ A.prs.top fun z=>(h _ _ A.prs.top z).2.2.1 rfl,fun q hq=>k _ _ (A.prs.row q hq) fun z=>(h _ _ (A.prs.row q hq) z).2.2.2.2.1 q hq rfl,A.prs.two⟩
 abv:=k _ _ A.abv fun z=>(h _ _ A.abv z).2.2.2.1 rfl
 all:=A.all
 sets:=fun n hn=>k _ _ (A.sets n hn) fun z=>(h _ _ (A.sets n hn) z).2.2.2.2.2 n hn rfl
 few:=A.few
 zfew:=A.zfew
 nd:=A.nd
 zin:=A.zin
 mem:=A.mem
theorem JobsAt.kp0 {C:Addr} {j:Addr} {J:JR} (A:JobsAt C H j J) (k:Kp [] H H'):JobsAt C H' j J:=A.kp k fun _ _ _ z=>nomatch z
section
def zGv (C:Addr):Sp:=fun vs H Q _=>∃(j:Addr) (J:JR),vs=[.ref j]/\JobsAt C H j J/\∀l H',Fre H l->Txs H' l J.ns->Kp [] H H'->Q (.ref l) H'
abbrev zDw:Stmt:=zEv (top 43) 1
theorem zIw:FnScope ["self"] ["self"] (zAd zDw):=fnS
theorem zJc {f:Addr} (F:Fun K "names" "Jobs.names" zDw f fd) (T:Txt K mg) (U:JC K mg C):FnOk P w K mg base CX0 1 f fd ["self"] (zGv C):=by
 refine F.ok zIw (fun vs H Q E h=>?_) (fun cdv A outer s H vs Q E hr h=>?_)
 ·obtain ⟨j,J,rfl,_⟩:=h;rfl
 ·obtain ⟨j,J,rfl,A0,k⟩:=h;refine ⟨_,(zAe (zAo (zAm zAz (by rfl) T.z_list zB2 (zAa (zDy (pv 0) rfl) zAb)))),?_⟩;refine ⟨_,rfl,_,_,_,_,_,rfl,A0.ob,U.cl,U.n_row,zIj _ _ _,_,_,rfl,.inl (SqL.of A0.row),fun l hl=>?_⟩;exact k l _ hl upd_same (Kp.new Kp.refl hl)
theorem abv_get {j:Addr} {J:JR} (A:JobsAt C H j J) (hy:y∈J.ns):DGet H J.e (.str y) (some (.ref (J.fa y))):=by
 have:=DGet.k (k:=Sum.inr y) A.abv;rw [zBe,qAC (A.all y hy)] at this;exact this
theorem zGx {e:Addr} {B:List Str} (h:SetD H e B) (x:Str):∃o,DGet H e (.str x) o/\o.isSome=decide (x∈B):=⟨_,DGet.k (k:=Sum.inr x) h,zFx B _ x⟩
end
section
theorem pe_fldK {X:Cx} {K:PySem.W.Frag} {e:Expr} {f:Str} {pos:Pos} {ta:TE} (he:PE X e ta) (hb:attributeBase e f X.env (eval e X.env)=eval e X.env) (hK:X.K=K:=by rfl):PE X (.Attribute e f pos) (tFld K ta f):=by
 subst hK;exact zDy he hb
theorem zCa {p:α->Bool} {xs:List α} {x:α} (e:xs[i]?=some x) (h:p x=true):(xs.take (i+1)).filter p=(xs.take i).filter p++[x]:=by
 rw [zAj e,qB7,qA8,qAC h];rfl
theorem zC7 {p:α->Bool} {xs:List α} {x:α} (e:xs[i]?=some x) (h:¬p x=true):(xs.take (i+1)).filter p=(xs.take i).filter p:=by
 rw [zAj e,qB7,qA8,qAB h];simp
theorem zDl {p:α->Bool} {xs:List α} (h:xs.length<=4096):(((xs.take i).filter p)).length<sizeLine:=by
 have h1:=qAx p (xs.take i);rw [qAY] at h1;rw [qAK];lia
def zGn (C:Addr):Sp:=fun vs H Q _=>∃(j:Addr) (J:JR) (x:Str),vs=[.ref j,.str x]/\JobsAt C H j J/\x∈J.ns/\∀l H',Fre H l->Txs H' l (J.ns.filter fun n=>decide (x∈J.S n))->Kp [] H H'->Q (.ref l) H'
abbrev zCh:Stmt:=zEv (top 43) 4
theorem zHv:FnScope ["self", "name"] ["self", "name"] (zAd zCh):=fnS
theorem zH1 {f:Addr} (F:Fun K "behind" "Jobs.behind" zCh f fd) (T:Txt K mg) (U:JC K mg C) (C_check_job:Cal P w K mg base "check_job" 2 ["names", "thing"] zD9):FnOk P w K mg base CX0 3 f fd ["self", "name"] (zGn C):=by
 refine F.ok zHv (fun vs H Q E h=>?_) (fun cdv A outer s H vs Q E hr h=>?_)
 ·obtain ⟨j,J,x,rfl,_⟩:=h;rfl
 ·obtain ⟨j,J,x,rfl,A0,hx,k⟩:=h;have HR_check_job:=hr;have hu:=zDk hr
  refine ⟨_,(zAc (zA8 (zAf C_check_job HR_check_job rfl (zAa (zDy (pv 0) rfl) (zAa (pv 1) zAb))))
   (zAe (zAo (zA5 rfl (zBc (sc:=zAd zCh) rfl (by decide +kernel)) (Draws.own (x:= "other") (dtk (i:=1) rfl (dtk (i:=0) rfl Draws.nil))) (zAl (zDy (pv 0) rfl)) (fun _ _ _ _=>(pgB (i:=0))) (fun _ _ _ _=>(zB6 (zF4 (zF5 hu (pv 1) (zA0 hu (pe_fldK (K:=K) (pv 2) rfl) (pv 0) (fun _ _=>rfl)))))) (fun _ _ _ _=>(pv 0)))))),?_⟩
  refine ⟨_,rfl,_,_,_,_,_,rfl,A0.ob,U.cl,U.n_row,zIj _ _ _,_,rfl,x,_,_,rfl,A0.row,hx,?_⟩
  refine ⟨_,rfl,_,_,_,_,_,rfl,A0.ob,U.cl,U.n_row,zIj _ _ _,_,rfl,⟨_,SqL.of A0.row⟩,fun B hB=>zBi (J.ns.map V.str) (fun i ys τ H3=>(∃o0,τ=[o0,some (.str x),some (.ref j)])/\ys=((J.ns.take i).filter fun n=>decide (x∈J.S n)).map V.str/\H3=upd H B (.lst ys))
   ⟨⟨_,rfl⟩,rfl,rfl⟩ (fun i ys τ H3 ⟨_,_,z⟩=>by subst z;exact SqL.of ((Kp.new (M:=[]) Kp.refl hB) _ _ A0.row (by simp))) ?_ ?_⟩
  ·rintro i v ys τ H3 hv ⟨⟨o0,rfl⟩,rfl,rfl⟩;obtain ⟨n,en,rfl⟩:=zA3 hv;have mn:=qAN en;have A3:=A0.kp0 (Kp.new (l:=B) (o:=.lst (((J.ns.take i).filter fun n=>decide (x∈J.S n)).map V.str)) Kp.refl hB);obtain ⟨o,g1,g2⟩:=zGx (A3.sets n (A3.all n mn)) x;refine ⟨_,rfl,_,rfl,_,_,_,_,_,rfl,A3.ob,U.cl,U.n_above,zJi _ _ _,_,rfl,_,_,rfl,abv_get A3 mn,_,o,rfl,g1,_,rfl,?_⟩;rw [g2];refine ite2 (fun c=>?_) (fun c=>?_)
   ·refine ⟨_,rfl,upd_same,?_,⟨_,rfl⟩,?_,zBo⟩
    ·rw [qAD];exact zDl (by have:=A0.few;lia)
    ·rw [zCa en c,qAS];rfl
   ·refine ⟨⟨_,rfl⟩,?_,?_⟩
    ·rw [zC7 en c]
    ·rfl
  ·rintro ys τ H3 ⟨_,rfl,rfl⟩;have eT:J.ns.take (J.ns.map V.str).length=J.ns:=by rw [qAD,qAi]
   rw [eT];exact k B _ hB upd_same (Kp.new Kp.refl hB)
def spAhead (C:Addr):Sp:=fun vs H Q _=>∃(j:Addr) (J:JR) (x:Str),vs=[.ref j,.str x]/\JobsAt C H j J/\x∈J.ns/\∀l H',Fre H l->Txs H' l (J.ns.filter fun n=>decide (n∈J.S x))->Kp [] H H'->Q (.ref l) H'
abbrev zCz:Stmt:=zEv (top 43) 5
theorem zIx:FnScope ["self", "name"] ["self", "name"] (zAd zCz):=fnS
theorem zJd {f:Addr} (F:Fun K "ahead" "Jobs.ahead" zCz f fd) (T:Txt K mg) (U:JC K mg C) (C_check_job:Cal P w K mg base "check_job" 2 ["names", "thing"] zD9):FnOk P w K mg base CX0 3 f fd ["self", "name"] (spAhead C):=by
 refine F.ok zIx (fun vs H Q E h=>?_) (fun cdv A outer s H vs Q E hr h=>?_)
 ·obtain ⟨j,J,x,rfl,_⟩:=h;rfl
 ·obtain ⟨j,J,x,rfl,A0,hx,k⟩:=h;have HR_check_job:=hr;have hu:=zDk hr
  refine ⟨_,(zAc (zA8 (zAf C_check_job HR_check_job rfl (zAa (zDy (pv 0) rfl) (zAa (pv 1) zAb))))
   (zAe (zAo (zA5 rfl (zBc (sc:=zAd zCz) rfl (by decide +kernel)) (Draws.own (x:= "other") (dtk (i:=1) rfl (dtk (i:=0) rfl Draws.nil))) (zAl (zDy (pv 0) rfl)) (fun _ _ _ _=>(pgB (i:=0))) (fun _ _ _ _=>(zB6 (zF4 (zF5 hu (pv 0) (zA0 hu (pe_fldK (K:=K) (pv 2) rfl) (pv 1) (fun _ _=>rfl)))))) (fun _ _ _ _=>(pv 0)))))),?_⟩
  refine ⟨_,rfl,_,_,_,_,_,rfl,A0.ob,U.cl,U.n_row,zIj _ _ _,_,rfl,x,_,_,rfl,A0.row,hx,?_⟩
  refine ⟨_,rfl,_,_,_,_,_,rfl,A0.ob,U.cl,U.n_row,zIj _ _ _,_,rfl,⟨_,SqL.of A0.row⟩,fun B hB=>zBi (J.ns.map V.str) (fun i ys τ H3=>(∃o0,τ=[o0,some (.str x),some (.ref j)])/\ys=((J.ns.take i).filter fun n=>decide (n∈J.S x)).map V.str/\H3=upd H B (.lst ys))
   ⟨⟨_,rfl⟩,rfl,rfl⟩ (fun i ys τ H3 ⟨_,_,z⟩=>by subst z;exact SqL.of ((Kp.new (M:=[]) Kp.refl hB) _ _ A0.row (by simp))) ?_ ?_⟩
  ·rintro i v ys τ H3 hv ⟨⟨o0,rfl⟩,rfl,rfl⟩;obtain ⟨n,en,rfl⟩:=zA3 hv;have A3:=A0.kp0 (Kp.new (l:=B) (o:=.lst (((J.ns.take i).filter fun n=>decide (n∈J.S x)).map V.str)) Kp.refl hB);obtain ⟨o,g1,g2⟩:=zGx (A3.sets x (A3.all x hx)) n;refine ⟨_,rfl,_,rfl,_,_,_,_,_,rfl,A3.ob,U.cl,U.n_above,zJi _ _ _,_,rfl,_,_,rfl,abv_get A3 hx,_,o,rfl,g1,_,rfl,?_⟩;rw [g2];refine ite2 (fun c=>?_) (fun c=>?_)
   ·refine ⟨_,rfl,upd_same,?_,⟨_,rfl⟩,?_,zBo⟩
    ·rw [qAD];exact zDl (by have:=A0.few;lia)
    ·rw [zCa en c,qAS];rfl
   ·refine ⟨⟨_,rfl⟩,?_,?_⟩
    ·rw [zC7 en c]
    ·rfl
  ·rintro ys τ H3 ⟨_,rfl,rfl⟩;have eT:J.ns.take (J.ns.map V.str).length=J.ns:=by rw [qAD,qAi]
   rw [eT];exact k B _ hB upd_same (Kp.new Kp.refl hB)
end
end My
namespace TimP
open PySem PyProof.Rows Tim
variable {i n lo nrem:Nat}{x:Keyed}{st:SortSt}{α:Type}
theorem perm_ct {l m:List Keyed} (h:∀p:Keyed->Bool,l.countP p=m.countP p):l.Perm m:=by
 letI:DecidableEq Keyed:=fun a b=>Classical.propDecidable (a=b)
 exact List.perm_iff_count.mpr fun x=>h (·==x)
theorem cd {a:Array Keyed} {j:Nat} (h:i<=j) (p:Keyed->Bool):(a.extract i j).toList.countP p+(a.toList.drop j).countP p=(a.toList.drop i).countP p:=by
 have e:a.toList.drop j=(a.toList.drop i).drop (j - i):=by rw [List.drop_drop];congr 1;lia
 rw [qB3,List.extract_eq_drop_take,e,<-qB8,qBU]
theorem ck {a:Array Keyed} {j:Nat} (h:i<=j) (p:Keyed->Bool):(a.extract i j).toList.countP p+(a.toList.take i).countP p=(a.toList.take j).countP p:=by
 have h1:=cd (a:=a) h p;have h2:=qAg (List.countP p) (qBU i a.toList);have h3:=qAg (List.countP p) (qBU j a.toList);rw [qB8] at h2 h3;lia
theorem zI9 {a:Array Keyed} (e:a[i]?=some x):(a.extract i (i+1)).toList=[x]:=by
 have hi:=(qBp.mp e).1;have hx:=(qBp.mp e).2;rw [qB3,List.extract_eq_drop_take,Nat.add_sub_cancel_left,List.drop_eq_getElem_cons (by simpa using hi)];simp [hx]
theorem all0 (a:Array Keyed) (p:Keyed->Bool):(a.toList.drop a.size).countP p=0:=by rw [List.drop_of_length_le (by simp)];rfl
theorem zDs (a b:Array Keyed) (p:Keyed->Bool):(a++b).toList.countP p=a.toList.countP p+b.toList.countP p:=by rw [qC5,qB8]
theorem zJo (a:Array Keyed) (x:Keyed) (p:Keyed->Bool):(a.push x).toList.countP p=a.toList.countP p+[x].countP p:=by rw [qCb,qB8]
theorem ct_rev (a:Array Keyed) (p:Keyed->Bool):a.reverse.toList.countP p=a.toList.countP p:=by rw [Array.toList_reverse,List.countP_reverse]
section
variable {a b out:Array Keyed} {ia ib:Nat}
structure MI (a b out:Array Keyed) (ia ib:Nat):Prop where
 la:ia<=a.size
 lb:ib<=b.size
 ct:∀p,out.toList.countP p+(a.toList.drop ia).countP p+(b.toList.drop ib).countP p=a.toList.countP p+b.toList.countP p
def Fn (a b r:Array Keyed):Prop:=∀p,r.toList.countP p=a.toList.countP p+b.toList.countP p
theorem MI.tAs (M:MI a b out ia ib) (k:Nat) (h:ia+k<=a.size):MI a b (out++a.extract ia (ia+k)) (ia+k) ib:=⟨h,M.lb,fun p=>by
 have h1:=M.ct p;have h2:=cd (a:=a) (show ia<=ia+k by lia) p;rw [zDs];lia⟩
theorem MI.tBs (M:MI a b out ia ib) (k:Nat) (h:ib+k<=b.size):MI a b (out++b.extract ib (ib+k)) ia (ib+k):=⟨M.la,h,fun p=>by
 have h1:=M.ct p;have h2:=cd (a:=b) (show ib<=ib+k by lia) p;rw [zDs];lia⟩
theorem MI.tA (M:MI a b out ia ib) (e:a[ia]?=some x):MI a b (out.push x) (ia+1) ib:=⟨(qBp.mp e).1,M.lb,fun p=>by
 have h1:=M.ct p;have h2:=cd (a:=a) (show ia<=ia+1 by lia) p;rw [zI9 e] at h2;rw [zJo];lia⟩
theorem MI.tB (M:MI a b out ia ib) (e:b[ib]?=some x):MI a b (out.push x) ia (ib+1):=⟨M.la,(qBp.mp e).1,fun p=>by
 have h1:=M.ct p;have h2:=cd (a:=b) (show ib<=ib+1 by lia) p;rw [zI9 e] at h2;rw [zJo];lia⟩
theorem MI.f1 (M:MI a b out ia ib):Fn a b (out++a.extract ia a.size++b.extract ib b.size):=fun p=>by
 have h1:=M.ct p;have h2:=cd (a:=a) M.la p;have h3:=cd (a:=b) M.lb p;rw [all0] at h2 h3;rw [zDs,zDs];lia
theorem MI.f2 (M:MI a b out ia ib):Fn a b (out++b.extract ib b.size++a.extract ia a.size):=fun p=>by
 have h1:=M.f1 p;rw [zDs,zDs] at h1 ⊢;lia
structure MH (a b out:Array Keyed) (ia ib:Nat):Prop where
 la:ia<=a.size
 lb:ib<=b.size
 ct:∀p,out.toList.countP p+(a.toList.take ia).countP p+(b.toList.take ib).countP p=a.toList.countP p+b.toList.countP p
theorem MH.tAs (M:MH a b out ia ib) (k:Nat) (h:k<=ia):MH a b (out++(a.extract k ia).reverse) k ib:=⟨by have:=M.la;lia,M.lb,fun p=>by
 have h1:=M.ct p;have h2:=ck (a:=a) h p;rw [zDs,ct_rev];lia⟩
theorem MH.tBs (M:MH a b out ia ib) (k:Nat) (h:k<=ib):MH a b (out++(b.extract k ib).reverse) ia k:=⟨M.la,by have:=M.lb;lia,fun p=>by
 have h1:=M.ct p;have h2:=ck (a:=b) h p;rw [zDs,ct_rev];lia⟩
theorem MH.tA (M:MH a b out (ia+1) ib) (e:a[ia]?=some x):MH a b (out.push x) ia ib:=⟨by have:=M.la;lia,M.lb,fun p=>by
 have h1:=M.ct p;have h2:=ck (a:=a) (show ia<=ia+1 by lia) p;rw [zI9 e] at h2;rw [zJo];lia⟩
theorem MH.tB (M:MH a b out ia (ib+1)) (e:b[ib]?=some x):MH a b (out.push x) ia ib:=⟨M.la,by have:=M.lb;lia,fun p=>by
 have h1:=M.ct p;have h2:=ck (a:=b) (show ib<=ib+1 by lia) p;rw [zI9 e] at h2;rw [zJo];lia⟩
theorem MH.f1 (M:MH a b out ia ib):Fn a b (a.extract 0 ia++b.extract 0 ib++out.reverse):=fun p=>by
 have h1:=M.ct p;have h2:=ck (a:=a) (qAX ia) p;have h3:=ck (a:=b) (qAX ib) p;rw [List.take_zero,List.countP_nil] at h2 h3;rw [zDs,zDs,ct_rev];lia
theorem MH.f2 (M:MH a b out ia ib):Fn a b (b.extract 0 ib++a.extract 0 ia++out.reverse):=fun p=>by
 have h1:=M.f1 p;rw [zDs,zDs] at h1 ⊢;lia
end
structure Like (st st':SortSt):Prop where
 kd:kindOf st'=kindOf st
 ar:arrOf st'=arrOf st
 pn:pendingOf st'=pendingOf st
 fl:failedOf st'=failedOf st
theorem Like.refl (st:SortSt):Like st st:=⟨rfl,rfl,rfl,rfl⟩
theorem Like.trans {a b c:SortSt} (h:Like a b) (k:Like b c):Like a c:=⟨k.kd.trans h.kd,k.ar.trans h.ar,k.pn.trans h.pn,k.fl.trans h.fl⟩
section
variable {prog:Program} {w:World} {A:Around} {E:Value->Shared->Prop} {s:Shared} {kd:SortKind} {κ:KeyKind} {a b:Array Keyed}
theorem zB1 {a:Array Keyed} (ha:∀x∈a.toList,Has κ x) (hi:i<a.size):∃p,a[i]?=some p/\Has κ p :=
 ⟨a[i],by simp,ha _ (by simp)⟩
theorem w_gal {left:Bool} {key:Keyed} {arr:Array Keyed} {base hint:Nat} {Q:Option Nat->SortSt->Prop} (C:CmpOk prog w A s kd κ) (hk:kindOf st=kd) (hkey:Has κ key)
  (hin:∀i,i<n->∃q,arr[base+i]?=some q/\Has κ q) (hh:hint<n) (h:∀k,k<=n->Q (some k) st):wpS (model prog w) A E s (gal left key arr base n hint) Q st:=by
 have ask:∀(i:Nat) {R:Option Bool->SortSt->Prop},i<n->(∀c,R (some c) st)->wpS (model prog w) A E s (byd left key arr base i) R st:=fun i R hi hR=>w_byd C hk hkey (hin i hi) (hR _)
 have bin:∀(l r:Nat),l<=r->r<=n->∀(F:Nat->Option (Option Nat)×Nat×Nat->StateT SortSt Sem (ForInStep (Option (Option Nat)×Nat×Nat))),
   (∀x l r,F x (none,l,r)=(if l>=r then pure (ForInStep.done (none,l,r)) else do
    let c<-byd left key arr base (l+(r - l) / 2)
    match c with
    | some more=>if more=true then pure (ForInStep.yield (none,l+(r - l) / 2+1,r)) else pure (ForInStep.yield (none,l,l+(r - l) / 2))
    | _=>pure (ForInStep.done (some none,l,r))))->∀G:Option (Option Nat)×Nat×Nat->StateT SortSt Sem (Option Nat),(∀l r,G (none,l,r)=pure (some r)) ->
   wpS (model prog w) A E s (forIn [:n] ((none,l,r):Option (Option Nat)×Nat×Nat) F >>= G) Q st:=by
  intro l r hlr hrn F hF G hG
  refine qAF (qA9 (qA2 (I:=fun x c st'=>st'=st/\∃l r,c=(none,l,r)/\l<=r/\r<=n/\r - l<=n - x)
   (Q:=fun c st'=>st'=st/\∃l r,c=(none,l,r)/\r<=n) ?step ?fin ⟨rfl,l,r,rfl,hlr,hrn,by lia⟩) ?post)
  case fin =>
   rintro c st' ⟨rfl,l,r,rfl,h1,h2,h3⟩;exact ⟨rfl,l,r,rfl,h2⟩
  case post =>
   rintro c st' ⟨rfl,l,r,rfl,h1⟩;rw [hG];exact qAH (h r h1)
  case step =>
   rintro x c st' _ hx ⟨rfl,l,r,rfl,h1,h2,h3⟩;rw [hF x l r]
   by_cases hge:l>=r
   ·rw [qAC hge];exact qAH ⟨rfl,l,r,rfl,h2⟩
   ·rw [qAB hge];refine qAF (ask _ (by lia) fun c=>?_);show wpS _ _ _ _ (if c=true then _ else _) _ _;split
    ·exact qAH ⟨rfl,_,_,rfl,by lia,h2,by lia⟩
    ·exact qAH ⟨rfl,_,_,rfl,by lia,by lia,by lia⟩
 refine qAF (ask hint hh fun c0=>?_);show wpS _ _ _ _ (if c0=true then _ else _) _ _;split
 ·refine qAF (qA9 (qA2 (I:=fun x c st'=>st'=st/\∃l o,c=(none,l,o)/\l<o/\hint+l<n)
   (Q:=fun c st'=>st'=st/\∃l o,c=(none,l,o)/\l<o/\hint+l<n) ?step (fun c st' h=>h) ⟨rfl,0,1,rfl,by lia,by lia⟩) ?post)
  case step =>
   rintro x c st' _ hx ⟨rfl,l,o,rfl,h1,h2⟩;dsimp only
   by_cases ho:o>=n - hint
   ·rw [qAC ho];exact qAH ⟨rfl,l,o,rfl,h1,h2⟩
   ·rw [qAB ho];refine qAF (ask (hint+o) (by lia) fun c=>?_);show wpS _ _ _ _ (if (!c)=true then _ else _) _ _;split
    ·exact qAH ⟨rfl,l,o,rfl,h1,h2⟩
    ·exact qAH ⟨rfl,o,2*o+1,rfl,by lia,by lia⟩
  case post =>
   rintro c st' ⟨rfl,l,o,rfl,h1,h2⟩;exact bin (hint+l+1) (hint+min o (n - hint)) (by lia) (by lia) _ (fun x l r=>rfl) _ (fun l r=>rfl)
 ·refine qAF (qA9 (qA2 (I:=fun x c st'=>st'=st/\∃l o,c=(none,l,o)/\l<o/\l<=hint)
   (Q:=fun c st'=>st'=st/\∃l o,c=(none,l,o)/\l<o/\l<=hint) ?step (fun c st' h=>h) ⟨rfl,0,1,rfl,by lia,by lia⟩) ?post)
  case step =>
   rintro x c st' _ hx ⟨rfl,l,o,rfl,h1,h2⟩;dsimp only
   by_cases ho:o>=hint+1
   ·rw [qAC ho];exact qAH ⟨rfl,l,o,rfl,h1,h2⟩
   ·rw [qAB ho];refine qAF (ask (hint - o) (by lia) fun c=>?_);show wpS _ _ _ _ (if c=true then _ else _) _ _;split
    ·exact qAH ⟨rfl,l,o,rfl,h1,h2⟩
    ·exact qAH ⟨rfl,o,2*o+1,rfl,by lia,by lia⟩
  case post =>
   rintro c st' ⟨rfl,l,o,rfl,h1,h2⟩;exact bin (hint+1 - min o (hint+1)) (hint - l) (by lia) (by lia) _ (fun x l r=>rfl) _ (fun l r=>rfl)
abbrev Cell:=Option (Array Keyed)×Array Keyed×Nat×Nat×Nat×Nat×Nat
def tA (a b o:Array Keyed) (i j g p q:Nat):StateT SortSt Sem (ForInStep Cell):=do
 let x<-elem' a i
 if (i+1+1==a.size)=true then pure (.done (some (o.push x++b.extract j b.size++a.extract (i+1) a.size),o.push x,i+1,j,g,p,q))
 else if (decide (p<7)&&decide (q<7))=true then pure (.done (none,o.push x,i+1,j,g,p,q))
 else pure (.yield (none,o.push x,i+1,j,g,p,q))
def tB (a b o:Array Keyed) (i j g p q:Nat):StateT SortSt Sem (ForInStep Cell):=do
 let y<-elem' b j
 if (j+1==b.size)=true then pure (.done (some (o.push y++a.extract i a.size++b.extract (j+1) b.size),o.push y,i,j+1,g,p,q))
 else do
  let x<-elem' a i
  let r<-gal true x b (j+1) (b.size - (j+1)) 0
  match r with
  | some k =>
   if k>0 then
    if (j+1+k==b.size)=true then pure (.done (some (o.push y++b.extract (j+1) (j+1+k)++a.extract i a.size++b.extract (j+1+k) b.size),o.push y++b.extract (j+1) (j+1+k),i,j+1+k,g,p,k))
    else tA a b (o.push y++b.extract (j+1) (j+1+k)) i (j+1+k) g p k
   else tA a b (o.push y) i (j+1) g p k
  | _=>pure (.done (some (o.push y++a.extract i a.size++b.extract (j+1) b.size),o.push y,i,j+1,g,p,q))
def tT (a b o:Array Keyed) (i j g p q:Nat):StateT SortSt Sem (ForInStep Cell):=do
 let y<-elem' b j
 let r<-gal false y a i (a.size - i) 0
 match r with
 | some k =>
  if k>0 then
   if (i+k+1==a.size)=true then pure (.done (some (o++a.extract i (i+k)++b.extract j b.size++a.extract (i+k) a.size),o++a.extract i (i+k),i+k,j,g,k,q))
   else if (i+k==a.size)=true then pure (.done (some (o++a.extract i (i+k)++a.extract (i+k) a.size++b.extract j b.size),o++a.extract i (i+k),i+k,j,g,k,q))
   else tB a b (o++a.extract i (i+k)) (i+k) j g k q
  else tB a b o i j g k q
 | _=>pure (.done (some (o++a.extract i a.size++b.extract j b.size),o,i,j,g,p,q))
theorem zAn {m:Nat} (h:¬(m==n)=true):m≠n:=by simpa using h
def TO (a b:Array Keyed) (m:Nat) (st3:SortSt) (R:ForInStep Cell->SortSt->Prop):Prop :=
 (∀r o i j g p q,Fn a b r->R (.done (some r,o,i,j,g,p,q)) st3)/\(∀o i j g p q,MI a b o i j->i+1<a.size->j<b.size->m<=i+j->R (.done (none,o,i,j,g,p,q)) st3/\R (.yield (none,o,i,j,g,p,q)) st3)
section
variable {st3:SortSt} {o:Array Keyed} {i j g p q m:Nat} {R:ForInStep Cell->SortSt->Prop}
theorem w_tA (ha:∀x∈a.toList,Has κ x) (M:MI a b o i j) (hi:i+1<a.size) (hj:j<b.size) (hm:m<=i+j) (hR:TO a b m st3 R):wpS (model prog w) A E s (tA a b o i j g p q) R st3:=by
 obtain ⟨x,ex,_⟩:=zB1 ha (show i<a.size by lia);have M2:=M.tA ex;refine qAF (zBh ex ?_)
 by_cases d1:(i+1+1==a.size)=true
 ·rw [qAC d1];exact qAH (hR.1 _ _ _ _ _ _ _ M2.f2)
 ·have:=zAn d1;rw [qAB d1];have q:=hR.2 _ _ _ g p q M2 (by lia) hj (by lia);split
  ·exact qAH q.1
  ·exact qAH q.2
theorem w_tB (C:CmpOk prog w A s kd κ) (hk:kindOf st3=kd) (ha:∀x∈a.toList,Has κ x) (hb:∀x∈b.toList,Has κ x) (M:MI a b o i j) (hi:i+1<a.size) (hj:j<b.size) (hm:m<=i+j) (hR:TO a b m st3 R) :
  wpS (model prog w) A E s (tB a b o i j g p q) R st3:=by
 obtain ⟨y,ey,hyy⟩:=zB1 hb hj;obtain ⟨x,ex,hxx⟩:=zB1 ha (show i<a.size by lia);have M2:=M.tB ey;refine qAF (zBh ey ?_)
 by_cases d1:(j+1==b.size)=true
 ·rw [qAC d1];exact qAH (hR.1 _ _ _ _ _ _ _ M2.f1)
 ·have:=zAn d1;rw [qAB d1];refine qAF (zBh ex (qAF (w_gal C hk hxx (fun i hi=>zB1 hb (by lia)) (by lia) fun k k1=>?_)));have M3:=M2.tBs k (by lia);show wpS _ _ _ _ (if k>0 then _ else _) _ _
  by_cases hk0:k>0
  ·rw [qAC hk0]
   by_cases d2:(j+1+k==b.size)=true
   ·rw [qAC d2];exact qAH (hR.1 _ _ _ _ _ _ _ M3.f1)
   ·have:=zAn d2;rw [qAB d2];exact w_tA ha M3 hi (by lia) (by lia) hR
  ·rw [qAB hk0];exact w_tA ha M2 hi (by lia) (by lia) hR
theorem w_tT (C:CmpOk prog w A s kd κ) (hk:kindOf st3=kd) (ha:∀x∈a.toList,Has κ x) (hb:∀x∈b.toList,Has κ x) (M:MI a b o i j) (hi:i+1<a.size) (hj:j<b.size) (hm:m<=i+j) (hR:TO a b m st3 R):wpS (model prog w) A E s (tT a b o i j g p q) R st3:=by
 obtain ⟨y,ey,hyy⟩:=zB1 hb hj;refine qAF (zBh ey (qAF (w_gal C hk hyy (fun i hi=>zB1 ha (by lia)) (by lia) fun k k1=>?_)));have M3:=M.tAs k (by lia);show wpS _ _ _ _ (if k>0 then _ else _) _ _
 by_cases hk0:k>0
 ·rw [qAC hk0]
  by_cases d1:(i+k+1==a.size)=true
  ·rw [qAC d1];exact qAH (hR.1 _ _ _ _ _ _ _ M3.f2)
  ·rw [qAB d1]
   by_cases d2:(i+k==a.size)=true
   ·rw [qAC d2];exact qAH (hR.1 _ _ _ _ _ _ _ M3.f1)
   ·have:=zAn d1;have:=zAn d2;rw [qAB d2];exact w_tB C hk ha hb M3 (by lia) hj (by lia) hR
 ·rw [qAB hk0];exact w_tB C hk ha hb M hi hj hm hR
end
theorem w_mLo {Q:Array Keyed->SortSt->Prop} (C:CmpOk prog w A s kd κ) (hk:kindOf st=kd) (ha:∀x∈a.toList,Has κ x) (hb:∀x∈b.toList,Has κ x) (na:1<=a.size) (nb:1<=b.size)
  (h:∀r st',Like st st'->Fn a b r->Q r st'):wpS (model prog w) A E s (mLo a b) Q st:=by
 refine qAF (qBo (qBG ⟨rfl,?_⟩));obtain ⟨y0,ey,hy⟩:=zB1 hb (show 0<b.size by lia);refine qAF (zBh ey ?_);have M0:MI a b #[] 0 0:=⟨by lia,by lia,fun p=>by simp⟩;have M1:MI a b #[y0] 0 1:=M0.tB ey;show wpS _ _ _ _ (if (1==b.size)=true then _ else _) _ _
 by_cases c1:(1==b.size)=true
 ·rw [qAC c1];exact qAH (h _ _ (Like.refl _) M1.f1)
 rw [qAB c1];show wpS _ _ _ _ (if (0+1==a.size)=true then _ else _) _ _
 by_cases c2:(0+1==a.size)=true
 ·rw [qAC c2];exact qAH (h _ _ (Like.refl _) M1.f2)
 rw [qAB c2];have:=zAn c1;have:=zAn c2;refine qAF (qBL ?_)
 refine qAF (qA9 (qA2 (I:=fun x c st'=>Like st st'/\∃out ia ib g,c=(none,out,ia,ib,g)/\MI a b out ia ib/\ia+1<a.size/\ib<b.size/\x+1<=ia+ib)
  (Q:=fun c st'=>Like st st'/\∃r out ia ib g,c=(some r,out,ia,ib,g)/\Fn a b r) ?step ?fin ⟨Like.refl _,_,_,_,_,rfl,M1,by lia,by lia,by lia⟩) ?post)
 case fin =>
  rintro c st' ⟨_,out,ia,ib,g,rfl,M,h1,h2,h3⟩;lia
 case post =>
  rintro c st' ⟨L,r,out,ia,ib,g,rfl,F⟩;exact qAH (h r st' L F)
 case step =>
  rintro x c st1 _ hx1 ⟨L1,out0,ia0,ib0,g0,rfl,M,u1,u2,u3⟩;have hk1:kindOf st1=kd:=L1.kd.trans hk;dsimp only
  refine qAF (qA9 (qA2 (I:=fun x c st'=>st'=st1/\∃out ia ib p q,c=(none,out,ia,ib,p,q)/\MI a b out ia ib/\ia+1<a.size/\ib<b.size/\ia0+ib0+x<=ia+ib)
   (Q:=fun c st'=>st'=st1/\((∃r out ia ib p q,c=(some r,out,ia,ib,p,q)/\Fn a b r)\/∃out ia ib p q,c=(none,out,ia,ib,p,q)/\MI a b out ia ib/\ia+1<a.size/\ib<b.size/\ia0+ib0+1<=ia+ib)) ?step1 ?fin1
   ⟨rfl,_,_,_,_,_,rfl,M,u1,u2,by lia⟩) ?post1)
  case fin1 =>
   rintro c st' ⟨rfl,out,ia,ib,p,q,rfl,M',v1,v2,v3⟩;exact ⟨rfl,.inr ⟨out,ia,ib,p,q,rfl,M',v1,v2,by lia⟩⟩
  case step1 =>
   rintro x2 c st' _ hx2 ⟨rfl,out,ia,ib,p,q,rfl,M',v1,v2,v3⟩;obtain ⟨yb,eb,hyb⟩:=zB1 hb v2;obtain ⟨xa,ea,hxa⟩:=zB1 ha (show ia<a.size by lia);dsimp only;refine qAF (zBh eb (qAF (zBh ea (qAF (w_lt C hk1 hyb hxa ?_)))));generalize κ.blt (kk κ yb) (kk κ xa)=c;show wpS _ _ _ _ (if c=true then _ else _) _ _
   by_cases e:c=true
   ·rw [qAC e];refine qAF (zBh eb ?_);have M2:=M'.tB eb
    by_cases d1:(ib+1==b.size)=true
    ·rw [qAC d1];exact qAH ⟨rfl,.inl ⟨_,_,_,_,_,_,rfl,M2.f1⟩⟩
    ·have:=zAn d1;rw [qAB d1]
     by_cases d2:q+1>=g0
     ·rw [qAC d2];exact qAH ⟨rfl,.inr ⟨_,_,_,_,_,rfl,M2,v1,by lia,by lia⟩⟩
     ·rw [qAB d2];exact qAH ⟨rfl,_,_,_,_,_,rfl,M2,v1,by lia,by lia⟩
   ·rw [qAB e];refine qAF (zBh ea ?_);have M2:=M'.tA ea
    by_cases d1:(ia+1+1==a.size)=true
    ·rw [qAC d1];exact qAH ⟨rfl,.inl ⟨_,_,_,_,_,_,rfl,M2.f2⟩⟩
    ·have:=zAn d1;rw [qAB d1]
     by_cases d2:p+1>=g0
     ·rw [qAC d2];exact qAH ⟨rfl,.inr ⟨_,_,_,_,_,rfl,M2,by lia,v2,by lia⟩⟩
     ·rw [qAB d2];exact qAH ⟨rfl,_,_,_,_,_,rfl,M2,by lia,v2,by lia⟩
  case post1 =>
   rintro c st' ⟨rfl,⟨r,out,ia,ib,p,q,rfl,F⟩| ⟨out,ia,ib,p,q,rfl,M',v1,v2,v3⟩⟩
   ·exact qAH ⟨L1,_,_,_,_,_,rfl,F⟩
   ·dsimp only;refine qAF (qBo (qBG ⟨rfl,?_⟩))
    refine qAF (qA9 (qA2 (I:=fun x c st'=>Like st st'/\∃out ia ib g p q,c=(none,out,ia,ib,g,p,q)/\MI a b out ia ib/\ia+1<a.size/\ib<b.size/\ia0+ib0+1<=ia+ib)
     (Q:=fun c st'=>Like st st'/\((∃r out ia ib g p q,c=(some r,out,ia,ib,g,p,q)/\Fn a b r)\/∃out ia ib g p q,c=(none,out,ia,ib,g,p,q)/\MI a b out ia ib/\ia+1<a.size/\ib<b.size/\ia0+ib0+1<=ia+ib)) ?step2 ?fin2
     ⟨L1,_,_,_,_,_,_,rfl,M',v1,v2,v3⟩) ?post2)
    case fin2 =>
     rintro c st' ⟨L,out,ia,ib,g,p,q,rfl,M',v⟩;exact ⟨L,.inr ⟨_,_,_,_,_,_,rfl,M',v⟩⟩
    case post2 =>
     rintro c st' ⟨L,⟨r,out,ia,ib,g,p,q,rfl,F⟩| ⟨out,ia,ib,g,p,q,rfl,M',v1,v2,v3⟩⟩
     ·exact qAH ⟨L,_,_,_,_,_,rfl,F⟩
     ·dsimp only;refine qAF (qBC (qAH ⟨L.trans ⟨rfl,rfl,rfl,rfl⟩,_,_,_,_,rfl,M',v1,v2,by lia⟩))
    case step2 =>
     rintro x3 c st2 _ hx3 ⟨L2,out,ia,ib,g,p,q,rfl,M2,w1,w2,w3⟩;dsimp only
     have run:∀(g':Nat) (R:ForInStep Cell->SortSt->Prop),(∀L3:Like st (SortSt.mk' (kindOf st2) (arrOf st2) (pendingOf st2) g' (failedOf st2)),TO a b (ia0+ib0+1) (SortSt.mk' (kindOf st2) (arrOf st2) (pendingOf st2) g' (failedOf st2)) R)->wpS (model prog w) A E s (tT a b out ia ib g' p q) R (SortSt.mk' (kindOf st2) (arrOf st2) (pendingOf st2) g' (failedOf st2)):=fun g' R hR=>by
      have L3:Like st (SortSt.mk' (kindOf st2) (arrOf st2) (pendingOf st2) g' (failedOf st2)):=L2.trans ⟨rfl,rfl,rfl,rfl⟩;exact w_tT C (L3.kd.trans hk) ha hb M2 w1 w2 w3 (hR L3)
     by_cases d0:g>1
     ·rw [qAC d0];exact qAF (qBC (run (g - 1) _ fun L3=>⟨fun r o i j g p q F=>⟨L3,.inl ⟨_,_,_,_,_,_,_,rfl,F⟩⟩,fun o i j g p q M' h1 h2 h3=>⟨⟨L3,.inr ⟨_,_,_,_,_,_,rfl,M',h1,h2,h3⟩⟩,⟨L3,_,_,_,_,_,_,rfl,M',h1,h2,h3⟩⟩⟩))
     ·rw [qAB d0];exact qAF (qBC (run g _ fun L3=>⟨fun r o i j g p q F=>⟨L3,.inl ⟨_,_,_,_,_,_,_,rfl,F⟩⟩,fun o i j g p q M' h1 h2 h3=>⟨⟨L3,.inr ⟨_,_,_,_,_,_,rfl,M',h1,h2,h3⟩⟩,⟨L3,_,_,_,_,_,_,rfl,M',h1,h2,h3⟩⟩⟩))
abbrev CellH:=Option (Array Keyed)×Nat×Nat×Array Keyed×Nat×Nat×Nat
def uA (a b o:Array Keyed) (i j g p q:Nat):StateT SortSt Sem (ForInStep CellH):=do
 let x<-elem' a (i - 1)
 if (i - 1==0)=true then pure (.done (some (a.extract 0 (i - 1)++b.extract 0 j++(o.push x).reverse),i - 1,j,o.push x,g,p,q))
 else if (decide (p<7)&&decide (q<7))=true then pure (.done (none,i - 1,j,o.push x,g,p,q))
 else pure (.yield (none,i - 1,j,o.push x,g,p,q))
def uB (a b o:Array Keyed) (i j g p q:Nat):StateT SortSt Sem (ForInStep CellH):=do
 let y<-elem' b (j - 1)
 if (j - 1==1)=true then pure (.done (some (b.extract 0 (j - 1)++a.extract 0 i++(o.push y).reverse),i,j - 1,o.push y,g,p,q))
 else do
  let x<-elem' a (i - 1)
  let r<-gal true x b 0 (j - 1) (j - 1 - 1)
  match r with
  | some k =>
   if j - 1 - k>0 then
    if (k==1)=true then pure (.done (some (b.extract 0 k++a.extract 0 i++(o.push y++(b.extract k (j - 1)).reverse).reverse),i,k,o.push y++(b.extract k (j - 1)).reverse,g,p,j - 1 - k))
    else if (k==0)=true then pure (.done (some (a.extract 0 i++b.extract 0 k++(o.push y++(b.extract k (j - 1)).reverse).reverse),i,k,o.push y++(b.extract k (j - 1)).reverse,g,p,j - 1 - k))
    else uA a b (o.push y++(b.extract k (j - 1)).reverse) i k g p (j - 1 - k)
   else uA a b (o.push y) i (j - 1) g p (j - 1 - k)
  | _=>pure (.done (some (a.extract 0 i++b.extract 0 (j - 1)++(o.push y).reverse),i,j - 1,o.push y,g,p,q))
def uT (a b o:Array Keyed) (i j g p q:Nat):StateT SortSt Sem (ForInStep CellH):=do
 let y<-elem' b (j - 1)
 let r<-gal false y a 0 i (i - 1)
 match r with
 | some k =>
  if i - k>0 then
   if (k==0)=true then pure (.done (some (a.extract 0 k++b.extract 0 j++(o++(a.extract k i).reverse).reverse),k,j,o++(a.extract k i).reverse,g,i - k,q))
   else uB a b (o++(a.extract k i).reverse) k j g (i - k) q
  else uB a b o i j g (i - k) q
 | _=>pure (.done (some (a.extract 0 i++b.extract 0 j++o.reverse),i,j,o,g,p,q))
def TH (a b:Array Keyed) (m:Nat) (st3:SortSt) (R:ForInStep CellH->SortSt->Prop):Prop :=
 (∀r o i j g p q,Fn a b r->R (.done (some r,i,j,o,g,p,q)) st3)/\(∀o i j g p q,MH a b o i j->1<=i->1<j->i+j<=m->R (.done (none,i,j,o,g,p,q)) st3/\R (.yield (none,i,j,o,g,p,q)) st3)
section
variable {st3:SortSt} {o:Array Keyed} {i j g p q m:Nat} {R:ForInStep CellH->SortSt->Prop}
theorem w_uA (ha:∀x∈a.toList,Has κ x) (M:MH a b o i j) (hi:1<=i) (hj:1<j) (hm:i+j<=m+1) (hR:TH a b m st3 R):wpS (model prog w) A E s (uA a b o i j g p q) R st3:=by
 have hla:=M.la;obtain ⟨n,rfl⟩:∃n,i=n+1:=⟨i - 1,by lia⟩;obtain ⟨x,ex,_⟩:=zB1 ha (show n<a.size by lia);have M2:=M.tA ex;refine qAF (zBh ex ?_);show wpS _ _ _ _ (if (n==0)=true then _ else _) _ _
 by_cases d1:(n==0)=true
 ·rw [qAC d1];exact qAH (hR.1 _ _ _ _ _ _ _ M2.f1)
 ·have:=zAn d1;rw [qAB d1];have q:=hR.2 _ _ _ g p q M2 (by lia) hj (by lia);split
  ·exact qAH q.1
  ·exact qAH q.2
theorem w_uB (C:CmpOk prog w A s kd κ) (hk:kindOf st3=kd) (ha:∀x∈a.toList,Has κ x) (hb:∀x∈b.toList,Has κ x) (M:MH a b o i j) (hi:1<=i) (hj:1<j) (hm:i+j<=m+1) (hR:TH a b m st3 R) :
  wpS (model prog w) A E s (uB a b o i j g p q) R st3:=by
 have hla:=M.la;have hlb:=M.lb;obtain ⟨n,rfl⟩:∃n,j=n+1:=⟨j - 1,by lia⟩;obtain ⟨y,ey,hyy⟩:=zB1 hb (show n<b.size by lia);obtain ⟨x,ex,hxx⟩:=zB1 ha (show i - 1<a.size by lia);have M2:=M.tB ey;refine qAF (zBh ey ?_);show wpS _ _ _ _ (if (n==1)=true then _ else _) _ _
 by_cases d1:(n==1)=true
 ·rw [qAC d1];exact qAH (hR.1 _ _ _ _ _ _ _ M2.f2)
 ·have:=zAn d1;rw [qAB d1];refine qAF (zBh ex (qAF (w_gal C hk hxx (fun i hi=>zB1 hb (show 0+i<b.size by have:i<n:=hi;lia)) (show n - 1<n by lia) fun k k1=>?_)));have k1:k<=n:=k1;have M3:=M2.tBs k k1;show wpS _ _ _ _ (if n - k>0 then _ else _) _ _
  by_cases hk0:n - k>0
  ·rw [qAC hk0]
   by_cases d2:(k==1)=true
   ·rw [qAC d2];exact qAH (hR.1 _ _ _ _ _ _ _ M3.f2)
   ·rw [qAB d2]
    by_cases d3:(k==0)=true
    ·rw [qAC d3];exact qAH (hR.1 _ _ _ _ _ _ _ M3.f1)
    ·have:=zAn d2;have:=zAn d3;rw [qAB d3];exact w_uA ha M3 hi (by lia) (by lia) hR
  ·rw [qAB hk0];exact w_uA ha M2 hi (by lia) (show i+n<=m+1 by lia) hR
theorem w_uT (C:CmpOk prog w A s kd κ) (hk:kindOf st3=kd) (ha:∀x∈a.toList,Has κ x) (hb:∀x∈b.toList,Has κ x) (M:MH a b o i j) (hi:1<=i) (hj:1<j) (hm:i+j<=m+1) (hR:TH a b m st3 R):wpS (model prog w) A E s (uT a b o i j g p q) R st3:=by
 have hla:=M.la;have hlb:=M.lb;obtain ⟨y,ey,hyy⟩:=zB1 hb (show j - 1<b.size by lia);refine qAF (zBh ey (qAF (w_gal C hk hyy (fun u hi=>zB1 ha (show 0+u<a.size by have:u<i:=hi;lia)) (show i - 1<i by lia) fun k k1=>?_)));have k1:k<=i:=k1;have M3:=M.tAs k k1;show wpS _ _ _ _ (if i - k>0 then _ else _) _ _
 by_cases hk0:i - k>0
 ·rw [qAC hk0]
  by_cases d1:(k==0)=true
  ·rw [qAC d1];exact qAH (hR.1 _ _ _ _ _ _ _ M3.f1)
  ·have:=zAn d1;rw [qAB d1];exact w_uB C hk ha hb M3 (by lia) hj (by lia) hR
 ·rw [qAB hk0];exact w_uB C hk ha hb M hi hj hm hR
end
theorem w_mHi {Q:Array Keyed->SortSt->Prop} (C:CmpOk prog w A s kd κ) (hk:kindOf st=kd) (ha:∀x∈a.toList,Has κ x) (hb:∀x∈b.toList,Has κ x) (na:1<=a.size) (nb:1<=b.size)
  (h:∀r st',Like st st'->Fn a b r->Q r st'):wpS (model prog w) A E s (mHi a b) Q st:=by
 refine qAF (qBo (qBG ⟨rfl,?_⟩));obtain ⟨n,hn⟩:∃n,a.size=n+1:=⟨a.size - 1,by lia⟩;obtain ⟨x0,ex,hx⟩:=zB1 ha (show n<a.size by lia);have en:a.size - 1=n:=by lia
 refine qAF (zBh (p:=x0) (by rw [en];exact ex) ?_);have M0:MH a b #[] (n+1) b.size:=⟨by lia,by lia,fun p=>by rw [<-hn,qBq (show a.toList.length<=a.size by simp),qBq (show b.toList.length<=b.size by simp)];simp⟩;have M1:MH a b #[x0] n b.size:=M0.tA ex;rw [<-en] at M1;show wpS _ _ _ _ (if (a.size - 1==0)=true then _ else _) _ _
 by_cases c1:(a.size - 1==0)=true
 ·rw [qAC c1];exact qAH (h _ _ (Like.refl _) M1.f1)
 rw [qAB c1]
 by_cases c2:(b.size==1)=true
 ·rw [qAC c2];exact qAH (h _ _ (Like.refl _) M1.f2)
 rw [qAB c2];have:=zAn c1;have:=zAn c2;refine qAF (qBL ?_)
 refine qAF (qA9 (qA2 (I:=fun x c st'=>Like st st'/\∃out i j g,c=(none,i,j,out,g)/\MH a b out i j/\1<=i/\1<j/\i+j+x<=a.size+b.size)
  (Q:=fun c st'=>Like st st'/\∃r out i j g,c=(some r,i,j,out,g)/\Fn a b r) ?step ?fin ⟨Like.refl _,_,_,_,_,rfl,M1,by lia,by lia,by lia⟩) ?post)
 case fin =>
  rintro c st' ⟨_,out,i,j,g,rfl,M,h1,h2,h3⟩;lia
 case post =>
  rintro c st' ⟨L,r,out,i,j,g,rfl,F⟩;exact qAH (h r st' L F)
 case step =>
  rintro x c st1 _ hx1 ⟨L1,out0,i0,j0,g0,rfl,M,u1,u2,u3⟩;have hk1:kindOf st1=kd:=L1.kd.trans hk;dsimp only
  refine qAF (qA9 (qA2 (I:=fun x c st'=>st'=st1/\∃out i j p q,c=(none,i,j,out,p,q)/\MH a b out i j/\1<=i/\1<j/\i+j+x<=i0+j0)
   (Q:=fun c st'=>st'=st1/\((∃r out i j p q,c=(some r,i,j,out,p,q)/\Fn a b r)\/∃out i j p q,c=(none,i,j,out,p,q)/\MH a b out i j/\1<=i/\1<j/\i+j+1<=i0+j0)) ?step1 ?fin1
   ⟨rfl,_,_,_,_,_,rfl,M,u1,u2,by lia⟩) ?post1)
  case fin1 =>
   rintro c st' ⟨rfl,out,i,j,p,q,rfl,M',v1,v2,v3⟩;exact ⟨rfl,.inr ⟨out,i,j,p,q,rfl,M',v1,v2,by lia⟩⟩
  case step1 =>
   rintro x2 c st' _ hx2 ⟨rfl,out,i,j,p,q,rfl,M',v1,v2,v3⟩;have hla:=M'.la;have hlb:=M'.lb;obtain ⟨n,rfl⟩:∃n,i=n+1:=⟨i - 1,by lia⟩;obtain ⟨m,rfl⟩:∃m,j=m+1:=⟨j - 1,by lia⟩;obtain ⟨yb,eb,hyb⟩:=zB1 hb (show m<b.size by lia);obtain ⟨xa,ea,hxa⟩:=zB1 ha (show n<a.size by lia);dsimp only;refine qAF (zBh eb (qAF (zBh ea (qAF (w_lt C hk1 hyb hxa ?_)))));generalize κ.blt (kk κ yb) (kk κ xa)=c;show wpS _ _ _ _ (if c=true then _ else _) _ _
   by_cases e:c=true
   ·rw [qAC e];refine qAF (zBh ea ?_);have M2:=M'.tA ea;show wpS _ _ _ _ (if (n==0)=true then _ else _) _ _
    by_cases d1:(n==0)=true
    ·rw [qAC d1];exact qAH ⟨rfl,.inl ⟨_,_,_,_,_,_,rfl,M2.f1⟩⟩
    ·have:=zAn d1;rw [qAB d1]
     by_cases d2:p+1>=g0
     ·rw [qAC d2];exact qAH ⟨rfl,.inr ⟨_,_,_,_,_,rfl,M2,by lia,v2,by lia⟩⟩
     ·rw [qAB d2];exact qAH ⟨rfl,_,_,_,_,_,rfl,M2,by lia,v2,by lia⟩
   ·rw [qAB e];refine qAF (zBh eb ?_);have M2:=M'.tB eb;show wpS _ _ _ _ (if (m==1)=true then _ else _) _ _
    by_cases d1:(m==1)=true
    ·rw [qAC d1];exact qAH ⟨rfl,.inl ⟨_,_,_,_,_,_,rfl,M2.f2⟩⟩
    ·have:=zAn d1;rw [qAB d1]
     by_cases d2:q+1>=g0
     ·rw [qAC d2];exact qAH ⟨rfl,.inr ⟨_,_,_,_,_,rfl,M2,v1,by lia,by lia⟩⟩
     ·rw [qAB d2];exact qAH ⟨rfl,_,_,_,_,_,rfl,M2,v1,by lia,by lia⟩
  case post1 =>
   rintro c st' ⟨rfl,⟨r,out,i,j,p,q,rfl,F⟩| ⟨out,i,j,p,q,rfl,M',v1,v2,v3⟩⟩
   ·exact qAH ⟨L1,_,_,_,_,_,rfl,F⟩
   ·dsimp only;refine qAF (qBo (qBG ⟨rfl,?_⟩))
    refine qAF (qA9 (qA2 (I:=fun x c st'=>Like st st'/\∃out i j g p q,c=(none,i,j,out,g,p,q)/\MH a b out i j/\1<=i/\1<j/\i+j+1<=i0+j0)
     (Q:=fun c st'=>Like st st'/\((∃r out i j g p q,c=(some r,i,j,out,g,p,q)/\Fn a b r)\/∃out i j g p q,c=(none,i,j,out,g,p,q)/\MH a b out i j/\1<=i/\1<j/\i+j+1<=i0+j0)) ?step2 ?fin2
     ⟨L1,_,_,_,_,_,_,rfl,M',v1,v2,v3⟩) ?post2)
    case fin2 =>
     rintro c st' ⟨L,out,i,j,g,p,q,rfl,M',v⟩;exact ⟨L,.inr ⟨_,_,_,_,_,_,rfl,M',v⟩⟩
    case post2 =>
     rintro c st' ⟨L,⟨r,out,i,j,g,p,q,rfl,F⟩| ⟨out,i,j,g,p,q,rfl,M',v1,v2,v3⟩⟩
     ·exact qAH ⟨L,_,_,_,_,_,rfl,F⟩
     ·dsimp only;refine qAF (qBC (qAH ⟨L.trans ⟨rfl,rfl,rfl,rfl⟩,_,_,_,_,rfl,M',v1,v2,by lia⟩))
    case step2 =>
     rintro x3 c st2 _ hx3 ⟨L2,out,i,j,g,p,q,rfl,M2,w1,w2,w3⟩;dsimp only
     have run:∀(g':Nat) (R:ForInStep CellH->SortSt->Prop),(∀L3:Like st (SortSt.mk' (kindOf st2) (arrOf st2) (pendingOf st2) g' (failedOf st2)),TH a b (i0+j0 - 1) (SortSt.mk' (kindOf st2) (arrOf st2) (pendingOf st2) g' (failedOf st2)) R)->wpS (model prog w) A E s (uT a b out i j g' p q) R (SortSt.mk' (kindOf st2) (arrOf st2) (pendingOf st2) g' (failedOf st2)):=fun g' R hR=>by
      have L3:Like st (SortSt.mk' (kindOf st2) (arrOf st2) (pendingOf st2) g' (failedOf st2)):=L2.trans ⟨rfl,rfl,rfl,rfl⟩;exact w_uT C (L3.kd.trans hk) ha hb M2 w1 w2 (by lia) (hR L3)
     by_cases d0:g>1
     ·rw [qAC d0];exact qAF (qBC (run (g - 1) _ fun L3=>⟨fun r o i j g p q F=>⟨L3,.inl ⟨_,_,_,_,_,_,_,rfl,F⟩⟩,fun o i j g p q M' h1 h2 h3=>⟨⟨L3,.inr ⟨_,_,_,_,_,_,rfl,M',h1,h2,by lia⟩⟩,⟨L3,_,_,_,_,_,_,rfl,M',h1,h2,by lia⟩⟩⟩))
     ·rw [qAB d0];exact qAF (qBC (run g _ fun L3=>⟨fun r o i j g p q F=>⟨L3,.inl ⟨_,_,_,_,_,_,_,rfl,F⟩⟩,fun o i j g p q M' h1 h2 h3=>⟨⟨L3,.inr ⟨_,_,_,_,_,_,rfl,M',h1,h2,by lia⟩⟩,⟨L3,_,_,_,_,_,_,rfl,M',h1,h2,by lia⟩⟩⟩))
end
section
variable {prog:Program} {w:World} {A:Around} {E:Value->Shared->Prop} {s:Shared} {kd:SortKind} {κ:KeyKind}
structure Fr (st st':SortSt):Prop where
 kd:kindOf st'=kindOf st
 pn:pendingOf st'=pendingOf st
 fl:failedOf st'=failedOf st
 perm:(arrOf st').Perm (arrOf st)
theorem Fr.refl (st:SortSt):Fr st st:=⟨rfl,rfl,rfl,qCp _⟩
theorem Fr.trans {a b c:SortSt} (h:Fr a b) (k:Fr b c):Fr a c:=⟨k.kd.trans h.kd,k.pn.trans h.pn,k.fl.trans h.fl,k.perm.trans h.perm⟩
theorem Fr.size {a b:SortSt} (h:Fr a b):(arrOf b).size=(arrOf a).size:=h.perm.size_eq
theorem Fr.rev (st:SortSt) (i j k:Nat):Fr st (setArr st (mirror (arrOf st) i j k)):=⟨rfl,rfl,rfl,mirror_perm _ _ _ _⟩
def All (κ:KeyKind) (st:SortSt):Prop:=∀x∈(arrOf st).toList,Has κ x
theorem All.fr {a b:SortSt} (h:All κ a) (f:Fr a b):All κ b:=fun x hx=>h x ((qCm.mp f.perm).mem_iff.mp hx)
theorem All.at (h:All κ st) (hi:i<(arrOf st).size):∃p,(arrOf st)[i]?=some p/\Has κ p:=zB1 h hi
theorem w_ask {j:Nat} {Q:Option Bool->SortSt->Prop} (C:CmpOk prog w A s kd κ) (hk:kindOf st=kd) (al:All κ st) (hi:i<(arrOf st).size) (hj:j<(arrOf st).size) (h:∀c,Q (some c) st):wpS (model prog w) A E s (ltAt' i j) Q st:=w_ltAt C hk (al.at hi) (al.at hj) (h _)
theorem w_asc {n0:Nat} {Q:α->SortSt->Prop} (C:CmpOk prog w A s kd κ) (hk:kindOf st=kd) (al:All κ st) (hn:lo+nrem<=(arrOf st).size) (h1:1<=n0) (h2:n0<=nrem)
  (F:Nat->Option (Option Nat)×Nat->StateT SortSt Sem (ForInStep (Option (Option Nat)×Nat))) (hF:∀x n,F x (none,n)=(do
   let c<-ltAt' (lo+n) (lo+n - 1)
   match c with
   | some c=>if c=true then pure (ForInStep.done (none,n)) else pure (ForInStep.yield (none,n+1))
   | _=>pure (ForInStep.done (some none,n)))) (G:Option (Option Nat)×Nat->StateT SortSt Sem α)
  (hG:∀n,n0<=n->n<=nrem->wpS (model prog w) A E s (G (none,n)) Q st) :
  wpS (model prog w) A E s (forIn [n0:nrem] ((none,n0):Option (Option Nat)×Nat) F >>= G) Q st:=by
 refine qAF (qA2 (I:=fun x c st'=>st'=st/\c=(none,x)/\x<=nrem) ?step ?fin ⟨rfl,rfl,h2⟩)
 case fin =>
  rintro c st' ⟨rfl,rfl,h3⟩;rw [show max n0 nrem=nrem by lia];exact hG nrem h2 (qAG _)
 case step =>
  rintro x c st' hx1 hx2 ⟨rfl,rfl,h3⟩;rw [hF];refine qAF (w_ask C hk al (by lia) (by lia) fun c=>?_);show wpS _ _ _ _ (if c=true then _ else _) _ _;split
  ·exact qAH (hG x hx1 h3)
  ·exact qAH ⟨rfl,rfl,by lia⟩
theorem w_tail {Q:Option Nat->SortSt->Prop} (C:CmpOk prog w A s kd κ) (hk:kindOf st=kd) (al:All κ st) (hn:lo+nrem<=(arrOf st).size) (h1:1<=n) (h2:n<=nrem)
  (F:Nat->Option (Option Nat)×Nat->StateT SortSt Sem (ForInStep (Option (Option Nat)×Nat))) (hF:∀x n,F x (none,n)=(do
   let c<-ltAt' (lo+n) (lo+n - 1)
   match c with
   | some c=>if c=true then pure (ForInStep.done (none,n)) else pure (ForInStep.yield (none,n+1))
   | _=>pure (ForInStep.done (some none,n)))) (G:Option (Option Nat)×Nat->StateT SortSt Sem (Option Nat)) (hG:∀n,G (none,n)=pure (some n))
  (h:∀m st',Fr st st'->1<=m->m<=nrem->Q (some m) st') :
  wpS (model prog w) A E s (reverseSlice' lo (lo+n) >>= fun _=>forIn [n:nrem] ((none,n):Option (Option Nat)×Nat) F >>= G) Q st:=by
 have f:=Fr.rev st lo (lo+n) ((lo+n - lo) / 2);refine qAF (qCq ?_);refine w_asc C (f.kd.trans hk) (al.fr f) (by rw [f.size];exact hn) h1 h2 F hF G fun m m1 m2=>?_;rw [hG];exact qAH (h m _ f (by lia) m2)
theorem w_desc {n0:Nat} {Q:α->SortSt->Prop} (C:CmpOk prog w A s kd κ) (hk:kindOf st=kd) (al:All κ st) (hn:lo+nrem<=(arrOf st).size) (h1:1<=n0) (h2:n0<=nrem)
  (F:Nat->Option (Option Nat)×Nat×Nat->StateT SortSt Sem (ForInStep (Option (Option Nat)×Nat×Nat))) (hF:∀x n q,F x (none,n,q)=(ltAt' (lo+n) (lo+n - 1) >>= fun c=>match c with
   | some c=>(if c=true then (if q>0 then (reverseSlice' (lo+n - (q+1)) (lo+n) >>= fun _=>pure (ForInStep.yield (none,n+1,0))) else pure (ForInStep.yield (none,n+1,0)))
    else (ltAt' (lo+n - 1) (lo+n) >>= fun d=>match d with
     | some d=>(if d=true then pure (ForInStep.done (none,n,q)) else pure (ForInStep.yield (none,n+1,q+1)))
     | _=>pure (ForInStep.done (some none,n,q))))
   | _=>pure (ForInStep.done (some none,n,q)))) (G:Option (Option Nat)×Nat×Nat->StateT SortSt Sem α)
  (hG:∀n q st',Fr st st'->n0<=n->n<=nrem->wpS (model prog w) A E s (G (none,n,q)) Q st') :
  wpS (model prog w) A E s (forIn [n0:nrem] ((none,n0,0):Option (Option Nat)×Nat×Nat) F >>= G) Q st:=by
 refine qAF (qA2 (I:=fun x c st'=>Fr st st'/\∃q,c=(none,x,q)/\x<=nrem) ?step ?fin ⟨Fr.refl _,0,rfl,h2⟩)
 case fin =>
  rintro c st' ⟨f,q,rfl,h3⟩;rw [show max n0 nrem=nrem by lia];exact hG nrem q st' f h2 (qAG _)
 case step =>
  rintro x c st' hx1 hx2 ⟨f,q,rfl,h3⟩;have hz:(arrOf st').size=(arrOf st).size:=f.size;have al':=al.fr f;have hk':=f.kd.trans hk;rw [hF];refine qAF (w_ask C hk' al' (by lia) (by lia) fun c=>?_);show wpS _ _ _ _ (if c=true then _ else _) _ _
  by_cases e:c=true
  ·rw [qAC e]
   by_cases hq:q>0
   ·rw [qAC hq];exact qAF (qCq (qAH ⟨f.trans (Fr.rev _ _ _ _),0,rfl,by lia⟩))
   ·rw [qAB hq];exact qAH ⟨f,0,rfl,by lia⟩
  ·rw [qAB e];refine qAF (w_ask C hk' al' (by lia) (by lia) fun d=>?_);show wpS _ _ _ _ (if d=true then _ else _) _ _
   by_cases e2:d=true
   ·rw [qAC e2];exact qAH (hG x q st' f hx1 h3)
   ·rw [qAB e2];exact qAH ⟨f,q+1,rfl,by lia⟩
theorem w_count {Q:Option Nat->SortSt->Prop} (C:CmpOk prog w A s kd κ) (hk:kindOf st=kd) (al:All κ st) (hn:lo+nrem<=(arrOf st).size) (h1:1<=nrem)
  (h:∀m st',Fr st st'->1<=m->m<=nrem->Q (some m) st'):wpS (model prog w) A E s (countRun' lo nrem) Q st:=by
 refine w_asc C hk al hn (qAG 1) h1 _ (fun x n=>rfl) _ fun n n1 n2=>?_;show wpS _ _ _ _ (if (n==nrem)=true then _ else _) _ _
 by_cases c:(n==nrem)=true
 ·rw [qAC c];exact qAH (h n st (Fr.refl _) n1 n2)
 rw [qAB c];have c':=zAn c;show wpS _ _ _ _ (if n>1 then _ else _) _ _
 by_cases g:n>1
 ·rw [qAC g];refine qAF (w_ask C hk al (by lia) (by lia) fun c=>?_);show wpS _ _ _ _ (if c=true then _ else _) _ _
  by_cases e:c=true
  ·rw [qAC e];exact qAH (h n st (Fr.refl _) n1 n2)
  ·rw [qAB e];have f1:=Fr.rev st lo (lo+n) ((lo+n - lo) / 2);refine qAF (qCq ?_);refine qAF (qBo (qBG ⟨rfl,?_⟩));refine w_desc C (f1.kd.trans hk) (al.fr f1) (by rw [f1.size];exact hn) (by lia) (by lia) _ (fun x n q=>rfl) _ fun m q st2 f2 m1 m2=>?_;have f2:=f1.trans f2;show wpS _ _ _ _ (if q>0 then _ else _) _ _
   by_cases hq:q>0
   ·rw [qAC hq];have f3:=f2.trans (Fr.rev st2 (lo+m - (q+1)) (lo+m) ((lo+m - (lo+m - (q+1))) / 2));refine qAF (qCq ?_);exact w_tail C (f3.kd.trans hk) (al.fr f3) (by rw [f3.size];exact hn) (by lia) m2 _ (fun x n=>rfl) _ (fun n=>rfl) fun m' st' f'=>h m' st' (f3.trans f')
   ·rw [qAB hq];exact w_tail C (f2.kd.trans hk) (al.fr f2) (by rw [f2.size];exact hn) (by lia) m2 _ (fun x n=>rfl) _ (fun n=>rfl) fun m' st' f'=>h m' st' (f2.trans f')
 ·rw [qAB g];have en:n=1:=by lia
  subst en;refine qAF (qBo (qBG ⟨rfl,?_⟩));refine w_desc C hk al hn (by lia) (by lia) _ (fun x n q=>rfl) _ fun m q st2 f2 m1 m2=>?_;show wpS _ _ _ _ (if q>0 then _ else _) _ _
  by_cases hq:q>0
  ·rw [qAC hq];have f3:=f2.trans (Fr.rev st2 (lo+m - (q+1)) (lo+m) ((lo+m - (lo+m - (q+1))) / 2));refine qAF (qCq ?_);exact w_tail C (f3.kd.trans hk) (al.fr f3) (by rw [f3.size];exact hn) (by lia) m2 _ (fun x n=>rfl) _ (fun n=>rfl) fun m' st' f'=>h m' st' (f3.trans f')
  ·rw [qAB hq];exact w_tail C (f2.kd.trans hk) (al.fr f2) (by rw [f2.size];exact hn) (by lia) m2 _ (fun x n=>rfl) _ (fun n=>rfl) fun m' st' f'=>h m' st' (f2.trans f')
theorem w_ins {ok:Nat} {Q:Bool->SortSt->Prop} (C:CmpOk prog w A s kd κ) (hk:kindOf st=kd) (al:All κ st) (hn:lo+n<=(arrOf st).size)
  (h:∀st',Fr st st'->Q true st'):wpS (model prog w) A E s (binarySort' lo n ok) Q st:=by
 refine qAF (qA9 (qA2 (I:=fun k c st'=>c=(none,())/\Fr st st') (Q:=fun c st'=>c=(none,())/\Fr st st') ?step (fun c st' h=>h) ⟨rfl,Fr.refl _⟩) ?post)
 case post =>
  rintro c st' ⟨rfl,f⟩;exact qAH (h st' f)
 case step =>
  rintro k c st' hk1 hk2 ⟨rfl,f⟩;have hz:(arrOf st').size=(arrOf st).size:=f.size
  refine qAF (qA9 (qA2 (I:=fun x c st2=>st2=st'/\∃l r,c=(none,l,r)/\l<=r/\r<=k)
   (Q:=fun c st2=>st2=st'/\∃l r,c=(none,l,r)/\l<=r/\r<=k) ?s2 (fun c st' h=>h) ⟨rfl,0,k,rfl,by lia,by lia⟩) ?p2)
  case s2 =>
   rintro x c st2 _ hx ⟨rfl,l,r,rfl,a1,a2⟩;dsimp only
   by_cases g:l>=r
   ·rw [qAC g];exact qAH ⟨rfl,l,r,rfl,a1,a2⟩
   ·rw [qAB g];refine qAF (w_ask C (f.kd.trans hk) (al.fr f) (by lia) (by lia) fun c=>?_);show wpS _ _ _ _ (if c=true then _ else _) _ _;split
    ·exact qAH ⟨rfl,l,(l+r) / 2,rfl,by lia,by lia⟩
    ·exact qAH ⟨rfl,(l+r) / 2+1,r,rfl,by lia,by lia⟩
  case p2 =>
   rintro c st2 ⟨rfl,l,r,rfl,a1,a2⟩;show wpS _ _ _ _ (moveDown' (lo+k) (lo+l) >>= fun _=>pure (ForInStep.yield (none,()))) _ _;rw [moveDown'_eq];exact qAF (qBC (qAH ⟨rfl,f.trans ⟨rfl,rfl,rfl,bubble_perm _ _ _⟩⟩))
theorem w_set {M:Model} {σ:Type} {st st':σ} {Q:PUnit->σ->Prop} (h:Q ⟨⟩ st'):wpS M A E s (set st':StateT σ Sem PUnit) Q st:=by
 unfold wpS;rw [StateT.run_set];exact qAE ⟨rfl,h⟩
theorem splice:∀(m:List Keyed) (arr:Array Keyed) (sa k:Nat),sa+k+m.length<=arr.size ->
  ((m.zipIdx k).foldl (fun a x=>match x with| (p,j)=>a.setIfInBounds (sa+j) p) arr).toList=arr.toList.take (sa+k)++m++arr.toList.drop (sa+k+m.length)
 | [],arr,sa,k,_=>by simp
 | p::r,arr,sa,k,h=>by
  rw [qAa] at h;have hk:sa+k<arr.size:=by lia
  rw [List.zipIdx_cons,qBc];show ((r.zipIdx (k+1)).foldl _ (arr.setIfInBounds (sa+k) p)).toList=_;rw [splice r (arr.setIfInBounds (sa+k) p) sa (k+1) (by rw [qDa];lia)];have e:(arr.setIfInBounds (sa+k) p).toList=arr.toList.set (sa+k) p:=by simp
  have hl:sa+k<arr.toList.length:=by simpa using hk
  rw [e,show sa+(k+1)=sa+k+1 by lia,qAa,show sa+k+(r.length+1)=sa+k+1+r.length by lia]
  have e1:(arr.toList.set (sa+k) p).take (sa+k+1)=arr.toList.take (sa+k)++[p]:=by
   rw [qC9,qDT hl,List.take_set_of_le (qAG _)];rfl
  have e2:(arr.toList.set (sa+k) p).drop (sa+k+1+r.length)=arr.toList.drop (sa+k+1+r.length):=List.drop_set_of_lt (by lia);rw [e1,e2];simp
theorem zJk {a:Array Keyed} (h:∀x∈a.toList,Has κ x) (i j:Nat):∀x∈(a.extract i j).toList,Has κ x:=fun x hx=>by
 rw [qB3,List.extract_eq_drop_take] at hx;exact h x (qDW (qBr hx))
theorem w_mergeAt {sa na pw nb pw2:Nat} {Q:Bool->SortSt->Prop} (C:CmpOk prog w A s kd κ) (hk:kindOf st=kd) (al:All κ st) (hp1:(pendingOf st)[i]?=some (sa,na,pw)) (hp2:(pendingOf st)[i+1]?=some (sa+na,nb,pw2))
  (h1:1<=na) (h2:1<=nb) (hz:sa+na+nb<=(arrOf st).size) (hfl:failedOf st=none)
  (h:∀st',kindOf st'=kindOf st->failedOf st'=none->pendingOf st'=((pendingOf st).setIfInBounds i (sa,na+nb,pw)).eraseIdxIfInBounds (i+1)->(arrOf st').Perm (arrOf st)->Q true st'):wpS (model prog w) A E s (mergeAt' i) Q st:=by
 obtain ⟨st1,e1⟩:∃st1:SortSt,st1=setPending st (((pendingOf st).setIfInBounds i (sa,na+nb,pw)).eraseIdxIfInBounds (i+1)):=⟨_,rfl⟩;have ka:kindOf st1=kindOf st:=by rw [e1]
 have fa:failedOf st1=failedOf st:=by rw [e1]
 have pa:pendingOf st1=((pendingOf st).setIfInBounds i (sa,na+nb,pw)).eraseIdxIfInBounds (i+1):=by rw [e1]
 have aa:arrOf st1=arrOf st:=by rw [e1]
 have plain:Q true st1:=h st1 ka (fa.trans hfl) pa (by rw [aa]);refine qAF (qBL ?_);show wpS _ _ _ _ (match ((pendingOf st)[i]?,(pendingOf st)[i+1]?) with| _=>_) _ _;rw [hp1,hp2];refine qAF (w_set ?_);show wpS _ _ _ _ _ _ (setPending st (((pendingOf st).setIfInBounds i (sa,na+nb,pw)).eraseIdxIfInBounds (i+1)));rw [<-e1];obtain ⟨y0,ey0,hy0⟩:=al.at (show sa+na<(arrOf st).size by lia);refine qAF (zBh ey0 ?_);refine qAF (w_gal C (ka.trans hk) hy0 (fun j hj=>al.at (by lia)) (show 0<na by lia) fun k hkn=>?_);show wpS _ _ _ _ (if (na - k==0)=true then _ else _) _ _
 by_cases c1:(na - k==0)=true
 ·rw [qAC c1];exact qAH plain
 rw [qAB c1];have c1:=zAn c1;obtain ⟨z,ez,hz'⟩:=al.at (show sa+k+(na - k) - 1<(arrOf st).size by lia);refine qAF (zBh ez ?_);refine qAF (w_gal C (ka.trans hk) hz' (fun j hj=>al.at (by lia)) (show nb - 1<nb by lia) fun m hmn=>?_);show wpS _ _ _ _ (if (m==0)=true then _ else _) _ _
 by_cases c2:(m==0)=true
 ·rw [qAC c2];exact qAH plain
 rw [qAB c2];have c2:=zAn c2;have zX:((arrOf st).extract (sa+k) (sa+na)).size=na - k:=by simp;lia
 have zY:((arrOf st).extract (sa+na) (sa+na+m)).size=m:=by simp;lia
 have fin:∀(r:Array Keyed) (st2:SortSt),Like st1 st2->Fn ((arrOf st).extract (sa+k) (sa+na)) ((arrOf st).extract (sa+na) (sa+na+m)) r ->
   wpS (model prog w) A E s (modify (fun s:SortSt=>SortSt.mk' (kindOf s) (r.toList.zipIdx.foldl (fun a x=>match x with| (p,j)=>a.setIfInBounds (sa+k+j) p) (arrOf s)) (pendingOf s) (gallopOf s) (failedOf s)) >>= fun _=>(get:StateT SortSt Sem SortSt) >>= fun s=>pure (failedOf s).isNone) Q st2:=fun r st2 L F=>by
  have ar2:arrOf st2=arrOf st:=L.ar.trans aa;have fl2:failedOf st2=none:=L.fl.trans (fa.trans hfl)
  have lr:r.toList.length=na - k+m:=by
   have:=F fun _=>true;simp only [List.countP_true,qBA,zX,zY] at this;simpa using this
  have sp:=splice r.toList (arrOf st2) (sa+k) 0 (by rw [ar2];lia);rw [ar2,qC4,lr] at sp;refine qAF (qBC (qAF (qBL ?_)));have e3:(failedOf st2).isNone=true:=by rw [fl2];rfl
  show wpS _ _ _ _ (pure (failedOf st2).isNone) _ _;rw [e3,ar2];generalize hR:(r.toList.zipIdx.foldl (fun a x=>match x with| (p,j)=>a.setIfInBounds (sa+k+j) p) (arrOf st))=R at sp;refine qAH (h _ (L.kd.trans ka) fl2 (L.pn.trans pa) ?_);show R.Perm (arrOf st);refine qCm.mpr (perm_ct fun p=>?_);have h1:=F p;have h2:=cd (a:=arrOf st) (show sa+k<=sa+na by lia) p;have h3:=cd (a:=arrOf st) (show sa+na<=sa+na+m by lia) p;have h4:=qAg (List.countP p) (qBU (sa+k) (arrOf st).toList);rw [qB8] at h4;rw [sp,qB8,qB8,show sa+k+(na - k+m)=sa+na+m by lia];lia
 show wpS _ _ _ _ (if na - k<=m then _ else _) _ _
 by_cases c3:na - k<=m
 ·rw [qAC c3];exact qAF (w_mLo (a:=(arrOf st).extract (sa+k) (sa+na)) (b:=(arrOf st).extract (sa+na) (sa+na+m)) C (ka.trans hk) (zJk al _ _) (zJk al _ _) (by rw [zX];lia) (by rw [zY];lia) fun r st2 L F=>fin r st2 L F)
 ·rw [qAB c3];exact qAF (w_mHi (a:=(arrOf st).extract (sa+k) (sa+na)) (b:=(arrOf st).extract (sa+na) (sa+na+m)) C (ka.trans hk) (zJk al _ _) (zJk al _ _) (by rw [zX];lia) (by rw [zY];lia) fun r st2 L F=>fin r st2 L F)
end
def Ch:List (Nat×Nat×Nat)->Nat->Nat->Prop
 | [],s,e=>s=e
 | (a,n,_)::r,s,e=>a=s/\1<=n/\Ch r (s+n) e
theorem Ch.app {P Q:List (Nat×Nat×Nat)}:∀{s e:Nat},Ch (P++Q) s e↔∃m,Ch P s m/\Ch Q m e:=by
 induction P with
 | nil=>intro s e;exact ⟨fun h=>⟨s,rfl,h⟩,fun ⟨m,h1,h2⟩=>by have h1:s=m:=h1;rw [h1];exact h2⟩
 | cons x P ih =>
  obtain ⟨a,n,q⟩:=x;intro s e;constructor
  ·rintro ⟨h1,h2,h3⟩;obtain ⟨m,k1,k2⟩:=ih.mp h3;exact ⟨m,⟨h1,h2,k1⟩,k2⟩
  ·rintro ⟨m,⟨h1,h2,h3⟩,h4⟩;exact ⟨h1,h2,ih.mpr ⟨m,h3,h4⟩⟩
theorem Ch.bnd:∀{P:List (Nat×Nat×Nat)} {s e:Nat},Ch P s e->s+P.length<=e
 | [],s,e,h=>qBF h
 | (a,n,t)::r,s,e,h=>by
  have:=Ch.bnd h.2.2;have:=h.2.1;rw [qAa];lia
theorem set_erase (P:List α) (x y v:α) (T:List α):((P++x::y::T).set P.length v).eraseIdx (P.length+1)=P++v::T:=by
 induction P with
 | nil=>rfl
 | cons p P ih =>
  show p::((P++x::y::T).set P.length v).eraseIdx (P.length+1)=p::(P++v::T);rw [ih]
theorem two_at :∀{L:List α} {i:Nat},i+1<L.length->∃P x y T,L=P++x::y::T/\P.length=i
 | [],i,h=>by simp at h
 | [_],i,h=>by simp at h
 | a::b::L,0,_=>⟨[],a,b,L,rfl,rfl⟩
 | a::b::L,i+1,h=>by
  obtain ⟨P,x,y,T,e,l⟩:=two_at (L:=b::L) (i:=i) (by simp at h ⊢;lia);exact ⟨a::P,x,y,T,by rw [e];rfl,by simp [l]⟩
theorem ch_map:∀{L L':List (Nat×Nat×Nat)} {s e:Nat},L'.map (fun q=>(q.1,q.2.1))=L.map (fun q=>(q.1,q.2.1))->Ch L s e->Ch L' s e
 | [],[],_,_,_,h=>h
 | [],_::_,_,_,h,_=>by simp at h
 | _::_,[],_,_,h,_=>by simp at h
 | (a,n,t)::r,(b,m,u)::r',s,e,h,c=>by
  simp at h;obtain ⟨⟨h1,h2⟩,h3⟩:=h;obtain ⟨c1,c2,c3⟩:=c;subst h1;subst h2;exact ⟨c1,c2,ch_map (by simpa using h3) c3⟩
theorem mod_map {f:Nat×Nat×Nat->Nat×Nat×Nat} (hf:∀q,(f q).1=q.1/\(f q).2.1=q.2.1) (p:Array (Nat×Nat×Nat)) (i:Nat):(p.modify i f).toList.map (fun q=>(q.1,q.2.1))=p.toList.map (fun q=>(q.1,q.2.1)):=by
 apply List.ext_getElem?;intro k;rw [qAe,qAe,qAq,qAq,Array.getElem?_modify];split
 ·cases h:p[k]? with
  | none=>rfl
  | some q =>
   have:=hf q;simp [this.1,this.2]
 ·rfl
section
variable {prog:Program} {w:World} {A:Around} {E:Value->Shared->Prop} {s:Shared} {kd:SortKind} {κ:KeyKind} {a₀:Array Keyed}
structure Rn (kd:SortKind) (a₀:Array Keyed) (lo:Nat) (st:SortSt):Prop where
 kd:kindOf st=kd
 fl:failedOf st=none
 perm:(arrOf st).Perm a₀
 ch:Ch (pendingOf st).toList 0 lo
theorem Rn.all (R:Rn kd a₀ lo st) (h:∀x∈a₀.toList,Has κ x):All κ st:=fun x hx=>h x ((qCm.mp R.perm).mem_iff.mp hx)
theorem w_merge {Q:Bool->SortSt->Prop} (C:CmpOk prog w A s kd κ) (ha:∀x∈a₀.toList,Has κ x) (R:Rn kd a₀ lo st) (hl:lo<=a₀.size) (hi:i+1<(pendingOf st).size)
  (h:∀st',Rn kd a₀ lo st'->(pendingOf st').size+1=(pendingOf st).size->Q true st'):wpS (model prog w) A E s (mergeAt' i) Q st:=by
 obtain ⟨P,⟨sa,na,pw⟩,⟨sb,nb,pw2⟩,T,e,l⟩:=two_at (L:=(pendingOf st).toList) (i:=i) (by simpa using hi);have hz:(arrOf st).size=a₀.size:=R.perm.size_eq;have ch:=R.ch;rw [e] at ch;obtain ⟨m,c1,d1,d2,d3,d4,d5⟩:=Ch.app.mp ch;subst d1;subst d3;have b2:=d5.bnd
 have e1:(pendingOf st)[i]?=some (sa,na,pw):=by
  rw [<-qAq,e,<-l];simp
 have e2:(pendingOf st)[i+1]?=some (sa+na,nb,pw2):=by
  rw [<-qAq,e,<-l,qBi (by lia)];simp
 refine w_mergeAt C R.kd (R.all ha) e1 e2 d2 d4 (by lia) R.fl fun st' k1 k2 k3 k4=>?_
 have ep:(pendingOf st').toList=P++(sa,na+nb,pw)::T:=by
  have hb:i+1<((pendingOf st).setIfInBounds i (sa,na+nb,pw)).size:=by rw [qDa];exact hi
  rw [k3,Array.eraseIdxIfInBounds,dif_pos hb,Array.toList_eraseIdx,Array.toList_setIfInBounds,e,<-l];exact set_erase P _ _ _ T
 refine h st' ⟨k1.trans R.kd,k2,k4.trans R.perm,?_⟩ ?_
 ·rw [ep];refine Ch.app.mpr ⟨sa,c1,rfl,by lia,?_⟩;rw [show sa+(na+nb)=sa+na+nb by lia];exact d5
 ·have h1:=qAg List.length ep;have h2:=qAg List.length e;simp at h1 h2;lia
theorem Rn.modify (R:Rn kd a₀ lo st) {f:Nat×Nat×Nat->Nat×Nat×Nat} (hf:∀q,(f q).1=q.1/\(f q).2.1=q.2.1) (i:Nat):Rn kd a₀ lo (setPending st ((pendingOf st).modify i f)):=⟨R.kd,R.fl,R.perm,ch_map (mod_map hf (pendingOf st) i) R.ch⟩
theorem ite_less (c:Prop) [Decidable c] (a:Nat):(if c then a - 1 else a)<=a:=by split<;>lia
theorem w_sort {Q:Unit->SortSt->Prop} (C:CmpOk prog w A s kd κ) (ha:∀x∈a₀.toList,Has κ x) (hk:kindOf st=kd) (hf:failedOf st=none) (hp:(arrOf st).Perm a₀) (hpn:pendingOf st=#[]) (h1:1<=a₀.size)
  (h:∀st',failedOf st'=none->(arrOf st').Perm a₀->Q () st'):wpS (model prog w) A E s sortRuns' Q st:=by
 have hz0:(arrOf st).size=a₀.size:=hp.size_eq;have hz0p:(arrOf st).size=a₀.size:=hz0;unfold arrOf at hz0p;refine qAF (qBL ?_);have R0:Rn kd a₀ 0 st:=⟨hk,hf,hp,by rw [hpn];rfl⟩;refine qAF (qA9 (qA2 (I:=fun x c st'=>∃lo,c=(none,lo)/\Rn kd a₀ lo st'/\lo<=a₀.size/\(x<=lo\/lo=a₀.size)) (Q:=fun c st'=>∃lo,c=(none,lo)/\Rn kd a₀ a₀.size st') ?step ?fin ⟨0,rfl,R0,by lia,.inl (by lia)⟩) ?post)
 case fin =>
  rintro c st' ⟨lo,rfl,R,l1,l2⟩
  have:lo=a₀.size:=by
   have:max 0 (arrOf st).size=a₀.size:=by lia
   rcases l2 with z| z
   ·lia
   ·exact z
  subst this;exact ⟨_,rfl,R⟩
 case step =>
  rintro x c st1 _ hx ⟨lo,rfl,R,l1,l2⟩;show wpS _ _ _ _ (if lo>=(arrOf st).size then _ else _) _ _
  by_cases g:lo>=(arrOf st).size
  ·rw [qAC g];have:lo=a₀.size:=by lia
   subst this;exact qAH ⟨_,rfl,R⟩
  rw [qAB g];have hz1:(arrOf st1).size=a₀.size:=R.perm.size_eq;refine qAF (w_count C R.kd (R.all ha) (by rw [hz0,hz1];lia) (by lia) fun m st2 f2 m1 m2=>?_);have keepR:∀{st':SortSt},Fr st1 st'->Rn kd a₀ lo st':=fun {st'} f=>⟨f.kd.trans R.kd,f.fl.trans R.fl,f.perm.trans R.perm,by rw [f.pn];exact R.ch⟩
  have push:∀{n:Nat} {st4:SortSt},1<=n->Rn kd a₀ lo st4->Rn kd a₀ (lo+n) (setPending st4 ((pendingOf st4).push (lo,n,0))):=fun {n st4} n1 R4=>by
   refine ⟨R4.kd,R4.fl,R4.perm,?_⟩;show Ch ((pendingOf st4).push (lo,n,0)).toList 0 (lo+n);rw [qCb];exact Ch.app.mpr ⟨lo,R4.ch,rfl,n1,rfl⟩
  have loop:∀(st4:SortSt) (pw:Nat),Rn kd a₀ lo st4->∀(R:ForInStep (Option Unit×Unit)->SortSt->Prop),(∀st',Rn kd a₀ lo st'->R (.done (none,())) st'/\R (.yield (none,())) st') ->
    wpS (model prog w) A E s ((get:StateT SortSt Sem SortSt) >>= fun v=>match (if (pendingOf v).size>1 then (pendingOf v)[(pendingOf v).size - 2]? else none) with
       | some (_,_,older)=>(if older<=pw then pure (ForInStep.done (none,())) else (mergeAt' ((pendingOf v).size - 2) >>= fun b=>if (!b)=true then pure (ForInStep.done (some (),())) else pure (ForInStep.yield (none,()))))
       | _=>pure (ForInStep.done (none,()))) R st4:=by
   intro st4 pw R4 Rr hR;refine qAF (qBL ?_)
   by_cases c1:(pendingOf st4).size>1
   ·rw [qAC c1];rcases ho:(pendingOf st4)[(pendingOf st4).size - 2]? with _| ⟨o1,o2,o3⟩
    ·exact qAH (hR st4 R4).1
    ·show wpS _ _ _ _ (if o3<=pw then _ else _) _ _
     by_cases c2:o3<=pw
     ·rw [qAC c2];exact qAH (hR st4 R4).1
     ·rw [qAB c2];exact qAF (w_merge C ha R4 l1 (by lia) fun st5 R5 _=>qAH (hR st5 R5).2)
   ·rw [qAB c1];exact qAH (hR st4 R4).1
  have ends:∀{n:Nat} {st5:SortSt},1<=n->Rn kd a₀ (lo+n) st5->lo+n<=a₀.size->∃l,((none,lo+n):Option Unit×Nat)=(none,l)/\Rn kd a₀ l st5/\l<=a₀.size/\(x+1<=l\/l=a₀.size):=fun {n st5} n1 R5 n2=>⟨_,rfl,R5,n2,.inl (by lia)⟩
  by_cases c1:m<minRun' (arrOf st).size (arrOf st).size 0
  ·refine (show wpS _ _ _ _ (if m<minRun' (arrOf st).size (arrOf st).size 0 then _ else _) _ _ from ?_);rw [qAC c1];refine qAF (qBo (qBG ⟨rfl,?_⟩));refine qAF (w_ins (n:=min ((arrOf st).size - lo) (minRun' (arrOf st).size (arrOf st).size 0)) C (f2.kd.trans R.kd) ((R.all ha).fr f2) (by rw [f2.size,hz1];lia) fun st3 f3=>?_);show wpS _ _ _ _ (if false=true then _ else _) _ _;rw [qAB (by decide)];have R3:=keepR (f2.trans f3);have n1:1<=min ((arrOf st).size - lo) (minRun' (arrOf st).size (arrOf st).size 0):=by lia
   have n2:lo+min ((arrOf st).size - lo) (minRun' (arrOf st).size (arrOf st).size 0)<=a₀.size:=by lia
   refine qAF (qBL ?_);rcases hb:(pendingOf st3).back? with _| ⟨s1,q1,t1⟩
   ·exact qAF (qBC (qAH (ends n1 (push n1 R3) n2)))
   ·refine qAF (qA9 (qA2 (I:=fun y c st'=>c=(none,())/\Rn kd a₀ lo st') (Q:=fun c st'=>c=(none,())/\Rn kd a₀ lo st') ?s2 (fun c st' h=>h) ⟨rfl,R3⟩) ?p2)
    case p2 =>
     rintro c st4 ⟨rfl,R4⟩;exact qAF (qBC (qAF (qBC (qAH (ends n1 (push n1 (R4.modify (f:=fun x=>match x with| (t,len,_)=>(t,len,power' (arrOf st).size (2*s1+q1) (2*s1+q1+q1+min ((arrOf st).size - lo) (minRun' (arrOf st).size (arrOf st).size 0)) (arrOf st).size)) (fun q=>⟨rfl,rfl⟩) ((pendingOf st4).size - 1))) n2)))))
    case s2 =>
     rintro y c st4 _ hy ⟨rfl,R4⟩;exact loop st4 _ R4 _ fun st' R'=>⟨⟨rfl,R'⟩,⟨rfl,R'⟩⟩
  ·refine (show wpS _ _ _ _ (if m<minRun' (arrOf st).size (arrOf st).size 0 then _ else _) _ _ from ?_);rw [qAB c1];have R3:=keepR f2;have n2:lo+m<=a₀.size:=by lia
   refine qAF (qBL ?_);rcases hb:(pendingOf st2).back? with _| ⟨s1,q1,t1⟩
   ·exact qAF (qBC (qAH (ends m1 (push m1 R3) n2)))
   ·refine qAF (qA9 (qA2 (I:=fun y c st'=>c=(none,())/\Rn kd a₀ lo st') (Q:=fun c st'=>c=(none,())/\Rn kd a₀ lo st') ?s2 (fun c st' h=>h) ⟨rfl,R3⟩) ?p2)
    case p2 =>
     rintro c st4 ⟨rfl,R4⟩;exact qAF (qBC (qAF (qBC (qAH (ends m1 (push m1 (R4.modify (f:=fun x=>match x with| (t,len,_)=>(t,len,power' (arrOf st).size (2*s1+q1) (2*s1+q1+q1+m) (arrOf st).size)) (fun q=>⟨rfl,rfl⟩) ((pendingOf st4).size - 1))) n2)))))
    case s2 =>
     rintro y c st4 _ hy ⟨rfl,R4⟩;exact loop st4 _ R4 _ fun st' R'=>⟨⟨rfl,R'⟩,⟨rfl,R'⟩⟩
 case post =>
  rintro c st1 ⟨lo,rfl,R⟩;refine qAF (qA9 (qA2 (I:=fun x c st'=>c=(none,())/\Rn kd a₀ a₀.size st') (Q:=fun c st'=>c=(none,())/\Rn kd a₀ a₀.size st') ?s3 (fun c st' h=>h) ⟨rfl,R⟩) ?p3)
  case p3 =>
   rintro c st' ⟨rfl,R'⟩;exact qAH (h st' R'.fl R'.perm)
  case s3 =>
   rintro y c st2 _ hy ⟨rfl,R2⟩;refine qAF (qBL ?_);show wpS _ _ _ _ (if (pendingOf st2).size<=1 then _ else _) _ _
   by_cases c1:(pendingOf st2).size<=1
   ·rw [qAC c1];exact qAH ⟨rfl,R2⟩
   ·rw [qAB c1];refine qAF (w_merge C ha R2 (qAG _) ?_ fun st5 R5 _=>qAH ⟨rfl,R5⟩);exact qC2 (Nat.add_le_add_right (ite_less _ _) 1) (show (pendingOf st2).size - 2+1<(pendingOf st2).size by lia)
end
end TimP
namespace ST
open PySem PyProof.Rows PySem.W
section
variable {prog:Program} {w:World} {A:Around} {E:Value->Shared->Prop} {s:Shared}
theorem w_lsortP {κ:PyProof.Rows.KeyKind} {kd:SortKind} {a:Addr} {vs:List Value} {n:Nat} {P:Fin->Shared->Prop} (ho:s.heap.get? a=some (seqObj "list" vs.toArray n)) (hz:vs.length<=4096)
  (hS:∀h',(∀b o,b≠a->s.heap.get? b=some o->h'.get? b=some o)->Sortable prog w A κ kd vs {s with heap:=h'})
  (h:∀out:Array Value,out.toList.Perm vs->P (.done (.ret .none)) {s with heap:=sortedHeap s.heap a vs out}) :
  wpAny (model prog w) A (Builtin.«list.sort» ⟨[.ref a],[]⟩) P E s:=by
 rw [list_sort_plain];have hsl:(4096:Nat)<=sizeLine:=by decide +kernel
 have ha:a<s.heap.objs.size:=qAL ho;have hsz:vs.toArray.size=vs.length:=by simp
 refine qAA (qCr ho rfl ?_);refine qAA (qBO ho rfl ?_ (by lia) (qAX _));have h1:(s.heap.update a (Obj.mapSeq fun _=>#[])).get? a=some (seqObj "list" #[] _):=qBM ho fun _=>#[];refine qAA (qB9 h1 rfl ?_);refine qAA (qCl ?_ (by show vs.toArray.toList.length<=_;simp;lia));refine qAA (qCA ?_ (qAX _));refine qAy ?_;have h6:=qAJ (seqObj "list" #[] 0) (qAJ (seqObj "tuple" vs.toArray 0) h1);change wpAny (model prog w) A _ P E {s with heap:=((s.heap.update a (Obj.mapSeq fun _=>#[])).push (seqObj "tuple" vs.toArray 0)).push (seqObj "list" #[] 0)};dsimp only
 have S6:=hS (((s.heap.update a (Obj.mapSeq fun _=>#[])).push (seqObj "tuple" vs.toArray 0)).push (seqObj "list" #[] 0)) fun b o hb q=>by
  refine qAJ _ (qAJ _ ?_);rw [qBk _ _ (qAs hb)];exact q
 by_cases c:vs.toArray.size<2
 ·rw [qAC c,qAC c];refine qAA (qAE ?_);rw [StateT.run_pure];refine qAA (qAE ?_);dsimp only;refine qAA (qB9 h6 rfl ?_);refine qAA (qBO h6 rfl ?_ (qAX _) (by rw [Array.size_map];show (pairsOf vs).size<=_;rw [pairsOf_size];lia));simp only [qDK,qCB,qBb];have e:(arrOf (SortSt.mk' general' (vs.toArray.zip vs.toArray) #[] 7 none)).Perm (pairsOf vs):=qCp _;exact qAE (h _ (zIu e))
 ·rw [qAB c,qAB c];refine qAA (S6.kind (by lia) _ _ ?_)
  have W:=TimP.w_sort (E:=E) (a₀:=pairsOf vs) (st:=SortSt.mk' kd (vs.toArray.zip vs.toArray) #[] 7 none) (Q:=fun _ st'=>failedOf st'=none/\(arrOf st').Perm (pairsOf vs)) S6.cmp (fun p hp=>by
   rw [pairsOf_toList] at hp;exact S6.has _ (mem_zip_self hp).2) rfl rfl (qCp _) rfl (by rw [pairsOf_size];lia) fun st' q1 q2=>⟨q1,q2⟩
  refine qAA (qAp W ?_ fun _ _ e=>e);rintro ⟨⟨⟩,st'⟩ s' ⟨rfl,q1,q2⟩;dsimp only;refine qAA (qB9 h6 rfl ?_);have zz:=(zIu q2).length_eq;refine qAA (qBO h6 rfl ?_ (qAX _) (by simp at zz ⊢;lia));rw [q1];simp only [qDK,qCB,qBb];exact qAE (h _ (zIu q2))
theorem w_sortedCP {κ:PyProof.Rows.KeyKind} {kd:SortKind} {v:Value} {Q:Value->Shared->Prop} {J:List Value->Shared->Prop} (hc:wpAny (model prog w) A.in1 (collect v) J E s)
  (hJ:∀vs s1,J vs s1->vs.length<=4096/\(∀h',Up s1.heap h'->Sortable prog w A.in1.in1 κ kd vs {s1 with heap:=h'}) /\
   ∀(out:List Value) c h',out.Perm vs->h'.get? s1.heap.objs.size=some (seqObj "list" out.toArray c)->Up s1.heap h'->Q (.ref s1.heap.objs.size) {s1 with heap:=h'}) :
  wpAny (model prog w) A (call (.builtin "sorted") [v]) Q E s:=by
 refine Calls.call_function_entry kind_sorted plain_sorted entry_sorted (args_sorted1 _) ?_;unfold Builtin.«sorted»;refine qAA (m:=checkCount "sorted" 1 1 _) (qAE ?_);refine qAA (qAp hc (fun vs s1 j=>?_) fun _ _ x=>x);obtain ⟨j1,j2,j3⟩:=hJ vs s1 j;have hsl:(4096:Nat)<=sizeLine:=by decide +kernel
 refine qAA (qCA ?_ (by lia));have hD:(s1.heap.push (seqObj "list" vs.toArray 0)).get? s1.heap.objs.size=some (seqObj "list" vs.toArray 0):=qAb _ rfl;change wpAny _ _ _ _ _ {s1 with heap:=s1.heap.push (seqObj "list" vs.toArray 0)};have ne:∀b o,s1.heap.get? b=some o->b≠s1.heap.objs.size:=fun b o q=>qAV (qAL q);refine qAA (qAy (qB6 slot_list_sort ⟨_,hD,rfl⟩ entry_list_sort ?body (args_list_sort _)))
 case body =>
  refine w_lsortP (s:={s1 with heap:=s1.heap.push (seqObj "list" vs.toArray 0)}) hD j1 (fun h' q=>j2 h' fun b o e=>q b o (ne b o e) (qAJ _ e)) fun out p1=>?_;obtain ⟨⟨c,g1⟩,g2⟩:=srt_heap (out:=out) hD;refine ⟨_,rfl,qAE ⟨_,rfl,j3 out.toList c _ p1 (by simpa using g1) fun b o e=>g2 b o (ne b o e) (qAJ _ e)⟩⟩
end
end ST
namespace L2
open PySem PySem.Spec PyProof.Rows
section
variable {X:Cx} {pins:List (Addr×Obj)} {s:Shared} {σ:St} {H:Hp}
theorem zH2 {k:Nat} (hr:Room k X.A):zCu X (.builtin "sorted") (fun xs H Q=>∃(a:Addr) (ys:List (List Str×Addr)),xs=[.ref a]/\H a=some (TSt X.prog X.w a ys)/\(∀p∈ys,RowT X.K H p)/\(∀p∈ys,p.1≠[])/\ys.length<=306 /\
  ∀(b:Addr) (zs:List (List Str×Addr)),H b=none->zs.Perm ys->Q (.ref b) (upd H b (.lst (zs.map fun p=>V.ref p.2)))):=by
 intro pins s σ H xs us Q I r h;obtain ⟨a,ys,rfl,ha,hk,hne,hc,q⟩:=h;obtain ⟨u,rfl,rx⟩:=zIq r
 cases rx
 obtain ⟨⟨o,es,ep,t,z1,z2,z3,z4,z5,z6,z7,z8⟩,_⟩:=I.hok a _ ha;have Z:ST.SetX (PySem.strKind X.prog X.w) s.heap a ys o es ep t:=⟨z1,z2,z3,z4,z5,z6,z7,fun p hp=>I.rowT (hk p hp),z8⟩
 refine ST.w_sortedCP (kd:=tuples' true) (κ:=ST.tupK fun b=>(ys.find? fun p=>p.2==b).map (·.1))
  (J:=fun vs s1=>vs.Perm (ys.map fun p=>Value.ref p.2)/\(∀b o,s.heap.get? b=some o->s1.heap.get? b=some o)/\s1.gens=s.gens/\s1.os=s.os)
  (ST.w_collect (A:=X.A.in1) hr.hd Z hc fun s' vs v1 v2 v3 v4 _=>⟨v1,v2,v3,v4⟩) fun vs s1 ⟨v1,v2,v3,v4⟩=>?_
 have hvl:vs.length=ys.length:=by rw [v1.length_eq,qAD]
 refine ⟨by lia,fun h' up=>ST.tups_sortable v1 (fun p hp=>ST.key_kept (I.rowT (hk p hp)) fun o e=>up _ o (v2 _ o e)) hne,fun out c h' p1 p3 up=>?_⟩;obtain ⟨zs,e1,e2⟩:=perm_back _ (p1.trans v1);subst e2;have I1:Inv X pins σ H s1:=I.call' (ch:=[]) v4 (Un.kept v2) (I.hok.kept v2) (by rw [v3];exact I.bare) (fun _ z=>nomatch z)
 have hz:(zs.map fun p=>V.ref p.2).length<=sizeLine:=by
  rw [qAD,e1.length_eq];exact qAT hc (by decide +kernel)
 exact ⟨.ref s1.heap.objs.size,_,I1.laid (t':=s1.toks) up (qAG _) (show zAy X.prog X.w _ h' _ (.lst (zs.map fun p=>V.ref p.2)) from ⟨hz,_,c,refs_vals zs,p3⟩),rfl,q _ zs (I1.hok.fresh (qAG _)) e1⟩
theorem rise_S:∀{l:List Str},sortedS l=true->RiseS l
 | [],_=>List.Pairwise.nil
 | [x],_=>List.pairwise_singleton _ _
 | x::y::r,h=>by
  have h:(!ltCps y.cps.toList x.cps.toList&&sortedS (y::r))=true:=h;obtain ⟨h1,h2⟩:=qDL.mp h;have h1:ltCps y.cps.toList x.cps.toList=false:=by simpa using h1
  rw [ltCps_eq] at h1;have ih:=rise_S h2;refine qCc.mpr ⟨fun z hz=>?_,ih⟩;rcases qAO.mp hz with e| e
  ·rw [e];exact qDD h1
  ·have h3:=(qCc.mp ih).1 z e;exact qDD (show PyProof.Rows.strKind.kle (ST.sg x) (ST.sg z) from KeyOrd.kle_trans (show PyProof.Rows.strKind.kle (ST.sg x) (ST.sg y) from h1) (show PyProof.Rows.strKind.kle (ST.sg y) (ST.sg z) from qAh h3))
theorem zDt:zCu X (.builtin "sorted") (fun xs H Q=>∃(l:Addr) (ys:List Str),xs=[.ref l]/\SqL X.K H l (ys.map V.str)/\ys.length<64/\∀b zs,H b=none->zs.Perm ys->RiseS zs->Q (.ref b) (upd H b (.lst (zs.map V.str)))):=by
 intro pins s σ H xs us Q I r h;obtain ⟨l,ys,rfl,hl,hc,q⟩:=h;obtain ⟨u,rfl,rx⟩:=zIq r
 cases rx
 obtain ⟨its,r',pl,hz⟩:=I.list hl;have hS:=zEz r';have hln:its.length=ys.length:=ST.strs_len hS;have hsl:(4096:Nat)<=sizeLine:=by decide +kernel
 refine sorted_strs pl.isList hS (by lia) fun out ss a1 a2 a3=>?_;obtain ⟨c,he⟩:=sortedAll_at s.heap its out
 have hz:(ss.map V.str).length<=sizeLine:=by
  rw [qAD,a2.length_eq];lia
 exact ⟨.ref (s.heap.objs.size+1),_,I.laid (t':=s.toks) (fun _ _=>sortedAll_old) (qCH _) (show zAy X.prog X.w _ (sortedAll s.heap its out) _ (.lst (ss.map V.str)) from ⟨hz,_,c,zE1 a1,by simpa using he⟩),rfl,q _ _ (I.hok.fresh (qCH _)) a2 (rise_S a3)⟩
end
end L2
namespace My
open PySem L2
variable {P:Program}{w:World}{K:PySem.W.Frag}{mg:Str->Option Value}{base:Heap}{C:Addr}
variable {X:Cx}{n x a b y:Str}{qs:List (List Str×Addr)}{fd:FuncData}{C d l:Addr}{sp:Sp}{H H0 H':Hp}{J:JR}{r:Str->Nat}{ns A:List Str}{as:List Addr}
theorem zGq (f:Str) (v:V):∀fs:List (Str×V),(putF f v fs).length<=fs.length+1
 | []=>qAG _
 | (g,x)::r=>by
  unfold putF;split
  ·exact qCH _
  ·have:=zGq f v r;simp only [qAa];lia
theorem call_setTP {P:Program} {w:World} {K:PySem.W.Frag} {k:Nat} (hr:Room k X.A) (hP:X.prog=P:=by rfl) (hw:X.w=w:=by rfl) (hK:X.K=K:=by rfl):zCu X (.type "set") (fun xs H Q=>∃(l:Addr) (ks:List (List Str×Addr)),xs=[.ref l]/\SqL K H l (ks.map fun p=>V.ref p.2)/\(∀p∈ks,RowT K H p)/\ks.length<=306 /\
  ∀a ys,H a=none->(∀p∈ys,p∈ks)->(∀p∈ks,p.1∈ys.map (·.1))->(ys.map (·.1)).Nodup->ys.length<=ks.length->Q (.ref a) (upd H a (TSt P w a ys))):=by
 subst hP hw hK;exact call_setT hr
theorem zH3 {P:Program} {w:World} {K:PySem.W.Frag} {k:Nat} (hr:Room k X.A) (hP:X.prog=P:=by rfl) (hw:X.w=w:=by rfl) (hK:X.K=K:=by rfl):zCu X (.builtin "sorted") (fun xs H Q=>∃(a:Addr) (ys:List (List Str×Addr)),xs=[.ref a]/\H a=some (TSt P w a ys)/\(∀p∈ys,RowT K H p)/\(∀p∈ys,p.1≠[])/\ys.length<=306 /\
  ∀(b:Addr) (zs:List (List Str×Addr)),H b=none->zs.Perm ys->Q (.ref b) (upd H b (.lst (zs.map fun p=>V.ref p.2)))):=by
 subst hP hw hK;exact zH2 hr
theorem zG4 {K:PySem.W.Frag} {es:List Expr} {k:Nat} {t:TGs} {n:Nat} {pos:Pos} (hc:X.calm=true) (h:PGs X es t)
  (hn:(assignEach es X.env).length=n:=by rfl) (hst:(assignEach es X.env).findIdx? (·.1)=none:=by rfl) (hK:X.K=K:=by rfl):PG X (.Tuple es k pos) (gTup K n t):=by
 subst hK;exact pg_tup hc h hn hst
theorem zGr :x∈told qs n↔∃q∈qs,snd q=n/\fst q=x:=by
 unfold told;simp only [qAI,qAQ,qBN];exact ⟨fun ⟨q,⟨a,b⟩,c⟩=>⟨q,a,b,c⟩,fun ⟨q,a,b,c⟩=>⟨q,⟨a,b⟩,c⟩⟩
theorem fst_of {q q':List Str×Addr} (h:q.1=q'.1):fst q=fst q'/\snd q=snd q':=by unfold fst snd;rw [h];exact ⟨rfl,rfl⟩
section
structure Good (ns:List Str) (qs:List (List Str×Addr)) (r:Str->Nat):Prop where
 nm:∀n∈ns,zH4 n
 nd:ns.Nodup
 few:ns.length<=20
 qfew:qs.length<=306
 qin:∀q∈qs,∀x∈q.1,x∈ns
 rk:∀q∈qs,r (fst q)<r (snd q)
structure JNew (H:Hp) (J:JR):Prop where
 r:Fre H J.r
 p:Fre H J.p
 e:Fre H J.e
 z:∀q∈J.zs,Fre H q.2
 s:∀n∈J.D,Fre H (J.fa n)
def spInit (C:Addr):Sp:=fun vs H Q _=>∃(x dx l m:Addr) (ns:List Str) (qs:List (List Str×Addr)) (r:Str->Nat),vs=[.ref x,.ref l,.ref m]/\H x=some (.ins C dx [])/\Txs H l ns/\Ords H m qs/\Good ns qs r /\
 ∀J H',JobsAt C H' x J->JNew H J->J.ns=ns->(∀k,k∈J.zs.map (·.1)↔k∈qs.map (·.1))->Kp [x] H H'->Q .non H'
abbrev zBw:Stmt:=zEv (top 43) 0
theorem zGd:FnScope ["self", "names", "orders"] ["self", "names", "orders"] (zAd zBw):=fnS
theorem ok_Jobs_init {f:Addr} (F:Fun K "__init__" "Jobs.__init__" zBw f fd) (T:Txt K mg) (U:JC K mg C) (C_check_names:Cal P w K mg base "check_names" 2 ["names"] zF2) (C_check_parts:Cal P w K mg base "check_parts" 3 ["names", "orders"] zF1)
  (C_all_ahead:Cal P w K mg base "all_ahead" 2 ["names", "told"] zIa) (C_told_ahead:Cal P w K mg base "told_ahead" 1 ["names", "orders"] zGu):FnOk P w K mg base CX0 4 f fd ["self", "names", "orders"] (spInit C):=by
 refine F.ok zGd (fun vs H Q E h=>?_) (fun cdv A outer s H vs Q E hr h=>?_)
 ·obtain ⟨x,dx,l,m,ns,qs,r,rfl,_⟩:=h;rfl
 ·obtain ⟨x,dx,l,m,ns,qs,r,rfl,hx,hl,hm,G,k⟩:=h;have HR_check_parts:=hr;have HR_check_names:=hr.mono (j:=2) (by decide);have HR_all_ahead:=hr.mono (j:=2) (by decide);have HR_told_ahead:=hr.mono (j:=1) (by decide)
  refine ⟨_,(zAc (zA8 (zAf C_check_names HR_check_names rfl (zAa (pv 1) zAb)))
   (zAc (zA8 (zAf C_check_parts HR_check_parts rfl (zAa (pv 1) (zAa (pv 2) zAb))))
   (zAc (ps_fld (pv 0) (zAm zAz (by rfl) T.z_list zB2 (zAa (pv 1) zAb)) rfl)
   (zAc (ps_fld (pv 0) (zAh (zH3 (P:=P) (w:=w) (K:=K) HR_told_ahead) (by rfl) T.z_sorted zCt (zAa (zAm (call_setTP (P:=P) (w:=w) (K:=K) HR_told_ahead) (by rfl) T.z_set bo_set (zAa (zA5 rfl (zBc (sc:=zAd zBw) rfl (by decide +kernel)) (Draws.own (x:= "one") (Draws.own (x:= "other") Draws.nil)) (zAl (pv 2)) (fun _ _ _ _=>(zG4 (K:=K) (n:=2) rfl (zAw (pgB (i:=0)) (zAw (pgB (i:=1)) zDi)))) (fun _ _ _ _=>zCe) (fun _ _ _ _=>(zC2 (zAa (pv 0) (zAa (pv 1) zAb))))) zAb)) zAb)) rfl)
   (zAe (ps_fld (pv 0) (zAf C_all_ahead HR_all_ahead rfl (zAa (zDy (pv 0) rfl) (zAa (zAf C_told_ahead HR_told_ahead rfl (zAa (zDy (pv 0) rfl) (zAa (zDy (pv 0) rfl) zAb))) zAb))) rfl)))))),?_⟩
  refine ⟨_,rfl,l,ns,rfl,hl,G.few,G.nm,G.nd,fun H1 k1=>?_⟩;have hm1:=hm.kp k1 (by simp) (by simp);refine ⟨_,rfl,_,rfl,l,m,ns,qs,rfl,k1 l _ hl (by simp),hm1,G.qin,?_⟩;have hx1:=k1 x _ hx (by simp);refine ⟨_,rfl,_,_,rfl,.inl (SqL.of (k1 l _ hl (by simp))),fun r1 hr1=>?_⟩;have nxr:x≠r1:=ne_fre hr1 hx1;refine ⟨_,rfl,_,_,_,_,rfl,(upd_ne nxr).trans hx1,U.cl,U.n_row,(by decide),?_⟩
  have hm2:∀o1 o2,Ords (upd (upd H1 r1 o1) x o2) m qs:=fun o1 o2 =>
   ⟨(upd_ne (zBl hm1.top hx1 (fun z=>nomatch z))).trans ((upd_ne (ne_fre hr1 hm1.top)).trans hm1.top),fun q hq=>(upd_ne (zBl (hm1.row q hq) hx1 (fun z=>nomatch z))).trans ((upd_ne (ne_fre hr1 (hm1.row q hq))).trans (hm1.row q hq)),hm1.two⟩
  have hrow2:∀o2,Txs (upd (upd H1 r1 (.lst (ns.map V.str))) x o2) r1 ns:=fun o2=>(upd_ne nxr.symm).trans upd_same;have k2:∀o1 o2,Kp [x] H (upd (upd H1 r1 o1) x o2):=fun o1 o2=>Kp.put (Kp.new (k1.weak (by simp)) (k1.fre hr1 (by simp))) (by simp);have hx2:∀o1 o2,(upd (upd H1 r1 o1) x o2) x=some o2:=fun o1 o2=>upd_same;have hm2:=hm2 (.lst (ns.map V.str)) (.ins C dx (putF "row" (.ref r1) []));have hrow2:=hrow2 (.ins C dx (putF "row" (.ref r1) []));have k2:=k2 (.lst (ns.map V.str)) (.ins C dx (putF "row" (.ref r1) []));have hx2:=hx2 (.lst (ns.map V.str)) (.ins C dx (putF "row" (.ref r1) []));generalize hH2:upd (upd H1 r1 (.lst (ns.map V.str))) x (.ins C dx (putF "row" (.ref r1) []))=H2 at hm2 hrow2 k2 hx2 ⊢
  refine ⟨_,rfl,_,rfl,⟨_,SqL.of hm2.top⟩,fun B hB=>zBd (qs.map fun q=>V.ref q.2) (fun i ys τ H3=>∃ks:List (List Str×Addr),(∃o0 o1,τ=[o0,o1])/\ys=(ks.map fun q=>V.ref q.2)/\ks.map (·.1)=(qs.take i).map (·.1)/\(∀q∈ks,H3 q.2=some (.tup (q.1.map V.str)))/\(∀q∈ks,Fre H2 q.2)/\Kp [] H2 H3/\H3 B=some (.lst ys))
   ⟨[],⟨_,_,rfl⟩,rfl,rfl,(fun q h=>nomatch h),(fun q h=>nomatch h),Kp.new Kp.refl hB,upd_same⟩ (fun i ys τ H3 ⟨_,_,_,_,_,_,k3,_⟩=>SqL.of (k3 m _ hm2.top (by simp))) ?_ ?_⟩
  ·rintro i v ys τ H3 hv ⟨ks,⟨o0,o1,rfl⟩,rfl,ek,hk,fk,k3,h3⟩;obtain ⟨q,eq,rfl⟩:=zIc hv;have mq:=qAN eq;obtain ⟨a,b,eab⟩:=hm2.two q mq
   have hrow:H3 q.2=some (.tup [.str a,.str b]):=by
    have:=k3 q.2 _ (hm2.row q mq) (by simp);rw [eab] at this;exact this
   refine ⟨_,_,rfl,.inl (.inl hrow),rfl,_,_,rfl,_,_,rfl,rfl,?_⟩;have hlen:ks.length=(qs.take i).length:=by have:=qAg List.length ek;simpa using this
   refine ⟨_,rfl,_,rfl,(by walk_at "ln"),fun t ht=>?_⟩;have ft:Fre H3 t:=ht;have nBt:B≠t:=ne_fre ft h3;refine ⟨(upd_ne nBt).trans h3,?_,ks++[([a,b],t)],⟨_,_,rfl⟩,?_,?_,fun q' hq'=>?_,fun q' hq'=>?_,?_,?_⟩
   ·rw [qAD,hlen,qAY,qAK];have:=G.qfew;lia
   ·rw [qAS];rfl
   ·rw [qAS,ek,zAj eq,qAS,qAd,qAd,eab]
   ·rcases qAW.mp hq' with z| z
    ·exact (upd_ne (zBl (hk q' z) h3 (fun y=>nomatch y))).trans ((upd_ne (ne_fre ft (hk q' z))).trans (hk q' z))
    ·rw [qAZ.mp z];exact (upd_ne nBt.symm).trans upd_same
   ·rcases qAW.mp hq' with z| z
    ·exact fk q' z
    ·rw [qAZ.mp z];exact k3.fre ft (by simp)
   ·exact Kp.new (Kp.new k3 (k3.fre ft (by simp))) hB
   ·exact upd_same
  ·rintro ys τ H3 ⟨ks,_,rfl,ek,hk,fk,k3,h3⟩;have eT:qs.take (qs.map fun q=>V.ref q.2).length=qs:=by rw [qAD,qAi]
   rw [eT] at ek;have hlen:ks.length=qs.length:=by have:=qAg List.length ek;simpa using this
   have ktwo:∀q∈ks,∃a b,q.1=[a,b]:=fun q hq=>by
    have:q.1∈ks.map (·.1):=qAI.mpr ⟨q,hq,rfl⟩;rw [ek] at this;obtain ⟨q',hq',e⟩:=qAI.mp this;rw [<-e];exact hm2.two q' hq'
   refine ⟨B,ks,rfl,SqL.of h3,fun q hq=>.inl (.inl (hk q hq)),by rw [hlen];have:=G.qfew;lia,fun sa yk hsa y1 y2 y3 y4=>?_⟩;have fsa:Fre H3 sa:=hsa;refine ⟨sa,yk,rfl,upd_same,fun q hq=>.inl (.inl ((upd_ne (ne_fre fsa (hk q (y1 q hq)))).trans (hk q (y1 q hq)))),fun q hq=>?_,by have:=G.qfew;lia,fun p zs hp z1=>?_⟩
   ·obtain ⟨a,b,e⟩:=ktwo q (y1 q hq);rw [e];simp
   have fp:Fre (upd H3 sa (TSt P w sa yk)) p:=hp;have zk:∀q∈zs,q∈ks:=fun q hq=>y1 q (z1.mem_iff.mp hq)
   have zq:∀q∈zs,∃q'∈qs,q'.1=q.1:=fun q hq=>by
    have:q.1∈ks.map (·.1):=qAI.mpr ⟨q,zk q hq,rfl⟩;rw [ek] at this;exact qAI.mp this
   have zin:∀q∈zs,∀x∈q.1,x∈ns:=fun q hq x hx=>by
    obtain ⟨q',h1,h2⟩:=zq q hq;exact G.qin q' h1 x (by rw [h2];exact hx)
   have zrk:∀q∈zs,r (fst q)<r (snd q):=fun q hq=>by
    obtain ⟨q',h1,h2⟩:=zq q hq;obtain ⟨e1,e2⟩:=fst_of h2;rw [<-e1,<-e2];exact G.rk q' h1
   have zlen:zs.length<=306:=by rw [z1.length_eq];have:=G.qfew;lia
   have zset:∀k,k∈zs.map (·.1)↔k∈qs.map (·.1):=fun k=>by
    rw [<-ek,(z1.map (·.1)).mem_iff]
    exact ⟨fun h=>by
     obtain ⟨q,h1,h2⟩:=qAI.mp h;exact qAI.mpr ⟨q,y1 q h1,h2⟩,fun h=>by
     obtain ⟨q,h1,h2⟩:=qAI.mp h;rw [<-h2];exact y2 q h1⟩
   have k4:Kp [] H2 (upd (upd H3 sa (TSt P w sa yk)) p (.lst (zs.map fun q=>V.ref q.2))):=by
    have h1:Kp [] H2 (upd H3 sa (TSt P w sa yk)):=Kp.new k3 (k3.fre fsa (by simp));exact Kp.new h1 (h1.fre fp (by simp))
   have hzs4:Ords (upd (upd H3 sa (TSt P w sa yk)) p (.lst (zs.map fun q=>V.ref q.2))) p zs:=⟨upd_same,fun q hq=>by
    have h1:upd H3 sa (TSt P w sa yk) q.2=some (.tup (q.1.map V.str)):=(upd_ne (ne_fre fsa (hk q (zk q hq)))).trans (hk q (zk q hq));exact (upd_ne (ne_fre fp h1)).trans h1,fun q hq=>ktwo q (zk q hq)⟩
   generalize hH4:upd (upd H3 sa (TSt P w sa yk)) p (.lst (zs.map fun q=>V.ref q.2))=H4 at k4 hzs4 ⊢;have hx4:=k4 x _ hx2 (by simp);refine ⟨_,rfl,_,_,_,_,rfl,hx4,U.cl,U.n_pairs,(by have:=zGq "row" (V.ref r1) [];simp only [qBS] at this;lia),?_⟩;have hx5:(upd H4 x (.ins C dx (putF "pairs" (.ref p) (putF "row" (.ref r1) [])))) x=some (.ins C dx (putF "pairs" (.ref p) (putF "row" (.ref r1) []))):=upd_same;have hrow5:Txs (upd H4 x (.ins C dx (putF "pairs" (.ref p) (putF "row" (.ref r1) [])))) r1 ns:=(upd_ne nxr.symm).trans (k4 r1 _ hrow2 (by simp));have hzs5:Ords (upd H4 x (.ins C dx (putF "pairs" (.ref p) (putF "row" (.ref r1) [])))) p zs:=⟨(upd_ne (zBl hzs4.top hx4 (fun z=>nomatch z))).trans hzs4.top,fun q hq=>(upd_ne (zBl (hzs4.row q hq) hx4 (fun z=>nomatch z))).trans (hzs4.row q hq),hzs4.two⟩;have k5:Kp [x] H (upd H4 x (.ins C dx (putF "pairs" (.ref p) (putF "row" (.ref r1) [])))):=Kp.put (k2.trans (k4.weak (by simp))) (by simp);generalize hH5:upd H4 x (.ins C dx (putF "pairs" (.ref p) (putF "row" (.ref r1) [])))=H5 at hx5 hrow5 hzs5 k5 ⊢
   have e_row:(putF "pairs" (.ref p) (putF "row" (.ref r1) [])).lookup ("row" : Str)=some (.ref r1):=by
    rw [zAr,qAB (by decide +kernel),zAr,qAC rfl]
   have e_prs:(putF "pairs" (.ref p) (putF "row" (.ref r1) [])).lookup ("pairs" : Str)=some (.ref p):=by
    rw [zAr,qAC rfl]
   refine ⟨_,rfl,_,_,_,_,_,rfl,hx5,U.cl,U.n_row,e_row,_,rfl,_,_,_,_,_,rfl,hx5,U.cl,U.n_row,e_row,_,rfl,_,_,_,_,_,rfl,hx5,U.cl,U.n_pairs,e_prs,r1,p,ns,zs,rfl,hrow5,hzs5,G.nd,G.few,by lia,zin,fun d la H6 DD k6=>?_⟩;refine ⟨r1,d,ns,la,told zs,r,rfl,k6 r1 _ hrow5 (by simp),G.nd,G.few,DD.top,fun n hn=>⟨DD.row n hn,qAT (told_len zs n) (by lia),fun y hy=>?_⟩,fun e D fa S H7 FF all k7=>?_⟩
   ·obtain ⟨q,h1,h2,h3⟩:=zGr.mp hy;obtain ⟨a,b,eab⟩:=hzs5.two q h1;refine ⟨?_,by rw [<-h2,<-h3];exact zrk q h1⟩;rw [<-h3];refine zin q h1 _ ?_;unfold fst;rw [eab];simp
   have k57:Kp [] H5 H7:=k6.trans k7;have hx7:=k57 x _ hx5 (by simp);refine ⟨_,rfl,_,_,_,_,rfl,hx7,U.cl,U.n_above,?_,?_⟩
   ·have h1:=zGq "row" (V.ref r1) [];have h2:=zGq "pairs" (V.ref p) (putF "row" (V.ref r1) []);simp only [qBS] at h1;lia
   have f2H:∀a,Fre H2 a->Fre H a:=fun a ha=>k2.fre ha (nm1 fun z=>by
    subst z;have:H2 a=some _:=hx2;unfold Fre at ha;rw [ha] at this;exact nomatch this)
   have k3p:Kp [] H2 (upd H3 sa (TSt P w sa yk)):=Kp.new k3 (k3.fre fsa (by simp));have fpx:Fre H2 p:=k3p.fre fp (by simp)
   have f52:∀a,Fre H5 a->Fre H2 a:=fun a ha=>by
    have h1:Fre H4 a:=by
     have nax:a≠x:=fun z=>by
      subst z;unfold Fre at ha;rw [ha] at hx5;exact nomatch hx5
     have:H5 a=H4 a:=by rw [<-hH5];exact upd_ne nax
     unfold Fre at ha ⊢;rw [<-this];exact ha
    exact k4.fre h1 (by simp)
   have fex:Fre H2 e:=f52 e (k6.fre FF.fr (by simp));have ffx:∀n∈D,Fre H2 (fa n):=fun n hn=>f52 _ (k6.fre (FF.frs n hn) (by simp));refine k ⟨dx,r1,p,e,ns,zs,D,fa,S⟩ _ ⟨upd_same,?_,⟨?_,fun q hq=>?_,hzs5.two⟩,?_,all,fun n hn=>?_,G.few,zlen,G.nd,zin,fun n hn y=>FF.mem n (all n hn) y⟩ ⟨k1.fre hr1 (by simp),f2H p fpx,f2H e fex,fun q hq=>f2H q.2 (fk q (zk q hq)),fun n hn=>f2H _ (ffx n hn)⟩ rfl zset (Kp.put (k5.trans (k57.weak (by simp))) (by simp))
   ·exact (upd_ne nxr.symm).trans (k57 r1 _ hrow5 (by simp))
   ·have h1:=k57 p _ hzs5.top (by simp);exact (upd_ne (zBl h1 hx7 (fun z=>nomatch z))).trans h1
   ·have h1:=k57 _ _ (hzs5.row q hq) (by simp);exact (upd_ne (zBl h1 hx7 (fun z=>nomatch z))).trans h1
   ·exact (upd_ne (zBl FF.top hx7 (fun z=>nomatch z))).trans FF.top
   ·exact (upd_ne (zBl (FF.row n hn) hx7 (fun z=>nomatch z))).trans (FF.row n hn)
end
def zBp:List Str:=zD3.cps.toList.map fun c=>⟨#[c]⟩
theorem zEl:zBp.length=26:=by
 unfold zBp;rw [zD2];simp
theorem singles_nd:zBp.Nodup:=by decide +kernel
theorem single_ok (h:x∈zBp):zH4 x:=by
 unfold zBp at h;rw [zD2] at h;obtain ⟨c,hc,rfl⟩:=qAI.mp h;obtain ⟨i,hi,rfl⟩:=qAI.mp hc;have:=qA3.mp hi;refine ⟨qAG 1,by show 1<=8;decide,fun d hd=>?_⟩;have:d=97+i:=by simpa using hd
 lia
theorem some_single {found:List Str} (h:found.length<=20):(zBp.filter fun x=>decide (x∉found))≠[]:=fun z=>by
 have:zBp.length<=found.length:=zBt singles_nd fun x hx=>by
  apply qBe;intro y;have:x∈zBp.filter fun x=>decide (x∉found):=qAQ.mpr ⟨hx,qAU y⟩;rw [z] at this;exact nomatch this
 rw [zEl] at this;lia
section
def spLNames:Sp:=fun vs H Q _=>∃(p:Addr) (m:Int),vs=[.ref p,.int m]/\zB4 H p/\0<=m/\m<=20/\∀(l:Addr) (ns:List Str) (H':Hp),Fre H l->Txs H' l ns->ns.length=m.toNat->ns.Nodup->(∀n∈ns,zH4 n)->zB4 H' p->Kp [p] H H'->Q (.ref l) H'
abbrev zIy:Stmt:=top 48
theorem zCx:FnScope ["_law_purse_here", "_law_many", "_law_letters", "_law_found", "_law_k", "_law_word", "_law_j"] ["_law_purse_here", "_law_many"] (zAd zIy):=fnS
theorem ok_names {f:Addr} (F:Fun K "_law_names" "_law_names" zIy f fd) (T:Txt K mg) (C_take:Cal P w K mg base "_law_take" 1 ["_law_purse_here", "_law_many"] zH6):FnOk P w K mg base CX0 2 f fd ["_law_purse_here", "_law_many"] spLNames:=by
 refine F.ok zCx (fun vs H Q E h=>?_) (fun cdv A outer s H vs Q E hr h=>?_)
 ·obtain ⟨p,m,rfl,_⟩:=h;rfl
 ·obtain ⟨p,m,rfl,hP,h0,h1,k⟩:=h;have HR_take:=hr
  refine ⟨_,(zAc (psS (i:=2) zCx.nd zId)
   (zAc (psS (i:=3) zCx.nd (zCf zAb))
   (zAc (zBb qAk rfl (zCq rfl T.z_range (zAa (pv 1) zAb)) (pgN (i:=4) zCx.nd)
    (zAc (psS (i:=5) zCx.nd zId)
    (zAc (zBb qAk rfl (zCq rfl T.z_range (zAa (zAt zBz zAg (zAt zE9 (zAf C_take HR_take rfl (zAa (pv 0) (zAa zAg zAb))) (zAf C_take HR_take rfl (zAa (pv 0) (zAa zAg zAb))))) zAb)) (pgN (i:=6) zCx.nd)
     (zAe (psS (i:=5) zCx.nd (zAt op_add_str (pv 5) (zCi ix_str (pv 2) (zAf C_take HR_take rfl (zAa (pv 0) (zAa zAg zAb))) (fun _ _=>rfl))))))
    (zAc (zBx (zAs zG8 (pv 5) (pv 3) (by rfl))
     (zAe (psS (i:=5) zCx.nd (zCi zCs (zA5 rfl (zBc (sc:=zAd zIy) rfl (by decide +kernel)) (Draws.own (x:= "_law_letter") (dtk (i:=3) rfl Draws.nil)) (pi_str (pv 2)) (fun _ _ _ _=>(pgB (i:=0))) (fun _ _ _ _=>(zB6 (zAs (zI6 (K:=K)) (pv 0) (pv 1) (by rfl)))) (fun _ _ _ _=>(pv 0))) zAg (fun _ _=>rfl))))
     zAq)
    (zAe (zA8 (zHx qBX qDG qDH zD1 (pv 3) (zAa (pv 5) zAb))))))))
   (zAe (zAo (pv 3)))))),?_⟩
  refine ⟨(by walk_at "ln"),fun l hl=>?_⟩;have fl:Fre H l:=hl;have npl:p≠l:=by obtain ⟨a,b,e,_⟩:=hP;exact ne_fre fl e
  have hP1:zB4 (upd H l (.lst [])) p:=hP.kp (M:=[]) (Kp.new Kp.refl fl) (by simp)
  refine ⟨_,rfl,_,rfl,by lia,by lia,zCb (lo:=0) (n:=m.toNat) (fun i σ H2=>∃(o4 o5 o6:Option V) (ws:List Str),σ=[some (.ref p),some (.int m),some (.str zD3),some (.ref l),o4,o5,o6]/\zB4 H2 p/\Kp [p] H H2/\Txs H2 l ws/\ws.length=i/\ws.Nodup/\∀s∈ws,zH4 s)
   ⟨none,none,none,[],rfl,hP1,Kp.new Kp.refl fl,upd_same,rfl,qA1,fun s h=>nomatch h⟩ ?_ ?_⟩
  ·rintro i σ H2 hi ⟨o4,o5,o6,ws,rfl,P2,K2,R2,e2,n2,q2⟩;refine ⟨_,rfl,p,2,rfl,P2,by decide,by decide,fun d1 H3 a0 a1 P3 K3=>?_⟩;refine ⟨_,rfl,p,8,rfl,P3,by decide,by decide,fun d2 H4 b0 b1 P4 K4=>?_⟩;have hm0:0<=d1*d2:=Int.mul_nonneg a0 b0
   have hm1:d1*d2<=7:=by
    have:d1*d2<=1*7:=Int.mul_le_mul (by lia) (by lia) b0 (by decide);lia
   have K24:Kp [p] H2 H4:=K3.trans K4
   refine ⟨_,_,rfl,rfl,(by walk_at "ml"),_,_,rfl,rfl,_,rfl,by lia,by lia,zCb (lo:=0) (n:=(1+d1*d2).toNat) (fun n σ H7=>∃(o4 o6:Option V) (x:Str),σ=[some (.ref p),some (.int m),some (.str zD3),some (.ref l),o4,some (.str x),o6]/\zB4 H7 p/\Kp [p] H2 H7/\WordS n x)
    ⟨_,_,_,rfl,P4,K24,rfl,(fun c h=>absurd (show c∈([]:List Nat) from h) (by simp))⟩ ?_ ?_⟩
   ·rintro n σ H7 hn ⟨o4,o6,x,rfl,P8,K7,W⟩;refine ⟨_,rfl,_,rfl,_,rfl,p,26,rfl,P8,by decide,by decide,fun d4 H8 e0 e1 P9 K8=>?_⟩;refine ⟨_,_,_,rfl,rfl,by decide,letters_at e0 e1,_,_,rfl,rfl,?_,?_⟩
    ·rw [W.1];show n+1<=sizeLine;rw [qAK];lia
    ·exact ⟨_,_,_,rfl,P9,K7.trans K8,W.more (by lia) (by lia)⟩
   ·rintro σ H7 ⟨o4,o6,x,rfl,P8,K7,W⟩;have h7:Txs H7 l ws:=K7 l _ R2 (nm1 npl.symm);have NX:zH4 x:=⟨by have:=W.1;lia,by have:=W.1;lia,W.2⟩;refine ⟨_,rfl,_,rfl,_,_,rfl,.inl (SqL.of h7),rfl,zD5 ws,_,rfl,?_⟩;rw [qAB (by decide),zHo];refine if_mid (fun σ H8=>∃(y:Str),σ=[some (.ref p),some (.int m),some (.str zD3),some (.ref l),o4,some (.str y),o6]/\Kp [] H7 H8/\zH4 y/\y∉ws) (fun N hN=>ite2 (fun c=>?_) (fun c=>?_)) ?_
    ·-- _law_word=[..][0]
     refine ⟨_,rfl,_,rfl,fun B hB=>comp_str (z:=zD3) (fun i ys τ H8=>(∃o0,τ=[o0,some (.ref l)])/\ys=((zBp.take i).filter fun x=>decide (x∉ws)).map V.str/\H8=upd H7 B (.lst ys)) ⟨⟨_,rfl⟩,rfl,rfl⟩ ?_ ?_⟩
     ·rintro i c ys τ H8 hc ⟨⟨o0,rfl⟩,rfl,rfl⟩;have en:zBp[i]?=some ⟨#[c]⟩:=by unfold zBp;rw [qAe,hc];rfl
      refine ⟨_,rfl,_,rfl,_,_,rfl,.inl (SqL.of ((upd_ne (ne_fre (show Fre H7 B from hB) h7)).trans h7)),rfl,zD5 ws,_,rfl,?_⟩;rw [qAC rfl,zHo]
      have ed:(!decide ((⟨#[c]⟩:Str)∈ws))=decide ((⟨#[c]⟩:Str)∉ws):=by
       by_cases z:(⟨#[c]⟩:Str)∈ws
       ·simp [z]
       ·simp [z]
      rw [ed];refine ite2 (fun c=>?_) (fun c=>?_)
      ·refine ⟨_,rfl,upd_same,?_,⟨_,rfl⟩,?_,zBo⟩
       ·rw [qAD];exact zDl (by rw [zEl];decide)
       ·rw [zCa (p:=fun x=>decide (x∉ws)) en c,qAS];rfl
      ·refine ⟨⟨_,rfl⟩,?_,?_⟩
       ·rw [zC7 (p:=fun x=>decide (x∉ws)) en c]
       ·rfl
     ·rintro ys τ H8 ⟨_,rfl,rfl⟩;have eT:zBp.take zD3.length=zBp:=qBq (by rw [zEl];decide);rw [eT];have hne:=some_single (found:=ws) (by lia)
      have hmm:∀y,y∈(zBp.filter fun x=>decide (x∉ws))->zH4 y/\y∉ws:=fun y hy=>by
       have:=qAQ.mp hy;exact ⟨single_ok this.1,qAm this.2⟩
      generalize (zBp.filter fun x=>decide (x∉ws))=L at hne hmm
      obtain ⟨y,r,rfl⟩:∃y r,L=y::r:=by
       cases L with
       | nil=>exact absurd rfl hne
       | cons y r=>exact ⟨y,r,rfl⟩
      refine ⟨_,_,_,.str y,rfl,rfl,SqL.of upd_same,zGa (by decide) rfl,?_⟩;exact hN _ _ ⟨y,rfl,Kp.new Kp.refl hB,(hmm y qAR).1,(hmm y qAR).2⟩
    ·exact hN _ _ ⟨x,rfl,Kp.refl,NX,fun z=>c (qAU z)⟩
    ·rintro σ H8 ⟨y,rfl,K8,NY,ny⟩;have h8:Txs H8 l ws:=K8 l _ h7 (by simp);refine ⟨_,rfl,.inl ⟨rfl,_,SqL.of h8⟩,_,rfl,_,_,_,rfl,rfl,h8,?_,?_⟩
     ·rw [qAK,qAD];lia
     ·refine ⟨_,_,_,ws++[y],rfl,(P8.kp K8 (by simp)).kp (M:=[l]) (Kp.put Kp.refl (by simp)) (nm1 npl),Kp.new (K2.trans (K7.trans (K8.weak (by simp)))) fl,?_,by simp [e2],?_,fun s hs=>?_⟩
      ·show upd H8 l _ l=some (.lst ((ws++[y]).map V.str));rw [upd_same,qAS];rfl
      ·refine qB4.mpr ⟨n2,by simp,fun a ha b hb=>?_⟩;rw [qAZ.mp hb];rintro rfl;exact ny ha
      ·rcases qAW.mp hs with z| z
       ·exact q2 s z
       ·rw [qAZ.mp z];exact NY
  ·rintro σ H2 ⟨o4,o5,o6,ws,rfl,P2,K2,R2,e2,n2,q2⟩;exact ⟨_,rfl,k l ws H2 fl R2 e2 n2 q2 P2 K2⟩
end
structure Mth (P:Program) (w:World) (K:PySem.W.Frag) (mg:Str->Option Value) (base:Heap) (C:Addr) (m:Str) (k:Nat) (ps:List Str) (sp:Sp):Prop where
 to:∃(f:Addr) (fd:FuncData),Meth K C m f/\zDu K fd ps []/\FnOk P w K mg base CX0 k f fd ps sp
theorem zEd {m:Str} {k:Nat} {ps:List Str} {o e:Expr} {es:List Expr} {apos pos:Pos} {ta:TE} {t:TA} {pl:Sem Bool} (M:Mth X.prog X.w X.K X.mg X.base C m k ps sp) (c:Cls X.K C) (hr:Room k X.A) (he:PE X o ta) (ha:PA X (e::es) t)
  (hst:starEach (e::es) X.env=(false,eval e X.env)::starEach es X.env:=by rfl) (hpl:(backTo pos (starEach es X.env)).any (·.1)=false:=by rfl)
  (ht:eval (.Call (.Attribute o m apos) (e::es) [] pos) X.env=(do
   let ov<-eval o X.env
   standAt apos.atName
   let (f,first)<-holding [ov] (getMethod ov m pl)
   callWith pos f first (backTo pos (starEach (e::es) X.env)) (backToKw pos (keywordEach [] X.env))):=by rfl):PE X (.Call (.Attribute o m apos) (e::es) [] pos) (tMeth C m sp [] E0 ta t):=by
 obtain ⟨f,fd,h1,h2,h3⟩:=M.to;exact pe_meth he c h1 h3 hr h2 .nil pass0 ha hst hpl ht
theorem zDc {m:Str} {k:Nat} {ps:List Str} {o:Expr} {apos pos:Pos} {ta:TE} {pl:Sem Bool} (M:Mth X.prog X.w X.K X.mg X.base C m k ps sp) (c:Cls X.K C) (hr:Room k X.A) (he:PE X o ta)
  (ht:eval (.Call (.Attribute o m apos) [] [] pos) X.env=(do
   let ov<-eval o X.env
   standAt apos.atName
   let (f,first)<-holding [ov] (getMethod ov m pl)
   callWith pos f first (backTo pos (starEach [] X.env)) (backToKw pos (keywordEach [] X.env))):=by rfl):PE X (.Call (.Attribute o m apos) [] [] pos) (tMeth C m sp [] E0 ta tNil):=by
 obtain ⟨f,fd,h1,h2,h3⟩:=M.to;exact pe_meth0 he c h1 h3 hr h2 .nil pass0 ht
theorem S_rank {j:Addr} (A:JobsAt C H j J) (G:Good J.ns qs r) (hz:∀k,k∈J.zs.map (·.1)↔k∈qs.map (·.1)):∀(b:Nat) (n x:Str),r n<=b->n∈J.ns->x∈J.S n->r x<r n:=by
 have tk:∀n x,x∈told J.zs n->x∈J.ns/\r x<r n:=fun n x hx=>by
  obtain ⟨q,q1,q2,q3⟩:=zGr.mp hx;have:q.1∈qs.map (·.1):=(hz q.1).mp (qAI.mpr ⟨q,q1,rfl⟩);obtain ⟨q',h1,h2⟩:=qAI.mp this;obtain ⟨e1,e2⟩:=fst_of h2;obtain ⟨a,b,eab⟩:=A.prs.two q q1;refine ⟨?_,by rw [<-q2,<-q3,<-e1,<-e2];exact G.rk q' h1⟩;rw [<-q3];refine A.zin q q1 _ ?_;unfold fst;rw [eab];simp
 intro b
 induction b with
 | zero =>
  intro n x hb hn hx;rcases (A.mem n hn x).mp hx with z| ⟨m,z,_⟩
  ·exact (tk n x z).2
  ·have:=(tk n m z).2;lia
 | succ b ih =>
  intro n x hb hn hx;rcases (A.mem n hn x).mp hx with z| ⟨m,z,z'⟩
  ·exact (tk n x z).2
  ·have h1:=tk n m z;exact qCZ (ih m x (by lia) h1.1 z') h1.2
structure Mkr (P:Program) (w:World) (K:PySem.W.Frag) (mg:Str->Option Value) (base:Heap) (C:Addr) (x:Str) (k:Nat) (ps:List Str) (sp:Sp):Prop where
 to:∃(f:Addr) (fd:FuncData),Mk K C f/\mg x=some (.ref C)/\zDu K fd ps []/\FnOk P w K mg base CX0 k f fd ps sp
theorem zI5 {k:Nat} {ps:List Str} {e:Expr} {es:List Expr} {p pos:Pos} {t:TA} (M:Mkr X.prog X.w X.K X.mg X.base C x k (("self" : Str)::ps) sp) (hr:Room (k+1) X.A) (hg:Gl X x) (ha:PA X (e::es) t)
  (hdb:(x==("__debug__" : Str))=false:=by decide) (he:starEach (e::es) X.env=(false,eval e X.env)::starEach es X.env:=by rfl) (hpl:(backTo pos (starEach es X.env)).any (·.1)=false:=by rfl):PE X (.Call (.Name x p) (e::es) [] pos) (tMake C sp [] E0 t):=by
 obtain ⟨f,fd,h1,h2,h3,h4⟩:=M.to;exact pe_make h1 h4 hr hg h2 h3 .nil pass0 ha hdb he hpl
def TA (qs:List (List Str×Addr)) (a b:Str):Prop:=∃q∈qs,fst q=a/\snd q=b
inductive Way (qs:List (List Str×Addr)):Str->Str->Prop
 | one {a b:Str}:TA qs a b->Way qs a b
 | more {a b c:Str}:Way qs a b->TA qs b c->Way qs a c
theorem Way.lead {c:Str} (h:TA qs a b) (w:Way qs b c):Way qs a c:=by
 induction w with
 | one h'=>exact .more (.one h) h'
 | more _ h' ih=>exact .more ih h'
theorem Way.trans {c:Str} (h:Way qs a b) (w:Way qs b c):Way qs a c:=by
 induction w with
 | one h'=>exact .more h h'
 | more _ h' ih=>exact .more ih h'
theorem TA.to (two:∀q∈qs,∃a b,q.1=[a,b]) (qin:∀q∈qs,∀x∈q.1,x∈ns) (h:TA qs a b):a∈ns/\b∈ns:=by
 obtain ⟨q,hq,rfl,rfl⟩:=h;obtain ⟨a,b,e⟩:=two q hq;unfold fst snd;rw [e];exact ⟨qin q hq a (by rw [e];simp),qin q hq b (by rw [e];simp)⟩
theorem Way.to (two:∀q∈qs,∃a b,q.1=[a,b]) (qin:∀q∈qs,∀x∈q.1,x∈ns) (h:Way qs a b):a∈ns/\b∈ns:=by
 induction h with
 | one h=>exact h.to two qin
 | more _ h ih=>exact ⟨ih.1,(h.to two qin).2⟩
theorem zDo {j:Addr} (A:JobsAt C H j J) (G:Good J.ns qs r) (hz:∀k,k∈J.zs.map (·.1)↔k∈qs.map (·.1)) (hn:n∈J.ns):x∈J.S n↔Way qs x n:=by
 have tk:∀n x,x∈told J.zs n↔TA qs x n:=fun n x=>by
  rw [zGr];constructor
  ·rintro ⟨q,h1,h2,h3⟩;obtain ⟨q',h4,h5⟩:=qAI.mp ((hz q.1).mp (qAI.mpr ⟨q,h1,rfl⟩));obtain ⟨e1,e2⟩:=fst_of h5;exact ⟨q',h4,e1.trans h3,e2.trans h2⟩
  ·rintro ⟨q,h1,h2,h3⟩;obtain ⟨q',h4,h5⟩:=qAI.mp ((hz q.1).mpr (qAI.mpr ⟨q,h1,rfl⟩));obtain ⟨e1,e2⟩:=fst_of h5;exact ⟨q',h4,e2.trans h3,e1.trans h2⟩
 have tin:∀n x,TA qs x n->x∈J.ns/\r x<r n:=fun n x h=>by
  have hT:=(tk n x).mpr h;obtain ⟨q,q1,q2,q3⟩:=zGr.mp hT;obtain ⟨a,b,e⟩:=A.prs.two q q1;refine ⟨?_,?_⟩
  ·rw [<-q3];refine A.zin q q1 _ ?_;unfold fst;rw [e];simp
  ·obtain ⟨q',h1,h2,h3⟩:=h;rw [<-h2,<-h3];exact G.rk q' h1
 constructor
 ·have:∀(b:Nat) (n:Str),r n<=b->n∈J.ns->∀x,x∈J.S n->Way qs x n:=by
   intro b
   induction b with
   | zero =>
    intro n hb hn x hx;rcases (A.mem n hn x).mp hx with z| ⟨m,z,_⟩
    ·exact .one ((tk n x).mp z)
    ·have:=(tin n m ((tk n m).mp z)).2;lia
   | succ b ih =>
    intro n hb hn x hx;rcases (A.mem n hn x).mp hx with z| ⟨m,z,z'⟩
    ·exact .one ((tk n x).mp z)
    ·have h1:=tin n m ((tk n m).mp z);exact .more (ih m (by lia) h1.1 x z') ((tk n m).mp z)
  exact this (r n) n (qAG _) hn x
 ·intro w
  induction w with
  | one h=>exact (A.mem _ hn _).mpr (.inl ((tk _ _).mpr h))
  | more _ h ih=>exact (A.mem _ hn _).mpr (.inr ⟨_,(tk _ _).mpr h,ih (tin _ _ h).1⟩)
section
def zF0 (C:Addr):Sp:=fun vs H Q _=>∃(j l:Addr) (J:JR) (ls:List Str) (y:Str),vs=[.ref j,.ref l,.str y]/\JobsAt C H j J/\Txs H l ls/\ls.length<=4096/\y∈J.ns/\∀H',Kp [] H H'->Q (.bl (ls.any fun n=>decide (n∈J.S y))) H'
abbrev zBg:Stmt:=zEv (top 43) 7
theorem zEm:FnScope ["self", "later", "other"] ["self", "later", "other"] (zAd zBg):=fnS
theorem zEr {f:Addr} (F:Fun K "has_between" "Jobs.has_between" zBg f fd) (T:Txt K mg) (U:JC K mg C):FnOk P w K mg base CX0 1 f fd ["self", "later", "other"] (zF0 C):=by
 refine F.ok zEm (fun vs H Q E h=>?_) (fun cdv A outer s H vs Q E hr h=>?_)
 ·obtain ⟨j,l,J,ls,y,rfl,_⟩:=h;rfl
 ·obtain ⟨j,l,J,ls,y,rfl,A0,hl,hlen,hy,k⟩:=h;have hu:=zDk hr;refine ⟨_,(zAe (zAo (zAh (call_any _ rfl) (by rfl) T.z_any bo_any (zAa (zA5 rfl (zBc (sc:=zAd zBg) rfl (by decide +kernel)) (Draws.own (x:= "name") (dtk (i:=2) rfl (dtk (i:=0) rfl Draws.nil))) (zAl (pv 1)) (fun _ _ _ _=>(pgB (i:=0))) (fun _ _ _ _=>zCe) (fun _ _ _ _=>(pe_cmp (zF5 hu (pv 0) (zA0 hu (pe_fldK (K:=K) (pv 2) rfl) (pv 1) (fun _ _=>rfl)))))) zAb)))),?_⟩
  refine ⟨_,rfl,_,rfl,⟨_,SqL.of hl⟩,fun B hB=>zBd (ls.map V.str) (fun i ys τ H3=>(∃o0,τ=[o0,some (.str y),some (.ref j)])/\ys=((ls.take i).map fun n=>V.bl (decide (n∈J.S y)))/\H3=upd H B (.lst ys))
   ⟨⟨_,rfl⟩,rfl,rfl⟩ (fun i ys τ H3 ⟨_,_,z⟩=>by subst z;exact SqL.of ((Kp.new (M:=[]) Kp.refl hB) _ _ hl (by simp))) ?_ ?_⟩
  ·rintro i v ys τ H3 hv ⟨⟨o0,rfl⟩,rfl,rfl⟩;obtain ⟨n,en,rfl⟩:=zA3 hv;have A3:=A0.kp0 (Kp.new (l:=B) (o:=.lst ((ls.take i).map fun n=>V.bl (decide (n∈J.S y)))) Kp.refl hB);obtain ⟨o,g1,g2⟩:=zGx (A3.sets y (A3.all y hy)) n;refine ⟨_,rfl,_,rfl,_,_,_,_,_,rfl,A3.ob,U.cl,U.n_above,zJi _ _ _,_,rfl,_,_,rfl,abv_get A3 hy,_,o,rfl,g1,?_⟩;rw [g2];refine ⟨upd_same,?_,⟨_,rfl⟩,?_,zBo⟩
   ·rw [qAD,qAY,qAK];lia
   ·rw [zAj en,qAS];rfl
  ·rintro ys τ H3 ⟨_,rfl,rfl⟩;have eT:ls.take (ls.map V.str).length=ls:=by rw [qAD,qAi]
   rw [eT];refine ⟨B,ls.map fun n=>decide (n∈J.S y),rfl,SqL.of ?_,?_⟩
   ·rw [upd_same,qAt];rfl
   ·have e:((ls.map fun n=>decide (n∈J.S y)).any id)=ls.any fun n=>decide (n∈J.S y):=by rw [List.any_map];rfl
    rw [e];exact k _ (Kp.new Kp.refl hB)
def strB (J:JR) (x:Str):List Str:=(J.ns.filter fun n=>decide (x∈J.S n)).filter fun o=>!((J.ns.filter fun n=>decide (x∈J.S n)).any fun n=>decide (n∈J.S o))
def zH7 (C:Addr):Sp:=fun vs H Q _=>∃(j:Addr) (J:JR) (x:Str),vs=[.ref j,.str x]/\JobsAt C H j J/\x∈J.ns/\∀l H',Fre H l->Txs H' l (strB J x)->Kp [] H H'->Q (.ref l) H'
abbrev zBv:Stmt:=zEv (top 43) 6
theorem zDr:FnScope ["self", "name", "later"] ["self", "name"] (zAd zBv):=fnS
theorem zGg {f:Addr} (F:Fun K "straight" "Jobs.straight" zBv f fd) (T:Txt K mg) (U:JC K mg C) (M_behind:Mth P w K mg base C "behind" 3 ["self", "name"] (zGn C)) (M_has_between:Mth P w K mg base C "has_between" 1 ["self", "later", "other"] (zF0 C)):FnOk P w K mg base CX0 4 f fd ["self", "name"] (zH7 C):=by
 refine F.ok zDr (fun vs H Q E h=>?_) (fun cdv A outer s H vs Q E hr h=>?_)
 ·obtain ⟨j,J,x,rfl,_⟩:=h;rfl
 ·obtain ⟨j,J,x,rfl,A0,hx,k⟩:=h;have hr1:=hr.mono (j:=1) (by decide)
  refine ⟨_,(zAc (psS (i:=2) zDr.nd (zEd M_behind U.cl hr (pv 0) (zAa (pv 1) zAb)))
   (zAe (zAo (zA5 rfl (zBc (sc:=zAd zBv) rfl (by decide +kernel)) (Draws.own (x:= "other") (dtk (i:=2) rfl (dtk (i:=0) rfl Draws.nil))) (zAl (pv 2)) (fun _ _ _ _=>(pgB (i:=0))) (fun C₀ s₀ H₀ ex=>(zB6 (zDx (zC1 (zEd M_has_between U.cl hr1 (pv 2) (zAa (pv 1) (zAa (pv 0) zAb))))))) (fun _ _ _ _=>(pv 0)))))),?_⟩
  refine ⟨_,rfl,j,J.dx,_,rfl,A0.ob,zGh _ _ _ (by decide +kernel) (by decide +kernel) (by decide +kernel),_,rfl,j,J,x,rfl,A0,hx,fun l H1 fl hl k1=>?_⟩;have A1:=A0.kp0 k1;have hLn:∀n∈(J.ns.filter fun n=>decide (x∈J.S n)),n∈J.ns:=fun n hn=>(qAQ.mp hn).1;have hLl:(J.ns.filter fun n=>decide (x∈J.S n)).length<=20:=qAT (qAx _ _) A0.few;have eS:strB J x=(J.ns.filter fun n=>decide (x∈J.S n)).filter fun o=>!((J.ns.filter fun n=>decide (x∈J.S n)).any fun n=>decide (n∈J.S o)):=rfl;rw [eS] at k;generalize (J.ns.filter fun n=>decide (x∈J.S n))=L at *
  refine ⟨_,rfl,_,rfl,⟨_,SqL.of hl⟩,fun B hB=>zBi (L.map V.str) (fun i ys τ H3=>(∃o0,τ=[o0,some (.ref l),some (.ref j)])/\ys=((L.take i).filter fun o=>!(L.any fun n=>decide (n∈J.S o))).map V.str/\Kp [] H1 H3/\H3 B=some (.lst ys))
   ⟨⟨_,rfl⟩,rfl,Kp.new Kp.refl hB,upd_same⟩ (fun i ys τ H3 ⟨_,_,k3,_⟩=>SqL.of (k3 l _ hl (by simp))) ?_ ?_⟩
  ·rintro i v ys τ H3 hv ⟨⟨o0,rfl⟩,rfl,k3,h3⟩;obtain ⟨n,en,rfl⟩:=zA3 hv;have A3:=A1.kp0 k3;refine ⟨_,rfl,j,J.dx,_,rfl,A3.ob,zGh _ _ _ (by decide +kernel) (by decide +kernel) (by decide +kernel),_,rfl,_,rfl,j,l,J,L,n,rfl,A3,k3 l _ hl (by simp),by lia,hLn n (qAN en),fun H4 k4=>⟨_,rfl,?_⟩⟩;have h4:=k4 B _ h3 (by simp);refine ite2 (fun c=>?_) (fun c=>?_)
   ·refine ⟨_,rfl,h4,?_,⟨_,rfl⟩,?_,Kp.new (k3.trans k4) hB,upd_same⟩
    ·rw [qAD];exact zDl (by lia)
    ·rw [zCa en c,qAS];rfl
   ·refine ⟨⟨_,rfl⟩,?_,k3.trans k4,?_⟩
    ·rw [zC7 en c]
    ·exact h4
  ·rintro ys τ H3 ⟨_,rfl,k3,h3⟩;have eT:L.take (L.map V.str).length=L:=by rw [qAD,qAi]
   rw [eT] at h3;exact k B H3 (k1.fre hB (by simp)) h3 (k1.trans k3)
end
structure DS (H0 H:Hp) (d:Addr) (ns:List Str) (la:Str->Addr) (L:Str->List Str):Prop where
 top:H d=some (.dK (dT1 ns fun n=>.ref (la n)))
 row:∀n∈ns,SetD H (la n) (L n)
 ne:∀n∈ns,la n≠d
 fr:Fre H0 d
 frs:∀n∈ns,Fre H0 (la n)
theorem ne_nil_is {K:PySem.W.Frag} {c e:Addr} {xs:List V} {Q:VK} (h1:SqL K H c xs) (h2:SqL K H e []) (h:Q (.bl (decide (xs≠[]))) H):rAlike K 8 false (.ref c) (.ref e) H Q\/rUnlen K true (.ref c) (.ref e) H Q:=by
 by_cases z:xs=[]
 ·subst z;exact .inl ⟨c,e,_,_,rfl,rfl,h1,h2,rfl,(fun i x y h=>by simp at h),h⟩
 ·rw [qAU z] at h;exact .inr ⟨c,e,_,_,rfl,rfl,h1,h2,fun y=>z (qCj.mp y),h⟩
def szAt (H:Hp) (a:Addr):Nat:=match H a with
 | some (.lst xs)=>xs.length
 | some (.dK kvs)=>kvs.length
 | _=>0
theorem zIs {a:Addr} {xs:List V} (h:H a=some (.lst xs)):szAt H a=xs.length:=by unfold szAt;rw [h]
theorem szAt_dK {a:Addr} {kvs:List (Key×V)} (h:H a=some (.dK kvs)):szAt H a=kvs.length:=by unfold szAt;rw [h]
theorem zJn (B:List Str) (x:Str) (g:Str->V):dT1 (B++[x]) g=dT1 B g++[(.inr x,g x)]:=by unfold dT1;rw [qAS];rfl
theorem zC8 (B:List Str) (g:Str->V):(dT1 B g).length=B.length:=by unfold dT1;rw [qAD]
structure DR (H:Hp) (d:Addr) (ns:List Str) (la:Str->Addr) (L:Str->List Str):Prop where
 top:H d=some (.dK (dT1 ns fun n=>.ref (la n)))
 row:∀n∈ns,SetD H (la n) (L n)
theorem DS.rd {la:Str->Addr} {L:Str->List Str} (D:DS H0 H d ns la L):DR H d ns la L:=⟨D.top,D.row⟩
theorem DR.kp0 {la:Str->Addr} {L:Str->List Str} (D:DR H d ns la L) (k:Kp [] H H'):DR H' d ns la L:=⟨k d _ D.top (by simp),fun n hn=>k _ _ (D.row n hn) (by simp)⟩
theorem DR.get {la:Str->Addr} {L:Str->List Str} (D:DR H d ns la L) (hy:y∈ns):DGet H d (.str y) (some (.ref (la y))):=by
 have:=DGet.k (k:=Sum.inr y) D.top;rw [zBe,qAC hy] at this;exact this
theorem JNew.back (N:JNew H' J) (k:Kp [] H H'):JNew H J:=⟨k.fre N.r (by simp),k.fre N.p (by simp),k.fre N.e (by simp),fun q hq=>k.fre (N.z q hq) (by simp),fun n hn=>k.fre (N.s n hn) (by simp)⟩
theorem Good.keys {zs:List (List Str×Addr)} (G:Good ns qs r) (hz:∀k,k∈zs.map (·.1)↔k∈qs.map (·.1)) (hl:zs.length<=306):Good ns zs r:=by
 have bk:∀q∈zs,∃q'∈qs,q'.1=q.1:=fun q hq=>qAI.mp ((hz q.1).mp (qAI.mpr ⟨q,hq,rfl⟩));refine ⟨G.nm,G.nd,G.few,hl,fun q hq x hx=>?_,fun q hq=>?_⟩
 ·obtain ⟨q',h1,h2⟩:=bk q hq;exact G.qin q' h1 x (by rw [h2];exact hx)
 ·obtain ⟨q',h1,h2⟩:=bk q hq;obtain ⟨e1,e2⟩:=fst_of h2;rw [<-e1,<-e2];exact G.rk q' h1
def topR (r:Str->Nat) (ns:List Str):Nat:=(ns.map r).sum
theorem le_topR (r:Str->Nat):∀{ns:List Str} {x:Str},x∈ns->r x<=topR r ns
 | y::ns,x,h=>by
  unfold topR;rw [qAd,qBY];rcases qAO.mp h with z| z
  ·rw [z];lia
  ·have:=le_topR r z;unfold topR at this;lia
theorem zBq {q:List Str×Addr} (e:q.1=[a,b]):fst q=a/\snd q=b:=by unfold fst snd;rw [e];exact ⟨rfl,rfl⟩
theorem Good.rev {ks:List (List Str×Addr)} (G:Good ns qs r) (two:∀q∈qs,∃a b,q.1=[a,b]) (e:ks.map (·.1)=qs.map fun q=>q.1.reverse):Good ns ks fun x=>topR r ns - r x:=by
 have bk:∀k∈ks,∃q∈qs,q.1.reverse=k.1:=fun k hk=>by
  have:k.1∈ks.map (·.1):=qAI.mpr ⟨k,hk,rfl⟩;rw [e] at this;exact qAI.mp this
 refine ⟨G.nm,G.nd,G.few,?_,fun k hk x hx=>?_,fun k hk=>?_⟩
 ·have:=qAg List.length e;rw [qAD,qAD] at this;rw [this];exact G.qfew
 ·obtain ⟨q,h1,h2⟩:=bk k hk;rw [<-h2] at hx;exact G.qin q h1 x (qCs.mp hx)
 ·obtain ⟨q,h1,h2⟩:=bk k hk;obtain ⟨a,b,eab⟩:=two q h1;have e1:=zBq eab;have e2:k.1=[b,a]:=by rw [<-h2,eab];rfl
  have e3:=zBq e2;have hb:b∈ns:=G.qin q h1 b (by rw [eab];simp);have:=G.rk q h1;rw [e1.1,e1.2] at this;rw [e3.1,e3.2];have:=le_topR r hb;lia
section
def zIt (C:Addr):Sp:=fun vs H Q _=>∃(j:Addr) (J:JR) (r:Str->Nat),vs=[.ref j]/\JobsAt C H j J/\Good J.ns J.zs r/\∀x J' H',Fre H x->JobsAt C H' x J'->JNew H J'->J'.ns=J.ns->(∀k,k∈J'.zs.map (·.1)↔k∈J.zs.map fun q=>q.1.reverse)->Kp [] H H'->Q (.ref x) H'
abbrev zCg:Stmt:=zEv (top 43) 8
theorem zHu:FnScope ["self"] ["self"] (zAd zCg):=fnS
theorem zH0 {f:Addr} (F:Fun K "turned" "Jobs.turned" zCg f fd) (T:Txt K mg) (U:JC K mg C) (M_Jobs:Mkr P w K mg base C "Jobs" 4 ["self", "names", "orders"] (spInit C)):FnOk P w K mg base CX0 6 f fd ["self"] (zIt C):=by
 refine F.ok zHu (fun vs H Q E h=>?_) (fun cdv A outer s H vs Q E hr h=>?_)
 ·obtain ⟨j,J,r,rfl,_⟩:=h;rfl
 ·obtain ⟨j,J,r,rfl,A0,G,k⟩:=h;refine ⟨_,(zAe (zAo (zI5 M_Jobs hr rfl (zAa (zDy (pv 0) rfl) (zAa (zA5 rfl (zBc (sc:=zAd zCg) rfl (by decide +kernel)) (Draws.own (x:= "one") (Draws.own (x:= "other") Draws.nil)) (zAl (zDy (pv 0) rfl)) (fun _ _ _ _=>(zG4 (K:=K) (n:=2) rfl (zAw (pgB (i:=0)) (zAw (pgB (i:=1)) zDi)))) (fun _ _ _ _=>zCe) (fun _ _ _ _=>(zC2 (zAa (pv 1) (zAa (pv 0) zAb))))) zAb))))),?_⟩
  refine ⟨_,rfl,_,_,_,_,_,rfl,A0.ob,U.cl,U.n_row,zIj _ _ _,_,rfl,_,_,_,_,_,rfl,A0.ob,U.cl,U.n_pairs,jf_pairs _ _ _,_,rfl,⟨_,SqL.of A0.prs.top⟩,fun B hB=>zBd (J.zs.map fun q=>V.ref q.2) (fun i ys τ H3=>∃ks:List (List Str×Addr),(∃o0 o1,τ=[o0,o1])/\ys=(ks.map fun q=>V.ref q.2)/\ks.map (·.1)=(J.zs.take i).map (fun q=>q.1.reverse)/\(∀q∈ks,H3 q.2=some (.tup (q.1.map V.str)))/\Kp [] H H3/\H3 B=some (.lst ys))
   ⟨[],⟨_,_,rfl⟩,rfl,rfl,(fun q h=>nomatch h),Kp.new Kp.refl hB,upd_same⟩ (fun i ys τ H3 ⟨_,_,_,_,_,k3,_⟩=>SqL.of (k3 _ _ A0.prs.top (by simp))) ?_ ?_⟩
  ·rintro i v ys τ H3 hv ⟨ks,⟨o0,o1,rfl⟩,rfl,ek,hk,k3,h3⟩;obtain ⟨q,eq,rfl⟩:=zIc hv;have mq:=qAN eq;obtain ⟨a,b,eab⟩:=A0.prs.two q mq
   have hrow:H3 q.2=some (.tup [.str a,.str b]):=by
    have:=k3 q.2 _ (A0.prs.row q mq) (by simp);rw [eab] at this;exact this
   refine ⟨_,_,rfl,.inl (.inl hrow),rfl,_,_,rfl,_,_,rfl,rfl,?_⟩;have hlen:ks.length=(J.zs.take i).length:=by have:=qAg List.length ek;simpa using this
   refine ⟨_,rfl,_,rfl,(by walk_at "ln"),fun t ht=>?_⟩;have ft:Fre H3 t:=ht;have nBt:B≠t:=ne_fre ft h3;refine ⟨(upd_ne nBt).trans h3,?_,ks++[([b,a],t)],⟨_,_,rfl⟩,?_,?_,fun q' hq'=>?_,?_,?_⟩
   ·rw [qAD,hlen,qAY,qAK];have:=A0.zfew;lia
   ·rw [qAS];rfl
   ·rw [qAS,ek,zAj eq,qAS,qAd,qAd,eab];rfl
   ·rcases qAW.mp hq' with z| z
    ·exact (upd_ne (zBl (hk q' z) h3 (fun y=>nomatch y))).trans ((upd_ne (ne_fre ft (hk q' z))).trans (hk q' z))
    ·rw [qAZ.mp z];exact (upd_ne nBt.symm).trans upd_same
   ·exact Kp.new (Kp.new k3 (k3.fre ft (by simp))) hB
   ·exact upd_same
  ·rintro ys τ H3 ⟨ks,_,rfl,ek,hk,k3,h3⟩;have eT:J.zs.take (J.zs.map fun q=>V.ref q.2).length=J.zs:=by rw [qAD,qAi]
   rw [eT] at ek
   have ktwo:∀q∈ks,∃a b,q.1=[a,b]:=fun q hq=>by
    have:q.1∈ks.map (·.1):=qAI.mpr ⟨q,hq,rfl⟩;rw [ek] at this;obtain ⟨q',hq',e⟩:=qAI.mp this;obtain ⟨a,b,eab⟩:=A0.prs.two q' hq';exact ⟨b,a,by rw [<-e,eab];rfl⟩
   refine fun x dx hx hdx nxd=>?_;have fx:Fre H3 x:=hx;have k4:Kp [] H3 (upd (upd H3 dx (.own x)) x (.ins C dx [])):=Kp.new (Kp.new Kp.refl hdx) fx;have hx4:(upd (upd H3 dx (.own x)) x (.ins C dx [])) x=some (.ins C dx []):=upd_same;generalize upd (upd H3 dx (.own x)) x (.ins C dx [])=H4 at k4 hx4 ⊢;have k04:=k3.trans k4;refine ⟨x,dx,J.r,B,J.ns,ks,_,rfl,hx4,k04 _ _ A0.row (by simp),⟨k4 B _ h3 (by simp),fun q hq=>k4 _ _ (hk q hq) (by simp),ktwo⟩,G.rev A0.prs.two ek,fun J' H5 A5 N5 ens ezs K5=>⟨rfl,?_⟩⟩;refine k x J' H5 (k3.fre fx (by simp)) A5 (N5.back k04) ens (fun q=>?_) (k3.trans (Kp.drop k4 fx K5));rw [ezs q,ek]
end
def zBf (qs:List (List Str×Addr)) (n:Str):List Str:=(qs.filter fun q=>decide (fst q=n)).map snd
theorem zFb :y∈zBf qs n↔TA qs n y:=by
 unfold zBf TA;simp only [qAI,qAQ,qBN];exact ⟨fun ⟨q,⟨a,b⟩,c⟩=>⟨q,a,b,c⟩,fun ⟨q,a,b,c⟩=>⟨q,⟨a,b⟩,c⟩⟩
theorem zFa (qs:List (List Str×Addr)) (n:Str):(zBf qs n).length<=qs.length:=by
 unfold zBf;rw [qAD];exact qAx _ _
structure NR (H:Hp) (d:Addr) (ns:List Str) (na:Str->Addr) (f:Str->List Str):Prop where
 top:H d=some (.dK (dT1 ns fun n=>.ref (na n)))
 row:∀n∈ns,Txs H (na n) (f n)
theorem NR.kp {M:List Addr} {na:Str->Addr} {f:Str->List Str} (D:NR H d ns na f) (k:Kp M H H') (h1:d∉M) (h2:∀n∈ns,na n∉M):NR H' d ns na f:=⟨k d _ D.top h1,fun n hn=>k _ _ (D.row n hn) (h2 n hn)⟩
theorem NR.get {na:Str->Addr} {f:Str->List Str} (D:NR H d ns na f) (hy:y∈ns):DGet H d (.str y) (some (.ref (na y))):=by
 have:=DGet.k (k:=Sum.inr y) D.top;rw [zBe,qAC hy] at this;exact this
structure BK (qs:List (List Str×Addr)) (ns:List Str) (n:Str) (B W:List Str):Prop where
 nd:B.Nodup
 sub:∀x∈B,x∈ns
 way:∀x∈B,Way qs n x
 wl:∀x∈W,Way qs n x
 c0:∀y,TA qs n y->y∈B\/y∈W
 cl:∀x∈B,∀y,TA qs x y->y∈B\/y∈W
 cap:W.length+307*(20 - B.length)<=6447
theorem BK.start (h:qs.length<=306):BK qs ns n [] (zBf qs n) :=
 ⟨qA1,(fun x h=>nomatch h),(fun x h=>nomatch h),fun x h=>.one (zFb.mp h),fun y h=>.inr (zFb.mpr h),(fun x h=>nomatch h),by
  have:=zFa qs n;simp only [qBS];lia⟩
theorem BK.old {x0:Str} {B W:List Str} (b:BK qs ns n B (W++[x0])) (h:x0∈B):BK qs ns n B W:=by
 have mv:∀y,(y∈B\/y∈W++[x0])->y∈B\/y∈W:=fun y hy=>by
  rcases hy with z| z
  ·exact .inl z
  ·rcases qAW.mp z with z| z
   ·exact .inr z
   ·rw [qAZ.mp z];exact .inl h
 refine ⟨b.nd,b.sub,b.way,fun x hx=>b.wl x (qAv _ hx),fun y hy=>mv y (b.c0 y hy),fun x hx y hy=>mv y (b.cl x hx y hy),?_⟩;have:=b.cap;rw [qAo,qBm] at this;lia
theorem BK.new {x0:Str} {B W:List Str} (b:BK qs ns n B (W++[x0])) (h:x0∉B) (hx:x0∈ns) (hn:ns.length<=20) (hq:qs.length<=306):BK qs ns n (B++[x0]) (W++zBf qs x0)/\(W++zBf qs x0).length+307*(20 - (B++[x0]).length)<W.length+1+307*(20 - B.length):=by
 have nd:(B++[x0]).Nodup:=qB4.mpr ⟨b.nd,by simp,fun a ha d hd=>by
  rw [qAZ.mp hd];exact fun z=>h (z▸ha)⟩
 have sub:∀x∈B++[x0],x∈ns:=fun x h=>by
  rcases qAW.mp h with z| z
  ·exact b.sub x z
  ·rw [qAZ.mp z];exact hx
 have w0:Way qs n x0:=b.wl x0 (by simp)
 have mv:∀y,(y∈B\/y∈W++[x0])->y∈B++[x0]\/y∈W++zBf qs x0:=fun y hy=>by
  rcases hy with z| z
  ·exact .inl (qAv _ z)
  ·rcases qAW.mp z with z| z
   ·exact .inr (qAv _ z)
   ·exact .inl (qAz _ z)
 have less:(W++zBf qs x0).length+307*(20 - (B++[x0]).length)<W.length+1+307*(20 - B.length):=by
  have h1:=zBt nd sub;have h2:=zFa qs x0;simp only [qAo,qBm] at *
  lia
 refine ⟨⟨nd,sub,fun x hx=>?_,fun x hx=>?_,fun y hy=>mv y (b.c0 y hy),fun x hx y hy=>?_,?_⟩,less⟩
 ·rcases qAW.mp hx with z| z
  ·exact b.way x z
  ·rw [qAZ.mp z];exact w0
 ·rcases qAW.mp hx with z| z
  ·exact b.wl x (qAv _ z)
  ·exact .more w0 (zFb.mp z)
 ·rcases qAW.mp hx with z| z
  ·exact mv y (b.cl x z y hy)
  ·rw [qAZ.mp z] at hy;exact .inr (qAz _ (zFb.mpr hy))
 ·have:=b.cap;rw [qAo,qBm] at this;lia
theorem BK.all {B:List Str} (b:BK qs ns n B []) (x:Str):x∈B↔Way qs n x:=by
 refine ⟨b.way x,fun h=>?_⟩
 induction h with
 | one h=>exact (b.c0 _ h).elim id (fun z=>nomatch z)
 | more _ h ih=>exact (b.cl _ ih _ h).elim id (fun z=>nomatch z)
theorem dT1_more {b:Addr} {la:Str->Addr} (h:n∉ns):dT1 ns (fun n=>V.ref (la n))++[(Sum.inr n,V.ref b)]=dT1 (ns++[n]) (fun x=>V.ref (if x=n then b else la x)):=by
 rw [zJn,qAC rfl];congr 1;exact zFg fun x hx=>by rw [qAB (show¬x=n from fun z=>h (z▸hx))]
section
def spLBehind:Sp:=fun vs H Q _=>∃(l m:Addr) (ns:List Str) (qs:List (List Str×Addr)),vs=[.ref l,.ref m]/\Txs H l ns/\Ords H m qs/\ns.Nodup/\ns.length<=20/\qs.length<=306/\(∀q∈qs,∀x∈q.1,x∈ns) /\
 ∀d la L H',DS H H' d ns la L->(∀n∈ns,(L n).Nodup/\∀x,x∈L n↔Way qs n x)->Kp [] H H'->Q (.ref d) H'
abbrev zGp:Stmt:=top 54
theorem zCm:FnScope ["_law_names_here", "_law_orders", "_law_near", "_law_name", "_law_found", "_law_waiting", "_law_here"] ["_law_names_here", "_law_orders"] (zAd zGp):=fnS
theorem ok_behind {f:Addr} (F:Fun K "_law_behind" "_law_behind" zGp f fd) (T:Txt K mg):FnOk P w K mg base CX0 1 f fd ["_law_names_here", "_law_orders"] spLBehind:=by
 refine F.ok zCm (fun vs H Q E h=>?_) (fun cdv A outer s H vs Q E hr h=>?_)
 ·obtain ⟨l,m,ns,qs,rfl,_⟩:=h;rfl
 ·obtain ⟨l,m,ns,qs,rfl,hl,hm,hN,hn,hz,hq,k⟩:=h;have hu:=zDk hr
  refine ⟨_,(zAc (psS (i:=2) zCm.nd zBy)
   (zAc (zBb qAk rfl (zAl (pv 0)) (pgN (i:=3) zCm.nd)
    (zAe (zCp hu (pv 2) (pv 3) (zA5 rfl (zBc (sc:=zAd zGp) rfl (by decide +kernel)) (Draws.own (x:= "_law_one") (Draws.own (x:= "_law_other") (dtk (i:=3) rfl Draws.nil))) (zAl (pv 1)) (fun _ _ _ _=>(zG4 (K:=K) (n:=2) rfl (zAw (pgB (i:=0)) (zAw (pgB (i:=1)) zDi)))) (fun _ _ _ _=>(zB6 (zAs zI8 (pv 0) (pv 2) (zAu _)))) (fun _ _ _ _=>(pv 1))) rfl)))
   (zAc (psS (i:=4) zCm.nd zBy)
   (zAc (zBb qAk rfl (zAl (pv 0)) (pgN (i:=3) zCm.nd)
    (zAc (zCp hu (pv 4) (pv 3) zBy rfl)
    (zAc (psS (i:=5) zCm.nd (zAm zAz (by rfl) T.z_list zB2 (zAa (zA0 hu (pv 2) (pv 3) (fun _ _=>rfl)) zAb)))
    (zAe (zI4 qAk (zAs (zI7 hr) (pv 5) (zCf zAb) (zAu _))
     (zAc (psS (i:=6) zCm.nd (pe_bm0 qBX PySem.F.slot_list_pop PySem.F.type_list_pop mt_pop (pv 5)))
     (zAe (zBx (zF4 (zG5 hu (pv 6) (zA0 hu (pv 4) (pv 3) (fun _ _=>rfl))))
      (zAc (zCp hu (zA0 hu (pv 4) (pv 3) (fun _ _=>rfl)) (pv 6) pe_bl rfl)
      (zAe (zA8 (zHx qBX qDi qDj zHe (pv 5) (zAa (zA0 hu (pv 2) (pv 6) (fun _ _=>rfl)) zAb)))))
      zAq))))))))
   (zAe (zAo (pv 4))))))),?_⟩
  refine fun d0 hd0=>?_;have fd0:Fre H d0:=hd0
  refine ⟨_,rfl,_,rfl,⟨_,SqL.of ((Kp.new (M:=[]) Kp.refl fd0) l _ hl (by simp))⟩,zA9 (fun i σ H2=>(∃o3 o4 o5 o6:Option V,σ=[some (.ref l),some (.ref m),some (.ref d0),o3,o4,o5,o6])/\Kp [] H H2/\∃na,NR H2 d0 (ns.take i) na (zBf qs))
   ⟨⟨_,_,_,_,rfl⟩,Kp.new Kp.refl fd0,fun _=>0,upd_same,(fun n h=>nomatch h)⟩ (fun i σ H2 _ ⟨_,k2,_⟩=>SqL.of (k2 l _ hl (by simp))) ?_ ?_⟩
  ·rintro i v σ H2 hv ⟨⟨o3,o4,o5,o6,rfl⟩,k2,na,N⟩;obtain ⟨n,en,rfl⟩:=zA3 hv;have ni:=zC3 hN en;have hm2:=hm.kp k2 (by simp) (by simp)
   refine ⟨_,rfl,_,rfl,⟨_,SqL.of hm2.top⟩,fun B hB=>zBi (qs.map fun q=>V.ref q.2) (fun i ys τ H3=>(∃o0 o1,τ=[o0,o1,some (.str n)])/\ys=(zBf (qs.take i) n).map V.str/\H3=upd H2 B (.lst ys))
    ⟨⟨_,_,rfl⟩,rfl,rfl⟩ (fun i ys τ H3 ⟨_,_,z⟩=>by subst z;exact SqL.of ((Kp.new (M:=[]) Kp.refl hB) _ _ hm2.top (by simp))) ?_ ?_⟩
   ·rintro i v ys τ H3 hv ⟨⟨o0,o1,rfl⟩,rfl,rfl⟩;obtain ⟨q,eq,rfl⟩:=zIc hv;have mq:=qAN eq;obtain ⟨x,y,exy⟩:=hm.two q mq
    have hrow:(upd H2 B (.lst ((zBf (qs.take i) n).map V.str))) q.2=some (.tup [.str x,.str y]):=by
     have:=(Kp.new (l:=B) (o:=.lst ((zBf (qs.take i) n).map V.str)) (M:=[]) Kp.refl hB) q.2 _ (hm2.row q mq) (by simp);rw [exy] at this;exact this
    have e1:fst q=x:=(by unfold fst;rw [exy];rfl);have e2:snd q=y:=(by unfold snd;rw [exy];rfl);refine ⟨_,_,rfl,.inl (.inl hrow),rfl,_,_,rfl,_,_,rfl,rfl,?_⟩;refine ⟨_,rfl,_,rfl,rfl,_,rfl,ite2 (fun c=>?_) (fun c=>?_)⟩
    ·have c':x=n:=by simpa using c
     refine ⟨_,rfl,upd_same,?_,⟨_,_,rfl⟩,?_,zBo⟩
     ·have:=zFa (qs.take i) n;rw [qAY] at this;rw [qAD,qAK];lia
     ·have:zBf (qs.take (i+1)) n=zBf (qs.take i) n++[y]:=by
       unfold zBf;rw [zCa eq (qAU (e1.trans c')),qAS,qAd,e2];rfl
      rw [this,qAS];rfl
    ·have c':¬x=n:=fun z=>c (by simpa using z);refine ⟨⟨_,_,rfl⟩,?_,?_⟩
     ·have:zBf (qs.take (i+1)) n=zBf (qs.take i) n:=by
       unfold zBf;rw [zC7 eq (by rw [e1];simpa using c')]
      rw [this]
     ·rfl
   ·rintro ys τ H3 ⟨_,rfl,rfl⟩;have eT:qs.take (qs.map fun q=>V.ref q.2).length=qs:=by rw [qAD,qAi]
    rw [eT];have fB:Fre H2 B:=hB;have nB:d0≠B:=ne_fre fB N.top;have k3:Kp [] H2 (upd H2 B (.lst ((zBf qs n).map V.str))):=Kp.new Kp.refl fB;have hd3:=k3 d0 _ N.top (by simp);refine ⟨_,rfl,_,rfl,_,_,rfl,DPut.k (k:=Sum.inr n) hd3 ?_,?_⟩
    ·rw [zC8,qAY,qAK];lia
    rw [zDh _ ni,dT1_more ni,<-zAj en];refine ⟨⟨_,_,_,_,rfl⟩,Kp.new (k2.trans k3) fd0,fun x=>if x=n then B else na x,upd_same,fun x hx=>?_⟩;show Txs _ (if x=n then B else na x) (zBf qs x)
    by_cases z:x=n
    ·rw [qAC z,z];exact (upd_ne nB.symm).trans upd_same
    ·rw [qAB z];rw [zAj en] at hx;rcases qAW.mp hx with y| y
     ·have h1:=k3 _ _ (N.row x y) (by simp);exact (upd_ne (zBl h1 hd3 (fun z=>nomatch z))).trans h1
     ·exact absurd (qAZ.mp y) z
  ·rintro σ H1 ⟨⟨o3,o4,o5,o6,rfl⟩,k1,na,N⟩;have eT:ns.take (ns.map V.str).length=ns:=by rw [qAD,qAi]
   rw [eT] at N;refine fun d hd=>?_;have fd1:Fre H1 d:=hd;have fd:Fre H d:=k1.fre fd1 (by simp);have nd0:d0≠d:=ne_fre fd1 N.top;have N1:NR (upd H1 d (.dK [])) d0 ns na (zBf qs):=N.kp (M:=[]) (Kp.new Kp.refl fd1) (by simp) (by simp)
   refine ⟨_,rfl,_,rfl,⟨_,SqL.of ((Kp.new (M:=[]) k1 fd) l _ hl (by simp))⟩,zA9 (fun i σ H2=>(∃o3 o5 o6:Option V,σ=[some (.ref l),some (.ref m),some (.ref d0),o3,some (.ref d),o5,o6])/\Kp [] H H2/\Kp [d] H1 H2/\∃la L,DS H H2 d (ns.take i) la L/\∀n∈ns.take i,(L n).Nodup/\∀x,x∈L n↔Way qs n x)
    ⟨⟨_,_,_,rfl⟩,Kp.new k1 fd,Kp.put Kp.refl (by simp),fun _=>0,fun _=>[],⟨upd_same,(fun n h=>nomatch h),(fun n h=>nomatch h),fd,(fun n h=>nomatch h)⟩,(fun n h=>nomatch h)⟩ (fun i σ H2 _ ⟨_,k2,_⟩=>SqL.of (k2 l _ hl (by simp))) ?_ ?_⟩
   ·rintro i0 v σ H2 hv ⟨⟨o3,o5,o6,rfl⟩,k2,q2,la,L,D,hL⟩;obtain ⟨n,en,rfl⟩:=zA3 hv;have mn:=qAN en;have ni:=zC3 hN en;have nnd:∀x∈ns,na x≠d:=fun x hx=>ne_fre fd1 (N.row x hx);have N2:NR H2 d0 ns na (zBf qs):=N.kp q2 (nm1 nd0) (fun x hx=>nm1 (nnd x hx));refine fun b hb=>?_;have fb:Fre H2 b:=hb;have ndb:d≠b:=ne_fre fb D.top;have fbH:Fre H b:=k2.fre fb (by simp);refine ⟨_,rfl,_,rfl,_,_,rfl,DPut.k (k:=Sum.inr n) ((upd_ne ndb).trans D.top) ?_,?_⟩
    ·rw [zC8,qAY,qAK];lia
    rw [zDh _ ni,dT1_more ni,<-zAj en];have k3:Kp [] H (upd (upd H2 b (.dK [])) d (.dK (dT1 (ns.take (i0+1)) (fun x=>.ref (if x=n then b else la x))))):=Kp.new (Kp.new k2 fbH) fd;have q3:Kp [d] H2 (upd (upd H2 b (.dK [])) d (.dK (dT1 (ns.take (i0+1)) (fun x=>.ref (if x=n then b else la x))))):=Kp.put (Kp.new Kp.refl fb) (by simp);have hd3:(upd (upd H2 b (.dK [])) d (.dK (dT1 (ns.take (i0+1)) (fun x=>.ref (if x=n then b else la x))))) d=some (.dK (dT1 (ns.take (i0+1)) (fun x=>.ref (if x=n then b else la x)))):=upd_same;have hb3:(upd (upd H2 b (.dK [])) d (.dK (dT1 (ns.take (i0+1)) (fun x=>.ref (if x=n then b else la x))))) b=some (.dK []):=(upd_ne ndb.symm).trans upd_same;generalize upd (upd H2 b (.dK [])) d (.dK (dT1 (ns.take (i0+1)) (fun x=>.ref (if x=n then b else la x))))=H3 at k3 q3 hd3 hb3 ⊢;have N3:NR H3 d0 ns na (zBf qs):=N2.kp q3 (nm1 nd0) (fun x hx=>nm1 (nnd x hx));have hs3:∀x∈ns.take i0,SetD H3 (la x) (L x):=fun x hx=>q3 _ _ (D.row x hx) (nm1 (D.ne x hx));have nlb:∀x∈ns.take i0,la x≠b:=fun x hx=>ne_fre fb (D.row x hx);refine ⟨_,rfl,_,rfl,_,_,rfl,N3.get mn,_,_,rfl,.inl (SqL.of (N3.row n mn)),fun wa hwa=>?_⟩;have fw:Fre H3 wa:=hwa;have k4:Kp [] H3 (upd H3 wa (.lst ((zBf qs n).map V.str))):=Kp.new Kp.refl fw;have hw4:Txs (upd H3 wa (.lst ((zBf qs n).map V.str))) wa (zBf qs n):=upd_same;have nwb:b≠wa:=ne_fre fw hb3;have nwd:d≠wa:=ne_fre fw hd3;have fwH:Fre H wa:=k3.fre fw (by simp);generalize upd H3 wa (.lst ((zBf qs n).map V.str))=H4 at k4 hw4 ⊢;have hb4:SetD H4 b []:=k4 b _ hb3 (by simp);have hd4:=k4 d _ hd3 (by simp);have N4:NR H4 d0 ns na (zBf qs):=N3.kp k4 (by simp) (by simp);have k04:=k3.trans k4;have nab:∀x∈ns,na x∉[b,wa]:=fun x hx=>nm2 (zBl (N3.row x hx) hb3 (fun z=>nomatch z)) (ne_fre fw (N3.row x hx));have n0b:d0∉[b,wa]:=nm2 (ne_fre fb N2.top) (ne_fre fw N3.top)
    have gd:∀{Hx:Hp},Hx d=some (.dK (dT1 (ns.take (i0+1)) (fun x=>.ref (if x=n then b else la x))))->DGet Hx d (.str n) (some (.ref b)):=fun h=>by
     have h1:=DGet.k (k:=Sum.inr n) h;rw [zBe,qAC (by rw [zAj en];simp),qAC rfl] at h1;exact h1
    refine zIp (fun σ H5=>(∃o6:Option V,σ=[some (.ref l),some (.ref m),some (.ref d0),some (.str n),some (.ref d),some (.ref wa),o6])/\Kp [b,wa] H4 H5/\∃B W,SetD H5 b B/\Txs H5 wa W/\BK qs ns n B W) (fun _ H5=>307*(20 - szAt H5 b)+szAt H5 wa)
     ⟨⟨_,rfl⟩,Kp.refl,[],zBf qs n,hb4,hw4,BK.start hz⟩ ?_ (fun σ H Q Q' hq hc=>?_)
    ·rintro σ H5 ⟨⟨o6',rfl⟩,k5,B,W,hB,hW,I5⟩;refine ⟨_,rfl,(by walk_at "ln"),fun e he=>?_⟩;have fe:Fre H5 e:=he;have k5e:Kp [] H5 (upd H5 e (.lst [])):=Kp.new Kp.refl fe;have hB6:SetD (upd H5 e (.lst [])) b B:=k5e b _ hB (by simp);have hW6:Txs (upd H5 e (.lst [])) wa W:=k5e wa _ hW (by simp);have hE6:(upd H5 e (.lst [])) e=some (.lst []):=upd_same;have k46:Kp [b,wa] H4 (upd H5 e (.lst [])):=fun c o h z=>k5e c o (k5 c o h z) (by simp);generalize upd H5 e (.lst [])=H6 at k5e hB6 hW6 hE6 k46 ⊢;refine ne_nil_is (SqL.of hW6) (SqL.of hE6) ?_;refine ⟨_,rfl,ite2 (fun c=>?_) (fun c=>?_)⟩
     ·obtain ⟨W0,x0,rfl⟩:∃W0 x0,W=W0++[x0]:=by
       have:W≠[]:=fun z=>by rw [z] at c;exact absurd c (by decide)
       exact ⟨W.dropLast,W.getLast this,(List.dropLast_concat_getLast this).symm⟩
      have eW:(W0++[x0]).map V.str=W0.map V.str++[.str x0]:=by rw [qAS];rfl
      have hW6:H6 wa=some (.lst (W0.map V.str++[.str x0])):=by rw [<-eW];exact hW6
      have cap0:=I5.cap;rw [qAo,qBm] at cap0;have hx0:x0∈ns:=((I5.wl x0 (by simp)).to hm.two hq).2;refine ⟨_,rfl,.inl ⟨rfl,_,SqL.of hW6⟩,_,_,.str x0,rfl,rfl,hW6,(by simp),?_⟩;rw [List.dropLast_concat];have k7:Kp [b,wa] H4 (upd H6 wa (.lst (W0.map V.str))):=Kp.put k46 (by simp);have hW7:Txs (upd H6 wa (.lst (W0.map V.str))) wa W0:=upd_same;have hB7:SetD (upd H6 wa (.lst (W0.map V.str))) b B:=(upd_ne nwb).trans hB6;generalize upd H6 wa (.lst (W0.map V.str))=H7 at k7 hW7 hB7 ⊢;have s3:szAt H5 b=B.length:=by rw [szAt_dK hB,zC8]
      have s4:szAt H5 wa=W0.length+1:=by rw [zIs hW,qAD,qAo];rfl
      obtain ⟨o,g1,g2⟩:=zGx hB7 x0;have hd7:=k7 d _ hd4 (nm2 ndb nwd);refine ⟨_,rfl,_,rfl,_,rfl,_,_,rfl,gd hd7,_,o,rfl,g1,_,rfl,?_⟩;rw [g2];refine ite2 (fun c2=>?_) (fun c2=>?_)
      ·have c2':x0∉B:=by simpa using c2
       obtain ⟨I7,less⟩:=I5.new c2' hx0 hn hz;refine ⟨_,rfl,_,rfl,_,_,rfl,gd hd7,_,rfl,_,_,rfl,DPut.k (k:=Sum.inr x0) hB7 ?_,?_⟩
       ·have:=zBt I5.nd I5.sub;rw [zC8,qAK];lia
       rw [zDh _ c2',<-zJn B x0 fun _=>.bl true];have hW8:Txs (upd H7 b (.dK (dT1 (B++[x0]) fun _=>.bl true))) wa W0:=(upd_ne nwb.symm).trans hW7;have k8:Kp [b,wa] H4 (upd H7 b (.dK (dT1 (B++[x0]) fun _=>.bl true))):=Kp.put k7 (by simp);have hB8:SetD (upd H7 b (.dK (dT1 (B++[x0]) fun _=>.bl true))) b (B++[x0]):=upd_same;generalize upd H7 b (.dK (dT1 (B++[x0]) fun _=>.bl true))=H8 at k8 hW8 hB8 ⊢;have N8:NR H8 d0 ns na (zBf qs):=N4.kp k8 n0b nab;refine ⟨_,rfl,.inl ⟨rfl,_,SqL.of hW8⟩,_,rfl,_,rfl,_,_,rfl,N8.get hx0,_,_,_,_,rfl,rfl,hW8,N8.row x0 hx0,?_,?_⟩
       ·have:=zFa qs x0;rw [qAD,qAD,qAK];lia
       have hW9:∀Hx:Hp,Txs (upd Hx wa (.lst (W0.map V.str++(zBf qs x0).map V.str))) wa (W0++zBf qs x0):=fun Hx=>by
        show upd _ wa _ wa=some (.lst ((W0++zBf qs x0).map V.str));rw [upd_same,qAS]
       refine ⟨⟨⟨_,rfl⟩,Kp.put k8 (by simp),B++[x0],W0++zBf qs x0,(upd_ne nwb).trans hB8,hW9 _,I7⟩,?_⟩;have s1:∀o,szAt (upd H8 wa o) b=(B++[x0]).length:=fun o=>by rw [szAt_dK ((upd_ne nwb).trans hB8),zC8]
       have s2:szAt (upd H8 wa (.lst (W0.map V.str++(zBf qs x0).map V.str))) wa=(W0++zBf qs x0).length:=by rw [zIs (hW9 H8),qAD]
       show 307*(20 - szAt _ b)+szAt _ wa<307*(20 - szAt H5 b)+szAt H5 wa;rw [s1,s2,s3,s4];lia
      ·have c2':x0∈B:=by simpa using c2
       refine ⟨⟨⟨_,rfl⟩,k7,B,W0,hB7,hW7,I5.old c2'⟩,?_⟩;have s1:szAt H7 b=B.length:=by rw [szAt_dK hB7,zC8]
       have s2:szAt H7 wa=W0.length:=by rw [zIs hW7,qAD]
       show 307*(20 - szAt H7 b)+szAt H7 wa<307*(20 - szAt H5 b)+szAt H5 wa;rw [s1,s2,s3,s4];lia
     ·have eW:W=[]:=by
       cases W with
       | nil=>rfl
       | cons _ _=>exact absurd (qAU (by simp)) c
      subst eW;have k6:Kp [] H H6:=fun c o h _=>k46 c o (k04 c o h (by simp)) (nm2 (ne_fre fbH h) (ne_fre fwH h))
      have q6:Kp [d] H1 H6:=fun c o h z=>by
       have h2:=q2 c o h z;have h3:=q3 c o h2 z;exact k46 c o (k4 c o h3 (by simp)) (nm2 (ne_fre fb h2) (ne_fre fw h3))
      have hd6:=k46 d _ hd4 (nm2 ndb nwd)
      have cs:∀x,x∈ns.take (i0+1)->(x∈ns.take i0/\x≠n)\/x=n:=fun x h=>by
       rw [zAj en] at h;rcases qAW.mp h with z| z
       ·exact .inl ⟨z,fun y=>ni (y▸z)⟩
       ·exact .inr (qAZ.mp z)
      refine ⟨⟨_,_,_,rfl⟩,k6,q6,fun x=>if x=n then b else la x,fun x=>if x=n then B else L x,⟨hd6,fun x hx=>?_,fun x hx=>?_,D.fr,fun x hx=>?_⟩,fun x hx=>?_⟩
      ·show SetD H6 (if x=n then b else la x) (if x=n then B else L x);rcases cs x hx with ⟨z1,z2⟩| z
       ·rw [qAB z2,qAB z2];have h3:=hs3 x z1;exact k46 _ _ (k4 _ _ h3 (by simp)) (nm2 (nlb x z1) (ne_fre fw h3))
       ·rw [qAC z,qAC z];exact hB6
      ·show (if x=n then b else la x)≠d;rcases cs x hx with ⟨z1,z2⟩| z
       ·rw [qAB z2];exact D.ne x z1
       ·rw [qAC z];exact ndb.symm
      ·show Fre H (if x=n then b else la x);rcases cs x hx with ⟨z1,z2⟩| z
       ·rw [qAB z2];exact D.frs x z1
       ·rw [qAC z];exact fbH
      ·show (if x=n then B else L x).Nodup/\∀y,y∈(if x=n then B else L x)↔_;rcases cs x hx with ⟨z1,z2⟩| z
       ·rw [qAB z2];exact hL x z1
       ·rw [qAC z,z];exact ⟨I5.nd,I5.all⟩
    ·obtain ⟨x,e,h1,h2⟩:=hc;refine ⟨x,e,h1,fun l hl=>?_⟩;rcases h2 l hl with ⟨a,c,xs,ys,q1,q2,q3,q4,q5,q6,b,q7,q8⟩| ⟨a,c,xs,ys,q1,q2,q3,q4,q5,b,q7,q8⟩
     ·exact .inl ⟨a,c,xs,ys,q1,q2,q3,q4,q5,q6,b,q7,hq _ _ q8⟩
     ·exact .inr ⟨a,c,xs,ys,q1,q2,q3,q4,q5,b,q7,hq _ _ q8⟩
   ·rintro σ H2 ⟨⟨o3,o5,o6,rfl⟩,k2,q2,la,L,D,hL⟩;rw [eT] at D hL;exact ⟨_,rfl,k d la L H2 D hL k2⟩
end
def gathB (J:JR):Bool:=J.ns.all fun n=>decide ((strB J n).length<=1)
section
def spGath (C:Addr):Sp:=fun vs H Q _=>∃(j:Addr) (J:JR),vs=[.ref j]/\JobsAt C H j J/\∀H',Kp [] H H'->Q (.bl (gathB J)) H'
abbrev zB9:Stmt:=top 29
theorem zG0:FnScope ["jobs"] ["jobs"] (zAd zB9):=fnS
theorem zHb {f:Addr} (F:Fun K "is_gathering" "is_gathering" zB9 f fd) (T:Txt K mg) (U:JC K mg C) (M_names:Mth P w K mg base C "names" 1 ["self"] (zGv C)) (M_straight:Mth P w K mg base C "straight" 4 ["self", "name"] (zH7 C)):FnOk P w K mg base CX0 5 f fd ["jobs"] (spGath C):=by
 refine F.ok zG0 (fun vs H Q E h=>?_) (fun cdv A outer s H vs Q E hr h=>?_)
 ·obtain ⟨j,J,rfl,_⟩:=h;rfl
 ·obtain ⟨j,J,rfl,A0,k⟩:=h;have hr1:=hr.mono (j:=1) (by decide);refine ⟨_,(zAe (zAo (zAh (zFm _ rfl) (by rfl) T.z_all bo_all (zAa (zA5 rfl (zBc (sc:=zAd zB9) rfl (by decide +kernel)) (Draws.own (x:= "name") (dtk (i:=0) rfl Draws.nil)) (zAl (zDc M_names U.cl hr1 (pv 0))) (fun _ _ _ _=>(pgB (i:=0))) (fun _ _ _ _=>zCe) (fun C₀ s₀ H₀ ex=>(zCr op_le (zAh (zFk (K:=K)) (by rfl) T.z_len zA4 (zAa (zEd M_straight U.cl hr (pv 1) (zAa (pv 0) zAb)) zAb)) zAg (zAu _)))) zAb)))),?_⟩;refine ⟨_,rfl,j,J.dx,_,rfl,A0.ob,zGh _ _ _ (by decide +kernel) (by decide +kernel) (by decide +kernel),j,J,rfl,A0,fun a H1 fa h1 k1=>?_⟩
  refine ⟨_,rfl,⟨_,SqL.of h1⟩,fun B hB=>zBd (J.ns.map V.str) (fun i ys τ H3=>(∃o0,τ=[o0,some (.ref j)])/\ys=((J.ns.take i).map fun n=>V.bl (decide ((strB J n).length<=1)))/\Kp [] H1 H3/\H3 B=some (.lst ys))
   ⟨⟨_,rfl⟩,rfl,Kp.new Kp.refl hB,upd_same⟩ (fun i ys τ H3 ⟨_,_,k3,_⟩=>SqL.of (k3 a _ h1 (by simp))) ?_ ?_⟩
  ·rintro i v ys τ H3 hv ⟨⟨o0,rfl⟩,rfl,k3,h3⟩;obtain ⟨n,en,rfl⟩:=zA3 hv;have mn:=qAN en;have A3:=A0.kp0 (k1.trans k3);refine ⟨_,rfl,j,J.dx,_,rfl,A3.ob,zGh _ _ _ (by decide +kernel) (by decide +kernel) (by decide +kernel),_,rfl,j,J,n,rfl,A3,mn,fun b H4 fb hb k4=>?_⟩;refine ⟨_,_,rfl,.inl (SqL.of hb),_,_,rfl,rfl,?_⟩;have h4:=k4 B _ h3 (by simp);refine ⟨h4,?_,⟨_,rfl⟩,?_,Kp.new (k3.trans k4) hB,upd_same⟩
   ·have:=A0.few;rw [qAD,qAY,qAK];lia
   ·rw [zAj en,qAS,qAD];have:decide (((strB J n).length:Int)<=1)=decide ((strB J n).length<=1):=by rw [decide_eq_decide];lia
    show _++[V.bl (decide (((strB J n).length:Int)<=1))]=_;rw [this];rfl
  ·rintro ys τ H3 ⟨_,rfl,k3,h3⟩;have eT:J.ns.take (J.ns.map V.str).length=J.ns:=by rw [qAD,qAi]
   rw [eT] at h3;refine ⟨B,J.ns.map fun n=>decide ((strB J n).length<=1),rfl,SqL.of ?_,?_⟩
   ·rw [h3,qAt];rfl
   ·have e:((J.ns.map fun n=>decide ((strB J n).length<=1)).all id)=gathB J:=by unfold gathB;rw [qCo];rfl
    rw [e];exact k _ (k1.trans k3)
end
theorem kit_ib {K:PySem.W.Frag}:PySem.W.kitOne K (.type "int") (.type "bool")=some false:=by rfl
section
def spOneOf:Sp:=fun vs H Q _=>∃(x:Str) (l:Addr) (ns:List Str),vs=[.str x,.ref l]/\Txs H l ns/\Q (.bl (decide (x∈ns))) H
theorem ok_one_of {f:Addr} (F:Fun K "is_one_of" "is_one_of" zDd f fd) (T:Txt K mg):FnOk P w K mg base CX0 1 f fd ["thing", "names"] spOneOf:=by
 refine F.ok zF3 (fun vs H Q E h=>?_) (fun cdv A outer s H vs Q E hr h=>?_)
 ·obtain ⟨v,l,ns,rfl,_⟩:=h;rfl
 ·obtain ⟨x,l,ns,rfl,hl,k⟩:=h;refine ⟨_,(zAe (zAo (pe_and (zAh zEh (by rfl) T.z_isinstance zBk (zAa (pv 0) (zAa (zFt (by rfl) T.z_str bo_str (v:=.ty "str") rfl) zAb))) (pe_one (zCr zG8 (pv 0) (pv 1) (by rfl)))))),?_⟩;refine ⟨_,rfl,_,_,_,_,rfl,TyOf.str x,zFf,_,rfl,iteT ?_⟩;refine ⟨_,rfl,_,rfl,_,_,rfl,.inl (SqL.of hl),rfl,zD5 ns,?_⟩;rw [qAB (by decide),zHo];exact k
def spWhole:Sp:=fun vs H Q _=>∃n:Int,vs=[.int n]/\Q (.bl true) H
abbrev zFs:Stmt:=top 17
theorem sc_is_whole:FnScope ["thing"] ["thing"] (zAd zFs):=fnS
theorem ok_is_whole {f:Addr} (F:Fun K "is_whole" "is_whole" zFs f fd) (T:Txt K mg):FnOk P w K mg base CX0 1 f fd ["thing"] spWhole:=by
 refine F.ok sc_is_whole (fun vs H Q E h=>?_) (fun cdv A outer s H vs Q E hr h=>?_)
 ·obtain ⟨n,rfl,_⟩:=h;rfl
 ·obtain ⟨n,rfl,k⟩:=h;refine ⟨_,(zAe (zAo (pe_and (zAh zEh (by rfl) T.z_isinstance zBk (zAa (pv 0) (zAa (zFt (by rfl) T.z_int bo_int (v:=.ty "int") rfl) zAb))) (pe_one (pe_not (zAh zEh (by rfl) T.z_isinstance zBk (zAa (pv 0) (zAa (zFt (by rfl) T.z_bool bo_bool (v:=.ty "bool") rfl) zAb)))))))),?_⟩;exact ⟨_,rfl,_,_,_,_,rfl,TyOf.int n,zFf,_,rfl,iteT ⟨_,rfl,_,_,_,_,rfl,TyOf.int n,kit_ib,_,rfl,k⟩⟩
def spBench:Sp:=fun vs H Q _=>∃b:Int,vs=[.int b]/\1<=b/\Q .non H
abbrev zCn:Stmt:=top 20
theorem zGc:FnScope ["benches"] ["benches"] (zAd zCn):=fnS
theorem zGf {f:Addr} (F:Fun K "check_benches" "check_benches" zCn f fd) (C_is_whole:Cal P w K mg base "is_whole" 1 ["thing"] spWhole):FnOk P w K mg base CX0 2 f fd ["benches"] spBench:=by
 refine F.ok zGc (fun vs H Q E h=>?_) (fun cdv A outer s H vs Q E hr h=>?_)
 ·obtain ⟨n,rfl,_⟩:=h;rfl
 ·obtain ⟨n,rfl,h1,k⟩:=h
  refine ⟨_,(zAe (zBx (PW.pt (pw_or (zDx (zC1 (zAf C_is_whole hr rfl (zAa (pv 0) zAb)))) (zG2 (zAs op_lt (pv 0) zAg (zAu _)))))
    (zAe zAv)
    zAq)),?_⟩
  refine ⟨_,rfl,n,rfl,_,rfl,iteF ⟨_,rfl,_,_,rfl,rfl,_,rfl,?_⟩⟩;rw [qAh (by lia)];exact iteF k
def rdyB (J:JR) (A:List Str) (n:Str):Bool:=(J.ns.filter fun m=>decide (m∈J.S n)).all fun m=>decide (m∈A)
def spReady (C:Addr):Sp:=fun vs H Q _=>∃(j d:Addr) (J:JR) (A:List Str) (n:Str),vs=[.ref j,.ref d,.str n]/\JobsAt C H j J/\SetD H d A/\n∈J.ns/\∀H',Kp [] H H'->Q (.bl (rdyB J A n)) H'
abbrev zEb:Stmt:=top 23
theorem sc_is_ready:FnScope ["jobs", "earlier", "name"] ["jobs", "earlier", "name"] (zAd zEb):=fnS
theorem ok_is_ready {f:Addr} (F:Fun K "is_ready" "is_ready" zEb f fd) (T:Txt K mg) (U:JC K mg C) (M_ahead:Mth P w K mg base C "ahead" 3 ["self", "name"] (spAhead C)):FnOk P w K mg base CX0 4 f fd ["jobs", "earlier", "name"] (spReady C):=by
 refine F.ok sc_is_ready (fun vs H Q E h=>?_) (fun cdv A outer s H vs Q E hr h=>?_)
 ·obtain ⟨j,d,J,A,n,rfl,_⟩:=h;rfl
 ·obtain ⟨j,d,J,D0,n,rfl,A0,hd,hn,k⟩:=h;have hu:=zDk hr;refine ⟨_,(zAe (zAo (zAh (zFm _ rfl) (by rfl) T.z_all bo_all (zAa (zA5 rfl (zBc (sc:=zAd zEb) rfl (by decide +kernel)) (Draws.own (x:= "one") (dtk (i:=1) rfl Draws.nil)) (zAl (zEd M_ahead U.cl hr (pv 0) (zAa (pv 2) zAb))) (fun _ _ _ _=>(pgB (i:=0))) (fun _ _ _ _=>zCe) (fun _ _ _ _=>(pe_cmp (zF5 hu (pv 0) (pv 1))))) zAb)))),?_⟩;refine ⟨_,rfl,j,J.dx,_,rfl,A0.ob,zGh _ _ _ (by decide +kernel) (by decide +kernel) (by decide +kernel),_,rfl,j,J,n,rfl,A0,hn,fun a H1 fa h1 k1=>?_⟩;have hd1:=k1 d _ hd (by simp);have hml:(J.ns.filter fun m=>decide (m∈J.S n)).length<=20:=qAT (qAx _ _) A0.few;have ek:rdyB J D0 n=(J.ns.filter fun m=>decide (m∈J.S n)).all fun m=>decide (m∈D0):=rfl;rw [ek] at k;generalize (J.ns.filter fun m=>decide (m∈J.S n))=ms at h1 hml k;refine ⟨_,rfl,⟨_,SqL.of h1⟩,fun B hB=>zBd (ms.map V.str) (fun i ys τ H'=>(∃o0,τ=[o0,some (.ref d)])/\ys=((ms.take i).map fun m=>V.bl (decide (m∈D0)))/\H'=upd H1 B (.lst ys)) ⟨⟨_,rfl⟩,rfl,rfl⟩ (fun i ys τ H' ⟨_,_,e⟩=>by subst e;exact SqL.of ((upd_ne (ne_fre (show Fre H1 B from hB) h1)).trans h1)) ?_ ?_⟩
  ·rintro i v ys τ H' hv ⟨⟨o0,rfl⟩,rfl,rfl⟩;obtain ⟨m,em,rfl⟩:=zA3 hv;refine ⟨_,rfl,_,rfl,_,_,rfl,DGet.k (k:=Sum.inr m) ((upd_ne (ne_fre (show Fre H1 B from hB) hd1)).trans hd1),upd_same,?_,⟨_,rfl⟩,?_,zBo⟩
   ·rw [qAD,qAY,qAK];lia
   ·rw [zAj em,qAS,zFx];rfl
  ·rintro ys τ H' ⟨_,rfl,rfl⟩;have eM:ms.take (ms.map V.str).length=ms:=by rw [qAD,qAi]
   refine ⟨B,ms.map fun m=>decide (m∈D0),rfl,SqL.of ?_,?_⟩
   ·rw [upd_same,eM,qAt];rfl
   ·rw [qCo];exact k _ (Kp.new k1 (k1.fre hB (by simp)))
theorem zHj:∀(B A:List Str),(B.foldl addA A).length<=A.length+B.length
 | [],A=>by simp
 | b::B,A=>by
  have h1:=zHj B (addA A b)
  have h2:(addA A b).length<=A.length+1:=by
   unfold addA;split
   ·lia
   ·simp
  rw [qBc,qAa];lia
def spPTake:Sp:=fun vs H Q _=>∃(d l:Addr) (A ws:List Str),vs=[.ref d,.ref l]/\SetD H d A/\Txs H l ws/\A.length+ws.length<=4096/\∀H',SetD H' d (ws.foldl addA A)->Kp [d] H H'->Q .non H'
abbrev s_ptake:Stmt:=top 24
theorem sc_ptake:FnScope ["taken", "row", "name"] ["taken", "row"] (zAd s_ptake):=fnS
theorem ok_ptake {f:Addr} (F:Fun K "take" "take" s_ptake f fd):FnOk P w K mg base CX0 1 f fd ["taken", "row"] spPTake:=by
 refine F.ok sc_ptake (fun vs H Q E h=>?_) (fun cdv A outer s H vs Q E hr h=>?_)
 ·obtain ⟨d,l,A,ws,rfl,_⟩:=h;rfl
 ·obtain ⟨d,l,D0,ws,rfl,hd,hl,hz,k⟩:=h;have hu:=zDk hr
  have ndl:l≠d:=fun z=>by
   have h2:H d=some (.lst (ws.map V.str)):=by rw [<-z];exact hl
   rw [show H d=_ from hd] at h2
   cases h2
  refine ⟨_,(zAe (zBb qAk rfl (zAl (pv 1)) (pgN (i:=2) sc_ptake.nd)
    (zAe (zCp hu (pv 0) (pv 2) pe_bl rfl)))),?_⟩
  refine ⟨_,rfl,_,rfl,⟨_,SqL.of hl⟩,zA9 (xs:=ws.map V.str) (fun i σ H2=>(∃o2,σ=[some (.ref d),some (.ref l),o2])/\SetD H2 d ((ws.take i).foldl addA D0)/\Kp [d] H H2) ⟨⟨_,rfl⟩,hd,Kp.refl⟩ (fun i σ H2 _ ⟨_,_,k2⟩=>SqL.of (k2 l _ hl (nm1 ndl))) ?_ ?_⟩
  ·rintro i v σ H2 hv ⟨⟨o2,rfl⟩,h2,k2⟩;obtain ⟨m,em,rfl⟩:=zA3 hv;have hlf:=zHj (ws.take i) D0;rw [qAY] at hlf;refine ⟨_,rfl,_,rfl,_,_,rfl,DPut.k (k:=Sum.inr m) h2 (by rw [qAD,qAK];lia),?_⟩;refine ⟨⟨_,rfl⟩,?_,Kp.put k2 (by simp)⟩;rw [put_set,zAj em,qDI];exact upd_same
  ·rintro σ H2 ⟨_,h2,k2⟩;rw [qAD,qAi] at h2;exact k H2 h2 k2
end
theorem rise_one:∀{xs ys:List Str},RiseS xs->RiseS ys->xs.Perm ys->xs=ys
 | [],ys,_,_,p=>by rw [List.nil_perm.mp p]
 | x::xs,ys,h1,h2,p=>by
  cases ys with
  | nil=>exact absurd p (by simp)
  | cons y ys =>
   obtain ⟨a1,a2⟩:=qCc.mp h1;obtain ⟨b1,b2⟩:=qCc.mp h2
   have ex:x=y:=by
    rcases qAO.mp (p.mem_iff.mp qAR) with z| z
    ·exact z
    rcases qAO.mp (p.mem_iff.mpr (qAR (a:=y) (l:=ys))) with z'| z'
    ·exact z'.symm
    ·rcases ST.sg_tri x y with q| q| q
     ·exact absurd q (b1 x z)
     ·exact q
     ·exact absurd q (a1 y z')
   subst ex;rw [rise_one a2 b2 (List.Perm.cons_inv p)]
section
def zH9:Sp:=fun vs H Q _=>∃(l m:Addr) (ns ws:List Str),vs=[.ref l,.ref m]/\Txs H l ns/\ns.length<=20/\Txs H m ws/\ws.Perm ns/\∀H',Kp [] H H'->Q .non H'
abbrev zDe:Stmt:=top 27
theorem sc_check_row:FnScope ["names", "row"] ["names", "row"] (zAd zDe):=fnS
theorem ok_check_row {f:Addr} (F:Fun K "check_row" "check_row" zDe f fd) (T:Txt K mg) (C_is_one_of:Cal P w K mg base "is_one_of" 1 ["thing", "names"] spOneOf):FnOk P w K mg base CX0 2 f fd ["names", "row"] zH9:=by
 refine F.ok sc_check_row (fun vs H Q E h=>?_) (fun cdv A outer s H vs Q E hr h=>?_)
 ·obtain ⟨l,m,ns,xs,rfl,_⟩:=h;rfl
 ·obtain ⟨l,m,ns,ws,rfl,hl,hn,hm,pm,k⟩:=h;have HR_is_one_of:=hr;have hwl:ws.length<=20:=by rw [pm.length_eq];exact hn
  refine ⟨_,(zAe (zBx (PW.pt (pw_or (zDx (zC1 (zAh (zFm _ rfl) (by rfl) T.z_all bo_all (zAa (zA5 rfl (zBc (sc:=zAd zDe) rfl (by decide +kernel)) (Draws.own (x:= "thing") (dtk (i:=0) rfl Draws.nil)) (zAl (pv 1)) (fun _ _ _ _=>(pgB (i:=0))) (fun _ _ _ _=>zCe) (fun _ _ _ _=>(zAf C_is_one_of HR_is_one_of rfl (zAa (pv 0) (zAa (pv 1) zAb))))) zAb)))) (zG2 (zAs (op_neS (hu0 hr)) (zAh zDt (by rfl) T.z_sorted zCt (zAa (pv 1) zAb)) (zAh zDt (by rfl) T.z_sorted zCt (zAa (pv 0) zAb)) (zAu _)))))
    (zAe zAv)
    zAq)),?_⟩
  refine ⟨_,rfl,_,rfl,⟨_,SqL.of hm⟩,fun B hB=>zBd (ws.map V.str) (fun i ys τ H'=>(∃o0,τ=[o0,some (.ref l)])/\ys=((ws.take i).map fun v=>V.bl (decide (v∈ns)))/\H'=upd H B (.lst ys)) ⟨⟨_,rfl⟩,rfl,rfl⟩ (fun i ys τ H' ⟨_,_,e⟩=>by subst e;exact SqL.of ((upd_ne (ne_fre (show Fre H B from hB) hm)).trans hm)) ?_ ?_⟩
  ·rintro i v ys τ H' hv ⟨⟨o0,rfl⟩,rfl,rfl⟩;obtain ⟨n,en,rfl⟩:=zA3 hv;have kB:Kp [] H (upd H B (.lst ((ws.take i).map fun v=>V.bl (decide (v∈ns))))):=Kp.new Kp.refl hB;refine ⟨_,rfl,_,rfl,n,l,ns,rfl,kB l _ hl (by simp),upd_same,?_,⟨_,rfl⟩,?_,zBo⟩
   ·rw [qAD,qAY,qAK];lia
   ·rw [zAj en,qAS];rfl
  ·rintro ys τ H' ⟨_,rfl,rfl⟩;have eM:ws.take (ws.map V.str).length=ws:=by rw [qAD,qAi]
   refine ⟨B,ws.map fun v=>decide (v∈ns),rfl,SqL.of ?_,?_⟩
   ·rw [upd_same,eM,qAt];rfl
   ·rw [eM]
    have ea:((ws.map fun v=>decide (v∈ns)).all id)=true:=by
     rw [qCo,qA5];exact fun x hx=>qAU (pm.mem_iff.mp hx)
    rw [ea];have kB:Kp [] H (upd H B (.lst (ws.map fun v=>V.bl (decide (v∈ns))))):=Kp.new Kp.refl hB;generalize upd H B (.lst (ws.map fun v=>V.bl (decide (v∈ns))))=H1 at kB;refine ⟨_,rfl,iteF ?_⟩;refine ⟨_,rfl,_,ws,rfl,SqL.of (kB m _ hm (by simp)),by lia,fun b zs hb p1 r1=>?_⟩;have fb:Fre H1 b:=hb;refine ⟨_,rfl,_,ns,rfl,SqL.of ((upd_ne (ne_fre fb (kB l _ hl (by simp)))).trans (kB l _ hl (by simp))),by lia,fun c yz hc p2 r2=>?_⟩;have fc:=(show Fre _ c from hc);refine ⟨_,_,zs,yz,rfl,rfl,SqL.of ((upd_ne (ne_fre fc upd_same)).trans upd_same),SqL.of upd_same,_,rfl,?_⟩;have K2:Kp [] H1 (upd (upd H1 b (.lst (zs.map V.str))) c (.lst (yz.map V.str))):=Kp.trans (Kp.new Kp.refl fb) (Kp.new Kp.refl fc);have e:zs=yz:=rise_one r1 r2 (p1.trans (pm.trans p2.symm));rw [qAC rfl,qAU e];exact iteF (k _ (kB.trans K2))
end
structure RowsAt (H0 H:Hp) (l:Addr) (as:List Addr) (rs:List (List Str)):Prop where
 top:H l=some (.lst (as.map V.ref))
 len:as.length=rs.length
 row:∀(i:Nat) (a:Addr) (r:List Str),as[i]?=some a->rs[i]?=some r->H a=some (.lst (r.map V.str))
 ne:∀a∈as,a≠l
 fr:Fre H0 l
 frs:∀a∈as,Fre H0 a
theorem RowsAt.mem {rs:List (List Str)} (R:RowsAt H0 H l as rs) {a:Addr} (h:a∈as):∃r,r∈rs/\H a=some (.lst (r.map V.str)):=by
 obtain ⟨i,hi,rfl⟩:=qA0.mp h;have hi':i<rs.length:=by rw [<-R.len];exact hi
 exact ⟨rs[i],qBd hi',R.row i _ _ (by simp) (by simp)⟩
theorem RowsAt.kp {M:List Addr} {rs:List (List Str)} (R:RowsAt H0 H l as rs) (k:Kp M H H') (h1:l∉M) (h2:∀a∈as,a∉M):RowsAt H0 H' l as rs :=
 ⟨k l _ R.top h1,R.len,fun i a r e1 e2=>k a _ (R.row i a r e1 e2) (h2 a (qAN e1)),R.ne,R.fr,R.frs⟩
theorem RowsAt.nil (h:H l=some (.lst [])) (f:Fre H0 l):RowsAt H0 H l [] [] :=
 ⟨h,rfl,(fun i a r e=>by simp at e),(fun a h=>by simp at h),f,(fun a h=>by simp at h)⟩
theorem RowsAt.more {b:Addr} {rs:List (List Str)} {r:List Str} (R:RowsAt H0 H l as rs) (hb:H b=some (.lst (r.map V.str))) (n:b≠l) (f:Fre H0 b):RowsAt H0 (upd H l (.lst (as.map V.ref++[.ref b]))) l (as++[b]) (rs++[r]):=by
 refine ⟨by rw [upd_same];simp,by simp [R.len],fun i a q e1 e2=>?_,fun a h=>?_,R.fr,fun a h=>?_⟩
 ·by_cases hi:i<as.length
  ·rw [qBj hi] at e1;rw [qBj (by rw [<-R.len];exact hi)] at e2;rw [upd_ne (R.ne a (qAN e1))];exact R.row i a q e1 e2
  ·rw [qBi (by lia)] at e1;rw [qBi (by rw [<-R.len];lia)] at e2;have hl:=R.len
   have h0:i - as.length=0:=by
    have:=(qAf.mp e1).1;simp at this;lia
   rw [h0] at e1;rw [<-hl,h0] at e2;have e1:b=a:=by simpa using e1
   have e2:r=q:=by simpa using e2
   subst e1 e2;rw [upd_ne n];exact hb
 ·rcases qAW.mp h with z| z
  ·exact R.ne a z
  ·have:a=b:=by simpa using z
   subst this;exact n
 ·rcases qAW.mp h with z| z
  ·exact R.frs a z
  ·have:a=b:=by simpa using z
   subst this;exact f
def zCd (J:JR) (b:Nat) (A L:List Str):List Str:=(L.filter (rdyB J A)).take b
def zD0 (J:JR) (b:Nat) (A L:List Str):List Str:=(zCd J b A L).foldl addA A
def zFu (J:JR) (b:Nat) (A L:List Str):List Str:=L.filter fun n=>decide (n∉zD0 J b A L)
def zEs (J:JR) (b:Nat):Nat->List Str->List Str->List (List Str)
 | 0,_,_=>[]
 | f+1,A,L=>if L=[] then [] else zCd J b A L::zEs J b f (zD0 J b A L) (zFu J b A L)
theorem listB_nil (J:JR) (b f:Nat) (A:List Str):zEs J b f A []=[]:=by
 cases f with
 | zero=>rfl
 | succ f=>exact qAC rfl
structure ListI (J:JR) (r:Str->Nat) (A L:List Str):Prop where
 rk:∀n∈J.ns,∀x∈J.S n,r x<r n
 an:A.Nodup
 ai:∀n∈A,n∈J.ns
 li:∀n∈L,n∈J.ns
 al:∀n∈J.ns,n∈A\/n∈L
theorem ListI.turn {L:List Str} (I:ListI J r A L) {b:Nat} (hb:1<=b) (h:L≠[]):zCd J b A L≠[]:=by
 obtain ⟨n,n1,n2⟩:=zHk r L h
 have hr:rdyB J A n=true:=by
  unfold rdyB;rw [qA5];intro m hm;obtain ⟨m1,m2⟩:=qAQ.mp hm;refine qAU ?_;rcases I.al m m1 with z| z
  ·exact z
  ·have h1:=n2 m z;have h2:=I.rk n (I.li n n1) m (qAm m2);lia
 have hn:n∈L.filter (rdyB J A):=qAQ.mpr ⟨n1,hr⟩;unfold zCd
 cases e:L.filter (rdyB J A) with
 | nil=>rw [e] at hn;cases hn
 | cons x xs =>
  cases b with
  | zero=>lia
  | succ b=>simp
theorem zE0 {b:Nat} {L:List Str} (h:n∈zCd J b A L):n∈L:=(qAQ.mp (qBr h)).1
theorem ListI.next {L:List Str} (I:ListI J r A L) (b:Nat):ListI J r (zD0 J b A L) (zFu J b A L) where
 rk:=I.rk
 an:=zDj _ _ I.an
 ai:=fun n hn=>by
  rcases (zBn _ _).mp hn with z| z
  ·exact I.ai n z
  ·exact I.li n (zE0 z)
 li:=fun n hn=>I.li n (qAQ.mp hn).1
 al:=fun n hn=>by
  by_cases z:n∈zD0 J b A L
  ·exact .inl z
  ·refine .inr (qAQ.mpr ⟨?_,qAU z⟩);rcases I.al n hn with q| q
   ·exact absurd ((zBn _ _).mpr (.inl q)) z
   ·exact q
theorem ListI.less {L:List Str} (I:ListI J r A L) {b:Nat} (hb:1<=b) (h:L≠[]):(zFu J b A L).length<L.length:=by
 cases e:zCd J b A L with
 | nil=>exact absurd e (I.turn hb h)
 | cons x xs =>
  have hx:x∈zCd J b A L:=by rw [e];exact qAR
  exact zHp (zE0 hx) (qAh fun z=>z ((zBn _ _).mpr (.inr hx)))
def lenAt (i:Nat) (σ:St) (H:Hp):Nat:=match (σ[i]?:Option (Option V)) with
 | some (some (.ref a))=>match H a with
  | some (.lst xs)=>xs.length
  | _=>0
 | _=>0
section
def spListed (C:Addr):Sp:=fun vs H Q _=>∃(j m:Addr) (b:Int) (J:JR) (r:Str->Nat) (ws:List Str),vs=[.ref j,.int b,.ref m]/\JobsAt C H j J/\(∀n∈J.ns,∀x∈J.S n,r x<r n)/\Txs H m ws/\1<=b/\ws.Perm J.ns/\∀(pl:Addr) (as:List Addr) (H':Hp),RowsAt H H' pl as (zEs J b.toNat ws.length [] ws)->Kp [] H H'->Q (.ref pl) H'
abbrev zE2:Stmt:=top 26
theorem zCl:FnScope ["jobs", "benches", "row", "plan", "taken", "left", "ready", "turn"] ["jobs", "benches", "row"] (zAd zE2):=fnS
theorem ok_listed {f:Addr} (F:Fun K "listed" "listed" zE2 f fd) (T:Txt K mg) (U:JC K mg C) (M_names:Mth P w K mg base C "names" 1 ["self"] (zGv C)) (C_check_benches:Cal P w K mg base "check_benches" 2 ["benches"] spBench)
  (C_check_row:Cal P w K mg base "check_row" 2 ["names", "row"] zH9) (C_is_ready:Cal P w K mg base "is_ready" 4 ["jobs", "earlier", "name"] (spReady C)) (C_take:Cal P w K mg base "take" 1 ["taken", "row"] spPTake):FnOk P w K mg base CX0 5 f fd ["jobs", "benches", "row"] (spListed C):=by
 refine F.ok zCl (fun vs H Q E h=>?_) (fun cdv A outer s H vs Q E hr h=>?_)
 ·obtain ⟨j,m,b,J,r,ws,rfl,_⟩:=h;rfl
 ·obtain ⟨j,m,b,J,r,ws,rfl,A0,hrk,hm,hb,hp,k⟩:=h;have hu:=zDk hr;have hr2:=hr.mono (j:=2) (by decide);have hr1:=hr.mono (j:=1) (by decide);have HR_is_ready:Room 4 _:=hr
  refine ⟨_,(zAc (zA8 (zAf C_check_benches hr2 rfl (zAa (pv 1) zAb)))
   (zAc (zA8 (zAf C_check_row hr2 rfl (zAa (zDc M_names U.cl hr1 (pv 0)) (zAa (pv 2) zAb))))
   (zAc (psS (i:=3) zCl.nd (zCf zAb))
   (zAc (psS (i:=4) zCl.nd zBy)
   (zAc (psS (i:=5) zCl.nd (zAm zAz (by rfl) T.z_list zB2 (zAa (pv 2) zAb)))
   (zAc (zI4 qAk (zI3 (pv 5) (fun _=>rfl))
    (zAc (zG3 (i:=6) rfl (zBc (sc:=zAd zE2) rfl (by decide +kernel)) (Draws.own (x:= "name") (dtk (i:=0) rfl (dtk (i:=4) rfl Draws.nil))) (zAl (pv 5)) (fun _ _ _ _=>(pgB (i:=0))) (fun _ _ _ _=>(zB6 (zC1 (zAf C_is_ready HR_is_ready rfl (zAa (pv 1) (zAa (pv 2) (zAa (pv 0) zAb))))))) (fun _ _ _ _=>(pv 0)) zCl.nd rfl rfl)
    (zAc (psS (i:=7) zCl.nd (pe_slice sl_list (pv 6) po_none (po_some (pv 1))))
    (zAc (zA8 (zHx qBX qDG qDH zD1 (pv 3) (zAa (pv 7) zAb)))
    (zAc (zA8 (zAf C_take hr1 rfl (zAa (pv 4) (zAa (pv 7) zAb))))
    (zAe (zG3 (i:=5) rfl (zBc (sc:=zAd zE2) rfl (by decide +kernel)) (Draws.own (x:= "name") (dtk (i:=4) rfl Draws.nil)) (zAl (pv 5)) (fun _ _ _ _=>(pgB (i:=0))) (fun _ _ _ _=>(zB6 (zF4 (zG5 hu (pv 0) (pv 1))))) (fun _ _ _ _=>(pv 0)) zCl.nd rfl rfl)))))))
   (zAe (zAo (pv 3))))))))),?_⟩
  refine ⟨_,rfl,b,rfl,hb,?_⟩;refine ⟨_,rfl,j,J.dx,_,rfl,A0.ob,zGh _ _ _ (by decide +kernel) (by decide +kernel) (by decide +kernel),j,J,rfl,A0,fun a H1 fa h1 k1=>?_⟩;refine ⟨_,rfl,a,m,J.ns,ws,rfl,h1,A0.few,k1 m _ hm (by simp),hp,fun H2 k2=>?_⟩;have k12:=k1.trans k2;refine ⟨(by walk_at "ln"),fun pl hpl=>?_⟩;have fpl:Fre H2 pl:=hpl;refine fun tk htk=>?_;have ftk:Fre (upd H2 pl (.lst [])) tk:=htk;have npt:pl≠tk:=ne_fre ftk upd_same;have k3:Kp [] H (upd (upd H2 pl (.lst [])) tk (.dK [])):=Kp.trans k12 (Kp.trans (Kp.new Kp.refl fpl) (Kp.new Kp.refl ftk));refine ⟨_,rfl,_,_,rfl,.inl (SqL.of (k3 m _ hm (by simp))),fun lf hlf=>?_⟩;have flf:=(show Fre _ lf from hlf);have ntl:tk≠lf:=ne_fre flf upd_same;have npl:pl≠lf:=ne_fre flf ((upd_ne npt).trans upd_same);have fpl0:Fre H pl:=k12.fre fpl (by simp);have ftk0:Fre H tk:=(Kp.trans k12 (Kp.new Kp.refl fpl)).fre ftk (by simp);have hwl:ws.length<=20:=by rw [hp.length_eq];exact A0.few
  show tWhile (fun σ H Q=>tVar 5 σ H fun x H'=>∃k,TruV K x H' k/\Q k H') _ _ _ _
  refine zIp (fun σ H3=>∃(lf:Addr) (D L:List Str) (as:List Addr) (rs:List (List Str)) (f:Nat) (o6 o7:Option V),σ=[some (.ref j),some (.int b),some (.ref m),some (.ref pl),some (.ref tk),some (.ref lf),o6,o7]/\Kp [] H H3/\SetD H3 tk D/\Txs H3 lf L/\RowsAt H H3 pl as rs/\ListI J r D L/\L.length<=f/\f<=20/\rs.length+f<=20/\rs++zEs J b.toNat f D L=zEs J b.toNat ws.length [] ws) (lenAt 5)
   ⟨lf,[],ws,[],[],ws.length,none,none,rfl,Kp.trans k3 (Kp.new Kp.refl flf),(upd_ne ntl).trans upd_same,upd_same,RowsAt.nil ((upd_ne npl).trans ((upd_ne npt).trans upd_same)) fpl0,
    ⟨hrk,qA1,(fun _ h=>nomatch h),fun n hn=>hp.mem_iff.mp hn,fun n hn=>.inr (hp.mem_iff.mpr hn)⟩,qAG _,hwl,by simpa using hwl,rfl⟩ ?_ (fun σ H Q Q' hq hc=>by
    obtain ⟨x,e,b,t,q⟩:=hc;exact ⟨x,e,b,t,hq _ _ q⟩)
  rintro σ H3 ⟨lf,D,L,as,rs,f,o6,o7,rfl,kh,hD,hL,R,I,hf,hf20,hrf,el⟩;refine ⟨_,rfl,_,.inl ⟨_,SqL.of hL,rfl⟩,?_⟩;have hLl:L.length<=20:=by lia
  have A3:=A0.kp0 kh;refine ite2 (fun c=>?_) (fun c=>?_)
  ·have cL:L≠[]:=fun z=>by rw [z] at c;simp at c
   refine ⟨_,rfl,_,rfl,⟨_,SqL.of hL⟩,fun B hB=>zBi (L.map V.str) (fun i ys τ H4=>(∃o0,τ=[o0,some (.ref j),some (.ref tk)])/\ys=((L.take i).filter (rdyB J D)).map V.str/\Kp [] H3 H4/\H4 B=some (.lst ys))
    ⟨⟨_,rfl⟩,rfl,Kp.new Kp.refl hB,upd_same⟩ (fun i ys τ H4 ⟨_,_,k4,_⟩=>SqL.of (k4 lf _ hL (by simp))) ?_ ?_⟩
   ·rintro i y ys τ H4 hy ⟨⟨o0,rfl⟩,rfl,k4,h4⟩;obtain ⟨n,en,rfl⟩:=zA3 hy;have mn:=I.li n (qAN en);refine ⟨_,rfl,_,rfl,_,rfl,j,tk,J,D,n,rfl,A3.kp0 k4,k4 tk _ hD (by simp),mn,fun H5 k5=>?_⟩;have h5:=k5 B _ h4 (by simp);refine ⟨_,rfl,ite2 (fun c=>?_) (fun c=>?_)⟩
    ·refine ⟨_,rfl,h5,?_,⟨_,rfl⟩,?_,Kp.new (k4.trans k5) hB,upd_same⟩
     ·rw [qAD];exact zDl (by lia)
     ·rw [zCa en c,qAS];rfl
    ·refine ⟨⟨_,rfl⟩,?_,k4.trans k5,h5⟩;rw [zC7 en c]
   ·rintro ys τ H4 ⟨_,rfl,k4,h4⟩;have eT:L.take (L.map V.str).length=L:=by rw [qAD,qAi]
    rw [eT] at h4;refine ⟨_,rfl,_,rfl,_,rfl,_,_,rfl,SqL.of h4,fun tn htn=>?_⟩;have ftn:Fre H4 tn:=htn
    have ecut:cutV ((L.filter (rdyB J D)).map V.str) none (some b)=(zCd J b.toNat D L).map V.str:=by
     rw [cut_to _ (by lia),<-qC8];rfl
    rw [ecut];have k5:Kp [] H3 (upd H4 tn (.lst ((zCd J b.toNat D L).map V.str))):=Kp.trans k4 (Kp.new Kp.refl ftn);have e5:upd H4 tn (.lst ((zCd J b.toNat D L).map V.str)) tn=some (.lst ((zCd J b.toNat D L).map V.str)):=upd_same;have ftn3:Fre H3 tn:=k4.fre ftn (by simp);have ntp:tn≠pl:=(ne_fre ftn3 R.top).symm;have ntt:tn≠tk:=(ne_fre ftn3 hD).symm;generalize upd H4 tn (.lst ((zCd J b.toNat D L).map V.str))=H5 at k5 e5;have R5:=R.kp k5 (by simp) (fun _ _=>by simp);refine ⟨_,rfl,.inl ⟨rfl,_,SqL.of R5.top⟩,_,rfl,_,_,_,rfl,rfl,R5.top,?_,?_⟩
    ·rw [qAD,R5.len,qAK];lia
    have fD5:SetD H5 tk D:=k5 tk _ hD (by simp)
    have ntpl:tk≠pl:=fun z=>by
     have h2:H5 pl=some (.dK (dT1 D fun _=>.bl true)):=by rw [<-z];exact fD5
     rw [R5.top] at h2;cases h2
    have nlpl:lf≠pl\/True:=.inr trivial;have k6:Kp [pl] H5 (upd H5 pl (.lst (as.map V.ref++[.ref tn]))):=Kp.put Kp.refl (by simp);have R6:=R5.more e5 ntp (kh.fre ftn3 (by simp));have e6:upd H5 pl (.lst (as.map V.ref++[.ref tn])) tn=some (.lst ((zCd J b.toNat D L).map V.str)):=(upd_ne ntp).trans e5;have hL5:=k5 lf _ hL (by simp);have D6:SetD (upd H5 pl (.lst (as.map V.ref++[.ref tn]))) tk D:=(upd_ne ntpl).trans fD5;generalize hH6:upd H5 pl (.lst (as.map V.ref++[.ref tn]))=H6 at k6 R6 e6 D6;have hDl:D.length<=20:=qAT (zBt I.an I.ai) A0.few
    have htl:(zCd J b.toNat D L).length<=20:=by
     have h1:(zCd J b.toNat D L).length<=(L.filter (rdyB J D)).length:=by
      unfold zCd;rw [qAY];lia
     have h2:=qAx (rdyB J D) L;lia
    refine ⟨_,rfl,_,rfl,tk,tn,D,zCd J b.toNat D L,rfl,D6,e6,by lia,fun H7 h7 k7=>?_⟩
    have K56:Kp [] H H6:=by
     rw [<-hH6];exact Kp.new (kh.trans k5) fpl0
    have K7:Kp [] H H7:=Kp.drop K56 ftk0 k7
    have nast:∀x∈as++[tn],x∉[tk]:=fun x hx=>nm1 fun z=>by
     obtain ⟨q,_,e⟩:=R6.mem hx;rw [z,show H6 tk=_ from D6] at e;cases e
    have R7:=R6.kp k7 (nm1 ntpl.symm) nast;have hfin:∀(lf7:Txs H7 lf L),True:=fun _=>trivial
    by_cases nlp:lf=pl
    ·exfalso;rw [nlp,R5.top] at hL5
     cases as with
     | nil =>
      have:L=[]:=by
       have h2:([]:List V)=L.map V.str:=by injection hL5 with h;injection h
       exact List.map_eq_nil_iff.mp h2.symm
      exact cL this
     | cons x xs =>
      cases L with
      | nil=>exact cL rfl
      | cons y ys =>
       injection hL5 with h;injection h with h;simp at h
    have nlt:lf≠tk:=fun z=>by
     rw [z,show H5 tk=_ from fD5] at hL5;cases hL5
    have hL7:Txs H7 lf L:=k7 lf _ (by rw [<-hH6];exact (upd_ne nlp).trans hL5) (nm1 nlt);have hnA:SetD H7 tk (zD0 J b.toNat D L):=h7
    refine ⟨_,rfl,_,rfl,⟨_,SqL.of hL7⟩,fun B2 hB2=>zBi (L.map V.str) (fun i ys τ H8=>(∃o0,τ=[o0,some (.ref tk)])/\ys=((L.take i).filter fun n=>decide (n∉zD0 J b.toNat D L)).map V.str/\H8=upd H7 B2 (.lst ys))
     ⟨⟨_,rfl⟩,rfl,rfl⟩ (fun i ys τ H8 ⟨_,_,e⟩=>by subst e;exact SqL.of ((upd_ne (ne_fre (show Fre H7 B2 from hB2) hL7)).trans hL7)) ?_ ?_⟩
    ·rintro i y ys τ H8 hy ⟨⟨o0,rfl⟩,rfl,rfl⟩;obtain ⟨n,en,rfl⟩:=zA3 hy;refine ⟨_,rfl,_,rfl,_,_,rfl,DGet.k (k:=Sum.inr n) ((upd_ne (ne_fre (show Fre H7 B2 from hB2) hnA)).trans hnA),_,rfl,?_⟩;rw [zFx]
     have ed:(!decide (n∈zD0 J b.toNat D L))=decide (n∉zD0 J b.toNat D L):=by
      by_cases z:n∈zD0 J b.toNat D L<;>simp [z]
     rw [ed];refine ite2 (fun c=>?_) (fun c=>?_)
     ·refine ⟨_,rfl,upd_same,?_,⟨_,rfl⟩,?_,zBo⟩
      ·rw [qAD];exact zDl (by lia)
      ·rw [zCa en c,qAS];rfl
     ·refine ⟨⟨_,rfl⟩,?_,rfl⟩;rw [zC7 en c]
    ·rintro ys τ H8 ⟨_,rfl,rfl⟩;rw [eT];have fB2:Fre H7 B2:=hB2;have k8:Kp [] H7 (upd H7 B2 (.lst ((zFu J b.toNat D L).map V.str))):=Kp.new Kp.refl fB2;have hless:=I.less (b:=b.toNat) (by lia) cL
     obtain ⟨f',rfl⟩:∃f',f=f'+1:=⟨f - 1,by
      have:1<=L.length:=qDE.mpr cL;lia⟩
     refine ⟨⟨B2,zD0 J b.toNat D L,zFu J b.toNat D L,as++[tn],rs++[zCd J b.toNat D L],f',_,_,rfl,K7.trans k8,k8 tk _ hnA (by simp),upd_same,R7.kp k8 (by simp) (fun _ _=>by simp),I.next _,by lia,by lia,by simp;lia,?_⟩,?_⟩
     ·rw [<-el];show _=rs++(if L=[] then [] else _);rw [qAB cL,qCY];rfl
     ·show lenAt 5 [_,_,_,_,_,some (V.ref B2),_,_] _<lenAt 5 [_,_,_,_,_,some (V.ref lf),_,_] _
      have e1:lenAt 5 [some (V.ref j),some (.int b),some (.ref m),some (.ref pl),some (.ref tk),some (V.ref B2),some (.ref B),some (.ref tn)] (upd H7 B2 (.lst ((zFu J b.toNat D L).map V.str)))=(zFu J b.toNat D L).length:=by
       show (match (upd H7 B2 (.lst ((zFu J b.toNat D L).map V.str))) B2 with| some (.lst xs)=>xs.length| _=>0)=_;rw [upd_same];simp
      have e2:lenAt 5 [some (V.ref j),some (.int b),some (.ref m),some (.ref pl),some (.ref tk),some (V.ref lf),o6,o7] H3=L.length:=by
       show (match H3 lf with| some (.lst xs)=>xs.length| _=>0)=_;rw [hL];simp
      show lenAt 5 [some (V.ref j),some (.int b),some (.ref m),some (.ref pl),some (.ref tk),some (V.ref B2),some (.ref B),some (.ref tn)] _<lenAt 5 [some (V.ref j),some (.int b),some (.ref m),some (.ref pl),some (.ref tk),some (V.ref lf),o6,o7] H3;rw [e2];exact qC2 (qBF e1) hless
  ·have cL:L=[]:=by
    cases L with
    | nil=>rfl
    | cons x xs=>exact absurd rfl c
   subst cL;rw [listB_nil,qBR] at el;subst el;exact ⟨_,rfl,k pl as H3 R kh⟩
end
structure RowsR (H:Hp) (l:Addr) (as:List Addr) (rs:List (List Str)):Prop where
 top:H l=some (.lst (as.map V.ref))
 len:as.length=rs.length
 row:∀(i:Nat) (a:Addr) (r:List Str),as[i]?=some a->rs[i]?=some r->H a=some (.lst (r.map V.str))
theorem RowsR.kp {rs:List (List Str)} (R:RowsR H l as rs) (k:Kp [] H H'):RowsR H' l as rs :=
 ⟨k l _ R.top (by simp),R.len,fun i a r e1 e2=>k a _ (R.row i a r e1 e2) (by simp)⟩
theorem RowsR.at {rs:List (List Str)} (R:RowsR H l as rs) {i:Nat} (h:i<rs.length):∃a r,as[i]?=some a/\rs[i]?=some r/\(as.map V.ref)[i]?=some (.ref a)/\H a=some (.lst (r.map V.str)):=by
 have hi:i<as.length:=by rw [R.len];exact h
 have e1:as[i]?=some as[i]:=by simp [hi]
 have e2:rs[i]?=some rs[i]:=by simp [h]
 exact ⟨as[i],rs[i],e1,e2,by rw [qAe,e1];rfl,R.row i _ _ e1 e2⟩
structure TurnOk (J:JR) (b:Int) (A r:List Str):Prop where
 ns:∀n∈r,n∈J.ns
 nd:r.Nodup
 nw:∀n∈r,n∉A
 rd:∀n∈r,rdyB J A n=true
 fit:(r.length:Int)<=b
theorem zFy:∀(rs:List (List Str)) (A:List Str),A.Nodup->(rs.foldl (fun A r=>r.foldl addA A) A).Nodup
 | [],_,h=>h
 | q::rs,A,h=>zFy rs _ (zDj _ _ h)
theorem zJm {J:JR}:∀(rs:List (List Str)) (A:List Str),(∀n∈A,n∈J.ns)->(∀r∈rs,∀n∈r,n∈J.ns)->∀n∈rs.foldl (fun A r=>r.foldl addA A) A,n∈J.ns
 | [],_,h,_=>h
 | q::rs,A,h,hr=>zJm rs _ (fun n hn=>by
   rcases (zBn _ _).mp hn with z| z
   ·exact h n z
   ·exact hr q qAR n z) fun r h'=>hr r (qAP _ h')
theorem rdy_congr {B:List Str} (h:∀n,n∈A↔n∈B) (n:Str):rdyB J A n=rdyB J B n:=by
 unfold rdyB;congr 1;funext m;exact decide_eq_decide.mpr (h m)
abbrev AF (rs:List (List Str)) (A:List Str):List Str:=rs.foldl (fun A r=>r.foldl addA A) A
structure RightI (J:JR) (b:Int) (rs:List (List Str)):Prop where
 at':∀(i:Nat) (r:List Str),rs[i]?=some r->TurnOk J b (AF (rs.take i) []) r
 all:∀n∈J.ns,n∈AF rs []
theorem thaw_kp {H2:Hp} {kvs:List (Key×V)} (hd:H d=some (.dK kvs)) (k:Kp [d] H H2):Kp [] H (upd H2 d (.dK kvs)):=fun c o h n=>by
 by_cases e:c=d
 ·subst e;rw [hd] at h;cases h;exact upd_same
 ·rw [upd_ne e];exact k c o h (nm1 e)
def tFrz (t:TS):TS:=fun D σ H=>∃a kvs,H a=some (.dK kvs)/\∀o,t (thawE D a o kvs) σ (upd H a (.frz o (.dK kvs)))
theorem ps_frzN {st:Stmt} {t:TS} (h:PS X st t):PS X st (tFrz t):=ps_frz h
theorem key_at {B:List Str} {m:Nat} {kk:Key} {v:V} (h:(dT1 B fun _=>V.bl true)[m]?=some (kk,v)):∃y,B[m]?=some y/\kk=Sum.inr y:=by
 unfold dT1 at h;rw [qAe] at h;obtain ⟨y,e,r⟩:=qBH.mp h
 cases r
 exact ⟨y,e,rfl⟩
theorem zB0 :∀(rs:List (List Str)) (A:List Str),n∈AF rs A↔n∈A\/∃r∈rs,n∈r
 | [],A=>by simp
 | q::rs,A=>by
  show n∈AF rs (q.foldl addA A)↔_;rw [zB0 rs,zBn];constructor
  ·rintro ((h| h)| ⟨r,hr,h⟩)
   ·exact .inl h
   ·exact .inr ⟨q,qAR,h⟩
   ·exact .inr ⟨r,qAP _ hr,h⟩
  ·rintro (h| ⟨r,hr,h⟩)
   ·exact .inl (.inl h)
   ·rcases qAO.mp hr with z| z
    ·subst z;exact .inl (.inr h)
    ·exact .inr ⟨r,z,h⟩
def tI:List (List Str)->Str->Nat
 | [],_=>0
 | r::rs,n=>if n∈r then 0 else tI rs n+1
theorem tI_eq :∀{rs:List (List Str)} {i:Nat} {r:List Str},rs[i]?=some r->n∈r->(∀q∈rs.take i,n∉q)->tI rs n=i
 | [],i,r,h,_,_=>by simp at h
 | q::rs,0,r,h,hn,_=>by
  have e:q=r:=by simpa using h
  subst e;exact qAC hn
 | q::rs,i+1,r,h,hn,hq=>by
  have:n∉q:=hq q (by rw [qDM];exact qAR);show (if n∈q then 0 else tI rs n+1)=i+1;rw [qAB this,tI_eq (by simpa using h) hn fun p hp=>hq p (by rw [qDM];exact qAP _ hp)]
theorem tI_lt :∀{rs:List (List Str)} {i:Nat} {q:List Str},q∈rs.take i->n∈q->tI rs n<i
 | [],i,q,h,_=>by simp at h
 | p::rs,0,q,h,_=>by simp at h
 | p::rs,i+1,q,h,hn=>by
  show (if n∈p then 0 else tI rs n+1)<i+1;rw [qDM] at h
  by_cases c:n∈p
  ·rw [qAC c];lia
  ·rw [qAB c];rcases qAO.mp h with z| z
   ·subst z;exact absurd hn c
   ·have:=tI_lt z hn;lia
theorem tI_at :∀{rs:List (List Str)},(∃r∈rs,n∈r)->∃r,rs[tI rs n]?=some r/\n∈r
 | [],⟨r,h,_⟩=>nomatch h
 | p::rs,⟨r,h,hn⟩=>by
  by_cases c:n∈p
  ·have e:tI (p::rs) n=0:=qAC c;rw [e];exact ⟨p,rfl,c⟩
  ·have e:tI (p::rs) n=tI rs n+1:=qAB c;rw [e];rcases qAO.mp h with z| z
   ·subst z;exact absurd hn c
   ·obtain ⟨r',h1,h2⟩:=tI_at ⟨r,z,hn⟩;exact ⟨r',by simpa using h1,h2⟩
theorem zE7 {b:Int} {rs:List (List Str)} (R:RightI J b rs) (hn:n∈J.ns) (hy:y∈J.ns) (h:n∈J.S y):tI rs n<tI rs y:=by
 have h1:=(zB0 rs []).mp (R.all y hy);obtain ⟨r,e,hr⟩:=tI_at (h1.resolve_left (by simp));have ok:=R.at' _ r e;have rd:=ok.rd y hr;unfold rdyB at rd;have:=qAm (qA5.mp rd n (qAQ.mpr ⟨hn,qAU h⟩));obtain ⟨q,hq,hnq⟩:=((zB0 _ []).mp this).resolve_left (by simp);exact tI_lt hq hnq
theorem addA_new (h:n∉A):addA A n=A++[n]:=by unfold addA;rw [qAB h]
section
def spIsRight:Sp:=fun vs H Q _=>∃(l d m:Addr) (b:Int) (J:JR) (as:List Addr) (rs:List (List Str)) (la:Str->Addr) (L:Str->List Str),vs=[.ref l,.ref d,.int b,.ref m]/\Txs H l J.ns/\DR H d J.ns la L/\(∀n∈J.ns,la n≠d)/\J.ns.Nodup/\J.ns.length<=20/\(∀n∈J.ns,∀y∈L n,y∈J.ns/\n∈J.S y)/\RowsR H m as rs/\rs.length<=1000/\RightI J b rs/\∀H',Kp [] H H'->Q (.bl true) H'
abbrev zEa:Stmt:=top 56
theorem zB5:FnScope ["_law_names_here", "_law_behind_here", "_law_benches_here", "_law_plan", "_law_turns", "_law_k", "_law_turn", "_law_name"] ["_law_names_here", "_law_behind_here", "_law_benches_here", "_law_plan"] (zAd zEa):=fnS
theorem ok_is_right {f:Addr} (F:Fun K "_law_is_right" "_law_is_right" zEa f fd) (T:Txt K mg):FnOk P w K mg base CX0 1 f fd ["_law_names_here", "_law_behind_here", "_law_benches_here", "_law_plan"] spIsRight:=by
 refine F.ok zB5 (fun vs H Q E h=>?_) (fun cdv A outer s H vs Q E hr h=>?_)
 ·obtain ⟨l,d,m,b,J,as,rs,la,L,rfl,_⟩:=h;rfl
 ·obtain ⟨l,d,m,b,J,as,rs,la,L,rfl,hl,D0,ne0,nd,len,sub,R,hrs,rt,k⟩:=h;have hu:=zDk hr
  refine ⟨_,(zAc (psS (i:=4) zB5.nd zBy)
   (zAc (zBb qAk rfl (pi_enum rfl T.z_enumerate (zAa (pv 3) zAb)) (pg_tup rfl (zAw (pgN (i:=5) zB5.nd) (zAw (pgN (i:=6) zB5.nd) zDi)))
    (zAc (zBx (PW.pt (pw_or (zDx (zC1 (zAh zEh (by rfl) T.z_isinstance zBk (zAa (pv 6) (zAa (zFt (by rfl) T.z_list zB2 (v:=.ty "list") rfl) zAb))))) (zG2 (zAs op_gt (zAh zAi (by rfl) T.z_len zA4 (zAa (pv 6) zAb)) (pv 2) (zAu _)))))
     (zAe zAv)
     zAq)
    (zAe (zBb qAk rfl (zAl (pv 6)) (pgN (i:=7) zB5.nd)
     (zAc (zBx (PW.pt (pw_or (zF4 (zF5 hu (pv 7) (pv 4))) (zG2 (zAs zDz (pv 7) (pv 0) (by rfl)))))
      (zAe zAv)
      zAq)
     (zAe (zCp hu (pv 4) (pv 7) (pv 5) rfl)))))))
   (zAc (zBx (zAs op_ne (zAh call_lenD (by rfl) T.z_len zA4 (zAa (pv 4) zAb)) (zAh zAi (by rfl) T.z_len zA4 (zAa (pv 0) zAb)) (zAu _))
    (zAe zAv)
    zAq)
   (zAc (zBb qAk rfl (zAl (pv 0)) (pgN (i:=7) zB5.nd)
    (zAe (ps_frzN (zBx (zAs (zI7 hr) (zA5 rfl (zBc (sc:=zAd zEa) rfl (by decide +kernel)) (Draws.own (x:= "_law_other") (dtk (i:=4) rfl (dtk (i:=7) rfl Draws.nil))) (pi_keys (zA0 hu (pv 1) (pv 7) (fun _ _=>rfl))) (fun _ _ _ _=>(pgB (i:=0))) (fun _ _ _ _=>(zB6 (zAs op_le (zA0 hu (pv 1) (pv 0) (fun _ _=>rfl)) (zA0 hu (pv 1) (pv 2) (fun _ _=>rfl)) (zAu _)))) (fun _ _ _ _=>(pv 0))) (zCf zAb) (zAu _))
     (zAe zAv)
     zAq))))
   (zAe (zAo pe_bl)))))),?_⟩
  refine fun e he=>?_;have fe:Fre H e:=he;have k1:Kp [] H (upd H e (.dK [])):=Kp.new Kp.refl fe;have e1:upd H e (.dK []) e=some (.dK (dT1 (AF (rs.take 0) []) fun n=>.int (tI rs n))):=upd_same;generalize upd H e (.dK [])=H1 at k1 e1;have hin:=rt.at'
  have hsub:∀r∈rs,∀n∈r,n∈J.ns:=fun r hr=>by
   obtain ⟨i,hi,rfl⟩:=qA0.mp hr;exact (hin i rs[i] (by simp)).ns
  refine ⟨_,rfl,_,rfl,⟨_,SqL.of (k1 m _ R.top (by simp))⟩,for_enum (lo:=0) (xs:=as.map V.ref) (fun i σ H2=>(∃o5 o6 o7,σ=[some (.ref l),some (.ref d),some (.int b),some (.ref m),some (.ref e),o5,o6,o7])/\Kp [] H H2/\H2 e=some (.dK (dT1 (AF (rs.take i) []) fun n=>.int (tI rs n)))) ⟨⟨_,_,_,rfl⟩,k1,e1⟩ (fun i σ H2 _ ⟨_,k2,_⟩=>SqL.of (k2 m _ R.top (by simp))) ?_ ?_⟩
  ·rintro i v σ H2 t hv ⟨⟨o5,o6,o7,rfl⟩,k2,h2⟩ ht;have ft:Fre H2 t:=ht
   have hi:i<rs.length:=by
    have:=(qAf.mp hv).1;rw [qAD,R.len] at this;exact this
   obtain ⟨a,r,ea,er,ev,ha⟩:=R.at hi;rw [ev] at hv
   cases hv
   have kt:Kp [] H2 (upd H2 t (.tup [.int (0+(i:Int)),.ref a])):=Kp.new Kp.refl ft;refine ⟨_,_,rfl,.inl (.inl upd_same),rfl,_,_,rfl,_,_,rfl,rfl,?_⟩;have h3:=kt e _ h2 (by simp);have ok:=hin i r er;generalize upd H2 t (.tup [.int (0+(i:Int)),.ref a])=H3 at kt h3 ⊢;have k3:=k2.trans kt;have ha3:=k3 a _ ha (by simp);have hDl:(AF (rs.take i) []).length<=20:=qAT (zBt (zFy _ _ qA1) (zJm _ _ (fun _ h=>nomatch h) fun r hr=>hsub r (qBr hr))) len;have hrl:r.length<=20:=qAT (zBt ok.nd ok.ns) len;refine ⟨_,rfl,_,_,_,_,rfl,TyOf.lst ha3,zFf,_,rfl,iteF ?_⟩;refine ⟨_,rfl,_,_,rfl,.inl (SqL.of ha3),_,rfl,_,_,rfl,rfl,_,rfl,?_⟩;rw [qAh (by rw [qAD];have:=ok.fit;lia)];refine iteF ?_;refine ⟨_,rfl,_,rfl,⟨_,SqL.of ha3⟩,zA9 (xs:=r.map V.str) (fun p σ H4=>(∃o7,σ=[some (.ref l),some (.ref d),some (.int b),some (.ref m),some (.ref e),some (.int (0+(i:Int))),some (.ref a),o7])/\Kp [] H H4/\H4 e=some (.dK (dT1 ((r.take p).foldl addA (AF (rs.take i) [])) fun n=>.int (tI rs n)))) ⟨⟨_,rfl⟩,k3,h3⟩ (fun p σ H4 _ ⟨_,k4,_⟩=>SqL.of (k4 a _ ha (by simp))) ?_ ?_⟩
   ·rintro p v σ H4 hv ⟨⟨o7,rfl⟩,k4,h4⟩;obtain ⟨n,en,rfl⟩:=zA3 hv;have hn:=qAN en
    have nin:n∉(r.take p).foldl addA (AF (rs.take i) []):=fun z=>by
     rcases (zBn _ _).mp z with z| z
     ·exact ok.nw n hn z
     ·exact zC3 ok.nd en z
    refine ⟨_,rfl,_,rfl,_,_,rfl,DGet.k (k:=Sum.inr n) h4,_,rfl,?_⟩;rw [zFx,qAh nin];refine iteF ?_;refine ⟨_,rfl,_,rfl,_,_,rfl,.inl (SqL.of (k4 l _ hl (by simp))),rfl,zD5 _,_,rfl,?_⟩;rw [qAC rfl,zHo,qAU (ok.ns n hn)];refine iteF ?_;have hlf:=zHj (r.take p) (AF (rs.take i) []);rw [qAY] at hlf;refine ⟨_,rfl,_,rfl,_,rfl,_,_,rfl,DPut.k (k:=Sum.inr n) h4 (by rw [zC8,qAK];lia),?_⟩;refine ⟨⟨_,rfl⟩,Kp.new k4 fe,?_⟩;have et:tI rs n=i:=tI_eq er hn fun q hq z=>ok.nw n hn ((zB0 _ _).mpr (.inr ⟨q,hq,z⟩));rw [upd_same,zDh _ nin,zAj en,qDI];show _=some (HO.dK (dT1 (addA _ n) _));rw [addA_new nin,zJn,et];simp
   ·rintro σ H4 ⟨⟨o7,rfl⟩,k4,h4⟩;rw [qAD,qAi] at h4;refine ⟨⟨_,_,_,rfl⟩,k4,?_⟩;rw [zAj er];unfold AF;rw [qDI];exact h4
  rintro σ H2 ⟨⟨o5,o6,o7,rfl⟩,k2,h2⟩;have eT:rs.take (as.map V.ref).length=rs:=by rw [qAD,R.len,qAi]
  rw [eT] at h2;have all:=rt.all;have inn:=zJm (J:=J) rs [] (fun _ h=>nomatch h) hsub;have el:(AF rs []).length=J.ns.length:=qDN (zBt (zFy _ _ qA1) inn) (zBt nd all);refine ⟨_,rfl,_,_,rfl,h2,_,rfl,_,_,rfl,.inl (SqL.of (k2 l _ hl (by simp))),rfl,_,rfl,?_⟩;rw [zC8,qAD,el];have enn:(!decide (V.int (J.ns.length:Int)=V.int (J.ns.length:Int)))=false:=by simp
  rw [enn];refine iteF ?_;refine ⟨_,rfl,_,rfl,⟨_,SqL.of (k2 l _ hl (by simp))⟩,zA9 (xs:=J.ns.map V.str) (fun i σ H3=>(∃o5 o6 o7,σ=[some (.ref l),some (.ref d),some (.int b),some (.ref m),some (.ref e),o5,o6,o7])/\Kp [] H H3/\H3 e=some (.dK (dT1 (AF rs []) fun n=>.int (tI rs n)))) ⟨⟨_,_,_,rfl⟩,k2,h2⟩ (fun i σ H3 _ ⟨_,k3,_⟩=>SqL.of (k3 l _ hl (by simp))) ?_ ?_⟩
  ·clear h2 k2;rintro i v σ H3 hv ⟨⟨o5,o6,o7,rfl⟩,k3,e3⟩;obtain ⟨n,en,rfl⟩:=zA3 hv;have mn:n∈J.ns:=qAN en;have D3:=D0.kp0 k3;have hrow:H3 (la n)=some (.dK (dT1 (L n) fun _=>.bl true)):=D3.row n mn
   have nea:e≠la n:=fun z=>by
    have h:=D0.row n mn;rw [<-z] at h;have h:H e=some _:=h;rw [show H e=none from fe] at h;cases h
   refine ⟨la n,dT1 (L n) fun _=>.bl true,hrow,fun o=>?_⟩;have kf:Kp [la n] H3 (upd H3 (la n) (.frz o (.dK (dT1 (L n) fun _=>.bl true)))):=Kp.put Kp.refl (by simp);have ff:upd H3 (la n) (.frz o (.dK (dT1 (L n) fun _=>.bl true))) (la n)=some (.frz o (.dK (dT1 (L n) fun _=>.bl true))):=upd_same;generalize upd H3 (la n) (.frz o (.dK (dT1 (L n) fun _=>.bl true)))=H4 at kf ff;have e4:=kf _ _ e3 (nm1 nea)
   have dg4:DGet H4 d (.str n) (some (.ref (la n))):=by
    have:=DGet.k (k:=Sum.inr n) (kf _ _ D3.top (nm1 (fun z=>(ne0 n mn z.symm))));rw [zBe,qAC mn] at this;exact this
   have tg:∀{H5:Hp} (y:Str),y∈J.ns->H5 e=some (.dK (dT1 (AF rs []) fun n=>.int (tI rs n)))->DGet H5 e (.str y) (some (.int (tI rs y))):=fun {H5} y hy h5=>by
    have:=DGet.k (k:=Sum.inr y) h5;rw [zBe,qAC (all y hy)] at this;exact this
   refine ⟨_,rfl,_,rfl,d,_,rfl,dg4,la n,o,_,rfl,ff,fun B hB=>zHq (fun m ys τ H5=>(∃o0,τ=[o0,some (.ref e),some (.str n)])/\ys=[]/\H5=upd H4 B (.lst [])) ⟨⟨_,rfl⟩,rfl,rfl⟩ (fun m ys τ H5 ⟨_,_,z⟩=>by subst z;exact (Kp.new (M:=[]) Kp.refl hB) _ _ ff (by simp)) ?_ ?_⟩
   ·rintro m kk v ys τ H5 hv ⟨⟨o0,rfl⟩,rfl,rfl⟩;obtain ⟨y,ey,rfl⟩:=key_at hv;obtain ⟨yn,hS⟩:=sub n mn y (qAN ey);have e5:=(Kp.new (M:=[]) (l:=B) (o:=.lst []) Kp.refl hB) _ _ e4 (by simp);have hlt:=zE7 rt mn yn hS;unfold zJl;refine ⟨_,rfl,_,rfl,e,_,rfl,tg y yn e5,_,rfl,_,rfl,e,_,rfl,tg n mn e5,_,_,rfl,rfl,_,rfl,?_⟩;rw [qAh (by lia)];exact iteF ⟨⟨_,rfl⟩,rfl,rfl⟩
   ·rintro ys τ H5 ⟨_,rfl,rfl⟩;have fB:Fre H4 B:=hB;have k5:Kp [] H4 (upd H4 B (.lst [])):=Kp.new Kp.refl fB;have e5:upd H4 B (.lst []) B=some (.lst []):=upd_same;generalize upd H4 B (.lst [])=H5 at k5 e5;refine ⟨(by walk_at "ln"),fun q hq=>?_⟩;have fq:Fre H5 q:=hq;have k6:Kp [] H5 (upd H5 q (.lst [])):=Kp.new Kp.refl fq;refine .inl ⟨_,_,_,_,rfl,rfl,SqL.of (k6 _ _ e5 (by simp)),SqL.of upd_same,rfl,(fun i x y h=>by simp at h),_,rfl,iteF ?_⟩;have k46:=k5.trans k6;refine ⟨k46 _ _ ff (by simp),⟨_,_,_,rfl⟩,k3.trans (thaw_kp hrow (kf.trans (k46.weak (by simp)))),?_⟩;rw [upd_ne nea];exact k46 _ _ e4 (by simp)
  ·rintro σ H3 ⟨_,k3,_⟩;exact k H3 k3
end
end My
namespace SM
open PySem PyProof.Rows ST
section
variable {prog:Program} {w:World} {A:Around} {E:Value->Shared->Prop} {s:Shared} {a kS:Addr} {vs:List Value} {kz:List Int} {keys:Array Value} {e e1:Nat} {P:PySem.Fin->Shared->Prop}
theorem k_tail {st:SortSt} (nk:s.heap.get? kS=some (seqObj "list" keys e)) (na:s.heap.get? a=some (seqObj "list" #[] e1)) (hka:kS≠a)
  (hk:IntsAre keys.toList kz) (hlen:kz.length=vs.length) (h64:vs.length<64) (hp:(arrOf st).Perm (keys.zip vs.toArray)) (hs:SortedTo (arrOf st) (arrOf st).size) (hfl:failedOf st=none)
  (h:∀h' tk out c,(∀b o,b≠kS->b≠a->s.heap.get? b=some o->h'.get? b=some o)->h'.get? a=some (seqObj "list" out c)->KskOut false kz vs out.toList->P (.done (.ret .none)) {s with heap:=h',toks:=tk}) :
  wpAny (model prog w) A (ksk_tail a false e1 (.ref kS) st) P E s:=by
 have hsz:keys.size=vs.length:=by
  have h1:=hk.length;rw [qBA] at h1;lia
 have hsz2:(arrOf st).size=vs.length:=by rw [hp.size_eq,qDO,hsz,qAM,qDP]
 have hout:((arrOf st).map (·.2)).size=vs.length:=by rw [Array.size_map];exact hsz2
 have ko:KskOut false kz vs ((arrOf st).map (·.2)).toList:=ksk_out (b:=false) hk hp hs;unfold ksk_tail;simp only [qCB,qBb];generalize (arrOf st).map (·.2)=out at hout ko;have s1:=qAj s.heap kS (Obj.mapSeq fun _=>(#[]:Array Value));have na1:(s.heap.update kS (Obj.mapSeq fun _=>(#[]:Array Value))).get? a=some (seqObj "list" #[] e1):=(s1.2 a hka.symm).trans na;have s2:=qAj (s.heap.update kS (Obj.mapSeq fun _=>(#[]:Array Value))) a (Obj.mapSeq fun _=>out);have hc2:=qBM na1 fun _=>out;refine qAA (qBO nk rfl ?_ (by rw [hsz,qAK];lia) (qAX _));refine qAA (qBt ?_);refine qAA (qB9 na1 rfl ?_);refine qAA (qBO na1 rfl ?_ (qAX _) (qAT (qBF hout) (by rw [qAK];lia)));rw [hfl];simp only [qDK,qCB,qBb];exact qAE (h _ _ out _ (fun b o n1 n2 q=>(s2.2 b n2).trans ((s1.2 b n1).trans q)) hc2 ko)
theorem k_end (nk:s.heap.get? kS=some (seqObj "list" keys e)) (na:s.heap.get? a=some (seqObj "list" #[] e1)) (hka:kS≠a)
  (hk:IntsAre keys.toList kz) (hlen:kz.length=vs.length) (h64:vs.length<64)
  (h:∀h' tk out c,(∀b o,b≠kS->b≠a->s.heap.get? b=some o->h'.get? b=some o)->h'.get? a=some (seqObj "list" out c)->KskOut false kz vs out.toList->P (.done (.ret .none)) {s with heap:=h',toks:=tk}) :
  wpAny (model prog w) A (ksk_end a false vs.toArray e1 (.ref kS) keys) P E s:=by
 have hsz:keys.size=vs.length:=by
  have h1:=hk.length;rw [qBA] at h1;lia
 have hzs:(keys.zip vs.toArray).size=vs.length:=by rw [qDO,hsz,qAM,qDP]
 unfold ksk_end;simp only [qCB,qBb]
 by_cases h2:vs.toArray.size<2
 ·rw [qAC h2,qAC h2];refine qAA (qAE ?_);rw [StateT.run_pure];refine qAA (qAE ?_)
  try dsimp only
  refine k_tail (st:=SortSt.mk' general' (keys.zip vs.toArray) #[] 7 none) nk na hka hk hlen h64 (qCp _) ?_ rfl h;intro i j hij hj;have hj2:j<(keys.zip vs.toArray).size:=hj;rw [hzs] at hj2;rw [qAM] at h2;have:i=j:=by lia
  subst this;exact qBZ _
 ·rw [qAB h2,qAB h2];rw [qAM] at h2;rw [ksk_kind hk (by rw [hsz];lia)];refine qAA (qAE ?_)
  refine qAA (qAp (wpS_sortRuns (a₀:=keys.zip vs.toArray) (st:=SortSt.mk' oneType' (keys.zip vs.toArray) #[] 7 none)
   (Q:=fun _ st'=>(arrOf st').Perm (keys.zip vs.toArray)/\failedOf st'=none/\SortedTo (arrOf st') (keys.zip vs.toArray).size)
   (ksk_intKeys hk) ⟨qCp _,rfl,rfl,rfl⟩ (by rw [hzs];lia) (by rw [hzs];exact h64) fun st' a1 a2 a3=>⟨a1,a2,a3⟩) ?_ fun _ _ e=>e)
  rintro ⟨⟨⟩,st'⟩ s' ⟨rfl,hp,hf,hs⟩
  try dsimp only
  exact k_tail nk na hka hk hlen h64 hp (by rw [hp.size_eq];exact hs) hf h
theorem k_rest {f:Value} (J:Shared->Prop) (hJ:J s) (nk:s.heap.get? kS=some (seqObj "list" #[] 0)) (na:s.heap.get? a=some (seqObj "list" #[] e1)) (hka:kS≠a) (hlen:kz.length=vs.length) (h64:vs.length<64)
  (turn:∀(i:Nat) (v:Value) (k:Int),vs[i]?=some v->kz[i]?=some k->∀s',J s' ->
   wpAny (model prog w) A (call f [v]) (fun r s2=>(∃t,r= .int k t)/\J s2/\∀b,b=kS\/b=a->∀o,s'.heap.get? b=some o->s2.heap.get? b=some o) (fun _ _=>False) s')
  (put:∀s' h',J s'->(∀b o,b≠kS->s'.heap.get? b=some o->h'.get? b=some o)->(∃o,h'.get? kS=some o)->J {s' with heap:=h'})
  (h:∀s' h' tk out c,J s'->(∀b o,b≠kS->b≠a->s'.heap.get? b=some o->h'.get? b=some o)->h'.get? a=some (seqObj "list" out c)->KskOut false kz vs out.toList->P (.done (.ret .none)) {s' with heap:=h',toks:=tk}) :
  wpAny (model prog w) A (ksk_rest a f false vs.toArray e1 (.ref kS)) P E s:=by
 unfold ksk_rest;refine qAA (qBG ?_)
 first
  | rw [List.forIn_toArray]
  | (rw [<-qCP];simp only [List.toList_toArray])
  | rw [<-qCP]
 refine qAA (ksk_fold (fun i s'=>J s'/\∃kA e,s'.heap.get? kS=some (seqObj "list" kA e)/\s'.heap.get? a=some (seqObj "list" #[] e1)/\IntsAre kA.toList (kz.take i)) vs 0 s
  ⟨hJ,#[],0,nk,na,by simpa using IntsAre.nil⟩ ?step ?done)
 case step =>
  rintro j x s' hx ⟨hJ',kA,e,nk',na',hk⟩;simp only [Nat.zero_add] at hk ⊢;have hj:j<vs.length:=(qAf.mp hx).1;obtain ⟨k,hkj⟩:∃k,kz[j]?=some k:=⟨_,qAr (by lia)⟩
  have hz:kA.size<=vs.length:=by
   have h1:=hk.length;rw [qBA,qAY] at h1;lia
  refine qAA (qB2 (qAp (turn j x k hx hkj s' hJ') (fun v s'' he=>?_) fun _ _ hF=>hF.elim));obtain ⟨⟨t2,rfl⟩,J2,kp⟩:=he
  try dsimp only
  have nk2:=kp kS (.inl rfl) _ nk';have na2:=kp a (.inr rfl) _ na';have s1:=qAj s''.heap kS (Obj.mapSeq (·.push (.int k t2)));obtain ⟨c2,hc2⟩:∃c2,(s''.heap.update kS (Obj.mapSeq (·.push (.int k t2)))).get? kS=some (seqObj "list" (kA.push (.int k t2)) c2):=⟨_,qBM nk2 (·.push (.int k t2))⟩;have ek:kz.take (j+1)=kz.take j++[k]:=by rw [List.take_add_one,hkj];simp
  have ea:(kA.push (Value.int k t2)).toList=kA.toList++[Value.int k t2]:=by simp
  refine qAA (qBO nk2 rfl ?_ (by rw [qAK];lia) (qAT (qBF (Array.size_push ..)) (by rw [qAK];lia)));exact qAE ⟨rfl,put s'' _ J2 (fun b o n q=>(s1.2 b n).trans q) ⟨_,hc2⟩,kA.push (.int k t2),c2,hc2,(s1.2 a hka.symm).trans na2,by rw [ea,ek];exact ksk_snoc hk⟩
 case done =>
  rintro s' ⟨hJ',kA,e,nk',na',hk⟩
  have hk':IntsAre kA.toList kz:=by
   have e3:kz.take (0+vs.length)=kz:=qBq (by lia);rw [e3] at hk;exact hk
  try dsimp only
  refine qAA (qCr nk' rfl ?_);exact k_end nk' na' hka hk' hlen h64 fun h3 tk3 out c k3 g3 o3=>h s' h3 tk3 out c hJ' k3 g3 o3
theorem w_sortedK {f:Addr} {v:Value} {Q:Value->Shared->Prop} {Jc:List Value->Shared->Prop} (hc:wpAny (model prog w) A.in1 (collect v) Jc E s)
  (hJ:∀vs s1,Jc vs s1->vs.length<64/\∃(kz:List Int) (J:Shared->Prop),kz.length=vs.length /\
   (∀h',(∀b o,s1.heap.get? b=some o->h'.get? b=some o)->(∃o,h'.get? s1.heap.objs.size=some o)->(∃o,h'.get? (s1.heap.objs.size+2)=some o)->J {s1 with heap:=h'}) /\
   (∀(i:Nat) (v:Value) (k:Int),vs[i]?=some v->kz[i]?=some k->∀s',J s'->wpAny (model prog w) A.in1.in1 (call (.ref f) [v]) (fun r s2=>(∃t,r= .int k t)/\J s2/\∀b,b=s1.heap.objs.size+2\/b=s1.heap.objs.size->∀o,s'.heap.get? b=some o->s2.heap.get? b=some o) (fun _ _=>False) s') /\
   (∀s' h',J s'->(∀b o,b≠s1.heap.objs.size+2->s'.heap.get? b=some o->h'.get? b=some o)->(∃o,h'.get? (s1.heap.objs.size+2)=some o)->J {s' with heap:=h'}) /\
   ∀s' h' tk out c,J s'->(∀b o,b≠s1.heap.objs.size+2->b≠s1.heap.objs.size->s'.heap.get? b=some o->h'.get? b=some o)->h'.get? s1.heap.objs.size=some (seqObj "list" out c)->KskOut false kz vs out.toList->Q (.ref s1.heap.objs.size) {s' with heap:=h',toks:=tk}) :
  wpAny (model prog w) A (call (.builtin "sorted") [v] [(Str.ofString "key",.ref f)]) Q E s:=by
 refine call_function_entry_kw kind_sorted plain_sorted entry_sorted (ksk_s1 _ _) ?_;unfold Builtin.«sorted»;refine qAA (m:=checkCount "sorted" 1 1 _) (qAE ?_);refine qAA (qAp hc (fun vs s1 j=>?_) fun _ _ x=>x);obtain ⟨j1,kz,J,j2,j3,j4,j5,j6⟩:=hJ vs s1 j;refine qAA (qCA ?_ (by rw [qAK];lia));have hD:(s1.heap.push (seqObj "list" vs.toArray 0)).get? s1.heap.objs.size=some (seqObj "list" vs.toArray 0):=qAb _ rfl;change wpAny _ _ _ _ _ {s1 with heap:=s1.heap.push (seqObj "list" vs.toArray 0)};have ne:∀b o,s1.heap.get? b=some o->b≠s1.heap.objs.size:=fun b o q=>qAV (qAL q);refine qAA (qAy (wpAny_call_entry_kw slot_list_sort ⟨_,hD,rfl⟩ entry_list_sort ?body (ksk_l1 _ _)))
 case body =>
  rw [ksk_t1];have ha:s1.heap.objs.size<(s1.heap.push (seqObj "list" vs.toArray 0)).objs.size:=qAL hD;have s2:=qAj (s1.heap.push (seqObj "list" vs.toArray 0)) s1.heap.objs.size (Obj.mapSeq fun _=>(#[]:Array Value));obtain ⟨e1,ho1⟩:∃e1,((s1.heap.push (seqObj "list" vs.toArray 0)).update s1.heap.objs.size (Obj.mapSeq fun _=>(#[]:Array Value))).get? s1.heap.objs.size=some (seqObj "list" #[] e1):=⟨_,qBM hD fun _=>#[]⟩;have hkS:(((s1.heap.push (seqObj "list" vs.toArray 0)).update s1.heap.objs.size (Obj.mapSeq fun _=>(#[]:Array Value))).push (seqObj "tuple" vs.toArray 0)).objs.size=s1.heap.objs.size+2:=by rw [size_push',Heap.size_update,size_push']
  unfold ksk_tree;refine qAA (qCr hD rfl ?_);refine qAA (qBO hD rfl ?_ (by rw [qAM,qAK];lia) (qAX _));refine qAA (qB9 ho1 rfl ?_);refine qAA (qCl ?_ (by show vs.length<=_;rw [qAK];lia));refine qAA (qCA ?_ (qAX _));refine qAy ?_;rw [hkS];refine k_rest (kS:=s1.heap.objs.size+2) (a:=s1.heap.objs.size) (s:={s1 with heap:=(((s1.heap.push (seqObj "list" vs.toArray 0)).update s1.heap.objs.size (Obj.mapSeq fun _=>(#[]:Array Value))).push (seqObj "tuple" vs.toArray 0)).push (seqObj "list" #[] 0)}) J (j3 _ (fun b o q=>?_) ⟨_,qAJ _ (qAJ _ ho1)⟩ ⟨seqObj "list" #[] 0,by rw [<-hkS];exact qAb _ rfl⟩) (by rw [<-hkS];exact qAb _ rfl) (qAJ _ (qAJ _ ho1)) (qA4 (qBn (qBy _))) j2 j1 j4 j5 fun s' h' tk out c jj kk gg oo=>?_
  ·exact qAJ _ (qAJ _ ((s2.2 b (ne b o q)).trans (qAJ _ q)))
  ·exact ⟨_,rfl,qAE ⟨_,rfl,j6 s' h' tk out c jj kk gg oo⟩⟩
end
end SM
namespace L2
open PySem PySem.Spec PyProof.Rows
section
variable {X:Cx} {pins:List (Addr×Obj)} {σ:St} {H:Hp} {s:Shared}
def tSortM (ta:TA) (iy:Nat) (P:Addr) (qual:Str) (lp:Pos) (te:TE):TE:=fun σ H Q=>ta σ H fun xs H1=>∃(a:Addr) (ks:List Str) (g:Str->Int) (vy:V),xs=[.ref a]/\σ[iy]?=some (some vy)/\H1 a=some (.lst (ks.map V.str))/\ks.length<64/\Tab0 H1 P qual lp /\
 ∀H2,Kp [P] H1 H2->Tab1 H2 P qual lp->(∀x∈ks,∀H',Kp [] H2 H'->te [some (.str x),some vy] H' fun r H3=>r= .int (g x)/\Kp [] H' H3)/\∀(b:Addr) (zs:List Str) (H3:Hp),Kp [] H2 H3->H3 b=none->zs.Perm ks->zs.Pairwise (fun x y=>g x<=g y)->Q (.ref b) (upd H3 b (.lst (zs.map V.str)))
theorem zIe {e:Expr} {ta:TA} {p pos kp lp:Pos} {params:Arguments} {body:Expr} {scope:Scope} {x y qual:Str} {c c0 P:Addr} {iy:Nat} {te:TE} {k:Nat} (hr:Room (k+3) X.A) (hc':X.calm=true) (hg:Gl X "sorted") (hm:X.mg "sorted" = none) (hb:bootBuiltins "sorted" = some (.builtin "sorted")) (ha:PA X [e] ta)
  (S:LamScope x y scope) (ne:x≠y) (hN:X.N[iy]?=some y) (hk:X.env.kindOf y=some .cell) (hy:X.env.cells.lookup y=some c) (hcl:closureFor scope X.env=pure [(y,c)]) (hq:X.env.qual++ "<lambda>" = qual) (hcode:X.env.code= .ref c0) (C:PySem.W.CodeHd X.base c0 P) (B:zGi X.mg X.base)
  (hdef:defaultsOf params X.env=([],[])) (hbind:∀(pm:Value) (c':Addr) (ctv u:Value),bindArgs (PySem.W.kla_fn "<lambda>" qual params body scope [(y,c)] pm (.ref c') ctv) ⟨[u],[]⟩=pure [(x,u)])
  (ht:∀(f:Addr) (cd:Value) (A:Around) (s:Shared) (H:Hp),Room k (A.deeper (PySem.W.envX qual scope s.heap.objs.size f cd [(y,c)]))->PE (cxLam X [x,y] qual scope f cd [(y,c)] A s H) body te) (hs:starEach [e] X.env=[(false,eval e X.env)]:=by rfl) :
  PE X (.Call (.Name "sorted" p) [e] [⟨some (Str.ofString "key"),.Lambda params body scope lp,kp⟩] pos) (tSortM ta iy P qual lp te):=by
 intro pins s σ H Q I h;refine qBz (zFe I hg hm hb ?_);refine qDk (by rw [hs];rfl) rfl ?_;have ha':=ha pos pins s σ H _ I h;have e0:backTo pos (starEach [e] X.env)=(false,eval e X.env)::[]:=by rw [hs];rfl
 rw [e0] at ha' ⊢;refine evalArgs_kwB rfl (thn ha' fun us s1 ⟨vs,H1,I1,r1,q1⟩=>?_);obtain ⟨a,ks,g,vy,e1,hσ,ea,hl64,T,q⟩:=q1;subst e1;obtain ⟨u,rfl,ru⟩:=r1.one
 cases ru
 show wpAny _ _ (evalAll ((do let v<-eval (.Lambda params body scope lp) X.env;standAt pos;pure v)::[])) _ _ s1;refine qCx (qAA (PySem.W.kla_eval hdef ?_));rw [hq];refine lam_make I1 hcl hcode C B T fun f c' ctv pm H2 s2 I2 k2 T2 ec fo ff=>?_;refine qAA (qBv (qAE (wpAny_evalAll_nil ?_)));obtain ⟨qb,qr⟩:=q H2 k2 T2
 have naP:a≠P:=fun z=>by
  rcases T with t| ⟨_,t,_⟩
  ·rw [z,t] at ea;cases ea
  ·rw [z,t] at ea;cases ea
 have ea2:H2 a=some (.lst (ks.map V.str)):=k2 a _ ea (by simp [naP]);obtain ⟨its0,r',pl,hz0⟩:=I2.list (SqL.of (K:=X.K) ea2);have hS0:=zEz r';have hln0:its0.length=ks.length:=ST.strs_len hS0
 refine SM.w_sortedK
  (Jc:=fun its s1=>StrsAre its ks/\∃h1 tk,s1={s2 with heap:=h1,toks:=tk}/\∀b o,s2.heap.get? b=some o->h1.get? b=some o)
  (collect_list pl.isList ⟨hS0,_,_,rfl,fun b o e=>?_⟩ (by rw [qAK];lia)) fun its s3 ⟨hS,h1,tk,v2,v3⟩=>?_
 ·have hlt:=qAL e;rw [qBk _ _ (qA4 hlt)];exact qAJ _ e
 ·subst v2;have hln:its.length=ks.length:=ST.strs_len hS;have I3:Inv X pins σ H2 {s2 with heap:=h1,toks:=tk}:=I2.kept v3;have fo3:h1.get? f=some _:=v3 _ _ fo;have flt:f<h1.objs.size:=qAL fo3;have fa:FpOk X pins H2 h1.objs.size:=I3.fpOk (qAG _) (I3.hok.fresh (qAG _));have fk:FpOk X pins H2 (h1.objs.size+2):=I3.fpOk (qBT _ _) (I3.hok.fresh (qBT _ _));have ff3:H2 f=none:=ff.1;refine ⟨by lia,ks.map g,fun s'=>∃H',Kp [] H2 H'/\Inv X pins σ H' s'/\s'.heap.get? f=some (PySem.W.kla_obj "<lambda>" qual params body scope [(y,c)] pm c' ctv)/\H' f=none/\H' h1.objs.size=none/\H' (h1.objs.size+2)=none/\(∃o,s'.heap.get? h1.objs.size=some o)/\∃o,s'.heap.get? (h1.objs.size+2)=some o,by rw [qAD,hln],fun h' up ha hk=>⟨H2,Kp.refl,I3.kept (t':=tk) up,up _ _ fo3,ff3,fa.1,fk.1,ha,hk⟩,?_,?_,?_⟩
  ·rintro i v kx hv hkx s' ⟨H4,k4,I4,fo4,ff4,fa4,fk4,⟨oa,ha4⟩,ok',hk4⟩;rw [qAe] at hkx;obtain ⟨x',ex',rfl⟩:=qBH.mp hkx
   obtain ⟨t,rfl⟩:∃t,v= .str x' t:=by
    have h1:=hS.all v (qAN hv);obtain ⟨x2,t,rfl⟩:=h1;have h2:(its.map strOf)[i]?=some x2:=by rw [qAe,hv];rfl
    rw [hS.strs,ex'] at h2
    cases h2
    exact ⟨t,rfl⟩
   obtain ⟨uy,ry,iy'⟩:=I4.cellAt hN hσ hk hy;have hr2:Room (k+1) X.A.in1.in1:=Room.in1 (Room.in1 hr);have fa':FpOk X pins H4 h1.objs.size:=⟨fa4,fa.2⟩;have fk':FpOk X pins H4 (h1.objs.size+2):=⟨fk4,fk.2⟩;have ff':FpOk X pins H4 f:=⟨ff4,ff.2⟩;refine qAp (lam_call (A:=X.A.in1.in1) (vx:=.str x') I4 I4.ok.frames hr2.hd hr2.depth fo4 (codeO_rec I4 (k4 _ _ ec (by simp))) S ne (hbind _ _ _ _) hy iy' ry ⟨t,rfl⟩ (ht _ _ _ _ _ (hr2.deeper _)) (qb x' (qAN ex') H4 k4)) (fun r s5 hE=>?_) fun _ _ hF=>hF;obtain ⟨v,H5,os,bare,un,hok5,rv,qv,qh⟩:=hE;subst qv;obtain ⟨t',rfl⟩:=rv;have keepA:=un.keep _ _ ha4 fa'.1 (fa'.nstk I4) (by simp);have keepK:=un.keep _ _ hk4 fk'.1 (fk'.nstk I4) (by simp);refine ⟨⟨t',rfl⟩,⟨H5,k4.trans qh,I4.call' os un hok5 bare (fun b z=>nomatch z),un.keep _ _ fo4 ff'.1 (ff'.nstk I4) (by simp),un.free _ _ fo4 ff'.1 (by simp),un.free _ _ ha4 fa'.1 (by simp),un.free _ _ hk4 fk'.1 (by simp),⟨_,keepA⟩,_,keepK⟩,fun b hb o qo=>?_⟩;rcases hb with rfl| rfl
   ·exact un.keep _ _ qo fk'.1 (fk'.nstk I4) (by simp)
   ·exact un.keep _ _ qo fa'.1 (fa'.nstk I4) (by simp)
  ·rintro s' h' ⟨H4,k4,I4,fo4,ff4,fa4,fk4,⟨oa,ha4⟩,ok',hk4⟩ kk hex;exact ⟨H4,k4,I4.turned (t':=s'.toks) kk fk4 fk.2.1 fk.2.2.2.1 fk.2.2.2.2.1 fk.2.2.2.2.2,kk _ _ (qAV (qAl flt (qBT _ _))) fo4,ff4,fa4,fk4,⟨_,kk _ _ (qAV (Nat.lt_add_of_pos_right (by decide))) ha4⟩,hex⟩
  ·rintro s' h' tk' out c2 ⟨H4,k4,I4,fo4,ff4,fa4,fk4,_,_⟩ kk gg ⟨ps,pp,po,pw⟩;have hp':∀p∈ps,∃x t,x∈ks/\p=(g x,.str x t):=fun p hp=>zIo hS p (pp.mem_iff.mp hp)
   have hall:∀v∈out.toList,∃x t,v= .str x t:=fun v hv=>by
    rw [po] at hv;obtain ⟨p,hp,rfl⟩:=qAI.mp hv;obtain ⟨x,t,_,e⟩:=hp' p hp;exact ⟨x,t,by rw [e]⟩
   have hO:=strsAre_map out.toList hall
   have hpz:(out.toList.map strOf).Perm ks:=by
    have h1:(ps.map Prod.snd).Perm its:=by
     have:=pp.map Prod.snd
     rwa [List.map_snd_zip (by rw [qAD,hln];exact qAG _)] at this
    rw [po];have:=h1.map strOf
    rwa [hS.strs] at this
   have hsr:(out.toList.map strOf).Pairwise (fun x y=>g x<=g y):=by
    rw [po,qAt,qC6];refine pw.imp_of_mem fun {p q} hp hq z=>?_;obtain ⟨x,t,_,e⟩:=hp' p hp;obtain ⟨x',t',_,e'⟩:=hp' q hq;subst e e';exact z
   have hz:((out.toList.map strOf).map V.str).length<=sizeLine:=by rw [qAD,hpz.length_eq,qAK];lia
   have un:Un (frs X.stack) [h1.objs.size+2,h1.objs.size] H4 H4 s'.heap h':=by
    have k':∀b o,b∉([h1.objs.size+2,h1.objs.size]:List Addr)->s'.heap.get? b=some o->h'.get? b=some o:=fun b o n q=>kk b o (fun z=>n (by simp [z])) (fun z=>n (by simp [z])) q;exact ⟨fun b o q n _ x=>k' b o x q,fun b o q n _ x=>⟨o.slots,k' b o x q⟩,fun b o q n _=>n,fun b o q x=>⟨o,k' b o x q⟩,fun _ _ q=>q,fun _ _ _ q=>q,fun b ps q=>⟨#[],by rw [q];simp⟩⟩
   have hok2:HOk X.prog X.w H4 h':=fun b o q=>by
    refine (I4.hok b o q).stay (fun d v hd y=>?_) (fun _ y=>y) fun _ _ y=>y
    have nn:H4 d≠none:=by
     rcases hd with rfl| hd
     ·rw [q];simp
     ·rw [hd];simp
    exact kk d v (fun z=>nn (by rw [z];exact fk4)) (fun z=>nn (by rw [z];exact fa4)) y
   have I5:Inv X pins σ H4 {s' with heap:=h',toks:=tk'}:=I4.call' rfl un hok2 I4.bare fun b hb=>by
    have:b=h1.objs.size+2\/b=h1.objs.size:=by simpa using hb
    rcases this with rfl| rfl
    ·exact ⟨fk.2.2.2.1,fk.2.1,fk.2.2.2.2.1,fk.2.2.2.2.2⟩
    ·exact ⟨fa.2.2.2.1,fa.2.1,fa.2.2.2.2.1,fa.2.2.2.2.2⟩
   have new:zAy X.prog X.w (upd H4 h1.objs.size (.lst ((out.toList.map strOf).map V.str))) h' h1.objs.size (.lst ((out.toList.map strOf).map V.str)):=⟨hz,out.toList,c2,zE1 hO,by simpa using gg⟩;exact ⟨.ref h1.objs.size,_,I5.adopt (⟨fa4,fa.2⟩:FpOk X pins H4 h1.objs.size) new,rfl,qr _ _ H4 k4 fa4 hpz hsr⟩
end
section
variable {prog:Program} {w:World} {A:Around} {R:Result->Shared->Prop} {I:Addr} {fp wr:List Addr} {n:Nat} {P:Nat->Value->Prop} {St:Nat->Heap->Prop} {d:Value}
theorem maxD_loop (W:Walks prog w A.in1 I fp wr n P St) (bt:Nat->Nat->Bool) (C:CmpOf prog w A.in1 .Gt P bt) (S:Addr) (hS:S∉fp):∀(k j:Nat) (s:Shared) (vb:Value) (c:Nat),n - (j+1)=k->j+1<=n->St (j+1) s.heap->P (argBest bt j) vb ->
  s.heap.get? S=some {cls:=Value.type "list",data:=Data.seq #[vb,vb] c}->(∀(v:Value) (h':Heap) (tk:Nat),P (argBest bt (n - 1)) v->(∀(b:Addr) (o:Obj),b∉wr->b≠S->s.heap.get? b=some o->h'.get? b=some o)->R (Except.ok (Flow.ret v)) {s with heap:=h',toks:=tk}) ->
  codeAny (model prog w) A (Code.builtin "max.loop" {pos:=[.ref I,.none,.ref S],kw:=[(Str.ofString "default",d)]}) R s:=by
 intro k
 induction k with
 | zero =>
  intro j s vb c hk hj hst hp hget h;refine qBV F.entry_max_loop ?_;rw [qBf F.plain_max_loop _];refine qAA (m:=seqItems? (.ref S)) ?_;rw [seqItems?.eq_1];refine qAA (qBx hget ?_);refine qAE ?_;have en:j+1=n:=by lia
  rw [en] at hst;refine qAA (qCt (W.done s _ _ hst fun h' tk hk'=>?_));have g2:=hk' S _ (fun z=>hS (W.sub S z)) hget;have sb:=qAj h' S (Obj.mapSeq fun _=>(#[]:Array Value));refine qAA (qCR (s:={s with heap:=h',toks:=tk}) g2 rfl (qAA (qBt (qAE ?_))) (by rw [qAK];simp) (by rw [qAK];simp));refine h vb _ tk (by rw [<-en];exact hp) fun b o n1 n2 q=>(sb.2 b n2).trans (hk' b o n1 q)
 | succ k ih =>
  intro j s vb c hk hj hst hp hget h;refine qBV F.entry_max_loop ?_;rw [qBf F.plain_max_loop _];refine qAA (m:=seqItems? (.ref S)) ?_;rw [seqItems?.eq_1];refine qAA (qBx hget ?_);refine qAE ?_;refine qAA (qCt (W.item (j+1) s _ _ (by lia) hst fun v h' tk hv st' hk'=>?_));have g2:=hk' S _ (fun z=>hS (W.sub S z)) hget;refine qAA (qAE ?_);refine qAA (qCt (qAy (qAA (C (j+1) (argBest bt j) v vb _ _ _ hv hp ?_))));refine qAA (qAy (qBE ?_));refine qAA (qBt (qAE ?_))
  cases e:bt (j+1) (argBest bt j) with
  | true =>
   show wpAny _ _ (if true=true then _ else _) _ _ _;rw [qAC rfl];have sb:=qAj h' S (Obj.mapSeq fun _=>(#[v,v]:Array Value));refine qAA (qCR (s:={s with heap:=h',toks:=tk}) g2 rfl (qAA (qBt (qAE ?_))) (by rw [qAK];simp) (by rw [qAK];simp));refine ⟨rfl,ih (j+1) _ v _ (by lia) (by lia) (W.frame _ _ _ st' fun b hb o q=>(sb.2 b (fun z=>hS (by rw [<-z];exact hb))).trans q) ?_ (qBM g2 fun _=>#[v,v]) fun v2 h2 tk2 p2 k2=>h v2 h2 tk2 p2 fun b o n1 n2 q=>k2 b o n1 n2 ((sb.2 b n2).trans (hk' b o n1 q))⟩;show P (if bt (j+1) (argBest bt j)=true then j+1 else argBest bt j) v;rw [e,qAC rfl];exact hv
  | false =>
   show wpAny _ _ (if false=true then _ else _) _ _ _;rw [qAB (by decide)];refine qAA (qBt (qAE ?_));refine ⟨rfl,ih (j+1) _ vb c (by lia) (by lia) st' ?_ g2 fun v2 h2 tk2 p2 k2=>h v2 h2 tk2 p2 fun b o n1 n2 q=>k2 b o n1 n2 (hk' b o n1 q)⟩;show P (if bt (j+1) (argBest bt j)=true then j+1 else argBest bt j) vb;rw [e,qAB (by decide)];exact hp
theorem maxD_first (W:Walks prog w A.in1 I fp wr n P St) (bt:Nat->Nat->Bool) (C:CmpOf prog w A.in1 .Gt P bt) (S:Addr) (hS:S∉fp) {s:Shared} {c:Nat} (hst:St 0 s.heap) (hget:s.heap.get? S=some {cls:=Value.type "list",data:=Data.seq #[] c})
  (h0:n=0->∀(h':Heap) (tk:Nat),(∀(b:Addr) (o:Obj),b∉wr->b≠S->s.heap.get? b=some o->h'.get? b=some o)->R (Except.ok (Flow.ret d)) {s with heap:=h',toks:=tk})
  (h:0<n->∀(v:Value) (h':Heap) (tk:Nat),P (argBest bt (n - 1)) v->(∀(b:Addr) (o:Obj),b∉wr->b≠S->s.heap.get? b=some o->h'.get? b=some o)->R (Except.ok (Flow.ret v)) {s with heap:=h',toks:=tk}) :
  codeAny (model prog w) A (Code.builtin "max.loop" {pos:=[.ref I,.none,.ref S],kw:=[(Str.ofString "default",d)]}) R s:=by
 refine qBV F.entry_max_loop ?_;rw [qBf F.plain_max_loop _];refine qAA (m:=seqItems? (.ref S)) ?_;rw [seqItems?.eq_1];refine qAA (qBx hget ?_);refine qAE ?_
 by_cases c0:n=0
 ·have hst0:St n s.heap:=by rw [c0];exact hst
  refine qAA (qCt (W.done s _ _ hst0 fun h' tk hk'=>?_));exact qAA (qBG (qAE (h0 c0 h' tk fun b o n1 _ q=>hk' b o n1 q)))
 ·refine qAA (qCt (W.item 0 s _ _ (by lia) hst fun v h' tk hv st' hk'=>?_));have g2:=hk' S _ (fun z=>hS (W.sub S z)) hget;refine qAA (qAE ?_);have sb:=qAj h' S (Obj.mapSeq fun _=>(#[v,v]:Array Value));refine qAA (qCR (s:={s with heap:=h',toks:=tk}) g2 rfl (qAE ?_) (by rw [qAK];simp) (by rw [qAK];simp));exact ⟨rfl,maxD_loop W bt C S hS (n - 1) 0 _ v _ (by lia) (by lia) (W.frame _ _ _ st' fun b hb o q=>(sb.2 b (fun z=>hS (by rw [<-z];exact hb))).trans q) hv (qBM g2 fun _=>#[v,v]) fun v2 h2 tk2 p2 k2=>h (by lia) v2 h2 tk2 p2 fun b o n1 n2 q=>k2 b o n1 n2 ((sb.2 b n2).trans (hk' b o n1 q))⟩
end
section
variable {X:Cx}
def tMaxD (ta:TA) (dv:Int):TE:=fun σ H Q=>ta σ H fun xs H1=>∃(p:Addr) (ns:List Int),xs=[.ref p]/\SqL X.K H1 p (ns.map V.int)/\(ns=[]->Q (.int dv) H1)/\∀M,M∈ns->(∀a∈ns,a<=M)->Q (.int M) H1
theorem pe_maxD {a:Expr} {ta:TA} {p pos kp ip:Pos} {jj:Nat} {dv:Int} (hc':X.calm=true) (hg:Gl X "max") (hm:X.mg "max" = none) (hb:bootBuiltins "max" = some (.builtin "max")) (ha:PA X [a] ta) (hs:starEach [a] X.env=[(false,eval a X.env)]:=by rfl) :
  PE X (.Call (.Name "max" p) [a] [⟨some (Str.ofString "default"),.Constant (.int dv) jj ip,kp⟩] pos) (tMaxD (X:=X) ta dv):=by
 intro pins s σ H Q I h;refine qBz (zFe I hg hm hb ?_);refine qDk (by rw [hs];rfl) rfl ?_;have ha':=ha pos pins s σ H _ I h;have e0:backTo pos (starEach [a] X.env)=(false,eval a X.env)::[]:=by rw [hs];rfl
 rw [e0] at ha' ⊢;refine evalArgs_kwB rfl (thn ha' fun us s1 ⟨vs,H1,I1,r1,q1⟩=>?_);refine thn (pk_cons zAg pk_nil pos pins s1 σ H1 (fun zs H2=>zs=[.int dv]/\H2=H1) I1 ⟨rfl,rfl⟩) fun ws s2 ⟨zs,H2,I2,rz,ez,eh⟩=>?_;subst ez eh;obtain ⟨p,ns,e,hq,q0,q⟩:=q1;subst e;obtain ⟨u,rfl,ru⟩:=r1.one
 cases ru
 obtain ⟨w1,rfl,rw1⟩:=rz.one;obtain ⟨t1,rfl⟩:=rw1;obtain ⟨its,r,pl,hz⟩:=I2.list hq;obtain ⟨xs,rfl,e⟩:=ints_of r;have hd:=I2.ok.hd hc';have hI:=pl.isList;have ck:checkBuiltinCall "max" {pos:=[.ref p],kw:=[(Str.ofString "default",.int dv t1)]}=pure ():=rfl;refine qCF (f:=.builtin "max") (pos:=[.ref p]) (kw:=[(Str.ofString "default",.int dv t1)]) (codeAny_call_builtin_code rfl ?_);rw [ck];refine qAE (qBV F.entry_max ?_);rw [qBf F.plain_max _];refine qAA (m:=Builtin.Builtins.bindParams "max" ["key", "default"] 0 {kw:=[(Str.ofString "default",.int dv t1)]}) (qAE ?_);refine qAA (qAE ?_);refine qAA (Flt.iter_list_ hI fun s3 e3 ⟨w1,w2⟩ w3 w4=>?_);refine qAA (qCA ?_ (qAX _));refine qAE ⟨rfl,?_⟩;have k3:∀b o,s2.heap.get? b=some o->s3.heap.get? b=some o:=fun b o q=>by rw [e3];exact qAJ _ q
 have W:=Walks.list (prog:=X.prog) (w:=X.w) (A:=X.A.in1) hd s2.heap.objs.size p w4 (xs.map fun p=>Value.int p.1 p.2).toArray
 have hat:∀(i:Nat) (v:Value),(xs.map fun p=>Value.int p.1 p.2).toArray[i]?=some v->∃t,v= .int ((xs.map (·.1)).getD i 0) t:=fun i v hv=>by
  rw [qDe,qAe] at hv;obtain ⟨y,ey,rfl⟩:=qBH.mp hv;exact ⟨y.2,by rw [qA6,qAe,ey];rfl⟩
 have C:=CmpOf.ints_gt (prog:=X.prog) (w:=X.w) (A:=X.A.in1) (P:=fun i v=>(xs.map fun p=>Value.int p.1 p.2).toArray[i]?=some v) (fun i=>(xs.map (·.1)).getD i 0) hat;have hnew:(s3.heap.push {cls:=.type "list",data:=.seq #[]}).get? s3.heap.objs.size=some {cls:=.type "list",data:=.seq #[] 0}:=qAb _ rfl;have up:∀b o,s3.heap.get? b=some o->(s3.heap.push {cls:=.type "list",data:=.seq #[]}).get? b=some o:=fun b o q=>qAJ _ q;have hnn:s3.heap.objs.size∉[s2.heap.objs.size,p]:=fun z=>qAu _ (w3 _ z);refine maxD_first (A:=X.A) W _ C s3.heap.objs.size hnn ?_ hnew (fun n0 h' tk kk=>?_) (fun n0 v h' tk pv kk=>?_)
 ·exact W.frame 0 s3.heap _ ⟨w1,w2⟩ fun b hb o q=>up b o q
 ·have xn:xs=[]:=by
   have:xs.length=0:=by simpa using n0
   exact qCj.mp this
  have lk:∀b o,s2.heap.get? b=some o->h'.get? b=some o:=fun b o q=>kk b o (by
   have:=qAL q;intro z;have z:b=s2.heap.objs.size:=by simpa using z
   exact absurd this (by rw [z];exact qAu _)) (fun z=>by
    have:=qAL (k3 b o q);exact absurd this (by rw [z];exact qAu _)) (up b o (k3 b o q))
  subst e3;exact ⟨.int dv,H2,I2.kept (t':=tk) lk,⟨t1,rfl⟩,q0 (by rw [<-e,xn];rfl)⟩
 ·have n0:0<xs.length:=by simpa using n0
  have lk:∀b o,s2.heap.get? b=some o->h'.get? b=some o:=fun b o q=>kk b o (by
   have:=qAL q;intro z;have z:b=s2.heap.objs.size:=by simpa using z
   exact absurd this (by rw [z];exact qAu _)) (fun z=>by
    have:=qAL (k3 b o q);exact absurd this (by rw [z];exact qAu _)) (up b o (k3 b o q))
  have hz:(xs.map fun p=>Value.int p.1 p.2).toArray.size=xs.length:=by simp
  rw [hz] at pv;obtain ⟨b1,b2⟩:=argBest_gt (fun i=>(xs.map (·.1)).getD i 0) (xs.length - 1);obtain ⟨t,rfl⟩:=hat _ _ pv;subst e3;refine ⟨.int _,H2,I2.kept (t':=tk) lk,⟨t,rfl⟩,q _ ?_ fun a ha=>?_⟩
  ·rw [<-e];have hl:argBest (fun i j=>decide ((xs.map (·.1)).getD i 0>(xs.map (·.1)).getD j 0)) (xs.length - 1)<(xs.map (·.1)).length:=by rw [qAD];lia
   rw [qA6,qAr hl];exact qBd hl
  ·rw [<-e] at ha;obtain ⟨i,hi,rfl⟩:=qA0.mp ha;have:=b2 i (by rw [qAD] at hi;lia);have e5:(xs.map (·.1)).getD i 0=(xs.map (·.1))[i]:=by rw [qA6,qAr hi];rfl
   rw [e5] at this;exact this
end
end L2
namespace My
open PySem L2
variable {P:Program}{w:World}{K:PySem.W.Frag}{mg:Str->Option Value}{base:Heap}{C:Addr}
variable {l C j Pt t:Addr}{m a b way:Int}{x y:Str}{i:Nat}{J:JR}{H H':Hp}{ts:List ((Int×Int)×Addr)}{β:Type}
def mx0:List Int->Int
 | []=>0
 | x::l=>if x>mx0 l then x else mx0 l
theorem mx0_nn:∀l:List Int,0<=mx0 l
 | []=>qBZ _
 | x::l=>by
  have:=mx0_nn l;show 0<=if x>mx0 l then x else mx0 l;split<;>lia
theorem zIh:∀{l:List Int} {x:Int},x∈l->x<=mx0 l
 | y::l,x,h=>by
  show x<=if y>mx0 l then y else mx0 l;rcases qAO.mp h with z| z
  ·subst z;split<;>lia
  ·have:=zIh z;split<;>lia
theorem zHd:∀(l:List Int),mx0 l=0\/mx0 l∈l
 | []=>.inl rfl
 | x::l=>by
  show (if x>mx0 l then x else mx0 l)=0\/(if x>mx0 l then x else mx0 l)∈x::l;split
  ·exact .inr qAR
  ·rcases zHd l with z| z
   ·exact .inl z
   ·exact .inr (qAP _ z)
theorem mx0_eq {l:List Int} (h:∀x∈l,0<=x) {M:Int} (hM:M∈l) (hb:∀a∈l,a<=M):mx0 l=M:=by
 have h1:=zIh hM;have h2:=h M hM;rcases zHd l with z| z
 ·lia
 ·have:=hb _ z;lia
theorem mx0_le {l m:List Int} (h:∀x∈l,x∈m):mx0 l<=mx0 m:=by
 rcases zHd l with z| z
 ·rw [z];exact mx0_nn m
 ·exact zIh (h _ z)
theorem mx0_set {l m:List Str} {f g:Str->Int} (h1:∀y,y∈l↔y∈m) (h2:∀y∈l,f y=g y):mx0 (l.map f)=mx0 (m.map g):=by
 refine Int.le_antisymm (mx0_le fun x hx=>?_) (mx0_le fun x hx=>?_)
 ·obtain ⟨y,hy,rfl⟩:=qAI.mp hx;exact qAI.mpr ⟨y,(h1 y).mp hy,(h2 y hy).symm⟩
 ·obtain ⟨y,hy,rfl⟩:=qAI.mp hx;exact qAI.mpr ⟨y,(h1 y).mpr hy,h2 y ((h1 y).mpr hy)⟩
structure HF (beh:Str->List Str) (F:List Str) (f:Str->Int):Prop where
 nd:F.Nodup
 sub:∀x∈F,∀y∈beh x,y∈F
 eq:∀x∈F,f x=1+mx0 ((beh x).map f)
theorem HF.nil (beh:Str->List Str) (f:Str->Int):HF beh [] f:=⟨qA1,(fun _ h=>nomatch h),(fun _ h=>nomatch h)⟩
theorem HF.pos {beh:Str->List Str} {F:List Str} {f:Str->Int} (h:HF beh F f) (hx:x∈F):1<=f x:=by
 have:=mx0_nn ((beh x).map f);rw [h.eq x hx];lia
def addF (f:Str->Int) (x:Str) (v:Int):Str->Int:=fun y=>if y=x then v else f y
theorem HF.more {beh:Str->List Str} {F:List Str} {f:Str->Int} (h:HF beh F f) (hx:x∉F) (hb:∀y∈beh x,y∈F):HF beh (F++[x]) (addF f x (1+mx0 ((beh x).map f))):=by
 have old:∀y∈F,addF f x (1+mx0 ((beh x).map f)) y=f y:=fun y hy=>by
  unfold addF;rw [qAB (fun z=>hx (by rw [<-z];exact hy))]
 have xs:addF f x (1+mx0 ((beh x).map f)) x=1+mx0 ((beh x).map f):=by unfold addF;rw [qAC rfl]
 refine ⟨?_,fun y hy z hz=>?_,fun y hy=>?_⟩
 ·rw [qB4];refine ⟨h.nd,by simp,fun a ha b hb' e=>hx ?_⟩;have:b=x:=by simpa using hb'
  rw [<-this,<-e];exact ha
 ·rcases qAW.mp hy with w| w
  ·exact qAv _ (h.sub y w z hz)
  ·have:y=x:=by simpa using w
   subst this;exact qAv _ (hb z hz)
 ·rcases qAW.mp hy with w| w
  ·rw [old y w,h.eq y w];exact qAg (1+·) (mx0_set (fun _=>Iff.rfl) fun z hz=>(old z (h.sub y w z hz)).symm)
  ·have:y=x:=by simpa using w
   subst this;rw [xs];exact qAg (1+·) (mx0_set (fun _=>Iff.rfl) fun z hz=>(old z (hb z hz)).symm)
def Dec (ns:List Str) (beh:Str->List Str):Prop:=∀x∈ns,∀y∈beh x,y∈ns/\(beh y).length<(beh x).length
theorem zIb {zs:List Str} {g:Str->Int} (h:zs.Pairwise fun x y=>g x<=g y) (e:zs[i]?=some x) (hy:y∈zs) (hg:g y<g x):y∈zs.take i:=by
 obtain ⟨j,hj,ej⟩:=qA0.mp hy;have hi:=(qAf.mp e).1;have ex:=(qAf.mp e).2
 by_cases c:j<i
 ·rw [List.mem_take_iff_getElem];exact ⟨j,by lia,by rw [<-ej]⟩
 ·by_cases c2:j=i
  ·subst c2;rw [ej] at ex;rw [ex] at hg;lia
  ·have:=List.pairwise_iff_getElem.mp h i j hi hj (by lia);rw [ex,ej] at this;lia
def behJ (J:JR) (x:Str):List Str:=J.ns.filter fun n=>decide (x∈J.S n)
theorem zFd :y∈behJ J x↔y∈J.ns/\x∈J.S y:=by
 unfold behJ;rw [qAQ];simp
theorem dec_J {qs:List (List Str×Addr)} {r:Str->Nat} (A:JobsAt C H j J) (G:Good J.ns qs r) (hz:∀k,k∈J.zs.map (·.1)↔k∈qs.map (·.1)):Dec J.ns (behJ J):=fun x hx y hy=>by
 obtain ⟨y1,y2⟩:=zFd.mp hy;refine ⟨y1,?_⟩
 have tr:∀z,z∈behJ J y->z∈behJ J x:=fun z hz'=>by
  obtain ⟨z1,z2⟩:=zFd.mp hz';exact zFd.mpr ⟨z1,(zDo A G hz z1).mpr (((zDo A G hz y1).mp y2).trans ((zDo A G hz z1).mp z2))⟩
 have ny:y∉behJ J y:=fun z=>by
  obtain ⟨_,z2⟩:=zFd.mp z;exact absurd (S_rank A G hz _ y y (qAG _) y1 z2) (qAu _)
 unfold behJ at tr ny hy ⊢;generalize J.ns=ns at tr ny hy
 have key:∀(l:List Str),(∀z∈l,y∈J.S z->x∈J.S z)->y∈l->x∈J.S y->y∉J.S y->(l.filter fun n=>decide (y∈J.S n)).length<(l.filter fun n=>decide (x∈J.S n)).length:=by
  intro l
  have le:∀(l:List Str),(∀z∈l,y∈J.S z->x∈J.S z)->(l.filter fun n=>decide (y∈J.S n)).length<=(l.filter fun n=>decide (x∈J.S n)).length:=fun l h=>by
   rw [<-List.countP_eq_length_filter,<-List.countP_eq_length_filter];exact List.countP_mono_left fun z hz' w=>qAU (h z hz' (qAm w))
  induction l with
  | nil=>intro _ h;cases h
  | cons a l ih =>
   intro h hy' h1 h2;have hl:∀z∈l,y∈J.S z->x∈J.S z:=fun z hz'=>h z (qAP _ hz');rw [qA8,qA8];rcases qAO.mp hy' with e| e
   ·subst e;rw [qAB (by simpa using h2),qAC (by simpa using h1),qAa];have:=le l hl;lia
   ·have:=ih hl e h1 h2
    by_cases c:y∈J.S a
    ·rw [qAC (by simpa using c),qAC (by simpa using h a qAR c),qAa,qAa];lia
    ·rw [qAB (by simpa using c)];split
     ·rw [qAa];lia
     ·exact this
 refine key ns (fun z hz' w=>?_) (qAQ.mp hy).1 y2 (fun w=>ny (qAQ.mpr ⟨(qAQ.mp hy).1,qAU w⟩));have:=tr z (qAQ.mpr ⟨hz',qAU w⟩);exact qAm (qAQ.mp this).2
def lamQ:Str:=Str.ofString "last_ones_first" ++ ".<locals>." ++ "<lambda>"
def lamPos:Pos:=⟨41,36,41,71⟩
abbrev TabA (H:Hp) (Pt:Addr):Prop:=Tab0 H Pt lamQ lamPos
theorem TabA.kp (h:TabA H Pt) (k:Kp [] H H'):TabA H' Pt:=by
 rcases h with e| ⟨c,e,ec⟩
 ·exact .inl (k _ _ e (by simp))
 ·exact .inr ⟨c,k _ _ e (by simp),k _ _ ec (by simp)⟩
theorem TabA.tbl (h:TabA H Pt):∃ps,H Pt=some (.tbl ps):=by
 rcases h with e| ⟨c,e,_⟩
 ·exact ⟨_,e⟩
 ·exact ⟨_,e⟩
theorem TabA.off {a:Addr} {o:HO} (t:TabA H Pt) (h:H a=some o) (no:∀ps,o≠.tbl ps):a≠Pt:=fun z=>by
 obtain ⟨ps,e⟩:=t.tbl;rw [z,e] at h;exact no ps (qAc h).symm
theorem JobsAt.kpT (A:JobsAt C H j J) (k:Kp [Pt] H H') (t:TabA H Pt):JobsAt C H' j J:=by
 refine A.kp k fun a o ha hm=>?_;have e:a=Pt:=by simpa using hm
 subst e;exact ⟨(t.off A.ob fun _ z=>nomatch z).symm,(t.off A.row fun _ z=>nomatch z).symm,(t.off A.prs.top fun _ z=>nomatch z).symm,(t.off A.abv fun _ z=>nomatch z).symm,fun q hq=>(t.off (A.prs.row q hq) fun _ z=>nomatch z).symm,fun n hn=>(t.off (A.sets n hn) fun _ z=>nomatch z).symm⟩
theorem okC {P:Program} {w:World} {K:PySem.W.Frag} {mg:Str->Option Value} {base:Heap} {qual:Str} {st:Stmt} {f c0:Addr} {oc:Value} {od an:Option Addr} {osl:Array (Option Value)} {kV doc pm ct:Value} {N ps:List Str} {k:Nat} {sp:Sp}
  (lk:K.lookup f=some ⟨oc,od,.func (PySem.W.fnOf x qual (zBa st) (zA2 st) (zAd st) .none kV doc pm an (.ref c0) ct),osl⟩) (hcd:PySem.W.codeIn K (.ref c0) qual=true) (S:FnScope N ps (zAd st)) (len:∀vs H Q E,sp vs H Q E->vs.length=ps.length)
  (hbody:∀(A:Around) (outer:List Env) (s:Shared) (H:Hp) (vs:List V) (Q:VK) (E:XK),Room k (A.deeper (PyProof.Rows.envOfC qual (zAd st) s.heap.objs.size f (.ref c0)))->sp vs H Q E ->
   ∃t,PSs (cxOf CX0 P w K mg base N qual (zAd st) f (.ref c0) A outer s H E).nox (zA2 st) t/\t {nx:=fun _ H'=>Q .non H',rt:=Q} (L2.start N vs) H):FnOk P w K mg base CX0 (k+1) f (PySem.W.fnOf x qual (zBa st) (zA2 st) (zAd st) .none kV doc pm an (.ref c0) ct) ps sp:=by
 refine fn_of lk hcd S len fun A outer s H vs Q E hr hsp=>?_;obtain ⟨t,h,q⟩:=hbody A outer s H vs Q E hr hsp;exact ⟨t,h.nox,q⟩
theorem kp_drop {M:List Addr} {e:Addr} {H1 H2:Hp} (a:Kp M H H1) (f:Fre H e) (b:Kp [e] H1 H2):Kp M H H2:=fun c o h n=>b c o (a c o h n) (nm1 (ne_fre f h))
def kvI (F:List Str) (f:Str->Int):List (Key×V):=dT1 F fun n=>.int (f n)
theorem kvI_put {F:List Str} {f:Str->Int} {v:Int} (h:x∉F):putK (kvI F f) (Sum.inr x) (.int v)=kvI (F++[x]) (addF f x v):=by
 unfold kvI;rw [zDh _ h];have e:dT1 (F++[x]) (fun n=>V.int (addF f x v n))=dT1 F (fun n=>V.int (addF f x v n))++[(.inr x,.int (addF f x v x))]:=by unfold dT1;rw [qAS];rfl
 rw [e]
 have e2:dT1 F (fun n=>V.int (addF f x v n))=dT1 F (fun n=>V.int (f n)):=zFg fun n hn=>by
  unfold addF;rw [qAB (fun z=>h (by rw [<-z];exact hn))]
 rw [e2];unfold addF;rw [qAC rfl]
theorem zJh {F:List Str} {f:Str->Int} (h:x∈F):valV (kvI F f) (Sum.inr x)=some (.int (f x)):=by
 unfold kvI;rw [zBe,qAC h]
theorem kvI_len (F:List Str) (f:Str->Int):(kvI F f).length=F.length:=by unfold kvI dT1;rw [qAD]
section
def spLast (C Pt:Addr):Sp:=fun vs H Q _=>∃(j:Addr) (J:JR),vs=[.ref j]/\JobsAt C H j J/\TabA H Pt/\∀(l:Addr) (zs:List Str) (H':Hp),Kp [Pt] H H'->TabA H' Pt->Txs H' l zs->zs.Perm J.ns->zs.Pairwise (fun x y=>((behJ J x).length:Int)<=(behJ J y).length)->Q (.ref l) H'
abbrev zE3:Stmt:=top 13
theorem sc_last:FnScope ["jobs"] ["jobs"] (zAd zE3):=fnS
theorem zCt:bootBuiltins "sorted" = some (.builtin "sorted"):=by decide +kernel
theorem ok_last {f c0:Addr} {oc:Value} {od an:Option Addr} {osl:Array (Option Value)} {kV doc pm ct:Value} (lk:K.lookup f=some ⟨oc,od,.func (PySem.W.fnOf "last_ones_first" "last_ones_first" (zBa zE3) (zA2 zE3) (zAd zE3) .none kV doc pm an (.ref c0) ct),osl⟩) (hcd:PySem.W.codeIn K (.ref c0) "last_ones_first" = true) (T:Txt K mg) (U:JC K mg C) (B:zGi mg base) (CH:PySem.W.CodeHd base c0 Pt)
  (M_names:Mth P w K mg base C "names" 1 ["self"] (zGv C)) (M_behind:Mth P w K mg base C "behind" 3 ["self", "name"] (zGn C)):FnOk P w K mg base CX0 7 f (PySem.W.fnOf "last_ones_first" "last_ones_first" (zBa zE3) (zA2 zE3) (zAd zE3) .none kV doc pm an (.ref c0) ct) ["jobs"] (spLast C Pt):=by
 refine okC lk hcd sc_last (fun vs H Q E h=>?_) (fun A outer s H vs Q E hr h=>?_)
 ·obtain ⟨j,J,rfl,_⟩:=h;rfl
 ·obtain ⟨j,J,rfl,A0,T0,k⟩:=h;have hr1:=hr.mono (j:=1) (by decide);refine ⟨_,(zAe (zAo (zIe (x:= "name") (y:= "jobs") (iy:=0) (P:=Pt) (c0:=c0) (qual:=lamQ) (k:=3) hr rfl (by rfl) T.z_sorted zCt (zAa (zDc M_names U.cl hr1 (pv 0)) zAb) (by exact ⟨rfl,rfl,rfl,rfl,rfl,by decide +kernel,by decide +kernel⟩) (by decide) rfl rfl rfl rfl rfl rfl CH B rfl (fun _ _ _ _=>rfl) (fun f' cd' A' s' H' hA=>zAh (zFk (K:=K)) (by rfl) T.z_len zA4 (zAa (zEd M_behind U.cl hA (pv 1) (zAa (pv 0) zAb)) zAb))))),?_⟩;refine ⟨_,rfl,j,J.dx,_,rfl,A0.ob,zGh _ _ _ (by decide +kernel) (by decide +kernel) (by decide +kernel),j,J,rfl,A0,fun l H1 fl hl k1=>?_⟩;have A1:=A0.kp0 k1;have T1:=T0.kp k1;have few:=A0.few;refine ⟨l,J.ns,fun x=>(behJ J x).length,.ref j,rfl,rfl,hl,by lia,T1,fun H2 k2 T2=>⟨fun x hx H3 k3=>?_,fun b zs H3 k3 hb pz sz=>?_⟩⟩
  ·have A3:=(A1.kpT k2 T1).kp0 k3;refine ⟨_,rfl,j,J.dx,_,rfl,A3.ob,zGh _ _ _ (by decide +kernel) (by decide +kernel) (by decide +kernel),_,rfl,j,J,x,rfl,A3,hx,fun m H4 fm hm k4=>?_⟩;refine ⟨_,_,rfl,.inl (SqL.of hm),?_,k4⟩;rw [qAD];rfl
  ·have fb:Fre H3 b:=hb;have kb:Kp [] H3 (upd H3 b (.lst (zs.map V.str))):=Kp.new Kp.refl fb;have T3:TabA H3 Pt:=TabA.kp (.inr T2) k3;exact k b zs _ (((k1.weak (by simp)).trans k2).trans ((k3.trans kb).weak (by simp))) (T3.kp kb) upd_same pz sz
def zGw (C Pt:Addr):Sp:=fun vs H Q _=>∃(j:Addr) (J:JR) (qs:List (List Str×Addr)) (r:Str->Nat),vs=[.ref j]/\JobsAt C H j J/\Good J.ns qs r/\(∀k,k∈J.zs.map (·.1)↔k∈qs.map (·.1))/\TabA H Pt/\∀(d:Addr) (F:List Str) (f:Str->Int) (H':Hp),Kp [Pt] H H'->TabA H' Pt->Fre H d->H' d=some (.dK (kvI F f))->HF (behJ J) F f->F.Perm J.ns->Q (.ref d) H'
abbrev zE5:Stmt:=top 14
theorem zFr:FnScope ["jobs", "found", "name"] ["jobs"] (zAd zE5):=fnS
theorem ok_heights {f:Addr} {fd:FuncData} (F:Fun K "heights" "heights" zE5 f fd) (T:Txt K mg) (U:JC K mg C) (C_last:Cal P w K mg base "last_ones_first" 7 ["jobs"] (spLast C Pt)) (M_behind:Mth P w K mg base C "behind" 3 ["self", "name"] (zGn C)):FnOk P w K mg base CX0 8 f fd ["jobs"] (zGw C Pt):=by
 refine F.ok zFr (fun vs H Q E h=>?_) (fun cdv A outer s H vs Q E hr h=>?_)
 ·obtain ⟨j,J,qs,r,rfl,_⟩:=h;rfl
 ·obtain ⟨j,J,qs,r,rfl,A0,G,hz,T0,k⟩:=h;have hr3:=hr.mono (j:=3) (by decide);have hu:=zDk hr
  refine ⟨_,(zAc (psS (i:=1) zFr.nd zBy)
   (zAc (zBb qAk rfl (zAl (zAf C_last hr rfl (zAa (pv 0) zAb))) (pgN (i:=2) zFr.nd)
    (zAe (zCp hu (pv 1) (pv 2) (zAt zBz zAg (pe_maxD rfl (by rfl) T.z_max zIn (zAa (zA5 rfl (zBc (sc:=zAd zE5) rfl (by decide +kernel)) (Draws.own (x:= "other") (dtk (i:=1) rfl Draws.nil)) (zAl (zEd M_behind U.cl hr3 (pv 0) (zAa (pv 2) zAb))) (fun _ _ _ _=>(pgB (i:=0))) (fun _ _ _ _=>zCe) (fun _ _ _ _=>(zA0 hu (pv 1) (pv 0) (fun _ _=>rfl)))) zAb))) rfl)))
   (zAe (zAo (pv 1))))),?_⟩
  have few:=A0.few;have D:=dec_J A0 G hz;refine fun d hd=>?_;have fd0:Fre H d:=hd;have k1:Kp [] H (upd H d (.dK [])):=Kp.new Kp.refl fd0;have e1:upd H d (.dK []) d=some (.dK []):=upd_same;generalize upd H d (.dK [])=H1 at k1 e1;refine ⟨_,rfl,j,J,rfl,A0.kp0 k1,T0.kp k1,fun l zs H2 k2 T2 hl pz sz=>?_⟩;have T1:=T0.kp k1;have e2:=k2 d _ e1 (nm1 (T1.off e1 fun _ z=>nomatch z));have A2:=(A0.kp0 k1).kpT k2 T1;have K2:Kp [Pt] H H2:=(k1.weak (by simp)).trans k2;have zn:zs.Nodup:=pz.nodup_iff.mpr A0.nd;have zl:zs.length<=20:=by rw [pz.length_eq];exact few
  refine ⟨_,rfl,⟨_,SqL.of hl⟩,zA9 (xs:=zs.map V.str) (fun i σ H3=>∃(o2:Option V) (g:Str->Int),σ=[some (.ref j),some (.ref d),o2]/\Kp [d] H2 H3/\H3 d=some (.dK (kvI (zs.take i) g))/\HF (behJ J) (zs.take i) g) ⟨none,fun _=>0,rfl,Kp.refl,e2,HF.nil _ _⟩ (fun i σ H3 _ ⟨_,_,_,k3,_⟩=>SqL.of (k3 _ _ hl (nm1 fun z=>by have h:H2 l=_:=hl;rw [z,e2] at h;cases h))) ?_ ?_⟩
  ·rintro i v σ H3 hv ⟨o2,g,rfl,k3,h3,hf⟩;obtain ⟨x,ex,rfl⟩:=zA3 hv;have xz:x∈zs:=qAN ex;have xn:x∈J.ns:=pz.mem_iff.mp xz
   have A3:JobsAt C H3 j J:=A2.kp k3 fun a o ha hm=>by
    have e:a=d:=by simpa using hm
    subst e;have nof:∀b,Fre H a->H b≠none->a≠b:=fun b h1 h2 e=>h2 (by rw [<-e];exact h1);refine ⟨nof _ fd0 (by rw [A0.ob];simp),nof _ fd0 (by rw [A0.row];simp),nof _ fd0 (by rw [A0.prs.top];simp),nof _ fd0 (by rw [A0.abv];simp),fun q hq=>nof _ fd0 (by rw [A0.prs.row q hq];simp),fun n hn=>nof _ fd0 (by rw [A0.sets n hn];simp)⟩
   have bs:∀y∈behJ J x,y∈zs.take i:=fun y hy=>by
    obtain ⟨h1,h2⟩:=D x xn y hy;exact zIb sz ex (pz.mem_iff.mpr h1) (by lia)
   have nx:x∉zs.take i:=zC3 zn ex;refine ⟨_,rfl,j,J.dx,_,rfl,A3.ob,zGh _ _ _ (by decide +kernel) (by decide +kernel) (by decide +kernel),_,rfl,j,J,x,rfl,A3,xn,fun m H4 fm hm k4=>?_⟩;have hm:Txs H4 m (behJ J x):=hm;have h4:=k4 _ _ h3 (by simp);refine ⟨_,rfl,⟨_,SqL.of hm⟩,fun E' hE'=>zBd ((behJ J x).map V.str) (fun n ys τ H5=>(∃o0,τ=[o0,some (.ref d)])/\ys=(((behJ J x).take n).map fun y=>V.int (g y))/\H5=upd H4 E' (.lst ys)) ⟨⟨_,rfl⟩,rfl,rfl⟩ (fun n ys τ H5 ⟨_,_,z⟩=>by subst z;exact SqL.of ((Kp.new (M:=[]) Kp.refl hE') _ _ hm (by simp))) ?_ ?_⟩
   ·rintro n v ys τ H5 hv ⟨⟨o0,rfl⟩,rfl,rfl⟩;obtain ⟨y,ey,rfl⟩:=zA3 hv;have yb:=qAN ey;have h5:=(Kp.new (M:=[]) (l:=E') (o:=.lst (((behJ J x).take n).map fun y=>V.int (g y))) Kp.refl hE') _ _ h4 (by simp);have bl:(behJ J x).length<=J.ns.length:=qAx _ _;refine ⟨_,rfl,_,rfl,d,_,rfl,by have:=DGet.k (k:=Sum.inr y) h5;rw [zJh (bs y yb)] at this;exact this,upd_same,by rw [qAD,qAY,qAK];lia,⟨_,rfl⟩,?_,zBo⟩;rw [zAj ey,qAS];rfl
   ·rintro ys τ H5 ⟨_,rfl,rfl⟩;have eT:(behJ J x).take ((behJ J x).map V.str).length=behJ J x:=by rw [qAD,qAi]
    rw [eT];have fE:Fre H4 E':=hE';have k5:Kp [] H4 (upd H4 E' (.lst ((behJ J x).map fun y=>V.int (g y)))):=Kp.new Kp.refl fE;have e5:upd H4 E' (.lst ((behJ J x).map fun y=>V.int (g y))) E'=some (.lst (((behJ J x).map g).map V.int)):=by rw [upd_same,qAt];rfl
    generalize upd H4 E' (.lst ((behJ J x).map fun y=>V.int (g y)))=H5 at k5 e5;have h5:=k5 _ _ h4 (by simp)
    have fin:∀M:Int,M=mx0 ((behJ J x).map g)->DPut H5 d (.str x) (.int (1+M)) (upd H5 d (.dK (kvI (zs.take (i+1)) (addF g x (1+mx0 ((behJ J x).map g)))))):=fun M hM=>by
     have:=DPut.k (k:=Sum.inr x) (v:=.int (1+M)) h5 (by rw [kvI_len,qAY,qAK];lia);rw [hM,kvI_put nx,<-zAj ex] at this;rw [hM];exact this
    have last:∀o2:Option V,∃(o2':Option V) (g':Str->Int),([some (V.ref j),some (V.ref d),o2]:St)=[some (.ref j),some (.ref d),o2']/\Kp [d] H2 (upd H5 d (.dK (kvI (zs.take (i+1)) (addF g x (1+mx0 ((behJ J x).map g))))))/\(upd H5 d (.dK (kvI (zs.take (i+1)) (addF g x (1+mx0 ((behJ J x).map g)))))) d=some (.dK (kvI (zs.take (i+1)) g'))/\HF (behJ J) (zs.take (i+1)) g':=fun o2=>by
     refine ⟨o2,_,rfl,Kp.put (k3.trans ((k4.trans k5).weak (by simp))) (by simp),upd_same,?_⟩;rw [zAj ex];exact hf.more nx bs
    refine ⟨_,_,rfl,SqL.of e5,fun en=>?_,fun M hM bM=>?_⟩
    ·have:mx0 ((behJ J x).map g)=0:=by rw [en];rfl
     exact ⟨_,_,rfl,rfl,_,rfl,_,rfl,_,_,rfl,fin 0 this.symm,last _⟩
    ·have:mx0 ((behJ J x).map g)=M:=mx0_eq (fun a ha=>by
      obtain ⟨y,hy,rfl⟩:=qAI.mp ha;have:=hf.pos (bs y hy);lia) hM bM
     exact ⟨_,_,rfl,rfl,_,rfl,_,rfl,_,_,rfl,fin M this.symm,last _⟩
  ·rintro σ H3 ⟨o2,g,rfl,k3,h3,hf⟩;have eT:zs.take (zs.map V.str).length=zs:=by rw [qAD,qAi]
   rw [eT] at h3 hf
   have T3:TabA H3 Pt:=by
    have nd:∀a o,H2 a=some o->(∀kv,o≠.dK kv)->a∉[d]:=fun a o h no=>nm1 fun z=>by rw [z,e2] at h;exact no _ (qAc h).symm
    rcases T2 with e| ⟨c,e,ec⟩
    ·exact .inl (k3 _ _ e (nd _ _ e fun _ z=>nomatch z))
    ·exact .inr ⟨c,k3 _ _ e (nd _ _ e fun _ z=>nomatch z),k3 _ _ ec (nd _ _ ec fun _ z=>nomatch z)⟩
   exact ⟨_,rfl,k d zs g H3 (kp_drop K2 fd0 k3) T3 fd0 h3 hf pz⟩
end
theorem rev_keys {zs zs' qs ks:List (List Str×Addr)} (h1:∀k,k∈zs'.map (·.1)↔k∈zs.map fun q=>q.1.reverse) (h2:∀k,k∈zs.map (·.1)↔k∈qs.map (·.1)) (e:ks.map (·.1)=qs.map fun q=>q.1.reverse) (k:List Str):k∈zs'.map (·.1)↔k∈ks.map (·.1):=by
 rw [h1,e];constructor
 ·intro h;obtain ⟨q,hq,rfl⟩:=qAI.mp h;obtain ⟨q',hq',e'⟩:=qAI.mp ((h2 q.1).mp (qAI.mpr ⟨q,hq,rfl⟩));exact qAI.mpr ⟨q',hq',by rw [e']⟩
 ·intro h;obtain ⟨q,hq,rfl⟩:=qAI.mp h;obtain ⟨q',hq',e'⟩:=qAI.mp ((h2 q.1).mpr (qAI.mpr ⟨q,hq,rfl⟩));exact qAI.mpr ⟨q',hq',by rw [e']⟩
structure ITs (H:Hp) (l:Addr) (ts:List ((Int×Int)×Addr)):Prop where
 top:H l=some (.lst (ts.map fun t=>V.ref t.2))
 row:∀t∈ts,H t.2=some (.tup [.int t.1.1,.int t.1.2])
theorem ITs.kp {M:List Addr} (I:ITs H l ts) (k:Kp M H H') (h1:l∉M) (h2:∀t∈ts,t.2∉M):ITs H' l ts:=⟨k l _ I.top h1,fun t ht=>k _ _ (I.row t ht) (h2 t ht)⟩
theorem ITs.more (I:ITs H l ts) (ht:H t=some (.tup [.int a,.int b])):ITs (upd H l (.lst (ts.map (fun t=>V.ref t.2)++[.ref t]))) l (ts++[((a,b),t)]):=by
 refine ⟨by rw [upd_same,qAS];rfl,fun q hq=>?_⟩;rcases qAW.mp hq with z| z
 ·exact (upd_ne (zBl (I.row q z) I.top (fun y=>nomatch y))).trans (I.row q z)
 ·rw [qAZ.mp z];exact (upd_ne (zBl ht I.top (fun y=>nomatch y))).trans ht
theorem ITs.same (I:ITs H l ts):ITs (upd H l (.lst (ts.map (fun t=>V.ref t.2)++[]))) l ts:=by
 rw [qBR];exact ⟨upd_same,fun q z=>(upd_ne (zBl (I.row q z) I.top (fun y=>nomatch y))).trans (I.row q z)⟩
theorem inV12 (w:Int):inV (.int w) [.int 1,.int 2]=(decide (w=1)||decide (w=2)):=by
 show ((1==w)||((2==w)||false))=_
 by_cases h1:w=1
 ·subst h1;rfl
 ·by_cases h2:w=2
  ·subst h2;rfl
  ·rw [qAh h1,qAh h2,qBD.mpr (qAs h1),qBD.mpr (qAs h2)];rfl
def zD8 (m:Int) (ts:List ((Int×Int)×Addr)):Prop:=∀t∈ts,0<=t.1.1/\t.1.1<t.1.2/\t.1.2<m
theorem zD8.more (h:zD8 m ts) (h1:0<=a) (h2:a<b) (h3:b<m):zD8 m (ts++[((a,b),t)]):=fun q hq=>by
 rcases qAW.mp hq with z| z
 ·exact h q z
 ·rw [qAZ.mp z];exact ⟨h1,h2,h3⟩
structure WOk (way m j:Int) (ts:List ((Int×Int)×Addr)):Prop where
 ok:zD8 m ts
 len:(ts.length:Int)<=j
 w1:way=1->(∀t∈ts,t.1.1<j)/\(ts.map fun t=>t.1.1).Nodup
 w2:way=2->(∀t∈ts,t.1.2<=j)/\(ts.map fun t=>t.1.2).Nodup
theorem WOk.mono {way m j j':Int} (h:WOk way m j ts) (e:j<=j'):WOk way m j' ts :=
 ⟨h.ok,by have:=h.len;lia,fun z=>⟨fun t ht=>by have:=(h.w1 z).1 t ht;lia,(h.w1 z).2⟩,fun z=>⟨fun t ht=>by have:=(h.w2 z).1 t ht;lia,(h.w2 z).2⟩⟩
theorem nd_snoc {l:List Int} (h:l.Nodup) (n:a∉l):(l++[a]).Nodup:=qB4.mpr ⟨h,by simp,fun x hx y hy=>by
 rw [qAZ.mp hy];exact fun z=>n (z▸hx)⟩
theorem WOk.add1 {way m j b:Int} {t:Addr} (h:WOk way m j ts) (w:way=1) (h0:0<=j) (h1:j<b) (h2:b<m):WOk way m (j+1) (ts++[((j,b),t)]):=by
 refine ⟨h.ok.more h0 h1 h2,by have:=h.len;simp only [qAo,qBm];lia,fun z=>⟨fun u hu=>?_,?_⟩,fun z=>by lia⟩
 ·rcases qAW.mp hu with y| y
  ·have:=(h.w1 z).1 u y;lia
  ·rw [qAZ.mp y];show j<j+1;lia
 ·rw [qAS];refine nd_snoc (h.w1 z).2 fun y=>?_;obtain ⟨u,hu,e⟩:=qAI.mp y;have e:u.1.1=j:=e;have:=(h.w1 z).1 u hu;lia
theorem WOk.add2 {way m j a:Int} {t:Addr} (h:WOk way m j ts) (w:way=2) (h0:0<=a) (h1:a<j+1) (h2:j+1<m):WOk way m (j+1) (ts++[((a,j+1),t)]):=by
 refine ⟨h.ok.more h0 h1 h2,by have:=h.len;simp only [qAo,qBm];lia,fun z=>by lia,fun z=>⟨fun u hu=>?_,?_⟩⟩
 ·rcases qAW.mp hu with y| y
  ·have:=(h.w2 z).1 u y;lia
  ·rw [qAZ.mp y];show j+1<=j+1;lia
 ·rw [qAS];refine nd_snoc (h.w2 z).2 fun y=>?_;obtain ⟨u,hu,e⟩:=qAI.mp y;have e:u.1.2=j+1:=e;have:=(h.w2 z).1 u hu;lia
theorem ext_pair {H3:Hp} {p q r:Addr} {a b d:Int} {bb:Bool} (hb:bb=decide (0<d)) (K3:Kp [p] H H3) (P3:zB4 H3 p) (R3:ITs H3 l ts) (fl:Fre H l) (npl:p≠l) (ft:Fre H3 t) (fq:Fre (upd H3 t (.tup [.int a,.int b])) q) (fr:Fre (upd (upd H3 t (.tup [.int a,.int b])) q (.lst [.ref t])) r) :
  Fre H t/\zB4 (upd (upd (upd (upd H3 t (.tup [.int a,.int b])) q (.lst [.ref t])) r (.lst (List.replicate (if bb=true then (1:Int) else 0).toNat [V.ref t]).flatten)) l (.lst (ts.map (fun t=>V.ref t.2)++(List.replicate (if bb=true then (1:Int) else 0).toNat [V.ref t]).flatten))) p /\
  Kp [p] H (upd (upd (upd (upd H3 t (.tup [.int a,.int b])) q (.lst [.ref t])) r (.lst (List.replicate (if bb=true then (1:Int) else 0).toNat [V.ref t]).flatten)) l (.lst (ts.map (fun t=>V.ref t.2)++(List.replicate (if bb=true then (1:Int) else 0).toNat [V.ref t]).flatten))) /\
  ITs (upd (upd (upd (upd H3 t (.tup [.int a,.int b])) q (.lst [.ref t])) r (.lst (List.replicate (if bb=true then (1:Int) else 0).toNat [V.ref t]).flatten)) l (.lst (ts.map (fun t=>V.ref t.2)++(List.replicate (if bb=true then (1:Int) else 0).toNat [V.ref t]).flatten))) l (if 0<d then ts++[((a,b),t)] else ts):=by
 have a1:Kp [] H3 (upd H3 t (.tup [.int a,.int b])):=Kp.new Kp.refl ft;have a2:Kp [] H3 (upd (upd H3 t (.tup [.int a,.int b])) q (.lst [.ref t])):=Kp.new a1 (a1.fre fq (by simp));have b1:(upd (upd H3 t (.tup [.int a,.int b])) q (.lst [.ref t])) t=some (.tup [.int a,.int b]):=(upd_ne (ne_fre fq upd_same)).trans upd_same;generalize upd (upd H3 t (.tup [.int a,.int b])) q (.lst [.ref t])=H4 at fr a2 b1;have kA:∀o,Kp [] H3 (upd H4 r o):=fun o=>Kp.new a2 (a2.fre fr (by simp));have hTt:∀o,upd H4 r o t=some (.tup [.int a,.int b]):=fun o=>(upd_ne (ne_fre fr b1)).trans b1;have ntp:t≠p:=by obtain ⟨a,b,e,_⟩:=P3;exact (ne_fre ft e).symm
 refine ⟨K3.fre ft (nm1 ntp),?_⟩
 by_cases c:0<d
 ·have eb:bb=true:=by rw [hb];exact qAU c
  subst eb;rw [qAC c];exact ⟨(P3.kp (kA _) (by simp)).kp (M:=[l]) (Kp.put Kp.refl (by simp)) (nm1 npl),Kp.new (K3.trans ((kA _).weak (by simp))) fl,(R3.kp (kA _) (by simp) (by simp)).more (hTt _)⟩
 ·have eb:bb=false:=by rw [hb];exact qAh c
  subst eb;rw [qAB c];exact ⟨(P3.kp (kA _) (by simp)).kp (M:=[l]) (Kp.put Kp.refl (by simp)) (nm1 npl),Kp.new (K3.trans ((kA _).weak (by simp))) fl,(R3.kp (kA _) (by simp) (by simp)).same⟩
section
def spLPairs:Sp:=fun vs H Q _=>∃(p:Addr) (m way thin:Int),vs=[.ref p,.int m,.int way,.int thin]/\zB4 H p/\0<=m/\m<=20/\(way=1\/way=2)/\∀(l:Addr) (ts:List ((Int×Int)×Addr)) (H':Hp),Fre H l->ITs H' l ts->(∀t∈ts,Fre H t.2)->WOk way m 19 ts->zB4 H' p->Kp [p] H H'->Q (.ref l) H'
abbrev s_pairs:Stmt:=top 49
theorem zCw:FnScope ["_law_purse_here", "_law_many", "_law_way", "_law_thin", "_law_pairs_here", "_law_j", "_law_far", "_law_i", "_law_near"] ["_law_purse_here", "_law_many", "_law_way", "_law_thin"] (zAd s_pairs):=fnS
theorem ok_pairs {f:Addr} {fd:FuncData} (F:Fun K "_law_pairs" "_law_pairs" s_pairs f fd) (T:Txt K mg) (C_take:Cal P w K mg base "_law_take" 1 ["_law_purse_here", "_law_many"] zH6):FnOk P w K mg base CX0 2 f fd ["_law_purse_here", "_law_many", "_law_way", "_law_thin"] spLPairs:=by
 refine F.ok zCw (fun vs H Q E h=>?_) (fun cdv A outer s H vs Q E hr h=>?_)
 ·obtain ⟨p,m,way,thin,rfl,_⟩:=h;rfl
 ·obtain ⟨p,m,way,thin,rfl,hP,h0,h1,hw,k⟩:=h;have HR_take:=hr
  refine ⟨_,(zAc (psS (i:=4) zCw.nd (zCf zAb))
   (zAc (zBb qAk rfl (pi_range2 rfl T.z_range (zAa zAg (zAa (pv 1) zAb))) (pgN (i:=5) zCw.nd)
    (zAc (psS (i:=6) zCw.nd zAg)
    (zAc (zBx (zAs zI8 (pv 2) zAg (zAu _))
     (zAc (psS (i:=6) zCw.nd (zAf C_take HR_take rfl (zAa (pv 0) (zAa (zAt zBz (zAt zIf (pv 1) (pv 5)) zAg) zAb))))
     (zAe (zA8 (zHx qBX qDi qDj zHe (pv 4) (zAa (zAt op_rep (zCf (zAa (zC2 (zAa (zAt zIf (pv 5) zAg) (zAa (zAt zBz (zAt zIf (pv 5) zAg) (pv 6)) zAb))) zAb)) (zAm zFl (by rfl) T.z_int bo_int (zAa (zCr op_gt (pv 6) zAg (zAu _)) zAb))) zAb)))))
     zAq)
    (zAc (zBx (zAs zI8 (pv 2) zAg (zAu _))
     (zAc (psS (i:=6) zCw.nd (zAf C_take HR_take rfl (zAa (pv 0) (zAa (zAt zBz (pv 5) zAg) zAb))))
     (zAe (zA8 (zHx qBX qDi qDj zHe (pv 4) (zAa (zAt op_rep (zCf (zAa (zC2 (zAa (zAt zIf (pv 5) (pv 6)) (zAa (pv 5) zAb))) zAb)) (zAm zFl (by rfl) T.z_int bo_int (zAa (zCr op_gt (pv 6) zAg (zAu _)) zAb))) zAb)))))
     zAq)
    (zAe (zBb qAk rfl (zCq rfl T.z_range (zAa (zAt zE9 (pv 5) (zAm zFl (by rfl) T.z_int bo_int (zAa (zCr zDz (pv 2) (zCf (zAa zAg (zAa zAg zAb))) (by rfl)) zAb))) zAb)) (pgN (i:=7) zCw.nd)
     (zAc (psS (i:=8) zCw.nd (pe_or (zCr op_ne (pv 2) zAg (zAu _)) (pe_one (zCr zI8 (zAt zBz (zAt op_fdiv (pv 7) (pv 3)) zAg) (zAt op_fdiv (pv 5) (pv 3)) (zAu _)))))
     (zAe (zBx (PW.pt (pw_and (zC1 (pv 8)) (pw_and1 (zAs zI8 (zCr zI8 (zAf C_take HR_take rfl (zAa (pv 0) (zAa (pv 3) zAb))) zAg (zAu _)) (zCr op_ne (pv 2) zAg (zAu _)) (zAu _)))))
      (zAe (zA8 (zHx qBX qDG qDH zD1 (pv 4) (zAa (zC2 (zAa (pv 7) (zAa (pv 5) zAb))) zAb))))
      zAq)))))))))
   (zAe (zAo (pv 4))))),?_⟩
  refine ⟨(by walk_at "ln"),fun (l:Addr) hl=>?_⟩;have fl:Fre H l:=hl;have npl:p≠l:=by obtain ⟨a,b,e,_⟩:=hP;exact ne_fre fl e
  have hP1:zB4 (upd H l (.lst [])) p:=hP.kp (M:=[]) (Kp.new Kp.refl fl) (by simp)
  refine ⟨_,rfl,_,_,rfl,?_,zCb (lo:=1) (n:=(m - 1).toNat) (fun i σ H2=>∃(o5 o6 o7 o8:Option V) (ts:List ((Int×Int)×Addr)),σ=[some (.ref p),some (.int m),some (.int way),some (.int thin),some (.ref l),o5,o6,o7,o8]/\zB4 H2 p/\Kp [p] H H2/\ITs H2 l ts/\(∀t∈ts,Fre H t.2)/\WOk way m i ts)
   ⟨none,none,none,none,[],rfl,hP1,Kp.new Kp.refl fl,⟨upd_same,(fun t h=>nomatch h)⟩,(fun t h=>nomatch h),⟨(fun t h=>nomatch h),qBZ _,fun _=>⟨(fun t h=>nomatch h),qA1⟩,fun _=>⟨(fun t h=>nomatch h),qA1⟩⟩⟩ ?_ ?_⟩
  ·exact ⟨by decide,by decide,by lia,by lia⟩
  ·rintro i σ H2 hi ⟨o5,o6,o7,o8,ts,rfl,P2,K2,R2,f2,q2⟩;have hi19:i<=18:=by lia
   have ntP:∀{t:Addr},Fre H t->t≠p:=fun h=>by obtain ⟨a,b,e,_⟩:=hP;exact (ne_fre h e).symm
   refine ⟨_,rfl,rfl,_,rfl,if_mid (fun σ H3=>∃(v6:Int) (ts1:List ((Int×Int)×Addr)),σ=[some (.ref p),some (.int m),some (.int way),some (.int thin),some (.ref l),some (.int (1+(i:Int))),some (.int v6),o7,o8]/\zB4 H3 p/\Kp [p] H H3/\ITs H3 l ts1/\(∀t∈ts1,Fre H t.2)/\(way=1->WOk way m ((i:Int)+1) ts1)/\(way=2->WOk way m i ts1)) (fun N hN=>ite2 (fun c=>?_) (fun c=>?_)) ?_⟩
   ·have cw:way=1:=by simpa using c
    refine ⟨_,rfl,_,rfl,_,rfl,_,_,rfl,rfl,_,_,rfl,rfl,p,m - (1+(i:Int))+1,rfl,P2,by lia,by lia,fun d H3 d0 d1 P3 K3=>?_⟩;have K23:=K2.trans K3;have R3:ITs H3 l ts:=R2.kp K3 (nm1 npl.symm) fun t ht=>nm1 (ntP (f2 t ht));refine ⟨_,rfl,.inl ⟨rfl,_,SqL.of R3.top⟩,_,rfl,_,_,rfl,rfl,_,rfl,_,_,rfl,rfl,_,rfl,_,_,rfl,rfl,(by walk_at "ln"),fun t ht=>?_⟩;have ft:Fre H3 t:=ht;refine ⟨(by walk_at "ln"),fun q hq=>?_⟩;have fq:Fre (upd H3 t _) q:=hq;refine ⟨_,rfl,_,_,rfl,rfl,.inr ⟨_,rfl,?_⟩⟩;have nlt:l≠t:=ne_fre ft R3.top;have h4:∀o,(upd H3 t o) l=some (.lst (ts.map fun t=>V.ref t.2)):=fun o=>(upd_ne nlt).trans R3.top;have nlq:l≠q:=ne_fre fq (h4 _);refine ⟨_,_,_,rfl,rfl,upd_same,by split<;>decide,by split<;>decide,?_,fun r hr'=>?_⟩
    ·rw [qAK];show 1*_<=_;split<;>decide
    have nlr:l≠r:=ne_fre (show Fre _ r from hr') ((upd_ne nlq).trans (h4 _));obtain ⟨g0,g1,g2,g3⟩:=ext_pair (d:=d) rfl K23 P3 R3 fl npl ft fq hr';refine ⟨_,_,_,_,rfl,rfl,(upd_ne nlr).trans ((upd_ne nlq).trans (h4 _)),upd_same,?_,hN _ _ ⟨d,_,rfl,g1,g2,g3,?_,fun _=>?_,fun z=>by lia⟩⟩
    ·have hl3:=q2.len;rw [qAD,len_rep,qAK];have:(if decide (0<d)=true then (1:Int) else 0).toNat<=1:=by split<;>decide
     simp only [qAa,qBS];lia
    ·intro u hu;split at hu
     ·rcases qAW.mp hu with z| z
      ·exact f2 u z
      ·rw [qAZ.mp z];exact g0
     ·exact f2 u hu
    ·split
     ·have:=q2.add1 (b:=1+(i:Int) - 1+d) (t:=t) cw (by lia) (by lia) (by lia);have e:1+(i:Int) - 1=i:=by lia
      rw [e] at this ⊢;exact this
     ·exact q2.mono (by lia)
   ·have cw:¬way=1:=by simpa using c
    exact hN _ _ ⟨0,ts,rfl,P2,K2,R2,f2,fun z=>absurd z cw,fun _=>q2⟩
   ·rintro σ H4 ⟨v6,ts1,rfl,P4,K4,R4,f3,qa,qb⟩;refine ⟨_,rfl,rfl,_,rfl,if_mid (fun σ H3=>∃(v6:Int) (ts2:List ((Int×Int)×Addr)),σ=[some (.ref p),some (.int m),some (.int way),some (.int thin),some (.ref l),some (.int (1+(i:Int))),some (.int v6),o7,o8]/\zB4 H3 p/\Kp [p] H H3/\ITs H3 l ts2/\(∀t∈ts2,Fre H t.2)/\WOk way m ((i:Int)+1) ts2) (fun N hN=>ite2 (fun c=>?_) (fun c=>?_)) ?_⟩
    ·have cw:way=2:=by simpa using c
     have q3:=qb cw;refine ⟨_,rfl,_,rfl,_,_,rfl,rfl,p,1+(i:Int)+1,rfl,P4,by lia,by lia,fun d H5 d0 d1 P5 K5=>?_⟩;have K25:=K4.trans K5;have R5:ITs H5 l ts1:=R4.kp K5 (nm1 npl.symm) fun t ht=>nm1 (ntP (f3 t ht));refine ⟨_,rfl,.inl ⟨rfl,_,SqL.of R5.top⟩,_,rfl,_,rfl,_,_,rfl,rfl,_,rfl,(by walk_at "ln"),fun t ht=>?_⟩;have ft:Fre H5 t:=ht;refine ⟨(by walk_at "ln"),fun q hq=>?_⟩;have fq:Fre (upd H5 t _) q:=hq;refine ⟨_,rfl,_,_,rfl,rfl,.inr ⟨_,rfl,?_⟩⟩;have nlt:l≠t:=ne_fre ft R5.top;have h4:∀o,(upd H5 t o) l=some (.lst (ts1.map fun t=>V.ref t.2)):=fun o=>(upd_ne nlt).trans R5.top;have nlq:l≠q:=ne_fre fq (h4 _);refine ⟨_,_,_,rfl,rfl,upd_same,by split<;>decide,by split<;>decide,?_,fun r hr'=>?_⟩
     ·rw [qAK];show 1*_<=_;split<;>decide
     have nlr:l≠r:=ne_fre (show Fre _ r from hr') ((upd_ne nlq).trans (h4 _));obtain ⟨g0,g1,g2,g3⟩:=ext_pair (d:=d) rfl K25 P5 R5 fl npl ft fq hr';refine ⟨_,_,_,_,rfl,rfl,(upd_ne nlr).trans ((upd_ne nlq).trans (h4 _)),upd_same,?_,hN _ _ ⟨d,_,rfl,g1,g2,g3,?_,?_⟩⟩
     ·have hl3:=q3.len;rw [qAD,len_rep,qAK];have:(if decide (0<d)=true then (1:Int) else 0).toNat<=1:=by split<;>decide
      simp only [qAa,qBS];lia
     ·intro u hu;split at hu
      ·rcases qAW.mp hu with z| z
       ·exact f3 u z
       ·rw [qAZ.mp z];exact g0
      ·exact f3 u hu
     ·split
      ·have:=q3.add2 (a:=1+(i:Int) - d) (t:=t) cw (by lia) (by lia) (by lia);rw [show 1+(i:Int)=(i:Int)+1 by lia] at this ⊢;exact this
      ·exact q3.mono (by lia)
    ·have cw:¬way=2:=by simpa using c
     exact hN _ _ ⟨v6,ts1,rfl,P4,K4,R4,f3,qa (hw.resolve_right cw)⟩
    ·rintro σ H5 ⟨v6,ts2,rfl,P5,K5,R5,f4,q4⟩;refine ⟨_,rfl,_,rfl,(by walk_at "ln"),fun b hb=>?_⟩;have fb:Fre H5 b:=hb;refine ⟨_,_,rfl,.inl (SqL.of upd_same),rfl,rfl,.inr ⟨_,rfl,?_⟩⟩;rw [qAC rfl,inV12]
     have hb2:(if (!(decide (way=1)||decide (way=2)))=true then (1:Int) else 0)=0:=by
      have:(decide (way=1)||decide (way=2))=true:=by
       rcases hw with z| z<;>simp [z]
      rw [this];rfl
     rw [hb2];have k5b:Kp [] H5 (upd H5 b (.lst [.int 1,.int 2])):=Kp.new Kp.refl fb;refine ⟨_,_,rfl,rfl,Or.inl ⟨by lia,by lia⟩,_,rfl,by lia,by lia,zCb (lo:=0) (n:=((1+(i:Int))*0).toNat) (fun a σ H6=>σ=[some (.ref p),some (.int m),some (.int way),some (.int thin),some (.ref l),some (.int (1+(i:Int))),some (.int v6),o7,o8]/\H6=upd H5 b (.lst [.int 1,.int 2])) ⟨rfl,rfl⟩ ?_ ?_⟩
     ·intro a σ H6 ha;rw [Int.mul_zero] at ha;exact absurd ha (qCf _)
     ·rintro σ H6 ⟨rfl,rfl⟩;exact ⟨_,_,_,_,ts2,rfl,P5.kp k5b (by simp),K5.trans (k5b.weak (by simp)),R5.kp k5b (by simp) (by simp),f4,q4⟩
  ·rintro σ H2 ⟨o5,o6,o7,o8,ts,rfl,P2,K2,R2,f2,q2⟩;exact ⟨_,rfl,k l ts H2 fl R2 f2 (q2.mono (by lia)) P2 K2⟩
end
theorem zD4 {α:Type} [BEq α] [LawfulBEq α]:∀{L:List α} {i:Nat} {x:α},L.Nodup->L[i]?=some x->L.idxOf x=i
 | [],i,x,_,h=>by simp at h
 | y::L,0,x,_,h=>by
  have:y=x:=qAc h;subst this;simp
 | y::L,i+1,x,hn,h=>by
  rw [qCd] at h;obtain ⟨h1,h2⟩:=qAw.mp hn;have hne:y≠x:=fun z=>h1 (z▸qAN h);rw [List.idxOf_cons,qBD.mpr hne];show L.idxOf x+1=i+1;rw [zD4 h2 h]
theorem map_nodup {α:Type} {f:α->β}:∀{L:List α},L.Nodup->(∀a∈L,∀b∈L,f a=f b->a=b)->(L.map f).Nodup
 | [],_,_=>qA1
 | x::L,h,hi=>by
  obtain ⟨h1,h2⟩:=qAw.mp h;rw [qAd];refine qAw.mpr ⟨fun z=>?_,map_nodup h2 fun a ha b hb=>hi a (qAP _ ha) b (qAP _ hb)⟩;obtain ⟨y,hy,e⟩:=qAI.mp z;rw [hi y (qAP _ hy) x qAR e] at hy;exact h1 hy
theorem ne_nil_read {K:PySem.W.Frag} {c e:Addr} {xs:List V} {Q:VK} (h1:SqL K H c xs) (h2:SqL K H e []) (h:∀bb:Bool,(bb=true->xs≠[])->Q (.bl bb) H):rAlike K 8 false (.ref c) (.ref e) H Q\/rUnlen K true (.ref c) (.ref e) H Q:=by
 by_cases z:xs=[]
 ·subst z;exact .inl ⟨c,e,_,_,rfl,rfl,h1,h2,rfl,(fun i x y h=>by simp at h),h false (fun z=>nomatch z)⟩
 ·refine .inr ⟨c,e,_,_,rfl,rfl,h1,h2,fun y=>z (qCj.mp y),h true fun _=>z⟩
structure Spots (Is:List Int) (m:Nat):Prop where
 len:Is.length=m
 nd:Is.Nodup
 lt:∀x∈Is,0<=x/\x<m
theorem Spots.put {Is:List Int} {m:Nat} (S:Spots Is m) (d:Nat):Spots (Is.take d++(m:Int)::Is.drop d) (m+1):=by
 have hp:=ST.ins_perm Is d (m:Int);refine ⟨by rw [hp.length_eq,qAa,S.len],hp.nodup_iff.mpr (qAw.mpr ⟨fun z=>?_,S.nd⟩),fun x hx=>?_⟩
 ·have:=(S.lt _ z).2;lia
 ·rcases qAO.mp (hp.mem_iff.mp hx) with z| z
  ·subst z;lia
  ·have:=S.lt x z;lia
def zHw (ns:List Str) (Is:List Int):List Str:=Is.map fun k=>ns.getD k.toNat Str.empty
theorem rowOf_nd {ns:List Str} {Is:List Int} (hn:ns.Nodup) (S:Spots Is ns.length):(zHw ns Is).Nodup:=by
 refine map_nodup S.nd fun a ha b hb e=>?_;have h1:=S.lt a ha;have h2:=S.lt b hb;have e1:ns.getD a.toNat Str.empty=ns[a.toNat]'(by lia):=by rw [qA6,qAr (by lia)];rfl
 have e2:ns.getD b.toNat Str.empty=ns[b.toNat]'(by lia):=by rw [qA6,qAr (by lia)];rfl
 rw [e1,e2] at e;have:=(List.getElem_inj hn).mp e;lia
theorem rowOf_at {ns:List Str} {Is:List Int} (S:Spots Is ns.length) {i:Int} (h0:0<=i) (h1:i<ns.length):∃s n,Is[i.toNat]?=some s/\0<=s/\ns[s.toNat]?=some n/\(zHw ns Is)[i.toNat]?=some n:=by
 have hi:i.toNat<Is.length:=by rw [S.len];lia
 have hs:=S.lt Is[i.toNat] (qBd hi);have hs':Is[i.toNat].toNat<ns.length:=by lia
 refine ⟨Is[i.toNat],ns[Is[i.toNat].toNat],qAr hi,hs.1,qAr hs',?_⟩;unfold zHw;rw [qAe,qAr hi];show some (ns.getD _ _)=_;rw [qA6,qAr hs'];rfl
theorem ins_map {α:Type} (f:α->β) (L:List α) (d:Nat) (x:α):(L.map f).take d++f x::(L.map f).drop d=(L.take d++x::L.drop d).map f:=by
 rw [qAS,qAd,qC8,List.map_drop]
theorem it_at {v:V} (h:(ts.map fun q=>V.ref q.2)[i]?=some v):∃q,ts[i]?=some q/\v= .ref q.2:=by
 rw [qAe] at h;obtain ⟨n,e,r⟩:=qBH.mp h;exact ⟨n,e,r.symm⟩
theorem ITs.kpP {p:Addr} (I:ITs H l ts) (k:Kp [p] H H') (P:zB4 H p) (h1:l≠p):ITs H' l ts:=I.kp k (nm1 h1) fun t ht=>nm1 (by
 obtain ⟨a,b,e,_⟩:=P;exact zBl (I.row t ht) e (fun z=>nomatch z))
theorem it_mem {j x:Int} (h:x∈(ts.filter fun t=>decide (t.1.1=j)).map fun t=>t.1.2):∃t∈ts,t.1.1=j/\t.1.2=x:=by
 obtain ⟨t,h1,h2⟩:=qAI.mp h;obtain ⟨h3,h4⟩:=qAQ.mp h1;exact ⟨t,h3,qAm h4,h2⟩
inductive WI (ts:List ((Int×Int)×Addr)):Int->Int->Prop
 | one {t:(Int×Int)×Addr}:t∈ts->WI ts t.1.1 t.1.2
 | tr {a b c:Int}:WI ts a b->WI ts b c->WI ts a c
structure Clo (ts ts':List ((Int×Int)×Addr)):Prop where
 old:∀t∈ts,t∈ts'
 fol:∀t∈ts',WI ts t.1.1 t.1.2
theorem Clo.refl (ts:List ((Int×Int)×Addr)):Clo ts ts:=⟨fun _ h=>h,fun _ h=>.one h⟩
theorem Clo.add {ts' ts2:List ((Int×Int)×Addr)} {t u:(Int×Int)×Addr} {x:Int} {q:Addr} (c:Clo ts ts') (hp:ts2.Perm (((t.1.1,x),q)::ts')) (ht:t∈ts') (hu:u∈ts') (u1:u.1.1=t.1.2) (u2:u.1.2=x):Clo ts ts2:=by
 refine ⟨fun v hv=>hp.mem_iff.mpr (qAP _ (c.old v hv)),fun v hv=>?_⟩;rcases qAO.mp (hp.mem_iff.mp hv) with z| z
 ·rw [z];have h1:=c.fol t ht;have h2:=c.fol u hu;rw [u1,u2] at h2;exact .tr h1 h2
 ·exact c.fol v z
section
def spMore:Sp:=fun vs H Q _=>∃(p c:Addr) (m:Int) (ts:List ((Int×Int)×Addr)),vs=[.ref p,.ref c]/\zB4 H p/\ITs H c ts/\c≠p/\zD8 m ts/\ts.length<=19/\∀(g:Addr) (ts':List ((Int×Int)×Addr)) (H':Hp),Fre H g->ITs H' g ts'->zD8 m ts'->Clo ts ts'->ts'.length<=22->zB4 H' p->Kp [p] H H'->Q (.ref g) H'
abbrev zCy:Stmt:=top 51
theorem zBj:FnScope ["_law_purse_here", "_law_pairs_here", "_law_found", "_law_k", "_law_i", "_law_j", "_law_onward"] ["_law_purse_here", "_law_pairs_here"] (zAd zCy):=fnS
theorem zJb {f:Addr} {fd:FuncData} (F:Fun K "_law_more_pairs" "_law_more_pairs" zCy f fd) (T:Txt K mg) (C_take:Cal P w K mg base "_law_take" 1 ["_law_purse_here", "_law_many"] zH6):FnOk P w K mg base CX0 2 f fd ["_law_purse_here", "_law_pairs_here"] spMore:=by
 refine F.ok zBj (fun vs H Q E h=>?_) (fun cdv A outer s H vs Q E hr h=>?_)
 ·obtain ⟨p,c,m,ts,rfl,_⟩:=h;rfl
 ·obtain ⟨p,c,m,ts,rfl,hP,I0,ncp,ok0,hts,k⟩:=h
  refine ⟨_,(zAc (psS (i:=2) zBj.nd (zAm zAz (by rfl) T.z_list zB2 (zAa (pv 1) zAb)))
   (zAc (zBb qAk rfl (zCq rfl T.z_range (zAa (zAt zE9 (zAm zFl (by rfl) T.z_int bo_int (zAa (zCr (zI7 hr) (pv 1) (zCf zAb) (zAu _)) zAb)) (zAf C_take hr rfl (zAa (pv 0) (zAa zAg zAb)))) zAb)) (pgN (i:=3) zBj.nd)
    (zAc (ps_asg (zCi zCs (pv 2) (zAf C_take hr rfl (zAa (pv 0) (zAa (zAh zAi (by rfl) T.z_len zA4 (zAa (pv 2) zAb)) zAb))) (fun _ _=>rfl)) (pg_tup rfl (zAw (pgN (i:=4) zBj.nd) (zAw (pgN (i:=5) zBj.nd) zDi))))
    (zAc (zG3 (i:=6) rfl (zBc (sc:=zAd zCy) rfl (by decide +kernel)) (Draws.own (x:= "_law_pair") (dtk (i:=5) rfl Draws.nil)) (zAl (pv 2)) (fun _ _ _ _=>(pgB (i:=0))) (fun _ _ _ _=>(zB6 (zAs zI8 (zCi (ix_tupK (K:=K)) (pv 0) zAg (fun _ _=>rfl)) (pv 1) (zAu _)))) (fun _ _ _ _=>(zCi (ix_tupK (K:=K)) (pv 0) zAg (fun _ _=>rfl))) zBj.nd rfl rfl)
    (zAe (zBx (zAs (zI7 hr) (pv 6) (zCf zAb) (zAu _))
     (zAe (zA8 (zHx qBX PySem.F.slot_list_insert PySem.F.type_list_insert mt_insert (pv 2) (zAa (zAf C_take hr rfl (zAa (pv 0) (zAa (zAt zBz (zAh zAi (by rfl) T.z_len zA4 (zAa (pv 2) zAb)) zAg) zAb))) (zAa (zC2 (zAa (pv 4) (zAa (zCi zCs (pv 6) (zAf C_take hr rfl (zAa (pv 0) (zAa (zAh zAi (by rfl) T.z_len zA4 (zAa (pv 6) zAb)) zAb))) (fun _ _=>rfl)) zAb))) zAb)))))
     zAq)))))
   (zAe (zAo (pv 2))))),?_⟩
  refine ⟨_,rfl,_,_,rfl,.inl (SqL.of I0.top),fun g hg=>?_⟩;have fg:Fre H g:=hg;have npg:p≠g:=by obtain ⟨x,y,q,_⟩:=hP;exact ne_fre fg q
  have k1:Kp [] H (upd H g (.lst (ts.map fun t=>V.ref t.2))):=Kp.new Kp.refl fg;have I1:ITs (upd H g (.lst (ts.map fun t=>V.ref t.2))) g ts:=⟨upd_same,fun t ht=>k1 _ _ (I0.row t ht) (by simp)⟩;have J1:=I0.kp k1 (by simp) (by simp);have P1:=hP.kp k1 (by simp);generalize upd H g (.lst (ts.map fun t=>V.ref t.2))=H1 at k1 I1 J1 P1 ⊢;refine ⟨_,rfl,(by walk_at "ln"),fun e he=>?_⟩;have fe:Fre H1 e:=he;have k2:Kp [] H1 (upd H1 e (.lst [])):=Kp.new Kp.refl fe;have J2:=J1.kp k2 (by simp) (by simp);refine ne_nil_read (xs:=ts.map fun t=>V.ref t.2) (SqL.of J2.top) (SqL.of upd_same) fun bb hbb=>?_;have I2:=I1.kp k2 (by simp) (by simp);have P2:=P1.kp k2 (by simp);generalize upd H1 e (.lst [])=H2 at k2 I2 P2 ⊢;refine .inr ⟨bb,rfl,?_⟩;refine ⟨_,rfl,p,4,rfl,P2,by decide,by decide,fun dd H3 dd0 dd1 P3 K3=>?_⟩;have I3:=I2.kpP K3 P2 npg.symm;have K03:Kp [p] H H3:=Kp.trans ((k1.trans k2).weak (by simp)) K3
  have hmul:(if bb=true then (1:Int) else 0)*dd=0\/((if bb=true then (1:Int) else 0)*dd=dd/\ts≠[]):=by
   cases bb with
   | false=>left;rw [qAB (by decide)];lia
   | true=>right;rw [qAC rfl];exact ⟨by lia,fun z=>hbb rfl (by rw [z];rfl)⟩
  have hml:(if bb=true then (1:Int) else 0)=0\/(if bb=true then (1:Int) else 0)=1:=by cases bb<;>simp
  generalize (if bb=true then (1:Int) else 0)=n01 at hmul hml ⊢
  refine ⟨_,_,rfl,rfl,?_,_,rfl,by rcases hmul with z| ⟨z,_⟩<;>lia,by rcases hmul with z| ⟨z,_⟩<;>lia,zCb (lo:=0) (n:=(n01*dd).toNat) (fun i σ H7=>∃(o3 o4 o5 o6:Option V) (ts':List ((Int×Int)×Addr)),σ=[some (.ref p),some (.ref c),some (.ref g),o3,o4,o5,o6]/\zB4 H7 p/\Kp [p] H H7/\ITs H7 g ts'/\zD8 m ts'/\Clo ts ts'/\ts.length<=ts'.length/\ts'.length<=ts.length+i)
   ⟨_,_,_,_,ts,rfl,P3,K03,I3,ok0,Clo.refl ts,qAG _,qAG _⟩ ?_ ?_⟩
  ·rcases hml with z| z
   ·exact Or.inl ⟨by lia,by lia⟩
   ·exact Or.inl ⟨by lia,by lia⟩
  ·rintro i σ H7 hi ⟨o3,o4,o5,o6,ts',rfl,P7,K7,I7,ok7,cl7,l7,u7⟩;have hi4:i<4:=by rcases hmul with z| ⟨z,_⟩<;>lia
   have ne:ts≠[]:=by
    rcases hmul with z| ⟨_,z⟩
    ·rw [z] at hi;exact absurd hi (qCf _)
    ·exact z
   have pos:0<ts'.length:=by
    have:=qDE.mpr ne;lia
   refine ⟨_,rfl,_,rfl,_,rfl,_,_,rfl,.inl (SqL.of I7.top),p,_,rfl,P7,?_,?_,fun d1 H8 x0 x1 P8 K8=>?_⟩
   ·rw [qAD];lia
   ·rw [qAD];lia
   rw [qAD] at x1;have I8:=I7.kpP K8 P7 npg.symm;obtain ⟨t,et⟩:∃t,ts'[d1.toNat]?=some t:=⟨ts'[d1.toNat]'(by lia),qAr (by lia)⟩;have mt:=qAN et;have evt:(ts'.map fun t=>V.ref t.2)[d1.toNat]?=some (V.ref t.2):=by rw [qAe,et];rfl
   refine ⟨_,_,_,.ref t.2,rfl,rfl,SqL.of I8.top,zGa x0 evt,_,_,rfl,.inl (.inl (I8.row t mt)),rfl,_,_,rfl,_,_,rfl,rfl,?_⟩
   refine ⟨_,rfl,_,rfl,⟨_,SqL.of I8.top⟩,fun b hb=>zBi (ts'.map fun t=>V.ref t.2) (fun i ys τ H9=>(∃o0,τ=[o0,some (.int t.1.2)])/\ys=(((ts'.take i).filter fun u=>decide (u.1.1=t.1.2)).map fun u=>V.int u.1.2)/\H9=upd H8 b (.lst ys))
    ⟨⟨_,rfl⟩,rfl,rfl⟩ (fun i ys τ H9 ⟨_,_,z⟩=>by subst z;exact SqL.of ((Kp.new (M:=[]) Kp.refl hb) _ _ I8.top (by simp))) ?_ ?_⟩
   ·rintro i v ys τ H9 hv ⟨⟨o0,rfl⟩,rfl,rfl⟩;obtain ⟨u,eu,rfl⟩:=it_at hv;have hrow:(upd H8 b (.lst (((ts'.take i).filter fun u=>decide (u.1.1=t.1.2)).map fun u=>V.int u.1.2))) u.2=some (.tup [.int u.1.1,.int u.1.2]):=(Kp.new (M:=[]) Kp.refl hb) _ _ (I8.row u (qAN eu)) (by simp);refine ⟨_,rfl,_,_,_,_,rfl,rfl,.inl (.inl hrow),atI_natc (n:=0) rfl,_,rfl,rfl,_,rfl,ite2 (fun c=>?_) (fun c=>?_)⟩
    ·have c':u.1.1=t.1.2:=by simpa using c
     refine ⟨_,rfl,_,_,_,_,rfl,rfl,.inl (.inl hrow),atI_natc (n:=1) rfl,upd_same,?_,⟨_,rfl⟩,?_,zBo⟩
     ·have h1:=qAx (fun u:(Int×Int)×Addr=>decide (u.1.1=t.1.2)) (ts'.take i);rw [qAY] at h1;rw [qAD,qAK];lia
     ·rw [zCa eu (qAU c'),qAS];rfl
    ·have c':¬u.1.1=t.1.2:=fun z=>c (by simpa using z);refine ⟨⟨_,rfl⟩,?_,?_⟩
     ·rw [zC7 eu (by simpa using c')]
     ·rfl
   rintro ys τ H9 ⟨_,rfl,rfl⟩;have eT:ts'.take (ts'.map fun t=>V.ref t.2).length=ts':=by rw [qAD,qAi]
   rw [eT];have fb:Fre H8 b:=hb;have npb:p≠b:=by obtain ⟨x,y,q,_⟩:=P8;exact ne_fre fb q
   have eO:((ts'.filter fun u=>decide (u.1.1=t.1.2)).map fun u=>V.int u.1.2)=((ts'.filter fun u=>decide (u.1.1=t.1.2)).map fun u=>u.1.2).map V.int:=by rw [qAt];rfl
   rw [eO];have hOl:((ts'.filter fun u=>decide (u.1.1=t.1.2)).map fun u=>u.1.2).length<=ts'.length:=by rw [qAD];exact qAx _ _
   have hOm:∀x∈((ts'.filter fun u=>decide (u.1.1=t.1.2)).map fun u=>u.1.2),∃u∈ts',u.1.1=t.1.2/\u.1.2=x:=fun x hx=>it_mem hx;generalize ((ts'.filter fun u=>decide (u.1.1=t.1.2)).map fun u=>u.1.2)=On at hOl hOm ⊢;have k9:Kp [] H8 (upd H8 b (.lst (On.map V.int))):=Kp.new Kp.refl fb;have h9:(upd H8 b (.lst (On.map V.int))) b=some (.lst (On.map V.int)):=upd_same;have I9:=I8.kp k9 (by simp) (by simp);have P9:=P8.kp k9 (by simp);generalize upd H8 b (.lst (On.map V.int))=H9 at k9 h9 I9 P9 ⊢;have K79:Kp [p] H7 H9:=K8.trans (k9.weak (by simp));refine ⟨_,rfl,(by walk_at "ln"),fun e2 he2=>?_⟩;have fe2:Fre H9 e2:=he2;have k10:Kp [] H9 (upd H9 e2 (.lst [])):=Kp.new Kp.refl fe2;have h10:=k10 b _ h9 (by simp);have h10e:(upd H9 e2 (.lst [])) e2=some (.lst []):=upd_same;have I10:=I9.kp k10 (by simp) (by simp);have P10:=P9.kp k10 (by simp);generalize upd H9 e2 (.lst [])=H10 at k10 h10 h10e I10 P10 ⊢;have K710:Kp [p] H7 H10:=K79.trans (k10.weak (by simp));refine ne_nil_is (SqL.of h10) (SqL.of h10e) ?_;refine ⟨_,rfl,ite2 (fun c1=>?_) (fun c1=>?_)⟩
   ·have posO:0<On.length:=qDE.mpr fun z=>by rw [z] at c1;exact absurd c1 (by decide)
    refine ⟨_,rfl,.inl ⟨rfl,_,SqL.of I10.top⟩,_,rfl,_,rfl,_,_,rfl,.inl (SqL.of I10.top),_,_,rfl,rfl,p,_,rfl,P10,?_,?_,fun d2 H11 y0 y1 P11 K11=>?_⟩
    ·lia
    ·rw [qAD];lia
    rw [qAD] at y1;have I11:=I10.kpP K11 P10 npg.symm;have h11:=K11 b _ h10 (nm1 npb.symm);refine ⟨_,rfl,_,rfl,_,rfl,_,rfl,_,_,rfl,.inl (SqL.of h11),p,_,rfl,P11,?_,?_,fun d3 H12 z0 z1 P12 K12=>?_⟩
    ·rw [qAD];lia
    ·rw [qAD];lia
    rw [qAD] at z1;have I12:=I11.kpP K12 P11 npg.symm;have h12:=K12 b _ h11 (nm1 npb.symm);obtain ⟨x,ex⟩:∃x,On[d3.toNat]?=some x:=⟨On[d3.toNat]'(by lia),qAr (by lia)⟩;obtain ⟨u,mu,u1,u2⟩:=hOm x (qAN ex);have evx:(On.map V.int)[d3.toNat]?=some (V.int x):=by rw [qAe,ex];rfl
    refine ⟨_,_,_,.int x,rfl,rfl,SqL.of h12,zGa z0 evx,(by walk_at "ln"),fun q hq=>?_⟩;have fq:Fre H12 q:=hq;have k13:Kp [] H12 (upd H12 q (.tup [.int t.1.1,.int x])):=Kp.new Kp.refl fq;have h13:(upd H12 q (.tup [.int t.1.1,.int x])) q=some (.tup [.int t.1.1,.int x]):=upd_same;have I13:=I12.kp k13 (by simp) (by simp);have P13:=P12.kp k13 (by simp);generalize upd H12 q (.tup [.int t.1.1,.int x])=H13 at k13 h13 I13 P13 ⊢;refine ⟨_,_,_,_,rfl,rfl,I13.top,?_,y0,?_,?_⟩
    ·rw [qAD,qAK];lia
    ·rw [qAD];lia
    ·have hp:=ST.ins_perm ts' d2.toNat (((t.1.1,x),q):(Int×Int)×Addr);have K713:Kp [p] H7 H13:=K710.trans (K11.trans (K12.trans (k13.weak (by simp))));refine ⟨_,_,_,_,ts'.take d2.toNat++((t.1.1,x),q)::ts'.drop d2.toNat,rfl,P13.kp (M:=[g]) (Kp.put Kp.refl (by simp)) (nm1 npg),Kp.new (K7.trans K713) fg,⟨?_,fun v hv=>?_⟩,fun v hv=>?_,cl7.add hp mt mu u1 u2,?_,?_⟩
     ·rw [upd_same,<-ins_map (fun t:(Int×Int)×Addr=>V.ref t.2)]
     ·rcases qAO.mp (hp.mem_iff.mp hv) with z| z
      ·rw [z];exact (upd_ne (zBl h13 I13.top (fun y=>nomatch y))).trans h13
      ·exact (upd_ne (zBl (I13.row v z) I13.top (fun y=>nomatch y))).trans (I13.row v z)
     ·rcases qAO.mp (hp.mem_iff.mp hv) with z| z
      ·rw [z];have q1:=ok7 t mt;have q2:=ok7 u mu;exact ⟨q1.1,by show t.1.1<x;lia,by show x<m;lia⟩
      ·exact ok7 v z
     ·rw [hp.length_eq,qAa];lia
     ·rw [hp.length_eq,qAa];lia
   ·exact ⟨_,_,_,_,ts',rfl,P10,K7.trans K710,I10,ok7,cl7,l7,by lia⟩
  ·rintro σ H7 ⟨o3,o4,o5,o6,ts',rfl,P7,K7,I7,ok7,cl7,l7,u7⟩;refine ⟨_,rfl,k g ts' H7 fg I7 ok7 cl7 ?_ P7 K7⟩;rcases hmul with z| ⟨z,_⟩<;>lia
end
structure WoodQ (way m:Int) (ts ts':List ((Int×Int)×Addr)) (R:List Str) (qs:List (List Str×Addr)):Prop where
 nd:R.Nodup
 ok:WOk way m 19 ts
 cl:Clo ts ts'
 wy:way=1\/way=2
 len:qs.length=ts'.length
 at':∀(j:Nat) (q:List Str×Addr) (t:(Int×Int)×Addr),qs[j]?=some q->ts'[j]?=some t->R[t.1.1.toNat]?=some (fst q)/\R[t.1.2.toNat]?=some (snd q)
section
def spWood:Sp:=fun vs H Q _=>∃(p:Addr) (mo:Int),vs=[.ref p,.int mo]/\0<=mo/\mo<=20/\zB4 H p/\∀(t l m:Addr) (ns:List Str) (qs:List (List Str×Addr)) (r:Str->Nat) (way mm:Int) (ts ts':List ((Int×Int)×Addr)) (R:List Str) (H':Hp),(ns.length:Int)<=mo->qs.length<=22->H' t=some (.tup [.ref l,.ref m])->Fre H t->Fre H l->Fre H m->(∀q∈qs,Fre H q.2)->Txs H' l ns->Ords H' m qs->Good ns qs r->WoodQ way mm ts ts' R qs->zB4 H' p->Kp [p] H H'->Q (.ref t) H'
abbrev s_wood:Stmt:=top 52
theorem zFp:FnScope ["_law_purse_here", "_law_most", "_law_many", "_law_names_here", "_law_pairs_here", "_law_spots", "_law_k"] ["_law_purse_here", "_law_most"] (zAd s_wood):=fnS
theorem ok_wood {f:Addr} {fd:FuncData} (F:Fun K "_law_wood" "_law_wood" s_wood f fd) (T:Txt K mg) (C_take:Cal P w K mg base "_law_take" 1 ["_law_purse_here", "_law_many"] zH6) (C_names:Cal P w K mg base "_law_names" 2 ["_law_purse_here", "_law_many"] spLNames)
  (C_pairs:Cal P w K mg base "_law_pairs" 2 ["_law_purse_here", "_law_many", "_law_way", "_law_thin"] spLPairs) (C_more_pairs:Cal P w K mg base "_law_more_pairs" 2 ["_law_purse_here", "_law_pairs_here"] spMore):FnOk P w K mg base CX0 3 f fd ["_law_purse_here", "_law_most"] spWood:=by
 refine F.ok zFp (fun vs H Q E h=>?_) (fun cdv A outer s H vs Q E hr h=>?_)
 ·obtain ⟨p,mo,rfl,_⟩:=h;rfl
 ·obtain ⟨p,mo,rfl,mo0,mo1,hP,k⟩:=h;have HR_take:=hr.mono (j:=1) (by decide)
  refine ⟨_,(zAc (psS (i:=2) zFp.nd (zAf C_take HR_take rfl (zAa (pv 0) (zAa (zAt zBz (pv 1) zAg) zAb))))
   (zAc (psS (i:=3) zFp.nd (zAf C_names hr rfl (zAa (pv 0) (zAa (pv 2) zAb))))
   (zAc (psS (i:=4) zFp.nd (zAf C_more_pairs hr rfl (zAa (pv 0) (zAa (zAf C_pairs hr rfl (zAa (pv 0) (zAa (pv 2) (zAa (zAt zBz zAg (zAf C_take HR_take rfl (zAa (pv 0) (zAa zAg zAb)))) (zAa zAg zAb))))) zAb))))
   (zAc (psS (i:=5) zFp.nd (zCf zAb))
   (zAc (zBb qAk rfl (zCq rfl T.z_range (zAa (pv 2) zAb)) (pgN (i:=6) zFp.nd)
    (zAe (zA8 (zHx qBX PySem.F.slot_list_insert PySem.F.type_list_insert mt_insert (pv 5) (zAa (zAf C_take HR_take rfl (zAa (pv 0) (zAa (zAt zBz (pv 6) zAg) zAb))) (zAa (pv 6) zAb))))))
   (zAe (zAo (zC2 (zAa (pv 3) (zAa (zA5 rfl (zBc (sc:=zAd s_wood) rfl (by decide +kernel)) (Draws.own (x:= "_law_i") (Draws.own (x:= "_law_j") (dtk (i:=3) rfl (dtk (i:=5) rfl Draws.nil)))) (zAl (pv 4)) (fun _ _ _ _=>(zG4 (K:=K) (n:=2) rfl (zAw (pgB (i:=0)) (zAw (pgB (i:=1)) zDi)))) (fun _ _ _ _=>zCe) (fun _ _ _ _=>(zC2 (zAa (zCi (zGs (K:=K)) (pv 2) (zCi (zGs (K:=K)) (pv 3) (pv 0) (fun _ _=>rfl)) (fun _ _=>rfl)) (zAa (zCi (zGs (K:=K)) (pv 2) (zCi (zGs (K:=K)) (pv 3) (pv 1) (fun _ _=>rfl)) (fun _ _=>rfl)) zAb))))) zAb)))))))))),?_⟩
  refine ⟨_,rfl,_,rfl,_,_,rfl,rfl,p,mo+1,rfl,hP,by lia,by lia,fun m H1 m0 m1 P1 K1=>?_⟩;refine ⟨_,rfl,_,rfl,p,m,rfl,P1,m0,by lia,fun l ns H2 fl hl en nd nm P2 K2=>?_⟩;have npl:p≠l:=by obtain ⟨a,b,e,_⟩:=P1;exact ne_fre fl e
  refine ⟨_,rfl,_,rfl,_,rfl,_,rfl,p,2,rfl,P2,by decide,by decide,fun dw H3 w0 w1 P3 K3=>?_⟩;refine ⟨_,_,rfl,rfl,p,m,_,2,rfl,P3,m0,by lia,by lia,fun c0 ts H4 fc0 I4 ft4 wk4 P4 K4=>?_⟩;have npc0:p≠c0:=by obtain ⟨x,y,e,_⟩:=P3;exact ne_fre fc0 e
  refine ⟨p,c0,m,ts,rfl,P4,I4,npc0.symm,wk4.ok,by have:=wk4.len;lia,fun c ts' H7 fc I7 ok7 cl7 hts P7 K47=>?_⟩;have npc:p≠c:=by obtain ⟨x,y,e,_⟩:=P4;exact ne_fre fc e
  have K27:Kp [p] H2 H7:=K3.trans (K4.trans K47);have K7:Kp [p] H H7:=K1.trans (K2.trans K27);have hl7:Txs H7 l ns:=K27 l _ hl (nm1 npl.symm);have flH:Fre H l:=K1.fre fl (nm1 npl.symm);refine ⟨(by walk_at "ln"),fun g hg=>?_⟩;have fg:Fre H7 g:=hg;have npg:p≠g:=by obtain ⟨x,y,q,_⟩:=P7;exact ne_fre fg q
  have nlg:l≠g:=ne_fre fg hl7;have ncg:c≠g:=ne_fre fg I7.top;have fgH:Fre H g:=K7.fre fg (nm1 npg.symm);have k7g:Kp [] H7 (upd H7 g (.lst [])):=Kp.new Kp.refl fg;have ntp':∀t∈ts',t.2∉[p]:=fun t ht=>nm1 (by obtain ⟨x,y,q,_⟩:=P7;exact zBl (I7.row t ht) q (fun z=>nomatch z))
  refine ⟨_,rfl,_,rfl,by lia,by lia,zCb (lo:=0) (n:=m.toNat) (fun i σ H8=>∃(o7:Option V) (Is:List Int),σ=[some (.ref p),some (.int mo),some (.int m),some (.ref l),some (.ref c),some (.ref g),o7]/\zB4 H8 p/\Kp [p] H H8/\Txs H8 l ns/\ITs H8 c ts'/\H8 g=some (.lst (Is.map V.int))/\Spots Is i)
   ⟨_,[],rfl,P7.kp k7g (by simp),Kp.new K7 fgH,k7g l _ hl7 (by simp),I7.kp k7g (by simp) (by simp),upd_same,rfl,qA1,(fun x h=>nomatch h)⟩ ?_ ?_⟩
  ·rintro i σ H8 hi ⟨o7,Is,rfl,P8,K8,hl8,I8,hg8,S8⟩;refine ⟨_,rfl,.inl ⟨rfl,_,SqL.of hg8⟩,_,rfl,_,rfl,_,_,rfl,rfl,p,_,rfl,P8,?_,?_,fun d1 H9 x0 x1 P9 K9=>?_⟩
   ·lia
   ·lia
   have hg9:=K9 g _ hg8 (nm1 npg.symm);refine ⟨_,rfl,_,_,_,_,rfl,rfl,hg9,?_,x0,?_,?_⟩
   ·rw [qAD,S8.len,qAK];lia
   ·rw [qAD,S8.len];lia
   ·have e1:(Is.map V.int).take d1.toNat++V.int (0+(i:Int))::(Is.map V.int).drop d1.toNat=(Is.take d1.toNat++(i:Int)::Is.drop d1.toNat).map V.int:=by
     rw [qDQ];exact ins_map V.int Is d1.toNat (i:Int)
    rw [e1];have hl9:=K9 l _ hl8 (nm1 npl.symm);have I9:=I8.kp K9 (nm1 npc.symm) ntp';exact ⟨_,_,rfl,P9.kp (M:=[g]) (Kp.put Kp.refl (by simp)) (nm1 npg),Kp.new (K8.trans K9) fgH,(upd_ne nlg).trans hl9,⟨(upd_ne ncg).trans I9.top,fun u hu=>(upd_ne (zBl (I9.row u hu) hg9 (fun y=>nomatch y))).trans (I9.row u hu)⟩,upd_same,S8.put _⟩
  ·rintro σ H8 ⟨o7,Is,rfl,P8,K8,hl8,I8,hg8,S8⟩;rw [<-en] at S8;have hmn:(ns.length:Int)=m:=by rw [en];lia
   refine ⟨_,rfl,_,rfl,_,rfl,⟨_,SqL.of I8.top⟩,fun B hB=>zBd (ts'.map fun t=>V.ref t.2) (fun i ys τ H9=>∃ks:List (List Str×Addr),(∃o0 o1,τ=[o0,o1,some (.ref l),some (.ref g)])/\ys=(ks.map fun q=>V.ref q.2)/\ks.length=i/\(∀(j:Nat) (q:List Str×Addr) (t:(Int×Int)×Addr),ks[j]?=some q->ts'[j]?=some t->(zHw ns Is)[t.1.1.toNat]?=some (fst q)/\(zHw ns Is)[t.1.2.toNat]?=some (snd q))/\(∀q∈ks,H9 q.2=some (.tup (q.1.map V.str))/\Fre H q.2/\∃(a b:Str) (x y:Nat),q.1=[a,b]/\x<y/\(zHw ns Is)[x]?=some a/\(zHw ns Is)[y]?=some b)/\Kp [] H8 H9/\H9 B=some (.lst ys))
    ⟨[],⟨_,_,rfl⟩,rfl,rfl,(fun j q t h=>by simp at h),(fun q h=>nomatch h),Kp.new Kp.refl hB,upd_same⟩ (fun i ys τ H9 ⟨_,_,_,_,_,_,k9,_⟩=>SqL.of (k9 c _ I8.top (by simp))) ?_ ?_⟩
   ·rintro i v ys τ H9 hv ⟨ks,⟨o0,o1,rfl⟩,rfl,ek,hj,hk,k9,h9⟩;obtain ⟨t,eq,rfl⟩:=it_at hv;have mt:=qAN eq;have okt:=ok7 t mt;have hrow:H9 t.2=some (.tup [.int t.1.1,.int t.1.2]):=k9 t.2 _ (I8.row t mt) (by simp);refine ⟨_,_,rfl,.inl (.inl hrow),rfl,_,_,rfl,_,_,rfl,rfl,?_⟩;obtain ⟨s1,n1,a1,a2,a3,a4⟩:=rowOf_at S8 okt.1 (by lia);obtain ⟨s2,n2,b1,b2,b3,b4⟩:=rowOf_at S8 (i:=t.1.2) (by lia) (by lia);have hl9:=k9 l _ hl8 (by simp);have hg9:=k9 g _ hg8 (by simp);have ai:∀{x:Int} {s:Int},0<=x->Is[x.toNat]?=some s->atI (Is.map V.int) x=some (.int s):=fun h0 h=>zGa h0 (by rw [qAe,h];rfl);have an:∀{x:Int} {n:Str},0<=x->ns[x.toNat]?=some n->atI (ns.map V.str) x=some (.str n):=fun h0 h=>zGa h0 (by rw [qAe,h];rfl);refine ⟨_,rfl,_,rfl,_,rfl,_,_,_,_,rfl,rfl,SqL.of hg9,ai okt.1 a1,_,_,_,_,rfl,rfl,SqL.of hl9,an a2 a3,_,rfl,_,rfl,_,rfl,_,_,_,_,rfl,rfl,SqL.of hg9,ai (by lia) b1,_,_,_,_,rfl,rfl,SqL.of hl9,an b2 b3,(by walk_at "ln"),fun u hu=>?_⟩;have fu:Fre H9 u:=hu;have nBu:B≠u:=ne_fre fu h9;have hu8:Fre H8 u:=k9.fre fu (by simp);have npu:p≠u:=by obtain ⟨x,y,q,_⟩:=P8;exact ne_fre hu8 q
    have fuH:Fre H u:=K8.fre hu8 (nm1 npu.symm);refine ⟨(upd_ne nBu).trans h9,?_,ks++[([n1,n2],u)],⟨_,_,rfl⟩,?_,by rw [qAo,ek];rfl,fun j q t' e1 e2=>?_,fun q hq=>?_,Kp.new (Kp.new k9 (k9.fre fu (by simp))) hB,upd_same⟩
    ·have:=(qAf.mp eq).1;rw [qAD,ek,qAK];lia
    ·rw [qAS];rfl
    ·by_cases c:j<ks.length
     ·rw [qBj c] at e1;exact hj j q t' e1 e2
     ·have hjl:=(qAf.mp e1).1;rw [qAo,qBm] at hjl;have ej:j=i:=by lia
      rw [qBi (by lia),show j - ks.length=0 by lia] at e1;have e1:([n1,n2],u)=q:=by simpa using e1
      rw [ej,eq] at e2
      cases e2
      rw [<-e1];exact ⟨a4,b4⟩
    ·rcases qAW.mp hq with z| z
     ·obtain ⟨z1,z2⟩:=hk q z;exact ⟨(upd_ne (zBl z1 h9 (fun y=>nomatch y))).trans ((upd_ne (ne_fre fu z1)).trans z1),z2⟩
     ·rw [qAZ.mp z];exact ⟨(upd_ne nBu.symm).trans upd_same,fuH,n1,n2,t.1.1.toNat,t.1.2.toNat,rfl,by lia,a4,b4⟩
   ·rintro ys τ H9 ⟨ks,_,rfl,ek,hj,hk,k9,h9⟩;rw [qAD] at ek;refine ⟨(by walk_at "ln"),fun t ht=>?_⟩;have ft:Fre H9 t:=ht;have k10:Kp [] H9 (upd H9 t (.tup [.ref l,.ref B])):=Kp.new Kp.refl ft;have ft8:Fre H8 t:=k9.fre ft (by simp);have npt:p≠t:=by obtain ⟨x,y,q,_⟩:=P8;exact ne_fre ft8 q
    have npB:p≠B:=by obtain ⟨x,y,q,_⟩:=P8;exact ne_fre (show Fre H8 B from hB) q
    have rnd:=rowOf_nd nd S8
    have rin:∀{x:Nat} {a:Str},(zHw ns Is)[x]?=some a->a∈ns:=fun {x a} h=>by
     obtain ⟨s,hs,e⟩:=qAI.mp (qAN h);have:=S8.lt s hs;rw [<-e,qA6,qAr (by lia)];exact qBd _
    refine k t l B ns ks (fun n=>(zHw ns Is).idxOf n) _ m ts ts' (zHw ns Is) _ (by rw [en];lia) (by lia) upd_same (K8.fre ft8 (nm1 npt.symm)) flH (K8.fre (show Fre H8 B from hB) (nm1 npB.symm)) (fun q hq=>(hk q hq).2.1) ((k9.trans k10) l _ hl8 (by simp)) ⟨k10 B _ h9 (by simp),fun q hq=>k10 _ _ (hk q hq).1 (by simp),fun q hq=>?_⟩ ⟨nm,nd,by rw [en];lia,by lia,fun q hq x hx=>?_,fun q hq=>?_⟩ ⟨rnd,wk4,cl7,by lia,ek,hj⟩ (P8.kp (k9.trans k10) (by simp)) (K8.trans ((k9.trans k10).weak (by simp)))
    ·obtain ⟨a,b,x,y,e,_⟩:=(hk q hq).2.2;exact ⟨a,b,e⟩
    ·obtain ⟨a,b,i,j,e,_,h1,h2⟩:=(hk q hq).2.2;rw [e] at hx;rcases qAO.mp hx with z| z
     ·rw [z];exact rin h1
     ·rw [qAZ.mp z];exact rin h2
    ·obtain ⟨a,b,i,j,e,hij,h1,h2⟩:=(hk q hq).2.2;have e1:fst q=a:=by unfold fst;rw [e];rfl
     have e2:snd q=b:=by unfold snd;rw [e];rfl
     rw [e1,e2,zD4 rnd h1,zD4 rnd h2];exact hij
end
theorem WI.first (h:WI ts a b):∃t∈ts,t.1.1=a/\(t.1.2=b\/WI ts t.1.2 b):=by
 induction h with
 | one h=>exact ⟨_,h,rfl,.inl rfl⟩
 | tr _ h2 ih1 _ =>
  obtain ⟨t,h,e,z⟩:=ih1;exact ⟨t,h,e,.inr (z.elim (fun y=>y▸h2) fun y=>.tr y h2)⟩
theorem WI.last (h:WI ts a b):∃t∈ts,t.1.2=b/\(t.1.1=a\/WI ts a t.1.1):=by
 induction h with
 | one h=>exact ⟨_,h,rfl,.inl rfl⟩
 | tr h1 _ _ ih2 =>
  obtain ⟨t,h,e,z⟩:=ih2;exact ⟨t,h,e,.inr (z.elim (fun y=>y▸h1) fun y=>.tr h1 y)⟩
theorem nd_same {f:β->Int}:∀{L:List β},(L.map f).Nodup->∀a∈L,∀b∈L,f a=f b->a=b
 | [],_,_,h,_,_,_=>nomatch h
 | c::L,nd,a,ha,b,hb,e=>by
  rw [qAd] at nd;obtain ⟨n1,n2⟩:=qAw.mp nd;rcases qAO.mp ha with y| y
  ·rcases qAO.mp hb with z| z
   ·exact y.trans z.symm
   ·exact absurd (qAI.mpr ⟨b,z,by rw [<-e,y]⟩) n1
  ·rcases qAO.mp hb with z| z
   ·exact absurd (qAI.mpr ⟨a,y,by rw [e,z]⟩) n1
   ·exact nd_same n2 a y b z e
section
variable {way m:Int} {ts ts':List ((Int×Int)×Addr)} {R:List Str} {qs:List (List Str×Addr)}
theorem WI.pos (ok:zD8 m ts) (h:WI ts a b):0<=a/\0<=b:=by
 induction h with
 | one h=>have:=ok _ h;lia
 | tr _ _ i1 i2=>lia
theorem WoodQ.same (W:WoodQ way m ts ts' R qs) {x y:Int} {a:Str} (hx:0<=x) (hy:0<=y) (h1:R[x.toNat]?=some a) (h2:R[y.toNat]?=some a):x=y:=by
 have e1:=zD4 W.nd h1;have e2:=zD4 W.nd h2;lia
theorem WoodQ.fwd (W:WoodQ way m ts ts' R qs) {a b:Str} (h:Way qs a b):∃x y:Int,R[x.toNat]?=some a/\R[y.toNat]?=some b/\WI ts x y:=by
 have one:∀{a b:Str},TA qs a b->∃x y:Int,R[x.toNat]?=some a/\R[y.toNat]?=some b/\WI ts x y:=fun {a b} ⟨q,hq,e1,e2⟩=>by
  obtain ⟨j,ej⟩:=qDR hq;have hj:=(qAf.mp ej).1;obtain ⟨t,et⟩:∃t,ts'[j]?=some t:=⟨_,qAr (by rw [<-W.len];exact hj)⟩;obtain ⟨h1,h2⟩:=W.at' j q t ej et;rw [e1] at h1;rw [e2] at h2;exact ⟨_,_,h1,h2,W.cl.fol t (qAN et)⟩
 induction h with
 | one h=>exact one h
 | more _ h ih =>
  obtain ⟨x,y,h1,h2,h3⟩:=ih;obtain ⟨y',z,g1,g2,g3⟩:=one h;have e:=W.same (h3.pos W.ok.ok).2 (g3.pos W.ok.ok).1 h2 g1;rw [<-e] at g3;exact ⟨x,z,h1,g2,.tr h3 g3⟩
theorem WoodQ.bwd (W:WoodQ way m ts ts' R qs) {x y:Int} (h:WI ts x y):∃a b:Str,R[x.toNat]?=some a/\R[y.toNat]?=some b/\Way qs a b:=by
 induction h with
 | @one t h =>
  obtain ⟨j,ej⟩:=qDR (W.cl.old t h);have hj:=(qAf.mp ej).1;obtain ⟨q,eq⟩:∃q,qs[j]?=some q:=⟨_,qAr (by rw [W.len];exact hj)⟩;obtain ⟨h1,h2⟩:=W.at' j q t eq ej;exact ⟨_,_,h1,h2,.one ⟨q,qAN eq,rfl,rfl⟩⟩
 | tr _ _ i1 i2 =>
  obtain ⟨a,b,h1,h2,h3⟩:=i1;obtain ⟨b',c,g1,g2,g3⟩:=i2;rw [h2] at g1
  cases g1
  exact ⟨a,c,h1,g2,h3.trans g3⟩
theorem WoodQ.gath (W:WoodQ 1 m ts ts' R qs) {n y':Str} (h:Way qs n y) (s:∀z,Way qs n z->¬Way qs z y) (h':Way qs n y') (s':∀z,Way qs n z->¬Way qs z y'):y=y':=by
 have key:∀{y:Str},Way qs n y->(∀z,Way qs n z->¬Way qs z y)->∃t∈ts,R[t.1.1.toNat]?=some n/\R[t.1.2.toNat]?=some y:=fun {y} h s=>by
  obtain ⟨i,k,h1,h2,h3⟩:=W.fwd h;obtain ⟨t,ht,e,z⟩:=h3.first;rw [<-e] at h1;rcases z with z| z
  ·rw [<-z] at h2;exact ⟨t,ht,h1,h2⟩
  ·obtain ⟨a,b,g1,g2,g3⟩:=W.bwd z;obtain ⟨a',b',g4,g5,g6⟩:=W.bwd (.one ht);rw [h1] at g4;cases g4;rw [g1] at g5;cases g5;rw [h2] at g2;cases g2;exact absurd g3 (s _ g6)
 obtain ⟨t,t1,t2,t3⟩:=key h s;obtain ⟨u,u1,u2,u3⟩:=key h' s';have p1:=W.ok.ok t t1;have p2:=W.ok.ok u u1;have e:=nd_same (f:=fun t:(Int×Int)×Addr=>t.1.1) (W.ok.w1 rfl).2 t t1 u u1 (W.same p1.1 p2.1 t2 u2);rw [<-e,t3] at u3;exact qAc u3
theorem WoodQ.spread (W:WoodQ 2 m ts ts' R qs) {n y':Str} (h:Way qs y n) (s:∀z,Way qs z n->¬Way qs y z) (h':Way qs y' n) (s':∀z,Way qs z n->¬Way qs y' z):y=y':=by
 have key:∀{y:Str},Way qs y n->(∀z,Way qs z n->¬Way qs y z)->∃t∈ts,R[t.1.2.toNat]?=some n/\R[t.1.1.toNat]?=some y:=fun {y} h s=>by
  obtain ⟨i,k,h1,h2,h3⟩:=W.fwd h;obtain ⟨t,ht,e,z⟩:=h3.last;rw [<-e] at h2;rcases z with z| z
  ·rw [<-z] at h1;exact ⟨t,ht,h2,h1⟩
  ·obtain ⟨a,b,g1,g2,g3⟩:=W.bwd z;obtain ⟨a',b',g4,g5,g6⟩:=W.bwd (.one ht);rw [h2] at g5;cases g5;rw [g2] at g4;cases g4;rw [h1] at g1;cases g1;exact absurd g3 (s _ g6)
 obtain ⟨t,t1,t2,t3⟩:=key h s;obtain ⟨u,u1,u2,u3⟩:=key h' s';have p1:=W.ok.ok t t1;have p2:=W.ok.ok u u1;have e:=nd_same (f:=fun t:(Int×Int)×Addr=>t.1.2) (W.ok.w2 rfl).2 t t1 u u1 (W.same (by lia) (by lia) t2 u2);rw [<-e,t3] at u3;exact qAc u3
end
theorem strB_mem (h:y∈strB J x):y∈J.ns/\x∈J.S y:=by
 have h1:=(qAQ.mp (qAQ.mp h).1);exact ⟨h1.1,qAm h1.2⟩
structure OrdJ (J:JR) (r:Str->Nat):Prop where
 nd:J.ns.Nodup
 few:J.ns.length<=20
 rk:∀n∈J.ns,∀x∈J.S n,r x<r n
 sub:∀n∈J.ns,∀x∈J.S n,x∈J.ns
 tr:∀n∈J.ns,∀m∈J.S n,∀x∈J.S m,x∈J.S n
theorem zG6 {qs:List (List Str×Addr)} {r:Str->Nat} (A:JobsAt C H j J) (G:Good J.ns qs r) (hz:∀k,k∈J.zs.map (·.1)↔k∈qs.map (·.1)) (two:∀q∈qs,∃a b,q.1=[a,b]):OrdJ J r:=by
 have sub:∀n∈J.ns,∀x∈J.S n,x∈J.ns:=fun n hn x hx=>(Way.to two G.qin ((zDo A G hz hn).mp hx)).1;exact ⟨A.nd,A.few,fun n hn x hx=>S_rank A G hz _ n x (qAG _) hn hx,sub,fun n hn m hm x hx=>(zDo A G hz hn).mpr (((zDo A G hz (sub n hn m hm)).mp hx).trans ((zDo A G hz hn).mp hm))⟩
theorem strB_iff :y∈strB J x↔y∈J.ns/\x∈J.S y/\∀z∈J.ns,x∈J.S z->z∉J.S y:=by
 unfold strB;rw [qAQ,qAQ,qBN,Bool.not_eq_true',List.any_eq_false];constructor
 ·rintro ⟨⟨h1,h2⟩,h3⟩;exact ⟨h1,h2,fun z hz hx hs=>h3 z (qAQ.mpr ⟨hz,qAU hx⟩) (qAU hs)⟩
 ·rintro ⟨h1,h2,h3⟩;refine ⟨⟨h1,h2⟩,fun z hz c=>?_⟩;obtain ⟨z1,z2⟩:=qAQ.mp hz;exact h3 z z1 (qAm z2) (qAm c)
theorem list_at {r:Str->Nat} {b:Nat} (hb:1<=b):∀(f:Nat) (A L:List Str),ListI J r A L->(∀n∈L,n∉A)->L.Nodup->∀(i:Nat) (q:List Str),(zEs J b f A L)[i]?=some q->∃A' L':List Str,ListI J r A' L'/\(∀n∈L',n∉A')/\L'.Nodup/\L'.Sublist L/\L'≠[]/\q=zCd J b A' L'/\∀n,n∈A'↔n∈A\/∃p∈(zEs J b f A L).take i,n∈p
 | 0,A,L,_,_,_,i,q,h=>by simp [zEs] at h
 | f+1,A,L,I,dj,nd,i,q,h=>by
  by_cases cL:L=[]
  ·rw [cL,listB_nil] at h;simp at h
  ·have e:zEs J b (f+1) A L=zCd J b A L::zEs J b f (zD0 J b A L) (zFu J b A L):=qAB cL;rw [e] at h ⊢
   cases i with
   | zero =>
    have:zCd J b A L=q:=by simpa using h
    exact ⟨A,L,I,dj,nd,List.Sublist.refl _,cL,this.symm,fun n=>by simp⟩
   | succ i =>
    obtain ⟨A',L',h1,h2,h3,h4,h5,h6,h7⟩:=list_at hb f (zD0 J b A L) (zFu J b A L) (I.next b) (fun n hn z=>qAm (qAQ.mp hn).2 z) (nd.sublist qBB) i q (by simpa using h);refine ⟨A',L',h1,h2,h3,h4.trans qBB,h5,h6,fun n=>?_⟩;rw [h7 n,qDM];unfold zD0;rw [zBn];constructor
    ·rintro ((z| z)| ⟨p,p1,p2⟩)
     ·exact .inl z
     ·exact .inr ⟨_,qAR,z⟩
     ·exact .inr ⟨p,qAP _ p1,p2⟩
    ·rintro (z| ⟨p,p1,p2⟩)
     ·exact .inl (.inl z)
     ·rcases qAO.mp p1 with e| e
      ·exact .inl (.inr (e▸p2))
      ·exact .inr ⟨p,e,p2⟩
theorem list_all {r:Str->Nat} {b:Nat} (hb:1<=b):∀(f:Nat) (A L:List Str),ListI J r A L->L.length<=f->∀n∈L,n∈A\/∃p∈zEs J b f A L,n∈p
 | 0,A,L,_,hf,n,hn=>by
  have:L=[]:=List.eq_nil_of_length_eq_zero (by lia);rw [this] at hn;exact nomatch hn
 | f+1,A,L,I,hf,n,hn=>by
  have cL:L≠[]:=fun z=>by rw [z] at hn;exact nomatch hn
  have e:zEs J b (f+1) A L=zCd J b A L::zEs J b f (zD0 J b A L) (zFu J b A L):=qAB cL;rw [e]
  by_cases z:n∈zD0 J b A L
  ·rcases (zBn _ _).mp z with y| y
   ·exact .inl y
   ·exact .inr ⟨_,qAR,y⟩
  ·have hless:=I.less hb cL;rcases list_all hb f (zD0 J b A L) (zFu J b A L) (I.next b) (by lia) n (qAQ.mpr ⟨hn,qAU z⟩) with y| ⟨p,p1,p2⟩
   ·exact absurd y z
   ·exact .inr ⟨p,qAP _ p1,p2⟩
theorem zHg (J:JR) (b:Nat):∀(f:Nat) (A L:List Str),(zEs J b f A L).length<=f
 | 0,_,_=>qAG _
 | f+1,A,L=>by
  show (if L=[] then [] else _).length<=_
  by_cases c:L=[]
  ·rw [qAC c];simp
  ·rw [qAB c];have:=zHg J b f (zD0 J b A L) (zFu J b A L);simp;lia
section
variable {α:Type} [DecidableEq α] {ns:List α} {S:α->List α} {hg:α->Nat} {g:α->Nat} {k b:Nat}
structure Wood (ns:List α) (S:α->List α) (hg g:α->Nat) (k b:Nat):Prop where
 nd:ns.Nodup
 sub:∀n∈ns,∀m∈S n,m∈ns
 tr:∀n∈ns,∀m∈S n,∀x∈S m,x∈S n
 ch:∀a∈ns,∀y∈ns,∀z∈ns,a∈S y->a∈S z->y=z\/y∈S z\/z∈S y
 dn:∀n∈ns,∀m∈S n,hg n<hg m
 pos:∀n∈ns,1<=hg n
 att:∀n∈ns,2<=hg n->∃y∈ns,n∈S y/\hg y+1=hg n
 lt:∀n∈ns,g n<k
 od:∀n∈ns,∀m∈S n,g m<g n
 last:1<=k->∃n∈ns,g n+1=k
 gr:∀i,i<k->∀x∈ns,i<g x->(∀m∈S x,g m<i)->b<=(ns.filter fun y=>decide (g y=i)&&decide (hg x<=hg y)).length
theorem zF8 [DecidableEq β]:∀{A B:List β},A.Nodup->(∀x∈A,x∈B)->A.length<=B.length
 | [],_,_,_=>qAX _
 | a::A,B,nd,h=>by
  obtain ⟨n1,n2⟩:=qAw.mp nd;have h1:=zF8 (A:=A) (B:=B.erase a) n2 fun x hx=>(qDg (fun z:x=a=>n1 (z▸hx))).mpr (h x (qAP _ hx));have h2:=qDh (h a qAR);have h3:0<B.length:=qDJ (h a qAR);rw [qAa];lia
theorem hu_least {Q:α->Prop} {x:α} (hx:Q x):∃y,Q y/\∀z,Q z->g y<=g z:=by
 suffices H:∀n x,Q x->g x<=n->∃y,Q y/\∀z,Q z->g y<=g z from H (g x) x hx (qAG _)
 intro n
 induction n with
 | zero=>exact fun x hx h=>⟨x,hx,fun z _=>by lia⟩
 | succ n ih =>
  intro x hx h
  by_cases c:∃z,Q z/\g z<g x
  ·obtain ⟨z,h1,h2⟩:=c;exact ih z h1 (by lia)
  ·exact ⟨x,hx,fun z hz=>qC1 fun y=>c ⟨z,hz,y⟩⟩
theorem Wood.rdy (W:Wood ns S hg g k b) {y:α} (hy:y∈ns) {j:Nat} (hj:j<=g y):∃a∈ns,(a=y\/a∈S y)/\j<=g a/\(∀m∈S a,g m<j)/\hg y<=hg a:=by
 obtain ⟨a,⟨a1,a2⟩,mn⟩:=hu_least (g:=g) (Q:=fun a=>(a=y\/a∈S y)/\j<=g a) (x:=y) ⟨.inl rfl,hj⟩;have an:a∈ns:=a1.elim (fun z=>z▸hy) (W.sub y hy a);refine ⟨a,an,a1,a2,fun m hm=>qDA fun z=>?_,?_⟩
 ·have h1:=mn m ⟨.inr (a1.elim (fun w=>w▸hm) fun w=>W.tr y hy a w m hm),z⟩;have h2:=W.od a an m hm;lia
 ·rcases a1 with z| z
  ·rw [z];exact qAG _
  ·exact qBu (W.dn y hy a z)
theorem hu_pick {R:β->β->Prop}:∀{Y:List β},(∀y∈Y,∃a,R y a)->∃f:β->β,∀y∈Y,R y (f y):=fun {Y} h=>by
 classical
 exact ⟨fun y=>if hy:y∈Y then (h y hy).choose else y,fun y hy=>by
  show R y (if hy:y∈Y then (h y hy).choose else y);rw [dif_pos hy];exact (h y hy).choose_spec⟩
theorem hu_nd {γ:Type} {f:β->γ}:∀{L:List β},L.Nodup->(∀a∈L,∀b∈L,f a=f b->a=b)->(L.map f).Nodup
 | [],_,_=>qA1
 | a::L,nd,h=>by
  obtain ⟨n1,n2⟩:=qAw.mp nd;rw [qAd];refine qAw.mpr ⟨fun z=>?_,hu_nd n2 fun x hx y hy=>h x (qAP _ hx) y (qAP _ hy)⟩;obtain ⟨y,h1,h2⟩:=qAI.mp z;exact n1 (h y (qAP _ h1) a qAR h2▸h1)
theorem Wood.fill (W:Wood ns S hg g k b) {Y:List α} {h t:Nat} (nd:Y.Nodup) (hY:∀y∈Y,y∈ns/\hg y=h/\t<=g y) (many:b<Y.length) {j:Nat} (hj:j<=t):b<=(ns.filter fun y=>decide (g y=j)&&decide (h<=hg y)).length:=by
 obtain ⟨f,hf⟩:=hu_pick (R:=fun y a=>a∈ns/\(a=y\/a∈S y)/\j<=g a/\(∀m∈S a,g m<j)/\hg y<=hg a) (Y:=Y) fun y hy=>by
  obtain ⟨y1,y2,y3⟩:=hY y hy;obtain ⟨a,a1,a2,a3,a4,a5⟩:=W.rdy y1 (j:=j) (by lia);exact ⟨a,a1,a2,a3,a4,a5⟩
 have inj:∀y∈Y,∀z∈Y,f y=f z->y=z:=fun y hy z hz e=>by
  obtain ⟨y1,y2,_⟩:=hY y hy;obtain ⟨z1,z2,_⟩:=hY z hz;obtain ⟨a1,a2,_⟩:=hf y hy;obtain ⟨_,c2,_⟩:=hf z hz;rw [<-e] at c2;rcases a2 with u| u
  ·rcases c2 with v| v
   ·rw [<-u,v]
   ·have:=W.dn z z1 _ v;rw [u] at this;lia
  ·rcases c2 with v| v
   ·have:=W.dn y y1 _ u;rw [v] at this;lia
   ·rcases W.ch (f y) a1 y y1 z z1 u v with w| w| w
    ·exact w
    ·have:=W.dn z z1 y w;lia
    ·have:=W.dn y y1 z w;lia
 have ndA:=hu_nd nd inj
 by_cases c:∃y∈Y,j<g (f y)
 ·obtain ⟨y,hy,hg'⟩:=c;obtain ⟨a1,_,a3,a4,a5⟩:=hf y hy;have hk:j<k:=qCZ hg' (W.lt _ a1);refine qAT (W.gr j hk (f y) a1 hg' a4) (zF8 (W.nd.sublist qBB) fun x hx=>?_);obtain ⟨x1,x2⟩:=qAQ.mp hx;have:=(hY y hy).2.1;simp at x2;exact qAQ.mpr ⟨x1,by simp;lia⟩
 ·have h1:=zF8 ndA (B:=ns.filter fun y=>decide (g y=j)&&decide (h<=hg y)) fun x hx=>by
   obtain ⟨y,hy,rfl⟩:=qAI.mp hx;obtain ⟨a1,_,a3,_,a5⟩:=hf y hy;have:g (f y)=j:=qDN (qC1 fun z=>c ⟨y,hy,z⟩) a3;have:=(hY y hy).2.1;exact qAQ.mpr ⟨a1,by simp;lia⟩
  rw [qAD] at h1;lia
theorem hu_or {p q:β->Bool}:∀{L:List β},(∀x∈L,¬(p x=true/\q x=true))->(L.filter fun x=>p x||q x).length=(L.filter p).length+(L.filter q).length
 | [],_=>rfl
 | a::L,h=>by
  have ih:=hu_or (p:=p) (q:=q) (L:=L) fun x hx=>h x (qAP _ hx);have ha:=h a qAR;rw [qA8,qA8,qA8]
  cases e1:p a<;>cases e2:q a
  ·simpa using ih
  ·simp;lia
  ·simp;lia
  ·exact absurd ⟨e1,e2⟩ ha
theorem Wood.full (ns:List α) (hg g:α->Nat) (b h:Nat):∀t,(∀j,j<t->b<=(ns.filter fun y=>decide (g y=j)&&decide (h<=hg y)).length)->b*t<=(ns.filter fun y=>decide (g y<t)&&decide (h<=hg y)).length
 | 0,_=>qAX _
 | t+1,H=>by
  have e:(ns.filter fun y=>decide (g y<t+1)&&decide (h<=hg y))=ns.filter fun y=>(decide (g y<t)&&decide (h<=hg y))||(decide (g y=t)&&decide (h<=hg y)):=qCT fun x _=>by
   rw [qBQ];simp;lia
  rw [e,hu_or fun x _ z=>by simp at z;lia];have h1:=Wood.full ns hg g b h t fun j hj=>H j (by lia);have h2:=H t (by lia);rw [Nat.mul_succ];lia
theorem Wood.shows (W:Wood ns S hg g k b) (hk:1<=k):∃h,h<k/\b*(k - h - 1)+1<=(ns.filter fun y=>decide (h<hg y)).length:=by
 have ex:∀d,d<=k - 1->(∃h,h<k/\(∃x∈ns,h<hg x/\k<=g x+h+1)/\(h+1=k\/∀x∈ns,h+1<hg x->¬k<=g x+h+2))\/∃x∈ns,d<hg x/\k<=g x+d+1:=by
  intro d
  induction d with
  | zero =>
   intro _;obtain ⟨n,n1,n2⟩:=W.last hk;exact .inr ⟨n,n1,W.pos n n1,by lia⟩
  | succ d ih =>
   intro hd;rcases ih (by lia) with z| ⟨x,x1,x2,x3⟩
   ·exact .inl z
   ·by_cases c:∃x∈ns,d+1<hg x/\k<=g x+(d+1)+1
    ·exact .inr c
    ·exact .inl ⟨d,by lia,⟨x,x1,x2,x3⟩,.inr fun y y1 y2 y3=>c ⟨y,y1,y2,by lia⟩⟩
 have:∃h,h<k/\(∃x∈ns,h<hg x/\k<=g x+h+1)/\(h+1=k\/∀x∈ns,h+1<hg x->¬k<=g x+h+2):=by
  rcases ex (k - 1) (qAG _) with z| z
  ·exact z
  ·exact ⟨k - 1,by lia,z,.inl (by lia)⟩
 obtain ⟨h,hk',⟨x,x1,x2,x3⟩,hs⟩:=this;refine ⟨h,hk',?_⟩;rcases hs with z| no
 ·have e:k - h - 1=0:=by lia
  rw [e,Nat.mul_zero];have:x∈ns.filter fun y=>decide (h<hg y):=qAQ.mpr ⟨x1,qAU x2⟩;have:=qDJ this;lia
 ·by_cases ht:k<=h+1
  ·have e:k - h - 1=0:=by lia
   rw [e,Nat.mul_zero];have:x∈ns.filter fun y=>decide (h<hg y):=qAQ.mpr ⟨x1,qAU x2⟩;have:=qDJ this;lia
  ·-- t=k - h - 2:none higher than h+1 from t on;x of height h+1 waits behind t
   obtain ⟨t,et⟩:∃t,k=t+h+2:=⟨k - h - 2,by lia⟩;have low:∀y∈ns,t<=g y->hg y<=h+1:=fun y hy hg'=>qC1 fun z=>no y hy z (by lia)
   have xh:hg x=h+1:=by
    have:=low x x1 (by lia);lia
   have rx:∀m∈S x,g m<t:=fun m hm=>qDA fun z=>by
    have h1:=low m (W.sub x x1 m hm) z;have h2:=W.dn x x1 m hm;lia
   have ft:=W.gr t (by lia) x x1 (by lia) rx;have big:b<(x::ns.filter fun y=>decide (g y=t)&&decide (hg x<=hg y)).length:=by rw [qAa];lia
   have all:=fun j (hj:j<=t)=>W.fill (Y:=x::ns.filter fun y=>decide (g y=t)&&decide (hg x<=hg y)) (h:=h+1) (t:=t) (qAw.mpr ⟨fun z=>by
     have:=(qAQ.mp z).2;simp at this;lia,W.nd.sublist qBB⟩) (fun y hy=>by
     rcases qAO.mp hy with z| z
     ·rw [z];exact ⟨x1,xh,by lia⟩
     ·obtain ⟨y1,y2⟩:=qAQ.mp z;simp at y2;have:=low y y1 (by lia);exact ⟨y1,by lia,by lia⟩) big hj
   have h1:=Wood.full ns hg g b (h+1) (t+1) fun j hj=>all j (by lia);have e:k - h - 1=t+1:=by lia
   rw [e]
   have h2:=zF8 (A:=x::ns.filter fun y=>decide (g y<t+1)&&decide (h+1<=hg y)) (B:=ns.filter fun y=>decide (h<hg y)) (qAw.mpr ⟨fun z=>by
     have:=(qAQ.mp z).2;simp at this;lia,W.nd.sublist qBB⟩) fun y hy=>by
     rcases qAO.mp hy with z| z
     ·rw [z];exact qAQ.mpr ⟨x1,qAU x2⟩
     ·obtain ⟨y1,y2⟩:=qAQ.mp z;simp at y2;exact qAQ.mpr ⟨y1,qAU (by lia)⟩
   rw [qAa] at h2;lia
theorem Wood.after (W:Wood ns S hg g k b) {f:α->Nat} {m:Nat} (fo:∀n∈ns,∀x∈S n,f x<f n) (fm:∀n∈ns,f n<m):∀(d:Nat) (x:α),x∈ns->hg x<=d+1->f x+hg x<=m:=by
 intro d
 induction d with
 | zero =>
  intro x hx h;have:=fm x hx;lia
 | succ d ih =>
  intro x hx h
  by_cases c:2<=hg x
  ·obtain ⟨y,y1,y2,y3⟩:=W.att x hx c;have h1:=ih y y1 (by lia);have h2:=fo y y1 x y2;lia
  ·have:=fm x hx;lia
theorem hu_few {f:α->Nat} (h2:∀u,(ns.filter fun x=>decide (f x=u)).length<=b):∀(c:Nat) (q:α->Bool),(∀x∈ns,q x=true->f x<c)->(ns.filter q).length<=b*c
 | 0,q,hq=>by
  have:ns.filter q=[]:=List.filter_eq_nil_iff.mpr fun x hx z=>by
   have:=hq x hx z;lia
  rw [this];exact qAX _
 | c+1,q,hq=>by
  have e:ns.filter q=ns.filter fun x=>(q x&&decide (f x≠c))||(q x&&decide (f x=c)):=qCT fun x _=>by
   by_cases z:f x=c<;>simp [z]
  rw [e,hu_or fun x _ z=>by simp at z;lia]
  have h3:=hu_few h2 c (fun x=>q x&&decide (f x≠c)) fun x hx z=>by
   simp at z;have:=hq x hx z.1;lia
  have h4:(ns.filter fun x=>q x&&decide (f x=c)).length<=(ns.filter fun x=>decide (f x=c)).length:=by
   rw [<-List.filter_filter];exact qAx _ _
  have h5:=h2 c;rw [Nat.mul_succ];lia
theorem Wood.least (W:Wood ns S hg g k b) (hb:1<=b) {f:α->Nat} {m:Nat} (fo:∀n∈ns,∀x∈S n,f x<f n) (h2:∀u,(ns.filter fun x=>decide (f x=u)).length<=b) (fm:∀n∈ns,f n<m):k<=m:=by
 by_cases hk:1<=k
 ·obtain ⟨h,h1,h3⟩:=W.shows hk
  have h4:=hu_few h2 (m - h) (fun y=>decide (h<hg y)) fun x hx z=>by
   have z:=qAm z;have:=W.after fo fm (hg x) x hx (by lia);lia
  have h5:b*(k - h - 1)<b*(m - h):=by lia
  have h6:k - h - 1<m - h:=Nat.lt_of_mul_lt_mul_left h5;lia
 ·lia
end
def rsB (J:JR) (b:Nat) (ws:List Str):List (List Str):=zEs J b ws.length [] ws
structure HgtJ (J:JR) (hg:Str->Nat):Prop where
 dn:∀n∈J.ns,∀m∈J.S n,hg n<hg m
 pos:∀n∈J.ns,1<=hg n
 att:∀n∈J.ns,2<=hg n->∃y∈J.ns,n∈J.S y/\hg y+1=hg n
section
variable {J:JR} {r:Str->Nat} {ws:List Str} {b:Nat}
theorem list_iB (A:OrdJ J r) (pm:ws.Perm J.ns):ListI J r [] ws:=⟨A.rk,qA1,(fun _ h=>nomatch h),fun n hn=>pm.mem_iff.mp hn,fun n hn=>.inr (pm.mem_iff.mpr hn)⟩
theorem zGm (A:OrdJ J r) (pm:ws.Perm J.ns) (hb:1<=b) {q:List Str} (h:(rsB J b ws)[i]?=some q):∃A' L':List Str,ListI J r A' L'/\(∀n∈L',n∉A')/\L'.Nodup/\L'.Sublist ws/\L'≠[]/\q=zCd J b A' L'/\∀n,n∈A'↔n∈AF ((rsB J b ws).take i) []:=by
 obtain ⟨A',L',h1,h2,h3,h4,h5,h6,h7⟩:=list_at (b:=b) hb ws.length [] ws (list_iB A pm) (fun _ _ h=>nomatch h) (pm.nodup_iff.mpr A.nd) i q h;refine ⟨A',L',h1,h2,h3,h4,h5,h6,fun n=>?_⟩;rw [h7 n,zB0];rfl
theorem zEp (A:OrdJ J r) (pm:ws.Perm J.ns) (hb:1<=b):RightI J (b:Int) (rsB J b ws):=by
 refine ⟨fun i q h=>?_,fun n hn=>(zB0 _ _).mpr (list_all (b:=b) hb ws.length [] ws (list_iB A pm) (qAG _) n (pm.mem_iff.mpr hn))⟩;obtain ⟨A',L',h1,h2,h3,h4,h5,rfl,h7⟩:=zGm A pm hb h;refine ⟨fun n hn=>h1.li n (zE0 hn),(h3.sublist qBB).sublist (qCy _ _),fun n hn z=>h2 n (zE0 hn) ((h7 n).mpr z),fun n hn=>?_,?_⟩
 ·rw [<-rdy_congr h7];exact (qAQ.mp (qBr hn)).2
 ·have:(zCd J b A' L').length<=b:=by unfold zCd;rw [qAY];lia
  lia
theorem tI_isB (A:OrdJ J r) (pm:ws.Perm J.ns) (hb:1<=b) {q:List Str} {n:Str} (h:(rsB J b ws)[i]?=some q) (hn:n∈q):tI (rsB J b ws) n=i :=
 tI_eq h hn fun p hp z=>((zEp A pm hb).at' i q h).nw n hn ((zB0 _ _).mpr (.inr ⟨p,hp,z⟩))
theorem gath_ch (A:OrdJ J r) (G:∀n∈J.ns,(strB J n).length<=1):∀(k:Nat) (a y z:Str),a∈J.ns->y∈J.ns->z∈J.ns->a∈J.S y->a∈J.S z->r y<=r a+k->y=z\/y∈J.S z\/z∈J.S y:=by
 have first:∀a∈J.ns,∀y∈J.ns,a∈J.S y->∃s∈strB J a,s=y\/s∈J.S y:=fun a ha y hy h=>by
  obtain ⟨s,⟨s1,s2,s3⟩,mn⟩:=hu_least (g:=r) (Q:=fun s=>s∈J.ns/\a∈J.S s/\(s=y\/s∈J.S y)) (x:=y) ⟨hy,h,.inl rfl⟩;refine ⟨s,strB_iff.mpr ⟨s1,s2,fun z hz h1 h2=>?_⟩,s3⟩;have g1:=mn z ⟨hz,h1,.inr (s3.elim (fun e=>e▸h2) fun e=>A.tr y hy s e z h2)⟩;have g2:=A.rk s s1 z h2;lia
 intro k
 induction k with
 | zero =>
  intro a y z ha hy hz h1 h2 hk;have:=A.rk y hy a h1;lia
 | succ k ih =>
  intro a y z ha hy hz h1 h2 hk;obtain ⟨s,s1,s2⟩:=first a ha y hy h1;obtain ⟨s',t1,t2⟩:=first a ha z hz h2
  have e:s=s':=by
   have:=G a ha;clear s2 t2;generalize strB J a=L at this s1 t1
   match L,this,s1,t1 with
   | [u],_,s1,t1=>exact (qAZ.mp s1).trans (qAZ.mp t1).symm
   | _::_::_,this,_,_=>simp only [qAa] at this;lia
  subst e;rcases s2 with u| u
  ·rcases t2 with v| v
   ·exact .inl (u.symm.trans v)
   ·rw [u] at v;exact .inr (.inl v)
  ·rcases t2 with v| v
   ·rw [v] at u;exact .inr (.inr u)
   ·have sn:=(strB_mem s1).1;have:=A.rk s sn a (strB_mem s1).2;exact ih s y z sn hy hz u v (by lia)
theorem wood_is {hg:Str->Nat} (A:OrdJ J r) (G:∀n∈J.ns,(strB J n).length<=1) (Hg:HgtJ J hg) (pm:ws.Perm J.ns) (pw:ws.Pairwise (fun x y=>hg y<=hg x)) (hb:1<=b):Wood J.ns J.S hg (tI (rsB J b ws)) (rsB J b ws).length b:=by
 have R:=zEp A pm hb;have inR:∀n∈J.ns,∃q,(rsB J b ws)[tI (rsB J b ws) n]?=some q/\n∈q:=fun n hn=>tI_at (((zB0 _ _).mp (R.all n hn)).resolve_left (by simp));refine ⟨A.nd,A.sub,A.tr,fun a ha y hy z hz h1 h2=>gath_ch A G (r y) a y z ha hy hz h1 h2 (Nat.le_add_left _ _),Hg.dn,Hg.pos,Hg.att,fun n hn=>?_,fun n hn m hm=>zE7 R (A.sub n hn m hm) hn hm,fun hk=>?_,fun i hi x hx hgx hS=>?_⟩
 ·obtain ⟨q,e,_⟩:=inR n hn;exact (qAf.mp e).1
 ·obtain ⟨q,e⟩:∃q,(rsB J b ws)[(rsB J b ws).length - 1]?=some q:=⟨_,qAr (by lia)⟩;obtain ⟨A',L',h1,_,_,_,h5,e',_⟩:=zGm A pm hb e
  cases z:q with
  | nil=>exact absurd (e'.symm.trans z) (h1.turn hb h5)
  | cons x l =>
   have hx:x∈q:=by rw [z];exact qAR
   exact ⟨x,(R.at' _ q e).ns x hx,by rw [tI_isB A pm hb e hx];lia⟩
 ·obtain ⟨q,e⟩:∃q,(rsB J b ws)[i]?=some q:=⟨_,qAr hi⟩;obtain ⟨A',L',h1,h2,h3,h4,_,e',h7⟩:=zGm A pm hb e
  have nA:x∉A':=fun z=>by
   have z:=(zB0 _ _).mp ((h7 x).mp z);obtain ⟨q,q1,q2⟩:=z.resolve_left (by simp);have:=tI_lt q1 q2;lia
  have xL:x∈L':=(h1.al x hx).resolve_left nA
  have rd:rdyB J A' x=true:=by
   unfold rdyB;rw [qA5];intro m hm;have hs:=qAm (qAQ.mp hm).2;refine qAU ((h7 m).mpr ((zB0 _ _).mpr (.inr ?_)));have lt:=hS m hs;obtain ⟨q,q1,q2⟩:=inR m (A.sub x hx m hs);refine ⟨q,qAN (i:=tI (rsB J b ws) m) ?_,q2⟩;rw [qB0 lt];exact q1
  have xF:x∈L'.filter (rdyB J A'):=qAQ.mpr ⟨xL,rd⟩;have pF:=pw.sublist (qBB.trans h4:(L'.filter (rdyB J A')).Sublist ws);have nF:=h3.sublist (qBB (p:=rdyB J A'));have eq:q=(L'.filter (rdyB J A')).take b:=e'
  have xq:x∉q:=fun z=>by
   have:=tI_isB A pm hb e z;lia
  generalize L'.filter (rdyB J A')=M at xF pF nF eq
  have xd:x∈M.drop b:=by
   rw [<-qBU b M] at xF;rcases qAW.mp xF with z| z
   ·exact absurd (eq▸z) xq
   ·exact z
  have bl:b<=q.length:=by
   rw [eq,qAY];have:b<M.length:=qDA fun z=>by rw [List.drop_eq_nil_of_le z] at xd;exact nomatch xd
   lia
  have up:∀y∈q,hg x<=hg y:=fun y hy=>by
   rw [<-qBU b M] at pF;exact (List.pairwise_append.mp pF).2.2 y (eq▸hy) x xd
  have nq:q.Nodup:=by rw [eq];exact nF.sublist (qCy _ _)
  refine qAT bl (zF8 nq fun y hy=>qAQ.mpr ⟨(R.at' i q e).ns y hy,?_⟩);simp only [qCI,qBN];exact ⟨tI_isB A pm hb e hy,up y hy⟩
end
theorem few_of {l:List Str} (nd:l.Nodup) (h:∀x∈l,∀y∈l,x=y):l.length<=1:=by
 match l,nd,h with
 | [],_,_=>exact qAX _
 | [_],_,_=>exact qAG _
 | a::b::_,nd,h=>exact absurd (h a qAR b (qAP _ qAR)) fun z=>(qAw.mp nd).1 (by rw [z];exact qAR)
theorem gath_J {qs:List (List Str×Addr)} {r:Str->Nat} (A:JobsAt C H j J) (G:Good J.ns qs r) (hz:∀k,k∈J.zs.map (·.1)↔k∈qs.map (·.1)) (two:∀q∈qs,∃a b,q.1=[a,b])
  (one:∀n y y':Str,Way qs n y->(∀z,Way qs n z->¬Way qs z y)->Way qs n y'->(∀z,Way qs n z->¬Way qs z y')->y=y'):gathB J=true:=by
 unfold gathB;rw [qA5];intro n hn
 have key:∀y∈strB J n,Way qs n y/\∀z,Way qs n z->¬Way qs z y:=fun y hy=>by
  obtain ⟨h1,h2,h3⟩:=strB_iff.mp hy;refine ⟨(zDo A G hz h1).mp h2,fun z w1 w2=>?_⟩;have zn:=(Way.to two G.qin w1).2;exact h3 z zn ((zDo A G hz zn).mpr w1) ((zDo A G hz h1).mpr w2)
 exact qAU (few_of ((A.nd.sublist qBB).sublist qBB) fun x hx y hy=>one n x y (key x hx).1 (key x hx).2 (key y hy).1 (key y hy).2)
end My
namespace SR
open PySem PyProof.Rows ST
section
variable {prog:Program} {w:World} {A:Around} {E:Value->Shared->Prop} {s:Shared} {a kS:Addr} {vs:List Value} {kz:List Int} {keys:Array Value} {e e1:Nat} {P:PySem.Fin->Shared->Prop}
theorem k_tail {st:SortSt} (nk:s.heap.get? kS=some (seqObj "list" keys e)) (na:s.heap.get? a=some (seqObj "list" #[] e1)) (hka:kS≠a)
  (hk:IntsAre keys.toList kz) (hlen:kz.length=vs.length) (h64:vs.length<64) (hp:(arrOf st).Perm (keys.zip vs.toArray)) (hs:SortedTo (arrOf st) (arrOf st).size) (hfl:failedOf st=none)
  (h:∀h' tk out c,(∀b o,b≠kS->b≠a->s.heap.get? b=some o->h'.get? b=some o)->h'.get? a=some (seqObj "list" out c)->KskOut true kz vs out.toList->P (.done (.ret .none)) {s with heap:=h',toks:=tk}) :
  wpAny (model prog w) A (ksk_tail a true e1 (.ref kS) st) P E s:=by
 have hsz:keys.size=vs.length:=by
  have h1:=hk.length;rw [qBA] at h1;lia
 have hsz2:(arrOf st).size=vs.length:=by rw [hp.size_eq,qDO,hsz,qAM,qDP]
 have hout:((arrOf st).map (·.2)).reverse.size=vs.length:=by rw [Array.size_reverse,Array.size_map];exact hsz2
 have ko:KskOut true kz vs ((arrOf st).map (·.2)).reverse.toList:=ksk_out (b:=true) hk hp hs;unfold ksk_tail;simp only [qBl];generalize ((arrOf st).map (·.2)).reverse=out at hout ko;have s1:=qAj s.heap kS (Obj.mapSeq fun _=>(#[]:Array Value));have na1:(s.heap.update kS (Obj.mapSeq fun _=>(#[]:Array Value))).get? a=some (seqObj "list" #[] e1):=(s1.2 a hka.symm).trans na;have s2:=qAj (s.heap.update kS (Obj.mapSeq fun _=>(#[]:Array Value))) a (Obj.mapSeq fun _=>out);have hc2:=qBM na1 fun _=>out;refine qAA (qBO nk rfl ?_ (by rw [hsz,qAK];lia) (qAX _));refine qAA (qBt ?_);refine qAA (qB9 na1 rfl ?_);refine qAA (qBO na1 rfl ?_ (qAX _) (qAT (qBF hout) (by rw [qAK];lia)));rw [hfl];simp only [qDK,qCB,qBb];exact qAE (h _ _ out _ (fun b o n1 n2 q=>(s2.2 b n2).trans ((s1.2 b n1).trans q)) hc2 ko)
theorem k_end (nk:s.heap.get? kS=some (seqObj "list" keys e)) (na:s.heap.get? a=some (seqObj "list" #[] e1)) (hka:kS≠a)
  (hk:IntsAre keys.toList kz) (hlen:kz.length=vs.length) (h64:vs.length<64)
  (h:∀h' tk out c,(∀b o,b≠kS->b≠a->s.heap.get? b=some o->h'.get? b=some o)->h'.get? a=some (seqObj "list" out c)->KskOut true kz vs out.toList->P (.done (.ret .none)) {s with heap:=h',toks:=tk}) :
  wpAny (model prog w) A (ksk_end a true vs.toArray e1 (.ref kS) keys) P E s:=by
 have hsz:keys.size=vs.length:=by
  have h1:=hk.length;rw [qBA] at h1;lia
 have hzs:(keys.zip vs.toArray).size=vs.length:=by rw [qDO,hsz,qAM,qDP]
 have hst:((keys.zip vs.toArray).reverse).Perm (keys.zip vs.toArray):=qCm.mpr (by rw [Array.toList_reverse];exact List.reverse_perm _);unfold ksk_end;simp only [qBl];refine qAA (qBG ?_)
 by_cases h2:vs.toArray.size<2
 ·rw [qAC h2,qAC h2];refine qAA (qAE ?_);rw [StateT.run_pure];refine qAA (qAE ?_)
  try dsimp only
  refine k_tail (st:=SortSt.mk' general' ((keys.zip vs.toArray).reverse) #[] 7 none) nk na hka hk hlen h64 hst ?_ rfl h;intro i j hij hj;have hj2:j<((keys.zip vs.toArray).reverse).size:=hj;rw [Array.size_reverse,hzs] at hj2;rw [qAM] at h2;have:i=j:=by lia
  subst this;exact qBZ _
 ·rw [qAB h2,qAB h2];rw [qAM] at h2;rw [ksk_kind hk (by rw [hsz];lia)];refine qAA (qAE ?_)
  refine qAA (qAp (wpS_sortRuns (a₀:=keys.zip vs.toArray) (st:=SortSt.mk' oneType' ((keys.zip vs.toArray).reverse) #[] 7 none)
   (Q:=fun _ st'=>(arrOf st').Perm (keys.zip vs.toArray)/\failedOf st'=none/\SortedTo (arrOf st') (keys.zip vs.toArray).size)
   (ksk_intKeys hk) ⟨hst,rfl,rfl,rfl⟩ (by rw [hzs];lia) (by rw [hzs];exact h64) fun st' a1 a2 a3=>⟨a1,a2,a3⟩) ?_ fun _ _ e=>e)
  rintro ⟨⟨⟩,st'⟩ s' ⟨rfl,hp,hf,hs⟩
  try dsimp only
  exact k_tail nk na hka hk hlen h64 hp (by rw [hp.size_eq];exact hs) hf h
theorem k_rest {f:Value} (J:Shared->Prop) (hJ:J s) (nk:s.heap.get? kS=some (seqObj "list" #[] 0)) (na:s.heap.get? a=some (seqObj "list" #[] e1)) (hka:kS≠a) (hlen:kz.length=vs.length) (h64:vs.length<64)
  (turn:∀(i:Nat) (v:Value) (k:Int),vs[i]?=some v->kz[i]?=some k->∀s',J s' ->
   wpAny (model prog w) A (call f [v]) (fun r s2=>(∃t,r= .int k t)/\J s2/\∀b,b=kS\/b=a->∀o,s'.heap.get? b=some o->s2.heap.get? b=some o) (fun _ _=>False) s')
  (put:∀s' h',J s'->(∀b o,b≠kS->s'.heap.get? b=some o->h'.get? b=some o)->(∃o,h'.get? kS=some o)->J {s' with heap:=h'})
  (h:∀s' h' tk out c,J s'->(∀b o,b≠kS->b≠a->s'.heap.get? b=some o->h'.get? b=some o)->h'.get? a=some (seqObj "list" out c)->KskOut true kz vs out.toList->P (.done (.ret .none)) {s' with heap:=h',toks:=tk}) :
  wpAny (model prog w) A (ksk_rest a f true vs.toArray e1 (.ref kS)) P E s:=by
 unfold ksk_rest;refine qAA (qBG ?_)
 first
  | rw [List.forIn_toArray]
  | (rw [<-qCP];simp only [List.toList_toArray])
  | rw [<-qCP]
 refine qAA (ksk_fold (fun i s'=>J s'/\∃kA e,s'.heap.get? kS=some (seqObj "list" kA e)/\s'.heap.get? a=some (seqObj "list" #[] e1)/\IntsAre kA.toList (kz.take i)) vs 0 s
  ⟨hJ,#[],0,nk,na,by simpa using IntsAre.nil⟩ ?step ?done)
 case step =>
  rintro j x s' hx ⟨hJ',kA,e,nk',na',hk⟩;simp only [Nat.zero_add] at hk ⊢;have hj:j<vs.length:=(qAf.mp hx).1;obtain ⟨k,hkj⟩:∃k,kz[j]?=some k:=⟨_,qAr (by lia)⟩
  have hz:kA.size<=vs.length:=by
   have h1:=hk.length;rw [qBA,qAY] at h1;lia
  refine qAA (qB2 (qAp (turn j x k hx hkj s' hJ') (fun v s'' he=>?_) fun _ _ hF=>hF.elim));obtain ⟨⟨t2,rfl⟩,J2,kp⟩:=he
  try dsimp only
  have nk2:=kp kS (.inl rfl) _ nk';have na2:=kp a (.inr rfl) _ na';have s1:=qAj s''.heap kS (Obj.mapSeq (·.push (.int k t2)));obtain ⟨c2,hc2⟩:∃c2,(s''.heap.update kS (Obj.mapSeq (·.push (.int k t2)))).get? kS=some (seqObj "list" (kA.push (.int k t2)) c2):=⟨_,qBM nk2 (·.push (.int k t2))⟩;have ek:kz.take (j+1)=kz.take j++[k]:=by rw [List.take_add_one,hkj];simp
  have ea:(kA.push (Value.int k t2)).toList=kA.toList++[Value.int k t2]:=by simp
  refine qAA (qBO nk2 rfl ?_ (by rw [qAK];lia) (qAT (qBF (Array.size_push ..)) (by rw [qAK];lia)));exact qAE ⟨rfl,put s'' _ J2 (fun b o n q=>(s1.2 b n).trans q) ⟨_,hc2⟩,kA.push (.int k t2),c2,hc2,(s1.2 a hka.symm).trans na2,by rw [ea,ek];exact ksk_snoc hk⟩
 case done =>
  rintro s' ⟨hJ',kA,e,nk',na',hk⟩
  have hk':IntsAre kA.toList kz:=by
   have e3:kz.take (0+vs.length)=kz:=qBq (by lia);rw [e3] at hk;exact hk
  try dsimp only
  refine qAA (qCr nk' rfl ?_);exact k_end nk' na' hka hk' hlen h64 fun h3 tk3 out c k3 g3 o3=>h s' h3 tk3 out c hJ' k3 g3 o3
theorem w_sortedK {f:Addr} {v:Value} {Q:Value->Shared->Prop} {Jc:List Value->Shared->Prop} (hc:wpAny (model prog w) A.in1 (collect v) Jc E s)
  (hJ:∀vs s1,Jc vs s1->vs.length<64/\∃(kz:List Int) (J:Shared->Prop),kz.length=vs.length /\
   (∀h',(∀b o,s1.heap.get? b=some o->h'.get? b=some o)->(∃o,h'.get? s1.heap.objs.size=some o)->(∃o,h'.get? (s1.heap.objs.size+2)=some o)->J {s1 with heap:=h'}) /\
   (∀(i:Nat) (v:Value) (k:Int),vs[i]?=some v->kz[i]?=some k->∀s',J s'->wpAny (model prog w) A.in1.in1 (call (.ref f) [v]) (fun r s2=>(∃t,r= .int k t)/\J s2/\∀b,b=s1.heap.objs.size+2\/b=s1.heap.objs.size->∀o,s'.heap.get? b=some o->s2.heap.get? b=some o) (fun _ _=>False) s') /\
   (∀s' h',J s'->(∀b o,b≠s1.heap.objs.size+2->s'.heap.get? b=some o->h'.get? b=some o)->(∃o,h'.get? (s1.heap.objs.size+2)=some o)->J {s' with heap:=h'}) /\
   ∀s' h' tk out c,J s'->(∀b o,b≠s1.heap.objs.size+2->b≠s1.heap.objs.size->s'.heap.get? b=some o->h'.get? b=some o)->h'.get? s1.heap.objs.size=some (seqObj "list" out c)->KskOut true kz vs out.toList->Q (.ref s1.heap.objs.size) {s' with heap:=h',toks:=tk}) :
  wpAny (model prog w) A (call (.builtin "sorted") [v] [(Str.ofString "key",.ref f),(Str.ofString "reverse",.bool true)]) Q E s:=by
 refine call_function_entry_kw kind_sorted plain_sorted entry_sorted (ksk_s2 _ _ _) ?_;unfold Builtin.«sorted»;refine qAA (m:=checkCount "sorted" 1 1 _) (qAE ?_);refine qAA (qAp hc (fun vs s1 j=>?_) fun _ _ x=>x);obtain ⟨j1,kz,J,j2,j3,j4,j5,j6⟩:=hJ vs s1 j;refine qAA (qCA ?_ (by rw [qAK];lia));have hD:(s1.heap.push (seqObj "list" vs.toArray 0)).get? s1.heap.objs.size=some (seqObj "list" vs.toArray 0):=qAb _ rfl;change wpAny _ _ _ _ _ {s1 with heap:=s1.heap.push (seqObj "list" vs.toArray 0)};have ne:∀b o,s1.heap.get? b=some o->b≠s1.heap.objs.size:=fun b o q=>qAV (qAL q);refine qAA (qAy (wpAny_call_entry_kw slot_list_sort ⟨_,hD,rfl⟩ entry_list_sort ?body (ksk_l2 _ _ _)))
 case body =>
  rw [ksk_t2];have ha:s1.heap.objs.size<(s1.heap.push (seqObj "list" vs.toArray 0)).objs.size:=qAL hD;have s2:=qAj (s1.heap.push (seqObj "list" vs.toArray 0)) s1.heap.objs.size (Obj.mapSeq fun _=>(#[]:Array Value));obtain ⟨e1,ho1⟩:∃e1,((s1.heap.push (seqObj "list" vs.toArray 0)).update s1.heap.objs.size (Obj.mapSeq fun _=>(#[]:Array Value))).get? s1.heap.objs.size=some (seqObj "list" #[] e1):=⟨_,qBM hD fun _=>#[]⟩;have hkS:(((s1.heap.push (seqObj "list" vs.toArray 0)).update s1.heap.objs.size (Obj.mapSeq fun _=>(#[]:Array Value))).push (seqObj "tuple" vs.toArray 0)).objs.size=s1.heap.objs.size+2:=by rw [size_push',Heap.size_update,size_push']
  unfold ksk_tree;refine qAA (qCr hD rfl ?_);refine qAA (qBO hD rfl ?_ (by rw [qAM,qAK];lia) (qAX _));refine qAA (qB9 ho1 rfl ?_);refine qAA (qCl ?_ (by show vs.length<=_;rw [qAK];lia));refine qAA (qCA ?_ (qAX _));refine qAy ?_;rw [hkS];refine k_rest (kS:=s1.heap.objs.size+2) (a:=s1.heap.objs.size) (s:={s1 with heap:=(((s1.heap.push (seqObj "list" vs.toArray 0)).update s1.heap.objs.size (Obj.mapSeq fun _=>(#[]:Array Value))).push (seqObj "tuple" vs.toArray 0)).push (seqObj "list" #[] 0)}) J (j3 _ (fun b o q=>?_) ⟨_,qAJ _ (qAJ _ ho1)⟩ ⟨seqObj "list" #[] 0,by rw [<-hkS];exact qAb _ rfl⟩) (by rw [<-hkS];exact qAb _ rfl) (qAJ _ (qAJ _ ho1)) (qA4 (qBn (qBy _))) j2 j1 j4 j5 fun s' h' tk out c jj kk gg oo=>?_
  ·exact qAJ _ (qAJ _ ((s2.2 b (ne b o q)).trans (qAJ _ q)))
  ·exact ⟨_,rfl,qAE ⟨_,rfl,j6 s' h' tk out c jj kk gg oo⟩⟩
end
end SR
namespace L2
open PySem PySem.Spec PyProof.Rows
section
variable {X:Cx} {pins:List (Addr×Obj)} {σ:St} {H:Hp} {s:Shared}
def tSortKR (ta:TA) (iy:Nat) (P:Addr) (qual:Str) (lp:Pos) (te:TE):TE:=fun σ H Q=>ta σ H fun xs H1=>∃(a:Addr) (ks:List Str) (g:Str->Int) (vy:V),xs=[.ref a]/\σ[iy]?=some (some vy)/\H1 a=some (.lst (ks.map V.str))/\ks.length<64/\Tab0 H1 P qual lp /\
 ∀H2,Kp [P] H1 H2->Tab1 H2 P qual lp->(∀x∈ks,∀H',Kp [] H2 H'->te [some (.str x),some vy] H' fun r H3=>r= .int (g x)/\Kp [] H' H3)/\∀(b:Addr) (zs:List Str) (H3:Hp),Kp [] H2 H3->H3 b=none->zs.Perm ks->zs.Pairwise (fun x y=>g y<=g x)->Q (.ref b) (upd H3 b (.lst (zs.map V.str)))
theorem pe_sortedKR {e:Expr} {ta:TA} {p pos kp lp kp2 ip:Pos} {jj:Nat} {params:Arguments} {body:Expr} {scope:Scope} {x y qual:Str} {c c0 P:Addr} {iy:Nat} {te:TE} {k:Nat} (hr:Room (k+3) X.A) (hc':X.calm=true) (hg:Gl X "sorted") (hm:X.mg "sorted" = none) (hb:bootBuiltins "sorted" = some (.builtin "sorted")) (ha:PA X [e] ta)
  (S:LamScope x y scope) (ne:x≠y) (hN:X.N[iy]?=some y) (hk:X.env.kindOf y=some .cell) (hy:X.env.cells.lookup y=some c) (hcl:closureFor scope X.env=pure [(y,c)]) (hq:X.env.qual++ "<lambda>" = qual) (hcode:X.env.code= .ref c0) (C:PySem.W.CodeHd X.base c0 P) (B:zGi X.mg X.base)
  (hdef:defaultsOf params X.env=([],[])) (hbind:∀(pm:Value) (c':Addr) (ctv u:Value),bindArgs (PySem.W.kla_fn "<lambda>" qual params body scope [(y,c)] pm (.ref c') ctv) ⟨[u],[]⟩=pure [(x,u)])
  (ht:∀(f:Addr) (cd:Value) (A:Around) (s:Shared) (H:Hp),Room k (A.deeper (PySem.W.envX qual scope s.heap.objs.size f cd [(y,c)]))->PE (cxLam X [x,y] qual scope f cd [(y,c)] A s H) body te) (hs:starEach [e] X.env=[(false,eval e X.env)]:=by rfl) :
  PE X (.Call (.Name "sorted" p) [e] [⟨some (Str.ofString "key"),.Lambda params body scope lp,kp⟩,⟨some (Str.ofString "reverse"),.Constant (.bool true) jj ip,kp2⟩] pos) (tSortKR ta iy P qual lp te):=by
 intro pins s σ H Q I h;refine qBz (zFe I hg hm hb ?_);refine qDk (by rw [hs];rfl) rfl ?_;have ha':=ha pos pins s σ H _ I h;have e0:backTo pos (starEach [e] X.env)=(false,eval e X.env)::[]:=by rw [hs];rfl
 rw [e0] at ha' ⊢;refine evalArgs_kwB rfl (thn ha' fun us s1 ⟨vs,H1,I1,r1,q1⟩=>?_);obtain ⟨a,ks,g,vy,e1,hσ,ea,hl64,T,q⟩:=q1;subst e1;obtain ⟨u,rfl,ru⟩:=r1.one
 cases ru
 show wpAny _ _ (evalAll ((do let v<-eval (.Lambda params body scope lp) X.env;standAt pos;pure v)::_)) _ _ s1;refine qCx (qAA (PySem.W.kla_eval hdef ?_));rw [hq];refine lam_make I1 hcl hcode C B T fun f c' ctv pm H2 s2 I2 k2 T2 ec fo ff=>?_;refine qAA (qBv (qAE ?_));show wpAny _ _ (evalAll ((do let v<-eval (.Constant (.bool true) jj ip) X.env;standAt pos;pure v)::[])) _ _ s2;refine qCx (qAA (Constant_bool (qAA (qBv (qAE (wpAny_evalAll_nil ?_))))));obtain ⟨qb,qr⟩:=q H2 k2 T2
 have naP:a≠P:=fun z=>by
  rcases T with t| ⟨_,t,_⟩
  ·rw [z,t] at ea;cases ea
  ·rw [z,t] at ea;cases ea
 have ea2:H2 a=some (.lst (ks.map V.str)):=k2 a _ ea (by simp [naP]);obtain ⟨its0,r',pl,hz0⟩:=I2.list (SqL.of (K:=X.K) ea2);have hS0:=zEz r';have hln0:its0.length=ks.length:=ST.strs_len hS0
 refine SR.w_sortedK
  (Jc:=fun its s1=>StrsAre its ks/\∃h1 tk,s1={s2 with heap:=h1,toks:=tk}/\∀b o,s2.heap.get? b=some o->h1.get? b=some o)
  (collect_list pl.isList ⟨hS0,_,_,rfl,fun b o e=>?_⟩ (by rw [qAK];lia)) fun its s3 ⟨hS,h1,tk,v2,v3⟩=>?_
 ·have hlt:=qAL e;rw [qBk _ _ (qA4 hlt)];exact qAJ _ e
 ·subst v2;have hln:its.length=ks.length:=ST.strs_len hS;have I3:Inv X pins σ H2 {s2 with heap:=h1,toks:=tk}:=I2.kept v3;have fo3:h1.get? f=some _:=v3 _ _ fo;have flt:f<h1.objs.size:=qAL fo3;have fa:FpOk X pins H2 h1.objs.size:=I3.fpOk (qAG _) (I3.hok.fresh (qAG _));have fk:FpOk X pins H2 (h1.objs.size+2):=I3.fpOk (qBT _ _) (I3.hok.fresh (qBT _ _));have ff3:H2 f=none:=ff.1;refine ⟨by lia,ks.map g,fun s'=>∃H',Kp [] H2 H'/\Inv X pins σ H' s'/\s'.heap.get? f=some (PySem.W.kla_obj "<lambda>" qual params body scope [(y,c)] pm c' ctv)/\H' f=none/\H' h1.objs.size=none/\H' (h1.objs.size+2)=none/\(∃o,s'.heap.get? h1.objs.size=some o)/\∃o,s'.heap.get? (h1.objs.size+2)=some o,by rw [qAD,hln],fun h' up ha hk=>⟨H2,Kp.refl,I3.kept (t':=tk) up,up _ _ fo3,ff3,fa.1,fk.1,ha,hk⟩,?_,?_,?_⟩
  ·rintro i v kx hv hkx s' ⟨H4,k4,I4,fo4,ff4,fa4,fk4,⟨oa,ha4⟩,ok',hk4⟩;rw [qAe] at hkx;obtain ⟨x',ex',rfl⟩:=qBH.mp hkx
   obtain ⟨t,rfl⟩:∃t,v= .str x' t:=by
    have h1:=hS.all v (qAN hv);obtain ⟨x2,t,rfl⟩:=h1;have h2:(its.map strOf)[i]?=some x2:=by rw [qAe,hv];rfl
    rw [hS.strs,ex'] at h2
    cases h2
    exact ⟨t,rfl⟩
   obtain ⟨uy,ry,iy'⟩:=I4.cellAt hN hσ hk hy;have hr2:Room (k+1) X.A.in1.in1:=Room.in1 (Room.in1 hr);have fa':FpOk X pins H4 h1.objs.size:=⟨fa4,fa.2⟩;have fk':FpOk X pins H4 (h1.objs.size+2):=⟨fk4,fk.2⟩;have ff':FpOk X pins H4 f:=⟨ff4,ff.2⟩;refine qAp (lam_call (A:=X.A.in1.in1) (vx:=.str x') I4 I4.ok.frames hr2.hd hr2.depth fo4 (codeO_rec I4 (k4 _ _ ec (by simp))) S ne (hbind _ _ _ _) hy iy' ry ⟨t,rfl⟩ (ht _ _ _ _ _ (hr2.deeper _)) (qb x' (qAN ex') H4 k4)) (fun r s5 hE=>?_) fun _ _ hF=>hF;obtain ⟨v,H5,os,bare,un,hok5,rv,qv,qh⟩:=hE;subst qv;obtain ⟨t',rfl⟩:=rv;have keepA:=un.keep _ _ ha4 fa'.1 (fa'.nstk I4) (by simp);have keepK:=un.keep _ _ hk4 fk'.1 (fk'.nstk I4) (by simp);refine ⟨⟨t',rfl⟩,⟨H5,k4.trans qh,I4.call' os un hok5 bare (fun b z=>nomatch z),un.keep _ _ fo4 ff'.1 (ff'.nstk I4) (by simp),un.free _ _ fo4 ff'.1 (by simp),un.free _ _ ha4 fa'.1 (by simp),un.free _ _ hk4 fk'.1 (by simp),⟨_,keepA⟩,_,keepK⟩,fun b hb o qo=>?_⟩;rcases hb with rfl| rfl
   ·exact un.keep _ _ qo fk'.1 (fk'.nstk I4) (by simp)
   ·exact un.keep _ _ qo fa'.1 (fa'.nstk I4) (by simp)
  ·rintro s' h' ⟨H4,k4,I4,fo4,ff4,fa4,fk4,⟨oa,ha4⟩,ok',hk4⟩ kk hex;exact ⟨H4,k4,I4.turned (t':=s'.toks) kk fk4 fk.2.1 fk.2.2.2.1 fk.2.2.2.2.1 fk.2.2.2.2.2,kk _ _ (qAV (qAl flt (qBT _ _))) fo4,ff4,fa4,fk4,⟨_,kk _ _ (qAV (Nat.lt_add_of_pos_right (by decide))) ha4⟩,hex⟩
  ·rintro s' h' tk' out c2 ⟨H4,k4,I4,fo4,ff4,fa4,fk4,_,_⟩ kk gg ⟨ps,pp,po,pw⟩;have hp':∀p∈ps,∃x t,x∈ks/\p=(g x,.str x t):=fun p hp=>zIo hS p (pp.mem_iff.mp hp)
   have hall:∀v∈out.toList,∃x t,v= .str x t:=fun v hv=>by
    rw [po] at hv;obtain ⟨p,hp,rfl⟩:=qAI.mp hv;obtain ⟨x,t,_,e⟩:=hp' p hp;exact ⟨x,t,by rw [e]⟩
   have hO:=strsAre_map out.toList hall
   have hpz:(out.toList.map strOf).Perm ks:=by
    have h1:(ps.map Prod.snd).Perm its:=by
     have:=pp.map Prod.snd
     rwa [List.map_snd_zip (by rw [qAD,hln];exact qAG _)] at this
    rw [po];have:=h1.map strOf
    rwa [hS.strs] at this
   have hsr:(out.toList.map strOf).Pairwise (fun x y=>g y<=g x):=by
    rw [po,qAt,qC6];refine pw.imp_of_mem fun {p q} hp hq z=>?_;obtain ⟨x,t,_,e⟩:=hp' p hp;obtain ⟨x',t',_,e'⟩:=hp' q hq;subst e e';exact z
   have hz:((out.toList.map strOf).map V.str).length<=sizeLine:=by rw [qAD,hpz.length_eq,qAK];lia
   have un:Un (frs X.stack) [h1.objs.size+2,h1.objs.size] H4 H4 s'.heap h':=by
    have k':∀b o,b∉([h1.objs.size+2,h1.objs.size]:List Addr)->s'.heap.get? b=some o->h'.get? b=some o:=fun b o n q=>kk b o (fun z=>n (by simp [z])) (fun z=>n (by simp [z])) q;exact ⟨fun b o q n _ x=>k' b o x q,fun b o q n _ x=>⟨o.slots,k' b o x q⟩,fun b o q n _=>n,fun b o q x=>⟨o,k' b o x q⟩,fun _ _ q=>q,fun _ _ _ q=>q,fun b ps q=>⟨#[],by rw [q];simp⟩⟩
   have hok2:HOk X.prog X.w H4 h':=fun b o q=>by
    refine (I4.hok b o q).stay (fun d v hd y=>?_) (fun _ y=>y) fun _ _ y=>y
    have nn:H4 d≠none:=by
     rcases hd with rfl| hd
     ·rw [q];simp
     ·rw [hd];simp
    exact kk d v (fun z=>nn (by rw [z];exact fk4)) (fun z=>nn (by rw [z];exact fa4)) y
   have I5:Inv X pins σ H4 {s' with heap:=h',toks:=tk'}:=I4.call' rfl un hok2 I4.bare fun b hb=>by
    have:b=h1.objs.size+2\/b=h1.objs.size:=by simpa using hb
    rcases this with rfl| rfl
    ·exact ⟨fk.2.2.2.1,fk.2.1,fk.2.2.2.2.1,fk.2.2.2.2.2⟩
    ·exact ⟨fa.2.2.2.1,fa.2.1,fa.2.2.2.2.1,fa.2.2.2.2.2⟩
   have new:zAy X.prog X.w (upd H4 h1.objs.size (.lst ((out.toList.map strOf).map V.str))) h' h1.objs.size (.lst ((out.toList.map strOf).map V.str)):=⟨hz,out.toList,c2,zE1 hO,by simpa using gg⟩;exact ⟨.ref h1.objs.size,_,I5.adopt (⟨fa4,fa.2⟩:FpOk X pins H4 h1.objs.size) new,rfl,qr _ _ H4 k4 fa4 hpz hsr⟩
end
end L2
namespace My
open PySem L2
variable {H H':Hp}{J:JR}
def lamQ2:Str:=Str.ofString "highest_first" ++ ".<locals>." ++ "<lambda>"
def lamPos2:Pos:=⟨110,58,110,81⟩
abbrev TabU (H:Hp) (Pu:Addr):Prop:=Tab0 H Pu lamQ2 lamPos2
theorem zCj {Q:Addr} {q:Str} {ps:Pos} (h:Tab0 H Q q ps):∃xs,H Q=some (.tbl xs):=by
 rcases h with e| ⟨c,e,_⟩
 ·exact ⟨_,e⟩
 ·exact ⟨_,e⟩
theorem zA7 {Q a:Addr} {o:HO} (t:∃xs,H Q=some (.tbl xs)) (h:H a=some o) (no:∀ps,o≠.tbl ps):a≠Q:=fun z=>by
 obtain ⟨ps,e⟩:=t;rw [z,e] at h;exact no ps (qAc h).symm
theorem zBs {M:List Addr} {Q:Addr} {q:Str} {ps:Pos} (h:Tab0 H Q q ps) (k:Kp M H H') (n:Q∉M) (n':∀a o,H a=some o->(∀xs,o≠.lst xs)->(∀xs,o≠.tbl xs)->a∉M):Tab0 H' Q q ps:=by
 rcases h with e| ⟨c,e,ec⟩
 ·exact .inl (k _ _ e n)
 ·exact .inr ⟨c,k _ _ e n,k _ _ ec (n' _ _ ec (fun _ z=>nomatch z) fun _ z=>nomatch z)⟩
theorem JobsAt.kp2 {C:Addr} {j Pt Pu:Addr} (A:JobsAt C H j J) (k:Kp [Pt,Pu] H H') (t:∃xs,H Pt=some (.tbl xs)) (u:∃xs,H Pu=some (.tbl xs)):JobsAt C H' j J:=by
 refine A.kp k fun a o ha hm=>?_
 have t':∃xs,H a=some (.tbl xs):=by
  rcases qAO.mp hm with e| e
  ·rw [e];exact t
  ·rw [qAZ.mp e];exact u
 exact ⟨(zA7 t' A.ob fun _ z=>nomatch z).symm,(zA7 t' A.row fun _ z=>nomatch z).symm,(zA7 t' A.prs.top fun _ z=>nomatch z).symm,(zA7 t' A.abv fun _ z=>nomatch z).symm,fun q hq=>(zA7 t' (A.prs.row q hq) fun _ z=>nomatch z).symm,fun n hn=>(zA7 t' (A.sets n hn) fun _ z=>nomatch z).symm⟩
theorem fre_two {Pt Pu a:Addr} (t:∃xs,H' Pt=some (.tbl xs)) (u:∃xs,H' Pu=some (.tbl xs)) (k:Kp [Pt,Pu] H H') (f:Fre H' a):Fre H a:=by
 cases z:H a with
 | none=>exact z
 | some o =>
  obtain ⟨ps,e⟩:=t;obtain ⟨qs,e'⟩:=u;have f:H' a=none:=f;have:=k a o z (nm2 (fun y=>by rw [<-y,f] at e;cases e) (fun y=>by rw [<-y,f] at e';cases e'));rw [f] at this;cases this
theorem RowsAt.back {H0 H1:Hp} {l:Addr} {as:List Addr} {rs:List (List Str)} (R:RowsAt H1 H l as rs) (f:∀a,Fre H1 a->Fre H0 a):RowsAt H0 H l as rs:=⟨R.top,R.len,R.row,R.ne,f _ R.fr,fun a h=>f a (R.frs a h)⟩
section
variable {P:Program} {w:World} {K:PySem.W.Frag} {mg:Str->Option Value} {base:Heap} {C:Addr}
def spHigh (C Pt Pu:Addr):Sp:=fun vs H Q _=>∃(j:Addr) (b:Int) (J:JR) (qs:List (List Str×Addr)) (r:Str->Nat),vs=[.ref j,.int b]/\JobsAt C H j J/\Good J.ns qs r/\(∀k,k∈J.zs.map (·.1)↔k∈qs.map (·.1))/\OrdJ J r/\1<=b/\TabA H Pt/\TabU H Pu/\Pt≠Pu /\
 ∀(pl:Addr) (as:List Addr) (ws F:List Str) (f:Str->Int) (H':Hp),Kp [Pt,Pu] H H'->TabA H' Pt->TabU H' Pu->HF (behJ J) F f->F.Perm J.ns->ws.Perm J.ns->ws.Pairwise (fun x y=>f y<=f x)->RowsAt H H' pl as (rsB J b.toNat ws)->Q (.ref pl) H'
abbrev zAp:Stmt:=top 31
theorem zDq:FnScope ["jobs", "benches", "high"] ["jobs", "benches"] (zAd zAp):=fnS
theorem zGe {f c0 Pt Pu:Addr} {oc:Value} {od an:Option Addr} {osl:Array (Option Value)} {kV doc pm ct:Value} (lk:K.lookup f=some ⟨oc,od,.func (PySem.W.fnOf "highest_first" "highest_first" (zBa zAp) (zA2 zAp) (zAd zAp) .none kV doc pm an (.ref c0) ct),osl⟩) (hcd:PySem.W.codeIn K (.ref c0) "highest_first" = true) (T:Txt K mg) (U:JC K mg C) (B:zGi mg base) (CH:PySem.W.CodeHd base c0 Pu)
  (C_heights:Cal P w K mg base "heights" 8 ["jobs"] (zGw C Pt)) (M_names:Mth P w K mg base C "names" 1 ["self"] (zGv C)) (C_listed:Cal P w K mg base "listed" 5 ["jobs", "benches", "row"] (spListed C)):FnOk P w K mg base CX0 9 f (PySem.W.fnOf "highest_first" "highest_first" (zBa zAp) (zA2 zAp) (zAd zAp) .none kV doc pm an (.ref c0) ct) ["jobs", "benches"] (spHigh C Pt Pu):=by
 refine okC lk hcd zDq (fun vs H Q E h=>?_) (fun A outer s H vs Q E hr h=>?_)
 ·obtain ⟨j,b,J,qs,r,rfl,_⟩:=h;rfl
 ·obtain ⟨j,b,J,qs,r,rfl,A0,G,hz,OJ,hb,T0,U0,nPU,k⟩:=h;have hr1:=hr.mono (j:=1) (by decide);have hr3:=hr.mono (j:=0+3) (by decide);have hr5:=hr.mono (j:=5) (by decide)
  refine ⟨_,(zAc (psS (i:=2) zDq.nd (zAf C_heights hr rfl (zAa (pv 0) zAb)))
   (zAe (zAo (zAf C_listed hr5 rfl (zAa (pv 0) (zAa (pv 1) (zAa (pe_sortedKR (x:= "name") (y:= "high") (iy:=2) (P:=Pu) (c0:=c0) (qual:=lamQ2) (k:=0) hr3 rfl (by rfl) T.z_sorted zCt (zAa (zDc M_names U.cl hr1 (pv 0)) zAb) (by exact ⟨rfl,rfl,rfl,rfl,rfl,by decide +kernel,by decide +kernel⟩) (by decide) rfl rfl rfl rfl rfl rfl CH B rfl (fun _ _ _ _=>rfl) (fun f' cd' A' s' H' hA=>zA0 (zDk hA) (pv 1) (pv 0) (fun _ _=>rfl))) zAb))))))),?_⟩
  have few:=A0.few;refine ⟨_,rfl,j,J,qs,r,rfl,A0,G,hz,T0,fun d F f H1 k1 T1 fd hd hf pmF=>?_⟩;have U1:TabU H1 Pu:=zBs U0 k1 (nm1 nPU.symm) fun a o h _ no=>nm1 (zA7 T0.tbl h no);have K1:Kp [Pt,Pu] H H1:=k1.weak (by simp);have A1:=A0.kp2 K1 T0.tbl (zCj U0);refine ⟨_,rfl,_,rfl,_,rfl,j,J.dx,_,rfl,A1.ob,zGh _ _ _ (by decide +kernel) (by decide +kernel) (by decide +kernel),j,J,rfl,A1,fun l H2 fl hl k2=>?_⟩;have U2:TabU H2 Pu:=zBs U1 k2 (by simp) (fun _ _ _ _ _=>by simp);have d2:=k2 _ _ hd (by simp);have T2:=T1.kp k2;refine ⟨l,J.ns,f,.ref d,rfl,rfl,hl,by lia,U2,fun H3 k3 U3=>?_⟩;have u2:=zCj U2;have d3:H3 d=some (.dK (kvI F f)):=k3 _ _ d2 (nm1 (zA7 u2 d2 fun _ z=>nomatch z));have T3:TabA H3 Pt:=zBs T2 k3 (nm1 nPU) fun a o h _ no=>nm1 (zA7 u2 h no);have U3:TabU H3 Pu:=.inr U3;have K3:Kp [Pt,Pu] H H3:=(K1.trans (k2.weak (by simp))).trans (k3.weak (by simp));refine ⟨fun x hx H' k'=>⟨_,rfl,_,rfl,d,_,rfl,by have:=DGet.k (k:=Sum.inr x) (k' _ _ d3 (by simp));rw [zJh (pmF.mem_iff.mpr hx)] at this;exact this,rfl,Kp.refl⟩,fun m ws H4 k4 hm pm' pw=>?_⟩;have fb4:Fre H4 m:=hm;have k5:Kp [] H4 (upd H4 m (.lst (ws.map V.str))):=Kp.new Kp.refl fb4;have e5:Txs (upd H4 m (.lst (ws.map V.str))) m ws:=upd_same;generalize upd H4 m (.lst (ws.map V.str))=H5 at k5 e5;have k35:=k4.trans k5;have K5:Kp [Pt,Pu] H H5:=K3.trans (k35.weak (by simp));have T5:=T3.kp k35;have U5:TabU H5 Pu:=zBs U3 k35 (by simp) (fun _ _ _ _ _=>by simp);have A5:=A0.kp2 K5 T0.tbl (zCj U0);have bk:∀a,Fre H5 a->Fre H a:=fun a=>fre_two T5.tbl (zCj U5) K5;refine ⟨j,m,b,J,r,ws,rfl,A5,OJ.rk,e5,hb,pm',fun pl as H6 R6 k6=>?_⟩;have U6:TabU H6 Pu:=zBs U5 k6 (by simp) (fun _ _ _ _ _=>by simp);exact k pl as ws F f H6 (K5.trans (k6.weak (by simp))) (T5.kp k6) U6 hf pmF pm' pw (RowsAt.back R6 bk)
end
def tf (m b:Int):Int:=(m+b - 1) / b
theorem DGet.f {a:Addr} {kvs:List (Key×V)} {k:Key} {o:Obj} (e:H a=some (.frz o (.dK kvs))):DGet H a (kV k) (valV kvs k):=.inl ⟨kvs,k,.inr ⟨o,e⟩,rfl,rfl⟩
def manyF (F:List Str) (f:Str->Int) (h:Int):Nat:=(F.filter fun x=>decide (f x>h)).length
theorem kvI_at {F:List Str} {f:Str->Int} {m:Nat} {kk:Key} {v:V} (h:(kvI F f)[m]?=some (kk,v)):∃y,F[m]?=some y/\kk=Sum.inr y:=by
 unfold kvI dT1 at h;rw [qAe] at h;obtain ⟨y,e,r⟩:=qBH.mp h
 cases r
 exact ⟨y,e,rfl⟩
section
variable {P:Program} {w:World} {K:PySem.W.Frag} {mg:Str->Option Value} {base:Heap} {C:Addr}
def spTf:Sp:=fun vs H Q _=>∃m b:Int,vs=[.int m,.int b]/\1<=b/\b<10^100/\Q (.int (tf m b)) H
abbrev zC6:Stmt:=top 25
theorem zGy:FnScope ["many", "benches"] ["many", "benches"] (zAd zC6):=fnS
theorem zG9 {f:Addr} {fd:FuncData} (F:Fun K "turns_filled" "turns_filled" zC6 f fd):FnOk P w K mg base CX0 1 f fd ["many", "benches"] spTf:=by
 refine F.ok zGy (fun vs H Q E h=>?_) (fun cdv A outer s H vs Q E hr h=>?_)
 ·obtain ⟨m,b,rfl,_⟩:=h;rfl
 ·obtain ⟨m,b,rfl,h1,h2,k⟩:=h;exact ⟨_,(zAe (zAo (zAt op_fdivB (zAt zIf (zAt zBz (pv 0) (pv 1)) zAg) (pv 1)))),⟨_,rfl,_,rfl,_,_,rfl,rfl,_,_,rfl,rfl,_,rfl,_,_,rfl,rfl,⟨by lia,h2⟩,k⟩⟩
def spPaper:Sp:=fun vs H Q _=>∃(d:Addr) (b:Int) (n:Nat) (F:List Str) (f:Str->Int),vs=[.ref d,.int b,.int n]/\H d=some (.dK (kvI F f))/\F.length<=20/\n<=20/\1<=b/\b<10^100/\∀(h:Nat) (H':Hp),(h<n/\tf (manyF F f h) b+h=n)\/(h=0/\∀h':Nat,h'<n->tf (manyF F f h') b+h'≠n)->Kp [] H H'->Q (.int h) H'
abbrev zB8:Stmt:=top 32
theorem zCk:FnScope ["high", "benches", "length", "number", "many"] ["high", "benches", "length"] (zAd zB8):=fnS
theorem zHa {f:Addr} {fd:FuncData} (F:Fun K "paper_number" "paper_number" zB8 f fd) (T:Txt K mg) (C_turns_filled:Cal P w K mg base "turns_filled" 1 ["many", "benches"] spTf):FnOk P w K mg base CX0 2 f fd ["high", "benches", "length"] spPaper:=by
 refine F.ok zCk (fun vs H Q E h=>?_) (fun cdv A outer s H vs Q E hr h=>?_)
 ·obtain ⟨d,b,n,F,f,rfl,_⟩:=h;rfl
 ·obtain ⟨d,b,n,F,f,rfl,hd,lF,ln,b1,b2,k⟩:=h;have hu:=zDk hr
  refine ⟨_,(zAc (zBb qAk rfl (zCq rfl T.z_range (zAa (pv 2) zAb)) (pgN (i:=3) zCk.nd)
    (zAc (ps_frzN (psS (i:=4) zCk.nd (zAh zAi (by rfl) T.z_len zA4 (zAa (zA5 rfl (zBc (sc:=zAd zB8) rfl (by decide +kernel)) (Draws.own (x:= "name") (dtk (i:=3) rfl (dtk (i:=0) rfl Draws.nil))) (pi_keys (pv 0)) (fun _ _ _ _=>(pgB (i:=0))) (fun _ _ _ _=>(zB6 (zAs op_gt (zA0 hu (pv 2) (pv 0) (fun _ _=>rfl)) (pv 1) (zAu _)))) (fun _ _ _ _=>(pv 0))) zAb))))
    (zAe (zBx (zAs zI8 (zAt zBz (zAf C_turns_filled hr rfl (zAa (pv 4) (zAa (pv 1) zAb))) (pv 3)) (pv 2) (zAu _))
     (zAe (zAo (pv 3)))
     zAq))))
   (zAe (zAo zAg))),?_⟩
  refine ⟨_,rfl,_,rfl,by lia,by lia,zCb (lo:=0) (n:=n) (fun i σ H2=>(∃o3 o4,σ=[some (.ref d),some (.int b),some (.int n),o3,o4])/\Kp [] H H2/\∀h':Nat,h'<i->tf (manyF F f h') b+h'≠n) ⟨⟨_,_,rfl⟩,Kp.refl,fun h' z=>absurd z (qCf _)⟩ ?_ ?_⟩
  ·rintro i σ H2 hi ⟨⟨o3,o4,rfl⟩,k2,no⟩;have e2:=k2 _ _ hd (by simp);refine ⟨d,kvI F f,e2,fun o=>?_⟩;have kf:Kp [d] H2 (upd H2 d (.frz o (.dK (kvI F f)))):=Kp.put Kp.refl (by simp);have ff:upd H2 d (.frz o (.dK (kvI F f))) d=some (.frz o (.dK (kvI F f))):=upd_same;generalize upd H2 d (.frz o (.dK (kvI F f)))=H4 at kf ff;refine ⟨_,rfl,d,o,_,rfl,ff,fun B hB=>zHq (fun m ys τ H5=>(∃o0,τ=[o0,some (.int (0+(i:Int))),some (.ref d)])/\ys=(((F.take m).filter fun x=>decide (f x>0+(i:Int))).map V.str)/\H5=upd H4 B (.lst ys)) ⟨⟨_,rfl⟩,rfl,rfl⟩ (fun m ys τ H5 ⟨_,_,z⟩=>by subst z;exact (Kp.new (M:=[]) Kp.refl hB) _ _ ff (by simp)) ?_ ?_⟩
   ·rintro m kk v ys τ H5 hv ⟨⟨o0,rfl⟩,rfl,rfl⟩;obtain ⟨y,ey,rfl⟩:=kvI_at hv;have yb:=qAN ey;have f5:=(Kp.new (M:=[]) (l:=B) (o:=.lst (((F.take m).filter fun x=>decide (f x>0+(i:Int))).map V.str)) Kp.refl hB) _ _ ff (by simp);unfold zJl;refine ⟨_,rfl,_,rfl,d,_,rfl,by have:=DGet.f (k:=Sum.inr y) f5;rw [zJh yb] at this;exact this,_,rfl,_,_,rfl,rfl,_,rfl,ite2 (fun c=>?_) (fun c=>?_)⟩
    ·refine ⟨_,rfl,upd_same,?_,⟨_,rfl⟩,?_,zBo⟩
     ·rw [qAD];exact zDl (by lia)
     ·rw [zCa ey c,qAS];rfl
    ·refine ⟨⟨_,rfl⟩,?_,rfl⟩;rw [zC7 ey c]
   ·rintro ys τ H5 ⟨_,rfl,rfl⟩;have eT:F.take (kvI F f).length=F:=by rw [kvI_len,qAi]
    rw [eT];have fB:Fre H4 B:=hB;refine ⟨_,_,rfl,.inl (SqL.of upd_same),?_⟩;have k5:Kp [] H4 (upd H4 B (.lst ((F.filter fun x=>decide (f x>0+(i:Int))).map V.str))):=Kp.new Kp.refl fB;generalize upd H4 B (.lst ((F.filter fun x=>decide (f x>0+(i:Int))).map V.str))=H5 at k5;refine ⟨k5 _ _ ff (by simp),?_⟩;have k6:Kp [] H (upd H5 d (.dK (kvI F f))):=k2.trans (thaw_kp e2 (kf.trans (k5.weak (by simp))));generalize upd H5 d (.dK (kvI F f))=H6 at k6;rw [qAD];have eM:(F.filter fun x=>decide (f x>0+(i:Int))).length=manyF F f i:=by unfold manyF;rw [qDQ]
    rw [eM];refine ⟨_,rfl,_,rfl,_,b,rfl,b1,b2,_,rfl,_,_,rfl,rfl,_,rfl,rfl,_,rfl,ite2 (fun c=>?_) (fun c=>?_)⟩
    ·have c:V.int (tf (manyF F f i) b+(0+(i:Int)))=V.int n:=qAm c;injection c with c;refine ⟨_,rfl,?_⟩;rw [qDQ];exact k i H6 (.inl ⟨hi,by lia⟩) k6
    ·refine ⟨⟨_,_,rfl⟩,k6,fun h' hh=>?_⟩
     by_cases z:h'=i
     ·subst z;exact fun y=>c (qAU (by show V.int (tf (manyF F f h') b+(0+(h':Int)))=V.int n;rw [qDQ,y]))
     ·exact no h' (by lia)
  ·rintro σ H2 ⟨_,k2,no⟩;exact k 0 H2 (.inr ⟨rfl,no⟩) k2
end
section
variable {qs ks:List (List Str×Addr)}
theorem ta_rev (two:∀q∈qs,∃a b,q.1=[a,b]) (ek:ks.map (·.1)=qs.map fun q=>q.1.reverse) {a b:Str}:TA ks a b↔TA qs b a:=by
 constructor
 ·rintro ⟨q,hq,rfl,rfl⟩;have h1:q.1∈ks.map (·.1):=qAI.mpr ⟨q,hq,rfl⟩;rw [ek] at h1;obtain ⟨q',hq',e⟩:=qAI.mp h1;obtain ⟨x,y,e'⟩:=two q' hq';have e2:q.1=[y,x]:=by rw [<-e,e'];rfl
  exact ⟨q',hq',by rw [(zBq e').1,(zBq e2).2],by rw [(zBq e').2,(zBq e2).1]⟩
 ·rintro ⟨q,hq,rfl,rfl⟩;have h1:q.1.reverse∈qs.map fun q=>q.1.reverse:=qAI.mpr ⟨q,hq,rfl⟩;rw [<-ek] at h1;obtain ⟨q',hq',e⟩:=qAI.mp h1;obtain ⟨x,y,e'⟩:=two q hq;have e2:q'.1=[y,x]:=by rw [e,e'];rfl
  exact ⟨q',hq',by rw [(zBq e').2,(zBq e2).1],by rw [(zBq e').1,(zBq e2).2]⟩
theorem zFo (two:∀q∈qs,∃a b,q.1=[a,b]) (ek:ks.map (·.1)=qs.map fun q=>q.1.reverse) {a b:Str}:Way ks a b↔Way qs b a:=by
 constructor
 ·intro h
  induction h with
  | one h=>exact .one ((ta_rev two ek).mp h)
  | more _ h ih=>exact .lead ((ta_rev two ek).mp h) ih
 ·intro h
  induction h with
  | one h=>exact .one ((ta_rev two ek).mpr h)
  | more _ h ih=>exact .lead ((ta_rev two ek).mpr h) ih
end
def One (qs:List (List Str×Addr)):Prop:=∀n y y':Str,Way qs n y->(∀z,Way qs n z->¬Way qs z y)->Way qs n y'->(∀z,Way qs n z->¬Way qs z y')->y=y'
theorem WoodQ.one {way m:Int} {ts ts':List ((Int×Int)×Addr)} {R:List Str} {qs ks:List (List Str×Addr)} (W:WoodQ way m ts ts' R qs) (two:∀q∈qs,∃a b,q.1=[a,b]) (ek:ks.map (·.1)=qs.map fun q=>q.1.reverse):One qs\/One ks:=by
 rcases W.wy with rfl| rfl
 ·exact .inl fun n y y' h s h' s'=>W.gath h s h' s'
 ·refine .inr fun n y y' h s h' s'=>?_;have t:∀{a b:Str},Way ks a b↔Way qs b a:=zFo two ek;exact W.spread (t.mp h) (fun z hz w=>s z (t.mpr hz) (t.mpr w)) (t.mp h') (fun z hz w=>s' z (t.mpr hz) (t.mpr w))
theorem right_rev {J':JR} {b:Int} {rs:List (List Str)} (R:RightI J' b rs) (en:J'.ns=J.ns) (hS:∀n∈J.ns,∀m∈J.ns,m∈J.S n->n∈J'.S m):RightI J b rs.reverse:=by
 have place:∀{i:Nat} {r:List Str},rs.reverse[i]?=some r->i<rs.length/\rs[rs.length - 1 - i]?=some r:=fun {i r} h=>by
  have hi:i<rs.length:=by
   have:=(qAf.mp h).1
   rwa [qBP] at this
  rw [qCC hi] at h;exact ⟨hi,h⟩
 have only:∀{i k:Nat} {q r:List Str} {n:Str},rs[i]?=some q->rs[k]?=some r->n∈q->n∈r->¬i<k:=fun {i k q r n} e1 e2 h1 h2 lt=>by
  refine (R.at' k r e2).nw n h2 ((zB0 _ _).mpr (.inr ⟨q,qAN (i:=i) ?_,h1⟩));rw [qB0 lt];exact e1
 refine ⟨fun i r h=>?_,fun n hn=>?_⟩
 ·obtain ⟨hi,e⟩:=place h;have ok:=R.at' _ r e
  have nw:∀n∈r,n∉AF (rs.reverse.take i) []:=fun n hn z=>by
   obtain ⟨q,q1,q2⟩:=((zB0 _ _).mp z).resolve_left (by simp);obtain ⟨p,hp⟩:=qDR q1;have lp:=(qAf.mp hp).1;rw [qAY] at lp;rw [qB0 (by lia)] at hp;obtain ⟨h1,h2⟩:=place hp;exact only e h2 hn q2 (by lia)
  refine ⟨fun n hn=>en▸ok.ns n hn,ok.nd,nw,fun n hn=>?_,ok.fit⟩;unfold rdyB;rw [qA5];intro m hm;obtain ⟨m1,m2⟩:=qAQ.mp hm;have nn:n∈J.ns:=en▸ok.ns n hn;have lt:=zE7 R (ok.ns n hn) (en.symm▸m1) (hS n nn m m1 (qAm m2));have tn:tI rs n=rs.length - 1 - i:=tI_eq e hn fun q hq z=>ok.nw n hn ((zB0 _ _).mpr (.inr ⟨q,hq,z⟩));obtain ⟨q,e',hq⟩:=tI_at (((zB0 rs []).mp (R.all m (en.symm▸m1))).resolve_left (by simp));have lq:=(qAf.mp e').1;refine qAU ((zB0 _ _).mpr (.inr ⟨q,qAN (i:=rs.length - 1 - tI rs m) ?_,hq⟩));rw [qB0 (by lia),qCC (by lia)];have:rs.length - 1 - (rs.length - 1 - tI rs m)=tI rs m:=by lia
  rw [this];exact e'
 ·obtain ⟨q,q1,q2⟩:=((zB0 rs []).mp (R.all n (en.symm▸hn))).resolve_left (by simp);exact (zB0 _ _).mpr (.inr ⟨q,qCs.mpr q1,q2⟩)
theorem hgt_of {F:List Str} {f:Str->Int} {beh:Str->List Str} (sub:∀n∈J.ns,∀x∈J.S n,x∈J.ns) (hb:∀n∈J.ns,∀y,y∈beh n↔y∈J.ns/\n∈J.S y) (hf:HF beh F f) (pm:F.Perm J.ns):HgtJ J fun x=>(f x).toNat:=by
 have ps:∀n∈J.ns,1<=f n:=fun n hn=>hf.pos (pm.mem_iff.mpr hn);refine ⟨fun n hn m hm=>?_,fun n hn=>?_,fun n hn h2=>?_⟩
 ·have mn:=sub n hn m hm;have h1:=hf.eq m (pm.mem_iff.mpr mn);have h2:=zIh (qAI.mpr ⟨n,(hb m mn n).mpr ⟨hn,hm⟩,rfl⟩:f n∈(beh m).map f);have:=ps n hn;show (f n).toNat<(f m).toNat;lia
 ·have:=ps n hn;show 1<=(f n).toNat;lia
 ·have h2:2<=(f n).toNat:=h2;have h1:=hf.eq n (pm.mem_iff.mpr hn);rcases zHd ((beh n).map f) with z| z
  ·lia
  ·obtain ⟨y,y1,y2⟩:=qAI.mp z;obtain ⟨y3,y4⟩:=(hb n hn y).mp y1;have:=ps y y3;exact ⟨y,y3,y4,by show (f y).toNat+1=(f n).toNat;lia⟩
theorem hgt_after {hg:Str->Nat} (Hg:HgtJ J hg) {f:Str->Nat} {m:Nat} (fo:∀n∈J.ns,∀x∈J.S n,f x<f n) (fm:∀n∈J.ns,f n<m):∀(d:Nat) (x:Str),x∈J.ns->hg x<=d+1->f x+hg x<=m:=by
 intro d
 induction d with
 | zero =>
  intro x hx h;have:=fm x hx;lia
 | succ d ih =>
  intro x hx h
  by_cases c:2<=hg x
  ·obtain ⟨y,y1,y2,y3⟩:=Hg.att x hx c;have h1:=ih y y1 (by lia);have h2:=fo y y1 x y2;lia
  ·have:=fm x hx;lia
structure PlF (J:JR) (b m:Nat) (f:Str->Nat):Prop where
 od:∀n∈J.ns,∀x∈J.S n,f x<f n
 few:∀u,(J.ns.filter fun x=>decide (f x=u)).length<=b
 lt:∀n∈J.ns,f n<m
structure PlanQ (J:JR) (b:Int) (rs:List (List Str)):Prop where
 rt:RightI J b rs
 le:∀m f,PlF J b.toNat m f->rs.length<=m
 ne:∀q∈rs,q≠[]
 l20:rs.length<=20
section
variable {J J':JR} {b b':Int} {rs rs':List (List Str)}
theorem zI2 (R:RightI J b rs) {i:Nat} {q:List Str} {n:Str} (h:rs[i]?=some q) (hn:n∈q):tI rs n=i :=
 tI_eq h hn fun p hp z=>(R.at' i q h).nw n hn ((zB0 _ _).mpr (.inr ⟨p,hp,z⟩))
theorem right_row (R:RightI J b rs) {n:Str} (hn:n∈J.ns):∃q,rs[tI rs n]?=some q/\n∈q:=tI_at (((zB0 _ _).mp (R.all n hn)).resolve_left (by simp))
theorem right_lt' (R:RightI J b rs) {n:Str} (hn:n∈J.ns):tI rs n<rs.length:=by
 obtain ⟨q,e,_⟩:=right_row R hn;exact (qAf.mp e).1
theorem zIr (nd:J.ns.Nodup) (R:RightI J b rs) (u:Nat) (g:Str->Bool) (B:List Str->List Str) (hB:∀q x,x∈q->g x=true->rs[u]?=some q->x∈B q):(J.ns.filter fun x=>decide (tI rs x=u)&&g x).length<=(B ((rs[u]?).getD [])).length:=by
 refine zF8 (nd.sublist qBB) fun x hx=>?_;obtain ⟨x1,x2⟩:=qAQ.mp hx;obtain ⟨x2,x3⟩:=qDL.mp x2;obtain ⟨q,e,hq⟩:=right_row R x1;rw [qAm x2] at e;rw [e];exact hB q x hq x3 e
theorem right_f (nd:J.ns.Nodup) (sub:∀n∈J.ns,∀x∈J.S n,x∈J.ns) (R:RightI J b rs) (hb:b<=b') (h1:1<=b):PlF J b'.toNat rs.length (tI rs):=by
 refine ⟨fun n hn x hx=>zE7 R (sub n hn x hx) hn hx,fun u=>?_,fun n hn=>right_lt' R hn⟩;have h:=zIr nd R u (fun _=>true) id fun q x h _ _=>h;simp only [Bool.and_true] at h;refine qAT h ?_
 cases e:rs[u]? with
 | none=>exact qAX _
 | some q =>
  have:=(R.at' u q e).fit;show q.length<=_;lia
theorem PlanQ.more (nd:J.ns.Nodup) (sub:∀n∈J.ns,∀x∈J.S n,x∈J.ns) (h1:1<=b) (P:PlanQ J b rs) (P':PlanQ J b' rs') (hb:b<=b'):rs'.length<=rs.length:=P'.le _ _ (right_f nd sub P.rt hb h1)
theorem PlanQ.same (en:J'.ns=J.ns) (hS:∀n∈J.ns,∀x,x∈J'.S n↔x∈J.S n) (P:PlanQ J b rs):PlanQ J' b rs:=by
 refine ⟨⟨fun i r h=>?_,fun n hn=>P.rt.all n (en▸hn)⟩,fun m f F=>P.le m f ⟨fun n hn x hx=>F.od n (en.symm▸hn) x ((hS n hn x).mpr hx),fun u=>en▸F.few u,fun n hn=>F.lt n (en.symm▸hn)⟩,P.ne,P.l20⟩;have ok:=P.rt.at' i r h;refine ⟨fun n hn=>en.symm▸ok.ns n hn,ok.nd,ok.nw,fun n hn=>?_,ok.fit⟩;have:=ok.rd n hn;unfold rdyB at this ⊢;rw [qA5] at this ⊢;intro m hm;obtain ⟨m1,m2⟩:=qAQ.mp hm;exact this m (qAQ.mpr ⟨en▸m1,qAU ((hS n (ok.ns n hn) m).mp (qAm m2))⟩)
theorem PlanQ.rev (en:J'.ns=J.ns) (hS:∀n∈J.ns,∀m∈J.ns,m∈J.S n↔n∈J'.S m) (sub:∀n∈J.ns,∀x∈J.S n,x∈J.ns) (sub':∀n∈J'.ns,∀x∈J'.S n,x∈J'.ns) (P:PlanQ J' b rs):PlanQ J b rs.reverse:=by
 refine ⟨right_rev P.rt en fun n hn m hm h=>(hS n hn m hm).mp h,fun m f F=>?_,fun q hq=>P.ne q (qCs.mp hq),by rw [qBP];exact P.l20⟩;rw [qBP];refine P.le m (fun x=>m - 1 - f x) ⟨fun n hn x hx=>?_,fun u=>?_,fun n hn=>?_⟩
 ·have xn:=sub' n hn x hx;rw [en] at hn xn;have h1:=F.od x xn n ((hS x xn n hn).mpr hx);have h2:=F.lt x xn;show m - 1 - f x<m - 1 - f n;lia
 ·rw [en]
  by_cases c:u<m
  ·refine qAT (qBF (qAg List.length (qCT fun x hx=>?_))) (F.few (m - 1 - u));have:=F.lt x hx;exact decide_eq_decide.mpr (by lia)
  ·have:J.ns.filter (fun x=>decide (m - 1 - f x=u))=[]:=List.filter_eq_nil_iff.mpr fun x hx z=>by
    have:=F.lt x hx;have:=qAm z;lia
   rw [this];exact qAX _
 ·have:=F.lt n (en▸hn);show m - 1 - f n<m;lia
theorem PlanQ.half (nd:J.ns.Nodup) (sub:∀n∈J.ns,∀x∈J.S n,x∈J.ns) (h1:1<=b) (P:PlanQ J b rs) (P':PlanQ J (2*b) rs'):rs.length<=2*rs'.length:=by
 have R:=P'.rt;refine P.le (2*rs'.length) (fun x=>2*tI rs' x+if x∈((rs'[tI rs' x]?).getD []).take b.toNat then 0 else 1) ⟨fun n hn x hx=>?_,fun u=>?_,fun n hn=>?_⟩
 ·have:=zE7 R (sub n hn x hx) hn hx;show 2*tI rs' x+(if _ then 0 else 1)<2*tI rs' n+if _ then 0 else 1;split<;>split<;>lia
 ·by_cases c:u % 2=0
  ·have h:=zIr nd R (u / 2) (fun x=>decide (x∈((rs'[tI rs' x]?).getD []).take b.toNat)) (List.take b.toNat) fun q x hx hg e=>by
    have hg:=qAm hg;rw [zI2 R e hx,e] at hg;exact hg
   refine qAT (qBF (qAg List.length (qCT fun x hx=>?_))) (qAT h (by rw [qAY];lia));rw [qBQ,qDL,qBN,qBN,qBN];constructor
   ·intro z
    by_cases t:x∈((rs'[tI rs' x]?).getD []).take b.toNat
    ·rw [qAC t] at z;exact ⟨by lia,t⟩
    ·rw [qAB t] at z;lia
   ·rintro ⟨z,t⟩;rw [qAC t];lia
  ·have h:=zIr nd R (u / 2) (fun x=>!decide (x∈((rs'[tI rs' x]?).getD []).take b.toNat)) (List.drop b.toNat) fun q x hx hg e=>by
    have hg:x∉((rs'[tI rs' x]?).getD []).take b.toNat:=by simpa using hg
    rw [zI2 R e hx,e] at hg;have hx':=hx;rw [<-qBU b.toNat q] at hx';exact (qAW.mp hx').resolve_left hg
   have hq:(((rs'[u / 2]?).getD []).drop b.toNat).length<=b.toNat:=by
    rw [qB1]
    cases e:rs'[u / 2]? with
    | none=>exact qAT (Nat.sub_le _ _) (qAX _)
    | some q =>
     have:=(R.at' _ q e).fit;show q.length - b.toNat<=b.toNat;lia
   refine qAT (qBF (qAg List.length (qCT fun x hx=>?_))) (qAT h hq);rw [qBQ,qDL,qBN,qBN,Bool.not_eq_true',decide_eq_false_iff_not];constructor
   ·intro z
    by_cases t:x∈((rs'[tI rs' x]?).getD []).take b.toNat
    ·rw [qAC t] at z;lia
    ·rw [qAB t] at z;exact ⟨by lia,t⟩
   ·rintro ⟨z,t⟩;rw [qAB t];lia
 ·have:=right_lt' R hn;show 2*tI rs' n+(if _ then 0 else 1)<_;split<;>lia
theorem PlanQ.one (nd:J.ns.Nodup) (sub:∀n∈J.ns,∀x∈J.S n,x∈J.ns) (P:PlanQ J 1 rs):rs.length=J.ns.length:=by
 refine qDN ?_ ?_
 ·have:=zF8 (A:=List.range rs.length) (B:=J.ns.map (tI rs)) List.nodup_range fun u hu=>by
   have hu:=qA3.mp hu;obtain ⟨q,e⟩:∃q,rs[u]?=some q:=⟨_,qAr hu⟩
   cases z:q with
   | nil=>exact absurd z (P.ne q (qAN e))
   | cons x l =>
    have hx:x∈q:=by rw [z];exact qAR
    exact qAI.mpr ⟨x,(P.rt.at' u q e).ns x hx,zI2 P.rt e hx⟩
  rwa [List.length_range,qAD] at this
 ·have F:=right_f nd sub P.rt (qBZ 1) (by decide);have:=hu_few (ns:=J.ns) (b:=1) F.few rs.length (fun _=>true) fun x hx _=>F.lt x hx;rw [Nat.one_mul,List.filter_eq_self.mpr fun _ _=>rfl] at this;exact this
theorem PlanQ.tall {hg:Str->Nat} {h:Nat} (nd:J.ns.Nodup) (sub:∀n∈J.ns,∀x∈J.S n,x∈J.ns) (Hg:HgtJ J hg) (P:PlanQ J b rs) (h1:1<=b) (hb:(J.ns.length:Int)<=b) (top:∀n∈J.ns,hg n<=h) (at':h=0\/∃n∈J.ns,hg n=h):rs.length=h:=by
 refine qDN (P.le h (fun x=>h - hg x) ⟨fun n hn x hx=>?_,fun u=>?_,fun n hn=>?_⟩) ?_
 ·have h2:=Hg.dn n hn x hx;have h3:=top x (sub n hn x hx);show h - hg x<h - hg n;lia
 ·exact qAT (qAx _ _) (by lia)
 ·have h2:=Hg.pos n hn;have h3:=top n hn;show h - hg n<h;lia
 ·rcases at' with z| ⟨n,hn,z⟩
  ·lia
  ·have F:=right_f nd sub P.rt (qBZ b) h1;have:=hgt_after Hg F.od F.lt (hg n) n hn (by lia);lia
end
theorem high_plan {r:Str->Nat} {ws F:List Str} {f:Str->Int} {b:Int} (OJ:OrdJ J r) (G:gathB J=true) (hb:1<=b) (hf:HF (behJ J) F f) (pmF:F.Perm J.ns) (pm:ws.Perm J.ns) (pw:ws.Pairwise fun x y=>f y<=f x):PlanQ J b (rsB J b.toNat ws):=by
 have hb':1<=b.toNat:=by lia
 have Gs:∀n∈J.ns,(strB J n).length<=1:=fun n hn=>qAm (qA5.mp G n hn);have W:=wood_is OJ Gs (hgt_of OJ.sub (fun n _ y=>zFd) hf pmF) pm (pw.imp fun z=>by lia) hb';have e:((b.toNat:Nat):Int)=b:=by lia
 have R:=zEp OJ pm hb';rw [e] at R;refine ⟨R,fun m g F=>W.least hb' F.od F.few F.lt,fun q hq=>?_,qAT (zHg J b.toNat ws.length [] ws) (by rw [pm.length_eq];exact OJ.few)⟩;obtain ⟨i,hi⟩:=qDR hq;obtain ⟨A',L',h1,_,_,_,h5,e',_⟩:=zGm OJ pm hb' hi;rw [e'];exact h1.turn hb' h5
end My
namespace ST
open PySem L2 PySem.SetTable PyProof.Rows
end ST
namespace L2
open PySem PySem.Spec PyProof.Rows PySem.W
def del (H:Hp) (a:Addr):Hp:=fun b=>if b=a then none else H b
theorem del_same {H:Hp} {a:Addr}:del H a a=none:=qAC rfl
theorem zF9 {H:Hp} {a b:Addr} (h:b≠a):del H a b=H b:=qAB h
theorem del_some {H:Hp} {a b:Addr} {o:HO} (h:del H a b=some o):b≠a/\H b=some o:=by
 by_cases z:b=a
 ·rw [z,del_same] at h;cases h
 ·exact ⟨z,by rw [zF9 z] at h;exact h⟩
end L2
namespace L2
open PySem PySem.Spec PyProof.Rows PySem.W PySem.Builtin PySem.Builtin.ObjectAttr
end L2
namespace L2
open PySem PySem.Spec PyProof.Rows
section
variable {prog:Program} {w:World} {A:Around} {E:Value->Shared->Prop} {s:Shared}
theorem rv_len:typeLookup (.type "list_reverseiterator") "__len__" = pure none:=by rw [qCh,qCi];kernel_rfl
theorem rv_hint:typeLookup (.type "list_reverseiterator") "__length_hint__" = pure (some (.builtin "list_reverseiterator.__length_hint__")):=by rw [qCh,qCi];kernel_rfl
theorem hint_rev {r l:Addr} {i:Int} {Q:Bool->Shared->Prop} (hr:s.heap.IsRevIter r l i) (h:Q false s):wpAny (model prog w) A (Builtin.List.listLengthHint (.ref r)) Q E s:=by
 unfold Builtin.List.listLengthHint;refine qAA (qCa hr.typeIs rv_len ?_);refine qCU (fun hab=>absurd hab (by decide +kernel)) (fun _=>?_);refine qCU (fun hab=>absurd hab (by decide)) (fun _=>?_);refine qAA (qCa hr.typeIs rv_hint ?_);generalize hid:("list_reverseiterator.__length_hint__" : String)=id0
 wp_delta
 rw [show splitId id0=some ("list_reverseiterator", "__length_hint__") from by subst hid;decide +kernel];subst hid;refine qAA (qDC (T:= "list_reverseiterator") (b:=true) hr.typeIs (by rw [isSubtype_type];kernel_rfl) ?_);refine qCU (fun hab=>absurd hab (by decide)) (fun _=>?_);refine qCU (fun _=>?_) (fun hab=>absurd (by decide +kernel) hab);refine qCU (fun hab=>absurd hab (by decide +kernel)) (fun _=>?_);exact qAE h
theorem rev_items {its acc:Array Value} (h:ItemsOf (fun i v=>its[its.size - 1 - i]?=some v) acc its.size):acc.toList=its.toList.reverse:=by
 refine List.ext_getElem? fun i=>?_;rw [qAq]
 by_cases hi:i<its.size
 ·have e:acc[i]?=some (acc[i]'(by rw [h.1];exact hi)):=qDX (by rw [h.1];exact hi);rw [e,<-h.2 i _ e,qCC (by simpa using hi)];simp
 ·rw [Array.getElem?_eq_none (by rw [h.1];lia),qDZ (by simp;lia)]
theorem list_rev {r l:Addr} {its:Array Value} {Q:Value->Shared->Prop} (hh:A.handled=none) (hr:s.heap.IsRevIter r l ((its.size:Int) - 1)) (hl:s.heap.IsList l its) (ne:l≠r) (hz:its.size<=sizeLine)
  (q:∀h' tk acc c,(∀b o,b≠r->s.heap.get? b=some o->h'.get? b=some o)->h'.get? s.heap.objs.size=some {cls:=.type "list",dict:=none,data:=.seq acc c,slots:=#[]}->acc.toList=its.toList.reverse->Q (.ref s.heap.objs.size) {s with heap:=h',toks:=tk}) :
  wpAny (model prog w) A (call (.type "list") [.ref r]) Q E s:=by
 obtain ⟨h0,g,dd,tk,os⟩:=s;have lr:r<h0.objs.size:=by obtain ⟨o,y,_⟩:=hr;exact qAL y
 have ll:l<h0.objs.size:=by obtain ⟨o,y,_⟩:=hl;exact qAL y
 refine callType_codes (Q₁:=fun obj s₁=>obj= .ref h0.objs.size/\s₁=⟨h0.push {cls:=.type "list",data:=.seq #[]},g,dd,tk,os⟩) F.called_list (F.typeCall_list_1 _) F.entry_list_init (code_list_new _ ⟨rfl,rfl⟩) fun obj s1 h1=>?_;obtain ⟨rfl,rfl⟩:=h1;have hS:(h0.push {cls:=.type "list",data:=.seq #[]}).get? h0.objs.size=some {cls:=.type "list",data:=.seq #[]}:=qAb _ rfl;refine ⟨⟨_,hS,rfl⟩,F.args_list_init_2 _ _,?_⟩;show wpAny _ A.in1.in1 (do let old<-Builtin.List.listItems (.ref h0.objs.size);Builtin.List.listUpdate (.ref h0.objs.size) (fun _=>#[]);letGo old.toList.reverse;Builtin.List.listExtendWith (.ref h0.objs.size) (.ref r) .none) _ _ _;refine qAA ?_;unfold Builtin.List.listItems;refine qAA (wpAny_seqItems hS rfl (qAE ?_));show wpAny _ A.in1.in1 (updateSeq h0.objs.size (fun _=>#[]) >>= fun _=>letGo (#[]:Array Value).toList.reverse >>= fun _=>Builtin.List.listExtendWith (.ref h0.objs.size) (.ref r) .none) _ _ _;refine qAA (qCR hS rfl ?_);have S1:=qBK (Obj.mapSeq (fun _=>(#[]:Array Value))) hS rfl;have o1:∀b o,h0.get? b=some o->((h0.push {cls:=.type "list",data:=.seq #[]}).update h0.objs.size (Obj.mapSeq (fun _=>(#[]:Array Value)))).get? b=some o:=fun b o y=>(qBk _ _ (qA4 (qAL y))).trans (qAJ _ y);generalize (h0.push {cls:=.type "list",data:=.seq #[]}).update h0.objs.size (Obj.mapSeq (fun _=>(#[]:Array Value)))=h1 at S1 o1 ⊢;refine qAA (qBt ?_);have hr1:h1.IsRevIter r l ((its.size:Int) - 1):=Heap.IsRevIter.at hr fun o y=>o1 _ _ y;have hl1:h1.IsList l its:=hl.at fun o y=>o1 _ _ y;unfold Builtin.List.listExtendWith;refine qAA (qC7 (T:= "list_reverseiterator") (s:=⟨h1,g,dd,tk,os⟩) hr1.typeIs ?_);have d1:Builtin.List.listSameRef (.ref h0.objs.size) (.ref r)=false:=qBD.mpr (qA4 lr);have d2:(Value.type "list_reverseiterator" == Value.type "list")=false:=by decide
 have d3:(Value.type "list_reverseiterator" == Value.type "tuple")=false:=by decide
 simp only [d1,d2,d3,Bool.or_false,qCB,qBb];refine qAA (wpAny_pyIter_revIter (s:=⟨h1,g,dd,tk,os⟩) hr1 (qAA (qAy (hint_rev (s:=⟨h1,g,dd,tk,os⟩) hr1 ?_))));refine qCU (fun hab=>absurd hab (by decide +kernel)) fun _=>qAE ⟨qCg F.plain_extend_loop _,?_⟩;have W:=(Walks.listRev (prog:=prog) (w:=w) (A:=A.in1.in1) hh r l ne its).toS;refine codeAny_extend_loopS W hz h0.objs.size ?_ .none its.size 0 ⟨h1,g,dd,tk,os⟩ #[] _ rfl (qAX _) ⟨qAX _,by simpa using hr1,hl1⟩ S1 (ItemsOf.nil _) fun s' acc c mv hS' it=>?_
 ·simp only [qAO,qB5,or_false,not_or];exact ⟨qA4 lr,qA4 ll⟩
 ·rw [Moved.eq_with mv];refine ⟨rfl,q s'.heap s'.toks acc c (fun b o hb e=>mv.heap b o ?_ (o1 b o e)) hS' (rev_items it)⟩;simp only [qAO,qB5,or_false,not_or];exact ⟨qAV (qAL e),hb⟩
end
def rvN (n0:Nat) (r l:Addr) (n:Nat):HO:=.ext fun h=>h.IsRevIter r l ((n:Int) - 1)/\n0<=r
theorem vals_rev:∀{xs:List V} {us:List Value},Vals xs us->Vals xs.reverse us.reverse
 | _,_,.nil=>.nil
 | _,_,.cons r t=>by rw [List.reverse_cons,List.reverse_cons];exact (vals_rev t).append (.cons r .nil)
section
variable {X:Cx}
theorem zDa:zCu X (.type "reversed") (fun xs H Q=>∃l ys,xs=[.ref l]/\H l=some (.lst ys)/\∀r,H r=none->Q (.ref r) (upd H r (rvN X.s₀.heap.objs.size r l ys.length))):=by
 intro pins s σ H xs us Q I rv h;obtain ⟨l,ys,rfl,e,q⟩:=h;obtain ⟨u,rfl,ru⟩:=rv.one
 cases ru
 obtain ⟨z,its,n,rel,hl⟩:zAy X.prog X.w H s.heap l (.lst ys):=I.hok l _ e;have len:=rel.length;refine call_reversed_list (items:=its.toArray) ⟨_,hl,rfl,n,rfl⟩ ?_;have ge:(s.heap.push (revObj l ((its.toArray.size:Int) - 1))).IsRevIter s.heap.objs.size l ((ys.length:Int) - 1):=⟨_,qAb _ rfl,rfl,by rw [qAM,<-len];rfl⟩;refine ⟨.ref s.heap.objs.size,_,I.laid (o:=rvN X.s₀.heap.objs.size s.heap.objs.size l ys.length) (t':=s.toks) (fun b o z=>qAJ _ z) (qAG _) ?_,rfl,q _ (I.hok.fresh (qAG _))⟩;exact ⟨⟨ge,I.sz⟩,⟨_,qAb _ rfl⟩,fun h1 h2 x y=>⟨x.1.at y,x.2⟩⟩
theorem zEw (hc:X.calm=true):zCu X (.type "list") (fun xs H Q=>∃r l ys,xs=[.ref r]/\H r=some (rvN X.s₀.heap.objs.size r l ys.length)/\H l=some (.lst ys)/\∀p,H p=none->Q (.ref p) (upd (del H r) p (.lst ys.reverse))):=by
 intro pins s σ H xs us Q I rv h;obtain ⟨r,l,ys,rfl,er,e,q⟩:=h;obtain ⟨u,rfl,ru⟩:=rv.one
 cases ru
 obtain ⟨⟨hr,n0⟩,_,_⟩:zAy X.prog X.w H s.heap r (rvN X.s₀.heap.objs.size r l ys.length):=I.hok r _ er;obtain ⟨z,its,n,rel,hl⟩:zAy X.prog X.w H s.heap l (.lst ys):=I.hok l _ e;have len:=rel.length;have ne:l≠r:=zBl e er fun z=>nomatch z;refine list_rev (its:=its.toArray) (I.ok.hd hc) (by rw [qAM,<-len];exact hr) ⟨_,hl,rfl,n,rfl⟩ ne (by rw [qAM];lia) fun h' tk acc c kp ge ea=>?_;have fr:H s.heap.objs.size=none:=I.hok.fresh (qAG _);refine ⟨.ref s.heap.objs.size,_,?_,rfl,q _ fr⟩;have rs:r≠s.heap.objs.size:=zAk er fr;refine I.call' (s':={s with heap:=h',toks:=tk}) (ch:=[r]) rfl ⟨fun b o z m _ nr=>kp b o (fun y=>nr (by rw [y];simp)) z,fun b o z m _ nr=>⟨o.slots,kp b o (fun y=>nr (by rw [y];simp)) z⟩,fun b o z m nr=>?_,fun b o z nr=>⟨o,kp b o (fun y=>nr (by rw [y];simp)) z⟩,fun b xs z=>?_,fun b o u z=>?_,fun b ps z=>⟨#[],?_⟩⟩ (fun b o z=>?_) I.bare (fun b hb=>?_)
 ·rw [upd_ne (qAV (qAL z)),zF9 (fun y=>nr (by rw [y];simp))];exact m
 ·rw [upd_ne (zAk z fr),zF9 (zBl z er fun y=>nomatch y)];exact z
 ·rw [upd_ne (zAk z fr),zF9 (zBl z er fun y=>nomatch y)];exact z
 ·rw [Array.append_empty,upd_ne (zAk z fr),zF9 (zBl z er fun y=>nomatch y)];exact z
 ·by_cases hb:b=s.heap.objs.size
  ·subst hb;rw [upd_same] at z;cases z;refine ⟨by rw [qBP];exact ‹ys.length<=sizeLine›,acc.toList,c,?_,by simpa using ge⟩;rw [ea];exact vals_rev rel
  ·rw [upd_ne hb] at z;obtain ⟨br,z⟩:=del_some z;refine (I.hok b o z).stay (fun d v hd y=>kp d v ?_ y) (fun d y=>?_) fun d xs y=>?_
   ·rcases hd with rfl| hd
    ·exact br
    ·exact zBl hd er fun y=>nomatch y
   ·rw [upd_ne (zAk y fr),zF9 (zBl y er fun y=>nomatch y)];exact y
   ·rw [upd_ne (zAk y fr),zF9 (zBl y er fun y=>nomatch y)];exact y
 ·rw [qAZ.mp hb];refine ⟨.inr n0,fun y=>?_,fun x c y w=>?_,fun p hp y=>?_⟩
  ·rw [y,I.free] at er;cases er
  ·rw [<-w,I.freeC x c y] at er;cases er
  ·rw [<-y,(I.pin p hp).2.1] at er;cases er
end
end L2
namespace My
open PySem L2
variable {P:Program}{w:World}{K:PySem.W.Frag}{mg:Str->Option Value}{base:Heap}{C:Addr}
variable {H H0 H':Hp}{l Pt Pu Pv:Addr}{as M:List Addr}{fd:FuncData}
theorem kp_rev {r p:Addr} {o o':HO} (hr:H r=none) (hp:upd H r o p=none):Kp [] H (upd (del (upd H r o) r) p o')/\upd (del (upd H r o) r) p o' p=some o':=⟨fun c x hc _=>by
 have n1:c≠r:=zAk hc hr;have e:upd H r o c=some x:=by rw [upd_ne n1];exact hc
 rw [upd_ne (zAk e hp),zF9 n1];exact e,upd_same⟩
theorem RowsAt.rev {p:Addr} {rs:List (List Str)} (R:RowsAt H0 H l as rs) (k:Kp [] H H') (hp:H' p=some (.lst (as.map V.ref).reverse)) (f:Fre H p) (f0:Fre H0 p):RowsAt H0 H' p as.reverse rs.reverse:=by
 refine ⟨by rw [hp,List.map_reverse],by rw [qBP,qBP,R.len],fun i a r e1 e2=>?_,fun a ha=>?_,f0,fun a ha=>R.frs a (qCs.mp ha)⟩
 ·have hi:=(qAf.mp e1).1;rw [qBP] at hi;rw [qCC hi] at e1;rw [qCC (by rw [<-R.len];exact hi),<-R.len] at e2;exact k _ _ (R.row _ a r e1 e2) (by simp)
 ·obtain ⟨r,_,hr'⟩:=R.mem (qCs.mp ha);exact ne_fre f hr'
theorem RowsAt.len' {rs:List (List Str)} (R:RowsAt H0 H l as rs):(((as.map V.ref).length:Nat):Int)=(rs.length:Int):=by rw [qAD,R.len]
section
def spWP (C Pt Pu:Addr):Sp:=fun vs H Q _=>∃(j:Addr) (b:Int) (J:JR) (qs ks:List (List Str×Addr)) (r:Str->Nat),vs=[.ref j,.int b]/\JobsAt C H j J/\Good J.ns qs r/\(∀k,k∈J.zs.map (·.1)↔k∈qs.map (·.1))/\(∀q∈qs,∃a b,q.1=[a,b])/\ks.map (·.1)=(qs.map fun q=>q.1.reverse)/\(One qs\/One ks)/\1<=b/\b<10^100/\TabA H Pt/\TabU H Pu/\Pt≠Pu /\
 ∀(t pl pa:Addr) (as:List Addr) (rs:List (List Str)) (H':Hp),Kp [Pt,Pu] H H'->TabA H' Pt->TabU H' Pu->H' t=some (.tup [.ref pl,.ref pa])->RowsAt H H' pl as rs->PlanQ J b rs->Q (.ref t) H'
abbrev zEn:Stmt:=top 30
theorem zCv:FnScope ["jobs", "benches", "plan", "turned"] ["jobs", "benches"] (zAd zEn):=fnS
theorem ok_wood_plan {f:Addr} (F:Fun K "wood_plan" "wood_plan" zEn f fd) (T:Txt K mg) (U:JC K mg C) (C_check_benches:Cal P w K mg base "check_benches" 2 ["benches"] spBench) (C_is_gathering:Cal P w K mg base "is_gathering" 5 ["jobs"] (spGath C)) (C_highest_first:Cal P w K mg base "highest_first" 9 ["jobs", "benches"] (spHigh C Pt Pu))
  (C_paper_number:Cal P w K mg base "paper_number" 2 ["high", "benches", "length"] spPaper) (C_heights:Cal P w K mg base "heights" 8 ["jobs"] (zGw C Pt)) (M_turned:Mth P w K mg base C "turned" 6 ["self"] (zIt C)):FnOk P w K mg base CX0 10 f fd ["jobs", "benches"] (spWP C Pt Pu):=by
 refine F.ok zCv (fun vs H Q E h=>?_) (fun cdv A outer s H vs Q E hr h=>?_)
 ·obtain ⟨j,b,J,qs,ks,r,rfl,_⟩:=h;rfl
 ·obtain ⟨j,b,J,qs,ks,r,rfl,A0,G,hz,two,ek,one,b1,b2,T0,U0,nPU,k⟩:=h;have hr2:=hr.mono (j:=2) (by decide);have hr5:=hr.mono (j:=5) (by decide);have hr6:=hr.mono (j:=6) (by decide);have hr8:=hr.mono (j:=8) (by decide)
  refine ⟨_,(zAc (zA8 (zAf C_check_benches hr2 rfl (zAa (pv 1) zAb)))
   (zAc (zBx (zC1 (zAf C_is_gathering hr5 rfl (zAa (pv 0) zAb)))
    (zAc (psS (i:=2) zCv.nd (zAf C_highest_first hr rfl (zAa (pv 0) (zAa (pv 1) zAb))))
    (zAe (zAo (zC2 (zAa (pv 2) (zAa (zC2 (zAa zId (zAa (zAf C_paper_number hr2 rfl (zAa (zAf C_heights hr8 rfl (zAa (pv 0) zAb)) (zAa (pv 1) (zAa (zAh zAi (by rfl) T.z_len zA4 (zAa (pv 2) zAb)) zAb)))) zAb))) zAb))))))
    zAq)
   (zAc (psS (i:=3) zCv.nd (zDc M_turned U.cl hr6 (pv 0)))
   (zAc (zBx (zC1 (zAf C_is_gathering hr5 rfl (zAa (pv 3) zAb)))
    (zAc (psS (i:=2) zCv.nd (zAf C_highest_first hr rfl (zAa (pv 3) (zAa (pv 1) zAb))))
    (zAe (zAo (zC2 (zAa (zAm (zEw rfl) (by rfl) T.z_list zB2 (zAa (zAm zDa (by rfl) T.z_reversed zEx (zAa (pv 2) zAb)) zAb)) (zAa (zC2 (zAa zId (zAa (zAf C_paper_number hr2 rfl (zAa (zAf C_heights hr8 rfl (zAa (pv 3) zAb)) (zAa (pv 1) (zAa (zAh zAi (by rfl) T.z_len zA4 (zAa (pv 2) zAb)) zAb)))) zAb))) zAb))))))
    zAq)
   (zAe zAv))))),?_⟩
  have few:=A0.few;refine ⟨_,rfl,b,rfl,b1,?_⟩;refine ⟨_,rfl,j,J,rfl,A0,fun H1 k1=>?_⟩;have A1:=A0.kp0 k1;have T1:=T0.kp k1;have U1:TabU H1 Pu:=zBs U0 k1 (by simp) (fun _ _ _ _ _=>by simp);have plan:∀{J1:JR} {qs1:List (List Str×Addr)} {r1:Str->Nat} {x:Addr} {H2:Hp} {F ws:List Str} {f:Str->Int},JobsAt C H2 x J1->Good J1.ns qs1 r1->(∀k,k∈J1.zs.map (·.1)↔k∈qs1.map (·.1))->(∀q∈qs1,∃a b,q.1=[a,b])->gathB J1=true->HF (behJ J1) F f->F.Perm J1.ns->ws.Perm J1.ns->ws.Pairwise (fun x y=>f y<=f x)->PlanQ J1 b (rsB J1 b.toNat ws):=fun A2 G2 z2 two2 g2 hf pmF pm pw=>high_plan (zG6 A2 G2 z2 two2) g2 b1 hf pmF pm pw;have rows20:∀{J1:JR} {ws:List Str},ws.Perm J1.ns->J1.ns.length<=20->(rsB J1 b.toNat ws).length<=20:=fun {J1 ws} pm hl=>qAT (zHg J1 b.toNat ws.length [] ws) (by rw [pm.length_eq];exact hl);refine ⟨_,rfl,ite2 (fun g=>?_) (fun g=>?_)⟩
  ·-- gathering
   refine ⟨_,rfl,_,rfl,j,b,J,qs,r,rfl,A1,G,hz,zG6 A0 G hz two,b1,T1,U1,nPU,fun pl as ws F f H2 k2 T2 U2 hf pmF pm pw R2=>?_⟩;have bk2:∀a,Fre H1 a->Fre H a:=fun a h=>k1.fre h (by simp);have A2:=A1.kp2 k2 T1.tbl (zCj U1);refine ⟨_,rfl,_,rfl,j,J,qs,r,rfl,A2,G,hz,T2,fun d F2 f2 H3 k3 T3 fd hd hf2 pm2=>?_⟩;have U3:TabU H3 Pu:=zBs U2 k3 (nm1 nPU.symm) fun a o h _ no=>nm1 (zA7 T2.tbl h no);have R3:=R2.kp k3 (nm1 (zA7 T2.tbl R2.top fun _ z=>nomatch z)) fun a ha=>nm1 (by obtain ⟨q,_,e⟩:=R2.mem ha;exact zA7 T2.tbl e fun _ z=>nomatch z);refine ⟨_,rfl,_,rfl,_,_,rfl,.inl (SqL.of R3.top),?_⟩;rw [R3.len'];refine ⟨d,b,_,F2,f2,rfl,hd,by rw [pm2.length_eq];exact few,rows20 pm few,b1,b2,fun h H4 told k4=>?_⟩;have pq:=plan A0 G hz two g hf pmF pm pw;refine ⟨(by walk_at "ln"),fun pa hpa=>?_⟩;have fpa:Fre H4 pa:=hpa;have k5:Kp [] H4 (upd H4 pa (.tup [.str "behind",.int h])):=Kp.new Kp.refl fpa;have e5:upd H4 pa (.tup [.str "behind",.int h]) pa=some (.tup [.str "behind",.int h]):=upd_same;generalize upd H4 pa (.tup [.str "behind",.int h])=H5 at k5 e5 ⊢;refine ⟨(by walk_at "ln"),fun t ht=>?_⟩;have ft:Fre H5 t:=ht;have k6:Kp [] H5 (upd H5 t (.tup [.ref pl,.ref pa])):=Kp.new Kp.refl ft;have e6:upd H5 t (.tup [.ref pl,.ref pa]) t=some (.tup [.ref pl,.ref pa]):=upd_same;generalize upd H5 t (.tup [.ref pl,.ref pa])=H6 at k6 e6 ⊢;have k36:=(k4.trans k5).trans k6;exact k t pl pa as _ H6 (((k1.weak (by simp)).trans k2).trans ((k3.weak (by simp)).trans (k36.weak (by simp)))) (T3.kp k36) (zBs U3 k36 (by simp) (fun _ _ _ _ _=>by simp)) e6 ((R3.kp k36 (by simp) (by simp)).back bk2) pq
  ·-- spreading
   refine ⟨_,rfl,j,J.dx,_,rfl,A1.ob,zGh _ _ _ (by decide +kernel) (by decide +kernel) (by decide +kernel),j,J,r,rfl,A1,G.keys hz A0.zfew,fun x J' H2 fx A2 _ en hz' k2=>?_⟩;have G':=G.rev two ek;have hk:=rev_keys hz' hz ek
   have two':∀q∈ks,∃a b,q.1=[a,b]:=fun q hq=>by
    have h1:q.1∈ks.map (·.1):=qAI.mpr ⟨q,hq,rfl⟩;rw [ek] at h1;obtain ⟨q',hq',e⟩:=qAI.mp h1;obtain ⟨a,b,e'⟩:=two q' hq';exact ⟨b,a,by rw [<-e,e'];rfl⟩
   rw [<-en] at G'
   have g':gathB J'=true:=by
    rcases one with z| z
    ·exact absurd (gath_J A0 G hz two z) g
    ·exact gath_J A2 G' hk two' z
   have T2:=T1.kp k2;have U2:TabU H2 Pu:=zBs U1 k2 (by simp) (fun _ _ _ _ _=>by simp);refine ⟨_,rfl,x,J',rfl,A2,fun H3 k3=>?_⟩;have A3:=A2.kp0 k3;have T3:=T2.kp k3;have U3:TabU H3 Pu:=zBs U2 k3 (by simp) (fun _ _ _ _ _=>by simp);refine ⟨_,rfl,?_⟩;rw [g'];refine iteT ?_;refine ⟨_,rfl,_,rfl,x,b,J',ks,_,rfl,A3,G',hk,zG6 A3 G' hk two',b1,T3,U3,nPU,fun pl as ws F f H4 k4 T4 U4 hf pmF pm pw R4=>?_⟩;have k13:=k2.trans k3;have bk4:∀a,Fre H3 a->Fre H a:=fun a h=>(k1.trans k13).fre h (by simp);have A4:=A3.kp2 k4 T3.tbl (zCj U3);refine ⟨_,rfl,pl,_,rfl,R4.top,fun rv hrv=>⟨rv,pl,_,rfl,upd_same,(upd_ne (zAk R4.top hrv)).trans R4.top,fun bl hbl=>?_⟩⟩;obtain ⟨k5,h5⟩:=kp_rev hrv hbl (o':=.lst (as.map V.ref).reverse);have fbl:Fre H4 bl:=(Kp.new (M:=[]) Kp.refl hrv).fre hbl (by simp);generalize upd (del (upd H4 rv _) rv) bl (.lst (as.map V.ref).reverse)=H5 at k5 h5 ⊢;have T5:=T4.kp k5;have U5:TabU H5 Pu:=zBs U4 k5 (by simp) (fun _ _ _ _ _=>by simp);have fbl3:Fre H3 bl:=fre_two T4.tbl (zCj U4) k4 fbl;have Rv:=R4.rev k5 h5 fbl fbl3;have R5:=R4.kp k5 (by simp) (by simp);have fewJ:J'.ns.length<=20:=A2.few;refine ⟨_,rfl,x,J',ks,_,rfl,A4.kp0 k5,G',hk,T5,fun d F2 f2 H6 k6 T6 fd hd hf2 pm2=>?_⟩;have U6:TabU H6 Pu:=zBs U5 k6 (nm1 nPU.symm) fun a o h _ no=>nm1 (zA7 T5.tbl h no);have R6:=R5.kp k6 (nm1 (zA7 T5.tbl R5.top fun _ z=>nomatch z)) fun a ha=>nm1 (by obtain ⟨q,_,e⟩:=R5.mem ha;exact zA7 T5.tbl e fun _ z=>nomatch z);have Rv6:=Rv.kp k6 (nm1 (zA7 T5.tbl Rv.top fun _ z=>nomatch z)) fun a ha=>nm1 (by obtain ⟨q,_,e⟩:=Rv.mem ha;exact zA7 T5.tbl e fun _ z=>nomatch z);refine ⟨_,rfl,_,rfl,_,_,rfl,.inl (SqL.of R6.top),?_⟩;rw [R6.len'];refine ⟨d,b,_,F2,f2,rfl,hd,by rw [pm2.length_eq];exact fewJ,rows20 pm fewJ,b1,b2,fun h H7 told k7=>?_⟩;have pq:=plan A2 G' hk two' g' hf pmF pm pw;refine ⟨(by walk_at "ln"),fun pa hpa=>?_⟩;have fpa:Fre H7 pa:=hpa;have k8:Kp [] H7 (upd H7 pa (.tup [.str "ahead",.int h])):=Kp.new Kp.refl fpa;have e8:upd H7 pa (.tup [.str "ahead",.int h]) pa=some (.tup [.str "ahead",.int h]):=upd_same;generalize upd H7 pa (.tup [.str "ahead",.int h])=H8 at k8 e8 ⊢;refine ⟨(by walk_at "ln"),fun t ht=>?_⟩;have ft:Fre H8 t:=ht;have k9:Kp [] H8 (upd H8 t (.tup [.ref bl,.ref pa])):=Kp.new Kp.refl ft;have e9:upd H8 t (.tup [.ref bl,.ref pa]) t=some (.tup [.ref bl,.ref pa]):=upd_same;generalize upd H8 t (.tup [.ref bl,.ref pa])=H9 at k9 e9 ⊢;have k69:=(k7.trans k8).trans k9;have sub:=(zG6 A0 G hz two).sub;have sub':=(zG6 A2 G' hk two').sub;have rq:=pq.rev (J:=J) en (fun n hn m hm=>((zDo A0 G hz hn).trans (zFo two ek).symm).trans (zDo A2 G' hk (by rw [en];exact hm)).symm) sub sub';exact k t bl pa as.reverse _ H9 ((((k1.trans k13).weak (by simp)).trans k4).trans ((k5.weak (by simp)).trans ((k6.weak (by simp)).trans (k69.weak (by simp))))) (T6.kp k69) (zBs U6 k69 (by simp) (fun _ _ _ _ _=>by simp)) e9 ((Rv6.kp k69 (by simp) (by simp)).back bk4) rq
end
def lamQ3:Str:=Str.ofString "_law_tallest" ++ ".<locals>." ++ "<lambda>"
def lamPos3:Pos:=⟨310,49,310,91⟩
abbrev TabV (H:Hp) (Pv:Addr):Prop:=Tab0 H Pv lamQ3 lamPos3
theorem big_lt {n:Int} (h:n<1000):n<10^100:=Int.lt_trans h (by decide +kernel)
theorem mx0_cons {l:List Int} {M:Int} (hM:M∈(0:Int)::l) (bM:∀a∈(0:Int)::l,a<=M):mx0 l=M:=by
 have h1:=bM 0 qAR;have h2:=mx0_nn l;rcases qAO.mp hM with z| z
 ·rcases zHd l with y| y
  ·lia
  ·have:=bM _ (qAP _ y);lia
 ·have:=zIh z;rcases zHd l with y| y
  ·lia
  ·have:=bM _ (qAP _ y);lia
section
def zH8:Sp:=fun vs H Q _=>∃p:Addr,vs=[.ref p]/\zB4 H p/\∀(b:Int) (H':Hp),1<=b->2*b<10^100->zB4 H' p->Kp [p] H H'->Q (.int b) H'
abbrev zG1:Stmt:=top 53
theorem sc_benches:FnScope ["_law_purse_here"] ["_law_purse_here"] (zAd zG1):=fnS
theorem ok_benches {f:Addr} (F:Fun K "_law_benches" "_law_benches" zG1 f fd) (C_take:Cal P w K mg base "_law_take" 1 ["_law_purse_here", "_law_many"] zH6):FnOk P w K mg base CX0 2 f fd ["_law_purse_here"] zH8:=by
 refine F.ok sc_benches (fun vs H Q E h=>?_) (fun cdv A outer s H vs Q E hr h=>?_)
 ·obtain ⟨p,rfl,_⟩:=h;rfl
 ·obtain ⟨p,rfl,hP,k⟩:=h
  refine ⟨_,(zAc (zBx (zAs zI8 (zAf C_take hr rfl (zAa (pv 0) (zAa zAg zAb))) zAg (zAu _))
    (zAe (zAo (zAt zBz zAg (zAf C_take hr rfl (zAa (pv 0) (zAa (zAt op_pow zAg zAg) zAb))))))
    zAq)
   (zAe (zAo (zAt zBz zAg (zAf C_take hr rfl (zAa (pv 0) (zAa zAg zAb))))))),?_⟩
  refine ⟨_,rfl,p,8,rfl,hP,by decide,by decide +kernel,fun d H1 x0 x1 P1 K1=>?_⟩;refine ⟨rfl,_,rfl,ite2 (fun c=>?_) (fun c=>?_)⟩
  ·refine ⟨_,rfl,_,_,rfl,rfl,⟨by decide,by decide,by decide⟩,p,_,rfl,P1,by decide +kernel,by decide +kernel,fun d2 H2 y0 y1 P2 K2=>?_⟩;exact ⟨_,_,rfl,rfl,k _ H2 (by lia) (Int.lt_of_le_of_lt (show 2*(1+d2)<=2*(10:Int)^59+2 from by have:d2<(10:Int)^59:=y1;lia) (by decide +kernel)) P2 (K1.trans K2)⟩
  ·refine ⟨_,rfl,p,4,rfl,P1,by decide,by decide +kernel,fun d2 H2 y0 y1 P2 K2=>?_⟩;exact ⟨_,_,rfl,rfl,k _ H2 (by lia) (big_lt (by lia)) P2 (K1.trans K2)⟩
def spAbout:Sp:=fun vs H Q _=>∃(m:Addr) (qs:List (List Str×Addr)),vs=[.ref m]/\Ords H m qs/\qs.length<=306/\∀B ks H',Ords H' B ks->ks.map (·.1)=(qs.map fun q=>q.1.reverse)->Kp [] H H'->Q (.ref B) H'
abbrev zI1:Stmt:=top 55
theorem sc_about:FnScope ["_law_orders"] ["_law_orders"] (zAd zI1):=fnS
theorem ok_about {f:Addr} (F:Fun K "_law_about" "_law_about" zI1 f fd):FnOk P w K mg base CX0 1 f fd ["_law_orders"] spAbout:=by
 refine F.ok sc_about (fun vs H Q E h=>?_) (fun cdv A outer s H vs Q E hr h=>?_)
 ·obtain ⟨m,qs,rfl,_⟩:=h;rfl
 ·obtain ⟨m,qs,rfl,hm,hq,k⟩:=h;refine ⟨_,(zAe (zAo (zA5 rfl (zBc (sc:=zAd zI1) rfl (by decide +kernel)) (Draws.own (x:= "_law_one") (Draws.own (x:= "_law_other") Draws.nil)) (zAl (pv 0)) (fun _ _ _ _=>(zG4 (K:=K) (n:=2) rfl (zAw (pgB (i:=0)) (zAw (pgB (i:=1)) zDi)))) (fun _ _ _ _=>zCe) (fun _ _ _ _=>(zC2 (zAa (pv 1) (zAa (pv 0) zAb))))))),?_⟩
  refine ⟨_,rfl,_,rfl,⟨_,SqL.of hm.top⟩,fun B hB=>zBd (qs.map fun q=>V.ref q.2) (fun i ys τ H3=>∃ks:List (List Str×Addr),(∃o0 o1,τ=[o0,o1])/\ys=(ks.map fun q=>V.ref q.2)/\ks.map (·.1)=(qs.take i).map (fun q=>q.1.reverse)/\(∀q∈ks,H3 q.2=some (.tup (q.1.map V.str)))/\Kp [] H H3/\H3 B=some (.lst ys))
   ⟨[],⟨_,_,rfl⟩,rfl,rfl,(fun q h=>nomatch h),Kp.new Kp.refl hB,upd_same⟩ (fun i ys τ H3 ⟨_,_,_,_,_,k3,_⟩=>SqL.of (k3 _ _ hm.top (by simp))) ?_ ?_⟩
  ·rintro i v ys τ H3 hv ⟨ks,⟨o0,o1,rfl⟩,rfl,ek,hk,k3,h3⟩;obtain ⟨q,eq,rfl⟩:=zIc hv;have mq:=qAN eq;obtain ⟨a,b,eab⟩:=hm.two q mq
   have hrow:H3 q.2=some (.tup [.str a,.str b]):=by
    have:=k3 q.2 _ (hm.row q mq) (by simp);rw [eab] at this;exact this
   refine ⟨_,_,rfl,.inl (.inl hrow),rfl,_,_,rfl,_,_,rfl,rfl,?_⟩;have hlen:ks.length=(qs.take i).length:=by have:=qAg List.length ek;simpa using this
   refine ⟨_,rfl,_,rfl,(by walk_at "ln"),fun t ht=>?_⟩;have ft:Fre H3 t:=ht;have nBt:B≠t:=ne_fre ft h3;refine ⟨(upd_ne nBt).trans h3,?_,ks++[([b,a],t)],⟨_,_,rfl⟩,?_,?_,fun q' hq'=>?_,?_,?_⟩
   ·rw [qAD,hlen,qAY,qAK];lia
   ·rw [qAS];rfl
   ·rw [qAS,ek,zAj eq,qAS,qAd,qAd,eab];rfl
   ·rcases qAW.mp hq' with z| z
    ·exact (upd_ne (zBl (hk q' z) h3 (fun y=>nomatch y))).trans ((upd_ne (ne_fre ft (hk q' z))).trans (hk q' z))
    ·rw [qAZ.mp z];exact (upd_ne nBt.symm).trans upd_same
   ·exact Kp.new (Kp.new k3 (k3.fre ft (by simp))) hB
   ·exact upd_same
  ·rintro ys τ H3 ⟨ks,_,rfl,ek,hk,k3,h3⟩;have eT:qs.take (qs.map fun q=>V.ref q.2).length=qs:=by rw [qAD,qAi]
   rw [eT] at ek
   have ktwo:∀q∈ks,∃a b,q.1=[a,b]:=fun q hq=>by
    have:q.1∈ks.map (·.1):=qAI.mpr ⟨q,hq,rfl⟩;rw [ek] at this;obtain ⟨q',hq',e⟩:=qAI.mp this;obtain ⟨a,b,eab⟩:=hm.two q' hq';exact ⟨b,a,by rw [<-e,eab];rfl⟩
   exact k B ks H3 ⟨h3,hk,ktwo⟩ ek k3
def spTallest (Pv:Addr):Sp:=fun vs H Q _=>∃(l d:Addr) (ns:List Str) (la:Str->Addr) (L:Str->List Str),vs=[.ref l,.ref d]/\Txs H l ns/\DR H d ns la L/\(∀n∈ns,la n≠d)/\ns.Nodup/\ns.length<=20/\Dec ns L/\(∀n∈ns,(L n).Nodup)/\TabV H Pv /\
 ∀(G:List Str) (g:Str->Int) (H':Hp),Kp [Pv] H H'->TabV H' Pv->HF L G g->G.Perm ns->Q (.int (mx0 (G.map g))) H'
abbrev zBm:Stmt:=top 57
theorem zFq:FnScope ["_law_names_here", "_law_later", "_law_found", "_law_name"] ["_law_names_here", "_law_later"] (zAd zBm):=fnS
theorem ok_tallest {f c0:Addr} {oc:Value} {od an:Option Addr} {osl:Array (Option Value)} {kV doc pm ct:Value} (lk:K.lookup f=some ⟨oc,od,.func (PySem.W.fnOf "_law_tallest" "_law_tallest" (zBa zBm) (zA2 zBm) (zAd zBm) .none kV doc pm an (.ref c0) ct),osl⟩) (hcd:PySem.W.codeIn K (.ref c0) "_law_tallest" = true) (T:Txt K mg) (B:zGi mg base) (CH:PySem.W.CodeHd base c0 Pv):FnOk P w K mg base CX0 4 f (PySem.W.fnOf "_law_tallest" "_law_tallest" (zBa zBm) (zA2 zBm) (zAd zBm) .none kV doc pm an (.ref c0) ct) ["_law_names_here", "_law_later"] (spTallest Pv):=by
 refine okC lk hcd zFq (fun vs H Q E h=>?_) (fun A outer s H vs Q E hr h=>?_)
 ·obtain ⟨l,d,ns,la,L,rfl,_⟩:=h;rfl
 ·obtain ⟨l,d,ns,la,L,rfl,hl,D0,ne0,nd,len,dec,lnd,T0,k⟩:=h;have hu:=zDk hr
  refine ⟨_,(zAc (psS (i:=2) zFq.nd zBy)
   (zAc (zBb qAk rfl (zAl (zIe (x:= "_law_one") (y:= "_law_later") (iy:=1) (P:=Pv) (c0:=c0) (qual:=lamQ3) (k:=0) hr rfl (by rfl) T.z_sorted zCt (zAa (pv 0) zAb) (by exact ⟨rfl,rfl,rfl,rfl,rfl,by decide +kernel,by decide +kernel⟩) (by decide) rfl rfl rfl rfl rfl rfl CH B rfl (fun _ _ _ _=>rfl) (fun f' cd' A' s' H' hA=>zAh call_lenD (by rfl) T.z_len zA4 (zAa (zA0 (zDk hA) (pv 1) (pv 0) (fun _ _=>rfl)) zAb)))) (pgN (i:=3) zFq.nd)
    (zAe (ps_frzN (zCp hu (pv 2) (pv 3) (zAt zBz zAg (zAh (call_max1 rfl) (by rfl) T.z_max zIn (zAa (zAt op_cat (zCf (zAa zAg zAb)) (zA5 rfl (zBc (sc:=zAd zBm) rfl (by decide +kernel)) (Draws.own (x:= "_law_other") (dtk (i:=2) rfl Draws.nil)) (pi_keys (zA0 hu (pv 1) (pv 3) (fun _ _=>rfl))) (fun _ _ _ _=>(pgB (i:=0))) (fun _ _ _ _=>zCe) (fun _ _ _ _=>(zA0 hu (pv 1) (pv 0) (fun _ _=>rfl))))) zAb))) rfl))))
   (zAe (zAo (zAh (call_max1 rfl) (by rfl) T.z_max zIn (zAa (zAt op_cat (zCf (zAa zAg zAb)) (zAm (zJq rfl) (by rfl) T.z_list zB2 (zAa (pe_bm0 PySem.F.plainAttrs_dict qDf PySem.F.type_dict_values mt_values (pv 2)) zAb))) zAb)))))),?_⟩
  refine fun e he=>?_;have fe:Fre H e:=he;have k1:Kp [] H (upd H e (.dK [])):=Kp.new Kp.refl fe;have e1:upd H e (.dK []) e=some (.dK []):=upd_same;generalize upd H e (.dK [])=H1 at k1 e1;have T1:TabV H1 Pv:=zBs T0 k1 (by simp) (fun _ _ _ _ _=>by simp);have D1:=D0.kp0 k1;refine ⟨_,rfl,l,ns,fun x=>(L x).length,.ref d,rfl,rfl,k1 _ _ hl (by simp),by lia,T1,fun H2 k2 T2=>⟨fun x hx H3 k3=>?_,fun b zs H3 k3 hb pz sz=>?_⟩⟩
  ·have off:∀a o,H1 a=some o->(∀ps,o≠.tbl ps)->a∉[Pv]:=fun a o h no=>nm1 (zA7 (zCj T1) h no);have d3:=k3 _ _ (k2 _ _ D1.top (off _ _ D1.top fun _ z=>nomatch z)) (by simp);have r3:H3 (la x)=some (.dK (dT1 (L x) fun _=>.bl true)):=k3 _ _ (k2 _ _ (D1.row x hx) (off _ _ (D1.row x hx) fun _ z=>nomatch z)) (by simp);refine ⟨_,rfl,_,rfl,d,_,rfl,by have:=DGet.k (k:=Sum.inr x) d3;rw [zBe,qAC hx] at this;exact this,_,_,rfl,r3,?_,Kp.refl⟩;rw [zC8]
  ·have fb:Fre H3 b:=hb;have kb:Kp [] H3 (upd H3 b (.lst (zs.map V.str))):=Kp.new Kp.refl fb;have hz:Txs (upd H3 b (.lst (zs.map V.str))) b zs:=upd_same;have off:∀a o,H1 a=some o->(∀ps,o≠.tbl ps)->a∉[Pv]:=fun a o h no=>nm1 (zA7 (zCj T1) h no);have T4:TabV (upd H3 b (.lst (zs.map V.str))) Pv:=zBs (.inr T2) (k3.trans kb) (by simp) (fun _ _ _ _ _=>by simp);have k14:Kp [Pv] H1 (upd H3 b (.lst (zs.map V.str))):=k2.trans ((k3.trans kb).weak (by simp));generalize upd H3 b (.lst (zs.map V.str))=H4 at hz T4 k14 ⊢;have K4:Kp [Pv] H H4:=(k1.weak (by simp)).trans k14;have e4:=k14 _ _ e1 (off _ _ e1 fun _ z=>nomatch z);have D4:DR H4 d ns la L:=⟨k14 _ _ D1.top (off _ _ D1.top fun _ z=>nomatch z),fun n hn=>k14 _ _ (D1.row n hn) (off _ _ (D1.row n hn) fun _ z=>nomatch z)⟩;have zn:zs.Nodup:=pz.nodup_iff.mpr nd;have zl:zs.length<=20:=by rw [pz.length_eq];exact len
   have neb:e≠b:=fun z=>by
    have h:H4 b=_:=hz;rw [<-z,e4] at h;cases h
   have ned:e≠d:=zAk D0.top fe |>.symm
   refine ⟨_,rfl,⟨_,SqL.of hz⟩,zA9 (xs:=zs.map V.str) (fun i σ H5=>∃(o3:Option V) (g:Str->Int),σ=[some (.ref l),some (.ref d),some (.ref e),o3]/\Kp [e] H4 H5/\H5 e=some (.dK (kvI (zs.take i) g))/\HF L (zs.take i) g) ⟨none,fun _=>0,rfl,Kp.refl,e4,HF.nil _ _⟩ (fun i σ H5 _ ⟨_,_,_,k5,_⟩=>SqL.of (k5 _ _ hz (nm1 neb.symm))) ?_ ?_⟩
   ·rintro i v σ H5 hv ⟨o3,g,rfl,k5,h5,hf⟩;obtain ⟨n,en,rfl⟩:=zA3 hv;have mz:n∈zs:=qAN en;have mn:n∈ns:=pz.mem_iff.mp mz;have nea:e≠la n:=(zAk (D0.row n mn) fe).symm;have hrow:H5 (la n)=some (.dK (dT1 (L n) fun _=>.bl true)):=k5 _ _ (D4.row n mn) (nm1 nea.symm);have d5:=k5 _ _ D4.top (nm1 ned.symm)
    have bs:∀y∈L n,y∈zs.take i:=fun y hy=>by
     obtain ⟨h1,h2⟩:=dec n mn y hy;exact zIb sz en (pz.mem_iff.mpr h1) (by lia)
    have nx:n∉zs.take i:=zC3 zn en;have ll:(L n).length<=20:=qAT (zBt (lnd n mn) fun y hy=>(dec n mn y hy).1) len;refine ⟨la n,dT1 (L n) fun _=>.bl true,hrow,fun o=>?_⟩;have kf:Kp [la n] H5 (upd H5 (la n) (.frz o (.dK (dT1 (L n) fun _=>.bl true)))):=Kp.put Kp.refl (by simp);have ff:upd H5 (la n) (.frz o (.dK (dT1 (L n) fun _=>.bl true))) (la n)=some (.frz o (.dK (dT1 (L n) fun _=>.bl true))):=upd_same;generalize upd H5 (la n) (.frz o (.dK (dT1 (L n) fun _=>.bl true)))=H6 at kf ff;have h6:=kf _ _ h5 (nm1 nea);have d6:=kf _ _ d5 (nm1 (ne0 n mn).symm);refine ⟨(by walk_at "ln"),fun Z hZ=>?_⟩;have fZ:Fre H6 Z:=hZ;have k7:Kp [] H6 (upd H6 Z (.lst [.int 0])):=Kp.new Kp.refl fZ;have e7:upd H6 Z (.lst [.int 0]) Z=some (.lst [.int 0]):=upd_same;generalize upd H6 Z (.lst [.int 0])=H7 at k7 e7;have ff7:=k7 _ _ ff (by simp);have h7:=k7 _ _ h6 (by simp)
    have dg7:DGet H7 d (.str n) (some (.ref (la n))):=by
     have:=DGet.k (k:=Sum.inr n) (k7 _ _ d6 (by simp));rw [zBe,qAC mn] at this;exact this
    refine ⟨_,rfl,_,rfl,d,_,rfl,dg7,la n,o,_,rfl,ff7,fun Y hY=>zHq (fun m ys τ H8=>(∃o0,τ=[o0,some (.ref e)])/\ys=(((L n).take m).map fun y=>V.int (g y))/\H8=upd H7 Y (.lst ys)) ⟨⟨_,rfl⟩,rfl,rfl⟩ (fun m ys τ H8 ⟨_,_,z⟩=>by subst z;exact (Kp.new (M:=[]) Kp.refl hY) _ _ ff7 (by simp)) ?_ ?_⟩
    ·rintro m kk v ys τ H8 hv ⟨⟨o0,rfl⟩,rfl,rfl⟩;obtain ⟨y,ey,rfl⟩:=key_at hv;have yb:=qAN ey;have e8:=(Kp.new (M:=[]) (l:=Y) (o:=.lst (((L n).take m).map fun y=>V.int (g y))) Kp.refl hY) _ _ h7 (by simp);unfold zJl tTrue;refine iteT ⟨_,rfl,_,rfl,e,_,rfl,by have:=DGet.k (k:=Sum.inr y) e8;rw [zJh (bs y yb)] at this;exact this,upd_same,by rw [qAD,qAY,qAK];lia,⟨_,rfl⟩,?_,zBo⟩;rw [zAj ey,qAS];rfl
    ·rintro ys τ H8 ⟨_,rfl,rfl⟩;have eT:(L n).take (dT1 (L n) fun _=>V.bl true).length=L n:=by rw [zC8,qAi]
     rw [eT];have fY:Fre H7 Y:=hY;have k8:Kp [] H7 (upd H7 Y (.lst ((L n).map fun y=>V.int (g y)))):=Kp.new Kp.refl fY;have e8:upd H7 Y (.lst ((L n).map fun y=>V.int (g y))) Y=some (.lst (((L n).map g).map V.int)):=by rw [upd_same,qAt];rfl
     generalize upd H7 Y (.lst ((L n).map fun y=>V.int (g y)))=H8 at k8 e8;refine ⟨Z,Y,_,_,rfl,rfl,k8 _ _ e7 (by simp),e8,by simp only [qAD,qAa,qBS,qAK];lia,fun R hR=>?_⟩;have fR:Fre H8 R:=hR;have k9:Kp [] H8 (upd H8 R (.lst ([.int 0]++((L n).map g).map V.int))):=Kp.new Kp.refl fR;have e9:upd H8 R (.lst ([.int 0]++((L n).map g).map V.int)) R=some (.lst ((0::(L n).map g).map V.int)):=upd_same;generalize upd H8 R (.lst ([.int 0]++((L n).map g).map V.int))=H9 at k9 e9;have k69:Kp [] H6 H9:=(k7.trans k8).trans k9;have h9:=k69 _ _ h6 (by simp);have ff9:=k69 _ _ ff (by simp);refine ⟨R,0::(L n).map g,rfl,SqL.of e9,by simp,fun M hM bM=>?_⟩;have eM:mx0 ((L n).map g)=M:=mx0_cons hM bM
     have put:DPut H9 e (.str n) (.int (1+M)) (upd H9 e (.dK (kvI (zs.take (i+1)) (addF g n (1+mx0 ((L n).map g)))))):=by
      have:=DPut.k (k:=Sum.inr n) (v:=.int (1+M)) h9 (by rw [kvI_len,qAY,qAK];lia);rw [<-eM,kvI_put nx,<-zAj en] at this;rw [<-eM];exact this
     refine ⟨_,_,rfl,rfl,_,rfl,_,rfl,_,_,rfl,put,?_⟩;refine ⟨by rw [upd_ne nea.symm];exact ff9,_,_,rfl,fun a o' h hn=>?_,by rw [upd_ne nea];exact upd_same,?_⟩
     ·have na:a≠e:=fun z=>hn (by simp [z]);have h':=k5 a o' h hn
      by_cases z:a=la n
      ·subst z;rw [hrow] at h';cases h';exact upd_same
      ·rw [upd_ne z,upd_ne na];exact k69 _ _ (kf _ _ h' (nm1 z)) (by simp)
     ·rw [zAj en];exact hf.more nx bs
   ·rintro σ H5 ⟨o3,g,rfl,k5,h5,hf⟩;have eT:zs.take (zs.map V.str).length=zs:=by rw [qAD,qAi]
    rw [eT] at h5 hf;have nd':∀a o,H4 a=some o->(∀kv,o≠.dK kv)->a∉[e]:=fun a o h no=>nm1 fun z=>by rw [z,e4] at h;exact no _ (qAc h).symm
    have T5:TabV H5 Pv:=by
     rcases T4 with t| ⟨c,t,tc⟩
     ·exact .inl (k5 _ _ t (nd' _ _ t fun _ z=>nomatch z))
     ·exact .inr ⟨c,k5 _ _ t (nd' _ _ t fun _ z=>nomatch z),k5 _ _ tc (nd' _ _ tc fun _ z=>nomatch z)⟩
    refine ⟨(by walk_at "ln"),fun Z hZ=>?_⟩;have k6:Kp [] H5 (upd H5 Z (.lst [.int 0])):=Kp.new Kp.refl hZ;have e6:upd H5 Z (.lst [.int 0]) Z=some (.lst [.int 0]):=upd_same;generalize upd H5 Z (.lst [.int 0])=H6 at k6 e6;have d6:=k6 _ _ h5 (by simp);refine ⟨_,rfl,.inr (.inr (.inl ⟨rfl,.inl ⟨_,d6⟩⟩)),e,_,rfl,rfl,d6,fun v hv=>?_⟩;have k7:Kp [] H6 (upd H6 v (vvO v e)):=Kp.new Kp.refl hv;have e7:upd H6 v (vvO v e) v=some (vvO v e):=upd_same;generalize upd H6 v (vvO v e)=H7 at k7 e7;refine ⟨v,e,_,rfl,e7,k7 _ _ d6 (by simp),fun q hq=>?_⟩;have ev:(kvI zs g).map (·.2)=(zs.map g).map V.int:=by unfold kvI dT1;rw [qAt,qAt];rfl
    rw [ev];have k8:Kp [] H7 (upd H7 q (.lst ((zs.map g).map V.int))):=Kp.new Kp.refl hq;have e8:upd H7 q (.lst ((zs.map g).map V.int)) q=some (.lst ((zs.map g).map V.int)):=upd_same;generalize upd H7 q (.lst ((zs.map g).map V.int))=H8 at k8 e8;refine ⟨Z,q,_,_,rfl,rfl,(k7.trans k8) _ _ e6 (by simp),e8,by simp only [qAD,qAa,qBS,qAK];lia,fun R hR=>?_⟩;have k9:Kp [] H8 (upd H8 R (.lst ([.int 0]++(zs.map g).map V.int))):=Kp.new Kp.refl hR;have e9:upd H8 R (.lst ([.int 0]++(zs.map g).map V.int)) R=some (.lst ((0::zs.map g).map V.int)):=upd_same;generalize upd H8 R (.lst ([.int 0]++(zs.map g).map V.int))=H9 at k9 e9;refine ⟨R,0::zs.map g,rfl,SqL.of e9,by simp,fun M hM bM=>?_⟩;rw [<-mx0_cons hM bM];have k59:=((k6.trans k7).trans k8).trans k9;exact k zs g H9 ((kp_drop K4 fe k5).trans (k59.weak (by simp))) (zBs T5 k59 (by simp) (fun _ _ _ _ _=>by simp)) hf pz
def evr (ns:List Str) (L:Str->List Str) (l:List Str):List (List Str):=l.flatMap fun a=>(ns.filter fun b=>decide (b∈L a)).map fun b=>[a,b]
def spEvery:Sp:=fun vs H Q _=>∃(l d:Addr) (ns:List Str) (la:Str->Addr) (L:Str->List Str),vs=[.ref l,.ref d]/\Txs H l ns/\DR H d ns la L/\ns.length<=20/\(evr ns L ns).length<=306/\∀(B:Addr) (qs:List (List Str×Addr)) (H':Hp),Ords H' B qs->qs.map (·.1)=evr ns L ns->Kp [] H H'->Q (.ref B) H'
abbrev zI0:Stmt:=top 58
theorem zGo:FnScope ["_law_names_here", "_law_later", "_law_found", "_law_name"] ["_law_names_here", "_law_later"] (zAd zI0):=fnS
theorem ok_every {f:Addr} (F:Fun K "_law_every" "_law_every" zI0 f fd):FnOk P w K mg base CX0 1 f fd ["_law_names_here", "_law_later"] spEvery:=by
 refine F.ok zGo (fun vs H Q E h=>?_) (fun cdv A outer s H vs Q E hr h=>?_)
 ·obtain ⟨l,d,ns,la,L,rfl,_⟩:=h;rfl
 ·obtain ⟨l,d,ns,la,L,rfl,hl,D,len,all,k⟩:=h;have hu:=zDk hr
  refine ⟨_,(zAc (psS (i:=2) zGo.nd (zCf zAb))
   (zAc (zBb qAk rfl (zAl (pv 0)) (pgN (i:=3) zGo.nd)
    (zAe (psS (i:=2) zGo.nd (zAt op_cat (pv 2) (zA5 rfl (zBc (sc:=zAd zI0) rfl (by decide +kernel)) (Draws.own (x:= "_law_other") (dtk (i:=3) rfl (dtk (i:=1) rfl Draws.nil))) (zAl (pv 0)) (fun _ _ _ _=>(pgB (i:=0))) (fun _ _ _ _=>(zB6 (zF4 (zF5 hu (pv 0) (zA0 hu (pv 2) (pv 1) (fun _ _=>rfl)))))) (fun _ _ _ _=>(zC2 (zAa (pv 1) (zAa (pv 0) zAb)))))))))
   (zAe (zAo (pv 2))))),?_⟩
  refine ⟨(by walk_at "ln"),fun B0 hB0=>?_⟩;have e0:upd H B0 (.lst []) B0=some (.lst []):=upd_same;have k0:Kp [] H (upd H B0 (.lst [])):=Kp.new Kp.refl hB0;generalize upd H B0 (.lst [])=H0 at k0 e0;refine ⟨_,rfl,_,rfl,⟨_,SqL.of (k0 _ _ hl (by simp))⟩,zA9 (xs:=ns.map V.str) (fun i σ H2=>∃(B:Addr) (qs:List (List Str×Addr)) (o3:Option V),σ=[some (.ref l),some (.ref d),some (.ref B),o3]/\Kp [] H H2/\Ords H2 B qs/\qs.map (·.1)=evr ns L (ns.take i)) ⟨B0,[],none,rfl,k0,⟨e0,(fun q h=>nomatch h),(fun q h=>nomatch h)⟩,rfl⟩ (fun i σ H2 _ ⟨_,_,_,_,k2,_⟩=>SqL.of (k2 _ _ hl (by simp))) ?_ ?_⟩
  ·rintro i v σ H2 hv ⟨B,qs,o3,rfl,k2,hB,eq⟩;obtain ⟨a,ea,rfl⟩:=zA3 hv;have ma:=qAN ea;have hl2:=k2 _ _ hl (by simp);refine ⟨_,rfl,_,rfl,_,rfl,⟨_,SqL.of hl2⟩,fun Y hY=>zBi (ns.map V.str) (fun p ys τ H3=>∃ks:List (List Str×Addr),(∃o0,τ=[o0,some (.str a),some (.ref d)])/\ys=(ks.map fun q=>V.ref q.2)/\ks.map (·.1)=((ns.take p).filter fun b=>decide (b∈L a)).map (fun b=>[a,b])/\(∀q∈ks,H3 q.2=some (.tup (q.1.map V.str)))/\Kp [] H2 H3/\H3 Y=some (.lst ys)) ⟨[],⟨_,rfl⟩,rfl,rfl,(fun q h=>nomatch h),Kp.new Kp.refl hY,upd_same⟩ (fun p ys τ H3 ⟨_,_,_,_,_,k3,_⟩=>SqL.of (k3 _ _ hl2 (by simp))) ?_ ?_⟩
   ·rintro p v ys τ H3 hv ⟨ks,⟨o0,rfl⟩,rfl,eks,hks,k3,h3⟩;obtain ⟨b,eb,rfl⟩:=zA3 hv;have D3:=D.kp0 (k2.trans k3);obtain ⟨o,g1,g2⟩:=zGx (D3.row a ma) b
    have hlen:ks.length<=20:=by
     have h1:=qAg List.length eks;rw [qAD,qAD] at h1;rw [h1];exact qAT (qAx _ _) (by rw [qAY];lia)
    refine ⟨_,rfl,_,rfl,_,rfl,_,_,rfl,D3.get ma,_,o,rfl,g1,_,rfl,?_⟩;rw [g2];refine ite2 (fun c=>?_) (fun c=>?_)
    ·refine ⟨_,rfl,_,rfl,(by walk_at "ln"),fun t ht=>?_⟩;have ft:Fre H3 t:=ht;have nYt:Y≠t:=ne_fre ft h3;refine ⟨(upd_ne nYt).trans h3,by rw [qAD,qAK];lia,ks++[([a,b],t)],⟨_,rfl⟩,by rw [qAS];rfl,?_,fun q hq=>?_,Kp.new (Kp.new k3 (k3.fre ft (by simp))) hY,upd_same⟩
     ·rw [qAS,eks,zCa eb c,qAS];rfl
     ·rcases qAW.mp hq with z| z
      ·exact (upd_ne (zBl (hks q z) h3 (fun y=>nomatch y))).trans ((upd_ne (ne_fre ft (hks q z))).trans (hks q z))
      ·rw [qAZ.mp z];exact (upd_ne nYt.symm).trans upd_same
    ·exact ⟨ks,⟨_,rfl⟩,rfl,by rw [eks,zC7 eb c],hks,k3,h3⟩
   ·rintro ys τ H3 ⟨ks,_,rfl,eks,hks,k3,h3⟩;have eT:ns.take (ns.map V.str).length=ns:=by rw [qAD,qAi]
    rw [eT] at eks;have hB3:=hB.kp k3 (by simp) (by simp)
    have en:evr ns L (ns.take (i+1))=evr ns L (ns.take i)++(ns.filter fun b=>decide (b∈L a)).map fun b=>[a,b]:=by
     unfold evr;rw [zAj ea,List.flatMap_append];simp
    have l1:qs.length<=306:=by
     have h1:=qAg List.length eq;rw [qAD] at h1
     have h2:(evr ns L (ns.take i)).length<=(evr ns L ns).length:=by
      have:evr ns L ns=evr ns L (ns.take i)++evr ns L (ns.drop i):=by unfold evr;rw [<-List.flatMap_append,qBU]
      rw [this,qAo];lia
     lia
    have l2:ks.length<=20:=by
     have h1:=qAg List.length eks;rw [qAD,qAD] at h1;rw [h1];exact qAT (qAx _ _) len
    refine ⟨_,_,_,_,rfl,rfl,hB3.top,h3,by simp only [qAD,qAK];lia,fun R hR=>?_⟩;have k4:Kp [] H3 (upd H3 R (.lst ((qs.map fun q=>V.ref q.2)++ks.map fun q=>V.ref q.2))):=Kp.new Kp.refl hR;have e4:upd H3 R (.lst ((qs.map fun q=>V.ref q.2)++ks.map fun q=>V.ref q.2)) R=some (.lst ((qs++ks).map fun q=>V.ref q.2)):=by rw [upd_same,qAS]
    generalize upd H3 R (.lst ((qs.map fun q=>V.ref q.2)++ks.map fun q=>V.ref q.2))=H4 at k4 e4;refine ⟨R,qs++ks,_,rfl,(k2.trans k3).trans k4,⟨e4,fun q hq=>?_,fun q hq=>?_⟩,?_⟩
    ·rcases qAW.mp hq with z| z
     ·exact k4 _ _ (hB3.row q z) (by simp)
     ·exact k4 _ _ (hks q z) (by simp)
    ·rcases qAW.mp hq with z| z
     ·exact hB.two q z
     ·have:q.1∈ks.map (·.1):=qAI.mpr ⟨q,z,rfl⟩;rw [eks] at this;obtain ⟨b,_,e⟩:=qAI.mp this;exact ⟨a,b,e.symm⟩
    ·rw [qAS,eq,eks,en]
  ·rintro σ H2 ⟨B,qs,o3,rfl,k2,hB,eq⟩;rw [qAD,qAi] at eq;exact ⟨_,rfl,k B qs H2 hB eq k2⟩
end
theorem sum_zero:∀(m:List Str),(m.map fun _=>0).sum=0
 | []=>rfl
 | _::m=>by rw [qAd,qBY,sum_zero m]
theorem cnt2 (R:Str->Str->Bool):∀(l m:List Str),(l.map fun a=>(m.filter (R a)).length).sum=(m.map fun b=>(l.filter fun a=>R a b).length).sum
 | [],m=>(sum_zero m).symm
 | a::l,m=>by
  rw [qAd,qBY,cnt2 R l m];clear cnt2
  induction m with
  | nil=>rfl
  | cons b m ih =>
   rw [qAd,qBY,qAd,qBY,qA8,qA8,<-Nat.add_assoc]
   cases R a b<;>simp<;>lia
theorem sum_le {f:Str->Nat} {k:Nat}:∀{l:List Str},(∀x∈l,f x<=k)->(l.map f).sum<=l.length*k
 | [],_=>by simp
 | a::l,h=>by
  have h1:=h a qAR;have h2:=sum_le (l:=l) fun x hx=>h x (qAP _ hx);rw [qAd,qBY,qAa,Nat.succ_mul];lia
theorem sum_add (f g:Str->Nat):∀(l:List Str),(l.map f).sum+(l.map g).sum=(l.map fun x=>f x+g x).sum
 | []=>rfl
 | a::l=>by
  have:=sum_add f g l;rw [qAd,qBY,qAd,qBY,qAd,qBY,<-this];lia
theorem evr_len (ns:List Str) (L:Str->List Str):∀(l:List Str),(evr ns L l).length=(l.map fun a=>(ns.filter fun b=>decide (b∈L a)).length).sum
 | []=>rfl
 | a::l=>by
  have:=evr_len ns L l;unfold evr at this ⊢;rw [List.flatMap_cons,qAo,qAD,this,qAd,qBY]
theorem evr_few {ns:List Str} {L:Str->List Str} {μ:Str->Nat} (nd:ns.Nodup) (few:ns.length<=20) (h:∀a∈ns,∀b∈L a,μ a<μ b):(evr ns L ns).length<=306:=by
 rw [evr_len];have h1:=cnt2 (fun a b=>decide (b∈L a)) ns ns;have h2:=sum_add (fun a=>(ns.filter fun b=>decide (b∈L a)).length) (fun b=>(ns.filter fun a=>decide (b∈L a)).length) ns
 have h3:=sum_le (l:=ns) (k:=19) (f:=fun x=>(ns.filter fun b=>decide (b∈L x)).length+(ns.filter fun a=>decide (x∈L a)).length) fun x hx=>by
  have h4:=hu_or (L:=ns) (p:=fun b=>decide (b∈L x)) (q:=fun a=>decide (x∈L a)) fun y hy ⟨y1,y2⟩=>by
   have:=h x hx y (qAm y1);have:=h y hy x (qAm y2);lia
  have h5:=zF8 (A:=ns.filter fun y=>decide (y∈L x)||decide (x∈L y)) (B:=ns.erase x) (nd.sublist qBB) fun y hy=>by
   obtain ⟨y1,y2⟩:=qAQ.mp hy;refine (qDg fun z=>?_).mpr y1;rw [z,Bool.or_self] at y2;exact absurd (h x hx x (qAm y2)) (qAu _)
  rw [qDh hx] at h5;lia
 have h6:ns.length*19<=20*19:=Nat.mul_le_mul_right _ few;have h1:(ns.map fun a=>(ns.filter fun b=>decide (b∈L a)).length).sum=(ns.map fun b=>(ns.filter fun a=>decide (b∈L a)).length).sum:=h1;lia
section
variable {ns:List Str} {qs qt:List (List Str×Addr)} {L:Str->List Str} {r:Str->Nat}
theorem mem_evr {k:List Str}:k∈evr ns L ns↔∃a b,a∈ns/\b∈ns/\b∈L a/\k=[a,b]:=by
 unfold evr;rw [List.mem_flatMap];constructor
 ·rintro ⟨a,ha,h⟩;obtain ⟨b,hb,rfl⟩:=qAI.mp h;obtain ⟨b1,b2⟩:=qAQ.mp hb;exact ⟨a,b,ha,b1,qAm b2,rfl⟩
 ·rintro ⟨a,b,ha,hb,h,rfl⟩;exact ⟨a,ha,qAI.mpr ⟨b,qAQ.mpr ⟨hb,qAU h⟩,rfl⟩⟩
theorem evr_way (G:Good ns qs r) (two:∀q∈qs,∃a b,q.1=[a,b]) (hL:∀n∈ns,(L n).Nodup/\∀x,x∈L n↔Way qs n x) (e:qt.map (·.1)=evr ns L ns) (a b:Str):Way qt a b↔Way qs a b:=by
 have one:∀a b,TA qt a b↔Way qs a b:=fun a b=>by
  constructor
  ·rintro ⟨q,hq,e1,e2⟩;have:q.1∈qt.map (·.1):=qAI.mpr ⟨q,hq,rfl⟩;rw [e] at this;obtain ⟨x,y,hx,hy,h,ek⟩:=mem_evr.mp this;obtain ⟨f1,f2⟩:=zBq ek;rw [<-e1,<-e2,f1,f2];exact ((hL x hx).2 y).mp h
  ·intro w;obtain ⟨ha,hb⟩:=Way.to two G.qin w
   have:[a,b]∈qt.map (·.1):=by
    rw [e];exact mem_evr.mpr ⟨a,b,ha,hb,((hL a ha).2 b).mpr w,rfl⟩
   obtain ⟨q,hq,ek⟩:=qAI.mp this;exact ⟨q,hq,(zBq ek).1,(zBq ek).2⟩
 constructor
 ·intro w
  induction w with
  | one h=>exact (one _ _).mp h
  | more _ h ih=>exact ih.trans ((one _ _).mp h)
 ·exact fun w=>.one ((one _ _).mpr w)
theorem evr_good (G:Good ns qs r) (hL:∀n∈ns,(L n).Nodup/\∀x,x∈L n↔Way qs n x) (rk:∀a b,Way qs a b->r a<r b) (e:qt.map (·.1)=evr ns L ns):Good ns qt r:=by
 have at':∀q∈qt,∃a b,a∈ns/\b∈ns/\b∈L a/\q.1=[a,b]:=fun q hq=>mem_evr.mp (by rw [<-e];exact qAI.mpr ⟨q,hq,rfl⟩);refine ⟨G.nm,G.nd,G.few,?_,fun q hq x hx=>?_,fun q hq=>?_⟩
 ·have h1:=qAg List.length e;rw [qAD] at h1;rw [h1];exact evr_few G.nd G.few fun a ha b hb=>rk a b (((hL a ha).2 b).mp hb)
 ·obtain ⟨a,b,ha,hb,_,ek⟩:=at' q hq;rw [ek] at hx;have:x=a\/x=b:=by simpa using hx
  rcases this with z| z
  ·rw [z];exact ha
  ·rw [z];exact hb
 ·obtain ⟨a,b,ha,hb,h,ek⟩:=at' q hq;rw [(zBq ek).1,(zBq ek).2];exact rk a b (((hL a ha).2 b).mp h)
end
structure Tb3 (H:Hp) (Pt Pu Pv:Addr):Prop where
 ta:TabA H Pt
 tu:TabU H Pu
 tv:TabV H Pv
theorem Tb3.tbl (T:Tb3 H Pt Pu Pv):∀a∈[Pt,Pu,Pv],∃xs,H a=some (.tbl xs):=fun a h=>by
 have:a=Pt\/a=Pu\/a=Pv:=by simpa using h
 rcases this with rfl| rfl| rfl
 ·exact T.ta.tbl
 ·exact zCj T.tu
 ·exact zCj T.tv
theorem zDp (t:∀a∈M,∃xs,H a=some (.tbl xs)) {a:Addr} {o:HO} (h:H a=some o) (no:∀ps,o≠.tbl ps):a∉M:=fun z=>zA7 (t a z) h no rfl
theorem JobsAt.kpM {C:Addr} {j:Addr} {J:JR} (A:JobsAt C H j J) (k:Kp M H H') (t:∀a∈M,∃xs,H a=some (.tbl xs)):JobsAt C H' j J:=by
 refine A.kp k fun a o ha hm=>?_;have t':=t a hm;exact ⟨(zA7 t' A.ob fun _ z=>nomatch z).symm,(zA7 t' A.row fun _ z=>nomatch z).symm,(zA7 t' A.prs.top fun _ z=>nomatch z).symm,(zA7 t' A.abv fun _ z=>nomatch z).symm,fun q hq=>(zA7 t' (A.prs.row q hq) fun _ z=>nomatch z).symm,fun n hn=>(zA7 t' (A.sets n hn) fun _ z=>nomatch z).symm⟩
theorem DR.kpM {d:Addr} {ns:List Str} {la:Str->Addr} {L:Str->List Str} (D:DR H d ns la L) (k:Kp M H H') (t:∀a∈M,∃xs,H a=some (.tbl xs)):DR H' d ns la L :=
 ⟨k d _ D.top (zDp t D.top fun _ z=>nomatch z),fun n hn=>k _ _ (D.row n hn) (zDp t (D.row n hn) fun _ z=>nomatch z)⟩
theorem Ords.kpM {m:Addr} {qs:List (List Str×Addr)} (D:Ords H m qs) (k:Kp M H H') (t:∀a∈M,∃xs,H a=some (.tbl xs)):Ords H' m qs :=
 D.kp k (zDp t D.top fun _ z=>nomatch z) fun q hq=>zDp t (D.row q hq) fun _ z=>nomatch z
theorem seq_kpM {K:PySem.W.Frag} {a:Addr} {xs:List V} (k:Kp M H H') (t:∀a∈M,∃xs,H a=some (.tbl xs)) (h:SqL K H a xs):SqL K H' a xs:=by
 rcases h with (h| ⟨o,h⟩)| h
 ·exact .inl (.inl (k _ _ h (zDp t h fun _ z=>nomatch z)))
 ·exact .inl (.inr ⟨o,k _ _ h (zDp t h fun _ z=>nomatch z)⟩)
 ·exact .inr h
theorem tab_kpL {Q:Addr} {q:Str} {ps:Pos} (h:Tab0 H Q q ps) (k:Kp M H H') (n:∀a∈M,∃o,H a=some o/\((∃xs,o= .lst xs)\/∃kvs,o= .dK kvs)):Tab0 H' Q q ps:=by
 have off:∀{a o},H a=some o->(∀xs,o≠.lst xs)->(∀kvs,o≠.dK kvs)->a∉M:=fun {a o} h n1 n2 z=>by
  obtain ⟨o',e,c⟩:=n a z;rw [h] at e;cases e;rcases c with ⟨xs,e⟩| ⟨xs,e⟩
  ·exact n1 xs e
  ·exact n2 xs e
 rcases h with e| ⟨c,e,ec⟩
 ·exact .inl (k _ _ e (off e (fun _ z=>nomatch z) fun _ z=>nomatch z))
 ·exact .inr ⟨c,k _ _ e (off e (fun _ z=>nomatch z) fun _ z=>nomatch z),k _ _ ec (off ec (fun _ z=>nomatch z) fun _ z=>nomatch z)⟩
theorem Tb3.kpL (T:Tb3 H Pt Pu Pv) (k:Kp M H H') (n:∀a∈M,∃o,H a=some o/\((∃xs,o= .lst xs)\/∃kvs,o= .dK kvs)):Tb3 H' Pt Pu Pv:=⟨tab_kpL T.ta k n,tab_kpL T.tu k n,tab_kpL T.tv k n⟩
theorem Tb3.kp0 (T:Tb3 H Pt Pu Pv) (k:Kp [] H H'):Tb3 H' Pt Pu Pv:=T.kpL k fun _ h=>nomatch h
theorem RowsR.kpM {rs:List (List Str)} (R:RowsR H l as rs) (k:Kp M H H') (t:∀a∈M,∃xs,H a=some (.tbl xs)):RowsR H' l as rs:=by
 refine ⟨k l _ R.top (zDp t R.top fun _ z=>nomatch z),R.len,fun i a r e1 e2=>?_⟩;have:=R.row i a r e1 e2;exact k a _ this (zDp t this fun _ z=>nomatch z)
theorem RowsR.rev {p:Addr} {rs:List (List Str)} (R:RowsR H l as rs) (k:Kp [] H H') (hp:H' p=some (.lst (as.map V.ref).reverse)):RowsR H' p as.reverse rs.reverse:=by
 refine ⟨by rw [hp,List.map_reverse],by rw [qBP,qBP,R.len],fun i a r e1 e2=>?_⟩;have hi:=(qAf.mp e1).1;rw [qBP] at hi;rw [qCC hi] at e1;rw [qCC (by rw [<-R.len];exact hi),<-R.len] at e2;exact k _ _ (R.row _ a r e1 e2) (by simp)
theorem RowsAt.rr {rs:List (List Str)} (R:RowsAt H0 H l as rs):RowsR H l as rs:=⟨R.top,R.len,R.row⟩
theorem RowsR.len' {rs:List (List Str)} (R:RowsR H l as rs):(((as.map V.ref).length:Nat):Int)=(rs.length:Int):=by rw [qAD,R.len]
theorem way_rank {ns:List Str} {qs:List (List Str×Addr)} {r:Str->Nat} (G:Good ns qs r) {a b:Str} (h:Way qs a b):r a<r b:=by
 have one:∀{a b:Str},TA qs a b->r a<r b:=fun {a b} ⟨q,hq,e1,e2⟩=>by rw [<-e1,<-e2];exact G.rk q hq
 induction h with
 | one h=>exact one h
 | more _ h ih=>exact qCZ ih (one h)
theorem dec_L {ns:List Str} {qs:List (List Str×Addr)} {r:Str->Nat} {L:Str->List Str} (G:Good ns qs r) (two:∀q∈qs,∃a b,q.1=[a,b]) (hL:∀n∈ns,(L n).Nodup/\∀x,x∈L n↔Way qs n x):Dec ns L:=by
 have mem:∀n∈ns,∀y∈L n,y∈ns:=fun n hn y hy=>(Way.to two G.qin (((hL n hn).2 y).mp hy)).2;have irr:∀n∈ns,n∉L n:=fun n hn h=>absurd (way_rank G (((hL n hn).2 n).mp h)) (qAu _);refine fun n hn y hy=>⟨mem n hn y hy,?_⟩;have hyn:=mem n hn y hy;have w:=((hL n hn).2 y).mp hy
 have:=zBt (A:=y::L y) (B:=L n) (qAw.mpr ⟨irr y hyn,(hL y hyn).1⟩) (fun z hz=>by
  rcases qAO.mp hz with e| e
  ·rw [e];exact hy
  ·exact ((hL n hn).2 z).mpr (w.trans (((hL y hyn).2 z).mp e)))
 rw [qAa] at this;lia
theorem zJf (n:Int):(!decide (V.int n=V.int n))=false:=by simp
theorem mx_top {G:List Str} {g:Str->Int} (pos:∀x∈G,1<=g x):(mx0 (G.map g)).toNat=0\/∃n∈G,(g n).toNat=(mx0 (G.map g)).toNat:=by
 rcases zHd (G.map g) with z| z
 ·exact .inl (by rw [z];rfl)
 ·obtain ⟨n,h1,h2⟩:=qAI.mp z;exact .inr ⟨n,h1,by rw [h2]⟩
section
def spLaw (K:PySem.W.Frag) (Pt Pu Pv:Addr):Sp:=fun vs H Q _=>∃(a:Addr) (ns:List Int),vs=[.ref a]/\SqL K H a (ns.map V.int)/\ns.length<=63/\TabA H Pt/\TabU H Pu/\TabV H Pv/\∀H',Q (.bl true) H'
abbrev s_law:Stmt:=top 59
theorem zEj:FnScope ["_law_script", "_law_k", "_law_purse_here", "_law_benches_here", "_law_names_here", "_law_orders", "_law_later", "_law_jobs_here", "_law_plan", "_law_other"] ["_law_script"] (zAd s_law):=fnS
theorem ok_law {f:Addr} (F:Fun K "law" "law" s_law f fd) (nPU:Pt≠Pu) (nPV:Pt≠Pv) (nUV:Pu≠Pv) (T:Txt K mg) (U:JC K mg C) (C_cell:Cal P w K mg base "_law_cell" 1 ["_law_script", "_law_k"] (spCell K)) (C_purse:Cal P w K mg base "_law_purse" 1 ["_law_cell_here", "_law_k"] spPurse) (C_benches:Cal P w K mg base "_law_benches" 2 ["_law_purse_here"] zH8)
  (C_wood:Cal P w K mg base "_law_wood" 3 ["_law_purse_here", "_law_most"] spWood) (C_behind:Cal P w K mg base "_law_behind" 1 ["_law_names_here", "_law_orders"] spLBehind) (C_about:Cal P w K mg base "_law_about" 1 ["_law_orders"] spAbout) (C_wood_plan:Cal P w K mg base "wood_plan" 10 ["jobs", "benches"] (spWP C Pt Pu))
  (C_is_right:Cal P w K mg base "_law_is_right" 1 ["_law_names_here", "_law_behind_here", "_law_benches_here", "_law_plan"] spIsRight) (C_tallest:Cal P w K mg base "_law_tallest" 4 ["_law_names_here", "_law_later"] (spTallest Pv)) (C_every:Cal P w K mg base "_law_every" 1 ["_law_names_here", "_law_later"] spEvery)
  (M_Jobs:Mkr P w K mg base C "Jobs" 4 ["self", "names", "orders"] (spInit C)) (M_turned:Mth P w K mg base C "turned" 6 ["self"] (zIt C)):FnOk P w K mg base CX0 11 f fd ["_law_script"] (spLaw K Pt Pu Pv):=by
 refine F.ok zEj (fun vs H Q E h=>?_) (fun cdv A outer s H vs Q E hr h=>?_)
 ·obtain ⟨a,ns,rfl,_⟩:=h;rfl
 ·obtain ⟨sc,is,rfl,hS,hlen,T0,U0,V0,k⟩:=h;have hr1:=hr.mono (j:=1) (by decide);have hr2:=hr.mono (j:=2) (by decide);have hr3:=hr.mono (j:=3) (by decide);have hr4:=hr.mono (j:=4) (by decide);have hr5:=hr.mono (j:=5) (by decide);have hr6:=hr.mono (j:=6) (by decide)
  refine ⟨_,(zAc (zBb qAk rfl (zCq rfl T.z_range (zAa (zAh (zHr rfl) (by rfl) T.z_max zIn (zAa zAg (zAa (zAh (call_min2 rfl) (by rfl) T.z_min bo_min (zAa (zAh zAi (by rfl) T.z_len zA4 (zAa (pv 0) zAb)) (zAa zAg zAb))) zAb))) zAb)) (pgN (i:=1) zEj.nd)
    (zAc (psS (i:=2) zEj.nd (zAf C_purse hr1 rfl (zAa (zAf C_cell hr1 rfl (zAa (pv 0) (zAa (pv 1) zAb))) (zAa (pv 1) zAb))))
    (zAc (psS (i:=3) zEj.nd (zAf C_benches hr2 rfl (zAa (pv 2) zAb)))
    (zAc (ps_asg (zAf C_wood hr3 rfl (zAa (pv 2) (zAa zAg zAb))) (pg_tup rfl (zAw (pgN (i:=4) zEj.nd) (zAw (pgN (i:=5) zEj.nd) zDi))))
    (zAc (psS (i:=6) zEj.nd (zAf C_behind hr1 rfl (zAa (pv 4) (zAa (pv 5) zAb))))
    (zAc (psS (i:=7) zEj.nd (zI5 M_Jobs hr5 rfl (zAa (zAm zAz (by rfl) T.z_list zB2 (zAa (pv 4) zAb)) (zAa (zAm zAz (by rfl) T.z_list zB2 (zAa (pv 5) zAb)) zAb))))
    (zAc (psS (i:=8) zEj.nd (zCi zF7 (zAf C_wood_plan hr rfl (zAa (pv 7) (zAa (pv 3) zAb))) zAg (fun _ _=>rfl)))
    (zAc (psS (i:=9) zEj.nd (zCi zF7 (zAf C_wood_plan hr rfl (zAa (zDc M_turned U.cl hr6 (pv 7)) (zAa (pv 3) zAb))) zAg (fun _ _=>rfl)))
    (zAc (zBx (PW.pt (pw_or (zAs op_ne (zAh zAi (by rfl) T.z_len zA4 (zAa (pv 9) zAb)) (zAh zAi (by rfl) T.z_len zA4 (zAa (pv 8) zAb)) (zAu _)) (zG2 (zDx (zC1 (zAf C_is_right hr1 rfl (zAa (pv 4) (zAa (pv 6) (zAa (pv 3) (zAa (zAm (zEw rfl) (by rfl) T.z_list zB2 (zAa (zAm zDa (by rfl) T.z_reversed zEx (zAa (pv 9) zAb)) zAb)) zAb))))))))))
     (zAe zAv)
     zAq)
    (zAc (zBx (zDx (zC1 (zAf C_is_right hr1 rfl (zAa (pv 4) (zAa (zAf C_behind hr1 rfl (zAa (pv 4) (zAa (zAf C_about hr1 rfl (zAa (pv 5) zAb)) zAb))) (zAa (pv 3) (zAa (zAm (zEw rfl) (by rfl) T.z_list zB2 (zAa (zAm zDa (by rfl) T.z_reversed zEx (zAa (pv 8) zAb)) zAb)) zAb)))))))
     (zAe zAv)
     zAq)
    (zAc (zBx (PW.pt (pw_or (zAs op_gt (zAh zAi (by rfl) T.z_len zA4 (zAa (zCi zF7 (zAf C_wood_plan hr rfl (zAa (pv 7) (zAa (zAt zBz (pv 3) zAg) zAb))) zAg (fun _ _=>rfl)) zAb)) (zAh zAi (by rfl) T.z_len zA4 (zAa (pv 8) zAb)) (zAu _)) (zG2 (zAs op_lt (zAt op_mulB zAg (zAh zAi (by rfl) T.z_len zA4 (zAa (zCi zF7 (zAf C_wood_plan hr rfl (zAa (pv 7) (zAa (zAt op_mulB zAg (pv 3)) zAb))) zAg (fun _ _=>rfl)) zAb))) (zAh zAi (by rfl) T.z_len zA4 (zAa (pv 8) zAb)) (zAu _)))))
     (zAe zAv)
     zAq)
    (zAc (zBx (zAs op_ne (zAh zAi (by rfl) T.z_len zA4 (zAa (zCi zF7 (zAf C_wood_plan hr rfl (zAa (zI5 M_Jobs hr5 rfl (zAa (zAm zAz (by rfl) T.z_list zB2 (zAa (pv 4) zAb)) (zAa (zAf C_every hr1 rfl (zAa (pv 4) (zAa (pv 6) zAb))) zAb))) (zAa (pv 3) zAb))) zAg (fun _ _=>rfl)) zAb)) (zAh zAi (by rfl) T.z_len zA4 (zAa (pv 8) zAb)) (zAu _))
     (zAe zAv)
     zAq)
    (zAc (zBx (zAs op_ne (zAh zAi (by rfl) T.z_len zA4 (zAa (zCi zF7 (zAf C_wood_plan hr rfl (zAa (pv 7) (zAa (zAh (zHr rfl) (by rfl) T.z_max zIn (zAa zAg (zAa (zAh zAi (by rfl) T.z_len zA4 (zAa (pv 4) zAb)) zAb))) zAb))) zAg (fun _ _=>rfl)) zAb)) (zAf C_tallest hr4 rfl (zAa (pv 4) (zAa (pv 6) zAb))) (zAu _))
     (zAe zAv)
     zAq)
    (zAe (zBx (zAs op_ne (zAh zAi (by rfl) T.z_len zA4 (zAa (zCi zF7 (zAf C_wood_plan hr rfl (zAa (pv 7) (zAa zAg zAb))) zAg (fun _ _=>rfl)) zAb)) (zAh zAi (by rfl) T.z_len zA4 (zAa (pv 4) zAb)) (zAu _))
     (zAe zAv)
     zAq)))))))))))))))
   (zAe (zAo pe_bl))),?_⟩
  refine ⟨_,rfl,_,_,rfl,.inl hS,_,_,rfl,_,_,rfl,_,rfl,?_,?_,?_⟩
  ·rw [qAD];split<;>split<;>lia
  ·rw [qAD];split<;>split<;>lia
  have TT:Tb3 H Pt Pu Pv:=⟨T0,U0,V0⟩;refine zCb (lo:=0) (fun i σ H2=>(∃o1 o2 o3 o4 o5 o6 o7 o8 o9:Option V,σ=[some (.ref sc),o1,o2,o3,o4,o5,o6,o7,o8,o9])/\Kp [Pt,Pu,Pv] H H2/\Tb3 H2 Pt Pu Pv) ⟨⟨_,_,_,_,_,_,_,_,_,rfl⟩,Kp.refl,TT⟩ ?_ (fun _ _ _=>k _);rintro i σ H2 hi ⟨⟨o1,o2,o3,o4,o5,o6,o7,o8,o9,rfl⟩,k2,T2⟩
  have hi8:i<8:=by
   rw [qAD] at hi;split at hi<;>split at hi<;>lia
  refine ⟨_,rfl,_,rfl,sc,is,_,rfl,seq_kpM k2 TT.tbl hS,by lia,fun c=>?_⟩;refine ⟨_,rfl,c,_,rfl,by lia,by lia,fun p H3 fp P3 k3=>?_⟩;refine ⟨_,rfl,p,rfl,P3,fun b H3' b1 b2 P3' K3=>?_⟩;refine ⟨_,rfl,p,20,rfl,by decide,by decide,P3',fun t l m ns qs r way mm ts ts' R H4 few _ ht ft fl fm fq hl hm G W _ K4=>?_⟩;have k4:Kp [] H2 H4:=Kp.drop k3 fp (K3.trans K4);refine ⟨_,_,rfl,.inl (.inl ht),rfl,_,_,rfl,_,_,rfl,rfl,?_⟩;clear K4 K3 k3 P3 P3' fp ht ft fl fm fq;have T4:=T2.kp0 k4;have K4:Kp [Pt,Pu,Pv] H H4:=k2.trans (k4.weak (by simp));refine ⟨_,rfl,_,rfl,l,m,ns,qs,rfl,hl,hm,G.nd,G.few,by have:=G.qfew;lia,G.qin,fun d la L H5 D5 hL k5=>?_⟩;have Dr:=D5.rd;have ne5:=D5.ne;have hl5:Txs H5 l ns:=k5 _ _ hl (by simp);have hm5:=hm.kp k5 (by simp) (by simp);have T5:=T4.kp0 k5;have K5:Kp [Pt,Pu,Pv] H H5:=K4.trans (k5.weak (by simp));have two:=hm.two;clear D5 hl hm k4 T4 K4 k5 T2 k2;refine ⟨_,rfl,_,_,rfl,.inl (SqL.of hl5),fun a1 ha1=>?_⟩;have k6:Kp [] H5 (upd H5 a1 (.lst (ns.map V.str))):=Kp.new Kp.refl ha1;have h6:Txs (upd H5 a1 (.lst (ns.map V.str))) a1 ns:=upd_same;generalize upd H5 a1 (.lst (ns.map V.str))=H6 at k6 h6;have hm6:=hm5.kp k6 (by simp) (by simp);refine ⟨_,rfl,_,_,rfl,.inl (SqL.of hm6.top),fun a2 ha2=>?_⟩;have k7:Kp [] H6 (upd H6 a2 (.lst (qs.map fun q=>V.ref q.2))):=Kp.new Kp.refl ha2;have h7:upd H6 a2 (.lst (qs.map fun q=>V.ref q.2)) a2=some (.lst (qs.map fun q=>V.ref q.2)):=upd_same;generalize upd H6 a2 (.lst (qs.map fun q=>V.ref q.2))=H7 at k7 h7;have hm7:=hm6.kp k7 (by simp) (by simp);have h17:Txs H7 a1 ns:=k7 _ _ h6 (by simp);refine fun x dx hx hdx nxd=>?_;have fx:Fre H7 x:=hx;have k8:Kp [] H7 (upd (upd H7 dx (.own x)) x (.ins C dx [])):=Kp.new (Kp.new Kp.refl hdx) fx;have hx8:(upd (upd H7 dx (.own x)) x (.ins C dx [])) x=some (.ins C dx []):=upd_same;generalize upd (upd H7 dx (.own x)) x (.ins C dx [])=H8 at k8 hx8 ⊢;refine ⟨x,dx,a1,a2,ns,qs,r,rfl,hx8,k8 a1 _ h17 (by simp),⟨k8 a2 _ h7 (by simp),fun q hq=>k8 _ _ (hm7.row q hq) (by simp),hm7.two⟩,G,fun J H9 A9 N9 ens ezs K9=>⟨rfl,?_⟩⟩;subst ens;have k59:Kp [] H5 H9:=(k6.trans k7).trans (Kp.drop k8 fx K9);clear K9 N9 hx8 k8 fx h17 hm7 h7 k7 hm6 h6 k6 ha1 ha2 hx hdx nxd;have T9:=T5.kp0 k59;have hl9:Txs H9 l J.ns:=k59 _ _ hl5 (by simp);have hm9:=hm5.kp k59 (by simp) (by simp);have D9:=Dr.kp0 k59;have K9:Kp [Pt,Pu,Pv] H H9:=K5.trans (k59.weak (by simp));clear hl5 hm5 Dr k59 K5 T5;have ek:(qs.map fun q=>(q.1.reverse,q.2)).map (·.1)=qs.map fun q=>q.1.reverse:=by rw [qAt];rfl
  generalize (qs.map fun q=>(q.1.reverse,q.2))=ks at ek;have one:=W.one two ek;have OJ:=zG6 A9 G ezs two
  have sub:∀n∈J.ns,∀y∈L n,y∈J.ns/\n∈J.S y:=fun n hn y hy=>by
   have h1:=(Way.to two G.qin (((hL n hn).2 y).mp hy)).2;exact ⟨h1,(zDo A9 G ezs h1).mpr (((hL n hn).2 y).mp hy)⟩
  have off9:∀{Hx:Hp} {a:Addr} {o:HO},Kp [Pt,Pu,Pv] H9 Hx->H9 a=some o->(∀ps,o≠.tbl ps)->Hx a=some o:=fun {Hx a o} kx h no=>kx a o h (zDp T9.tbl h no)
  have fin:∀{Hx H':Hp},Kp [Pt,Pu,Pv] H9 Hx->Tb3 Hx Pt Pu Pv->Kp [Pt,Pu] Hx H'->TabA H' Pt->TabU H' Pu->Kp [Pt,Pu,Pv] H9 H'/\Kp [Pt,Pu,Pv] Hx H'/\Tb3 H' Pt Pu Pv:=fun {Hx H'} kx Tx k' TA TU=>by
   have ttu:∀a∈[Pt,Pu],∃xs,Hx a=some (.tbl xs):=fun a z=>Tx.tbl a (by
    have:a=Pt\/a=Pu:=by simpa using z
    rcases this with rfl| rfl<;>simp)
   have K':Kp [Pt,Pu,Pv] Hx H':=k'.weak (by simp);exact ⟨kx.trans K',K',TA,TU,zBs Tx.tv k' (nm2 nPV.symm nUV.symm) fun a o h _ no=>zDp ttu h no⟩
  refine ⟨_,rfl,_,rfl,x,_,J,qs,ks,r,rfl,A9,G,ezs,two,ek,one,b1,(by lia),T9.ta,T9.tu,nPU,fun t pl pa as rs H10 k_ A_ U_ ht R_ PQ=>?_⟩;obtain ⟨K10,_,T10⟩:=fin Kp.refl T9 k_ A_ U_;have R10:=R_.rr;refine ⟨_,_,_,_,rfl,rfl,SqT.of ht,rfl,?_⟩;clear ht;have A10:=A9.kpM K10 T9.tbl;refine ⟨_,rfl,x,J.dx,_,rfl,A10.ob,zGh _ _ _ (by decide +kernel) (by decide +kernel) (by decide +kernel),x,J,r,rfl,A10,G.keys ezs A9.zfew,fun x' J' H11 fx' A11 _ en hz' k11=>?_⟩;have G':=G.rev two ek;have hk:=rev_keys hz' ezs ek
  have two':∀q∈ks,∃a b,q.1=[a,b]:=fun q hq=>by
   have h1:q.1∈ks.map (·.1):=qAI.mpr ⟨q,hq,rfl⟩;rw [ek] at h1;obtain ⟨q',hq',e⟩:=qAI.mp h1;obtain ⟨a,b,e'⟩:=two q' hq';exact ⟨b,a,by rw [<-e,e'];rfl⟩
  have ek':qs.map (·.1)=ks.map fun q=>q.1.reverse:=by
   have:(ks.map fun q=>q.1.reverse)=(ks.map (·.1)).map List.reverse:=by rw [qAt];rfl
   rw [this,ek,qAt];exact List.map_congr_left fun q _=>(List.reverse_reverse q.1).symm
  rw [<-en] at G';have OJ':=zG6 A11 G' hk two';have SS:∀n∈J.ns,∀m∈J.ns,m∈J.S n↔n∈J'.S m:=fun n hn m hm=>((zDo A9 G ezs hn).trans (zFo two ek).symm).trans (zDo A11 G' hk (by rw [en];exact hm)).symm;refine ⟨_,rfl,_,_,_,_,_,_,rfl,A11,G',hk,two',ek',one.symm,b1,(by lia),(T10.kp0 k11).ta,(T10.kp0 k11).tu,nPU,fun t2 pl2 pa2 as2 rs2 H12 k_ A_ U_ ht2 R_ PQ2=>?_⟩;obtain ⟨K12,K112,T12⟩:=fin (K10.trans (k11.weak (by simp))) (T10.kp0 k11) k_ A_ U_;have R12:=R_.rr;refine ⟨_,_,_,_,rfl,rfl,SqT.of ht2,rfl,?_⟩;have R1:=R10.kp k11 |>.kpM K112 (T10.kp0 k11).tbl
  clear ht2;have PR:=PQ2.rev en SS OJ.sub OJ'.sub;have PR':=PQ.rev (J:=J') en.symm (fun n hn m hm=>(SS m (en▸hm) n (en▸hn)).symm) OJ'.sub OJ.sub
  have el:rs2.length=rs.length:=by
   have h1:=PQ.more OJ.nd OJ.sub b1 PR (qBZ b);have h2:=PR.more OJ.nd OJ.sub b1 PQ (qBZ b);rw [qBP] at h1 h2;lia
  refine ⟨_,rfl,_,_,rfl,.inl (SqL.of R12.top),_,rfl,_,_,rfl,.inl (SqL.of R1.top),rfl,_,rfl,?_⟩;rw [R12.len',R1.len',el,zJf];refine iteF ?_;refine ⟨_,rfl,_,rfl,_,rfl,_,rfl,pl2,_,rfl,R12.top,fun rv hrv=>⟨rv,pl2,_,rfl,upd_same,(upd_ne (zAk R12.top hrv)).trans R12.top,fun bl hbl=>?_⟩⟩;obtain ⟨k13,h13⟩:=kp_rev hrv hbl (o':=.lst (as2.map V.ref).reverse);generalize upd (del (upd H12 rv _) rv) bl (.lst (as2.map V.ref).reverse)=H13 at k13 h13 ⊢;have K13:=K12.trans (k13.weak (by simp));have l20:rs2.reverse.length<=1000:=by have:=PR.l20;lia
  refine ⟨l,d,bl,b,J,_,rs2.reverse,la,L,rfl,off9 K13 hl9 (fun _ z=>nomatch z),D9.kpM K13 T9.tbl,ne5,G.nd,G.few,sub,R12.rev k13 h13,l20,PR.rt,fun H14 k14=>⟨_,rfl,iteF ?_⟩⟩;have K14:=K13.trans (k14.weak (by simp));have R14:=(R1.kp k13).kp k14;have T14:=(T12.kp0 k13).kp0 k14;refine ⟨_,rfl,_,rfl,_,rfl,m,qs,rfl,hm9.kpM K14 T9.tbl,by have:=G.qfew;lia,fun B kq H15 hB ekq k15=>?_⟩;have GB:=G.rev two ekq;have K15:=K14.trans (k15.weak (by simp));refine ⟨l,B,J.ns,kq,rfl,off9 K15 hl9 (fun _ z=>nomatch z),hB,G.nd,G.few,by have:=GB.qfew;lia,GB.qin,fun d2 la2 L2 H16 D16 hL2 k16=>?_⟩;have K16:=K15.trans (k16.weak (by simp));have R16:=(R14.kp k15).kp k16;refine ⟨_,rfl,_,rfl,pl,_,rfl,R16.top,fun rv hrv=>⟨rv,pl,_,rfl,upd_same,(upd_ne (zAk R16.top hrv)).trans R16.top,fun bl2 hbl2=>?_⟩⟩;obtain ⟨k17,h17⟩:=kp_rev hrv hbl2 (o':=.lst (as.map V.ref).reverse);generalize upd (del (upd H16 rv _) rv) bl2 (.lst (as.map V.ref).reverse)=H17 at k17 h17 ⊢;have K17:=K16.trans (k17.weak (by simp));have hl17:Txs H17 l J'.ns:=by rw [en];exact off9 K17 hl9 fun _ z=>nomatch z
  have sub2:∀n∈J'.ns,∀y∈L2 n,y∈J'.ns/\n∈J'.S y:=fun n hn y hy=>by
   rw [en] at hn;have w:=(zFo two ekq).mp (((hL2 n hn).2 y).mp hy);obtain ⟨h1,_⟩:=Way.to two G.qin w;exact ⟨en.symm▸h1,(SS n hn y h1).mp ((zDo A9 G ezs hn).mpr w)⟩
  have D17:DR H17 d2 J'.ns la2 L2:=by rw [en];exact D16.rd.kp0 k17
  have ne16:∀n∈J'.ns,la2 n≠d2:=by rw [en];exact D16.ne
  have l20':rs.reverse.length<=1000:=by have:=PR'.l20;lia
  refine ⟨l,d2,bl2,b,J',_,rs.reverse,la2,L2,rfl,hl17,D17,ne16,OJ'.nd,OJ'.few,sub2,R16.rev k17 h17,l20',PR'.rt,fun H18 k18=>⟨_,rfl,iteF ?_⟩⟩;have K18:=K17.trans (k18.weak (by simp));have R18:=(R16.kp k17).kp k18;have T18:=(((T14.kp0 k15).kp0 k16).kp0 k17).kp0 k18;refine ⟨_,rfl,_,rfl,_,_,rfl,rfl,x,_,J,qs,ks,r,rfl,A9.kpM K18 T9.tbl,G,ezs,two,ek,one,(by lia),(by lia),T18.ta,T18.tu,nPU,fun t3 pl3 pa3 as3 rs3 H19 k_ A_ U_ ht3 R_ PQ3=>?_⟩;obtain ⟨K19,K189,T19⟩:=fin K18 T18 k_ A_ U_;have R19:=R_.rr;refine ⟨_,_,_,_,rfl,rfl,SqT.of ht3,rfl,_,_,rfl,.inl (SqL.of R19.top),?_⟩;have R2:=R18.kpM K189 T18.tbl;refine ⟨_,rfl,_,_,rfl,.inl (SqL.of R2.top),?_⟩;rw [R19.len',R2.len'];refine ⟨_,_,rfl,rfl,_,rfl,?_⟩;have h3:=PQ.more OJ.nd OJ.sub b1 PQ3 (by lia);rw [qAh (by lia)];refine iteF ?_;have bn:b.natAbs<10^100:=by lia
  refine ⟨_,rfl,_,rfl,_,_,rfl,rfl,⟨by decide +kernel,bn⟩,x,_,J,qs,ks,r,rfl,A9.kpM K19 T9.tbl,G,ezs,two,ek,one,(by lia),b2,T19.ta,T19.tu,nPU,fun t4 pl4 pa4 as4 rs4 H20 k_ A_ U_ ht4 R_ PQ4=>?_⟩;obtain ⟨K20,K190,T20⟩:=fin K19 T19 k_ A_ U_;have R20:=R_.rr;refine ⟨_,_,_,_,rfl,rfl,SqT.of ht4,rfl,_,_,rfl,.inl (SqL.of R20.top),?_⟩;have R3:=R2.kpM K190 T19.tbl;rw [R20.len'];have s4:=PQ4.l20;refine ⟨_,_,rfl,rfl,⟨by decide +kernel,by lia⟩,_,rfl,_,_,rfl,.inl (SqL.of R3.top),?_⟩;rw [R3.len'];refine ⟨_,_,rfl,rfl,_,rfl,?_⟩;have h4:=PQ.half OJ.nd OJ.sub b1 PQ4;rw [qAh (by lia)];refine iteF ?_;have hl20:Txs H20 l J.ns:=off9 K20 hl9 fun _ z=>nomatch z;have rk:∀a b,Way qs a b->r a<r b:=fun a b=>way_rank G;refine ⟨_,rfl,_,_,rfl,.inl (SqL.of hl20),fun a1 ha1=>?_⟩;have k21:Kp [] H20 (upd H20 a1 (.lst (J.ns.map V.str))):=Kp.new Kp.refl ha1;have h21:Txs (upd H20 a1 (.lst (J.ns.map V.str))) a1 J.ns:=upd_same;generalize upd H20 a1 (.lst (J.ns.map V.str))=H21 at k21 h21;have K21:=K20.trans (k21.weak (by simp));refine ⟨_,rfl,_,rfl,l,d,J.ns,la,L,rfl,k21 _ _ hl20 (by simp),D9.kpM K21 T9.tbl,G.few,evr_few G.nd G.few fun a ha b hb=>rk a b (((hL a ha).2 b).mp hb),fun a2 qt H22 hq2 eq2 k22=>?_⟩;have G2:=evr_good G hL rk eq2;have W2:=evr_way G two hL eq2;refine fun y dy hy hdy nyd=>?_;have fy:Fre H22 y:=hy;have k23:Kp [] H22 (upd (upd H22 dy (.own y)) y (.ins C dy [])):=Kp.new (Kp.new Kp.refl hdy) fy;have hy23:(upd (upd H22 dy (.own y)) y (.ins C dy [])) y=some (.ins C dy []):=upd_same;generalize upd (upd H22 dy (.own y)) y (.ins C dy [])=H23 at k23 hy23 ⊢;refine ⟨y,dy,a1,a2,J.ns,qt,r,rfl,hy23,(k22.trans k23) a1 _ h21 (by simp),hq2.kp k23 (by simp) (by simp),G2,fun J2 H24 A24 _ en2 ez2 K24=>⟨rfl,?_⟩⟩;have k2024:Kp [] H20 H24:=k21.trans (k22.trans (Kp.drop k23 fy K24));rw [<-en2] at G2;have S2:∀n∈J.ns,∀x,x∈J2.S n↔x∈J.S n:=fun n hn x=>((zDo A24 G2 ez2 (by rw [en2];exact hn)).trans (W2 x n)).trans (zDo A9 G ezs hn).symm;have ek2:(qt.map fun q=>(q.1.reverse,q.2)).map (·.1)=qt.map fun q=>q.1.reverse:=by rw [qAt];rfl
  generalize (qt.map fun q=>(q.1.reverse,q.2))=kt at ek2
  have one2:One qt\/One kt:=by
   rcases one with z| z
   ·exact .inl fun n y y' h s h' s'=>z n y y' ((W2 _ _).mp h) (fun v hv w=>s v ((W2 _ _).mpr hv) ((W2 _ _).mpr w)) ((W2 _ _).mp h') (fun v hv w=>s' v ((W2 _ _).mpr hv) ((W2 _ _).mpr w))
   ·have W3:∀a b,Way kt a b↔Way ks a b:=fun a b=>(zFo hq2.two ek2).trans ((W2 b a).trans (zFo two ek).symm);exact .inr fun n y y' h s h' s'=>z n y y' ((W3 _ _).mp h) (fun v hv w=>s v ((W3 _ _).mpr hv) ((W3 _ _).mpr w)) ((W3 _ _).mp h') (fun v hv w=>s' v ((W3 _ _).mpr hv) ((W3 _ _).mpr w))
  refine ⟨_,rfl,_,_,_,_,_,_,rfl,A24,G2,ez2,hq2.two,ek2,one2,b1,(by lia),(T20.kp0 k2024).ta,(T20.kp0 k2024).tu,nPU,fun t5 pl5 pa5 as5 rs5 H25 k_ A_ U_ ht5 R_ PQ5=>?_⟩;obtain ⟨K25,K245,T25⟩:=fin (K20.trans (k2024.weak (by simp))) (T20.kp0 k2024) k_ A_ U_;have R25:=R_.rr;refine ⟨_,_,_,_,rfl,rfl,SqT.of ht5,rfl,_,_,rfl,.inl (SqL.of R25.top),?_⟩;have R4:=(R3.kp k2024).kpM K245 (T20.kp0 k2024).tbl;refine ⟨_,rfl,_,_,rfl,.inl (SqL.of R4.top),?_⟩;rw [R25.len',R4.len'];have PQ5:=PQ5.same (J':=J) en2.symm fun n hn x=>(S2 n (en2▸hn) x).symm
  have el5:rs5.length=rs.length:=by
   have h1:=PQ.more OJ.nd OJ.sub b1 PQ5 (qBZ b);have h2:=PQ5.more OJ.nd OJ.sub b1 PQ (qBZ b);lia
  refine ⟨rfl,_,rfl,?_⟩;rw [el5,zJf];refine iteF ?_;have hl25:Txs H25 l J.ns:=off9 K25 hl9 fun _ z=>nomatch z;refine ⟨_,rfl,_,rfl,_,_,rfl,.inl (SqL.of hl25),_,_,rfl,?_⟩;have fewJ:=G.few;generalize hc:(if (1:Int)<_ then _ else _:Int)=c'
  have c1:1<=c'/\c'<10^100/\(J.ns.length:Int)<=c':=by
   rw [<-hc,qAD];split<;>exact ⟨by lia,by lia,by lia⟩
  refine ⟨x,_,J,qs,ks,r,rfl,A9.kpM K25 T9.tbl,G,ezs,two,ek,one,c1.1,c1.2.1,T25.ta,T25.tu,nPU,fun t6 pl6 pa6 as6 rs6 H26 k_ A_ U_ ht6 R_ PQ6=>?_⟩;obtain ⟨K26,K256,T26⟩:=fin K25 T25 k_ A_ U_;have R26:=R_.rr;refine ⟨_,_,_,_,rfl,rfl,SqT.of ht6,rfl,_,_,rfl,.inl (SqL.of R26.top),?_⟩;rw [R26.len'];have hl26:Txs H26 l J.ns:=off9 K26 hl9 fun _ z=>nomatch z;refine ⟨_,rfl,_,rfl,l,d,J.ns,la,L,rfl,hl26,D9.kpM K26 T9.tbl,ne5,G.nd,G.few,dec_L G two hL,fun n hn=>(hL n hn).1,T26.tv,fun G1 g H27 k27 TV27 hf pm=>?_⟩;have Hg:=hgt_of OJ.sub (fun n hn y=>⟨sub n hn y,fun ⟨h1,h2⟩=>((hL n hn).2 y).mpr ((zDo A9 G ezs h1).mp h2)⟩) hf pm
  have el6:=PQ6.tall (h:=(mx0 (G1.map g)).toNat) OJ.nd OJ.sub Hg c1.1 c1.2.2 (fun n hn=>by
   have:=zIh (qAI.mpr ⟨n,pm.mem_iff.mpr hn,rfl⟩:g n∈G1.map g);show (g n).toNat<=_;lia) (by
   rcases mx_top (G:=G1) (g:=g) fun x hx=>hf.pos hx with z| ⟨n,h1,h2⟩
   ·exact .inl z
   ·exact .inr ⟨n,pm.mem_iff.mp h1,h2⟩)
  have e6:(rs6.length:Int)=mx0 (G1.map g):=by have:=mx0_nn (G1.map g);lia
  refine ⟨rfl,_,rfl,?_⟩;rw [e6,zJf];refine iteF ?_;have tv1:∀a∈[Pv],∃xs,H26 a=some (.tbl xs):=fun a z=>T26.tbl a (by rw [qAZ.mp z];simp);have T27:Tb3 H27 Pt Pu Pv:=⟨zBs T26.ta k27 (nm1 nPV) fun a o h _ no=>zDp tv1 h no,zBs T26.tu k27 (nm1 nUV) fun a o h _ no=>zDp tv1 h no,TV27⟩;have K27:Kp [Pt,Pu,Pv] H9 H27:=K26.trans (k27.weak (by simp));refine ⟨_,rfl,x,_,J,qs,ks,r,rfl,A9.kpM K27 T9.tbl,G,ezs,two,ek,one,(by decide),(by decide +kernel),T27.ta,T27.tu,nPU,fun t7 pl7 pa7 as7 rs7 H28 k_ A_ U_ ht7 R_ PQ7=>?_⟩;obtain ⟨K28,_,T28⟩:=fin K27 T27 k_ A_ U_;have R28:=R_.rr;refine ⟨_,_,_,_,rfl,rfl,SqT.of ht7,rfl,_,_,rfl,.inl (SqL.of R28.top),?_⟩;rw [R28.len'];have hl28:Txs H28 l J.ns:=off9 K28 hl9 fun _ z=>nomatch z;refine ⟨_,rfl,_,_,rfl,.inl (SqL.of hl28),rfl,_,rfl,?_⟩;rw [PQ7.one OJ.nd OJ.sub,qAD,zJf];exact iteF ⟨⟨_,_,_,_,_,_,_,_,_,rfl⟩,K9.trans K28,T28⟩
end
def Hd (K:PySem.W.Frag) (x q:Str) (st:Stmt) (f:Addr):Prop:=∃oc od kV dc pm an cd ct sl,K.lookup f=some ⟨oc,od,.func (PySem.W.fnOf x q (zBa st) (zA2 st) (zAd st) .none kV dc pm an cd ct),sl⟩/\PySem.W.codeIn K cd q=true/\PySem.W.keepIn K (.ref f)=true
def Dft (K:PySem.W.Frag) (x:Str) (st:Stmt) (f:Addr):Prop:=PySem.W.nsIn K mainGlobals x=some (some (.ref f))/\Hd K x x st f
def nnB (K:PySem.W.Frag) (x:Str):Bool:=match PySem.W.nsIn K mainGlobals x with
 | some none=>true
 | _=>false
theorem nnB_of {K:PySem.W.Frag} {x:Str} {h:Heap} {mg:Str->Option Value} (X:K.In h) (G:h.Ns mainGlobals mg) {xs:List Str} (a:xs.all (nnB K)=true) (m:x∈xs):mg x=none:=by
 have e:=qA5.mp a x m;unfold nnB at e;split at e
 ·rename_i e2;exact PySem.W.mg_none_of X G e2
 ·cases e
theorem Hd.to {K:PySem.W.Frag} {x q:Str} {st:Stmt} {f:Addr} (t:Hd K x q st f):∃fd,Fun K x q st f fd:=by
 obtain ⟨_,_,_,_,_,_,_,_,_,l,c,k⟩:=t;exact ⟨_,fun_mk l c k⟩
section
variable {K:PySem.W.Frag} {x q a b c d g:Str} {st:Stmt} {f:Addr} {fd:FuncData} (F:Fun K x q st f fd)
include F
theorem _root_.L2.Fun.b1 (h:∀(kV doc pm:Value) (an:Option Addr) (cdv ct u:Value),bindArgs (PySem.W.fnOf x q (zBa st) (zA2 st) (zAd st) .none kV doc pm an cdv ct) ⟨[u],[]⟩=pure [(a,u)]:=by intros;rfl):zDu K fd [a] []:=F.binds fun kV doc pm an cdv ct us hl=>match us,hl with| [u],_=>h kV doc pm an cdv ct u
theorem _root_.L2.Fun.b2 (h:∀(kV doc pm:Value) (an:Option Addr) (cdv ct u v:Value),bindArgs (PySem.W.fnOf x q (zBa st) (zA2 st) (zAd st) .none kV doc pm an cdv ct) ⟨[u,v],[]⟩=pure [(a,u),(b,v)]:=by intros;rfl):zDu K fd [a,b] []:=F.binds fun kV doc pm an cdv ct us hl=>match us,hl with| [u,v],_=>h kV doc pm an cdv ct u v
theorem _root_.L2.Fun.b3 (h:∀(kV doc pm:Value) (an:Option Addr) (cdv ct u v w:Value),bindArgs (PySem.W.fnOf x q (zBa st) (zA2 st) (zAd st) .none kV doc pm an cdv ct) ⟨[u,v,w],[]⟩=pure [(a,u),(b,v),(c,w)]:=by intros;rfl):zDu K fd [a,b,c] []:=F.binds fun kV doc pm an cdv ct us hl=>match us,hl with| [u,v,w],_=>h kV doc pm an cdv ct u v w
theorem _root_.L2.Fun.b4 (h:∀(kV doc pm:Value) (an:Option Addr) (cdv ct u v w z:Value),bindArgs (PySem.W.fnOf x q (zBa st) (zA2 st) (zAd st) .none kV doc pm an cdv ct) ⟨[u,v,w,z],[]⟩=pure [(a,u),(b,v),(c,w),(d,z)]:=by intros;rfl):zDu K fd [a,b,c,d] []:=F.binds fun kV doc pm an cdv ct us hl=>match us,hl with| [u,v,w,z],_=>h kV doc pm an cdv ct u v w z
end
section
variable {K:PySem.W.Frag} {mg:Str->Option Value} {x q:Str} {st:Stmt} {f:Addr} {fd:FuncData} {ps:List Str} {sp:Sp} {k:Nat} (P:Program) (w:World) (base:Heap)
theorem cal (g:mg x=some (.ref f)) (F:Fun K x q st f fd) (b:zDu K fd ps []) (h:FnOk P w K mg base CX0 k f fd ps sp):Cal P w K mg base x k ps sp:=⟨f,fd,g,F.kp,b,h⟩
def Dfm (K:PySem.W.Frag) (C:Addr) (m q:Str) (st:Stmt) (f:Addr):Prop:=PySem.W.findIn K (.ref C) m=some (some (.ref f))/\PySem.W.isFn K (.ref f)=true/\Hd K m q st f
theorem mth {C:Addr} {m:Str} (t:Dfm K C m q st f) (F:Fun K m q st f fd) (b:zDu K fd ps []) (h:FnOk P w K mg base CX0 k f fd ps sp):Mth P w K mg base C m k ps sp:=⟨f,fd,⟨t.1,t.2.1,F.kp⟩,b,h⟩
end
def DftL (K:PySem.W.Frag) (x:Str) (st:Stmt) (f c:Addr):Prop:=PySem.W.nsIn K mainGlobals x=some (some (.ref f))/\∃oc od kV dc pm an ct sl,K.lookup f=some ⟨oc,od,.func (PySem.W.fnOf x x (zBa st) (zA2 st) (zAd st) .none kV dc pm an (.ref c) ct),sl⟩/\PySem.W.codeIn K (.ref c) x=true/\PySem.W.keepIn K (.ref f)=true
theorem all_mk {c Pt cU Pu cV Pv:Addr} {l:PySem.W.OpenLaw} {w:World} {K:PySem.W.Frag} {h:Heap} {mg:Str->Option Value} {fa:Addr} (X:K.In h) (G:h.Ns mainGlobals mg) (hfa:mg "law" = some (.ref fa)) {C f0 f1 f2 f3 f4 f5 f6 f7 f8 f9 f10 f11 f12 f13 f14 f15 f16 f17 f18 f19 f20 f21 f22 f23 f24 f25 f26 f27 f28 f29 f30 f31 f32 f33 f34 f35 f36 f37 f38 f39 f40 f41 f42:Addr} {t_LONGEST_NAME t_MOST_JOBS:Tok}
  (aC:PySem.W.nsIn K mainGlobals "Jobs" = some (some (.ref C)))
  (l0:Dft K "_law_take" s_take f0)
  (l1:Dft K "_law_purse" s_purse f1)
  (l2:Dft K "_law_cell" s_cell f2)
  (l3:Dft K "is_name" zE4 f3)
  (l4:Dft K "is_one_of" zDd f4)
  (l5:Dft K "check_job" zEo f5)
  (l6:Dft K "check_names" zDg f6)
  (l7:Dft K "check_parts" zDf f7)
  (l8:Dft K "told_ahead" zDv f8)
  (l9:Dft K "has_all" zE6 f9)
  (l10:Dft K "joined" zIz f10)
  (l11:Dft K "all_ahead" zCo f11)
  (l12:Dfm K C "__init__" "Jobs.__init__" zBw f12)
  (l13:Dfm K C "names" "Jobs.names" zDw f13)
  (l14:Dfm K C "turned" "Jobs.turned" zCg f14)
  (l15:Dfm K C "behind" "Jobs.behind" zCh f15)
  (l16:Dfm K C "ahead" "Jobs.ahead" zCz f16)
  (l17:Dfm K C "has_between" "Jobs.has_between" zBg f17)
  (l18:Dfm K C "straight" "Jobs.straight" zBv f18)
  (l19:DftL K "last_ones_first" zE3 f19 c)
  (l20:Dft K "heights" zE5 f20)
  (l21:Dft K "is_whole" zFs f21)
  (l22:Dft K "check_benches" zCn f22)
  (l23:Dft K "is_ready" zEb f23)
  (l24:Dft K "take" s_ptake f24)
  (l25:Dft K "check_row" zDe f25)
  (l26:Dft K "listed" zE2 f26)
  (l27:Dft K "is_gathering" zB9 f27)
  (l28:DftL K "highest_first" zAp f28 cU)
  (l29:Dft K "turns_filled" zC6 f29)
  (l30:Dft K "paper_number" zB8 f30)
  (l31:Dft K "wood_plan" zEn f31)
  (l32:Dft K "_law_names" zIy f32)
  (l33:Dft K "_law_pairs" s_pairs f33)
  (l34:Dft K "_law_more_pairs" zCy f34)
  (l35:Dft K "_law_wood" s_wood f35)
  (l36:Dft K "_law_benches" zG1 f36)
  (l37:Dft K "_law_behind" zGp f37)
  (l38:Dft K "_law_about" zI1 f38)
  (l39:Dft K "_law_is_right" zEa f39)
  (l40:DftL K "_law_tallest" zBm f40 cV)
  (l41:Dft K "_law_every" zI0 f41)
  (l42:Dft K "law" s_law f42)
  (pg:PySem.W.plainGet K C Str.empty=true)
  (hd:PySem.W.hasDictIn K C=true)
  (po:PySem.W.plainOver K C=true)
  (sa:PySem.W.findIn K (.ref C) "__setattr__" = some (some (.builtin "object.__setattr__")))
  (mk:PySem.W.makesIn K C=true)
  (kc:PySem.W.keepIn K (.ref C)=true)
  (n_row:PySem.W.findIn K (.ref C) "row" = some none)
  (n_pairs:PySem.W.findIn K (.ref C) "pairs" = some none)
  (n_above:PySem.W.findIn K (.ref C) "above" = some none)
  (zz:List.all (α:=Str) ["len", "max", "range", "int", "str", "list", "all", "min", "dict", "bool", "abs", "reversed", "enumerate", "any", "isinstance", "sorted", "set", "tuple"] (nnB K)=true)
  (n_Pt_Pu:Pt≠Pu)
  (n_Pt_Pv:Pt≠Pv)
  (n_Pu_Pv:Pu≠Pv)
  (e_LONGEST_NAME:PySem.W.nsIn K mainGlobals "LONGEST_NAME" = some (some (.int 8 t_LONGEST_NAME)))
  (e_MOST_JOBS:PySem.W.nsIn K mainGlobals "MOST_JOBS" = some (some (.int 20 t_MOST_JOBS)))
  :∃fd:FuncData,(∀(s:Shared) (v:Value),BindsTo s fd ⟨[v],[]⟩ [("_law_script",v)])/\∀base:Heap,K.In base->base.Ns mainGlobals mg->zGi mg base->(∀q∈[(c,Pt),(cU,Pu),(cV,Pv)],PySem.W.CodeHd base q.1 q.2)->FnOk l.prog w K mg base CX0 11 fa fd ["_law_script"] (spLaw K Pt Pu Pv):=by
 have z:∀x,x∈_->mg x=none:=fun x m=>nnB_of X G zz m;have m:=fun (x:Str) (v:Value) (e:PySem.W.nsIn K mainGlobals x=some (some v))=>PySem.W.mg_of X G e;obtain ⟨a,_,_,kV,dc,pm,an,cd,ct,_,u,v,k⟩:=l42
 cases hfa.symm.trans (m _ _ a)
 have T:Txt K mg:={z_len:=z _ (by decide),z_max:=z _ (by decide),z_range:=z _ (by decide),z_int:=z _ (by decide),z_str:=z _ (by decide),z_list:=z _ (by decide),z_all:=z _ (by decide),z_min:=z _ (by decide),z_dict:=z _ (by decide),z_bool:=z _ (by decide),z_abs:=z _ (by decide),z_reversed:=z _ (by decide),z_enumerate:=z _ (by decide),z_any:=z _ (by decide),z_isinstance:=z _ (by decide),z_sorted:=z _ (by decide),z_set:=z _ (by decide),z_tuple:=z _ (by decide),c_LONGEST_NAME:=⟨_,m _ _ e_LONGEST_NAME⟩,c_MOST_JOBS:=⟨_,m _ _ e_MOST_JOBS⟩};have U:JC K mg C:=⟨⟨pg,hd,po,sa⟩,n_row,n_pairs,n_above,m _ _ aC⟩;obtain ⟨_,F0⟩:=l0.2.to;obtain ⟨_,F1⟩:=l1.2.to;obtain ⟨_,F2⟩:=l2.2.to;obtain ⟨_,F3⟩:=l3.2.to;obtain ⟨_,F4⟩:=l4.2.to;obtain ⟨_,F5⟩:=l5.2.to;obtain ⟨_,F6⟩:=l6.2.to;obtain ⟨_,F7⟩:=l7.2.to;obtain ⟨_,F8⟩:=l8.2.to;obtain ⟨_,F9⟩:=l9.2.to;obtain ⟨_,F10⟩:=l10.2.to;obtain ⟨_,F11⟩:=l11.2.to;obtain ⟨_,F12⟩:=l12.2.2.to;obtain ⟨_,F13⟩:=l13.2.2.to;obtain ⟨_,F14⟩:=l14.2.2.to;obtain ⟨_,F15⟩:=l15.2.2.to;obtain ⟨_,F16⟩:=l16.2.2.to;obtain ⟨_,F17⟩:=l17.2.2.to;obtain ⟨_,F18⟩:=l18.2.2.to;obtain ⟨a19,_,_,_,_,_,_,_,_,u19,v19,k19⟩:=l19;have F19:=fun_mk (st:=zE3) u19 v19 k19;obtain ⟨_,F20⟩:=l20.2.to;obtain ⟨_,F21⟩:=l21.2.to;obtain ⟨_,F22⟩:=l22.2.to;obtain ⟨_,F23⟩:=l23.2.to;obtain ⟨_,F24⟩:=l24.2.to;obtain ⟨_,F25⟩:=l25.2.to;obtain ⟨_,F26⟩:=l26.2.to;obtain ⟨_,F27⟩:=l27.2.to;obtain ⟨a28,_,_,_,_,_,_,_,_,u28,v28,k28⟩:=l28;have F28:=fun_mk (st:=zAp) u28 v28 k28;obtain ⟨_,F29⟩:=l29.2.to;obtain ⟨_,F30⟩:=l30.2.to;obtain ⟨_,F31⟩:=l31.2.to;obtain ⟨_,F32⟩:=l32.2.to;obtain ⟨_,F33⟩:=l33.2.to;obtain ⟨_,F34⟩:=l34.2.to;obtain ⟨_,F35⟩:=l35.2.to;obtain ⟨_,F36⟩:=l36.2.to;obtain ⟨_,F37⟩:=l37.2.to;obtain ⟨_,F38⟩:=l38.2.to;obtain ⟨_,F39⟩:=l39.2.to;obtain ⟨a40,_,_,_,_,_,_,_,_,u40,v40,k40⟩:=l40;have F40:=fun_mk (st:=zBm) u40 v40 k40;obtain ⟨_,F41⟩:=l41.2.to;have F42:=fun_mk (st:=s_law) u v k;refine ⟨PySem.W.fnOf "law" "law" (zBa s_law) (zA2 s_law) (zAd s_law) .none kV dc pm an cd ct,fun s v=>.of_eq rfl,fun B _ _ BL CH=>?_⟩;have C_take:=cal l.prog w B (m _ _ l0.1) F0 F0.b2 (ok_take F0);have C_purse:=cal l.prog w B (m _ _ l1.1) F1 F1.b2 (ok_purse F1 T);have C_cell:=cal l.prog w B (m _ _ l2.1) F2 F2.b2 (ok_cell F2 T);have C_is_name:=cal l.prog w B (m _ _ l3.1) F3 F3.b1 (ok_is_name F3 T);have C_is_one_of:=cal l.prog w B (m _ _ l4.1) F4 F4.b2 (ok_is_one_of F4 T);have C_one_of:=cal l.prog w B (m _ _ l4.1) F4 F4.b2 (ok_one_of F4 T);have C_check_job:=cal l.prog w B (m _ _ l5.1) F5 F5.b2 (ok_check_job F5 T C_is_one_of);have C_check_names:=cal l.prog w B (m _ _ l6.1) F6 F6.b1 (zHz F6 T C_is_name);have C_check_parts:=cal l.prog w B (m _ _ l7.1) F7 F7.b2 (zHy F7 T C_check_job);have C_told_ahead:=cal l.prog w B (m _ _ l8.1) F8 F8.b2 (zJa F8);have C_has_all:=cal l.prog w B (m _ _ l9.1) F9 F9.b2 (ok_has_all F9 T);have C_joined:=cal l.prog w B (m _ _ l10.1) F10 F10.b2 (ok_joined F10);have C_all_ahead:=cal l.prog w B (m _ _ l11.1) F11 F11.b2 (ok_all_ahead F11 T C_has_all C_joined);have M_Jobs:Mkr l.prog w K mg B C "Jobs" 4 ["self", "names", "orders"] (spInit C):=⟨f12,_,⟨mk,l12.1,l12.2.1,kc⟩,m _ _ aC,F12.b3,(ok_Jobs_init F12 T U C_check_names C_check_parts C_all_ahead C_told_ahead)⟩;have M_names:=mth l.prog w B l13 F13 F13.b1 (zJc F13 T U);have M_turned:=mth l.prog w B l14 F14 F14.b1 (zH0 F14 T U M_Jobs);have M_behind:=mth l.prog w B l15 F15 F15.b2 (zH1 F15 T U C_check_job);have M_ahead:=mth l.prog w B l16 F16 F16.b2 (zJd F16 T U C_check_job);have M_has_between:=mth l.prog w B l17 F17 F17.b3 (zEr F17 T U);have M_straight:=mth l.prog w B l18 F18 F18.b2 (zGg F18 T U M_behind M_has_between);have C_last:=cal l.prog w B (m _ _ a19) F19 F19.b1 (ok_last u19 v19 T U BL (CH (c,Pt) (by simp)) M_names M_behind);have C_heights:=cal l.prog w B (m _ _ l20.1) F20 F20.b1 (ok_heights F20 T U C_last M_behind);have C_is_whole:=cal l.prog w B (m _ _ l21.1) F21 F21.b1 (ok_is_whole F21 T);have C_check_benches:=cal l.prog w B (m _ _ l22.1) F22 F22.b1 (zGf F22 C_is_whole);have C_is_ready:=cal l.prog w B (m _ _ l23.1) F23 F23.b3 (ok_is_ready F23 T U M_ahead);have C_ptake:=cal l.prog w B (m _ _ l24.1) F24 F24.b2 (ok_ptake F24);have C_check_row:=cal l.prog w B (m _ _ l25.1) F25 F25.b2 (ok_check_row F25 T C_one_of);have C_listed:=cal l.prog w B (m _ _ l26.1) F26 F26.b3 (ok_listed F26 T U M_names C_check_benches C_check_row C_is_ready C_ptake);have C_gath:=cal l.prog w B (m _ _ l27.1) F27 F27.b1 (zHb F27 T U M_names M_straight);have C_highest:=cal l.prog w B (m _ _ a28) F28 F28.b2 (zGe u28 v28 T U BL (CH (cU,Pu) (by simp)) C_heights M_names C_listed);have C_turns_filled:=cal l.prog w B (m _ _ l29.1) F29 F29.b2 (zG9 F29);have C_paper_number:=cal l.prog w B (m _ _ l30.1) F30 F30.b3 (zHa F30 T C_turns_filled);have C_wood_plan:=cal l.prog w B (m _ _ l31.1) F31 F31.b2 (ok_wood_plan F31 T U C_check_benches C_gath C_highest C_paper_number C_heights M_turned);have C_lnames:=cal l.prog w B (m _ _ l32.1) F32 F32.b2 (ok_names F32 T C_take);have C_pairs:=cal l.prog w B (m _ _ l33.1) F33 F33.b4 (ok_pairs F33 T C_take);have C_more_pairs:=cal l.prog w B (m _ _ l34.1) F34 F34.b2 (zJb F34 T C_take);have C_wood:=cal l.prog w B (m _ _ l35.1) F35 F35.b2 (ok_wood F35 T C_take C_lnames C_pairs C_more_pairs);have C_benches:=cal l.prog w B (m _ _ l36.1) F36 F36.b1 (ok_benches F36 C_take);have C_lbehind:=cal l.prog w B (m _ _ l37.1) F37 F37.b2 (ok_behind F37 T);have C_about:=cal l.prog w B (m _ _ l38.1) F38 F38.b1 (ok_about F38);have C_is_right:=cal l.prog w B (m _ _ l39.1) F39 F39.b4 (ok_is_right F39 T);have C_tallest:=cal l.prog w B (m _ _ a40) F40 F40.b2 (ok_tallest u40 v40 T BL (CH (cV,Pv) (by simp)));have C_every:=cal l.prog w B (m _ _ l41.1) F41 F41.b2 (ok_every F41);exact ok_law F42 n_Pt_Pu n_Pt_Pv n_Pu_Pv T U C_cell C_purse C_benches C_wood C_lbehind C_about C_wood_plan C_is_right C_tallest C_every M_Jobs M_turned
theorem walk {c Pt cU Pu cV Pv:Addr} {l:PySem.W.OpenLaw} {q:Program} {loose:List Str} {XP:(Str->Option Value)->Heap->Prop} {YP:World->Heap->Prop} {d:DefRec} {K:Params->PySem.W.Frag} (hn:l.most=some 63) (hdf:d.params.defaults=[])
  (hY:∀(w:World) (h:Heap),YP w h->(K w.params).In h) (hT:∀(w:World) (h:Heap),YP w h->PySem.W.TabsAt [(c,Pt),(cU,Pu),(cV,Pv)] h) (hKT:∀(w:World),∀q∈[(c,Pt),(cU,Pu),(cV,Pv)],(K w.params).lookup q.2=none)
  (F:∀(w:World) (mg:Str->Option Value) (fa:Addr) (h:Heap),(K w.params).In h->h.Ns mainGlobals mg->mg d.name=some (.ref fa) ->
   ∃fd:FuncData,(∀(s:Shared) (u:Value),BindsTo s fd ⟨[u],[]⟩ [("_law_script",u)])/\∀base:Heap,(K w.params).In base->base.Ns mainGlobals mg->zGi mg base->(∀q∈[(c,Pt),(cU,Pu),(cV,Pv)],PySem.W.CodeHd base q.1 q.2)->FnOk l.prog w (K w.params) mg base CX0 11 fa fd ["_law_script"] (spLaw (K w.params) Pt Pu Pv)) :
  PySem.W.WalkO q loose XP YP l.row.toRowW d [] (fun f vs=>PySem.call f vs) :=
 L2.walk_ofT (n:=63) (k:=11) (x:= "_law_script") (CX:=fun _=>CX0) (sp:=fun w=>spLaw (K w.params) Pt Pu Pv) hn (by decide) hdf ⟨rfl,by decide,by decide,rfl⟩ hY hT hKT F (fun _ _ a ns hl hS hH=>⟨a,ns,rfl,hS,hl,.inl (hH (c,Pt) (by simp)),.inl (hH (cU,Pu) (by simp)),.inl (hH (cV,Pv) (by simp)),fun _=>rfl⟩) fun _ _ _ _ _ z=>z
end My
namespace PySem.W.Fast
def tw11813937780793654866:Nat:=0
def tw14319259242383642241:Nat:=0
def tw381981230975501944:Nat:=0
def tw7599816164569821291:Nat:=0
def tw11909356034761415487:Nat:=0
def tw5658194278359109628:Nat:=0
def tw17925424723241693476:Nat:=0
def tw2414471824435060300:Nat:=0
def tw4489324630137701531:Nat:=0
def tw7277077697679755051:Nat:=0
def tw6995067021852798003:Nat:=0
def tw7598204546345296529:Nat:=0
def tw10463816583193131549:Nat:=0
def tw2346803564742501310:Nat:=0
def tw18049165066708948719:Nat:=0
def tw450829096924023647:Nat:=0
def tw11924586391425047069:Nat:=0
def tw13515234463078148127:Nat:=0
def tw16494067319817548869:Nat:=0
def tw15662929791826982907:Nat:=0
def tw397830017682955907:Nat:=0
def tw1881670461899068768:Nat:=0
def tw14336501828679948871:Nat:=0
def tw18229488666738875967:Nat:=0
def tw14468429844772765417:Nat:=0
def tw7460414039328738194:Nat:=0
def tw10375567547138985022:Nat:=0
def tw7884416581179693166:Nat:=0
def tw11151004679827203832:Nat:=0
def tw10955103576441241745:Nat:=0
def tw14665835539774906874:Nat:=0
def tw580616293198423844:Nat:=0
def tw8629426764992385302:Nat:=0
def tw5297560368444293921:Nat:=0
def tw2506855957833823221:Nat:=0
def tw1396468700692521050:Nat:=0
def tw2769219689203234570:Nat:=0
def tw4891724081243381654:Nat:=0
def tw13281392823356271777:Nat:=0
def tw4652778005427986156:Nat:=0
def tw481301755026243841:Nat:=0
def tw8604810389243024442:Nat:=0
def tw10862824754742662533:Nat:=0
def tw1775779247141827580:Nat:=0
def tw7585198577111931409:Nat:=0
def tw8667456483460456033:Nat:=0
def tw14514378606974801889:Nat:=0
def tw2638283198408813813:Nat:=0
def tw8704064922323711026:Nat:=0
def tw5046482283928050358:Nat:=0
def tw17439837640209507505:Nat:=0
def tw14424262991875098357:Nat:=0
def tw2238899963900554233:Nat:=0
def tw3956544576103091906:Nat:=0
def tw4294542726563565828:Nat:=0
def tw8735702380218702090:Nat:=0
def tw13281490786102877492:Nat:=0
def tw11914726181417618168:Nat:=0
def tw790734566752471768:Nat:=0
def tw6844949081202768114:Nat:=0
def tw8964402034527506093:Nat:=0
def tw8408180853831379234:Nat:=0
def tw424606276583894239:Nat:=0
def tw13622674847782812594:Nat:=0
def tw1633113191074599151:Nat:=0
def tw10164968529786766971:Nat:=0
def tw5887179653516416379:Nat:=0
def tw4576291451530006716:Nat:=0
def tw13139606744895543112:Nat:=0
def tw7105280664820764907:Nat:=0
def tw5859137811007881918:Nat:=0
def tw6688329906715949205:Nat:=0
def tw2181906395979129043:Nat:=0
def tw1062731748730250982:Nat:=0
def tw4258631649205667092:Nat:=0
def tw15086396359405787968:Nat:=0
def tw12936318067374964289:Nat:=0
def tw14849955529587908711:Nat:=0
def tw7498215459661494700:Nat:=0
def tw575595889297386860:Nat:=0
def tw8495370148377182335:Nat:=0
def tw12722045366658671288:Nat:=0
def tw7097910160430482505:Nat:=0
def tw8975523077516821040:Nat:=0
def tw11244524094214987534:Nat:=0
def tw13774655852560481991:Nat:=0
def tw5284908603906678429:Nat:=0
def tw4102343416110415617:Nat:=0
def tw16228663116690646764:Nat:=0
def tw7792262495614158324:Nat:=0
def tw7194034826223535717:Nat:=0
def tw8213542290667296664:Nat:=0
def tw17278543883564078940:Nat:=0
def tw17816383537774255790:Nat:=0
def tw5225302540157034838:Nat:=0
def tw10122001504618128494:Nat:=0
def tw11070708291886332687:Nat:=0
def tw18007309363303606877:Nat:=0
def tw2419616203453620446:Nat:=0
def tw10321322785834861528:Nat:=0
def tw11293382919033977949:Nat:=0
def tw1808885375263436867:Nat:=0
def tw17534700203635226597:Nat:=0
def tw11367128448213866127:Nat:=0
def tw15623234676004636307:Nat:=0
def tw12055692397151985214:Nat:=0
def tw10667536669190110148:Nat:=0
def tw6545434871503140255:Nat:=0
def tw7805980389066923127:Nat:=0
def tw6393622455420744277:Nat:=0
def tw10903984952722101521:Nat:=0
def tw16434293528756373848:Nat:=0
def tw2205144514496521522:Nat:=0
def tw2564614754367116191:Nat:=0
def tw13158433308145747371:Nat:=0
def tw5303490545823706041:Nat:=0
def tw11702646229301984032:Nat:=0
def tw14376212231027508662:Nat:=0
def tw14057382469962019484:Nat:=0
def tw2040252312325735715:Nat:=0
def tw18368188693566777996:Nat:=0
def tw13287973258161489469:Nat:=0
def tw8354642942117771116:Nat:=0
def tw1404806110057694071:Nat:=0
def tw12174559220944210373:Nat:=0
def tw9207725198236324123:Nat:=0
def tw5992075892469588324:Nat:=0
def tw3480477867049974548:Nat:=0
def tw12575358825066887181:Nat:=0
def tw11624056958180331410:Nat:=0
def tw18179051290176710277:Nat:=0
def tw10460238488277583779:Nat:=0
def tw17256625086510208903:Nat:=0
def tw5622218511966849405:Nat:=0
def tw14447995852959452711:Nat:=0
def tw9951774611452963287:Nat:=0
def tw4594469293612234433:Nat:=0
def tw10481381754953328267:Nat:=0
def tw3259001877794899266:Nat:=0
def tw15303671632210678642:Nat:=0
def tw11254050454034726366:Nat:=0
def tw2944623610116871481:Nat:=0
def tw10109717087518650738:Nat:=0
def tw8076648943508355444:Nat:=0
def tw9236495271060255484:Nat:=0
def tw8846408925925421843:Nat:=0
def tw1335220079056160999:Nat:=0
def tw10721984095824561580:Nat:=0
def tw2805312852704675460:Nat:=0
def tw427545028516053490:Nat:=0
def tw7994371464556255783:Nat:=0
def tw4742976861622238537:Nat:=0
def tw11960309959596197468:Nat:=0
def tw469130341963777859:Nat:=0
def tw9346330514003733069:Nat:=0
def tw13770539545030844482:Nat:=0
def tw15277311371521265186:Nat:=0
def tw11754229427845170020:Nat:=0
def tw7615319430812321387:Nat:=0
def tw9747407249048592496:Nat:=0
def tw726230529462997748:Nat:=0
def tw2575112475793097241:Nat:=0
def tw2896917907907488619:Nat:=0
def tw14028171232250059096:Nat:=0
def tw5492640439426817763:Nat:=0
def tw6129810376097696689:Nat:=0
def tw11579127040540162833:Nat:=0
def tw15176463252285440100:Nat:=0
def tw16931964991761557559:Nat:=0
def tw15878409586618029335:Nat:=0
def tw863167724768245710:Nat:=0
def tw3672937344423452618:Nat:=0
def tw8852760588072690733:Nat:=0
def tw12127260508464180392:Nat:=0
def tw6604026548836256928:Nat:=0
def tw4352047137578857273:Nat:=0
def tw16356621473715355124:Nat:=0
def tw1591060292220351333:Nat:=0
def tw960130453178775109:Nat:=0
def tw13292254861084558790:Nat:=0
def tw8253481146107333722:Nat:=0
def tw4344295161915375252:Nat:=0
def tw6230927417750928810:Nat:=0
def tw9533288040303209012:Nat:=0
def tw5245145348926299812:Nat:=0
def tw15450791577895926363:Nat:=0
def tw15247160212849798458:Nat:=0
def tw16054734007805711559:Nat:=0
end PySem.W.Fast
open PySem PySem.W PyProof.Rows
set_option maxRecDepth 100000 in
set_option maxHeartbeats 0 in
theorem PySem.Challenge.cw_levelbench_k54_woods_turned_about_holds : PySem.Challenge.rw_levelbench_k54_woods_turned_about.Holds := by
 w_on;o_law;k_head;(case hw=>w_witness2)
 k_fill
 refine My.walk (c:=171) (Pt:=167) (cU:=256) (Pu:=252) (cV:=451) (Pv:=449) (l:=PySem.Challenge.rw_levelbench_k54_woods_turned_about) rfl rfl (fun w h Y=>qDS Y) (fun w h Y=>qCV.mpr ⟨⟨PySem.W.codeHd_of_K (c:=171) (P:=167) (qDS Y) (by kernel_rfl),PySem.W.km_tabs_of Y 167 (by k_mem)⟩,qCV.mpr ⟨⟨PySem.W.codeHd_of_K (c:=256) (P:=252) (qDS Y) (by kernel_rfl),PySem.W.km_tabs_of Y 252 (by k_mem)⟩,qCV.mpr ⟨⟨PySem.W.codeHd_of_K (c:=451) (P:=449) (qDS Y) (by kernel_rfl),PySem.W.km_tabs_of Y 449 (by k_mem)⟩,fun _ h=>nomatch h⟩⟩⟩) (fun w=>qCV.mpr ⟨by kernel_rfl,qCV.mpr ⟨by kernel_rfl,qCV.mpr ⟨by kernel_rfl,fun _ h=>nomatch h⟩⟩⟩) ?F
 case F =>
  intro w mg fa h KX G hmg;refine' My.all_mk (c:=171) (Pt:=167) (cU:=256) (Pu:=252) (cV:=451) (Pv:=449) KX G hmg ?h0 ?h1 ?h2 ?h3 ?h4 ?h5 ?h6 ?h7 ?h8 ?h9 ?h10 ?h11 ?h12 ?h13 ?h14 ?h15 ?h16 ?h17 ?h18 ?h19 ?h20 ?h21 ?h22 ?h23 ?h24 ?h25 ?h26 ?h27 ?h28 ?h29 ?h30 ?h31 ?h32 ?h33 ?h34 ?h35 ?h36 ?h37 ?h38 ?h39 ?h40 ?h41 ?h42 ?h43 ?h44 ?h45 ?h46 ?h47 ?h48 ?h49 ?h50 ?h51 ?h52 ?h53 ?h54 ?h55 ?h56 ?h57 ?h58
  all_goals try first| k_is| exact ⟨by k_is,_,_,_,_,_,_,_,_,_,by k_is,by k_is,by k_is⟩| exact ⟨by k_is,_,_,_,_,_,_,_,_,by k_is,by k_is,by k_is⟩| exact ⟨by k_is,by k_is,_,_,_,_,_,_,_,_,_,by k_is,by k_is,by k_is⟩| kernel_rfl| decide
