import PyProof.Rows.All
import Wide.All
import OpenK.AllK
import Wide.FinOn
import Lean
import PyProof.EqAt
import PyProof.EqKinds
import PyProof.TupleCall
import PyProof.StrLawsTight
import PyProof.FitsReplace
import KE.KSortTup
import PyProof.TupleKey
import PyProof.SetKind
import PyProof.IsRules
import PyProof.Rows.SetFrom
import PyProof.CollectWalk
import PyProof.DictUpdate
import PyProof.AutoListH
import PyProof.SeqI3
import PyProof.EnumStmt
import PyProof.EnumMake
import PyProof.Rows.CallKwBuiltin
import PyProof.NeKinds
import PyProof.StationsW
import PyProof.ExcClass3
import PyProof.PassesOwn
import OpenK.KOwn
import PyProof.RulesAs
import PyProof.RulesDel
import KE.KIsAll
import PyProof.ExcArgsOwn
import PyProof.StrLawsIn
import PyProof.Rows.Range3
import PyProof.Rows.FStr
import PyProof.DictItems
import PyProof.AttrMissHeap
import PyProof.ListCopy
import KE.KDictOf
import KE.KDictSum
import PyProof.Rows.SortRev
import PyProof.Rows.IntMath
import KE.KLam
import KE.KSortKey
import KE.KNestM
import PyProof.SeqRoads2
import PyProof.ListRange
import KE.KRevIter
import PyProof.Rows.SetObj
import PyProof.InstStoreFacts
import OpenK.KMake
import OpenK.KCls
import OpenK.KMore
import PyProof.ReprHeads
import PyProof.StrLawsRepr
import PyProof.ZipIter
import PyProof.Rows.SumAny
import PySem.Challenge.RW_levelbench_k41_whole_blocks_fill_the_pla
set_option Elab.async false
set_option linter.all false
set_option maxRecDepth 100000
def qAA:=@PySem.wpAny_bind
def qAB:=@if_neg
def qAC:=@if_pos
def qAD:=@List.length_map
def qAE:=@PySem.wpAny_pure
def qAF:=@Nat.le_refl
def qAG:=@PyProof.Rows.wpS_bind
def qAH:=@PyProof.Rows.wpS_pure
def qAI:=@PySem.Heap.get?_push_of_some
def qAJ:=@List.size_toArray
def qAK:=@PySem.Heap.lt_size
def qAL:=@List.mem_of_getElem?
def qAM:=@PySem.sizeLine_eq
def qAN:=@Nat.ne_of_lt
def qAO:=@List.mem_cons
def qAP:=@List.mem_singleton
def qAQ:=@List.mem_append
def qAR:=@decide_eq_true
def qAS:=@List.mem_cons_self
def qAT:=@List.mem_cons_of_mem
def qAU:=@List.map_append
def qAV:=@List.getElem?_eq_some_iff
def qAW:=@Nat.le_trans
def qAX:=@List.length_take
def qAY:=@List.mem_filter
def qAZ:=@List.getElem?_map
def qAa:=@List.mem_map
def qAb:=@decide_eq_false
def qAc:=@PySem.Heap.get?_push_size
def qAd:=@Nat.zero_le
def qAe:=@List.length_cons
def qAf:=@List.length_append
def qAg:=@PySem.PassesOwn.never
def qAh:=@Option.some.inj
def qAi:=@of_decide_eq_true
def qAj:=@List.take_length
def qAk:=@congrArg
def qAl:=@Bool.false_ne_true
def qAm:=@Array.getElem?_toList
def qAn:=@Nat.lt_of_lt_of_le
def qAo:=@List.map_cons
def qAp:=@PySem.Heap.SameBut.update
def qAq:=@PySem.wpAny_mono
def qAr:=@Ne.symm
def qAs:=@List.mem_append_left
def qAt:=@List.getElem?_eq_getElem
def qAu:=@Nat.ne_of_gt
def qAv:=@List.mem_append_right
def qAw:=@PySem.F.plainAttrs_list
def qAx:=@PySem.wpAny_holding
def qAy:=@List.nodup_nil
def qAz:=@PyProof.Rows.wpS_forRange
def qA0:=@PySem.Obj.data_mapFields
def qA1:=@List.mem_range
def qA2:=@List.append_nil
def qA3:=@PyProof.Rows.wpS_mono
def qA4:=@List.length_drop
def qA5:=@List.lookup_cons
def qA6:=@List.all_eq_true
def qA7:=@List.mem_iff_getElem
def qA8:=@List.take_append_drop
def qA9:=@PyProof.Rows.wpS_modify
def qBA:=@beq_eq_false_iff_ne
def qBB:=@PySem.wpAny_truthy_bool
def qBC:=@List.nodup_cons
def qBD:=@List.getD_eq_getElem?_getD
def qBE:=@Classical.byContradiction
def qBF:=@List.take_of_length_le
def qBG:=@PySem.codeAny_builtin
def qBH:=@List.length_filter_le
def qBI:=@Nat.lt_irrefl
def qBJ:=@PySem.W.kia_one
def qBK:=@Nat.le_succ
def qBL:=@PySem.Heap.get?_update_self
def qBM:=@List.append_assoc
def qBN:=@List.length_singleton
def qBO:=@PyProof.Rows.wpS_get
def qBP:=@PySem.Around.under_plainId
def qBQ:=@PySem.wpAny_rule
def qBR:=@List.filter_sublist
def qBS:=@Array.length_toList
def qBT:=@PySem.mem_of_lookup
def qBU:=@Option.map_eq_some_iff
def qBV:=@List.map_map
def qBW:=@PySem.wpAny_askSetting
def qBX:=@List.flatten_append
def qBY:=@PySem.Heap.size_push
def qBZ:=@List.flatten_cons
def qBa:=@List.foldl_cons
def qBb:=@PySem.call_meets
def qBc:=@List.length_nil
def qBd:=@Array.toList_extract
def qBe:=@List.pairwise_cons
def qBf:=@List.getElem?_drop
def qBg:=@List.nodup_append
def qBh:=@List.not_mem_nil
def qBi:=@PySem.wpAny_setField
def qBj:=@PySem.F.slot_list_append
def qBk:=@PySem.F.type_list_append
def qBl:=@Nat.le_of_eq
def qBm:=@List.getElem?_take_of_lt
def qBn:=@PySem.Heap.get?_update_other
def qBo:=@if_true
def qBp:=@Nat.lt_succ_of_lt
def qBq:=@PyProof.Rows.wpS_lift
def qBr:=@Array.getElem?_eq_some_iff
def qBs:=@Nat.le_add_right
def qBt:=@List.mem_of_mem_take
def qBu:=@PySem.F.called_set
def qBv:=@PyProof.Rows.get?_update_seq
def qBw:=@List.filter_cons
def qBx:=@Nat.le_of_lt
def qBy:=@PySem.wpAny_standAt
def qBz:=@PySem.wpAny_passesOwn
def qB0:=@PySem.wpAny_load
def qB1:=@Bool.eq_iff_iff
def qB2:=@beq_iff_eq
def qB3:=@PySem.wpAny_Call_Name_kw
def qB4:=@List.getElem?_append_right
def qB5:=@List.getElem?_append_left
def qB6:=@Bool.and_eq_true
def qB7:=@List.getElem_mem
def qB8:=@PySem.plainId_quiet
def qB9:=@or_false
def qCA:=@PySem.wpAny_call_entry
def qCB:=@PySem.wpAny_letGo
def qCC:=@decide_eq_true_eq
def qCD:=@List.filter_append
def qCE:=@List.countP_append
def qCF:=@PyProof.Rows.listUpdate_at
def qCG:=@PySem.Paired.length
def qCH:=@List.filterMap_cons
def qCI:=@PyProof.Rows.callWith_type1
def qCJ:=@Nat.lt_succ_self
def qCK:=@PySem.wpAny_call
def qCL:=@PySem.codeAny_mono
def qCM:=@List.take_sublist
def qCN:=@if_false
def qCO:=@List.any_cons
def qCP:=@List.find?_cons
def qCQ:=@Nat.lt_trans
def qCR:=@PySem.wpAny_newObj_type
def qCS:=@PySem.Walks.list
def qCT:=@PySem.wpAny_attempt
def qCU:=@Int.emod_nonneg
def qCV:=@Int.emod_lt_of_pos
def qCW:=@Array.toList_push
def qCX:=@Nat.not_lt_zero
def qCY:=@List.length_eq_zero_iff
def qCZ:=@PySem.Obj.isFreed_of_fields
def qCa:=@PySem.wpAny_updateSeq
def qCb:=@PySem.wpAny_field
def qCc:=@List.drop_eq_getElem_cons
def qCd:=@PySem.wpAny_tryCatch
def qCe:=@PySem.wpAny_ite_split
def qCf:=@List.length_reverse
def qCg:=@List.replicate_succ
def qCh:=@PySem.wpAny_specialOf
def qCi:=@Nat.add_zero
def qCj:=@Array.toList_append
def qCk:=@List.getElem?_cons_succ
def qCl:=@Nat.not_lt
def qCm:=@List.map_take
def qCn:=@List.map_drop
def qCo:=@List.take_succ
def qCp:=@PySem.typeLookup_type
def qCq:=@PySem.builtinLookup_eq_fast
def qCr:=@List.Perm.refl
def qCs:=@PySem.Obj.cls_mapFields
def qCt:=@of_decide_eq_false
def qCu:=@Array.perm_iff_toList_perm
def qCv:=@PySem.wpAny_setField_rec
def qCw:=@Nat.min_eq_left
def qCx:=@List.drop_of_length_le
def qCy:=@List.length_erase_of_mem
def qCz:=@PyProof.Rows.wpS_reverse
def qC0:=@PyProof.Rows.seqEpoch_at
def qC1:=@PySem.wpAny_newList
def qC2:=@List.getElem_idxOf
def qC3:=@PySem.wpAny_execs_nil
def qC4:=@PySem.wpAny_pyIter_list
def qC5:=@PySem.wpAny_evalAll_cons
def qC6:=@PySem.SeqAt.EqAt.same
def qC7:=@Nat.lt_of_le_of_lt
def qC8:=@PySem.tupleKind_room_in1
def qC9:=@PySem.wpAny_typeOf
def qDA:=@Array.forIn_toList
def qDB:=@Nat.lt_of_not_le
def qDC:=@PySem.wpAny_callSpecial?_slot
def qDD:=@PySem.wpAny_isInstance
def qDE:=@PySem.wpAny_newTuple
def qDF:=@PySem.F.slot_enumerate_next
def qDG:=@List.all_map
def qDH:=@List.map_congr_left
def qDI:=@List.foldl_append
def qDJ:=@List.take_zero
def qDK:=@Bool.false_eq_true
def qDL:=@PySem.F.slot_list_insert
def qDM:=@PySem.F.type_list_insert
def qDN:=@List.take_succ_cons
def qDO:=@List.idxOf_lt_length_iff
def qDP:=@List.getElem?_reverse
def qDQ:=@List.Sublist.refl
def qDR:=@List.forall_mem_cons
def qDS:=@List.getElem?_set_self
def qDT:=@Array.mem_toList_iff
def qDU:=@PySem.W.cellsFrom_some
def qDV:=@PySem.Around.frames_deeper
def qDW:=@List.eraseIdxIfInBounds_toArray
def qDX:=@List.mem_of_mem_drop
def qDY:=@Array.getElem?_eq_getElem
def qDZ:=@List.mem_of_find?_eq_some
def qDa:=@List.getElem?_eq_none
def qDb:=@Array.size_setIfInBounds
def qDc:=@PyProof.Rows.F.plain_set_update_loop
def qDd:=@List.getElem?_eq_none_iff
def qDe:=@Option.map_eq_none_iff
def qDf:=@List.length_pos_of_mem
def qDg:=@PySem.F.slot_list_extend
def qDh:=@PySem.F.type_list_extend
def qDi:=@PyProof.Rows.callWith_builtin_kwB
def qDj:=@List.pairwise_mergeSort
def qDk:=@List.getElem?_of_mem
namespace L2
open PySem PySem.Spec PyProof.Rows
variable {us:List Value}{x:Str}{u:Value}{a b C:Addr}{P:Program}{w:World}{h base:Heap}{t' i:Nat}{e tg:Expr}{A:Around}{s:Shared}{pos:Pos}{pins:List (Addr×Obj)}{op:CmpOp}{K:PySem.W.Frag}
abbrev Key:=Sum Int Str
def keyIs:Key->Value->Bool
 | .inl k,v=>Value.isInt k v
 | .inr x,v=>Value.isStrOf x v
def keyH (w:World):Key->Int
 | .inl k=>hashInt k
 | .inr x=>hashStr w x
theorem zA0:∀{k:Key} {v:Value},keyIs k v=true->(∃i t,k=Sum.inl i/\v=Value.int i t)\/(∃x t,k=Sum.inr x/\v=Value.str x t)
 | .inl i,v,h=>by
  obtain ⟨t,e⟩:=Value.isInt_shape (k:=i) (v:=v) h;exact .inl ⟨i,t,rfl,e⟩
 | .inr x,v,h=>by
  obtain ⟨t,e⟩:=Value.isStrOf_shape (x:=x) (v:=v) h;exact .inr ⟨x,t,rfl,e⟩
theorem keyIs_int (i:Int) (t:Tok):keyIs (.inl i) (.int i t)=true:=by simp [keyIs,Value.isInt]
theorem keyIs_str (x:Str) (t:Tok):keyIs (.inr x) (.str x t)=true:=by simp [keyIs,Value.isStrOf]
theorem key_ll (a b:Int):decide ((Sum.inl a:Key)=Sum.inl b)=(a==b):=by
 by_cases e:a=b
 ·subst e;simp
 ·have h:¬(Sum.inl a:Key)=Sum.inl b:=fun q=>e (Sum.inl.inj q);rw [qAb h];exact (qBA.mpr e).symm
theorem key_rr (a b:Str):decide ((Sum.inr a:Key)=Sum.inr b)=decide (a=b):=by
 by_cases e:a=b
 ·subst e;simp
 ·have h:¬(Sum.inr a:Key)=Sum.inr b:=fun q=>e (Sum.inr.inj q);rw [qAb h,qAb e]
theorem key_lr (a:Int) (b:Str):decide ((Sum.inl a:Key)=Sum.inr b)=false:=qAb (fun q=>nomatch q)
theorem key_rl (a:Str) (b:Int):decide ((Sum.inr a:Key)=Sum.inl b)=false:=qAb (fun q=>nomatch q)
def zBc (prog:Program) (w:World):PySem.KeyKind prog w Key where
 is:=keyIs
 hash:=keyH w
 inj:=fun v a b ha hb=>by
  rcases zA0 ha with ⟨i,t,rfl,rfl⟩| ⟨x,t,rfl,rfl⟩
  ·rcases zA0 hb with ⟨j,u,rfl,e⟩| ⟨y,u,rfl,e⟩
   ·injection e with e1 _;rw [e1]
   ·exact nomatch e
  ·rcases zA0 hb with ⟨j,u,rfl,e⟩| ⟨y,u,rfl,e⟩
   ·exact nomatch e
   ·injection e with e1 _;rw [e1]
 byValue:=fun k v h=>by
  rcases zA0 h with ⟨i,t,rfl,rfl⟩| ⟨x,t,rfl,rfl⟩<;>rfl
 pyHash:=fun hv h=>by
  rcases zA0 hv with ⟨i,t,rfl,rfl⟩| ⟨x,t,rfl,rfl⟩
  ·exact wpAny_pyHash_int h
  ·exact wpAny_pyHash_str h
 eqBool:=fun hu hv h=>by
  rcases zA0 hu with ⟨i,t,rfl,rfl⟩| ⟨x,t,rfl,rfl⟩
  ·rcases zA0 hv with ⟨j,u,rfl,rfl⟩| ⟨y,u,rfl,rfl⟩
   ·rw [key_ll] at h;exact wpAny_eqBool_int h
   ·rw [key_lr] at h;exact SeqAt.EqAt.int_str i t y u _ _ _ _ h
  ·rcases zA0 hv with ⟨j,u,rfl,rfl⟩| ⟨y,u,rfl,rfl⟩
   ·rw [key_rl] at h;exact SeqAt.EqAt.str_int x t j u _ _ _ _ h
   ·rw [key_rr] at h;exact wpAny_eqBool_str h
 «strs»:=fun k x t v h=>by
  rcases zA0 h with ⟨i,u,rfl,e⟩| ⟨y,u,rfl,e⟩
  ·exact nomatch e
  ·injection e with e1 _;subst e1
   cases v<;>rfl
theorem mixKind_int (prog:Program) (w:World) (i:Int) (t:Tok):(zBc prog w).is (.inl i) (.int i t)=true:=keyIs_int i t
theorem mixKind_str (prog:Program) (w:World) (x:Str) (t:Tok):(zBc prog w).is (.inr x) (.str x t)=true:=keyIs_str x t
inductive V where
 | non| bl (b:Bool)| int (i:Int)| str (x:Str)| byt (b:Array UInt8)| flt (b:UInt64)| ref (a:Addr)| ty (n:String)
 deriving DecidableEq
variable {xs:List V}{v y:V}
def RelV:V->Value->Prop
 | .non,u=>u=Value.none
 | .bl b,u=>u=Value.bool b
 | .int i,u=>∃t,u=Value.int i t
 | .str x,u=>∃t,u=Value.str x t
 | .byt b,u=>∃t,u=Value.bytes b t
 | .flt b,u=>∃t,u=Value.float b t
 | .ref a,u=>u=Value.ref a
 | .ty n,u=>u=Value.type n
abbrev Vals:List V->List Value->Prop:=Paired RelV
theorem Vals.length (r:Vals xs us):xs.length=us.length:=qCG r
theorem Vals.get:∀{xs:List V} {us:List Value} {i:Nat} {x:V},Vals xs us->xs[i]?=some x->∃u,us[i]?=some u/\RelV x u
 | _,_,_,_,.nil,e=>by simp at e
 | _,_,0,_,.cons r _,e=>by simp at e;subst e;exact ⟨_,rfl,r⟩
 | _,_,i+1,x,.cons _ t,e=>by
  obtain ⟨u,h1,h2⟩:=Vals.get (i:=i) (x:=x) t (by simpa using e);exact ⟨u,by simpa using h1,h2⟩
theorem Vals.set {x:V} (r:RelV x u):∀{xs:List V} {us:List Value} (i:Nat),Vals xs us->Vals (xs.set i x) (us.set i u)
 | _,_,_,.nil=>.nil
 | _,_,0,.cons _ t=>.cons r t
 | _,_,i+1,.cons q t=>.cons q (Vals.set r i t)
theorem Vals.append:∀{xs ys:List V} {us ws:List Value},Vals xs us->Vals ys ws->Vals (xs++ys) (us++ws)
 | _,_,_,_,.nil,s=>s
 | _,_,_,_,.cons r t,s=>.cons r (Vals.append t s)
theorem Vals.take:∀{xs:List V} {us:List Value} (n:Nat),Vals xs us->Vals (xs.take n) (us.take n)
 | _,_,0,_=>.nil
 | _,_,_+1,.nil=>.nil
 | _,_,n+1,.cons r t=>.cons r (Vals.take n t)
theorem Vals.drop:∀{xs:List V} {us:List Value} (n:Nat),Vals xs us->Vals (xs.drop n) (us.drop n)
 | _,_,0,r=>r
 | _,_,_+1,.nil=>.nil
 | _,_,n+1,.cons _ t=>Vals.drop n t
def RelO:Option V->Option Value->Prop
 | some v,some u=>RelV v u
 | none,none=>True
 | _,_=>False
def KV {κ:Type}:List (κ×V)->List (κ×Value)->Prop:=Paired fun (p:κ×V) (q:κ×Value)=>p.1=q.1/\RelV p.2 q.2
def kV:Key->V
 | .inl i=>.int i
 | .inr x=>.str x
inductive HO where
 | lst (xs:List V)
 | tup (xs:List V)
 | dK (kvs:List (Key×V))| dT (kvs:List (List Key×V))
 | set (S:Int->Bool) (n:Nat)
 | ins (C dx:Addr) (fs:List (Str×V))
 | own (x:Addr)
 | xd (fs:List (Str×V))
 | met (f x:Addr)
 | rng (lo hi:Int)
 | frz (o:Obj) (u:HO)
 | tbl (ps:Array Value)
 | ext (φ:Heap->Prop)
variable {o:HO}
abbrev Hp:=Addr->Option HO
variable {H:Hp}
def upd (H:Hp) (a:Addr) (o:HO):Hp:=fun b=>if b=a then some o else H b
theorem upd_same :upd H a o a=some o:=by unfold upd;rw [qAC rfl]
theorem upd_ne (h:b≠a):upd H a o b=H b:=by unfold upd;rw [qAB h]
theorem zCf {u:HO}:upd (upd H a o) a u=upd H a u:=by
 funext b;unfold upd;split<;>rfl
theorem zBw {u:HO} (h:H a=some o) (h':H b=some u) (d:o≠u):a≠b:=by
 intro e;subst e;rw [h] at h';exact d (qAh h')
theorem zAj (h:H a=some o) (h':H b=none):a≠b:=by
 intro e;subst e;rw [h] at h';cases h'
section
variable (P:Program) (w:World)
def zAx (H:Hp) (h:Heap) (a:Addr):HO->Prop
 | .lst xs=>xs.length<=sizeLine/\∃(its:List Value) (n:Nat),Vals xs its/\h.get? a=some {cls:=.type "list",data:=.seq its.toArray n}
 | .tup xs=>xs.length<=sizeLine/\∃its:List Value,Vals xs its/\IsTup h a its.toArray
 | .dK kvs=>kvs.length<=sizeLine/\(a==sysModules)=false/\∃vs,KV kvs vs/\h.DictOf (zBc P w) a vs
 | .dT kvs=>kvs.length<=sizeLine/\(a==sysModules)=false/\∃xs:List (List Key×Addr×Value),
   Paired (fun (p:List Key×V) (q:List Key×Addr×Value)=>p.1=q.1/\H q.2.1=some (.tup (p.1.map kV))/\RelV p.2 q.2.2) kvs xs /\
   ∃o es ep,h.get? a=some o/\o.ExactDict/\o.data= .dict es ep/\es.toList=xs.map (entryOfKey (tupleKind (zBc P w)))/\(xs.map (·.1)).Nodup
 | .set S n=>h.SetOf (intKind P w) a S n
 | .ins C dx fs=>H dx=some (.own a)/\fs.length<=1000/\dx≠a/\h.get? a=some (PySem.W.instObj C dx) /\
   ∃mA,h.Ns1 dx mA/\(∀f,RelO (fs.lookup f) (mA f))/\PySem.Within mA (fs.map (·.1))
 | .own _=>∃o,h.get? a=some o
 | .xd fs=>∃mA,h.Ns1 a mA/\∀f,RelO (fs.lookup f) (mA f)
 | .rng lo hi=>∃t u v,h.get? a=some {cls:=.type "range",data:=.fields #[.int lo t,.int hi u,.int 1 v]}
 | .frz o u=>h.get? a=some o/\zAx H h a u
 | .tbl ps=>h.get? a=some {cls:=.none,data:=.fields ps}
 | .met f x=>h.get? a=some (PySem.W.methodObj (.ref f) (.ref x))
 | .ext φ=>φ h/\(∃o,h.get? a=some o)/\∀h1 h2:Heap,φ h1->(∀o,h1.get? a=some o->h2.get? a=some o)->φ h2
def HOk (H:Hp) (h:Heap):Prop:=∀a o,H a=some o->zAx P w H h a o
end
section
variable {P:Program} {w:World} {H H':Hp} {h h':Heap} {a:Addr} {o:HO}
theorem zAx.lt (x:zAx P w H h a o):a<h.objs.size:=by
 cases o with
 | lst xs=>obtain ⟨_,_,_,_,e⟩:=x;exact qAK e
 | tup xs=>obtain ⟨_,_,_,p⟩:=x;exact p.lt
 | dK kvs=>obtain ⟨_,_,_,_,o,_,_,e,_⟩:=x;exact qAK e
 | dT kvs=>obtain ⟨_,_,_,_,o,_,_,e,_⟩:=x;exact qAK e
 | set S n=>obtain ⟨o,_,_,_,e,_⟩:=x;exact qAK e
 | ins C dx fs=>obtain ⟨_,_,_,e,_⟩:=x;exact qAK e
 | own y=>obtain ⟨_,e⟩:=x;exact qAK e
 | xd fs=>obtain ⟨_,⟨_,_,_,e,_⟩,_⟩:=x;exact qAK e
 | rng lo hi=>obtain ⟨_,_,_,e⟩:=x;exact qAK e
 | frz ob u=>obtain ⟨e,_⟩:=x;exact qAK e
 | tbl ps=>exact qAK (show h.get? a=some _ from x)
 | met f y=>exact qAK (show h.get? a=some _ from x)
 | ext φ=>obtain ⟨_,⟨_,e⟩,_⟩:=x;exact qAK e
theorem Paired.mapP {α β:Type} {F G:α->β->Prop}:∀{l₁:List α} {l₂:List β},Paired F l₁ l₂->(∀a b,F a b->G a b)->Paired G l₁ l₂
 | _,_,.nil,_=>.nil
 | _,_,.cons r t,f=>.cons (f _ _ r) (Paired.mapP t f)
theorem zAx.stay (x:zAx P w H h a o) (k:∀b u,(b=a\/H b=some (.own a))->h.get? b=some u->h'.get? b=some u)
  (ho:∀b,H b=some (.own a)->H' b=some (.own a)) (ht:∀b xs,H b=some (.tup xs)->H' b=some (.tup xs)):zAx P w H' h' a o:=by
 induction o with
 | lst xs=>obtain ⟨z,its,n,r,e⟩:=x;exact ⟨z,its,n,r,k _ _ (.inl rfl) e⟩
 | tup xs=>obtain ⟨z,its,r,ob,e,c⟩:=x;exact ⟨z,its,r,ob,k _ _ (.inl rfl) e,c⟩
 | dK kvs=>obtain ⟨z,y,vs,r,ob,es,ep,e,c⟩:=x;exact ⟨z,y,vs,r,ob,es,ep,k _ _ (.inl rfl) e,c⟩
 | dT kvs =>
  obtain ⟨z,y,xs,r,ob,es,ep,e,c⟩:=x;exact ⟨z,y,xs,Paired.mapP r fun p q z=>⟨z.1,ht _ _ z.2.1,z.2.2⟩,ob,es,ep,k _ _ (.inl rfl) e,c⟩
 | set S n=>obtain ⟨ob,es,ep,t,e,c⟩:=x;exact ⟨ob,es,ep,t,k _ _ (.inl rfl) e,c⟩
 | ins C dx fs =>
  obtain ⟨d,z,ne,e,mA,⟨od,es,ep,e2,c⟩,r⟩:=x;exact ⟨ho _ d,z,ne,k _ _ (.inl rfl) e,mA,⟨od,es,ep,k _ _ (.inr d) e2,c⟩,r⟩
 | own y=>obtain ⟨ob,e⟩:=x;exact ⟨ob,k _ _ (.inl rfl) e⟩
 | xd fs=>obtain ⟨mA,⟨od,es,ep,e,c⟩,r⟩:=x;exact ⟨mA,⟨od,es,ep,k _ _ (.inl rfl) e,c⟩,r⟩
 | rng lo hi=>obtain ⟨t,u,v,e⟩:=x;exact ⟨t,u,v,k _ _ (.inl rfl) e⟩
 | frz ob u ih=>obtain ⟨e,q⟩:=x;exact ⟨k _ _ (.inl rfl) e,ih q⟩
 | tbl ps =>
  have e:h.get? a=some {cls:=.none,data:=.fields ps}:=x;show h'.get? a=some {cls:=.none,data:=.fields ps};exact k a _ (.inl rfl) e
 | met f y =>
  have e:h.get? a=some (PySem.W.methodObj (.ref f) (.ref y)):=x;show h'.get? a=some (PySem.W.methodObj (.ref f) (.ref y));exact k a _ (.inl rfl) e
 | ext φ=>obtain ⟨p,⟨o,e⟩,st⟩:=x;exact ⟨st _ _ p fun o q=>k _ _ (.inl rfl) q,⟨o,k _ _ (.inl rfl) e⟩,st⟩
theorem HOk.lt (x:HOk P w H h) (e:H a=some o):a<h.objs.size:=(x a o e).lt
theorem HOk.fresh (x:HOk P w H h) (e:h.objs.size<=a):H a=none:=by
 cases q:H a with
 | none=>rfl
 | some u=>exact absurd (qAn (x.lt q) e) (qBI _)
theorem HOk.kept (x:HOk P w H h) (k:∀b u,h.get? b=some u->h'.get? b=some u):HOk P w H h':=fun a o e =>
 (x a o e).stay (fun b u _ q=>k b u q) (fun _ q=>q) fun _ _ q=>q
theorem HOk.laid (x:HOk P w H h) (k:∀b u,h.get? b=some u->h'.get? b=some u) (hp:h.objs.size<=a) (new:zAx P w (upd H a o) h' a o):HOk P w (upd H a o) h':=fun b u e=>by
 have hn:=x.fresh hp
 by_cases hb:b=a
 ·subst hb;rw [upd_same] at e;cases e;exact new
 ·rw [upd_ne hb] at e;exact (x b u e).stay (fun c v _ q=>k c v q) (fun c q=>by rw [upd_ne (zAj q hn)];exact q) fun c xs q=>by rw [upd_ne (zAj q hn)];exact q
end
def Rd (H:Hp) (a:Addr) (u:HO):Prop:=H a=some u\/∃o,H a=some (.frz o u)
theorem Rd.ok {u:HO} (r:Rd H a u) (x:HOk P w H h):zAx P w H h a u:=by
 rcases r with r| ⟨o,r⟩
 ·exact x a u r
 ·obtain ⟨_,q⟩:=x a _ r;exact q
def Mut:Option HO->Prop
 | some (.lst _)=>True
 | some (.dK _)=>True
 | some (.dT _)=>True
 | some (.set _ _)=>True
 | some (.ins _ _ _)=>True
 | some (.ext _)=>True
 | _=>False
section
variable {P:Program} {w:World} {H:Hp} {h h':Heap} {x e:Addr} {o':HO}
theorem HOk.write (ok:HOk P w H h) (mu:Mut (H x)) (he:e=x\/H e=some (.own x)) (k:∀b u,b≠e->h.get? b=some u->h'.get? b=some u) (heo:∃u,h'.get? e=some u)
  (new:zAx P w (upd H x o') h' x o'):HOk P w (upd H x o') h':=fun b u q=>by
 have nown:∀c y,H c=some (.own y)->c≠x:=fun c y r z=>by subst z;rw [r] at mu;exact mu
 have ntup:∀c xs,H c=some (.tup xs)->c≠x:=fun c xs r z=>by subst z;rw [r] at mu;exact mu
 by_cases hb:b=x
 ·subst hb;rw [upd_same] at q;cases q;exact new
 ·rw [upd_ne hb] at q
  by_cases hbe:b=e
  ·have q':H b=some (.own x):=by
    rcases he with z| z
    ·exact absurd (hbe.trans z) hb
    ·rw [hbe];exact z
   rw [q] at q';cases q';obtain ⟨v,hv⟩:=heo;exact ⟨v,by rw [hbe];exact hv⟩
  ·refine (ok b u q).stay (fun c v hc r=>k c v ?_ r) (fun c r=>by rw [upd_ne (nown c b r)];exact r) fun c xs r=>by rw [upd_ne (ntup c xs r)];exact r
   rcases hc with rfl| hc
   ·exact hbe
   ·rintro rfl;rcases he with z| z
    ·exact nown c b hc z
    ·rw [hc] at z;cases z;exact hb rfl
end
structure Un (fs ex:List Addr) (H H':Hp) (h h':Heap):Prop where
 keep:∀b o,h.get? b=some o->H b=none->b∉fs->b∉ex->h'.get? b=some o
 slot:∀b o,h.get? b=some o->H b=none->b∈fs->b∉ex->∃sl,h'.get? b=some {o with slots:=sl}
 free:∀b o,h.get? b=some o->H b=none->b∉ex->H' b=none
 there:∀b o,h.get? b=some o->b∉ex->∃o',h'.get? b=some o'
 tups:∀b xs,H b=some (.tup xs)->H' b=some (.tup xs)
 frzs:∀b o u,H b=some (.frz o u)->H' b=some (.frz o u)
 tbls:∀b ps,H b=some (.tbl ps)->∃more,H' b=some (.tbl (ps++more))
section
variable {fs fs' ex ex':List Addr} {H H1 H2:Hp} {h h1 h2 h':Heap} {a x e:Addr} {o:HO}
theorem Un.any (u:Un fs ex H H1 h h1) {ob:Obj} (q:h.get? b=some ob) (n:H b=none) (hx:b∉ex):∃sl,h1.get? b=some {ob with slots:=sl}:=by
 by_cases hb:b∈fs
 ·exact u.slot b ob q n hb hx
 ·exact ⟨ob.slots,u.keep b ob q n hb hx⟩
theorem Un.kept (k:∀b u,h.get? b=some u->h'.get? b=some u):Un fs ex H H h h' :=
 ⟨fun b ob q _ _ _=>k b ob q,fun b ob q _ _ _=>⟨ob.slots,k b ob q⟩,fun _ _ _ n _=>n,fun b ob q _=>⟨ob,k b ob q⟩,fun _ _ q=>q,fun _ _ _ q=>q,fun _ ps q=>⟨#[],by rw [q];simp⟩⟩
theorem Un.refl:Un fs ex H H h h:=Un.kept fun _ _ q=>q
theorem Un.laid (k:∀b u,h.get? b=some u->h'.get? b=some u) (hp:h.objs.size<=a) (hn:H a=none):Un fs ex H (upd H a o) h h' where
 keep:=fun b u q _ _ _=>k b u q
 slot:=fun b u q _ _ _=>⟨u.slots,k b u q⟩
 free:=fun b u q n _=>by rw [upd_ne (qAN (qAn (qAK q) hp))];exact n
 there:=fun b u q _=>⟨u,k b u q⟩
 tups:=fun b xs q=>by rw [upd_ne (zAj q hn)];exact q
 frzs:=fun b u xs q=>by rw [upd_ne (zAj q hn)];exact q
 tbls:=fun b ps q=>⟨#[],by rw [upd_ne (zAj q hn),q];simp⟩
theorem Un.write (mu:Mut (H x)) (he:e=x\/H e=some (.own x)) (k:∀b u,b≠e->h.get? b=some u->h'.get? b=some u) (heo:∃u,h'.get? e=some u):Un fs ex H (upd H x o) h h':=by
 have hx:∀b,H b=none->b≠x:=fun b n z=>by subst z;rw [n] at mu;exact mu
 have hb:∀b,H b=none->b≠e:=fun b n z=>by
  subst z;rcases he with r| r
  ·exact hx b n r
  ·rw [n] at r;cases r
 have hm:∀b u,H b=some u->¬Mut (some u)->b≠x:=fun b u q nm z=>by subst z;rw [q] at mu;exact nm mu
 refine ⟨fun b u q n _ _=>k b u (hb b n) q,fun b u q n _ _=>⟨u.slots,k b u (hb b n) q⟩,fun b u q n _=>by rw [upd_ne (hx b n)];exact n,fun b u q _=>?_,
  fun b xs q=>by rw [upd_ne (hm b _ q fun z=>z)];exact q,fun b u xs q=>by rw [upd_ne (hm b _ q fun z=>z)];exact q,fun b ps q=>⟨#[],by rw [upd_ne (hm b _ q fun z=>z),q];simp⟩⟩
 by_cases hbe:b=e
 ·subst hbe;exact heo
 ·exact ⟨u,k b u hbe q⟩
end
def trk (h:Heap) (H:Hp):List Addr:=(List.range h.objs.size).filter fun a=>(H a).isSome
def hidT (h:Heap) (H:Hp):Heap:=PySem.W.hideAll h (trk h H)
theorem hidT_size (h:Heap) (H:Hp):(hidT h H).objs.size=h.objs.size:=PySem.W.hideAll_size _ _
theorem hidT_get {o:Obj} (e:h.get? b=some o) (n:H b=none):(hidT h H).get? b=some o :=
 PySem.W.hideAll_get _ e fun hm=>by
  have q:(H b).isSome=true:=(qAY.mp hm).2;rw [n] at q;simp at q
theorem of_hidT {o:Obj} (e:(hidT h H).get? b=some o):h.get? b=some o/\H b=none:=by
 have e':h.get? b=some o:=PySem.W.of_hideAll (trk h H) e;refine ⟨e',?_⟩
 cases q:H b with
 | none=>rfl
 | some x =>
  have hm:b∈trk h H:=qAY.mpr ⟨qA1.mpr (qAK e'),by simp [q]⟩;have z:(hidT h H).get? b=none:=PySem.W.hideAll_none (trk h H) hm;rw [z] at e;cases e
structure Mod (K:PySem.W.Frag) (mg:Str->Option Value) (base:Heap):Prop where
 kin:K.In base
 glob:base.Ns mainGlobals mg
 blt:∃mb,base.Ns builtinsNs mb/\∀x:Str,x≠ "__name__" ->mb x=bootBuiltins x
 nolimit:base.NoLimit
structure Cx where
 prog:Program
 w:World
 K:PySem.W.Frag
 mg:Str->Option Value
 base:Heap
 A:Around
 N:List Str
 s₀:Shared
 H₀:Hp
 env:Env
 outer:List Env
 stack:List Env
 ex:List Addr
 fn:Str->Bool
 calm:Bool
 pn:List (Addr×Obj)
 xe:Value->Shared->Prop
variable {X:Cx}
def frs (l:List Env):List Addr:=l.filterMap (·.frame)
abbrev Cx.fs (X:Cx):List Addr:=frs X.outer
def Vis (sc:Scope) (x:Str):Prop:=sc.names.lookup x=some .local\/sc.names.lookup x=some .cell\/sc.names.lookup x=some .free
def Loc (sc:Scope) (x:Str):Prop:=sc.names.lookup x=some .local\/sc.names.lookup x=some .cell
def Look (env:Env) (h:Heap) (m:Str->Option Value) (x:Str) (u:Value):Prop :=
 (env.kindOf x=some .local/\m x=some u)\/((env.kindOf x=some .cell\/env.kindOf x=some .free)/\∃c,env.cells.lookup x=some c/\h.IsCell c (some u))
structure Cx.Ok (X:Cx):Prop where
 mod:Mod X.K X.mg X.base
 kind:X.env.scope.kind= .function
 glob:X.env.globals=mainGlobals
 blt:X.env.builtins=builtinsNs
 above:X.s₀.heap.objs.size<=X.env.locals
 inj:∀x y c,X.env.cells.lookup x=some c->X.env.cells.lookup y=some c->x=y
 has:∀x,(X.env.kindOf x=some .cell\/X.env.kindOf x=some .free)->∃c,X.env.cells.lookup x=some c
 cab:∀x c,X.fn x=true->X.env.cells.lookup x=some c->X.s₀.heap.objs.size<=c
 hd:X.calm=true->X.A.handled=none
 frames:X.A.frames=some X.stack
 stk:X.stack=X.outer\/(X.stack=X.env::X.outer/\X.env.frame=some X.env.locals)
 exf:∀b∈X.ex,b≠X.env.locals/\∀x c,X.env.cells.lookup x=some c->c≠b
 bs:∀b o,X.base.get? b=some o->X.s₀.heap.get? b=some o/\X.H₀ b=none
 bsz:X.base.objs.size<=X.s₀.heap.objs.size
 noex:∀b o,X.base.get? b=some o->b∉X.ex
 exfs:∀b∈X.ex,b∉X.fs
 funs:X.s₀.heap.FunFrames X.base X.outer
 frf:∀b∈X.fs,X.H₀ b=none
structure Inv (X:Cx) (pins:List (Addr×Obj)) (σ:List (Option V)) (H:Hp) (s:Shared):Prop where
 ok:X.Ok
 os:s.os=X.s₀.os
 bare:AllBare s.gens
 base:Un X.fs X.ex X.H₀ H X.s₀.heap s.heap
 loc:∃m,s.heap.Ns X.env.locals m/\∀(i:Nat) (x:Str) (v:V),X.N[i]?=some x->σ[i]?=some (some v)->Vis X.env.scope x->∃u,RelV v u/\Look X.env s.heap m x u
 cell:∀x c,X.env.cells.lookup x=some c->∃v,s.heap.IsCell c v
 free:H X.env.locals=none
 freeC:∀x c,X.env.cells.lookup x=some c->H c=none
 pin:∀p∈X.pn++pins,s.heap.get? p.1=some p.2/\H p.1=none/\p.1≠X.env.locals/\p.1∉X.fs/\∀v,p.2.data≠.cell v
 hok:HOk X.prog X.w H s.heap
 len:σ.length=X.N.length
section
variable {X:Cx} {pins:List (Addr×Obj)} {σ:List (Option V)} {H H':Hp} {s:Shared} {h':Heap}
theorem Cx.Ok.nofr (ok:X.Ok) {o:Obj} (e:X.base.get? b=some o):b∉X.fs:=fun hb=>by
 have:=(ok.funs.mem hb).1;rw [e] at this;cases this
theorem Inv.bs (I:Inv X pins σ H s):∀b o,X.base.get? b=some o->s.heap.get? b=some o/\H b=none:=fun b o e =>
 ⟨I.base.keep b o (I.ok.bs b o e).1 (I.ok.bs b o e).2 (I.ok.nofr e) (I.ok.noex b o e),I.base.free b o (I.ok.bs b o e).1 (I.ok.bs b o e).2 (I.ok.noex b o e)⟩
theorem Inv.bk (I:Inv X pins σ H s):∀b o,X.base.get? b=some o->s.heap.get? b=some o:=fun b o e=>(I.bs b o e).1
theorem Inv.mod (I:Inv X pins σ H s):Mod X.K X.mg X.base:=I.ok.mod
theorem Inv.kIn (I:Inv X pins σ H s):X.K.In s.heap:=I.ok.mod.kin.keeps I.bk
theorem Inv.nolimit (I:Inv X pins σ H s):s.heap.NoLimit:=I.ok.mod.nolimit.keeps I.bk
theorem Inv.lt (I:Inv X pins σ H s):X.env.locals<s.heap.objs.size:=let ⟨_,hn,_⟩:=I.loc;hn.lt
theorem Inv.sz (I:Inv X pins σ H s):X.s₀.heap.objs.size<=s.heap.objs.size:=qAW I.ok.above (qBx I.lt)
theorem Inv.nofs (I:Inv X pins σ H s) (h:s.heap.objs.size<=a):a∉X.fs:=fun hb=>by
 obtain ⟨_,o,ho,_⟩:=I.ok.funs.mem hb;exact absurd (qAn (qAK ho) (qAW I.sz h)) (qBI _)
theorem Inv.cne (I:Inv X pins σ H s):∀x c,X.env.cells.lookup x=some c->c≠X.env.locals:=fun x c e z=>by
 obtain ⟨v,o,ho,hd⟩:=I.cell x c e;obtain ⟨m,⟨o',es,ep,ho',hd',_⟩,_⟩:=I.loc;rw [z,ho'] at ho;cases ho;rw [hd'] at hd;cases hd
theorem Inv.funs (I:Inv X pins σ H s):s.heap.FunFrames X.base X.outer:=by
 have all:∀(l:List Env),(∀b∈frs l,b∈X.fs)->X.s₀.heap.FunFrames X.base l->s.heap.FunFrames X.base l:=by
  intro l
  induction l with
  | nil=>intro _ _;trivial
  | cons env r ih =>
   intro hs hl;obtain ⟨hk,⟨L,o,hf,hn,ho,hd⟩,hr⟩:=hl;have hL:L∈X.fs:=hs L (by unfold frs;rw [qCH,hf];exact qAS);obtain ⟨sl,e⟩:=I.base.slot L o ho (I.ok.frf L hL) hL fun z=>I.ok.exfs L z hL;exact ⟨hk,⟨L,_,hf,hn,e,hd⟩,ih (fun b hb=>hs b (by unfold frs;rw [qCH,hf];exact qAT _ hb)) hr⟩
 exact all X.outer (fun _ hb=>hb) I.ok.funs
theorem Inv.stack (I:Inv X pins σ H s):s.heap.FunFrames X.base X.stack:=by
 rcases I.ok.stk with e| ⟨e,hf⟩
 ·rw [e];exact I.funs
 ·rw [e];obtain ⟨m,hn,_⟩:=I.loc;refine .cons (by rw [I.ok.kind];decide) hf hn ?_ I.funs;exact Heap.get?_none_of_le (qAW I.ok.bsz I.ok.above)
theorem Inv.stkSub (I:Inv X pins σ H s):∀b∈frs X.stack,b∈X.env.locals::X.fs:=fun b hb=>by
 rcases I.ok.stk with e| ⟨e,hf⟩
 ·rw [e] at hb;exact qAT _ hb
 ·rw [e] at hb;unfold frs at hb;rw [qCH,hf] at hb;exact hb
theorem Inv.stkFree (I:Inv X pins σ H s):∀b∈frs X.stack,H b=none:=fun b hb=>by
 rcases qAO.mp (I.stkSub b hb) with e| hb
 ·rw [e];exact I.free
 ·obtain ⟨_,o,ho,_⟩:=I.ok.funs.mem hb;exact I.base.free b o ho (I.ok.frf b hb) fun z=>I.ok.exfs b z hb
theorem Inv.step {g':Array GenState} {t':Nat} {d':Drawn} {ch:List Addr} (I:Inv X pins σ H s)
  (hch:∀b∈ch,(b∈X.ex\/X.s₀.heap.objs.size<=b)/\b≠X.env.locals/\(∀x c,X.env.cells.lookup x=some c->c≠b)/\∀p∈X.pn++pins,p.1≠b)
  (keep:∀b o,b≠X.env.locals->b∉X.fs->b∉ch->s.heap.get? b=some o->H b=none->h'.get? b=some o)
  (slot:∀b o,b≠X.env.locals->b∈X.fs->b∉ch->s.heap.get? b=some o->H b=none->∃sl,h'.get? b=some {o with slots:=sl}) (free:∀b o,b∉ch->s.heap.get? b=some o->H b=none->H' b=none)
  (there:∀b o,b∉ch->s.heap.get? b=some o->∃o',h'.get? b=some o')
  (tups:∀b xs,H b=some (.tup xs)->H' b=some (.tup xs)) (frzs:∀b o u,H b=some (.frz o u)->H' b=some (.frz o u)) (tbls:∀b ps,H b=some (.tbl ps)->∃more,H' b=some (.tbl (ps++more)))
  (ns:∀m,s.heap.Ns X.env.locals m->h'.Ns X.env.locals m) (hok:HOk X.prog X.w H' h') (hg:AllBare g') :
  Inv X pins σ H' {s with heap:=h',gens:=g',drawn:=d',toks:=t'}:=by
 have neL:∀b o,X.s₀.heap.get? b=some o->b≠X.env.locals:=fun b o e=>qAN (qAn (qAK e) I.ok.above)
 have neC:∀b o,X.s₀.heap.get? b=some o->b∉X.ex->b∉ch:=fun b o e hx hb=>by
  rcases (hch b hb).1 with z| z
  ·exact hx z
  ·exact absurd (qAn (qAK e) z) (qBI _)
 have cellK:∀x c,X.env.cells.lookup x=some c->∀v,s.heap.IsCell c v->h'.IsCell c v:=fun x c e v ⟨o,ho,hd⟩=>by
  have nch:c∉ch:=fun z=>(hch c z).2.2.1 x c e rfl
  by_cases hc:c∈X.fs
  ·obtain ⟨sl,q⟩:=slot c o (I.cne x c e) hc nch ho (I.freeC x c e);exact ⟨_,q,hd⟩
  ·exact ⟨o,keep c o (I.cne x c e) hc nch ho (I.freeC x c e),hd⟩
 refine ⟨I.ok,I.os,hg,⟨fun b o e n hb hx=>?_,fun b o e n hb hx=>?_,fun b o e n hx=>?_,fun b o e hx=>?_,fun b xs e=>tups b xs (I.base.tups b xs e),fun b o xs e=>frzs b o xs (I.base.frzs b o xs e),fun b ps e=>?_⟩,?_,fun x c e=>?_,?_,fun x c e=>?_,fun p hp=>?_,hok,I.len⟩
 ·exact keep b o (neL b o e) hb (neC b o e hx) (I.base.keep b o e n hb hx) (I.base.free b o e n hx)
 ·obtain ⟨sl,e1⟩:=I.base.slot b o e n hb hx;obtain ⟨sl',e2⟩:=slot b _ (neL b o e) hb (neC b o e hx) e1 (I.base.free b o e n hx);exact ⟨sl',e2⟩
 ·obtain ⟨o',e1⟩:=I.base.there b o e hx;exact free b o' (neC b o e hx) e1 (I.base.free b o e n hx)
 ·obtain ⟨o',e1⟩:=I.base.there b o e hx;exact there b o' (neC b o e hx) e1
 ·obtain ⟨m1,e1⟩:=I.base.tbls b ps e;obtain ⟨m2,e2⟩:=tbls b _ e1;exact ⟨m1++m2,by rw [e2,Array.append_assoc]⟩
 ·obtain ⟨m,hn,hl⟩:=I.loc;refine ⟨m,ns m hn,fun i x v e1 e2 e3=>?_⟩;obtain ⟨u,r,l⟩:=hl i x v e1 e2 e3;refine ⟨u,r,?_⟩;rcases l with l| ⟨k,c,e,z⟩
  ·exact .inl l
  ·exact .inr ⟨k,c,e,cellK x c e _ z⟩
 ·obtain ⟨v,z⟩:=I.cell x c e;exact ⟨v,cellK x c e v z⟩
 ·obtain ⟨m,⟨o,_,_,ho,_⟩,_⟩:=I.loc;exact free _ o (fun z=>(hch _ z).2.1 rfl) ho I.free
 ·obtain ⟨v,o,ho,hd⟩:=I.cell x c e;exact free c o (fun z=>(hch c z).2.2.1 x c e rfl) ho (I.freeC x c e)
 ·obtain ⟨e,n,ne,nf,d⟩:=I.pin p hp;have nch:p.1∉ch:=fun z=>(hch p.1 z).2.2.2 p hp rfl;exact ⟨keep p.1 p.2 ne nf nch e n,free p.1 p.2 nch e n,ne,nf,d⟩
theorem Inv.un {t':Nat} (I:Inv X pins σ H s) (u:Un X.fs [] H H' s.heap h') (hok:HOk X.prog X.w H' h'):Inv X pins σ H' {s with heap:=h',toks:=t'}:=by
 obtain ⟨m,⟨o,es,ep,ho,r⟩,_⟩:=id I.loc;obtain ⟨sl,hL⟩:=u.any ho I.free (by simp)
 exact I.step (g':=s.gens) (d':=s.drawn) (ch:=[]) (fun _ z=>nomatch z) (fun b o _ hb _ e n=>u.keep b o e n hb (by simp)) (fun b o _ hb _ e n=>u.slot b o e n hb (by simp)) (fun b o _ e n=>u.free b o e n (by simp)) (fun b o _ e=>u.there b o e (by simp)) u.tups u.frzs u.tbls (fun m' hm=>by
  obtain ⟨o',es',ep',ho',r'⟩:=hm;rw [ho] at ho';cases ho';exact ⟨_,es',ep',hL,r'⟩) hok I.bare
theorem Inv.call {g':Array GenState} {t':Nat} {d':Drawn} {ch:List Addr} (I:Inv X pins σ H s) (u:Un (frs X.stack) ch H H' s.heap h') (hok:HOk X.prog X.w H' h') (hg:AllBare g')
  (hch:∀b∈ch,(b∈X.ex\/X.s₀.heap.objs.size<=b)/\b≠X.env.locals/\(∀x c,X.env.cells.lookup x=some c->c≠b)/\∀p∈X.pn++pins,p.1≠b) :
  Inv X pins σ H' {s with heap:=h',gens:=g',drawn:=d',toks:=t'}:=by
 obtain ⟨m,⟨o,es,ep,ho,r⟩,_⟩:=id I.loc;obtain ⟨sl,hL⟩:=u.any ho I.free fun z=>(hch _ z).2.1 rfl
 exact I.step (ch:=ch) hch (fun b o hL hb hc e n=>u.keep b o e n (fun z=>(qAO.mp (I.stkSub b z)).elim hL hb) hc) (fun b o _ _ hc e n=>u.any e n hc) (fun b o hc e n=>u.free b o e n hc) (fun b o hc e=>u.there b o e hc) u.tups u.frzs u.tbls (fun m' hm=>by
  obtain ⟨o',es',ep',ho',r'⟩:=hm;rw [ho] at ho';cases ho';exact ⟨_,es',ep',hL,r'⟩) hok hg
theorem Inv.turned {t':Nat} {it:Addr} (I:Inv X pins σ H s) (k:∀b o,b≠it->s.heap.get? b=some o->h'.get? b=some o) (hn:H it=none) (hL:it≠X.env.locals)
  (h1:it∈X.ex\/X.s₀.heap.objs.size<=it) (h2:∀x c,X.env.cells.lookup x=some c->c≠it) (h3:∀p∈X.pn++pins,p.1≠it):Inv X pins σ H {s with heap:=h',toks:=t'}:=by
 have nit:∀b u,H b=some u->b≠it:=fun b u e z=>by rw [z,hn] at e;cases e
 refine I.step (g':=s.gens) (d':=s.drawn) (ch:=[it]) (fun b hb=>?_) (fun b o _ _ hc e _=>k b o (fun z=>hc (by simp [z])) e) (fun b o _ _ hc e _=>⟨o.slots,k b o (fun z=>hc (by simp [z])) e⟩) (fun _ _ _ _ n=>n)
  (fun b o hc e=>⟨o,k b o (fun z=>hc (by simp [z])) e⟩) (fun _ _ e=>e) (fun _ _ _ e=>e) (fun b ps e=>⟨#[],by rw [e];simp⟩) (fun m hm=>?_) (fun b u e=>?_) I.bare
 ·have e:b=it:=by simpa using hb
  subst e;exact ⟨h1,hL,h2,h3⟩
 ·obtain ⟨o,es,ep,ho,r⟩:=hm;exact ⟨o,es,ep,k _ o (qAr hL) ho,r⟩
 ·refine (I.hok b u e).stay (fun c v hc q=>k c v ?_ q) (fun _ q=>q) fun _ _ q=>q;rcases hc with z| z
  ·rw [z];exact nit b u e
  ·exact nit c _ z
theorem Inv.tok (I:Inv X pins σ H s) (t:Nat):Inv X pins σ H {s with toks:=t}:=I.un (h':=s.heap) (t':=t) Un.refl I.hok
theorem Inv.kept {t':Nat} (I:Inv X pins σ H s) (k:∀b u,s.heap.get? b=some u->h'.get? b=some u):Inv X pins σ H {s with heap:=h',toks:=t'}:=I.un (Un.kept k) (I.hok.kept k)
theorem Inv.laid {a:Addr} {o:HO} {t':Nat} (I:Inv X pins σ H s) (k:∀b u,s.heap.get? b=some u->h'.get? b=some u) (hp:s.heap.objs.size<=a) (new:zAx X.prog X.w (upd H a o) h' a o) :
  Inv X pins σ (upd H a o) {s with heap:=h',toks:=t'}:=I.un (Un.laid k hp (I.hok.fresh hp)) (I.hok.laid k hp new)
theorem Inv.write {x e:Addr} {t':Nat} (I:Inv X pins σ H s) (mu:Mut (H x)) (he:e=x\/H e=some (.own x)) (k:∀b u,b≠e->s.heap.get? b=some u->h'.get? b=some u) (heo:∃u,h'.get? e=some u)
  (new:zAx X.prog X.w (upd H x o) h' x o):Inv X pins σ (upd H x o) {s with heap:=h',toks:=t'}:=I.un (Un.write mu he k heo) (I.hok.write mu he k heo new)
theorem Inv.pins_of {pins':List (Addr×Obj)} (I:Inv X pins σ H s) (h:∀p∈pins',s.heap.get? p.1=some p.2/\H p.1=none/\p.1≠X.env.locals/\p.1∉X.fs/\∀v,p.2.data≠.cell v):Inv X pins' σ H s :=
 ⟨I.ok,I.os,I.bare,I.base,I.loc,I.cell,I.free,I.freeC,fun p hp=>(qAQ.mp hp).elim (fun z=>I.pin p (qAs _ z)) (h p),I.hok,I.len⟩
theorem nodup_ix {N:List Str} (hN:N.Nodup) {j:Nat} (a:N[i]?=some x) (b:N[j]?=some x):i=j:=by
 obtain ⟨h1,e1⟩:=qAV.mp a;obtain ⟨h2,e2⟩:=qAV.mp b;exact (List.getElem_inj hN).mp (e1.trans e2.symm)
theorem store_ok2 {M:Model} {E:Value->Shared->Prop} {Q:Unit->Shared->Prop} (I:Inv X pins σ H s) (hN:X.N.Nodup) (hi:X.N[i]?=some x) (hx:Loc X.env.scope x) (r:RelV v u)
  (h:∀s',Inv X pins (σ.set i (some v)) H s'->(∃a,Heap.SameBut a s.heap s'.heap/\(a=X.env.locals\/X.env.cells.lookup x=some a))->Q () s') (hf:X.fn x=true\/X.env.scope.names.lookup x=some .local:=by first| exact .inl rfl| exact .inr rfl| assumption):wpAny M A (storeName X.env x u) Q E s:=by
 obtain ⟨m,hn,hl⟩:=id I.loc;have hcls:(X.env.scope.kind== .class||(X.env.scope.kind== .module&&X.env.locals != X.env.globals))=false:=by rw [I.ok.kind];rfl
 have hiσ:i<σ.length:=by rw [I.len];exact (qAV.mp hi).1
 have cne:=I.cne
 have tracked:∀{a:Addr} {h':Heap},(∃o,s.heap.get? a=some o/\H a=none)->Heap.SameBut a s.heap h'->HOk X.prog X.w H h':=fun {a h'} ha hs b ob e=>by
  obtain ⟨_,_,hfree⟩:=ha;refine (I.hok b ob e).stay (fun c w' hc q=>(hs.2 c ?_).trans q) (fun _ q=>q) fun _ _ q=>q;rintro rfl;rcases hc with rfl| hc
  ·rw [hfree] at e;cases e
  ·rw [hfree] at hc;cases hc
 rcases hx with hk| hk
 ·refine wpAny_storeName_local hk hn (fun h' hn' hs=>?_) hcls;obtain ⟨oL,_,_,hoL,_⟩:=id hn;refine h _ ⟨I.ok,I.os,I.bare,⟨fun b o e n hb hx=>?_,fun b o e n hb hx=>?_,I.base.free,fun b o e hx=>?_,I.base.tups,I.base.frzs,I.base.tbls⟩,⟨_,hn',fun j y v' e1 e2 e3=>?_⟩,fun y c e=>?_,I.free,I.freeC,fun p hp=>?_,tracked ⟨oL,hoL,I.free⟩ hs,by simpa using I.len⟩ ⟨_,hs,.inl rfl⟩
  ·exact (hs.2 b (qAN (qAn (qAK e) I.ok.above))).trans (I.base.keep b o e n hb hx)
  ·obtain ⟨sl,e1⟩:=I.base.slot b o e n hb hx;exact ⟨sl,(hs.2 b (qAN (qAn (qAK e) I.ok.above))).trans e1⟩
  ·obtain ⟨o',e1⟩:=I.base.there b o e hx;exact ⟨o',(hs.2 b (qAN (qAn (qAK e) I.ok.above))).trans e1⟩
  ·by_cases hj:j=i
   ·subst hj;rw [hi] at e1;cases e1;rw [qDS hiσ] at e2
    cases e2
    exact ⟨u,r,.inl ⟨hk,by simp⟩⟩
   ·rw [List.getElem?_set_ne (qAr hj)] at e2;obtain ⟨u',r',q⟩:=hl j y v' e1 e2 e3;refine ⟨u',r',?_⟩;rcases q with ⟨k,e⟩| ⟨k,c,e,z⟩
    ·refine .inl ⟨k,?_⟩;have:y≠x:=fun e=>hj (nodup_ix hN e1 (e▸hi));simp [this,e]
    ·exact .inr ⟨k,c,e,z.sameBut hs (cne y c e)⟩
  ·obtain ⟨w',z⟩:=I.cell y c e;exact ⟨w',z.sameBut hs (cne y c e)⟩
  ·obtain ⟨e,n,ne,nf,d⟩:=I.pin p hp;exact ⟨(hs.2 p.1 ne).trans e,n,ne,nf,d⟩
 ·have hfn:X.fn x=true:=by
   rcases hf with z| z
   ·exact z
   ·rw [z] at hk;cases hk
  obtain ⟨c,hc⟩:=I.ok.has x (.inl hk);obtain ⟨w',z⟩:=I.cell x c hc;refine wpAny_storeName_cell I.ok.kind hk hc z (fun h' hc' hs=>?_);obtain ⟨oc,hoc,hocd⟩:=id z;refine h {s with heap:=h'} ⟨I.ok,I.os,I.bare,⟨fun b o e n hb hx=>?_,fun b o e n hb hx=>?_,I.base.free,fun b o e hx=>?_,I.base.tups,I.base.frzs,I.base.tbls⟩,⟨m,hn.sameBut hs (qAr (cne x c hc)),fun j y v' e1 e2 e3=>?_⟩,fun y c' e=>?_,I.free,I.freeC,fun p hp=>?_,tracked ⟨oc,hoc,I.freeC x c hc⟩ hs,by simpa using I.len⟩ ⟨c,hs,.inr hc⟩
  ·exact (hs.2 b (qAN (qAn (qAK e) (I.ok.cab x c hfn hc)))).trans (I.base.keep b o e n hb hx)
  ·obtain ⟨sl,e1⟩:=I.base.slot b o e n hb hx;exact ⟨sl,(hs.2 b (qAN (qAn (qAK e) (I.ok.cab x c hfn hc)))).trans e1⟩
  ·obtain ⟨o',e1⟩:=I.base.there b o e hx;exact ⟨o',(hs.2 b (qAN (qAn (qAK e) (I.ok.cab x c hfn hc)))).trans e1⟩
  ·by_cases hj:j=i
   ·subst hj;rw [hi] at e1;cases e1;rw [qDS hiσ] at e2
    cases e2
    exact ⟨u,r,.inr ⟨.inl hk,c,hc,hc'⟩⟩
   ·rw [List.getElem?_set_ne (qAr hj)] at e2;obtain ⟨u',r',q⟩:=hl j y v' e1 e2 e3;refine ⟨u',r',?_⟩;rcases q with q| ⟨k,c',e,z'⟩
    ·exact .inl q
    ·refine .inr ⟨k,c',e,z'.sameBut hs ?_⟩;rintro rfl;exact hj (nodup_ix hN e1 (I.ok.inj _ _ _ e hc▸hi))
  ·by_cases hcc:c'=c
   ·subst hcc;exact ⟨_,hc'⟩
   ·obtain ⟨w2,z2⟩:=I.cell y c' e;exact ⟨w2,z2.sameBut hs hcc⟩
  ·obtain ⟨e,n,ne,nf,d⟩:=I.pin p hp;refine ⟨(hs.2 p.1 ?_).trans e,n,ne,nf,d⟩;intro q;rw [q,hoc] at e;have q':oc=p.2:=qAh e;exact d w' (by rw [<-q'];exact hocd)
theorem store_ok {M:Model} {E:Value->Shared->Prop} {Q:Unit->Shared->Prop} (I:Inv X pins σ H s) (hN:X.N.Nodup) (hi:X.N[i]?=some x) (hx:Loc X.env.scope x) (r:RelV v u)
  (h:∀s',Inv X pins (σ.set i (some v)) H s'->Q () s') (hf:X.fn x=true\/X.env.scope.names.lookup x=some .local:=by first| exact .inl rfl| exact .inr rfl| assumption):wpAny M A (storeName X.env x u) Q E s :=
 store_ok2 I hN hi hx r (fun s' I' _=>h s' I') hf
theorem Inv.call' {s':Shared} {ch:List Addr} (I:Inv X pins σ H s) (ho:s'.os=s.os) (u:Un (frs X.stack) ch H H' s.heap s'.heap) (hok:HOk X.prog X.w H' s'.heap) (hg:AllBare s'.gens)
  (hch:∀b∈ch,(b∈X.ex\/X.s₀.heap.objs.size<=b)/\b≠X.env.locals/\(∀x c,X.env.cells.lookup x=some c->c≠b)/\∀p∈X.pn++pins,p.1≠b):Inv X pins σ H' s':=by
 obtain ⟨h',g',d',t',o'⟩:=s';have e:o'=s.os:=ho;subst e;exact I.call (g':=g') (t':=t') (d':=d') u hok hg hch
end
abbrev XK:=Value->Option Addr->Hp->Prop
abbrev St:=List (Option V)
variable {σ:St}
abbrev VK:=V->Hp->Prop
abbrev TE:=St->Hp->VK->Prop
variable {t:TE}
abbrev TT:=St->Hp->(Bool->Hp->Prop)->Prop
abbrev TA:=St->Hp->(List V->Hp->Prop)->Prop
structure Ends where
 nx:St->Hp->Prop
 rt:VK
 bk:St->Hp->Prop:=fun _ _=>False
 ct:St->Hp->Prop:=fun _ _=>False
variable {D:Ends}
abbrev TS:=Ends->St->Hp->Prop
variable {tb:TS}
def EP (X:Cx) (pins:List (Addr×Obj)) (σ:St) (Q:VK) (u:Value) (s':Shared):Prop:=∃v H',Inv X pins σ H' s'/\RelV v u/\Q v H'
def TP (X:Cx) (pins:List (Addr×Obj)) (σ:St) (Q:Bool->Hp->Prop) (b:Bool) (s':Shared):Prop:=∃H',Inv X pins σ H' s'/\Q b H'
def AP (X:Cx) (pins:List (Addr×Obj)) (σ:St) (Q:List V->Hp->Prop) (us:List Value) (s':Shared):Prop:=∃vs H',Inv X pins σ H' s'/\Vals vs us/\Q vs H'
def SP (X:Cx) (pins:List (Addr×Obj)) (D:Ends) (f:Flow) (s':Shared):Prop :=
 match f with
 | .next=>∃σ' H',Inv X pins σ' H' s'/\D.nx σ' H'
 | .brk=>∃σ' H',Inv X pins σ' H' s'/\D.bk σ' H'
 | .cont=>∃σ' H',Inv X pins σ' H' s'/\D.ct σ' H'
 | .ret u=>∃v σ' H',Inv X pins σ' H' s'/\RelV v u/\D.rt v H'
def PE (X:Cx) (e:Expr) (t:TE):Prop :=
 ∀(pins:List (Addr×Obj)) (s:Shared) (σ:St) (H:Hp) (Q:VK),Inv X pins σ H s->t σ H Q->wpAny (model X.prog X.w) X.A (eval e X.env) (EP X pins σ Q) X.xe s
def PT (X:Cx) (e:Expr) (t:TT):Prop :=
 ∀(pins:List (Addr×Obj)) (s:Shared) (σ:St) (H:Hp) (Q:Bool->Hp->Prop),Inv X pins σ H s->t σ H Q->wpAny (model X.prog X.w) X.A (isTrue e X.env (eval e X.env)) (TP X pins σ Q) X.xe s
def PW (X:Cx) (e:Expr) (t:TT):Prop :=
 ∀(whole:Sem Value) (pins:List (Addr×Obj)) (s:Shared) (σ:St) (H:Hp) (Q:Bool->Hp->Prop),Inv X pins σ H s->t σ H Q->wpAny (model X.prog X.w) X.A (isTrue e X.env whole) (TP X pins σ Q) X.xe s
theorem PW.pt {t:TT} (h:PW X e t):PT X e t:=h _
def PA (X:Cx) (es:List Expr) (t:TA):Prop :=
 ∀(pos:Pos) (pins:List (Addr×Obj)) (s:Shared) (σ:St) (H:Hp) (Q:List V->Hp->Prop),Inv X pins σ H s->t σ H Q->wpAny (model X.prog X.w) X.A (spliced (backTo pos (starEach es X.env))) (AP X pins σ Q) X.xe s
def PS (X:Cx) (st:Stmt) (t:TS):Prop :=
 ∀(pins:List (Addr×Obj)) (s:Shared) (σ:St) (H:Hp) (D:Ends),Inv X pins σ H s->t D σ H->wpAny (model X.prog X.w) X.A (exec st X.env) (SP X pins D) X.xe s
def PSs (X:Cx) (st:List Stmt) (t:TS):Prop :=
 ∀(pins:List (Addr×Obj)) (s:Shared) (σ:St) (H:Hp) (D:Ends),Inv X pins σ H s->t D σ H->wpAny (model X.prog X.w) X.A (execs st X.env) (SP X pins D) X.xe s
theorem thn {α:Type} {t:Sem α} {Q Q':α->Shared->Prop} {M:Model} {E:Value->Shared->Prop} (h:wpAny M A t Q E s) (hQ:∀a s,Q a s->Q' a s):wpAny M A t Q' E s:=qAq h hQ fun _ _ x=>x
section
variable {X:Cx}
def tVar (i:Nat):TE:=fun σ H Q=>∃v,σ[i]?=some (some v)/\Q v H
def tC (v:V):TE:=fun _ H Q=>Q v H
theorem pe_var (hN:X.N[i]?=some x) (hv:Vis X.env.scope x) (hd:(x==("__debug__" : Str))=false:=by decide) (hcd:(x==("__classdict__" : Str))=false:=by decide):PE X (.Name x pos) (tVar i):=by
 intro pins s σ H Q I h;obtain ⟨v,e,h⟩:=h;obtain ⟨m,hn,hl⟩:=I.loc;obtain ⟨u,r,l⟩:=hl i x v hN e hv;have fin:EP X pins σ Q u s:=⟨v,H,I,r,h⟩;rcases l with ⟨hk,hm⟩| ⟨hk,c,hc,hcell⟩
 ·exact wpAny_Name (wpAny_loadName_local I.ok.kind hk hn hm fin) hd
 ·rcases hk with hk| hk
  ·exact wpAny_Name (wpAny_loadName_cell I.ok.kind hk hc hcell fin) hd
  ·exact wpAny_Name (wpAny_loadName_free I.ok.kind hk hc hcell fin hcd) hd
theorem zAf {i j pos}:PE X (.Constant (.int i) j pos) (tC (.int i)):=fun _ _ _ H _ I h=>wpAny_Constant_int ⟨.int i,H,I.tok _,⟨_,rfl⟩,h⟩
theorem pe_bl {b j pos}:PE X (.Constant (.bool b) j pos) (tC (.bl b)):=fun _ _ _ H _ I h=>Constant_bool ⟨.bl b,H,I,rfl,h⟩
theorem pe_str {x j pos}:PE X (.Constant (.str x) j pos) (tC (.str x)):=fun _ _ _ H _ I h=>Calls.Constant_str ⟨.str x,H,I.tok _,⟨_,rfl⟩,h⟩
def Gl (X:Cx) (x:Str):Prop:=X.env.kindOf x=some .globalImplicit
theorem ld_glob {E:Value->Shared->Prop} {Q:Value->Shared->Prop} (I:Inv X pins σ H s) (hg:Gl X x) (hm:X.mg x=some u) (h:Q u s)
  (hd:(x==("__debug__" : Str))=false:=by decide):wpAny (model X.prog X.w) X.A (eval (.Name x pos) X.env) Q E s :=
 Calls.Name_function_global I.ok.kind hg (Calls.loadGlobal_global (by rw [I.ok.glob];exact I.mod.glob.keeps I.bk) hm h) hd
theorem zEb {E:Value->Shared->Prop} {Q:Value->Shared->Prop} (I:Inv X pins σ H s) (hg:Gl X x) (hm:X.mg x=none) (hv:bootBuiltins x=some u) (h:Q u s)
  (hn:x≠ "__name__" := by decide) (hd:(x==("__debug__" : Str))=false:=by decide):wpAny (model X.prog X.w) X.A (eval (.Name x pos) X.env) Q E s:=by
 obtain ⟨mb,h1,h2⟩:=I.mod.blt;exact Calls.Name_function_global I.ok.kind hg (Calls.loadGlobal_builtin (by rw [I.ok.glob];exact I.mod.glob.keeps I.bk) hm (by rw [I.ok.blt];exact h1.keeps I.bk) ((h2 x hn).trans hv) h) hd
theorem pe_glob (hg:Gl X x) (hm:X.mg x=some u) (r:RelV v u) (hd:(x==("__debug__" : Str))=false:=by decide):PE X (.Name x pos) (tC v) :=
 fun _ _ _ H _ I h=>ld_glob I hg hm ⟨v,H,I,r,h⟩ hd
theorem zC3 (hg:Gl X x) (hm:X.mg x=none) (hv:bootBuiltins x=some u) (r:RelV v u) (hn:x≠ "__name__" := by decide) (hd:(x==("__debug__" : Str))=false:=by decide):PE X (.Name x pos) (tC v) :=
 fun _ _ _ H _ I h=>zEb I hg hm hv ⟨v,H,I,r,h⟩ hn hd
variable {a b:Expr} {ta tb:TE} {pos:Pos}
def PC (X:Cx) (op:CmpOp) (a b:Expr) (t:TE):Prop :=
 ∀(pins:List (Addr×Obj)) (s:Shared) (σ:St) (H:Hp) (Q:VK),Inv X pins σ H s->t σ H Q ->
  wpAny (model X.prog X.w) X.A (eval a X.env) (fun v s₁=>wpAny (model X.prog X.w) X.A (eval b X.env) (fun u s₂=>wpAny (model X.prog X.w) X.A (compareOp op v u) (EP X pins σ Q) X.xe s₂) X.xe s₁) X.xe s
def tB (t:TE):TT:=fun σ H Q=>t σ H fun x H1=>∃c,x= .bl c/\Q c H1
theorem pe_cmp (h:PC X op a b t) (h1:behindInMarks op b=false:=by first| exact nobehind _ (by decide) (by decide)| rfl):PE X (.Compare a [op] [b] pos) t:=fun pins s σ H Q I hw=>wpAny_Compare1 (h pins s σ H Q I hw) h1
theorem zFe (h:PC X op a b t) (h1:behindInMarks op b=false:=by first| exact nobehind _ (by decide) (by decide)| rfl):PT X (.Compare a [op] [b] pos) (tB t):=by
 intro pins s σ H Q I hw;refine wpAny_isTrue_Compare1 (thn (h pins s σ H _ I hw) fun v s1 h1=>thn h1 fun u s2 h2=>thn h2 fun c s3 ⟨x,H1,I1,r1,q1⟩=>?_) h1;obtain ⟨d,rfl,q⟩:=q1
 cases r1
 exact qBB ⟨H1,I1,q⟩
theorem zCg (h:PE X e t) (he:∀whole,isTrue e X.env whole=(do let v<-whole;standAt e.pos;holding [v] (truthy v)):=by intro _;rfl):PT X e (tB t):=by
 intro pins s σ H Q I hw;refine isTrue_plain (thn (h pins s σ H _ I hw) fun v s1 ⟨x,H1,I1,r1,q1⟩=>?_) (he _);obtain ⟨d,rfl,q⟩:=q1
 cases r1
 exact qBB ⟨H1,I1,q⟩
variable {tA tB':TT} {rest:List Expr}
def tAnd (t u:TT):TT:=fun σ H Q=>t σ H fun c H1=>if c=true then u σ H1 Q else Q false H1
def tOr (t u:TT):TT:=fun σ H Q=>t σ H fun c H1=>if c=true then Q true H1 else u σ H1 Q
def tNot (t:TT):TT:=fun σ H Q=>t σ H fun c H1=>Q (!c) H1
theorem pw_and1 (ha:PT X a tA):PW X (.BoolOp .And [a] pos) tA:=by
 intro wh pins s σ H Q I h;refine isTrue_and (thn (ha pins s σ H Q I h) fun c s1 e=>?_)
 cases c with
 | true=>exact isTrue_and_nil e
 | false=>exact e
theorem zEs (ha:PT X a tA):PW X (.BoolOp .Or [a] pos) tA:=by
 intro wh pins s σ H Q I h;refine isTrue_or (thn (ha pins s σ H Q I h) fun c s1 e=>?_)
 cases c with
 | false=>exact isTrue_or_nil e
 | true=>exact e
theorem pw_and (ha:PT X a tA) (hb:PW X (.BoolOp .And (b::rest) pos) tB'):PW X (.BoolOp .And (a::b::rest) pos) (tAnd tA tB'):=by
 intro wh pins s σ H Q I h;refine isTrue_and (thn (ha pins s σ H _ I h) fun c s1 ⟨H1,I1,q1⟩=>?_)
 cases c with
 | true=>exact hb wh pins s1 σ H1 Q I1 q1
 | false=>exact ⟨H1,I1,q1⟩
theorem zHr (ha:PT X a tA) (hb:PW X (.BoolOp .Or (b::rest) pos) tB'):PW X (.BoolOp .Or (a::b::rest) pos) (tOr tA tB'):=by
 intro wh pins s σ H Q I h;refine isTrue_or (thn (ha pins s σ H _ I h) fun c s1 ⟨H1,I1,q1⟩=>?_)
 cases c with
 | true=>exact ⟨H1,I1,q1⟩
 | false=>exact hb wh pins s1 σ H1 Q I1 q1
theorem zCw (ha:PT X a tA):PT X (.UnaryOp .Not a pos) (tNot tA):=by
 intro pins s σ H Q I h;exact isTrue_not (ha pins s σ H (fun c H1=>Q (!c) H1) I h)
def tAndV (ta tb:TE):TE:=fun σ H Q=>ta σ H fun x H1=>∃c,x= .bl c/\if c=true then tb σ H1 Q else Q (.bl false) H1
def tOrV (ta tb:TE):TE:=fun σ H Q=>ta σ H fun x H1=>∃c,x= .bl c/\if c=true then Q (.bl true) H1 else tb σ H1 Q
def tNotV (ta:TE):TE:=fun σ H Q=>ta σ H fun x H1=>∃c,x= .bl c/\Q (.bl (!c)) H1
theorem pe_one {op} (h:PE X a t):PE X (.BoolOp op [a] pos) t:=fun pins s σ H Q I hw=>BoolOp_one (h pins s σ H Q I hw)
theorem pe_and (ha:PE X a ta) (hb:PE X (.BoolOp .And (b::rest) pos) tb):PE X (.BoolOp .And (a::b::rest) pos) (tAndV ta tb):=by
 intro pins s σ H Q I h;refine BoolOp_and (thn (ha pins s σ H _ I h) fun v s1 ⟨x,H1,I1,r1,q1⟩=>?_);obtain ⟨c,rfl,q1⟩:=q1
 cases r1
 refine qBB ?_
 cases c with
 | true=>exact hb pins s1 σ H1 Q I1 q1
 | false=>exact ⟨.bl false,H1,I1,rfl,q1⟩
theorem pe_or (ha:PE X a ta) (hb:PE X (.BoolOp .Or (b::rest) pos) tb):PE X (.BoolOp .Or (a::b::rest) pos) (tOrV ta tb):=by
 intro pins s σ H Q I h;refine BoolOp_or (thn (ha pins s σ H _ I h) fun v s1 ⟨x,H1,I1,r1,q1⟩=>?_);obtain ⟨c,rfl,q1⟩:=q1
 cases r1
 refine qBB ?_
 cases c with
 | false=>exact hb pins s1 σ H1 Q I1 q1
 | true=>exact ⟨.bl true,H1,I1,rfl,q1⟩
theorem pe_not (ha:PE X a ta):PE X (.UnaryOp .Not a pos) (tNotV ta):=by
 intro pins s σ H Q I h;refine UnaryOp_ (thn (ha pins s σ H _ I h) fun v s1 ⟨x,H1,I1,r1,q1⟩=>?_);obtain ⟨c,rfl,q1⟩:=q1
 cases r1
 exact not_of (qBB ⟨.bl (!c),H1,I1,rfl,q1⟩)
def tIf (t:TT) (ta tb:TE):TE:=fun σ H Q=>t σ H fun c H1=>if c=true then ta σ H1 Q else tb σ H1 Q
theorem pe_ifExp {c:Expr} (hc:PT X c tA) (ha:PE X a ta) (hb:PE X b tb):PE X (.IfExp c a b pos) (tIf tA ta tb):=by
 intro pins s σ H Q I h;refine wpAny_IfExp (thn (hc pins s σ H _ I h) fun d s1 ⟨H1,I1,q1⟩=>?_)
 cases d with
 | true=>exact ha pins s1 σ H1 Q I1 q1
 | false=>exact hb pins s1 σ H1 Q I1 q1
end
def SqL (K:PySem.W.Frag) (H:Hp) (a:Addr) (xs:List V):Prop :=
 Rd H a (.lst xs) \/
  ∃(o:Obj) (its:Array Value) (n:Nat),K.lookup a=some o/\o.cls= .type "list" /\o.dict=none/\o.data= .seq its n/\its.size<=sizeLine/\Vals xs its.toList
def SqT (K:PySem.W.Frag) (H:Hp) (a:Addr) (xs:List V):Prop :=
 Rd H a (.tup xs) \/
  ∃(o:Obj) (its:Array Value) (n:Nat),K.lookup a=some o/\o.cls= .type "tuple" /\o.data= .seq its n/\its.size<=sizeLine/\Vals xs its.toList
def absV:Value->Option V
 | .none=>some .non
 | .bool b=>some (.bl b)
 | .int i _=>some (.int i)
 | .str x _=>some (.str x)
 | .bytes b _=>some (.byt b)
 | .float b _=>some (.flt b)
 | .ref a=>some (.ref a)
 | .type n=>some (.ty n)
 | _=>none
theorem RelV.abs {x:V} (r:RelV x u):absV u=some x:=by
 cases x with
 | non=>cases r;rfl
 | bl _=>cases r;rfl
 | int _=>obtain ⟨t,rfl⟩:=r;rfl
 | str _=>obtain ⟨t,rfl⟩:=r;rfl
 | byt _=>obtain ⟨t,rfl⟩:=r;rfl
 | flt _=>obtain ⟨t,rfl⟩:=r;rfl
 | ref _=>cases r;rfl
 | ty _=>cases r;rfl
theorem RelV.inj {x:V} (r:RelV x u) (q:RelV y u):x=y:=qAh (r.abs.symm.trans q.abs)
theorem Vals.inj:∀{xs ys:List V} {us:List Value},Vals xs us->Vals ys us->xs=ys
 | _,_,_,.nil,.nil=>rfl
 | _,_,_,.cons r t,.cons r' t'=>by rw [r.inj r',Vals.inj t t']
section
variable {X:Cx} {pins:List (Addr×Obj)} {σ:St} {H:Hp} {s:Shared} {a:Addr} {xs ys:List V}
theorem SqL.of {K:PySem.W.Frag} (h:H a=some (.lst xs)):SqL K H a xs:=.inl (.inl h)
theorem SqT.of {K:PySem.W.Frag} (h:H a=some (.tup xs)):SqT K H a xs:=.inl (.inl h)
theorem Inv.list (I:Inv X pins σ H s) (h:SqL X.K H a xs):∃its:List Value,Vals xs its/\PlainL s.heap a its.toArray/\xs.length<=sizeLine:=by
 rcases h with h| ⟨o,its,n,hk,hc,hd,hs,hz,r⟩
 ·obtain ⟨z,its,n,r,e⟩:=h.ok I.hok;exact ⟨its,r,⟨_,n,e,rfl,rfl,rfl⟩,z⟩
 ·refine ⟨its.toList,r,⟨o,n,I.kIn a o hk,hc,hd,by simpa using hs⟩,?_⟩;have e:=r.length;simp only [qBS] at e;lia
theorem Inv.tuple (I:Inv X pins σ H s) (h:SqT X.K H a xs):∃its:List Value,Vals xs its/\IsTup s.heap a its.toArray/\xs.length<=sizeLine:=by
 rcases h with h| ⟨o,its,n,hk,hc,hs,hz,r⟩
 ·obtain ⟨z,its,r,p⟩:=h.ok I.hok;exact ⟨its,r,p,z⟩
 ·refine ⟨its.toList,r,⟨o,I.kIn a o hk,hc,n,by simpa using hs⟩,?_⟩;have e:=r.length;simp only [qBS] at e;lia
theorem Inv.list_inj (I:Inv X pins σ H s) (h:SqL X.K H a xs) (h':SqL X.K H a ys):xs=ys:=by
 obtain ⟨its,r,⟨o,n,e,_,_,d⟩,_⟩:=I.list h;obtain ⟨its',r',⟨o',n',e',_,_,d'⟩,_⟩:=I.list h';rw [e] at e';cases e';rw [d] at d';injection d' with d1 _;have:its=its':=by simpa using qAk Array.toList d1
 subst this;exact r.inj r'
theorem Inv.tuple_inj (I:Inv X pins σ H s) (h:SqT X.K H a xs) (h':SqT X.K H a ys):xs=ys:=by
 obtain ⟨its,r,⟨o,e,_,n,d⟩,_⟩:=I.tuple h;obtain ⟨its',r',⟨o',e',_,n',d'⟩,_⟩:=I.tuple h';rw [e] at e';cases e';rw [d] at d';injection d' with d1 _;have:its=its':=by simpa using qAk Array.toList d1
 subst this;exact r.inj r'
end
abbrev Cx.wish (X:Cx) (E:Value->Shared->Prop):Cx:={X with xe:=E}
abbrev Cx.nox (X:Cx):Cx:=X.wish fun _ _=>False
theorem Cx.Ok.wish (ok:X.Ok) (E:Value->Shared->Prop):(X.wish E).Ok :=
 ⟨ok.mod,ok.kind,ok.glob,ok.blt,ok.above,ok.inj,ok.has,ok.cab,ok.hd,ok.frames,ok.stk,ok.exf,ok.bs,ok.bsz,ok.noex,ok.exfs,ok.funs,ok.frf⟩
theorem Cx.Ok.unwish {E:Value->Shared->Prop} (ok:(X.wish E).Ok):X.Ok :=
 ⟨ok.mod,ok.kind,ok.glob,ok.blt,ok.above,ok.inj,ok.has,ok.cab,ok.hd,ok.frames,ok.stk,ok.exf,ok.bs,ok.bsz,ok.noex,ok.exfs,ok.funs,ok.frf⟩
section
variable {X:Cx} {pins:List (Addr×Obj)} {σ:St} {H:Hp} {s:Shared} {E:Value->Shared->Prop}
theorem Inv.wish (I:Inv X pins σ H s) (E:Value->Shared->Prop):Inv (X.wish E) pins σ H s:=⟨I.ok.wish E,I.os,I.bare,I.base,I.loc,I.cell,I.free,I.freeC,I.pin,I.hok,I.len⟩
theorem Inv.unwish (I:Inv (X.wish E) pins σ H s):Inv X pins σ H s:=⟨I.ok.unwish,I.os,I.bare,I.base,I.loc,I.cell,I.free,I.freeC,I.pin,I.hok,I.len⟩
theorem SP.unwish {f:Flow} {s':Shared} (h:SP (X.wish E) pins D f s'):SP X pins D f s':=by
 cases f with
 | next=>obtain ⟨σ',H',I,q⟩:=h;exact ⟨σ',H',I.unwish,q⟩
 | brk=>obtain ⟨σ',H',I,q⟩:=h;exact ⟨σ',H',I.unwish,q⟩
 | cont=>obtain ⟨σ',H',I,q⟩:=h;exact ⟨σ',H',I.unwish,q⟩
 | ret u=>obtain ⟨v,σ',H',I,r,q⟩:=h;exact ⟨v,σ',H',I.unwish,r,q⟩
theorem PSs.nox {st:List Stmt} {t:TS} (h:PSs X.nox st t):PSs X st t:=fun pins s σ H D I hw =>
 qAq (h pins s σ H D (I.wish _) hw) (fun _ _ q=>q.unwish) fun _ _ z=>False.elim z
end
section
variable {X:Cx} {st:Stmt} {rest:List Stmt} {t u:TS} {e:Expr} {te:TE} {pos:Pos}
def tNext:TS:=fun D σ H=>D.nx σ H
def tSeq (t u:TS):TS:=fun D σ H=>t {D with nx:=u D} σ H
theorem zAq:PSs X [] tNext:=fun _ _ σ H _ I h=>qC3 ⟨σ,H,I,h⟩
theorem zAc (h1:PS X st t) (h2:PSs X rest u):PSs X (st::rest) (tSeq t u):=by
 intro pins s σ H D I h;refine wpAny_execs_cons (thn (h1 pins s σ H {D with nx:=u D} I h) fun f s1 q=>?_)
 cases f with
 | next =>
  obtain ⟨σ',H',I',q⟩:=q;exact h2 pins s1 σ' H' D I' q
 | ret v=>exact q
 | brk=>exact q
 | cont=>exact q
theorem zAe (h1:PS X st t):PSs X [st] t:=by
 intro pins s σ H D I h;refine wpAny_execs_cons (thn (h1 pins s σ H D I h) fun f s1 q=>?_)
 cases f with
 | next=>exact qC3 q
 | ret v=>exact q
 | brk=>exact q
 | cont=>exact q
theorem Inv.quiet (I:Inv X pins σ H s):interactive X.env=false:=by simp [interactive,I.ok.kind]
def tDrop (te:TE):TS:=fun D σ H=>te σ H fun _ H1=>D.nx σ H1
theorem zAr (he:PE X e te) (hs:swapsWith e none pos.line X.env=pure false:=by rfl):PS X (.Expr e pos) (tDrop te):=by
 intro pins s σ H D I h;exact wpAny_Expr_any (thn (he pins s σ H _ I h) fun v s1 ⟨x,H1,I1,r1,q1⟩=>⟨σ,H1,I1,q1⟩) I.quiet hs
def tRet (te:TE):TS:=fun D σ H=>te σ H D.rt
theorem zAo (he:PE X e te):PS X (.Return (some e) pos) (tRet te):=by
 intro pins s σ H D I h;exact wpAny_Return_some (thn (he pins s σ H _ I h) fun v s1 ⟨x,H1,I1,r1,q1⟩=>⟨x,σ,H1,I1,r1,q1⟩)
def tIfS (c:TT) (t u:TS):TS:=fun D σ H=>c σ H fun b H1=>if b=true then t D σ H1 else u D σ H1
theorem zCc {c:Expr} {a b:List Stmt} {tc:TT} (hc:PT X c tc) (ha:PSs X a t) (hb:PSs X b u):PS X (.If c a b pos) (tIfS tc t u):=by
 intro pins s σ H D I h;refine wpAny_If (thn (hc pins s σ H _ I h) fun d s1 ⟨H1,I1,q1⟩=>?_)
 cases d with
 | true=>exact ha pins s1 σ H1 D I1 q1
 | false=>exact hb pins s1 σ H1 D I1 q1
def tNever:TS:=fun _ _ _=>False
theorem zAy:PS X st tNever:=fun _ _ _ _ _ _ h=>h.elim
end
abbrev TG:=V->St->Hp->(St->Hp->Prop)->Prop
variable {g:TG}
abbrev TGs:=List V->St->Hp->(St->Hp->Prop)->Prop
def PG (X:Cx) (target:Expr) (t:TG):Prop :=
 ∀(pins:List (Addr×Obj)) (s:Shared) (σ:St) (H:Hp) (v:V) (u:Value) (Q:St->Hp->Prop),Inv X pins σ H s->RelV v u->t v σ H Q ->
  wpAny (model X.prog X.w) X.A (assign target X.env u) (fun _ s'=>∃σ' H',Inv X pins σ' H' s'/\Q σ' H') X.xe s
def PGs (X:Cx) (ts:List Expr) (t:TGs):Prop :=
 ∀(pins:List (Addr×Obj)) (s:Shared) (σ:St) (H:Hp) (vs:List V) (us:List Value) (Q:St->Hp->Prop),Inv X pins σ H s->Vals vs us->t vs σ H Q ->
  wpAny (model X.prog X.w) X.A (assignInOrder ((assignEach ts X.env).map (·.2)) us) (fun _ s'=>∃σ' H',Inv X pins σ' H' s'/\Q σ' H') X.xe s
abbrev TSet:=V->V->V->Hp->(Hp->Prop)->Prop
def PSet (X:Cx) (t:TSet):Prop :=
 ∀(pins:List (Addr×Obj)) (s:Shared) (σ:St) (H:Hp) (o i v:V) (ov iv u:Value) (Q:Hp->Prop),Inv X pins σ H s->RelV o ov->RelV i iv->RelV v u->t o i v H Q ->
  wpAny (model X.prog X.w) X.A (setItem ov iv u) (fun _ s'=>∃H',Inv X pins σ H' s'/\Q H') X.xe s
section
variable {X:Cx} {pos:Pos}
def gName (i:Nat):TG:=fun v σ H Q=>Q (σ.set i (some v)) H
theorem pg_name (hN:X.N.Nodup) (hi:X.N[i]?=some x) (hx:Loc X.env.scope x) (hf:X.fn x=true\/X.env.scope.names.lookup x=some .local:=by first| exact .inl rfl| exact .inr rfl| assumption):PG X (.Name x pos) (gName i):=by
 intro pins s σ H v u Q I r h;exact wpAny_assign_Name (store_ok I hN hi hx r (fun s' I'=>⟨_,H,I',h⟩) hf)
def gNil:TGs:=fun vs σ H Q=>vs=[]/\Q σ H
def gCons (t:TG) (u:TGs):TGs:=fun vs σ H Q=>∃v r,vs=v::r/\t v σ H fun σ' H'=>u r σ' H' Q
theorem zD4:PGs X [] gNil:=by
 intro pins s σ H vs us Q I r h;obtain ⟨e,h⟩:=h;subst e
 cases r
 exact assignInOrder_nil ⟨σ,H,I,h⟩
theorem zA1 {es:List Expr} {t:TG} {u:TGs} (h1:PG X e t) (h2:PGs X es u)
  (hs:(assignEach (e::es) X.env).map (·.2)=assign e X.env::(assignEach es X.env).map (·.2):=by rfl):PGs X (e::es) (gCons t u):=by
 intro pins s σ H vs us Q I r h;obtain ⟨v,vr,e1,h⟩:=h;subst e1
 cases r with
 | cons r rr =>
  rw [hs];refine assignInOrder_cons (thn (h1 pins s σ H _ _ _ I r h) fun _ s1 ⟨σ1,H1,I1,q1⟩=>?_);exact h2 pins s1 σ1 H1 _ _ Q I1 rr q1
def gTup (K:PySem.W.Frag) (n:Nat) (t:TGs):TG:=fun v σ H Q=>∃a xs,v= .ref a/\SqT K H a xs/\xs.length=n/\t xs σ H Q
theorem zH8 {es:List Expr} {k:Nat} {t:TGs} {n:Nat} (hc:X.calm=true) (h:PGs X es t)
  (hn:(assignEach es X.env).length=n:=by rfl) (hst:(assignEach es X.env).findIdx? (·.1)=none:=by rfl):PG X (.Tuple es k pos) (gTup X.K n t):=by
 intro pins s σ H v u Q I r hw;obtain ⟨a,xs,e1,hq,hl,hw⟩:=hw;subst e1
 cases r
 obtain ⟨its,rv,ht,hz⟩:=I.tuple hq;refine assign_Tuple_tuple (I.ok.hd hc) ht (by simp [hn,<-hl,rv.length]) hst fun h' hx=>?_;have I1:Inv X pins σ H {s with heap:=h'}:=I.kept (t':=s.toks) fun b o e=>hx b o (qAN (qAK e)) e;exact h pins _ σ H xs _ Q I1 (by simpa using rv) hw
def gSub (to ti:TE) (t:TSet):TG:=fun v σ H Q=>to σ H fun o H1=>ti σ H1 fun i H2=>t o i v H2 fun H3=>Q σ H3
theorem pg_sub {o i:Expr} {to ti:TE} {t:TSet} (ho:PE X o to) (hi:PE X i ti) (hs:PSet X t)
  (ha:∀v,assign (.Subscript o i pos) X.env v=(do
   let ov<-holding [v] (eval o X.env)
   let iv<-holding [v,ov] (eval i X.env)
   standAt pos
   holding [v,ov,iv] (setItem ov iv v)
   release [v,ov,iv] []):=by intro _;rfl):PG X (.Subscript o i pos) (gSub to ti t):=by
 intro pins s σ H v u Q I r h;rw [ha];refine qAA (qAx (thn (ho pins s σ H _ I h) fun ov s1 ⟨x,H1,I1,r1,q1⟩=>?_));refine qAA (qAx (thn (hi pins s1 σ H1 _ I1 q1) fun iv s2 ⟨y,H2,I2,r2,q2⟩=>?_));refine qAA (qBy (qAA (qAx (thn (hs pins s2 σ H2 x y v ov iv u _ I2 r1 r2 r q2) fun _ s3 ⟨H3,I3,q3⟩=>?_))));exact wpAny_release ⟨σ,H3,I3,q3⟩
def tAsg (te:TE) (g:TG):TS:=fun D σ H=>te σ H fun x H1=>g x σ H1 D.nx
theorem ps_asg {te:TE} (he:PE X e te) (hg:PG X tg g) (hs:swapsWithSole [tg] e pos.line X.env=pure false:=by rfl) (hw:swappedStores [tg] e X.env=pure none:=by rfl)
  (h1:(assignEach [tg] X.env).map (·.2)=[assign tg X.env]:=by rfl):PS X (.Assign [tg] e pos) (tAsg te g):=by
 intro pins s σ H D I h;refine wpAny_Assign_stores (thn (he pins s σ H _ I h) fun v s1 ⟨x,H1,I1,r1,q1⟩=>?_) hs hw;rw [h1];exact thn (hg pins s1 σ H1 x v _ I1 r1 q1) fun _ s2 q=>q
theorem ps_set {i:Nat} {x:Str} {e:Expr} {te:TE} {pos':Pos} (hN:X.N.Nodup) (hi:X.N[i]?=some x) (hx:Loc X.env.scope x) (he:PE X e te) (hs:swapsWith e (some (.Name x pos')) pos.line X.env=pure false:=by rfl) (hf:X.fn x=true\/X.env.scope.names.lookup x=some .local:=by first| exact .inl rfl| exact .inr rfl| assumption) :
  PS X (.Assign [.Name x pos'] e pos) (tAsg te (gName i)):=by
 intro pins s σ H D I h;refine wpAny_Assign_Name (thn (he pins s σ H _ I h) fun v s1 ⟨y,H1,I1,r1,q1⟩=>?_) hs;exact store_ok I1 hN hi hx r1 (fun s2 I2=>⟨_,H1,I2,q1⟩) hf
end
section
variable {X:Cx} {pos:Pos}
def tWhile (c:TT) (tb:TS):TS:=fun D σ H=>∃W:Nat->St->Hp->Prop,(∃m,W m σ H)/\∀m σ H,W m σ H ->
 c σ H fun b H1=>if b=true then∃N:St->Hp->Prop,(∀σ' H',N σ' H'->∃m',m'<m/\W m' σ' H')/\tb {D with nx:=N,ct:=N,bk:=D.nx} σ H1 else D.nx σ H1
theorem zFf {c:Expr} {body:List Stmt} {tc:TT} (hp:PassesOwn (model X.prog X.w) X.A X.env X.xe) (hc:PT X c tc) (hb:PSs X body tb):PS X (.While c body [] pos) (tWhile tc tb):=by
 intro pins s σ H D I h;obtain ⟨W,⟨m0,w0⟩,turn⟩:=h;refine wpAny_While (codeAny_whileLoop (fun n s'=>∃σ' H',Inv X pins σ' H' s'/\W n σ' H') ?_ m0 ⟨σ,H,I,w0⟩);rintro n s1 ⟨σ1,H1,I1,w1⟩;refine qBz hp (thn (hc pins s1 σ1 H1 _ I1 (turn n σ1 H1 w1)) fun b s2 ⟨H2,I2,q2⟩=>?_)
 cases b with
 | true =>
  obtain ⟨N,hN,q2⟩:=q2;rw [qAC rfl];refine qBz hp (thn (hb pins s2 σ1 H2 _ I2 q2) fun f s3 q3=>?_)
  cases f with
  | next =>
   obtain ⟨σ3,H3,I3,n3⟩:=q3;obtain ⟨m',hm,w3⟩:=hN σ3 H3 n3;exact ⟨m',hm,σ3,H3,I3,w3⟩
  | cont =>
   obtain ⟨σ3,H3,I3,n3⟩:=q3;obtain ⟨m',hm,w3⟩:=hN σ3 H3 n3;exact ⟨m',hm,σ3,H3,I3,w3⟩
  | brk=>exact q3
  | ret v=>exact q3
 | false =>
  rw [qAB qAl];exact qC3 ⟨σ1,H2,I2,q2⟩
end
structure It where
 go:Nat->Hp->Prop
 yld:Nat->Hp->V->Hp->Prop
 stop:Nat->Hp->Prop
def FpOk (X:Cx) (pins:List (Addr×Obj)) (H:Hp) (b:Addr):Prop :=
 H b=none/\b≠X.env.locals/\b∉X.fs/\(b∈X.ex\/X.s₀.heap.objs.size<=b)/\(∀x c,X.env.cells.lookup x=some c->c≠b)/\∀p∈X.pn++pins,p.1≠b
theorem Inv.fpOk {H':Hp} {b:Addr} (I:Inv X pins σ H s) (hb:s.heap.objs.size<=b) (hn:H' b=none):FpOk X pins H' b:=by
 refine ⟨hn,qAu (qAn I.lt hb),I.nofs hb,.inr (qAW I.sz hb),fun x c e z=>?_,fun p hp z=>?_⟩
 ·obtain ⟨v,q⟩:=I.cell x c e;exact absurd (qAn q.lt (by rw [z];exact hb)) (qBI _)
 ·exact absurd (qAn (qAK (I.pin p hp).1) (by rw [z];exact hb)) (qBI _)
structure Turn (P:Program) (w:World) (K:PySem.W.Frag) (tg:Expr) (J:It) (fp:List Addr) (it:Addr) (tn:Nat->Heap->Prop):Prop where
 mem:it∈fp
 obj:∀i h,tn i h->∀b∈fp,∃o,h.get? b=some o/\∀v,o.data≠.cell v
 keep:∀i h h',tn i h->(∀b∈fp,∀o,h.get? b=some o->h'.get? b=some o)->tn i h'
 item:∀(X:Cx),X.prog=P->X.w=w->X.K=K->X.calm=true->∀(i:Nat) (pins:List (Addr×Obj)) (s:Shared) (σ:St) (H:Hp) (E:Value->Shared->Prop),Inv X pins σ H s->(∀b∈fp,FpOk X pins H b)->tn i s.heap->J.go i H ->
  wpAny (model P w) X.A (pyNext (.ref it)) (fun r s1=>∃u,r=some u /\
   wpAny (model P w) X.A (letOwnedTupleGo tg (.ref it) u) (fun _ s2=>∃x H',Inv X pins σ H' s2/\RelV x u/\J.yld i H x H'/\tn (i+1) s2.heap/\∀b∈fp,H' b=none) E s1) E s
 done:∀(X:Cx),X.prog=P->X.w=w->X.K=K->X.calm=true->∀(i:Nat) (pins:List (Addr×Obj)) (s:Shared) (σ:St) (H:Hp) (E:Value->Shared->Prop),Inv X pins σ H s->(∀b∈fp,FpOk X pins H b)->tn i s.heap->J.stop i H ->
  wpAny (model P w) X.A (pyNext (.ref it)) (fun r s1=>r=none/\Inv X pins σ H s1) E s
 self:∀(A:Around) (i:Nat) (s:Shared) (Q:Value->Shared->Prop) (E:Value->Shared->Prop),tn i s.heap->Q (.ref it) s->wpAny (model P w) A (pyIter (.ref it)) Q E s
abbrev TI:=St->Hp->(It->Hp->Prop)->Prop
def PIE (X:Cx) (pins:List (Addr×Obj)) (σ:St) (tg:Expr) (R:It->Hp->Prop) (itv:Value) (s2:Shared):Prop :=
 ∃(it:Addr) (fp:List Addr) (tn:Nat->Heap->Prop) (J:It) (H':Hp),itv= .ref it/\Inv X pins σ H' s2/\Turn X.prog X.w X.K tg J fp it tn/\tn 0 s2.heap/\(∀b∈fp,FpOk X pins H' b)/\R J H'
def PI (X:Cx) (tg iter:Expr) (wi:TI):Prop :=
 ∀(pins:List (Addr×Obj)) (s:Shared) (σ:St) (H:Hp) (R:It->Hp->Prop),Inv X pins σ H s->wi σ H R ->
  wpAny (model X.prog X.w) X.A (eval iter X.env) (fun v s1=>wpAny (model X.prog X.w) X.A (pyIter v) (PIE X pins σ tg R) X.xe s1) X.xe s
theorem go_of {M:Model} {E:Value->Shared->Prop} {s:Shared} {it:Addr} {o:Obj} {n:String} {vs:Array Value} {Q:Unit->Shared->Prop} (ho:s.heap.get? it=some o) (hc:o.cls= .type n) (hd:o.data= .fields vs)
  (hn:["enumerate", "zip", "dict_itemiterator", "dict_reverseitemiterator", "odict_iterator", "itertools.zip_longest", "itertools.pairwise"].contains n=false) (hQ:Q () s):wpAny M A (letOwnedTupleGo tg (.ref it) u) Q E s:=by
 unfold letOwnedTupleGo
 cases tg<;>first
  | exact qAE hQ
  | (cases u<;>first
    | exact qAE hQ
    | (refine qAA (qB0 ho ?_)
       rw [hc,hd];show wpAny M A (if (["enumerate", "zip", "dict_itemiterator", "dict_reverseitemiterator", "odict_iterator", "itertools.zip_longest", "itertools.pairwise"].contains n&&vs[0]?==some (rawInt _))=true then _ else _) Q E s;rw [qAB (by intro h;rw [hn,Bool.false_and] at h;cases h)];exact qAE hQ))
def Itl (K:PySem.W.Frag) (a:Addr):It :=
 ⟨fun i H=>∃xs x,SqL K H a xs/\xs[i]?=some x,fun i H x H'=>H'=H/\∀xs,SqL K H a xs->xs[i]?=some x,fun i H=>∃xs,SqL K H a xs/\xs.length<=i⟩
def Itt (K:PySem.W.Frag) (a:Addr):It :=
 ⟨fun i H=>∃xs x,SqT K H a xs/\xs[i]?=some x,fun i H x H'=>H'=H/\∀xs,SqT K H a xs->xs[i]?=some x,fun i H=>∃xs,SqT K H a xs/\xs.length<=i⟩
def Itr (lo:Int) (n:Nat):It:=⟨fun i _=>i<n,fun i H x H'=>H'=H/\x= .int (lo+i),fun i _=>n<=i⟩
theorem turn_list (a it:Addr):Turn P w K tg (Itl K a) [it] it (fun i h=>h.IsListIter it a i) where
 mem:=by simp
 obj:=fun i h st b hb=>by
  have e:b=it:=by simpa using hb
  subst e;obtain ⟨o,e,c,d⟩:=st;exact ⟨o,e,fun v z=>by rw [d] at z;cases z⟩
 keep:=fun i h h' st k=>st.at fun o e=>k it (by simp) o e
 item:=by
  intro X hP hw hK hc i pins s σ H E I hf st hg;subst hP hw hK;obtain ⟨xs,x,hq,hx⟩:=hg;obtain ⟨its,rv,p,hz⟩:=I.list hq;obtain ⟨u,hu,ru⟩:=rv.get hx;obtain ⟨f0,f1,f2,f3,f4,f5⟩:=hf it (by simp);refine wpAny_pyNext_list_item st p.isList (x:=u) (by simpa using hu) fun h' st' sb=>?_;have I1:Inv X pins σ H {s with heap:=h'}:=I.turned (t':=s.toks) (fun b o hb e=>(sb.2 b hb).trans e) f0 f1 f3 f4 f5;obtain ⟨o,e,c,d⟩:=id st';exact ⟨u,rfl,go_of (s:={s with heap:=h'}) e c d (by decide) ⟨x,H,I1,ru,⟨rfl,fun ys hy=>by rw [I.list_inj hy hq];exact hx⟩,st',fun b hb=>(hf b hb).1⟩⟩
 done:=by
  intro X hP hw hK hc i pins s σ H E I hf st hg;subst hP hw hK;obtain ⟨xs,hq,hx⟩:=hg;obtain ⟨its,rv,p,hz⟩:=I.list hq;obtain ⟨f0,f1,f2,f3,f4,f5⟩:=hf it (by simp);have hl:=rv.length;exact wpAny_pyNext_list_end (I.ok.hd hc) st p.isList (by simp;lia) fun h' eb=>⟨rfl,I.turned (t':=s.toks) (fun b o hb e=>eb b o hb e) f0 f1 f3 f4 f5⟩
 self:=fun _ _ _ _ _ st h=>wpAny_pyIter_listiter st h
theorem turn_tuple (a it:Addr):Turn P w K tg (Itt K a) [it] it (fun i h=>h.IsTupleIter it a i) where
 mem:=by simp
 obj:=fun i h st b hb=>by
  have e:b=it:=by simpa using hb
  subst e;obtain ⟨o,e,c,d⟩:=st;exact ⟨o,e,fun v z=>by rw [d] at z;cases z⟩
 keep:=fun i h h' st k=>st.at fun o e=>k it (by simp) o e
 item:=by
  intro X hP hw hK hc i pins s σ H E I hf st hg;subst hP hw hK;obtain ⟨xs,x,hq,hx⟩:=hg;obtain ⟨its,rv,p,hz⟩:=I.tuple hq;obtain ⟨u,hu,ru⟩:=rv.get hx;obtain ⟨f0,f1,f2,f3,f4,f5⟩:=hf it (by simp);refine wpAny_pyNext_tuple_item st (show s.heap.IsTuple a its.toArray from p) (x:=u) (by simpa using hu) fun h' st' sb=>?_;have I1:Inv X pins σ H {s with heap:=h'}:=I.turned (t':=s.toks) (fun b o hb e=>(sb.2 b hb).trans e) f0 f1 f3 f4 f5;obtain ⟨o,e,c,d⟩:=id st';exact ⟨u,rfl,go_of (s:={s with heap:=h'}) e c d (by decide) ⟨x,H,I1,ru,⟨rfl,fun ys hy=>by rw [I.tuple_inj hy hq];exact hx⟩,st',fun b hb=>(hf b hb).1⟩⟩
 done:=by
  intro X hP hw hK hc i pins s σ H E I hf st hg;subst hP hw hK;obtain ⟨xs,hq,hx⟩:=hg;obtain ⟨its,rv,p,hz⟩:=I.tuple hq;obtain ⟨f0,f1,f2,f3,f4,f5⟩:=hf it (by simp);have hl:=rv.length;exact wpAny_pyNext_tuple_end (I.ok.hd hc) st (show s.heap.IsTuple a its.toArray from p) (by simp;lia) fun h' eb=>⟨rfl,I.turned (t':=s.toks) (fun b o hb e=>eb b o hb e) f0 f1 f3 f4 f5⟩
 self:=fun _ _ _ _ _ st h=>wpAny_pyIter_tupleiter st h
theorem turn_range (it:Addr) (lo:Int) (n:Nat):Turn P w K tg (Itr lo n) [it] it (fun i h=>IsRangeIter h it (lo+(i:Nat)*1) ((n:Int) - (i:Nat)) 1) where
 mem:=by simp
 obj:=fun i h st b hb=>by
  have e:b=it:=by simpa using hb
  subst e
  exact ⟨_,st,fun v z=>by
   have z':Data.fields _=Data.cell v:=z
   cases z'⟩
 keep:=fun i h h' st k=>k it (by simp) _ st
 item:=by
  intro X hP hw hK hc i pins s σ H E I hf st hg;subst hP hw hK;obtain ⟨f0,f1,f2,f3,f4,f5⟩:=hf it (by simp);have W:=Walks.range (prog:=X.prog) (w:=X.w) (I.ok.hd hc) it lo 1 n;refine W.item i s _ _ hg st fun v h' tk hv st' kk=>?_;obtain ⟨t,rfl⟩:=hv;have I1:Inv X pins σ H {s with heap:=h',toks:=tk}:=I.turned (fun b o hb e=>kk b o (by simpa using hb) e) f0 f1 f3 f4 f5;refine ⟨_,rfl,go_of (s:={s with heap:=h',toks:=tk}) (n:= "range_iterator") st' rfl rfl (by decide) ⟨.int (lo+i),H,I1,⟨t,?_⟩,⟨rfl,rfl⟩,st',fun b hb=>(hf b hb).1⟩⟩;rw [Int.mul_one]
 done:=by
  intro X hP hw hK hc i pins s σ H E I hf st hg;subst hP hw hK;obtain ⟨f0,f1,f2,f3,f4,f5⟩:=hf it (by simp);exact wpAny_pyNext_range_end (I.ok.hd hc) st (by have:n<=i:=hg;lia) fun h' eb=>⟨rfl,I.turned (t':=s.toks) (fun b o hb e=>eb b o hb e) f0 f1 f3 f4 f5⟩
 self:=fun _ _ _ _ _ st h=>wpAny_pyIter_rangeiter st h
section
variable {X:Cx} {tg:Expr}
def iList (K:PySem.W.Frag) (tl:TE):TI:=fun σ H R=>tl σ H fun x H1=>∃a,x= .ref a/\(∃xs,SqL K H1 a xs)/\R (Itl K a) H1
def iTup (K:PySem.W.Frag) (tl:TE):TI:=fun σ H R=>tl σ H fun x H1=>∃a,x= .ref a/\(∃xs,SqT K H1 a xs)/\R (Itt K a) H1
theorem zAk {l:Expr} {tl:TE} (hl:PE X l tl):PI X tg l (iList X.K tl):=by
 intro pins s σ H R I h;refine thn (hl pins s σ H _ I h) fun v s1 ⟨x,H1,I1,r1,q1⟩=>?_;obtain ⟨a,e,⟨xs,hq⟩,q⟩:=q1;subst e
 cases r1
 obtain ⟨its,rv,p,hz⟩:=I1.list hq;refine qC4 p.isList ?_;refine ⟨s1.heap.objs.size,[s1.heap.objs.size],_,_,H1,rfl,I1.kept (t':=s1.toks) fun b o e=>qAI _ e,turn_list a _,⟨_,qAc _ rfl,rfl,rfl⟩,fun b hb=>?_,q⟩;have e:b=s1.heap.objs.size:=by simpa using hb
 subst e;exact I1.fpOk (qAF _) (I1.hok.fresh (qAF _))
theorem pi_tup {l:Expr} {tl:TE} (hl:PE X l tl):PI X tg l (iTup X.K tl):=by
 intro pins s σ H R I h;refine thn (hl pins s σ H _ I h) fun v s1 ⟨x,H1,I1,r1,q1⟩=>?_;obtain ⟨a,e,⟨xs,hq⟩,q⟩:=q1;subst e
 cases r1
 obtain ⟨its,rv,p,hz⟩:=I1.tuple hq;refine wpAny_pyIter_tuple (show s1.heap.IsTuple a its.toArray from p) ?_;refine ⟨s1.heap.objs.size,[s1.heap.objs.size],_,_,H1,rfl,I1.kept (t':=s1.toks) fun b o e=>qAI _ e,turn_tuple a _,⟨_,qAc _ rfl,rfl,rfl⟩,fun b hb=>?_,q⟩;have e:b=s1.heap.objs.size:=by simpa using hb
 subst e;exact I1.fpOk (qAF _) (I1.hok.fresh (qAF _))
theorem range_it {R:It->Hp->Prop} {E:Value->Shared->Prop} {lo hi:Int} {t u v:Tok} {tk:Nat} (I:Inv X pins σ H s) (h1:-(2^62)<=lo) (h2:lo<2^62) (h3:-(2^62)<=hi) (h4:hi<2^62)
  (q:R (Itr lo (hi - lo).toNat) H):wpAny (model X.prog X.w) X.A (pyIter (.ref s.heap.objs.size)) (PIE X pins σ tg R) E {s with heap:=s.heap.push {cls:=.type "range",data:=.fields #[.int lo t,.int hi u,.int 1 v]},toks:=tk}:=by
 refine wpAny_pyIter_range (IsRange.new ..) (small_one h1 h2 h3 h4) ?_;have I1:Inv X pins σ H {s with heap:=s.heap.push {cls:=.type "range",data:=.fields #[.int lo t,.int hi u,.int 1 v]},toks:=tk}:=I.kept fun b o e=>qAI _ e
 refine ⟨(s.heap.push {cls:=.type "range",data:=.fields #[.int lo t,.int hi u,.int 1 v]}).objs.size,[(s.heap.push {cls:=.type "range",data:=.fields #[.int lo t,.int hi u,.int 1 v]}).objs.size],_,_,H,rfl,
  I1.kept (t':=tk) fun b o e=>qAI _ e,turn_range _ lo (hi - lo).toNat,?_,fun b hb=>?_,q⟩
 ·have e1:lo+((0:Nat):Int)*1=lo:=by simp
  have e2:(((hi - lo).toNat:Nat):Int) - ((0:Nat):Int)=Builtin.Range.rangeSize lo hi 1:=by rw [rangeSize_one];split<;>lia
  show IsRangeIter _ _ (lo+((0:Nat):Int)*1) ((((hi - lo).toNat:Nat):Int) - ((0:Nat):Int)) 1;rw [e1,e2];exact qAc _ rfl
 ·have e:b=(s.heap.push {cls:=.type "range",data:=.fields #[.int lo t,.int hi u,.int 1 v]}).objs.size:=by simpa using hb
  subst e;exact I1.fpOk (qAF _) (I1.hok.fresh (qAF _))
def iRng1 (ta:TA):TI:=fun σ H R=>ta σ H fun vs H1=>∃j:Int,vs=[.int j]/\-(2^62)<=j/\j<2^62/\R (Itr 0 j.toNat) H1
def iRng2 (ta:TA):TI:=fun σ H R=>ta σ H fun vs H1=>∃i j:Int,vs=[.int i,.int j]/\(-(2^62)<=i/\i<2^62/\-(2^62)<=j/\j<2^62)/\R (Itr i (j - i).toNat) H1
theorem zCp {a:Expr} {ta:TA} {p:Pos} (hg:Gl X "range") (hm:X.mg "range" = none) (ha:PA X [a] ta) (hs:starEach [a] X.env=[(false,eval a X.env)]:=by rfl):PI X tg (.Call (.Name "range" p) [a] [] pos) (iRng1 ta):=by
 intro pins s σ H R I h;refine Call_ (zEb I hg hm boot_range (qCI (thn (ha pos pins s σ H _ I h) fun us s1 ⟨vs,H1,I1,r1,q1⟩=>?_) hs rfl));obtain ⟨j,e,q1,q2,q⟩:=q1;subst e
 cases r1 with
 | cons r rr =>
  cases rr
  obtain ⟨t,rfl⟩:=r;exact call_range_1 (range_it I1 (by lia) (by lia) q1 q2 (by simpa using q))
theorem pi_range2 {a b:Expr} {ta:TA} {p pos:Pos} (hg:Gl X "range") (hm:X.mg "range" = none) (ha:PA X [a,b] ta) (hs:starEach [a,b] X.env=[(false,eval a X.env),(false,eval b X.env)]:=by rfl) (hs2:starEach [b] X.env=[(false,eval b X.env)]:=by rfl) :
  PI X tg (.Call (.Name "range" p) [a,b] [] pos) (iRng2 ta):=by
 intro pins s σ H R I h;refine Call_ (zEb I hg hm boot_range (qCI (thn (ha pos pins s σ H _ I h) fun us s1 ⟨vs,H1,I1,r1,q1⟩=>?_) (by rw [hs,hs2]) (by rw [hs2];rfl)));obtain ⟨i,j,e,⟨q1,q2,q3,q4⟩,q⟩:=q1;subst e
 cases r1 with
 | cons r rr =>
  cases rr with
  | cons r' rr =>
   cases rr
   obtain ⟨t,rfl⟩:=r;obtain ⟨t',rfl⟩:=r';exact call_range_2 (range_it I1 q1 q2 q3 q4 q)
def tFor (wi:TI) (g:TG) (tb:TS):TS:=fun D σ H=>wi σ H fun J H1=>∃W:Nat->Nat->St->Hp->Prop,(∃m,W 0 m σ H1)/\∀i m σ H,W i m σ H ->
 (J.stop i H/\D.nx σ H)\/(J.go i H/\∃N:St->Hp->Prop,(∀σ' H',N σ' H'->∃m',m'<m/\W (i+1) m' σ' H')/\∀x H',J.yld i H x H'->g x σ H' fun σ2 H2=>tb {D with nx:=N,ct:=N,bk:=D.nx} σ2 H2)
def pinsAt (fp:List Addr) (h:Heap):List (Addr×Obj):=fp.filterMap fun b=>(h.get? b).map fun o=>(b,o)
theorem zEn {fp:List Addr} {o:Obj} (hb:b∈fp) (e:h.get? b=some o):(b,o)∈pinsAt fp h:=List.mem_filterMap.mpr ⟨b,hb,by rw [e];rfl⟩
theorem of_pinsAt {fp:List Addr} {p:Addr×Obj} (hp:p∈pinsAt fp h):p.1∈fp/\h.get? p.1=some p.2:=by
 obtain ⟨b,hb,e⟩:=List.mem_filterMap.mp hp
 cases q:h.get? b with
 | none=>rw [q] at e;cases e
 | some o =>
  rw [q] at e;have e':(b,o)=p:=qAh e;subst e';exact ⟨hb,q⟩
theorem Inv.pinned {fp:List Addr} (I:Inv X pins σ H s) (hf:∀b∈fp,FpOk X pins H b) (ho:∀b∈fp,∃o,s.heap.get? b=some o/\∀v,o.data≠.cell v):Inv X (pins++pinsAt fp s.heap) σ H s :=
 I.pins_of fun p hp=>(qAQ.mp hp).elim (fun z=>I.pin p (qAv _ z)) fun z=>by
  obtain ⟨hb,e⟩:=of_pinsAt z;obtain ⟨f0,f1,f2,_⟩:=hf p.1 hb;obtain ⟨o,e',d⟩:=ho p.1 hb;rw [e] at e';cases e';exact ⟨e,f0,f1,f2,d⟩
theorem Inv.unpinned {pl:List (Addr×Obj)} (I:Inv X (pins++pl) σ H s):Inv X pins σ H s:=I.pins_of fun p hp=>I.pin p (qAv _ (qAs _ hp))
theorem zAu {iter:Expr} {body:List Stmt} {wi:TI} (hp:PassesOwn (model X.prog X.w) X.A X.env X.xe) (hc:X.calm=true) (hi:PI X tg iter wi) (hg:PG X tg g) (hb:PSs X body tb)
  (hs:∀x,foldedSetIterable iter X.env x=pure x:=by intro _;rfl):PS X (.For tg iter body [] pos) (tFor wi g tb):=by
 intro pins s σ H D I h;refine wpAny_For (thn (hi pins s σ H _ I h) fun v s1 h1=>thn h1 fun itv s2 h2=>?_) hs;obtain ⟨it,fp,tn,J,H2,e,I2,T,st2,f2,W,⟨m0,w0⟩,turn⟩:=h2;subst e;have stat:∀{H':Hp},(∀b∈fp,H' b=none)->∀b∈fp,FpOk X pins H' b:=fun hn b hb=>⟨hn b hb,(f2 b hb).2⟩;refine codeAny_forLoop_any (fun n s'=>∃i σ' H',Inv X pins σ' H' s'/\tn i s'.heap/\(∀b∈fp,H' b=none)/\W i n σ' H') ?_ m0 ⟨0,σ,H2,I2,st2,fun b hb=>(f2 b hb).1,w0⟩;rintro n s3 ⟨i,σ3,H3,I3,st3,fr3,w3⟩;rcases turn i n σ3 H3 w3 with ⟨stop,qn⟩| ⟨go,N,hN,step⟩
 ·refine qBz hp (thn (T.done X rfl rfl rfl hc i pins s3 σ3 H3 X.xe I3 (stat fr3) st3 stop) fun r s4 ⟨hr,I4⟩=>?_);subst hr;exact qC3 ⟨σ3,H3,I4,qn⟩
 ·refine qBz hp (thn (T.item X rfl rfl rfl hc i pins s3 σ3 H3 X.xe I3 (stat fr3) st3 go) fun r s4 ⟨u,hr,h4⟩=>?_);subst hr;refine qBz hp (thn h4 fun _ s5 ⟨x,H5,I5,r5,y5,st5,fr5⟩=>?_);have I5':=I5.pinned (stat fr5) (T.obj _ _ st5);refine qBz hp (thn (hg _ s5 σ3 H5 x u _ I5' r5 (step x H5 y5)) fun _ s6 ⟨σ6,H6,I6,q6⟩=>?_);refine qBz hp (thn (hb _ s6 σ6 H6 _ I6 q6) fun f s7 q7=>?_)
  have again:∀{σ7:St} {H7:Hp},Inv X (pins++pinsAt fp s5.heap) σ7 H7 s7->N σ7 H7->∃m,m<n/\∃i σ' H',Inv X pins σ' H' s7/\tn i s7.heap/\(∀b∈fp,H' b=none)/\W i m σ' H':=fun {σ7 H7} I7 n7=>by
   obtain ⟨m',hm,w7⟩:=hN σ7 H7 n7;refine ⟨m',hm,i+1,σ7,H7,I7.unpinned,T.keep _ _ _ st5 fun b hb o e=>(I7.pin (b,o) (qAv _ (qAv _ (zEn hb e)))).1,fun b hb=>?_,w7⟩;obtain ⟨o,e,d⟩:=T.obj _ _ st5 b hb;exact (I7.pin (b,o) (qAv _ (qAv _ (zEn hb e)))).2.1
  cases f with
  | next=>obtain ⟨σ7,H7,I7,n7⟩:=q7;exact again I7 n7
  | cont=>obtain ⟨σ7,H7,I7,n7⟩:=q7;exact again I7 n7
  | brk=>obtain ⟨σ7,H7,I7,q7⟩:=q7;exact ⟨σ7,H7,I7.unpinned,q7⟩
  | ret v=>obtain ⟨x7,σ7,H7,I7,r7,q7⟩:=q7;exact ⟨x7,σ7,H7,I7.unpinned,r7,q7⟩
end
theorem zAv {xs:List V} (Pv:Nat->St->Hp->Prop) (h0:Pv 0 σ H) (hl:∀i σ H,i<=xs.length->Pv i σ H->SqL K H a xs)
  (hs:∀i x σ H,xs[i]?=some x->Pv i σ H->g x σ H fun σ2 H2=>tb {D with nx:=Pv (i+1),ct:=Pv (i+1),bk:=D.nx} σ2 H2) (hd:∀σ H,Pv xs.length σ H->D.nx σ H) :
  ∃W:Nat->Nat->St->Hp->Prop,(∃m,W 0 m σ H)/\∀i m σ H,W i m σ H ->
   ((Itl K a).stop i H/\D.nx σ H)\/((Itl K a).go i H/\∃N:St->Hp->Prop,(∀σ' H',N σ' H'->∃m',m'<m/\W (i+1) m' σ' H')/\∀x H',(Itl K a).yld i H x H'->g x σ H' fun σ2 H2=>tb {D with nx:=N,ct:=N,bk:=D.nx} σ2 H2):=by
 refine ⟨fun i m σ H=>m=xs.length - i/\i<=xs.length/\Pv i σ H,⟨xs.length,by simp,qAd _,h0⟩,?_⟩;rintro i m σ H ⟨rfl,hi,p⟩;have q:=hl i σ H hi p
 by_cases hlt:i<xs.length
 ·refine .inr ⟨⟨xs,xs[i],q,by simp [hlt]⟩,Pv (i+1),fun σ' H' p'=>⟨xs.length - (i+1),by lia,rfl,hlt,p'⟩,fun x H' y=>?_⟩;obtain ⟨e,y⟩:=y;subst e;exact hs i x σ _ (y xs q) p
 ·have e:i=xs.length:=by lia
  subst e;exact .inl ⟨⟨xs,q,qAF _⟩,hd σ H p⟩
theorem for_tup (Pv:Nat->St->Hp->Prop) (h0:Pv 0 σ H) (hl:∀i σ H,i<=xs.length->Pv i σ H->SqT K H a xs)
  (hs:∀i x σ H,xs[i]?=some x->Pv i σ H->g x σ H fun σ2 H2=>tb {D with nx:=Pv (i+1),ct:=Pv (i+1),bk:=D.nx} σ2 H2) (hd:∀σ H,Pv xs.length σ H->D.nx σ H) :
  ∃W:Nat->Nat->St->Hp->Prop,(∃m,W 0 m σ H)/\∀i m σ H,W i m σ H ->
   ((Itt K a).stop i H/\D.nx σ H)\/((Itt K a).go i H/\∃N:St->Hp->Prop,(∀σ' H',N σ' H'->∃m',m'<m/\W (i+1) m' σ' H')/\∀x H',(Itt K a).yld i H x H'->g x σ H' fun σ2 H2=>tb {D with nx:=N,ct:=N,bk:=D.nx} σ2 H2):=by
 refine ⟨fun i m σ H=>m=xs.length - i/\i<=xs.length/\Pv i σ H,⟨xs.length,by simp,qAd _,h0⟩,?_⟩;rintro i m σ H ⟨rfl,hi,p⟩;have q:=hl i σ H hi p
 by_cases hlt:i<xs.length
 ·refine .inr ⟨⟨xs,xs[i],q,by simp [hlt]⟩,Pv (i+1),fun σ' H' p'=>⟨xs.length - (i+1),by lia,rfl,hlt,p'⟩,fun x H' y=>?_⟩;obtain ⟨e,y⟩:=y;subst e;exact hs i x σ _ (y xs q) p
 ·have e:i=xs.length:=by lia
  subst e;exact .inl ⟨⟨xs,q,qAF _⟩,hd σ H p⟩
theorem zB3 {lo:Int} {n:Nat} (Pv:Nat->St->Hp->Prop) (h0:Pv 0 σ H)
  (hs:∀i σ H,i<n->Pv i σ H->g (.int (lo+i)) σ H fun σ2 H2=>tb {D with nx:=Pv (i+1),ct:=Pv (i+1),bk:=D.nx} σ2 H2) (hd:∀σ H,Pv n σ H->D.nx σ H) :
  ∃W:Nat->Nat->St->Hp->Prop,(∃m,W 0 m σ H)/\∀i m σ H,W i m σ H ->
   ((Itr lo n).stop i H/\D.nx σ H)\/((Itr lo n).go i H/\∃N:St->Hp->Prop,(∀σ' H',N σ' H'->∃m',m'<m/\W (i+1) m' σ' H')/\∀x H',(Itr lo n).yld i H x H'->g x σ H' fun σ2 H2=>tb {D with nx:=N,ct:=N,bk:=D.nx} σ2 H2):=by
 refine ⟨fun i m σ H=>m=n - i/\i<=n/\Pv i σ H,⟨n,by simp,qAd _,h0⟩,?_⟩;rintro i m σ H ⟨rfl,hi,p⟩
 by_cases hlt:i<n
 ·refine .inr ⟨hlt,Pv (i+1),fun σ' H' p'=>⟨n - (i+1),by lia,rfl,hlt,p'⟩,fun x H' y=>?_⟩;obtain ⟨e,y⟩:=y;subst e y;exact hs i σ _ hlt p
 ·have e:i=n:=by lia
  subst e;exact .inl ⟨qAF _,hd σ H p⟩
theorem zE7 {c:TT} (Pv:St->Hp->Prop) (μ:St->Hp->Nat) (h0:Pv σ H)
  (hs:∀σ H,Pv σ H->c σ H fun b H1=>if b=true then tb {D with nx:=fun σ' H'=>Pv σ' H'/\μ σ' H'<μ σ H,ct:=fun σ' H'=>Pv σ' H'/\μ σ' H'<μ σ H,bk:=D.nx} σ H1 else D.nx σ H1)
  (mono:∀σ H Q Q',(∀b H1,Q b H1->Q' b H1)->c σ H Q->c σ H Q'):tWhile c tb D σ H:=by
 refine ⟨fun m σ H=>m=μ σ H/\Pv σ H,⟨_,rfl,h0⟩,?_⟩;rintro m σ H ⟨rfl,p⟩;refine mono σ H _ _ (fun b H1 q=>?_) (hs σ H p)
 cases b with
 | true=>exact ⟨_,fun σ' H' ⟨p',l⟩=>⟨_,l,rfl,p'⟩,q⟩
 | false=>exact q
abbrev R2:=V->V->Hp->VK->Prop
def OpR (X:Cx) (f:Value->Value->Sem Value) (r:R2):Prop :=
 ∀(pins:List (Addr×Obj)) (s:Shared) (σ:St) (H:Hp) (x y:V) (v u:Value) (Q:VK),Inv X pins σ H s->RelV x v->RelV y u->r x y H Q ->
  wpAny (model X.prog X.w) X.A (f v u) (EP X pins σ Q) X.xe s
def UnR (X:Cx) (f:Value->Sem Value) (r:V->Hp->VK->Prop):Prop :=
 ∀(pins:List (Addr×Obj)) (s:Shared) (σ:St) (H:Hp) (x:V) (v:Value) (Q:VK),Inv X pins σ H s->RelV x v->r x H Q ->
  wpAny (model X.prog X.w) X.A (f v) (EP X pins σ Q) X.xe s
def zC7 (X:Cx) (f:Value) (r:List V->Hp->VK->Prop):Prop :=
 ∀(pins:List (Addr×Obj)) (s:Shared) (σ:St) (H:Hp) (xs:List V) (us:List Value) (Q:VK),Inv X pins σ H s->Vals xs us->r xs H Q ->
  wpAny (model X.prog X.w) X.A (call f us) (EP X pins σ Q) X.xe s
def TruR (X:Cx) (r:V->Hp->(Bool->Hp->Prop)->Prop):Prop :=
 ∀(pins:List (Addr×Obj)) (s:Shared) (σ:St) (H:Hp) (x:V) (v:Value) (Q:Bool->Hp->Prop),Inv X pins σ H s->RelV x v->r x H Q ->
  wpAny (model X.prog X.w) X.A (truthy v) (TP X pins σ Q) X.xe s
def tOp (r:R2) (ta tb:TE):TE:=fun σ H Q=>ta σ H fun x H1=>tb σ H1 fun y H2=>r x y H2 Q
def tUn (r:V->Hp->VK->Prop) (ta:TE):TE:=fun σ H Q=>ta σ H fun x H1=>r x H1 Q
def rI (C:Int->Int->Prop) (g:Int->Int->V):R2:=fun x y H Q=>∃i j,x= .int i/\y= .int j/\C i j/\Q (g i j) H
def rI0 (g:Int->Int->V):R2:=fun x y H Q=>∃i j,x= .int i/\y= .int j/\Q (g i j) H
def rU (g:Int->V):V->Hp->VK->Prop:=fun x H Q=>∃i,x= .int i/\Q (g i) H
section
variable {X:Cx} {a b c:Expr} {ta tb tc:TE} {pos:Pos}
theorem binT (ha:PE X a ta) (hb:PE X b tb) {R:V->V->Hp->Prop} (I:Inv X pins σ H s)
  (h:ta σ H fun x H1=>tb σ H1 fun y H2=>R x y H2) {Q:Value->Shared->Prop} {f:Value->Value->Sem Value}
  (hf:∀v u s2 x y H2,Inv X pins σ H2 s2->RelV x v->RelV y u->R x y H2->wpAny (model X.prog X.w) X.A (f v u) Q X.xe s2) :
  wpAny (model X.prog X.w) X.A (eval a X.env) (fun v s₁=>wpAny (model X.prog X.w) X.A (eval b X.env) (fun u s₂=>wpAny (model X.prog X.w) X.A (f v u) Q X.xe s₂) X.xe s₁) X.xe s:=by
 refine thn (ha pins s σ H _ I h) fun v s1 ⟨x,H1,I1,r1,q1⟩=>?_;refine thn (hb pins s1 σ H1 _ I1 q1) fun u s2 ⟨y,H2,I2,r2,q2⟩=>?_;exact hf v u s2 x y H2 I2 r1 r2 q2
theorem zAn {op:Operator} {r:R2} (ho:OpR X (binaryOp op) r) (ha:PE X a ta) (hb:PE X b tb):PE X (.BinOp a op b pos) (tOp r ta tb):=by
 intro pins s σ H Q I h;exact wpAny_BinOp (binT ha hb I h fun v u s2 x y H2 I2 rx ry q=>ho pins s2 σ H2 x y v u Q I2 rx ry q)
theorem pe_un {op:UnaryOp} {r:V->Hp->VK->Prop} (ho:UnR X (unaryOp op) r) (ha:PE X a ta):PE X (.UnaryOp op a pos) (tUn r ta):=by
 intro pins s σ H Q I h;exact UnaryOp_ (thn (ha pins s σ H _ I h) fun v s1 ⟨x,H1,I1,r1,q1⟩=>ho pins s1 σ H1 x v Q I1 r1 q1)
theorem opI {f:Value->Value->Sem Value} {C:Int->Int->Prop} {g:Int->Int->Int}
  (rule:∀(i j:Int) (t u:Tok) (s:Shared) (Q:Value->Shared->Prop) (E:Value->Shared->Prop),C i j->Q (.int (g i j) s.toks) {s with toks:=s.toks+1}->wpAny (model X.prog X.w) X.A (f (.int i t) (.int j u)) Q E s) :
  OpR X f (rI C fun i j=>.int (g i j)):=by
 intro pins s σ H x y v u Q I rx ry h;obtain ⟨i,j,rfl,rfl,hc,q⟩:=h;obtain ⟨t,rfl⟩:=rx;obtain ⟨t',rfl⟩:=ry;exact rule i j t t' s _ _ hc ⟨.int (g i j),H,I.tok _,⟨_,rfl⟩,q⟩
theorem opI0 {f:Value->Value->Sem Value} {g:Int->Int->Int}
  (rule:∀(i j:Int) (t u:Tok) (s:Shared) (Q:Value->Shared->Prop) (E:Value->Shared->Prop),Q (.int (g i j) s.toks) {s with toks:=s.toks+1}->wpAny (model X.prog X.w) X.A (f (.int i t) (.int j u)) Q E s) :
  OpR X f (rI0 fun i j=>.int (g i j)):=by
 intro pins s σ H x y v u Q I rx ry h;obtain ⟨i,j,rfl,rfl,q⟩:=h;obtain ⟨t,rfl⟩:=rx;obtain ⟨t',rfl⟩:=ry;exact rule i j t t' s _ _ ⟨.int (g i j),H,I.tok _,⟨_,rfl⟩,q⟩
theorem opB0 {f:Value->Value->Sem Value} {g:Int->Int->Bool}
  (rule:∀(i j:Int) (t u:Tok) (s:Shared) (Q:Value->Shared->Prop) (E:Value->Shared->Prop),Q (.bool (g i j)) s->wpAny (model X.prog X.w) X.A (f (.int i t) (.int j u)) Q E s) :
  OpR X f (rI0 fun i j=>.bl (g i j)):=by
 intro pins s σ H x y v u Q I rx ry h;obtain ⟨i,j,rfl,rfl,q⟩:=h;obtain ⟨t,rfl⟩:=rx;obtain ⟨t',rfl⟩:=ry;exact rule i j t t' s _ _ ⟨.bl (g i j),H,I,rfl,q⟩
def CDiv (i j:Int):Prop:=0<j/\j<1073741824
def CPow (i j:Int):Prop:=0<=j/\j<=1000000/\i.natAbs<2^64
def CMul (i j:Int):Prop:=(-(2^64)<i/\i<2^64)\/(-(2^64)<j/\j<2^64)
theorem CMul.ok {i j:Int} (h:CMul i j):IntMulOk i j:=by
 rcases h with ⟨h1,h2⟩| ⟨h1,h2⟩
 ·exact .of_left (intBits_le_64 h1 h2)
 ·exact .of_right (intBits_le_64 h1 h2)
theorem zBh:OpR X (binaryOp .Add) (rI0 fun i j=>.int (i+j)):=opI0 fun _ _ _ _ _ _ _ q=>add_int q
theorem zF6:OpR X (binaryOp .Sub) (rI0 fun i j=>.int (i - j)):=opI0 fun _ _ _ _ _ _ _ q=>sub_int q
theorem zFj:OpR X (binaryOp .Mult) (rI CMul fun i j=>.int (i*j)):=opI fun _ _ _ _ _ _ _ hc q=>mul_int q hc.ok
theorem op_fdiv:OpR X (binaryOp .FloorDiv) (rI CDiv fun i j=>.int (i / j)):=opI fun i j _ _ _ _ _ hc q=>by
 have h1:(0:Int)<j:=hc.1;have h2:j<1073741824:=hc.2;exact floordiv_int (by lia) (by rw [Int.fdiv_eq_ediv_of_nonneg i (by lia)];exact q) (.inl (PyProof.noPylong_small (by lia)))
theorem zF7:OpR X (binaryOp .Mod) (rI (fun _ j=>0<j) fun i j=>.int (i % j)):=opI fun i j _ _ _ _ _ hc q=>by
 have h1:(0:Int)<j:=hc;exact mod_int' (by lia) (by rw [Int.fmod_eq_emod_of_nonneg i (by lia)];exact q)
theorem op_pow:OpR X (binaryOp .Pow) (rI CPow fun i j=>.int (i^j.toNat)):=opI fun _ _ _ _ _ _ _ hc q=>pow_int_small hc.1 hc.2.1 hc.2.2 q
theorem unI {f:Value->Sem Value} {g:Int->Int}
  (rule:∀(i:Int) (t:Tok) (s:Shared) (Q:Value->Shared->Prop) (E:Value->Shared->Prop),Q (.int (g i) s.toks) {s with toks:=s.toks+1}->wpAny (model X.prog X.w) X.A (f (.int i t)) Q E s) :
  UnR X f (rU fun i=>.int (g i)):=by
 intro pins s σ H x v Q I rx h;obtain ⟨i,rfl,q⟩:=h;obtain ⟨t,rfl⟩:=rx;exact rule i t s _ _ ⟨.int (g i),H,I.tok _,⟨_,rfl⟩,q⟩
theorem un_neg:UnR X (unaryOp .USub) (rU fun i=>.int (-i)):=unI fun _ _ _ _ _ q=>neg_int q
end
def scal:V->V->Bool
 | .non,.non=>true| .non,.int _=>true| .int _,.non=>true| .non,.bl _=>true| .bl _,.non=>true| .non,.str _=>true| .str _,.non=>true
 | .int _,.int _=>true| .bl _,.bl _=>true| .str _,.str _=>true| .byt _,.byt _=>true
 | .int _,.str _=>true| .str _,.int _=>true| .bl _,.str _=>true| .str _,.bl _=>true
 | _,_=>false
def rEq:R2:=fun x y H Q=>scal x y=true/\Q (.bl (decide (x=y))) H
def rNe:R2:=fun x y H Q=>scal x y=true/\Q (.bl (!decide (x=y))) H
theorem dec_int {i j:Int}:decide (V.int i=V.int j)=(i==j):=by
 rw [qB1];simp
theorem dec_bl {i j:Bool}:decide (V.bl i=V.bl j)=(i==j):=by
 rw [qB1];simp
theorem dec_str {i j:Str}:decide (V.str i=V.str j)=(i==j):=by
 rw [qB1];simp
theorem dec_byt {i j:Array UInt8}:decide (V.byt i=V.byt j)=(i.toList==j.toList):=by
 rw [qB1]
 cases i
 cases j
 simp
section
variable {X:Cx} {a b c:Expr} {ta tb tc:TE} {pos:Pos}
theorem zAw {Q:VK} {k k':Bool} (I:Inv X pins σ H s) (q:Q (.bl k) H) (e:k=k'):EP X pins σ Q (.bool k') s:=by
 subst e;exact ⟨.bl k,H,I,rfl,q⟩
theorem op_eq:OpR X (compareOp .Eq) rEq:=by
 intro pins s σ H x y v u Q I rx ry h;obtain ⟨hs,q⟩:=h
 cases x with
 | non =>
  cases rx
  cases y with
  | non=>cases ry;exact PySem.EqNone.eq_none_none (zAw I q (by simp))
  | bl j=>cases ry;exact PySem.EqNone.eq_none_bool (zAw I q (by simp))
  | int j=>obtain ⟨t',rfl⟩:=ry;exact PySem.EqNone.eq_none_int (zAw I q (by simp))
  | str j=>obtain ⟨t',rfl⟩:=ry;exact PySem.EqNone.eq_none_str (zAw I q (by simp))
  | _=>exact absurd (show false=true from hs) qAl
 | bl i =>
  cases rx
  cases y with
  | non=>cases ry;exact PySem.EqNone.eq_bool_none (zAw I q (by simp))
  | bl j=>cases ry;exact eq_bool (zAw I q dec_bl)
  | str j=>obtain ⟨t',rfl⟩:=ry;exact PySem.EqMixed.eq_bool_str (zAw I q (by simp))
  | _=>exact absurd (show false=true from hs) qAl
 | int i =>
  obtain ⟨t,rfl⟩:=rx
  cases y with
  | non=>cases ry;exact PySem.EqNone.eq_int_none (zAw I q (by simp))
  | int j=>obtain ⟨t',rfl⟩:=ry;exact eq_int (zAw I q dec_int)
  | str j=>obtain ⟨t',rfl⟩:=ry;exact PySem.EqMixed.eq_int_str (zAw I q (by simp))
  | _=>exact absurd (show false=true from hs) qAl
 | str i =>
  obtain ⟨t,rfl⟩:=rx
  cases y with
  | non=>cases ry;exact PySem.EqNone.eq_str_none (zAw I q (by simp))
  | bl j=>cases ry;exact PySem.EqMixed.eq_str_bool (zAw I q (by simp))
  | int j=>obtain ⟨t',rfl⟩:=ry;exact PySem.EqMixed.eq_str_int (zAw I q (by simp))
  | str j=>obtain ⟨t',rfl⟩:=ry;exact eq_str (zAw I q dec_str)
  | _=>exact absurd (show false=true from hs) qAl
 | byt i =>
  obtain ⟨t,rfl⟩:=rx
  cases y with
  | byt j=>obtain ⟨t',rfl⟩:=ry;exact PySem.W.eq_bytes (zAw I q dec_byt)
  | _=>exact absurd (show false=true from hs) qAl
 | _=>cases y<;>exact absurd (show false=true from hs) qAl
theorem op_ne:OpR X (compareOp .NotEq) rNe:=by
 intro pins s σ H x y v u Q I rx ry h;obtain ⟨hs,q⟩:=h
 cases x with
 | non =>
  cases rx
  cases y with
  | non=>cases ry;exact PySem.EqNone.ne_none_none (zAw I q (by simp))
  | bl j=>cases ry;exact PySem.EqNone.ne_none_bool (zAw I q (by simp))
  | int j=>obtain ⟨t',rfl⟩:=ry;exact PySem.EqNone.ne_none_int (zAw I q (by simp))
  | str j=>obtain ⟨t',rfl⟩:=ry;exact PySem.EqNone.ne_none_str (zAw I q (by simp))
  | _=>exact absurd (show false=true from hs) qAl
 | bl i =>
  cases rx
  cases y with
  | non=>cases ry;exact PySem.EqNone.ne_bool_none (zAw I q (by simp))
  | bl j=>cases ry;exact ne_bool (zAw I q (qAk not dec_bl))
  | str j=>obtain ⟨t',rfl⟩:=ry;exact PySem.EqMixed.ne_bool_str (zAw I q (by simp))
  | _=>exact absurd (show false=true from hs) qAl
 | int i =>
  obtain ⟨t,rfl⟩:=rx
  cases y with
  | non=>cases ry;exact PySem.EqNone.ne_int_none (zAw I q (by simp))
  | int j=>obtain ⟨t',rfl⟩:=ry;exact ne_int (zAw I q (qAk not dec_int))
  | str j=>obtain ⟨t',rfl⟩:=ry;exact PySem.EqMixed.ne_int_str (zAw I q (by simp))
  | _=>exact absurd (show false=true from hs) qAl
 | str i =>
  obtain ⟨t,rfl⟩:=rx
  cases y with
  | non=>cases ry;exact PySem.EqNone.ne_str_none (zAw I q (by simp))
  | bl j=>cases ry;exact PySem.EqMixed.ne_str_bool (zAw I q (by simp))
  | int j=>obtain ⟨t',rfl⟩:=ry;exact PySem.EqMixed.ne_str_int (zAw I q (by simp))
  | str j=>obtain ⟨t',rfl⟩:=ry;exact ne_str (zAw I q (qAk not dec_str))
  | _=>exact absurd (show false=true from hs) qAl
 | byt i =>
  obtain ⟨t,rfl⟩:=rx
  cases y with
  | byt j=>obtain ⟨t',rfl⟩:=ry;exact PySem.W.ne_bytes (zAw I q (qAk not dec_byt))
  | _=>exact absurd (show false=true from hs) qAl
 | _=>cases y<;>exact absurd (show false=true from hs) qAl
theorem op_lt:OpR X (compareOp .Lt) (rI0 fun i j=>.bl (decide (i<j))):=opB0 fun _ _ _ _ _ _ _ q=>lt_int q
theorem op_le:OpR X (compareOp .LtE) (rI0 fun i j=>.bl (decide (i<=j))):=opB0 fun _ _ _ _ _ _ _ q=>le_int q
theorem op_gt:OpR X (compareOp .Gt) (rI0 fun i j=>.bl (decide (j<i))):=opB0 fun _ _ _ _ _ _ _ q=>gt_int q
theorem op_ge:OpR X (compareOp .GtE) (rI0 fun i j=>.bl (decide (j<=i))):=opB0 fun _ _ _ _ _ _ _ q=>ge_int q
theorem zAz (b:Expr) (h:op≠.In:=by decide) (h2:op≠.NotIn:=by decide):behindInMarks op b=false:=by
 have e1:(op==CmpOp.In)=false:=by cases op<;>first| rfl| exact absurd rfl h
 have e2:(op==CmpOp.NotIn)=false:=by cases op<;>first| rfl| exact absurd rfl h2
 cases b<;>simp [behindInMarks,e1,e2]
theorem zCq {r:R2} (ho:OpR X (compareOp op) r) (ha:PE X a ta) (hb:PE X b tb) (hm:behindInMarks op b=false):PE X (.Compare a [op] [b] pos) (tOp r ta tb):=by
 intro pins s σ H Q I h;exact wpAny_Compare1 (binT ha hb I h fun v u s2 x y H2 I2 rx ry q=>ho pins s2 σ H2 x y v u Q I2 rx ry q) hm
def tTest (t:TE):TT:=fun σ H Q=>t σ H fun x H'=>∃k,x= .bl k/\Q k H'
theorem zAs {r:R2} (ho:OpR X (compareOp op) r) (ha:PE X a ta) (hb:PE X b tb) (hm:behindInMarks op b=false):PT X (.Compare a [op] [b] pos) (tTest (tOp r ta tb)):=by
 intro pins s σ H Q I h
 refine wpAny_isTrue_Compare1 (thn (ha pins s σ H _ I h) fun v s1 ⟨x,H1,I1,r1,q1⟩=>thn (hb pins s1 σ H1 _ I1 q1) fun u s2 ⟨y,H2,I2,r2,q2⟩ =>
  thn (ho pins s2 σ H2 x y v u _ I2 r1 r2 q2) fun c s3 ⟨z,H3,I3,r3,k,e,q3⟩=>?_) hm
 subst e
 cases r3
 exact qBB ⟨H3,I3,q3⟩
def tChain (r r':R2) (ta tb tc:TE):TE:=fun σ H Q=>ta σ H fun x H1=>tb σ H1 fun y H2=>r x y H2 fun z H3=>∃k,z= .bl k /\
 (if k=true then tc σ H3 fun w' H4=>r' y w' H4 Q else Q (.bl false) H3)
theorem pe_chain {op':CmpOp} {r r':R2} (ho:OpR X (compareOp op) r) (ho':OpR X (compareOp op') r') (ha:PE X a ta) (hb:PE X b tb) (hc:PE X c tc)
  (hm:lastMarks [op,op'] [b,c]=false:=by with_unfolding_all rfl):PE X (.Compare a [op,op'] [b,c] pos) (tChain r r' ta tb tc):=by
 intro pins s σ H Q I h
 refine Compare_chain (thn (ha pins s σ H _ I h) fun v s1 ⟨x,H1,I1,r1,q1⟩=>chain_link (thn (hb pins s1 σ H1 _ I1 q1) fun u s2 ⟨y,H2,I2,r2,q2⟩ =>
  thn (ho pins s2 σ H2 x y v u _ I2 r1 r2 q2) fun d s3 ⟨z,H3,I3,r3,k,e,q3⟩=>?_)) hm
 subst e
 cases r3
 refine qBB ?_
 cases k with
 | false=>exact ite_ff ⟨.bl false,H3,I3,rfl,q3⟩
 | true=>exact ite_tt (chain_last (thn (hc pins s3 σ H3 _ I3 q3) fun w' s4 ⟨z',H4,I4,r4,q4⟩=>ho' pins s4 σ H4 y z' u w' Q I4 r2 r4 q4))
theorem pt_chain {op':CmpOp} {r r':R2} (ho:OpR X (compareOp op) r) (ho':OpR X (compareOp op') r') (ha:PE X a ta) (hb:PE X b tb) (hc:PE X c tc)
  (hm:lastMarks [op,op'] [b,c]=false:=by with_unfolding_all rfl):PT X (.Compare a [op,op'] [b,c] pos) (tTest (tChain r r' ta tb tc)):=by
 intro pins s σ H Q I h
 refine isTrue_chain (thn (ha pins s σ H _ I h) fun v s1 ⟨x,H1,I1,r1,q1⟩=>test_link (thn (hb pins s1 σ H1 _ I1 q1) fun u s2 ⟨y,H2,I2,r2,q2⟩ =>
  thn (ho pins s2 σ H2 x y v u _ I2 r1 r2 q2) fun d s3 ⟨z,H3,I3,r3,k,e,q3⟩=>?_)) hm
 subst e
 cases r3
 refine qBB ?_
 cases k with
 | false =>
  obtain ⟨k',e',q'⟩:=q3
  cases e'
  exact ite_ff ⟨H3,I3,q'⟩
 | true =>
  refine ite_tt (test_last (thn (hc pins s3 σ H3 _ I3 q3) fun w' s4 ⟨z',H4,I4,r4,q4⟩=>thn (ho' pins s4 σ H4 y z' u w' _ I4 r2 r4 q4) fun d' s5 ⟨z2,H5,I5,r5,k2,e2,q5⟩=>?_));subst e2
  cases r5
  exact qBB ⟨H5,I5,q5⟩
def TruV (K:PySem.W.Frag) (x:V) (H:Hp) (k:Bool):Prop :=
 match x with
 | .non=>k=false
 | .bl b=>k=b
 | .int i=>k=(i != 0)
 | .str y=>y.length<=sizeLine/\k=((y.length:Int) != 0)
 | .byt y=>y.size<=sizeLine/\k=((y.size:Int) != 0)
 | .ref p=>(∃xs,SqL K H p xs/\k= !xs.isEmpty)\/(∃xs,SqT K H p xs/\k= !xs.isEmpty)\/∃kvs,H p=some (.dK kvs)/\k= !kvs.isEmpty
 | _=>False
theorem isEmpty_kv {κ:Type} {kvs:List (κ×V)} {vs:List (κ×Value)} (r:KV kvs vs):(!vs.isEmpty)= !kvs.isEmpty:=by
 cases r<;>rfl
theorem zIb {its:List Value} (r:Vals xs its):(!its.toArray.isEmpty)= !xs.isEmpty:=by
 cases r<;>simp
theorem zHb:(sizeLine:Nat)<2^63:=by rw [qAM];decide
theorem tru_ok:TruR X (fun x H Q=>∃k,TruV X.K x H k/\Q k H):=by
 intro pins s σ H x v Q I rx h;obtain ⟨k,e,q⟩:=h;have hl:=zHb;have hs:sizeLine=16777216:=qAM
 cases x with
 | non =>
  cases rx
  have e':k=false:=e;subst e';exact truthy_none ⟨H,I,q⟩
 | bl b =>
  cases rx
  have e':k=b:=e;subst e';exact qBB ⟨H,I,q⟩
 | int i =>
  obtain ⟨t,rfl⟩:=rx;have e':k=(i != 0):=e;subst e';exact PySem.P.truthy_int ⟨H,I,q⟩
 | str y =>
  obtain ⟨t,rfl⟩:=rx;obtain ⟨hy,e'⟩:y.length<=sizeLine/\k=((y.length:Int) != 0):=e;subst e';exact PySem.P.truthy_str (by lia) ⟨H,I.tok _,q⟩
 | byt y =>
  obtain ⟨t,rfl⟩:=rx;obtain ⟨hy,e'⟩:y.size<=sizeLine/\k=((y.size:Int) != 0):=e;subst e';exact PySem.W.truthy_bytes (by lia) ⟨H,I.tok _,q⟩
 | ref p =>
  cases rx
  have e':(∃xs,SqL X.K H p xs/\k= !xs.isEmpty)\/(∃xs,SqT X.K H p xs/\k= !xs.isEmpty)\/∃kvs,H p=some (.dK kvs)/\k= !kvs.isEmpty:=e;rcases e' with ⟨xs,hx,e'⟩| ⟨xs,hx,e'⟩| ⟨kvs,hx,e'⟩
  ·subst e';obtain ⟨its,r,pl,hz⟩:=I.list hx;have hlen:=r.length;exact wpAny_truthy_list pl.isList (by simp only [qAJ];lia) ⟨H,I.tok _,by rw [zIb r];exact q⟩
  ·subst e';obtain ⟨its,r,pl,hz⟩:=I.tuple hx;have hlen:=r.length;exact truthy_tuple pl (by simp only [qAJ];lia) ⟨H,I.tok _,by rw [zIb r];exact q⟩
  ·subst e';obtain ⟨hz,hS,vs,r,m⟩:kvs.length<=sizeLine/\(p==sysModules)=false/\∃vs,KV kvs vs/\s.heap.DictOf (zBc X.prog X.w) p vs:=I.hok p _ hx;have hlen:kvs.length=vs.length:=qCG r;exact wpAny_truthy_dict hS m (by lia) ⟨H,I.tok _,by rw [isEmpty_kv r];exact q⟩
 | _=>exact (show False from e).elim
theorem zGl (ha:PE X a ta) (he:∀whole,isTrue a X.env whole=(do let v<-whole;standAt a.pos;holding [v] (truthy v))) :
  PT X a (fun σ H Q=>ta σ H fun x H'=>∃k,TruV X.K x H' k/\Q k H'):=by
 intro pins s σ H Q I h;exact isTrue_plain (thn (ha pins s σ H _ I h) fun v s1 ⟨x,H1,I1,r1,q1⟩=>tru_ok pins s1 σ H1 x v Q I1 r1 q1) (he _)
theorem op_add_str:OpR X (binaryOp .Add) (fun x y H Q=>∃i j,x= .str i/\y= .str j/\i.length+j.length<=sizeLine/\Q (.str (i++j)) H):=by
 intro pins s σ H x y v u Q I rx ry h;obtain ⟨i,j,rfl,rfl,hz,q⟩:=h;obtain ⟨t,rfl⟩:=rx;obtain ⟨t',rfl⟩:=ry;exact add_str (fun t' tk=>⟨.str (i++j),H,I.tok _,⟨_,rfl⟩,q⟩) hz
theorem zIe {x:V} (r:Vals [x] us):∃u,us=[u]/\RelV x u:=by
 cases r with
 | cons r1 r2=>cases r2;exact ⟨_,rfl,r1⟩
theorem vals2 {x:V} (r:Vals [x,y] us):∃u w',us=[u,w']/\RelV x u/\RelV y w':=by
 cases r with
 | cons r1 r2 =>
  cases r2 with
  | cons r3 r4=>cases r4;exact ⟨_,_,rfl,r1,r3⟩
theorem call_max2 (hc:X.calm=true):zC7 X (.builtin "max") (fun xs H Q=>∃i j,xs=[.int i,.int j]/\Q (.int (if j>i then j else i)) H):=by
 intro pins s σ H xs us Q I r h;obtain ⟨i,j,rfl,q⟩:=h;obtain ⟨u,w',rfl,⟨t,rfl⟩,⟨t',rfl⟩⟩:=vals2 r;refine max_two_ints (I.ok.hd hc) fun h' tk k=>⟨_,H,I.kept k,?_,q⟩
 by_cases hj:j>i
 ·rw [qAC hj,qAC hj];exact ⟨_,rfl⟩
 ·rw [qAB hj,qAB hj];exact ⟨_,rfl⟩
theorem call_min2 (hc:X.calm=true):zC7 X (.builtin "min") (fun xs H Q=>∃i j,xs=[.int i,.int j]/\Q (.int (if j<i then j else i)) H):=by
 intro pins s σ H xs us Q I r h;obtain ⟨i,j,rfl,q⟩:=h;obtain ⟨u,w',rfl,⟨t,rfl⟩,⟨t',rfl⟩⟩:=vals2 r;refine min_two_ints (I.ok.hd hc) fun h' tk k=>⟨_,H,I.kept k,?_,q⟩
 by_cases hj:j<i
 ·rw [qAC hj,qAC hj];exact ⟨_,rfl⟩
 ·rw [qAB hj,qAB hj];exact ⟨_,rfl⟩
theorem zFp:zC7 X (.type "int") (fun xs H Q=>(∃i,xs=[.int i]/\Q (.int i) H)\/∃k,xs=[.bl k]/\Q (.int (if k then 1 else 0)) H):=by
 intro pins s σ H xs us Q I r h;rcases h with ⟨i,rfl,q⟩| ⟨k,rfl,q⟩
 ·obtain ⟨u,rfl,t,rfl⟩:=zIe r;exact call_int_int ⟨.int i,H,I,⟨_,rfl⟩,q⟩
 ·obtain ⟨u,rfl,r1⟩:=zIe r
  cases r1
  exact call_int_bool ⟨.int (if k then 1 else 0),H,I.tok _,⟨_,rfl⟩,q⟩
end
structure ObjM (h:Heap) (x dx C:Addr) (mA:Str->Option Value):Prop where
 obj:h.get? x=some (PySem.W.instObj C dx)
 ns:h.Ns1 dx mA
 ne:dx≠x
theorem lookIn_ns {dx:Addr} {mA:Str->Option Value} (n:h.Ns1 dx mA):∃od,h.get? dx=some od/\∀name,PySem.W.lookIn name od=some (mA name):=by
 obtain ⟨o,es,ep,ho,hd,hk,_,hm⟩:=n;refine ⟨o,ho,fun name=>?_⟩;have e:=hm name;unfold nsFind findBy at e;rw [<-Array.find?_toList] at e;unfold PySem.W.lookIn;rw [hd];dsimp only;split
 ·rename_i y q;rw [q] at e;exact qAk some e
 ·rename_i q;rw [q] at e
  have a:es.toList.any (·.refKey)=false:=by
   rw [List.any_eq_false];intro y hy;obtain ⟨z,t,hkey⟩:=hk y (qDT.mp hy);simp [DictEntry.refKey,hkey]
  have a':¬es.toList.any (·.refKey)=true:=by rw [a];exact qAl
  rw [qAB a'];exact qAk some e
theorem ObjM.look {x dx:Addr} {mA:Str->Option Value} (I:ObjM h x dx C mA):∃od,PySem.W.InstAt h x (PySem.W.instObj C dx) C (some od)/\∀name,PySem.W.lookIn name od=some (mA name) :=
 let ⟨od,ho,hl⟩:=lookIn_ns I.ns
 ⟨od,⟨I.obj,rfl,rfl,ho⟩,hl⟩
section
variable {prog:Program} {w:World} {A:Around} {E:Value->Shared->Prop} {s:Shared} {K:PySem.W.Frag} {x dx C f:Addr} {mA:Str->Option Value} {name:Str} {v:Value}
theorem get_map {expr:Bool} {Q:Value->Shared->Prop} (X:K.In s.heap) (I:ObjM s.heap x dx C mA) (hg:PySem.W.plainGet K C name=true) (hh:PySem.W.hasDictIn K C=true)
  (ha:PySem.W.findIn K (.ref C) name=some none) (hv:mA name=some v) (hv':PySem.W.handedIn v=true) (h:Q v {s with toks:=s.toks+1}) :
  wpAny (model prog w) A (getAttr (.ref x) name expr) Q E s:=by
 obtain ⟨od,J,hl⟩:=I.look;exact PySem.W.get_value X J (PySem.W.plainGet_of hg).1 (PySem.W.findObj_own hh ha rfl (by rw [hl,hv])) hv' h
theorem get_meth {pl:Sem Bool} {Q:Value×List Value->Shared->Prop} (X:K.In s.heap) (I:ObjM s.heap x dx C mA) (hg:PySem.W.plainGet K C name=true)
  (hf:PySem.W.findIn K (.ref C) name=some (some (.ref f))) (ht:PySem.W.isFn K (.ref f)=true) (hv:mA name=none) (h:Q (.ref f,[.ref x]) s) :
  wpAny (model prog w) A (getMethod (.ref x) name pl) Q E s:=by
 obtain ⟨od,J,hl⟩:=I.look;exact PySem.W.method_fn X J (PySem.W.plainGet_of hg).1 (PySem.W.plainGet_of hg).2 hf (qB2.mp ht) (by show (PySem.W.lookIn name od).map (·.isSome)=some false;rw [hl,hv];rfl) h
theorem set_map {ns:List Str} {Q:Unit->Shared->Prop} (X:K.In s.heap) (I:ObjM s.heap x dx C mA)
  (hs:PySem.W.findIn K (.ref C) "__setattr__" = some (some (.builtin "object.__setattr__"))) (hp:PySem.W.plainOver K C=true) (ht:PySem.W.takerIn K C name=some none) (hh:PySem.W.hasDictIn K C=true)
  (hw:PySem.Within mA ns) (hsz:ns.length<=sizeLine)
  (h:∀h',ObjM h' x dx C (fun y=>if y=name then some v else mA y)->Heap.SameBut dx s.heap h'->Q () {s with heap:=h',toks:=s.toks+2}) :
  wpAny (model prog w) A (setAttr (.ref x) name v) Q E s:=by
 obtain ⟨od,J,hl⟩:=I.look;refine PySem.W.set_plain X J hs (PySem.W.osa_open (s:={s with toks:=s.toks+1}) (r:=none) X J hp ht fun b=>?_);obtain ⟨cd,hc,hd'⟩:=PySem.W.any_some hh;have hx:s.heap.get? x=some ⟨.ref C,some dx,.plain,#[]⟩:=I.obj;refine qAA (qAE (qAA (qAA (wpAny_loadPart hx (qAA (PySem.W.Looks.here (s:={s with toks:=s.toks+1}) (PySem.W.looks_clsIn X hc) ?_))))));rw [hd'];refine qAE (a:=some dx) (qAA (qAE (qAA ?_)));refine wpAny_nsSet1 (s:={s with toks:=s.toks+1}) I.ns fun h' hn2 hs2=>?_;obtain ⟨oD,esD,epD,hoD,hdD,hcD⟩:=hn2.count (PySem.Within.cons name v hw);refine qAA (wpAny_lookBehind hoD (by rw [hdD];exact pastItsLine_dict (qAW hcD (by rw [qAe];lia))) ?_);exact qAE (h _ ⟨(hs2.2 _ (qAr I.ne)).trans I.obj,hn2,I.ne⟩ hs2)
theorem make_map {R:Result->Shared->Prop} {vs:List Value} {kw:List (Str×Value)} (X:K.In s.heap) (hm:PySem.W.makesIn K C=true)
  (hi:PySem.W.findIn K (.ref C) "__init__" = some (some (.ref f))) (hf:PySem.W.typeIn K (.ref f)=some (.type "function"))
  (h:codeAny (model prog w) (A.under (.builtin "type.__call__" ⟨.ref C::vs,kw⟩)) (.call (.ref f) ⟨.ref (s.heap.objs.size+1)::vs,kw⟩) (PySem.W.InitBack (s.heap.objs.size+1) R)
   {s with heap:=(s.heap.push PySem.W.emptyDict).push (PySem.W.instObj C s.heap.objs.size)}) :
  codeAny (model prog w) A (.call (.ref C) ⟨vs,kw⟩) R s:=by
 obtain ⟨hh,g,d,t,os⟩:=s;exact PySem.W.make_core (PySem.W.makes_of X hm) (PySem.W.looks_findIn X hi) (fun self=>PySem.W.bind_fn X self hf) (.inl rfl) h
end
def putF (f:Str) (v:V):List (Str×V)->List (Str×V)
 | []=>[(f,v)]
 | (g,x)::r=>if g=f then (g,v)::r else (g,x)::putF f v r
theorem zAt (f g:Str) (v:V):∀fs:List (Str×V),(putF f v fs).lookup g=if g=f then some v else fs.lookup g
 | []=>by
  show List.lookup g [(f,v)]=_
  by_cases h:g=f
  ·have hb:(g==f)=true:=qB2.mpr h;simp only [List.lookup,hb,qAC h]
  ·have hb:(g==f)=false:=qBA.mpr h;simp only [List.lookup,hb,qAB h]
 | (k,x)::r=>by
  have ih:=zAt f g v r;rw [show putF f v ((k,x)::r)=(if k=f then (k,v)::r else (k,x)::putF f v r) from rfl]
  by_cases hk:k=f
  ·rw [qAC hk]
   by_cases h:g=k
   ·have hb:(g==k)=true:=qB2.mpr h;simp only [List.lookup,hb,qAC (h.trans hk)]
   ·have hb:(g==k)=false:=qBA.mpr h;simp only [List.lookup,hb,qAB (fun e:g=f=>h (e.trans hk.symm))]
  ·rw [qAB hk]
   by_cases h:g=k
   ·have hb:(g==k)=true:=qB2.mpr h;simp only [List.lookup,hb,qAB (fun e:g=f=>hk (h.symm.trans e))]
   ·have hb:(g==k)=false:=qBA.mpr h;simp only [List.lookup,hb];exact ih
theorem zHi (f:Str) (v:V):∀fs:List (Str×V),f∈(putF f v fs).map (·.1)/\∀g,g∈fs.map (·.1)->g∈(putF f v fs).map (·.1)
 | []=>⟨by simp [putF],fun g h=>by simp at h⟩
 | (k,x)::r=>by
  obtain ⟨i1,i2⟩:=zHi f v r;rw [show putF f v ((k,x)::r)=(if k=f then (k,v)::r else (k,x)::putF f v r) from rfl]
  by_cases hk:k=f
  ·rw [qAC hk];subst hk;exact ⟨by simp,fun g h=>by simpa using h⟩
  ·rw [qAB hk];refine ⟨?_,fun g h=>?_⟩
   ·rw [qAo];exact qAT _ i1
   ·rw [qAo] at h ⊢;rcases qAO.mp h with e| e
    ·exact qAO.mpr (.inl e)
    ·exact qAT _ (i2 g e)
theorem zHd (f:Str) (v:V):∀fs:List (Str×V),(putF f v fs).length<=fs.length+1
 | []=>by simp [putF]
 | (k,x)::r=>by
  have ih:=zHd f v r;rw [show putF f v ((k,x)::r)=(if k=f then (k,v)::r else (k,x)::putF f v r) from rfl]
  by_cases hk:k=f
  ·rw [qAC hk,qAe,qAe];lia
  ·rw [qAB hk,qAe,qAe];lia
theorem RelO.some_of {v:V} {o:Option Value} (r:RelO (some v) o):∃u,o=some u/\RelV v u:=by
 cases o with
 | none=>exact (show False from r).elim
 | some u=>exact ⟨u,rfl,r⟩
theorem RelO.none_of {o:Option Value} (r:RelO none o):o=none:=by
 cases o with
 | none=>rfl
 | some u=>exact (show False from r).elim
theorem handed_of (r:RelV v u):PySem.W.handedIn u=true:=by
 cases v with
 | non=>cases (show u=Value.none from r);rfl
 | bl b=>cases (show u=Value.bool b from r);rfl
 | int i=>obtain ⟨t,e⟩:=(show∃t,u=Value.int i t from r);cases e;rfl
 | str x=>obtain ⟨t,e⟩:=(show∃t,u=Value.str x t from r);cases e;rfl
 | byt b=>obtain ⟨t,e⟩:=(show∃t,u=Value.bytes b t from r);cases e;rfl
 | flt b=>obtain ⟨t,e⟩:=(show∃t,u=Value.float b t from r);cases e;rfl
 | ref a=>cases (show u=Value.ref a from r);rfl
 | ty n=>cases (show u=Value.type n from r);rfl
section
variable {P:Program} {w:World} {H H':Hp} {h h':Heap} {a C dx:Addr} {fs fs':List (Str×V)}
theorem zFu (hok:HOk P w H h) (e:H a=some (.ins C dx fs)):∃mA,ObjM h a dx C mA/\(∀f,RelO (fs.lookup f) (mA f))/\PySem.Within mA (fs.map (·.1))/\fs.length<=1000/\H dx=some (.own a):=by
 obtain ⟨d,z,ne,ob,mA,n,r,q⟩:=(show zAx P w H h a (.ins C dx fs) from hok a _ e);exact ⟨mA,⟨ob,n,ne⟩,r,q,z,d⟩
end
structure Cls (K:PySem.W.Frag) (C:Addr):Prop where
 pg:PySem.W.plainGet K C Str.empty=true
 hd:PySem.W.hasDictIn K C=true
 po:PySem.W.plainOver K C=true
 sa:PySem.W.findIn K (.ref C) "__setattr__" = some (some (.builtin "object.__setattr__"))
theorem Cls.get (c:Cls K C) (f:Str):PySem.W.plainGet K C f=true:=c.pg
def zFq (K:PySem.W.Frag) (C:Addr) (f:Str):Prop:=PySem.W.findIn K (.ref C) f=some none
theorem zFq.taker {f:Str} (n:zFq K C f):PySem.W.takerIn K C f=some none:=by
 unfold PySem.W.takerIn;rw [show PySem.W.findIn K (.ref C) f=some none from n];rfl
structure Meth (K:PySem.W.Frag) (C:Addr) (m:Str) (f:Addr):Prop where
 at_:PySem.W.findIn K (.ref C) m=some (some (.ref f))
 fn:PySem.W.isFn K (.ref f)=true
 kp:PySem.W.keepIn K (.ref f)=true
section
variable {X:Cx} {pins:List (Addr×Obj)} {σ:St} {H:Hp} {s:Shared} {a C dx:Addr} {fs:List (Str×V)} {f:Str} {v:V} {A:Around} {E:Value->Shared->Prop}
theorem getattr_ok {b:Bool} {Q:Value->Shared->Prop} (I:Inv X pins σ H s) (e:H a=some (.ins C dx fs)) (c:Cls X.K C) (n:zFq X.K C f) (l:fs.lookup f=some v)
  (h:∀u s',Inv X pins σ H s'->RelV v u->Q u s'):wpAny (model X.prog X.w) A (getAttr (.ref a) f b) Q E s:=by
 obtain ⟨mA,O,r,_,_,_⟩:=zFu I.hok e;obtain ⟨u,hu,ru⟩:=RelO.some_of (v:=v) (o:=mA f) (by rw [<-l];exact r f);exact get_map I.kIn O (c.get f) c.hd n hu (handed_of ru) (h u _ (I.tok _) ru)
theorem zIc {m:Str} {g:Addr} {pl:Sem Bool} {Q:Value×List Value->Shared->Prop} (I:Inv X pins σ H s) (e:H a=some (.ins C dx fs)) (c:Cls X.K C) (k:Meth X.K C m g) (l:fs.lookup m=none)
  (h:Q (.ref g,[.ref a]) s):wpAny (model X.prog X.w) A (getMethod (.ref a) m pl) Q E s:=by
 obtain ⟨mA,O,r,_,_,_⟩:=zFu I.hok e;have hn:mA m=none:=RelO.none_of (by rw [<-l];exact r m);exact get_meth I.kIn O (c.get m) k.at_ k.fn hn h
theorem setattr_ok {Q:Unit->Shared->Prop} (I:Inv X pins σ H s) (e:H a=some (.ins C dx fs)) (c:Cls X.K C) (n:zFq X.K C f) (hl:fs.length<1000) (ry:RelV y u)
  (h:∀s',Inv X pins σ (upd H a (.ins C dx (putF f y fs))) s'->Q () s'):wpAny (model X.prog X.w) A (setAttr (.ref a) f u) Q E s:=by
 obtain ⟨mA,O,r,wi,_,ho⟩:=zFu I.hok e;have hz:(fs.map (·.1)).length<=sizeLine:=by rw [qAD,qAM];lia
 refine set_map I.kIn O c.sa c.po n.taker c.hd wi hz fun h' O' sb=>h _ ?_;have hd:∃o,h'.get? dx=some o:=let ⟨o,_,_,e',_⟩:=O'.ns;⟨o,e'⟩;refine I.write (x:=a) (e:=dx) (by rw [e];exact True.intro) (.inr ho) (fun b q hb z=>(sb.2 b hb).trans z) hd ?_;refine ⟨by rw [upd_ne O.ne];exact ho,?_,O.ne,O'.obj,_,O'.ns,fun g=>?_,fun g hg=>?_⟩
 ·have:=zHd f y fs;lia
 ·show RelO ((putF f y fs).lookup g) (if g=f then some u else mA g);rw [zAt]
  by_cases q:g=f
  ·rw [qAC q,qAC q];exact ry
  ·rw [qAB q,qAB q];exact r g
 ·by_cases q:g=f
  ·rw [q];exact (zHi f y fs).1
  ·refine (zHi f y fs).2 g (wi g fun z=>hg ?_);show (if g=f then some u else mA g)=none;rw [qAB q];exact z
theorem Inv.made (I:Inv X pins σ H s):Inv X pins σ (upd (upd H s.heap.objs.size (.own (s.heap.objs.size+1))) (s.heap.objs.size+1) (.ins C s.heap.objs.size []))
  {s with heap:=(s.heap.push PySem.W.emptyDict).push (PySem.W.instObj C s.heap.objs.size)}:=by
 have e1:(s.heap.push PySem.W.emptyDict).get? s.heap.objs.size=some PySem.W.emptyDict:=qAc s.heap rfl
 have e2:((s.heap.push PySem.W.emptyDict).push (PySem.W.instObj C s.heap.objs.size)).get? (s.heap.objs.size+1)=some (PySem.W.instObj C s.heap.objs.size):=by
  have:=qAc (s.heap.push PySem.W.emptyDict) (o:=PySem.W.instObj C s.heap.objs.size) rfl
  rwa [qBY] at this
 have e3:(s.heap.push PySem.W.emptyDict).Ns s.heap.objs.size (fun _=>none):=⟨PySem.W.emptyDict,#[],_,e1,rfl,(fun e he=>absurd he (by simp)),fun _=>rfl⟩;have I1:=I.laid (a:=s.heap.objs.size) (o:=.own (s.heap.objs.size+1)) (h':=s.heap.push PySem.W.emptyDict) (t':=s.toks) (fun b u q=>qAI _ q) (qAF _) ⟨_,e1⟩;refine I1.laid (a:=s.heap.objs.size+1) (o:=.ins C s.heap.objs.size []) (t':=s.toks) (fun b u q=>qAI _ q) (qBl (qBY _ _)) ?_;have ne:s.heap.objs.size≠s.heap.objs.size+1:=qAN (qCJ _);refine ⟨by rw [upd_ne ne,upd_same],qAd _,ne,e2,fun _=>none,(Heap.Ns1.of_empty e3).at fun o q=>qAI _ q,fun _=>True.intro,fun y hy=>absurd rfl hy⟩
theorem attr_of {prog:Program} {env:Env} {f:Str} {Q:Value->Shared->Prop} (hb:attributeBase e f env (eval e env)=eval e env)
  (h:wpAny (model prog w) A (eval e env) (fun o s₁=>wpAny (model prog w) A (getAttr o f true) Q E s₁) E s):wpAny (model prog w) A (eval (.Attribute e f pos) env) Q E s :=
 Attribute_any_ h (by rw [arm_eval_Attribute,hb])
end
def tFld (K:PySem.W.Frag) (ta:TE) (f:Str):TE:=fun σ H Q=>ta σ H fun x H1=>∃a C dx fs v,x= .ref a/\H1 a=some (.ins C dx fs)/\Cls K C/\zFq K C f/\fs.lookup f=some v/\Q v H1
def sFld (K:PySem.W.Frag) (ta tv:TE) (f:Str):TS:=fun D σ H=>tv σ H fun y H1=>ta σ H1 fun x H2=>∃a C dx fs,x= .ref a/\H2 a=some (.ins C dx fs)/\Cls K C/\zFq K C f/\fs.length<1000 /\
 D.nx σ (upd H2 a (.ins C dx (putF f y fs)))
section
variable {X:Cx} {o e value:Expr} {f:Str} {pos pos' tpos:Pos} {ta tv:TE}
theorem zFi (he:PE X e ta) (hb:attributeBase e f X.env (eval e X.env)=eval e X.env):PE X (.Attribute e f pos) (tFld X.K ta f):=by
 intro pins s σ H Q I h;refine attr_of hb (thn (he pins s σ H _ I h) fun u s1 ⟨x,H1,I1,rx,a,C,dx,fs,v,ex,ea,c,n,l,q⟩=>?_);subst ex;obtain rfl:u=Value.ref a:=rx;exact getattr_ok I1 ea c n l fun u' s2 I2 ru=>⟨v,H1,I2,ru,q⟩
theorem ps_fld (ha:PE X o ta) (hv:PE X value tv) (hs:swapsWith value (some (.Attribute o f pos')) pos.line X.env=pure false):PS X (.Assign [.Attribute o f pos'] value pos) (sFld X.K ta tv f):=by
 intro pins s σ H D I h;refine plainObj_wpAny_Assign_Attribute (thn (hv pins s σ H _ I h) fun u s1 ⟨y,H1,I1,ry,q⟩=>thn (ha pins s1 σ H1 _ I1 q) fun ov s2 ⟨x,H2,I2,rx,a,C,dx,fs,ex,ea,c,n,l,q2⟩=>?_) hs;subst ex;obtain rfl:ov=Value.ref a:=rx;exact setattr_ok I2 ea c n l ry fun s3 I3=>⟨σ,_,I3,q2⟩
end
section
variable {X:Cx} {pins:List (Addr×Obj)} {σ:St} {H:Hp} {s:Shared} {A:Around} {E:Value->Shared->Prop} {Q:Value->Shared->Prop} {c:Value} {b:Bool}
inductive TyOf (K:PySem.W.Frag) (H:Hp):V->Value->Prop where
 | non:TyOf K H .non (.type "NoneType")
 | bl (x:Bool):TyOf K H (.bl x) (.type "bool")
 | int (i:Int):TyOf K H (.int i) (.type "int")
 | str (x:Str):TyOf K H (.str x) (.type "str")
 | flt (x:UInt64):TyOf K H (.flt x) (.type "float")
 | lst {a:Addr} {xs:List V} (e:H a=some (.lst xs)):TyOf K H (.ref a) (.type "list")
 | frz {a:Addr} {o:Obj} {xs:List V} (e:H a=some (.frz o (.lst xs))):TyOf K H (.ref a) (.type "list")
 | tup {a:Addr} {xs:List V} (e:H a=some (.tup xs)):TyOf K H (.ref a) (.type "tuple")
 | dK {a:Addr} {kvs:List (Key×V)} (e:H a=some (.dK kvs)):TyOf K H (.ref a) (.type "dict")
 | dT {a:Addr} {kvs:List (List Key×V)} (e:H a=some (.dT kvs)):TyOf K H (.ref a) (.type "dict")
 | ins {a C dx:Addr} {fs:List (Str×V)} (e:H a=some (.ins C dx fs)) (cl:Cls K C) (ha:PySem.W.findIn K (.ref C) "__class__" = some (some (.builtin "object.__class__")))
   (hn:PySem.W.specialIn K (.builtin "object.__class__") "__get__" = some (some (.builtin "getset_descriptor.__get__"))) (htk:PySem.W.takesIn K (.builtin "object.__class__")=some true)
   (hm:PySem.W.mroIn K C (.type "object")=some true):TyOf K H (.ref a) (.ref C)
theorem isinst_ok {x:V} {t:Value} (I:Inv X pins σ H s) (rx:RelV x u) (ty:TyOf X.K H x t) (e:PySem.W.kitOne X.K t c=some b) (h:∀tk,Q (.bool b) {s with toks:=tk}) :
  wpAny (model X.prog X.w) A (call (.builtin "isinstance") [u,c]) Q E s:=by
 cases ty with
 | non=>cases (show u=Value.none from rx);exact qBJ PySem.W.kitx_none I.kIn True.intro e (fun z=>nomatch z) h
 | bl y=>cases (show u=Value.bool y from rx);exact qBJ PySem.W.kitx_bool I.kIn True.intro e (fun z=>nomatch z) h
 | int i=>obtain ⟨t,q⟩:=(show∃t,u=Value.int i t from rx);cases q;exact qBJ PySem.W.kitx_int I.kIn True.intro e (fun z=>nomatch z) h
 | str y=>obtain ⟨t,q⟩:=(show∃t,u=Value.str y t from rx);cases q;exact qBJ PySem.W.kitx_str I.kIn True.intro e (fun z=>nomatch z) h
 | flt y=>obtain ⟨t,q⟩:=(show∃t,u=Value.float y t from rx);cases q;exact qBJ PySem.W.kitx_float I.kIn True.intro e (fun z=>nomatch z) h
 | @lst a xs ea =>
  cases (show u=Value.ref a from rx)
  obtain ⟨_,_,n,_,h1⟩:=(show zAx X.prog X.w H s.heap a (.lst xs) from I.hok a _ ea);exact qBJ PySem.W.kitx_list I.kIn ⟨_,h1,rfl⟩ e (fun z=>nomatch z) h
 | @frz a ob xs ea =>
  cases (show u=Value.ref a from rx)
  obtain ⟨_,_,_,n,_,h1⟩:=(show zAx X.prog X.w H s.heap a (.frz ob (.lst xs)) from I.hok a _ ea);exact qBJ PySem.W.kitx_list I.kIn ⟨_,h1,rfl⟩ e (fun z=>nomatch z) h
 | @tup a xs ea =>
  cases (show u=Value.ref a from rx)
  obtain ⟨_,_,_,p⟩:=(show zAx X.prog X.w H s.heap a (.tup xs) from I.hok a _ ea);obtain ⟨o,h1,h2,_⟩:=p;exact qBJ PySem.W.kitx_tuple I.kIn ⟨o,h1,h2⟩ e (fun z=>nomatch z) h
 | @dK a kvs ea =>
  cases (show u=Value.ref a from rx)
  obtain ⟨_,_,vs,_,p⟩:=(show zAx X.prog X.w H s.heap a (.dK kvs) from I.hok a _ ea);obtain ⟨o,es,ep,h1,h2,_⟩:=p;exact qBJ PySem.W.kitx_dict I.kIn ⟨o,h1,h2.1⟩ e (fun z=>nomatch z) h
 | @dT a kvs ea =>
  cases (show u=Value.ref a from rx)
  obtain ⟨_,_,xs,_,o,es,ep,h1,h2,_⟩:=(show zAx X.prog X.w H s.heap a (.dT kvs) from I.hok a _ ea);exact qBJ PySem.W.kitx_dict I.kIn ⟨o,h1,h2.1⟩ e (fun z=>nomatch z) h
 | @ins a C dx fs ea cl ha hn htk hm =>
  cases (show u=Value.ref a from rx)
  obtain ⟨mA,O,_⟩:=zFu I.hok ea;obtain ⟨od,J,_⟩:=O.look;exact qBJ (PySem.W.kitx_own (cl.get _) cl.hd ha hn htk hm) I.kIn J e (fun z=>nomatch z) h
end
structure Room (k:Nat) (A:Around):Prop where
 hd:A.handled=none
 dp:A.depth+3*k+5<recursionLimit
 un:A.units+16*k+200<cLine
 gd:A.guards=some []
theorem Room.mono {j k:Nat} (r:Room k A) (h:j<=k):Room j A:=⟨r.hd,by have:=r.dp;lia,by have:=r.un;lia,r.gd⟩
theorem Room.deeper {k:Nat} (r:Room (k+1) A) (env:Env):Room k (A.deeper env) :=
 ⟨r.hd,by have:=r.dp;show A.depth+1+3*k+5<_;lia,by have:=r.un;show A.units+3+16*k+200<_;lia,r.gd⟩
theorem Room.in1 {k:Nat} (r:Room (k+1) A):Room k A.in1 :=
 ⟨r.hd,by have:=r.dp;show A.depth+3*k+5<_;lia,by have:=r.un;show A.units+1+16*k+200<_;lia,r.gd⟩
theorem make_depth {kw:List (Str×Value)}:(A.under (.builtin "type.__call__" ⟨.ref C::us,kw⟩)).depth=A.depth+1:=by
 first| rfl| simp [Around.under,Code.weight,Code.isCreation,Code.isGuard,Code.isCaller,Code.frames,Code.isFrame,guardIds]
theorem make_units {kw:List (Str×Value)}:(A.under (.builtin "type.__call__" ⟨.ref C::us,kw⟩)).units=A.units+1:=by
 first| rfl| simp [Around.under,Code.cUnits,Code.frames,Code.isFrame]
theorem Room.make {k:Nat} (r:Room (k+1) A) (C:Addr) (us:List Value) (kw:List (Str×Value)):Room k (A.under (.builtin "type.__call__" ⟨.ref C::us,kw⟩)) :=
 ⟨r.hd,by have:=r.dp;rw [make_depth];lia,by have:=r.un;rw [make_units];lia,(by unfold Around.under;dsimp only;rw [r.gd];rfl)⟩
theorem Room.depth {k:Nat} (r:Room k A):A.depth<recursionLimit:=by have:=r.dp;lia
theorem Room.units {k:Nat} (r:Room k A):A.units+64<cLine:=by have:=r.un;lia
def tNil:TA:=fun _ H Q=>Q [] H
def tCons (ta:TE) (tr:TA):TA:=fun σ H Q=>ta σ H fun x H1=>tr σ H1 fun xs H2=>Q (x::xs) H2
section
variable {X:Cx} {e:Expr} {es:List Expr} {te:TE} {t:TA} {pos:Pos}
theorem zAb:PA X [] tNil:=fun _ _ _ _ H Q I h=>Calls.spliced_nil ⟨[],H,I,.nil,h⟩
theorem zAa (ha:PE X e te) (hr:PA X es t) (hs:starEach (e::es) X.env=(false,eval e X.env)::starEach es X.env:=by rfl):PA X (e::es) (tCons te t):=by
 intro pos pins s σ H Q I h;rw [hs];show wpAny _ _ (spliced ((false,eval e X.env)::backTo pos (starEach es X.env))) _ _ s;refine Calls.spliced_cons (thn (ha pins s σ H _ I h) fun u s1 ⟨x,H1,I1,r1,q1⟩=>?_);exact thn (hr pos pins s1 σ H1 _ I1 q1) fun us s2 ⟨xs,H2,I2,r2,q2⟩=>⟨x::xs,H2,I2,.cons r1 r2,q2⟩
def tTup (t:TA):TE:=fun σ H Q=>t σ H fun xs H1=>xs.length<=sizeLine/\∀p,H1 p=none->Q (.ref p) (upd H1 p (.tup xs))
def tLst (t:TA):TE:=fun σ H Q=>t σ H fun xs H1=>xs.length<=sizeLine/\∀p,H1 p=none->Q (.ref p) (upd H1 p (.lst xs))
theorem zA9 {x1} (h:PA X es t):PE X (.Tuple es x1 pos) (tTup t):=by
 intro pins s σ H Q I hq;refine wpAny_Tuple_spliced (thn (h pos pins s σ H _ I hq) fun us s1 ⟨xs,H1,I1,r,z,q⟩=>⟨by rw [<-r.length];exact z,?_⟩);have hf:H1 s1.heap.objs.size=none:=I1.hok.fresh (qAF _);refine ⟨.ref s1.heap.objs.size,upd H1 s1.heap.objs.size (.tup xs),I1.laid (t':=s1.toks) (fun b u e=>qAI _ e) (qAF _) ?_,rfl,q _ hf⟩;exact ⟨z,us,r,⟨_,qAc _ rfl,rfl,_,rfl⟩⟩
theorem zA7 (h:PA X es t):PE X (.List es pos) (tLst t):=by
 intro pins s σ H Q I hq;refine wpAny_List_spliced (thn (h pos pins s σ H _ I hq) fun us s1 ⟨xs,H1,I1,r,z,q⟩=>⟨by rw [<-r.length];exact z,?_⟩);have hf:H1 s1.heap.objs.size=none:=I1.hok.fresh (qAF _);refine ⟨.ref s1.heap.objs.size,upd H1 s1.heap.objs.size (.lst xs),I1.laid (t':=s1.toks) (fun b u e=>qAI _ e) (qAF _) ?_,rfl,q _ hf⟩;exact ⟨z,us,0,r,qAc _ rfl⟩
end
abbrev Sp:=List V->Hp->VK->XK->Prop
abbrev CXT:=List Env->Hp->Shared->XK->Value->Shared->Prop
structure Env0 (P:Program) (w:World) (K:PySem.W.Frag) (mg:Str->Option Value) (base:Heap) (A:Around) (outer:List Env) (s:Shared) (H:Hp):Prop where
 frames:A.frames=some outer
 mod:Mod K mg base
 bs:∀b o,base.get? b=some o->s.heap.get? b=some o/\H b=none
 bsz:base.objs.size<=s.heap.objs.size
 funs:s.heap.FunFrames base outer
 frf:∀b∈frs outer,H b=none
 hok:HOk P w H s.heap
 bare:AllBare s.gens
def CE (outer:List Env) (P:Program) (w:World) (H:Hp) (s:Shared) (Q:VK) (u:Value) (s':Shared):Prop :=
 ∃v H',s'.os=s.os/\AllBare s'.gens/\Un (frs outer) [] H H' s.heap s'.heap/\HOk P w H' s'.heap/\RelV v u/\Q v H'
def CR (CX:CXT) (outer:List Env) (P:Program) (w:World) (H:Hp) (s:Shared) (Q:VK) (E:XK) (r:Result) (s':Shared):Prop :=
 match r with
 | .ok (.ret u)=>CE outer P w H s Q u s'
 | .ok _=>False
 | .error e=>CX outer H s E e s'
structure FnOk (P:Program) (w:World) (K:PySem.W.Frag) (mg:Str->Option Value) (base:Heap) (CX:CXT) (k:Nat) (f:Addr) (fd:FuncData) (ps:List Str) (sp:Sp):Prop where
 len:∀vs H Q E,sp vs H Q E->vs.length=ps.length
 run:∀(A:Around) (outer:List Env) (s:Shared) (H:Hp) (args:Args) (us:List Value) (vs:List V) (Q:VK) (E:XK),Room k A->Env0 P w K mg base A outer s H->BindsTo s fd args (ps.zip us)->Vals vs us->sp vs H Q E ->
  codeAny (model P w) A (.call (.ref f) args) (CR CX outer P w H s Q E) s
theorem Env0.make {mg:Str->Option Value} {outer:List Env} (e:Env0 P w K mg base A outer s H) (C:Addr) (us:List Value) (kw:List (Str×Value)) :
  Env0 P w K mg base (A.under (.builtin "type.__call__" ⟨.ref C::us,kw⟩)) outer s H:=⟨by first| exact e.frames| (simpa [Around.under,Code.envs,Code.isFrame,pushEnvs] using e.frames),e.mod,e.bs,e.bsz,e.funs,e.frf,e.hok,e.bare⟩
section
variable {X:Cx} {pins:List (Addr×Obj)} {σ:St} {H:Hp} {s s':Shared}
theorem Inv.env0 (I:Inv X pins σ H s):Env0 X.prog X.w X.K X.mg X.base X.A X.stack s H :=
 ⟨I.ok.frames,I.ok.mod,I.bs,qAW I.ok.bsz I.sz,I.stack,I.stkFree,I.hok,I.bare⟩
theorem Inv.after {Q:VK} (I:Inv X pins σ H s) (h:CE X.stack X.prog X.w H s Q u s'):EP X pins σ Q u s':=by
 obtain ⟨v,H',os,bare,un,hok,r,q⟩:=h;obtain ⟨hh,g,d,t,os'⟩:=s';obtain rfl:os'=s.os:=os;exact ⟨v,H',I.call (h':=hh) (g':=g) (d':=d) (t':=t) (ch:=[]) un hok bare (fun b z=>absurd z (by simp)),r,q⟩
end
def tCall (sp:Sp) (dvs:List V) (E:XK) (t:TA):TE:=fun σ H Q=>t σ H fun vs H1=>sp (vs++dvs) H1 Q E
def tMeth (C:Addr) (m:Str) (sp:Sp) (dvs:List V) (E:XK) (ta:TE) (t:TA):TE:=fun σ H Q=>ta σ H fun x H1=>∃a dx fs,x= .ref a/\H1 a=some (.ins C dx fs)/\fs.lookup m=none /\
 t σ H1 fun vs H2=>sp (x::(vs++dvs)) H2 Q E
def tMake (C:Addr) (sp:Sp) (dvs:List V) (E:XK) (t:TA):TE:=fun σ H Q=>t σ H fun vs H1=>∀x dx,H1 x=none->H1 dx=none->dx≠x ->
 sp (.ref x::(vs++dvs)) (upd (upd H1 dx (.own x)) x (.ins C dx [])) (fun v H2=>v= .non/\Q (.ref x) H2) E
def zD0 (K:PySem.W.Frag) (fd:FuncData) (ps:List Str) (ds:List Value):Prop :=
 ∀(s:Shared) (us:List Value),K.In s.heap->(us++ds).length=ps.length->BindsTo s fd ⟨us,[]⟩ (ps.zip (us++ds))
theorem zD0.all {fd:FuncData} {ps:List Str} (h:∀us:List Value,us.length=ps.length->bindArgs fd ⟨us,[]⟩=pure (ps.zip us)):zD0 K fd ps []:=fun s us _ hl=>by
 rw [qA2] at hl ⊢;exact .of_eq (h us hl)
def zHo (CX:CXT) (X:Cx) (E:XK):Prop:=∀(pins:List (Addr×Obj)) (σ:St) (H:Hp) (s:Shared) (e:Value) (s':Shared),Inv X pins σ H s->CX X.stack H s E e s'->X.xe e s'
section
variable {X:Cx} {CX:CXT} {k:Nat} {f C:Addr} {fd:FuncData} {ps:List Str} {sp:Sp} {dvs:List V} {ds:List Value} {E:XK} {x m:Str} {p pos apos:Pos} {e o:Expr} {es:List Expr} {ta:TE} {t:TA}
theorem run_fn {Q:VK} {us:List Value} {vs:List V} (F:FnOk X.prog X.w X.K X.mg X.base CX k f fd ps sp) (hr:Room k X.A) (hb:zD0 X.K fd ps ds) (hd:Vals dvs ds) (hx:zHo CX X E)
  (I:Inv X pins σ H s) (r:Vals vs us) (h:sp (vs++dvs) H Q E):wpAny (model X.prog X.w) X.A (call (.ref f) us) (EP X pins σ Q) X.xe s:=by
 have r2:Vals (vs++dvs) (us++ds):=r.append hd;have hl:(us++ds).length=ps.length:=by rw [<-r2.length];exact F.len _ _ _ _ h
 refine qCK (qCL (F.run X.A X.stack s H ⟨us,[]⟩ (us++ds) (vs++dvs) Q E hr I.env0 (hb s us I.kIn hl) r2 h) fun r s' hq=>?_)
 cases r with
 | error e=>exact hx pins σ H s e s' I hq
 | ok fl =>
  cases fl with
  | ret u=>exact I.after hq
  | next=>exact False.elim hq
  | brk=>exact False.elim hq
  | cont=>exact False.elim hq
theorem pe_call (F:FnOk X.prog X.w X.K X.mg X.base CX k f fd ps sp) (hr:Room k X.A) (hg:Gl X x) (hm:X.mg x=some (.ref f)) (hk:PySem.W.keepIn X.K (.ref f)=true) (hb:zD0 X.K fd ps ds) (hd:Vals dvs ds) (hx:zHo CX X E)
  (ha:PA X (e::es) t) (hdb:(x==("__debug__" : Str))=false:=by decide) (he:starEach (e::es) X.env=(false,eval e X.env)::starEach es X.env:=by rfl) (hpl:(backTo pos (starEach es X.env)).any (·.1)=false:=by rfl) :
  PE X (.Call (.Name x p) (e::es) [] pos) (tCall sp dvs E t):=by
 intro pins s σ H Q I h;refine qB3 (ld_glob I hg hm ?_ hdb);refine PySem.W.callWith_K (h₀:=X.base) I.ok.mod.kin hk (thn (ha pos pins s σ H _ I h) fun us s1 ⟨vs,H1,I1,r,q⟩=>⟨I1.kIn,?_⟩) he hpl;exact run_fn F hr hb hd hx I1 r q
theorem pe_meth {pl:Sem Bool} (he:PE X o ta) (c:Cls X.K C) (hm:Meth X.K C m f) (F:FnOk X.prog X.w X.K X.mg X.base CX k f fd ps sp) (hr:Room k X.A) (hb:zD0 X.K fd ps ds) (hd:Vals dvs ds) (hx:zHo CX X E) (ha:PA X (e::es) t)
  (hst:starEach (e::es) X.env=(false,eval e X.env)::starEach es X.env:=by rfl) (hpl:(backTo pos (starEach es X.env)).any (·.1)=false:=by rfl)
  (ht:eval (.Call (.Attribute o m apos) (e::es) [] pos) X.env=(do
   let ov<-eval o X.env
   standAt apos.atName
   let (f,first)<-holding [ov] (getMethod ov m pl)
   callWith pos f first (backTo pos (starEach (e::es) X.env)) (backToKw pos (keywordEach [] X.env))):=by rfl) :
  PE X (.Call (.Attribute o m apos) (e::es) [] pos) (tMeth C m sp dvs E ta t):=by
 intro pins s σ H Q I h;refine PySem.W.methodCall_KW (pl:=pl) (thn (he pins s σ H _ I h) fun u s1 ⟨x,H1,I1,rx,a,dx,fs,ex,ea,l,q⟩=>?_) ht;subst ex;obtain rfl:u=Value.ref a:=rx;refine zIc I1 ea c hm l ?_;refine PySem.W.callWith_K (first:=[.ref a]) (h₀:=X.base) I.ok.mod.kin hm.kp (thn (ha pos pins s1 σ H1 _ I1 q) fun us s2 ⟨vs,H2,I2,r,q2⟩=>⟨I2.kIn,?_⟩) hst hpl;exact run_fn (us:=.ref a::us) (vs:=.ref a::vs) F hr hb hd hx I2 (.cons rfl r) q2
theorem pe_meth0 {pl:Sem Bool} (he:PE X o ta) (c:Cls X.K C) (hm:Meth X.K C m f) (F:FnOk X.prog X.w X.K X.mg X.base CX k f fd ps sp) (hr:Room k X.A) (hb:zD0 X.K fd ps ds) (hd:Vals dvs ds) (hx:zHo CX X E)
  (ht:eval (.Call (.Attribute o m apos) [] [] pos) X.env=(do
   let ov<-eval o X.env
   standAt apos.atName
   let (f,first)<-holding [ov] (getMethod ov m pl)
   callWith pos f first (backTo pos (starEach [] X.env)) (backToKw pos (keywordEach [] X.env))):=by rfl) :
  PE X (.Call (.Attribute o m apos) [] [] pos) (tMeth C m sp dvs E ta tNil):=by
 intro pins s σ H Q I h;refine PySem.W.methodCall_KW (pl:=pl) (thn (he pins s σ H _ I h) fun u s1 ⟨x,H1,I1,rx,a,dx,fs,ex,ea,l,q⟩=>?_) ht;subst ex;obtain rfl:u=Value.ref a:=rx;refine zIc I1 ea c hm l ?_;exact PySem.W.callWith_K0 (first:=[.ref a]) I1.kIn hm.kp (run_fn (us:=[.ref a]) (vs:=[.ref a]) F hr hb hd hx I1 (.cons rfl .nil) q)
structure Mk (K:PySem.W.Frag) (C f:Addr):Prop where
 makes:PySem.W.makesIn K C=true
 init:PySem.W.findIn K (.ref C) "__init__" = some (some (.ref f))
 fn:PySem.W.isFn K (.ref f)=true
 kp:PySem.W.keepIn K (.ref C)=true
theorem run_make {Q:VK} {vs:List V} (M:Mk X.K C f) (F:FnOk X.prog X.w X.K X.mg X.base CX k f fd ps sp) (hr:Room (k+1) X.A) (hb:zD0 X.K fd ps ds) (hd:Vals dvs ds)
  (hx:zHo CX X E) (I:Inv X pins σ H s) (r:Vals vs us)
  (h:∀x dx,H x=none->H dx=none->dx≠x->sp (.ref x::(vs++dvs)) (upd (upd H dx (.own x)) x (.ins C dx [])) (fun v H2=>v= .non/\Q (.ref x) H2) E) :
  wpAny (model X.prog X.w) X.A (call (.ref C) us) (EP X pins σ Q) X.xe s:=by
 have hq:=h (s.heap.objs.size+1) s.heap.objs.size (I.hok.fresh (qBK _)) (I.hok.fresh (qAF _)) (qAN (qCJ _));have I2:=Inv.made (C:=C) I;have r2:Vals (V.ref (s.heap.objs.size+1)::(vs++dvs)) (Value.ref (s.heap.objs.size+1)::(us++ds)):=.cons rfl (r.append hd)
 have hl:(Value.ref (s.heap.objs.size+1)::us++ds).length=ps.length:=by
  have e:=r2.length;rw [F.len _ _ _ _ hq] at e;exact e.symm
 refine qCK (make_map (f:=f) I.kIn M.makes M.init (qB2.mp M.fn) (qCL (F.run _ X.stack _ _ ⟨Value.ref (s.heap.objs.size+1)::us,[]⟩ (Value.ref (s.heap.objs.size+1)::(us++ds)) _ _ E (hr.make C us [])
  (I2.env0.make C us []) (hb _ (Value.ref (s.heap.objs.size+1)::us) I2.kIn hl) r2 hq) fun r s' hq'=>?_))
 cases r with
 | error e=>exact hx pins σ _ _ e s' I2 hq'
 | ok fl =>
  cases fl with
  | ret u =>
   obtain ⟨v,H',I3,rv,ev,q3⟩:=I2.after hq';subst ev;exact ⟨rv,⟨V.ref (s.heap.objs.size+1),H',I3,rfl,q3⟩⟩
  | next=>exact False.elim hq'
  | brk=>exact False.elim hq'
  | cont=>exact False.elim hq'
theorem pe_make (M:Mk X.K C f) (F:FnOk X.prog X.w X.K X.mg X.base CX k f fd ps sp) (hr:Room (k+1) X.A) (hg:Gl X x) (hm:X.mg x=some (.ref C)) (hb:zD0 X.K fd ps ds) (hd:Vals dvs ds) (hx:zHo CX X E)
  (ha:PA X (e::es) t) (hdb:(x==("__debug__" : Str))=false:=by decide) (he:starEach (e::es) X.env=(false,eval e X.env)::starEach es X.env:=by rfl) (hpl:(backTo pos (starEach es X.env)).any (·.1)=false:=by rfl) :
  PE X (.Call (.Name x p) (e::es) [] pos) (tMake C sp dvs E t):=by
 intro pins s σ H Q I h;refine qB3 (ld_glob I hg hm ?_ hdb);refine PySem.W.callWith_K (h₀:=X.base) I.ok.mod.kin M.kp (thn (ha pos pins s σ H _ I h) fun us s1 ⟨vs,H1,I1,r,q⟩=>⟨I1.kIn,?_⟩) he hpl;exact run_make M F hr hb hd hx I1 r q
end
def PK (X:Cx) (kws:List Keyword) (t:TA):Prop :=
 ∀(pos:Pos) (pins:List (Addr×Obj)) (s:Shared) (σ:St) (H:Hp) (Q:List V->Hp->Prop),Inv X pins σ H s->t σ H Q->wpAny (model X.prog X.w) X.A (evalAll ((backToKw pos (keywordEach kws X.env)).map (·.2))) (AP X pins σ Q) X.xe s
section
variable {X:Cx} {CX:CXT} {k:Nat} {f C:Addr} {fd:FuncData} {ps ks:List Str} {sp:Sp} {E:XK} {x m:Str} {p pos apos kpos:Pos} {e o:Expr} {es:List Expr} {kws:List Keyword} {te ta:TE} {t tk:TA} {nm:Option Str}
theorem pk_nil:PK X [] tNil:=fun _ _ _ _ H Q I h=>wpAny_evalAll_nil ⟨[],H,I,.nil,h⟩
theorem pk_cons (ha:PE X e te) (hr:PK X kws t):PK X (⟨nm,e,kpos⟩::kws) (tCons te t):=by
 intro pos pins s σ H Q I h;show wpAny _ _ (evalAll ((do let v<-eval e X.env;standAt pos;pure v)::(backToKw pos (keywordEach kws X.env)).map (·.2))) _ _ s;refine qC5 (qAA (thn (ha pins s σ H _ I h) fun u s1 ⟨x,H1,I1,r1,q1⟩=>qAA (qBy (qAE ?_))));exact thn (hr pos pins s1 σ H1 _ I1 q1) fun us s2 ⟨xs,H2,I2,r2,q2⟩=>⟨x::xs,H2,I2,.cons r1 r2,q2⟩
variable {g:List Value->List Value->List Value} {gV:List V->List V->List V}
end
structure FnScope (N P:List Str) (sc:Scope):Prop where
 kind:sc.kind= .function
 co:sc.isCoroutine=false
 gen:sc.isGenerator=false
 nd:N.Nodup
 pre:N.take P.length=P
 par:∀x∈P,sc.names.lookup x=some .local\/sc.names.lookup x=some .cell
 nofree:∀y∈sc.names,y.2≠.free
theorem bindL_out {kindOf:Str->Option NameKind} :∀{binds:List (Str×Value)} {m:Str->Option Value},(∀v,(x,v)∉binds)->bindL kindOf binds m x=m x
 | [],_,_=>rfl
 | (n,v)::r,m,h=>by
  unfold bindL;rw [bindL_out fun w hw=>h w (qAT _ hw)];split
  ·have:x≠n:=by rintro rfl;exact h v qAS
   simp [this]
  ·rfl
theorem bindC_out {kindOf:Str->Option NameKind} :∀{binds:List (Str×Value)} {m:Str->Option Value},(∀v,(x,v)∉binds)->bindC kindOf binds m x=m x
 | [],_,_=>rfl
 | (n,v)::r,m,h=>by
  unfold bindC;rw [bindC_out fun w hw=>h w (qAT _ hw)];split
  ·rfl
  ·have:x≠n:=by rintro rfl;exact h v qAS
   simp [this]
theorem bindL_get {kindOf:Str->Option NameKind} {v:Value}:∀{P:List Str} {vs:List Value} {i:Nat} {m:Str->Option Value},P.Nodup->P[i]?=some x->vs[i]?=some v->kindOf x=some .local ->
  bindL kindOf (P.zip vs) m x=some v
 | [],_,_,_,_,h,_,_=>by simp at h
 | _::_,[],_,_,_,_,h,_=>by simp at h
 | p::P,w::vs,0,m,nd,h1,h2,hk=>by
  simp at h1 h2;subst h1;subst h2;show bindL kindOf ((p,w)::P.zip vs) m p=_;unfold bindL;rw [bindL_out fun v hv=>(qBC.mp nd).1 (List.of_mem_zip hv).1,qAC hk];simp
 | p::P,w::vs,i+1,m,nd,h1,h2,hk=>by
  show bindL kindOf ((p,w)::P.zip vs) m x=_;unfold bindL;exact bindL_get (i:=i) (qBC.mp nd).2 (by simpa using h1) (by simpa using h2) hk
theorem bindC_get {kindOf:Str->Option NameKind} {v:Value}:∀{P:List Str} {vs:List Value} {i:Nat} {m:Str->Option Value},P.Nodup->P[i]?=some x->vs[i]?=some v->kindOf x≠some .local ->
  bindC kindOf (P.zip vs) m x=some v
 | [],_,_,_,_,h,_,_=>by simp at h
 | _::_,[],_,_,_,_,h,_=>by simp at h
 | p::P,w::vs,0,m,nd,h1,h2,hk=>by
  simp at h1 h2;subst h1;subst h2;show bindC kindOf ((p,w)::P.zip vs) m p=_;unfold bindC;rw [bindC_out fun v hv=>(qBC.mp nd).1 (List.of_mem_zip hv).1,qAB hk];simp
 | p::P,w::vs,i+1,m,nd,h1,h2,hk=>by
  show bindC kindOf ((p,w)::P.zip vs) m x=_;unfold bindC;exact bindC_get (i:=i) (qBC.mp nd).2 (by simpa using h1) (by simpa using h2) hk
def start (N:List Str) (vs:List V):St:=vs.map some++List.replicate (N.length - vs.length) none
def cxOf (CX:CXT) (P:Program) (w:World) (K:PySem.W.Frag) (mg:Str->Option Value) (base:Heap) (N:List Str) (qual:Str) (scope:Scope) (f:Addr) (cd:Value) (A:Around) (outer:List Env) (s:Shared) (H:Hp) (E:XK):Cx where
 prog:=P
 w:=w
 K:=K
 mg:=mg
 base:=base
 A:=A.deeper (envOfC qual scope s.heap.objs.size f cd)
 N:=N
 s₀:=s
 H₀:=H
 env:=envOfC qual scope s.heap.objs.size f cd
 outer:=outer
 stack:=envOfC qual scope s.heap.objs.size f cd::outer
 ex:=[]
 calm:=true
 fn:=fun _=>true
 pn:=[]
 xe:=fun e s'=>wpAny (model P w) (A.deeper (envOfC qual scope s.heap.objs.size f cd)) (leaving (envOfC qual scope s.heap.objs.size f cd) e) (fun _ s''=>CX outer H s E e s'') (fun e' s''=>CX outer H s E e' s'') s'
theorem cell_has {sc:Scope} {n:Nat} (h:sc.names.lookup x=some .cell):∃c,(cellsFrom n sc.names []).lookup x=some c:=by
 have q:=qDU sc.names n [] (.inl h);exact Option.isSome_iff_exists.mp q
theorem inv_start {CX:CXT} {mg:Str->Option Value} {N ps:List Str} {qual:Str} {scope:Scope} {f:Addr} {cd:Value} {outer:List Env} {s1:Shared} {E:XK} {vs:List V}
  (S:FnScope N ps scope) (hd:A.handled=none) (e0:Env0 P w K mg base A outer s H) (hl:vs.length=ps.length) (r:Vals vs us)
  (x:InCallC s s.heap.objs.size (bindL (envOfC qual scope s.heap.objs.size f cd).kindOf (ps.zip us) fun _=>none) (cellsFrom (s.heap.objs.size+1) scope.names []) (bindC (envOfC qual scope s.heap.objs.size f cd).kindOf (ps.zip us) fun _=>none) s1) :
  Inv (cxOf CX P w K mg base N qual scope f cd A outer s H E) [] (start N vs) H s1:=by
 have hpl:ps.length<=N.length:=by have:=qAk List.length S.pre;rw [qAX] at this;lia
 obtain ⟨h1,tk,rfl,hk⟩:=x.done;have noA:∀b:Addr,b∉(cxOf CX P w K mg base N qual scope f cd A outer s H E).ex:=fun b z=>absurd (show b∈([]:List Addr) from z) (by simp)
 refine ⟨⟨e0.mod,S.kind,rfl,rfl,qAF _,fun y z c h1 h2=>?_,fun y hy=>?_,fun y c _ h=>?_,fun _=>hd,qDV e0.frames,.inr ⟨rfl,rfl⟩,fun b z=>absurd z (noA b),e0.bs,e0.bsz,fun b _ _=>noA b,fun b z=>absurd z (noA b),e0.funs,e0.frf⟩,
  rfl,e0.bare,Un.kept hk,⟨_,x.toInCall.ns,fun i y v h1 h2 h3=>?_⟩,fun y c h=>⟨_,x.cell y c h⟩,e0.hok.fresh (qAF _),fun y c h=>?_,fun p hp=>absurd (show p∈([]:List (Addr×Obj)) from hp) (by simp),e0.hok.kept hk,?_⟩
 ·exact name_of_addr x.apart (qBT h1) (qBT h2)
 ·have hy:scope.names.lookup y=some .cell\/scope.names.lookup y=some .free:=hy;rcases hy with hy| hy
  ·exact cell_has hy
  ·exact absurd rfl (S.nofree _ (qBT hy))
 ·exact qBx (x.above y c (qBT h))
 ·have hi:i<vs.length:=by
   unfold start at h2
   by_cases hi:i<vs.length
   ·exact hi
   ·rw [qB4 (by simpa using hi)] at h2;rw [List.getElem?_replicate] at h2;split at h2<;>cases h2
  have ha:vs[i]?=some v:=by
   unfold start at h2;rw [qB5 (by simpa using hi),qAZ] at h2
   cases e:vs[i]? with
   | none=>rw [e] at h2;cases h2
   | some a=>rw [e] at h2;cases h2;rfl
  obtain ⟨u,hu,rv⟩:=r.get ha
  have hp:ps[i]?=some y:=by
   rw [<-S.pre,qBm (by lia)];exact h1
  have ndP:ps.Nodup:=by rw [<-S.pre];exact S.nd.sublist (qCM _ _)
  refine ⟨u,rv,?_⟩;rcases S.par y (qAL hp) with k| k
  ·exact .inl ⟨k,bindL_get ndP hp hu k⟩
  ·obtain ⟨c,e⟩:=cell_has (n:=s.heap.objs.size+1) k;refine .inr ⟨.inl k,c,e,?_⟩;have q:=x.cell y c e;rw [bindC_get ndP hp hu (by show scope.names.lookup y≠_;rw [k];decide)] at q;exact q
 ·exact e0.hok.fresh (qBx (x.above y c (qBT h)))
 ·unfold start;show _=N.length;rw [qAf,qAD,List.length_replicate];lia
theorem fn_of {CX:CXT} {mg:Str->Option Value} {k:Nat} {f:Addr} {name qual:Str} {params:Arguments} {body:List Stmt} {scope:Scope} {dV kV doc pm cdv ct oc:Value} {an od:Option Addr}
  {osl:Array (Option Value)} {N ps:List Str} {sp:Sp} (lk:K.lookup f=some ⟨oc,od,.func (PySem.W.fnOf name qual params body scope dV kV doc pm an cdv ct),osl⟩) (hcd:PySem.W.codeIn K cdv qual=true) (S:FnScope N ps scope)
  (len:∀vs H Q E,sp vs H Q E->vs.length=ps.length)
  (hbody:∀(A:Around) (outer:List Env) (s:Shared) (H:Hp) (vs:List V) (Q:VK) (E:XK),Room k (A.deeper (envOfC qual scope s.heap.objs.size f cdv))->sp vs H Q E ->
   ∃t,PSs (cxOf CX P w K mg base N qual scope f cdv A outer s H E) body t/\t {nx:=fun _ H'=>Q .non H',rt:=Q} (start N vs) H) :
  FnOk P w K mg base CX (k+1) f (PySem.W.fnOf name qual params body scope dV kV doc pm an cdv ct) ps sp:=by
 refine ⟨len,fun A outer s H args us vs Q E hr e0 hb r hsp=>?_⟩;have hl:=len _ _ _ _ hsp;have KX:K.In s.heap:=e0.mod.kin.keeps fun b o e=>(e0.bs b o e).1;have lim:s.heap.NoLimit:=e0.mod.nolimit.keeps fun b o e=>(e0.bs b o e).1
 have hkind:∀y∈ps.zip us,scope.names.lookup y.1=some .local\/(scope.names.lookup y.1=some .cell/\((cellsFrom (s.heap.objs.size+1) scope.names []).lookup y.1).isSome=true):=fun ⟨n,v⟩ hy=>by
  rcases S.par n (List.of_mem_zip hy).1 with q| q
  ·exact .inl q
  ·exact .inr ⟨q,qDU _ _ _ (.inl q)⟩
 refine codeAny_call_function hr.depth (KX _ _ lk) rfl S.co S.gen rfl (PySem.W.codeRec_of KX hcd) (hb _ _ _ _ ?_);refine wpAny_newFunctionEnv_cells S.kind hkind fun env he s1 x=>?_;subst he;refine ⟨lim.keeps x.toInCall.keep,codeAny_func ?_⟩;obtain ⟨t,ht,hq⟩:=hbody A outer s H vs Q E (hr.deeper _) hsp;have I:Inv (cxOf CX P w K mg base N qual scope f cdv A outer s H E) [] (start N vs) H s1:=inv_start S hr.hd e0 hl r x;refine qAq (ht [] s1 (start N vs) H _ I hq) (fun fl s' hs=>?_) fun e s' hs=>hs
 have fin:∀{σ':St} {H':Hp} {v:V} {u:Value},Inv (cxOf CX P w K mg base N qual scope f cdv A outer s H E) [] σ' H' s'->RelV v u->Q v H'->CE outer P w H s Q u s' :=
  fun {σ' H' v u} J rv q=>⟨v,H',J.os,J.bare,J.base,J.hok,rv,q⟩
 cases fl with
 | ret u =>
  obtain ⟨v,σ',H',J,rv,q⟩:=hs;exact fin J rv q
 | next =>
  obtain ⟨σ',H',J,q⟩:=hs;exact fin (v:=V.non) (u:=Value.none) J rfl q
 | brk =>
  obtain ⟨_,_,_,q⟩:=hs;exact False.elim q
 | cont =>
  obtain ⟨_,_,_,q⟩:=hs;exact False.elim q
section
variable {X:Cx} {x:Str} {p pos:Pos} {e:Expr} {es:List Expr} {t:TA} {id T:String} {r:List V->Hp->VK->Prop}
def tCB (r:List V->Hp->VK->Prop) (t:TA):TE:=fun σ H Q=>t σ H fun vs H1=>r vs H1 Q
theorem zAh (hc:zC7 X (.builtin id) r) (hg:Gl X x) (hm:X.mg x=none) (hv:bootBuiltins x=some (.builtin id)) (ha:PA X (e::es) t) (hn:x≠ "__name__" := by decide) (hdb:(x==("__debug__" : Str))=false:=by decide)
  (he:starEach (e::es) X.env=(false,eval e X.env)::starEach es X.env:=by rfl) (hpl:(backTo pos (starEach es X.env)).any (·.1)=false:=by rfl):PE X (.Call (.Name x p) (e::es) [] pos) (tCB r t):=by
 intro pins s σ H Q I h;refine qB3 (zEb I hg hm hv ?_ hn hdb);exact PyProof.Rows.callWith_builtin1 (thn (ha pos pins s σ H _ I h) fun us s1 ⟨vs,H1,I1,r1,q1⟩=>hc pins s1 σ H1 vs us Q I1 r1 q1) he hpl
theorem zA3 (hc:zC7 X (.type T) r) (hg:Gl X x) (hm:X.mg x=none) (hv:bootBuiltins x=some (.type T)) (ha:PA X (e::es) t) (hn:x≠ "__name__" := by decide) (hdb:(x==("__debug__" : Str))=false:=by decide)
  (he:starEach (e::es) X.env=(false,eval e X.env)::starEach es X.env:=by rfl) (hpl:(backTo pos (starEach es X.env)).any (·.1)=false:=by rfl):PE X (.Call (.Name x p) (e::es) [] pos) (tCB r t):=by
 intro pins s σ H Q I h;refine qB3 (zEb I hg hm hv ?_ hn hdb);exact qCI (thn (ha pos pins s σ H _ I h) fun us s1 ⟨vs,H1,I1,r1,q1⟩=>hc pins s1 σ H1 vs us Q I1 r1 q1) he hpl
end
end L2
namespace HT
open PySem PyProof.Rows
def lexLt:List Int->List Int->Bool
 | [],[]=>false
 | [],_::_=>true
 | _::_,[]=>false
 | x::xs,y::ys=>if x=y then lexLt xs ys else decide (x<y)
theorem lexLt_cons (x y:Int) (xs ys:List Int):lexLt (x::xs) (y::ys)=if x=y then lexLt xs ys else decide (x<y):=rfl
theorem lexLt_nil_nil:lexLt [] []=false:=rfl
theorem lexLt_nil_cons (y:Int) (ys:List Int):lexLt [] (y::ys)=true:=rfl
theorem lexLt_cons_nil (x:Int) (xs:List Int):lexLt (x::xs) []=false:=rfl
theorem rcLt_int (A:Around) (s:Shared) (a:Int) (t:Tok) (c:Int) (u:Tok) (prog:Program) (w:World) (E:Value->Shared->Prop) (Q:Value->Shared->Prop) (h:Q (.bool (decide (a<c))) s) :
  wpAny (model prog w) A (richCompare .Lt (.int a t) (.int c u)) Q E s :=
 (PyProof.Rows.lt_int h:wpAny (model prog w) A (compareOp .Lt (.int a t) (.int c u)) Q E s)
section
open PySem.SeqAt
open PySem.AutoSeq1 (wpAny_loadPart')
open PySem.MeetsSeq PySem.MeetsSeq2 PySem.MeetsSeq3
end
section
variable {prog:Program} {w:World} {A:Around} {E:Value->Shared->Prop} {s:Shared}
def sIx (n d:Nat):Option Int->Nat
 | none=>d
 | some v=>if v<0 then (v+(n:Int)).toNat else min v.toNat n
theorem sIx_none (n d:Nat):sIx n d none=d:=rfl
theorem sIx_nat (n d k:Nat):sIx n d (some (k:Int))=min k n:=by
 show (if (k:Int)<0 then ((k:Int)+(n:Int)).toNat else min (k:Int).toNat n)=min k n;rw [qAB (by lia),Int.toNat_natCast]
end
end HT
namespace L2
open PySem PySem.Spec PyProof.Rows
variable {α:Type}{n:Nat}{x:V}
abbrev TO:=St->Hp->(Option Int->Hp->Prop)->Prop
def PO (X:Cx) (e:Option Expr) (t:TO):Prop :=
 ∀(pins:List (Addr×Obj)) (s:Shared) (σ:St) (H:Hp) (Q:Option Int->Hp->Prop),Inv X pins σ H s->t σ H Q ->
  wpAny (model X.prog X.w) X.A (evalPart e X.env) (fun u s'=>∃o H',Inv X pins σ H' s'/\IsPart u o/\Q o H') X.xe s
def tNoPart:TO:=fun _ H Q=>Q none H
def tPart (t:TE):TO:=fun σ H Q=>t σ H fun x H1=>∃i,x= .int i/\Q (some i) H1
theorem zFt {ns:List Int}:∀{us:List Value},Vals (ns.map V.int) us->IntsAre us ns:=by
 induction ns with
 | nil=>intro us r;rw [List.map_nil] at r;cases r;exact .nil
 | cons n ns ih =>
  intro us r;rw [qAo] at r
  cases r with
  | cons r1 r2 =>
   obtain ⟨t,e⟩:=r1;subst e;exact .cons n t (ih r2)
section
variable {X:Cx} {e:Expr} {te:TE} {lo hi:Option Expr} {tl th:TO} {pos p2:Pos}
theorem po_none:PO X none tNoPart:=by
 intro pins s σ H Q I h;rw [evalPart_none];exact qAE ⟨none,H,I,.none,h⟩
theorem zG1 (h:PE X e te):PO X (some e) (tPart te):=by
 intro pins s σ H Q I hw;rw [evalPart_some];refine thn (h pins s σ H _ I hw) fun u s1 ⟨x,H1,I1,r1,q1⟩=>?_;obtain ⟨i,rfl,q⟩:=q1;obtain ⟨t,rfl⟩:=r1;exact ⟨some i,H1,I1,.int i t,q⟩
def SlR (X:Cx) (r:V->Option Int->Option Int->Hp->VK->Prop):Prop :=
 ∀(pins:List (Addr×Obj)) (s:Shared) (σ:St) (H:Hp) (x:V) (v vl vu:Value) (lo hi:Option Int) (sl:Addr) (Q:VK),Inv X pins σ H s->RelV x v->s.heap.IsSliceOf sl vl vu .none->IsPart vl lo->IsPart vu hi->r x lo hi H Q ->
  ∃T id,typeLookup (.type T) "__getitem__" = pure (some (.builtin id))/\s.TypeIs v T/\wpAny (model X.prog X.w) X.A (getItem v (.ref sl)) (EP X pins σ Q) X.xe s
def tSl (r:V->Option Int->Option Int->Hp->VK->Prop) (te:TE) (tl th:TO):TE:=fun σ H Q=>te σ H fun x H1=>tl σ H1 fun l H2=>th σ H2 fun u H3=>r x l u H3 Q
theorem zGm {r:V->Option Int->Option Int->Hp->VK->Prop} (hr:SlR X r) (he:PE X e te) (hl:PO X lo tl) (hu:PO X hi th):PE X (.Subscript e (.Slice lo hi none p2) pos) (tSl r te tl th):=by
 intro pins s σ H Q I h;refine Subscript_ (thn (he pins s σ H _ I h) fun v s1 ⟨x,H1,I1,r1,q1⟩=>?_);refine wpAny_Slice (thn (hl pins s1 σ H1 _ I1 q1) fun vl s2 ⟨l,H2,I2,pl,q2⟩=>thn (hu pins s2 σ H2 _ I2 q2) fun vu s3 ⟨u,H3,I3,pu,q3⟩=>?_);rw [evalPart_none];refine qAE ?_;have I4:Inv X pins σ H3 {s3 with heap:=s3.heap.push {cls:=.type "slice",data:=.fields #[vl,vu,.none]}}:=I3.kept (t':=s3.toks) fun b ob q=>qAI _ q;obtain ⟨T,id,hT,ht,hg⟩:=hr pins {s3 with heap:=s3.heap.push {cls:=.type "slice",data:=.fields #[vl,vu,.none]}} σ H3 x v vl vu l u s3.heap.objs.size Q I4 r1 (Heap.IsSliceOf.new ..) pl pu q3;show wpAny (model X.prog X.w) X.A (subscriptTail e (.Slice lo hi none p2) v (.ref s3.heap.objs.size)) (EP X pins σ Q) X.xe {s3 with heap:=s3.heap.push {cls:=.type "slice",data:=.fields #[vl,vu,.none]}};exact tail_any (ops:=[.ref s3.heap.objs.size,v]) ht hT hg (by with_unfolding_all rfl)
def cutV (xs:List V) (lo hi:Option Int):List V:=(xs.drop (HT.sIx xs.length 0 lo)).take (HT.sIx xs.length xs.length hi - HT.sIx xs.length 0 lo)
theorem cutV_length (xs:List V) (lo hi:Option Int):(cutV xs lo hi).length<=xs.length:=by
 unfold cutV;rw [qAX,qA4];lia
end
def ixN (n:Nat) (i:Int):Option Nat:=if 0<=i then (if i<n then some i.toNat else none) else if -(n:Int)<=i then some (i+n).toNat else none
def atI (xs:List α) (i:Int):Option α:=(ixN xs.length i).bind fun j=>xs[j]?
theorem ixN_seq {i:Int} {j:Nat} (h:ixN n i=some j):seqIndex? i n=some j/\j<n/\-(n:Int)<=i/\i<n:=by
 unfold ixN at h
 by_cases h0:0<=i
 ·rw [qAC h0] at h
  by_cases h1:i<n
  ·rw [qAC h1] at h;have e:i.toNat=j:=qAh h;exact ⟨by rw [seqIndex_of h0 h1,e],by lia,by lia,h1⟩
  ·rw [qAB h1] at h;cases h
 ·rw [qAB h0] at h
  by_cases h1:-(n:Int)<=i
  ·rw [qAC h1] at h;have e:(i+n).toNat=j:=qAh h;exact ⟨by rw [seqIndex_neg (by lia) h1,e],by lia,h1,by lia⟩
  ·rw [qAB h1] at h;cases h
theorem atI_get {xs:List α} {i:Int} {v:α} (h:atI xs i=some v):∃j,seqIndex? i xs.length=some j/\xs[j]?=some v/\j<xs.length/\-(xs.length:Int)<=i/\i<xs.length:=by
 unfold atI at h
 cases e:ixN xs.length i with
 | none=>rw [e] at h;cases h
 | some j =>
  rw [e] at h;obtain ⟨h1,h2,h3,h4⟩:=ixN_seq e;exact ⟨j,h1,h,h2,h3,h4⟩
def PlainIx (b:Expr):Prop:=∀o i,subscripted b false o i=operate [o,i] (getItem o i)
def IxR (X:Cx) (r:R2):Prop :=
 ∀(value slice:Expr) (pins:List (Addr×Obj)) (s:Shared) (σ:St) (H:Hp) (x y:V) (v u:Value) (Q:VK),Inv X pins σ H s->RelV x v->RelV y u->r x y H Q ->
  subscripted slice false v u=operate [v,u] (getItem v u)->wpAny (model X.prog X.w) X.A (subscriptTail value slice v u) (EP X pins σ Q) X.xe s
def MtR (X:Cx) (id:String) (r:V->List V->Hp->VK->Prop):Prop :=
 ∀(pins:List (Addr×Obj)) (s:Shared) (σ:St) (H:Hp) (x:V) (xs:List V) (v:Value) (us:List Value) (Q:VK),Inv X pins σ H s->RelV x v->Vals xs us->r x xs H Q ->
  wpAny (model X.prog X.w) X.A (call (.builtin id) (v::us)) (EP X pins σ Q) X.xe s
section
variable {X:Cx} {a b:Expr} {ta tb:TE} {pos:Pos}
theorem zBv {r:R2} (hr:IxR X r) (ha:PE X a ta) (hb:PE X b tb) (hs:PlainIx b):PE X (.Subscript a b pos) (tOp r ta tb):=by
 intro pins s σ H Q I h;exact Subscript_ (binT ha hb I h fun v u s2 x y H2 I2 rx ry q=>hr a b pins s2 σ H2 x y v u Q I2 rx ry q (hs _ _))
def rIxL (K:PySem.W.Frag):R2:=fun x y H Q=>∃p xs i v,x= .ref p/\y= .int i/\SqL K H p xs/\atI xs i=some v/\Q v H
def rIxT (K:PySem.W.Frag):R2:=fun x y H Q=>∃p xs i v,x= .ref p/\y= .int i/\SqT K H p xs/\atI xs i=some v/\Q v H
def rIxS:R2:=fun x y H Q=>∃z i c,x= .str z/\y= .int i/\z.length<=sizeLine/\atI z.cps.toList i=some c/\Q (.str ⟨#[c]⟩) H
theorem zA5:IxR X (rIxL X.K):=by
 intro value slice pins s σ H x y v u Q I rx ry h hs;obtain ⟨p,xs,i,z,rfl,rfl,hq,he,q⟩:=h
 cases rx
 obtain ⟨t,rfl⟩:=ry;obtain ⟨its,r,pl,hz⟩:=I.list hq;obtain ⟨j,h1,h2,h3,h4,h5⟩:=atI_get he;obtain ⟨w,ew,rw'⟩:=r.get h2;have hl:=r.length;have hn:=zHb;have fin:EP X pins σ Q w s:=⟨z,H,I,rw',q⟩
 by_cases h0:0<=i
 ·have hj:i.toNat=j:=by
   rw [seqIndex_of h0 h5] at h1;exact qAh h1
  exact item_listR pl.isList h0 (by lia) (by rw [hj];simpa using ew) fin hs
 ·have hj:(i+(its.toArray.size:Int)).toNat=j:=by
   rw [seqIndex_neg (by lia) h4] at h1;rw [qAJ,<-hl];exact qAh h1
  exact subscriptTail_builtinR (x:=w) pl.isList.typeIs slot_list_getitem.lookup
   (wpAny_getItem_list_neg (Q:=fun r s'=>r=w/\EP X pins σ Q r s') pl.isList (by lia) (by rw [qAJ]<;>lia) (by lia) (by rw [hj];simpa using ew) ⟨rfl,fin⟩) hs
theorem ix_tup:IxR X (rIxT X.K):=by
 intro value slice pins s σ H x y v u Q I rx ry h hs;obtain ⟨p,xs,i,z,rfl,rfl,hq,he,q⟩:=h
 cases rx
 obtain ⟨t,rfl⟩:=ry;obtain ⟨its,r,pl,hz⟩:=I.tuple hq;obtain ⟨j,h1,h2,h3,h4,h5⟩:=atI_get he;obtain ⟨w,ew,rw'⟩:=r.get h2;have hl:=r.length;have hn:=zHb;have fin:EP X pins σ Q w s:=⟨z,H,I,rw',q⟩
 exact subscriptTail_builtinR (x:=w) pl.typeIs slot_tuple_getitem.lookup
  (getItem_tuple (j:=j) (Q:=fun r s'=>r=w/\EP X pins σ Q r s') pl (by lia) (by lia) (by rw [qAJ,<-hl];exact h1) (by simpa using ew) ⟨rfl,fin⟩) hs
theorem ix_str:IxR X rIxS:=by
 intro value slice pins s σ H x y v u Q I rx ry h hs;obtain ⟨z,i,c,rfl,rfl,hz,he,q⟩:=h;obtain ⟨t,rfl⟩:=rx;obtain ⟨t',rfl⟩:=ry;obtain ⟨j,h1,h2,h3,h4,h5⟩:=atI_get he;have hl:z.cps.toList.length=z.length:=by simp [Str.length]
 rw [hl] at h1 h4 h5;have hn:=zHb
 exact tail_any (typeIs_str s z t) slot_str_getitem.lookup (getItem_str (c:=c) (by
  have e1:decide (i< -(2^63:Int))=false:=qAb (by lia);have e2:decide (i>=2^63)=false:=qAb (by lia);rw [e1,e2,Bool.or_false]) (by rw [h1];simpa using h2) ⟨.str ⟨#[c]⟩,H,I.tok _,⟨_,rfl⟩,q⟩) hs
theorem mapSeq_set (its:List Value) (n j:Nat) (u:Value):Obj.mapSeq (·.setIfInBounds j u) {cls:=.type "list",data:=.seq its.toArray n}={cls:=.type "list",data:=.seq (its.set j u).toArray n}:=by
 simp [Obj.mapSeq]
theorem Inv.lst {pins:List (Addr×Obj)} {σ:St} {H:Hp} {s:Shared} {p:Addr} {xs:List V} (I:Inv X pins σ H s) (h:H p=some (.lst xs)) :
  ∃(its:List Value) (n:Nat),Vals xs its/\s.heap.get? p=some {cls:=.type "list",data:=.seq its.toArray n}/\xs.length<=sizeLine:=by
 obtain ⟨z,its,n,r,e⟩:=I.hok p _ h;exact ⟨its,n,r,e,z⟩
theorem Inv.lstUpd {pins:List (Addr×Obj)} {σ:St} {H:Hp} {s:Shared} {p:Addr} {xs ys:List V} {its its':List Value} {n':Nat} {f:Obj->Obj} (I:Inv X pins σ H s) (h:H p=some (.lst xs))
  (ho:s.heap.get? p=some {cls:=.type "list",data:=.seq its.toArray n}) (hf:f {cls:=.type "list",data:=.seq its.toArray n}={cls:=.type "list",data:=.seq its'.toArray n'}) (r:Vals ys its') (hz:ys.length<=sizeLine) (t:Nat) :
  Inv X pins σ (upd H p (.lst ys)) {s with heap:=s.heap.update p f,toks:=t}:=by
 have e:(s.heap.update p f).get? p=some {cls:=.type "list",data:=.seq its'.toArray n'}:=by
  rw [qBL f ho (by rw [hf]<;>rfl),hf]
 refine I.write (x:=p) (e:=p) (by rw [h];trivial) (.inl rfl) (fun b u hb q=>(qBn _ _ (qAr hb)).trans q) ⟨_,e⟩ ?_;exact ⟨hz,its',n',r,e⟩
def rSetL:V->V->V->Hp->(Hp->Prop)->Prop:=fun o i v H Q=>∃p xs k j,o= .ref p/\i= .int k/\H p=some (.lst xs)/\ixN xs.length k=some j/\Q (upd H p (.lst (xs.set j v)))
theorem set_list:PSet X rSetL:=by
 intro pins s σ H o i v ov iv u Q I ro ri rv h;obtain ⟨p,xs,k,j,rfl,rfl,hp,hj,q⟩:=h
 cases ro
 obtain ⟨t,rfl⟩:=ri;obtain ⟨its,n,r,ho,hz⟩:=I.lst hp;obtain ⟨h1,h2,h3,h4⟩:=ixN_seq hj;have hl:=r.length;have hn:=zHb
 have I':Inv X pins σ (upd H p (.lst (xs.set j v))) {s with heap:=s.heap.update p (Obj.mapSeq (·.setIfInBounds j u))} :=
  I.lstUpd hp ho (mapSeq_set its n j u) (r.set rv j) (by rw [List.length_set];exact hz) s.toks
 by_cases h0:0<=k
 ·have hk:k.toNat=j:=by
   rw [seqIndex_of h0 h4] at h1;exact qAh h1
  exact PySem.W.ki_setAt ho h0 (by lia) (by rw [qAJ,<-hl];exact h4) (by rw [hk];exact ⟨_,I',q⟩)
 ·have hk:(k+(its.toArray.size:Int)).toNat=j:=by
   rw [seqIndex_neg (by lia) h3] at h1;rw [qAJ,<-hl];exact qAh h1
  exact PySem.W.ki_setBack ho (by lia) (by rw [qAJ,<-hl];exact h3) (by lia) (by rw [hk];exact ⟨_,I',q⟩)
theorem slice_bounds (lo hi:Option Int) (n:Nat):(sliceBounds lo hi none n).1=((HT.sIx n 0 lo:Nat):Int)/\(sliceBounds lo hi none n).2.1=((HT.sIx n n hi:Nat):Int)/\(sliceBounds lo hi none n).2.2=1:=by
 refine ⟨?_,?_,rfl⟩
 ·cases lo with
  | none=>simp [sliceBounds,HT.sIx]
  | some i =>
   simp only [sliceBounds,HT.sIx,Option.getD_none,show (1:Int)>0 by decide,qBo]
   by_cases h:i<0
   ·simp only [h,qBo]<;>lia
   ·simp only [h,qCN]<;>lia
 ·cases hi with
  | none=>simp [sliceBounds,HT.sIx]
  | some i =>
   simp only [sliceBounds,HT.sIx,Option.getD_none,show (1:Int)>0 by decide,qBo]
   by_cases h:i<0
   ·simp only [h,qBo]<;>lia
   ·simp only [h,qCN]<;>lia
theorem zIl (its:List Value) (lo hi:Option Int):slicePick its.toArray lo hi none=((its.drop (HT.sIx its.length 0 lo)).take (HT.sIx its.length its.length hi - HT.sIx its.length 0 lo)).toArray:=by
 obtain ⟨h1,h2,h3⟩:=slice_bounds lo hi its.toArray.size;unfold slicePick;rw [h1,h2,h3];simp only [sliceRange_one,pick_run,qAJ]<;>rfl
def rSlL (K:PySem.W.Frag):V->Option Int->Option Int->Hp->VK->Prop:=fun x lo hi H Q=>∃a xs,x= .ref a/\SqL K H a xs/\∀p,H p=none->Q (.ref p) (upd H p (.lst (cutV xs lo hi)))
theorem zIm:SlR X (rSlL X.K):=by
 intro pins s σ H x v vl vu lo hi sl Q I rx hs pl pu h;obtain ⟨a,xs,rfl,hx,q⟩:=h
 cases rx
 obtain ⟨its,r,ht,hz⟩:=I.list hx;have hlen:=r.length;refine ⟨"list",_,slot_list_getitem.lookup,ht.isList.typeIs,?_⟩;refine wpAny_getItem_list_slice ht.isList hs pl pu .none (by simp) ?_ (by rw [qAJ]<;>lia);rw [zIl,<-hlen];refine ⟨.ref s.heap.objs.size,_,I.laid (t':=s.toks) (o:=.lst (cutV xs lo hi)) (fun b ob q=>qAI _ q) (qAF _) ?_,rfl,q _ (I.hok.fresh (qAF _))⟩;exact ⟨qAW (cutV_length xs lo hi) hz,_,0,(r.drop (HT.sIx xs.length 0 lo)).take (HT.sIx xs.length xs.length hi - HT.sIx xs.length 0 lo),qAc _ rfl⟩
def zEe:V->Bool
 | .non=>true
 | .bl _=>true
 | .int _=>true
 | .str _=>true
 | _=>false
def eqV:V->V->Bool
 | .non,.non=>true
 | .bl a,.bl b=>a==b
 | .bl a,.int b=>(if a then 1 else 0)==b
 | .int a,.bl b=>a==(if b then 1 else 0)
 | .int a,.int b=>a==b
 | .str a,.str b=>a==b
 | _,_=>false
theorem eqAt_V {A:Around} {s:Shared} {y:V} {u v:Value} (ry:RelV y u) (rx:RelV x v) (fy:zEe y=true) (fx:zEe x=true):SeqAt.EqAt A s u v (eqV y x):=by
 cases y with
 | non =>
  cases ry
  cases x with
  | non=>cases rx;exact qC6 _
  | bl b=>cases rx;exact SeqAt.EqAt.none_bool b
  | int b=>obtain ⟨t,rfl⟩:=rx;exact SeqAt.EqAt.none_int b t
  | str b=>obtain ⟨t,rfl⟩:=rx;exact SeqAt.EqAt.none_str b t
  | _=>exact absurd (show false=true from fx) qAl
 | bl a =>
  cases ry
  cases x with
  | non=>cases rx;exact SeqAt.EqAt.bool_none a
  | bl b=>cases rx;exact SeqAt.EqAt.bool_bool a b
  | int b=>obtain ⟨t,rfl⟩:=rx;exact SeqAt.EqAt.bool_int a b t
  | str b=>obtain ⟨t,rfl⟩:=rx;exact SeqAt.EqAt.bool_str a b t
  | _=>exact absurd (show false=true from fx) qAl
 | int a =>
  obtain ⟨t',rfl⟩:=ry
  cases x with
  | non=>cases rx;exact SeqAt.EqAt.int_none a t'
  | bl b=>cases rx;exact SeqAt.EqAt.int_bool a t' b
  | int b=>obtain ⟨t,rfl⟩:=rx;exact SeqAt.EqAt.int_int a t' b t
  | str b=>obtain ⟨t,rfl⟩:=rx;exact SeqAt.EqAt.int_str a t' b t
  | _=>exact absurd (show false=true from fx) qAl
 | str a =>
  obtain ⟨t',rfl⟩:=ry
  cases x with
  | non=>cases rx;exact SeqAt.EqAt.str_none a t'
  | bl b=>cases rx;exact SeqAt.EqAt.str_bool a t' b
  | int b=>obtain ⟨t,rfl⟩:=rx;exact SeqAt.EqAt.str_int a t' b t
  | str b=>obtain ⟨t,rfl⟩:=rx;exact SeqAt.EqAt.str_str a t' b t
  | _=>exact absurd (show false=true from fx) qAl
 | _=>exact absurd (show false=true from fy) qAl
def eqU (x:V) (u:Value):Bool:=match u with
 | .none=>eqV .non x
 | .bool b=>eqV (.bl b) x
 | .int i _=>eqV (.int i) x
 | .str z _=>eqV (.str z) x
 | _=>false
theorem eqU_of {y:V} {u:Value} (r:RelV y u) (f:zEe y=true):eqU x u=eqV y x:=by
 cases y with
 | non=>cases r;rfl
 | bl b=>cases r;rfl
 | int i=>obtain ⟨t,rfl⟩:=r;rfl
 | str z=>obtain ⟨t,rfl⟩:=r;rfl
 | _=>exact absurd (show false=true from f) qAl
theorem zHm :∀{xs:List V} {us:List Value},Vals xs us->xs.all zEe=true->us.any (eqU x)=xs.any fun y=>eqV y x
 | _,_,.nil,_=>rfl
 | y::xs,u::us,.cons r t,f=>by
  rw [List.all_cons,qB6] at f;rw [qCO,qCO,eqU_of r f.1,zHm t f.2]
theorem zFl {A:Around} {s:Shared} {v:Value} (rx:RelV x v) (fx:zEe x=true):∀{xs:List V} {us:List Value},Vals xs us->xs.all zEe=true->∀u∈us,SeqAt.EqAt A s u v (eqU x u)
 | _,_,.nil,_=>fun u hu=>by cases hu
 | y::xs,u::us,.cons r t,f=>fun u' hu=>by
  rw [List.all_cons,qB6] at f;rcases qAO.mp hu with rfl| hu
  ·rw [eqU_of r f.1];exact eqAt_V r rx f.1 fx
  ·exact zFl rx fx t f.2 u' hu
def inV (x:V) (xs:List V):Bool:=xs.any fun y=>eqV y x
def rIn (K:PySem.W.Frag) (neg:Bool):R2:=fun x y H Q=>∃p xs,y= .ref p/\(SqL K H p xs\/SqT K H p xs)/\zEe x=true/\xs.all zEe=true/\Q (.bl (if neg then !inV x xs else inV x xs)) H
theorem zFk:OpR X (compareOp .In) (rIn X.K false):=by
 intro pins s σ H x y v u Q I rx ry h;obtain ⟨p,xs,rfl,hq,fx,fs,q⟩:=h
 cases ry
 rcases hq with hq| hq
 ·obtain ⟨its,r,pl,hz⟩:=I.list hq;refine SeqAt.in_listAt (eqU x) pl.isList (fun w hw=>zFl rx fx r fs w (by simpa using hw)) ⟨.bl _,H,I,rfl,?_⟩;rw [show its.toArray.any (eqU x)=its.any (eqU x) by simp,zHm r fs];exact q
 ·obtain ⟨its,r,pl,hz⟩:=I.tuple hq;refine SeqAt.in_tupleAt (eqU x) pl (fun w hw=>zFl rx fx r fs w (by simpa using hw)) ⟨.bl _,H,I,rfl,?_⟩;rw [show its.toArray.any (eqU x)=its.any (eqU x) by simp,zHm r fs];exact q
theorem zD6:OpR X (compareOp .NotIn) (rIn X.K true):=by
 intro pins s σ H x y v u Q I rx ry h;obtain ⟨p,xs,rfl,hq,fx,fs,q⟩:=h
 cases ry
 rcases hq with hq| hq
 ·obtain ⟨its,r,pl,hz⟩:=I.list hq;refine SeqAt.notIn_listAt (eqU x) pl.isList (fun w hw=>zFl rx fx r fs w (by simpa using hw)) ⟨.bl _,H,I,rfl,?_⟩;rw [show its.toArray.any (eqU x)=its.any (eqU x) by simp,zHm r fs];exact q
 ·obtain ⟨its,r,pl,hz⟩:=I.tuple hq;refine SeqAt.notIn_tupleAt (eqU x) pl (fun w hw=>zFl rx fx r fs w (by simpa using hw)) ⟨.bl _,H,I,rfl,?_⟩;rw [show its.toArray.any (eqU x)=its.any (eqU x) by simp,zHm r fs];exact q
theorem zAl:zC7 X (.builtin "len") (fun xs H Q=>∃p ys,xs=[.ref p]/\(SqL X.K H p ys\/SqT X.K H p ys)/\Q (.int ys.length) H):=by
 intro pins s σ H xs us Q I r h;obtain ⟨p,ys,rfl,hq,q⟩:=h;obtain ⟨u,rfl,rx⟩:=zIe r
 cases rx
 have hn:=zHb;rcases hq with hq| hq
 ·obtain ⟨its,r',pl,hz⟩:=I.list hq;have hlen:=r'.length;exact Calls.call_len_list pl.isList (by simp only [qAJ]<;>lia) ⟨.int ys.length,H,I.tok _,⟨s.toks+1,by rw [qAJ,hlen]⟩,q⟩
 ·obtain ⟨its,r',pl,hz⟩:=I.tuple hq;have hlen:=r'.length;exact len_tuple pl (by simp only [qAJ]<;>lia) ⟨.int ys.length,H,I.tok _,⟨s.toks+1,by rw [qAJ,hlen]⟩,q⟩
theorem call_len_str:zC7 X (.builtin "len") (fun xs H Q=>∃z,xs=[.str z]/\z.length<=sizeLine/\Q (.int z.length) H):=by
 intro pins s σ H xs us Q I r h;obtain ⟨z,rfl,hz,q⟩:=h;obtain ⟨u,rfl,t,rfl⟩:=zIe r;have hn:=zHb;exact len_str (by lia) ⟨.int z.length,H,I.tok _,⟨_,rfl⟩,q⟩
theorem zBt:zC7 X (.type "list") (fun xs H Q=>∃p ys,xs=[.ref p]/\(SqL X.K H p ys\/SqT X.K H p ys)/\∀l,H l=none->Q (.ref l) (upd H l (.lst ys))):=by
 intro pins s σ H xs us Q I r h;obtain ⟨p,ys,rfl,hq,q⟩:=h;obtain ⟨u,rfl,rx⟩:=zIe r
 cases rx
 have fin:∀(its:List Value),Vals ys its->ys.length<=sizeLine->∀(h':Heap) (c':Nat),(∀b o',s.heap.get? b=some o'->h'.get? b=some o') ->
   h'.get? s.heap.objs.size=some {cls:=.type "list",dict:=none,data:=.seq its.toArray c',slots:=#[]}->EP X pins σ Q (.ref s.heap.objs.size) {s with heap:=h'}:=fun its r' hz h' c' kp e =>
  ⟨.ref s.heap.objs.size,_,I.laid (t':=s.toks) kp (qAF _) (show zAx X.prog X.w _ h' _ (.lst ys) from ⟨hz,its,c',r',e⟩),rfl,q _ (I.hok.fresh (qAF _))⟩
 rcases hq with hq| hq
 ·obtain ⟨its,r',pl,hz⟩:=I.list hq;have hlen:=r'.length;obtain ⟨o,ho,hc,n,hd⟩:=pl.isList;exact call_list_seq p (.inl rfl) ho hc hd (fun h' c' kp e=>fin its r' hz h' c' kp e) (by simp only [qAJ]<;>lia)
 ·obtain ⟨its,r',pl,hz⟩:=I.tuple hq;have hlen:=r'.length;obtain ⟨o,ho,hc,n,hd⟩:=pl;exact call_list_seq p (.inr rfl) ho hc hd (fun h' c' kp e=>fin its r' hz h' c' kp e) (by simp only [qAJ]<;>lia)
def tyV (K:PySem.W.Frag) (T:String) (x:V) (H:Hp):Prop:=match x with
 | .str _=>T= "str"
 | .int _=>T= "int"
 | .ref p=>(T= "list" /\∃xs,SqL K H p xs)\/(T= "tuple" /\∃o,K.lookup p=some o/\o.cls= .type "tuple" /\o.dict=none) \/
   (T= "dict" /\((∃kvs,H p=some (.dK kvs))\/∃kvs,H p=some (.dT kvs)))\/(T= "set" /\∃S n,H p=some (.set S n))
 | _=>False
theorem tyV_is {pins:List (Addr×Obj)} {σ:St} {H:Hp} {s:Shared} {T:String} {v:Value} (I:Inv X pins σ H s) (r:RelV x v) (ty:tyV X.K T x H) :
  s.TypeIs v T/\∀a,v= .ref a->∃ob,s.heap.get? a=some ob/\ob.dict=none:=by
 cases x with
 | str z =>
  obtain ⟨t,rfl⟩:=r
  cases (show T= "str" from ty)
  exact ⟨typeIs_str s z t,fun _ e=>nomatch e⟩
 | int i =>
  obtain ⟨t,rfl⟩:=r
  cases (show T= "int" from ty)
  exact ⟨typeIs_int s i t,fun _ e=>nomatch e⟩
 | ref p =>
  cases r
  rcases ty with ⟨rfl,xs,hq⟩| ⟨rfl,o,hk,hc,hd⟩| ⟨rfl,hk⟩| ⟨rfl,S,n,hk⟩
  ·obtain ⟨its,_,pl,_⟩:=I.list hq;refine ⟨pl.isList.typeIs,fun a e=>?_⟩
   cases e
   obtain ⟨o,n,e,c,hd,_⟩:=pl;exact ⟨o,e,hd⟩
  ·refine ⟨⟨o,I.kIn p o hk,hc⟩,fun a e=>?_⟩
   cases e
   exact ⟨o,I.kIn _ o hk,hd⟩
  ·have z:∃o,s.heap.get? p=some o/\o.ExactDict:=by
    rcases hk with ⟨kvs,hk⟩| ⟨kvs,hk⟩
    ·obtain ⟨_,_,_,_,o,_,_,e,ex,_⟩:=I.hok p _ hk;exact ⟨o,e,ex⟩
    ·obtain ⟨_,_,_,_,o,_,_,e,ex,_⟩:=I.hok p _ hk;exact ⟨o,e,ex⟩
   obtain ⟨o,e,ex⟩:=z;refine ⟨⟨o,e,ex.1⟩,fun a e2=>?_⟩
   cases e2
   exact ⟨o,e,ex.2.1⟩
  ·obtain ⟨o,_,_,_,e,ex,_⟩:=I.hok p _ hk;refine ⟨⟨o,e,ex.1⟩,fun a e2=>?_⟩
   cases e2
   exact ⟨o,e,ex.2.1⟩
 | _=>exact False.elim ty
def tBM0 (K:PySem.W.Frag) (T:String) (r:V->List V->Hp->VK->Prop) (to:TE):TE:=fun σ H Q=>to σ H fun x H1=>tyV K T x H1/\r x [] H1 Q
def tBM (K:PySem.W.Frag) (T:String) (r:V->List V->Hp->VK->Prop) (to:TE) (t:TA):TE:=fun σ H Q=>to σ H fun x H1=>tyV K T x H1/\t σ H1 fun xs H2=>r x xs H2 Q
variable {o e:Expr} {es:List Expr} {to:TE} {t:TA} {name:Str} {apos cpos:Pos} {T id:String} {r:V->List V->Hp->VK->Prop}
theorem pe_bm0 (pa:PlainAttrs T) (slot:Slot T name id) (hty:typeOf (.builtin id)=pure (.type "method_descriptor")) (hm:MtR X id r) (ho:PE X o to)
  (hbase:attributeBase o name X.env (eval o X.env)=eval o X.env:=by rfl) (hline:(apos.endLine==cpos.line)=true:=by rfl):PE X (.Call (.Attribute o name apos) [] [] cpos) (tBM0 X.K T r to):=by
 intro pins s σ H Q I h;refine wpAny_Call_method0_late hbase hline (thn (ho pins s σ H _ I h) fun v s1 ⟨x,H1,I1,r1,ty,q1⟩=>?_);obtain ⟨h1,h2⟩:=tyV_is I1 r1 ty;exact ⟨T,id,pa,slot,hty,h1,h2,Calls.callWith_builtin rfl (PySem.evalArgs_none (hm pins s1 σ H1 x [] v [] Q I1 r1 .nil q1))⟩
theorem zDm (pa:PlainAttrs T) (slot:Slot T name id) (hty:typeOf (.builtin id)=pure (.type "method_descriptor")) (hm:MtR X id r) (ho:PE X o to) (ha:PA X (e::es) t)
  (hbase:attributeBase o name X.env (eval o X.env)=eval o X.env:=by rfl)
  (hfew:((backTo cpos (starEach (e::es) X.env)).all (fun x=>!x.1)&&(backToKw cpos (keywordEach [] X.env)).all (fun x=>x.1.isSome)
   &&decide ((e::es).length+([]:List Keyword).length+(if ([]:List Keyword).isEmpty then 0 else 1)<30))=true:=by rfl)
  (hline:(apos.endLine==cpos.line)=true:=by rfl) (hs:starEach (e::es) X.env=(false,eval e X.env)::starEach es X.env:=by rfl) (hplain:(backTo cpos (starEach es X.env)).any (·.1)=false:=by rfl) :
  PE X (.Call (.Attribute o name apos) (e::es) [] cpos) (tBM X.K T r to t):=by
 intro pins s σ H Q I h;refine wpAny_Call_method_late hbase hfew hline rfl (thn (ho pins s σ H _ I h) fun v s1 ⟨x,H1,I1,r1,ty,q1⟩=>?_);obtain ⟨h1,h2⟩:=tyV_is I1 r1 ty;refine ⟨T,id,pa,slot,hty,h1,h2,?_⟩;have hA:=ha cpos pins s1 σ H1 _ I1 q1;rw [hs] at hA ⊢;refine Calls.callWith_builtin (by show (false||(backTo cpos (starEach es X.env)).any (·.1))=false;rw [hplain]<;>rfl) (Calls.evalArgs_plain ?_);exact thn hA fun us s2 ⟨vs,H2,I2,r2,q2⟩=>hm pins s2 σ H2 x vs v us Q I2 r1 r2 q2
end
def MtM (X:Cx) (id:String) (r:V->List V->Hp->VK->Prop):Prop :=
 ∀(pins:List (Addr×Obj)) (s:Shared) (σ:St) (H:Hp) (x:V) (xs:List V) (v:Value) (us:List Value) (Q:VK),Inv X pins σ H s->RelV x v->Vals xs us->r x xs H Q ->
  wpAny (model X.prog X.w) X.A (call (.builtin id) (v::us)) (EP X pins σ Q) X.xe s
theorem Vals.one:∀{x:V} {us:List Value},Vals [x] us->∃u,us=[u]/\RelV x u
 | _,_,.cons r .nil=>⟨_,rfl,r⟩
theorem Vals.two:∀{x y:V} {us:List Value},Vals [x,y] us->∃u v,us=[u,v]/\RelV x u/\RelV y v
 | _,_,_,.cons r (.cons q .nil)=>⟨_,_,rfl,r,q⟩
theorem Vals.zero:∀{us:List Value},Vals [] us->us=[]
 | _,.nil=>rfl
theorem Vals.dropLast {xs:List V} {us:List Value} (h:Vals xs us):Vals xs.dropLast us.dropLast:=by
 induction h with
 | nil=>exact .nil
 | cons r t ih =>
  cases t with
  | nil=>exact .nil
  | cons q t'=>exact .cons r ih
theorem Vals.eraseIdx:∀{xs:List V} {us:List Value} (i:Nat),Vals xs us->Vals (xs.eraseIdx i) (us.eraseIdx i)
 | _,_,_,.nil=>.nil
 | _,_,0,.cons _ t=>t
 | _,_,i+1,.cons r t=>.cons r (Vals.eraseIdx i t)
theorem Vals.rep {xs:List V} {us:List Value} (h:Vals xs us):∀k:Nat,Vals (List.replicate k xs).flatten (List.replicate k us).flatten
 | 0=>.nil
 | k+1=>by
  rw [qCg,qCg,qBZ,qBZ];exact Vals.append h (Vals.rep h k)
theorem erase_last (l:List α):l.eraseIdx (l.length - 1)=l.dropLast:=by
 induction l with
 | nil=>rfl
 | cons a r ih =>
  cases r with
  | nil=>rfl
  | cons b r =>
   have e:(a::b::r).length - 1=((b::r).length - 1)+1:=by
    have h1:(a::b::r).length=r.length+2:=rfl;have h2:(b::r).length=r.length+1:=rfl;lia
   rw [e,List.eraseIdx_cons_succ,ih]
   all_goals rfl
theorem len_erase :∀(l:List α) (i:Nat),(l.eraseIdx i).length<=l.length
 | [],_=>qAF _
 | _::_,0=>qBK _
 | _::r,i+1=>Nat.succ_le_succ (len_erase r i)
theorem foldl_rep (its:List Value):∀(k:Nat) (acc:List Value),
  List.foldl (fun x1 x2=>x1++x2) acc.toArray (List.replicate k its.toArray)=(acc++(List.replicate k its).flatten).toArray
 | 0,acc=>by simp
 | k+1,acc=>by
  have e:acc.toArray++its.toArray=(acc++its).toArray:=by simp
  have e2:(acc++its)++(List.replicate k its).flatten=acc++(List.replicate (k+1) its).flatten:=by
   rw [qCg,qBZ,qBM]
  rw [<-e2,<-foldl_rep its k (acc++its),<-e,qCg,qBa]
section
variable {X:Cx} {pins:List (Addr×Obj)} {σ:St} {H:Hp} {s:Shared} {l b:Addr} {xs ys zs:List V}
theorem Inv.lset {its its':List Value} {f:Array Value->Array Value} {t':Nat} (I:Inv X pins σ H s) (hH:H l=some (.lst xs))
  (e:s.heap.get? l=some {cls:=.type "list",data:=.seq its.toArray n}) (hf:f its.toArray=its'.toArray) (hv:Vals ys its') (hz:ys.length<=sizeLine) :
  Inv X pins σ (upd H l (.lst ys)) {s with heap:=s.heap.update l (Obj.mapSeq f),toks:=t'}:=by
 have q:=PySem.IsL.update e f;rw [hf] at q;refine I.write (x:=l) (e:=l) (by rw [hH];exact trivial) (.inl rfl) (fun b' u hb hu=>(qBn s.heap (Obj.mapSeq f) (qAr hb)).trans hu) ⟨_,q⟩ ?_;exact ⟨hz,its',_,hv,q⟩
theorem Inv.lnew {its:List Value} {t':Nat} (I:Inv X pins σ H s) (hv:Vals ys its) (hz:ys.length<=sizeLine) :
  Inv X pins σ (upd H s.heap.objs.size (.lst ys)) {s with heap:=s.heap.push {cls:=.type "list",data:=.seq its.toArray},toks:=t'} :=
 I.laid (fun _ _ q=>qAI _ q) (qAF _) ⟨hz,its,0,hv,qAc _ rfl⟩
theorem Inv.fresh (I:Inv X pins σ H s):H s.heap.objs.size=none:=I.hok.fresh (qAF _)
theorem Inv.lstM (I:Inv X pins σ H s) (hH:H l=some (.lst xs)):xs.length<=sizeLine/\∃(its:List Value) (n:Nat),Vals xs its/\xs.length=its.length/\s.heap.get? l=some {cls:=.type "list",data:=.seq its.toArray n}:=by
 obtain ⟨z,its,n,r,e⟩:=I.hok l _ hH;exact ⟨z,its,n,r,r.length,e⟩
theorem notLongL (h:n<=sizeLine):Builtin.List.listTooLong n=false:=by
 unfold Builtin.List.listTooLong;exact qAb (by lia)
end
section
variable {X:Cx}
def rAppend:V->List V->Hp->VK->Prop:=fun x vs H Q=>∃l xs y,x= .ref l/\vs=[y]/\H l=some (.lst xs)/\xs.length<sizeLine/\Q .non (upd H l (.lst (xs++[y])))
theorem zBl:MtM X "list.append" rAppend:=by
 intro pins s σ H x vs v us Q I rx rv h;obtain ⟨l,xs,y,rfl,rfl,hH,hz,q⟩:=h
 cases rx
 obtain ⟨u,rfl,ru⟩:=rv.one;obtain ⟨z,its,n,r,hl,e⟩:=I.lstM hH;refine qBb F.slot_list_append ⟨_,e,rfl⟩ F.entry_list_append (F.args_list_append_2 _ _) (PySem.list_append l its.toArray n u (by rw [qAJ];lia)) ⟨e,?_⟩;refine ⟨.non,_,I.lset (its':=its++[u]) hH e (by simp) (r.append (.cons ru .nil)) ?_,rfl,q⟩;rw [qAf,qBN];lia
def rExtend:V->List V->Hp->VK->Prop:=fun x vs H Q=>∃l b xs zs,x= .ref l/\vs=[.ref b]/\H l=some (.lst xs)/\H b=some (.lst zs)/\xs.length+zs.length<=sizeLine/\Q .non (upd H l (.lst (xs++zs)))
theorem zG7:MtM X "list.extend" rExtend:=by
 intro pins s σ H x vs v us Q I rx rv h;obtain ⟨l,b,xs,zs,rfl,rfl,hH,hB,hz,q⟩:=h
 cases rx
 obtain ⟨u,rfl,ru⟩:=rv.one
 cases ru
 obtain ⟨z,its,n,r,hl,e⟩:=I.lstM hH;obtain ⟨z2,its2,n2,r2,hl2,e2⟩:=I.lstM hB;have hsz:its.toArray.size+its2.toArray.size<=sizeLine:=by rw [qAJ,qAJ];lia
 have hlong:¬(!its.toArray.isEmpty&&Builtin.List.listTooLong (its.toArray.size+its2.toArray.size))=true:=by
  rw [notLongL hsz,Bool.and_false];exact qAl
 refine qBb F.slot_list_extend ⟨_,e,rfl⟩ F.entry_list_extend (F.args_list_extend_2 _ _)
  (AutoSeq1.list_extend_list_list_0 l its.toArray n b its2.toArray n2 hlong (by rw [qAJ];lia) (by lia)) ⟨e,e2,?_⟩
 refine ⟨.non,_,I.lset (its':=its++its2) hH e (by simp) (r.append r2) ?_,rfl,q⟩;rw [qAf];lia
def rPop:V->List V->Hp->VK->Prop:=fun x vs H Q=>∃l xs y,x= .ref l/\vs=[]/\H l=some (.lst xs)/\xs[xs.length - 1]?=some y/\Q y (upd H l (.lst xs.dropLast))
theorem mt_pop:MtM X "list.pop" rPop:=by
 intro pins s σ H x vs v us Q I rx rv h;obtain ⟨l,xs,y,rfl,rfl,hH,hy,q⟩:=h
 cases rx
 have hus:=rv.zero;subst hus;obtain ⟨z,its,n,r,hl,e⟩:=I.lstM hH;obtain ⟨u,hu,ru⟩:=r.get hy
 have hy':its.toArray[its.toArray.size - 1]?=some u:=by
  show its.toArray[its.length - 1]?=some u;rw [<-qAm,<-hl];exact hu
 refine qBb F.slot_list_pop ⟨_,e,rfl⟩ F.entry_list_pop (F.args_list_pop_1 _) (MeetsSeq.list_pop_last l its.toArray n u hy' (by rw [qAJ];lia)) ⟨e,?_⟩;refine ⟨y,_,I.lset (its':=its.dropLast) hH e ?_ r.dropLast ?_,ru,q⟩
 ·show its.toArray.eraseIdxIfInBounds (its.toArray.size - 1)=its.dropLast.toArray;rw [qAJ,qDW,erase_last]
 ·rw [List.length_dropLast];lia
def rPopAt:V->List V->Hp->VK->Prop:=fun x vs H Q=>∃l xs i k y,x= .ref l/\vs=[.int i]/\H l=some (.lst xs)/\-(2^63)<=i/\i<2^63/\seqIndex? i xs.length=some k/\xs[k]?=some y/\Q y (upd H l (.lst (xs.eraseIdx k)))
theorem mt_popAt:MtM X "list.pop" rPopAt:=by
 intro pins s σ H x vs v us Q I rx rv h;obtain ⟨l,xs,i,k,y,rfl,rfl,hH,h1,h2,hk,hy,q⟩:=h
 cases rx
 obtain ⟨u,rfl,ru⟩:=rv.one;obtain ⟨t,rfl⟩:=ru;obtain ⟨z,its,n,r,hl,e⟩:=I.lstM hH;obtain ⟨w,hw,rw'⟩:=r.get hy
 refine qBb F.slot_list_pop ⟨_,e,rfl⟩ F.entry_list_pop (F.args_list_pop_2 _ _)
  (MeetsSeq.list_pop_at l its.toArray n i t k w (fitsIndex_both h1 h2) (by rw [qAJ,<-hl];exact hk) (by rw [<-qAm];exact hw) (by rw [qAJ];lia)) ⟨e,?_⟩
 refine ⟨y,_,I.lset (its':=its.eraseIdx k) hH e ?_ (r.eraseIdx k) ?_,rw',q⟩
 ·show its.toArray.eraseIdxIfInBounds k=(its.eraseIdx k).toArray;rw [qDW]
 ·have:=len_erase xs k;lia
def rCat:R2:=fun x y H Q=>∃l b xs zs,x= .ref l/\y= .ref b/\H l=some (.lst xs)/\H b=some (.lst zs)/\xs.length+zs.length<=sizeLine/\∀p,H p=none->Q (.ref p) (upd H p (.lst (xs++zs)))
theorem op_cat:OpR X (binaryOp .Add) rCat:=by
 intro pins s σ H x y v u Q I rx ry h;obtain ⟨l,b,xs,zs,rfl,rfl,hH,hB,hz,q⟩:=h
 cases rx
 cases ry
 obtain ⟨z,its,n,r,hl,e⟩:=I.lstM hH;obtain ⟨z2,its2,n2,r2,hl2,e2⟩:=I.lstM hB;refine PySem.P.add_list e e2 ?_ (by rw [qAJ,qAJ];lia);have ea:its.toArray++its2.toArray=(its++its2).toArray:=by simp
 rw [ea];exact ⟨.ref _,_,I.lnew (t':=s.toks) (r.append r2) (by rw [qAf];lia),rfl,q _ I.fresh⟩
def rRep:R2:=fun x y H Q=>∃l k xs,x= .ref l/\y= .int k/\H l=some (.lst xs)/\-(2^63)<=k/\k<2^63/\xs.length*k.toNat<=sizeLine /\
 ∀p,H p=none->Q (.ref p) (upd H p (.lst (List.replicate k.toNat xs).flatten))
theorem len_rep (xs:List α) (k:Nat):(List.replicate k xs).flatten.length=k*xs.length:=by
 induction k with
 | zero=>simp
 | succ k ih=>rw [qCg,qBZ,qAf,ih,Nat.succ_mul,Nat.add_comm]
theorem op_rep:OpR X (binaryOp .Mult) rRep:=by
 intro pins s σ H x y v u Q I rx ry h;obtain ⟨l,k,xs,rfl,rfl,hH,h1,h2,hz,q⟩:=h
 cases rx
 obtain ⟨t,rfl⟩:=ry;obtain ⟨z,its,n,r,hl,e⟩:=I.lstM hH;have hlen:its.toArray.size*k.toNat<=sizeLine:=by rw [qAJ,<-hl];exact hz
 have hcap:¬its.toArray.size*k.toNat>(2^63 - 1) / 8:=by
  have:(sizeLine:Nat)<=(2^63 - 1) / 8:=by decide
  lia
 have hfit:¬(!Builtin.List.listFitsIndex k)=true:=by
  rw [fitsIndex_both h1 h2];exact qAl
 have hlong:¬Builtin.List.listTooLong (its.toArray.size*k.toNat)=true:=by
  rw [notLongL hlen];exact qAl
 have hnew:List.foldl (fun x1 x2=>x1++x2) #[] (List.replicate (if its.toArray.isEmpty=true then 0 else k.toNat) its.toArray)=(List.replicate k.toNat its).flatten.toArray:=by
  have f0:∀m:Nat,List.foldl (fun x1 x2=>x1++x2) #[] (List.replicate m its.toArray)=(List.replicate m its).flatten.toArray:=fun m=>by
   have:=foldl_rep its m [];rw [List.nil_append] at this;exact this
  rw [f0]
  cases its with
  | nil=>simp
  | cons a r'=>rw [qAB (by simp)]
 refine wpAny_binaryOp_repeat_ref (T:= "list") (U:= "int") (by decide) ⟨_,e,rfl⟩ (fun s'=>typeIs_int s' k t) noFill_list_mul F.fills_int_mul F.slot_int_rmul repeat_list F.slot_int_index.lookup
  (qBb F.slot_int_rmul (typeIs_int s k t) F.entry_int_rmul (F.args_int_rmul_2 _ _) (int___rmul___int_list k t l its.toArray n)
   ⟨e,rfl,⟨_,e,rfl⟩,qBb F.slot_list_mul ⟨_,e,rfl⟩ F.entry_list_mul (F.args_list_mul_2 _ _) (AutoListH.list___mul___list_int_3 l its.toArray n k t hfit hcap hlong) ⟨e,?_⟩⟩)
 rw [hnew];exact ⟨.ref _,_,I.lnew (t':=s.toks) (r.rep k.toNat) (by rw [len_rep,Nat.mul_comm];exact hz),rfl,q _ I.fresh⟩
end
section
variable {prog:Program} {w:World} {A:Around} {E:Value->Shared->Prop} {s:Shared}
set_option maxRecDepth 100000 in
end
end L2
namespace Att
open PySem PySem.W PySem.Calls PyProof.Rows
theorem zHk {P:Params} {h:Heap}:∀(ns:List Int) (vs:List Value),WellAll P h vs (ns.map WData.int)->IntsAre vs ns:=by
 intro ns
 induction ns with
 | nil =>
  intro vs w;rw [List.map_nil] at w
  cases w
  exact .nil
 | cons n ns ih =>
  intro vs w;rw [qAo] at w
  cases w with
  | cons a b =>
   cases a
   exact .cons _ _ (ih _ b)
theorem script_of {l:OpenLaw} {n:Nat} (hn:l.most=some n) {P:Params} {h:Heap} {args:List WData} {vals:List Value}
  (hpre:l.row.toRowW.claim.pre args=true) (hwl:WellAll P h vals args) :
  ∃a vs ns,vals=[Value.ref a]/\args=[WData.list (ns.map WData.int)]/\h.get? a=some {cls:=.type "list",data:=.seq vs.toArray}/\IntsAre vs ns/\ns.length<=n:=by
 have hsh:WShape.hasAll [] args [.list .int]=true:=(pre_splitW hpre).1;have hc:l.pre.holds [] {args:=args}=true:=(pre_splitW hpre).2;obtain ⟨d,r,rfl,h1,h2⟩:=hasAllW_cons hsh;obtain rfl:=hasAllW_nil h2;obtain ⟨xs,rfl,h3⟩:=hasW_list h1;obtain ⟨ns,rfl⟩:=items_int h3
 have hlen:ns.length<=n:=by
  unfold OpenLaw.pre at hc
  have h4:(WTm.not (.lt (.lit (.int (n:Int))) (.len (.arg 0)))).holds [] {args:=[.list (ns.map .int)]}=true:=by
   have h4:=(holds_andW hc).1;rw [hn] at h4;exact h4
  have h5:=condW_of h4 (w_not (w_lt w_lit (w_len_list (w_arg rfl))));rw [qAD] at h5;refine Nat.le_of_not_lt fun q=>?_;have q':(n:Int)<((ns.length:Nat):Int):=by lia
  first
   | (rw [qAR q'] at h5;exact absurd h5 (by decide))
   | (simp at h5;lia)
 cases hwl with
 | cons w1 w2 =>
  cases w2
  cases w1 with
  | list ho hall=>exact ⟨_,_,ns,rfl,rfl,ho,zHk ns _ hall,hlen⟩
theorem post_true (l:OpenLaw) (args:List WData):l.row.toRowW.claim.post args (.bool true) args=true :=
 postW_of (r:=l.row.toRowW) (X:=(true==true))
  (show WShape.has [] (.bool true) .bool=true by first| rfl| decide| simp [WShape.has,WShape.arms,WShape.armsAll])
  (show (WTm.eq .res (.lit (.bool true))).value [] {args:=args,res:=some (.bool true),after:=args}=some (.bool (true==true)) from w_eq_bool (w_res rfl) w_lit) rfl
theorem attach_call {l:OpenLaw} {n:Nat} {q:Program} {loose:List Str} {XP:(Str->Option Value)->Heap->Prop} {YP:World->Heap->Prop} {d:DefRec}
  (hn:l.most=some n) (hdf:d.params.defaults=[])
  (call:∀(w:World) (s₀ s₁:Shared) (mg mb:Str->Option Value) (fa:Addr) (o:Obj) (pm cd doc:Value) (a:Addr) (vs:List Value) (ns:List Int),
   Ground q loose [] XP w s₀ mg mb s₁.heap->YP w s₁.heap ->
   s₁.heap.get? fa=some o->o.data= .func (docDef d.name d.params d.body d.scope pm cd doc)->s₁.heap.CodeRec cd d.name->mg d.name=some (.ref fa) ->
   s₁.heap.get? a=some {cls:=.type "list",data:=.seq vs.toArray}->IntsAre vs ns->ns.length<=n->s₁.gens=#[] ->
   codeAny (model l.prog w) callerA (.call (.ref fa) ⟨[.ref a],[]⟩) (fun r s'=>r= .ok (.ret (.bool true))/\OldK s₁.heap s'.heap/\s'.os=s₁.os/\AllBare s'.gens) s₁) :
  WalkO q loose XP YP l.row.toRowW d [] (fun f vs=>PySem.call f vs):=by
 intro w s₀ s₁ mg mb G Y fa o pm cd doc dV kV ho hd hcd hD hmg hg args vals as hpre hlay hrd hwl hlo;obtain rfl:dV= .none:=Dflts.none hD hdf;obtain rfl:kV= .none:=Dflts.noKw hD;obtain ⟨a,vs,ns,rfl,rfl,hobj,hints,hlen⟩:=script_of hn hpre hwl;refine enter_call (qCL (call w s₀ s₁ mg mb fa o pm cd doc a vs ns G Y ho (fd_plain hd) hcd hmg hobj hints hlen hg) fun r s' hq=>?_);obtain ⟨rfl,h2,h3,h4⟩:=hq;exact ⟨.inl ⟨.bool true,.bool true,[],rfl,fun _=>rfl,.bool true,post_true l _,fun _=>⟨List.Pairwise.nil,fun _ hm=>(nomatch hm)⟩⟩,h2,h3,h4⟩
end Att
namespace L2
open PySem PySem.Spec PyProof.Rows
variable {x qual:Str}{u:Value}{y:V}{w:World}{H H':Hp}
theorem zGs:∀{vs:List Value} {ns:List Int},IntsAre vs ns->Vals (ns.map V.int) vs
 | _,_,.nil=>.nil
 | _,_,.cons n t h=>.cons ⟨t,rfl⟩ (zGs h)
def zFw (s:Stmt) (j:Nat):Stmt:=match s with
 | .ClassDef _ _ _ body _ _ _ _ _ _ _=>body.getD j (.Pass ⟨0,0,0,0⟩)
 | _=>.Pass ⟨0,0,0,0⟩
def zBe (s:Stmt):Arguments:=match s with
 | .FunctionDef _ a _ _ _ _ _ _ _ _=>a
 | _=>{posonlyargs:=[],args:=[],vararg:=none,kwonlyargs:=[],kw_defaults:=[],kwarg:=none,defaults:=[]}
def zA6 (s:Stmt):List Stmt:=match s with
 | .FunctionDef _ _ b _ _ _ _ _ _ _=>b
 | _=>[]
def zAd (s:Stmt):Scope:=match s with
 | .FunctionDef _ _ _ _ _ _ sc _ _ _=>sc
 | _=>{kind:=.function,names:=[],isGenerator:=false,isCoroutine:=false}
abbrev CX0:CXT:=fun _ _ _ _ _ _=>False
abbrev E0:XK:=fun _ _ _=>False
theorem pass0 {X:Cx}:zHo CX0 X E0:=fun _ _ _ _ _ _ _ h=>h.elim
structure Fun (K:PySem.W.Frag) (x qual:Str) (st:Stmt) (f:Addr) (fd:FuncData):Prop where
 ex:∃(oc:Value) (od:Option Addr) (kV doc pm:Value) (an:Option Addr) (cdv ct:Value) (osl:Array (Option Value)),
  fd=PySem.W.fnOf x qual (zBe st) (zA6 st) (zAd st) .none kV doc pm an cdv ct/\K.lookup f=some ⟨oc,od,.func fd,osl⟩/\PySem.W.codeIn K cdv qual=true
 kp:PySem.W.keepIn K (.ref f)=true
section
variable {P:Program} {w:World} {K:PySem.W.Frag} {mg:Str->Option Value} {base:Heap}
theorem Fun.ok {st:Stmt} {f:Addr} {fd:FuncData} {N ps:List Str} {k:Nat} {sp:Sp} (F:Fun K x qual st f fd) (S:FnScope N ps (zAd st)) (len:∀vs H Q E,sp vs H Q E->vs.length=ps.length)
  (hbody:∀(cdv:Value) (A:Around) (outer:List Env) (s:Shared) (H:Hp) (vs:List V) (Q:VK) (E:XK),Room k (A.deeper (envOfC qual (zAd st) s.heap.objs.size f cdv))->sp vs H Q E ->
   ∃t,PSs (cxOf CX0 P w K mg base N qual (zAd st) f cdv A outer s H E).nox (zA6 st) t/\t {nx:=fun _ H'=>Q .non H',rt:=Q} (start N vs) H):FnOk P w K mg base CX0 (k+1) f fd ps sp:=by
 obtain ⟨oc,od,kV,doc,pm,an,cdv,ct,osl,rfl,lk,hcd⟩:=F.ex;refine fn_of lk hcd S len fun A outer s H vs Q E hr hsp=>?_;obtain ⟨t,h,q⟩:=hbody cdv A outer s H vs Q E hr hsp;exact ⟨t,h.nox,q⟩
theorem Fun.binds {st:Stmt} {f:Addr} {fd:FuncData} {ps:List Str} (F:Fun K x qual st f fd)
  (h:∀(kV doc pm:Value) (an:Option Addr) (cdv ct:Value) (us:List Value),us.length=ps.length->bindArgs (PySem.W.fnOf x qual (zBe st) (zA6 st) (zAd st) .none kV doc pm an cdv ct) ⟨us,[]⟩=pure (ps.zip us)):zD0 K fd ps []:=by
 obtain ⟨oc,od,kV,doc,pm,an,cdv,ct,osl,rfl,lk,hcd⟩:=F.ex;exact .all (h kV doc pm an cdv ct)
theorem fun_mk {st:Stmt} {f:Addr} {oc:Value} {od an:Option Addr} {osl:Array (Option Value)} {kV doc pm cdv ct:Value} (l:K.lookup f=some ⟨oc,od,.func (PySem.W.fnOf x qual (zBe st) (zA6 st) (zAd st) .none kV doc pm an cdv ct),osl⟩)
  (c:PySem.W.codeIn K cdv qual=true) (k:PySem.W.keepIn K (.ref f)=true):Fun K x qual st f (PySem.W.fnOf x qual (zBe st) (zA6 st) (zAd st) .none kV doc pm an cdv ct):=⟨⟨oc,od,kV,doc,pm,an,cdv,ct,osl,rfl,l,c⟩,k⟩
end
theorem zDq {A:Around} {k:Nat} (hr:Room k A):A.units+1<cLine:=qC7 (Nat.add_le_add_left (by decide:1<=64) _) hr.units
section
variable {X:Cx}
theorem pv (i:Nat) {pos:Pos} (hN:X.N[i]?=some x:=by rfl) (hv:Vis X.env.scope x:=by first| exact Or.inl rfl| exact Or.inr (Or.inl rfl)| exact Or.inr (Or.inr rfl)) (hd:(x==("__debug__" : Str))=false:=by decide)
  (hcd:(x==("__classdict__" : Str))=false:=by decide):PE X (.Name x pos) (tVar i):=pe_var hN hv hd hcd
end
theorem iteF {A B:Prop} (h:B):if false=true then A else B:=by
 rw [qAB qAl];exact h
theorem iteT {A B:Prop} (h:A):if true=true then A else B:=by
 rw [qAC rfl];exact h
theorem ite2 {c A B:Prop} [Decidable c] (h1:c->A) (h2:¬c->B):if c then A else B:=by
 by_cases h:c
 ·rw [qAC h];exact h1 h
 ·rw [qAB h];exact h2 h
section
variable {κ:Type} [DecidableEq κ]
def valV (kvs:List (κ×V)) (k:κ):Option V:=(kvs.find? fun kv=>decide (kv.1=k)).map (·.2)
def putK (kvs:List (κ×V)) (k:κ) (v:V):List (κ×V) :=
 if (kvs.any fun kv=>decide (kv.1=k))=true then kvs.map (fun kv=>if kv.1=k then (kv.1,v) else kv) else kvs++[(k,v)]
theorem zGg {p:κ×V} {r:List (κ×V)} {k:κ} (e:p.1=k):valV (p::r) k=some p.2:=by simp [valV,qCP,e]
theorem zGh {p:κ×V} {r:List (κ×V)} {k:κ} (e:¬p.1=k):valV (p::r) k=valV r k:=by simp [valV,qCP,e]
theorem zGi (k:κ):∀kvs:List (κ×V),(kvs.any fun kv=>decide (kv.1=k))=(valV kvs k).isSome
 | []=>rfl
 | p::r=>by
  rw [qCO]
  by_cases e:p.1=k
  ·simp only [zGg e,qAR e,Bool.true_or,Option.isSome_some]
  ·rw [zGh e,qAb e,Bool.false_or];exact zGi k r
theorem zE3 (kvs:List (κ×V)) (k:κ) (v:V):(putK kvs k v).length<=kvs.length+1:=by
 unfold putK;split
 ·rw [qAD];lia
 ·rw [qAf,qAe,qBc];lia
theorem putK_new {kvs:List (κ×V)} {k:κ} (v:V) (h:valV kvs k=none):putK kvs k v=kvs++[(k,v)]:=by
 unfold putK;rw [zGi,h];exact qAB (by decide)
theorem RelO.isSome_eq {o:Option V} {u:Option Value} (r:RelO o u):o.isSome=u.isSome:=by
 cases o with
 | none=>cases u with
  | none=>rfl
  | some _=>exact (show False from r).elim
 | some _=>cases u with
  | none=>exact (show False from r).elim
  | some _=>rfl
theorem KV.val {kvs:List (κ×V)} {vs:List (κ×Value)} (r:KV kvs vs) (k:κ):RelO (valV kvs k) (valueAt vs k):=by
 unfold KV at r
 induction r with
 | nil=>exact True.intro
 | @cons p q ps qs h t ih =>
  obtain ⟨h1,h2⟩:=h
  by_cases e:p.1=k
  ·have e':q.1=k:=h1.symm.trans e;have b:valueAt (q::qs) k=some q.2:=by simp [valueAt,qCP,e']
   rw [zGg e,b];exact h2
  ·have e':¬q.1=k:=fun z=>e (h1.trans z);have b:valueAt (q::qs) k=valueAt qs k:=by simp [valueAt,qCP,e']
   rw [zGh e,b];exact ih
theorem KV.any {kvs:List (κ×V)} {vs:List (κ×Value)} (r:KV kvs vs) (k:κ):(kvs.any fun kv=>decide (kv.1=k))=vs.any fun kv=>decide (kv.1=k):=by
 unfold KV at r
 induction r with
 | nil=>rfl
 | cons h t ih=>rw [qCO,qCO,ih,h.1]
theorem KV.repl {kvs:List (κ×V)} {vs:List (κ×Value)} (r:KV kvs vs) (k:κ) (ry:RelV y u) :
  KV (kvs.map fun kv=>if kv.1=k then (kv.1,y) else kv) (vs.map fun kv=>if kv.1=k then (kv.1,u) else kv):=by
 unfold KV at r ⊢
 induction r with
 | nil=>exact .nil
 | @cons p q ps qs h t ih =>
  rw [qAo,qAo];refine .cons ?_ ih;obtain ⟨h1,h2⟩:=h
  by_cases e:p.1=k
  ·rw [qAC e,qAC (h1.symm.trans e)];exact ⟨h1,ry⟩
  ·rw [qAB e,qAB (fun z=>e (h1.trans z))];exact ⟨h1,h2⟩
theorem KV.put {kvs:List (κ×V)} {vs:List (κ×Value)} (r:KV kvs vs) (k:κ) (ry:RelV y u):KV (putK kvs k y) (stored vs k u):=by
 unfold putK stored;rw [r.any k]
 by_cases e:(vs.any fun kv=>decide (kv.1=k))=true
 ·rw [qAC e,qAC e];exact r.repl k ry
 ·rw [qAB e,qAB e];exact Paired.snoc r ⟨rfl,ry⟩
theorem KV.length {kvs:List (κ×V)} {vs:List (κ×Value)} (r:KV kvs vs):kvs.length=vs.length:=qCG r
end
theorem kV_is {P:Program} {k:Key} (r:RelV (kV k) u):(zBc P w).is k u=true:=by
 cases k with
 | inl i=>obtain ⟨t,e⟩:=(show∃t,u=Value.int i t from r);subst e;exact mixKind_int P w i t
 | inr x=>obtain ⟨t,e⟩:=(show∃t,u=Value.str x t from r);subst e;exact mixKind_str P w x t
theorem items_are {P:Program} :∀{ks:List Key} {us:List Value},Vals (ks.map kV) us->ItemsAre (zBc P w) ks us
 | [],_,r=>by rw [List.map_nil] at r;cases r;exact .nil
 | k::ks,_,r=>by
  rw [qAo] at r
  cases r with
  | cons h t=>exact .cons (kV_is h) (items_are t)
abbrev KT (H:Hp):List (List Key×V)->List (List Key×Addr×Value)->Prop:=Paired fun p q=>p.1=q.1/\H q.2.1=some (.tup (p.1.map kV))/\RelV p.2 q.2.2
theorem KT.val {kvs:List (List Key×V)} {xs:List (List Key×Addr×Value)} (r:KT H kvs xs) (k:List Key):RelO (valV kvs k) ((atKey xs k).map (·.2)):=by
 induction r with
 | nil=>exact True.intro
 | @cons p q ps qs h t ih =>
  obtain ⟨h1,_,h2⟩:=h
  by_cases e:p.1=k
  ·have e':q.1=k:=h1.symm.trans e;have b:atKey (q::qs) k=some q.2:=by simp [atKey,qCP,e']
   rw [zGg e,b];exact h2
  ·have e':¬q.1=k:=fun z=>e (h1.trans z);have b:atKey (q::qs) k=atKey qs k:=by simp [atKey,qCP,e']
   rw [zGh e,b];exact ih
theorem KT.repl {kvs:List (List Key×V)} {xs:List (List Key×Addr×Value)} (r:KT H kvs xs) (k:List Key) (ry:RelV y u) :
  KT H (kvs.map fun kv=>if kv.1=k then (kv.1,y) else kv) (xs.map (putAt k u)):=by
 induction r with
 | nil=>exact .nil
 | @cons p q ps qs h t ih =>
  rw [qAo,qAo];refine .cons ?_ ih;obtain ⟨h1,h2,h3⟩:=h;unfold putAt
  by_cases e:p.1=k
  ·rw [qAC e,qAC (h1.symm.trans e)];exact ⟨h1,h2,ry⟩
  ·rw [qAB e,qAB (fun z=>e (h1.trans z))];exact ⟨h1,h2,h3⟩
theorem KT.put {kvs:List (List Key×V)} {xs:List (List Key×Addr×Value)} (r:KT H kvs xs) (k:List Key) {b:Addr} (hb:H b=some (.tup (k.map kV))) (ry:RelV y u) :
  KT H (putK kvs k y) (storedH xs k b u):=by
 have e:(kvs.any fun kv=>decide (kv.1=k))=(atKey xs k).isSome:=by
  rw [zGi,(r.val k).isSome_eq,Option.isSome_map]
 unfold putK storedH;rw [e]
 by_cases q:(atKey xs k).isSome=true
 ·rw [qAC q,qAC q];exact r.repl k ry
 ·rw [qAB q,qAB q];exact Paired.snoc r ⟨rfl,hb,ry⟩
theorem KT.keeps {kvs:List (List Key×V)} {xs:List (List Key×Addr×Value)} (r:KT H kvs xs) (ht:∀b ys,H b=some (.tup ys)->H' b=some (.tup ys)):KT H' kvs xs :=
 Paired.mapP r fun _ _ z=>⟨z.1,ht _ _ z.2.1,z.2.2⟩
section
variable {P:Program} {w:World} {H:Hp} {h:Heap} {a:Addr}
theorem rd_of {u:HO} (ok:HOk P w H h) (e:Rd H a u):zAx P w H h a u:=e.ok ok
theorem dk_rd {kvs:List (Key×V)} (ok:HOk P w H h) (e:Rd H a (.dK kvs)):kvs.length<=sizeLine/\(a==sysModules)=false/\∃vs,KV kvs vs/\h.DictOf (zBc P w) a vs :=
 show zAx P w H h a (.dK kvs) from rd_of ok e
theorem dk_of {kvs:List (Key×V)} (ok:HOk P w H h) (e:H a=some (.dK kvs)):kvs.length<=sizeLine/\(a==sysModules)=false/\∃vs,KV kvs vs/\h.DictOf (zBc P w) a vs:=dk_rd ok (.inl e)
theorem key_of {ks:List Key} (ok:HOk P w H h) (e:H a=some (.tup (ks.map kV))):(tupleKind (zBc P w)).is h ks a:=by
 obtain ⟨_,its,r,o,h1,h2,n,h3⟩:=(show zAx P w H h a (.tup (ks.map kV)) from ok a _ e);exact ⟨o,its.toArray,n,h1,h2,h3,by simpa using items_are r⟩
theorem dt_rd {kvs:List (List Key×V)} (ok:HOk P w H h) (e:Rd H a (.dT kvs)):kvs.length<=sizeLine/\(a==sysModules)=false /\
  ∃xs,KT H kvs xs/\h.DictOfH (tupleKind (zBc P w)) a xs:=by
 obtain ⟨z,y,xs,r,o,es,ep,h1,h2,h3,h4,h5⟩:=(show zAx P w H h a (.dT kvs) from rd_of ok e);refine ⟨z,y,xs,r,o,es,ep,h1,h2,h3,h4,fun x hx=>?_,h5⟩
 have all:∀{l:List (List Key×V)} {m:List (List Key×Addr×Value)},KT H l m->∀x∈m,(tupleKind (zBc P w)).is h x.1 x.2.1:=by
  intro l m q
  induction q with
  | nil=>intro x hx;exact nomatch hx
  | @cons p q ps qs hq t ih =>
   intro x hx;rcases qAO.mp hx with e| hx
   ·subst e;exact key_of ok (by rw [<-hq.1];exact hq.2.1)
   ·exact ih x hx
 exact all r x hx
theorem dt_of {kvs:List (List Key×V)} (ok:HOk P w H h) (e:H a=some (.dT kvs)):kvs.length<=sizeLine/\(a==sysModules)=false /\
  ∃xs,KT H kvs xs/\h.DictOfH (tupleKind (zBc P w)) a xs:=dt_rd ok (.inl e)
end
def DGet (H:Hp) (a:Addr) (y:V) (r:Option V):Prop :=
 (∃kvs k,Rd H a (.dK kvs)/\y=kV k/\r=valV kvs k)\/∃kvs k b,Rd H a (.dT kvs)/\y= .ref b/\H b=some (.tup (k.map kV))/\r=valV kvs k
def DPut (H:Hp) (a:Addr) (y v:V) (H':Hp):Prop :=
 (∃kvs k,H a=some (.dK kvs)/\y=kV k/\kvs.length<sizeLine/\H'=upd H a (.dK (putK kvs k v))) \/
 ∃kvs k b,H a=some (.dT kvs)/\y= .ref b/\H b=some (.tup (k.map kV))/\kvs.length<sizeLine/\H'=upd H a (.dT (putK kvs k v))
theorem DGet.k {a:Addr} {kvs:List (Key×V)} {k:Key} (e:H a=some (.dK kvs)):DGet H a (kV k) (valV kvs k):=.inl ⟨kvs,k,.inl e,rfl,rfl⟩
theorem DPut.k {a:Addr} {kvs:List (Key×V)} {k:Key} {v:V} (e:H a=some (.dK kvs)) (hl:kvs.length<sizeLine):DPut H a (kV k) v (upd H a (.dK (putK kvs k v))):=.inl ⟨kvs,k,e,rfl,hl,rfl⟩
section
variable {X:Cx} {pins:List (Addr×Obj)} {σ:St} {H:Hp} {s:Shared} {a:Addr} {y v:V} {u r:Value} {o:Option V} {A:Around} {E:Value->Shared->Prop}
theorem Inv.big (I:Inv X pins σ H s):sysModules<s.heap.objs.size:=by
 have h:mainGlobals<s.heap.objs.size:=(I.mod.glob.keeps I.bk).lt;exact qCQ (by decide) h
theorem d_getItem {Q:Value->Shared->Prop} (hu:A.units+1<cLine) (I:Inv X pins σ H s) (g:DGet H a y (some v)) (ry:RelV y u) (h:∀w' s',Inv X pins σ H s'->RelV v w'->Q w' s') :
  wpAny (model X.prog X.w) A (getItem (.ref a) u) Q E s:=by
 rcases g with ⟨kvs,k,e,ey,l⟩| ⟨kvs,k,b,e,ey,eb,l⟩
 ·subst ey;obtain ⟨z,hd,vs,rel,dd⟩:=dk_rd I.hok e;obtain ⟨w',hw,rw'⟩:=RelO.some_of (v:=v) (o:=valueAt vs k) (by rw [l];exact rel.val k);exact wpAny_getItem_of (kV_is ry) dd.mapOf hw (h w' _ (I.tok _) rw')
 ·subst ey
  cases (show u=Value.ref b from ry)
  obtain ⟨z,hd,xs,rel,dd⟩:=dt_rd I.hok e;obtain ⟨w',hw,rw'⟩:=RelO.some_of (v:=v) (o:=(atKey xs k).map (·.2)) (by rw [l];exact rel.val k);obtain ⟨p,hp,hp2⟩:=qBU.mp hw;refine wpAny_getItem_heap (qC8 hu) (key_of I.hok eb) dd hp ?_;rw [hp2];exact h w' _ (I.tok _) rw'
theorem d_in {Q:Value->Shared->Prop} (hu:A.units+1<cLine) (I:Inv X pins σ H s) (g:DGet H a y o) (ry:RelV y u) (h:∀s',Inv X pins σ H s'->Q (.bool o.isSome) s') :
  wpAny (model X.prog X.w) A (compareOp .In u (.ref a)) Q E s:=by
 rcases g with ⟨kvs,k,e,ey,l⟩| ⟨kvs,k,b,e,ey,eb,l⟩
 ·subst ey;obtain ⟨z,hd,vs,rel,dd⟩:=dk_rd I.hok e;refine wpAny_in_of (kV_is ry) hd dd.mapOf ?_;rw [<-(rel.val k).isSome_eq,<-l];exact h _ (I.tok _)
 ·subst ey
  cases (show u=Value.ref b from ry)
  obtain ⟨z,hd,xs,rel,dd⟩:=dt_rd I.hok e;refine wpAny_in_heap (qC8 hu) (key_of I.hok eb) hd dd ?_;have q:=(rel.val k).isSome_eq;rw [Option.isSome_map] at q;rw [<-q,<-l];exact h _ (I.tok _)
theorem d_notIn {Q:Value->Shared->Prop} (hu:A.units+1<cLine) (I:Inv X pins σ H s) (g:DGet H a y o) (ry:RelV y u) (h:∀s',Inv X pins σ H s'->Q (.bool (!o.isSome)) s') :
  wpAny (model X.prog X.w) A (compareOp .NotIn u (.ref a)) Q E s:=by
 rcases g with ⟨kvs,k,e,ey,l⟩| ⟨kvs,k,b,e,ey,eb,l⟩
 ·subst ey;obtain ⟨z,hd,vs,rel,dd⟩:=dk_rd I.hok e;refine wpAny_notIn_of (kV_is ry) hd dd.mapOf ?_;rw [<-(rel.val k).isSome_eq,<-l];exact h _ (I.tok _)
 ·subst ey
  cases (show u=Value.ref b from ry)
  obtain ⟨z,hd,xs,rel,dd⟩:=dt_rd I.hok e;refine wpAny_notIn_heap (qC8 hu) (key_of I.hok eb) hd dd ?_;have q:=(rel.val k).isSome_eq;rw [Option.isSome_map] at q;rw [<-q,<-l];exact h _ (I.tok _)
theorem d_write {h':Heap} {t':Nat} {ob:HO} (I:Inv X pins σ H s) (mu:Mut (H a)) (hs:Heap.SameBut a s.heap h') (he:∃q,h'.get? a=some q) (new:zAx X.prog X.w (upd H a ob) h' a ob) :
  Inv X pins σ (upd H a ob) {s with heap:=h',toks:=t'} :=
 I.write (x:=a) (e:=a) mu (.inl rfl) (fun b q hb z=>(hs.2 b hb).trans z) he new
theorem dk_new {P:Program} {h':Heap} {kvs:List (Key×V)} {vs:List (Key×Value)} (z:kvs.length<=sizeLine) (hd:(a==sysModules)=false) (rel:KV kvs vs) (dd:h'.DictOf (zBc P w) a vs) :
  zAx P w H' h' a (.dK kvs):=⟨z,hd,vs,rel,dd⟩
theorem d_setItem {Q:Unit->Shared->Prop} (hu:A.units+1<cLine) (I:Inv X pins σ H s) (g:DPut H a y v H') (ry:RelV y u) (rv:RelV v r) (h:∀s',Inv X pins σ H' s'->Q () s') :
  wpAny (model X.prog X.w) A (setItem (.ref a) u r) Q E s:=by
 rcases g with ⟨kvs,k,e,ey,l,eH⟩| ⟨kvs,k,b,e,ey,eb,l,eH⟩
 ·subst ey eH;obtain ⟨z,hd,vs,rel,dd⟩:=dk_of I.hok e;have hz:vs.length<=sizeLine:=by rw [<-rel.length];exact z
  have hl:(putK kvs k v).length<=sizeLine:=by have:=zE3 kvs k v;lia
  refine wpAny_setItem_pairs (hsz:=hz) (kV_is ry) dd fun h' dd' hs=>h _ ?_;have he:∃q,h'.get? a=some q:=let ⟨q,_,_,hq,_⟩:=dd';⟨q,hq⟩;exact d_write I (by rw [e];exact True.intro) hs he (dk_new hl hd (rel.put k rv) dd')
 ·subst ey eH
  cases (show u=Value.ref b from ry)
  obtain ⟨z,hd,xs,rel,dd⟩:=dt_of I.hok e;have hz:xs.length<=sizeLine:=by rw [<-qCG rel];exact z
  have hl:(putK kvs k v).length<=sizeLine:=by have:=zE3 kvs k v;lia
  refine wpAny_setItem_heap (hsz:=hz) (qC8 hu) (key_of I.hok eb) dd fun h' dd' hs=>h _ ?_;obtain ⟨q,es,ep,hq,h2,h3,h4,_,h5⟩:=dd';refine d_write I (by rw [e];exact True.intro) hs ⟨q,hq⟩ ⟨hl,hd,_,(rel.put k eb rv).keeps fun c ys ec=>?_,q,es,ep,hq,h2,h3,h4,h5⟩;rw [upd_ne (zBw ec e (fun z=>nomatch z))];exact ec
end
section
variable {X:Cx} {pins:List (Addr×Obj)} {σ:St} {H:Hp} {s:Shared} {a:Addr} {kvs:List (Key×V)} {k:Key} {u:Value} {A:Around} {E:Value->Shared->Prop}
theorem d_len {Q:Value->Shared->Prop} (I:Inv X pins σ H s) (e:Rd H a (.dK kvs)) (h:∀t s',Inv X pins σ H s'->Q (.int kvs.length t) s'):wpAny (model X.prog X.w) A (call (.builtin "len") [.ref a]) Q E s:=by
 obtain ⟨z,hd,vs,rel,dd⟩:=dk_rd I.hok e;refine call_len_dict hd dd (by rw [<-rel.length];rw [qAM] at z;lia) ?_;rw [<-rel.length];exact h _ _ (I.tok _)
end
def NoSl (i:Expr):Prop:=∀ov iv,subscripted i false ov iv=operate [ov,iv] (getItem ov iv)
theorem subD_of {prog:Program} {A:Around} {E:Value->Shared->Prop} {s:Shared} {env:Env} {value slice:Expr} {pos:Pos} {T id:String} {Q:Value->Shared->Prop}
  (hl:typeLookup (.type T) "__getitem__" = pure (some (.builtin id))) (hs:NoSl slice)
  (h:wpAny (model prog w) A (eval value env) (fun o s₁=>wpAny (model prog w) A (eval slice env) (fun i s₂=>s₂.TypeIs o T/\wpAny (model prog w) A (getItem o i) Q E s₂) E s₁) E s) :
  wpAny (model prog w) A (eval (.Subscript value slice pos) env) Q E s:=by
 refine Subscript_ (qAq h (fun o s₁ h₁=>qAq h₁ (fun i s₂ h₂=>?_) fun _ _ x=>x) fun _ _ x=>x);obtain ⟨hT,h₂⟩:=h₂;unfold subscriptTail;refine qAA ?_;rw [getitemInPython_of_ne hT.not_modules];refine qAA (qCh hT hl ?_)
 have fin:wpAny (model prog w) A (subscripted slice false o i) (fun r s₃=>wpAny (model prog w) A (letTemporaryGo value o r >>= fun _=>pure r) Q E s₃) E s₂:=by
  rw [hs o i];exact wpAny_operating (qAq h₂ (fun r s₃ h₃=>qAA (wpAny_letTemporaryGo (qAE h₃))) fun _ _ x=>x)
 first
  | exact qAE (qAA fin)
  | exact qAA (qAE (qAA fin))
  | exact qAA fin
theorem dict_typeIs {X:Cx} {pins:List (Addr×Obj)} {σ:St} {s:Shared} {a:Addr} {o:Option V} (I:Inv X pins σ H s) (g:DGet H a y o):s.TypeIs (.ref a) "dict" := by
 rcases g with ⟨kvs,k,e,_,_⟩| ⟨kvs,k,b,e,_,_,_⟩
 ·obtain ⟨_,_,vs,_,dd⟩:=dk_rd I.hok e;exact dd.typeIs
 ·obtain ⟨_,_,xs,_,dd⟩:=dt_rd I.hok e;exact dd.typeIs
def tDGet (td ty:TE):TE:=fun σ H Q=>td σ H fun x H1=>ty σ H1 fun y H2=>∃a v,x= .ref a/\DGet H2 a y (some v)/\Q v H2
def tDIn (ty td:TE):TE:=fun σ H Q=>ty σ H fun y H1=>td σ H1 fun x H2=>∃a o,x= .ref a/\DGet H2 a y o/\Q (.bl o.isSome) H2
def tDNotIn (ty td:TE):TE:=fun σ H Q=>ty σ H fun y H1=>td σ H1 fun x H2=>∃a o,x= .ref a/\DGet H2 a y o/\Q (.bl (!o.isSome)) H2
def sDPut (td ty tv:TE):TS:=fun D σ H=>tv σ H fun v H1=>td σ H1 fun x H2=>ty σ H2 fun y H3=>∃a H4,x= .ref a/\DPut H3 a y v H4/\D.nx σ H4
section
variable {X:Cx} {o i e value:Expr} {pos pos' tpos:Pos} {td ty tv:TE}
theorem zA4 (hu:X.A.units+1<cLine) (ho:PE X o td) (hi:PE X i ty) (hs:NoSl i):PE X (.Subscript o i pos) (tDGet td ty):=by
 intro pins s σ H Q I h;refine subD_of PySem.F.slot_dict_getitem.lookup hs (thn (ho pins s σ H _ I h) fun u s1 ⟨x,H1,I1,rx,q1⟩=>thn (hi pins s1 σ H1 _ I1 q1) fun iv s2 ⟨y,H2,I2,ry,a,v,ex,g,q2⟩=>?_);subst ex;obtain rfl:u=Value.ref a:=rx;exact ⟨dict_typeIs I2 g,d_getItem hu I2 g ry fun w' s3 I3 rw'=>⟨v,H2,I3,rw',q2⟩⟩
theorem zG2 (hu:X.A.units+1<cLine) (hi:PE X i ty) (ho:PE X o td):PC X .In i o (tDIn ty td):=by
 intro pins s σ H Q I h;refine thn (hi pins s σ H _ I h) fun iv s1 ⟨y,H1,I1,ry,q1⟩=>thn (ho pins s1 σ H1 _ I1 q1) fun u s2 ⟨x,H2,I2,rx,a,ov,ex,g,q2⟩=>?_;subst ex;obtain rfl:u=Value.ref a:=rx;exact d_in hu I2 g ry fun s3 I3=>⟨.bl ov.isSome,H2,I3,rfl,q2⟩
theorem zD5 (hu:X.A.units+1<cLine) (hi:PE X i ty) (ho:PE X o td):PC X .NotIn i o (tDNotIn ty td):=by
 intro pins s σ H Q I h;refine thn (hi pins s σ H _ I h) fun iv s1 ⟨y,H1,I1,ry,q1⟩=>thn (ho pins s1 σ H1 _ I1 q1) fun u s2 ⟨x,H2,I2,rx,a,ov,ex,g,q2⟩=>?_;subst ex;obtain rfl:u=Value.ref a:=rx;exact d_notIn hu I2 g ry fun s3 I3=>⟨.bl (!ov.isSome),H2,I3,rfl,q2⟩
theorem zC2 (hu:X.A.units+1<cLine) (ho:PE X o td) (hi:PE X i ty) (hv:PE X value tv) (hs:swapsWith value (some (.Subscript o i pos')) pos.line X.env=pure false) :
  PS X (.Assign [.Subscript o i pos'] value pos) (sDPut td ty tv):=by
 intro pins s σ H D I h;refine wpAny_Assign_Subscript (thn (hv pins s σ H _ I h) fun r s1 ⟨v,H1,I1,rv,q1⟩=>thn (ho pins s1 σ H1 _ I1 q1) fun u s2 ⟨x,H2,I2,rx,q2⟩=>thn (hi pins s2 σ H2 _ I2 q2) fun iv s3 ⟨y,H3,I3,ry,a,H4,ex,g,q3⟩=>?_) hs;subst ex;obtain rfl:u=Value.ref a:=rx;exact d_setItem hu I3 g ry rv fun s4 I4=>⟨σ,H4,I4,q3⟩
end
theorem dk_empty {P:Program} (h:Heap) (hb:sysModules<h.objs.size):zAx P w H (h.push {cls:=.type "dict",data:=.dict #[]}) h.objs.size (.dK []) :=
 ⟨qAd _,qBA.mpr (qAr (qAN hb)),[],.nil,Heap.DictOf.new h⟩
def tDNewK:TE:=fun _ H Q=>∀p,H p=none->Q (.ref p) (upd H p (.dK []))
section
variable {X:Cx} {pos:Pos}
theorem zB9:PE X (.Dict [] [] pos) tDNewK:=fun pins s σ H Q I h =>
 wpAny_Dict_empty ⟨.ref s.heap.objs.size,_,I.laid (a:=s.heap.objs.size) (o:=.dK []) (t':=s.toks) (fun _ _ q=>qAI _ q) (qAF _) (dk_empty s.heap I.big),rfl,h _ (I.hok.fresh (qAF _))⟩
end
section
variable {X:Cx}
theorem call_lenD:zC7 X (.builtin "len") (fun xs H Q=>∃a kvs,xs=[V.ref a]/\H a=some (.dK kvs)/\Q (.int kvs.length) H):=by
 intro pins s σ H xs us Q I r h;obtain ⟨a,kvs,rfl,ha,q⟩:=h;obtain ⟨u,rfl,ru⟩:=zIe r
 cases ru
 exact d_len I (.inl ha) fun t s' I'=>⟨.int kvs.length,H,I',⟨t,rfl⟩,q⟩
end
end L2
set_option maxHeartbeats 4000000
namespace L2
open PySem PySem.Spec PyProof.Rows
variable {env:Env}{scope:Scope}{x:Str}{c:Addr}{X:Cx}{elt iter tg:Expr}{ifs:List Expr}{pos:Pos}{g:TG}{tt:TT}{te:TE}{wi:TI}{n:Nat}
def clOf (env:Env):List (Str×NameKind)->List (Str×Addr)->List (Str×Addr)
 | [],cs=>cs
 | (n,k)::r,cs=>if (k==NameKind.free)=true then (match env.cells.lookup n with| some c=>clOf env r ((n,c)::cs)| none=>clOf env r cs) else clOf env r cs
theorem zEg {env:Env}:∀(l:List (Str×NameKind)) (cs:List (Str×Addr)),(∀x∈l,x.2= .free->∃c,env.cells.lookup x.1=some c) ->
  (forIn l cs (fun (x:Str×NameKind) (cs:List (Str×Addr))=>match x with
   | (name,kind)=>if (kind==NameKind.free)=true then (do let c<-cellOf env name;pure (ForInStep.yield ((name,c)::cs))) else pure (ForInStep.yield cs)):Sem (List (Str×Addr)))=pure (clOf env l cs)
 | [],_,_=>rfl
 | (n,k)::r,cs,h=>by
  rw [List.forIn_cons];have hr:∀x∈r,x.2= .free->∃c,env.cells.lookup x.1=some c:=fun x hx=>h x (qAT _ hx)
  by_cases hk:(k==NameKind.free)=true
  ·obtain ⟨c,hc⟩:=h (n,k) qAS (by simpa using hk)
   have e1:clOf env ((n,k)::r) cs=clOf env r ((n,c)::cs):=by
    show (if (k==NameKind.free)=true then _ else _)=_;rw [qAC hk];have hc:env.cells.lookup n=some c:=hc;rw [hc]
   have e2:cellOf env n=pure c:=by
    have hc:env.cells.lookup n=some c:=hc;unfold cellOf;rw [hc]
   rw [e1,<-zEg r ((n,c)::cs) hr];show (if (k==NameKind.free)=true then (do let c<-cellOf env n;pure (ForInStep.yield ((n,c)::cs))) else pure (ForInStep.yield cs)) >>= _=_;rw [qAC hk,e2,pure_bind,pure_bind]
  ·have e1:clOf env ((n,k)::r) cs=clOf env r cs:=by
    show (if (k==NameKind.free)=true then _ else _)=_;rw [qAB hk]
   rw [e1,<-zEg r cs hr];show (if (k==NameKind.free)=true then (do let c<-cellOf env n;pure (ForInStep.yield ((n,c)::cs))) else pure (ForInStep.yield cs)) >>= _=_;rw [qAB hk,pure_bind]
theorem zJb (h:∀x∈scope.names,x.2= .free->∃c,env.cells.lookup x.1=some c):closureFor scope env=pure (clOf env scope.names []):=by
 unfold closureFor;have e:=zEg (env:=env) scope.names [] h
 first
  | exact e
  | (refine Eq.trans ?_ e;rfl)
  | (rw [bind_pure];exact e)
  | simpa using e
theorem zEp :∀{l:List (Str×NameKind)} {cs:List (Str×Addr)},(∀y d,cs.lookup y=some d->env.cells.lookup y=some d)->(clOf env l cs).lookup x=some c->env.cells.lookup x=some c
 | [],cs,h,e=>h x c e
 | (n,k)::r,cs,h,e=>by
  unfold clOf at e
  by_cases hk:(k==NameKind.free)=true
  ·rw [qAC hk] at e
   cases q:env.cells.lookup n with
   | none=>rw [q] at e;exact zEp h e
   | some d =>
    rw [q] at e;refine zEp (fun y z hy=>?_) e;rw [qA5] at hy
    cases hyn:y==n with
    | true =>
     rw [hyn] at hy;have:y=n:=by simpa using hyn
     subst this;rw [q];exact hy
    | false=>rw [hyn] at hy;exact h y z hy
  ·rw [qAB hk] at e;exact zEp h e
theorem zEq (hx:env.cells.lookup x=some c):∀{l:List (Str×NameKind)} {cs:List (Str×Addr)},cs.lookup x=some c->(clOf env l cs).lookup x=some c
 | [],_,h=>h
 | (n,k)::r,cs,h=>by
  unfold clOf
  by_cases hk:(k==NameKind.free)=true
  ·rw [qAC hk]
   cases q:env.cells.lookup n with
   | none=>exact zEq hx h
   | some d =>
    refine zEq hx ?_;rw [qA5]
    cases hxn:x==n with
    | true =>
     have:x=n:=by simpa using hxn
     subst this;rw [<-q,hx]
    | false=>exact h
  ·rw [qAB hk];exact zEq hx h
theorem zFo (hx:env.cells.lookup x=some c):∀{l:List (Str×NameKind)} {cs:List (Str×Addr)},(x,NameKind.free)∈l->(clOf env l cs).lookup x=some c
 | [],_,h=>nomatch h
 | (n,k)::r,cs,h=>by
  unfold clOf;rcases qAO.mp h with e| h
  ·cases e
   rw [qAC (show (NameKind.free==NameKind.free)=true by decide),hx];exact zEq hx (by rw [qA5];simp)
  ·by_cases hk:(k==NameKind.free)=true
   ·rw [qAC hk]
    cases q:env.cells.lookup n with
    | none=>exact zFo hx h
    | some d=>exact zFo hx h
   ·rw [qAB hk];exact zFo hx h
theorem zDu :∀{l:List (Str×NameKind)} {n:Nat} {acc:List (Str×Addr)},(∀y∈l,y.2= .cell->y.1≠x)->(cellsFrom n l acc).lookup x=acc.lookup x
 | [],_,_,_=>rfl
 | (y,k)::r,n,acc,h=>by
  have hr:∀z∈r,z.2= .cell->z.1≠x:=fun z hz=>h z (qAT _ hz);unfold cellsFrom;split
  ·rename_i hk;rw [zDu hr,qA5]
   have:(x==y)=false:=by
    have:=h (y,k) qAS (by simpa using hk);exact qBA.mpr (fun z=>this z.symm)
   rw [this]
  ·exact zDu hr
theorem zCd :∀{l:List (Str×NameKind)} {n:Nat} {acc:List (Str×Addr)},(cellsFrom n l acc).lookup x=some c->acc.lookup x=some c\/(n<=c/\(x,NameKind.cell)∈l)
 | [],_,_,h=>.inl h
 | (y,k)::r,n,acc,h=>by
  unfold cellsFrom at h;split at h
  ·rename_i hk;have hk':k= .cell:=by simpa using hk
   rcases zCd h with z| ⟨z1,z2⟩
   ·rw [qA5] at z
    cases hx:x==y with
    | true =>
     rw [hx] at z;have e:n=c:=qAh z;have e2:x=y:=by simpa using hx
     subst e2;subst hk';exact .inr ⟨qBl e,qAS⟩
    | false=>rw [hx] at z;exact .inl z
   ·exact .inr ⟨qAW (qBK _) z1,qAT _ z2⟩
  ·rcases zCd h with z| ⟨z1,z2⟩
   ·exact .inl z
   ·exact .inr ⟨z1,qAT _ z2⟩
theorem zDv:∀{l:List (Str×NameKind)} {n:Nat} {acc:List (Str×Addr)},(∀x y c,acc.lookup x=some c->acc.lookup y=some c->x=y)->(∀z d,acc.lookup z=some d->d<n)->∀x y c,(cellsFrom n l acc).lookup x=some c->(cellsFrom n l acc).lookup y=some c->x=y
 | [],_,_,p,_=>p
 | (w,k)::r,n,acc,p,lt=>by
  unfold cellsFrom;split
  ·refine zDv (l:=r) (n:=n+1) (acc:=(w,n)::acc) (fun x y c h1 h2=>?_) (fun z d h=>?_)
   ·rw [qA5] at h1 h2
    cases hx:x==w with
    | true =>
     rw [hx] at h1;have e1:n=c:=qAh h1
     cases hy:y==w with
     | true=>exact (by simpa using hx:x=w).trans (by simpa using hy:y=w).symm
     | false =>
      rw [hy] at h2;have:=lt y c h2;rw [<-e1] at this;exact absurd this (qBI _)
    | false =>
     rw [hx] at h1
     cases hy:y==w with
     | true =>
      rw [hy] at h2;have e2:n=c:=qAh h2;have:=lt x c h1;rw [<-e2] at this;exact absurd this (qBI _)
     | false=>rw [hy] at h2;exact p x y c h1 h2
   ·rw [qA5] at h
    cases hz:z==w with
    | true =>
     rw [hz] at h;have e:n=d:=qAh h;rw [<-e];exact qCJ _
    | false =>
     rw [hz] at h;exact qBp (lt z d h)
  ·exact zDv p lt
theorem zC4 :∀{l:List (Str×NameKind)} {h:Heap} {acc:List (Str×Addr)},(∀y d,acc.lookup y=some d->∃v,h.IsCell d v)->(cellsFrom h.objs.size l acc).lookup x=some c->∃v,(pushCells h l).IsCell c v
 | [],_,_,hA,e=>hA x c e
 | (y,k)::r,h,acc,hA,e=>by
  unfold cellsFrom at e;unfold pushCells;split at e
  ·rename_i hk;rw [qAC hk];have hs:(h.push {cls:=.type "cell",data:=.cell none}:Heap).objs.size=h.objs.size+1:=qBY ..;rw [<-hs] at e;refine zC4 (fun z d hz=>?_) e;rw [qA5] at hz
   cases hzy:z==y with
   | true =>
    rw [hzy] at hz;have e:h.objs.size=d:=qAh hz;subst e;exact ⟨none,_,qAc _ rfl,rfl⟩
   | false =>
    rw [hzy] at hz;obtain ⟨v,o,ho,hd⟩:=hA z d hz;exact ⟨v,o,qAI _ ho,hd⟩
  ·rename_i hk;rw [qAB hk];exact zC4 hA e
theorem zE6 {M:Model} {A:Around} {E:Value->Shared->Prop} {s:Shared} {globals:Addr} {cl:List (Str×Addr)} {qual:Str} {outer:Env} {Q:Env->Shared->Prop}
  (h:Q (newEnv scope s.heap.objs.size globals (cellsFrom (s.heap.objs.size+1) scope.names cl) qual none .none (some outer) builtinsNs) {s with heap:=pushCells (s.heap.push {cls:=.type "dict",data:=.dict #[]}) scope.names}) :
  wpAny M A (newFunctionEnv scope globals cl [] qual none .none (some outer)) Q E s:=by
 simp only [newFunctionEnv,Option.isSome_some,qBo];refine qAA (wpAny_alloc ?_);refine qAA (wpAny_layCells _ (fun name kind cells=>by cases hkc:kind==NameKind.cell<;>simp [hkc]) _ _ _ _ ?_);rw [show ({s with heap:=s.heap.push {cls:=.type "dict",data:=.dict #[]}}:Shared).heap.objs.size=s.heap.objs.size+1 from qBY ..];rw [List.forIn_nil];exact qAA (qAE (qAE h))
theorem zFn :∀{l:List (Str×NameKind)} {cs:List (Str×Addr)},(∀y∈l,y.2= .free->y.1≠x)->(clOf env l cs).lookup x=cs.lookup x
 | [],_,_=>rfl
 | (n,k)::r,cs,h=>by
  have hr:∀z∈r,z.2= .free->z.1≠x:=fun z hz=>h z (qAT _ hz);unfold clOf
  by_cases hk:(k==NameKind.free)=true
  ·rw [qAC hk];have nx:(x==n)=false:=qBA.mpr fun z=>h (n,k) qAS (by simpa using hk) z.symm
   cases q:env.cells.lookup n with
   | none=>exact zFn hr
   | some d =>
    rw [show (clOf env r ((n,d)::cs)).lookup x=((n,d)::cs).lookup x from zFn hr,qA5,nx]
  ·rw [qAB hk];exact zFn hr
def Cx.block (X:Cx) (scope:Scope) (C:Addr) (s₀:Shared) (H₀:Hp) (ex:List Addr) (N:List Str):Cx where
 prog:=X.prog
 w:=X.w
 K:=X.K
 mg:=X.mg
 base:=X.base
 A:=X.A
 N:=N
 s₀:=s₀
 H₀:=H₀
 env:=compEnvC scope (cellsFrom (C+1) scope.names (clOf X.env scope.names [])) C X.env
 outer:=X.stack
 stack:=X.stack
 ex:=ex
 fn:=fun x=>scope.names.lookup x==some .cell
 calm:=X.calm
 pn:=[]
 xe:=fun _ _=>False
structure BlkSc (X:Cx) (scope:Scope):Prop where
 kind:scope.kind= .function
 apart:∀y∈scope.names,∀z∈scope.names,y.2= .cell->z.2= .free->y.1≠z.1
 owns:∀y∈scope.names,y.2= .cell->scope.names.lookup y.1=some .cell
 free:∀y∈scope.names,y.2= .free->X.env.kindOf y.1=some .cell\/X.env.kindOf y.1=some .free
 locs:∀y∈scope.names,y.2= .local->scope.names.lookup y.1=some .local
theorem zCv {scope:Scope} {k:NameKind}:∀{l:List (Str×NameKind)}, 
  (l.map fun (n,k)=>if (k==NameKind.free&&env.scope.kind== .function&&env.kindOf n==some .cell) then (n,NameKind.cell) else (n,k)).lookup x=some k ->
  k= .cell\/k= .free->∃k',(x,k')∈l/\(k'= .cell\/k'= .free)
 | [],h,_=>by simp at h
 | (n,j)::r,h,hk=>by
  have h:List.lookup x ((if (j==NameKind.free&&env.scope.kind== .function&&env.kindOf n==some .cell)=true then (n,NameKind.cell) else (n,j))::(r.map fun (n,k)=>if (k==NameKind.free&&env.scope.kind== .function&&env.kindOf n==some .cell) then (n,NameKind.cell) else (n,k)))=some k:=h
  by_cases hc:(j==NameKind.free&&env.scope.kind== .function&&env.kindOf n==some .cell)=true
  ·rw [qAC hc,qA5] at h
   have hj:j= .free:=by
    simp only [qB6] at hc;simpa using hc.1.1
   cases hx:x==n with
   | true =>
    have:x=n:=by simpa using hx
    subst this;exact ⟨j,qAS,.inr hj⟩
   | false =>
    rw [hx] at h;obtain ⟨k',m,q⟩:=zCv (scope:=scope) h hk;exact ⟨k',qAT _ m,q⟩
  ·rw [qAB hc,qA5] at h
   cases hx:x==n with
   | true =>
    rw [hx] at h;have e:j=k:=qAh h;have:x=n:=by simpa using hx
    subst this;exact ⟨j,qAS,by rw [e];exact hk⟩
   | false =>
    rw [hx] at h;obtain ⟨k',m,q⟩:=zCv (scope:=scope) h hk;exact ⟨k',qAT _ m,q⟩
inductive Draws (X:Cx) (scope:Scope):List Str->List (Option Nat)->Prop
 | nil:Draws X scope [] []
 | own {x:Str} {N:List Str} {ix:List (Option Nat)}:Draws X scope N ix->Draws X scope (x::N) (Option.none::ix)
 | tk {x:Str} {N:List Str} {ix:List (Option Nat)} {i:Nat} (hN:X.N[i]?=some x) (hv:Vis X.env.scope x) (hk:(relabel scope X.env).names.lookup x=some .cell\/(relabel scope X.env).names.lookup x=some .free) (hf:(x,NameKind.free)∈scope.names) :
   Draws X scope N ix->Draws X scope (x::N) (some i::ix)
def zC5 (σ:St) (ix:List (Option Nat)):St:=ix.map fun o=>o.bind fun i=>(σ[i]?).join
theorem Draws.len {N:List Str} {ix:List (Option Nat)} (D:Draws X scope N ix):ix.length=N.length:=by
 induction D with
 | nil=>rfl
 | own _ ih=>simp [ih]
 | tk _ _ _ _ _ ih=>simp [ih]
theorem Draws.get {N:List Str} {ix:List (Option Nat)} {σ:St} (D:Draws X scope N ix):∀(j:Nat) (x:Str) (v:V),N[j]?=some x->(zC5 σ ix)[j]?=some (some v) ->
  ∃(i:Nat),X.N[i]?=some x/\σ[i]?=some (some v)/\Vis X.env.scope x/\((relabel scope X.env).names.lookup x=some .cell\/(relabel scope X.env).names.lookup x=some .free)/\(x,NameKind.free)∈scope.names:=by
 induction D with
 | nil=>intro j x v h;simp at h
 | own d ih =>
  intro j x v h1 h2
  cases j with
  | zero=>simp [zC5] at h2
  | succ j=>exact ih j x v (by simpa using h1) (by simpa [zC5] using h2)
 | @tk y N ix i hN hv hk hf d ih =>
  intro j x v h1 h2
  cases j with
  | zero =>
   have e:y=x:=by simpa using h1
   subst e;refine ⟨i,hN,?_,hv,hk,hf⟩;have h2:((σ[i]?).join)=some v:=by simpa [zC5] using h2
   cases q:σ[i]? with
   | none=>rw [q] at h2;cases h2
   | some o=>rw [q] at h2;exact qAk some h2
  | succ j=>exact ih j x v (by simpa using h1) (by simpa [zC5] using h2)
section
variable {X:Cx} {pins:List (Addr×Obj)} {σ:St} {H:Hp} {s:Shared} {scope:Scope} {N:List Str} {ix:List (Option Nat)} {fp:List Addr}
theorem Inv.nostk (I:Inv X pins σ H s) {b:Addr} (h1:b≠X.env.locals) (h2:b∉X.fs):b∉frs X.stack:=fun z=>(qAO.mp (I.stkSub b z)).elim h1 h2
theorem Inv.blockStart {h':Heap} {tk:Nat} {m:Str->Option Value} (I:Inv X pins σ H s) (B:BlkSc X scope) (D:Draws X scope N ix) (hfp:∀b∈fp,FpOk X pins H b) (hfo:∀b∈fp,∃o,s.heap.get? b=some o)
  (hns:h'.Ns s.heap.objs.size m) (hk:∀b o,s.heap.get? b=some o->h'.get? b=some o) (hcl:∀x c,(cellsFrom (s.heap.objs.size+1) scope.names (clOf X.env scope.names [])).lookup x=some c->∃v,h'.IsCell c v) :
  Inv (X.block scope s.heap.objs.size s H fp N) (X.pn++pins) (zC5 σ ix) H {s with heap:=h',toks:=tk}:=by
 have sub:∀{x:Str} {c:Addr},(clOf X.env scope.names []).lookup x=some c->X.env.cells.lookup x=some c:=fun {x c} e=>zEp (fun y d z=>by simp at z) e
 have old:∀{x:Str} {c:Addr},(clOf X.env scope.names []).lookup x=some c->c<s.heap.objs.size:=fun {x c} e=>by
  obtain ⟨v,o,ho,_⟩:=I.cell x c (sub e);exact qAK ho
 have two:∀{x:Str} {c:Addr},(cellsFrom (s.heap.objs.size+1) scope.names (clOf X.env scope.names [])).lookup x=some c->X.env.cells.lookup x=some c\/s.heap.objs.size<c:=fun {x c} e=>by
  rcases zCd e with z| ⟨z,_⟩
  ·exact .inl (sub z)
  ·exact .inr z
 have own:∀{x:Str},(x,NameKind.free)∈scope.names->(cellsFrom (s.heap.objs.size+1) scope.names (clOf X.env scope.names [])).lookup x=(clOf X.env scope.names []).lookup x:=fun {x} hx=>zDu fun y hy e=>B.apart y hy _ hx e rfl
 have okB:(X.block scope s.heap.objs.size s H fp N).Ok:=by
  refine ⟨I.ok.mod,B.kind,I.ok.glob,I.ok.blt,qAF _,zDv (fun x y c h1 h2=>I.ok.inj x y c (sub h1) (sub h2)) (fun z d h=>qBp (old h)),fun x hx=>?_,(fun x c z e=>?_),I.ok.hd,I.ok.frames,.inl rfl,fun b hb=>⟨?_,fun x c e=>?_⟩,
   I.bs,qAW I.ok.bsz I.sz,fun b o e hb=>?_,fun b hb=>I.nostk (hfp b hb).2.1 (hfp b hb).2.2.1,I.stack,I.stkFree⟩
  ·have hx':(relabel scope X.env).names.lookup x=some .cell\/(relabel scope X.env).names.lookup x=some .free:=hx
   have key:∃k',(x,k')∈scope.names/\(k'= .cell\/k'= .free):=by
    rcases hx' with e| e
    ·exact zCv (scope:=scope) e (.inl rfl)
    ·exact zCv (scope:=scope) e (.inr rfl)
   obtain ⟨k',m1,q⟩:=key;rcases q with q| q
   ·subst q;exact Option.isSome_iff_exists.mp (qDU _ _ _ (.inl (B.owns _ m1 rfl)))
   ·subst q;obtain ⟨c,hc⟩:=I.ok.has x (B.free _ m1 rfl);exact ⟨c,(own m1).trans (zFo hc m1)⟩
  ·rcases zCd e with q| ⟨q,_⟩
   ·have z:scope.names.lookup x=some .cell:=by
     have z:(scope.names.lookup x==some NameKind.cell)=true:=z;simpa using z
    have hm:=qBT z;have:(x,NameKind.free)∈scope.names\/True:=.inr trivial
    exact absurd q (by
     rw [zFn (fun y hy e1 e2=>B.apart _ hm y hy rfl e1 e2.symm)];intro h;cases h)
   ·exact qBx q
  ·obtain ⟨o,e⟩:=hfo b hb;exact qAN (qAK e)
  ·rcases two e with z| z
   ·exact (hfp b hb).2.2.2.2.1 x c z
   ·obtain ⟨o,e⟩:=hfo b hb;exact qAu (qCQ (qAK e) z)
  ·rcases (hfp b hb).2.2.2.1 with z| z
   ·exact I.ok.noex b o e z
   ·exact absurd (qAn (qAK (I.ok.bs b o e).1) z) (qBI _)
 refine ⟨okB,rfl,I.bare,Un.kept hk,⟨m,hns,fun j x v h1 h2 h3=>?_⟩,fun x c e=>?_,I.hok.fresh (qAF _),fun x c e=>(two e).elim (fun z=>I.freeC x c z) (fun z=>I.hok.fresh (qBx z)),fun p hp=>?_,I.hok.kept hk,?_⟩
 ·obtain ⟨i,e1,e2,vis,kd,fr⟩:=D.get j x v h1 h2;obtain ⟨m0,hn0,hl⟩:=I.loc;obtain ⟨u,r,l⟩:=hl i x v e1 e2 vis;refine ⟨u,r,?_⟩;rcases l with ⟨k,_⟩| ⟨_,c,hc,o,ho,hd⟩
  ·rcases B.free _ fr rfl with z| z
   ·have z:X.env.kindOf x=some .cell:=z;rw [k] at z;cases z
   ·have z:X.env.kindOf x=some .free:=z;rw [k] at z;cases z
  ·exact .inr ⟨kd,c,(own fr).trans (zFo hc fr),o,hk c o ho,hd⟩
 ·exact hcl x c e
 ·have hp':p∈X.pn++pins:=by simpa [Cx.block] using hp
  obtain ⟨e,n,ne,nf,d⟩:=I.pin p hp';exact ⟨hk _ _ e,n,qAN (qAK e),I.nostk ne nf,d⟩
 ·show (zC5 σ ix).length=N.length;unfold zC5;rw [qAD];exact D.len
end
def PTs (X:Cx) (ifs:List Expr) (t:TT):Prop :=
 ∀(pins:List (Addr×Obj)) (s:Shared) (σ:St) (H:Hp) (Q:Bool->Hp->Prop),Inv X pins σ H s->t σ H Q ->
  wpAny (model X.prog X.w) X.A (forIn ifs true fun c r=>if r=true then do let ok<-isTrue c X.env (eval c X.env);pure (ForInStep.yield ok) else pure (ForInStep.yield r)) (TP X pins σ Q) X.xe s
def tTrue:TT:=fun _ H Q=>Q true H
theorem zC1 :PTs X [] tTrue:=fun _ _ _ H _ I h=>wpAny_tests_nil ⟨H,I,h⟩
theorem zCo {c:Expr} {t:TT} (h:PT X c t):PTs X [c] t:=fun pins s σ H Q I hw=>wpAny_tests_one (h pins s σ H Q I hw)
theorem comp_loop {prog:Program} {w:World} {A:Around} {R:Result->Shared->Prop} {s:Shared} {elt target iter:Expr} {ifs:List Expr} {scope:Scope} {pos:Pos} {it acc:Value} {env:Env} (I:Nat->Shared->Prop)
  (turn:∀n s,I n s->wpAny (model prog w) A (pyNext it) (fun r s₁=>match r with
   | none=>R (.ok .next) s₁
   | some v=>wpAny (model prog w) A (letOwnedTupleGo target it v) (fun _ s₁'=>wpAny (model prog w) A (assign target env v) (fun _ s₂ =>
     wpAny (model prog w) A (forIn ifs true fun c r=>if r=true then do let ok<-isTrue c env (eval c env);pure (ForInStep.yield ok) else pure (ForInStep.yield r)) (fun ok s₃ =>
      if ok=true then wpAny (model prog w) A (eval elt env) (fun x s₄ =>
       wpAny (model prog w) A (call (.builtin "list.append") [acc,x]) (fun _ s₅=>∃m,m<n/\I m s₅) (fun _ _=>False) s₄) (fun _ _=>False) s₃
      else∃m,m<n/\I m s₃) (fun _ _=>False) s₂) (fun _ _=>False) s₁') (fun _ _=>False) s₁) (fun _ _=>False) s)
  (n:Nat) (h:I n s) :
  codeAny (model prog w) A (.compLoop (.ListComp elt [⟨target,iter,ifs,0⟩] scope pos) 0 it acc env) R s:=by
 refine codeAny_loop rfl I (fun n s hI=>?_) n h;show wpAny _ A ((compTurn (.ListComp elt [⟨target,iter,ifs,0⟩] scope pos) 0 it acc env).onRaise (fun x=>do noteFrame x env;theTreesLotGoes x)) _ _ s;refine wpAny_noted ?_;rw [compTurn_list];refine qAA (qBy (qAA (qAq (turn n s hI) (fun r s₁ h₁=>?_) fun _ _ h'=>h'.elim)))
 cases r with
 | none=>exact qAE h₁
 | some v =>
  refine qAA (qAq h₁ (fun _ s₁' h₁'=>?_) fun _ _ h'=>h'.elim);refine qAA (qAq h₁' (fun _ s₂ h₂=>qAA (qAq h₂ (fun ok s₃ h₃=>?_) fun _ _ h'=>h'.elim)) fun _ _ h'=>h'.elim)
  cases ok with
  | false=>exact qAE ⟨rfl,h₃⟩
  | true =>
   exact qAA (qAA (qAq h₃ (fun x s₄ h₄=>qAA (qAq h₄ (fun _ s₅ h₅=>qAE (qAE ⟨rfl,h₅⟩)) fun _ _ h'=>h'.elim)) fun _ _ h'=>h'.elim))
def tComp (wi:TI) (ix:List (Option Nat)) (g:TG) (tt:TT) (te:TE):TE:=fun σ H Q=>wi σ H fun J H1=>∀D,H1 D=none->∃W:Nat->Nat->List V->St->Hp->Prop,
 (∃m,W 0 m [] (zC5 σ ix) (upd H1 D (.lst [])))/\∀i m ys τ H2,W i m ys τ H2 ->
  (J.stop i H2/\Q (.ref D) H2)\/(J.go i H2/\∃N:List V->St->Hp->Prop,(∀ys' τ' H',N ys' τ' H'->∃m',m'<m/\W (i+1) m' ys' τ' H')/\∀x H3,J.yld i H2 x H3->g x τ H3 fun τ' H4=>tt τ' H4 fun b H5 =>
   if b=true then te τ' H5 fun v H6=>H6 D=some (.lst ys)/\ys.length<sizeLine/\N (ys++[v]) τ' (upd H6 D (.lst (ys++[v])))
   else N ys τ' H5)
theorem block_loop {Y:Cx} {J:It} {fp:List Addr} {it D:Addr} {tn:Nat->Heap->Prop} {P:List (Addr×Obj)} {W:Nat->Nat->List V->St->Hp->Prop} {m0:Nat}
  {R:Result->Shared->Prop} {QD:Hp->Prop} {s4:Shared} {τ0:St} {H4:Hp}
  (hc:Y.calm=true) (hx:∀e s,Y.xe e s->False) (hg:PG Y tg g) (ht:PTs Y ifs tt) (he:PE Y elt te) (T:Turn Y.prog Y.w Y.K tg J fp it tn)
  (stat:∀{H':Hp},(∀b∈fp,H' b=none)->∀b∈fp,FpOk Y P H' b)
  (turn:∀i m ys τ H2,W i m ys τ H2->(J.stop i H2/\QD H2)\/(J.go i H2/\∃N:List V->St->Hp->Prop,(∀ys' τ' H',N ys' τ' H'->∃m',m'<m/\W (i+1) m' ys' τ' H')/\∀x H3,J.yld i H2 x H3->g x τ H3 fun τ' H4=>tt τ' H4 fun b H5 =>
   if b=true then te τ' H5 fun v H6=>H6 D=some (.lst ys)/\ys.length<sizeLine/\N (ys++[v]) τ' (upd H6 D (.lst (ys++[v])))
   else N ys τ' H5))
  (fin:∀τ H' s',Inv Y P τ H' s'->QD H'->R (.ok .next) s')
  (I0:Inv Y P τ0 H4 s4) (t0:tn 0 s4.heap) (n0:∀b∈fp,H4 b=none) (w0:W 0 m0 [] τ0 H4) :
  codeAny (model Y.prog Y.w) Y.A (.compLoop (.ListComp elt [⟨tg,iter,ifs,0⟩] scope pos) 0 (.ref it) (.ref D) Y.env) R s4:=by
 have nx:∀{α:Type} {t:Sem α} {Q:α->Shared->Prop} {s:Shared},wpAny (model Y.prog Y.w) Y.A t Q Y.xe s->wpAny (model Y.prog Y.w) Y.A t Q (fun _ _=>False) s:=fun h=>qAq h (fun _ _ q=>q) hx;refine comp_loop (fun n s'=>∃i ys τ H',Inv Y P τ H' s'/\tn i s'.heap/\(∀b∈fp,H' b=none)/\W i n ys τ H') ?_ m0 ⟨0,[],τ0,H4,I0,t0,n0,w0⟩;rintro n s5 ⟨i,ys,τ,H5,I5,st5,fr5,w5⟩;rcases turn i n ys τ H5 w5 with ⟨stop,q⟩| ⟨go,N,hN,step⟩
 ·refine thn (T.done Y rfl rfl rfl hc i P s5 τ H5 _ I5 (stat fr5) st5 stop) fun r s6 ⟨hr,I6⟩=>?_;subst hr;exact fin τ H5 s6 I6 q
 ·refine thn (T.item Y rfl rfl rfl hc i P s5 τ H5 _ I5 (stat fr5) st5 go) fun r s6 ⟨u,hr,h6⟩=>?_;subst hr;refine thn h6 fun _ s7 ⟨x,H7,I7,r7,y7,st7,fr7⟩=>?_;have I7':=I7.pinned (stat fr7) (T.obj _ _ st7);refine nx (thn (hg _ s7 τ H7 x u _ I7' r7 (step x H7 y7)) fun _ s8 ⟨τ8,H8,I8,q8⟩=>?_);refine nx (thn (ht _ s8 τ8 H8 _ I8 q8) fun ok s9 ⟨H9,I9,q9⟩=>?_)
  have again:∀{ys':List V} {H':Hp} {s':Shared},Inv Y (P++pinsAt fp s7.heap) τ8 H' s'->(∃m',m'<n/\W (i+1) m' ys' τ8 H')->∃m,m<n/\∃i ys τ H',Inv Y P τ H' s'/\tn i s'.heap/\(∀b∈fp,H' b=none)/\W i m ys τ H':=fun {ys' H' s'} I' ⟨m',hm,w'⟩=>by
   refine ⟨m',hm,i+1,ys',τ8,H',I'.unpinned,T.keep _ _ _ st7 fun b hb o e=>(I'.pin (b,o) (qAv _ (qAv _ (zEn hb e)))).1,fun b hb=>?_,w'⟩;obtain ⟨o,e,d⟩:=T.obj _ _ st7 b hb;exact (I'.pin (b,o) (qAv _ (qAv _ (zEn hb e)))).2.1
  cases ok with
  | false =>
   rw [qAB qAl] at q9 ⊢;exact again I9 (hN _ _ _ q9)
  | true =>
   rw [qAC rfl] at q9 ⊢;refine nx (thn (he _ s9 τ8 H9 _ I9 q9) fun y s10 ⟨v,H10,I10,r10,hD,hz,w10⟩=>?_);refine nx (thn (zBl (X:=Y) _ s10 τ8 H10 (.ref D) [v] (.ref D) [y] (fun _ H'=>H'=upd H10 D (.lst (ys++[v]))) I10 rfl (.cons r10 .nil) ⟨D,ys,v,rfl,rfl,hD,hz,rfl⟩) fun _ s11 ⟨z,H11,I11,_,e11⟩=>?_);subst e11;exact again I11 (hN _ _ _ w10)
theorem run_comp {pos p1:Pos} {N:List Str} {ix:List (Option Nat)} {pins:List (Addr×Obj)} {s:Shared} {σ:St} {H:Hp} {Q:VK} {use:Option (Value->Sem Unit)}
  {Z:Value->Shared->Prop}
  (hc:X.calm=true) (B:BlkSc X scope) (Dr:Draws X scope N ix) (hi:PI X tg iter wi)
  (hg:∀C s₀ H₀ ex,PG (X.block scope C s₀ H₀ ex N) tg g) (ht:∀C s₀ H₀ ex,PTs (X.block scope C s₀ H₀ ex N) ifs tt) (he:∀C s₀ H₀ ex,PE (X.block scope C s₀ H₀ ex N) elt te)
  (hs:∀x,foldedSetIterable iter X.env x=pure x)
  (I:Inv X pins σ H s) (h:tComp wi ix g tt te σ H Q)
  (fin:∀(D C:Addr) (H':Hp) (s':Shared) (m:Str->Option Value),Inv X pins σ H' s'->Q (.ref D) H'->s'.heap.Ns C m->(∀h',Heap.SameBut C s'.heap h'->Inv X pins σ H' {s' with heap:=h'})->C≠X.env.locals->(∀x c,X.env.cells.lookup x=some c->c≠C)->H' C=none ->
   (∀p∈X.pn++pins,p.1≠C)->X.s₀.heap.objs.size<=C->compPost (model X.prog X.w) X.A X.xe use Z (.ref D) C (.ok .next) s') :
  wpAny (model X.prog X.w) X.A (comprehension (.ListComp elt [⟨tg,iter,ifs,0⟩] scope pos) scope X.env p1 (newList []) false (eval iter X.env) use) Z X.xe s:=by
 have hfree:∀x∈scope.names,x.2= .free->∃c,X.env.cells.lookup x.1=some c:=fun x hx e=>I.ok.has _ (B.free x hx e);refine wpAny_comprehension_free (use:=use) rfl hs (zJb hfree) B.kind B.locs ?_;refine thn (hi pins s σ H _ I h) fun v s1 h1=>thn h1 fun itv s2 h2=>?_;obtain ⟨it,fp,tn,J,H2,e,I2,T,st2,f2,R⟩:=h2;subst e;have hDf:H2 s2.heap.objs.size=none:=I2.hok.fresh (qAF _);obtain ⟨W,⟨m0,w0⟩,turn⟩:=R _ hDf;refine qCR ?_ (by show (0:Nat)<=sizeLine;exact qAd _);have I3:Inv X pins σ (upd H2 s2.heap.objs.size (.lst [])) {s2 with heap:=s2.heap.push {cls:=.type "list",data:=.seq ([]:List Value).toArray}}:=I2.lnew (t':=s2.toks) (ys:=[]) (its:=[]) .nil (qAd _);generalize hD:s2.heap.objs.size=D at *
 have fpo:∀b∈fp,∃o,s2.heap.get? b=some o:=fun b hb=>let ⟨o,q,_⟩:=T.obj _ _ st2 b hb;⟨o,q⟩
 have fpD:∀b∈fp,b≠D:=fun b hb=>by
  obtain ⟨o,q⟩:=fpo b hb;rw [<-hD];exact qAN (qAK q)
 have f3:∀b∈fp,FpOk X pins (upd H2 D (.lst [])) b:=fun b hb=>⟨by rw [upd_ne (fpD b hb)];exact (f2 b hb).1,(f2 b hb).2⟩;generalize hs3:({s2 with heap:=s2.heap.push {cls:=.type "list",data:=.seq ([]:List Value).toArray}}:Shared)=s3 at I3 ⊢;have k23:∀b o,s2.heap.get? b=some o->s3.heap.get? b=some o:=fun b o q=>by rw [<-hs3];exact qAI _ q
 have fpo3:∀b∈fp,∃o,s3.heap.get? b=some o:=fun b hb=>let ⟨o,q⟩:=fpo b hb;⟨o,k23 b o q⟩;have st3:tn 0 s3.heap:=T.keep _ _ _ st2 fun b hb o q=>k23 b o q;refine zE6 ?_;have k34:∀b o,s3.heap.get? b=some o->(pushCells (s3.heap.push {cls:=.type "dict",data:=.dict #[]}) scope.names).get? b=some o:=fun b o q=>pushCells_keeps _ _ b o (qAI _ q);have hns4:(pushCells (s3.heap.push {cls:=.type "dict",data:=.dict #[]}) scope.names).Ns s3.heap.objs.size (fun _=>none):=(Heap.Ns.new s3.heap (.type "dict")).keeps (pushCells_keeps _ _)
 have hcl4:∀x c,(cellsFrom (s3.heap.objs.size+1) scope.names (clOf X.env scope.names [])).lookup x=some c->∃v,(pushCells (s3.heap.push {cls:=.type "dict",data:=.dict #[]}) scope.names).IsCell c v:=fun x c e=>by
  refine zC4 (h:=s3.heap.push {cls:=.type "dict",data:=.dict #[]}) (acc:=clOf X.env scope.names []) (fun y d hy=>?_) (by rw [qBY];exact e);obtain ⟨v,o,ho,hd⟩:=I3.cell y d (zEp (fun y d z=>by simp at z) hy);exact ⟨v,o,qAI _ ho,hd⟩
 have IB:=I3.blockStart (tk:=s3.toks) B Dr f3 fpo3 hns4 k34 hcl4;generalize hh4:pushCells (s3.heap.push {cls:=.type "dict",data:=.dict #[]}) scope.names=h4 at *
 generalize hC:s3.heap.objs.size=C at *
 have hCX:X.s₀.heap.objs.size<=C:=by rw [<-hC];exact I3.sz
 have CL:C≠X.env.locals:=by rw [<-hC];exact qAu I3.lt
 have Cc:∀x c,X.env.cells.lookup x=some c->c≠C:=fun x c q=>by
  obtain ⟨v,o,ho,_⟩:=I3.cell x c q;rw [<-hC];exact qAN (qAK ho)
 have Cp:∀p∈X.pn++pins,p.1≠C:=fun p hp=>by
  rw [<-hC];exact qAN (qAK (I3.pin p hp).1)
 have fpC:∀b∈fp,b≠C:=fun b hb=>by
  obtain ⟨o,q⟩:=fpo3 b hb;rw [<-hC];exact qAN (qAK q)
 have stat:∀{H':Hp},(∀b∈fp,H' b=none)->∀b∈fp,FpOk (X.block scope C s3 (upd H2 D (.lst [])) fp N) (X.pn++pins) H' b:=fun {H'} hn b hb=>by
  obtain ⟨_,q1,q2,q3,q4,q5⟩:=f2 b hb;exact ⟨hn b hb,fpC b hb,I3.nostk q1 q2,.inl hb,fun x c e=>(zCd e).elim (fun z=>q4 x c (zEp (fun y d z=>by simp at z) z)) (fun z=>by obtain ⟨o,q⟩:=fpo3 b hb;have:=qAK q;rw [hC] at this;exact qAu (qAn (qBp this) z.1)),fun p hp=>q5 p (by simpa [Cx.block] using hp)⟩
 have st4:tn 0 h4:=T.keep _ _ _ st3 fun b hb o q=>k34 b o q;have n4:∀b∈fp,(upd H2 D (.lst [])) b=none:=fun b hb=>(f3 b hb).1
 have loop:=block_loop (Y:=X.block scope C s3 (upd H2 D (.lst [])) fp N) (iter:=iter) (pos:=pos) (scope:=scope) (D:=D) (R:=compPost (model X.prog X.w) X.A X.xe use Z (.ref D) C) hc (fun _ _ z=>z) (hg C s3 _ fp) (ht C s3 _ fp) (he C s3 _ fp) T stat turn
  (fun τ H' s' I' q=>by
   have I5:Inv X pins σ H' s':=I3.call' (ch:=fp) I'.os I'.base I'.hok I'.bare fun b hb=>by
    obtain ⟨_,q1,q2,q3,q4,q5⟩:=f2 b hb;exact ⟨q3,q1,q4,q5⟩
   obtain ⟨m,hn,_⟩:=I'.loc;have hC0:H' C=none:=I'.free;exact fin D C H' s' m I5 q hn (fun h'' hs''=>I5.turned (t':=s'.toks) (fun b o hb e=>hs''.extBut b o hb e) hC0 CL (.inr hCX) Cc Cp) CL Cc hC0 Cp hCX) IB st4 n4 w0
 exact codeAny_compStart_list loop (T.self _ 0 _ _ _ st4 loop)
theorem zBj {N:List Str} {ix:List (Option Nat)} (hc:X.calm=true) (B:BlkSc X scope) (Dr:Draws X scope N ix) (hi:PI X tg iter wi)
  (hg:∀C s₀ H₀ ex,PG (X.block scope C s₀ H₀ ex N) tg g) (ht:∀C s₀ H₀ ex,PTs (X.block scope C s₀ H₀ ex N) ifs tt) (he:∀C s₀ H₀ ex,PE (X.block scope C s₀ H₀ ex N) elt te)
  (hs:∀x,foldedSetIterable iter X.env x=pure x:=by intro _;rfl):PE X (.ListComp elt [⟨tg,iter,ifs,0⟩] scope pos) (tComp wi ix g tt te):=by
 intro pins s σ H Q I h;rw [eval_ListComp];exact run_comp (use:=none) hc B Dr hi hg ht he hs I h fun D C H' s' m I' q hn k _ _ _ _ _=>⟨m,hn,fun h' hs'=>⟨.ref D,H',k h' hs',rfl,q⟩⟩
theorem zG0 {spos py:Pos} {N:List Str} {ix:List (Option Nat)} {i:Nat} {y:Str} (hc:X.calm=true) (B:BlkSc X scope) (Dr:Draws X scope N ix) (hi:PI X tg iter wi)
  (hg:∀C s₀ H₀ ex,PG (X.block scope C s₀ H₀ ex N) tg g) (ht:∀C s₀ H₀ ex,PTs (X.block scope C s₀ H₀ ex N) ifs tt) (he:∀C s₀ H₀ ex,PE (X.block scope C s₀ H₀ ex N) elt te)
  (hN:X.N.Nodup) (hy:X.N[i]?=some y) (hl:X.env.scope.names.lookup y=some .local)
  (hsw:swapsWith (.ListComp elt [⟨tg,iter,ifs,0⟩] scope pos) (some (.Name y py)) spos.line X.env=pure true:=by rfl)
  (hs:∀x,foldedSetIterable iter X.env x=pure x:=by intro _;rfl):PS X (.Assign [.Name y py] (.ListComp elt [⟨tg,iter,ifs,0⟩] scope pos) spos) (tAsg (tComp wi ix g tt te) (gName i)):=by
 intro pins s σ H Dn I h;rw [exec_Assign_Name_used _ _ _ _ hsw];refine qAA (qBy (qAA ?_));show wpAny _ X.A (do let _<-comprehension (.ListComp elt [⟨tg,iter,ifs,0⟩] scope pos) scope X.env _ (newList []) false (eval iter X.env) (some (assign (.Name y py) X.env))) _ _ s;refine qAA (thn (run_comp (use:=some (assign (.Name y py) X.env)) (Z:=fun _ s'=>SP X pins Dn .next s') hc B Dr hi hg ht he hs I h fun D C H' s' m I' q hn k CL Cc C0 Cp CX=>?_) fun _ s' hq=>qAE (qAE hq));show wpAny _ _ (assign (.Name y py) X.env (.ref D)) _ _ s';refine wpAny_assign_Name (store_ok2 I' hN hy (.inl hl) (v:=.ref D) rfl (fun s'' I'' ⟨a,sb,ha⟩=>?_) (.inr hl))
 have aC:C≠a:=by
  rcases ha with z| z
  ·rw [z];exact CL
  ·exact (Cc _ _ z).symm
 exact ⟨m,hn.sameBut sb aC,fun h' hs'=>⟨_,H',I''.turned (t':=s''.toks) (fun b o hb e=>hs'.extBut b o hb e) C0 CL (.inr CX) Cc Cp,q⟩⟩
theorem comp_by {J:It} {ix:List (Option Nat)} {Q:VK} {σ:St} {H1:Hp} {D:Addr} (xs:List V) (Pv:Nat->List V->St->Hp->Prop) (h0:Pv 0 [] (zC5 σ ix) (upd H1 D (.lst [])))
  (hJ:∀i ys τ H,Pv i ys τ H->(∀x,xs[i]?=some x->J.go i H/\∀y H',J.yld i H y H'->H'=H/\y=x)/\(i=xs.length->J.stop i H))
  (hs:∀i x ys τ H,xs[i]?=some x->Pv i ys τ H->g x τ H fun τ' H4=>tt τ' H4 fun b H5=>if b=true then te τ' H5 fun v H6=>H6 D=some (.lst ys)/\ys.length<sizeLine/\Pv (i+1) (ys++[v]) τ' (upd H6 D (.lst (ys++[v]))) else Pv (i+1) ys τ' H5)
  (hd:∀ys τ H,Pv xs.length ys τ H->Q (.ref D) H) :
  ∃W:Nat->Nat->List V->St->Hp->Prop,(∃m,W 0 m [] (zC5 σ ix) (upd H1 D (.lst [])))/\∀i m ys τ H2,W i m ys τ H2 ->
   (J.stop i H2/\Q (.ref D) H2)\/(J.go i H2/\∃N:List V->St->Hp->Prop,(∀ys' τ' H',N ys' τ' H'->∃m',m'<m/\W (i+1) m' ys' τ' H')/\∀x H3,J.yld i H2 x H3->g x τ H3 fun τ' H4=>tt τ' H4 fun b H5 =>
    if b=true then te τ' H5 fun v H6=>H6 D=some (.lst ys)/\ys.length<sizeLine/\N (ys++[v]) τ' (upd H6 D (.lst (ys++[v])))
    else N ys τ' H5):=by
 refine ⟨fun i m ys τ H=>m=xs.length - i/\i<=xs.length/\Pv i ys τ H,⟨xs.length,by simp,qAd _,h0⟩,?_⟩;rintro i m ys τ H ⟨rfl,hi,p⟩;obtain ⟨j1,j2⟩:=hJ i ys τ H p
 by_cases hlt:i<xs.length
 ·have hx:xs[i]?=some xs[i]:=by simp [hlt]
  obtain ⟨go,yl⟩:=j1 _ hx;refine .inr ⟨go,Pv (i+1),fun ys' τ' H' p'=>⟨xs.length - (i+1),by lia,rfl,hlt,p'⟩,fun y H' yd=>?_⟩;obtain ⟨e1,e2⟩:=yl y H' yd;subst e1 e2;exact hs i _ ys τ _ hx p
 ·have e:i=xs.length:=by lia
  subst e;exact .inl ⟨j2 rfl,hd ys τ H p⟩
def blkOk (scope sc:Scope):Bool:=(scope.kind== .function)&&(scope.names.all (fun y=>scope.names.all fun z=>y.2 != .cell||z.2 != .free||y.1 != z.1)&&scope.names.all (fun y=>y.2 != .cell||scope.names.lookup y.1==some .cell))&&scope.names.all (fun y=>y.2 != .free||sc.names.lookup y.1==some .cell||sc.names.lookup y.1==some .free)&&scope.names.all (fun y=>y.2 != .local||scope.names.lookup y.1==some .local)
theorem zBn {scope sc:Scope} (hsc:X.env.scope=sc) (h:blkOk scope sc=true):BlkSc X scope:=by
 unfold blkOk at h;simp only [qB6,qA6,Bool.or_eq_true] at h;obtain ⟨⟨⟨h1,h2,h5⟩,h3⟩,h4⟩:=h;refine ⟨by simpa using h1,fun y hy z hz e1 e2=>?_,fun y hy e=>?_,fun y hy e=>?_,fun y hy e=>?_⟩
 ·rcases h2 y hy z hz with (q| q)| q
  ·rw [e1] at q;simp at q
  ·rw [e2] at q;simp at q
  ·simpa using q
 ·rcases h5 y hy with q| q
  ·rw [e] at q;simp at q
  ·simpa using q
 ·have q:=h3 y hy;show X.env.scope.names.lookup y.1=some .cell\/X.env.scope.names.lookup y.1=some .free;rw [hsc];rcases q with (q| q)| q
  ·rw [e] at q;simp at q
  ·exact .inl (by simpa using q)
  ·exact .inr (by simpa using q)
 ·have q:=h4 y hy;rcases q with q| q
  ·rw [e] at q;simp at q
  ·simpa using q
def Its (z:Str):It:=⟨fun i _=>i<z.cps.size,fun i H x H'=>H'=H/\∃c,z.cps[i]?=some c/\x= .str ⟨#[c]⟩,fun i _=>z.cps.size<=i⟩
theorem turn_str {P:Program} {w:World} {K:PySem.W.Frag} (it:Addr) (z:Str) (t:Tok) (ty:String) (hty:ty= "str_ascii_iterator" \/ty= "str_iterator"):Turn P w K tg (Its z) [it] it (fun i h=>h.IsStrIter it ty z t i) where
 mem:=by simp
 obj:=fun i h st b hb=>by
  have e:b=it:=by simpa using hb
  subst e;obtain ⟨o,e,c,d⟩:=st;exact ⟨o,e,fun v z=>by rw [d] at z;cases z⟩
 keep:=fun i h h' st k=>by
  obtain ⟨o,e,c,d⟩:=st;exact ⟨o,k it (by simp) o e,c,d⟩
 item:=by
  intro X hP hw hK hc i pins s σ H E I hf st hg;subst hP hw hK;obtain ⟨f0,f1,f2,f3,f4,f5⟩:=hf it (by simp);have hlt:i<z.cps.size:=hg;have hx:z.cps[i]?=some z.cps[i]:=by simp [hlt]
  have fin:∀h':Heap,h'.IsStrIter it ty z t (i+1)->Heap.SameBut it s.heap h'->∃u,some (Value.str ⟨#[z.cps[i]]⟩ s.toks)=some u /\
    wpAny (model X.prog X.w) X.A (letOwnedTupleGo tg (.ref it) u) (fun _ s2=>∃x H',Inv X pins σ H' s2/\RelV x u/\(Its z).yld i H x H'/\s2.heap.IsStrIter it ty z t (i+1)/\∀b∈[it],H' b=none) E {s with heap:=h',toks:=s.toks+1}:=fun h' st' sb=>by
   have I1:Inv X pins σ H {s with heap:=h',toks:=s.toks+1}:=I.turned (t':=s.toks+1) (fun b o hb e=>(sb.2 b hb).trans e) f0 f1 f3 f4 f5;obtain ⟨o,e,c,d⟩:=id st';exact ⟨_,rfl,go_of (s:={s with heap:=h',toks:=s.toks+1}) e c d (by rcases hty with rfl| rfl<;>decide) ⟨.str ⟨#[z.cps[i]]⟩,H,I1,⟨_,rfl⟩,⟨rfl,_,hx,rfl⟩,st',fun b hb=>(hf b hb).1⟩⟩
  rcases hty with rfl| rfl
  ·exact wpAny_pyNext_ascii_item st hx fin
  ·exact wpAny_pyNext_wide_item st hx fin
 done:=by
  intro X hP hw hK hc i pins s σ H E I hf st hg;subst hP hw hK;obtain ⟨f0,f1,f2,f3,f4,f5⟩:=hf it (by simp);have hle:z.cps.size<=i:=hg;have hx:z.cps[i]?=none:=by simp [hle]
  have fin:∀h':Heap,Heap.ExtBut it s.heap h'->(none:Option Value)=none/\Inv X pins σ H {s with heap:=h'}:=fun h' eb=>⟨rfl,I.turned (t':=s.toks) (fun b o hb e=>eb b o hb e) f0 f1 f3 f4 f5⟩;rcases hty with rfl| rfl
  ·exact wpAny_pyNext_ascii_end (I.ok.hd hc) st hx fin
  ·exact wpAny_pyNext_wide_end (I.ok.hd hc) st hx fin
 self:=fun _ _ _ _ _ st h=>by
  rcases hty with rfl| rfl
  ·exact wpAny_pyIter_striter_ascii st h
  ·exact wpAny_pyIter_striter_wide st h
def iStr (tl:TE):TI:=fun σ H R=>tl σ H fun x H1=>∃z,x= .str z/\R (Its z) H1
theorem pi_str {l:Expr} {tl:TE} (hl:PE X l tl):PI X tg l (iStr tl):=by
 intro pins s σ H R I h;refine thn (hl pins s σ H _ I h) fun v s1 ⟨x,H1,I1,r1,q1⟩=>?_;obtain ⟨z,e,q⟩:=q1;subst e;obtain ⟨t,rfl⟩:=r1
 have fin:∀(ty:String),(ty= "str_ascii_iterator" \/ty= "str_iterator")->PIE X pins σ tg R (.ref s1.heap.objs.size) {s1 with heap:=s1.heap.push {cls:=.type ty,data:=.fields #[.str z t,.int 0 0]}}:=fun ty hty =>
  ⟨s1.heap.objs.size,[s1.heap.objs.size],_,_,H1,rfl,I1.kept (t':=s1.toks) fun b o e=>qAI _ e,turn_str _ z t ty hty,⟨_,qAc _ rfl,rfl,rfl⟩,fun b hb=>by
   have e:b=s1.heap.objs.size:=by simpa using hb
   subst e;exact I1.fpOk (qAF _) (I1.hok.fresh (qAF _)),q⟩
 cases ha:z.cps.all (·<128)
 ·exact wpAny_pyIter_wide ha (fin _ (.inr rfl))
 ·exact wpAny_pyIter_ascii ha (fin _ (.inl rfl))
theorem bls_get {bs:List Bool} {its:List Value} (r:Vals (bs.map V.bl) its) {i:Nat} {v:Value} (h:its[i]?=some v):v= .bool (bs.getD i false)/\i<bs.length:=by
 have hl:=r.length;rw [qAD] at hl;have hi:i<its.length:=(qAV.mp h).1;have hb:i<bs.length:=by lia
 have e:(bs.map V.bl)[i]?=some (V.bl bs[i]):=by simp [hb]
 obtain ⟨u,hu,ru⟩:=r.get e;rw [h] at hu
 cases hu
 refine ⟨?_,hb⟩;have:v= .bool bs[i]:=ru;rw [this,qBD];simp [hb]
theorem all_range (bs:List Bool):(List.range bs.length).all (fun i=>bs.getD i false)=bs.all id:=by
 rw [qB1];simp only [qA6,qA1];constructor
 ·intro h x hx;obtain ⟨i,hi,rfl⟩:=qA7.mp hx;have:=h i hi;simpa [qBD,hi] using this
 ·intro h i hi;have:=h bs[i] (qB7 hi);simpa [qBD,hi] using this
theorem any_range (bs:List Bool):(List.range bs.length).any (fun i=>bs.getD i false)=bs.any id:=by
 rw [qB1];simp only [List.any_eq_true,qA1];constructor
 ·rintro ⟨i,hi,h⟩;exact ⟨bs[i],qB7 hi,by simpa [qBD,hi] using h⟩
 ·rintro ⟨x,hx,h⟩;obtain ⟨i,hi,rfl⟩:=qA7.mp hx;exact ⟨i,hi,by simpa [qBD,hi] using h⟩
theorem zGq (X:Cx) (hc:X.calm=true):zC7 X (.builtin "all") (fun xs H Q=>∃(p:Addr) (bs:List Bool),xs=[.ref p]/\SqL X.K H p (bs.map V.bl)/\Q (.bl (bs.all id)) H):=by
 intro pins s σ H xs us Q I rv h;obtain ⟨p,bs,rfl,hq,q⟩:=h;obtain ⟨u,rfl,ru⟩:=rv.one
 cases ru
 obtain ⟨its,r,pl,hz⟩:=I.list hq;have hl:=r.length;rw [qAD] at hl;refine call_all_walk (qC4 pl.isList ?_);have hp:p<s.heap.objs.size:=by obtain ⟨o,n,e,_⟩:=pl;exact qAK e
 have I1:Inv X pins σ H {s with heap:=s.heap.push {cls:=.type "list_iterator",data:=.fields #[.ref p,.int 0 0]}}:=I.kept (t':=s.toks) fun b o e=>qAI _ e;refine ⟨s.heap.objs.size,_,_,_,_,_,fun i=>bs.getD i false,rfl,qCS (A:=X.A.in1) (show X.A.in1.handled=none from I.ok.hd hc) s.heap.objs.size p (qAN hp) its.toArray,⟨⟨_,qAc _ rfl,rfl,rfl⟩,pl.isList.at fun o e=>qAI _ e⟩,?_,fun h' tk hk=>?_⟩
 ·intro i v s' E' Q' hv hq';obtain ⟨rfl,_⟩:=bls_get r (by simpa using hv);exact qBB hq'
 ·have e:(List.range its.toArray.size).all (fun i=>bs.getD i false)=bs.all id:=by
   rw [qAJ,<-hl];exact all_range bs
  refine ⟨.bl (bs.all id),H,?_,by rw [e];rfl,q⟩;obtain ⟨f0,f1,f2,f3,f4,f5⟩:=I.fpOk (b:=s.heap.objs.size) (qAF _) (I.hok.fresh (qAF _));exact I1.turned (t':=tk) (fun b o hb e=>hk b o (by simpa using hb) e) f0 f1 f3 f4 f5
theorem call_any (X:Cx) (hc:X.calm=true):zC7 X (.builtin "any") (fun xs H Q=>∃(p:Addr) (bs:List Bool),xs=[.ref p]/\SqL X.K H p (bs.map V.bl)/\Q (.bl (bs.any id)) H):=by
 intro pins s σ H xs us Q I rv h;obtain ⟨p,bs,rfl,hq,q⟩:=h;obtain ⟨u,rfl,ru⟩:=rv.one
 cases ru
 obtain ⟨its,r,pl,hz⟩:=I.list hq;have hl:=r.length;rw [qAD] at hl;refine call_any_walk (qC4 pl.isList ?_);have hp:p<s.heap.objs.size:=by obtain ⟨o,n,e,_⟩:=pl;exact qAK e
 have I1:Inv X pins σ H {s with heap:=s.heap.push {cls:=.type "list_iterator",data:=.fields #[.ref p,.int 0 0]}}:=I.kept (t':=s.toks) fun b o e=>qAI _ e;refine ⟨s.heap.objs.size,_,_,_,_,_,fun i=>bs.getD i false,rfl,qCS (A:=X.A.in1) (show X.A.in1.handled=none from I.ok.hd hc) s.heap.objs.size p (qAN hp) its.toArray,⟨⟨_,qAc _ rfl,rfl,rfl⟩,pl.isList.at fun o e=>qAI _ e⟩,?_,fun h' tk hk=>?_⟩
 ·intro i v s' E' Q' hv hq';obtain ⟨rfl,_⟩:=bls_get r (by simpa using hv);exact qBB hq'
 ·have e:(List.range its.toArray.size).any (fun i=>bs.getD i false)=bs.any id:=by
   rw [qAJ,<-hl];exact any_range bs
  refine ⟨.bl (bs.any id),H,?_,by rw [e];rfl,q⟩;obtain ⟨f0,f1,f2,f3,f4,f5⟩:=I.fpOk (b:=s.heap.objs.size) (qAF _) (I.hok.fresh (qAF _));exact I1.turned (t':=tk) (fun b o hb e=>hk b o (by simpa using hb) e) f0 f1 f3 f4 f5
theorem zCa :zC7 X (.builtin "isinstance") (fun xs H Q=>∃x n t b,xs=[x,.ty n]/\TyOf X.K H x t/\PySem.W.kitOne X.K t (.type n)=some b/\Q (.bl b) H):=by
 intro pins s σ H xs us Q I rv h;obtain ⟨x,n,t,b,rfl,ty,e,q⟩:=h;obtain ⟨u,c,rfl,rx,rc⟩:=rv.two
 cases (show c=Value.type n from rc)
 exact isinst_ok I rx ty e fun tk=>⟨.bl b,H,I.tok tk,rfl,q⟩
theorem op_le_str :OpR X (compareOp .LtE) (fun x y H Q=>∃i j,x= .str i/\y= .str j/\Q (.bl (!(decide (j.cps.toList<i.cps.toList)))) H):=by
 intro pins s σ H x y v u Q I rx ry h;obtain ⟨i,j,rfl,rfl,q⟩:=h;obtain ⟨t,rfl⟩:=rx;obtain ⟨t',rfl⟩:=ry;exact PySem.P.le_str ⟨.bl _,H,I,rfl,q⟩
inductive Alike (K:PySem.W.Frag) (H:Hp):Nat->V->V->Prop
 | flat {n:Nat} {x:V} (fx:zEe x=true):Alike K H n x x
 | same {n:Nat} {a:Addr}:Alike K H n (.ref a) (.ref a)
 | lists {n:Nat} {a b:Addr} {xs ys:List V} (hx:SqL K H a xs) (hy:SqL K H b ys) (hl:xs.length=ys.length) (he:∀(i:Nat) (x y:V),xs[i]?=some x->ys[i]?=some y->Alike K H n x y):Alike K H (n+1) (.ref a) (.ref b)
 | tups {n:Nat} {a b:Addr} {xs ys:List V} (hx:SqT K H a xs) (hy:SqT K H b ys) (hl:xs.length=ys.length) (he:∀(i:Nat) (x y:V),xs[i]?=some x->ys[i]?=some y->Alike K H n x y):Alike K H (n+1) (.ref a) (.ref b)
theorem eqV_refl {x:V} (h:zEe x=true):eqV x x=true:=by
 cases x<;>simp [eqV]<;>simp [zEe] at h
section
variable {X:Cx} {pins:List (Addr×Obj)} {σ:St} {H:Hp} {s:Shared}
theorem zGr (n:Nat):(List.range n).all (fun _=>true)=true:=by simp
theorem alike_at (I:Inv X pins σ H s) {x y:V} (h:Alike X.K H n x y):∀{u v:Value} {A:Around},RelV x u->RelV y v->A.units+n<cLine->SeqAt.EqAt A s u v true:=by
 induction h with
 | flat fx =>
  intro u v A ru rv _;have q:=eqAt_V (A:=A) (s:=s) ru rv fx fx
  rwa [eqV_refl fx] at q
 | same =>
  intro u v A ru rv _
  cases ru
  cases rv
  exact qC6 _
 | @lists n a b xs ys hx hy hl he ih =>
  intro u v A ru rv hu
  cases ru
  cases rv
  by_cases ab:a=b
  ·subst ab;exact qC6 _
  ·obtain ⟨its,r,pl,hz⟩:=I.list hx;obtain ⟨its2,r2,pl2,hz2⟩:=I.list hy;have e1:=r.length;have e2:=r2.length
   have q:=SeqAt.RcAt.lists (A:=A) (s:=s) (e:=fun _=>true) pl.isList pl2.isList (by rw [qAJ,qAJ];lia) (by lia) (fun j h1 h2=>by
    rw [qAJ] at h1 h2;have hjx:xs[j]?=some (xs[j]'(by lia)):=by simp
    have hjy:ys[j]?=some (ys[j]'(by lia)):=by simp
    obtain ⟨u1,q1,ru1⟩:=r.get hjx;obtain ⟨v1,q2,rv1⟩:=r2.get hjy
    have e3:its.toArray[j]=u1:=by
     have:its[j]?=some its[j]:=by simp
     rw [this] at q1;simpa using q1
    have e4:its2.toArray[j]=v1:=by
     have:its2[j]?=some its2[j]:=by simp
     rw [this] at q2;simpa using q2
    rw [e3,e4];exact ih j _ _ hjx hjy ru1 rv1 (by show A.units+1+n<cLine;lia))
   rw [zGr] at q;exact SeqAt.EqAt.of_refs ab q
 | @tups n a b xs ys hx hy hl he ih =>
  intro u v A ru rv hu
  cases ru
  cases rv
  by_cases ab:a=b
  ·subst ab;exact qC6 _
  ·obtain ⟨its,r,pl,hz⟩:=I.tuple hx;obtain ⟨its2,r2,pl2,hz2⟩:=I.tuple hy;have e1:=r.length;have e2:=r2.length
   have q:=SeqAt.RcAt.tuples (A:=A) (s:=s) (e:=fun _=>true) (show s.heap.IsTuple a its.toArray from pl) (show s.heap.IsTuple b its2.toArray from pl2) (by lia) (fun j h1 h2=>by
    rw [qAJ] at h1 h2;have hjx:xs[j]?=some (xs[j]'(by lia)):=by simp
    have hjy:ys[j]?=some (ys[j]'(by lia)):=by simp
    obtain ⟨u1,q1,ru1⟩:=r.get hjx;obtain ⟨v1,q2,rv1⟩:=r2.get hjy
    have e3:its.toArray[j]=u1:=by
     have:its[j]?=some its[j]:=by simp
     rw [this] at q1;simpa using q1
    have e4:its2.toArray[j]=v1:=by
     have:its2[j]?=some its2[j]:=by simp
     rw [this] at q2;simpa using q2
    rw [e3,e4];exact ih j _ _ hjx hjy ru1 rv1 (by show A.units+1+n<cLine;lia))
   rw [zGr,Bool.true_and,qAJ,qAJ,<-e1,<-e2,hl,beq_self_eq_true] at q;exact SeqAt.EqAt.of_refs ab q
theorem zHn (I:Inv X pins σ H s) {xs ys:List V} {its its2:List Value} {A:Around} (r:Vals xs its) (r2:Vals ys its2) (he:∀(i:Nat) (x y:V),xs[i]?=some x->ys[i]?=some y->Alike X.K H n x y) (hu:A.units+n<cLine) :
  ∀j (h1:j<its.toArray.size) (h2:j<its2.toArray.size),SeqAt.EqAt A s its.toArray[j] its2.toArray[j] true:=fun j h1 h2=>by
 have e1:=r.length;have e2:=r2.length;rw [qAJ] at h1 h2;have hjx:xs[j]?=some (xs[j]'(by lia)):=by simp
 have hjy:ys[j]?=some (ys[j]'(by lia)):=by simp
 obtain ⟨u1,q1,ru1⟩:=r.get hjx;obtain ⟨v1,q2,rv1⟩:=r2.get hjy
 have e3:its.toArray[j]=u1:=by
  have:its[j]?=some its[j]:=by simp
  rw [this] at q1;simpa using q1
 have e4:its2.toArray[j]=v1:=by
  have:its2[j]?=some its2[j]:=by simp
  rw [this] at q2;simpa using q2
 rw [e3,e4];exact alike_at I (he j _ _ hjx hjy) ru1 rv1 hu
end
def zH7 (K:PySem.W.Frag) (n:Nat) (b:Bool):R2:=fun x y H Q=>∃a c xs ys,x= .ref a/\y= .ref c/\SqL K H a xs/\SqL K H c ys/\xs.length=ys.length/\(∀(i:Nat) (x y:V),xs[i]?=some x->ys[i]?=some y->Alike K H n x y)/\Q (.bl b) H
def zH6 (K:PySem.W.Frag) (b:Bool):R2:=fun x y H Q=>∃a c xs ys,x= .ref a/\y= .ref c/\SqL K H a xs/\SqL K H c ys/\xs.length≠ys.length/\Q (.bl b) H
section
variable {X:Cx}
theorem op_eqA (hu:X.A.units+1+n<cLine):OpR X (compareOp .Eq) (zH7 X.K n true):=by
 intro pins s σ H x y v u Q I rx ry h;obtain ⟨a,c,xs,ys,rfl,rfl,hx,hy,hl,he,q⟩:=h
 cases rx
 cases ry
 obtain ⟨its,r,pl,hz⟩:=I.list hx;obtain ⟨its2,r2,pl2,hz2⟩:=I.list hy;have e1:=r.length;have e2:=r2.length;refine SeqAt.eq_listAt (e:=fun _=>true) pl.isList pl2.isList (by rw [qAJ,qAJ];lia) (by lia) (zHn I r r2 he (by show X.A.units+1+n<cLine;lia)) ?_;rw [zGr];exact ⟨.bl true,H,I,rfl,q⟩
theorem op_neA (hu:X.A.units+1+n<cLine):OpR X (compareOp .NotEq) (zH7 X.K n false):=by
 intro pins s σ H x y v u Q I rx ry h;obtain ⟨a,c,xs,ys,rfl,rfl,hx,hy,hl,he,q⟩:=h
 cases rx
 cases ry
 obtain ⟨its,r,pl,hz⟩:=I.list hx;obtain ⟨its2,r2,pl2,hz2⟩:=I.list hy;have e1:=r.length;have e2:=r2.length;refine SeqAt.RcNeAt.lists (e:=fun _=>true) pl.isList pl2.isList (by rw [qAJ,qAJ];lia) (by lia) (zHn I r r2 he (by show X.A.units+1+n<cLine;lia)) X.prog X.w X.xe _ ?_;rw [zGr];exact ⟨.bl false,H,I,rfl,q⟩
theorem op_eqU (hu:X.A.units<cLine):OpR X (compareOp .Eq) (zH6 X.K false):=by
 intro pins s σ H x y v u Q I rx ry h;obtain ⟨a,c,xs,ys,rfl,rfl,hx,hy,hl,q⟩:=h
 cases rx
 cases ry
 obtain ⟨its,r,pl,hz⟩:=I.list hx;obtain ⟨its2,r2,pl2,hz2⟩:=I.list hy;have e1:=r.length;have e2:=r2.length;exact SeqAt.eq_list_lengthsAt pl.isList pl2.isList (by rw [qAJ,qAJ];simp;lia) hu ⟨.bl false,H,I,rfl,q⟩
theorem OpR.either {f:Value->Value->Sem Value} {r r':R2} (h:OpR X f r) (h':OpR X f r'):OpR X f (fun x y H Q=>r x y H Q\/r' x y H Q):=by
 intro pins s σ H x y v u Q I rx ry q;rcases q with q| q
 ·exact h pins s σ H x y v u Q I rx ry q
 ·exact h' pins s σ H x y v u Q I rx ry q
end
end L2
namespace SM
open PySem PySem.StrLaws PySem.Builtin PySem.Builtin.Str
end SM
namespace L2
open PySem PySem.Spec PyProof.Rows
variable {M:List Addr}{H H1 H':Hp}{a D:Addr}{σ:St}{g:TG}{te:TE}
structure Cal (P:Program) (w:World) (K:PySem.W.Frag) (mg:Str->Option Value) (base:Heap) (x:Str) (k:Nat) (ps:List Str) (sp:Sp):Prop where
 to:∃(f:Addr) (fd:FuncData),mg x=some (.ref f)/\PySem.W.keepIn K (.ref f)=true/\zD0 K fd ps []/\FnOk P w K mg base CX0 k f fd ps sp
theorem zAg {X:Cx} {x:Str} {k:Nat} {ps:List Str} {sp:Sp} {e:Expr} {es:List Expr} {p pos:Pos} {t:TA} (C:Cal X.prog X.w X.K X.mg X.base x k ps sp) (hr:Room k X.A) (hg:Gl X x) (ha:PA X (e::es) t)
  (hdb:(x==("__debug__" : Str))=false:=by decide) (he:starEach (e::es) X.env=(false,eval e X.env)::starEach es X.env:=by rfl) (hpl:(backTo pos (starEach es X.env)).any (·.1)=false:=by rfl) :
  PE X (.Call (.Name x p) (e::es) [] pos) (tCall sp [] E0 t):=by
 obtain ⟨f,fd,h1,h2,h3,h4⟩:=C.to;exact pe_call h4 hr hg h1 h2 h3 .nil pass0 ha hdb he hpl
theorem bo_max:bootBuiltins "max" = some (.builtin "max"):=by decide +kernel
theorem bo_min:bootBuiltins "min" = some (.builtin "min"):=by decide +kernel
theorem bo_all:bootBuiltins "all" = some (.builtin "all"):=by decide +kernel
theorem bo_any:bootBuiltins "any" = some (.builtin "any"):=by decide +kernel
theorem zAp:bootBuiltins "isinstance" = some (.builtin "isinstance"):=by decide +kernel
theorem zEh:bootBuiltins "sorted" = some (.builtin "sorted"):=by decide +kernel
theorem bo_sum:bootBuiltins "sum" = some (.builtin "sum"):=by decide +kernel
theorem zCe:bootBuiltins "len" = some (.builtin "len"):=by decide +kernel
theorem bo_int:bootBuiltins "int" = some (.type "int"):=by decide +kernel
theorem bo_str:bootBuiltins "str" = some (.type "str"):=by decide +kernel
theorem zCr:bootBuiltins "list" = some (.type "list"):=by decide +kernel
theorem bo_tuple:bootBuiltins "tuple" = some (.type "tuple"):=by decide +kernel
theorem bo_set:bootBuiltins "set" = some (.type "set"):=by decide +kernel
theorem bo_bool:bootBuiltins "bool" = some (.type "bool"):=by decide +kernel
theorem bo_reversed:bootBuiltins "reversed" = some (.type "reversed"):=by decide +kernel
def Fre (H:Hp) (l:Addr):Prop:=H l=none
def Kp (M:List Addr) (H H':Hp):Prop:=∀b o,H b=some o->b∉M->H' b=some o
theorem Kp.refl :Kp M H H:=fun _ _ h _=>h
theorem Kp.trans {H2:Hp} (a:Kp M H H1) (b:Kp M H1 H2):Kp M H H2:=fun c o h n=>b c o (a c o h n) n
theorem Kp.weak {M':List Addr} (k:Kp M H H') (s:∀b,b∈M->b∈M'):Kp M' H H':=fun b o h n=>k b o h fun z=>n (s b z)
theorem Kp.new {M:List Addr} {l:Addr} {o:HO} (k:Kp M H H') (f:Fre H l):Kp M H (upd H' l o):=fun b u h n=>by
 rw [upd_ne (zAj h f)];exact k b u h n
theorem Kp.put {l:Addr} {o:HO} (k:Kp M H H') (f:l∈M):Kp M H (upd H' l o):=fun b u h n=>by
 rw [upd_ne (by intro e;subst e;exact n f)];exact k b u h n
theorem Kp.fre {l:Addr} (k:Kp M H H') (f:Fre H' l) (n:l∉M):Fre H l:=by
 unfold Fre
 cases q:H l with
 | none=>rfl
 | some o =>
  have:=k l o q n;unfold Fre at f;rw [f] at this;cases this
theorem ne_fre {b:Addr} {o:HO} (f:Fre H b) (h:H a=some o):a≠b:=zAj h f
theorem nm1 {b:Addr} (h:a≠b):a∉[b]:=by simpa using h
theorem nm2 {b c:Addr} (h:a≠b) (h':a≠c):a∉[b,c]:=by simp;exact ⟨h,h'⟩
theorem zDz {α:Type} {xs:List α} {i:Int} {v:α} (h0:0<=i) (h:xs[i.toNat]?=some v):atI xs i=some v:=by
 have hl:i.toNat<xs.length:=(qAV.mp h).1;unfold atI ixN;rw [qAC h0,qAC (by lia)];exact h
theorem atI_natc {α:Type} {xs:List α} {n:Nat} {v:α} (h:xs[n]?=some v):atI xs (n:Int)=some v:=zDz (by lia) (by simpa using h)
theorem hu2 {A:Around} {k n:Nat} (hr:Room k A) (h:n<=60:=by decide):A.units+1+n<cLine:=by
 have:=hr.units;lia
theorem hu0 {A:Around} {k:Nat} (hr:Room k A):A.units<cLine:=by
 have:=hr.units;lia
theorem op_eqL {X:Cx} {k:Nat} (hr:Room k X.A):OpR X (compareOp .Eq) (fun x y H Q=>zH7 X.K 8 true x y H Q\/zH6 X.K false x y H Q):=(op_eqA (hu2 hr)).either (op_eqU (hu0 hr))
theorem zCi {K:PySem.W.Frag} {t:Value} (h:(t==t)=true:=by rfl):PySem.W.kitOne K t t=some true:=by
 unfold PySem.W.kitOne;rw [qAC h]
theorem seq_mid {t u:TS} {D:Ends} (Mid:St->Hp->Prop) (h1:∀N:St->Hp->Prop,(∀σ H,Mid σ H->N σ H)->t {D with nx:=N} σ H) (h2:∀σ H,Mid σ H->u D σ H):tSeq t u D σ H:=h1 (u D) h2
theorem if_mid {tb:TS} {D:Ends} {b:Bool} (Mid:St->Hp->Prop) (h1:∀N:St->Hp->Prop,(∀σ H,Mid σ H->N σ H)->if b=true then tb {D with nx:=N} σ H else N σ H) (h2:∀σ H,Mid σ H->D.nx σ H) :
  if b=true then tb D σ H else tNext D σ H:=h1 D.nx h2
theorem zBm {K:PySem.W.Frag} {ix:List (Option Nat)} {tt:TT} {QD:Hp->Prop} (xs:List V) (Pv:Nat->List V->St->Hp->Prop) (h0:Pv 0 [] (zC5 σ ix) (upd H1 D (.lst [])))
  (hl:∀i ys τ H,Pv i ys τ H->SqL K H a xs)
  (hs:∀i x ys τ H,xs[i]?=some x->Pv i ys τ H->g x τ H fun τ' H4=>tt τ' H4 fun b H5=>if b=true then te τ' H5 fun v H6=>H6 D=some (.lst ys)/\ys.length<sizeLine/\Pv (i+1) (ys++[v]) τ' (upd H6 D (.lst (ys++[v]))) else Pv (i+1) ys τ' H5)
  (hd:∀ys τ H,Pv xs.length ys τ H->QD H) :
  ∃W:Nat->Nat->List V->St->Hp->Prop,(∃m,W 0 m [] (zC5 σ ix) (upd H1 D (.lst [])))/\∀i m ys τ H2,W i m ys τ H2 ->
   ((Itl K a).stop i H2/\QD H2)\/((Itl K a).go i H2/\∃N:List V->St->Hp->Prop,(∀ys' τ' H',N ys' τ' H'->∃m',m'<m/\W (i+1) m' ys' τ' H')/\∀x H3,(Itl K a).yld i H2 x H3->g x τ H3 fun τ' H4=>tt τ' H4 fun b H5 =>
    if b=true then te τ' H5 fun v H6=>H6 D=some (.lst ys)/\ys.length<sizeLine/\N (ys++[v]) τ' (upd H6 D (.lst (ys++[v])))
    else N ys τ' H5):=by
 refine comp_by (Q:=fun _ H=>QD H) xs Pv h0 (fun i ys τ H p=>⟨fun x hx=>⟨⟨xs,x,hl i ys τ H p,hx⟩,fun y H' yl=>?_⟩,fun e=>⟨xs,hl i ys τ H p,by lia⟩⟩) hs hd;obtain ⟨e,z⟩:=yl;subst e;have:=z xs (hl i ys τ _ p);rw [hx] at this;exact ⟨rfl,(qAh this).symm⟩
theorem comp_str {z:Str} {ix:List (Option Nat)} {tt:TT} {QD:Hp->Prop} (Pv:Nat->List V->St->Hp->Prop) (h0:Pv 0 [] (zC5 σ ix) (upd H1 D (.lst [])))
  (hs:∀i c ys τ H,z.cps.toList[i]?=some c->Pv i ys τ H->g (.str ⟨#[c]⟩) τ H fun τ' H4=>tt τ' H4 fun b H5=>if b=true then te τ' H5 fun v H6=>H6 D=some (.lst ys)/\ys.length<sizeLine/\Pv (i+1) (ys++[v]) τ' (upd H6 D (.lst (ys++[v]))) else Pv (i+1) ys τ' H5)
  (hd:∀ys τ H,Pv z.length ys τ H->QD H) :
  ∃W:Nat->Nat->List V->St->Hp->Prop,(∃m,W 0 m [] (zC5 σ ix) (upd H1 D (.lst [])))/\∀i m ys τ H2,W i m ys τ H2 ->
   ((Its z).stop i H2/\QD H2)\/((Its z).go i H2/\∃N:List V->St->Hp->Prop,(∀ys' τ' H',N ys' τ' H'->∃m',m'<m/\W (i+1) m' ys' τ' H')/\∀x H3,(Its z).yld i H2 x H3->g x τ H3 fun τ' H4=>tt τ' H4 fun b H5 =>
    if b=true then te τ' H5 fun v H6=>H6 D=some (.lst ys)/\ys.length<sizeLine/\N (ys++[v]) τ' (upd H6 D (.lst (ys++[v])))
    else N ys τ' H5):=by
 refine ⟨fun i m ys τ H=>m=z.length - i/\i<=z.length/\Pv i ys τ H,⟨z.length,by simp,qAd _,h0⟩,?_⟩;rintro i m ys τ H ⟨rfl,hi,p⟩
 by_cases hlt:i<z.length
 ·refine .inr ⟨hlt,Pv (i+1),fun ys' τ' H' p'=>⟨z.length - (i+1),by lia,rfl,hlt,p'⟩,fun y H' yd=>?_⟩;obtain ⟨e1,c,e2,e3⟩:=yd;subst e1 e3;exact hs i c ys τ _ (by simpa using e2) p
 ·have e:i=z.length:=by lia
  subst e;exact .inl ⟨qAF _,hd ys τ H p⟩
theorem zBg {K:PySem.W.Frag} {ix:List (Option Nat)} {QD:Hp->Prop} (xs:List V) (Pv:Nat->List V->St->Hp->Prop) (h0:Pv 0 [] (zC5 σ ix) (upd H1 D (.lst [])))
  (hl:∀i ys τ H,Pv i ys τ H->SqL K H a xs)
  (hs:∀i x ys τ H,xs[i]?=some x->Pv i ys τ H->g x τ H fun τ' H4=>te τ' H4 fun v H6=>H6 D=some (.lst ys)/\ys.length<sizeLine/\Pv (i+1) (ys++[v]) τ' (upd H6 D (.lst (ys++[v]))))
  (hd:∀ys τ H,Pv xs.length ys τ H->QD H) :
  ∃W:Nat->Nat->List V->St->Hp->Prop,(∃m,W 0 m [] (zC5 σ ix) (upd H1 D (.lst [])))/\∀i m ys τ H2,W i m ys τ H2 ->
   ((Itl K a).stop i H2/\QD H2)\/((Itl K a).go i H2/\∃N:List V->St->Hp->Prop,(∀ys' τ' H',N ys' τ' H'->∃m',m'<m/\W (i+1) m' ys' τ' H')/\∀x H3,(Itl K a).yld i H2 x H3->g x τ H3 fun τ' H4=>tTrue τ' H4 fun b H5 =>
    if b=true then te τ' H5 fun v H6=>H6 D=some (.lst ys)/\ys.length<sizeLine/\N (ys++[v]) τ' (upd H6 D (.lst (ys++[v])))
    else N ys τ' H5):=zBm (tt:=tTrue) xs Pv h0 hl hs hd
theorem comp_str0 {z:Str} {ix:List (Option Nat)} {QD:Hp->Prop} (Pv:Nat->List V->St->Hp->Prop) (h0:Pv 0 [] (zC5 σ ix) (upd H1 D (.lst [])))
  (hs:∀i c ys τ H,z.cps.toList[i]?=some c->Pv i ys τ H->g (.str ⟨#[c]⟩) τ H fun τ' H4=>te τ' H4 fun v H6=>H6 D=some (.lst ys)/\ys.length<sizeLine/\Pv (i+1) (ys++[v]) τ' (upd H6 D (.lst (ys++[v]))))
  (hd:∀ys τ H,Pv z.length ys τ H->QD H) :
  ∃W:Nat->Nat->List V->St->Hp->Prop,(∃m,W 0 m [] (zC5 σ ix) (upd H1 D (.lst [])))/\∀i m ys τ H2,W i m ys τ H2 ->
   ((Its z).stop i H2/\QD H2)\/((Its z).go i H2/\∃N:List V->St->Hp->Prop,(∀ys' τ' H',N ys' τ' H'->∃m',m'<m/\W (i+1) m' ys' τ' H')/\∀x H3,(Its z).yld i H2 x H3->g x τ H3 fun τ' H4=>tTrue τ' H4 fun b H5 =>
    if b=true then te τ' H5 fun v H6=>H6 D=some (.lst ys)/\ys.length<sizeLine/\N (ys++[v]) τ' (upd H6 D (.lst (ys++[v])))
    else N ys τ' H5):=comp_str (tt:=tTrue) Pv h0 hs hd
section
variable {X:Cx} {K:PySem.W.Frag}
theorem zEo (hK:X.K=K:=by rfl):IxR X (rIxL K):=by subst hK;exact zA5
theorem zJc (hK:X.K=K:=by rfl):zC7 X (.builtin "len") (fun xs H Q=>∃p ys,xs=[.ref p]/\(SqL K H p ys\/SqT K H p ys)/\Q (.int ys.length) H):=by subst hK;exact zAl
theorem zIs (hK:X.K=K:=by rfl):OpR X (compareOp .NotIn) (rIn K true):=by subst hK;exact zD6
end
theorem Kp.drop {H2:Hp} {p:Addr} (k1:Kp [] H H1) (f:Fre H p) (k2:Kp [p] H1 H2):Kp [] H H2:=fun b o h _=>k2 b o (k1 b o h (by simp)) (nm1 (ne_fre f h))
end L2
namespace Tim
open PySem PyProof.Rows
variable {i:Nat}{st:SortSt}
def gal:Bool->Keyed->Array Keyed->Nat->Nat->Nat->StateT SortSt Sem (Option Nat):=sortPriv% PySem.Builtin.gallop
def mLo:Array Keyed->Array Keyed->StateT SortSt Sem (Array Keyed):=sortPriv% PySem.Builtin.mergeLo
def mHi:Array Keyed->Array Keyed->StateT SortSt Sem (Array Keyed):=sortPriv% PySem.Builtin.mergeHi
def kk (κ:KeyKind) (p:Keyed):κ.α:=(κ.keyOf p.1).getD κ.dflt
def Has (κ:KeyKind) (p:Keyed):Prop:=∃a,κ.keyOf p.1=some a
theorem Has.key {κ:KeyKind} {p:Keyed} (h:Has κ p):κ.keyOf p.1=some (kk κ p):=by
 obtain ⟨a,e⟩:=h;unfold kk;rw [e];rfl
theorem KK_at {κ:KeyKind} {xs:Array Keyed} {p:Keyed} (h:xs[i]?=some p):KK κ xs i=kk κ p:=by
 unfold KK kk;rw [h]
def CmpOk (prog:Program) (w:World) (A:Around) (s:Shared) (kd:SortKind) (κ:KeyKind):Prop :=
 ∀(E:Value->Shared->Prop) (x y:Value) (a b:κ.α) (Q:Bool->Shared->Prop),κ.keyOf x=some a->κ.keyOf y=some b->Q (κ.blt a b) s->wpAny (model prog w) A (keyLt' kd x y) Q E s
section
variable {prog:Program} {w:World} {A:Around} {E:Value->Shared->Prop} {s:Shared} {kd:SortKind} {κ:KeyKind}
theorem w_lt {x y:Keyed} {Q:Option Bool->SortSt->Prop} (C:CmpOk prog w A s kd κ) (hk:kindOf st=kd) (hx:Has κ x) (hy:Has κ y) (h:Q (some (κ.blt (kk κ x) (kk κ y))) st):wpS (model prog w) A E s (lt' x y) Q st:=by
 rw [lt'_eq];refine qAG (qBO ?_);rw [hk];exact qAG (qBq (qCT (C _ x.1 y.1 _ _ _ hx.key hy.key ⟨rfl,qAH h⟩)))
theorem zBa {arr:Array Keyed} {p:Keyed} {Q:Keyed->SortSt->Prop} (e:arr[i]?=some p) (h:Q p st):wpS (model prog w) A E s (elem' arr i) Q st:=by
 rw [elem'_eq,e];exact qAH h
theorem w_ltAt {j:Nat} {Q:Option Bool->SortSt->Prop} (C:CmpOk prog w A s kd κ) (hk:kindOf st=kd) (hi:∃p,(arrOf st)[i]?=some p/\Has κ p) (hj:∃p,(arrOf st)[j]?=some p/\Has κ p)
  (h:Q (some (κ.blt (KK κ (arrOf st) i) (KK κ (arrOf st) j))) st):wpS (model prog w) A E s (ltAt' i j) Q st:=by
 obtain ⟨p,e1,h1⟩:=hi;obtain ⟨q,e2,h2⟩:=hj;rw [KK_at e1,KK_at e2] at h;rw [ltAt'_eq];exact qAG (qBO (qAG (zBa e1 (qAG (zBa e2 (w_lt C hk h1 h2 h))))))
def byd (left:Bool) (key:Keyed) (arr:Array Keyed) (base i:Nat):StateT SortSt Sem (Option Bool):=do
 let x<-elem' arr (base+i)
 if left=true then lt' x key else (do let r<-lt' key x;pure (r.map fun b=>!b))
theorem w_byd {left:Bool} {key:Keyed} {arr:Array Keyed} {base:Nat} {Q:Option Bool->SortSt->Prop} (C:CmpOk prog w A s kd κ) (hk:kindOf st=kd) (hkey:Has κ key) (hi:∃p,arr[base+i]?=some p/\Has κ p)
  (h:Q (some (if left=true then κ.blt (KK κ arr (base+i)) (kk κ key) else !κ.blt (kk κ key) (KK κ arr (base+i)))) st):wpS (model prog w) A E s (byd left key arr base i) Q st:=by
 obtain ⟨p,e,hp⟩:=hi;rw [KK_at e] at h;refine qAG (zBa e ?_)
 cases left with
 | true=>exact w_lt C hk hp hkey h
 | false=>exact qAG (w_lt C hk hkey hp (qAH h))
end
end Tim
namespace ST
open PySem PySem.SetTable
variable {xs:Array Nat}{i j mask N:Nat}{α:Type}{hs:List Int}{b:Addr}
abbrev Rise (l:List Nat):Prop:=l.Pairwise (·<·)
theorem zEl (hr:Rise xs.toList) {k:Nat} {x y:Nat} (hik:i<k) (ex:xs[i]?=some x) (ey:xs[k]?=some y):x<y:=by
 rw [<-qAm] at ex ey;obtain ⟨hi,rfl⟩:=qAV.mp ex;obtain ⟨hk,rfl⟩:=qAV.mp ey;exact List.pairwise_iff_getElem.mp hr i k hi hk hik
structure Bel (xs:Array Nat) (j r:Nat):Prop where
 le:r<=xs.size
 lo:∀i x,i<r->xs[i]?=some x->x<j
 hi:∀i x,r<=i->xs[i]?=some x->j<=x
theorem zJe (hr:Rise xs.toList) :∀(fuel lo hi:Nat),hi - lo<=fuel->lo<=hi->hi<=xs.size->(∀i x,i<lo->xs[i]?=some x->x<j)->(∀i x,hi<=i->xs[i]?=some x->j<=x)->Bel xs j (below.go xs j fuel lo hi)
 | 0,lo,hi,h1,h2,h3,h4,h5=>by
  have e:lo=hi:=by lia
  subst e;exact ⟨h3,h4,h5⟩
 | fuel+1,lo,hi,h1,h2,h3,h4,h5=>by
  unfold below.go
  by_cases c:lo<hi
  ·rw [qAC c];have hm:(lo+hi) / 2<xs.size:=by lia
   have em:xs[(lo+hi) / 2]?=some xs[(lo+hi) / 2]:=by simp
   have eD:xs.getD ((lo+hi) / 2) j=xs[(lo+hi) / 2]:=by simp [Array.getD,hm]
   show Bel xs j (if xs.getD ((lo+hi) / 2) j<j then _ else _);rw [eD]
   by_cases d:xs[(lo+hi) / 2]<j
   ·rw [qAC d];refine zJe hr fuel _ hi (by lia) (by lia) h3 (fun i x hi' ex=>?_) h5
    by_cases q:i=(lo+hi) / 2
    ·subst q;rw [em] at ex;cases ex;exact d
    ·have:=zEl hr (show i<(lo+hi) / 2 by lia) ex em;lia
   ·rw [qAB d];refine zJe hr fuel lo _ (by lia) (by lia) (by lia) h4 (fun i x hi' ex=>?_)
    by_cases q:i=(lo+hi) / 2
    ·subst q;rw [em] at ex;cases ex;lia
    ·have:=zEl hr (show (lo+hi) / 2<i by lia) em ex;lia
  ·rw [qAB c];have e:lo=hi:=by lia
   subst e;exact ⟨h3,h4,h5⟩
theorem zEr (hr:Rise xs.toList) (j:Nat):Bel xs j (below xs j) :=
 zJe hr xs.size 0 xs.size (by lia) (by lia) (qAF _) (fun i x h=>by lia) (fun i x h e=>by
  have:=(qBr.mp e).1;lia)
theorem Bel.at (hr:Rise xs.toList) {r:Nat} (B:Bel xs j r) (e:xs[i]?=some j):r=i:=by
 rcases Nat.lt_trichotomy r i with z| z| z
 ·have hi:i<xs.size:=(qBr.mp e).1;have er:xs[r]?=some (xs[r]'(by lia)):=by simp
  have h1:=B.hi r _ (qAF _) er;have h2:=zEl hr z er e;lia
 ·exact z
 ·have:=B.lo i j z e;lia
def Tb (mask:Nat):SetTable:={mask:=mask,place:=#[],dummies:=#[],finger:=0,led:=false,moves:=0,plain:=false}
def pr (mask:Nat) (h:Int):Nat->Probe
 | 0=>(Tb mask).probeStart h
 | n+1=>(Tb mask).advance (pr mask h n)
def rs (mask:Nat) (h:Int):Nat->Nat×Nat
 | 0=>(bits h % (mask+1),bits h)
 | r+1=>leap mask (rs mask h r).1 (rs mask h r).2
def stt (mask:Nat) (h:Int):Nat->Nat
 | 0=>0
 | r+1=>stt mask h r+(runEnd mask (rs mask h r).1 - (rs mask h r).1+1)
theorem rs_le (mask:Nat) (h:Int):∀r,(rs mask h r).1<=mask
 | 0=>Nat.le_of_lt_succ (Nat.mod_lt _ (Nat.succ_pos _))
 | r+1=>Nat.le_of_lt_succ (Nat.mod_lt _ (Nat.succ_pos _))
theorem run_le (mask i:Nat) (hi:i<=mask):i<=runEnd mask i/\runEnd mask i<=mask/\runEnd mask i - i<=9:=by
 unfold runEnd;split<;>lia
theorem stt_le (mask:Nat) (h:Int):∀r,stt mask h r<=10*r
 | 0=>qAF _
 | r+1=>by
  have h1:=stt_le mask h r;have h2:=(run_le mask _ (rs_le mask h r)).2.2;show stt mask h r+(runEnd mask (rs mask h r).1 - (rs mask h r).1+1)<=_;lia
theorem adv_more (mask:Nat) (p:Probe) (h:p.more>0):(Tb mask).advance p={p with j:=p.j+1,more:=p.more - 1}:=by
 unfold advance;rw [qAC h]
theorem adv_leap (mask:Nat) (p:Probe) (h:p.more=0):(Tb mask).advance p={p with j:=(leap mask p.i p.perturb).1,more:=runEnd mask (leap mask p.i p.perturb).1 - (leap mask p.i p.perturb).1,i:=(leap mask p.i p.perturb).1,perturb:=(leap mask p.i p.perturb).2}:=by
 unfold advance;rw [qAB (by lia)];rfl
theorem zFg (mask:Nat) (h:Int):∀(r k:Nat),k<=runEnd mask (rs mask h r).1 - (rs mask h r).1 ->
  pr mask h (stt mask h r+k)={j:=(rs mask h r).1+k,more:=runEnd mask (rs mask h r).1 - (rs mask h r).1 - k,i:=(rs mask h r).1,perturb:=(rs mask h r).2,dummy:=none}
 | 0,0,_=>rfl
 | r+1,0,_=>by
  have ih:=zFg mask h r (runEnd mask (rs mask h r).1 - (rs mask h r).1) (qAF _);show pr mask h (stt mask h r+(runEnd mask (rs mask h r).1 - (rs mask h r).1)+1)=_;show (Tb mask).advance (pr mask h (stt mask h r+(runEnd mask (rs mask h r).1 - (rs mask h r).1)))=_;rw [ih,adv_leap _ _ (by simp)];rfl
 | r,k+1,hk=>by
  have ih:=zFg mask h r k (by lia);show (Tb mask).advance (pr mask h (stt mask h r+k))=_;rw [ih,adv_more _ _ (by show _ - k>0;lia)];simp only [Probe.mk.injEq];exact ⟨by lia,by lia,trivial,trivial,trivial⟩
theorem pr_at (mask:Nat) (h:Int) (n:Nat):∃r k,n=stt mask h r+k/\k<=runEnd mask (rs mask h r).1 - (rs mask h r).1:=by
 induction n with
 | zero=>exact ⟨0,0,rfl,qAd _⟩
 | succ n ih =>
  obtain ⟨r,k,e,hk⟩:=ih
  by_cases c:k<runEnd mask (rs mask h r).1 - (rs mask h r).1
  ·exact ⟨r,k+1,by lia,c⟩
  ·refine ⟨r+1,0,?_,qAd _⟩;show n+1=stt mask h r+(runEnd mask (rs mask h r).1 - (rs mask h r).1+1)+0;lia
theorem pr_le (mask:Nat) (h:Int) (n:Nat):(pr mask h n).j<=mask:=by
 obtain ⟨r,k,e,hk⟩:=pr_at mask h n;rw [e,zFg mask h r k hk];have:=run_le mask _ (rs_le mask h r);show (rs mask h r).1+k<=mask;lia
theorem pr_dummy (mask:Nat) (h:Int) (n:Nat):(pr mask h n).dummy=none:=by
 obtain ⟨r,k,e,hk⟩:=pr_at mask h n;rw [e,zFg mask h r k hk]
theorem bits_lt (h:Int):bits h<2^64:=by
 unfold bits;have h1:=qCU h (show (2^64:Int)≠0 by decide);have h2:=qCV h (show (0:Int)<2^64 by decide);lia
theorem rs_pert (mask:Nat) (h:Int):∀r,(rs mask h r).2=bits h / 32^r
 | 0=>by simp [rs]
 | r+1=>by
  show (rs mask h r).2 / 32=_;rw [rs_pert mask h r,Nat.div_div_eq_div_mul,Nat.pow_succ]
theorem rs_pert0 (mask:Nat) (h:Int) (r:Nat) (hr:13<=r):(rs mask h r).2=0:=by
 rw [rs_pert];have h1:=bits_lt h;have h2:32^13<=32^r:=Nat.pow_le_pow_right (by decide) hr;have h3:(2:Nat)^64<32^13:=by decide
 exact Nat.div_eq_of_lt (by lia)
def f5 (mask i:Nat):Nat:=(i*5+1) % (mask+1)
def it5 (mask:Nat):Nat->Nat->Nat
 | 0,i=>i
 | n+1,i=>it5 mask n (f5 mask i)
theorem zHj (mask:Nat):∀(a b i:Nat),it5 mask (a+b) i=it5 mask b (it5 mask a i)
 | 0,b,i=>by rw [Nat.zero_add];rfl
 | a+1,b,i=>by
  rw [show a+1+b=(a+b)+1 by lia];show it5 mask (a+b) (f5 mask i)=it5 mask b (it5 mask a (f5 mask i));exact zHj mask a b _
theorem rs_it5 (mask:Nat) (h:Int) (n:Nat):(rs mask h (13+n)).1=it5 mask n (rs mask h 13).1:=by
 induction n with
 | zero=>rfl
 | succ n ih =>
  show (leap mask (rs mask h (13+n)).1 (rs mask h (13+n)).2).1=_;rw [rs_pert0 mask h (13+n) (by lia),ih,show n+1=n+1 from rfl,zHj mask n 1];show ((it5 mask n _)*5+1+0 / 32) % (mask+1)=f5 mask (it5 mask n _);unfold f5;simp
def Msk (mask:Nat):Prop:=mask=7\/mask=31\/mask=127\/mask=511
def orb (mask:Nat):Nat->Nat->List Nat
 | 0,_=>[]
 | n+1,i=>i::orb mask n (f5 mask i)
theorem orb_mem (mask:Nat):∀(n i s:Nat),s∈orb mask n i->∃a,a<n/\it5 mask a i=s
 | 0,i,s,h=>by simp [orb] at h
 | n+1,i,s,h=>by
  rcases qAO.mp h with z| z
  ·exact ⟨0,by lia,z.symm⟩
  ·obtain ⟨a,ha,e⟩:=orb_mem mask n (f5 mask i) s z;exact ⟨a+1,by lia,e⟩
theorem orb_all (hm:Msk mask):(List.range (mask+1)).all (fun s=>(orb mask (mask+1) 0).contains s)=true/\it5 mask (mask+1) 0=0:=by
 rcases hm with rfl| rfl| rfl| rfl
 ·exact ⟨by decide +kernel,by decide +kernel⟩
 ·exact ⟨by decide +kernel,by decide +kernel⟩
 ·exact ⟨by decide +kernel,by decide +kernel⟩
 ·exact ⟨by decide +kernel,by decide +kernel⟩
theorem cyc (hm:Msk mask) (i s:Nat) (hi:i<=mask) (hs:s<=mask):∃r,r<=mask/\it5 mask r i=s:=by
 obtain ⟨h1,h2⟩:=orb_all hm
 have get:∀x,x<=mask->∃a,a<mask+1/\it5 mask a 0=x:=fun x hx=>by
  have:=qA6.mp h1 x (qA1.mpr (by lia));exact orb_mem mask (mask+1) 0 x (by simpa using this)
 obtain ⟨a,ha,ea⟩:=get i hi;obtain ⟨b,hb,eb⟩:=get s hs
 by_cases c:a<=b
 ·refine ⟨b - a,by lia,?_⟩;rw [<-ea,<-zHj,show a+(b - a)=b by lia,eb]
 ·refine ⟨mask+1 - a+b,by lia,?_⟩;rw [<-ea,<-zHj,show a+(mask+1 - a+b)=mask+1+b by lia,zHj,h2,eb]
theorem pr_all (hm:Msk mask) (h:Int) (s:Nat) (hs:s<=mask):∃r,r<=13+mask/\(rs mask h r).1=s:=by
 obtain ⟨r,hr,e⟩:=cyc hm (rs mask h 13).1 s (rs_le mask h 13) hs;exact ⟨13+r,by lia,by rw [rs_it5,e]⟩
theorem free_slot {L:List Nat} (hL:L.length<=mask):∃s,s<=mask/\s∉L:=by
 apply qBE;intro h
 have sub:∀s,s∈List.range (mask+1)->s∈L:=fun s hs=>by
  apply qBE;intro q;exact h ⟨s,by have:=qA1.mp hs;lia,q⟩
 have:=(List.nodup_range (n:=mask+1)).length_le_of_subset sub;rw [List.length_range] at this;lia
theorem pr_free (hm:Msk mask) (h:Int) {L:List Nat} (hL:L.length<=mask):∃n,n<10*turns mask/\(pr mask h n).j∉L:=by
 obtain ⟨s,hs,q⟩:=free_slot hL;obtain ⟨r,hr,e⟩:=pr_all hm h s hs;refine ⟨stt mask h r,?_,?_⟩
 ·have:=stt_le mask h r;unfold turns;lia
 ·have:=zFg mask h r 0 (qAd _);rw [qCi] at this;rw [this];show (rs mask h r).1+0∉L;rw [qCi,e];exact q
theorem zId (hm:Msk mask) (h:Int) {L:List Nat} (hL:L.length<=mask):∃n,n<10*turns mask/\(pr mask h n).j∉L/\∀m,m<n->(pr mask h m).j∈L:=by
 obtain ⟨n,hn,q⟩:=pr_free hm h hL
 induction n using Nat.strongRecOn with
 | _ n ih =>
  by_cases c:∃m,m<n/\(pr mask h m).j∉L
  ·obtain ⟨m,hm',qm⟩:=c;exact ih m hm' (by lia) qm
  ·refine ⟨n,hn,q,fun m hmn=>?_⟩;apply qBE;intro z;exact c ⟨m,hmn,z⟩
structure TOk (t:SetTable) (hs:List Int):Prop where
 m:Msk t.mask
 d:t.dummies=#[]
 r:Rise t.place.toList
 l:∀j∈t.place.toList,j<=t.mask
 n:t.place.size=hs.length
 f:t.place.size<=t.mask
 reach:∀(i j:Nat) (h:Int),t.place[i]?=some j->hs[i]?=some h->∃n,(pr t.mask h n).j=j/\∀m,m<n->(pr t.mask h m).j∈t.place.toList
theorem fresh_ok (fi mo:Nat) (led:Bool):TOk (SetTable.fresh fi mo led) [] :=
 ⟨.inl rfl,rfl,List.Pairwise.nil,(fun j h=>absurd (show j∈([]:List Nat) from h) (by simp)),rfl,qAd _,(fun i j h _ e=>by simp at e)⟩
theorem has_nil (j:Nat):has #[] j=false:=by
 unfold SetTable.has;simp
section
variable {t:SetTable} {hs:List Int}
theorem slot_live (T:TOk t hs) (e:t.place[i]?=some j):t.slot j= .live i:=by
 have b:=(zEr T.r j).at T.r e;unfold slot;rw [b];show (if (t.place[i]?==some j)=true then _ else _)=_;rw [e];simp
theorem slot_empty (T:TOk t hs) (h:j∉t.place.toList):t.slot j= .empty:=by
 unfold slot
 have e:(t.place[below t.place j]?==some j)=false:=by
  rw [qBA];intro z;exact h (qAL (i:=below t.place j) (by rw [qAm];exact z))
 simp only [e,T.d,has_nil];simp
theorem mem_at (h:j∈xs.toList):∃i:Nat,xs[i]?=some j:=by
 obtain ⟨i,hi,e⟩:=qA7.mp h;exact ⟨i,by rw [<-qAm];exact qAV.mpr ⟨hi,e⟩⟩
def Oth (t:SetTable) (hashAt:Nat->Int) (h:Int) (m:Nat):Prop:=∃i:Nat,t.place[i]?=some (pr t.mask h m).j/\hashAt i≠h
theorem adv_pr (t:SetTable) (h:Int) (n:Nat):t.advance (pr t.mask h n)=pr t.mask h (n+1):=rfl
theorem go_ok (T:TOk t hs) (hashAt:Nat->Int) (h:Int) (hN:(pr t.mask h N).j∉t.place.toList) (hb:∀m,m<N->(pr t.mask h m).j∈t.place.toList):∀(d n fuel:Nat),N=n+d->d<fuel ->
  (probe.go t hashAt h fuel (pr t.mask h n)=some (.empty (pr t.mask h N).j none)/\∀m,n<=m->m<N->Oth t hashAt h m) \/
  ∃m i,n<=m/\m<N/\t.place[i]?=some (pr t.mask h m).j/\hashAt i=h/\probe.go t hashAt h fuel (pr t.mask h n)=some (.candidate (pr t.mask h m).j i (pr t.mask h (m+1)))/\∀m',n<=m'->m'<m->Oth t hashAt h m'
 | 0,n,fuel+1,e,_=>by
  have e:N=n:=by lia
  subst e;left;refine ⟨?_,fun m h1 h2=>by lia⟩;unfold probe.go;rw [slot_empty T hN];show some (Met.empty _ (pr t.mask h N).dummy)=_;rw [pr_dummy]
 | d+1,n,fuel+1,e,hf=>by
  obtain ⟨i,ei⟩:=mem_at (hb n (by lia));unfold probe.go;rw [slot_live T ei]
  by_cases c:hashAt i=h
  ·right;refine ⟨n,i,qAF _,by lia,ei,c,?_,fun m' h1 h2=>by lia⟩;show (if (hashAt i==h)=true then _ else _)=_;rw [qAC (by simpa using c),adv_pr]
  ·have q:(if (hashAt i==h)=true then some (Met.candidate (pr t.mask h n).j i (t.advance (pr t.mask h n))) else probe.go t hashAt h fuel (t.advance (pr t.mask h n)))=probe.go t hashAt h fuel (pr t.mask h (n+1)):=by
    rw [qAB (by simpa using c),adv_pr]
   rcases go_ok T hashAt h hN hb d (n+1) fuel (by lia) (by lia) with ⟨z1,z2⟩| ⟨m,i',z1,z2,z3,z4,z5,z6⟩
   ·left;refine ⟨q.trans z1,fun m h1 h2=>?_⟩
    by_cases cm:m=n
    ·subst cm;exact ⟨i,ei,c⟩
    ·exact z2 m (by lia) h2
   ·right;refine ⟨m,i',by lia,z2,z3,z4,q.trans z5,fun m' h1 h2=>?_⟩
    by_cases cm:m'=n
    ·subst cm;exact ⟨i,ei,c⟩
    ·exact z6 m' (by lia) h2
 | _,_,0,_,h=>by lia
theorem zI3 (xs:Array α) (p:Nat) (x:α) (hp:p<=xs.size):(insertAt xs p x).toList=xs.toList.take p++x::xs.toList.drop p:=by
 unfold insertAt;rw [qCj,qCW,qBd,qBd,List.extract_eq_drop_take,List.extract_eq_drop_take];rw [qBF (l:=xs.toList.drop p) (by simp)];simp
theorem ins_rise (hr:Rise xs.toList) (hj:j∉xs.toList):Rise (insertAt xs (below xs j) j).toList:=by
 have B:=zEr hr j;rw [zI3 _ _ _ B.le];refine List.pairwise_append.mpr ⟨hr.sublist (qCM _ _),qBe.mpr ⟨fun y hy=>?_,hr.sublist (List.drop_sublist _ _)⟩,fun x hx y hy=>?_⟩
 ·obtain ⟨i,hi,rfl⟩:=qA7.mp hy;rw [qA4] at hi
  have e:xs[below xs j+i]?=some (xs.toList.drop (below xs j))[i]:=by
   rw [<-qAm,<-qBf];simp
  have h1:=B.hi _ _ (qBs _ i) e;have h2:(xs.toList.drop (below xs j))[i]≠j:=fun z=>hj (z▸qDX hy);lia
 ·have hxj:x<j:=by
   obtain ⟨i,hi,rfl⟩:=qA7.mp hx;rw [qAX] at hi
   have e:xs[i]?=some (xs.toList.take (below xs j))[i]:=by
    rw [<-qAm,<-qBm (show i<below xs j by lia)];exact qAt _
   exact B.lo i _ (by lia) e
  rcases qAO.mp hy with z| z
  ·rw [z];exact hxj
  ·obtain ⟨i,hi,rfl⟩:=qA7.mp z;rw [qA4] at hi
   have e:xs[below xs j+i]?=some (xs.toList.drop (below xs j))[i]:=by
    rw [<-qAm,<-qBf];simp
   have h1:=B.hi _ _ (qBs _ i) e;lia
theorem zFu {β:Type} {L:List α} {M:List β} (hl:L.length=M.length) {p:Nat} (hp:p<=L.length) {x:α} {y:β} {u:α} {v:β} (h1:(L.take p++x::L.drop p)[i]?=some u) (h2:(M.take p++y::M.drop p)[i]?=some v) :
  (u=x/\v=y)\/∃i':Nat,L[i']?=some u/\M[i']?=some v:=by
 have l1:(L.take p).length=p:=by rw [qAX];lia
 have l2:(M.take p).length=p:=by rw [qAX];lia
 by_cases c:i<p
 ·rw [qB5 (by lia),qBm c] at h1 h2;exact .inr ⟨i,h1,h2⟩
 ·rw [qB4 (by lia)] at h1 h2;rw [l1] at h1;rw [l2] at h2
  cases e:i - p with
  | zero =>
   rw [e] at h1 h2;exact .inl ⟨(by simpa using h1.symm),(by simpa using h2.symm)⟩
  | succ k =>
   rw [e] at h1 h2;rw [qCk,qBf] at h1 h2;exact .inr ⟨p+k,h1,h2⟩
theorem put_ok (T:TOk t hs) (h:Int) (hN:(pr t.mask h N).j∉t.place.toList) (hb:∀m,m<N->(pr t.mask h m).j∈t.place.toList) (hf:t.place.size+1<=t.mask) :
  TOk (t.put (pr t.mask h N).j).1 (hs.take (t.put (pr t.mask h N).j).2++h::hs.drop (t.put (pr t.mask h N).j).2):=by
 have B:=zEr T.r (pr t.mask h N).j;have ep:(t.put (pr t.mask h N).j).2=below t.place (pr t.mask h N).j:=rfl;have el:(t.put (pr t.mask h N).j).1.place=insertAt t.place (below t.place (pr t.mask h N).j) (pr t.mask h N).j:=rfl;have em:(t.put (pr t.mask h N).j).1.mask=t.mask:=rfl;have tl:=zI3 t.place (below t.place (pr t.mask h N).j) (pr t.mask h N).j B.le
 have mem:∀j,j∈t.place.toList->j∈(insertAt t.place (below t.place (pr t.mask h N).j) (pr t.mask h N).j).toList:=fun j hj=>by
  rw [tl];have:j∈t.place.toList.take (below t.place (pr t.mask h N).j)++t.place.toList.drop (below t.place (pr t.mask h N).j):=by rw [qA8];exact hj
  rcases qAQ.mp this with z| z
  ·exact qAs _ z
  ·exact qAv _ (qAT _ z)
 have sz:(insertAt t.place (below t.place (pr t.mask h N).j) (pr t.mask h N).j).size=t.place.size+1:=by
  have:=qAk List.length tl;simp only [qBS,qAf,qAe,qAX,qA4] at this;have:=B.le;lia
 refine ⟨T.m,?_,ins_rise T.r hN,fun j hj=>?_,?_,?_,fun i j h' e1 e2=>?_⟩
 ·show (if has t.dummies (pr t.mask h N).j then _ else t.dummies)=#[];rw [T.d,has_nil];rfl
 ·rw [em];rw [el,tl] at hj;rcases qAQ.mp hj with z| z
  ·exact T.l j (qBt z)
  ·rcases qAO.mp z with z| z
   ·rw [z];exact pr_le _ _ _
   ·exact T.l j (qDX z)
 ·rw [el,sz,ep,qAf,qAe,qAX,qA4];have:=B.le;have:=T.n;lia
 ·rw [el,sz];exact hf
 ·rw [em];rw [el,<-qAm,tl] at e1;rw [ep] at e2;rw [el];rcases zFu (L:=t.place.toList) (M:=hs) (by simpa using T.n) (by simpa using B.le) e1 e2 with ⟨z1,z2⟩| ⟨i',z1,z2⟩
  ·subst z1 z2;exact ⟨N,rfl,fun m hm=>mem _ (hb m hm)⟩
  ·obtain ⟨n,q1,q2⟩:=T.reach i' j h' (by rw [<-qAm];exact z1) z2;exact ⟨n,q1,fun m hm=>mem _ (q2 m hm)⟩
end
structure Ow (mask:Nat) (hs:List Int) (owner:Array (Option Nat)) (sl:List Nat):Prop where
 z:owner.size=mask+1
 n:sl.length=hs.length
 nd:sl.Nodup
 l:∀j∈sl,j<=mask
 a:∀(k j:Nat),sl[k]?=some j->owner[j]?=some (some k)
 e:∀j,j<=mask->j∉sl->owner[j]?=some none
 reach:∀(k j:Nat) (h:Int),sl[k]?=some j->hs[k]?=some h->∃n,(pr mask h n).j=j/\∀m,m<n->(pr mask h m).j∈sl
theorem zIy {owner:Array (Option Nat)} {sl:List Nat} (O:Ow mask hs owner sl) (hj:j<=mask):((owner.getD j (some 0)).isNone=true)↔j∉sl:=by
 have hz:j<owner.size:=by rw [O.z];lia
 have eD:owner.getD j (some 0)=owner[j]:=by simp [Array.getD,hz]
 rw [eD];constructor
 ·intro h q;obtain ⟨k,hk,e⟩:=qA7.mp q;have:=O.a k j (qAV.mpr ⟨hk,e⟩);rw [qDY hz] at this;rw [qAh this] at h;simp at h
 ·intro q;have:=O.e j hj q;rw [qDY hz] at this;rw [qAh this];rfl
theorem free_go {owner:Array (Option Nat)} {sl:List Nat} (hm:Msk mask) (O:Ow mask hs owner sl) (hl:sl.length<=mask) (h:Int) (hN:(pr mask h N).j∉sl) (hb:∀m,m<N->(pr mask h m).j∈sl) {R:Nat} (hR:(rs mask h R).1∉sl) :
  ∀(fuel r:Nat),stt mask h r<=N->R<r+fuel->layClean.free mask owner fuel (rs mask h r).1 (rs mask h r).2=some (pr mask h N).j
 | 0,r,h1,h2=>by
  exfalso
  have key:∀d,stt mask h R<=stt mask h (R+d)/\(0<d->stt mask h R<stt mask h (R+d)):=by
   intro d
   induction d with
   | zero=>exact ⟨qAF _,fun z=>by lia⟩
   | succ d ih =>
    have e:stt mask h (R+(d+1))=stt mask h (R+d)+(runEnd mask (rs mask h (R+d)).1 - (rs mask h (R+d)).1+1):=rfl;exact ⟨by lia,fun _=>by lia⟩
  obtain ⟨d,rfl⟩:∃d,r=R+d:=⟨r - R,by lia⟩;have hd:0<d:=by lia
  have:=(key d).2 hd;have q:=hb (stt mask h R) (by lia);have e:=zFg mask h R 0 (qAd _);rw [qCi] at e;rw [e] at q;exact hR (by simpa using q)
 | fuel+1,r,h1,h2=>by
  have rl:=run_le mask _ (rs_le mask h r);unfold layClean.free
  cases q:(List.range (runEnd mask (rs mask h r).1+1 - (rs mask h r).1)).find? fun k=>(owner.getD ((rs mask h r).1+k) (some 0)).isNone with
  | some k =>
   have q1:=List.find?_some q;have q2:=qDZ q;rw [qA1] at q2;have q1:((owner.getD ((rs mask h r).1+k) (some 0)).isNone)=true:=q1;rw [zIy O (by lia)] at q1;have e:=zFg mask h r k (by lia);have hk:(pr mask h (stt mask h r+k)).j=(rs mask h r).1+k:=by rw [e]
   have c1:¬stt mask h r+k<N:=fun z=>q1 (hk▸hb _ z)
   have c2:¬N<stt mask h r+k:=fun z=>by
    obtain ⟨d,hd⟩:∃d,N=stt mask h r+d:=⟨N - stt mask h r,by lia⟩;have hdk:d<k:=by lia
    rw [List.find?_eq_some_iff_append] at q;obtain ⟨_,as,bs,e1,e2⟩:=q
    have la:as.length=k:=by
     have:=qAk (fun l=>l[as.length]?) e1;simp at this
     by_cases cc:as.length<runEnd mask (rs mask h r).1+1 - (rs mask h r).1
     ·rw [List.getElem?_range cc] at this;exact qAh this
     ·rw [qDa (by simp;lia)] at this
      cases this
    have mem:d∈as:=by
     have hd':(List.range (runEnd mask (rs mask h r).1+1 - (rs mask h r).1))[d]?=some d:=List.getElem?_range (by lia);rw [e1,qB5 (by lia)] at hd';exact qAL hd'
    have z1:=e2 d mem;have ed:=zFg mask h r d (by lia);have hjd:(pr mask h N).j=(rs mask h r).1+d:=by rw [hd,ed]
    have z2:((owner.getD ((rs mask h r).1+d) (some 0)).isNone)=true:=(zIy O (by lia)).mpr (hjd▸hN);rw [z2] at z1;simp at z1
   have eN:N=stt mask h r+k:=by lia
   show some ((rs mask h r).1+k)=_;rw [eN,hk]
  | none =>
   have q1:=List.find?_eq_none.mp q;refine free_go hm O hl h hN hb hR fuel (r+1) ?_ (by lia);show stt mask h r+(runEnd mask (rs mask h r).1 - (rs mask h r).1+1)<=N;apply qBE;intro c;obtain ⟨d,hd⟩:∃d,N=stt mask h r+d:=⟨N - stt mask h r,by lia⟩;have ed:=zFg mask h r d (by lia);have hjd:(pr mask h N).j=(rs mask h r).1+d:=by rw [hd,ed]
   have z1:=q1 d (qA1.mpr (by lia));have z2:((owner.getD ((rs mask h r).1+d) (some 0)).isNone)=true:=(zIy O (by lia)).mpr (hjd▸hN);exact z1 z2
theorem free_ok {owner:Array (Option Nat)} {sl:List Nat} (hm:Msk mask) (O:Ow mask hs owner sl) (hl:sl.length<=mask) (h:Int) :
  ∃N,(pr mask h N).j∉sl/\(∀m,m<N->(pr mask h m).j∈sl)/\layClean.free mask owner (turns mask) (bits h % (mask+1)) (bits h)=some (pr mask h N).j:=by
 obtain ⟨N,_,hN,hb⟩:=zId hm h hl;obtain ⟨s,hs',q⟩:=free_slot hl;obtain ⟨R,hR,e⟩:=pr_all hm h s hs';exact ⟨N,hN,hb,free_go hm O hl h hN hb (R:=R) (by rw [e];exact q) (turns mask) 0 (qAd _) (by unfold turns;lia)⟩
theorem Ow.more {owner:Array (Option Nat)} {sl:List Nat} (O:Ow mask hs owner sl) (h:Int) (hN:(pr mask h N).j∉sl) (hb:∀m,m<N->(pr mask h m).j∈sl) :
  Ow mask (hs++[h]) (owner.setIfInBounds (pr mask h N).j (some hs.length)) (sl++[(pr mask h N).j]):=by
 have hj:=pr_le mask h N;have hz:(pr mask h N).j<owner.size:=by rw [O.z];lia
 have one:∀{k j:Nat},(sl++[(pr mask h N).j])[k]?=some j->(k<sl.length/\sl[k]?=some j)\/(k=sl.length/\j=(pr mask h N).j):=fun {k j} e=>by
  by_cases c:k<sl.length
  ·rw [qB5 c] at e;exact .inl ⟨c,e⟩
  ·rw [qB4 (by lia)] at e
   have hk:k=sl.length:=by
    have:=(qAV.mp e).1;simp at this;lia
   subst hk;exact .inr ⟨rfl,by simpa using e.symm⟩
 refine ⟨by rw [qDb];exact O.z,by simp [O.n],?_,fun j hj'=>?_,fun k j e=>?_,fun j hj1 hj2=>?_,fun k j h' e1 e2=>?_⟩
 ·refine qBg.mpr ⟨O.nd,qBC.mpr ⟨by simp,qAy⟩,fun a ha b hb'=>?_⟩;have:b=(pr mask h N).j:=by simpa using hb'
  subst this;intro z;subst z;exact hN ha
 ·rcases qAQ.mp hj' with z| z
  ·exact O.l j z
  ·have:j=(pr mask h N).j:=by simpa using z
   rw [this];exact hj
 ·rcases one e with ⟨_,z⟩| ⟨z1,z2⟩
  ·have hne:j≠(pr mask h N).j:=fun q=>hN (q▸qAL z);rw [Array.getElem?_setIfInBounds_ne (qAr hne)];exact O.a k j z
  ·subst z1 z2;rw [Array.getElem?_setIfInBounds_self_of_lt hz,O.n]
 ·have h1:j∉sl:=fun q=>hj2 (qAs _ q);have h2:j≠(pr mask h N).j:=fun q=>hj2 (qAv _ (by simp [q]));rw [Array.getElem?_setIfInBounds_ne (qAr h2)];exact O.e j hj1 h1
 ·rcases one e1 with ⟨c,z⟩| ⟨z1,z2⟩
  ·rw [qB5 (by rw [<-O.n];exact c)] at e2;obtain ⟨n,q1,q2⟩:=O.reach k j h' z e2;exact ⟨n,q1,fun m hm=>qAs _ (q2 m hm)⟩
  ·subst z1 z2;rw [qB4 (by rw [O.n];exact qAF _),O.n] at e2;have:h'=h:=by simpa using e2.symm
   subst this;exact ⟨N,rfl,fun m hm=>qAs _ (hb m hm)⟩
theorem lay_ok (hm:Msk mask) (hs:List Int) (hl:hs.length<=mask):∃owner sl,Ow mask hs owner sl/\layClean mask hs.toArray=some owner:=by
 have key:∀(rest done:List Int) (owner:Array (Option Nat)) (sl:List Nat),Ow mask done owner sl->done.length+rest.length<=mask ->
   ∃owner' sl',Ow mask (done++rest) owner' sl'/\rest.foldl (fun (acc:Option (Array (Option Nat)×Nat)) h=>do
    let (owner,k)<-acc
    let j<-layClean.free mask owner (turns mask) (bits h % (mask+1)) (bits h)
    pure (owner.setIfInBounds j (some k),k+1)) (some (owner,done.length))=some (owner',(done++rest).length):=by
  intro rest
  induction rest with
  | nil=>intro done owner sl O _;exact ⟨owner,sl,by rw [qA2];exact O,by rw [qA2];rfl⟩
  | cons h rest ih =>
   intro done owner sl O hl;rw [qAe] at hl;obtain ⟨N,hN,hb,ef⟩:=free_ok hm O (by rw [O.n];lia) h;have O2:=O.more h hN hb;obtain ⟨o',s',O3,e3⟩:=ih (done++[h]) _ _ O2 (by rw [qAf];simp;lia);refine ⟨o',s',by simpa using O3,?_⟩;rw [qBa]
   have e4:(do
    let (owner,k)<-(some (owner,done.length):Option (Array (Option Nat)×Nat))
    let j<-layClean.free mask owner (turns mask) (bits h % (mask+1)) (bits h)
    pure (owner.setIfInBounds j (some k),k+1))=some (owner.setIfInBounds (pr mask h N).j (some done.length),(done++[h]).length):=by
    show (do
     let j<-layClean.free mask owner (turns mask) (bits h % (mask+1)) (bits h)
     pure (owner.setIfInBounds j (some done.length),done.length+1))=_
    rw [ef];simp
   rw [e4,e3];simp
 have O0:Ow mask [] (Array.replicate (mask+1) none) []:=⟨Array.size_replicate,rfl,qAy,(fun j h=>absurd h qBh),(fun k j e=>by rw [List.getElem?_nil] at e;cases e),(fun j hj _=>by rw [Array.getElem?_replicate,qAC (by lia)]),(fun k j h e=>by rw [List.getElem?_nil] at e;cases e)⟩;obtain ⟨o,sl,O,e⟩:=key hs [] _ _ O0 (by simpa using hl);refine ⟨o,sl,by simpa using O,?_⟩;unfold layClean;rw [List.foldl_toArray];have e':=e;simp only [List.nil_append,qBc] at e';show Option.map _ (hs.foldl _ (some (Array.replicate (mask+1) none,0)))=_;rw [e'];rfl
theorem laid_ok (hm:Msk mask) (hs:List Int) (hl:hs.length<=mask) (fi mo:Nat) (led plain:Bool):∃t order,laid mask fi mo led plain hs.toArray=some (t,order)/\t.mask=mask/\t.led=led/\t.plain=plain/\order.toList.Perm (List.range hs.length) /\
  TOk t (order.toList.map fun k=>hs.getD k 0):=by
 obtain ⟨owner,sl,O,e⟩:=lay_ok hm hs hl
 have hg:∀j,j<=mask->owner.getD j none=(owner[j]?).getD none:=fun j hj=>by
  have hz:j<owner.size:=by rw [O.z];lia
  simp [Array.getD,hz]
 have el:∀j,j<=mask->((owner.getD j none).map (j,·)=none↔j∉sl):=fun j hj=>by
  rw [hg j hj];constructor
  ·intro q z;obtain ⟨k,hk,ek⟩:=qA7.mp z;rw [O.a k j (qAV.mpr ⟨hk,ek⟩)] at q
   cases q
  ·intro q;rw [O.e j hj q];rfl
 have es:∀j k,j<=mask->((owner.getD j none).map (j,·)=some (j,k)↔sl[k]?=some j):=fun j k hj=>by
  rw [hg j hj];constructor
  ·intro q
   by_cases c:j∈sl
   ·obtain ⟨k',hk,ek⟩:=qA7.mp c;have ek':=qAV.mpr ⟨hk,ek⟩;rw [O.a k' j ek'] at q;have q:some (j,k')=some (j,k):=q;injection q with q;injection q with _ q;rw [<-q];exact ek'
   ·rw [O.e j hj c] at q;cases q
  ·intro q;rw [O.a k j q];rfl
 generalize hlive:(List.range (mask+1)).filterMap (fun j=>(owner.getD j none).map (j,·))=live
 have mem:∀p,p∈live↔sl[p.2]?=some p.1:=fun p=>by
  rw [<-hlive,List.mem_filterMap];constructor
  ·rintro ⟨j,hj,q⟩;have hj':j<=mask:=by have:=qA1.mp hj;lia
   have:p.1=j:=by
    cases h:owner.getD j none with
    | none=>rw [h] at q;cases q
    | some k=>rw [h] at q;have q:some (j,k)=some p:=q;injection q with q;rw [<-q]
   subst this;exact (es p.1 p.2 hj').mp q
  ·intro q;have hj:p.1<=mask:=O.l _ (qAL q);exact ⟨p.1,qA1.mpr (by lia),(es p.1 p.2 hj).mpr q⟩
 have rise:Rise (live.map (·.1)):=by
  have h1:(List.range (mask+1)).Pairwise (·<·):=List.pairwise_lt_range;rw [<-hlive,List.map_filterMap];refine List.Pairwise.filterMap _ (fun a b hab x hx y hy=>?_) h1
  cases ha:owner.getD a none with
  | none=>rw [ha] at hx;cases hx
  | some k =>
   rw [ha] at hx;have hx:some a=some x:=hx
   cases hb:owner.getD b none with
   | none=>rw [hb] at hy;cases hy
   | some k' =>
    rw [hb] at hy;have hy:some b=some y:=hy;injection hx with hx;injection hy with hy;lia
 have nd2:(live.map (·.2)).Nodup:=by
  have hr:live.Pairwise (fun a b=>a.1<b.1):=List.pairwise_map.mp rise;refine List.pairwise_map.mpr (hr.imp_of_mem fun {a b} ha hb hab q=>?_);have h1:=(mem a).mp ha;have h2:=(mem b).mp hb;rw [q] at h1;rw [h1] at h2;have:=qAh h2;lia
 have perm:(live.map (·.2)).Perm (List.range hs.length):=by
  refine (List.perm_ext_iff_of_nodup nd2 List.nodup_range).mpr fun k=>?_;rw [qA1,qAa];constructor
  ·rintro ⟨p,hp,rfl⟩;have:=(qAV.mp ((mem p).mp hp)).1;rw [O.n] at this;exact this
  ·intro hk;have hk':k<sl.length:=by rw [O.n];exact hk
   exact ⟨(sl[k],k),(mem _).mpr (by simp),rfl⟩
 have pmem:∀j,j∈live.map (·.1)↔j∈sl:=fun j=>by
  rw [qAa];constructor
  ·rintro ⟨p,hp,rfl⟩;exact qAL ((mem p).mp hp)
  ·intro q;obtain ⟨k,hk,ek⟩:=qA7.mp q;exact ⟨(j,k),(mem _).mpr (qAV.mpr ⟨hk,ek⟩),rfl⟩
 have llen:live.length=hs.length:=by
  have:=perm.length_eq;simpa using this
 refine ⟨{mask,place:=(live.map (·.1)).toArray,dummies:=#[],finger:=fi,led,moves:=mo,plain},(live.map (·.2)).toArray,?_,rfl,rfl,rfl,by simpa using perm,?_⟩
 ·unfold laid;rw [e];show some (_,_)=some (_,_);rw [hlive]
 ·refine ⟨hm,rfl,by simpa using rise,fun j hj=>?_,by simp [llen],by simp [llen];exact hl,fun i j h e1 e2=>?_⟩
  ·exact O.l j ((pmem j).mp (by simpa using hj))
  ·have e1:(live.map (·.1))[i]?=some j:=by simpa using e1
   have e2:((live.map (·.2)).map fun k=>hs.getD k 0)[i]?=some h:=by simpa using e2
   cases q:live[i]? with
   | none=>rw [qAZ,q] at e1;cases e1
   | some p =>
    rw [qAZ,q] at e1;rw [qAZ,qAZ,q] at e2;have e1:p.1=j:=by simpa using e1
    have e2:hs.getD p.2 0=h:=by simpa using e2
    have hp:=(mem p).mp (qAL q);rw [e1] at hp;have hk:p.2<hs.length:=by rw [<-O.n];exact (qAV.mp hp).1
    have hh:hs[p.2]?=some h:=by
     rw [<-e2,qBD];simp [hk]
    obtain ⟨n,q1,q2⟩:=O.reach p.2 j h hp hh
    exact ⟨n,q1,fun m hm=>by
     have:=(pmem _).mpr (q2 m hm);simpa using this⟩
section
variable {prog:Program} {w:World} {K:Type} [DecidableEq K] {knd:KeyKind prog w K} {A:Around} {E:Value->Shared->Prop} {s:Shared}
theorem byv_noref {v:Value} (h:carriedByValue v=true):∀a,v≠.ref a:=by
 intro a e;subst e;simp [carriedByValue] at h
theorem cls_byv (n:Nat) {v:Value} (h:carriedByValue v=true):ofAClassStatement n v=pure false:=by
 cases v with
 | ref a=>exact absurd rfl (byv_noref h a)
 | _=>cases n<;>(unfold ofAClassStatement;rfl)
theorem w_cls {k:List K} {Q:Bool->Shared->Prop} (hk:IsTupleKey knd s.heap k b) (h:Q false s):wpAny (model prog w) A (ofAClassStatement 8 (.ref b)) Q E s:=by
 have hT:=hk.typeIs;obtain ⟨o,items,n,ho,_,hd,hi⟩:=hk;unfold ofAClassStatement;refine qAA (qC9 hT ?_);show wpAny _ _ (if ("tuple" == "tuple")=true then _ else _) _ _ _;rw [qAC (by decide)];refine qAA (qAE ?_);show wpAny _ _ (if (!true)=true then _ else _) _ _ _;rw [qAB (by decide)];show wpAny _ _ (seqItems? (.ref b) >>= _) _ _ _;refine qAA ?_;show wpAny _ _ (load b >>= _) _ _ _;refine qAA (qB0 ho ?_);rw [hd];refine qAE ?_;dsimp only;refine qAA ?_;show wpAny _ _ (forIn items _ _) _ _ s;rw [<-qDA];refine wpAny_forIn_list _ (fun rest r s'=>r.1=none/\s'=s/\∀v∈rest,carriedByValue v=true) _ ?_ ?_ _ _ ⟨rfl,rfl,hi.byValue⟩
 ·rintro v rest r s' ⟨hr,rfl,hall⟩;refine qAA (wpAny_of_eq (cls_byv _ (hall v qAS)) ?_);rw [qAB (by decide)];exact qAE ⟨rfl,rfl,fun u hu'=>hall u (qAT _ hu')⟩
 ·rintro ⟨r1,r2⟩ s' ⟨hr,rfl,_⟩;have hr:r1=none:=hr;subst hr;exact qAE h
theorem w_seen {k:List K} {stored:List Value} {Q:Bool->Shared->Prop} (hk:IsTupleKey knd s.heap k b) (hs:∀v∈stored,∃k' b',v= .ref b'/\IsTupleKey knd s.heap k' b') (h:Q false s):wpAny (model prog w) A (searchCouldBeSeen (.ref b) stored) Q E s:=by
 unfold searchCouldBeSeen;refine qAA ?_;refine wpAny_forIn_list _ (fun rest r s'=>r.1=none/\s'=s/\∀v∈rest,∃k' b',v= .ref b'/\IsTupleKey knd s.heap k' b') _ ?_ ?_ _ _ ⟨rfl,rfl,hs⟩
 ·rintro v rest r s' ⟨hr,rfl,hall⟩;obtain ⟨k',b',rfl,hk'⟩:=hall v qAS;have hall':∀u∈rest,∃k' b',u= .ref b'/\IsTupleKey knd s'.heap k' b':=fun u hu'=>hall u (qAT _ hu');dsimp only
  by_cases c:((b==b')||(carriedByValue (.ref b)&&carriedByValue (.ref b')))=true
  ·rw [qAC c];exact qAE ⟨rfl,rfl,hall'⟩
  ·rw [qAB c];refine qAA (wpAny_eqIsQuiet_tuple hk ?_);rw [qAB (by decide)];refine qAA (wpAny_eqIsQuiet_tuple hk' ?_);rw [qAB (by decide)];refine qAA (w_cls hk ?_);rw [qAB (by decide)];refine qAA (w_cls hk' ?_);rw [qAB (by decide)];exact qAE ⟨rfl,rfl,hall'⟩
 ·rintro ⟨r1,r2⟩ s' ⟨hr,rfl,_⟩;have hr:r1=none:=hr;subst hr;exact qAE h
theorem hbv_byv (n:Nat) {v:Value} (h:carriedByValue v=true):∃c,hashByValue n v=pure c:=by
 cases v with
 | ref a=>exact absurd rfl (byv_noref h a)
 | _=>cases n<;>(unfold hashByValue;exact ⟨_,rfl⟩)
theorem w_hbv {k:List K} {Q:Bool->Shared->Prop} (hk:IsTupleKey knd s.heap k b) (h:∀c,Q c s):wpAny (model prog w) A (hashByValue 8 (.ref b)) Q E s:=by
 have hT:=hk.typeIs;obtain ⟨o,items,n,ho,_,hd,hi⟩:=hk;unfold hashByValue;refine qAA (qCh hT F.slot_tuple_hash.lookup ?_);show wpAny _ _ (seqItems? (.ref b) >>= _) _ _ _;refine qAA ?_;show wpAny _ _ (load b >>= _) _ _ _;refine qAA (qB0 ho ?_);rw [hd];refine qAE ?_;dsimp only;refine qAA ?_;show wpAny _ _ (forIn items _ _) _ _ s;rw [<-qDA];refine wpAny_forIn_list _ (fun rest r s'=>s'=s/\∀v∈rest,carriedByValue v=true) _ ?_ ?_ _ _ ⟨rfl,hi.byValue⟩
 ·rintro v rest r s' ⟨rfl,hall⟩;obtain ⟨c,ec⟩:=hbv_byv 7 (hall v qAS);rw [ec];refine qAA (qAE ?_);split
  ·exact qAE (qAE (h _))
  ·exact qAE ⟨rfl,fun u hu'=>hall u (qAT _ hu')⟩
 ·rintro ⟨r1,r2⟩ s' ⟨rfl,_⟩
  cases r1 with
  | none=>exact qAE (h _)
  | some c=>exact qAE (h _)
end
section
variable {prog:Program} {w:World} {K:Type} [DecidableEq K] {knd:KeyKind prog w K} {A:Around} {E:Value->Shared->Prop} {s:Shared}
def en (knd:KeyKind prog w K) (p:List K×Addr):Int×Value:=(tupleKeyHash knd p.1,.ref p.2)
def byt (w:World):Bool:=w.params.followText "set-order"
structure SetX (knd:KeyKind prog w K) (h:Heap) (a:Addr) (xs:List (List K×Addr)) (o:Obj) (es:Array (Int×Value)) (ep:Nat) (t:SetTable):Prop where
 ho:h.get? a=some o
 ex:o.ExactSet
 hd:o.data= .set es ep t
 el:es.toList=xs.map (en knd)
 ok:TOk t (xs.map fun p=>tupleKeyHash knd p.1)
 room:xs.length*5<t.mask*3
 nd:(xs.map (·.1)).Nodup
 ky:∀p∈xs,IsTupleKey knd h p.1 p.2
 ld:t.led= !byt w
section
variable {a:Addr} {xs:List (List K×Addr)} {o:Obj} {es:Array (Int×Value)} {ep:Nat} {t:SetTable}
theorem SetX.at (X:SetX knd s.heap a xs o es ep t) (i:Nat):es[i]?=(xs[i]?).map (en knd):=by
 rw [<-qAm,X.el,qAZ]
theorem SetX.size (X:SetX knd s.heap a xs o es ep t):es.size=xs.length:=by
 have:=qAk List.length X.el;simpa using this
theorem SetX.fits (X:SetX knd s.heap a xs o es ep t):t.fits es.size=true:=by
 unfold SetTable.fits;have h1:t.place.size=es.size:=by rw [X.ok.n,X.size];simp
 have h2:t.fill<=t.mask:=by
  unfold fill;rw [X.ok.d];exact X.ok.f
 rw [h1];simp [h2]
theorem SetX.state (X:SetX knd s.heap a xs o es ep t) {Q:(Array (Int×Value)×Nat×SetTable)->Shared->Prop} (h:Q (es,ep,t) s):wpAny (model prog w) A (setState a) Q E s:=wpAny_setState_of X.ho X.hd X.fits h
theorem msk_odd {m:Nat} (h:Msk m):(m % 2==0)=false:=by
 rcases h with rfl| rfl| rfl| rfl<;>decide
theorem SetX.has (X:SetX knd s.heap a xs o es ep t) (e:t.place[i]?=some j):∃p,xs[i]?=some p:=by
 have h1:i<t.place.size:=(qBr.mp e).1;have h2:=X.ok.n;rw [qAD] at h2;exact ⟨xs[i]'(by lia),by simp⟩
theorem split_seen {c:Bool} {m:Sem Bool} {u:String} {jp:Unit->Sem α} {Q:α->Shared->Prop} (hm:∀f:Bool->Sem α,wpAny (model prog w) A (f false) Q E s->wpAny (model prog w) A (m >>= f) Q E s) (h:wpAny (model prog w) A (jp ()) Q E s) :
  wpAny (model prog w) A (if c=true then (m >>= fun l=>if l=true then (unsupported u >>= jp) else jp ()) else jp ()) Q E s:=by
 by_cases z:c=true
 ·rw [qAC z];exact hm _ h
 ·rw [qAB z];exact h
theorem w_search (hu:A.units<cLine) (X:SetX knd s.heap a xs o es ep t) {k:List K} (hk:IsTupleKey knd s.heap k b) (hN:(pr t.mask (tupleKeyHash knd k) N).j∉t.place.toList) (hb:∀m,m<N->(pr t.mask (tupleKeyHash knd k) m).j∈t.place.toList) (hNf:N<10*turns t.mask)
  {Q:SetFound->Shared->Prop} (h1:k∈xs.map (·.1)->Q (.there none) s) (h2:k∉xs.map (·.1)->Q (.free (pr t.mask (tupleKeyHash knd k) N).j false) s) :
  ∀(d n fuel:Nat) (stand:Option Probe),N=n+d->d<fuel->stand.getD (t.probeStart (tupleKeyHash knd k))=pr t.mask (tupleKeyHash knd k) n ->
   (∀m,m<n->∃(i:Nat) (p:List K×Addr),t.place[i]?=some (pr t.mask (tupleKeyHash knd k) m).j/\xs[i]?=some p/\p.1≠k)->wpAny (model prog w) A (setSearchFrom a (.ref b) (tupleKeyHash knd k) true fuel stand) Q E s:=by
 intro d
 induction d using Nat.strongRecOn with
 | _ d ih =>
  intro n fuel stand e hf hst hseen;obtain ⟨fuel,rfl⟩:∃f,fuel=f+1:=⟨fuel - 1,by lia⟩;unfold setSearchFrom;refine qAA (X.state ?_);show wpAny _ _ (if (t.mask % 2==0)=true then _ else _) _ _ _;rw [msk_odd X.ok.m,qAB (by decide)]
  have oth:∀m,Oth t (fun i=>(es[i]?.map (·.1)).getD 0) (tupleKeyHash knd k) m->∃(i:Nat) (p:List K×Addr),t.place[i]?=some (pr t.mask (tupleKeyHash knd k) m).j/\xs[i]?=some p/\p.1≠k:=fun m ⟨i,ei,hi⟩=>by
   obtain ⟨p,ep'⟩:=X.has ei;refine ⟨i,p,ei,ep',fun z=>hi ?_⟩;show (es[i]?.map (·.1)).getD 0=_;rw [X.at i,ep',<-z];rfl
  rw [hst];rcases go_ok X.ok (fun i=>(es[i]?.map (·.1)).getD 0) (tupleKeyHash knd k) hN hb d n (10*turns t.mask) e (by lia) with ⟨z1,z2⟩| ⟨m,i,z1,z2,z3,z4,z5,z6⟩
  ·have z1:t.probe (fun i=>(es[i]?.map (·.1)).getD 0) (tupleKeyHash knd k) (pr t.mask (tupleKeyHash knd k) n)=some (.empty (pr t.mask (tupleKeyHash knd k) N).j none):=z1
   erw [z1]
   refine qAE (h2 fun hm=>?_);obtain ⟨p,hp,rfl⟩:=qAa.mp hm;obtain ⟨i,hi,ei⟩:=qA7.mp hp;have exi:xs[i]?=some p:=qAV.mpr ⟨hi,ei⟩;have hpl:i<t.place.size:=by rw [X.ok.n,qAD];exact hi
   have epl:t.place[i]?=some t.place[i]:=by simp
   obtain ⟨q,q1,q2⟩:=X.ok.reach i t.place[i] (tupleKeyHash knd p.1) epl (by rw [qAZ,exi];rfl)
   have hqN:q<N:=by
    apply qBE;intro c
    by_cases cq:q=N
    ·subst cq;exact hN (by rw [q1];exact qAL (i:=i) (by rw [qAm];exact epl))
    ·exact hN (q2 N (by lia))
   have:∃(i':Nat) (p':List K×Addr),t.place[i']?=some (pr t.mask (tupleKeyHash knd p.1) q).j/\xs[i']?=some p'/\p'.1≠p.1:=by
    by_cases c:q<n
    ·exact hseen q c
    ·exact oth q (z2 q (by lia) hqN)
   obtain ⟨i',p',w1,w2,w3⟩:=this;rw [q1] at w1
   have:i'=i:=by
    rcases Nat.lt_trichotomy i' i with z| z| z
    ·have:=zEl X.ok.r z w1 epl;lia
    ·exact z
    ·have:=zEl X.ok.r z epl w1;lia
   subst this;rw [exi] at w2
   cases w2
   exact w3 rfl
  ·have z5:t.probe (fun i=>(es[i]?.map (·.1)).getD 0) (tupleKeyHash knd k) (pr t.mask (tupleKeyHash knd k) n)=some (.candidate (pr t.mask (tupleKeyHash knd k) m).j i (pr t.mask (tupleKeyHash knd k) (m+1))):=z5
   erw [z5]
   obtain ⟨p,exi⟩:=X.has z3;have hp:=X.ky p (qAL exi);have eei:es[i]?=some (tupleKeyHash knd p.1,.ref p.2):=by rw [X.at i,exi];rfl
   refine split_seen (fun f hf=>qAA (w_seen hk ?_ hf)) ?_
   ·intro v hv;obtain ⟨q,hq,rfl⟩:=qAa.mp hv
    have hq:q∈es.toList:=by
     have:=(Array.mem_filter.mp (qDT.mp hq)).1;exact qDT.mpr this
    rw [X.el] at hq;obtain ⟨p',hp',rfl⟩:=qAa.mp hq;exact ⟨p'.1,p'.2,rfl,X.ky p' hp'⟩
   dsimp only;rw [eei];dsimp only;refine qAA (qAx (wpAny_eqBool_tuple hu hp hk ?_));refine qAA (X.state ?_);dsimp only
   by_cases c:p.1=k
   ·rw [qAC (by simp [c])];exact qAE (h1 (qAa.mpr ⟨p,qAL exi,c⟩))
   ·rw [qAB (by simp [c])];have esm:t.sameMemory t.moves t.mask=some true:=by unfold SetTable.sameMemory;simp
    rw [esm];dsimp only;rw [qAC rfl,slot_live X.ok z3];dsimp only;rw [eei];dsimp only;refine qAA (wpAny_isSame_ref_self ?_);rw [qAC rfl];refine qAA (qAE ?_);dsimp only;rw [qAB (by simp [c])];refine ih (N - (m+1)) (by lia) (m+1) fuel (some _) (by lia) (by lia) rfl ?_;intro q hq
    by_cases cq:q<n
    ·exact hseen q cq
    by_cases cm:q=m
    ·subst cm;exact ⟨i,p,z3,exi,c⟩
    ·exact oth q (z6 q (by lia) (by lia))
end
end
section
variable {prog:Program} {w:World} {K:Type} [DecidableEq K] {knd:KeyKind prog w K} {A:Around} {E:Value->Shared->Prop} {s:Shared}
variable {a:Addr} {xs:List (List K×Addr)} {o:Obj} {es:Array (Int×Value)} {ep:Nat} {t:SetTable}
theorem key_but {h h':Heap} {k:List K} (x:IsTupleKey knd h k b) (ho:h.get? a=some o) (hd:o.data= .set es ep t) (hs:Heap.SameBut a h h'):IsTupleKey knd h' k b:=by
 obtain ⟨o1,its,n,p1,p2,p3,p4⟩:=x;refine ⟨o1,its,n,(hs.2 b fun z=>?_).trans p1,p2,p3,p4⟩;subst z;have:=qAh (p1.symm.trans ho);subst this;rw [hd] at p3;exact nomatch p3
theorem put_get {h:Heap} (ho:h.get? a=some o) (hd:o.data= .set es ep t) (es':Array (Int×Value)) (t':SetTable):(h.update a (Obj.putSet es' t')).get? a=some {o with data:=.set es' (ep+1) t'}:=by
 have:=qBL (Obj.putSet es' t') ho (by rw [putSet_of es' t' hd];rfl)
 rwa [putSet_of es' t' hd] at this
theorem put_X {h:Heap} (ho:h.get? a=some o) (ex:o.ExactSet) (hd:o.data= .set es ep t) {es':Array (Int×Value)} {t':SetTable} {ys:List (List K×Addr)} (e1:es'.toList=ys.map (en knd)) (e2:TOk t' (ys.map fun p=>tupleKeyHash knd p.1)) (e3:ys.length*5<t'.mask*3) (e4:(ys.map (·.1)).Nodup) (e5:∀p∈ys,IsTupleKey knd h p.1 p.2) (e6:t'.led= !byt w) :
  SetX knd (h.update a (Obj.putSet es' t')) a ys {o with data:=.set es' (ep+1) t'} es' (ep+1) t' :=
 ⟨put_get ho hd es' t',ex,rfl,e1,e2,e3,e4,fun p hp=>key_but (e5 p hp) ho hd (qAp h a _),e6⟩
theorem not_scan (b:Addr) (es:Array (Int×Value)):byScan (.ref b) es=false:=by
 unfold byScan;rfl
theorem grow_mask {m n:Nat} (hm:Msk m) (h0:n*5<m*3) (h1:m*3<=(n+1)*5) (hc:n+1<=306):Msk (sizeAbove (grown (n+1)) - 1)/\n+1<=sizeAbove (grown (n+1)) - 1/\(n+1)*5<(sizeAbove (grown (n+1)) - 1)*3/\sizeAbove (grown (n+1))<=512:=by
 rcases hm with rfl| rfl| rfl| rfl
 ·obtain rfl:n=4:=by lia
  refine ⟨by unfold Msk;decide +kernel,by decide +kernel,by decide +kernel,by decide +kernel⟩
 ·obtain rfl:n=18:=by lia
  refine ⟨by unfold Msk;decide +kernel,by decide +kernel,by decide +kernel,by decide +kernel⟩
 ·obtain rfl:n=76:=by lia
  refine ⟨by unfold Msk;decide +kernel,by decide +kernel,by decide +kernel,by decide +kernel⟩
 ·lia
theorem getD_hash (ys:List (List K×Addr)) (order:List Nat) (hp:order.Perm (List.range ys.length)):(order.filterMap (ys[·]?)).map (fun p=>tupleKeyHash knd p.1)=order.map (fun k=>(ys.map fun p=>tupleKeyHash knd p.1).getD k 0):=by
 have hall:∀k∈order,k<ys.length:=fun k hk=>qA1.mp (hp.mem_iff.mp hk);clear hp
 induction order with
 | nil=>rfl
 | cons k ks ih =>
  have hk:=hall k qAS;have e:ys[k]?=some ys[k]:=by simp [hk]
  rw [qCH,e];show tupleKeyHash knd ys[k].1::_=_::_;rw [ih (fun q hq=>hall q (qAT _ hq))];congr 1;show _=(List.map (fun p=>tupleKeyHash knd p.fst) ys).getD k 0;rw [qBD,qAZ,e];rfl
theorem range_get (ys:List α):(List.range ys.length).filterMap (ys[·]?)=ys:=by
 induction ys with
 | nil=>rfl
 | cons y ys ih =>
  rw [qAe,List.range_succ_eq_map,qCH];show y::_=_;rw [List.filterMap_map];congr 1
theorem perm_get (ys:List α) {order:List Nat} (hp:order.Perm (List.range ys.length)):(order.filterMap (ys[·]?)).Perm ys:=by
 have:=hp.filterMap (ys[·]?)
 rwa [range_get] at this
theorem w_relay {s:Shared} {m n:Nat} (ho:s.heap.get? a=some o) (ex:o.ExactSet) (hd:o.data= .set es ep t) (e1:es.toList=xs.map (en knd)) (e2:TOk t (xs.map fun p=>tupleKeyHash knd p.1)) (hn:xs.length=n+1) (h0:n*5<t.mask*3) (h1:t.mask*3<=(n+1)*5) (hc:n+1<=306)
  (e4:(xs.map (·.1)).Nodup) (e5:∀p∈xs,IsTupleKey knd s.heap p.1 p.2) (e6:t.led= !byt w) {Q:Unit->Shared->Prop} (h:∀h' ys o' es' ep' t',Heap.SameBut a s.heap h'->ys.Perm xs->SetX knd h' a ys o' es' ep' t'->Q () {s with heap:=h'}) :
  wpAny (model prog w) A (setRelay a (grown (n+1))) Q E s:=by
 obtain ⟨g1,g2,g3,g4⟩:=grow_mask e2.m h0 h1 hc;have ez:es.size=xs.length:=by have:=qAk List.length e1;simpa using this
 have hfit:t.fits es.size=true:=by
  unfold SetTable.fits;have z1:t.place.size=es.size:=by rw [e2.n,ez];simp
  have z2:t.fill<=t.mask:=by unfold fill;rw [e2.d];exact e2.f
  rw [z1];simp [z2]
 unfold setRelay;refine qAA (wpAny_setState_of ho hd hfit ?_);dsimp only;have hsl:sizeAbove (grown (n+1))<=sizeLine:=qAW g4 (by decide +kernel);rw [qAB (qCl.mpr hsl)];obtain ⟨t',order,l1,l2,l3,l4,l5,l6⟩:=laid_ok g1 (xs.map fun p=>tupleKeyHash knd p.1) (by rw [qAD];lia) t.finger (t.movedTo (sizeAbove (grown (n+1)) - 1)) t.led t.plain
 have lr:t.relaid (es.map (·.1)) (grown (n+1))=some (t',order):=by
  unfold relaid
  have:es.map (·.1)=(xs.map fun p=>tupleKeyHash knd p.1).toArray:=by
   apply Array.ext';rw [Array.toList_map,e1,qBV];rfl
  rw [this];exact l1
 rw [lr];rw [qAD] at l5;have lp:=perm_get xs l5
 have el':(order.filterMap (es[·]?)).toList=(order.toList.filterMap (xs[·]?)).map (en knd):=by
  rw [Array.toList_filterMap,List.map_filterMap];congr 1;funext k;rw [<-qAm,e1,qAZ]
 have ez':(order.filterMap (es[·]?)).size=es.size:=by
  rw [<-qBS,el',qAD,lp.length_eq,ez]
 refine qAA ?_;show wpAny _ _ (if ((order.filterMap (es[·]?)).size != es.size)=true then _ else _) _ _ _;rw [qAB (by rw [ez'];simp)];refine qAE ?_;dsimp only;refine wpAny_storeSet_of ho hd ?_ (by rw [ez',ez,hn];exact qAW hc (by decide +kernel));refine h _ _ _ _ _ _ (qAp _ a _) lp (put_X ho ex hd el' ?_ ?_ ?_ (fun p hp=>e5 p (lp.mem_iff.mp hp)) (l3.trans e6))
 ·rw [getD_hash xs order.toList l5];exact l6
 ·rw [lp.length_eq,hn,l2];exact g3
 ·exact (lp.map (·.1)).nodup_iff.mpr e4
theorem ins_perm (L:List α) (p:Nat) (x:α):(L.take p++x::L.drop p).Perm (x::L):=by
 have h1:(L.take p++x::L.drop p).Perm (x::(L.take p++L.drop p)):=List.perm_middle
 rwa [qA8] at h1
theorem plain_off {t:SetTable} (T:TOk t hs) (c:Bool):TOk (if c=true then t else {t with plain:=false}) hs/\(if c=true then t else {t with plain:=false}).mask=t.mask/\(if c=true then t else {t with plain:=false}).tooFull=t.tooFull/\(if c=true then t else {t with plain:=false}).led=t.led:=by
 cases c
 ·exact ⟨⟨T.m,T.d,T.r,T.l,T.n,T.f,T.reach⟩,rfl,rfl,rfl⟩
 ·exact ⟨T,rfl,rfl,rfl⟩
theorem w_add (hu:A.units<cLine) (X:SetX knd s.heap a xs o es ep t) {k:List K} (hk:IsTupleKey knd s.heap k b) (hc:xs.length+1<=306) {Q:Bool->Shared->Prop} (h1:k∈xs.map (·.1)->Q false s)
  (h2:k∉xs.map (·.1)->∀h' ys o' es' ep' t',Heap.SameBut a s.heap h'->ys.Perm ((k,b)::xs)->SetX knd h' a ys o' es' ep' t'->Q true {s with heap:=h'}) :
  wpAny (model prog w) A (setAddHashed a (.ref b) (tupleKeyHash knd k)) Q E s:=by
 unfold setAddHashed setAddHashedIn;refine qAx (qAA (X.state ?_));dsimp only;rw [not_scan,qAB (by decide)]
 have hpl:t.place.toList.length=xs.length:=by
  have:=X.ok.n;rw [qAD] at this;simpa using this
 have hroom:=X.room;obtain ⟨N,hNf,hN,hb⟩:=zId X.ok.m (tupleKeyHash knd k) (L:=t.place.toList) (by rw [hpl];lia)
 have hT:10*turns t.mask<100000:=by
  rcases X.ok.m with z| z| z| z<;>rw [z]<;>decide +kernel
 unfold setSearch;refine qAA (w_search hu X hk hN hb hNf ?_ ?_ N 0 100000 none (by lia) (by lia) rfl (fun m hm=>absurd hm (qCX m)))
 ·intro z;exact qAE (h1 z)
 ·intro z;dsimp only;refine qAA (X.state ?_);dsimp only
  have hf1:t.place.size+1<=t.mask:=by
   have:t.place.size=xs.length:=by simpa using hpl
   rcases X.ok.m with z| z| z| z<;>lia
  have T1:=put_ok X.ok (tupleKeyHash knd k) hN hb hf1;have em:(t.put (pr t.mask (tupleKeyHash knd k) N).j).1.mask=t.mask:=rfl;have ed:(t.put (pr t.mask (tupleKeyHash knd k) N).j).1.led=t.led:=rfl;have B:=(zEr X.ok.r (pr t.mask (tupleKeyHash knd k) N).j).le;have ep2:(t.put (pr t.mask (tupleKeyHash knd k) N).j).2=below t.place (pr t.mask (tupleKeyHash knd k) N).j:=rfl
  have fin:∀c:Bool,wpAny (model prog w) A (do
    storeSet a (SetTable.insertAt es (t.put (pr t.mask (tupleKeyHash knd k) N).j).2 (tupleKeyHash knd k,.ref b)) (if c=true then (t.put (pr t.mask (tupleKeyHash knd k) N).j).1 else {(t.put (pr t.mask (tupleKeyHash knd k) N).j).1 with plain:=false})
    if (!false&&(if c=true then (t.put (pr t.mask (tupleKeyHash knd k) N).j).1 else {(t.put (pr t.mask (tupleKeyHash knd k) N).j).1 with plain:=false}).tooFull)=true then do
     setRelay a (SetTable.grown (es.size+1))
     pure true
    else pure true) Q E s:=by
   intro c;generalize hp:(t.put (pr t.mask (tupleKeyHash knd k) N).j).2=p at *
   generalize ht:(t.put (pr t.mask (tupleKeyHash knd k) N).j).1=t1 at *
   have hple:p<=es.size:=by
    rw [X.size,ep2];have:t.place.size=xs.length:=by simpa using hpl
    lia
   obtain ⟨T2,m2,f2,d2⟩:=plain_off T1 c;generalize ht2:(if c=true then t1 else {t1 with plain:=false})=t2 at *
   have el:(SetTable.insertAt es p (tupleKeyHash knd k,Value.ref b)).toList=(xs.take p++(k,b)::xs.drop p).map (en knd):=by
    rw [zI3 es p _ hple,X.el,qAU,qAo,qCm,qCn];rfl
   have ip:=ins_perm xs p (k,b)
   have eT:(xs.map fun p=>tupleKeyHash knd p.1).take p++tupleKeyHash knd k::(xs.map fun p=>tupleKeyHash knd p.1).drop p=(xs.take p++(k,b)::xs.drop p).map fun p=>tupleKeyHash knd p.1:=by
    rw [qAU,qAo,qCm,qCn]
   rw [eT] at T2;have len:(xs.take p++(k,b)::xs.drop p).length=xs.length+1:=by rw [ip.length_eq];rfl
   have nd:((xs.take p++(k,b)::xs.drop p).map (·.1)).Nodup:=by
    refine (ip.map (·.1)).nodup_iff.mpr ?_;exact qBC.mpr ⟨z,X.nd⟩
   have ky:∀q∈xs.take p++(k,b)::xs.drop p,IsTupleKey knd s.heap q.1 q.2:=fun q hq=>by
    rcases qAO.mp (ip.mem_iff.mp hq) with y| y
    ·subst y;exact hk
    ·exact X.ky q y
   have sz:(SetTable.insertAt es p (tupleKeyHash knd k,Value.ref b)).size=xs.length+1:=by
    have:=qAk List.length el;rw [qAD,len] at this;simpa using this
   refine qAA (wpAny_storeSet_of X.ho X.hd ?_ (by rw [sz];exact qAW hc (by decide +kernel)))
   have fl:t2.tooFull=decide (t.mask*3<=(xs.length+1)*5):=by
    unfold tooFull fill;rw [T2.d,T2.n,qAD,len,m2,em];rfl
   by_cases cf:t.mask*3<=(xs.length+1)*5
   ·rw [qAC (by rw [fl];simp [cf])];rw [X.size];refine qAA ?_;refine w_relay (m:=0) (o:={o with data:=.set (insertAt es p (tupleKeyHash knd k,Value.ref b)) (ep+1) t2}) (put_get X.ho X.hd _ _) X.ex rfl el T2 len ?_ ?_ hc nd ?_ (d2.trans (ed.trans X.ld)) ?_
    ·rw [m2,em];exact hroom
    ·rw [m2,em];exact cf
    ·intro q hq;exact key_but (ky q hq) X.ho X.hd (qAp _ a _)
    ·intro h' ys o' es' ep' t' q1 q2 q3;exact qAE (h2 z h' ys o' es' ep' t' ((qAp _ a _).trans q1) (q2.trans ip) q3)
   ·rw [qAB (by rw [fl];simp [cf])];refine qAE (h2 z _ _ _ _ _ _ (qAp _ a _) ip (put_X X.ho X.ex X.hd el T2 ?_ nd ky (d2.trans (ed.trans X.ld))));rw [len,m2,em];lia
  by_cases cp:(t.put (pr t.mask (tupleKeyHash knd k) N).j).1.plain=true
  ·rw [qAC cp];exact qAA (w_hbv hk fin)
  ·rw [qAB cp];exact qAA (qAE (fin true))
end
end ST
namespace ST
open PySem PySem.SetTable PyProof.Rows
variable {h:Heap}{α:Type}
section
variable {prog:Program} {w:World} {K:Type} [DecidableEq K] {knd:KeyKind prog w K} {A:Around} {E:Value->Shared->Prop} {s:Shared}
variable {a:Addr} {xs:List (List K×Addr)} {o:Obj} {es:Array (Int×Value)} {ep:Nat} {t:SetTable}
theorem key_kept {h':Heap} {k:List K} {b:Addr} (x:IsTupleKey knd h k b) (e:∀o,h.get? b=some o->h'.get? b=some o):IsTupleKey knd h' k b :=
 let ⟨o,its,n,p1,r⟩:=x;⟨o,its,n,e o p1,r⟩
theorem SetX.kept {h h':Heap} (X:SetX knd h a xs o es ep t) (e:∀b o,(b=a\/∃p∈xs,p.2=b)->h.get? b=some o->h'.get? b=some o):SetX knd h' a xs o es ep t :=
 ⟨e a o (.inl rfl) X.ho,X.ex,X.hd,X.el,X.ok,X.room,X.nd,fun p hp=>key_kept (X.ky p hp) fun o q=>e _ o (.inr ⟨p,hp,rfl⟩) q,X.ld⟩
def Got (knd:KeyKind prog w K) (h:Heap) (a:Addr) (ks:List (List K×Addr)):Prop :=
 ∃xs o es ep t,SetX knd h a xs o es ep t/\(∀p∈xs,p∈ks)/\(∀p∈ks,p.1∈xs.map (·.1))/\xs.length<=ks.length
theorem Got.kept {h h':Heap} {ks:List (List K×Addr)} (g:Got knd h a ks) (e:∀b o,(b=a\/∃p∈ks,p.2=b)->h.get? b=some o->h'.get? b=some o):Got knd h' a ks:=by
 obtain ⟨xs,o,es,ep,t,X,g1,g2,g3⟩:=g;exact ⟨xs,o,es,ep,t,X.kept fun b o hb=>e b o (hb.imp id fun ⟨p,hp,q⟩=>⟨p,g1 p hp,q⟩),g1,g2,g3⟩
theorem Got.fresh {a:Addr} (ho:h.get? a=some {cls:=.type "set",dict:=none,data:=.set #[] 0 (.fresh 0 0 (!byt w))}):Got knd h a [] :=
 ⟨[],_,_,_,_,⟨ho,⟨rfl,rfl,rfl⟩,rfl,rfl,fresh_ok 0 0 _,(show 0*5<7*3 by decide),qAy,(fun p hp=>nomatch hp),rfl⟩,(fun p hp=>nomatch hp),(fun p hp=>nomatch hp),qAF _⟩
theorem w_more {ks:List (List K×Addr)} {k:List K} {b:Addr} (hu:A.units<cLine) (g:Got knd s.heap a ks) (hk:IsTupleKey knd s.heap k b) (hc:ks.length+1<=306) {Q:Bool->Shared->Prop}
  (h:∀c h',Heap.SameBut a s.heap h'->Got knd h' a (ks++[(k,b)])->Q c {s with heap:=h',toks:=s.toks+(k.length+1)}):wpAny (model prog w) A (setAdd a (.ref b)) Q E s:=by
 obtain ⟨xs,o,es,ep,t,X,g1,g2,g3⟩:=g;unfold setAdd;refine qAx (qAA (wpAny_pyHash_tuple hu hk ?_));refine w_add (s:={s with toks:=s.toks+(k.length+1)}) hu X hk (by lia) (fun z=>?_) fun z h' ys o' es' ep' t' q1 q2 q3=>?_
 ·refine h false s.heap (Heap.SameBut.refl a s.heap) ⟨xs,o,es,ep,t,X,fun p hp=>qAs _ (g1 p hp),fun p hp=>?_,by rw [qAf];exact Nat.le_succ_of_le g3⟩;rcases qAQ.mp hp with y| y
  ·exact g2 p y
  ·rw [qAP.mp y];exact z
 ·refine h true h' q1 ⟨ys,o',es',ep',t',q3,fun p hp=>?_,fun p hp=>?_,?_⟩
  ·rcases qAO.mp (q2.mem_iff.mp hp) with y| y
   ·rw [y];exact qAv _ (qAP.mpr rfl)
   ·exact qAs _ (g1 p y)
  ·have m:=(q2.map (·.1)).mem_iff (a:=p.1);refine m.mpr ?_;rcases qAQ.mp hp with y| y
   ·exact qAT _ (g2 p y)
   ·rw [qAP.mp y];exact qAS
  ·rw [q2.length_eq,qAf];exact Nat.succ_le_succ g3
end
section
variable {prog:Program} {w:World} {K:Type} [DecidableEq K] {knd:KeyKind prog w K} {A:Around} {R:Result->Shared->Prop} {I:Addr} {fp wr:List Addr} {G:Array GenState->Array GenState->Prop} {P:Nat->Value->Prop} {St:Nat->Shared->Prop}
theorem c_fill {ks:List (List K×Addr)} (hu:A.in1.units<cLine) (W:WalksS prog w A.in1 I fp wr G ks.length P St) (a:Addr) (haf:a∉fp) (hP:∀i v,P i v->∃p,ks[i]?=some p/\v= .ref p.2) (hka:∀p∈ks,p.2≠a/\p.2∉wr) (hc:ks.length<=306) :
  ∀(k i:Nat) (s:Shared),ks.length=i+k->St i s->Got knd s.heap a (ks.take i)->(∀p∈ks,IsTupleKey knd s.heap p.1 p.2) ->
   (∀s',Moved (a::wr) G s s'->Got knd s'.heap a ks->R (.ok (.ret .none)) s')->codeAny (model prog w) A (.builtin "set.update.loop" ⟨[.ref a,.ref I],[]⟩) R s:=by
 have haw:a∉wr:=fun z=>haf (W.sub a z);intro k
 induction k with
 | zero =>
  intro i s e st g ky hR;have e:i=ks.length:=by lia
  subst e;rw [qAj] at g;refine qBG PyProof.Rows.F.entry_set_update_loop ?_;rw [qBP qDc _];change wpAny _ A.in1 (pyNext (Value.ref I) >>= _) _ _ s;refine qAA (W.done s _ _ st fun s1 mv=>?_);refine qAE (hR s1 (mv.mono fun b hb=>qAT a hb) (g.kept fun b o hb q=>mv.heap b o ?_ q));rcases hb with rfl| ⟨p,hp,rfl⟩
  ·exact haw
  ·exact (hka p hp).2
 | succ k ih =>
  intro i s e st g ky hR;have hi:i<ks.length:=by lia
  refine qBG PyProof.Rows.F.entry_set_update_loop ?_;rw [qBP qDc _];change wpAny _ A.in1 (pyNext (Value.ref I) >>= _) _ _ s;refine qAA (W.item i s _ _ hi st fun v s1 pv st1 mv=>?_);obtain ⟨p,ep,rfl⟩:=hP i v pv;have pm:p∈ks:=qAL ep
  have up:∀b o,(b=a\/∃q∈ks,q.2=b)->s.heap.get? b=some o->s1.heap.get? b=some o:=fun b o hb q=>mv.heap b o (by
   rcases hb with rfl| ⟨p,hp,rfl⟩
   ·exact haw
   ·exact (hka p hp).2) q
  have g1:=g.kept (h':=s1.heap) fun b o hb=>up b o (hb.imp id fun ⟨q,hq,z⟩=>⟨q,qBt hq,z⟩);have ky1:∀q∈ks,IsTupleKey knd s1.heap q.1 q.2:=fun q hq=>key_kept (ky q hq) fun o=>up _ o (.inr ⟨q,hq,rfl⟩);change wpAny _ A.in1 (holding [Value.ref p.2] (setAdd a (.ref p.2)) >>= _) _ _ s1;refine qAA (qAx (w_more (knd:=knd) hu g1 (ky1 p pm) (by rw [qAX];lia) fun c h' sb g2=>?_))
  have et:ks.take i++[(p.1,p.2)]=ks.take (i+1):=by
   rw [qCo,ep];rfl
  rw [et] at g2
  have st2:=W.frame (i+1) s1 h' (s1.toks+(p.1.length+1)) st1 (qBs _ _) fun b hb o q=>by
   rw [sb.2 b fun z=>haf (z▸hb)];exact q
  refine qAE ⟨qB8 qDc _,ih (i+1) _ (by lia) st2 g2 (fun q hq=>key_kept (ky1 q hq) fun o z=>(sb.2 _ (hka q hq).1).trans z) fun s2 mv2 g3=>hR s2 ?_ g3⟩;refine Moved.trans W.gtrans ((mv.mono fun b hb=>qAT a hb).then_heap (qBs _ _) fun b o hb z=>?_) mv2;exact (sb.2 b fun y=>hb (y▸qAS)).trans z
end
section
variable {prog:Program} {w:World} {K:Type} [DecidableEq K] {knd:KeyKind prog w K} {A:Around} {E:Value->Shared->Prop} {s:Shared}
def set0 (w:World):Obj:={cls:=.type "set",dict:=none,data:=.set #[] 0 (.fresh 0 0 (!byt w))}
theorem c_new (v:Value) {Q:Value->Shared->Prop} (h:Q (.ref s.heap.objs.size) {s with heap:=s.heap.push (set0 w)}):codeAny (model prog w) A (.call (.builtin "set.__new__") ⟨[.type "set",v],[]⟩) (wants Q E) s:=by
 refine codeAny_of_tree ?_;change wpAny _ A.in1 (checkBuiltinCall "set.__new__" ⟨[.type "set",v],[]⟩ >>= fun _=>again (.builtin "set.__new__" ⟨[.type "set",v],[]⟩)) _ _ s;refine qAA (wpAny_of_eq (F.newCall_set_1 v) (qAE ⟨qB8 F.plain_set_new _,qBG F.entry_set_new ?_⟩));rw [qBP F.plain_set_new _];unfold Builtin.«set.__new__» Builtin.Frozenset.newClass;have q:=sub_set_self;obtain ⟨hp,g,d,tk,os⟩:=s;dsimp only
 wp_walk
 refine qBW (qAE ?_);dsimp only;simp only [newObj];refine qAA (wpAny_alloc (qAE (qAE ?_)));exact h
theorem w_setBy {l:Addr} {its:Array Value} {Z:Heap->Prop} {Q:Value->Shared->Prop} (hh:A.handled=none) (hl:s.heap.IsList l its)
  (fill:∀(A1:Around) (R:Result->Shared->Prop) (s3:Shared) (fp:List Addr) (G:Array GenState->Array GenState->Prop) (St:Nat->Shared->Prop),A1.in1.units<=A.units+3->WalksS prog w A1.in1 (s.heap.objs.size+1) fp [s.heap.objs.size+1] G its.size (fun i v=>its[i]?=some v) St->s.heap.objs.size∉fp ->
   s3.heap.get? s.heap.objs.size=some (set0 w)->(∀b o,s.heap.get? b=some o->s3.heap.get? b=some o)->St 0 s3->(∀s',Moved [s.heap.objs.size,s.heap.objs.size+1] G s3 s'->Z s'.heap->R (.ok (.ret .none)) s') ->
   codeAny (model prog w) A1 (.builtin "set.update.loop" ⟨[.ref s.heap.objs.size,.ref (s.heap.objs.size+1)],[]⟩) R s3)
  (h:∀(h':Heap) (tk:Nat),s.toks<=tk->Z h'->(∀b o,s.heap.get? b=some o->h'.get? b=some o)->Q (.ref s.heap.objs.size) {s with heap:=h',toks:=tk}) :
  wpAny (model prog w) A (call (.type "set") [.ref l]) Q E s:=by
 obtain ⟨c,tl,hmro⟩:=qBu.mro;have k1:=qBu.made;have k2:=qBu.sub;refine qCK (codeAny_of_tree ?_);change wpAny _ _ (callAny (.type "set") _) _ _ _;refine qAE ⟨Code.quiet_builtin _ (by decide +kernel),qBG F.entry_type_call ?_⟩;rw [Around.under_plain (weight_type_call_type "set" [.ref l] []) rfl];have k3:=qBu.notType;have k4:=qBu.canCreate;have k5:=F.typeCall_set_1 (.ref l)
 repeat (any_goals (first| assumption| wp_step))
 have hne:∀b o,s.heap.get? b=some o->b≠s.heap.objs.size:=fun b o q=>qAN (qAK q);refine qCL (c_new (w:=w) (.ref l) (E:=E) (Q:=fun ob s1=>ob= .ref s.heap.objs.size/\s1={s with heap:=s.heap.push (set0 w)}) ⟨rfl,rfl⟩) fun r s1 hr=>?_
 cases r with
 | error e=>exact hr
 | ok fl =>
  cases fl with
  | ret ob =>
   obtain ⟨rfl,rfl⟩:=hr;have hS:(s.heap.push (set0 w)).get? s.heap.objs.size=some (set0 w):=qAc _ rfl;have hT:Shared.TypeIs {s with heap:=s.heap.push (set0 w)} (.ref s.heap.objs.size) "set" := ⟨_,hS,rfl⟩;have k6:=qBu.init.lookup;have k7:=qBu.init.bind (.ref s.heap.objs.size)
   repeat (any_goals (first| assumption| wp_step))
   refine qCL (codeAny_call_builtin (R:=wants (fun r s2=>r= .none/\∃h' tk,s2={s with heap:=h',toks:=tk}/\s.toks<=tk/\Z h'/\(∀b o,s.heap.get? b=some o->h'.get? b=some o)) E) qBu.init.plain F.entry_set_init (check_set_init_1 hT ?_)) fun r2 s2 hr2=>?_
   ·obtain ⟨ol,hol,hcl,nl,hdl⟩:=hl;obtain ⟨o1,o2,o3,o4⟩:=ol;simp only at hcl hdl;subst hcl hdl;have hol1:(s.heap.push (set0 w)).get? l=some {cls:=.type "list",dict:=o2,data:=.seq its nl,slots:=o4}:=qAI _ hol;have k8:=F.sub_list_set;have k9:=F.sub_list_frozenset;have k10:(Value.type "list" == Value.type "dict")=false:=by decide
    have hl1:(s.heap.push (set0 w)).IsList l its:=⟨_,hol1,rfl,nl,rfl⟩;unfold Builtin.«set.__init__» noKeywords Builtin.Frozenset.updateFrom;generalize hPI:pyIter=PI
    wp_walk
    subst hPI;refine qC4 hl1 ?_;refine qAA (wpAny_runValue ?_);have esz:(s.heap.push (set0 w)).objs.size=s.heap.objs.size+1:=qBY _ _;have hls:l<s.heap.objs.size:=qAK hol;have W:=(qCS (prog:=prog) (w:=w) (A:=A.in1.in1.in1) (by simpa using hh) (s.heap.push (set0 w)).objs.size l (by rw [esz];exact qAN (qBp hls)) its).toS;rw [esz] at W;rw [esz];refine fill A.in1.in1 _ _ _ _ _ (by show A.units+1+1+1<=A.units+3;lia) W ?_ (qAI _ hS) (fun b o q=>qAI _ (qAI _ q)) ⟨⟨_,by rw [<-esz];exact qAc _ rfl,rfl,rfl⟩,hl1.push _⟩ ?_
    ·simp only [qAO,qBh,qB9,not_or];exact ⟨qAN (qCJ _),qAu hls⟩
    ·intro s1 mv g;obtain ⟨h1,g1,d1,tk1,os1⟩:=s1;have e1:g1=s.gens:=mv.gens;have e2:d1=s.drawn:=mv.drawn;have e3:os1=s.os:=mv.os;subst e1 e2 e3;show wpAny _ _ _ _ _ _;refine qAE (qAE ⟨rfl,h1,tk1,rfl,mv.toks,g,fun b o q=>?_⟩);have:=qAK q
     exact mv.heap b o (by
      simp only [qAO,qBh,qB9,not_or];exact ⟨qAN this,qAN (qBp this)⟩) (qAI _ (qAI _ q))
   ·cases r2 with
    | error e=>exact hr2
    | ok f2 =>
     cases f2 with
     | ret r =>
      obtain ⟨rfl,h',tk,rfl,q1,q2,q3⟩:=hr2
      repeat (any_goals (first| assumption| wp_step))
      exact h _ _ q1 q2 q3
     | _=>exact hr2.elim
  | _=>exact hr.elim
theorem w_mkset {l:Addr} {its:Array Value} {ks:List (List K×Addr)} {Q:Value->Shared->Prop} (hh:A.handled=none) (hu:A.units+8<cLine) (hl:s.heap.IsList l its) (ei:its.toList=ks.map fun p=>.ref p.2) (ky:∀p∈ks,IsTupleKey knd s.heap p.1 p.2) (hc:ks.length<=306)
  (h:∀(h':Heap) (tk:Nat),s.toks<=tk->Got knd h' s.heap.objs.size ks->(∀b o,s.heap.get? b=some o->h'.get? b=some o)->Q (.ref s.heap.objs.size) {s with heap:=h',toks:=tk}) :
  wpAny (model prog w) A (call (.type "set") [.ref l]) Q E s:=by
 refine w_setBy hh hl (fun A1 R s3 fp G St hv W hf hS kp st hR=>?_) h
 have ez:its.size=ks.length:=by
  have:=qAk List.length ei;simpa using this
 rw [ez] at W;refine c_fill (knd:=knd) (by lia) W s.heap.objs.size hf (fun i v hv=>?_) (fun p hp=>?_) hc ks.length 0 _ (by lia) st (Got.fresh hS) (fun p hp=>key_kept (ky p hp) fun o q=>kp _ o q) hR
 ·have:its.toList[i]?=some v:=by rw [qAm];exact hv
  rw [ei,qAZ] at this
  cases hk:ks[i]? with
  | none=>rw [hk] at this;exact nomatch this
  | some p=>rw [hk] at this;exact ⟨p,rfl,(qAh this).symm⟩
 ·obtain ⟨o,_,_,ho,_⟩:=ky p hp;have:=qAK ho;simp only [qAO,qBh,qB9];exact ⟨qAN this,qAN (qBp this)⟩
end
theorem zEu:Slot "set_iterator" "__next__" "set_iterator.__next__" :=
 .of (owner:= "set_iterator") (n:= "__next__") (by rw [qCp,qCq];kernel_rfl) (by decide +kernel) (by decide +kernel) (by decide +kernel) (by first| exact .inl (by decide +kernel)| exact .inr (by decide +kernel)) (by rw [isSubtype_type];kernel_rfl)
theorem sl_self:Slot "set_iterator" "__iter__" "set_iterator.__iter__" :=
 .of (owner:= "set_iterator") (n:= "__iter__") (by rw [qCp,qCq];kernel_rfl) (by decide +kernel) (by decide +kernel) (by decide +kernel) (by first| exact .inl (by decide +kernel)| exact .inr (by decide +kernel)) (by rw [isSubtype_type];kernel_rfl)
theorem en_next:entryFor table "set_iterator.__next__" = some Builtin.«set_iterator.__next__»:=entryFor_of_fast (by kernel_rfl)
theorem en_self:entryFor table "set_iterator.__iter__" = some Builtin.«dict_keyiterator.__iter__»:=entryFor_alias (id':= "dict_keyiterator.__iter__") (by kernel_rfl) rfl (by decide +kernel) (by kernel_rfl)
theorem en_iter:entryFor table "set.__iter__" = some Builtin.«frozenset.__iter__»:=entryFor_alias (id':= "frozenset.__iter__") (by kernel_rfl) rfl (by decide +kernel) (by kernel_rfl)
theorem ar_next (a:Value):argsOk "set_iterator.__next__" ⟨[a],[]⟩:=by unfold argsOk;kernel_rfl
theorem ar_self (a:Value):argsOk "set_iterator.__iter__" ⟨[a],[]⟩:=by unfold argsOk;kernel_rfl
theorem zCx {M:Model} {A:Around} {E:Value->Shared->Prop} {s:Shared} {c:Prop} [Decidable c] {x y:Sem α} {Q:α->Shared->Prop} (hc:¬c) (h:wpAny M A y Q E s):wpAny M A (if c then x else y) Q E s:=by rw [qAB hc];exact h
theorem zE4 {M:Model} {A:Around} {E:Value->Shared->Prop} {s:Shared} {c:Prop} [Decidable c] {x y:Sem α} {Q:α->Shared->Prop} (hc:c) (h:wpAny M A x Q E s):wpAny M A (if c then x else y) Q E s:=by rw [qAC hc];exact h
theorem zFy :∀{L:List α} {i:Nat} {x:α},L[i]?=some x->(x::L.eraseIdx i).Perm L
 | [],i,x,h=>by simp at h
 | y::r,0,x,h=>by
  have:y=x:=qAh h;subst this;exact qCr _
 | y::r,i+1,x,h=>by
  rw [qCk] at h;exact (List.Perm.swap y x _).trans (List.Perm.cons y (zFy h))
theorem pick_go (next:Nat->Nat):∀(fuel k:Nat) (left:List α) (out:Array α),left.length<=fuel->(pickOrder.go next fuel k left out).toList.Perm (out.toList++left)
 | 0,k,left,out,h=>by
  have:left=[]:=qCY.mp (Nat.le_zero.mp h);subst this;unfold pickOrder.go;rw [qA2]
 | fuel+1,k,left,out,h=>by
  unfold pickOrder.go
  cases e:left[next k % left.length]? with
  | none =>
   have:left=[]:=by
    cases left with
    | nil=>rfl
    | cons x r =>
     have:=qDd.mp e;have h2:=Nat.mod_lt (next k) (show 0<(x::r).length from Nat.succ_pos _);exact absurd h2 (qCl.mpr this)
   subst this;dsimp only;rw [qA2]
  | some x =>
   dsimp only;have p:=zFy e;have hl:=p.length_eq;rw [qAe] at hl;refine (pick_go next fuel (k+1) _ _ (by lia)).trans ?_;rw [qCW,qBM];exact List.Perm.append_left _ p
theorem pick_perm (next:Nat->Nat) (xs:Array α):(pickOrder next xs).toList.Perm xs.toList:=by
 have:=pick_go next xs.size 0 xs.toList #[] (by simp);show (pickOrder.go next xs.size 0 xs.toList #[]).toList.Perm _;simpa using this
section
variable {prog:Program} {w:World} {K:Type} [DecidableEq K] {knd:KeyKind prog w K} {A:Around} {E:Value->Shared->Prop}
theorem w_choose {s:Shared} {src:Source} {n:Nat} (hn:n≠0) {Q:Nat->Shared->Prop} (h:∀i d,i<n->Q i {s with drawn:=d}):wpAny (model prog w) A (choose src n) Q E s:=fun _ _ _=>⟨hn,h _ _ (Nat.mod_lt _ (Nat.pos_of_ne_zero hn))⟩
theorem w_draw :∀(n:Nat) (L:List α) (s:Shared) (Q:List α->Shared->Prop),L.length=n->(∀M d,M.Perm L->Q M {s with drawn:=d})->wpAny (model prog w) A (drawOrder n L) Q E s
 | 0,L,s,Q,hl,h=>by
  have:L=[]:=qCY.mp hl;subst this;unfold drawOrder;exact qAE (h [] s.drawn (qCr _))
 | n+1,[],s,Q,hl,h=>nomatch hl
 | n+1,x::r,s,Q,hl,h=>by
  unfold drawOrder;refine qAA (w_choose (by rw [hl];exact Nat.succ_ne_zero n) fun i d hi=>?_);obtain ⟨y,ey⟩:∃y,(x::r)[i]?=some y:=⟨(x::r)[i],qAt hi⟩;rw [ey];dsimp only;have p:=zFy ey;have hl2:=p.length_eq;rw [qAe] at hl2;refine qAA (w_draw n _ _ _ (by lia) fun M d' hM=>qAE ?_);exact h (y::M) d' ((List.Perm.cons y hM).trans p)
end
def dr (es:Array (Int×Value)) (t:SetTable):Bool:=!t.plain&&decide (es.size>1)
def ItM (w:World) (h:Heap) (a:Addr) (es:Array (Int×Value)) (ep:Nat) (t:SetTable) (ord:List Value) (i:Nat) (first:Value):Prop :=
 (byt w=true/\(∃j:Nat,first= .int j 0)/\ord=(pickOrder (w.params.setOrder a ep) es).toList.map (·.2)) \/
 (byt w=false/\∃(T:Addr) (oT:Obj) (c:Nat) (pl:List Nat),first= .ref T/\h.get? T=some oT/\oT.data= .seq (pl.map fun (p:Nat)=>Value.int p 0).toArray c/\pl.Perm (List.range es.size)/\ord=pl.filterMap fun p=>(es[p]?).map (·.2)) \/
 (byt w=false/\dr es t=false/\∃slot:Nat,first= .int slot 0/\below t.place slot=i/\ord=es.toList.map (·.2))
structure ItS (w:World) (h:Heap) (I a:Addr) (es:Array (Int×Value)) (ep:Nat) (t:SetTable) (ord:List Value) (i:Nat) (o:Obj) (first:Value):Prop where
 ho:h.get? I=some o
 hc:o.cls= .type "set_iterator"
 hd:o.data= .fields #[first,.int i 0,.ref a,.int es.size 0,.int ep 0]
 hm:ItM w h a es ep t ord i first
section
variable {prog:Program} {w:World} {K:Type} [DecidableEq K] {knd:KeyKind prog w K} {A:Around} {E:Value->Shared->Prop} {s:Shared}
variable {a I:Addr} {xs:List (List K×Addr)} {o oI:Obj} {es:Array (Int×Value)} {ep i:Nat} {t:SetTable} {ord:List Value} {first:Value}
theorem below_zero (hr:Rise t.place.toList):below t.place 0=0:=by
 have B:=zEr hr 0;rcases Nat.eq_zero_or_pos (below t.place 0) with z| z
 ·exact z
 ·have hs:0<t.place.size:=qAn z B.le;have e:t.place[0]?=some t.place[0]:=by simp [hs]
  exact absurd (B.lo 0 _ z e) (qCX _)
theorem below_next (hr:Rise t.place.toList) {i j:Nat} (e:t.place[i]?=some j):below t.place (j+1)=i+1:=by
 have B:=zEr hr (j+1);have hi:i<t.place.size:=(qBr.mp e).1;have h1:i<below t.place (j+1):=qDB fun z=>by have:=B.hi i j z e;lia
 rcases Nat.lt_or_ge (i+1) (below t.place (j+1)) with z| z
 ·have hs:i+1<t.place.size:=qAn z B.le;have e2:t.place[i+1]?=some t.place[i+1]:=by simp [hs]
  have q1:=B.lo (i+1) _ z e2;have q2:=zEl hr (qCJ i) e e2;lia
 ·lia
theorem ItM.perm (m:ItM w h a es ep t ord i first):ord.Perm (es.toList.map (·.2)):=by
 rcases m with ⟨_,_,rfl⟩| ⟨_,T,oT,c,pl,_,_,_,hp,rfl⟩| ⟨_,_,slot,_,_,rfl⟩
 ·exact (pick_perm _ es).map _
 ·have:=hp.filterMap fun p=>(es[p]?).map (·.2);refine this.trans (List.Perm.of_eq ?_);rw [<-List.map_filterMap];congr 1;have:=range_get es.toList;rw [qBS] at this;simpa using this
 ·exact qCr _
theorem ItM.len (m:ItM w h a es ep t ord i first):ord.length=es.size:=by
 rw [m.perm.length_eq];simp
theorem ItS.typeIs (it:ItS w s.heap I a es ep t ord i oI first):s.TypeIs (.ref I) "set_iterator" := ⟨_,it.ho,it.hc⟩
theorem fm_at {pl:List Nat} (hp:pl.Perm (List.range es.size)) (i:Nat):(pl.filterMap fun p=>(es[p]?).map (·.2))[i]?=(pl[i]?).bind fun p=>(es[p]?).map (·.2):=by
 have hall:∀k∈pl,k<es.size:=fun k hk=>qA1.mp (hp.mem_iff.mp hk);clear hp
 induction pl generalizing i with
 | nil=>simp
 | cons k ks ih =>
  have hk:=hall k qAS;have e:es[k]?=some es[k]:=by simp [hk]
  have ih':=fun i=>ih i fun q hq=>hall q (qAT _ hq);rw [qCH,e]
  cases i with
  | zero=>simp [e]
  | succ i =>
   show (_::_)[i+1]?=_;rw [qCk,ih' i,qCk]
theorem w_item (X:SetX knd s.heap a xs o es ep t) (it:ItS w s.heap I a es ep t ord i oI first) (hne:I≠a) {v:Value} (hv:ord[i]?=some v) {Q:Option Value->Shared->Prop}
  (h:∀h' o' f',Heap.SameBut I s.heap h'->ItS w h' I a es ep t ord (i+1) o' f'->(∀T,f'= .ref T->first= .ref T)->Q (some v) {s with heap:=h'}):wpAny (model prog w) A (pyNext (.ref I)) Q E s:=by
 unfold pyNext;refine qAA (qCT (qDC (name:=Str.ofString "__next__") it.typeIs zEu (qCA zEu it.typeIs en_next ?_ (ar_next _))));unfold Builtin.«set_iterator.__next__»;refine qAA (m:=slotArgs "__next__" 0 _) (qAE ?_);refine qAA (wpAny_fieldsOf it.ho it.hd ?_);dsimp only;refine qAA (wpAny_setEntries_of X.ho X.hd X.fits ?_);refine zCx (by simp) ?_;rcases it.hm with ⟨m1,⟨j,rfl⟩,m3⟩| ⟨m1,T,oT,c,pl,rfl,m3,m4,m5,m6⟩| ⟨m1,m2,slot,rfl,m4,m5⟩
 ·dsimp only;refine qAA ?_;unfold setNext;refine qAA (X.state ?_);dsimp only;refine qAA (qAA (qBW (qAE ?_)));refine zE4 m1 ?_;refine zCx (by simp) ?_;refine qAA ?_;unfold setWalk;refine qAA (X.state ?_);dsimp only;refine qAA (qAA (qBW (qAE ?_)));refine zE4 m1 ?_;refine qAA (qBW (qAE (qAE ?_)))
  have e1:(pickOrder (w.params.setOrder a ep) es)[i]?.map (·.2)=some v:=by
   rw [m3,qAZ] at hv;rw [<-qAm];exact hv
  obtain ⟨q,q1,q2⟩:=qBU.mp e1;subst q2;have e2:(pickOrder ((model prog w).w.params.setOrder a ep) es)[(i:Int).toNat]?=some q:=q1
  erw [e2]
  show wpAny _ _ (setField (.ref I) 0 (rawInt _) >>= _) _ _ _;refine qAA (qBi it.ho it.hd (by simp) ?_);have g1:=qBL (Obj.mapFields (·.setIfInBounds 0 (rawInt (j:Int).toNat))) it.ho (qCZ (qA0 it.hd _));refine qAA (qBi g1 (qA0 it.hd _) (by simp) ?_);refine qAE ⟨_,rfl,qAE (h _ _ _ ((qAp ..).trans (qAp ..)) ⟨qBL _ g1 (qCZ (qA0 (qA0 it.hd _) _)),?_,?_,.inl ⟨m1,⟨j,rfl⟩,m3⟩⟩ (fun T z=>nomatch z))⟩
  ·rw [qCs,qCs];exact it.hc
  ·rw [qA0 (qA0 it.hd _)];simp [rawInt]
 ·dsimp only
  have hTI:T≠I:=fun z=>by
   subst z;have:=qAh (m3.symm.trans it.ho);subst this;rw [it.hd] at m4;exact nomatch m4
  refine qAA (m:=seqItems? (.ref T)) (wpAny_seqItems m3 m4 ?_);dsimp only;rw [m6,fm_at m5] at hv;obtain ⟨p,p1,p2⟩:=Option.bind_eq_some_iff.mp hv;obtain ⟨q,q1,q2⟩:=qBU.mp p2;subst q2
  have e1:(pl.map fun (p:Nat)=>Value.int p 0).toArray[(i:Int).toNat]?=some (.int p 0):=by
   simp [p1]
  rw [e1];dsimp only;refine qAA ?_;unfold setNextDrawn;refine qAA (X.state ?_);dsimp only;refine zCx (by simp) ?_;have e2:es[(p:Int).toNat]?=some q:=q1;rw [e2];refine qAE ?_;refine qAA (qBi it.ho it.hd (by simp) ?_);refine qAE ⟨_,rfl,qAE (h _ _ _ (qAp ..) ⟨qBL _ it.ho (qCZ (qA0 it.hd _)),(qCs ..).trans it.hc,?_,.inr (.inl ⟨m1,T,oT,c,pl,rfl,?_,m4,m5,m6⟩)⟩ (fun T z=>z))⟩
  ·rw [qA0 it.hd];simp [rawInt]
  ·exact ((qAp s.heap I _).2 T hTI).trans m3
 ·dsimp only;refine qAA ?_;unfold setNext;refine qAA (X.state ?_);dsimp only;refine qAA (qAA (qBW (qAE ?_)));refine zCx (by show¬(byt w=true);rw [m1];decide) ?_;refine zCx (show¬(dr es t=true) by rw [m2];decide) ?_;refine qAA (zCx (show¬((!t.led&& !es.isEmpty)=true) by rw [X.ld,m1];simp) (qAE ?_))
  have hl:i<es.size:=by
   rw [<-it.hm.len];exact (qAV.mp hv).1
  have hl2:i<t.place.size:=by
   rw [X.ok.n,qAD,<-X.size];exact hl
  have e1:es[i]?=some es[i]:=by simp [hl]
  have e2:t.place[i]?=some t.place[i]:=by simp [hl2]
  have e3:es[i].2=v:=by
   rw [m5,qAZ,qAm,e1] at hv;exact qAh hv
  have e4:below t.place (slot:Int).toNat=i:=m4;rw [e4,e1,e2];refine qAE ?_;show wpAny _ _ (setField (.ref I) 0 (rawInt _) >>= _) _ _ _;refine qAA (qBi it.ho it.hd (by simp) ?_);have g1:=qBL (Obj.mapFields (·.setIfInBounds 0 (rawInt ((t.place[i]+1:Nat):Int)))) it.ho (qCZ (qA0 it.hd _));refine qAA (qBi g1 (qA0 it.hd _) (by simp) ?_);subst e3;refine qAE ⟨_,rfl,qAE (h _ _ _ ((qAp ..).trans (qAp ..)) ⟨qBL _ g1 (qCZ (qA0 (qA0 it.hd _) _)),?_,?_,.inr (.inr ⟨m1,m2,t.place[i]+1,rfl,below_next X.ok.r e2,m5⟩)⟩ (fun T z=>nomatch z))⟩
  ·rw [qCs,qCs];exact it.hc
  ·rw [qA0 (qA0 it.hd _)];simp [rawInt]
theorem w_stop {s:Shared} {Q:Option Value->Shared->Prop} (hh:A.handled=none) (h:∀h',(∀b o,s.heap.get? b=some o->h'.get? b=some o)->Q none {s with heap:=h'}) :
  wpAny (model prog w) A.in1 (newExc (.type "StopIteration") [] >>= fun e=>(raiseNew e:Sem Fin)) (fun fin s'=>∃r,fin= .done (.ret r)/\wpAny (model prog w) A (pure (some r)) Q E s')
   (fun e s'=>wpAny (model prog w) A (isInstance e (.type "StopIteration") >>= fun b=>if b=true then pure none else throw e) Q E s') s:=by
 refine qAA ?_;simp only [newExc,newTuple];refine qAA (qCR ?_ (by size_fits));refine qAA (m:=firstArgMember _ _) (wpAny_of_eq (a:=Value.none) (by first| rfl| (simp only [firstArgMember];rfl)) ?_);refine qCR ?_ (by size_fits);simp only [raiseNew];refine qAA (wpAny_handled ?_);rw [show A.in1.handled=none from hh];refine qAA (qAE (wpAny_throw ?_));refine qAA (qDD (T:= "StopIteration") (b:=true) ⟨_,qAc _ rfl,rfl⟩ isSubtype_stop ?_);exact qAE (h _ fun b o q=>qAI _ (qAI _ q))
theorem w_done (hh:A.handled=none) (X:SetX knd s.heap a xs o es ep t) (it:ItS w s.heap I a es ep t ord i oI first) (hv:ord[i]?=none) {Q:Option Value->Shared->Prop}
  (h:∀h',(∀b o,b≠I->s.heap.get? b=some o->h'.get? b=some o)->Q none {s with heap:=h'}):wpAny (model prog w) A (pyNext (.ref I)) Q E s:=by
 unfold pyNext;refine qAA (qCT (qDC (name:=Str.ofString "__next__") it.typeIs zEu (qCA zEu it.typeIs en_next ?_ (ar_next _))));unfold Builtin.«set_iterator.__next__»;refine qAA (m:=slotArgs "__next__" 0 _) (qAE ?_);refine qAA (wpAny_fieldsOf it.ho it.hd ?_);dsimp only;refine qAA (wpAny_setEntries_of X.ho X.hd X.fits ?_);refine zCx (by simp) ?_;have up:∀h1,Heap.SameBut I s.heap h1->∀h',(∀b o,h1.get? b=some o->h'.get? b=some o)->Q none {s with heap:=h'}:=fun h1 sb h' q=>h h' fun b o hb z=>q b o ((sb.2 b hb).trans z);rcases it.hm with ⟨m1,⟨j,rfl⟩,m3⟩| ⟨m1,T,oT,c,pl,rfl,m3,m4,m5,m6⟩| ⟨m1,m2,slot,rfl,m4,m5⟩
 ·dsimp only;refine qAA ?_;unfold setNext;refine qAA (X.state ?_);dsimp only;refine qAA (qAA (qBW (qAE ?_)));refine zE4 m1 ?_;refine zCx (by simp) ?_;refine qAA ?_;unfold setWalk;refine qAA (X.state ?_);dsimp only;refine qAA (qAA (qBW (qAE ?_)));refine zE4 m1 ?_;refine qAA (qBW (qAE (qAE ?_)))
  have e1:(pickOrder (w.params.setOrder a ep) es)[i]?.map (·.2)=none:=by
   rw [m3,qAZ] at hv;rw [<-qAm];exact hv
  have e2:(pickOrder ((model prog w).w.params.setOrder a ep) es)[(i:Int).toNat]?=none:=qDe.mp e1
  erw [e2]
  show wpAny _ _ (setField (.ref I) 2 Value.none >>= _) _ _ _;refine qAA (qBi it.ho it.hd (by simp) ?_);refine w_stop hh ?_;exact up _ (qAp ..)
 ·dsimp only;refine qAA (m:=seqItems? (.ref T)) (wpAny_seqItems m3 m4 ?_);dsimp only
  have e1:(pl.map fun (p:Nat)=>Value.int p 0).toArray[(i:Int).toNat]?=none:=by
   have h1:ord.length<=i:=qDd.mp hv;rw [it.hm.len] at h1;have h2:=m5.length_eq;rw [List.length_range] at h2;simp only [Int.toNat_natCast,List.getElem?_toArray,qAZ,qDe,qDd];lia
  rw [e1];dsimp only;refine qAA (qBi it.ho it.hd (by simp) ?_);have g1:=qBL (Obj.mapFields (·.setIfInBounds 0 (rawInt 0))) it.ho (qCZ (qA0 it.hd _));refine qAA (qBi g1 (qA0 it.hd _) (by simp) ?_);refine w_stop hh ?_;exact up _ ((qAp ..).trans (qAp ..))
 ·dsimp only;refine qAA ?_;unfold setNext;refine qAA (X.state ?_);dsimp only;refine qAA (qAA (qBW (qAE ?_)));refine zCx (by show¬(byt w=true);rw [m1];decide) ?_;refine zCx (show¬(dr es t=true) by rw [m2];decide) ?_;refine qAA (zCx (show¬((!t.led&& !es.isEmpty)=true) by rw [X.ld,m1];simp) (qAE ?_))
  have e1:es[i]?=none:=by
   rw [m5,qAZ,qAm] at hv;exact qDe.mp hv
  have e4:below t.place (slot:Int).toNat=i:=m4;rw [e4,e1];refine qAE ?_;show wpAny _ _ (setField (.ref I) 2 Value.none >>= _) _ _ _;refine qAA (qBi it.ho it.hd (by simp) ?_);refine w_stop hh ?_;exact up _ (qAp ..)
theorem w_self (it:ItS w s.heap I a es ep t ord i oI first) {Q:Value->Shared->Prop} (h:Q (.ref I) s):wpAny (model prog w) A (pyIter (.ref I)) Q E s:=by
 refine wpAny_pyIter_slot it.typeIs sl_self (qCA sl_self it.typeIs en_self ?_ (ar_self _));show wpAny _ _ (ret (.ref I)) _ _ s;exact qAE ⟨_,rfl, "set_iterator",_,it.typeIs,zEu.lookup,h⟩
theorem SetX.typeIs (X:SetX knd s.heap a xs o es ep t):s.TypeIs (.ref a) "set" := ⟨_,X.ho,X.ex.1⟩
theorem w_iter (X:SetX knd s.heap a xs o es ep t) (hn:xs.length<=306) {Q:Value->Shared->Prop}
  (h:∀I h' d ord oI first,(∀b o,s.heap.get? b=some o->h'.get? b=some o)->s.heap.objs.size<=I->ItS w h' I a es ep t ord 0 oI first->(∀T,first= .ref T->s.heap.objs.size<=T)->Q (.ref I) {s with heap:=h',drawn:=d}):wpAny (model prog w) A (pyIter (.ref a)) Q E s:=by
 refine wpAny_pyIter_slot X.typeIs F.slot_set_iter (qCA F.slot_set_iter X.typeIs en_iter ?_ (F.args_set_iter_1 _));unfold Builtin.«frozenset.__iter__» Builtin.Frozenset.slot0;refine qAA (qAA (m:=slotArgs "__iter__" 0 _) (qAE (qAE ?_)));dsimp only;unfold Builtin.Frozenset.sizeOf;refine qAA (qAA (wpAny_setEntries_of X.ho X.hd X.fits (qAE ?_)));unfold setDrawn;refine qAA (qAA (X.state (qAA (qAA (qBW (qAE (qAE ?_)))))));have hsz:es.size<=306:=by rw [X.size];exact hn
 by_cases c:(!byt w&&dr es t)=true
 ·refine zE4 c ?_;have c1:byt w=false:=by cases z:byt w<;>simp [z] at c ⊢
  refine qAA (w_draw es.size (List.range es.size) s _ (by simp) fun pl d hp=>?_);have hpl:pl.length=es.size:=by rw [hp.length_eq];simp
  refine qAA (qDE ?_ (by rw [qAD,hpl];exact qAW hsz (by decide +kernel)));refine qAA (wpAny_setEpoch_of (qAI _ X.ho) X.hd X.fits ?_);refine qAA (qCR (qAE ⟨_,rfl, "set_iterator",_,⟨_,qAc _ rfl,rfl⟩,zEu.lookup,?_⟩));refine h _ _ d (pl.filterMap fun p=>(es[p]?).map (·.2)) _ (.ref s.heap.objs.size) (fun b o q=>qAI _ (qAI _ q)) ?_ ⟨qAc _ rfl,rfl,rfl,.inr (.inl ⟨c1,_,_,_,pl,rfl,qAI _ (qAc _ rfl),rfl,hp,rfl⟩)⟩ (fun T z=>by cases z;exact qAF _);show s.heap.objs.size<=(s.heap.push _).objs.size;rw [qBY];exact qBK _
 ·refine zCx c ?_;refine qAA (qAE ?_);refine qAA (wpAny_setEpoch_of X.ho X.hd X.fits ?_);refine qAA (qCR (qAE ⟨_,rfl, "set_iterator",_,⟨_,qAc _ rfl,rfl⟩,zEu.lookup,?_⟩))
  cases z:byt w with
  | true =>
   exact h _ _ s.drawn ((pickOrder (w.params.setOrder a ep) es).toList.map (·.2)) _ (.int 0 0) (fun b o q=>qAI _ q) (qAF _) ⟨qAc _ rfl,rfl,rfl,.inl ⟨z,⟨0,rfl⟩,rfl⟩⟩ (fun T z=>nomatch z)
  | false =>
   have c2:dr es t=false:=by rw [z] at c;simpa using c
   exact h _ _ s.drawn (es.toList.map (·.2)) _ (.int 0 0) (fun b o q=>qAI _ q) (qAF _) ⟨qAc _ rfl,rfl,rfl,.inr (.inr ⟨z,c2,0,rfl,below_zero X.ok.r,rfl⟩)⟩ (fun T z=>nomatch z)
end
theorem len_set:typeLookup (.type "set") "__len__" = pure (some (.builtin "set.__len__")):=by rw [qCp,qCq];kernel_rfl
section
variable {prog:Program} {w:World} {K:Type} [DecidableEq K] {knd:KeyKind prog w K} {A:Around} {E:Value->Shared->Prop} {s:Shared}
variable {a I:Addr} {xs:List (List K×Addr)} {o oI:Obj} {es:Array (Int×Value)} {ep i:Nat} {t:SetTable} {ord:List Value} {first:Value}
def WSt (knd:KeyKind prog w K) (a I:Addr) (xs:List (List K×Addr)) (o:Obj) (es:Array (Int×Value)) (ep:Nat) (t:SetTable) (ord:List Value) (Ts:List Addr) (i:Nat) (s:Shared):Prop :=
 ∃oI first,SetX knd s.heap a xs o es ep t/\ItS w s.heap I a es ep t ord i oI first/\∀T,first= .ref T->T∈Ts
theorem w_walks (hh:A.handled=none) (a I:Addr) (hne:I≠a) (xs:List (List K×Addr)) (hx:∀p∈xs,p.2≠I) (o:Obj) (es:Array (Int×Value)) (ep:Nat) (t:SetTable) (ord:List Value) (Ts:List Addr) (hT:I∉Ts) :
  WalksS prog w A I (I::a::(xs.map (·.2)++Ts)) [I] (fun a b=>b=a) ord.length (fun i v=>ord[i]?=some v) (WSt knd a I xs o es ep t ord Ts) where
 sub:=fun b hb=>by rw [qAP.mp hb];exact qAS
 grefl:=fun _=>rfl
 gtrans:=fun _ _ _ x y=>y.trans x
 frame:=fun i s h' tk ⟨oI,first,X,it,hf⟩ _ hk=>by
  refine ⟨oI,first,X.kept fun b o hb q=>hk b ?_ o q,⟨hk I qAS _ it.ho,it.hc,it.hd,?_⟩,hf⟩
  ·rcases hb with rfl| ⟨p,hp,rfl⟩
   ·exact qAT _ qAS
   ·exact qAT _ (qAT _ (qAs _ (qAa.mpr ⟨p,hp,rfl⟩)))
  ·rcases it.hm with m| ⟨m1,T,oT,c,pl,m2,m3,m4⟩| m
   ·exact .inl m
   ·exact .inr (.inl ⟨m1,T,oT,c,pl,m2,hk T (qAT _ (qAT _ (qAv _ (hf T m2)))) _ m3,m4⟩)
   ·exact .inr (.inr m)
 item:=fun i s Q E hi ⟨oI,first,X,it,hf⟩ hQ=>by
  refine w_item X it hne (v:=ord[i]) (by simp [hi]) fun h' o' f' sb it' hf'=>hQ _ _ (by simp [hi]) ⟨o',f',X.kept fun b o hb q=>?_,it',fun T z=>hf T (hf' T z)⟩ ⟨fun b o hb q=>(sb.2 b fun z=>hb (z▸qAS)).trans q,rfl,rfl,rfl,qAF _⟩;rcases hb with rfl| ⟨p,hp,rfl⟩
  ·exact (sb.2 _ (qAr hne)).trans q
  ·exact (sb.2 _ (hx p hp)).trans q
 done:=fun s Q E ⟨oI,first,X,it,hf⟩ hQ=>w_done hh X it (by simp) fun h' q=>hQ _ ⟨fun b o hb=>q b o fun z=>hb (z▸qAS),rfl,rfl,rfl,qAF _⟩
 self:=fun i s Q E ⟨oI,first,X,it,hf⟩ hQ=>w_self it hQ
theorem items_ord {acc:Array Value} (h:ItemsOf (fun i v=>ord[i]?=some v) acc ord.length):acc.toList=ord:=by
 refine List.ext_getElem? fun i=>?_;rw [qAm]
 cases e:acc[i]? with
 | some v=>exact (h.2 i v e).symm
 | none =>
  have:=Array.getElem?_eq_none_iff.mp e;rw [h.1] at this;exact (qDa this).symm
theorem w_collect (hh:A.handled=none) (X:SetX knd s.heap a xs o es ep t) (hn:xs.length<=306) {Q:List Value->Shared->Prop}
  (h:∀s' vs,vs.Perm (xs.map fun p=>.ref p.2)->(∀b o,s.heap.get? b=some o->s'.heap.get? b=some o)->s'.gens=s.gens->s'.os=s.os->s.toks<=s'.toks->Q vs s'):wpAny (model prog w) A (collect (.ref a)) Q E s:=by
 unfold collect;refine qAA (wpAny_runValue (qBG F.entry_proto_collect ?_));rw [qBP F.plain_proto_collect _];change wpAny _ A.in1 (newList [] >>= fun l=>again (.builtin "list.__iadd__" ⟨[l,Value.ref a],[]⟩)) _ _ s;refine qAA (qCR ?_);refine qAE ⟨qB8 F.plain_list_iadd _,qBG F.entry_list_iadd ?_⟩;rw [qBP F.plain_list_iadd _];generalize hL:s.heap.objs.size=L;have hS1:(s.heap.push {cls:=.type "list",data:=.seq ([]:List Value).toArray}).get? L=some {cls:=.type "list",data:=.seq ([]:List Value).toArray}:=by rw [<-hL];exact qAc _ rfl
 generalize hH1:s.heap.push {cls:=.type "list",data:=.seq ([]:List Value).toArray}=H1 at hS1 ⊢;have up1:∀b o,s.heap.get? b=some o->H1.get? b=some o:=fun b o q=>by rw [<-hH1];exact qAI _ q
 have sz1:H1.objs.size=L+1:=by rw [<-hH1,qBY,hL]
 have below:∀b o,s.heap.get? b=some o->b<L:=fun b o q=>by rw [<-hL];exact qAK q
 have X1:SetX knd H1 a xs o es ep t:=X.kept fun b o _ q=>up1 b o q;have haL:a≠L:=qAN (below a _ X.ho);change wpAny _ A.in1 (Builtin.List.listExtendWith (Value.ref L) (.ref a) (.ref L)) _ _ _;unfold Builtin.List.listExtendWith;refine qAA (qC9 (T:= "set") ⟨_,X1.ho,X1.ex.1⟩ ?_);have n1:Builtin.List.listSameRef (.ref L) (.ref a)=false:=by simp [Builtin.List.listSameRef,qAr haL]
 refine zCx (by rw [n1];decide) ?_;refine qAA (w_iter (s:={s with heap:=H1}) X1 hn fun I h2 d ord oI first up2 hI it hf=>?_);have hI:L+1<=I:=by rw [<-sz1];exact hI
 have X2:SetX knd h2 a xs o es ep t:=X1.kept fun b o _ q=>up2 b o q;refine qAA (qAx ?_);unfold Builtin.List.listLengthHint;have T2:Shared.TypeIs {s with heap:=h2,drawn:=d} (.ref a) "set" := ⟨_,X2.ho,X2.ex.1⟩;refine qAA (qCh T2 len_set ?_);generalize hid:("set.__len__" : String)=id0;dsimp only;rw [show splitId id0=some ("set", "__len__") from by subst hid;decide +kernel];subst hid;dsimp only;refine qAA (qDD (b:=true) T2 sub_set_self ?_);refine zCx (by decide) ?_;refine zE4 (by decide +kernel) ?_;refine qAA (qC9 T2 ?_);refine qAE ?_;refine zE4 (by decide +kernel) ?_;refine qAA (qBQ ?_);have hS2:=up2 L _ hS1;refine qAA ?_;change wpAny _ A.in1 (updateSeq L (·.push Value.none) >>= fun _=>updateSeq L (·.pop)) _ _ _;refine qAA (qCa hS2 rfl ?_);have hS3:=qBL (Obj.mapSeq (·.push Value.none)) hS2 rfl;refine qCa hS3 rfl ?_;have hS4:=qBL (Obj.mapSeq (·.pop)) hS3 rfl;dsimp only;have sb:Heap.SameBut L h2 ((h2.update L (Obj.mapSeq (·.push Value.none))).update L (Obj.mapSeq (·.pop))):=(qAp ..).trans (qAp ..);generalize hH4:(h2.update L (Obj.mapSeq (·.push Value.none))).update L (Obj.mapSeq (·.pop))=H4 at hS4 sb ⊢
 have hIa:I≠a:=fun z=>by
  have:=below a _ X.ho;rw [<-z] at this;exact absurd this (qCl.mpr (Nat.le_of_succ_le hI))
 have hxI:∀p∈xs,p.2≠I:=fun p hp z=>by
  obtain ⟨ob,_,_,q,_⟩:=X.ky p hp;have:=below _ _ q;rw [z] at this;exact absurd this (qCl.mpr (Nat.le_of_succ_le hI))
 obtain ⟨Ts,hTs,hT1⟩:∃Ts:List Addr,(∀T,first= .ref T->T∈Ts)/\∀T∈Ts,first= .ref T:=by
  cases first with
  | ref T=>exact ⟨[T],fun T' z=>by cases z;exact qAP.mpr rfl,fun T' z=>by rw [qAP.mp z]⟩
  | _=>exact ⟨[],(fun T z=>nomatch z),(fun T z=>nomatch z)⟩
 have hTge:∀T∈Ts,L+1<=T:=fun T hT=>by rw [<-sz1];exact hf T (hT1 T hT)
 have hTI:I∉Ts:=fun z=>by
  rcases it.hm with ⟨_,⟨j,e⟩,_⟩| ⟨_,T,oT,c,pl,e,m3,m4,_⟩| ⟨_,_,j,e,_⟩
  ·have:=(hT1 _ z).symm.trans e;exact nomatch this
  ·have:=(hT1 _ z).symm.trans e
   cases this
   have:=qAh (m3.symm.trans it.ho);subst this;rw [it.hd] at m4;exact nomatch m4
  ·have:=(hT1 _ z).symm.trans e;exact nomatch this
 have W:=w_walks (prog:=prog) (w:=w) (knd:=knd) (A:=A.in1) hh a I hIa xs hxI o es ep t ord Ts hTI
 have hLf:L∉I::a::(xs.map (·.2)++Ts):=fun z=>by
  rcases qAO.mp z with z| z
  ·rw [<-z] at hI;exact absurd hI (Nat.not_succ_le_self L)
  rcases qAO.mp z with z| z
  ·exact haL z.symm
  rcases qAQ.mp z with z| z
  ·obtain ⟨p,hp,e⟩:=qAa.mp z;obtain ⟨ob,_,_,q,_⟩:=X.ky p hp;have:=below _ _ q;rw [e] at this;exact qBI _ this
  ·exact absurd (hTge _ z) (Nat.not_succ_le_self L)
 have hol:ord.length<=sizeLine:=by
  rw [it.hm.len,X.size];exact qAW hn (by decide +kernel)
 have st2:WSt knd a I xs o es ep t ord Ts 0 {s with heap:=h2,drawn:=d}:=⟨oI,first,X2,it,hTs⟩;have st4:=W.frame 0 _ H4 s.toks st2 (qAF _) fun b hb ob q=>(sb.2 b fun z=>hLf (z▸hb)).trans q;refine qAE ⟨qB8 F.plain_extend_loop _,codeAny_extend_loopS W hol L hLf _ ord.length 0 _ _ _ rfl (qAd _) st4 hS4 (ItemsOf.nil _) fun s' acc c' mv hS' hacc=>?_⟩;change wpAny _ A (load L >>= _) _ _ s';refine qAA (qB0 hS' ?_);refine qAE (h s' acc.toList ?_ (fun b ob q=>?_) mv.gens mv.os mv.toks)
 ·rw [items_ord hacc];refine it.hm.perm.trans (List.Perm.of_eq ?_);rw [X.el,qBV];rfl
 ·have hb:=below b ob q;refine mv.heap b ob ?_ ((sb.2 b (qAN hb)).trans (up2 b ob (up1 b ob q)));intro z;rcases qAO.mp z with z| z
  ·exact qAN hb z
  ·rw [qAP.mp z] at hb;exact absurd hb (qCl.mpr (Nat.le_of_succ_le hI))
end
end ST
namespace ST
open PySem PyProof.Rows PySem.W
variable {vs:List Value}
abbrev sg (x:Str):List Nat:=x.cps.toList
theorem sg_inj {x y:Str} (h:sg x=sg y):x=y:=by
 cases x;cases y
 exact qAk Str.mk (Array.toList_inj.mp h)
def tlt:List Str->List Str->Bool
 | [],[]=>false
 | [],_::_=>true
 | _::_,[]=>false
 | x::r,y::q=>if x=y then tlt r q else decide (sg x<sg y)
theorem sg_tri (x y:Str):sg x<sg y\/x=y\/sg y<sg x:=by
 by_cases h1:sg x<sg y
 ·exact .inl h1
 by_cases h2:sg y<sg x
 ·exact .inr (.inr h2)
 ·exact .inr (.inl (sg_inj (List.le_antisymm (List.not_lt.mp h2) (List.not_lt.mp h1))))
theorem tlt_irr:∀a,tlt a a=false
 | []=>rfl
 | x::r=>by unfold tlt;rw [qAC rfl];exact tlt_irr r
theorem zGt:∀a b c,tlt a b=true->tlt b c=true->tlt a c=true
 | [],[],c,h1,h2=>h2
 | [],_::_,[],h1,h2=>by simp [tlt] at h2
 | [],_::_,_::_,h1,h2=>rfl
 | _::_,[],c,h1,h2=>by simp [tlt] at h1
 | x::r,y::q,[],h1,h2=>by simp [tlt] at h2
 | x::r,y::q,z::p,h1,h2=>by
  unfold tlt at h1 h2 ⊢
  by_cases e1:x=y
  ·subst e1;rw [qAC rfl] at h1
   by_cases e2:x=z
   ·subst e2;rw [qAC rfl] at h2 ⊢;exact zGt r q p h1 h2
   ·rw [qAB e2] at h2 ⊢;exact h2
  ·rw [qAB e1] at h1
   by_cases e2:y=z
   ·subst e2;rw [qAB e1];exact h1
   ·rw [qAB e2] at h2;have q1:=qAi h1;have q2:=qAi h2;have q3:=List.lt_trans q1 q2;rw [qAB fun e=>by subst e;exact List.lt_irrefl _ q3];exact qAR q3
theorem tlt_tot:∀a b,tlt a b=false->tlt b a=false->a=b
 | [],[],_,_=>rfl
 | [],_::_,h,_=>by simp [tlt] at h
 | _::_,[],_,h=>by simp [tlt] at h
 | x::r,y::q,h1,h2=>by
  unfold tlt at h1 h2
  by_cases e:x=y
  ·subst e;rw [qAC rfl] at h1 h2;rw [tlt_tot r q h1 h2]
  ·rw [qAB e] at h1;rw [qAB (qAr e)] at h2;rcases sg_tri x y with z| z| z
   ·exact absurd z (qCt h1)
   ·exact absurd z e
   ·exact absurd z (qCt h2)
theorem tlt_neg (a b c:List Str) (h:tlt a c=true):tlt a b=true\/tlt b c=true:=by
 cases h1:tlt a b with
 | true=>exact .inl rfl
 | false =>
  right
  cases h2:tlt b a with
  | true=>exact zGt b a c h2 h
  | false=>rw [<-tlt_tot a b h1 h2];exact h
@[reducible] def tupK (f:Addr->Option (List Str)):PyProof.Rows.KeyKind where
 α:=List Str
 blt:=tlt
 irrefl:=tlt_irr
 trans:=zGt
 negTrans:=tlt_neg
 total:=tlt_tot
 keyOf v:=match v with| .ref b=>f b| _=>none
 dflt:=[]
section
variable {prog:Program} {w:World} {A:Around} {E:Value->Shared->Prop} {s:Shared}
theorem zFs {ks:List Str} (h:ItemsAre (PySem.strKind prog w) ks vs):StrsAre vs ks:=by
 induction h with
 | nil=>exact .nil
 | @cons k v ks vs h1 _ ih =>
  obtain ⟨t,rfl⟩:=Value.isStrOf_shape h1;exact .cons k t ih
theorem kat_strs {b fin:Bool} {Q:Bool->Shared->Prop}:∀{xs ys:List Value} {ax ay:List Str},StrsAre xs ax->StrsAre ys ay->∀i,fin=decide (xs.length<ys.length)->Q (tlt ax ay) s->KatLex prog w A b fin Q (xs.zip ys) i s
 | _,_,_,_,.nil,.nil,i,e,h=>by subst e;exact kat_nil h
 | _,_,_,_,.nil,.cons y t hy,i,e,h=>by subst e;exact kat_nil h
 | _,_,_,_,.cons x t hx,.nil,i,e,h=>by subst e;exact kat_nil h
 | _,_,_,_,.cons x t hx,.cons y u hy,i,e,h=>by
  rw [List.zip_cons_cons];refine kat_cons (wpAny_eqBool_str ?_);unfold tlt at h
  by_cases c:x=y
  ·rw [qAC c] at h;rw [qAR c];refine kat_yes (kat_strs hx hy (i+1) ?_ h);rw [e];simp
  ·rw [qAB c] at h;rw [qAb c];refine kat_no ?_
   cases z:(b&&i==0) with
   | true=>exact oneLt_str h
   | false=>exact kat_one _ _ (lt_str h)
theorem strs_len {ss:List Str} (h:StrsAre vs ss):vs.length=ss.length:=by
 induction h with
 | nil=>rfl
 | cons _ _ _ ih=>simp [ih]
theorem tup_cmp (f:Addr->Option (List Str)) (hf:∀b k,f b=some k->IsTupleKey (PySem.strKind prog w) s.heap k b) (b:Bool):Tim.CmpOk prog w A s (tuples' b) (tupK f):=by
 intro E x y a c Q hx hy h
 cases x<;>simp only [reduceCtorEq] at hx
 cases y<;>simp only [reduceCtorEq] at hy
 obtain ⟨ox,ix,nx,x1,_,x2,x3⟩:=hf _ _ hx;obtain ⟨oy,iy,ny,y1,_,y2,y3⟩:=hf _ _ hy;exact kat_lt x1 x2 y1 y2 (kat_strs (zFs x3) (zFs y3) 0 (by simp) h)
end
theorem zIk {xs:Array Keyed} (hp:xs.Perm (pairsOf vs)):(xs.map (·.2)).toList.Perm vs:=by
 have hl:xs.toList.Perm (vs.zip vs):=by rw [<-pairsOf_toList];exact qCu.mp hp
 have:=hl.map (·.2);rw [List.map_snd_zip (qAF _)] at this
 rwa [Array.toList_map]
section
variable {prog:Program} {w:World} {A:Around} {E:Value->Shared->Prop} {s:Shared}
structure Sortable (prog:Program) (w:World) (A:Around) (κ:PyProof.Rows.KeyKind) (kd:SortKind) (vs:List Value) (s:Shared):Prop where
 cmp:Tim.CmpOk prog w A s kd κ
 kind:2<=vs.length->∀(E:Value->Shared->Prop) (Q:SortKind->Shared->Prop),Q kd s->wpAny (model prog w) A (keyKind' vs.toArray) Q E s
 has:∀v∈vs,∃k,κ.keyOf v=some k
theorem srt_heap {h:Heap} {a:Addr} {n:Nat} {out:Array Value} (ho:h.get? a=some (seqObj "list" vs.toArray n)):(∃c,(sortedHeap h a vs out).get? a=some (seqObj "list" out c))/\∀b o,b≠a->h.get? b=some o->(sortedHeap h a vs out).get? b=some o:=by
 have ha:a<h.objs.size:=qAK ho;have h1:(h.update a (Obj.mapSeq fun _=>#[])).get? a=some (seqObj "list" #[] _):=qBv ho fun _=>#[];have h2:=qAI (seqObj "list" #[] 0) (qAI (seqObj "tuple" vs.toArray 0) h1);refine ⟨⟨_,qBv h2 fun _=>out⟩,fun b o hb q=>?_⟩;unfold sortedHeap;rw [qBn _ _ (qAr hb)];refine qAI _ (qAI _ ?_);rw [qBn _ _ (qAr hb)];exact q
end
section
variable {prog:Program} {w:World} {A:Around} {E:Value->Shared->Prop} {s:Shared}
abbrev Up (h h':Heap):Prop:=∀b o,h.get? b=some o->h'.get? b=some o
end
section
variable {prog:Program} {w:World} {A:Around} {E:Value->Shared->Prop} {s:Shared}
theorem tups_sortable {ks:List (List Str×Addr)} (hv:vs.Perm (ks.map fun p=>.ref p.2)) (ky:∀p∈ks,IsTupleKey (PySem.strKind prog w) s.heap p.1 p.2) (hne:∀p∈ks,p.1≠[]) :
  Sortable prog w A (tupK fun b=>(ks.find? fun p=>p.2==b).map (·.1)) (tuples' true) vs s:=by
 have look:∀p∈ks,∃q∈ks,(ks.find? fun p'=>p'.2==p.2)=some q/\q.2=p.2:=fun p hp=>by
  cases e:ks.find? fun p'=>p'.2==p.2 with
  | none=>exact absurd (List.find?_eq_none.mp e p hp) (by simp)
  | some q=>exact ⟨q,qDZ e,rfl,by simpa using List.find?_some e⟩
 refine ⟨tup_cmp _ (fun b k e=>?_) true,fun h2 E Q h=>?_,fun v hvm=>?_⟩
 ·obtain ⟨p,p1,p2⟩:=qBU.mp e;have p3:p.2=b:=by simpa using List.find?_some p1
  rw [<-p2,<-p3];exact ky p (qDZ p1)
 ·have go:∀(us:List Value),(∀u∈us,∃p∈ks,u= .ref p.2)->∃fs:List Value,KatTups s.heap us fs/\fs.length=us.length/\∀f∈fs,∃x t,f= .str x t:=by
   intro us
   induction us with
   | nil=>intro _;exact ⟨[],.nil,rfl,(fun f hf=>nomatch hf)⟩
   | cons u us ih =>
    intro hu;obtain ⟨fs,t1,t2,t3⟩:=ih fun u hu'=>hu u (qAT _ hu');obtain ⟨p,hp,rfl⟩:=hu u qAS;obtain ⟨ob,its,n,q1,q2,q3,q4⟩:=ky p hp;have q5:=zFs q4;have q6:=hne p hp;generalize hk:p.1=k at q5 q6;generalize hl:its.toList=l at q5
    cases q5 with
    | nil=>exact absurd rfl q6
    | cons x t r =>
     refine ⟨.str x t::fs,.cons q1 q2 q3 ?_ t1,by simp [t2],fun f hf=>?_⟩
     ·rw [<-qAm,hl];rfl
     ·rcases qAO.mp hf with z| z
      ·exact ⟨x,t,z⟩
      ·exact t3 f z
  obtain ⟨fs,t1,t2,t3⟩:=go vs fun u hu=>by
   obtain ⟨p,hp,e⟩:=qAa.mp (hv.mem_iff.mp hu);exact ⟨p,hp,e.symm⟩
  refine kat_kind (T:=.type "str") t1 (by lia) (fun f hf=>?_) (by decide) h;obtain ⟨x,t,rfl⟩:=t3 f hf;exact .now
 ·obtain ⟨p,hp,rfl⟩:=qAa.mp (hv.mem_iff.mp hvm);obtain ⟨q,hq,e,_⟩:=look p hp;exact ⟨q.1,by show Option.map _ _=_;rw [e];rfl⟩
end
end ST
namespace L2
open PySem PySem.Spec PyProof.Rows
def TSt (P:Program) (w:World) (a:Addr) (xs:List (List Str×Addr)):HO :=
 .ext fun h=>∃o es ep t,h.get? a=some o/\o.ExactSet/\o.data= .set es ep t/\es.toList=xs.map (ST.en (PySem.strKind P w))/\ST.TOk t (xs.map fun p=>tupleKeyHash (PySem.strKind P w) p.1)/\xs.length*5<t.mask*3/\(xs.map (·.1)).Nodup/\t.led= !ST.byt w
def RowT (K:PySem.W.Frag) (H:Hp) (p:List Str×Addr):Prop:=SqT K H p.2 (p.1.map V.str)
section
variable {X:Cx} {pins:List (Addr×Obj)} {σ:St} {H:Hp} {s:Shared}
theorem zH0 {prog:Program} {w:World}:∀{ks:List Str} {its:List Value},Vals (ks.map V.str) its->ItemsAre (PySem.strKind prog w) ks its
 | [],_,.nil=>.nil
 | k::ks,_,.cons ⟨t,e⟩ r=>by
  subst e;exact .cons (by show Value.isStrOf k (.str k t)=true;simp [Value.isStrOf]) (zH0 r)
theorem Inv.rowT (I:Inv X pins σ H s) {p:List Str×Addr} (h:RowT X.K H p):IsTupleKey (PySem.strKind X.prog X.w) s.heap p.1 p.2:=by
 obtain ⟨its,r,⟨o,ho,hc,n,hd⟩,_⟩:=I.tuple h;exact ⟨o,its.toArray,n,ho,hc,hd,by simpa using zH0 r⟩
theorem vals_refs:∀{ks:List (List Str×Addr)} {its:List Value},Vals (ks.map fun p=>V.ref p.2) its->its=ks.map fun p=>Value.ref p.2
 | [],_,.nil=>rfl
 | k::ks,_,.cons e r=>by
  have e:_=Value.ref k.2:=e;subst e;rw [vals_refs r];rfl
theorem refs_vals:∀(ks:List (List Str×Addr)),Vals (ks.map fun p=>V.ref p.2) (ks.map fun p=>Value.ref p.2)
 | []=>.nil
 | k::ks=>.cons rfl (refs_vals ks)
theorem got_ok {h:Heap} {H:Hp} {a:Addr} {xs:List (List Str×Addr)} {o:Obj} {es:Array (Int×Value)} {ep:Nat} {t:SetTable} (Z:ST.SetX (PySem.strKind X.prog X.w) h a xs o es ep t):zAx X.prog X.w H h a (TSt X.prog X.w a xs) :=
 ⟨⟨o,es,ep,t,Z.ho,Z.ex,Z.hd,Z.el,Z.ok,Z.room,Z.nd,Z.ld⟩,⟨o,Z.ho⟩,fun h1 h2 ⟨o,es,ep,t,q,r⟩ k=>⟨o,es,ep,t,k o q,r⟩⟩
theorem call_setT {k:Nat} (hr:Room k X.A):zC7 X (.type "set") (fun xs H Q=>∃(l:Addr) (ks:List (List Str×Addr)),xs=[.ref l]/\SqL X.K H l (ks.map fun p=>V.ref p.2)/\(∀p∈ks,RowT X.K H p)/\ks.length<=306 /\
  ∀a ys,H a=none->(∀p∈ys,p∈ks)->(∀p∈ks,p.1∈ys.map (·.1))->(ys.map (·.1)).Nodup->ys.length<=ks.length->Q (.ref a) (upd H a (TSt X.prog X.w a ys))):=by
 intro pins s σ H xs us Q I r h;obtain ⟨l,ks,rfl,hl,hk,hc,q⟩:=h;obtain ⟨u,rfl,rx⟩:=zIe r
 cases rx
 obtain ⟨its,r',pl,hz⟩:=I.list hl;have ei:=vals_refs r';refine ST.w_mkset (knd:=PySem.strKind X.prog X.w) (ks:=ks) hr.hd (by have:=hr.un;lia) pl.isList (by rw [ei]) (fun p hp=>I.rowT (hk p hp)) hc fun h' tk _ g kp=>?_;obtain ⟨ys,o,es,ep,t,Z,g1,g2,g3⟩:=g;exact ⟨.ref s.heap.objs.size,_,I.laid (t':=tk) kp (qAF _) (got_ok Z),rfl,q _ ys (I.hok.fresh (qAF _)) g1 g2 Z.nd g3⟩
theorem perm_back {α β:Type} (f:α->β):∀{vs:List β} {ks:List α},vs.Perm (ks.map f)->∃zs:List α,zs.Perm ks/\vs=zs.map f:=by
 intro vs ks h;generalize hm:ks.map f=ms at h
 induction h generalizing ks with
 | nil=>exact ⟨[],by rw [List.map_eq_nil_iff.mp hm],rfl⟩
 | @cons x l₁ l₂ _ ih =>
  cases ks with
  | nil=>exact nomatch hm
  | cons k ks =>
   rw [qAo] at hm;obtain ⟨e1,e2⟩:=List.cons.inj hm;obtain ⟨zs,p,e⟩:=ih e2;exact ⟨k::zs,.cons k p,by rw [qAo,<-e,e1]⟩
 | swap x y l =>
  match ks,hm with
  | a::b::ks,hm =>
   simp only [qAo,List.cons.injEq] at hm;obtain ⟨e1,e2,e3⟩:=hm;exact ⟨b::a::ks,.swap a b ks,by simp [e1,e2,e3]⟩
 | trans _ _ ih1 ih2 =>
  obtain ⟨zs,p,e⟩:=ih2 hm;obtain ⟨zs',p',e'⟩:=ih1 e.symm;exact ⟨zs',p'.trans p,e'⟩
end
end L2
namespace ST
section
open PySem PyProof.Rows
variable {prog:Program} {w:World} {A:Around} {s:Shared}
end
end ST
namespace L2
open PySem PySem.Spec PyProof.Rows
variable {old:Value}{H:Hp}{a:Addr}
section
variable {X:Cx} {pins:List (Addr×Obj)} {σ:St} {H:Hp} {s:Shared}
theorem zC8:∀{xs:List Str} {its:List Value},Vals (xs.map V.str) its->StrsAre its xs
 | [],_,.nil=>.nil
 | k::ks,_,.cons ⟨t,e⟩ r=>by subst e;exact .cons k t (zC8 r)
theorem zGu:∀{xs:List Str} {its:List Value},StrsAre its xs->Vals (xs.map V.str) its
 | _,_,.nil=>.nil
 | _,_,.cons y t r=>.cons ⟨t,rfl⟩ (zGu r)
def RiseS (xs:List Str):Prop:=xs.Pairwise fun x y=>¬(ST.sg y<ST.sg x)
end
section
variable {X:Cx}
def rInsert:V->List V->Hp->VK->Prop:=fun x vs H Q=>∃l xs i y,x= .ref l/\vs=[.int i,y]/\H l=some (.lst xs)/\xs.length<sizeLine/\0<=i/\i<=xs.length/\Q .non (upd H l (.lst (xs.take i.toNat++y::xs.drop i.toNat)))
theorem zG6:MtM X "list.insert" rInsert:=by
 intro pins s σ H x vs v us Q I rx rv h;obtain ⟨l,xs,i,y,rfl,rfl,hH,hz,h0,h1,q⟩:=h
 cases rx
 obtain ⟨u1,u,rfl,r1,ru⟩:=rv.two;obtain ⟨t,rfl⟩:=r1;obtain ⟨z,its,n,r,hl,e⟩:=I.lstM hH;have hsl:sizeLine<2^62:=by decide +kernel
 have hfit:¬(!Builtin.List.listFitsIndex i)=true:=by
  unfold Builtin.List.listFitsIndex;have a1:-(2^63:Int)<=i:=by lia
  have a2:i<2^63:=by lia
  rw [qAR a1,qAR a2];decide
 refine qBb F.slot_list_insert ⟨_,e,rfl⟩ F.entry_list_insert (F.args_list_insert_3 _ _ _) (PySem.AutoListH.list_insert_list_int_val_1 l its.toArray n i t u hfit (by rw [qAJ];lia)) ⟨e,?_⟩;refine ⟨.non,_,I.lset (its':=its.take i.toNat++u::its.drop i.toNat) hH e ?_ ((r.take _).append (.cons ru (r.drop _))) ?_,rfl,q⟩
 ·have hk:(if i<0 then (i+((its.toArray.size:Nat):Int)).toNat else min i.toNat its.toArray.size)=i.toNat:=by
   rw [qAB (by lia),qAJ];lia
  show (its.toArray.extract 0 _).push u++its.toArray.extract _=_;rw [hk];apply Array.ext';rw [qCj,qCW,qBd,qBd,qBM];simp [List.extract_eq_drop_take,qBF]
 ·rw [qAf,qAe,qAX,qA4];lia
def mrg (kvs more:List (Key×V)):List (Key×V):=more.foldl (fun acc p=>putK acc p.1 p.2) kvs
theorem KV.mrg {kvs:List (Key×V)} {vs:List (Key×Value)} (r:KV kvs vs):∀{more:List (Key×V)} {ms:List (Key×Value)},KV more ms->KV (mrg kvs more) (merged vs ms):=by
 intro more ms r2;unfold L2.mrg merged;unfold KV at r2
 induction r2 generalizing kvs vs with
 | nil=>exact r
 | @cons p q l₁ l₂ h _ ih =>
  rw [qBa,qBa,h.1];exact ih (r.put q.1 h.2)
theorem mrg_len (kvs more:List (Key×V)):(mrg kvs more).length<=kvs.length+more.length:=by
 unfold mrg
 induction more generalizing kvs with
 | nil=>exact qAF _
 | cons p r ih =>
  rw [qBa,qAe];have h1:=ih (putK kvs p.1 p.2);have h2:=zE3 kvs p.1 p.2;lia
def rDUpd:V->List V->Hp->VK->Prop:=fun x vs H Q=>∃a b kvs more,x= .ref a/\vs=[.ref b]/\H a=some (.dK kvs)/\H b=some (.dK more)/\a≠b/\kvs.length+more.length<=sizeLine/\Q .non (upd H a (.dK (mrg kvs more)))
theorem mt_dupd:MtR X "dict.update" rDUpd:=by
 intro pins s σ H x vs v us Q I rx rv h;obtain ⟨a,b,kvs,more,rfl,rfl,hA,hB,hne,hz,q⟩:=h
 cases rx
 obtain ⟨u,rfl,ru⟩:=rv.one
 cases ru
 obtain ⟨_,a2,vs1,a3,a4⟩:=I.hok a _ hA;obtain ⟨_,b2,vs2,b3,b4⟩:=I.hok b _ hB;have l1:kvs.length=vs1.length:=qCG a3;have l2:more.length=vs2.length:=qCG b3;refine call_meetsIn F.slot_dict_update a4.typeIs F.entry_dict_update (F.args_dict_update_2 _ _) (meets_dict_update (zBc X.prog X.w) a b hne b2) ⟨vs1,vs2,a4,b4,by lia,fun h' d1 d2 sb=>?_⟩;have new:zAx X.prog X.w (upd H a (.dK (mrg kvs more))) h' a (.dK (mrg kvs more)):=⟨qAW (mrg_len kvs more) hz,a2,_,a3.mrg b3,d1⟩;refine ⟨.non,_,I.write (x:=a) (e:=a) (t':=s.toks) (by rw [hA];exact trivial) (.inl rfl) (fun c o hc z=>(sb.2 c hc).trans z) ?_ new,rfl,q⟩;obtain ⟨o,_,_,e,_⟩:=d1;exact ⟨o,e⟩
end
section
variable {X:Cx}
theorem op_neU (hu:X.A.units<cLine):OpR X (compareOp .NotEq) (zH6 X.K true):=by
 intro pins s σ H x y v u Q I rx ry h;obtain ⟨a,c,xs,ys,rfl,rfl,hx,hy,hl,q⟩:=h
 cases rx
 cases ry
 obtain ⟨its,r,pl,hz⟩:=I.list hx;obtain ⟨its2,r2,pl2,hz2⟩:=I.list hy;have e1:=r.length;have e2:=r2.length;exact SeqAt.RcNeAt.lists_lengths pl.isList pl2.isList (by rw [qAJ,qAJ];simp;lia) hu X.prog X.w X.xe _ ⟨.bl true,H,I,rfl,q⟩
end
theorem zIt {X:Cx} {k:Nat} (hr:Room k X.A):OpR X (compareOp .NotEq) (fun x y H Q=>zH7 X.K 8 false x y H Q\/zH6 X.K true x y H Q):=(op_neA (hu2 hr)).either (op_neU (hu0 hr))
theorem ints_of {ns:List Int}:∀{its:List Value},Vals (ns.map V.int) its->∃xs:List (Int×Tok),its=(xs.map fun p=>Value.int p.1 p.2)/\xs.map (·.1)=ns:=by
 induction ns with
 | nil =>
  intro its r
  cases r
  exact ⟨[],rfl,rfl⟩
 | cons n ns ih =>
  intro its r
  cases r with
  | cons r1 r2 =>
   obtain ⟨t,rfl⟩:=r1;obtain ⟨xs,rfl,e⟩:=ih r2;exact ⟨(n,t)::xs,rfl,by rw [qAo,e]⟩
section
variable {P:Program} {w:World} {A:Around} {E:Value->Shared->Prop} {s:Shared}
theorem enum_step {e it l:Addr} {c:Int} {i:Nat} {ys:Array Value} {x:Value} {Q:Value->Shared->Prop} (he:IsEnum s.heap e it c old) (hi:s.heap.IsListIter it l i) (hl:s.heap.IsList l ys) (hx:ys[i]?=some x) (ne:e≠it)
  (q:∀k,IsEnumOut k e it (c+1) x s.heap.objs.size->k.IsListIter it l (i+1)->k.get? s.heap.objs.size=some {cls:=.type "tuple",data:=.seq #[.int c s.toks,x]}->k.objs.size=s.heap.objs.size+1 ->
   (∀b o,b≠e->b≠it->s.heap.get? b=some o->k.get? b=some o)->Q (.ref s.heap.objs.size) {s with heap:=k,toks:=s.toks+1}) :
  wpAny (model P w) A (Builtin.«enumerate.__next__» ⟨[.ref e],[]⟩) (fun r s'=>∃v,r= .done (.ret v)/\Q v s') E s:=by
 obtain ⟨h0,g,d,tk,os⟩:=s;have esz:e<h0.objs.size:=qAK he;show wpAny _ _ (field (Value.ref e) 2 >>= _) _ _ ⟨h0,g,d,tk,os⟩;refine qAA (qCb he rfl (x:=Value.ref it) rfl ?_);refine qAA (wpAny_nextOf_list_item hi hl hx fun k1 i1 b1=>?_);have b1:Heap.SameBut it h0 k1:=b1;have e1:IsEnum k1 e it c old:=(b1.2 e ne).trans he;show wpAny _ _ (field (Value.ref e) 3 >>= _) _ _ ⟨k1,g,d,tk,os⟩;refine qAA (qCb (s:=⟨k1,g,d,tk,os⟩) e1 rfl (x:=rawInt c) rfl ?_);show wpAny _ _ (field (Value.ref e) 4 >>= _) _ _ ⟨k1,g,d,tk,os⟩;refine qAA (qCb (s:=⟨k1,g,d,tk,os⟩) e1 rfl (x:=Value.none) rfl ?_);show wpAny _ _ (mkInt c >>= _) _ _ ⟨k1,g,d,tk,os⟩;refine qAA (wpAny_mkInt ?_);show wpAny _ _ (setField (Value.ref e) 3 (rawInt (c+1)) >>= _) _ _ ⟨k1,g,d,tk+1,os⟩;refine qAA (qCv (s:=⟨k1,g,d,tk+1,os⟩) e1 (by simp) fun k2 e2 b2=>?_);have b2:Heap.SameBut e k1 k2:=b2;have e2:IsEnum k2 e it (c+1) old:=e2;show wpAny _ _ (setField (Value.ref e) 4 Value.none >>= _) _ _ ⟨k2,g,d,tk+1,os⟩;refine qAA (qCv (s:=⟨k2,g,d,tk+1,os⟩) e2 (by simp) fun k3 e3 b3=>?_);have b3:Heap.SameBut e k2 k3:=b3;have e3:IsEnum k3 e it (c+1) old:=e3;show wpAny _ _ (newTuple [Value.int c tk,x] >>= _) _ _ ⟨k3,g,d,tk+1,os⟩;refine qAA (qDE ?_);have z3:k3.objs.size=h0.objs.size:=b3.1.trans (b2.1.trans b1.1);have i3:k3.IsListIter it l (i+1):=(i1.extBut b2.extBut ne.symm).extBut b3.extBut ne.symm;have t4:(k3.push {cls:=.type "tuple",data:=.seq #[Value.int c tk,x]}).get? h0.objs.size=some {cls:=.type "tuple",data:=.seq #[Value.int c tk,x]}:=by rw [<-z3];exact qAc _ rfl
 have z4:(k3.push {cls:=.type "tuple",data:=.seq #[Value.int c tk,x]}).objs.size=h0.objs.size+1:=by rw [qBY,z3]
 have o4:∀b o,b≠e->b≠it->h0.get? b=some o->(k3.push {cls:=.type "tuple",data:=.seq #[Value.int c tk,x]}).get? b=some o:=fun b o n1 n2 y=>qAI _ (b3.extBut b o n1 (b2.extBut b o n1 (b1.extBut b o n2 y)));have i4:(k3.push {cls:=.type "tuple",data:=.seq #[Value.int c tk,x]}).IsListIter it l (i+1):=i3.at fun o y=>qAI _ y;have e4:IsEnum (k3.push {cls:=.type "tuple",data:=.seq #[Value.int c tk,x]}) e it (c+1) old:=qAI _ e3;show wpAny _ _ (Builtin.SmallTypes.ownedTupleIsFree (.ref e) >>= _) _ _ ⟨k3.push {cls:=.type "tuple",data:=.seq #[Value.int c tk,x]},g,d,tk+1,os⟩;have z3':(Shared.heap ⟨k3,g,d,tk+1,os⟩).objs.size=h0.objs.size:=z3;rw [z3'];generalize k3.push {cls:=.type "tuple",data:=.seq #[Value.int c tk,x]}=k4 at t4 z4 o4 i4 e4 ⊢;refine qAA ?_;unfold Builtin.SmallTypes.ownedTupleIsFree;refine qAA (qCb e4 rfl (x:=Value.none) rfl (qAE ?_));simp only [qBo];refine qAA (qBQ ?_);refine qAA (qCb (s:=⟨k4,g,d,tk+1,os⟩) e4 rfl (x:=old) rfl ?_);refine qAA (qCv (s:=⟨k4,g,d,tk+1,os⟩) e4 (by simp) fun k5 e5 b5=>?_);have b5:Heap.SameBut e k4 k5:=b5;have e5:IsEnum k5 e it (c+1) x:=e5;refine qAA ?_;unfold Builtin.SmallTypes.ownedTupleHandOut;refine qAA (qCv (s:=⟨k5,g,d,tk+1,os⟩) e5 (by simp) fun k6 e6 b6=>?_);have b6:Heap.SameBut e k5 k6:=b6;have e6:IsEnumOut k6 e it (c+1) x h0.objs.size:=e6;refine qCv (s:=⟨k6,g,d,tk+1,os⟩) e6 (by simp) fun k7 e7 b7=>?_;have b7:Heap.SameBut e k6 k7:=b7;have e7:IsEnumOut k7 e it (c+1) x h0.objs.size:=e7;have on:∀b o,b≠e->k4.get? b=some o->k7.get? b=some o:=fun b o n y=>b7.extBut b o n (b6.extBut b o n (b5.extBut b o n y));refine qAA (qCB (qAE ⟨_,rfl,q k7 e7 (i4.at fun o y=>on it o ne.symm y) (on _ _ (qAu esz) t4) (by rw [b7.1,b6.1,b5.1,z4]) fun b o n1 n2 y=>on b o n1 (o4 b o n1 n2 y)⟩))
theorem enum_next {e it l:Addr} {c:Int} {i:Nat} {ys:Array Value} {x:Value} {Q:Option Value->Shared->Prop} (he:IsEnum s.heap e it c old) (hi:s.heap.IsListIter it l i) (hl:s.heap.IsList l ys) (hx:ys[i]?=some x) (ne:e≠it)
  (q:∀k,IsEnumOut k e it (c+1) x s.heap.objs.size->k.IsListIter it l (i+1)->k.get? s.heap.objs.size=some {cls:=.type "tuple",data:=.seq #[.int c s.toks,x]}->k.objs.size=s.heap.objs.size+1 ->
   (∀b o,b≠e->b≠it->s.heap.get? b=some o->k.get? b=some o)->Q (some (.ref s.heap.objs.size)) {s with heap:=k,toks:=s.toks+1}):wpAny (model P w) A (pyNext (.ref e)) Q E s:=by
 have ty:s.TypeIs (.ref e) "enumerate" := ⟨_,he,rfl⟩;unfold pyNext;refine qAA (qCT (qDC (name:=Str.ofString "__next__") ty qDF ?_));exact qCA qDF ty F.entry_enumerate_next (enum_step he hi hl hx ne fun k a b c d y=>qAE (q k a b c d y)) (F.args_enumerate_next_1 _)
theorem enum_end {e it l:Addr} {c:Int} {i:Nat} {ys:Array Value} {Q:Option Value->Shared->Prop} (hh:A.handled=none) (he:IsEnum s.heap e it c old) (hi:s.heap.IsListIter it l i) (hl:s.heap.IsList l ys) (hx:ys[i]?=none)
  (q:∀k,Heap.ExtBut it s.heap k->Q none {s with heap:=k}):wpAny (model P w) A (pyNext (.ref e)) Q E s:=by
 have ty:s.TypeIs (.ref e) "enumerate" := ⟨_,he,rfl⟩;unfold pyNext;refine qAA (qCT (qDC (name:=Str.ofString "__next__") ty qDF ?_));refine qCA qDF ty F.entry_enumerate_next ?_ (F.args_enumerate_next_1 _);show wpAny _ _ (field (Value.ref e) 2 >>= _) _ _ s;refine qAA (qCb he rfl (x:=Value.ref it) rfl ?_);refine qAA (wpAny_nextOf_list_end hh hi hl hx fun k y b ⟨o,ho,hc⟩=>?_);exact qAA (qDD (T:= "StopIteration") (b:=true) ⟨o,ho,hc⟩ isSubtype_stop (qAE (q _ b)))
end
def Ite (K:PySem.W.Frag) (a:Addr) (lo:Int):It :=
 ⟨fun i H=>∃xs x,SqL K H a xs/\xs[i]?=some x,fun i H v H'=>∃t x,v= .ref t/\H t=none/\H'=upd H t (.tup [.int (lo+i),x])/\∀xs,SqL K H a xs->xs[i]?=some x,fun i H=>∃xs,SqL K H a xs/\xs.length<=i⟩
theorem un_laid {fs ex:List Addr} {h h':Heap} {o:HO} (k:∀b u,b∉ex->h.get? b=some u->h'.get? b=some u) (hp:h.objs.size<=a) (hn:H a=none):Un fs ex H (upd H a o) h h' where
 keep:=fun b u q _ _ hx=>k b u hx q
 slot:=fun b u q _ _ hx=>⟨u.slots,k b u hx q⟩
 free:=fun b u q n _=>by rw [upd_ne (qAN (qAn (qAK q) hp))];exact n
 there:=fun b u q hx=>⟨u,k b u hx q⟩
 tups:=fun b xs q=>by rw [upd_ne (zAj q hn)];exact q
 frzs:=fun b u xs q=>by rw [upd_ne (zAj q hn)];exact q
 tbls:=fun b ps q=>⟨#[],by rw [upd_ne (zAj q hn),q];simp⟩
theorem hok_laid {P:Program} {w:World} {h h':Heap} {ex:List Addr} {o:HO} (x:HOk P w H h) (k:∀b u,b∉ex->h.get? b=some u->h'.get? b=some u) (hex:∀b∈ex,H b=none) (hp:h.objs.size<=a) (new:zAx P w (upd H a o) h' a o):HOk P w (upd H a o) h':=fun b u e=>by
 have hn:=x.fresh hp
 by_cases hb:b=a
 ·subst hb;rw [upd_same] at e;cases e;exact new
 ·rw [upd_ne hb] at e;refine (x b u e).stay (fun c v hc q=>k c v (fun z=>?_) q) (fun c q=>by rw [upd_ne (zAj q hn)];exact q) fun c xs q=>by rw [upd_ne (zAj q hn)];exact q
  have hz:=hex c z;rcases hc with y| y
  ·rw [y,e] at hz;cases hz
  ·rw [y] at hz;cases hz
theorem turn_enum {P:Program} {w:World} {K:PySem.W.Frag} {elts:List Expr} {kk:Nat} {tp:Pos} (a e it:Addr) (lo:Int) (ne:e≠it):Turn P w K (.Tuple elts kk tp) (Ite K a lo) [e,it] e (fun i h=>∃old,IsEnum h e it (lo+(i:Nat)) old/\h.IsListIter it a i) where
 mem:=by simp
 obj:=fun i h st b hb=>by
  obtain ⟨old,s1,o,s2,s3,s4⟩:=st;have cs:b=e\/b=it:=by simpa using hb
  rcases cs with z| z
  ·rw [z];exact ⟨_,s1,fun v y=>by cases y⟩
  ·rw [z];exact ⟨o,s2,fun v y=>by rw [s4] at y;cases y⟩
 keep:=fun i h h' ⟨old,s1,s2⟩ k=>⟨old,k e (by simp) _ s1,s2.at fun o y=>k it (by simp) o y⟩
 item:=by
  intro X hP hw hK hc i pins s σ H E I hf st hg;subst hP hw hK;obtain ⟨xs,x,hq,hx⟩:=hg;obtain ⟨old,s1,s2⟩:=st;obtain ⟨its,rv,p,hz⟩:=I.list hq;obtain ⟨u,hu,ru⟩:=rv.get hx;refine enum_next s1 s2 p.isList (x:=u) (by simpa using hu) ne fun k eo i1 t1 z1 o1=>?_;refine ⟨_,rfl,wpAny_letOwnedTupleGo_enum eo fun k2 e2 b2=>?_⟩;have b2:Heap.SameBut e k k2:=b2;have esz:e<s.heap.objs.size:=qAK s1;have t2:k2.get? s.heap.objs.size=some {cls:=.type "tuple",data:=.seq #[.int (lo+(i:Nat)) s.toks,u]}:=b2.extBut _ _ (qAu esz) t1;have on:∀b o,b∉[e,it]->s.heap.get? b=some o->k2.get? b=some o:=fun b o nb y=>b2.extBut b o (fun z=>nb (by simp [z])) (o1 b o (fun z=>nb (by simp [z])) (fun z=>nb (by simp [z])) y);have hn:∀b∈[e,it],H b=none:=fun b hb=>(hf b hb).1;have new:zAx X.prog X.w (upd H s.heap.objs.size (.tup [.int (lo+(i:Nat)),x])) k2 s.heap.objs.size (.tup [.int (lo+(i:Nat)),x]):=⟨by show (2:Nat)<=sizeLine;decide,[.int (lo+(i:Nat)) s.toks,u],.cons ⟨_,rfl⟩ (.cons ru .nil),⟨_,t2,rfl,_,rfl⟩⟩
  have I2:Inv X pins σ (upd H s.heap.objs.size (.tup [.int (lo+(i:Nat)),x])) {s with heap:=k2,toks:=s.toks+1}:=I.call' (ch:=[e,it]) rfl (un_laid on (qAF _) (I.hok.fresh (qAF _))) (hok_laid I.hok on hn (qAF _) new) I.bare fun b hb=>by
   obtain ⟨_,f1,_,f3,f4,f5⟩:=hf b hb;exact ⟨f3,f1,f4,f5⟩
  refine ⟨.ref s.heap.objs.size,_,I2,rfl,⟨_,x,rfl,I.hok.fresh (qAF _),rfl,fun ys hy=>by rw [I.list_inj hy hq];exact hx⟩,⟨u,?_,i1.extBut b2.extBut ne.symm⟩,fun b hb=>?_⟩
  ·have e2:IsEnum k2 e it (lo+(i:Nat)+1) u:=e2;show IsEnum k2 e it (lo+((i+1:Nat):Int)) u;rw [show lo+((i+1:Nat):Int)=lo+(i:Nat)+1 by lia];exact e2
  ·have hb':=hn b hb
   have:b≠s.heap.objs.size:=by
    have cs:b=e\/b=it:=by simpa using hb
    rcases cs with z| z
    ·rw [z];exact qAN esz
    ·obtain ⟨o,y,_⟩:=s2;rw [z];exact qAN (qAK y)
   rw [upd_ne this];exact hb'
 done:=by
  intro X hP hw hK hc i pins s σ H E I hf st hg;subst hP hw hK;obtain ⟨xs,hq,hx⟩:=hg;obtain ⟨old,s1,s2⟩:=st;obtain ⟨its,rv,p,hz⟩:=I.list hq;obtain ⟨f0,f1,f2,f3,f4,f5⟩:=hf it (by simp);have hl:=rv.length;exact enum_end (I.ok.hd hc) s1 s2 p.isList (by simp;lia) fun h' eb=>⟨rfl,I.turned (t':=s.toks) (fun b o hb y=>eb b o hb y) f0 f1 f3 f4 f5⟩
 self:=fun _ _ _ _ _ ⟨_,st,_⟩ h=>wpAny_pyIter_enum st h
section
variable {X:Cx} {elts:List Expr} {kk:Nat} {tp:Pos}
theorem boot_enum:bootBuiltins "enumerate" = some (.type "enumerate"):=by decide +kernel
theorem enum_it {pins:List (Addr×Obj)} {σ:St} {s:Shared} {R:It->Hp->Prop} {E:Value->Shared->Prop} {lo:Int} {h':Heap} {tk:Nat} (I:Inv X pins σ H s) (he:IsEnum h' (s.heap.objs.size+1) s.heap.objs.size lo .none) (hi:h'.IsListIter s.heap.objs.size a 0)
  (k:∀b o,s.heap.get? b=some o->h'.get? b=some o) (q:R (Ite X.K a lo) H) :
  wpAny (model X.prog X.w) X.A (pyIter (.ref (s.heap.objs.size+1))) (PIE X pins σ (.Tuple elts kk tp) R) E {s with heap:=h',toks:=tk}:=by
 refine wpAny_pyIter_enum he ?_;refine ⟨s.heap.objs.size+1,[s.heap.objs.size+1,s.heap.objs.size],_,_,H,rfl,I.kept (t':=tk) k,turn_enum a (s.heap.objs.size+1) s.heap.objs.size lo (Nat.succ_ne_self _),⟨.none,by simpa using he,hi⟩,fun b hb=>?_,q⟩;have cs:b=s.heap.objs.size+1\/b=s.heap.objs.size:=by simpa using hb
 rcases cs with e| e
 ·subst e;exact I.fpOk (by lia) (I.hok.fresh (by lia))
 ·subst e;exact I.fpOk (qAF _) (I.hok.fresh (qAF _))
def iEnum (K:PySem.W.Frag) (ta:TA):TI:=fun σ H R=>ta σ H fun vs H1=>∃a,vs=[.ref a]/\(∃xs,SqL K H1 a xs)/\R (Ite K a 0) H1
theorem pi_enum {a:Expr} {ta:TA} {p pos:Pos} (hg:Gl X "enumerate") (hm:X.mg "enumerate" = none) (ha:PA X [a] ta) (hs:starEach [a] X.env=[(false,eval a X.env)]:=by rfl):PI X (.Tuple elts kk tp) (.Call (.Name "enumerate" p) [a] [] pos) (iEnum X.K ta):=by
 intro pins s σ H R I h;refine Call_ (zEb I hg hm boot_enum (qCI (thn (ha pos pins s σ H _ I h) fun us s1 ⟨vs,H1,I1,r1,q1⟩=>?_) hs rfl));obtain ⟨a,e,⟨xs,hq⟩,q⟩:=q1;subst e;obtain ⟨u,rfl,ru⟩:=r1.one
 cases ru
 obtain ⟨its,r,pl,hz⟩:=I1.list hq;exact call_enumerate_list pl.isList fun h' e1 e2 e3 e4=>enum_it (tk:=s1.toks) I1 e1 e2 e4 q
theorem for_enum {K:PySem.W.Frag} {lo:Int} {xs:List V} {g:TG} {tb:TS} {D:Ends} {σ:St} (Pv:Nat->St->Hp->Prop) (h0:Pv 0 σ H) (hl:∀i σ H,i<=xs.length->Pv i σ H->SqL K H a xs)
  (hs:∀i x σ H t,xs[i]?=some x->Pv i σ H->H t=none->g (.ref t) σ (upd H t (.tup [.int (lo+i),x])) fun σ2 H2=>tb {D with nx:=Pv (i+1),ct:=Pv (i+1),bk:=D.nx} σ2 H2) (hd:∀σ H,Pv xs.length σ H->D.nx σ H) :
  ∃W:Nat->Nat->St->Hp->Prop,(∃m,W 0 m σ H)/\∀i m σ H,W i m σ H ->
   ((Ite K a lo).stop i H/\D.nx σ H)\/((Ite K a lo).go i H/\∃N:St->Hp->Prop,(∀σ' H',N σ' H'->∃m',m'<m/\W (i+1) m' σ' H')/\∀x H',(Ite K a lo).yld i H x H'->g x σ H' fun σ2 H2=>tb {D with nx:=N,ct:=N,bk:=D.nx} σ2 H2):=by
 refine ⟨fun i m σ H=>m=xs.length - i/\i<=xs.length/\Pv i σ H,⟨xs.length,by simp,qAd _,h0⟩,?_⟩;rintro i m σ H ⟨rfl,hi,p⟩;have q:=hl i σ H hi p
 by_cases hlt:i<xs.length
 ·refine .inr ⟨⟨xs,xs[i],q,by simp [hlt]⟩,Pv (i+1),fun σ' H' p'=>⟨xs.length - (i+1),by lia,rfl,hlt,p'⟩,fun v H' y=>?_⟩;obtain ⟨t,x,rfl,hn,rfl,y⟩:=y;exact hs i x σ H t (y xs q) p hn
 ·have e:i=xs.length:=by lia
  subst e;exact .inl ⟨⟨xs,q,qAF _⟩,hd σ H p⟩
end
open AutoSeq1 (wpAny_loadPart')
end L2
namespace L2
open PySem PySem.Spec PyProof.Rows PySem.W PySem.Builtin PySem.Builtin.ObjectAttr PySem.Builtin.Getset_descriptor
end L2
namespace L2
open PySem PySem.Spec PyProof.Rows
section
variable {X:Cx}
theorem strs_all (as bs:List Str) (h:as.length=bs.length):((List.range as.length).all fun j=>eqV ((as.map V.str).getD j .non) ((bs.map V.str).getD j .non))=decide (as=bs):=by
 rw [qB1,qA6,qCC];constructor
 ·intro q;refine List.ext_getElem h fun j h1 h2=>?_;have:=q j (qA1.mpr h1);simp [eqV,h1,h2] at this;exact this
 ·rintro rfl j hj;have hj:=qA1.mp hj;simp [eqV,hj]
theorem flat_items {A:Around} {s:Shared} {xs ys:List V} {its its2:List Value} (r:Vals xs its) (r2:Vals ys its2) (fx:xs.all zEe=true) (fy:ys.all zEe=true) (hl:xs.length=ys.length) :
  ∀j (h1:j<its.toArray.size) (h2:j<its2.toArray.size),SeqAt.EqAt A s its.toArray[j] its2.toArray[j] (eqV (xs.getD j .non) (ys.getD j .non)):=fun j h1 h2=>by
 have e1:=r.length;have e2:=r2.length;rw [qAJ] at h1 h2;have hjx:xs[j]?=some (xs[j]'(by lia)):=by simp
 have hjy:ys[j]?=some (ys[j]'(by lia)):=by simp
 obtain ⟨u1,q1,ru1⟩:=r.get hjx;obtain ⟨v1,q2,rv1⟩:=r2.get hjy
 have e3:its.toArray[j]=u1:=by
  have:its[j]?=some its[j]:=by simp
  rw [this] at q1;simpa using q1
 have e4:its2.toArray[j]=v1:=by
  have:its2[j]?=some its2[j]:=by simp
  rw [this] at q2;simpa using q2
 rw [e3,e4];have g1:xs.getD j .non=xs[j]'(by lia):=by rw [qBD,hjx];rfl
 have g2:ys.getD j .non=ys[j]'(by lia):=by rw [qBD,hjy];rfl
 rw [g1,g2];exact eqAt_V ru1 rv1 (qA6.mp fx _ (qB7 _)) (qA6.mp fy _ (qB7 _))
def rStrs (K:PySem.W.Frag) (neg:Bool):R2:=fun x y H Q=>∃(a c:Addr) (as bs:List Str),x= .ref a/\y= .ref c/\SqL K H a (as.map V.str)/\SqL K H c (bs.map V.str)/\Q (.bl (if neg then !decide (as=bs) else decide (as=bs))) H
theorem flatS (ns:List Str):(ns.map V.str).all zEe=true:=by simp [zEe]
theorem op_neS (hu:X.A.units<cLine):OpR X (compareOp .NotEq) (rStrs X.K true):=by
 intro pins s σ H x y v u Q I rx ry h;obtain ⟨a,c,as,bs,rfl,rfl,hx,hy,q⟩:=h
 cases rx
 cases ry
 obtain ⟨its,r,pl,hz⟩:=I.list hx;obtain ⟨its2,r2,pl2,hz2⟩:=I.list hy;have e1:=r.length;have e2:=r2.length;rw [qAD] at e1 e2
 by_cases hl:as.length=bs.length
 ·refine SeqAt.RcNeAt.lists (e:=fun j=>eqV ((as.map V.str).getD j .non) ((bs.map V.str).getD j .non)) pl.isList pl2.isList (by rw [qAJ,qAJ];lia) hu (flat_items r r2 (flatS as) (flatS bs) (by simpa using hl)) X.prog X.w X.xe _ ?_;rw [qAJ,<-e1,strs_all as bs hl];exact ⟨.bl _,H,I,rfl,q⟩
 ·rw [qAC rfl,qAb (fun z=>hl (by rw [z]))] at q;exact SeqAt.RcNeAt.lists_lengths pl.isList pl2.isList (by rw [qAJ,qAJ];simp;lia) hu X.prog X.w X.xe _ ⟨.bl true,H,I,rfl,q⟩
end
theorem cut_to (xs:List V) {b:Int} (h:0<=b):cutV xs none (some b)=xs.take b.toNat:=by
 obtain ⟨k,rfl⟩:∃k:Nat,b=k:=⟨b.toNat,by lia⟩;unfold cutV;rw [HT.sIx_nat,HT.sIx_none,List.drop_zero,Nat.sub_zero];show xs.take (min k xs.length)=xs.take k;rw [List.take_eq_take_min (i:=k)]
theorem cut_from (xs:List V) {b:Int} (h:0<=b):cutV xs (some b) none=xs.drop b.toNat:=by
 obtain ⟨k,rfl⟩:∃k:Nat,b=k:=⟨b.toNat,by lia⟩;unfold cutV;rw [HT.sIx_nat,HT.sIx_none];show (xs.drop (min k xs.length)).take (xs.length - min k xs.length)=xs.drop k;rw [qBF (by rw [qA4];lia)]
 by_cases z:k<=xs.length
 ·rw [qCw z]
 ·rw [Nat.min_eq_right (by lia),qCx (by lia),qCx (by lia)]
open AutoSeq1 (wpAny_loadPart')
def notStar:Expr->Bool
 | .Starred ..=>false
 | _=>true
theorem star_cons {e:Expr} {es:List Expr} {env:Env} (h:notStar e=true):starEach (e::es) env=(false,eval e env)::starEach es env:=by
 cases e<;>first| rfl| cases h
section
variable {X:Cx}
theorem op_fdivB:OpR X (binaryOp .FloorDiv) (rI (fun _ j=>0<j/\j<10^100) fun i j=>.int (i / j)):=opI fun i j _ _ _ _ _ hc q=>by
 have h1:(0:Int)<j:=hc.1;have h2:j<10^100:=hc.2;refine floordiv_int (by lia) (by rw [Int.fdiv_eq_ediv_of_nonneg i (by lia)];exact q) (.inl (PyProof.noPylong_of_log2 ?_));have hj:j.natAbs≠0:=by lia
 rw [Nat.log2_lt hj];have:j.natAbs<10^100:=by lia
 exact qAn this (by decide +kernel)
def Itr3 (lo c:Int) (n:Nat):It:=⟨fun i _=>i<n,fun i H x H'=>H'=H/\x= .int (lo+i*c),fun i _=>n<=i⟩
theorem turn_range3 {P:Program} {w:World} {K:PySem.W.Frag} {tg:Expr} (it:Addr) (lo c:Int) (n:Nat):Turn P w K tg (Itr3 lo c n) [it] it (fun i h=>IsRangeIter h it (lo+(i:Nat)*c) ((n:Int) - (i:Nat)) c) where
 mem:=by simp
 obj:=fun i h st b hb=>by
  have e:b=it:=by simpa using hb
  subst e
  exact ⟨_,st,fun v z=>by
   have z':Data.fields _=Data.cell v:=z
   cases z'⟩
 keep:=fun i h h' st k=>k it (by simp) _ st
 item:=by
  intro X hP hw hK hc i pins s σ H E I hf st hg;subst hP hw hK;obtain ⟨f0,f1,f2,f3,f4,f5⟩:=hf it (by simp);have W:=Walks.range (prog:=X.prog) (w:=X.w) (I.ok.hd hc) it lo c n;refine W.item i s _ _ hg st fun v h' tk hv st' kk=>?_;obtain ⟨t,rfl⟩:=hv;have I1:Inv X pins σ H {s with heap:=h',toks:=tk}:=I.turned (fun b o hb e=>kk b o (by simpa using hb) e) f0 f1 f3 f4 f5;exact ⟨_,rfl,go_of (s:={s with heap:=h',toks:=tk}) (n:= "range_iterator") st' rfl rfl (by decide) ⟨.int (lo+i*c),H,I1,⟨t,rfl⟩,⟨rfl,rfl⟩,st',fun b hb=>(hf b hb).1⟩⟩
 done:=by
  intro X hP hw hK hc i pins s σ H E I hf st hg;subst hP hw hK;obtain ⟨f0,f1,f2,f3,f4,f5⟩:=hf it (by simp);exact wpAny_pyNext_range_end (I.ok.hd hc) st (by have:n<=i:=hg;lia) fun h' eb=>⟨rfl,I.turned (t':=s.toks) (fun b o hb e=>eb b o hb e) f0 f1 f3 f4 f5⟩
 self:=fun _ _ _ _ _ st h=>wpAny_pyIter_rangeiter st h
theorem for_range3 {lo c:Int} {n:Nat} {g:TG} {tb:TS} {D:Ends} {σ:St} {H:Hp} (Pv:Nat->St->Hp->Prop) (h0:Pv 0 σ H)
  (hs:∀i σ H,i<n->Pv i σ H->g (.int (lo+i*c)) σ H fun σ2 H2=>tb {D with nx:=Pv (i+1),ct:=Pv (i+1),bk:=D.nx} σ2 H2) (hd:∀σ H,Pv n σ H->D.nx σ H) :
  ∃W:Nat->Nat->St->Hp->Prop,(∃m,W 0 m σ H)/\∀i m σ H,W i m σ H ->
   ((Itr3 lo c n).stop i H/\D.nx σ H)\/((Itr3 lo c n).go i H/\∃N:St->Hp->Prop,(∀σ' H',N σ' H'->∃m',m'<m/\W (i+1) m' σ' H')/\∀x H',(Itr3 lo c n).yld i H x H'->g x σ H' fun σ2 H2=>tb {D with nx:=N,ct:=N,bk:=D.nx} σ2 H2):=by
 refine ⟨fun i m σ H=>m=n - i/\i<=n/\Pv i σ H,⟨n,by simp,qAd _,h0⟩,?_⟩;rintro i m σ H ⟨rfl,hi,p⟩
 by_cases hlt:i<n
 ·refine .inr ⟨hlt,Pv (i+1),fun σ' H' p'=>⟨n - (i+1),by lia,rfl,hlt,p'⟩,fun x H' y=>?_⟩;obtain ⟨rfl,rfl⟩:=y;exact hs i σ _ hlt p
 ·have e:i=n:=by lia
  subst e;exact .inl ⟨qAF _,hd σ H p⟩
end
end L2
namespace RV
open PySem
end RV
namespace L2
open PySem PySem.Spec PyProof.Rows
section
variable {X:Cx}
theorem rel_key {P:Program} {w:World} {k:Key} {u:Value} (h:(zBc P w).is k u=true):RelV (kV k) u:=by
 rcases zA0 (show keyIs k u=true from h) with ⟨i,t,rfl,rfl⟩| ⟨x,t,rfl,rfl⟩
 ·exact ⟨t,rfl⟩
 ·exact ⟨t,rfl⟩
theorem kv_at:∀{kvs:List (Key×V)} {vs:List (Key×Value)} {j:Nat} {k:Key} {v:V},KV kvs vs->kvs[j]?=some (k,v)->∃u,vs[j]?=some (k,u)/\RelV v u
 | _,_,j,_,_,.nil,h=>by simp at h
 | _,_,0,k,v,.cons (a:=a) (b:=b) r _,h=>by
  have e:a=(k,v):=by simpa using h
  subst e;exact ⟨b.2,by simp;exact Prod.ext r.1.symm rfl,r.2⟩
 | _,_,j+1,k,v,.cons r rr,h=>by
  obtain ⟨u,h1,h2⟩:=kv_at rr (show _=some (k,v) by simpa using h);exact ⟨u,by simpa using h1,h2⟩
end
section
variable {X:Cx} {pins:List (Addr×Obj)} {σ:St} {H:Hp} {s:Shared} {a:Addr} {u o':HO}
theorem Inv.retell (I:Inv X pins σ H s) (e:H a=some u) (nt:∀xs,u≠.tup xs) (no:∀x,u≠.own x) (nb:∀ps,u≠.tbl ps) (nf:∀o v,X.H₀ a≠some (.frz o v)) (new:zAx X.prog X.w (upd H a o') s.heap a o'):Inv X pins σ (upd H a o') s:=by
 have ne:∀b,H b=none->b≠a:=fun b h z=>by rw [z,e] at h;cases h
 refine ⟨I.ok,I.os,I.bare,⟨I.base.keep,I.base.slot,fun b o q n x=>?_,I.base.there,fun b xs q=>?_,fun b o v q=>?_,fun b ps q=>?_⟩,I.loc,I.cell,?_,fun x c h=>?_,fun p hp=>?_,fun b o q=>?_,I.len⟩
 ·have:=I.base.free b o q n x;rw [upd_ne (ne b this)];exact this
 ·have:=I.base.tups b xs q;rw [upd_ne (fun z=>by rw [z,e] at this;exact nt xs (qAh this))];exact this
 ·have:=I.base.frzs b o v q;rw [upd_ne (fun z=>nf o v (by rw [<-z];exact q))];exact this
 ·obtain ⟨more,this⟩:=I.base.tbls b ps q;exact ⟨more,by rw [upd_ne (fun z=>by rw [z,e] at this;exact nb _ (qAh this))];exact this⟩
 ·rw [upd_ne (ne _ I.free)];exact I.free
 ·rw [upd_ne (ne _ (I.freeC x c h))];exact I.freeC x c h
 ·obtain ⟨h1,h2,h3⟩:=I.pin p hp;exact ⟨h1,by rw [upd_ne (ne _ h2)];exact h2,h3⟩
 ·by_cases z:b=a
  ·subst z;rw [upd_same] at q;cases q;exact new
  ·rw [upd_ne z] at q;refine (I.hok b o q).stay (fun c v _ y=>y) (fun c y=>?_) fun c xs y=>?_
   ·rw [upd_ne (fun z=>by rw [z,e] at y;exact no _ (qAh y))];exact y
   ·rw [upd_ne (fun z=>by rw [z,e] at y;exact nt _ (qAh y))];exact y
end
def thawE (D:Ends) (a:Addr) (o:Obj) (kvs:List (Key×V)):Ends where
 nx:=fun σ H=>H a=some (.frz o (.dK kvs))/\D.nx σ (upd H a (.dK kvs))
 rt:=fun v H=>H a=some (.frz o (.dK kvs))/\D.rt v (upd H a (.dK kvs))
 bk:=fun σ H=>H a=some (.frz o (.dK kvs))/\D.bk σ (upd H a (.dK kvs))
 ct:=fun σ H=>H a=some (.frz o (.dK kvs))/\D.ct σ (upd H a (.dK kvs))
section
variable {X:Cx}
theorem Inv.thaw {pins:List (Addr×Obj)} {σ:St} {H:Hp} {s:Shared} {a:Addr} {o:Obj} {kvs:List (Key×V)} (I:Inv X pins σ H s) (e:H a=some (.frz o (.dK kvs))) (nf:∀o v,X.H₀ a≠some (.frz o v)):Inv X pins σ (upd H a (.dK kvs)) s:=by
 obtain ⟨_,z⟩:zAx X.prog X.w H s.heap a (.frz o (.dK kvs)):=I.hok a _ e;exact I.retell e (fun _ h=>nomatch h) (fun _ h=>nomatch h) (fun _ h=>nomatch h) nf z
theorem ps_frz {st:Stmt} {t:TS} (h:PS X st t):PS X st (fun D σ H=>∃a kvs,H a=some (.dK kvs)/\∀o,t (thawE D a o kvs) σ (upd H a (.frz o (.dK kvs)))):=by
 intro pins s σ H D I ⟨a,kvs,e,q⟩;have ok:zAx X.prog X.w H s.heap a (.dK kvs):=I.hok a _ e;obtain ⟨_,_,_,_,o,_,_,ho,_⟩:=id ok
 have nf:∀o v,X.H₀ a≠some (.frz o v):=fun o v z=>by
  have:=I.base.frzs a o v z;rw [e] at this;cases this
 have I1:Inv X pins σ (upd H a (.frz o (.dK kvs))) s:=I.retell e (fun _ h=>nomatch h) (fun _ h=>nomatch h) (fun _ h=>nomatch h) nf ⟨ho,ok⟩;refine thn (h pins s σ _ _ I1 (q o)) fun f s' r=>?_
 cases f with
 | next=>obtain ⟨σ',H',I',e',d'⟩:=r;exact ⟨σ',_,I'.thaw e' nf,d'⟩
 | brk=>obtain ⟨σ',H',I',e',d'⟩:=r;exact ⟨σ',_,I'.thaw e' nf,d'⟩
 | cont=>obtain ⟨σ',H',I',e',d'⟩:=r;exact ⟨σ',_,I'.thaw e' nf,d'⟩
 | ret u=>obtain ⟨v,σ',H',I',rv,e',d'⟩:=r;exact ⟨v,σ',_,I'.thaw e' nf,rv,d'⟩
end
end L2
namespace RV
open PySem
end RV
namespace L2
open PySem PySem.Spec PyProof.Rows
theorem frz_at {X:Cx} {pins:List (Addr×Obj)} {σ:St} {H:Hp} {s:Shared} {a:Addr} {o:Obj} {kvs:List (Key×V)} (I:Inv X pins σ H s) (e:H a=some (.frz o (.dK kvs))) :
  ∃vs es ep,KV kvs vs/\o.data= .dict es ep/\es.size=kvs.length/\s.heap.DictAt (zBc X.prog X.w) a vs ep/\(a==sysModules)=false/\kvs.length<=sizeLine/\s.heap.get? a=some o/\o.ExactDict:=by
 obtain ⟨ho,z,hd,vs,rel,o1,es,ep,y1,y2,y3,y4,y5,y6⟩:zAx X.prog X.w H s.heap a (.frz o (.dK kvs)):=I.hok a _ e;rw [ho] at y1
 cases y1
 have l1:=y5.length;have l2:=rel.length;exact ⟨vs,es,ep,rel,y3,by simp only [qBS] at l1;lia,⟨o,es,ho,y2,y3,y4,y5,y6⟩,hd,z,ho,y2⟩
end L2
namespace ST
open PySem PyProof.Rows PySem.W
end ST
namespace L2
open PySem PySem.Spec PyProof.Rows
variable {c:Addr}
def Itk (a:Addr) (o:Obj) (kvs:List (Key×V)):It :=
 ⟨fun i H=>H a=some (.frz o (.dK kvs))/\i<kvs.length,fun i H v H'=>H'=H/\∃k x,kvs[i]?=some (k,x)/\v=kV k,fun i H=>H a=some (.frz o (.dK kvs))/\kvs.length<=i⟩
theorem turn_keys {P:Program} {w:World} {K:PySem.W.Frag} {tg:Expr} (a it:Addr) (o:Obj) (es:Array DictEntry) (ep:Nat) (kvs:List (Key×V)) (hd:o.data= .dict es ep):Turn P w K tg (Itk a o kvs) [it] it (fun i h=>h.IsKeyIter it a i kvs.length ep) where
 mem:=by simp
 obj:=fun i h ⟨o,st,c,dt⟩ b hb=>by
  have:b=it:=by simpa using hb
  subst this;exact ⟨_,st,fun v y=>by rw [dt] at y;cases y⟩
 keep:=fun i h h' st k=>st.at fun o e=>k it (by simp) o e
 item:=by
  intro X hP hw hK hc i pins s σ H E I hf st hg;subst hP hw hK;obtain ⟨e,hi⟩:=hg;obtain ⟨vs,es',ep',rel,hd',_,da,_,_,ho,_⟩:=frz_at I e;have ee:ep'=ep:=by rw [hd] at hd';cases hd';rfl
  subst ee;have len:=rel.length;have ek:kvs[i]?=some (kvs[i].1,kvs[i].2):=qAt hi;obtain ⟨v,ev,rv⟩:=kv_at rel ek;rw [len] at st;obtain ⟨f0,f1,f2,f3,f4,f5⟩:=hf it (by simp);refine wpAny_pyNext_dict_item st da ev fun key h' hk st' sb=>?_;have I1:Inv X pins σ H {s with heap:=h',toks:=s.toks}:=I.turned (t':=s.toks) (fun b o hb y=>sb.extBut b o hb y) f0 f1 f3 f4 f5;rw [<-len] at st';obtain ⟨o2,g1,g2,g3⟩:=id st';exact ⟨_,rfl,go_of (s:={s with heap:=h'}) (n:= "dict_keyiterator") g1 g2 g3 (by decide) ⟨kV kvs[i].1,H,I1,rel_key hk,⟨rfl,_,_,ek,rfl⟩,st',fun b hb=>(hf b hb).1⟩⟩
 done:=by
  intro X hP hw hK hc i pins s σ H E I hf st hg;subst hP hw hK;obtain ⟨e,hi⟩:=hg;obtain ⟨vs,es',ep',rel,hd',_,da,_,_,ho,_⟩:=frz_at I e;have ee:ep'=ep:=by rw [hd] at hd';cases hd';rfl
  subst ee;have len:=rel.length;rw [len] at st;obtain ⟨f0,f1,f2,f3,f4,f5⟩:=hf it (by simp);exact wpAny_pyNext_dict_end (I.ok.hd hc) st da (by simp;lia) fun h' eb=>⟨rfl,I.turned (t':=s.toks) (fun b o hb y=>eb b o hb y) f0 f1 f3 f4 f5⟩
 self:=fun _ _ _ _ _ st h=>wpAny_pyIter_keyiter st h
section
variable {X:Cx}
theorem pi_keys {tg o:Expr} {to:TE} (ho:PE X o to):PI X tg o (fun σ H R=>to σ H fun x H1=>∃a ob kvs,x= .ref a/\H1 a=some (.frz ob (.dK kvs))/\R (Itk a ob kvs) H1):=by
 intro pins s σ H R I h;refine thn (ho pins s σ H _ I h) fun v s1 ⟨x,H1,I1,r1,a,ob,kvs,ex,e,q⟩=>?_;subst ex
 cases r1
 obtain ⟨vs,es,ep,rel,hd,sz,da,nsys,z,hget,exd⟩:=frz_at I1 e;have len:=rel.length;refine wpAny_pyIter_dict nsys da ?_;refine ⟨s1.heap.objs.size,[s1.heap.objs.size],_,_,H1,rfl,I1.kept (t':=s1.toks) fun b o e=>qAI _ e,turn_keys a _ ob es ep kvs hd,⟨_,qAc _ rfl,rfl,by rw [len];rfl⟩,fun b hb=>?_,q⟩;have e:b=s1.heap.objs.size:=by simpa using hb
 subst e;exact I1.fpOk (qAF _) (I1.hok.fresh (qAF _))
theorem comp_keys {a:Addr} {o:Obj} {kvs:List (Key×V)} {ix:List (Option Nat)} {g:TG} {tt:TT} {te:TE} {QD:Hp->Prop} {σ:St} {H1:Hp} {D:Addr} (Pv:Nat->List V->St->Hp->Prop) (h0:Pv 0 [] (zC5 σ ix) (upd H1 D (.lst [])))
  (hl:∀i ys τ H,Pv i ys τ H->H a=some (.frz o (.dK kvs)))
  (hs:∀i k v ys τ H,kvs[i]?=some (k,v)->Pv i ys τ H->g (kV k) τ H fun τ' H4=>tt τ' H4 fun b H5=>if b=true then te τ' H5 fun v H6=>H6 D=some (.lst ys)/\ys.length<sizeLine/\Pv (i+1) (ys++[v]) τ' (upd H6 D (.lst (ys++[v]))) else Pv (i+1) ys τ' H5)
  (hd:∀ys τ H,Pv kvs.length ys τ H->QD H) :
  ∃W:Nat->Nat->List V->St->Hp->Prop,(∃m,W 0 m [] (zC5 σ ix) (upd H1 D (.lst [])))/\∀i m ys τ H2,W i m ys τ H2 ->
   ((Itk a o kvs).stop i H2/\QD H2)\/((Itk a o kvs).go i H2/\∃N:List V->St->Hp->Prop,(∀ys' τ' H',N ys' τ' H'->∃m',m'<m/\W (i+1) m' ys' τ' H')/\∀x H3,(Itk a o kvs).yld i H2 x H3->g x τ H3 fun τ' H4=>tt τ' H4 fun b H5 =>
    if b=true then te τ' H5 fun v H6=>H6 D=some (.lst ys)/\ys.length<sizeLine/\N (ys++[v]) τ' (upd H6 D (.lst (ys++[v])))
    else N ys τ' H5):=by
 refine ⟨fun i m ys τ H=>m=kvs.length - i/\i<=kvs.length/\Pv i ys τ H,⟨kvs.length,by simp,qAd _,h0⟩,?_⟩;rintro i m ys τ H ⟨rfl,hi,p⟩
 by_cases hlt:i<kvs.length
 ·refine .inr ⟨⟨hl i ys τ H p,hlt⟩,Pv (i+1),fun ys' τ' H' p'=>⟨_,?_,rfl,hlt,p'⟩,fun x H' y=>?_⟩
  ·show kvs.length - (i+1)<kvs.length - i;lia
  ·obtain ⟨rfl,k,v,ek,rfl⟩:=y;exact hs i k v ys τ H' ek p
 ·have e:i=kvs.length:=by lia
  subst e;exact .inl ⟨⟨hl _ ys τ H p,qAF _⟩,hd ys τ H p⟩
end
def cxLam (X:Cx) (N:List Str) (qual:Str) (scope:Scope) (f:Addr) (cd:Value) (cl:List (Str×Addr)) (A:Around) (s:Shared) (H:Hp):Cx where
 prog:=X.prog
 w:=X.w
 K:=X.K
 mg:=X.mg
 base:=X.base
 A:=A.deeper (PySem.W.envX qual scope s.heap.objs.size f cd cl)
 N:=N
 s₀:=s
 H₀:=H
 env:=PySem.W.envX qual scope s.heap.objs.size f cd cl
 outer:=X.stack
 stack:=PySem.W.envX qual scope s.heap.objs.size f cd cl::X.stack
 ex:=[]
 calm:=true
 fn:=fun _=>false
 pn:=[]
 xe:=fun _ _=>False
structure LamScope (x y:Str) (sc:Scope):Prop where
 kind:sc.kind= .function
 co:sc.isCoroutine=false
 gen:sc.isGenerator=false
 px:sc.names.lookup x=some .local
 fy:sc.names.lookup y=some .free
 nocell:∀z∈sc.names,z.2≠.cell
 onlyy:∀z∈sc.names,z.2= .free->z.1=y
section
variable {X:Cx} {pins:List (Addr×Obj)} {σ:St} {H:Hp} {s:Shared}
theorem zBu {h h':Heap} {v:Option Value} (x:h.IsCell c v) (k:∀b o,h.get? b=some o->h'.get? b=some o):h'.IsCell c v:=by
 obtain ⟨o,e,r⟩:=x;exact ⟨o,k _ _ e,r⟩
theorem look1 {y z:Str} {d:Addr} (h:([(y,c)]:List (Str×Addr)).lookup z=some d):z=y/\d=c:=by
 rw [qA5] at h
 cases e:(z==y) with
 | true=>rw [e] at h;cases h;exact ⟨by simpa using e,rfl⟩
 | false=>rw [e] at h;cases h
theorem inv_lam {A:Around} {f c:Addr} {cd:Value} {qual x y:Str} {scope:Scope} {vx vy:V} {ux uy:Value} {h₁:Heap} {tk:Nat} (I:Inv X pins σ H s) (hA:A.frames=some X.stack) (hh:A.handled=none) (S:LamScope x y scope) (ne:x≠y)
  {y':Str} (hy:X.env.cells.lookup y'=some c) (iy:s.heap.IsCell c (some uy)) (ry:RelV vy uy) (rx:RelV vx ux) (hns:h₁.Ns s.heap.objs.size (fun z=>([(x,ux)]:List (Str×Value)).reverse.lookup z)) (hk:∀b o,s.heap.get? b=some o->h₁.get? b=some o) :
  Inv (cxLam X [x,y] qual scope f cd [(y,c)] A s H) [] [some vx,some vy] H {s with heap:=h₁,toks:=tk}:=by
 have e0:=I.env0;have noA:∀b:Addr,b∉(cxLam X [x,y] qual scope f cd [(y,c)] A s H).ex:=fun b z=>absurd (show b∈([]:List Addr) from z) (by simp);have hc0:=I.freeC y' c hy
 refine ⟨⟨e0.mod,S.kind,rfl,rfl,qAF _,fun a b d h1 h2=>?_,fun z hz=>?_,fun z d h _=>Bool.noConfusion h,fun _=>hh,qDV hA,.inr ⟨rfl,rfl⟩,fun b z=>absurd z (noA b),e0.bs,e0.bsz,fun b _ _=>noA b,fun b z=>absurd z (noA b),e0.funs,e0.frf⟩,
  rfl,e0.bare,Un.kept hk,⟨_,hns,fun i z v h1 h2 h3=>?_⟩,fun z d h=>?_,e0.hok.fresh (qAF _),fun z d h=>?_,fun p hp=>absurd (show p∈([]:List (Addr×Obj)) from hp) (by simp),e0.hok.kept hk,rfl⟩
 ·rw [(look1 h1).1,(look1 h2).1]
 ·have hz:scope.names.lookup z=some .cell\/scope.names.lookup z=some .free:=hz;rcases hz with hz| hz
  ·exact absurd rfl (S.nocell _ (qBT hz))
  ·have:z=y:=S.onlyy _ (qBT hz) rfl;subst this;exact ⟨c,by show ([(z,c)]:List (Str×Addr)).lookup z=some c;simp⟩
 ·match i,h1,h2 with
  | 0,h1,h2 =>
   have h1:some x=some z:=h1;have h2:some (some vx)=some (some v):=h2
   cases h1
   cases h2
   exact ⟨ux,rx,.inl ⟨S.px,by simp⟩⟩
  | 1,h1,h2 =>
   have h1:some y=some z:=h1;have h2:some (some vy)=some (some v):=h2
   cases h1
   cases h2
   exact ⟨uy,ry,.inr ⟨.inr S.fy,c,by show ([(y,c)]:List (Str×Addr)).lookup y=some c;simp,zBu iy hk⟩⟩
  | n+2,h1,_=>exact absurd (show ([]:List Str)[n]?=some z from h1) (by simp)
 ·obtain ⟨_,rfl⟩:=look1 h;exact ⟨_,zBu iy hk⟩
 ·obtain ⟨_,rfl⟩:=look1 h;exact hc0
theorem lam_call {A:Around} {f c':Addr} {qual x y:Str} {params:Arguments} {body:Expr} {scope:Scope} {pm ctv:Value} {vx vy:V} {ux uy:Value} {te:TE} {Q:VK} (I:Inv X pins σ H s) (hA:A.frames=some X.stack) (hh:A.handled=none) (room:A.depth<recursionLimit)
  (ho:s.heap.get? f=some (PySem.W.kla_obj "<lambda>" qual params body scope [(y,c)] pm c' ctv)) (hcd:s.heap.CodeRec (.ref c') qual) (S:LamScope x y scope) (ne:x≠y)
  (hb:bindArgs (PySem.W.kla_fn "<lambda>" qual params body scope [(y,c)] pm (.ref c') ctv) ⟨[ux],[]⟩=pure [(x,ux)])
  {y':Str} (hy:X.env.cells.lookup y'=some c) (iy:s.heap.IsCell c (some uy)) (ry:RelV vy uy) (rx:RelV vx ux)
  (ht:PE (cxLam X [x,y] qual scope f (.ref c') [(y,c)] A s H) body te) (hq:te [some vx,some vy] H Q) :
  wpAny (model X.prog X.w) A (call (.ref f) [ux]) (CE X.stack X.prog X.w H s Q) (fun _ _=>False) s:=by
 refine qCK (PySem.W.kla_callFunE room ho rfl S.co S.gen rfl hcd ?_);rw [hb];refine qAE (wpAny_newFunctionEnv S.nocell (fun z hz=>?_) (fun h₁ hns hsb=>⟨I.nolimit.fresh _ hsb,?_⟩) S.kind)
 ·have:z=(x,ux):=by simpa using hz
  subst this;exact S.px
 ·show codeAny _ _ (.expr body (PySem.W.envX qual scope s.heap.objs.size f (.ref c') [(y,c)])) _ _;have hk₁:∀b o,s.heap.get? b=some o->h₁.get? b=some o:=fun b o e=>hsb.extBut b o (qAN (qAK e)) (qAI _ e);have J:=inv_lam (qual:=qual) (f:=f) (cd:=.ref c') (tk:=s.toks+[(x,ux)].length) I hA hh S ne hy iy ry rx hns hk₁;refine PySem.W.kla_codeExpr (qAq (ht [] _ _ H _ J hq) (fun v s' hs=>?_) fun _ _ h=>h.elim);obtain ⟨v',H',J',rv,q⟩:=hs;exact ⟨v',H',J'.os,J'.bare,J'.base,J'.hok,rv,q⟩
end
end L2
namespace ST
open PySem PyProof.Rows
end ST
namespace L2
open PySem PySem.Spec PyProof.Rows
variable {qual:Str}
def zHp (mg:Str->Option Value) (h:Heap):Prop:=∃bm o,mg "__builtins__" = some (.ref bm)/\bm≠builtinsNs/\h.get? bm=some o/\o.cls= .type "module" /\o.dict=some builtinsNs/\o.data= .plain
def zFm (c:Addr) (qual:Str):HO:=.ext fun h=>h.CodeRec (.ref c) qual
def Tab1 (H:Hp) (P:Addr) (qual:Str) (pos:Pos):Prop:=∃c',H P=some (.tbl #[rawInt pos.line,rawInt pos.col,.ref c'])/\H c'=some (zFm c' qual)
def Tab0 (H:Hp) (P:Addr) (qual:Str) (pos:Pos):Prop:=H P=some (.tbl #[])\/Tab1 H P qual pos
section
variable {X:Cx} {pins:List (Addr×Obj)} {σ:St} {H:Hp} {s:Shared}
theorem codeO_rec (I:Inv X pins σ H s) {c:Addr} (e:H c=some (zFm c qual)):s.heap.CodeRec (.ref c) qual:=by
 obtain ⟨x,_,_⟩:zAx X.prog X.w H s.heap c (zFm c qual):=I.hok c _ e;exact x
theorem codeO_ok {P:Program} {w:World} {c:Addr} {h:Heap} (x:h.CodeRec (.ref c) qual):zAx P w H h c (zFm c qual):=by
 refine ⟨x,?_,fun h1 h2 y k=>?_⟩
 ·obtain ⟨d,o,vs,t,e,g,_⟩:=x
  cases e
  exact ⟨o,g⟩
 ·obtain ⟨d,o,vs,t,e,g,r⟩:=y
  cases e
  exact ⟨c,o,vs,t,rfl,k o g,r⟩
theorem among1 (pos:Pos) (c:Addr):codeAmong pos [rawInt pos.line,rawInt pos.col,.ref c]=some (.ref c):=by
 unfold rawInt codeAmong;simp
theorem lam_make {E:Value->Shared->Prop} {params:Arguments} {body:Expr} {scope:Scope} {clos:List (Str×Addr)} {c0 P:Addr} {pos:Pos} {Q:Value->Shared->Prop} (I:Inv X pins σ H s) (hcl:closureFor scope X.env=pure clos) (hcode:X.env.code= .ref c0) (C:PySem.W.CodeHd X.base c0 P) (B:zHp X.mg X.base) (T:Tab0 H P qual pos)
  (h:∀f c' ctv pm H2 s2,Inv X pins σ H2 s2->Kp [P] H H2->Tab1 H2 P qual pos->H2 c'=some (zFm c' qual)->s2.heap.get? f=some (PySem.W.kla_obj "<lambda>" qual params body scope clos pm c' ctv)->FpOk X pins H2 f->Q (.ref f) s2) :
  wpAny (model X.prog X.w) X.A (makeFunction "<lambda>" qual params (.expr body) scope X.env [] [] [] pos pos.line) Q E s:=by
 obtain ⟨bm,ob,b1,b2,b3,b4,b5,b6⟩:=B
 have tbl:∃ps,H P=some (.tbl ps):=by
  rcases T with e| ⟨c',e,_⟩
  ·exact ⟨_,e⟩
  ·exact ⟨_,e⟩
 obtain ⟨ps0,eP⟩:=tbl;have pP:s.heap.get? P=some (PySem.W.tabObj ps0):=I.hok P _ eP;have hgs:s.heap.Ns mainGlobals X.mg:=I.mod.glob.keeps I.bk
 have hgP:mainGlobals≠P:=fun q=>by
  obtain ⟨o,es,ep,e,hd,_⟩:=hgs;rw [q,pP] at e;cases e;cases hd
 have hbP:bm≠P:=fun q=>by
  have e:=I.bk _ _ b3;rw [q,pP] at e;cases e;cases b4
 have hbG:bm≠mainGlobals:=fun q=>by
  obtain ⟨o,es,ep,e,hd,_⟩:=I.mod.glob;rw [q,e] at b3;cases b3;rw [hd] at b6;cases b6
 have hB:s.heap.BuiltinsAt X.mg P:=⟨bm,ob,b1,b2,hbG,hbP,I.bk _ _ b3,b4,b5,b6⟩;rcases T with e| ⟨c',e,ec⟩
 ·rw [e] at eP
  cases eP
  refine PySem.W.kla_makeFunction (mg:=X.mg) hcl I.ok.glob hgs hcode (C.keeps I.bk) pP trivial rfl hgP hB fun c' ctv h' tk hx hge hlt hrec htb=>?_;have htb:h'.get? P=some (PySem.W.tabObj #[rawInt pos.line,rawInt pos.col,.ref c']):=by simpa using htb
  have fc:H c'=none:=I.hok.fresh hge;have nPc:c'≠P:=fun z=>by rw [z,e] at fc;cases fc
  have hk:∀b o,b≠P->s.heap.get? b=some o->(h'.push (PySem.W.kla_obj "<lambda>" qual params body scope clos ((X.mg "__name__").getD .none) c' ctv)).get? b=some o:=fun b o n q=>qAI _ (hx b o n q);have nP:∀b,H b=none->b≠P:=fun b n z=>by rw [z,e] at n;cases n
  have old:∀b,b≠P->b≠c'->upd (upd H P (.tbl #[rawInt pos.line,rawInt pos.col,.ref c'])) c' (zFm c' qual) b=H b:=fun b n1 n2=>by rw [upd_ne n2,upd_ne n1]
  have eP2:upd (upd H P (.tbl #[rawInt pos.line,rawInt pos.col,.ref c'])) c' (zFm c' qual) P=some (.tbl #[rawInt pos.line,rawInt pos.col,.ref c']):=by rw [upd_ne nPc.symm,upd_same]
  have ec2:upd (upd H P (.tbl #[rawInt pos.line,rawInt pos.col,.ref c'])) c' (zFm c' qual) c'=some (zFm c' qual):=upd_same
  have un:Un (frs X.stack) [] H (upd (upd H P (.tbl #[rawInt pos.line,rawInt pos.col,.ref c'])) c' (zFm c' qual)) s.heap (h'.push (PySem.W.kla_obj "<lambda>" qual params body scope clos ((X.mg "__name__").getD .none) c' ctv)):=by
   refine ⟨fun b o q n _ _=>hk b o (nP b n) q,fun b o q n _ _=>⟨o.slots,hk b o (nP b n) q⟩,fun b o q n _=>?_,fun b o q _=>?_,fun b xs q=>?_,fun b o u q=>?_,fun b ps q=>?_⟩
   ·rw [old b (nP b n) (qAN (qAn (qAK q) hge))];exact n
   ·by_cases z:b=P
    ·rw [z];exact ⟨_,qAI _ htb⟩
    ·exact ⟨o,hk b o z q⟩
   ·rw [old b (fun z=>by rw [z,e] at q;cases q) (fun z=>by rw [z,fc] at q;cases q)];exact q
   ·rw [old b (fun z=>by rw [z,e] at q;cases q) (fun z=>by rw [z,fc] at q;cases q)];exact q
   ·by_cases z:b=P
    ·rw [z,e] at q
     cases q
     exact ⟨#[rawInt pos.line,rawInt pos.col,.ref c'],by rw [z,eP2];simp⟩
    ·exact ⟨#[],by rw [old b z (fun z=>by rw [z,fc] at q;cases q),q];simp⟩
  have hok:HOk X.prog X.w (upd (upd H P (.tbl #[rawInt pos.line,rawInt pos.col,.ref c'])) c' (zFm c' qual)) (h'.push (PySem.W.kla_obj "<lambda>" qual params body scope clos ((X.mg "__name__").getD .none) c' ctv)):=fun b o q=>by
   by_cases z1:b=c'
   ·subst z1;rw [ec2] at q;cases q;obtain ⟨d,oc,vs,t,e3,g,r⟩:=hrec;exact codeO_ok ⟨d,oc,vs,t,e3,qAI _ g,r⟩
   ·by_cases z2:b=P
    ·subst z2;rw [eP2] at q;cases q;exact qAI _ htb
    ·rw [old b z2 z1] at q;refine (I.hok b o q).stay (fun c v hc y=>hk c v (fun z=>?_) y) (fun c y=>?_) fun c xs y=>?_
     ·rcases hc with hc| hc
      ·exact z2 (hc.symm.trans z)
      ·rw [z,e] at hc;cases hc
     ·rw [old c (fun z=>by rw [z,e] at y;cases y) (fun z=>by rw [z,fc] at y;cases y)];exact y
     ·rw [old c (fun z=>by rw [z,e] at y;cases y) (fun z=>by rw [z,fc] at y;cases y)];exact y
  have J:Inv X pins σ (upd (upd H P (.tbl #[rawInt pos.line,rawInt pos.col,.ref c'])) c' (zFm c' qual)) {s with heap:=h'.push (PySem.W.kla_obj "<lambda>" qual params body scope clos ((X.mg "__name__").getD .none) c' ctv),toks:=tk}:=I.call' rfl un hok I.bare fun b z=>nomatch z
  have kp:Kp [P] H (upd (upd H P (.tbl #[rawInt pos.line,rawInt pos.col,.ref c'])) c' (zFm c' qual)):=fun b o q n=>by
   rw [old b (fun z=>n (by simp [z])) (fun z=>by rw [z,fc] at q;cases q)];exact q
  have fs:s.heap.objs.size<=h'.objs.size:=qAW hge (qBx hlt)
  have ff:upd (upd H P (.tbl #[rawInt pos.line,rawInt pos.col,.ref c'])) c' (zFm c' qual) h'.objs.size=none:=by
   have n1:h'.objs.size≠P:=fun z=>by
    have:=qAK htb;rw [<-z] at this;exact qBI _ this
   rw [old _ n1 (qAu hlt)];exact I.hok.fresh fs
  exact h h'.objs.size c' ctv _ _ _ J kp ⟨c',eP2,ec2⟩ ec2 (qAc _ rfl) (I.fpOk fs ff)
 ·rw [e] at eP
  cases eP
  refine PySem.W.kla_makeFunctionHit (mg:=X.mg) hcl I.ok.glob hgs hcode (C.keeps I.bk) pP trivial (among1 pos c') hB fun ctv h' tk hk hsz=>?_;have J:Inv X pins σ H {s with heap:=h'.push (PySem.W.kla_obj "<lambda>" qual params body scope clos ((X.mg "__name__").getD .none) c' ctv),toks:=tk}:=I.kept fun b o q=>qAI _ (hk b o q);exact h h'.objs.size c' ctv _ _ _ J Kp.refl ⟨c',e,ec⟩ ec (qAc _ rfl) (I.fpOk hsz (I.hok.fresh hsz))
end
section
variable {X:Cx} {pins:List (Addr×Obj)} {σ:St} {H:Hp} {s:Shared}
theorem Inv.adopt {a:Addr} {o':HO} (I:Inv X pins σ H s) (f:FpOk X pins H a) (new:zAx X.prog X.w (upd H a o') s.heap a o'):Inv X pins σ (upd H a o') s:=by
 obtain ⟨f0,f1,f2,f3,f4,f5⟩:=f;have ne:∀b u,H b=some u->b≠a:=fun b u q z=>by rw [z,f0] at q;cases q
 refine ⟨I.ok,I.os,I.bare,⟨I.base.keep,I.base.slot,fun b o q n x=>?_,I.base.there,fun b xs q=>?_,fun b o v q=>?_,fun b ps q=>?_⟩,I.loc,I.cell,?_,fun x c h=>?_,fun p hp=>?_,fun b o q=>?_,I.len⟩
 ·have:=I.base.free b o q n x
  have nb:b≠a:=fun z=>by
   rcases f3 with y| y
   ·exact x (by rw [z];exact y)
   ·exact absurd (qAn (qAK q) (by rw [z];exact y)) (qBI _)
  rw [upd_ne nb];exact this
 ·have:=I.base.tups b xs q;rw [upd_ne (ne b _ this)];exact this
 ·have:=I.base.frzs b o v q;rw [upd_ne (ne b _ this)];exact this
 ·obtain ⟨more,this⟩:=I.base.tbls b ps q;exact ⟨more,by rw [upd_ne (ne b _ this)];exact this⟩
 ·rw [upd_ne f1.symm];exact I.free
 ·rw [upd_ne (f4 x c h)];exact I.freeC x c h
 ·obtain ⟨h1,h2,h3⟩:=I.pin p hp;exact ⟨h1,by rw [upd_ne (f5 p hp)];exact h2,h3⟩
 ·by_cases z:b=a
  ·subst z;rw [upd_same] at q;cases q;exact new
  ·rw [upd_ne z] at q;refine (I.hok b o q).stay (fun c v _ y=>y) (fun c y=>?_) fun c xs y=>?_
   ·rw [upd_ne (ne c _ y)];exact y
   ·rw [upd_ne (ne c _ y)];exact y
theorem FpOk.nstk {b:Addr} (I:Inv X pins σ H s) (f:FpOk X pins H b):b∉frs X.stack:=fun z=>by
 obtain ⟨f0,f1,f2,_⟩:=f;rcases qAO.mp (I.stkSub b z) with y| y
 ·exact f1 y
 ·exact f2 y
theorem Inv.cellAt {iy:Nat} {y:Str} {c:Addr} {vy:V} (I:Inv X pins σ H s) (hN:X.N[iy]?=some y) (hσ:σ[iy]?=some (some vy)) (hk:X.env.kindOf y=some .cell) (hy:X.env.cells.lookup y=some c):∃u,RelV vy u/\s.heap.IsCell c (some u):=by
 obtain ⟨m,_,l⟩:=I.loc;obtain ⟨u,r,lk⟩:=l iy y vy hN hσ (.inr (.inl hk));rcases lk with ⟨z,_⟩| ⟨_,d,e,ic⟩
 ·rw [hk] at z;cases z
 ·rw [hy] at e;cases e;exact ⟨u,r,ic⟩
theorem zip_strs {g:Str->Int}:∀{vs:List Value} {ks:List Str},StrsAre vs ks->∀p∈(ks.map g).zip vs,∃x t,x∈ks/\p=(g x,.str x t)
 | _,_,.nil,p,hp=>by simp at hp
 | _,_,.cons x t h,p,hp=>by
  rw [qAo,List.zip_cons_cons] at hp;rcases qAO.mp hp with z| z
  ·exact ⟨x,t,qAS,z⟩
  ·obtain ⟨x',t',h1,h2⟩:=zip_strs h p z;exact ⟨x',t',qAT _ h1,h2⟩
end
theorem law_callT {P:Program} {w:World} {K:PySem.W.Frag} {mg mb:Str->Option Value} {CX:CXT} {k:Nat} {fa a:Addr} {fd:FuncData} {x:Str} {sp:Sp} {s₁:Shared} {vs:List Value} {ns:List Int} {tabs:List (Addr×Addr)}
  (KX:K.In s₁.heap) (hns:s₁.heap.Ns mainGlobals mg) (hb:s₁.heap.Ns builtinsNs mb) (hbb:∀x:Str,x≠ "__name__" ->mb x=bootBuiltins x) (hlim:s₁.heap.NoLimit) (hg:s₁.gens=#[]) (hB:zHp mg s₁.heap) (hT:PySem.W.TabsAt tabs s₁.heap) (hKT:∀q∈tabs,K.lookup q.2=none)
  (ha:s₁.heap.get? a=some {cls:=.type "list",data:=.seq vs.toArray}) (hi:IntsAre vs ns) (hl:ns.length<=sizeLine) (hr:Room k callerA)
  (F:∀base:Heap,K.In base->base.Ns mainGlobals mg->zHp mg base->(∀q∈tabs,PySem.W.CodeHd base q.1 q.2)->FnOk P w K mg base CX k fa fd [x] sp) (hbind:∀(s:Shared) (u:Value),BindsTo s fd ⟨[u],[]⟩ [(x,u)])
  (hsp:∀H:Hp,SqL K H a (ns.map V.int)->(∀q∈tabs,H q.2=some (.tbl #[]))->sp [.ref a] H (fun v _=>v= .bl true) fun _ _ _=>False)
  (hCX:∀H e s',CX [] H s₁ (fun _ _ _=>False) e s'->False) :
  codeAny (model P w) callerA (.call (.ref fa) ⟨[.ref a],[]⟩) (fun r s'=>r= .ok (.ret (.bool true))/\OldK s₁.heap s'.heap/\s'.os=s₁.os/\AllBare s'.gens) s₁:=by
 have rv:=zGs hi;have lenV:=hi.length
 have naT:∀q∈tabs,q.2≠a:=fun q hq z=>by
  have:=(hT q hq).2;rw [z,ha] at this;cases this
 have core:∀H:Hp,(∀b,H b=none\/(∃o xs,H b=some (.frz o (.lst xs)))\/(H b=some (.tbl #[])/\∃q∈tabs,q.2=b))->SqL K H a (ns.map V.int)->(∀q∈tabs,H q.2=some (.tbl #[]))->HOk P w H s₁.heap->(∀b,H b≠none->b=a\/∃q∈tabs,q.2=b)->(H a≠none->K.lookup a=none) ->
   codeAny (model P w) callerA (.call (.ref fa) ⟨[.ref a],[]⟩) (fun r s'=>r= .ok (.ret (.bool true))/\OldK s₁.heap s'.heap/\s'.os=s₁.os/\AllBare s'.gens) s₁:=by
  intro H hO hS hH hok hA hK;have base_of:∀{b:Addr} {o:Obj},s₁.heap.get? b=some o->H b=none->(hidT s₁.heap H).get? b=some o:=fun e n=>hidT_get e n
  have non:∀{b:Addr} {o:Obj},s₁.heap.get? b=some o->(∀xs n,o.data≠.seq xs n)->(∀ps,o.data≠.fields ps\/o.cls≠.none)->H b=none:=fun {b o} e n1 n2=>by
   cases q:H b with
   | none=>rfl
   | some u =>
    rcases hA b (by rw [q];simp) with z| ⟨r,hr,z⟩
    ·subst z;rw [ha] at e;cases e;exact absurd rfl (n1 _ _)
    ·subst z;rw [(hT r hr).2] at e;cases e;rcases n2 #[] with z| z<;>exact absurd rfl z
  have noA:∀{b:Addr} {o:Obj} {es:Array DictEntry} {ep:Nat},s₁.heap.get? b=some o->o.data= .dict es ep->H b=none:=fun {b o es ep} e d=>non e (fun xs n z=>by rw [d] at z;cases z) fun ps=>.inl fun z=>by rw [d] at z;cases z
  have nsK:∀{b:Addr} {m:Str->Option Value},s₁.heap.Ns b m->(hidT s₁.heap H).Ns b m:=fun {b m} ⟨o,es,ep,e,d,r⟩=>⟨o,es,ep,base_of e (noA e d),d,r⟩
  have hKb:K.In (hidT s₁.heap H):=fun b o e=>base_of (KX b o e) (by
   cases q:H b with
   | none=>rfl
   | some u =>
    rcases hA b (by rw [q];simp) with z| ⟨r,hr,z⟩
    ·subst z;rw [hK (by rw [q];simp)] at e;cases e
    ·subst z;rw [hKT r hr] at e;cases e)
  have hBb:zHp mg (hidT s₁.heap H):=by
   obtain ⟨bm,o,b1,b2,b3,b4,b5,b6⟩:=hB;exact ⟨bm,o,b1,b2,base_of b3 (non b3 (fun xs n z=>by rw [b6] at z;cases z) fun ps=>.inl fun z=>by rw [b6] at z;cases z),b4,b5,b6⟩
  have hCb:∀q∈tabs,PySem.W.CodeHd (hidT s₁.heap H) q.1 q.2:=fun q hq=>by
   obtain ⟨o,vs',file,tf,flags,tg,inF,text,tt,c1,c2,c3,c4⟩:=(hT q hq).1;exact ⟨o,vs',file,tf,flags,tg,inF,text,tt,base_of c1 (non c1 (fun xs n z=>by rw [c3] at z;cases z) fun ps=>.inr fun z=>by rw [c2] at z;cases z),c2,c3,c4⟩
  have hM:Mod K mg (hidT s₁.heap H):=⟨hKb,nsK hns,⟨mb,nsK hb,hbb⟩,let ⟨mc,h1,h2⟩:=hlim;⟨mc,nsK h1,h2⟩⟩;have e0:Env0 P w K mg (hidT s₁.heap H) callerA [] s₁ H:=⟨rfl,hM,fun b o e=>of_hidT e,qBl (hidT_size _ _),trivial,fun b hb=>absurd (show b∈([]:List Addr) from hb) (by simp),hok,.of_eq hg⟩;refine qCL ((F _ hKb (nsK hns) hBb hCb).run callerA [] s₁ H ⟨[.ref a],[]⟩ [.ref a] [.ref a] _ _ hr e0 (hbind s₁ (.ref a)) (.cons rfl .nil) (hsp H hS hH)) fun r s' h=>?_
  cases r with
  | error e=>exact (hCX H e s' h).elim
  | ok fl =>
   cases fl with
   | next=>exact False.elim h
   | brk=>exact False.elim h
   | cont=>exact False.elim h
   | ret u =>
    obtain ⟨v,H',os,bare,un,hok',r',q⟩:=h;have q':v= .bl true:=q;subst q';obtain rfl:u=Value.bool true:=r'
    have kept:∀b o,s₁.heap.get? b=some o->(∀r∈tabs,r.2≠b)->s'.heap.get? b=some o:=fun b o e nt=>by
     cases q:H b with
     | none=>exact un.keep b o e q (by intro z;exact absurd (show b∈([]:List Addr) from z) (by simp)) (by simp)
     | some u =>
      rcases hO b with z| ⟨ob,xs,z⟩| ⟨z,r,hr,y⟩
      ·rw [q] at z;cases z
      ·have z2:=un.frzs b ob _ z;obtain ⟨e1,_⟩:=hok b _ z;obtain ⟨e2,_⟩:=hok' b _ z2;rw [e] at e1;cases e1;exact e2
      ·exact absurd y (nt r hr)
    refine ⟨rfl,⟨fun b o e=>?_,fun b o e=>?_⟩,os,bare⟩
    ·by_cases t:∃r∈tabs,r.2=b
     ·obtain ⟨r,hr,rfl⟩:=t;obtain ⟨c1,c2⟩:=hT r hr;rw [c2] at e;cases e;obtain ⟨more,z⟩:=un.tbls _ _ (hH r hr);have z2:s'.heap.get? r.2=some {cls:=.none,data:=.fields (#[]++more)}:=hok' _ _ z;exact .inr (.inl ⟨(c1.tab c2).isCodeTable,rfl,#[],more,rfl,z2⟩)
     ·exact .inl (kept b o e fun r hr z=>t ⟨r,hr,z⟩)
    ·by_cases t:∃r∈tabs,r.2=b
     ·obtain ⟨r,hr,rfl⟩:=t;obtain ⟨more,z⟩:=un.tbls _ _ (hH r hr);exact ⟨_,hok' _ _ z⟩
     ·exact ⟨o,kept b o e fun r hr z=>t ⟨r,hr,z⟩⟩
 have hTb:∀b:Addr,(∃q∈tabs,q.2=b)->s₁.heap.get? b=some (PySem.W.tabObj #[]):=fun b ⟨q,hq,e⟩=>by rw [<-e];exact (hT q hq).2
 open Classical in
 cases hk:K.lookup a with
 | some o =>
  have e:=KX a o hk;rw [ha] at e
  cases e
  refine core (fun b=>if (∃q∈tabs,q.2=b) then some (.tbl #[]) else none) (fun b=>?_) (.inr ⟨_,vs.toArray,_,hk,rfl,rfl,rfl,by rw [qAJ,lenV];exact hl,by simpa using rv⟩) (fun q hq=>qAC ⟨q,hq,rfl⟩) (fun b u z=>?_) (fun b z=>?_) fun z=>?_
  ·by_cases t:∃q∈tabs,q.2=b
   ·exact .inr (.inr ⟨qAC t,t⟩)
   ·exact .inl (qAB t)
  ·by_cases t:∃q∈tabs,q.2=b
   ·have z':=(qAC t).symm.trans z
    cases z'
    exact hTb b t
   ·have z':=(qAB t).symm.trans z
    cases z'
  ·by_cases t:∃q∈tabs,q.2=b
   ·exact .inr t
   ·exact absurd (qAB t) z
  ·by_cases t:∃q∈tabs,q.2=a
   ·obtain ⟨q,hq,e⟩:=t;exact absurd e (naT q hq)
   ·exact absurd (qAB t) z
 | none =>
  have nta:¬∃q∈tabs,q.2=a:=fun ⟨q,hq,e⟩=>naT q hq e;refine core (fun b=>if b=a then some (.frz {cls:=.type "list",data:=.seq vs.toArray} (.lst (ns.map V.int))) else if (∃q∈tabs,q.2=b) then some (.tbl #[]) else none) (fun b=>?_) (.inl (.inr ⟨{cls:=.type "list",data:=.seq vs.toArray},qAC rfl⟩)) (fun q hq=>(qAB (naT q hq)).trans (qAC ⟨q,hq,rfl⟩)) (fun b u z=>?_) (fun b z=>?_) fun _=>hk
  ·by_cases hb:b=a
   ·exact .inr (.inl ⟨_,_,qAC hb⟩)
   ·by_cases t:∃q∈tabs,q.2=b
    ·exact .inr (.inr ⟨(qAB hb).trans (qAC t),t⟩)
    ·exact .inl ((qAB hb).trans (qAB t))
  ·by_cases hb:b=a
   ·have z':=(qAC hb).symm.trans z
    cases z'
    subst hb;exact ⟨ha,by rw [qAD];exact hl,vs,_,rv,ha⟩
   ·by_cases t:∃q∈tabs,q.2=b
    ·have z':=((qAB hb).trans (qAC t)).symm.trans z
     cases z'
     exact hTb b t
    ·have z':=((qAB hb).trans (qAB t)).symm.trans z
     cases z'
  ·by_cases hb:b=a
   ·exact .inl hb
   ·by_cases t:∃q∈tabs,q.2=b
    ·exact .inr t
    ·exact absurd ((qAB hb).trans (qAB t)) z
theorem walk_ofT {l:PySem.W.OpenLaw} {n k:Nat} {q:Program} {loose:List Str} {XP:(Str->Option Value)->Heap->Prop} {YP:World->Heap->Prop} {d:DefRec} {K:Params->PySem.W.Frag} {CX:World->CXT} {sp:World->Sp} {x:Str} {tabs:List (Addr×Addr)}
  (hn:l.most=some n) (hn2:n<=sizeLine) (hdf:d.params.defaults=[]) (hr:Room k callerA)
  (hY:∀(w:World) (h:Heap),YP w h->(K w.params).In h) (hT:∀(w:World) (h:Heap),YP w h->PySem.W.TabsAt tabs h) (hKT:∀(w:World),∀q∈tabs,(K w.params).lookup q.2=none)
  (F:∀(w:World) (mg:Str->Option Value) (fa:Addr) (h:Heap),(K w.params).In h->h.Ns mainGlobals mg->mg d.name=some (.ref fa) ->
   ∃fd:FuncData,(∀(s:Shared) (u:Value),BindsTo s fd ⟨[u],[]⟩ [(x,u)]) /\
    ∀base:Heap,(K w.params).In base->base.Ns mainGlobals mg->zHp mg base->(∀q∈tabs,PySem.W.CodeHd base q.1 q.2)->FnOk l.prog w (K w.params) mg base (CX w) k fa fd [x] (sp w))
  (hsp:∀(w:World) (H:Hp) (a:Addr) (ns:List Int),ns.length<=n->SqL (K w.params) H a (ns.map V.int)->(∀q∈tabs,H q.2=some (.tbl #[]))->sp w [.ref a] H (fun v _=>v= .bl true) fun _ _ _=>False)
  (hCX:∀(w:World) (H:Hp) (s:Shared) (e:Value) (s':Shared),CX w [] H s (fun _ _ _=>False) e s'->False) :
  PySem.W.WalkO q loose XP YP l.row.toRowW d [] (fun f vs=>PySem.call f vs):=by
 refine Att.attach_call hn hdf fun w s₀ s₁ mg mb fa o pm cd doc a vs ns G Y ho hd hcd hmg hobj hints hlen hg=>?_;have KX:=hY w _ Y;obtain ⟨fd,hb,hF⟩:=F w mg fa _ KX G.T.g hmg;exact law_callT KX G.T.g G.T.b G.T.builtins G.T.nolimit hg G.T.bmain (hT w _ Y) (hKT w) hobj hints (qAW hlen hn2) hr hF hb (fun H hS hH=>hsp w H a ns hlen hS hH) fun H e s'=>hCX w H s₁ e s'
end L2
namespace RV
open PySem
end RV
namespace L2
open PySem PySem.Spec PyProof.Rows
end L2
local macro_rules| `(tactic| walk_at "lc")=>`(tactic| first| exact Or.inl rfl| exact Or.inr rfl)
local macro_rules| `(tactic| walk_at "nm")=>`(tactic| first| assumption| exact qBh| (refine L2.nm1 ?_;walk_at "ne")| (refine L2.nm2 ?_ ?_<;>walk_at "ne")| (refine L2.nm3 ?_ ?_ ?_<;>walk_at "ne"))
local macro_rules| `(tactic| walk_at "lk")=>`(tactic| first| assumption| exact L2.upd_same| (refine (L2.upd_ne ?_).trans ?_;walk_at "ne";walk_at "lk")| (refine L2.Kp.look (by assumption) ?_ ?_;walk_at "lk";walk_at "nm"))
local macro_rules| `(tactic| walk_at "ne")=>`(tactic| first| assumption| (refine qAr ?_;assumption)| (refine L2.ne_fre (by assumption) ?_;walk_at "lk")| (refine qAr (L2.ne_fre (by assumption) ?_);walk_at "lk"))
local macro_rules| `(tactic| walk_at "bd")=>`(tactic| first| decide| lia| (dsimp only;first| decide| lia))
local macro_rules| `(tactic| walk_at "ml")=>`(tactic| first| exact Or.inr ⟨by decide,by decide⟩| exact Or.inl ⟨by lia,by lia⟩| exact Or.inr ⟨by lia,by lia⟩)
local macro_rules| `(tactic| walk_at "ln")=>`(tactic| first| decide| (have hsz:=PySem.sizeLine_eq;simp only [qAe,qBc,qAD,qAf] at *;lia))
local macro_rules| `(tactic| walk_at "ix")=>`(tactic| first| rfl| assumption| (refine L2.atI_natc ?_;assumption))
local macro_rules| `(tactic| walk_at "vs")=>`(tactic| first| exact Or.inl rfl| exact Or.inr (Or.inl rfl)| exact Or.inr (Or.inr rfl))
local macro_rules| `(tactic| walk_at "vk")=>`(tactic| first| exact Or.inl rfl| exact Or.inr rfl)
local macro_rules| `(tactic| walk_at "vf")=>`(tactic| first| decide +kernel| (simp only [qAO];decide))
namespace My
open PySem L2
variable {P:Program}{w:World}{K:PySem.W.Frag}{mg:Str->Option Value}{base:Heap}{C:Addr}
variable {H H':Hp}{f:Addr}{fd:FuncData}{ns:List Str}{α:Type}{i:Nat}{y:Str}
section
variable {X:Cx} {scope sc:Scope} {C:Addr} {s₀:Shared} {H₀:Hp} {ex:List Addr} {N P:List Str} {i:Nat} {x:Str} {e:Expr} {te:TE} {pos pos':Pos} {ix:List (Option Nat)}
theorem psS (hN:X.N.Nodup) (he:PE X e te) (hi:X.N[i]?=some x:=by rfl) (hx:Loc X.env.scope x:=by walk_at "lc") (hs:swapsWith e (some (.Name x pos')) pos.line X.env=pure false:=by rfl) (hf:X.fn x=true\/X.env.scope.names.lookup x=some .local:=by first| exact .inl rfl| exact .inr rfl| assumption):PS X (.Assign [.Name x pos'] e pos) (tAsg te (gName i)):=ps_set hN hi hx he hs hf
theorem pgN (hN:X.N.Nodup) (hi:X.N[i]?=some x:=by rfl) (hx:Loc X.env.scope x:=by walk_at "lc") (hf:X.fn x=true\/X.env.scope.names.lookup x=some .local:=by first| exact .inl rfl| exact .inr rfl| assumption):PG X (.Name x pos) (gName i):=pg_name hN hi hx hf
theorem pgB (hi:(X.block scope C s₀ H₀ ex N).N[i]?=some x:=by rfl) (hN:N.Nodup:=by decide +kernel) (hx:Loc (X.block scope C s₀ H₀ ex N).env.scope x:=by walk_at "lc") (hf:(X.block scope C s₀ H₀ ex N).fn x=true\/(X.block scope C s₀ H₀ ex N).env.scope.names.lookup x=some .local:=by first| exact .inl rfl| exact .inr rfl| assumption):PG (X.block scope C s₀ H₀ ex N) (.Name x pos) (gName i):=pg_name hN hi hx hf
theorem dtk (hN:X.N[i]?=some x) (D:Draws X scope N ix) (hv:Vis X.env.scope x:=by walk_at "vs") (hk:(relabel scope X.env).names.lookup x=some .cell\/(relabel scope X.env).names.lookup x=some .free:=by walk_at "vk") (hf:(x,NameKind.free)∈scope.names:=by walk_at "vf"):Draws X scope (x::N) (some i::ix):=.tk hN hv hk hf D
theorem fnS (a:sc.kind= .function:=by rfl) (b:sc.isCoroutine=false:=by rfl) (c:sc.isGenerator=false:=by rfl) (d:N.Nodup:=by decide +kernel) (e:N.take P.length=P:=by rfl) (f:∀x∈P,sc.names.lookup x=some .local\/sc.names.lookup x=some .cell:=by decide +kernel) (g:∀y∈sc.names,y.2≠.free:=by decide +kernel):FnScope N P sc:=⟨a,b,c,d,e,f,g⟩
end
def top (i:Nat):Stmt:=PySem.Challenge.pw_levelbench_k41_whole_blocks_fill_the_pla.main.body.getD i (.Pass ⟨0,0,0,0⟩)
structure Txt (K:PySem.W.Frag) (mg:Str->Option Value):Prop where
 z_len:mg "len" = none
 z_max:mg "max" = none
 z_range:mg "range" = none
 z_int:mg "int" = none
 z_str:mg "str" = none
 z_list:mg "list" = none
 z_all:mg "all" = none
 z_min:mg "min" = none
 z_dict:mg "dict" = none
 z_bool:mg "bool" = none
 z_abs:mg "abs" = none
 z_reversed:mg "reversed" = none
 z_enumerate:mg "enumerate" = none
 z_any:mg "any" = none
 z_zip:mg "zip" = none
 z_sum:mg "sum" = none
 z_isinstance:mg "isinstance" = none
 z_sorted:mg "sorted" = none
 z_set:mg "set" = none
 z_tuple:mg "tuple" = none
 c_MOST_JOBS:∃t,mg "MOST_JOBS" = some (.int 20 t)
 c_LONGEST_NAME:∃t,mg "LONGEST_NAME" = some (.int 8 t)
section
def zBx (H:Hp) (p:Addr):Prop:=∃a b:Int,H p=some (.lst [.int a,.int b])/\0<=a/\0<=b/\b<2147483629
theorem zBx.kp {M:List Addr} {p:Addr} (h:zBx H p) (k:Kp M H H') (n:p∉M):zBx H' p:=by
 obtain ⟨a,b,e,r⟩:=h;exact ⟨a,b,k p _ e n,r⟩
def spTake:Sp:=fun vs H Q _=>∃(p:Addr) (m:Int),vs=[.ref p,.int m]/\zBx H p/\1<=m/\m<10^100/\∀(d:Int) (H':Hp),0<=d->d<m->zBx H' p->Kp [p] H H'->Q (.int d) H'
abbrev s_take:Stmt:=top 45
theorem sc_take:FnScope ["_law_purse_here", "_law_many", "_law_digit"] ["_law_purse_here", "_law_many"] (zAd s_take):=fnS
theorem ok_take (F:Fun K "_law_take" "_law_take" s_take f fd):FnOk P w K mg base CX0 1 f fd ["_law_purse_here", "_law_many"] spTake:=by
 refine F.ok sc_take (fun vs H Q E h=>?_) (fun cdv A outer s H vs Q E hr h=>?_)
 ·obtain ⟨p,m,rfl,_⟩:=h;rfl
 ·obtain ⟨p,m,rfl,⟨a,b,hp,ha,hb,hb'⟩,hm,hm',k⟩:=h
  refine ⟨_,(zAc (zCc (zAs op_gt (zBv zA5 (pv 0) zAf (fun _ _=>rfl)) zAf (zAz _))
    (zAc (psS (i:=2) sc_take.nd (zAn zF7 (zBv zA5 (pv 0) zAf (fun _ _=>rfl)) (pv 1)))
    (zAc (ps_asg (zAn op_fdivB (zBv zA5 (pv 0) zAf (fun _ _=>rfl)) (pv 1)) (pg_sub (pv 0) zAf set_list))
    (zAe (zAo (pv 2)))))
    zAq)
   (zAc (ps_asg (zAn zF7 (zAn zBh (zAn zFj (zBv zA5 (pv 0) zAf (fun _ _=>rfl)) zAf) zAf) zAf) (pg_sub (pv 0) zAf set_list))
   (zAe (zAo (zAn zF7 (zAn op_fdiv (zAn zF7 (zAn zFj (zBv zA5 (pv 0) zAf (fun _ _=>rfl)) (zBv zA5 (pv 0) zAf (fun _ _=>rfl))) zAf) zAf) (pv 1)))))),?_⟩
  refine ⟨_,rfl,_,_,_,_,rfl,rfl,SqL.of (by walk_at "lk"),(by walk_at "ix"),_,_,rfl,rfl,_,rfl,?_⟩;refine ite2 (fun c=>?_) (fun c=>?_)
  ·have c':0<a:=by simpa using c
   refine ⟨_,rfl,_,_,_,_,rfl,rfl,SqL.of (by walk_at "lk"),(by walk_at "ix"),_,rfl,_,_,rfl,rfl,(by walk_at "bd"),?_⟩;refine ⟨_,rfl,_,_,_,_,rfl,rfl,SqL.of (by walk_at "lk"),(by walk_at "ix"),_,rfl,_,_,rfl,rfl,⟨by walk_at "bd",hm'⟩,_,rfl,_,_,_,_,rfl,rfl,(by walk_at "lk"),(by walk_at "ix"),?_⟩;refine ⟨_,rfl,?_⟩;refine k _ _ (qCU _ (by lia)) (qCV _ (by lia)) ⟨a / m,b,upd_same,Int.ediv_nonneg ha (by lia),hb,hb'⟩ (Kp.put Kp.refl (by simp))
  ·refine ⟨_,rfl,_,_,_,_,rfl,rfl,SqL.of (by walk_at "lk"),(by walk_at "ix"),_,_,rfl,rfl,(by walk_at "ml"),_,_,rfl,rfl,_,_,rfl,rfl,(by walk_at "bd"),_,rfl,_,_,_,_,rfl,rfl,(by walk_at "lk"),(by walk_at "ix"),?_⟩;have h1:=qCU (b*39373+7919) (show (2147483629:Int)≠0 by decide);have h2:=qCV (b*39373+7919) (show (0:Int)<2147483629 by decide);refine ⟨_,rfl,_,_,_,_,rfl,rfl,SqL.of (by walk_at "lk"),(by walk_at "ix"),_,rfl,_,_,_,_,rfl,rfl,SqL.of (by walk_at "lk"),(by walk_at "ix"),_,_,rfl,rfl,(by walk_at "ml"),_,_,rfl,rfl,(by walk_at "bd"),_,_,rfl,rfl,⟨by walk_at "bd",by walk_at "bd"⟩,_,rfl,_,_,rfl,rfl,(by walk_at "bd"),?_⟩;refine k _ _ (qCU _ (by lia)) (qCV _ (by lia)) ⟨a,_,upd_same,ha,h1,h2⟩ (Kp.put Kp.refl (by simp))
def spPurse:Sp:=fun vs H Q _=>∃(c k:Int),vs=[.int c,.int k]/\-(2^31)<k/\k<2^31/\∀(p:Addr) (H':Hp),Fre H p->zBx H' p->Kp [] H H'->Q (.ref p) H'
abbrev s_purse:Stmt:=top 44
theorem sc_purse:FnScope ["_law_cell_here", "_law_k", "_law_number"] ["_law_cell_here", "_law_k"] (zAd s_purse):=fnS
theorem ok_purse (F:Fun K "_law_purse" "_law_purse" s_purse f fd) (T:Txt K mg):FnOk P w K mg base CX0 1 f fd ["_law_cell_here", "_law_k"] spPurse:=by
 refine F.ok sc_purse (fun vs H Q E h=>?_) (fun cdv A outer s H vs Q E hr h=>?_)
 ·obtain ⟨p,m,rfl,_⟩:=h;rfl
 ·obtain ⟨c,n,rfl,hn,hn',k⟩:=h
  refine ⟨_,(zAc (psS (i:=2) sc_purse.nd (zAn zF7 (zAn zBh (zAn zBh (zAn zFj (zAn zF7 (pv 0) zAf) zAf) (zAn zFj (zAn zFj (pv 1) (pv 1)) zAf)) zAf) zAf))
   (zAe (zAo (zA7 (zAa (zAh (call_max2 rfl) (by rfl) T.z_max bo_max (zAa zAf (zAa (zAn zF6 (pv 0) (zAn op_pow zAf zAf)) zAb))) (zAa (zAn zF7 (zAn zFj (pv 2) (pv 2)) zAf) zAb)))))),?_⟩
  refine ⟨_,rfl,_,_,rfl,rfl,(by walk_at "bd"),_,_,rfl,rfl,(by walk_at "ml"),_,rfl,_,rfl,_,_,rfl,rfl,(by walk_at "ml"),_,_,rfl,rfl,(by walk_at "ml"),_,_,rfl,rfl,_,_,rfl,rfl,_,_,rfl,rfl,(by walk_at "bd"),?_⟩;generalize c % 2147483629*48271+n*n*69623+11=y;have h1:=qCU y (show (2147483647:Int)≠0 by decide);have h2:=qCV y (show (0:Int)<2147483647 by decide);refine ⟨_,rfl,_,_,rfl,rfl,⟨by decide,by decide,by decide⟩,_,_,rfl,rfl,_,_,rfl,_,rfl,_,rfl,_,_,rfl,rfl,(by walk_at "ml"),_,_,rfl,rfl,(by walk_at "bd"),(by walk_at "ln"),fun p hp=>?_⟩;refine k p _ hp ⟨_,_,upd_same,?_,qCU _ (by decide),qCV _ (by decide)⟩ (Kp.new Kp.refl hp);split<;>lia
def spCell (K:PySem.W.Frag):Sp:=fun vs H Q _=>∃(a:Addr) (ns:List Int) (k:Int),vs=[.ref a,.int k]/\SqL K H a (ns.map V.int)/\0<=k/\∀c:Int,Q (.int c) H
abbrev s_cell:Stmt:=top 43
theorem sc_cell:FnScope ["_law_script", "_law_k"] ["_law_script", "_law_k"] (zAd s_cell):=fnS
theorem ok_cell (F:Fun K "_law_cell" "_law_cell" s_cell f fd) (T:Txt K mg):FnOk P w K mg base CX0 1 f fd ["_law_script", "_law_k"] (spCell K):=by
 refine F.ok sc_cell (fun vs H Q E h=>?_) (fun cdv A outer s H vs Q E hr h=>?_)
 ·obtain ⟨p,m,n,rfl,_⟩:=h;rfl
 ·obtain ⟨a,ns,n,rfl,hS,hn,k⟩:=h;refine ⟨_,(zAe (zAo (pe_ifExp (zAs op_lt (pv 1) (zAh zAl (by rfl) T.z_len zCe (zAa (pv 0) zAb)) (zAz _)) (zBv zA5 (pv 0) (pv 1) (fun _ _=>rfl)) zAf))),?_⟩;refine ⟨_,rfl,_,rfl,_,_,rfl,.inl hS,_,_,rfl,rfl,_,rfl,?_⟩;refine ite2 (fun c=>?_) (fun c=>?_)
  ·have c':n<ns.length:=by simpa using c
   have hx:(ns.map V.int)[n.toNat]?=some (V.int (ns[n.toNat]'(by lia))):=by simp
   refine ⟨_,rfl,_,rfl,_,_,_,_,rfl,rfl,hS,zDz hn hx,k _⟩
  ·exact k _
end
def zHz (s:Str):Prop:=1<=s.length/\s.length<=8/\∀c∈s.cps.toList,97<=c/\c<=122
def WordS (n:Nat) (s:Str):Prop:=s.length=n/\∀c∈s.cps.toList,97<=c/\c<=122
theorem len_app (a b:Str):(a++b).length=a.length+b.length:=by
 show (a++b).cps.size=_;rw [Str.cps_append,Array.size_append];rfl
theorem WordS.more {n:Nat} {s:Str} (h:WordS n s) {c:Nat} (h1:97<=c) (h2:c<=122):WordS (n+1) (s++⟨#[c]⟩):=by
 refine ⟨by rw [len_app,h.1];rfl,fun x hx=>?_⟩;rw [Str.cps_append,qCj] at hx;rcases qAQ.mp hx with z| z
 ·exact h.2 x z
 ·have:x=c:=by simpa using z
  lia
def zEa:Str:= "abcdefghijklmnopqrstuvwxyz"
theorem zD9:zEa.cps.toList=(List.range 26).map (97+·):=by decide +kernel
theorem letters_at {d:Int} (h0:0<=d) (h1:d<26):atI zEa.cps.toList d=some (97+d.toNat):=by
 refine zDz h0 ?_;have:d.toNat<26:=by lia
 rw [zD9,qAZ,List.getElem?_range this];rfl
theorem zE0 (a c:Nat):(!(decide (([c]:List Nat)<[a])))=decide (a<=c):=by
 have:(([c]:List Nat)<[a])↔c<a:=by
  constructor
  ·intro h
   cases h with
   | rel h=>exact h
   | cons h=>cases h
  ·intro h;exact List.Lex.rel h
 by_cases h:c<a
 ·rw [qAR (this.mpr h),qAb (by lia)];rfl
 ·rw [qAb (fun z=>h (this.mp z)),qAR (by lia)];rfl
section
def zIz (s:Str):Bool:=decide (1<=s.length)&&decide (s.length<=8)&&s.cps.toList.all fun c=>decide (97<=c)&&decide (c<=122)
theorem nameB_iff (s:Str):zIz s=true↔zHz s:=by
 unfold zIz zHz;simp only [qB6,qCC,qA6];exact ⟨fun ⟨⟨a,b⟩,c⟩=>⟨a,b,c⟩,fun ⟨a,b,c⟩=>⟨⟨a,b⟩,c⟩⟩
def spIsName:Sp:=fun vs H Q _=>∃(x:Str),vs=[.str x]/\x.length<=1000000/\∀H',Kp [] H H'->Q (.bl (zIz x)) H'
abbrev zFb:Stmt:=top 14
theorem sc_is_name:FnScope ["thing"] ["thing"] (zAd zFb):=fnS
theorem ok_is_name (F:Fun K "is_name" "is_name" zFb f fd) (T:Txt K mg):FnOk P w K mg base CX0 1 f fd ["thing"] spIsName:=by
 refine F.ok sc_is_name (fun vs H Q E h=>?_) (fun cdv A outer s H vs Q E hr h=>?_)
 ·obtain ⟨x,rfl,_⟩:=h;rfl
 ·obtain ⟨x,rfl,hx,k⟩:=h;obtain ⟨tL,hL⟩:=T.c_LONGEST_NAME
  refine ⟨_,(zAc (zCc (PW.pt (zHr (zCw (zCg (zAh zCa (by rfl) T.z_isinstance zAp (zAa (pv 0) (zAa (zC3 (by rfl) T.z_str bo_str (v:=.ty "str") rfl) zAb))))) (zEs (zCw (pt_chain op_le op_le zAf (zAh call_len_str (by rfl) T.z_len zCe (zAa (pv 0) zAb)) (pe_glob rfl hL (v:=.int 8) ⟨_,rfl⟩))))))
    (zAe (zAo pe_bl))
    zAq)
   (zAe (zAo (zAh (zGq _ rfl) (by rfl) T.z_all bo_all (zAa (zBj rfl (zBn (sc:=zAd zFb) rfl (by decide +kernel)) (Draws.own (x:= "sign") Draws.nil) (pi_str (pv 0)) (fun _ _ _ _=>(pgB (i:=0))) (fun _ _ _ _=>zC1) (fun _ _ _ _=>(pe_chain op_le_str op_le_str pe_str (pv 0) pe_str))) zAb))))),?_⟩
  refine ⟨_,rfl,_,_,_,_,rfl,TyOf.str x,zCi,_,rfl,iteF ?_⟩;refine ⟨_,rfl,_,rfl,?_,_,_,rfl,rfl,_,rfl,?_⟩
  ·rw [qAM];lia
  refine ite2 (fun c=>?_) (fun c=>?_)
  ·have c1:1<=x.length:=by
    have:=qAi c;lia
   refine ⟨_,_,rfl,rfl,_,rfl,?_⟩;refine ite2 (fun c=>?_) (fun c=>?_)
   ·-- too long
    have c2:¬(x.length<=8):=fun z=>by
     have:decide ((x.length:Int)<=8)=true:=qAR (by lia);rw [this] at c;cases c
    have e:zIz x=false:=by
     unfold zIz;rw [qAb c2];simp
    rw [<-e];exact k H Kp.refl
   ·have c2:x.length<=8:=by
     by_cases z:(x.length:Int)<=8
     ·lia
     ·rw [qAb z] at c;exact absurd rfl c
    refine ⟨_,rfl,_,rfl,fun D hD=>comp_str0 (z:=x) (fun i ys τ H'=>(∃o0,τ=[o0])/\ys=((x.cps.toList.take i).map fun c=>V.bl (decide (97<=c)&&decide (c<=122)))/\H'=upd H D (.lst ys)) ⟨⟨_,rfl⟩,rfl,rfl⟩ ?_ ?_⟩
    ·rintro i c ys τ H' hc ⟨⟨o0,rfl⟩,rfl,rfl⟩;have ei:x.cps.toList.take (i+1)=x.cps.toList.take i++[c]:=by rw [qCo,hc];rfl
     have hi:i<x.cps.toList.length:=(qAV.mp hc).1;have hlen:x.cps.toList.length=x.length:=by simp [Str.length]
     have fin:∀b:Bool,b=(decide (97<=c)&&decide (c<=122))->(upd H D (.lst ((x.cps.toList.take i).map fun c=>V.bl (decide (97<=c)&&decide (c<=122))))) D=some (.lst ((x.cps.toList.take i).map fun c=>V.bl (decide (97<=c)&&decide (c<=122))))/\((x.cps.toList.take i).map fun c=>V.bl (decide (97<=c)&&decide (c<=122))).length<sizeLine /\
       ((∃o0,([some (V.str ⟨#[c]⟩)]:St)=[o0])/\((x.cps.toList.take i).map fun c=>V.bl (decide (97<=c)&&decide (c<=122)))++[V.bl b]=((x.cps.toList.take (i+1)).map fun c=>V.bl (decide (97<=c)&&decide (c<=122))) /\
       upd (upd H D (.lst ((x.cps.toList.take i).map fun c=>V.bl (decide (97<=c)&&decide (c<=122))))) D (.lst (((x.cps.toList.take i).map fun c=>V.bl (decide (97<=c)&&decide (c<=122)))++[V.bl b]))=upd H D (.lst (((x.cps.toList.take i).map fun c=>V.bl (decide (97<=c)&&decide (c<=122)))++[V.bl b]))):=fun b hb=>by
      refine ⟨upd_same,?_,⟨_,rfl⟩,?_,zCf⟩
      ·rw [qAD,qAX,qAM];lia
      ·rw [ei,qAU,hb];rfl
     refine ⟨_,rfl,_,_,rfl,rfl,_,rfl,?_⟩;refine ite2 (fun c1=>?_) (fun c1=>?_)
     ·refine ⟨_,_,rfl,rfl,fin _ ?_⟩;have c1:(!(decide (([c]:List Nat)<[97])))=true:=c1;rw [zE0] at c1;show (!(decide (([122]:List Nat)<[c])))=_;rw [zE0,c1];rfl
     ·refine fin _ ?_;have c1:¬(!(decide (([c]:List Nat)<[97])))=true:=c1;rw [zE0] at c1;rw [Bool.not_eq_true] at c1;rw [c1];rfl
    ·rintro ys τ H' ⟨⟨o0,rfl⟩,rfl,rfl⟩;have hlen:x.cps.toList.take x.length=x.cps.toList:=qBF (by simp [Str.length]);refine ⟨D,x.cps.toList.map (fun c=>decide (97<=c)&&decide (c<=122)),rfl,SqL.of ?_,?_⟩
     ·rw [upd_same,hlen,qBV];rfl
     ·have e:((x.cps.toList.map (fun c=>decide (97<=c)&&decide (c<=122))).all id)=zIz x:=by
       unfold zIz;rw [qAR c1,qAR c2,qDG];rfl
      rw [e];exact k _ (Kp.new Kp.refl hD)
  ·-- empty
   have c1:¬(1<=x.length):=fun z=>c (qAR (by lia));refine ⟨_,rfl,?_⟩;refine iteT ?_
   have e:zIz x=false:=by
    unfold zIz;rw [qAb c1];simp
   rw [<-e];exact k H Kp.refl
end
abbrev Txs (H:Hp) (l:Addr) (ns:List Str):Prop:=H l=some (.lst (ns.map V.str))
structure Ords (H:Hp) (l:Addr) (qs:List (List Str×Addr)):Prop where
 top:H l=some (.lst (qs.map fun q=>V.ref q.2))
 row:∀q∈qs,H q.2=some (.tup (q.1.map V.str))
 two:∀q∈qs,∃a b,q.1=[a,b]
theorem zFv (x:Str) (ns:List Str):inV (.str x) (ns.map V.str)=decide (x∈ns):=by
 unfold inV
 induction ns with
 | nil=>rfl
 | cons n r ih =>
  rw [qAo,qCO,ih];show ((n==x)||_)=_
  by_cases e:n=x
  ·subst e;simp
  ·have e':¬x=n:=fun z=>e z.symm;rw [qBA.mpr e];simp [e']
theorem zDb (ns:List Str):(ns.map V.str).all zEe=true:=by simp [zEe]
section
def spIsOneOf:Sp:=fun vs H Q _=>∃(x:Str) (l:Addr) (ns:List Str),vs=[.str x,.ref l]/\Txs H l ns/\Q (.bl (decide (x∈ns))) H
abbrev zDh:Stmt:=top 15
theorem zF5:FnScope ["thing", "names"] ["thing", "names"] (zAd zDh):=fnS
theorem ok_is_one_of (F:Fun K "is_one_of" "is_one_of" zDh f fd) (T:Txt K mg):FnOk P w K mg base CX0 1 f fd ["thing", "names"] spIsOneOf:=by
 refine F.ok zF5 (fun vs H Q E h=>?_) (fun cdv A outer s H vs Q E hr h=>?_)
 ·obtain ⟨x,l,ns,rfl,_⟩:=h;rfl
 ·obtain ⟨x,l,ns,rfl,hl,k⟩:=h;refine ⟨_,(zAe (zAo (pe_and (zAh zCa (by rfl) T.z_isinstance zAp (zAa (pv 0) (zAa (zC3 (by rfl) T.z_str bo_str (v:=.ty "str") rfl) zAb))) (pe_one (zCq zFk (pv 0) (pv 1) (by rfl)))))),?_⟩;refine ⟨_,rfl,_,_,_,_,rfl,TyOf.str x,zCi,_,rfl,iteT ?_⟩;refine ⟨_,rfl,_,rfl,_,_,rfl,.inl (SqL.of hl),rfl,zDb ns,?_⟩;rw [zFv];exact k
def zEi:Sp:=fun vs H Q _=>∃(x:Str) (l:Addr) (ns:List Str),vs=[.ref l,.str x]/\Txs H l ns/\x∈ns/\Q .non H
abbrev zEy:Stmt:=top 27
theorem sc_check_job:FnScope ["names", "thing"] ["names", "thing"] (zAd zEy):=fnS
theorem ok_check_job (F:Fun K "check_job" "check_job" zEy f fd) (T:Txt K mg) (C_is_one_of:Cal P w K mg base "is_one_of" 1 ["thing", "names"] spIsOneOf):FnOk P w K mg base CX0 2 f fd ["names", "thing"] zEi:=by
 refine F.ok sc_check_job (fun vs H Q E h=>?_) (fun cdv A outer s H vs Q E hr h=>?_)
 ·obtain ⟨x,l,ns,rfl,_⟩:=h;rfl
 ·obtain ⟨x,l,ns,rfl,hl,hx,k⟩:=h;have HR_is_one_of:=hr
  refine ⟨_,(zAe (zCc (zCw (zCg (zAg C_is_one_of HR_is_one_of rfl (zAa (pv 1) (zAa (pv 0) zAb)))))
    (zAe zAy)
    zAq)),?_⟩
  refine ⟨_,rfl,_,rfl,x,l,ns,rfl,hl,?_⟩;rw [qAR hx];exact ⟨_,rfl,iteF k⟩
end
abbrev dT1 (ns:List Str) (g:Str->V):List (Key×V):=ns.map fun n=>(Sum.inr n,g n)
theorem zBb (g:Str->V) (x:Str):∀ns:List Str,valV (dT1 ns g) (.inr x)=if x∈ns then some (g x) else none
 | []=>rfl
 | n::r=>by
  by_cases e:n=x
  ·subst e;have h1:valV (dT1 (n::r) g) (.inr n)=some (g n):=zGg rfl;rw [h1];simp
  ·have h1:valV (dT1 (n::r) g) (.inr x)=valV (dT1 r g) (.inr x):=zGh fun z=>e (Sum.inr.inj z);rw [h1,zBb g x r];have e':¬x=n:=fun z=>e z.symm;simp [e']
theorem zDl {g:Str->V} {x:Str} (v:V) (h:x∉ns):putK (dT1 ns g) (.inr x) v=dT1 ns g++[(.inr x,v)]:=putK_new v (by rw [zBb];simp [h])
theorem zAi {xs:List α} {x:α} (h:xs[i]?=some x):xs.take (i+1)=xs.take i++[x]:=by rw [qCo,h];rfl
theorem zA2 {v:V} (h:(ns.map V.str)[i]?=some v):∃n,ns[i]?=some n/\v= .str n:=by
 rw [qAZ] at h;obtain ⟨n,e,r⟩:=qBU.mp h;exact ⟨n,e,r.symm⟩
theorem zEm {xs:List α} (h:xs.Nodup) {x:α} (e:xs[i]?=some x):x∉xs.take i:=fun z=>by
 obtain ⟨hi,rfl⟩:=qAV.mp e;obtain ⟨j,hj,e2⟩:=qA7.mp z;rw [qAX] at hj;rw [List.getElem_take] at e2;have:=(List.getElem_inj h).mp e2;lia
section
def zF3:Sp:=fun vs H Q _=>∃(l:Addr) (ns:List Str),vs=[.ref l]/\Txs H l ns/\ns.length<=20/\(∀n∈ns,zHz n)/\ns.Nodup/\∀H',Kp [] H H'->Q .non H'
abbrev zDk:Stmt:=top 25
theorem zB8:FnScope ["names", "thing", "seen", "name"] ["names"] (zAd zDk):=fnS
theorem zHu (F:Fun K "check_names" "check_names" zDk f fd) (T:Txt K mg) (C_is_name:Cal P w K mg base "is_name" 1 ["thing"] spIsName):FnOk P w K mg base CX0 2 f fd ["names"] zF3:=by
 refine F.ok zB8 (fun vs H Q E h=>?_) (fun cdv A outer s H vs Q E hr h=>?_)
 ·obtain ⟨l,ns,rfl,_⟩:=h;rfl
 ·obtain ⟨l,ns,rfl,hl,hn,hN,hD,k⟩:=h;have HR_is_name:=hr;have hu:=zDq hr;obtain ⟨tM,hM⟩:=T.c_MOST_JOBS
  refine ⟨_,(zAc (zCc (zAs op_gt (zAh zAl (by rfl) T.z_len zCe (zAa (pv 0) zAb)) (pe_glob rfl hM (v:=.int 20) ⟨_,rfl⟩) (zAz _))
    (zAe zAy)
    zAq)
   (zAc (zAu qAg rfl (zAk (pv 0)) (pgN (i:=1) zB8.nd)
    (zAe (zCc (zCw (zCg (zAg C_is_name HR_is_name rfl (zAa (pv 1) zAb))))
     (zAe zAy)
     zAq)))
   (zAc (psS (i:=2) zB8.nd zB9)
   (zAe (zAu qAg rfl (zAk (pv 0)) (pgN (i:=3) zB8.nd)
    (zAc (zCc (zFe (zG2 hu (pv 3) (pv 2)))
     (zAe zAy)
     zAq)
    (zAe (zC2 hu (pv 2) (pv 3) pe_bl rfl)))))))),?_⟩
  refine ⟨_,rfl,_,_,rfl,.inl (SqL.of hl),_,_,rfl,rfl,_,rfl,?_⟩;rw [qAb (by rw [qAD];lia)];refine iteF ?_;refine ⟨_,rfl,_,rfl,⟨_,SqL.of hl⟩,zAv (fun i σ H2=>(∃o1 o2 o3:Option V,σ=[some (.ref l),o1,o2,o3])/\Kp [] H H2) ⟨⟨_,_,_,rfl⟩,Kp.refl⟩ (fun i σ H2 _ ⟨_,k2⟩=>SqL.of (k2 l _ hl (by simp))) ?_ ?_⟩
  ·rintro i v σ H2 hv ⟨⟨o1,o2,o3,rfl⟩,k2⟩;obtain ⟨n,en,rfl⟩:=zA2 hv;have nn:=hN n (qAL en);refine ⟨_,rfl,n,rfl,by have:=nn.2.1;lia,fun H3 k3=>?_⟩;rw [(nameB_iff n).mpr nn];exact ⟨_,rfl,iteF ⟨⟨_,_,_,rfl⟩,k2.trans k3⟩⟩
  ·rintro σ H2 ⟨⟨o1,o2,o3,rfl⟩,k2⟩;have hl2:Txs H2 l ns:=k2 l _ hl (by simp);refine fun d hd=>?_;have fd:Fre H2 d:=hd;have fdH:Fre H d:=k2.fre fd (by simp);refine ⟨_,rfl,_,rfl,⟨_,SqL.of ((Kp.new (M:=[]) Kp.refl fd) l _ hl2 (by simp))⟩,zAv (fun i σ H3=>(∃o1 o3:Option V,σ=[some (.ref l),o1,some (.ref d),o3])/\Kp [] H H3/\H3 d=some (.dK (dT1 (ns.take i) fun _=>.bl true))) ⟨⟨_,_,rfl⟩,Kp.new k2 fdH,upd_same⟩ (fun i σ H3 _ ⟨_,k3,_⟩=>SqL.of (k3 l _ hl (by simp))) ?_ ?_⟩
   ·rintro i v σ H3 hv ⟨⟨o1,o3,rfl⟩,k3,h3⟩;obtain ⟨n,en,rfl⟩:=zA2 hv;have ni:=zEm hD en;refine ⟨_,rfl,_,rfl,_,_,rfl,DGet.k (k:=Sum.inr n) h3,_,rfl,?_⟩;rw [zBb,qAB ni];refine iteF ?_;refine ⟨_,rfl,_,rfl,_,_,rfl,DPut.k (k:=Sum.inr n) h3 ?_,?_⟩
    ·rw [qAD,qAX,qAM];lia
    ·refine ⟨⟨_,_,rfl⟩,Kp.new k3 fdH,?_⟩;rw [upd_same,zDl _ ni,zAi en];unfold dT1;rw [qAU];rfl
   ·rintro σ H3 ⟨⟨o1,o3,rfl⟩,k3,h3⟩;exact k H3 k3
end
theorem ref_at {qs:List (List Str×Addr)} {v:V} (h:(qs.map fun q=>V.ref q.2)[i]?=some v):∃q,qs[i]?=some q/\v= .ref q.2:=by
 rw [qAZ] at h;obtain ⟨n,e,r⟩:=qBU.mp h;exact ⟨n,e,r.symm⟩
theorem Ords.kp {M:List Addr} {l:Addr} {qs:List (List Str×Addr)} (o:Ords H l qs) (k:Kp M H H') (h1:l∉M) (h2:∀q∈qs,q.2∉M):Ords H' l qs:=⟨k l _ o.top h1,fun q hq=>k _ _ (o.row q hq) (h2 q hq),o.two⟩
section
def zF2:Sp:=fun vs H Q _=>∃(l m:Addr) (ns:List Str) (qs:List (List Str×Addr)),vs=[.ref l,.ref m]/\Txs H l ns/\Ords H m qs/\(∀q∈qs,∀x∈q.1,x∈ns)/\Q .non H
abbrev zDj:Stmt:=top 26
theorem zCy:FnScope ["names", "orders", "order", "part"] ["names", "orders"] (zAd zDj):=fnS
theorem zHt (F:Fun K "check_parts" "check_parts" zDj f fd) (T:Txt K mg) (C_check_job:Cal P w K mg base "check_job" 2 ["names", "thing"] zEi):FnOk P w K mg base CX0 3 f fd ["names", "orders"] zF2:=by
 refine F.ok zCy (fun vs H Q E h=>?_) (fun cdv A outer s H vs Q E hr h=>?_)
 ·obtain ⟨l,m,ns,qs,rfl,_⟩:=h;rfl
 ·obtain ⟨l,m,ns,qs,rfl,hl,hm,hq,k⟩:=h;have HR_check_job:=hr
  refine ⟨_,(zAe (zAu qAg rfl (zAk (pv 1)) (pgN (i:=2) zCy.nd)
    (zAe (zAu qAg rfl (pi_tup (pv 2)) (pgN (i:=3) zCy.nd)
     (zAe (zAr (zAg C_check_job HR_check_job rfl (zAa (pv 0) (zAa (pv 3) zAb))))))))),?_⟩
  refine ⟨_,rfl,_,rfl,⟨_,SqL.of hm.top⟩,zAv (fun i σ H2=>(∃o2 o3:Option V,σ=[some (.ref l),some (.ref m),o2,o3])/\H2=H) ⟨⟨_,_,rfl⟩,rfl⟩ (fun i σ H2 _ ⟨_,e⟩=>by subst e;exact SqL.of hm.top) ?_ ?_⟩
  ·rintro i v σ H2 hv ⟨⟨o2,o3,rfl⟩,rfl⟩;obtain ⟨q,eq,rfl⟩:=ref_at hv;have mq:=qAL eq;refine ⟨_,rfl,_,rfl,⟨_,.inl (.inl (hm.row q mq))⟩,for_tup (fun j σ H3=>(∃o3:Option V,σ=[some (.ref l),some (.ref m),some (.ref q.2),o3])/\H3=H2) ⟨⟨_,rfl⟩,rfl⟩ (fun j σ H3 _ ⟨_,e⟩=>by subst e;exact .inl (.inl (hm.row q mq))) ?_ ?_⟩
   ·rintro j v σ H3 hv ⟨⟨o3,rfl⟩,rfl⟩;obtain ⟨x,ex,rfl⟩:=zA2 hv;exact ⟨_,rfl,_,rfl,x,l,ns,rfl,hl,hq q mq x (qAL ex),⟨_,rfl⟩,rfl⟩
   ·rintro σ H3 ⟨⟨o3,rfl⟩,rfl⟩;exact ⟨⟨_,_,rfl⟩,rfl⟩
  ·rintro σ H2 ⟨⟨o2,o3,rfl⟩,rfl⟩;exact k
end
def fst (q:List Str×Addr):Str:=q.1.getD 0 Str.empty
def snd (q:List Str×Addr):Str:=q.1.getD 1 Str.empty
def told (qs:List (List Str×Addr)) (n:Str):List Str:=(qs.filter fun q=>decide (snd q=n)).map fst
theorem told_snoc (qs:List (List Str×Addr)) (q:List Str×Addr) (n:Str):told (qs++[q]) n=if snd q=n then told qs n++[fst q] else told qs n:=by
 unfold told;rw [qCD]
 by_cases e:snd q=n
 ·rw [qAC e];simp [e]
 ·rw [qAB e];simp [e]
theorem told_len (qs:List (List Str×Addr)) (n:Str):(told qs n).length<=qs.length:=by
 unfold told;rw [qAD];exact qBH _ _
structure DL (H0 H:Hp) (d:Addr) (ns:List Str) (la:Str->Addr) (f:Str->List Str):Prop where
 top:H d=some (.dK (dT1 ns fun n=>.ref (la n)))
 row:∀n∈ns,Txs H (la n) (f n)
 ne:∀n∈ns,la n≠d
 inj:∀n∈ns,∀m∈ns,la n=la m->n=m
 fr:Fre H0 d
 frs:∀n∈ns,Fre H0 (la n)
theorem zEf {g g':Str->V} (h:∀n∈ns,g n=g' n):dT1 ns g=dT1 ns g':=qDH fun n hn=>by rw [h n hn]
section
def zGv:Sp:=fun vs H Q _=>∃(l m:Addr) (ns:List Str) (qs:List (List Str×Addr)),vs=[.ref l,.ref m]/\Txs H l ns/\Ords H m qs/\ns.Nodup/\ns.length<=20/\qs.length<=4096/\(∀q∈qs,∀x∈q.1,x∈ns) /\
 ∀d la H',DL H H' d ns la (told qs)->Kp [] H H'->Q (.ref d) H'
abbrev zD2:Stmt:=top 28
theorem zBy:FnScope ["names", "orders", "told", "name", "one", "other"] ["names", "orders"] (zAd zD2):=fnS
theorem zIv (F:Fun K "told_ahead" "told_ahead" zD2 f fd):FnOk P w K mg base CX0 1 f fd ["names", "orders"] zGv:=by
 refine F.ok zBy (fun vs H Q E h=>?_) (fun cdv A outer s H vs Q E hr h=>?_)
 ·obtain ⟨l,m,ns,qs,rfl,_⟩:=h;rfl
 ·obtain ⟨l,m,ns,qs,rfl,hl,hm,hN,hn,hz,hq,k⟩:=h;have hu:=zDq hr
  refine ⟨_,(zAc (psS (i:=2) zBy.nd zB9)
   (zAc (zAu qAg rfl (zAk (pv 0)) (pgN (i:=3) zBy.nd)
    (zAe (zC2 hu (pv 2) (pv 3) (zA7 zAb) rfl)))
   (zAc (zAu qAg rfl (zAk (pv 1)) (zH8 rfl (zA1 (pgN (i:=4) zBy.nd) (zA1 (pgN (i:=5) zBy.nd) zD4)))
    (zAe (zAr (zDm qAw qBj qBk zBl (zA4 hu (pv 2) (pv 5) (fun _ _=>rfl)) (zAa (pv 4) zAb)))))
   (zAe (zAo (pv 2)))))),?_⟩
  refine fun d hd=>?_;have fd:Fre H d:=hd
  refine ⟨_,rfl,_,rfl,⟨_,SqL.of ((Kp.new (M:=[]) Kp.refl fd) l _ hl (by simp))⟩,zAv (fun i σ H2=>(∃o3 o4 o5:Option V,σ=[some (.ref l),some (.ref m),some (.ref d),o3,o4,o5])/\Kp [] H H2/\∃la,DL H H2 d (ns.take i) la fun _=>[])
   ⟨⟨_,_,_,rfl⟩,Kp.new Kp.refl fd,fun _=>0,upd_same,(fun n h=>nomatch h),(fun n h=>nomatch h),(fun n h=>nomatch h),fd,(fun n h=>nomatch h)⟩ (fun i σ H2 _ ⟨_,k2,_⟩=>SqL.of (k2 l _ hl (by simp))) ?_ ?_⟩
  ·rintro i v σ H2 hv ⟨⟨o3,o4,o5,rfl⟩,k2,la,D⟩;obtain ⟨n,en,rfl⟩:=zA2 hv;have ni:=zEm hN en;refine ⟨(by walk_at "ln"),fun b hb=>?_⟩;have fb:Fre H2 b:=hb;have ndb:d≠b:=ne_fre fb D.top;have fbH:Fre H b:=k2.fre fb (by simp);refine ⟨_,rfl,_,rfl,_,_,rfl,DPut.k (k:=Sum.inr n) ((upd_ne ndb).trans D.top) ?_,?_⟩
   ·rw [qAD,qAX,qAM];lia
   ·have nlb:∀x∈ns.take i,la x≠b:=fun x hx=>ne_fre fb (D.row x hx);refine ⟨⟨_,_,_,rfl⟩,Kp.new (Kp.new k2 fbH) fd,fun x=>if x=n then b else la x,?_,fun x hx=>?_,fun x hx=>?_,fun x hx y hy e=>?_,fd,fun x hx=>?_⟩
    ·rw [upd_same,zDl _ ni,zAi en];have:dT1 (ns.take i) (fun n=>V.ref (la n))=dT1 (ns.take i) (fun x=>V.ref (if x=n then b else la x)):=zEf fun x hx=>by rw [qAB fun (z:x=n)=>ni (z▸hx)]
     rw [this];unfold dT1;rw [qAU];simp
    ·rw [zAi en] at hx
     by_cases z:x=n
     ·rw [qAC z];exact (upd_ne ndb.symm).trans upd_same
     ·rw [qAB z]
      have hx':x∈ns.take i:=by
       rcases qAQ.mp hx with y| y
       ·exact y
       ·exact absurd (qAP.mp y) z
      exact (upd_ne (D.ne x hx')).trans ((upd_ne (nlb x hx')).trans (D.row x hx'))
    ·rw [zAi en] at hx
     by_cases z:x=n
     ·rw [qAC z];exact ndb.symm
     ·rw [qAB z];rcases qAQ.mp hx with y| y
      ·exact D.ne x y
      ·exact absurd (qAP.mp y) z
    ·rw [zAi en] at hx hy
     have mem:∀x,x∈ns.take i++[n]->x≠n->x∈ns.take i:=fun x hx z=>by
      rcases qAQ.mp hx with y| y
      ·exact y
      ·exact absurd (qAP.mp y) z
     by_cases z:x=n
     ·by_cases z':y=n
      ·rw [z,z']
      ·rw [qAC z,qAB z'] at e;exact absurd e.symm (nlb y (mem y hy z'))
     ·by_cases z':y=n
      ·rw [qAB z,qAC z'] at e;exact absurd e (nlb x (mem x hx z))
      ·rw [qAB z,qAB z'] at e;exact D.inj x (mem x hx z) y (mem y hy z') e
    ·rw [zAi en] at hx
     by_cases z:x=n
     ·rw [qAC z];exact fbH
     ·rw [qAB z];rcases qAQ.mp hx with y| y
      ·exact D.frs x y
      ·exact absurd (qAP.mp y) z
  ·rintro σ H2 ⟨⟨o3,o4,o5,rfl⟩,k2,la,D⟩;have eN:ns.take (ns.map V.str).length=ns:=by rw [qAD,qAj]
   rw [eN] at D
   refine ⟨_,rfl,_,rfl,⟨_,SqL.of (k2 m _ hm.top (by simp))⟩,zAv (fun i σ H3=>(∃o3 o4 o5:Option V,σ=[some (.ref l),some (.ref m),some (.ref d),o3,o4,o5])/\Kp [] H H3/\DL H H3 d ns la (told (qs.take i)))
    ⟨⟨_,_,_,rfl⟩,k2,D⟩ (fun i σ H3 _ ⟨_,k3,_⟩=>SqL.of (k3 m _ hm.top (by simp))) ?_ ?_⟩
   ·rintro i v σ H3 hv ⟨⟨o3,o4,o5,rfl⟩,k3,D⟩;obtain ⟨q,eq,rfl⟩:=ref_at hv;have mq:=qAL eq;obtain ⟨a,b,eab⟩:=hm.two q mq
    have hrow:H3 q.2=some (.tup [.str a,.str b]):=by
     have:=k3 q.2 _ (hm.row q mq) (by simp);rw [eab] at this;exact this
    have hb:b∈ns:=hq q mq b (by rw [eab];simp);have esnd:snd q=b:=by unfold snd;rw [eab];rfl
    have efst:fst q=a:=by unfold fst;rw [eab];rfl
    refine ⟨_,_,rfl,.inl (.inl hrow),rfl,_,_,rfl,_,_,rfl,rfl,?_⟩;refine ⟨_,rfl,_,rfl,_,.ref (la b),rfl,?_,.inl ⟨rfl,_,SqL.of (D.row b hb)⟩,_,rfl,_,_,_,rfl,rfl,D.row b hb,?_,?_⟩
    ·have:=DGet.k (k:=Sum.inr b) D.top;rw [zBb,qAC hb] at this;exact this
    ·have:=told_len (qs.take i) b;rw [qAX] at this;rw [qAD,qAM];lia
    ·refine ⟨⟨_,_,_,rfl⟩,Kp.new k3 (D.frs b hb),?_⟩;rw [zAi eq];refine ⟨(upd_ne (D.ne b hb).symm).trans D.top,fun x hx=>?_,D.ne,D.inj,D.fr,D.frs⟩;show upd H3 (la b) _ (la x)=some (.lst ((told (qs.take i++[q]) x).map V.str));rw [told_snoc,esnd,efst]
     by_cases z:b=x
     ·subst z;rw [qAC rfl,upd_same,qAU];rfl
     ·rw [qAB z,upd_ne fun y=>z (D.inj b hb x hx y.symm)];exact D.row x hx
   ·rintro σ H3 ⟨⟨o3,o4,o5,rfl⟩,k3,D⟩;have eQ:qs.take (qs.map fun q=>V.ref q.2).length=qs:=by rw [qAD,qAj]
    rw [eQ] at D;exact ⟨_,rfl,k d la H3 D k3⟩
end
def addA (A:List Str) (x:Str):List Str:=if x∈A then A else A++[x]
theorem mem_addA {A:List Str} {x:Str}:y∈addA A x↔y∈A\/y=x:=by
 unfold addA
 by_cases h:x∈A
 ·rw [qAC h];exact ⟨.inl,fun z=>z.elim id fun e=>e▸h⟩
 ·rw [qAB h];simp
theorem zH9 {A:List Str} {x:Str} (h:A.Nodup):(addA A x).Nodup:=by
 unfold addA
 by_cases hx:x∈A
 ·rw [qAC hx];exact h
 ·rw [qAB hx];refine qBg.mpr ⟨h,by simp,fun a ha b hb=>?_⟩;rw [qAP.mp hb];rintro rfl;exact hx ha
theorem zBd :∀(B A:List Str),y∈B.foldl addA A↔y∈A\/y∈B
 | [],A=>by simp
 | b::B,A=>by
  rw [qBa,zBd B (addA A b),mem_addA,qAO,or_assoc]
theorem zDn:∀(B A:List Str),A.Nodup->(B.foldl addA A).Nodup
 | [],A,h=>h
 | b::B,A,h=>zDn B _ (zH9 h)
def zB4 (S:Str->List Str) (ms:List Str):List Str:=ms.foldl (fun A m=>(S m).foldl addA (addA A m)) []
theorem joinA_snoc (S:Str->List Str) (ms:List Str) (m:Str):zB4 S (ms++[m])=(S m).foldl addA (addA (zB4 S ms) m):=by unfold zB4;rw [qDI];rfl
theorem zIa {S:Str->List Str} :∀(ms A:List Str),y∈ms.foldl (fun A m=>(S m).foldl addA (addA A m)) A↔y∈A\/y∈ms\/∃m∈ms,y∈S m
 | [],A=>by simp
 | m::ms,A=>by
  rw [qBa,zIa ms,zBd,mem_addA];constructor
  ·rintro (((h| h)| h)| h| ⟨q,h1,h2⟩)
   ·exact .inl h
   ·exact .inr (.inl (h▸qAS))
   ·exact .inr (.inr ⟨m,qAS,h⟩)
   ·exact .inr (.inl (qAT _ h))
   ·exact .inr (.inr ⟨q,qAT _ h1,h2⟩)
  ·rintro (h| h| ⟨q,h1,h2⟩)
   ·exact .inl (.inl (.inl h))
   ·rcases qAO.mp h with e| e
    ·exact .inl (.inl (.inr e))
    ·exact .inr (.inl e)
   ·rcases qAO.mp h1 with e| e
    ·exact .inl (.inr (e▸h2))
    ·exact .inr (.inr ⟨q,e,h2⟩)
theorem zG8 {S:Str->List Str} {ms:List Str} :y∈zB4 S ms↔y∈ms\/∃m∈ms,y∈S m:=by
 unfold zB4;rw [zIa];simp
theorem zF8 {S:Str->List Str}:∀(ms A:List Str),A.Nodup->(ms.foldl (fun A m=>(S m).foldl addA (addA A m)) A).Nodup
 | [],A,h=>h
 | m::ms,A,h=>zF8 ms _ (zDn _ _ (zH9 h))
theorem zG5 (S:Str->List Str) (ms:List Str):(zB4 S ms).Nodup:=zF8 ms [] qAy
theorem zBi:∀{A B:List Str},A.Nodup->(∀x∈A,x∈B)->A.length<=B.length
 | [],B,_,_=>qAd _
 | a::A,B,h,hs=>by
  obtain ⟨h1,h2⟩:=qBC.mp h;have hb:=hs a qAS;have:=zBi (B:=B.erase a) h2 fun x hx=>(List.mem_erase_of_ne fun e=>h1 (by rw [<-e];exact hx)).mpr (hs x (qAT _ hx));rw [qCy hb] at this;have:=qDf hb;rw [qAe];lia
abbrev SetD (H:Hp) (e:Addr) (A:List Str):Prop:=H e=some (.dK (dT1 A fun _=>.bl true))
theorem put_set (A:List Str) (x:Str):putK (dT1 A fun _=>.bl true) (.inr x) (.bl true)=dT1 (addA A x) fun _=>.bl true:=by
 unfold addA
 by_cases h:x∈A
 ·rw [qAC h];unfold putK;rw [zGi,zBb,qAC h];refine (qAC (by rfl)).trans ?_;unfold dT1;rw [qBV];refine qDH fun y _=>?_;show (if (Sum.inr y:Key)=Sum.inr x then ((Sum.inr y:Key),V.bl true) else (Sum.inr y,V.bl true))=_;split<;>rfl
 ·rw [qAB h,zDl _ h];unfold dT1;rw [qAU];rfl
theorem mrg_set:∀(B A:List Str),mrg (dT1 A fun _=>.bl true) (dT1 B fun _=>.bl true)=dT1 (B.foldl addA A) fun _=>.bl true
 | [],A=>rfl
 | b::B,A=>by
  show mrg (putK (dT1 A fun _=>.bl true) (.inr b) (.bl true)) (dT1 B fun _=>.bl true)=_;rw [put_set,mrg_set B];rfl
section
def zIj:Sp:=fun vs H Q _=>∃(d l:Addr) (kvs:List (Key×V)) (ms:List Str),vs=[.ref d,.ref l]/\H d=some (.dK kvs)/\Txs H l ms/\ms.length<=4096/\∀H',Kp [] H H'->Q (.bl (ms.all fun m=>(valV kvs (.inr m)).isSome)) H'
abbrev zFc:Stmt:=top 29
theorem sc_has_all:FnScope ["done", "names"] ["done", "names"] (zAd zFc):=fnS
theorem ok_has_all (F:Fun K "has_all" "has_all" zFc f fd) (T:Txt K mg):FnOk P w K mg base CX0 1 f fd ["done", "names"] zIj:=by
 refine F.ok sc_has_all (fun vs H Q E h=>?_) (fun cdv A outer s H vs Q E hr h=>?_)
 ·obtain ⟨d,l,kvs,ms,rfl,_⟩:=h;rfl
 ·obtain ⟨d,l,kvs,ms,rfl,hd,hl,hz,k⟩:=h;have hu:=zDq hr;refine ⟨_,(zAe (zAo (zAh (zGq _ rfl) (by rfl) T.z_all bo_all (zAa (zBj rfl (zBn (sc:=zAd zFc) rfl (by decide +kernel)) (Draws.own (x:= "name") (dtk (i:=0) rfl Draws.nil)) (zAk (pv 1)) (fun _ _ _ _=>(pgB (i:=0))) (fun _ _ _ _=>zC1) (fun _ _ _ _=>(pe_cmp (zG2 hu (pv 0) (pv 1))))) zAb)))),?_⟩;refine ⟨_,rfl,_,rfl,⟨_,SqL.of hl⟩,fun D hD=>zBg (ms.map V.str) (fun i ys τ H'=>(∃o0,τ=[o0,some (.ref d)])/\ys=((ms.take i).map fun m=>V.bl (valV kvs (.inr m)).isSome)/\H'=upd H D (.lst ys)) ⟨⟨_,rfl⟩,rfl,rfl⟩ (fun i ys τ H' ⟨_,_,e⟩=>by subst e;exact SqL.of ((upd_ne (ne_fre (show Fre H D from hD) hl)).trans hl)) ?_ ?_⟩
  ·rintro i v ys τ H' hv ⟨⟨o0,rfl⟩,rfl,rfl⟩;obtain ⟨m,em,rfl⟩:=zA2 hv;refine ⟨_,rfl,_,rfl,_,_,rfl,DGet.k (k:=Sum.inr m) ((upd_ne (ne_fre (show Fre H D from hD) hd)).trans hd),upd_same,?_,⟨_,rfl⟩,?_,zCf⟩
   ·rw [qAD,qAX,qAM];lia
   ·rw [zAi em,qAU];rfl
  ·rintro ys τ H' ⟨_,rfl,rfl⟩;have eM:ms.take (ms.map V.str).length=ms:=by rw [qAD,qAj]
   refine ⟨D,ms.map fun m=>(valV kvs (.inr m)).isSome,rfl,SqL.of ?_,?_⟩
   ·rw [upd_same,eM,qBV];rfl
   ·rw [qDG];exact k _ (Kp.new Kp.refl hD)
def spJoined:Sp:=fun vs H Q _=>∃(l d:Addr) (ms D0 ns:List Str) (fa:Str->Addr) (S:Str->List Str),vs=[.ref l,.ref d]/\Txs H l ms/\H d=some (.dK (dT1 D0 fun n=>.ref (fa n)))/\(∀m∈ms,m∈D0/\m∈ns/\SetD H (fa m) (S m)/\∀x∈S m,x∈ns)/\ns.length<=20/\(∀m∈ms,(S m).length<=20) /\
 ∀e H',Fre H e->SetD H' e (zB4 S ms)->Kp [] H H'->Q (.ref e) H'
abbrev zIq:Stmt:=top 31
theorem zGx:FnScope ["near", "far", "found", "name"] ["near", "far"] (zAd zIq):=fnS
theorem ok_joined (F:Fun K "joined" "joined" zIq f fd):FnOk P w K mg base CX0 1 f fd ["near", "far"] spJoined:=by
 refine F.ok zGx (fun vs H Q E h=>?_) (fun cdv A outer s H vs Q E hr h=>?_)
 ·obtain ⟨l,d,ms,D0,ns,fa,S,rfl,_⟩:=h;rfl
 ·obtain ⟨l,d,ms,D0,ns,fa,S,rfl,hl,hd,hm,hn,hS,k⟩:=h;have hu:=zDq hr
  refine ⟨_,(zAc (psS (i:=2) zGx.nd zB9)
   (zAc (zAu qAg rfl (zAk (pv 0)) (pgN (i:=3) zGx.nd)
    (zAc (zC2 hu (pv 2) (pv 3) pe_bl rfl)
    (zAe (zAr (zDm PySem.F.plainAttrs_dict PySem.F.slot_dict_update PySem.F.type_dict_update mt_dupd (pv 2) (zAa (zA4 hu (pv 1) (pv 3) (fun _ _=>rfl)) zAb))))))
   (zAe (zAo (pv 2))))),?_⟩
  refine fun e he=>?_;have fe:Fre H e:=he
  have hsub:∀i x,x∈zB4 S (ms.take i)->x∈ns:=fun i x hx=>by
   rcases zG8.mp hx with z| ⟨m,z,z'⟩
   ·exact (hm x (qBt z)).2.1
   ·exact (hm m (qBt z)).2.2.2 x z'
  have hlen:∀i,(zB4 S (ms.take i)).length<=20:=fun i=>qAW (zBi (zG5 S _) (hsub i)) hn
  refine ⟨_,rfl,_,rfl,⟨_,SqL.of ((Kp.new (M:=[]) Kp.refl fe) l _ hl (by simp))⟩,zAv (fun i σ H2=>(∃o3:Option V,σ=[some (.ref l),some (.ref d),some (.ref e),o3])/\Kp [] H H2/\SetD H2 e (zB4 S (ms.take i)))
   ⟨⟨_,rfl⟩,Kp.new Kp.refl fe,upd_same⟩ (fun i σ H2 _ ⟨_,k2,_⟩=>SqL.of (k2 l _ hl (by simp))) ?_ ?_⟩
  ·rintro i v σ H2 hv ⟨⟨o3,rfl⟩,k2,h2⟩;obtain ⟨m,em,rfl⟩:=zA2 hv;obtain ⟨m1,m2,m3,m4⟩:=hm m (qAL em);have l2:=hlen i;refine ⟨_,rfl,_,rfl,_,_,rfl,DPut.k (k:=Sum.inr m) h2 (by rw [qAD,qAM];lia),?_⟩;rw [put_set];have k3:Kp [] H (upd H2 e (.dK (dT1 (addA (zB4 S (ms.take i)) m) fun _=>.bl true))):=Kp.new k2 fe;have nfa:fa m≠e:=ne_fre fe m3;refine ⟨_,rfl,.inr (.inr (.inl ⟨rfl,.inl ⟨_,upd_same⟩⟩)),_,rfl,_,rfl,_,.ref (fa m),rfl,?_,_,fa m,_,_,rfl,rfl,upd_same,k3 _ _ m3 (by simp),nfa.symm,?_,?_⟩
   ·have:=DGet.k (k:=Sum.inr m) (k3 d _ hd (by simp));rw [zBb,qAC m1] at this;exact this
   ·have:=hS m (qAL em);rw [qAD,qAD,qAM]
    have:(addA (zB4 S (ms.take i)) m).length<=(zB4 S (ms.take i)).length+1:=by
     unfold addA;split
     ·lia
     ·rw [qAf];exact qAF _
    lia
   ·rw [mrg_set];refine ⟨⟨_,rfl⟩,Kp.new k3 fe,?_⟩;rw [zAi em,joinA_snoc];exact upd_same
  ·rintro σ H2 ⟨⟨o3,rfl⟩,k2,h2⟩;have eM:ms.take (ms.map V.str).length=ms:=by rw [qAD,qAj]
   rw [eM] at h2;exact ⟨_,rfl,k e H2 fe h2 k2⟩
end
structure Fp (H0 H:Hp) (e:Addr) (ns D:List Str) (fa:Str->Addr) (S f:Str->List Str):Prop where
 top:H e=some (.dK (dT1 D fun n=>.ref (fa n)))
 nd:D.Nodup
 sub:∀n∈D,n∈ns
 row:∀n∈D,SetD H (fa n) (S n)
 snd:∀n∈D,(S n).Nodup
 sns:∀n∈D,∀x∈S n,x∈ns
 mem:∀n∈D,∀x,x∈S n↔x∈f n\/∃m∈f n,x∈S m
 cl:∀n∈D,∀x∈f n,x∈D
 ne:∀n∈D,fa n≠e
 fr:Fre H0 e
 frs:∀n∈D,Fre H0 (fa n)
theorem Fp.kp {H0:Hp} {e:Addr} {D:List Str} {fa:Str->Addr} {S f:Str->List Str} (F:Fp H0 H e ns D fa S f) (k:Kp [] H H'):Fp H0 H' e ns D fa S f :=
 ⟨k e _ F.top (by simp),F.nd,F.sub,fun n hn=>k _ _ (F.row n hn) (by simp),F.snd,F.sns,F.mem,F.cl,F.ne,F.fr,F.frs⟩
theorem Fp.more {H0:Hp} {e b:Addr} {D:List Str} {fa:Str->Addr} {S f:Str->List Str} {n:Str} (F:Fp H0 H e ns D fa S f) (hn:n∈ns) (hD:n∉D) (hf:∀x∈f n,x∈D) (hs:∀x∈f n,x∈ns) (hb:SetD H b (zB4 S (f n))) (nb:b≠e) (fb:Fre H0 b) :
  Fp H0 (upd H e (.dK (putK (dT1 D fun n=>.ref (fa n)) (.inr n) (.ref b)))) e ns (D++[n]) (fun x=>if x=n then b else fa x) (fun x=>if x=n then zB4 S (f n) else S x) f:=by
 have hx:∀x∈D,¬x=n:=fun x h z=>hD (z▸h)
 have cs:∀x,x∈D++[n]->x∈D\/x=n:=fun x h=>by
  rcases qAQ.mp h with z| z
  ·exact .inl z
  ·exact .inr (qAP.mp z)
 have eqS:∀{x},x∈D->(if x=n then zB4 S (f n) else S x)=S x:=fun {x} h=>qAB (hx x h);have eqn:(if n=n then zB4 S (f n) else S n)=zB4 S (f n):=qAC rfl;refine ⟨?_,?_,fun x h=>?_,fun x h=>?_,fun x h=>?_,fun x h y hy=>?_,fun x h y=>?_,fun x h y hy=>?_,fun x h=>?_,F.fr,fun x h=>?_⟩
 ·rw [upd_same,zDl _ hD];have:dT1 D (fun n=>V.ref (fa n))=dT1 D (fun x=>V.ref (if x=n then b else fa x)):=zEf fun x h=>by rw [qAB (hx x h)]
  rw [this];unfold dT1;rw [qAU];simp
 ·refine qBg.mpr ⟨F.nd,by simp,fun a ha c hc=>?_⟩;rw [qAP.mp hc];exact hx a ha
 ·rcases cs x h with z| z
  ·exact F.sub x z
  ·rw [z];exact hn
 ·rcases cs x h with z| z
  ·show upd H e _ (if x=n then b else fa x)=some (.dK (dT1 (if x=n then zB4 S (f n) else S x) fun _=>.bl true));rw [qAB (hx x z),qAB (hx x z),upd_ne (F.ne x z)];exact F.row x z
  ·subst z;show upd H e _ (if x=x then b else fa x)=some (.dK (dT1 (if x=x then zB4 S (f x) else S x) fun _=>.bl true));rw [qAC rfl,qAC rfl,upd_ne nb];exact hb
 ·rcases cs x h with z| z
  ·show (if x=n then zB4 S (f n) else S x).Nodup;rw [eqS z];exact F.snd x z
  ·subst z;show (if x=x then zB4 S (f x) else S x).Nodup;rw [qAC rfl];exact zG5 _ _
 ·rcases cs x h with z| z
  ·have hy:y∈(if x=n then zB4 S (f n) else S x):=hy;rw [eqS z] at hy;exact F.sns x z y hy
  ·subst z;have hy:y∈(if x=x then zB4 S (f x) else S x):=hy;rw [qAC rfl] at hy;rcases zG8.mp hy with q| ⟨m,q1,q2⟩
   ·exact hs y q
   ·exact F.sns m (hf m q1) y q2
 ·rcases cs x h with z| z
  ·show y∈(if x=n then zB4 S (f n) else S x)↔y∈f x\/∃m∈f x,y∈(if m=n then zB4 S (f n) else S m);rw [eqS z,F.mem x z y];constructor
   ·rintro (q| ⟨m,q1,q2⟩)
    ·exact .inl q
    ·exact .inr ⟨m,q1,by rw [eqS (F.cl x z m q1)];exact q2⟩
   ·rintro (q| ⟨m,q1,q2⟩)
    ·exact .inl q
    ·rw [eqS (F.cl x z m q1)] at q2;exact .inr ⟨m,q1,q2⟩
  ·subst z;show y∈(if x=x then zB4 S (f x) else S x)↔y∈f x\/∃m∈f x,y∈(if m=x then zB4 S (f x) else S m);rw [qAC rfl,zG8];constructor
   ·rintro (q| ⟨m,q1,q2⟩)
    ·exact .inl q
    ·exact .inr ⟨m,q1,by rw [eqS (hf m q1)];exact q2⟩
   ·rintro (q| ⟨m,q1,q2⟩)
    ·exact .inl q
    ·rw [eqS (hf m q1)] at q2;exact .inr ⟨m,q1,q2⟩
 ·rcases cs x h with z| z
  ·exact qAs _ (F.cl x z y hy)
  ·subst z;exact qAs _ (hf y hy)
 ·rcases cs x h with z| z
  ·show (if x=n then b else fa x)≠e;rw [qAB (hx x z)];exact F.ne x z
  ·subst z;show (if x=x then b else fa x)≠e;rw [qAC rfl];exact nb
 ·rcases cs x h with z| z
  ·show Fre H0 (if x=n then b else fa x);rw [qAB (hx x z)];exact F.frs x z
  ·subst z;show Fre H0 (if x=x then b else fa x);rw [qAC rfl];exact fb
theorem zHg (r:Str->Nat):∀(L:List Str),L≠[]->∃n∈L,∀m∈L,r n<=r m
 | [],h=>absurd rfl h
 | [x],_=>⟨x,by simp,fun m hm=>by rw [qAP.mp hm];exact qAF _⟩
 | x::y::L,_=>by
  obtain ⟨n,hn,h⟩:=zHg r (y::L) (by simp)
  by_cases c:r x<=r n
  ·refine ⟨x,qAS,fun m hm=>?_⟩;rcases qAO.mp hm with z| z
   ·rw [z];exact qAF _
   ·exact qAW c (h m z)
  ·refine ⟨n,qAT _ hn,fun m hm=>?_⟩;rcases qAO.mp hm with z| z
   ·rw [z];lia
   ·exact h m z
theorem zHl {p:α->Bool} {x:α}:∀{L:List α},x∈L->p x=false->(L.filter p).length<L.length
 | a::L,h,hp=>by
  rcases qAO.mp h with z| z
  ·subst z;rw [qBw,qAB (by rw [hp];decide),qAe];exact Nat.lt_succ_of_le (qBH _ _)
  ·have:=zHl z hp;rw [qBw,qAe];split
   ·rw [qAe];lia
   ·lia
theorem zEd (D:List Str) (g:Str->V) (x:Str):(valV (dT1 D g) (.inr x)).isSome=decide (x∈D):=by
 rw [zBb]
 by_cases h:x∈D
 ·rw [qAC h,qAR h];rfl
 ·rw [qAB h,qAb h];rfl
section
def zH5:Sp:=fun vs H Q _=>∃(l d:Addr) (ns:List Str) (la:Str->Addr) (f:Str->List Str) (r:Str->Nat),vs=[.ref l,.ref d]/\Txs H l ns/\ns.Nodup/\ns.length<=20/\H d=some (.dK (dT1 ns fun n=>.ref (la n)))/\(∀n∈ns,Txs H (la n) (f n)/\(f n).length<=4096/\∀x∈f n,x∈ns/\r x<r n) /\
 ∀e D fa S H',Fp H H' e ns D fa S f->(∀n∈ns,n∈D)->Kp [] H H'->Q (.ref e) H'
abbrev zCn:Stmt:=top 30
theorem zBs:FnScope ["names", "told", "far", "left", "free", "name"] ["names", "told"] (zAd zCn):=fnS
def leftN (σ:St) (H:Hp):Nat:=match (σ[3]?:Option (Option V)) with
 | some (some (.ref a))=>match H a with
  | some (.lst xs)=>xs.length
  | _=>0
 | _=>0
theorem ok_all_ahead (F:Fun K "all_ahead" "all_ahead" zCn f fd) (T:Txt K mg) (C_has_all:Cal P w K mg base "has_all" 1 ["done", "names"] zIj) (C_joined:Cal P w K mg base "joined" 1 ["near", "far"] spJoined):FnOk P w K mg base CX0 2 f fd ["names", "told"] zH5:=by
 refine F.ok zBs (fun vs H Q E h=>?_) (fun cdv A outer s H vs Q E hr h=>?_)
 ·obtain ⟨l,d,ns,la,f,r,rfl,_⟩:=h;rfl
 ·obtain ⟨l,d,ns,la,f,r,rfl,hl,hN,hn,hd,hf,k⟩:=h;have hu:=zDq hr;have HR_has_all:=hr;have HR_joined:=hr
  refine ⟨_,(zAc (psS (i:=2) zBs.nd zB9)
   (zAc (psS (i:=3) zBs.nd (zA3 zBt (by rfl) T.z_list zCr (zAa (pv 0) zAb)))
   (zAc (zFf qAg (zGl (pv 3) (fun _=>rfl))
    (zAc (zG0 (i:=4) rfl (zBn (sc:=zAd zCn) rfl (by decide +kernel)) (Draws.own (x:= "name") (dtk (i:=2) rfl (dtk (i:=1) rfl Draws.nil))) (zAk (pv 3)) (fun _ _ _ _=>(pgB (i:=0))) (fun _ _ _ _=>(zCo (zCg (zAg C_has_all HR_has_all rfl (zAa (pv 1) (zAa (zA4 hu (pv 2) (pv 0) (fun _ _=>rfl)) zAb)))))) (fun _ _ _ _=>(pv 0)) zBs.nd rfl rfl)
    (zAc (zCc (zCw (zGl (pv 4) (fun _=>rfl)))
     (zAe zAy)
     zAq)
    (zAc (zAu qAg rfl (zAk (pv 4)) (pgN (i:=5) zBs.nd)
     (zAe (zC2 hu (pv 2) (pv 5) (zAg C_joined HR_joined rfl (zAa (zA4 hu (pv 1) (pv 5) (fun _ _=>rfl)) (zAa (pv 2) zAb))) rfl)))
    (zAe (zG0 (i:=3) rfl (zBn (sc:=zAd zCn) rfl (by decide +kernel)) (Draws.own (x:= "name") (dtk (i:=2) rfl Draws.nil)) (zAk (pv 3)) (fun _ _ _ _=>(pgB (i:=0))) (fun _ _ _ _=>(zCo (zFe (zD5 hu (pv 0) (pv 1))))) (fun _ _ _ _=>(pv 0)) zBs.nd rfl rfl))))))
   (zAe (zAo (pv 2)))))),?_⟩
  refine fun e he=>?_;have fe:Fre H e:=he;refine ⟨_,rfl,_,_,rfl,.inl (SqL.of ((Kp.new (M:=[]) Kp.refl fe) l _ hl (by simp))),fun lf hlf=>?_⟩;have k0:Kp [] H (upd H e (.dK [])):=Kp.new Kp.refl fe;have flf:Fre H lf:=k0.fre hlf (by simp);have nel:e≠lf:=ne_fre (show Fre (upd H e (.dK [])) lf from hlf) upd_same;show tWhile (fun σ H Q=>tVar 3 σ H fun x H'=>∃k,TruV K x H' k/\Q k H') _ _ _ _
  refine zE7 (fun σ H2=>∃(lf:Addr) (D:List Str) (fa:Str->Addr) (S:Str->List Str) (o4 o5:Option V),σ=[some (.ref l),some (.ref d),some (.ref e),some (.ref lf),o4,o5]/\Kp [] H H2/\Fp H H2 e ns D fa S f/\Txs H2 lf (ns.filter fun n=>decide (n∉D))) leftN
   ⟨lf,[],fun _=>0,fun _=>[],none,none,rfl,Kp.new k0 flf,⟨(upd_ne nel).trans upd_same,qAy,(fun n h=>nomatch h),(fun n h=>nomatch h),(fun n h=>nomatch h),(fun n h=>nomatch h),(fun n h=>nomatch h),(fun n h=>nomatch h),(fun n h=>nomatch h),fe,(fun n h=>nomatch h)⟩,by
    have ef:(ns.filter fun n=>decide (n∉([]:List Str)))=ns:=by simp
    show upd _ lf _ lf=some (.lst ((ns.filter fun n=>decide (n∉([]:List Str))).map V.str));rw [ef];exact upd_same⟩ ?_ (fun σ H Q Q' hq hc=>by
    obtain ⟨x,e,b,t,q⟩:=hc;exact ⟨x,e,b,t,hq _ _ q⟩)
  rintro σ H2 ⟨lf,D,fa,S,o4,o5,rfl,k2,FP,hlf⟩;refine ⟨_,rfl,_,.inl ⟨_,SqL.of hlf,rfl⟩,?_⟩;have hLs:∀n,n∈(ns.filter fun n=>decide (n∉D))↔n∈ns/\n∉D:=fun n=>by simp [qAY]
  have hLl:(ns.filter fun n=>decide (n∉D)).length<=20:=qAW (qBH _ _) hn;generalize hL:(ns.filter fun n=>decide (n∉D))=L at *
  refine ite2 (fun c=>?_) (fun c=>?_)
  ·have cL:L≠[]:=fun z=>by rw [z] at c;simp at c
   refine ⟨_,rfl,_,rfl,⟨_,SqL.of hlf⟩,fun B hB=>zBm (L.map V.str) (fun i ys τ H3=>(∃o0,τ=[o0,some (.ref e),some (.ref d)])/\ys=((L.take i).filter fun n=>(f n).all fun m=>decide (m∈D)).map V.str/\Kp [] H2 H3/\H3 B=some (.lst ys))
    ⟨⟨_,rfl⟩,rfl,Kp.new Kp.refl hB,upd_same⟩ (fun i ys τ H3 ⟨_,_,k3,_⟩=>SqL.of (k3 lf _ hlf (by simp))) ?_ ?_⟩
   ·rintro i v ys τ H3 hv ⟨⟨o0,rfl⟩,rfl,k3,h3⟩;obtain ⟨n,en,rfl⟩:=zA2 hv;have mn:=(hLs n).mp (qAL en);obtain ⟨n1,n2,n3⟩:=hf n mn.1;have k23:=k2.trans k3;refine ⟨_,rfl,_,rfl,_,rfl,_,.ref (la n),rfl,?_,e,la n,_,f n,rfl,k3 e _ FP.top (by simp),k23 _ _ n1 (by simp),n2,fun H4 k4=>?_⟩
    ·have:=DGet.k (k:=Sum.inr n) (k23 d _ hd (by simp));rw [zBb,qAC mn.1] at this;exact this
    have eall:((f n).all fun m=>(valV (dT1 D fun n=>V.ref (fa n)) (.inr m)).isSome)=(f n).all fun m=>decide (m∈D):=by
     congr 1;funext m;exact zEd D _ m
    rw [eall];have h4:=k4 B _ h3 (by simp);have et:=zAi en;refine ⟨_,rfl,ite2 (fun c=>?_) (fun c=>?_)⟩
    ·refine ⟨_,rfl,h4,?_,⟨_,rfl⟩,?_,Kp.new (k3.trans k4) hB,upd_same⟩
     ·rw [qAD,qAM];have h1:=qBH (fun n=>(f n).all fun m=>decide (m∈D)) (L.take i);rw [qAX] at h1;lia
     ·rw [et,qCD,qAU];have:[n].filter (fun n=>(f n).all fun m=>decide (m∈D))=[n]:=by rw [qBw,qAC c];rfl
      rw [this];rfl
    ·refine ⟨⟨_,rfl⟩,?_,k3.trans k4,?_⟩
     ·rw [et,qCD];have:[n].filter (fun n=>(f n).all fun m=>decide (m∈D))=[]:=by rw [qBw,qAB c];rfl
      rw [this,qA2]
     ·exact h4
   ·rintro ys τ H3 ⟨_,rfl,k3,h3⟩;have eT:L.take (L.map V.str).length=L:=by rw [qAD,qAj]
    rw [eT] at h3;have hFr:∀n,n∈(L.filter fun n=>(f n).all fun m=>decide (m∈D))↔n∈L/\∀m∈f n,m∈D:=fun n=>by simp [qAY]
    have hFl:(L.filter fun n=>(f n).all fun m=>decide (m∈D)).length<=20:=qAW (qBH _ _) hLl
    have hFn:(L.filter fun n=>(f n).all fun m=>decide (m∈D)).Nodup:=by
     have:L.Nodup:=by rw [<-hL];exact hN.sublist qBR
     exact this.sublist qBR
    have hF0:(L.filter fun n=>(f n).all fun m=>decide (m∈D))≠[]:=by
     obtain ⟨n,n1,n2⟩:=zHg r L cL;refine List.ne_nil_of_mem ((hFr n).mpr ⟨n1,fun m hm=>?_⟩);have mn:=(hLs n).mp n1;obtain ⟨q1,q2⟩:=(hf n mn.1).2.2 m hm;apply qBE;intro z;have:=n2 m ((hLs m).mpr ⟨q1,z⟩);lia
    generalize hFE:(L.filter fun n=>(f n).all fun m=>decide (m∈D))=FR at *
    have k23:=k2.trans k3;refine ⟨_,rfl,_,.inl ⟨_,SqL.of h3,rfl⟩,?_⟩
    have e0:(!(FR.map V.str).isEmpty)=true:=by
     cases FR with
     | nil=>exact absurd rfl hF0
     | cons _ _=>rfl
    rw [e0];refine iteF ?_
    refine ⟨_,rfl,_,rfl,⟨_,SqL.of h3⟩,zAv (fun i σ H4=>∃(fa:Str->Addr) (S:Str->List Str) (o5:Option V),σ=[some (.ref l),some (.ref d),some (.ref e),some (.ref lf),some (.ref B),o5]/\Kp [] H H4/\Fp H H4 e ns (D++FR.take i) fa S f/\Txs H4 lf L/\Txs H4 B FR)
     ⟨fa,S,_,rfl,k23,by rw [qDJ,qA2];exact FP.kp k3,k3 lf _ hlf (by simp),h3⟩ (fun i σ H4 _ ⟨_,_,_,_,_,_,_,h⟩=>SqL.of h) ?_ ?_⟩
    ·rintro i v σ H4 hv ⟨fa4,S4,o5',rfl,k4,F4,hlf4,hB4⟩;obtain ⟨n,en,rfl⟩:=zA2 hv;have mF:=(hFr n).mp (qAL en);have mn:=(hLs n).mp mF.1;obtain ⟨n1,n2,n3⟩:=hf n mn.1
     have nD:n∉D++FR.take i:=fun z=>by
      rcases qAQ.mp z with y| y
      ·exact mn.2 y
      ·exact zEm hFn en y
     have fD:∀x∈f n,x∈D++FR.take i:=fun x hx=>qAs _ (mF.2 x hx);refine ⟨_,rfl,_,rfl,_,.ref (la n),rfl,?_,_,rfl,la n,e,f n,D++FR.take i,ns,fa4,S4,rfl,k4 _ _ n1 (by simp),F4.top,fun m hm=>⟨fD m hm,(n3 m hm).1,F4.row m (fD m hm),F4.sns m (fD m hm)⟩,hn,fun m hm=>qAW (zBi (F4.snd m (fD m hm)) (F4.sns m (fD m hm))) hn,fun b H5 fb hb k5=>?_⟩
     ·have:=DGet.k (k:=Sum.inr n) (k4 d _ hd (by simp));rw [zBb,qAC mn.1] at this;exact this
     have F5:=F4.kp k5;have fbH:Fre H b:=k4.fre fb (by simp);refine ⟨_,rfl,_,rfl,_,_,rfl,DPut.k (k:=Sum.inr n) F5.top ?_,?_⟩
     ·have:=zBi F5.nd F5.sub;rw [qAD,qAM];lia
     ·have FM:=F5.more mn.1 nD fD (fun x hx=>(n3 x hx).1) hb (qAr (ne_fre fb F4.top)) fbH;rw [qBM,<-zAi en] at FM;exact ⟨_,_,_,rfl,Kp.new (k4.trans k5) fe,FM,(upd_ne (zBw hlf4 F4.top (fun z=>nomatch z))).trans (k5 lf _ hlf4 (by simp)),(upd_ne (zBw hB4 F4.top (fun z=>nomatch z))).trans (k5 B _ hB4 (by simp))⟩
    ·rintro σ H4 ⟨fa4,S4,o5',rfl,k4,F4,hlf4,hB4⟩;have eF:FR.take (FR.map V.str).length=FR:=by rw [qAD,qAj]
     rw [eF] at F4
     refine ⟨_,rfl,_,rfl,⟨_,SqL.of hlf4⟩,fun G hG=>zBm (L.map V.str) (fun i ys τ H5=>(∃o0,τ=[o0,some (.ref e)])/\ys=((L.take i).filter fun n=>decide (n∉D++FR)).map V.str/\H5=upd H4 G (.lst ys))
      ⟨⟨_,rfl⟩,rfl,rfl⟩ (fun i ys τ H5 ⟨_,_,z⟩=>by subst z;exact SqL.of ((upd_ne (ne_fre (show Fre H4 G from hG) hlf4)).trans hlf4)) ?_ ?_⟩
     ·rintro i v ys τ H5 hv ⟨⟨o0,rfl⟩,rfl,rfl⟩;obtain ⟨n,en,rfl⟩:=zA2 hv;refine ⟨_,rfl,_,rfl,_,_,rfl,DGet.k (k:=Sum.inr n) ((upd_ne (ne_fre (show Fre H4 G from hG) F4.top)).trans F4.top),_,rfl,?_⟩;rw [zEd];have et:=zAi en;refine ite2 (fun c=>?_) (fun c=>?_)
      ·have c':n∉D++FR:=fun z=>by rw [qAR z] at c;exact nomatch c
       refine ⟨_,rfl,upd_same,?_,⟨_,rfl⟩,?_,zCf⟩
       ·rw [qAD,qAM];have h1:=qBH (fun n=>decide (n∉D++FR)) (L.take i);rw [qAX] at h1;lia
       ·rw [et,qCD,qAU];have:[n].filter (fun n=>decide (n∉D++FR))=[n]:=by rw [qBw,qAC (qAR c')];rfl
        rw [this];rfl
      ·have c':n∈D++FR:=by
        apply qBE;intro z;rw [qAb z] at c;exact c rfl
       have e2:(L.take (i+1)).filter (fun n=>decide (n∉D++FR))=(L.take i).filter (fun n=>decide (n∉D++FR)):=by
        rw [et,qCD];have:[n].filter (fun n=>decide (n∉D++FR))=[]:=by rw [qBw,qAB (by rw [qAb (fun z=>z c')];decide)];rfl
        rw [this,qA2]
       refine ⟨⟨_,rfl⟩,?_,?_⟩
       ·rw [e2]
       ·rfl
     ·rintro ys τ H5 ⟨_,rfl,rfl⟩;have eT:L.take (L.map V.str).length=L:=by rw [qAD,qAj]
      rw [eT];have nGe:e≠G:=ne_fre (show Fre H4 G from hG) F4.top
      have eFF:(L.filter fun n=>decide (n∉D++FR))=ns.filter fun n=>decide (n∉D++FR):=by
       rw [<-hL,List.filter_filter];refine List.filter_congr fun n _=>?_
       by_cases z:n∈D
       ·have:n∈D++FR:=qAs _ z;rw [qAb (fun y=>y this)];rfl
       ·rw [qAR z,Bool.and_true]
      refine ⟨⟨G,D++FR,fa4,S4,_,_,rfl,Kp.new k4 (k4.fre (show Fre H4 G from hG) (by simp)),F4.kp (Kp.new Kp.refl hG),?_⟩,?_⟩
      ·rw [<-eFF];exact upd_same
      ·have m1:leftN [some (V.ref l),some (.ref d),some (.ref e),some (.ref lf),o4,o5] H2=L.length:=by
        show (match H2 lf with| some (.lst xs)=>xs.length| _=>0)=_;rw [hlf];simp
       have m2:∀o4 o5,leftN [some (V.ref l),some (.ref d),some (.ref e),some (.ref G),o4,o5] (upd H4 G (.lst ((L.filter fun n=>decide (n∉D++FR)).map V.str)))=(L.filter fun n=>decide (n∉D++FR)).length:=fun o4 o5=>by
        show (match upd H4 G (.lst ((L.filter fun n=>decide (n∉D++FR)).map V.str)) G with| some (.lst xs)=>xs.length| _=>0)=_;rw [upd_same];simp
       rw [m1];refine qC7 (qBl (m2 _ _)) ?_;obtain ⟨n,hnF⟩:=List.exists_mem_of_ne_nil FR hF0;have hnL:=((hFr n).mp hnF).1;exact zHl hnL (qAb fun z=>z (qAv _ hnF))
  ·have cL:L=[]:=by
    cases L with
    | nil=>rfl
    | cons _ _=>exact absurd rfl c
   refine ⟨_,rfl,k e D fa S H2 FP (fun n hn'=>?_) k2⟩;apply qBE;intro z;have:=(hLs n).mpr ⟨hn',z⟩;rw [cL] at this;exact nomatch this
end
def jf (r p e:Addr):List (Str×V):=putF "above" (.ref e) (putF "pairs" (.ref p) (putF "row" (.ref r) []))
theorem jf_row (r p e:Addr):(jf r p e).lookup ("row" : Str)=some (.ref r):=by
 unfold jf;rw [zAt,qAB (by decide +kernel),zAt,qAB (by decide +kernel),zAt,qAC rfl]
theorem zI1 (r p e:Addr):(jf r p e).lookup ("above" : Str)=some (.ref e):=by
 unfold jf;rw [zAt,qAC rfl]
theorem jf_no (r p e:Addr) {m:Str} (h1:¬m= "above") (h2:¬m= "pairs") (h3:¬m= "row"):(jf r p e).lookup m=none:=by
 unfold jf;rw [zAt,qAB h1,zAt,qAB h2,zAt,qAB h3];rfl
structure JC (K:PySem.W.Frag) (mg:Str->Option Value) (C:Addr):Prop where
 cl:Cls K C
 n_row:zFq K C "row"
 n_pairs:zFq K C "pairs"
 n_above:zFq K C "above"
 mgC:mg "Jobs" = some (.ref C)
structure JR where
 dx:Addr
 r:Addr
 p:Addr
 e:Addr
 ns:List Str
 zs:List (List Str×Addr)
 D:List Str
 fa:Str->Addr
 S:Str->List Str
structure JobsAt (C:Addr) (H:Hp) (j:Addr) (J:JR):Prop where
 ob:H j=some (.ins C J.dx (jf J.r J.p J.e))
 row:Txs H J.r J.ns
 prs:Ords H J.p J.zs
 abv:H J.e=some (.dK (dT1 J.D fun n=>.ref (J.fa n)))
 all:∀n∈J.ns,n∈J.D
 sets:∀n∈J.D,SetD H (J.fa n) (J.S n)
 few:J.ns.length<=20
 zfew:J.zs.length<=306
 nd:J.ns.Nodup
 zin:∀q∈J.zs,∀x∈q.1,x∈J.ns
 mem:∀n∈J.ns,∀x,x∈J.S n↔x∈told J.zs n\/∃m∈told J.zs n,x∈J.S m
theorem JobsAt.kp {M:List Addr} {C:Addr} {j:Addr} {J:JR} (A:JobsAt C H j J) (k:Kp M H H') (h:∀a o,H a=some o->a∈M->a≠j/\a≠J.r/\a≠J.p/\a≠J.e/\(∀q∈J.zs,a≠q.2)/\∀n∈J.D,a≠J.fa n):JobsAt C H' j J where
 ob:=k _ _ A.ob fun z=>(h _ _ A.ob z).1 rfl
 row:=k _ _ A.row fun z=>(h _ _ A.row z).2.1 rfl
 prs:=⟨k _ _ A.prs.top fun z=>(h _ _ A.prs.top z).2.2.1 rfl,fun q hq=>k _ _ (A.prs.row q hq) fun z=>(h _ _ (A.prs.row q hq) z).2.2.2.2.1 q hq rfl,A.prs.two⟩
 abv:=k _ _ A.abv fun z=>(h _ _ A.abv z).2.2.2.1 rfl
 all:=A.all
 sets:=fun n hn=>k _ _ (A.sets n hn) fun z=>(h _ _ (A.sets n hn) z).2.2.2.2.2 n hn rfl
 few:=A.few
 zfew:=A.zfew
 nd:=A.nd
 zin:=A.zin
 mem:=A.mem
theorem JobsAt.kp0 {C:Addr} {j:Addr} {J:JR} (A:JobsAt C H j J) (k:Kp [] H H'):JobsAt C H' j J:=A.kp k fun _ _ _ z=>nomatch z
section
def zIh (C:Addr):Sp:=fun vs H Q _=>∃(j:Addr) (J:JR),vs=[.ref j]/\JobsAt C H j J/\∀l H',Fre H l->Txs H' l J.ns->Kp [] H H'->Q (.ref l) H'
abbrev zD3:Stmt:=zFw (top 33) 1
theorem zIn:FnScope ["self"] ["self"] (zAd zD3):=fnS
theorem zIw (F:Fun K "names" "Jobs.names" zD3 f fd) (T:Txt K mg) (U:JC K mg C):FnOk P w K mg base CX0 1 f fd ["self"] (zIh C):=by
 refine F.ok zIn (fun vs H Q E h=>?_) (fun cdv A outer s H vs Q E hr h=>?_)
 ·obtain ⟨j,J,rfl,_⟩:=h;rfl
 ·obtain ⟨j,J,rfl,A0,k⟩:=h;refine ⟨_,(zAe (zAo (zA3 zBt (by rfl) T.z_list zCr (zAa (zFi (pv 0) rfl) zAb)))),?_⟩;refine ⟨_,rfl,_,_,_,_,_,rfl,A0.ob,U.cl,U.n_row,jf_row _ _ _,_,_,rfl,.inl (SqL.of A0.row),fun l hl=>?_⟩;exact k l _ hl upd_same (Kp.new Kp.refl hl)
theorem abv_get {j:Addr} {J:JR} (A:JobsAt C H j J) (hy:y∈J.ns):DGet H J.e (.str y) (some (.ref (J.fa y))):=by
 have:=DGet.k (k:=Sum.inr y) A.abv;rw [zBb,qAC (A.all y hy)] at this;exact this
theorem zGw {e:Addr} {B:List Str} (h:SetD H e B) (x:Str):∃o,DGet H e (.str x) o/\o.isSome=decide (x∈B):=⟨_,DGet.k (k:=Sum.inr x) h,zEd B _ x⟩
end
section
theorem pe_fldK {X:Cx} {K:PySem.W.Frag} {e:Expr} {f:Str} {pos:Pos} {ta:TE} (he:PE X e ta) (hb:attributeBase e f X.env (eval e X.env)=eval e X.env) (hK:X.K=K:=by rfl):PE X (.Attribute e f pos) (tFld K ta f):=by
 subst hK;exact zFi he hb
theorem zDr {p:α->Bool} {xs:List α} {x:α} (e:xs[i]?=some x) (h:p x=true):(xs.take (i+1)).filter p=(xs.take i).filter p++[x]:=by
 rw [zAi e,qCD,qBw,qAC h];rfl
theorem zE5 {p:α->Bool} {xs:List α} {x:α} (e:xs[i]?=some x) (h:¬p x=true):(xs.take (i+1)).filter p=(xs.take i).filter p:=by
 rw [zAi e,qCD,qBw,qAB h];simp
theorem zDs {p:α->Bool} {xs:List α} (h:xs.length<=4096):(((xs.take i).filter p)).length<sizeLine:=by
 have h1:=qBH p (xs.take i);rw [qAX] at h1;rw [qAM];lia
def spBehind (C:Addr):Sp:=fun vs H Q _=>∃(j:Addr) (J:JR) (x:Str),vs=[.ref j,.str x]/\JobsAt C H j J/\x∈J.ns/\∀l H',Fre H l->Txs H' l (J.ns.filter fun n=>decide (x∈J.S n))->Kp [] H H'->Q (.ref l) H'
abbrev zCh:Stmt:=zFw (top 33) 4
theorem zHq:FnScope ["self", "name"] ["self", "name"] (zAd zCh):=fnS
theorem zHv (F:Fun K "behind" "Jobs.behind" zCh f fd) (T:Txt K mg) (U:JC K mg C) (C_check_job:Cal P w K mg base "check_job" 2 ["names", "thing"] zEi):FnOk P w K mg base CX0 3 f fd ["self", "name"] (spBehind C):=by
 refine F.ok zHq (fun vs H Q E h=>?_) (fun cdv A outer s H vs Q E hr h=>?_)
 ·obtain ⟨j,J,x,rfl,_⟩:=h;rfl
 ·obtain ⟨j,J,x,rfl,A0,hx,k⟩:=h;have HR_check_job:=hr;have hu:=zDq hr
  refine ⟨_,(zAc (zAr (zAg C_check_job HR_check_job rfl (zAa (zFi (pv 0) rfl) (zAa (pv 1) zAb))))
   (zAe (zAo (zBj rfl (zBn (sc:=zAd zCh) rfl (by decide +kernel)) (Draws.own (x:= "other") (dtk (i:=1) rfl (dtk (i:=0) rfl Draws.nil))) (zAk (zFi (pv 0) rfl)) (fun _ _ _ _=>(pgB (i:=0))) (fun _ _ _ _=>(zCo (zFe (zG2 hu (pv 1) (zA4 hu (pe_fldK (K:=K) (pv 2) rfl) (pv 0) (fun _ _=>rfl)))))) (fun _ _ _ _=>(pv 0)))))),?_⟩
  refine ⟨_,rfl,_,_,_,_,_,rfl,A0.ob,U.cl,U.n_row,jf_row _ _ _,_,rfl,x,_,_,rfl,A0.row,hx,?_⟩
  refine ⟨_,rfl,_,_,_,_,_,rfl,A0.ob,U.cl,U.n_row,jf_row _ _ _,_,rfl,⟨_,SqL.of A0.row⟩,fun B hB=>zBm (J.ns.map V.str) (fun i ys τ H3=>(∃o0,τ=[o0,some (.str x),some (.ref j)])/\ys=((J.ns.take i).filter fun n=>decide (x∈J.S n)).map V.str/\H3=upd H B (.lst ys))
   ⟨⟨_,rfl⟩,rfl,rfl⟩ (fun i ys τ H3 ⟨_,_,z⟩=>by subst z;exact SqL.of ((Kp.new (M:=[]) Kp.refl hB) _ _ A0.row (by simp))) ?_ ?_⟩
  ·rintro i v ys τ H3 hv ⟨⟨o0,rfl⟩,rfl,rfl⟩;obtain ⟨n,en,rfl⟩:=zA2 hv;have mn:=qAL en;have A3:=A0.kp0 (Kp.new (l:=B) (o:=.lst (((J.ns.take i).filter fun n=>decide (x∈J.S n)).map V.str)) Kp.refl hB);obtain ⟨o,g1,g2⟩:=zGw (A3.sets n (A3.all n mn)) x;refine ⟨_,rfl,_,rfl,_,_,_,_,_,rfl,A3.ob,U.cl,U.n_above,zI1 _ _ _,_,rfl,_,_,rfl,abv_get A3 mn,_,o,rfl,g1,_,rfl,?_⟩;rw [g2];refine ite2 (fun c=>?_) (fun c=>?_)
   ·refine ⟨_,rfl,upd_same,?_,⟨_,rfl⟩,?_,zCf⟩
    ·rw [qAD];exact zDs (by have:=A0.few;lia)
    ·rw [zDr en c,qAU];rfl
   ·refine ⟨⟨_,rfl⟩,?_,?_⟩
    ·rw [zE5 en c]
    ·rfl
  ·rintro ys τ H3 ⟨_,rfl,rfl⟩;have eT:J.ns.take (J.ns.map V.str).length=J.ns:=by rw [qAD,qAj]
   rw [eT];exact k B _ hB upd_same (Kp.new Kp.refl hB)
def spAhead (C:Addr):Sp:=fun vs H Q _=>∃(j:Addr) (J:JR) (x:Str),vs=[.ref j,.str x]/\JobsAt C H j J/\x∈J.ns/\∀l H',Fre H l->Txs H' l (J.ns.filter fun n=>decide (n∈J.S x))->Kp [] H H'->Q (.ref l) H'
abbrev zCu:Stmt:=zFw (top 33) 5
theorem zIo:FnScope ["self", "name"] ["self", "name"] (zAd zCu):=fnS
theorem zIx (F:Fun K "ahead" "Jobs.ahead" zCu f fd) (T:Txt K mg) (U:JC K mg C) (C_check_job:Cal P w K mg base "check_job" 2 ["names", "thing"] zEi):FnOk P w K mg base CX0 3 f fd ["self", "name"] (spAhead C):=by
 refine F.ok zIo (fun vs H Q E h=>?_) (fun cdv A outer s H vs Q E hr h=>?_)
 ·obtain ⟨j,J,x,rfl,_⟩:=h;rfl
 ·obtain ⟨j,J,x,rfl,A0,hx,k⟩:=h;have HR_check_job:=hr;have hu:=zDq hr
  refine ⟨_,(zAc (zAr (zAg C_check_job HR_check_job rfl (zAa (zFi (pv 0) rfl) (zAa (pv 1) zAb))))
   (zAe (zAo (zBj rfl (zBn (sc:=zAd zCu) rfl (by decide +kernel)) (Draws.own (x:= "other") (dtk (i:=1) rfl (dtk (i:=0) rfl Draws.nil))) (zAk (zFi (pv 0) rfl)) (fun _ _ _ _=>(pgB (i:=0))) (fun _ _ _ _=>(zCo (zFe (zG2 hu (pv 0) (zA4 hu (pe_fldK (K:=K) (pv 2) rfl) (pv 1) (fun _ _=>rfl)))))) (fun _ _ _ _=>(pv 0)))))),?_⟩
  refine ⟨_,rfl,_,_,_,_,_,rfl,A0.ob,U.cl,U.n_row,jf_row _ _ _,_,rfl,x,_,_,rfl,A0.row,hx,?_⟩
  refine ⟨_,rfl,_,_,_,_,_,rfl,A0.ob,U.cl,U.n_row,jf_row _ _ _,_,rfl,⟨_,SqL.of A0.row⟩,fun B hB=>zBm (J.ns.map V.str) (fun i ys τ H3=>(∃o0,τ=[o0,some (.str x),some (.ref j)])/\ys=((J.ns.take i).filter fun n=>decide (n∈J.S x)).map V.str/\H3=upd H B (.lst ys))
   ⟨⟨_,rfl⟩,rfl,rfl⟩ (fun i ys τ H3 ⟨_,_,z⟩=>by subst z;exact SqL.of ((Kp.new (M:=[]) Kp.refl hB) _ _ A0.row (by simp))) ?_ ?_⟩
  ·rintro i v ys τ H3 hv ⟨⟨o0,rfl⟩,rfl,rfl⟩;obtain ⟨n,en,rfl⟩:=zA2 hv;have A3:=A0.kp0 (Kp.new (l:=B) (o:=.lst (((J.ns.take i).filter fun n=>decide (n∈J.S x)).map V.str)) Kp.refl hB);obtain ⟨o,g1,g2⟩:=zGw (A3.sets x (A3.all x hx)) n;refine ⟨_,rfl,_,rfl,_,_,_,_,_,rfl,A3.ob,U.cl,U.n_above,zI1 _ _ _,_,rfl,_,_,rfl,abv_get A3 hx,_,o,rfl,g1,_,rfl,?_⟩;rw [g2];refine ite2 (fun c=>?_) (fun c=>?_)
   ·refine ⟨_,rfl,upd_same,?_,⟨_,rfl⟩,?_,zCf⟩
    ·rw [qAD];exact zDs (by have:=A0.few;lia)
    ·rw [zDr en c,qAU];rfl
   ·refine ⟨⟨_,rfl⟩,?_,?_⟩
    ·rw [zE5 en c]
    ·rfl
  ·rintro ys τ H3 ⟨_,rfl,rfl⟩;have eT:J.ns.take (J.ns.map V.str).length=J.ns:=by rw [qAD,qAj]
   rw [eT];exact k B _ hB upd_same (Kp.new Kp.refl hB)
end
end My
namespace TimP
open PySem PyProof.Rows Tim
variable {i n lo nrem:Nat}{x:Keyed}{st:SortSt}{α:Type}
theorem perm_ct {l m:List Keyed} (h:∀p:Keyed->Bool,l.countP p=m.countP p):l.Perm m:=by
 letI:DecidableEq Keyed:=fun a b=>Classical.propDecidable (a=b)
 exact List.perm_iff_count.mpr fun x=>h (·==x)
theorem cd {a:Array Keyed} {j:Nat} (h:i<=j) (p:Keyed->Bool):(a.extract i j).toList.countP p+(a.toList.drop j).countP p=(a.toList.drop i).countP p:=by
 have e:a.toList.drop j=(a.toList.drop i).drop (j - i):=by rw [List.drop_drop];congr 1;lia
 rw [qBd,List.extract_eq_drop_take,e,<-qCE,qA8]
theorem ck {a:Array Keyed} {j:Nat} (h:i<=j) (p:Keyed->Bool):(a.extract i j).toList.countP p+(a.toList.take i).countP p=(a.toList.take j).countP p:=by
 have h1:=cd (a:=a) h p;have h2:=qAk (List.countP p) (qA8 i a.toList);have h3:=qAk (List.countP p) (qA8 j a.toList);rw [qCE] at h2 h3;lia
theorem zIu {a:Array Keyed} (e:a[i]?=some x):(a.extract i (i+1)).toList=[x]:=by
 have hi:=(qBr.mp e).1;have hx:=(qBr.mp e).2;rw [qBd,List.extract_eq_drop_take,Nat.add_sub_cancel_left,qCc (by simpa using hi)];simp [hx]
theorem all0 (a:Array Keyed) (p:Keyed->Bool):(a.toList.drop a.size).countP p=0:=by rw [qCx (by simp)];rfl
theorem zDx (a b:Array Keyed) (p:Keyed->Bool):(a++b).toList.countP p=a.toList.countP p+b.toList.countP p:=by rw [qCj,qCE]
theorem zJa (a:Array Keyed) (x:Keyed) (p:Keyed->Bool):(a.push x).toList.countP p=a.toList.countP p+[x].countP p:=by rw [qCW,qCE]
theorem ct_rev (a:Array Keyed) (p:Keyed->Bool):a.reverse.toList.countP p=a.toList.countP p:=by rw [Array.toList_reverse,List.countP_reverse]
section
variable {a b out:Array Keyed} {ia ib:Nat}
structure MI (a b out:Array Keyed) (ia ib:Nat):Prop where
 la:ia<=a.size
 lb:ib<=b.size
 ct:∀p,out.toList.countP p+(a.toList.drop ia).countP p+(b.toList.drop ib).countP p=a.toList.countP p+b.toList.countP p
def Fn (a b r:Array Keyed):Prop:=∀p,r.toList.countP p=a.toList.countP p+b.toList.countP p
theorem MI.tAs (M:MI a b out ia ib) (k:Nat) (h:ia+k<=a.size):MI a b (out++a.extract ia (ia+k)) (ia+k) ib:=⟨h,M.lb,fun p=>by
 have h1:=M.ct p;have h2:=cd (a:=a) (show ia<=ia+k by lia) p;rw [zDx];lia⟩
theorem MI.tBs (M:MI a b out ia ib) (k:Nat) (h:ib+k<=b.size):MI a b (out++b.extract ib (ib+k)) ia (ib+k):=⟨M.la,h,fun p=>by
 have h1:=M.ct p;have h2:=cd (a:=b) (show ib<=ib+k by lia) p;rw [zDx];lia⟩
theorem MI.tA (M:MI a b out ia ib) (e:a[ia]?=some x):MI a b (out.push x) (ia+1) ib:=⟨(qBr.mp e).1,M.lb,fun p=>by
 have h1:=M.ct p;have h2:=cd (a:=a) (show ia<=ia+1 by lia) p;rw [zIu e] at h2;rw [zJa];lia⟩
theorem MI.tB (M:MI a b out ia ib) (e:b[ib]?=some x):MI a b (out.push x) ia (ib+1):=⟨M.la,(qBr.mp e).1,fun p=>by
 have h1:=M.ct p;have h2:=cd (a:=b) (show ib<=ib+1 by lia) p;rw [zIu e] at h2;rw [zJa];lia⟩
theorem MI.f1 (M:MI a b out ia ib):Fn a b (out++a.extract ia a.size++b.extract ib b.size):=fun p=>by
 have h1:=M.ct p;have h2:=cd (a:=a) M.la p;have h3:=cd (a:=b) M.lb p;rw [all0] at h2 h3;rw [zDx,zDx];lia
theorem MI.f2 (M:MI a b out ia ib):Fn a b (out++b.extract ib b.size++a.extract ia a.size):=fun p=>by
 have h1:=M.f1 p;rw [zDx,zDx] at h1 ⊢;lia
structure MH (a b out:Array Keyed) (ia ib:Nat):Prop where
 la:ia<=a.size
 lb:ib<=b.size
 ct:∀p,out.toList.countP p+(a.toList.take ia).countP p+(b.toList.take ib).countP p=a.toList.countP p+b.toList.countP p
theorem MH.tAs (M:MH a b out ia ib) (k:Nat) (h:k<=ia):MH a b (out++(a.extract k ia).reverse) k ib:=⟨by have:=M.la;lia,M.lb,fun p=>by
 have h1:=M.ct p;have h2:=ck (a:=a) h p;rw [zDx,ct_rev];lia⟩
theorem MH.tBs (M:MH a b out ia ib) (k:Nat) (h:k<=ib):MH a b (out++(b.extract k ib).reverse) ia k:=⟨M.la,by have:=M.lb;lia,fun p=>by
 have h1:=M.ct p;have h2:=ck (a:=b) h p;rw [zDx,ct_rev];lia⟩
theorem MH.tA (M:MH a b out (ia+1) ib) (e:a[ia]?=some x):MH a b (out.push x) ia ib:=⟨by have:=M.la;lia,M.lb,fun p=>by
 have h1:=M.ct p;have h2:=ck (a:=a) (show ia<=ia+1 by lia) p;rw [zIu e] at h2;rw [zJa];lia⟩
theorem MH.tB (M:MH a b out ia (ib+1)) (e:b[ib]?=some x):MH a b (out.push x) ia ib:=⟨M.la,by have:=M.lb;lia,fun p=>by
 have h1:=M.ct p;have h2:=ck (a:=b) (show ib<=ib+1 by lia) p;rw [zIu e] at h2;rw [zJa];lia⟩
theorem MH.f1 (M:MH a b out ia ib):Fn a b (a.extract 0 ia++b.extract 0 ib++out.reverse):=fun p=>by
 have h1:=M.ct p;have h2:=ck (a:=a) (qAd ia) p;have h3:=ck (a:=b) (qAd ib) p;rw [qDJ,List.countP_nil] at h2 h3;rw [zDx,zDx,ct_rev];lia
theorem MH.f2 (M:MH a b out ia ib):Fn a b (b.extract 0 ib++a.extract 0 ia++out.reverse):=fun p=>by
 have h1:=M.f1 p;rw [zDx,zDx] at h1 ⊢;lia
end
structure Like (st st':SortSt):Prop where
 kd:kindOf st'=kindOf st
 ar:arrOf st'=arrOf st
 pn:pendingOf st'=pendingOf st
 fl:failedOf st'=failedOf st
theorem Like.refl (st:SortSt):Like st st:=⟨rfl,rfl,rfl,rfl⟩
theorem Like.trans {a b c:SortSt} (h:Like a b) (k:Like b c):Like a c:=⟨k.kd.trans h.kd,k.ar.trans h.ar,k.pn.trans h.pn,k.fl.trans h.fl⟩
section
variable {prog:Program} {w:World} {A:Around} {E:Value->Shared->Prop} {s:Shared} {kd:SortKind} {κ:KeyKind} {a b:Array Keyed}
theorem zB2 {a:Array Keyed} (ha:∀x∈a.toList,Has κ x) (hi:i<a.size):∃p,a[i]?=some p/\Has κ p :=
 ⟨a[i],by simp,ha _ (by simp)⟩
theorem w_gal {left:Bool} {key:Keyed} {arr:Array Keyed} {base hint:Nat} {Q:Option Nat->SortSt->Prop} (C:CmpOk prog w A s kd κ) (hk:kindOf st=kd) (hkey:Has κ key)
  (hin:∀i,i<n->∃q,arr[base+i]?=some q/\Has κ q) (hh:hint<n) (h:∀k,k<=n->Q (some k) st):wpS (model prog w) A E s (gal left key arr base n hint) Q st:=by
 have ask:∀(i:Nat) {R:Option Bool->SortSt->Prop},i<n->(∀c,R (some c) st)->wpS (model prog w) A E s (byd left key arr base i) R st:=fun i R hi hR=>w_byd C hk hkey (hin i hi) (hR _)
 have bin:∀(l r:Nat),l<=r->r<=n->∀(F:Nat->Option (Option Nat)×Nat×Nat->StateT SortSt Sem (ForInStep (Option (Option Nat)×Nat×Nat))),
   (∀x l r,F x (none,l,r)=(if l>=r then pure (ForInStep.done (none,l,r)) else do
    let c<-byd left key arr base (l+(r - l) / 2)
    match c with
    | some more=>if more=true then pure (ForInStep.yield (none,l+(r - l) / 2+1,r)) else pure (ForInStep.yield (none,l,l+(r - l) / 2))
    | _=>pure (ForInStep.done (some none,l,r))))->∀G:Option (Option Nat)×Nat×Nat->StateT SortSt Sem (Option Nat),(∀l r,G (none,l,r)=pure (some r)) ->
   wpS (model prog w) A E s (forIn [:n] ((none,l,r):Option (Option Nat)×Nat×Nat) F >>= G) Q st:=by
  intro l r hlr hrn F hF G hG
  refine qAG (qA3 (qAz (I:=fun x c st'=>st'=st/\∃l r,c=(none,l,r)/\l<=r/\r<=n/\r - l<=n - x)
   (Q:=fun c st'=>st'=st/\∃l r,c=(none,l,r)/\r<=n) ?step ?fin ⟨rfl,l,r,rfl,hlr,hrn,by lia⟩) ?post)
  case fin =>
   rintro c st' ⟨rfl,l,r,rfl,h1,h2,h3⟩;exact ⟨rfl,l,r,rfl,h2⟩
  case post =>
   rintro c st' ⟨rfl,l,r,rfl,h1⟩;rw [hG];exact qAH (h r h1)
  case step =>
   rintro x c st' _ hx ⟨rfl,l,r,rfl,h1,h2,h3⟩;rw [hF x l r]
   by_cases hge:l>=r
   ·rw [qAC hge];exact qAH ⟨rfl,l,r,rfl,h2⟩
   ·rw [qAB hge];refine qAG (ask _ (by lia) fun c=>?_);show wpS _ _ _ _ (if c=true then _ else _) _ _;split
    ·exact qAH ⟨rfl,_,_,rfl,by lia,h2,by lia⟩
    ·exact qAH ⟨rfl,_,_,rfl,by lia,by lia,by lia⟩
 refine qAG (ask hint hh fun c0=>?_);show wpS _ _ _ _ (if c0=true then _ else _) _ _;split
 ·refine qAG (qA3 (qAz (I:=fun x c st'=>st'=st/\∃l o,c=(none,l,o)/\l<o/\hint+l<n)
   (Q:=fun c st'=>st'=st/\∃l o,c=(none,l,o)/\l<o/\hint+l<n) ?step (fun c st' h=>h) ⟨rfl,0,1,rfl,by lia,by lia⟩) ?post)
  case step =>
   rintro x c st' _ hx ⟨rfl,l,o,rfl,h1,h2⟩;dsimp only
   by_cases ho:o>=n - hint
   ·rw [qAC ho];exact qAH ⟨rfl,l,o,rfl,h1,h2⟩
   ·rw [qAB ho];refine qAG (ask (hint+o) (by lia) fun c=>?_);show wpS _ _ _ _ (if (!c)=true then _ else _) _ _;split
    ·exact qAH ⟨rfl,l,o,rfl,h1,h2⟩
    ·exact qAH ⟨rfl,o,2*o+1,rfl,by lia,by lia⟩
  case post =>
   rintro c st' ⟨rfl,l,o,rfl,h1,h2⟩;exact bin (hint+l+1) (hint+min o (n - hint)) (by lia) (by lia) _ (fun x l r=>rfl) _ (fun l r=>rfl)
 ·refine qAG (qA3 (qAz (I:=fun x c st'=>st'=st/\∃l o,c=(none,l,o)/\l<o/\l<=hint)
   (Q:=fun c st'=>st'=st/\∃l o,c=(none,l,o)/\l<o/\l<=hint) ?step (fun c st' h=>h) ⟨rfl,0,1,rfl,by lia,by lia⟩) ?post)
  case step =>
   rintro x c st' _ hx ⟨rfl,l,o,rfl,h1,h2⟩;dsimp only
   by_cases ho:o>=hint+1
   ·rw [qAC ho];exact qAH ⟨rfl,l,o,rfl,h1,h2⟩
   ·rw [qAB ho];refine qAG (ask (hint - o) (by lia) fun c=>?_);show wpS _ _ _ _ (if c=true then _ else _) _ _;split
    ·exact qAH ⟨rfl,l,o,rfl,h1,h2⟩
    ·exact qAH ⟨rfl,o,2*o+1,rfl,by lia,by lia⟩
  case post =>
   rintro c st' ⟨rfl,l,o,rfl,h1,h2⟩;exact bin (hint+1 - min o (hint+1)) (hint - l) (by lia) (by lia) _ (fun x l r=>rfl) _ (fun l r=>rfl)
abbrev Cell:=Option (Array Keyed)×Array Keyed×Nat×Nat×Nat×Nat×Nat
def tA (a b o:Array Keyed) (i j g p q:Nat):StateT SortSt Sem (ForInStep Cell):=do
 let x<-elem' a i
 if (i+1+1==a.size)=true then pure (.done (some (o.push x++b.extract j b.size++a.extract (i+1) a.size),o.push x,i+1,j,g,p,q))
 else if (decide (p<7)&&decide (q<7))=true then pure (.done (none,o.push x,i+1,j,g,p,q))
 else pure (.yield (none,o.push x,i+1,j,g,p,q))
def tB (a b o:Array Keyed) (i j g p q:Nat):StateT SortSt Sem (ForInStep Cell):=do
 let y<-elem' b j
 if (j+1==b.size)=true then pure (.done (some (o.push y++a.extract i a.size++b.extract (j+1) b.size),o.push y,i,j+1,g,p,q))
 else do
  let x<-elem' a i
  let r<-gal true x b (j+1) (b.size - (j+1)) 0
  match r with
  | some k =>
   if k>0 then
    if (j+1+k==b.size)=true then pure (.done (some (o.push y++b.extract (j+1) (j+1+k)++a.extract i a.size++b.extract (j+1+k) b.size),o.push y++b.extract (j+1) (j+1+k),i,j+1+k,g,p,k))
    else tA a b (o.push y++b.extract (j+1) (j+1+k)) i (j+1+k) g p k
   else tA a b (o.push y) i (j+1) g p k
  | _=>pure (.done (some (o.push y++a.extract i a.size++b.extract (j+1) b.size),o.push y,i,j+1,g,p,q))
def tT (a b o:Array Keyed) (i j g p q:Nat):StateT SortSt Sem (ForInStep Cell):=do
 let y<-elem' b j
 let r<-gal false y a i (a.size - i) 0
 match r with
 | some k =>
  if k>0 then
   if (i+k+1==a.size)=true then pure (.done (some (o++a.extract i (i+k)++b.extract j b.size++a.extract (i+k) a.size),o++a.extract i (i+k),i+k,j,g,k,q))
   else if (i+k==a.size)=true then pure (.done (some (o++a.extract i (i+k)++a.extract (i+k) a.size++b.extract j b.size),o++a.extract i (i+k),i+k,j,g,k,q))
   else tB a b (o++a.extract i (i+k)) (i+k) j g k q
  else tB a b o i j g k q
 | _=>pure (.done (some (o++a.extract i a.size++b.extract j b.size),o,i,j,g,p,q))
theorem zAm {m:Nat} (h:¬(m==n)=true):m≠n:=by simpa using h
def TO (a b:Array Keyed) (m:Nat) (st3:SortSt) (R:ForInStep Cell->SortSt->Prop):Prop :=
 (∀r o i j g p q,Fn a b r->R (.done (some r,o,i,j,g,p,q)) st3)/\(∀o i j g p q,MI a b o i j->i+1<a.size->j<b.size->m<=i+j->R (.done (none,o,i,j,g,p,q)) st3/\R (.yield (none,o,i,j,g,p,q)) st3)
section
variable {st3:SortSt} {o:Array Keyed} {i j g p q m:Nat} {R:ForInStep Cell->SortSt->Prop}
theorem w_tA (ha:∀x∈a.toList,Has κ x) (M:MI a b o i j) (hi:i+1<a.size) (hj:j<b.size) (hm:m<=i+j) (hR:TO a b m st3 R):wpS (model prog w) A E s (tA a b o i j g p q) R st3:=by
 obtain ⟨x,ex,_⟩:=zB2 ha (show i<a.size by lia);have M2:=M.tA ex;refine qAG (zBa ex ?_)
 by_cases d1:(i+1+1==a.size)=true
 ·rw [qAC d1];exact qAH (hR.1 _ _ _ _ _ _ _ M2.f2)
 ·have:=zAm d1;rw [qAB d1];have q:=hR.2 _ _ _ g p q M2 (by lia) hj (by lia);split
  ·exact qAH q.1
  ·exact qAH q.2
theorem w_tB (C:CmpOk prog w A s kd κ) (hk:kindOf st3=kd) (ha:∀x∈a.toList,Has κ x) (hb:∀x∈b.toList,Has κ x) (M:MI a b o i j) (hi:i+1<a.size) (hj:j<b.size) (hm:m<=i+j) (hR:TO a b m st3 R) :
  wpS (model prog w) A E s (tB a b o i j g p q) R st3:=by
 obtain ⟨y,ey,hyy⟩:=zB2 hb hj;obtain ⟨x,ex,hxx⟩:=zB2 ha (show i<a.size by lia);have M2:=M.tB ey;refine qAG (zBa ey ?_)
 by_cases d1:(j+1==b.size)=true
 ·rw [qAC d1];exact qAH (hR.1 _ _ _ _ _ _ _ M2.f1)
 ·have:=zAm d1;rw [qAB d1];refine qAG (zBa ex (qAG (w_gal C hk hxx (fun i hi=>zB2 hb (by lia)) (by lia) fun k k1=>?_)));have M3:=M2.tBs k (by lia);show wpS _ _ _ _ (if k>0 then _ else _) _ _
  by_cases hk0:k>0
  ·rw [qAC hk0]
   by_cases d2:(j+1+k==b.size)=true
   ·rw [qAC d2];exact qAH (hR.1 _ _ _ _ _ _ _ M3.f1)
   ·have:=zAm d2;rw [qAB d2];exact w_tA ha M3 hi (by lia) (by lia) hR
  ·rw [qAB hk0];exact w_tA ha M2 hi (by lia) (by lia) hR
theorem w_tT (C:CmpOk prog w A s kd κ) (hk:kindOf st3=kd) (ha:∀x∈a.toList,Has κ x) (hb:∀x∈b.toList,Has κ x) (M:MI a b o i j) (hi:i+1<a.size) (hj:j<b.size) (hm:m<=i+j) (hR:TO a b m st3 R):wpS (model prog w) A E s (tT a b o i j g p q) R st3:=by
 obtain ⟨y,ey,hyy⟩:=zB2 hb hj;refine qAG (zBa ey (qAG (w_gal C hk hyy (fun i hi=>zB2 ha (by lia)) (by lia) fun k k1=>?_)));have M3:=M.tAs k (by lia);show wpS _ _ _ _ (if k>0 then _ else _) _ _
 by_cases hk0:k>0
 ·rw [qAC hk0]
  by_cases d1:(i+k+1==a.size)=true
  ·rw [qAC d1];exact qAH (hR.1 _ _ _ _ _ _ _ M3.f2)
  ·rw [qAB d1]
   by_cases d2:(i+k==a.size)=true
   ·rw [qAC d2];exact qAH (hR.1 _ _ _ _ _ _ _ M3.f1)
   ·have:=zAm d1;have:=zAm d2;rw [qAB d2];exact w_tB C hk ha hb M3 (by lia) hj (by lia) hR
 ·rw [qAB hk0];exact w_tB C hk ha hb M hi hj hm hR
end
theorem w_mLo {Q:Array Keyed->SortSt->Prop} (C:CmpOk prog w A s kd κ) (hk:kindOf st=kd) (ha:∀x∈a.toList,Has κ x) (hb:∀x∈b.toList,Has κ x) (na:1<=a.size) (nb:1<=b.size)
  (h:∀r st',Like st st'->Fn a b r->Q r st'):wpS (model prog w) A E s (mLo a b) Q st:=by
 refine qAG (qBq (qBQ ⟨rfl,?_⟩));obtain ⟨y0,ey,hy⟩:=zB2 hb (show 0<b.size by lia);refine qAG (zBa ey ?_);have M0:MI a b #[] 0 0:=⟨by lia,by lia,fun p=>by simp⟩;have M1:MI a b #[y0] 0 1:=M0.tB ey;show wpS _ _ _ _ (if (1==b.size)=true then _ else _) _ _
 by_cases c1:(1==b.size)=true
 ·rw [qAC c1];exact qAH (h _ _ (Like.refl _) M1.f1)
 rw [qAB c1];show wpS _ _ _ _ (if (0+1==a.size)=true then _ else _) _ _
 by_cases c2:(0+1==a.size)=true
 ·rw [qAC c2];exact qAH (h _ _ (Like.refl _) M1.f2)
 rw [qAB c2];have:=zAm c1;have:=zAm c2;refine qAG (qBO ?_)
 refine qAG (qA3 (qAz (I:=fun x c st'=>Like st st'/\∃out ia ib g,c=(none,out,ia,ib,g)/\MI a b out ia ib/\ia+1<a.size/\ib<b.size/\x+1<=ia+ib)
  (Q:=fun c st'=>Like st st'/\∃r out ia ib g,c=(some r,out,ia,ib,g)/\Fn a b r) ?step ?fin ⟨Like.refl _,_,_,_,_,rfl,M1,by lia,by lia,by lia⟩) ?post)
 case fin =>
  rintro c st' ⟨_,out,ia,ib,g,rfl,M,h1,h2,h3⟩;lia
 case post =>
  rintro c st' ⟨L,r,out,ia,ib,g,rfl,F⟩;exact qAH (h r st' L F)
 case step =>
  rintro x c st1 _ hx1 ⟨L1,out0,ia0,ib0,g0,rfl,M,u1,u2,u3⟩;have hk1:kindOf st1=kd:=L1.kd.trans hk;dsimp only
  refine qAG (qA3 (qAz (I:=fun x c st'=>st'=st1/\∃out ia ib p q,c=(none,out,ia,ib,p,q)/\MI a b out ia ib/\ia+1<a.size/\ib<b.size/\ia0+ib0+x<=ia+ib)
   (Q:=fun c st'=>st'=st1/\((∃r out ia ib p q,c=(some r,out,ia,ib,p,q)/\Fn a b r)\/∃out ia ib p q,c=(none,out,ia,ib,p,q)/\MI a b out ia ib/\ia+1<a.size/\ib<b.size/\ia0+ib0+1<=ia+ib)) ?step1 ?fin1
   ⟨rfl,_,_,_,_,_,rfl,M,u1,u2,by lia⟩) ?post1)
  case fin1 =>
   rintro c st' ⟨rfl,out,ia,ib,p,q,rfl,M',v1,v2,v3⟩;exact ⟨rfl,.inr ⟨out,ia,ib,p,q,rfl,M',v1,v2,by lia⟩⟩
  case step1 =>
   rintro x2 c st' _ hx2 ⟨rfl,out,ia,ib,p,q,rfl,M',v1,v2,v3⟩;obtain ⟨yb,eb,hyb⟩:=zB2 hb v2;obtain ⟨xa,ea,hxa⟩:=zB2 ha (show ia<a.size by lia);dsimp only;refine qAG (zBa eb (qAG (zBa ea (qAG (w_lt C hk1 hyb hxa ?_)))));generalize κ.blt (kk κ yb) (kk κ xa)=c;show wpS _ _ _ _ (if c=true then _ else _) _ _
   by_cases e:c=true
   ·rw [qAC e];refine qAG (zBa eb ?_);have M2:=M'.tB eb
    by_cases d1:(ib+1==b.size)=true
    ·rw [qAC d1];exact qAH ⟨rfl,.inl ⟨_,_,_,_,_,_,rfl,M2.f1⟩⟩
    ·have:=zAm d1;rw [qAB d1]
     by_cases d2:q+1>=g0
     ·rw [qAC d2];exact qAH ⟨rfl,.inr ⟨_,_,_,_,_,rfl,M2,v1,by lia,by lia⟩⟩
     ·rw [qAB d2];exact qAH ⟨rfl,_,_,_,_,_,rfl,M2,v1,by lia,by lia⟩
   ·rw [qAB e];refine qAG (zBa ea ?_);have M2:=M'.tA ea
    by_cases d1:(ia+1+1==a.size)=true
    ·rw [qAC d1];exact qAH ⟨rfl,.inl ⟨_,_,_,_,_,_,rfl,M2.f2⟩⟩
    ·have:=zAm d1;rw [qAB d1]
     by_cases d2:p+1>=g0
     ·rw [qAC d2];exact qAH ⟨rfl,.inr ⟨_,_,_,_,_,rfl,M2,by lia,v2,by lia⟩⟩
     ·rw [qAB d2];exact qAH ⟨rfl,_,_,_,_,_,rfl,M2,by lia,v2,by lia⟩
  case post1 =>
   rintro c st' ⟨rfl,⟨r,out,ia,ib,p,q,rfl,F⟩| ⟨out,ia,ib,p,q,rfl,M',v1,v2,v3⟩⟩
   ·exact qAH ⟨L1,_,_,_,_,_,rfl,F⟩
   ·dsimp only;refine qAG (qBq (qBQ ⟨rfl,?_⟩))
    refine qAG (qA3 (qAz (I:=fun x c st'=>Like st st'/\∃out ia ib g p q,c=(none,out,ia,ib,g,p,q)/\MI a b out ia ib/\ia+1<a.size/\ib<b.size/\ia0+ib0+1<=ia+ib)
     (Q:=fun c st'=>Like st st'/\((∃r out ia ib g p q,c=(some r,out,ia,ib,g,p,q)/\Fn a b r)\/∃out ia ib g p q,c=(none,out,ia,ib,g,p,q)/\MI a b out ia ib/\ia+1<a.size/\ib<b.size/\ia0+ib0+1<=ia+ib)) ?step2 ?fin2
     ⟨L1,_,_,_,_,_,_,rfl,M',v1,v2,v3⟩) ?post2)
    case fin2 =>
     rintro c st' ⟨L,out,ia,ib,g,p,q,rfl,M',v⟩;exact ⟨L,.inr ⟨_,_,_,_,_,_,rfl,M',v⟩⟩
    case post2 =>
     rintro c st' ⟨L,⟨r,out,ia,ib,g,p,q,rfl,F⟩| ⟨out,ia,ib,g,p,q,rfl,M',v1,v2,v3⟩⟩
     ·exact qAH ⟨L,_,_,_,_,_,rfl,F⟩
     ·dsimp only;refine qAG (qA9 (qAH ⟨L.trans ⟨rfl,rfl,rfl,rfl⟩,_,_,_,_,rfl,M',v1,v2,by lia⟩))
    case step2 =>
     rintro x3 c st2 _ hx3 ⟨L2,out,ia,ib,g,p,q,rfl,M2,w1,w2,w3⟩;dsimp only
     have run:∀(g':Nat) (R:ForInStep Cell->SortSt->Prop),(∀L3:Like st (SortSt.mk' (kindOf st2) (arrOf st2) (pendingOf st2) g' (failedOf st2)),TO a b (ia0+ib0+1) (SortSt.mk' (kindOf st2) (arrOf st2) (pendingOf st2) g' (failedOf st2)) R)->wpS (model prog w) A E s (tT a b out ia ib g' p q) R (SortSt.mk' (kindOf st2) (arrOf st2) (pendingOf st2) g' (failedOf st2)):=fun g' R hR=>by
      have L3:Like st (SortSt.mk' (kindOf st2) (arrOf st2) (pendingOf st2) g' (failedOf st2)):=L2.trans ⟨rfl,rfl,rfl,rfl⟩;exact w_tT C (L3.kd.trans hk) ha hb M2 w1 w2 w3 (hR L3)
     by_cases d0:g>1
     ·rw [qAC d0];exact qAG (qA9 (run (g - 1) _ fun L3=>⟨fun r o i j g p q F=>⟨L3,.inl ⟨_,_,_,_,_,_,_,rfl,F⟩⟩,fun o i j g p q M' h1 h2 h3=>⟨⟨L3,.inr ⟨_,_,_,_,_,_,rfl,M',h1,h2,h3⟩⟩,⟨L3,_,_,_,_,_,_,rfl,M',h1,h2,h3⟩⟩⟩))
     ·rw [qAB d0];exact qAG (qA9 (run g _ fun L3=>⟨fun r o i j g p q F=>⟨L3,.inl ⟨_,_,_,_,_,_,_,rfl,F⟩⟩,fun o i j g p q M' h1 h2 h3=>⟨⟨L3,.inr ⟨_,_,_,_,_,_,rfl,M',h1,h2,h3⟩⟩,⟨L3,_,_,_,_,_,_,rfl,M',h1,h2,h3⟩⟩⟩))
abbrev CellH:=Option (Array Keyed)×Nat×Nat×Array Keyed×Nat×Nat×Nat
def uA (a b o:Array Keyed) (i j g p q:Nat):StateT SortSt Sem (ForInStep CellH):=do
 let x<-elem' a (i - 1)
 if (i - 1==0)=true then pure (.done (some (a.extract 0 (i - 1)++b.extract 0 j++(o.push x).reverse),i - 1,j,o.push x,g,p,q))
 else if (decide (p<7)&&decide (q<7))=true then pure (.done (none,i - 1,j,o.push x,g,p,q))
 else pure (.yield (none,i - 1,j,o.push x,g,p,q))
def uB (a b o:Array Keyed) (i j g p q:Nat):StateT SortSt Sem (ForInStep CellH):=do
 let y<-elem' b (j - 1)
 if (j - 1==1)=true then pure (.done (some (b.extract 0 (j - 1)++a.extract 0 i++(o.push y).reverse),i,j - 1,o.push y,g,p,q))
 else do
  let x<-elem' a (i - 1)
  let r<-gal true x b 0 (j - 1) (j - 1 - 1)
  match r with
  | some k =>
   if j - 1 - k>0 then
    if (k==1)=true then pure (.done (some (b.extract 0 k++a.extract 0 i++(o.push y++(b.extract k (j - 1)).reverse).reverse),i,k,o.push y++(b.extract k (j - 1)).reverse,g,p,j - 1 - k))
    else if (k==0)=true then pure (.done (some (a.extract 0 i++b.extract 0 k++(o.push y++(b.extract k (j - 1)).reverse).reverse),i,k,o.push y++(b.extract k (j - 1)).reverse,g,p,j - 1 - k))
    else uA a b (o.push y++(b.extract k (j - 1)).reverse) i k g p (j - 1 - k)
   else uA a b (o.push y) i (j - 1) g p (j - 1 - k)
  | _=>pure (.done (some (a.extract 0 i++b.extract 0 (j - 1)++(o.push y).reverse),i,j - 1,o.push y,g,p,q))
def uT (a b o:Array Keyed) (i j g p q:Nat):StateT SortSt Sem (ForInStep CellH):=do
 let y<-elem' b (j - 1)
 let r<-gal false y a 0 i (i - 1)
 match r with
 | some k =>
  if i - k>0 then
   if (k==0)=true then pure (.done (some (a.extract 0 k++b.extract 0 j++(o++(a.extract k i).reverse).reverse),k,j,o++(a.extract k i).reverse,g,i - k,q))
   else uB a b (o++(a.extract k i).reverse) k j g (i - k) q
  else uB a b o i j g (i - k) q
 | _=>pure (.done (some (a.extract 0 i++b.extract 0 j++o.reverse),i,j,o,g,p,q))
def TH (a b:Array Keyed) (m:Nat) (st3:SortSt) (R:ForInStep CellH->SortSt->Prop):Prop :=
 (∀r o i j g p q,Fn a b r->R (.done (some r,i,j,o,g,p,q)) st3)/\(∀o i j g p q,MH a b o i j->1<=i->1<j->i+j<=m->R (.done (none,i,j,o,g,p,q)) st3/\R (.yield (none,i,j,o,g,p,q)) st3)
section
variable {st3:SortSt} {o:Array Keyed} {i j g p q m:Nat} {R:ForInStep CellH->SortSt->Prop}
theorem w_uA (ha:∀x∈a.toList,Has κ x) (M:MH a b o i j) (hi:1<=i) (hj:1<j) (hm:i+j<=m+1) (hR:TH a b m st3 R):wpS (model prog w) A E s (uA a b o i j g p q) R st3:=by
 have hla:=M.la;obtain ⟨n,rfl⟩:∃n,i=n+1:=⟨i - 1,by lia⟩;obtain ⟨x,ex,_⟩:=zB2 ha (show n<a.size by lia);have M2:=M.tA ex;refine qAG (zBa ex ?_);show wpS _ _ _ _ (if (n==0)=true then _ else _) _ _
 by_cases d1:(n==0)=true
 ·rw [qAC d1];exact qAH (hR.1 _ _ _ _ _ _ _ M2.f1)
 ·have:=zAm d1;rw [qAB d1];have q:=hR.2 _ _ _ g p q M2 (by lia) hj (by lia);split
  ·exact qAH q.1
  ·exact qAH q.2
theorem w_uB (C:CmpOk prog w A s kd κ) (hk:kindOf st3=kd) (ha:∀x∈a.toList,Has κ x) (hb:∀x∈b.toList,Has κ x) (M:MH a b o i j) (hi:1<=i) (hj:1<j) (hm:i+j<=m+1) (hR:TH a b m st3 R) :
  wpS (model prog w) A E s (uB a b o i j g p q) R st3:=by
 have hla:=M.la;have hlb:=M.lb;obtain ⟨n,rfl⟩:∃n,j=n+1:=⟨j - 1,by lia⟩;obtain ⟨y,ey,hyy⟩:=zB2 hb (show n<b.size by lia);obtain ⟨x,ex,hxx⟩:=zB2 ha (show i - 1<a.size by lia);have M2:=M.tB ey;refine qAG (zBa ey ?_);show wpS _ _ _ _ (if (n==1)=true then _ else _) _ _
 by_cases d1:(n==1)=true
 ·rw [qAC d1];exact qAH (hR.1 _ _ _ _ _ _ _ M2.f2)
 ·have:=zAm d1;rw [qAB d1];refine qAG (zBa ex (qAG (w_gal C hk hxx (fun i hi=>zB2 hb (show 0+i<b.size by have:i<n:=hi;lia)) (show n - 1<n by lia) fun k k1=>?_)));have k1:k<=n:=k1;have M3:=M2.tBs k k1;show wpS _ _ _ _ (if n - k>0 then _ else _) _ _
  by_cases hk0:n - k>0
  ·rw [qAC hk0]
   by_cases d2:(k==1)=true
   ·rw [qAC d2];exact qAH (hR.1 _ _ _ _ _ _ _ M3.f2)
   ·rw [qAB d2]
    by_cases d3:(k==0)=true
    ·rw [qAC d3];exact qAH (hR.1 _ _ _ _ _ _ _ M3.f1)
    ·have:=zAm d2;have:=zAm d3;rw [qAB d3];exact w_uA ha M3 hi (by lia) (by lia) hR
  ·rw [qAB hk0];exact w_uA ha M2 hi (by lia) (show i+n<=m+1 by lia) hR
theorem w_uT (C:CmpOk prog w A s kd κ) (hk:kindOf st3=kd) (ha:∀x∈a.toList,Has κ x) (hb:∀x∈b.toList,Has κ x) (M:MH a b o i j) (hi:1<=i) (hj:1<j) (hm:i+j<=m+1) (hR:TH a b m st3 R):wpS (model prog w) A E s (uT a b o i j g p q) R st3:=by
 have hla:=M.la;have hlb:=M.lb;obtain ⟨y,ey,hyy⟩:=zB2 hb (show j - 1<b.size by lia);refine qAG (zBa ey (qAG (w_gal C hk hyy (fun u hi=>zB2 ha (show 0+u<a.size by have:u<i:=hi;lia)) (show i - 1<i by lia) fun k k1=>?_)));have k1:k<=i:=k1;have M3:=M.tAs k k1;show wpS _ _ _ _ (if i - k>0 then _ else _) _ _
 by_cases hk0:i - k>0
 ·rw [qAC hk0]
  by_cases d1:(k==0)=true
  ·rw [qAC d1];exact qAH (hR.1 _ _ _ _ _ _ _ M3.f1)
  ·have:=zAm d1;rw [qAB d1];exact w_uB C hk ha hb M3 (by lia) hj (by lia) hR
 ·rw [qAB hk0];exact w_uB C hk ha hb M hi hj hm hR
end
theorem w_mHi {Q:Array Keyed->SortSt->Prop} (C:CmpOk prog w A s kd κ) (hk:kindOf st=kd) (ha:∀x∈a.toList,Has κ x) (hb:∀x∈b.toList,Has κ x) (na:1<=a.size) (nb:1<=b.size)
  (h:∀r st',Like st st'->Fn a b r->Q r st'):wpS (model prog w) A E s (mHi a b) Q st:=by
 refine qAG (qBq (qBQ ⟨rfl,?_⟩));obtain ⟨n,hn⟩:∃n,a.size=n+1:=⟨a.size - 1,by lia⟩;obtain ⟨x0,ex,hx⟩:=zB2 ha (show n<a.size by lia);have en:a.size - 1=n:=by lia
 refine qAG (zBa (p:=x0) (by rw [en];exact ex) ?_);have M0:MH a b #[] (n+1) b.size:=⟨by lia,by lia,fun p=>by rw [<-hn,qBF (show a.toList.length<=a.size by simp),qBF (show b.toList.length<=b.size by simp)];simp⟩;have M1:MH a b #[x0] n b.size:=M0.tA ex;rw [<-en] at M1;show wpS _ _ _ _ (if (a.size - 1==0)=true then _ else _) _ _
 by_cases c1:(a.size - 1==0)=true
 ·rw [qAC c1];exact qAH (h _ _ (Like.refl _) M1.f1)
 rw [qAB c1]
 by_cases c2:(b.size==1)=true
 ·rw [qAC c2];exact qAH (h _ _ (Like.refl _) M1.f2)
 rw [qAB c2];have:=zAm c1;have:=zAm c2;refine qAG (qBO ?_)
 refine qAG (qA3 (qAz (I:=fun x c st'=>Like st st'/\∃out i j g,c=(none,i,j,out,g)/\MH a b out i j/\1<=i/\1<j/\i+j+x<=a.size+b.size)
  (Q:=fun c st'=>Like st st'/\∃r out i j g,c=(some r,i,j,out,g)/\Fn a b r) ?step ?fin ⟨Like.refl _,_,_,_,_,rfl,M1,by lia,by lia,by lia⟩) ?post)
 case fin =>
  rintro c st' ⟨_,out,i,j,g,rfl,M,h1,h2,h3⟩;lia
 case post =>
  rintro c st' ⟨L,r,out,i,j,g,rfl,F⟩;exact qAH (h r st' L F)
 case step =>
  rintro x c st1 _ hx1 ⟨L1,out0,i0,j0,g0,rfl,M,u1,u2,u3⟩;have hk1:kindOf st1=kd:=L1.kd.trans hk;dsimp only
  refine qAG (qA3 (qAz (I:=fun x c st'=>st'=st1/\∃out i j p q,c=(none,i,j,out,p,q)/\MH a b out i j/\1<=i/\1<j/\i+j+x<=i0+j0)
   (Q:=fun c st'=>st'=st1/\((∃r out i j p q,c=(some r,i,j,out,p,q)/\Fn a b r)\/∃out i j p q,c=(none,i,j,out,p,q)/\MH a b out i j/\1<=i/\1<j/\i+j+1<=i0+j0)) ?step1 ?fin1
   ⟨rfl,_,_,_,_,_,rfl,M,u1,u2,by lia⟩) ?post1)
  case fin1 =>
   rintro c st' ⟨rfl,out,i,j,p,q,rfl,M',v1,v2,v3⟩;exact ⟨rfl,.inr ⟨out,i,j,p,q,rfl,M',v1,v2,by lia⟩⟩
  case step1 =>
   rintro x2 c st' _ hx2 ⟨rfl,out,i,j,p,q,rfl,M',v1,v2,v3⟩;have hla:=M'.la;have hlb:=M'.lb;obtain ⟨n,rfl⟩:∃n,i=n+1:=⟨i - 1,by lia⟩;obtain ⟨m,rfl⟩:∃m,j=m+1:=⟨j - 1,by lia⟩;obtain ⟨yb,eb,hyb⟩:=zB2 hb (show m<b.size by lia);obtain ⟨xa,ea,hxa⟩:=zB2 ha (show n<a.size by lia);dsimp only;refine qAG (zBa eb (qAG (zBa ea (qAG (w_lt C hk1 hyb hxa ?_)))));generalize κ.blt (kk κ yb) (kk κ xa)=c;show wpS _ _ _ _ (if c=true then _ else _) _ _
   by_cases e:c=true
   ·rw [qAC e];refine qAG (zBa ea ?_);have M2:=M'.tA ea;show wpS _ _ _ _ (if (n==0)=true then _ else _) _ _
    by_cases d1:(n==0)=true
    ·rw [qAC d1];exact qAH ⟨rfl,.inl ⟨_,_,_,_,_,_,rfl,M2.f1⟩⟩
    ·have:=zAm d1;rw [qAB d1]
     by_cases d2:p+1>=g0
     ·rw [qAC d2];exact qAH ⟨rfl,.inr ⟨_,_,_,_,_,rfl,M2,by lia,v2,by lia⟩⟩
     ·rw [qAB d2];exact qAH ⟨rfl,_,_,_,_,_,rfl,M2,by lia,v2,by lia⟩
   ·rw [qAB e];refine qAG (zBa eb ?_);have M2:=M'.tB eb;show wpS _ _ _ _ (if (m==1)=true then _ else _) _ _
    by_cases d1:(m==1)=true
    ·rw [qAC d1];exact qAH ⟨rfl,.inl ⟨_,_,_,_,_,_,rfl,M2.f2⟩⟩
    ·have:=zAm d1;rw [qAB d1]
     by_cases d2:q+1>=g0
     ·rw [qAC d2];exact qAH ⟨rfl,.inr ⟨_,_,_,_,_,rfl,M2,v1,by lia,by lia⟩⟩
     ·rw [qAB d2];exact qAH ⟨rfl,_,_,_,_,_,rfl,M2,v1,by lia,by lia⟩
  case post1 =>
   rintro c st' ⟨rfl,⟨r,out,i,j,p,q,rfl,F⟩| ⟨out,i,j,p,q,rfl,M',v1,v2,v3⟩⟩
   ·exact qAH ⟨L1,_,_,_,_,_,rfl,F⟩
   ·dsimp only;refine qAG (qBq (qBQ ⟨rfl,?_⟩))
    refine qAG (qA3 (qAz (I:=fun x c st'=>Like st st'/\∃out i j g p q,c=(none,i,j,out,g,p,q)/\MH a b out i j/\1<=i/\1<j/\i+j+1<=i0+j0)
     (Q:=fun c st'=>Like st st'/\((∃r out i j g p q,c=(some r,i,j,out,g,p,q)/\Fn a b r)\/∃out i j g p q,c=(none,i,j,out,g,p,q)/\MH a b out i j/\1<=i/\1<j/\i+j+1<=i0+j0)) ?step2 ?fin2
     ⟨L1,_,_,_,_,_,_,rfl,M',v1,v2,v3⟩) ?post2)
    case fin2 =>
     rintro c st' ⟨L,out,i,j,g,p,q,rfl,M',v⟩;exact ⟨L,.inr ⟨_,_,_,_,_,_,rfl,M',v⟩⟩
    case post2 =>
     rintro c st' ⟨L,⟨r,out,i,j,g,p,q,rfl,F⟩| ⟨out,i,j,g,p,q,rfl,M',v1,v2,v3⟩⟩
     ·exact qAH ⟨L,_,_,_,_,_,rfl,F⟩
     ·dsimp only;refine qAG (qA9 (qAH ⟨L.trans ⟨rfl,rfl,rfl,rfl⟩,_,_,_,_,rfl,M',v1,v2,by lia⟩))
    case step2 =>
     rintro x3 c st2 _ hx3 ⟨L2,out,i,j,g,p,q,rfl,M2,w1,w2,w3⟩;dsimp only
     have run:∀(g':Nat) (R:ForInStep CellH->SortSt->Prop),(∀L3:Like st (SortSt.mk' (kindOf st2) (arrOf st2) (pendingOf st2) g' (failedOf st2)),TH a b (i0+j0 - 1) (SortSt.mk' (kindOf st2) (arrOf st2) (pendingOf st2) g' (failedOf st2)) R)->wpS (model prog w) A E s (uT a b out i j g' p q) R (SortSt.mk' (kindOf st2) (arrOf st2) (pendingOf st2) g' (failedOf st2)):=fun g' R hR=>by
      have L3:Like st (SortSt.mk' (kindOf st2) (arrOf st2) (pendingOf st2) g' (failedOf st2)):=L2.trans ⟨rfl,rfl,rfl,rfl⟩;exact w_uT C (L3.kd.trans hk) ha hb M2 w1 w2 (by lia) (hR L3)
     by_cases d0:g>1
     ·rw [qAC d0];exact qAG (qA9 (run (g - 1) _ fun L3=>⟨fun r o i j g p q F=>⟨L3,.inl ⟨_,_,_,_,_,_,_,rfl,F⟩⟩,fun o i j g p q M' h1 h2 h3=>⟨⟨L3,.inr ⟨_,_,_,_,_,_,rfl,M',h1,h2,by lia⟩⟩,⟨L3,_,_,_,_,_,_,rfl,M',h1,h2,by lia⟩⟩⟩))
     ·rw [qAB d0];exact qAG (qA9 (run g _ fun L3=>⟨fun r o i j g p q F=>⟨L3,.inl ⟨_,_,_,_,_,_,_,rfl,F⟩⟩,fun o i j g p q M' h1 h2 h3=>⟨⟨L3,.inr ⟨_,_,_,_,_,_,rfl,M',h1,h2,by lia⟩⟩,⟨L3,_,_,_,_,_,_,rfl,M',h1,h2,by lia⟩⟩⟩))
end
section
variable {prog:Program} {w:World} {A:Around} {E:Value->Shared->Prop} {s:Shared} {kd:SortKind} {κ:KeyKind}
structure Fr (st st':SortSt):Prop where
 kd:kindOf st'=kindOf st
 pn:pendingOf st'=pendingOf st
 fl:failedOf st'=failedOf st
 perm:(arrOf st').Perm (arrOf st)
theorem Fr.refl (st:SortSt):Fr st st:=⟨rfl,rfl,rfl,Array.Perm.refl _⟩
theorem Fr.trans {a b c:SortSt} (h:Fr a b) (k:Fr b c):Fr a c:=⟨k.kd.trans h.kd,k.pn.trans h.pn,k.fl.trans h.fl,k.perm.trans h.perm⟩
theorem Fr.size {a b:SortSt} (h:Fr a b):(arrOf b).size=(arrOf a).size:=h.perm.size_eq
theorem Fr.rev (st:SortSt) (i j k:Nat):Fr st (setArr st (mirror (arrOf st) i j k)):=⟨rfl,rfl,rfl,mirror_perm _ _ _ _⟩
def All (κ:KeyKind) (st:SortSt):Prop:=∀x∈(arrOf st).toList,Has κ x
theorem All.fr {a b:SortSt} (h:All κ a) (f:Fr a b):All κ b:=fun x hx=>h x ((qCu.mp f.perm).mem_iff.mp hx)
theorem All.at (h:All κ st) (hi:i<(arrOf st).size):∃p,(arrOf st)[i]?=some p/\Has κ p:=zB2 h hi
theorem w_ask {j:Nat} {Q:Option Bool->SortSt->Prop} (C:CmpOk prog w A s kd κ) (hk:kindOf st=kd) (al:All κ st) (hi:i<(arrOf st).size) (hj:j<(arrOf st).size) (h:∀c,Q (some c) st):wpS (model prog w) A E s (ltAt' i j) Q st:=w_ltAt C hk (al.at hi) (al.at hj) (h _)
theorem w_asc {n0:Nat} {Q:α->SortSt->Prop} (C:CmpOk prog w A s kd κ) (hk:kindOf st=kd) (al:All κ st) (hn:lo+nrem<=(arrOf st).size) (h1:1<=n0) (h2:n0<=nrem)
  (F:Nat->Option (Option Nat)×Nat->StateT SortSt Sem (ForInStep (Option (Option Nat)×Nat))) (hF:∀x n,F x (none,n)=(do
   let c<-ltAt' (lo+n) (lo+n - 1)
   match c with
   | some c=>if c=true then pure (ForInStep.done (none,n)) else pure (ForInStep.yield (none,n+1))
   | _=>pure (ForInStep.done (some none,n)))) (G:Option (Option Nat)×Nat->StateT SortSt Sem α)
  (hG:∀n,n0<=n->n<=nrem->wpS (model prog w) A E s (G (none,n)) Q st) :
  wpS (model prog w) A E s (forIn [n0:nrem] ((none,n0):Option (Option Nat)×Nat) F >>= G) Q st:=by
 refine qAG (qAz (I:=fun x c st'=>st'=st/\c=(none,x)/\x<=nrem) ?step ?fin ⟨rfl,rfl,h2⟩)
 case fin =>
  rintro c st' ⟨rfl,rfl,h3⟩;rw [show max n0 nrem=nrem by lia];exact hG nrem h2 (qAF _)
 case step =>
  rintro x c st' hx1 hx2 ⟨rfl,rfl,h3⟩;rw [hF];refine qAG (w_ask C hk al (by lia) (by lia) fun c=>?_);show wpS _ _ _ _ (if c=true then _ else _) _ _;split
  ·exact qAH (hG x hx1 h3)
  ·exact qAH ⟨rfl,rfl,by lia⟩
theorem w_tail {Q:Option Nat->SortSt->Prop} (C:CmpOk prog w A s kd κ) (hk:kindOf st=kd) (al:All κ st) (hn:lo+nrem<=(arrOf st).size) (h1:1<=n) (h2:n<=nrem)
  (F:Nat->Option (Option Nat)×Nat->StateT SortSt Sem (ForInStep (Option (Option Nat)×Nat))) (hF:∀x n,F x (none,n)=(do
   let c<-ltAt' (lo+n) (lo+n - 1)
   match c with
   | some c=>if c=true then pure (ForInStep.done (none,n)) else pure (ForInStep.yield (none,n+1))
   | _=>pure (ForInStep.done (some none,n)))) (G:Option (Option Nat)×Nat->StateT SortSt Sem (Option Nat)) (hG:∀n,G (none,n)=pure (some n))
  (h:∀m st',Fr st st'->1<=m->m<=nrem->Q (some m) st') :
  wpS (model prog w) A E s (reverseSlice' lo (lo+n) >>= fun _=>forIn [n:nrem] ((none,n):Option (Option Nat)×Nat) F >>= G) Q st:=by
 have f:=Fr.rev st lo (lo+n) ((lo+n - lo) / 2);refine qAG (qCz ?_);refine w_asc C (f.kd.trans hk) (al.fr f) (by rw [f.size];exact hn) h1 h2 F hF G fun m m1 m2=>?_;rw [hG];exact qAH (h m _ f (by lia) m2)
theorem w_desc {n0:Nat} {Q:α->SortSt->Prop} (C:CmpOk prog w A s kd κ) (hk:kindOf st=kd) (al:All κ st) (hn:lo+nrem<=(arrOf st).size) (h1:1<=n0) (h2:n0<=nrem)
  (F:Nat->Option (Option Nat)×Nat×Nat->StateT SortSt Sem (ForInStep (Option (Option Nat)×Nat×Nat))) (hF:∀x n q,F x (none,n,q)=(ltAt' (lo+n) (lo+n - 1) >>= fun c=>match c with
   | some c=>(if c=true then (if q>0 then (reverseSlice' (lo+n - (q+1)) (lo+n) >>= fun _=>pure (ForInStep.yield (none,n+1,0))) else pure (ForInStep.yield (none,n+1,0)))
    else (ltAt' (lo+n - 1) (lo+n) >>= fun d=>match d with
     | some d=>(if d=true then pure (ForInStep.done (none,n,q)) else pure (ForInStep.yield (none,n+1,q+1)))
     | _=>pure (ForInStep.done (some none,n,q))))
   | _=>pure (ForInStep.done (some none,n,q)))) (G:Option (Option Nat)×Nat×Nat->StateT SortSt Sem α)
  (hG:∀n q st',Fr st st'->n0<=n->n<=nrem->wpS (model prog w) A E s (G (none,n,q)) Q st') :
  wpS (model prog w) A E s (forIn [n0:nrem] ((none,n0,0):Option (Option Nat)×Nat×Nat) F >>= G) Q st:=by
 refine qAG (qAz (I:=fun x c st'=>Fr st st'/\∃q,c=(none,x,q)/\x<=nrem) ?step ?fin ⟨Fr.refl _,0,rfl,h2⟩)
 case fin =>
  rintro c st' ⟨f,q,rfl,h3⟩;rw [show max n0 nrem=nrem by lia];exact hG nrem q st' f h2 (qAF _)
 case step =>
  rintro x c st' hx1 hx2 ⟨f,q,rfl,h3⟩;have hz:(arrOf st').size=(arrOf st).size:=f.size;have al':=al.fr f;have hk':=f.kd.trans hk;rw [hF];refine qAG (w_ask C hk' al' (by lia) (by lia) fun c=>?_);show wpS _ _ _ _ (if c=true then _ else _) _ _
  by_cases e:c=true
  ·rw [qAC e]
   by_cases hq:q>0
   ·rw [qAC hq];exact qAG (qCz (qAH ⟨f.trans (Fr.rev _ _ _ _),0,rfl,by lia⟩))
   ·rw [qAB hq];exact qAH ⟨f,0,rfl,by lia⟩
  ·rw [qAB e];refine qAG (w_ask C hk' al' (by lia) (by lia) fun d=>?_);show wpS _ _ _ _ (if d=true then _ else _) _ _
   by_cases e2:d=true
   ·rw [qAC e2];exact qAH (hG x q st' f hx1 h3)
   ·rw [qAB e2];exact qAH ⟨f,q+1,rfl,by lia⟩
theorem w_count {Q:Option Nat->SortSt->Prop} (C:CmpOk prog w A s kd κ) (hk:kindOf st=kd) (al:All κ st) (hn:lo+nrem<=(arrOf st).size) (h1:1<=nrem)
  (h:∀m st',Fr st st'->1<=m->m<=nrem->Q (some m) st'):wpS (model prog w) A E s (countRun' lo nrem) Q st:=by
 refine w_asc C hk al hn (qAF 1) h1 _ (fun x n=>rfl) _ fun n n1 n2=>?_;show wpS _ _ _ _ (if (n==nrem)=true then _ else _) _ _
 by_cases c:(n==nrem)=true
 ·rw [qAC c];exact qAH (h n st (Fr.refl _) n1 n2)
 rw [qAB c];have c':=zAm c;show wpS _ _ _ _ (if n>1 then _ else _) _ _
 by_cases g:n>1
 ·rw [qAC g];refine qAG (w_ask C hk al (by lia) (by lia) fun c=>?_);show wpS _ _ _ _ (if c=true then _ else _) _ _
  by_cases e:c=true
  ·rw [qAC e];exact qAH (h n st (Fr.refl _) n1 n2)
  ·rw [qAB e];have f1:=Fr.rev st lo (lo+n) ((lo+n - lo) / 2);refine qAG (qCz ?_);refine qAG (qBq (qBQ ⟨rfl,?_⟩));refine w_desc C (f1.kd.trans hk) (al.fr f1) (by rw [f1.size];exact hn) (by lia) (by lia) _ (fun x n q=>rfl) _ fun m q st2 f2 m1 m2=>?_;have f2:=f1.trans f2;show wpS _ _ _ _ (if q>0 then _ else _) _ _
   by_cases hq:q>0
   ·rw [qAC hq];have f3:=f2.trans (Fr.rev st2 (lo+m - (q+1)) (lo+m) ((lo+m - (lo+m - (q+1))) / 2));refine qAG (qCz ?_);exact w_tail C (f3.kd.trans hk) (al.fr f3) (by rw [f3.size];exact hn) (by lia) m2 _ (fun x n=>rfl) _ (fun n=>rfl) fun m' st' f'=>h m' st' (f3.trans f')
   ·rw [qAB hq];exact w_tail C (f2.kd.trans hk) (al.fr f2) (by rw [f2.size];exact hn) (by lia) m2 _ (fun x n=>rfl) _ (fun n=>rfl) fun m' st' f'=>h m' st' (f2.trans f')
 ·rw [qAB g];have en:n=1:=by lia
  subst en;refine qAG (qBq (qBQ ⟨rfl,?_⟩));refine w_desc C hk al hn (by lia) (by lia) _ (fun x n q=>rfl) _ fun m q st2 f2 m1 m2=>?_;show wpS _ _ _ _ (if q>0 then _ else _) _ _
  by_cases hq:q>0
  ·rw [qAC hq];have f3:=f2.trans (Fr.rev st2 (lo+m - (q+1)) (lo+m) ((lo+m - (lo+m - (q+1))) / 2));refine qAG (qCz ?_);exact w_tail C (f3.kd.trans hk) (al.fr f3) (by rw [f3.size];exact hn) (by lia) m2 _ (fun x n=>rfl) _ (fun n=>rfl) fun m' st' f'=>h m' st' (f3.trans f')
  ·rw [qAB hq];exact w_tail C (f2.kd.trans hk) (al.fr f2) (by rw [f2.size];exact hn) (by lia) m2 _ (fun x n=>rfl) _ (fun n=>rfl) fun m' st' f'=>h m' st' (f2.trans f')
theorem w_ins {ok:Nat} {Q:Bool->SortSt->Prop} (C:CmpOk prog w A s kd κ) (hk:kindOf st=kd) (al:All κ st) (hn:lo+n<=(arrOf st).size)
  (h:∀st',Fr st st'->Q true st'):wpS (model prog w) A E s (binarySort' lo n ok) Q st:=by
 refine qAG (qA3 (qAz (I:=fun k c st'=>c=(none,())/\Fr st st') (Q:=fun c st'=>c=(none,())/\Fr st st') ?step (fun c st' h=>h) ⟨rfl,Fr.refl _⟩) ?post)
 case post =>
  rintro c st' ⟨rfl,f⟩;exact qAH (h st' f)
 case step =>
  rintro k c st' hk1 hk2 ⟨rfl,f⟩;have hz:(arrOf st').size=(arrOf st).size:=f.size
  refine qAG (qA3 (qAz (I:=fun x c st2=>st2=st'/\∃l r,c=(none,l,r)/\l<=r/\r<=k)
   (Q:=fun c st2=>st2=st'/\∃l r,c=(none,l,r)/\l<=r/\r<=k) ?s2 (fun c st' h=>h) ⟨rfl,0,k,rfl,by lia,by lia⟩) ?p2)
  case s2 =>
   rintro x c st2 _ hx ⟨rfl,l,r,rfl,a1,a2⟩;dsimp only
   by_cases g:l>=r
   ·rw [qAC g];exact qAH ⟨rfl,l,r,rfl,a1,a2⟩
   ·rw [qAB g];refine qAG (w_ask C (f.kd.trans hk) (al.fr f) (by lia) (by lia) fun c=>?_);show wpS _ _ _ _ (if c=true then _ else _) _ _;split
    ·exact qAH ⟨rfl,l,(l+r) / 2,rfl,by lia,by lia⟩
    ·exact qAH ⟨rfl,(l+r) / 2+1,r,rfl,by lia,by lia⟩
  case p2 =>
   rintro c st2 ⟨rfl,l,r,rfl,a1,a2⟩;show wpS _ _ _ _ (moveDown' (lo+k) (lo+l) >>= fun _=>pure (ForInStep.yield (none,()))) _ _;rw [moveDown'_eq];exact qAG (qA9 (qAH ⟨rfl,f.trans ⟨rfl,rfl,rfl,bubble_perm _ _ _⟩⟩))
theorem w_set {M:Model} {σ:Type} {st st':σ} {Q:PUnit->σ->Prop} (h:Q ⟨⟩ st'):wpS M A E s (set st':StateT σ Sem PUnit) Q st:=by
 unfold wpS;rw [StateT.run_set];exact qAE ⟨rfl,h⟩
theorem splice:∀(m:List Keyed) (arr:Array Keyed) (sa k:Nat),sa+k+m.length<=arr.size ->
  ((m.zipIdx k).foldl (fun a x=>match x with| (p,j)=>a.setIfInBounds (sa+j) p) arr).toList=arr.toList.take (sa+k)++m++arr.toList.drop (sa+k+m.length)
 | [],arr,sa,k,_=>by simp
 | p::r,arr,sa,k,h=>by
  rw [qAe] at h;have hk:sa+k<arr.size:=by lia
  rw [List.zipIdx_cons,qBa];show ((r.zipIdx (k+1)).foldl _ (arr.setIfInBounds (sa+k) p)).toList=_;rw [splice r (arr.setIfInBounds (sa+k) p) sa (k+1) (by rw [qDb];lia)];have e:(arr.setIfInBounds (sa+k) p).toList=arr.toList.set (sa+k) p:=by simp
  have hl:sa+k<arr.toList.length:=by simpa using hk
  rw [e,show sa+(k+1)=sa+k+1 by lia,qAe,show sa+k+(r.length+1)=sa+k+1+r.length by lia]
  have e1:(arr.toList.set (sa+k) p).take (sa+k+1)=arr.toList.take (sa+k)++[p]:=by
   rw [qCo,qDS hl,List.take_set_of_le (qAF _)];rfl
  have e2:(arr.toList.set (sa+k) p).drop (sa+k+1+r.length)=arr.toList.drop (sa+k+1+r.length):=List.drop_set_of_lt (by lia);rw [e1,e2];simp
theorem zI4 {a:Array Keyed} (h:∀x∈a.toList,Has κ x) (i j:Nat):∀x∈(a.extract i j).toList,Has κ x:=fun x hx=>by
 rw [qBd,List.extract_eq_drop_take] at hx;exact h x (qDX (qBt hx))
theorem w_mergeAt {sa na pw nb pw2:Nat} {Q:Bool->SortSt->Prop} (C:CmpOk prog w A s kd κ) (hk:kindOf st=kd) (al:All κ st) (hp1:(pendingOf st)[i]?=some (sa,na,pw)) (hp2:(pendingOf st)[i+1]?=some (sa+na,nb,pw2))
  (h1:1<=na) (h2:1<=nb) (hz:sa+na+nb<=(arrOf st).size) (hfl:failedOf st=none)
  (h:∀st',kindOf st'=kindOf st->failedOf st'=none->pendingOf st'=((pendingOf st).setIfInBounds i (sa,na+nb,pw)).eraseIdxIfInBounds (i+1)->(arrOf st').Perm (arrOf st)->Q true st'):wpS (model prog w) A E s (mergeAt' i) Q st:=by
 obtain ⟨st1,e1⟩:∃st1:SortSt,st1=setPending st (((pendingOf st).setIfInBounds i (sa,na+nb,pw)).eraseIdxIfInBounds (i+1)):=⟨_,rfl⟩;have ka:kindOf st1=kindOf st:=by rw [e1]
 have fa:failedOf st1=failedOf st:=by rw [e1]
 have pa:pendingOf st1=((pendingOf st).setIfInBounds i (sa,na+nb,pw)).eraseIdxIfInBounds (i+1):=by rw [e1]
 have aa:arrOf st1=arrOf st:=by rw [e1]
 have plain:Q true st1:=h st1 ka (fa.trans hfl) pa (by rw [aa]);refine qAG (qBO ?_);show wpS _ _ _ _ (match ((pendingOf st)[i]?,(pendingOf st)[i+1]?) with| _=>_) _ _;rw [hp1,hp2];refine qAG (w_set ?_);show wpS _ _ _ _ _ _ (setPending st (((pendingOf st).setIfInBounds i (sa,na+nb,pw)).eraseIdxIfInBounds (i+1)));rw [<-e1];obtain ⟨y0,ey0,hy0⟩:=al.at (show sa+na<(arrOf st).size by lia);refine qAG (zBa ey0 ?_);refine qAG (w_gal C (ka.trans hk) hy0 (fun j hj=>al.at (by lia)) (show 0<na by lia) fun k hkn=>?_);show wpS _ _ _ _ (if (na - k==0)=true then _ else _) _ _
 by_cases c1:(na - k==0)=true
 ·rw [qAC c1];exact qAH plain
 rw [qAB c1];have c1:=zAm c1;obtain ⟨z,ez,hz'⟩:=al.at (show sa+k+(na - k) - 1<(arrOf st).size by lia);refine qAG (zBa ez ?_);refine qAG (w_gal C (ka.trans hk) hz' (fun j hj=>al.at (by lia)) (show nb - 1<nb by lia) fun m hmn=>?_);show wpS _ _ _ _ (if (m==0)=true then _ else _) _ _
 by_cases c2:(m==0)=true
 ·rw [qAC c2];exact qAH plain
 rw [qAB c2];have c2:=zAm c2;have zX:((arrOf st).extract (sa+k) (sa+na)).size=na - k:=by simp;lia
 have zY:((arrOf st).extract (sa+na) (sa+na+m)).size=m:=by simp;lia
 have fin:∀(r:Array Keyed) (st2:SortSt),Like st1 st2->Fn ((arrOf st).extract (sa+k) (sa+na)) ((arrOf st).extract (sa+na) (sa+na+m)) r ->
   wpS (model prog w) A E s (modify (fun s:SortSt=>SortSt.mk' (kindOf s) (r.toList.zipIdx.foldl (fun a x=>match x with| (p,j)=>a.setIfInBounds (sa+k+j) p) (arrOf s)) (pendingOf s) (gallopOf s) (failedOf s)) >>= fun _=>(get:StateT SortSt Sem SortSt) >>= fun s=>pure (failedOf s).isNone) Q st2:=fun r st2 L F=>by
  have ar2:arrOf st2=arrOf st:=L.ar.trans aa;have fl2:failedOf st2=none:=L.fl.trans (fa.trans hfl)
  have lr:r.toList.length=na - k+m:=by
   have:=F fun _=>true;simp only [List.countP_true,qBS,zX,zY] at this;simpa using this
  have sp:=splice r.toList (arrOf st2) (sa+k) 0 (by rw [ar2];lia);rw [ar2,qCi,lr] at sp;refine qAG (qA9 (qAG (qBO ?_)));have e3:(failedOf st2).isNone=true:=by rw [fl2];rfl
  show wpS _ _ _ _ (pure (failedOf st2).isNone) _ _;rw [e3,ar2];generalize hR:(r.toList.zipIdx.foldl (fun a x=>match x with| (p,j)=>a.setIfInBounds (sa+k+j) p) (arrOf st))=R at sp;refine qAH (h _ (L.kd.trans ka) fl2 (L.pn.trans pa) ?_);show R.Perm (arrOf st);refine qCu.mpr (perm_ct fun p=>?_);have h1:=F p;have h2:=cd (a:=arrOf st) (show sa+k<=sa+na by lia) p;have h3:=cd (a:=arrOf st) (show sa+na<=sa+na+m by lia) p;have h4:=qAk (List.countP p) (qA8 (sa+k) (arrOf st).toList);rw [qCE] at h4;rw [sp,qCE,qCE,show sa+k+(na - k+m)=sa+na+m by lia];lia
 show wpS _ _ _ _ (if na - k<=m then _ else _) _ _
 by_cases c3:na - k<=m
 ·rw [qAC c3];exact qAG (w_mLo (a:=(arrOf st).extract (sa+k) (sa+na)) (b:=(arrOf st).extract (sa+na) (sa+na+m)) C (ka.trans hk) (zI4 al _ _) (zI4 al _ _) (by rw [zX];lia) (by rw [zY];lia) fun r st2 L F=>fin r st2 L F)
 ·rw [qAB c3];exact qAG (w_mHi (a:=(arrOf st).extract (sa+k) (sa+na)) (b:=(arrOf st).extract (sa+na) (sa+na+m)) C (ka.trans hk) (zI4 al _ _) (zI4 al _ _) (by rw [zX];lia) (by rw [zY];lia) fun r st2 L F=>fin r st2 L F)
end
def Ch:List (Nat×Nat×Nat)->Nat->Nat->Prop
 | [],s,e=>s=e
 | (a,n,_)::r,s,e=>a=s/\1<=n/\Ch r (s+n) e
theorem Ch.app {P Q:List (Nat×Nat×Nat)}:∀{s e:Nat},Ch (P++Q) s e↔∃m,Ch P s m/\Ch Q m e:=by
 induction P with
 | nil=>intro s e;exact ⟨fun h=>⟨s,rfl,h⟩,fun ⟨m,h1,h2⟩=>by have h1:s=m:=h1;rw [h1];exact h2⟩
 | cons x P ih =>
  obtain ⟨a,n,q⟩:=x;intro s e;constructor
  ·rintro ⟨h1,h2,h3⟩;obtain ⟨m,k1,k2⟩:=ih.mp h3;exact ⟨m,⟨h1,h2,k1⟩,k2⟩
  ·rintro ⟨m,⟨h1,h2,h3⟩,h4⟩;exact ⟨h1,h2,ih.mpr ⟨m,h3,h4⟩⟩
theorem Ch.bnd:∀{P:List (Nat×Nat×Nat)} {s e:Nat},Ch P s e->s+P.length<=e
 | [],s,e,h=>qBl h
 | (a,n,t)::r,s,e,h=>by
  have:=Ch.bnd h.2.2;have:=h.2.1;rw [qAe];lia
theorem set_erase (P:List α) (x y v:α) (T:List α):((P++x::y::T).set P.length v).eraseIdx (P.length+1)=P++v::T:=by
 induction P with
 | nil=>rfl
 | cons p P ih =>
  show p::((P++x::y::T).set P.length v).eraseIdx (P.length+1)=p::(P++v::T);rw [ih]
theorem two_at :∀{L:List α} {i:Nat},i+1<L.length->∃P x y T,L=P++x::y::T/\P.length=i
 | [],i,h=>by simp at h
 | [_],i,h=>by simp at h
 | a::b::L,0,_=>⟨[],a,b,L,rfl,rfl⟩
 | a::b::L,i+1,h=>by
  obtain ⟨P,x,y,T,e,l⟩:=two_at (L:=b::L) (i:=i) (by simp at h ⊢;lia);exact ⟨a::P,x,y,T,by rw [e];rfl,by simp [l]⟩
theorem ch_map:∀{L L':List (Nat×Nat×Nat)} {s e:Nat},L'.map (fun q=>(q.1,q.2.1))=L.map (fun q=>(q.1,q.2.1))->Ch L s e->Ch L' s e
 | [],[],_,_,_,h=>h
 | [],_::_,_,_,h,_=>by simp at h
 | _::_,[],_,_,h,_=>by simp at h
 | (a,n,t)::r,(b,m,u)::r',s,e,h,c=>by
  simp at h;obtain ⟨⟨h1,h2⟩,h3⟩:=h;obtain ⟨c1,c2,c3⟩:=c;subst h1;subst h2;exact ⟨c1,c2,ch_map (by simpa using h3) c3⟩
theorem mod_map {f:Nat×Nat×Nat->Nat×Nat×Nat} (hf:∀q,(f q).1=q.1/\(f q).2.1=q.2.1) (p:Array (Nat×Nat×Nat)) (i:Nat):(p.modify i f).toList.map (fun q=>(q.1,q.2.1))=p.toList.map (fun q=>(q.1,q.2.1)):=by
 apply List.ext_getElem?;intro k;rw [qAZ,qAZ,qAm,qAm,Array.getElem?_modify];split
 ·cases h:p[k]? with
  | none=>rfl
  | some q =>
   have:=hf q;simp [this.1,this.2]
 ·rfl
section
variable {prog:Program} {w:World} {A:Around} {E:Value->Shared->Prop} {s:Shared} {kd:SortKind} {κ:KeyKind} {a₀:Array Keyed}
structure Rn (kd:SortKind) (a₀:Array Keyed) (lo:Nat) (st:SortSt):Prop where
 kd:kindOf st=kd
 fl:failedOf st=none
 perm:(arrOf st).Perm a₀
 ch:Ch (pendingOf st).toList 0 lo
theorem Rn.all (R:Rn kd a₀ lo st) (h:∀x∈a₀.toList,Has κ x):All κ st:=fun x hx=>h x ((qCu.mp R.perm).mem_iff.mp hx)
theorem w_merge {Q:Bool->SortSt->Prop} (C:CmpOk prog w A s kd κ) (ha:∀x∈a₀.toList,Has κ x) (R:Rn kd a₀ lo st) (hl:lo<=a₀.size) (hi:i+1<(pendingOf st).size)
  (h:∀st',Rn kd a₀ lo st'->(pendingOf st').size+1=(pendingOf st).size->Q true st'):wpS (model prog w) A E s (mergeAt' i) Q st:=by
 obtain ⟨P,⟨sa,na,pw⟩,⟨sb,nb,pw2⟩,T,e,l⟩:=two_at (L:=(pendingOf st).toList) (i:=i) (by simpa using hi);have hz:(arrOf st).size=a₀.size:=R.perm.size_eq;have ch:=R.ch;rw [e] at ch;obtain ⟨m,c1,d1,d2,d3,d4,d5⟩:=Ch.app.mp ch;subst d1;subst d3;have b2:=d5.bnd
 have e1:(pendingOf st)[i]?=some (sa,na,pw):=by
  rw [<-qAm,e,<-l];simp
 have e2:(pendingOf st)[i+1]?=some (sa+na,nb,pw2):=by
  rw [<-qAm,e,<-l,qB4 (by lia)];simp
 refine w_mergeAt C R.kd (R.all ha) e1 e2 d2 d4 (by lia) R.fl fun st' k1 k2 k3 k4=>?_
 have ep:(pendingOf st').toList=P++(sa,na+nb,pw)::T:=by
  have hb:i+1<((pendingOf st).setIfInBounds i (sa,na+nb,pw)).size:=by rw [qDb];exact hi
  rw [k3,Array.eraseIdxIfInBounds,dif_pos hb,Array.toList_eraseIdx,Array.toList_setIfInBounds,e,<-l];exact set_erase P _ _ _ T
 refine h st' ⟨k1.trans R.kd,k2,k4.trans R.perm,?_⟩ ?_
 ·rw [ep];refine Ch.app.mpr ⟨sa,c1,rfl,by lia,?_⟩;rw [show sa+(na+nb)=sa+na+nb by lia];exact d5
 ·have h1:=qAk List.length ep;have h2:=qAk List.length e;simp at h1 h2;lia
theorem Rn.modify (R:Rn kd a₀ lo st) {f:Nat×Nat×Nat->Nat×Nat×Nat} (hf:∀q,(f q).1=q.1/\(f q).2.1=q.2.1) (i:Nat):Rn kd a₀ lo (setPending st ((pendingOf st).modify i f)):=⟨R.kd,R.fl,R.perm,ch_map (mod_map hf (pendingOf st) i) R.ch⟩
theorem ite_less (c:Prop) [Decidable c] (a:Nat):(if c then a - 1 else a)<=a:=by split<;>lia
theorem w_sort {Q:Unit->SortSt->Prop} (C:CmpOk prog w A s kd κ) (ha:∀x∈a₀.toList,Has κ x) (hk:kindOf st=kd) (hf:failedOf st=none) (hp:(arrOf st).Perm a₀) (hpn:pendingOf st=#[]) (h1:1<=a₀.size)
  (h:∀st',failedOf st'=none->(arrOf st').Perm a₀->Q () st'):wpS (model prog w) A E s sortRuns' Q st:=by
 have hz0:(arrOf st).size=a₀.size:=hp.size_eq;have hz0p:(arrOf st).size=a₀.size:=hz0;unfold arrOf at hz0p;refine qAG (qBO ?_);have R0:Rn kd a₀ 0 st:=⟨hk,hf,hp,by rw [hpn];rfl⟩;refine qAG (qA3 (qAz (I:=fun x c st'=>∃lo,c=(none,lo)/\Rn kd a₀ lo st'/\lo<=a₀.size/\(x<=lo\/lo=a₀.size)) (Q:=fun c st'=>∃lo,c=(none,lo)/\Rn kd a₀ a₀.size st') ?step ?fin ⟨0,rfl,R0,by lia,.inl (by lia)⟩) ?post)
 case fin =>
  rintro c st' ⟨lo,rfl,R,l1,l2⟩
  have:lo=a₀.size:=by
   have:max 0 (arrOf st).size=a₀.size:=by lia
   rcases l2 with z| z
   ·lia
   ·exact z
  subst this;exact ⟨_,rfl,R⟩
 case step =>
  rintro x c st1 _ hx ⟨lo,rfl,R,l1,l2⟩;show wpS _ _ _ _ (if lo>=(arrOf st).size then _ else _) _ _
  by_cases g:lo>=(arrOf st).size
  ·rw [qAC g];have:lo=a₀.size:=by lia
   subst this;exact qAH ⟨_,rfl,R⟩
  rw [qAB g];have hz1:(arrOf st1).size=a₀.size:=R.perm.size_eq;refine qAG (w_count C R.kd (R.all ha) (by rw [hz0,hz1];lia) (by lia) fun m st2 f2 m1 m2=>?_);have keepR:∀{st':SortSt},Fr st1 st'->Rn kd a₀ lo st':=fun {st'} f=>⟨f.kd.trans R.kd,f.fl.trans R.fl,f.perm.trans R.perm,by rw [f.pn];exact R.ch⟩
  have push:∀{n:Nat} {st4:SortSt},1<=n->Rn kd a₀ lo st4->Rn kd a₀ (lo+n) (setPending st4 ((pendingOf st4).push (lo,n,0))):=fun {n st4} n1 R4=>by
   refine ⟨R4.kd,R4.fl,R4.perm,?_⟩;show Ch ((pendingOf st4).push (lo,n,0)).toList 0 (lo+n);rw [qCW];exact Ch.app.mpr ⟨lo,R4.ch,rfl,n1,rfl⟩
  have loop:∀(st4:SortSt) (pw:Nat),Rn kd a₀ lo st4->∀(R:ForInStep (Option Unit×Unit)->SortSt->Prop),(∀st',Rn kd a₀ lo st'->R (.done (none,())) st'/\R (.yield (none,())) st') ->
    wpS (model prog w) A E s ((get:StateT SortSt Sem SortSt) >>= fun v=>match (if (pendingOf v).size>1 then (pendingOf v)[(pendingOf v).size - 2]? else none) with
       | some (_,_,older)=>(if older<=pw then pure (ForInStep.done (none,())) else (mergeAt' ((pendingOf v).size - 2) >>= fun b=>if (!b)=true then pure (ForInStep.done (some (),())) else pure (ForInStep.yield (none,()))))
       | _=>pure (ForInStep.done (none,()))) R st4:=by
   intro st4 pw R4 Rr hR;refine qAG (qBO ?_)
   by_cases c1:(pendingOf st4).size>1
   ·rw [qAC c1];rcases ho:(pendingOf st4)[(pendingOf st4).size - 2]? with _| ⟨o1,o2,o3⟩
    ·exact qAH (hR st4 R4).1
    ·show wpS _ _ _ _ (if o3<=pw then _ else _) _ _
     by_cases c2:o3<=pw
     ·rw [qAC c2];exact qAH (hR st4 R4).1
     ·rw [qAB c2];exact qAG (w_merge C ha R4 l1 (by lia) fun st5 R5 _=>qAH (hR st5 R5).2)
   ·rw [qAB c1];exact qAH (hR st4 R4).1
  have ends:∀{n:Nat} {st5:SortSt},1<=n->Rn kd a₀ (lo+n) st5->lo+n<=a₀.size->∃l,((none,lo+n):Option Unit×Nat)=(none,l)/\Rn kd a₀ l st5/\l<=a₀.size/\(x+1<=l\/l=a₀.size):=fun {n st5} n1 R5 n2=>⟨_,rfl,R5,n2,.inl (by lia)⟩
  by_cases c1:m<minRun' (arrOf st).size (arrOf st).size 0
  ·refine (show wpS _ _ _ _ (if m<minRun' (arrOf st).size (arrOf st).size 0 then _ else _) _ _ from ?_);rw [qAC c1];refine qAG (qBq (qBQ ⟨rfl,?_⟩));refine qAG (w_ins (n:=min ((arrOf st).size - lo) (minRun' (arrOf st).size (arrOf st).size 0)) C (f2.kd.trans R.kd) ((R.all ha).fr f2) (by rw [f2.size,hz1];lia) fun st3 f3=>?_);show wpS _ _ _ _ (if false=true then _ else _) _ _;rw [qAB (by decide)];have R3:=keepR (f2.trans f3);have n1:1<=min ((arrOf st).size - lo) (minRun' (arrOf st).size (arrOf st).size 0):=by lia
   have n2:lo+min ((arrOf st).size - lo) (minRun' (arrOf st).size (arrOf st).size 0)<=a₀.size:=by lia
   refine qAG (qBO ?_);rcases hb:(pendingOf st3).back? with _| ⟨s1,q1,t1⟩
   ·exact qAG (qA9 (qAH (ends n1 (push n1 R3) n2)))
   ·refine qAG (qA3 (qAz (I:=fun y c st'=>c=(none,())/\Rn kd a₀ lo st') (Q:=fun c st'=>c=(none,())/\Rn kd a₀ lo st') ?s2 (fun c st' h=>h) ⟨rfl,R3⟩) ?p2)
    case p2 =>
     rintro c st4 ⟨rfl,R4⟩;exact qAG (qA9 (qAG (qA9 (qAH (ends n1 (push n1 (R4.modify (f:=fun x=>match x with| (t,len,_)=>(t,len,power' (arrOf st).size (2*s1+q1) (2*s1+q1+q1+min ((arrOf st).size - lo) (minRun' (arrOf st).size (arrOf st).size 0)) (arrOf st).size)) (fun q=>⟨rfl,rfl⟩) ((pendingOf st4).size - 1))) n2)))))
    case s2 =>
     rintro y c st4 _ hy ⟨rfl,R4⟩;exact loop st4 _ R4 _ fun st' R'=>⟨⟨rfl,R'⟩,⟨rfl,R'⟩⟩
  ·refine (show wpS _ _ _ _ (if m<minRun' (arrOf st).size (arrOf st).size 0 then _ else _) _ _ from ?_);rw [qAB c1];have R3:=keepR f2;have n2:lo+m<=a₀.size:=by lia
   refine qAG (qBO ?_);rcases hb:(pendingOf st2).back? with _| ⟨s1,q1,t1⟩
   ·exact qAG (qA9 (qAH (ends m1 (push m1 R3) n2)))
   ·refine qAG (qA3 (qAz (I:=fun y c st'=>c=(none,())/\Rn kd a₀ lo st') (Q:=fun c st'=>c=(none,())/\Rn kd a₀ lo st') ?s2 (fun c st' h=>h) ⟨rfl,R3⟩) ?p2)
    case p2 =>
     rintro c st4 ⟨rfl,R4⟩;exact qAG (qA9 (qAG (qA9 (qAH (ends m1 (push m1 (R4.modify (f:=fun x=>match x with| (t,len,_)=>(t,len,power' (arrOf st).size (2*s1+q1) (2*s1+q1+q1+m) (arrOf st).size)) (fun q=>⟨rfl,rfl⟩) ((pendingOf st4).size - 1))) n2)))))
    case s2 =>
     rintro y c st4 _ hy ⟨rfl,R4⟩;exact loop st4 _ R4 _ fun st' R'=>⟨⟨rfl,R'⟩,⟨rfl,R'⟩⟩
 case post =>
  rintro c st1 ⟨lo,rfl,R⟩;refine qAG (qA3 (qAz (I:=fun x c st'=>c=(none,())/\Rn kd a₀ a₀.size st') (Q:=fun c st'=>c=(none,())/\Rn kd a₀ a₀.size st') ?s3 (fun c st' h=>h) ⟨rfl,R⟩) ?p3)
  case p3 =>
   rintro c st' ⟨rfl,R'⟩;exact qAH (h st' R'.fl R'.perm)
  case s3 =>
   rintro y c st2 _ hy ⟨rfl,R2⟩;refine qAG (qBO ?_);show wpS _ _ _ _ (if (pendingOf st2).size<=1 then _ else _) _ _
   by_cases c1:(pendingOf st2).size<=1
   ·rw [qAC c1];exact qAH ⟨rfl,R2⟩
   ·rw [qAB c1];refine qAG (w_merge C ha R2 (qAF _) ?_ fun st5 R5 _=>qAH ⟨rfl,R5⟩);exact qC7 (Nat.add_le_add_right (ite_less _ _) 1) (show (pendingOf st2).size - 2+1<(pendingOf st2).size by lia)
end
end TimP
namespace ST
open PySem PyProof.Rows PySem.W
section
variable {prog:Program} {w:World} {A:Around} {E:Value->Shared->Prop} {s:Shared}
theorem w_lsortP {κ:PyProof.Rows.KeyKind} {kd:SortKind} {a:Addr} {vs:List Value} {n:Nat} {P:Fin->Shared->Prop} (ho:s.heap.get? a=some (seqObj "list" vs.toArray n)) (hz:vs.length<=4096)
  (hS:∀h',(∀b o,b≠a->s.heap.get? b=some o->h'.get? b=some o)->Sortable prog w A κ kd vs {s with heap:=h'})
  (h:∀out:Array Value,out.toList.Perm vs->P (.done (.ret .none)) {s with heap:=sortedHeap s.heap a vs out}) :
  wpAny (model prog w) A (Builtin.«list.sort» ⟨[.ref a],[]⟩) P E s:=by
 rw [list_sort_plain];have hsl:(4096:Nat)<=sizeLine:=by decide +kernel
 have ha:a<s.heap.objs.size:=qAK ho;have hsz:vs.toArray.size=vs.length:=by simp
 refine qAA (listItems_at ho rfl ?_);refine qAA (qCF ho rfl ?_ (by lia) (qAd _));have h1:(s.heap.update a (Obj.mapSeq fun _=>#[])).get? a=some (seqObj "list" #[] _):=qBv ho fun _=>#[];refine qAA (qC0 h1 rfl ?_);refine qAA (qDE ?_ (by show vs.toArray.toList.length<=_;simp;lia));refine qAA (qC1 ?_ (qAd _));refine qAx ?_;have h6:=qAI (seqObj "list" #[] 0) (qAI (seqObj "tuple" vs.toArray 0) h1);change wpAny (model prog w) A _ P E {s with heap:=((s.heap.update a (Obj.mapSeq fun _=>#[])).push (seqObj "tuple" vs.toArray 0)).push (seqObj "list" #[] 0)};dsimp only
 have S6:=hS (((s.heap.update a (Obj.mapSeq fun _=>#[])).push (seqObj "tuple" vs.toArray 0)).push (seqObj "list" #[] 0)) fun b o hb q=>by
  refine qAI _ (qAI _ ?_);rw [qBn _ _ (qAr hb)];exact q
 by_cases c:vs.toArray.size<2
 ·rw [qAC c,qAC c];refine qAA (qAE ?_);rw [StateT.run_pure];refine qAA (qAE ?_);dsimp only;refine qAA (qC0 h6 rfl ?_);refine qAA (qCF h6 rfl ?_ (qAd _) (by rw [Array.size_map];show (pairsOf vs).size<=_;rw [pairsOf_size];lia));simp only [bne_self_eq_false,qDK,qCN];have e:(arrOf (SortSt.mk' general' (vs.toArray.zip vs.toArray) #[] 7 none)).Perm (pairsOf vs):=Array.Perm.refl _;exact qAE (h _ (zIk e))
 ·rw [qAB c,qAB c];refine qAA (S6.kind (by lia) _ _ ?_)
  have W:=TimP.w_sort (E:=E) (a₀:=pairsOf vs) (st:=SortSt.mk' kd (vs.toArray.zip vs.toArray) #[] 7 none) (Q:=fun _ st'=>failedOf st'=none/\(arrOf st').Perm (pairsOf vs)) S6.cmp (fun p hp=>by
   rw [pairsOf_toList] at hp;exact S6.has _ (mem_zip_self hp).2) rfl rfl (Array.Perm.refl _) rfl (by rw [pairsOf_size];lia) fun st' q1 q2=>⟨q1,q2⟩
  refine qAA (qAq W ?_ fun _ _ e=>e);rintro ⟨⟨⟩,st'⟩ s' ⟨rfl,q1,q2⟩;dsimp only;refine qAA (qC0 h6 rfl ?_);have zz:=(zIk q2).length_eq;refine qAA (qCF h6 rfl ?_ (qAd _) (by simp at zz ⊢;lia));rw [q1];simp only [bne_self_eq_false,qDK,qCN];exact qAE (h _ (zIk q2))
theorem w_sortedCP {κ:PyProof.Rows.KeyKind} {kd:SortKind} {v:Value} {Q:Value->Shared->Prop} {J:List Value->Shared->Prop} (hc:wpAny (model prog w) A.in1 (collect v) J E s)
  (hJ:∀vs s1,J vs s1->vs.length<=4096/\(∀h',Up s1.heap h'->Sortable prog w A.in1.in1 κ kd vs {s1 with heap:=h'}) /\
   ∀(out:List Value) c h',out.Perm vs->h'.get? s1.heap.objs.size=some (seqObj "list" out.toArray c)->Up s1.heap h'->Q (.ref s1.heap.objs.size) {s1 with heap:=h'}) :
  wpAny (model prog w) A (call (.builtin "sorted") [v]) Q E s:=by
 refine Calls.call_function_entry kind_sorted plain_sorted entry_sorted (args_sorted1 _) ?_;unfold Builtin.«sorted»;refine qAA (m:=checkCount "sorted" 1 1 _) (qAE ?_);refine qAA (qAq hc (fun vs s1 j=>?_) fun _ _ x=>x);obtain ⟨j1,j2,j3⟩:=hJ vs s1 j;have hsl:(4096:Nat)<=sizeLine:=by decide +kernel
 refine qAA (qC1 ?_ (by lia));have hD:(s1.heap.push (seqObj "list" vs.toArray 0)).get? s1.heap.objs.size=some (seqObj "list" vs.toArray 0):=qAc _ rfl;change wpAny _ _ _ _ _ {s1 with heap:=s1.heap.push (seqObj "list" vs.toArray 0)};have ne:∀b o,s1.heap.get? b=some o->b≠s1.heap.objs.size:=fun b o q=>qAN (qAK q);refine qAA (qAx (qCA slot_list_sort ⟨_,hD,rfl⟩ entry_list_sort ?body (args_list_sort _)))
 case body =>
  refine w_lsortP (s:={s1 with heap:=s1.heap.push (seqObj "list" vs.toArray 0)}) hD j1 (fun h' q=>j2 h' fun b o e=>q b o (ne b o e) (qAI _ e)) fun out p1=>?_;obtain ⟨⟨c,g1⟩,g2⟩:=srt_heap (out:=out) hD;refine ⟨_,rfl,qAE ⟨_,rfl,j3 out.toList c _ p1 (by simpa using g1) fun b o e=>g2 b o (ne b o e) (qAI _ e)⟩⟩
end
end ST
namespace L2
open PySem PySem.Spec PyProof.Rows
section
variable {X:Cx} {pins:List (Addr×Obj)} {s:Shared} {σ:St} {H:Hp}
theorem zHw {k:Nat} (hr:Room k X.A):zC7 X (.builtin "sorted") (fun xs H Q=>∃(a:Addr) (ys:List (List Str×Addr)),xs=[.ref a]/\H a=some (TSt X.prog X.w a ys)/\(∀p∈ys,RowT X.K H p)/\(∀p∈ys,p.1≠[])/\ys.length<=306 /\
  ∀(b:Addr) (zs:List (List Str×Addr)),H b=none->zs.Perm ys->Q (.ref b) (upd H b (.lst (zs.map fun p=>V.ref p.2)))):=by
 intro pins s σ H xs us Q I r h;obtain ⟨a,ys,rfl,ha,hk,hne,hc,q⟩:=h;obtain ⟨u,rfl,rx⟩:=zIe r
 cases rx
 obtain ⟨⟨o,es,ep,t,z1,z2,z3,z4,z5,z6,z7,z8⟩,_⟩:=I.hok a _ ha;have Z:ST.SetX (PySem.strKind X.prog X.w) s.heap a ys o es ep t:=⟨z1,z2,z3,z4,z5,z6,z7,fun p hp=>I.rowT (hk p hp),z8⟩
 refine ST.w_sortedCP (kd:=tuples' true) (κ:=ST.tupK fun b=>(ys.find? fun p=>p.2==b).map (·.1))
  (J:=fun vs s1=>vs.Perm (ys.map fun p=>Value.ref p.2)/\(∀b o,s.heap.get? b=some o->s1.heap.get? b=some o)/\s1.gens=s.gens/\s1.os=s.os)
  (ST.w_collect (A:=X.A.in1) hr.hd Z hc fun s' vs v1 v2 v3 v4 _=>⟨v1,v2,v3,v4⟩) fun vs s1 ⟨v1,v2,v3,v4⟩=>?_
 have hvl:vs.length=ys.length:=by rw [v1.length_eq,qAD]
 refine ⟨by lia,fun h' up=>ST.tups_sortable v1 (fun p hp=>ST.key_kept (I.rowT (hk p hp)) fun o e=>up _ o (v2 _ o e)) hne,fun out c h' p1 p3 up=>?_⟩;obtain ⟨zs,e1,e2⟩:=perm_back _ (p1.trans v1);subst e2;have I1:Inv X pins σ H s1:=I.call' (ch:=[]) v4 (Un.kept v2) (I.hok.kept v2) (by rw [v3];exact I.bare) (fun _ z=>nomatch z)
 have hz:(zs.map fun p=>V.ref p.2).length<=sizeLine:=by
  rw [qAD,e1.length_eq];exact qAW hc (by decide +kernel)
 exact ⟨.ref s1.heap.objs.size,_,I1.laid (t':=s1.toks) up (qAF _) (show zAx X.prog X.w _ h' _ (.lst (zs.map fun p=>V.ref p.2)) from ⟨hz,_,c,refs_vals zs,p3⟩),rfl,q _ zs (I1.hok.fresh (qAF _)) e1⟩
theorem rise_S:∀{l:List Str},sortedS l=true->RiseS l
 | [],_=>List.Pairwise.nil
 | [x],_=>List.pairwise_singleton _ _
 | x::y::r,h=>by
  have h:(!ltCps y.cps.toList x.cps.toList&&sortedS (y::r))=true:=h;obtain ⟨h1,h2⟩:=Bool.and_eq_true_iff.mp h;have h1:ltCps y.cps.toList x.cps.toList=false:=by simpa using h1
  rw [ltCps_eq] at h1;have ih:=rise_S h2;refine qBe.mpr ⟨fun z hz=>?_,ih⟩;rcases qAO.mp hz with e| e
  ·rw [e];exact qCt h1
  ·have h3:=(qBe.mp ih).1 z e;exact qCt (show PyProof.Rows.strKind.kle (ST.sg x) (ST.sg z) from KeyOrd.kle_trans (show PyProof.Rows.strKind.kle (ST.sg x) (ST.sg y) from h1) (show PyProof.Rows.strKind.kle (ST.sg y) (ST.sg z) from qAb h3))
theorem zDy:zC7 X (.builtin "sorted") (fun xs H Q=>∃(l:Addr) (ys:List Str),xs=[.ref l]/\SqL X.K H l (ys.map V.str)/\ys.length<64/\∀b zs,H b=none->zs.Perm ys->RiseS zs->Q (.ref b) (upd H b (.lst (zs.map V.str)))):=by
 intro pins s σ H xs us Q I r h;obtain ⟨l,ys,rfl,hl,hc,q⟩:=h;obtain ⟨u,rfl,rx⟩:=zIe r
 cases rx
 obtain ⟨its,r',pl,hz⟩:=I.list hl;have hS:=zC8 r';have hln:its.length=ys.length:=ST.strs_len hS;have hsl:(4096:Nat)<=sizeLine:=by decide +kernel
 refine sorted_strs pl.isList hS (by lia) fun out ss a1 a2 a3=>?_;obtain ⟨c,he⟩:=sortedAll_at s.heap its out
 have hz:(ss.map V.str).length<=sizeLine:=by
  rw [qAD,a2.length_eq];lia
 exact ⟨.ref (s.heap.objs.size+1),_,I.laid (t':=s.toks) (fun _ _=>sortedAll_old) (qBK _) (show zAx X.prog X.w _ (sortedAll s.heap its out) _ (.lst (ss.map V.str)) from ⟨hz,_,c,zGu a1,by simpa using he⟩),rfl,q _ _ (I.hok.fresh (qBK _)) a2 (rise_S a3)⟩
end
end L2
namespace My
open PySem L2
variable {P:Program}{w:World}{K:PySem.W.Frag}{mg:Str->Option Value}{base:Heap}{C:Addr}
variable {X:Cx}{n x x0:Str}{pos:Pos}{qs:List (List Str×Addr)}{f l C d:Addr}{fd:FuncData}{H H' H0:Hp}{ns B A:List Str}{i:Nat}{sp:Sp}{J:JR}{as:List Addr}
theorem zGk (f:Str) (v:V):∀fs:List (Str×V),(putF f v fs).length<=fs.length+1
 | []=>qAF _
 | (g,x)::r=>by
  unfold putF;split
  ·exact qBK _
  ·have:=zGk f v r;simp only [qAe];lia
theorem call_setTP {P:Program} {w:World} {K:PySem.W.Frag} {k:Nat} (hr:Room k X.A) (hP:X.prog=P:=by rfl) (hw:X.w=w:=by rfl) (hK:X.K=K:=by rfl):zC7 X (.type "set") (fun xs H Q=>∃(l:Addr) (ks:List (List Str×Addr)),xs=[.ref l]/\SqL K H l (ks.map fun p=>V.ref p.2)/\(∀p∈ks,RowT K H p)/\ks.length<=306 /\
  ∀a ys,H a=none->(∀p∈ys,p∈ks)->(∀p∈ks,p.1∈ys.map (·.1))->(ys.map (·.1)).Nodup->ys.length<=ks.length->Q (.ref a) (upd H a (TSt P w a ys))):=by
 subst hP hw hK;exact call_setT hr
theorem zHx {P:Program} {w:World} {K:PySem.W.Frag} {k:Nat} (hr:Room k X.A) (hP:X.prog=P:=by rfl) (hw:X.w=w:=by rfl) (hK:X.K=K:=by rfl):zC7 X (.builtin "sorted") (fun xs H Q=>∃(a:Addr) (ys:List (List Str×Addr)),xs=[.ref a]/\H a=some (TSt P w a ys)/\(∀p∈ys,RowT K H p)/\(∀p∈ys,p.1≠[])/\ys.length<=306 /\
  ∀(b:Addr) (zs:List (List Str×Addr)),H b=none->zs.Perm ys->Q (.ref b) (upd H b (.lst (zs.map fun p=>V.ref p.2)))):=by
 subst hP hw hK;exact zHw hr
theorem pg_tupK {K:PySem.W.Frag} {es:List Expr} {k:Nat} {t:TGs} {n:Nat} (hc:X.calm=true) (h:PGs X es t)
  (hn:(assignEach es X.env).length=n:=by rfl) (hst:(assignEach es X.env).findIdx? (·.1)=none:=by rfl) (hK:X.K=K:=by rfl):PG X (.Tuple es k pos) (gTup K n t):=by
 subst hK;exact zH8 hc h hn hst
theorem zGo :x∈told qs n↔∃q∈qs,snd q=n/\fst q=x:=by
 unfold told;simp only [qAa,qAY,qCC];exact ⟨fun ⟨q,⟨a,b⟩,c⟩=>⟨q,a,b,c⟩,fun ⟨q,a,b,c⟩=>⟨q,⟨a,b⟩,c⟩⟩
theorem fst_of {q q':List Str×Addr} (h:q.1=q'.1):fst q=fst q'/\snd q=snd q':=by unfold fst snd;rw [h];exact ⟨rfl,rfl⟩
section
structure Good (ns:List Str) (qs:List (List Str×Addr)) (r:Str->Nat):Prop where
 nm:∀n∈ns,zHz n
 nd:ns.Nodup
 few:ns.length<=20
 qfew:qs.length<=306
 qin:∀q∈qs,∀x∈q.1,x∈ns
 rk:∀q∈qs,r (fst q)<r (snd q)
structure JNew (H:Hp) (J:JR):Prop where
 r:Fre H J.r
 p:Fre H J.p
 e:Fre H J.e
 z:∀q∈J.zs,Fre H q.2
 s:∀n∈J.D,Fre H (J.fa n)
def spInit (C:Addr):Sp:=fun vs H Q _=>∃(x dx l m:Addr) (ns:List Str) (qs:List (List Str×Addr)) (r:Str->Nat),vs=[.ref x,.ref l,.ref m]/\H x=some (.ins C dx [])/\Txs H l ns/\Ords H m qs/\Good ns qs r /\
 ∀J H',JobsAt C H' x J->JNew H J->J.ns=ns->(∀k,k∈J.zs.map (·.1)↔k∈qs.map (·.1))->Kp [x] H H'->Q .non H'
abbrev zB1:Stmt:=zFw (top 33) 0
theorem zGc:FnScope ["self", "names", "orders"] ["self", "names", "orders"] (zAd zB1):=fnS
theorem ok_Jobs_init (F:Fun K "__init__" "Jobs.__init__" zB1 f fd) (T:Txt K mg) (U:JC K mg C) (C_check_names:Cal P w K mg base "check_names" 2 ["names"] zF3) (C_check_parts:Cal P w K mg base "check_parts" 3 ["names", "orders"] zF2)
  (C_all_ahead:Cal P w K mg base "all_ahead" 2 ["names", "told"] zH5) (C_told_ahead:Cal P w K mg base "told_ahead" 1 ["names", "orders"] zGv):FnOk P w K mg base CX0 4 f fd ["self", "names", "orders"] (spInit C):=by
 refine F.ok zGc (fun vs H Q E h=>?_) (fun cdv A outer s H vs Q E hr h=>?_)
 ·obtain ⟨x,dx,l,m,ns,qs,r,rfl,_⟩:=h;rfl
 ·obtain ⟨x,dx,l,m,ns,qs,r,rfl,hx,hl,hm,G,k⟩:=h;have HR_check_parts:=hr;have HR_check_names:=hr.mono (j:=2) (by decide);have HR_all_ahead:=hr.mono (j:=2) (by decide);have HR_told_ahead:=hr.mono (j:=1) (by decide)
  refine ⟨_,(zAc (zAr (zAg C_check_names HR_check_names rfl (zAa (pv 1) zAb)))
   (zAc (zAr (zAg C_check_parts HR_check_parts rfl (zAa (pv 1) (zAa (pv 2) zAb))))
   (zAc (ps_fld (pv 0) (zA3 zBt (by rfl) T.z_list zCr (zAa (pv 1) zAb)) rfl)
   (zAc (ps_fld (pv 0) (zAh (zHx (P:=P) (w:=w) (K:=K) HR_told_ahead) (by rfl) T.z_sorted zEh (zAa (zA3 (call_setTP (P:=P) (w:=w) (K:=K) HR_told_ahead) (by rfl) T.z_set bo_set (zAa (zBj rfl (zBn (sc:=zAd zB1) rfl (by decide +kernel)) (Draws.own (x:= "one") (Draws.own (x:= "other") Draws.nil)) (zAk (pv 2)) (fun _ _ _ _=>(pg_tupK (K:=K) (n:=2) rfl (zA1 (pgB (i:=0)) (zA1 (pgB (i:=1)) zD4)))) (fun _ _ _ _=>zC1) (fun _ _ _ _=>(zA9 (zAa (pv 0) (zAa (pv 1) zAb))))) zAb)) zAb)) rfl)
   (zAe (ps_fld (pv 0) (zAg C_all_ahead HR_all_ahead rfl (zAa (zFi (pv 0) rfl) (zAa (zAg C_told_ahead HR_told_ahead rfl (zAa (zFi (pv 0) rfl) (zAa (zFi (pv 0) rfl) zAb))) zAb))) rfl)))))),?_⟩
  refine ⟨_,rfl,l,ns,rfl,hl,G.few,G.nm,G.nd,fun H1 k1=>?_⟩;have hm1:=hm.kp k1 (by simp) (by simp);refine ⟨_,rfl,_,rfl,l,m,ns,qs,rfl,k1 l _ hl (by simp),hm1,G.qin,?_⟩;have hx1:=k1 x _ hx (by simp);refine ⟨_,rfl,_,_,rfl,.inl (SqL.of (k1 l _ hl (by simp))),fun r1 hr1=>?_⟩;have nxr:x≠r1:=ne_fre hr1 hx1;refine ⟨_,rfl,_,_,_,_,rfl,(upd_ne nxr).trans hx1,U.cl,U.n_row,(by decide),?_⟩
  have hm2:∀o1 o2,Ords (upd (upd H1 r1 o1) x o2) m qs:=fun o1 o2 =>
   ⟨(upd_ne (zBw hm1.top hx1 (fun z=>nomatch z))).trans ((upd_ne (ne_fre hr1 hm1.top)).trans hm1.top),fun q hq=>(upd_ne (zBw (hm1.row q hq) hx1 (fun z=>nomatch z))).trans ((upd_ne (ne_fre hr1 (hm1.row q hq))).trans (hm1.row q hq)),hm1.two⟩
  have hrow2:∀o2,Txs (upd (upd H1 r1 (.lst (ns.map V.str))) x o2) r1 ns:=fun o2=>(upd_ne nxr.symm).trans upd_same;have k2:∀o1 o2,Kp [x] H (upd (upd H1 r1 o1) x o2):=fun o1 o2=>Kp.put (Kp.new (k1.weak (by simp)) (k1.fre hr1 (by simp))) (by simp);have hx2:∀o1 o2,(upd (upd H1 r1 o1) x o2) x=some o2:=fun o1 o2=>upd_same;have hm2:=hm2 (.lst (ns.map V.str)) (.ins C dx (putF "row" (.ref r1) []));have hrow2:=hrow2 (.ins C dx (putF "row" (.ref r1) []));have k2:=k2 (.lst (ns.map V.str)) (.ins C dx (putF "row" (.ref r1) []));have hx2:=hx2 (.lst (ns.map V.str)) (.ins C dx (putF "row" (.ref r1) []));generalize hH2:upd (upd H1 r1 (.lst (ns.map V.str))) x (.ins C dx (putF "row" (.ref r1) []))=H2 at hm2 hrow2 k2 hx2 ⊢
  refine ⟨_,rfl,_,rfl,⟨_,SqL.of hm2.top⟩,fun B hB=>zBg (qs.map fun q=>V.ref q.2) (fun i ys τ H3=>∃ks:List (List Str×Addr),(∃o0 o1,τ=[o0,o1])/\ys=(ks.map fun q=>V.ref q.2)/\ks.map (·.1)=(qs.take i).map (·.1)/\(∀q∈ks,H3 q.2=some (.tup (q.1.map V.str)))/\(∀q∈ks,Fre H2 q.2)/\Kp [] H2 H3/\H3 B=some (.lst ys))
   ⟨[],⟨_,_,rfl⟩,rfl,rfl,(fun q h=>nomatch h),(fun q h=>nomatch h),Kp.new Kp.refl hB,upd_same⟩ (fun i ys τ H3 ⟨_,_,_,_,_,_,k3,_⟩=>SqL.of (k3 m _ hm2.top (by simp))) ?_ ?_⟩
  ·rintro i v ys τ H3 hv ⟨ks,⟨o0,o1,rfl⟩,rfl,ek,hk,fk,k3,h3⟩;obtain ⟨q,eq,rfl⟩:=ref_at hv;have mq:=qAL eq;obtain ⟨a,b,eab⟩:=hm2.two q mq
   have hrow:H3 q.2=some (.tup [.str a,.str b]):=by
    have:=k3 q.2 _ (hm2.row q mq) (by simp);rw [eab] at this;exact this
   refine ⟨_,_,rfl,.inl (.inl hrow),rfl,_,_,rfl,_,_,rfl,rfl,?_⟩;have hlen:ks.length=(qs.take i).length:=by have:=qAk List.length ek;simpa using this
   refine ⟨_,rfl,_,rfl,(by walk_at "ln"),fun t ht=>?_⟩;have ft:Fre H3 t:=ht;have nBt:B≠t:=ne_fre ft h3;refine ⟨(upd_ne nBt).trans h3,?_,ks++[([a,b],t)],⟨_,_,rfl⟩,?_,?_,fun q' hq'=>?_,fun q' hq'=>?_,?_,?_⟩
   ·rw [qAD,hlen,qAX,qAM];have:=G.qfew;lia
   ·rw [qAU];rfl
   ·rw [qAU,ek,zAi eq,qAU,qAo,qAo,eab]
   ·rcases qAQ.mp hq' with z| z
    ·exact (upd_ne (zBw (hk q' z) h3 (fun y=>nomatch y))).trans ((upd_ne (ne_fre ft (hk q' z))).trans (hk q' z))
    ·rw [qAP.mp z];exact (upd_ne nBt.symm).trans upd_same
   ·rcases qAQ.mp hq' with z| z
    ·exact fk q' z
    ·rw [qAP.mp z];exact k3.fre ft (by simp)
   ·exact Kp.new (Kp.new k3 (k3.fre ft (by simp))) hB
   ·exact upd_same
  ·rintro ys τ H3 ⟨ks,_,rfl,ek,hk,fk,k3,h3⟩;have eT:qs.take (qs.map fun q=>V.ref q.2).length=qs:=by rw [qAD,qAj]
   rw [eT] at ek;have hlen:ks.length=qs.length:=by have:=qAk List.length ek;simpa using this
   have ktwo:∀q∈ks,∃a b,q.1=[a,b]:=fun q hq=>by
    have:q.1∈ks.map (·.1):=qAa.mpr ⟨q,hq,rfl⟩;rw [ek] at this;obtain ⟨q',hq',e⟩:=qAa.mp this;rw [<-e];exact hm2.two q' hq'
   refine ⟨B,ks,rfl,SqL.of h3,fun q hq=>.inl (.inl (hk q hq)),by rw [hlen];have:=G.qfew;lia,fun sa yk hsa y1 y2 y3 y4=>?_⟩;have fsa:Fre H3 sa:=hsa;refine ⟨sa,yk,rfl,upd_same,fun q hq=>.inl (.inl ((upd_ne (ne_fre fsa (hk q (y1 q hq)))).trans (hk q (y1 q hq)))),fun q hq=>?_,by have:=G.qfew;lia,fun p zs hp z1=>?_⟩
   ·obtain ⟨a,b,e⟩:=ktwo q (y1 q hq);rw [e];simp
   have fp:Fre (upd H3 sa (TSt P w sa yk)) p:=hp;have zk:∀q∈zs,q∈ks:=fun q hq=>y1 q (z1.mem_iff.mp hq)
   have zq:∀q∈zs,∃q'∈qs,q'.1=q.1:=fun q hq=>by
    have:q.1∈ks.map (·.1):=qAa.mpr ⟨q,zk q hq,rfl⟩;rw [ek] at this;exact qAa.mp this
   have zin:∀q∈zs,∀x∈q.1,x∈ns:=fun q hq x hx=>by
    obtain ⟨q',h1,h2⟩:=zq q hq;exact G.qin q' h1 x (by rw [h2];exact hx)
   have zrk:∀q∈zs,r (fst q)<r (snd q):=fun q hq=>by
    obtain ⟨q',h1,h2⟩:=zq q hq;obtain ⟨e1,e2⟩:=fst_of h2;rw [<-e1,<-e2];exact G.rk q' h1
   have zlen:zs.length<=306:=by rw [z1.length_eq];have:=G.qfew;lia
   have zset:∀k,k∈zs.map (·.1)↔k∈qs.map (·.1):=fun k=>by
    rw [<-ek,(z1.map (·.1)).mem_iff]
    exact ⟨fun h=>by
     obtain ⟨q,h1,h2⟩:=qAa.mp h;exact qAa.mpr ⟨q,y1 q h1,h2⟩,fun h=>by
     obtain ⟨q,h1,h2⟩:=qAa.mp h;rw [<-h2];exact y2 q h1⟩
   have k4:Kp [] H2 (upd (upd H3 sa (TSt P w sa yk)) p (.lst (zs.map fun q=>V.ref q.2))):=by
    have h1:Kp [] H2 (upd H3 sa (TSt P w sa yk)):=Kp.new k3 (k3.fre fsa (by simp));exact Kp.new h1 (h1.fre fp (by simp))
   have hzs4:Ords (upd (upd H3 sa (TSt P w sa yk)) p (.lst (zs.map fun q=>V.ref q.2))) p zs:=⟨upd_same,fun q hq=>by
    have h1:upd H3 sa (TSt P w sa yk) q.2=some (.tup (q.1.map V.str)):=(upd_ne (ne_fre fsa (hk q (zk q hq)))).trans (hk q (zk q hq));exact (upd_ne (ne_fre fp h1)).trans h1,fun q hq=>ktwo q (zk q hq)⟩
   generalize hH4:upd (upd H3 sa (TSt P w sa yk)) p (.lst (zs.map fun q=>V.ref q.2))=H4 at k4 hzs4 ⊢;have hx4:=k4 x _ hx2 (by simp);refine ⟨_,rfl,_,_,_,_,rfl,hx4,U.cl,U.n_pairs,(by have:=zGk "row" (V.ref r1) [];simp only [qBc] at this;lia),?_⟩;have hx5:(upd H4 x (.ins C dx (putF "pairs" (.ref p) (putF "row" (.ref r1) [])))) x=some (.ins C dx (putF "pairs" (.ref p) (putF "row" (.ref r1) []))):=upd_same;have hrow5:Txs (upd H4 x (.ins C dx (putF "pairs" (.ref p) (putF "row" (.ref r1) [])))) r1 ns:=(upd_ne nxr.symm).trans (k4 r1 _ hrow2 (by simp));have hzs5:Ords (upd H4 x (.ins C dx (putF "pairs" (.ref p) (putF "row" (.ref r1) [])))) p zs:=⟨(upd_ne (zBw hzs4.top hx4 (fun z=>nomatch z))).trans hzs4.top,fun q hq=>(upd_ne (zBw (hzs4.row q hq) hx4 (fun z=>nomatch z))).trans (hzs4.row q hq),hzs4.two⟩;have k5:Kp [x] H (upd H4 x (.ins C dx (putF "pairs" (.ref p) (putF "row" (.ref r1) [])))):=Kp.put (k2.trans (k4.weak (by simp))) (by simp);generalize hH5:upd H4 x (.ins C dx (putF "pairs" (.ref p) (putF "row" (.ref r1) [])))=H5 at hx5 hrow5 hzs5 k5 ⊢
   have e_row:(putF "pairs" (.ref p) (putF "row" (.ref r1) [])).lookup ("row" : Str)=some (.ref r1):=by
    rw [zAt,qAB (by decide +kernel),zAt,qAC rfl]
   have e_prs:(putF "pairs" (.ref p) (putF "row" (.ref r1) [])).lookup ("pairs" : Str)=some (.ref p):=by
    rw [zAt,qAC rfl]
   refine ⟨_,rfl,_,_,_,_,_,rfl,hx5,U.cl,U.n_row,e_row,_,rfl,_,_,_,_,_,rfl,hx5,U.cl,U.n_row,e_row,_,rfl,_,_,_,_,_,rfl,hx5,U.cl,U.n_pairs,e_prs,r1,p,ns,zs,rfl,hrow5,hzs5,G.nd,G.few,by lia,zin,fun d la H6 DD k6=>?_⟩;refine ⟨r1,d,ns,la,told zs,r,rfl,k6 r1 _ hrow5 (by simp),G.nd,G.few,DD.top,fun n hn=>⟨DD.row n hn,qAW (told_len zs n) (by lia),fun y hy=>?_⟩,fun e D fa S H7 FF all k7=>?_⟩
   ·obtain ⟨q,h1,h2,h3⟩:=zGo.mp hy;obtain ⟨a,b,eab⟩:=hzs5.two q h1;refine ⟨?_,by rw [<-h2,<-h3];exact zrk q h1⟩;rw [<-h3];refine zin q h1 _ ?_;unfold fst;rw [eab];simp
   have k57:Kp [] H5 H7:=k6.trans k7;have hx7:=k57 x _ hx5 (by simp);refine ⟨_,rfl,_,_,_,_,rfl,hx7,U.cl,U.n_above,?_,?_⟩
   ·have h1:=zGk "row" (V.ref r1) [];have h2:=zGk "pairs" (V.ref p) (putF "row" (V.ref r1) []);simp only [qBc] at h1;lia
   have f2H:∀a,Fre H2 a->Fre H a:=fun a ha=>k2.fre ha (nm1 fun z=>by
    subst z;have:H2 a=some _:=hx2;unfold Fre at ha;rw [ha] at this;exact nomatch this)
   have k3p:Kp [] H2 (upd H3 sa (TSt P w sa yk)):=Kp.new k3 (k3.fre fsa (by simp));have fpx:Fre H2 p:=k3p.fre fp (by simp)
   have f52:∀a,Fre H5 a->Fre H2 a:=fun a ha=>by
    have h1:Fre H4 a:=by
     have nax:a≠x:=fun z=>by
      subst z;unfold Fre at ha;rw [ha] at hx5;exact nomatch hx5
     have:H5 a=H4 a:=by rw [<-hH5];exact upd_ne nax
     unfold Fre at ha ⊢;rw [<-this];exact ha
    exact k4.fre h1 (by simp)
   have fex:Fre H2 e:=f52 e (k6.fre FF.fr (by simp));have ffx:∀n∈D,Fre H2 (fa n):=fun n hn=>f52 _ (k6.fre (FF.frs n hn) (by simp));refine k ⟨dx,r1,p,e,ns,zs,D,fa,S⟩ _ ⟨upd_same,?_,⟨?_,fun q hq=>?_,hzs5.two⟩,?_,all,fun n hn=>?_,G.few,zlen,G.nd,zin,fun n hn y=>FF.mem n (all n hn) y⟩ ⟨k1.fre hr1 (by simp),f2H p fpx,f2H e fex,fun q hq=>f2H q.2 (fk q (zk q hq)),fun n hn=>f2H _ (ffx n hn)⟩ rfl zset (Kp.put (k5.trans (k57.weak (by simp))) (by simp))
   ·exact (upd_ne nxr.symm).trans (k57 r1 _ hrow5 (by simp))
   ·have h1:=k57 p _ hzs5.top (by simp);exact (upd_ne (zBw h1 hx7 (fun z=>nomatch z))).trans h1
   ·have h1:=k57 _ _ (hzs5.row q hq) (by simp);exact (upd_ne (zBw h1 hx7 (fun z=>nomatch z))).trans h1
   ·exact (upd_ne (zBw FF.top hx7 (fun z=>nomatch z))).trans FF.top
   ·exact (upd_ne (zBw (FF.row n hn) hx7 (fun z=>nomatch z))).trans (FF.row n hn)
end
def zBo:List Str:=zEa.cps.toList.map fun c=>⟨#[c]⟩
theorem zEv:zBo.length=26:=by
 unfold zBo;rw [zD9];simp
theorem singles_nd:zBo.Nodup:=by decide +kernel
theorem single_ok (h:x∈zBo):zHz x:=by
 unfold zBo at h;rw [zD9] at h;obtain ⟨c,hc,rfl⟩:=qAa.mp h;obtain ⟨i,hi,rfl⟩:=qAa.mp hc;have:=qA1.mp hi;refine ⟨qAF 1,by show 1<=8;decide,fun d hd=>?_⟩;have:d=97+i:=by simpa using hd
 lia
theorem some_single {found:List Str} (h:found.length<=20):(zBo.filter fun x=>decide (x∉found))≠[]:=fun z=>by
 have:zBo.length<=found.length:=zBi singles_nd fun x hx=>by
  apply qBE;intro y;have:x∈zBo.filter fun x=>decide (x∉found):=qAY.mpr ⟨hx,qAR y⟩;rw [z] at this;exact nomatch this
 rw [zEv] at this;lia
section
def zIi:Sp:=fun vs H Q _=>∃(p:Addr) (m:Int),vs=[.ref p,.int m]/\zBx H p/\0<=m/\m<=20/\∀(l:Addr) (ns:List Str) (H':Hp),Fre H l->Txs H' l ns->ns.length=m.toNat->ns.Nodup->(∀n∈ns,zHz n)->zBx H' p->Kp [p] H H'->Q (.ref l) H'
abbrev zIp:Stmt:=top 46
theorem zCt:FnScope ["_law_purse_here", "_law_many", "_law_letters", "_law_found", "_law_k", "_law_word", "_law_j"] ["_law_purse_here", "_law_many"] (zAd zIp):=fnS
theorem ok_names (F:Fun K "_law_names" "_law_names" zIp f fd) (T:Txt K mg) (C_take:Cal P w K mg base "_law_take" 1 ["_law_purse_here", "_law_many"] spTake):FnOk P w K mg base CX0 2 f fd ["_law_purse_here", "_law_many"] zIi:=by
 refine F.ok zCt (fun vs H Q E h=>?_) (fun cdv A outer s H vs Q E hr h=>?_)
 ·obtain ⟨p,m,rfl,_⟩:=h;rfl
 ·obtain ⟨p,m,rfl,hP,h0,h1,k⟩:=h;have HR_take:=hr
  refine ⟨_,(zAc (psS (i:=2) zCt.nd pe_str)
   (zAc (psS (i:=3) zCt.nd (zA7 zAb))
   (zAc (zAu qAg rfl (zCp rfl T.z_range (zAa (pv 1) zAb)) (pgN (i:=4) zCt.nd)
    (zAc (psS (i:=5) zCt.nd pe_str)
    (zAc (zAu qAg rfl (zCp rfl T.z_range (zAa (zAn zBh zAf (zAn zFj (zAg C_take HR_take rfl (zAa (pv 0) (zAa zAf zAb))) (zAg C_take HR_take rfl (zAa (pv 0) (zAa zAf zAb))))) zAb)) (pgN (i:=6) zCt.nd)
     (zAe (psS (i:=5) zCt.nd (zAn op_add_str (pv 5) (zBv ix_str (pv 2) (zAg C_take HR_take rfl (zAa (pv 0) (zAa zAf zAb))) (fun _ _=>rfl))))))
    (zAc (zCc (zAs zFk (pv 5) (pv 3) (by rfl))
     (zAe (psS (i:=5) zCt.nd (zBv zA5 (zBj rfl (zBn (sc:=zAd zIp) rfl (by decide +kernel)) (Draws.own (x:= "_law_letter") (dtk (i:=3) rfl Draws.nil)) (pi_str (pv 2)) (fun _ _ _ _=>(pgB (i:=0))) (fun _ _ _ _=>(zCo (zAs (zIs (K:=K)) (pv 0) (pv 1) (by rfl)))) (fun _ _ _ _=>(pv 0))) zAf (fun _ _=>rfl))))
     zAq)
    (zAe (zAr (zDm qAw qBj qBk zBl (pv 3) (zAa (pv 5) zAb))))))))
   (zAe (zAo (pv 3)))))),?_⟩
  refine ⟨(by walk_at "ln"),fun l hl=>?_⟩;have fl:Fre H l:=hl;have npl:p≠l:=by obtain ⟨a,b,e,_⟩:=hP;exact ne_fre fl e
  have hP1:zBx (upd H l (.lst [])) p:=hP.kp (M:=[]) (Kp.new Kp.refl fl) (by simp)
  refine ⟨_,rfl,_,rfl,by lia,by lia,zB3 (lo:=0) (n:=m.toNat) (fun i σ H2=>∃(o4 o5 o6:Option V) (ws:List Str),σ=[some (.ref p),some (.int m),some (.str zEa),some (.ref l),o4,o5,o6]/\zBx H2 p/\Kp [p] H H2/\Txs H2 l ws/\ws.length=i/\ws.Nodup/\∀s∈ws,zHz s)
   ⟨none,none,none,[],rfl,hP1,Kp.new Kp.refl fl,upd_same,rfl,qAy,fun s h=>nomatch h⟩ ?_ ?_⟩
  ·rintro i σ H2 hi ⟨o4,o5,o6,ws,rfl,P2,K2,R2,e2,n2,q2⟩;refine ⟨_,rfl,p,2,rfl,P2,by decide,by decide,fun d1 H3 a0 a1 P3 K3=>?_⟩;refine ⟨_,rfl,p,8,rfl,P3,by decide,by decide,fun d2 H4 b0 b1 P4 K4=>?_⟩;have hm0:0<=d1*d2:=Int.mul_nonneg a0 b0
   have hm1:d1*d2<=7:=by
    have:d1*d2<=1*7:=Int.mul_le_mul (by lia) (by lia) b0 (by decide);lia
   have K24:Kp [p] H2 H4:=K3.trans K4
   refine ⟨_,_,rfl,rfl,(by walk_at "ml"),_,_,rfl,rfl,_,rfl,by lia,by lia,zB3 (lo:=0) (n:=(1+d1*d2).toNat) (fun n σ H7=>∃(o4 o6:Option V) (x:Str),σ=[some (.ref p),some (.int m),some (.str zEa),some (.ref l),o4,some (.str x),o6]/\zBx H7 p/\Kp [p] H2 H7/\WordS n x)
    ⟨_,_,_,rfl,P4,K24,rfl,(fun c h=>absurd (show c∈([]:List Nat) from h) (by simp))⟩ ?_ ?_⟩
   ·rintro n σ H7 hn ⟨o4,o6,x,rfl,P8,K7,W⟩;refine ⟨_,rfl,_,rfl,_,rfl,p,26,rfl,P8,by decide,by decide,fun d4 H8 e0 e1 P9 K8=>?_⟩;refine ⟨_,_,_,rfl,rfl,by decide,letters_at e0 e1,_,_,rfl,rfl,?_,?_⟩
    ·rw [W.1];show n+1<=sizeLine;rw [qAM];lia
    ·exact ⟨_,_,_,rfl,P9,K7.trans K8,W.more (by lia) (by lia)⟩
   ·rintro σ H7 ⟨o4,o6,x,rfl,P8,K7,W⟩;have h7:Txs H7 l ws:=K7 l _ R2 (nm1 npl.symm);have NX:zHz x:=⟨by have:=W.1;lia,by have:=W.1;lia,W.2⟩;refine ⟨_,rfl,_,rfl,_,_,rfl,.inl (SqL.of h7),rfl,zDb ws,_,rfl,?_⟩;rw [qAB (by decide),zFv];refine if_mid (fun σ H8=>∃(y:Str),σ=[some (.ref p),some (.int m),some (.str zEa),some (.ref l),o4,some (.str y),o6]/\Kp [] H7 H8/\zHz y/\y∉ws) (fun N hN=>ite2 (fun c=>?_) (fun c=>?_)) ?_
    ·-- _law_word=[..][0]
     refine ⟨_,rfl,_,rfl,fun B hB=>comp_str (z:=zEa) (fun i ys τ H8=>(∃o0,τ=[o0,some (.ref l)])/\ys=((zBo.take i).filter fun x=>decide (x∉ws)).map V.str/\H8=upd H7 B (.lst ys)) ⟨⟨_,rfl⟩,rfl,rfl⟩ ?_ ?_⟩
     ·rintro i c ys τ H8 hc ⟨⟨o0,rfl⟩,rfl,rfl⟩;have en:zBo[i]?=some ⟨#[c]⟩:=by unfold zBo;rw [qAZ,hc];rfl
      refine ⟨_,rfl,_,rfl,_,_,rfl,.inl (SqL.of ((upd_ne (ne_fre (show Fre H7 B from hB) h7)).trans h7)),rfl,zDb ws,_,rfl,?_⟩;rw [qAC rfl,zFv]
      have ed:(!decide ((⟨#[c]⟩:Str)∈ws))=decide ((⟨#[c]⟩:Str)∉ws):=by
       by_cases z:(⟨#[c]⟩:Str)∈ws
       ·simp [z]
       ·simp [z]
      rw [ed];refine ite2 (fun c=>?_) (fun c=>?_)
      ·refine ⟨_,rfl,upd_same,?_,⟨_,rfl⟩,?_,zCf⟩
       ·rw [qAD];exact zDs (by rw [zEv];decide)
       ·rw [zDr (p:=fun x=>decide (x∉ws)) en c,qAU];rfl
      ·refine ⟨⟨_,rfl⟩,?_,?_⟩
       ·rw [zE5 (p:=fun x=>decide (x∉ws)) en c]
       ·rfl
     ·rintro ys τ H8 ⟨_,rfl,rfl⟩;have eT:zBo.take zEa.length=zBo:=qBF (by rw [zEv];decide);rw [eT];have hne:=some_single (found:=ws) (by lia)
      have hmm:∀y,y∈(zBo.filter fun x=>decide (x∉ws))->zHz y/\y∉ws:=fun y hy=>by
       have:=qAY.mp hy;exact ⟨single_ok this.1,qAi this.2⟩
      generalize (zBo.filter fun x=>decide (x∉ws))=L at hne hmm
      obtain ⟨y,r,rfl⟩:∃y r,L=y::r:=by
       cases L with
       | nil=>exact absurd rfl hne
       | cons y r=>exact ⟨y,r,rfl⟩
      refine ⟨_,_,_,.str y,rfl,rfl,SqL.of upd_same,zDz (by decide) rfl,?_⟩;exact hN _ _ ⟨y,rfl,Kp.new Kp.refl hB,(hmm y qAS).1,(hmm y qAS).2⟩
    ·exact hN _ _ ⟨x,rfl,Kp.refl,NX,fun z=>c (qAR z)⟩
    ·rintro σ H8 ⟨y,rfl,K8,NY,ny⟩;have h8:Txs H8 l ws:=K8 l _ h7 (by simp);refine ⟨_,rfl,.inl ⟨rfl,_,SqL.of h8⟩,_,rfl,_,_,_,rfl,rfl,h8,?_,?_⟩
     ·rw [qAM,qAD];lia
     ·refine ⟨_,_,_,ws++[y],rfl,(P8.kp K8 (by simp)).kp (M:=[l]) (Kp.put Kp.refl (by simp)) (nm1 npl),Kp.new (K2.trans (K7.trans (K8.weak (by simp)))) fl,?_,by simp [e2],?_,fun s hs=>?_⟩
      ·show upd H8 l _ l=some (.lst ((ws++[y]).map V.str));rw [upd_same,qAU];rfl
      ·refine qBg.mpr ⟨n2,by simp,fun a ha b hb=>?_⟩;rw [qAP.mp hb];rintro rfl;exact ny ha
      ·rcases qAQ.mp hs with z| z
       ·exact q2 s z
       ·rw [qAP.mp z];exact NY
  ·rintro σ H2 ⟨o4,o5,o6,ws,rfl,P2,K2,R2,e2,n2,q2⟩;exact ⟨_,rfl,k l ws H2 fl R2 e2 n2 q2 P2 K2⟩
end
structure ITs (H:Hp) (l:Addr) (ts:List ((Int×Int)×Addr)):Prop where
 top:H l=some (.lst (ts.map fun t=>V.ref t.2))
 row:∀t∈ts,H t.2=some (.tup [.int t.1.1,.int t.1.2])
theorem ITs.kp {M:List Addr} {ts:List ((Int×Int)×Addr)} (I:ITs H l ts) (k:Kp M H H') (h1:l∉M) (h2:∀t∈ts,t.2∉M):ITs H' l ts:=⟨k l _ I.top h1,fun t ht=>k _ _ (I.row t ht) (h2 t ht)⟩
theorem ITs.more {t:Addr} {a b:Int} {ts:List ((Int×Int)×Addr)} (I:ITs H l ts) (ht:H t=some (.tup [.int a,.int b])):ITs (upd H l (.lst (ts.map (fun t=>V.ref t.2)++[.ref t]))) l (ts++[((a,b),t)]):=by
 refine ⟨by rw [upd_same,qAU];rfl,fun q hq=>?_⟩;rcases qAQ.mp hq with z| z
 ·exact (upd_ne (zBw (I.row q z) I.top (fun y=>nomatch y))).trans (I.row q z)
 ·rw [qAP.mp z];exact (upd_ne (zBw ht I.top (fun y=>nomatch y))).trans ht
theorem ITs.same {ts:List ((Int×Int)×Addr)} (I:ITs H l ts):ITs (upd H l (.lst (ts.map (fun t=>V.ref t.2)++[]))) l ts:=by
 rw [qA2];exact ⟨upd_same,fun q z=>(upd_ne (zBw (I.row q z) I.top (fun y=>nomatch y))).trans (I.row q z)⟩
theorem tri_step (i:Nat):i*(i+1)+2*(i+1)=(i+1)*(i+2):=by
 rw [<-Nat.add_mul,Nat.mul_comm]
theorem inV12 (w:Int):inV (.int w) [.int 1,.int 2]=(decide (w=1)||decide (w=2)):=by
 show ((1==w)||((2==w)||false))=_
 by_cases h1:w=1
 ·subst h1;rfl
 ·by_cases h2:w=2
  ·subst h2;rfl
  ·rw [qAb h1,qAb h2,qBA.mpr (qAr h1),qBA.mpr (qAr h2)];rfl
def zC6 (m:Int) (ts:List ((Int×Int)×Addr)):Prop:=∀t∈ts,0<=t.1.1/\t.1.1<t.1.2/\t.1.2<m
theorem zC6.more {m a b:Int} {t:Addr} {ts:List ((Int×Int)×Addr)} (h:zC6 m ts) (h1:0<=a) (h2:a<b) (h3:b<m):zC6 m (ts++[((a,b),t)]):=fun q hq=>by
 rcases qAQ.mp hq with z| z
 ·exact h q z
 ·rw [qAP.mp z];exact ⟨h1,h2,h3⟩
section
def spLPairs:Sp:=fun vs H Q _=>∃(p:Addr) (m way thin:Int),vs=[.ref p,.int m,.int way,.int thin]/\zBx H p/\0<=m/\m<=20/\2<=thin/\thin<=12/\∀(l:Addr) (ts:List ((Int×Int)×Addr)) (H':Hp),Fre H l->ITs H' l ts->(∀t∈ts,Fre H t.2)->ts.length<=190->zC6 m ts->zBx H' p->Kp [p] H H'->Q (.ref l) H'
abbrev s_pairs:Stmt:=top 47
theorem zCs:FnScope ["_law_purse_here", "_law_many", "_law_way", "_law_thin", "_law_pairs_here", "_law_j", "_law_far", "_law_i", "_law_near"] ["_law_purse_here", "_law_many", "_law_way", "_law_thin"] (zAd s_pairs):=fnS
theorem ok_pairs (F:Fun K "_law_pairs" "_law_pairs" s_pairs f fd) (T:Txt K mg) (C_take:Cal P w K mg base "_law_take" 1 ["_law_purse_here", "_law_many"] spTake):FnOk P w K mg base CX0 2 f fd ["_law_purse_here", "_law_many", "_law_way", "_law_thin"] spLPairs:=by
 refine F.ok zCs (fun vs H Q E h=>?_) (fun cdv A outer s H vs Q E hr h=>?_)
 ·obtain ⟨p,m,way,thin,rfl,_⟩:=h;rfl
 ·obtain ⟨p,m,way,thin,rfl,hP,h0,h1,t0,t1,k⟩:=h;have HR_take:=hr
  refine ⟨_,(zAc (psS (i:=4) zCs.nd (zA7 zAb))
   (zAc (zAu qAg rfl (pi_range2 rfl T.z_range (zAa zAf (zAa (pv 1) zAb))) (pgN (i:=5) zCs.nd)
    (zAc (psS (i:=6) zCs.nd zAf)
    (zAc (zCc (zAs op_eq (pv 2) zAf (zAz _))
     (zAc (psS (i:=6) zCs.nd (zAg C_take HR_take rfl (zAa (pv 0) (zAa (zAn zBh (zAn zF6 (pv 1) (pv 5)) zAf) zAb))))
     (zAe (zAr (zDm qAw qDg qDh zG7 (pv 4) (zAa (zAn op_rep (zA7 (zAa (zA9 (zAa (zAn zF6 (pv 5) zAf) (zAa (zAn zBh (zAn zF6 (pv 5) zAf) (pv 6)) zAb))) zAb)) (zA3 zFp (by rfl) T.z_int bo_int (zAa (zCq op_gt (pv 6) zAf (zAz _)) zAb))) zAb)))))
     zAq)
    (zAc (zCc (zAs op_eq (pv 2) zAf (zAz _))
     (zAc (psS (i:=6) zCs.nd (zAg C_take HR_take rfl (zAa (pv 0) (zAa (zAn zBh (pv 5) zAf) zAb))))
     (zAe (zAr (zDm qAw qDg qDh zG7 (pv 4) (zAa (zAn op_rep (zA7 (zAa (zA9 (zAa (zAn zF6 (pv 5) (pv 6)) (zAa (pv 5) zAb))) zAb)) (zA3 zFp (by rfl) T.z_int bo_int (zAa (zCq op_gt (pv 6) zAf (zAz _)) zAb))) zAb)))))
     zAq)
    (zAe (zAu qAg rfl (zCp rfl T.z_range (zAa (zAn zFj (pv 5) (zA3 zFp (by rfl) T.z_int bo_int (zAa (zCq zD6 (pv 2) (zA7 (zAa zAf (zAa zAf zAb))) (by rfl)) zAb))) zAb)) (pgN (i:=7) zCs.nd)
     (zAc (psS (i:=8) zCs.nd (pe_or (zCq op_ne (pv 2) zAf (zAz _)) (pe_one (zCq op_eq (zAn zBh (zAn op_fdiv (pv 7) (pv 3)) zAf) (zAn op_fdiv (pv 5) (pv 3)) (zAz _)))))
     (zAe (zCc (PW.pt (pw_and (zCg (pv 8)) (pw_and1 (zAs op_eq (zCq op_eq (zAg C_take HR_take rfl (zAa (pv 0) (zAa (pv 3) zAb))) zAf (zAz _)) (zCq op_ne (pv 2) zAf (zAz _)) (zAz _)))))
      (zAe (zAr (zDm qAw qBj qBk zBl (pv 4) (zAa (zA9 (zAa (pv 7) (zAa (pv 5) zAb))) zAb))))
      zAq)))))))))
   (zAe (zAo (pv 4))))),?_⟩
  refine ⟨(by walk_at "ln"),fun l hl=>?_⟩;have fl:Fre H l:=hl;have npl:p≠l:=by obtain ⟨a,b,e,_⟩:=hP;exact ne_fre fl e
  have hP1:zBx (upd H l (.lst [])) p:=hP.kp (M:=[]) (Kp.new Kp.refl fl) (by simp)
  refine ⟨_,rfl,_,_,rfl,?_,zB3 (lo:=1) (n:=(m - 1).toNat) (fun i σ H2=>∃(o5 o6 o7 o8:Option V) (ts:List ((Int×Int)×Addr)),σ=[some (.ref p),some (.int m),some (.int way),some (.int thin),some (.ref l),o5,o6,o7,o8]/\zBx H2 p/\Kp [p] H H2/\ITs H2 l ts/\(∀t∈ts,Fre H t.2)/\ts.length*2<=i*(i+1)/\zC6 m ts)
   ⟨none,none,none,none,[],rfl,hP1,Kp.new Kp.refl fl,⟨upd_same,(fun t h=>nomatch h)⟩,(fun t h=>nomatch h),qAd _,(fun t h=>nomatch h)⟩ ?_ ?_⟩
  ·exact ⟨by decide,by decide,by lia,by lia⟩
  ·rintro i σ H2 hi ⟨o5,o6,o7,o8,ts,rfl,P2,K2,R2,f2,e2,q2⟩;have hi19:i<=18:=by lia
   refine ⟨_,rfl,rfl,_,rfl,if_mid (fun σ H3=>∃(v6:Int) (ts1:List ((Int×Int)×Addr)),σ=[some (.ref p),some (.int m),some (.int way),some (.int thin),some (.ref l),some (.int (1+(i:Int))),some (.int v6),o7,o8]/\zBx H3 p/\Kp [p] H H3/\ITs H3 l ts1/\(∀t∈ts1,Fre H t.2)/\ts1.length<=ts.length+(if way=1 then 1 else 0)/\zC6 m ts1) (fun N hN=>ite2 (fun c=>?_) (fun c=>?_)) ?_⟩
   ·have cw:way=1:=by simpa using c
    refine ⟨_,rfl,_,rfl,_,rfl,_,_,rfl,rfl,_,_,rfl,rfl,p,m - (1+(i:Int))+1,rfl,P2,by lia,by lia,fun d H3 d0 d1 P3 K3=>?_⟩;have K23:=K2.trans K3;have R3:ITs H3 l ts:=R2.kp K3 (nm1 npl.symm) fun t ht=>nm1 (by obtain ⟨a,b,e,_⟩:=hP;exact (ne_fre (f2 t ht) e).symm);refine ⟨_,rfl,.inl ⟨rfl,_,SqL.of R3.top⟩,_,rfl,_,_,rfl,rfl,_,rfl,_,_,rfl,rfl,_,rfl,_,_,rfl,rfl,(by walk_at "ln"),fun t ht=>?_⟩;have ft:Fre H3 t:=ht;refine ⟨(by walk_at "ln"),fun q hq=>?_⟩;have fq:Fre (upd H3 t _) q:=hq;have ntq:t≠q:=ne_fre fq upd_same;refine ⟨_,rfl,_,_,rfl,rfl,.inr ⟨_,rfl,?_⟩⟩;have nlt:l≠t:=ne_fre ft R3.top;have h4:∀o,(upd H3 t o) l=some (.lst (ts.map fun t=>V.ref t.2)):=fun o=>(upd_ne nlt).trans R3.top;have nlq:l≠q:=ne_fre fq (h4 _)
    have fin:∀(b:Bool) (r:Addr),b=decide (0<d)->(upd (upd H3 t (.tup [.int (1+(i:Int) - 1),.int (1+(i:Int) - 1+d)])) q (.lst [.ref t])) r=none ->
      ∃ts1:List ((Int×Int)×Addr),zBx (upd (upd (upd (upd H3 t (.tup [.int (1+(i:Int) - 1),.int (1+(i:Int) - 1+d)])) q (.lst [.ref t])) r (.lst (List.replicate (if b=true then (1:Int) else 0).toNat [V.ref t]).flatten)) l (.lst (ts.map (fun t=>V.ref t.2)++(List.replicate (if b=true then (1:Int) else 0).toNat [V.ref t]).flatten))) p /\
       Kp [p] H (upd (upd (upd (upd H3 t (.tup [.int (1+(i:Int) - 1),.int (1+(i:Int) - 1+d)])) q (.lst [.ref t])) r (.lst (List.replicate (if b=true then (1:Int) else 0).toNat [V.ref t]).flatten)) l (.lst (ts.map (fun t=>V.ref t.2)++(List.replicate (if b=true then (1:Int) else 0).toNat [V.ref t]).flatten))) /\
       ITs (upd (upd (upd (upd H3 t (.tup [.int (1+(i:Int) - 1),.int (1+(i:Int) - 1+d)])) q (.lst [.ref t])) r (.lst (List.replicate (if b=true then (1:Int) else 0).toNat [V.ref t]).flatten)) l (.lst (ts.map (fun t=>V.ref t.2)++(List.replicate (if b=true then (1:Int) else 0).toNat [V.ref t]).flatten))) l ts1 /\
       (∀t∈ts1,Fre H t.2)/\ts1.length<=ts.length+1/\zC6 m ts1:=fun b r hb hr'=>by
     have fr:Fre (upd (upd H3 t (.tup [.int (1+(i:Int) - 1),.int (1+(i:Int) - 1+d)])) q (.lst [.ref t])) r:=hr'
     have kA:Kp [] H3 (upd (upd (upd H3 t (.tup [.int (1+(i:Int) - 1),.int (1+(i:Int) - 1+d)])) q (.lst [.ref t])) r (.lst (List.replicate (if b=true then (1:Int) else 0).toNat [V.ref t]).flatten)):=by
      have a1:Kp [] H3 (upd H3 t (.tup [.int (1+(i:Int) - 1),.int (1+(i:Int) - 1+d)])):=Kp.new Kp.refl ft;have a2:Kp [] H3 (upd (upd H3 t (.tup [.int (1+(i:Int) - 1),.int (1+(i:Int) - 1+d)])) q (.lst [.ref t])):=Kp.new a1 (a1.fre fq (by simp));exact Kp.new a2 (a2.fre fr (by simp))
     have RA:=R3.kp kA (by simp) (by simp)
     have hTt:(upd (upd (upd H3 t (.tup [.int (1+(i:Int) - 1),.int (1+(i:Int) - 1+d)])) q (.lst [.ref t])) r (.lst (List.replicate (if b=true then (1:Int) else 0).toNat [V.ref t]).flatten)) t=some (.tup [.int (1+(i:Int) - 1),.int (1+(i:Int) - 1+d)]):=by
      have b1:(upd (upd H3 t (.tup [.int (1+(i:Int) - 1),.int (1+(i:Int) - 1+d)])) q (.lst [.ref t])) t=some (.tup [.int (1+(i:Int) - 1),.int (1+(i:Int) - 1+d)]):=(upd_ne ntq).trans upd_same;exact (upd_ne (ne_fre fr b1)).trans b1
     have pA:=P3.kp kA (by simp);have kH:Kp [p] H (upd (upd (upd H3 t (.tup [.int (1+(i:Int) - 1),.int (1+(i:Int) - 1+d)])) q (.lst [.ref t])) r (.lst (List.replicate (if b=true then (1:Int) else 0).toNat [V.ref t]).flatten)):=K23.trans (kA.weak (by simp));have ntp:t≠p:=by obtain ⟨a,b,e,_⟩:=P3;exact (ne_fre ft e).symm
     have ftH:Fre H t:=K23.fre ft (nm1 ntp)
     by_cases c2:0<d
     ·have eb:b=true:=by rw [hb];exact qAR c2
      subst eb;refine ⟨ts++[(((1+(i:Int) - 1),(1+(i:Int) - 1+d)),t)],pA.kp (M:=[l]) (Kp.put Kp.refl (by simp)) (nm1 npl),Kp.new kH fl,RA.more hTt,fun u hu=>?_,by rw [qAf];exact qAF _,q2.more (by lia) (by lia) (by lia)⟩;rcases qAQ.mp hu with z| z
      ·exact f2 u z
      ·rw [qAP.mp z];exact ftH
     ·have eb:b=false:=by rw [hb];exact qAb c2
      subst eb;exact ⟨ts,pA.kp (M:=[l]) (Kp.put Kp.refl (by simp)) (nm1 npl),Kp.new kH fl,RA.same,f2,qBK _,q2⟩
    refine ⟨_,_,_,rfl,rfl,upd_same,by split<;>decide,by split<;>decide,?_,fun r hr'=>?_⟩
    ·rw [qAM];show 1*_<=_;split<;>decide
    have hl6:∀o2 o3,(upd (upd (upd H3 t (.tup [.int (1+(i:Int) - 1),.int (1+(i:Int) - 1+d)])) q o2) r o3) l=some (.lst (ts.map fun t=>V.ref t.2))\/l=r:=fun o2 o3=>by
     by_cases z:l=r
     ·exact .inr z
     ·exact .inl ((upd_ne z).trans ((upd_ne nlq).trans (h4 _)))
    have nlr:l≠r:=ne_fre (show Fre _ r from hr') ((upd_ne nlq).trans (h4 _));obtain ⟨ts1,g1,g2,g3,g4,g5,g6⟩:=fin _ r rfl hr';refine ⟨_,_,_,_,rfl,rfl,(upd_ne nlr).trans ((upd_ne nlq).trans (h4 _)),upd_same,?_,hN _ _ ⟨d,ts1,rfl,g1,g2,g3,g4,?_,g6⟩⟩
    ·have hl3:ts.length*2<=19*20:=qAW e2 (Nat.mul_le_mul (by lia) (by lia));rw [qAD,len_rep,qAM];have:(if decide (0<d)=true then (1:Int) else 0).toNat<=1:=by split<;>decide
     simp only [qAe,qBc];lia
    ·rw [qAC cw];exact g5
   ·have cw:¬way=1:=by simpa using c
    exact hN _ _ ⟨0,ts,rfl,P2,K2,R2,f2,qBs _ _,q2⟩
   ·rintro σ H4 ⟨v6,ts1,rfl,P4,K4,R4,f3,e3,q3⟩;have hle:ts.length*2<=19*20:=qAW e2 (Nat.mul_le_mul (by lia) (by lia))
    have hl1:ts1.length<=191:=by
     have:(if way=1 then 1 else 0)<=1:=by split<;>decide
     lia
    refine ⟨_,rfl,rfl,_,rfl,if_mid (fun σ H3=>∃(v6:Int) (ts2:List ((Int×Int)×Addr)),σ=[some (.ref p),some (.int m),some (.int way),some (.int thin),some (.ref l),some (.int (1+(i:Int))),some (.int v6),o7,o8]/\zBx H3 p/\Kp [p] H H3/\ITs H3 l ts2/\(∀t∈ts2,Fre H t.2)/\ts2.length<=ts.length+(if way=1\/way=2 then 1 else 0)/\zC6 m ts2) (fun N hN=>ite2 (fun c=>?_) (fun c=>?_)) ?_⟩
    ·have cw:way=2:=by simpa using c
     refine ⟨_,rfl,_,rfl,_,_,rfl,rfl,p,1+(i:Int)+1,rfl,P4,by lia,by lia,fun d H5 d0 d1 P5 K5=>?_⟩;have K25:=K4.trans K5;have R5:ITs H5 l ts1:=R4.kp K5 (nm1 npl.symm) fun t ht=>nm1 (by obtain ⟨a,b,e,_⟩:=hP;exact (ne_fre (f3 t ht) e).symm);refine ⟨_,rfl,.inl ⟨rfl,_,SqL.of R5.top⟩,_,rfl,_,rfl,_,_,rfl,rfl,_,rfl,(by walk_at "ln"),fun t ht=>?_⟩;have ft:Fre H5 t:=ht;refine ⟨(by walk_at "ln"),fun q hq=>?_⟩;have fq:Fre (upd H5 t _) q:=hq;have ntq:t≠q:=ne_fre fq upd_same;refine ⟨_,rfl,_,_,rfl,rfl,.inr ⟨_,rfl,?_⟩⟩;have nlt:l≠t:=ne_fre ft R5.top;have h4:∀o,(upd H5 t o) l=some (.lst (ts1.map fun t=>V.ref t.2)):=fun o=>(upd_ne nlt).trans R5.top;have nlq:l≠q:=ne_fre fq (h4 _)
     have fin:∀(b:Bool) (r:Addr),b=decide (0<d)->(upd (upd H5 t (.tup [.int (1+(i:Int) - d),.int (1+(i:Int))])) q (.lst [.ref t])) r=none ->
       ∃ts2:List ((Int×Int)×Addr),zBx (upd (upd (upd (upd H5 t (.tup [.int (1+(i:Int) - d),.int (1+(i:Int))])) q (.lst [.ref t])) r (.lst (List.replicate (if b=true then (1:Int) else 0).toNat [V.ref t]).flatten)) l (.lst (ts1.map (fun t=>V.ref t.2)++(List.replicate (if b=true then (1:Int) else 0).toNat [V.ref t]).flatten))) p /\
        Kp [p] H (upd (upd (upd (upd H5 t (.tup [.int (1+(i:Int) - d),.int (1+(i:Int))])) q (.lst [.ref t])) r (.lst (List.replicate (if b=true then (1:Int) else 0).toNat [V.ref t]).flatten)) l (.lst (ts1.map (fun t=>V.ref t.2)++(List.replicate (if b=true then (1:Int) else 0).toNat [V.ref t]).flatten))) /\
        ITs (upd (upd (upd (upd H5 t (.tup [.int (1+(i:Int) - d),.int (1+(i:Int))])) q (.lst [.ref t])) r (.lst (List.replicate (if b=true then (1:Int) else 0).toNat [V.ref t]).flatten)) l (.lst (ts1.map (fun t=>V.ref t.2)++(List.replicate (if b=true then (1:Int) else 0).toNat [V.ref t]).flatten))) l ts2 /\
        (∀t∈ts2,Fre H t.2)/\ts2.length<=ts1.length+1/\zC6 m ts2:=fun b r hb hr'=>by
      have fr:Fre (upd (upd H5 t (.tup [.int (1+(i:Int) - d),.int (1+(i:Int))])) q (.lst [.ref t])) r:=hr'
      have kA:Kp [] H5 (upd (upd (upd H5 t (.tup [.int (1+(i:Int) - d),.int (1+(i:Int))])) q (.lst [.ref t])) r (.lst (List.replicate (if b=true then (1:Int) else 0).toNat [V.ref t]).flatten)):=by
       have a1:Kp [] H5 (upd H5 t (.tup [.int (1+(i:Int) - d),.int (1+(i:Int))])):=Kp.new Kp.refl ft;have a2:Kp [] H5 (upd (upd H5 t (.tup [.int (1+(i:Int) - d),.int (1+(i:Int))])) q (.lst [.ref t])):=Kp.new a1 (a1.fre fq (by simp));exact Kp.new a2 (a2.fre fr (by simp))
      have RA:=R5.kp kA (by simp) (by simp)
      have hTt:(upd (upd (upd H5 t (.tup [.int (1+(i:Int) - d),.int (1+(i:Int))])) q (.lst [.ref t])) r (.lst (List.replicate (if b=true then (1:Int) else 0).toNat [V.ref t]).flatten)) t=some (.tup [.int (1+(i:Int) - d),.int (1+(i:Int))]):=by
       have b1:(upd (upd H5 t (.tup [.int (1+(i:Int) - d),.int (1+(i:Int))])) q (.lst [.ref t])) t=some (.tup [.int (1+(i:Int) - d),.int (1+(i:Int))]):=(upd_ne ntq).trans upd_same;exact (upd_ne (ne_fre fr b1)).trans b1
      have pA:=P5.kp kA (by simp);have kH:Kp [p] H (upd (upd (upd H5 t (.tup [.int (1+(i:Int) - d),.int (1+(i:Int))])) q (.lst [.ref t])) r (.lst (List.replicate (if b=true then (1:Int) else 0).toNat [V.ref t]).flatten)):=K25.trans (kA.weak (by simp));have ntp:t≠p:=by obtain ⟨a,b,e,_⟩:=P5;exact (ne_fre ft e).symm
      have ftH:Fre H t:=K25.fre ft (nm1 ntp)
      by_cases c2:0<d
      ·have eb:b=true:=by rw [hb];exact qAR c2
       subst eb;refine ⟨ts1++[(((1+(i:Int) - d),(1+(i:Int))),t)],pA.kp (M:=[l]) (Kp.put Kp.refl (by simp)) (nm1 npl),Kp.new kH fl,RA.more hTt,fun u hu=>?_,by rw [qAf];exact qAF _,q3.more (by lia) (by lia) (by lia)⟩;rcases qAQ.mp hu with z| z
       ·exact f3 u z
       ·rw [qAP.mp z];exact ftH
      ·have eb:b=false:=by rw [hb];exact qAb c2
       subst eb;exact ⟨ts1,pA.kp (M:=[l]) (Kp.put Kp.refl (by simp)) (nm1 npl),Kp.new kH fl,RA.same,f3,qBK _,q3⟩
     refine ⟨_,_,_,rfl,rfl,upd_same,by split<;>decide,by split<;>decide,?_,fun r hr'=>?_⟩
     ·rw [qAM];show 1*_<=_;split<;>decide
     have hl6:∀o2 o3,(upd (upd (upd H5 t (.tup [.int (1+(i:Int) - d),.int (1+(i:Int))])) q o2) r o3) l=some (.lst (ts1.map fun t=>V.ref t.2))\/l=r:=fun o2 o3=>by
      by_cases z:l=r
      ·exact .inr z
      ·exact .inl ((upd_ne z).trans ((upd_ne nlq).trans (h4 _)))
     have nlr:l≠r:=ne_fre (show Fre _ r from hr') ((upd_ne nlq).trans (h4 _));obtain ⟨ts2,g1,g2,g3,g4,g5,g6⟩:=fin _ r rfl hr';refine ⟨_,_,_,_,rfl,rfl,(upd_ne nlr).trans ((upd_ne nlq).trans (h4 _)),upd_same,?_,hN _ _ ⟨d,ts2,rfl,g1,g2,g3,g4,?_,g6⟩⟩
     ·have hl3:ts1.length<=191:=hl1;rw [qAD,len_rep,qAM];have:(if decide (0<d)=true then (1:Int) else 0).toNat<=1:=by split<;>decide
      simp only [qAe,qBc];lia
     ·rw [qAC (Or.inr cw)];rw [qAB (by lia)] at e3;lia
    ·have cw:¬way=2:=by simpa using c
     refine hN _ _ ⟨v6,ts1,rfl,P4,K4,R4,f3,?_,q3⟩
     by_cases z:way=1
     ·rw [qAC z] at e3;rw [qAC (Or.inl z)];exact e3
     ·rw [qAB z] at e3;lia
    ·rintro σ H5 ⟨v6,ts2,rfl,P5,K5,R5,f4,e4,q4⟩;refine ⟨_,rfl,_,rfl,(by walk_at "ln"),fun b hb=>?_⟩;have fb:Fre H5 b:=hb;refine ⟨_,_,rfl,.inl (SqL.of upd_same),rfl,rfl,.inr ⟨_,rfl,?_⟩⟩;rw [qAC rfl,inV12];have npb:p≠b:=by obtain ⟨x,y,e,_⟩:=P5;exact ne_fre fb e
     have nlb:l≠b:=ne_fre fb R5.top
     have hb2:(if (!(decide (way=1)||decide (way=2)))=true then (1:Int) else 0)=0\/((if (!(decide (way=1)||decide (way=2)))=true then (1:Int) else 0)=1/\¬(way=1\/way=2)):=by
      by_cases z:way=1\/way=2
      ·left
       have:(decide (way=1)||decide (way=2))=true:=by
        rcases z with z| z<;>simp [z]
       rw [this];rfl
      ·right;refine ⟨?_,z⟩
       have:(decide (way=1)||decide (way=2))=false:=by
        rw [qAb fun y=>z (.inl y),qAb fun y=>z (.inr y)];rfl
       rw [this];rfl
     generalize (if (!(decide (way=1)||decide (way=2)))=true then (1:Int) else 0)=nn at hb2 ⊢
     have hnn:(1+(i:Int))*nn=0\/((1+(i:Int))*nn=1+i/\¬(way=1\/way=2)):=by
      rcases hb2 with z| ⟨z,z'⟩
      ·left;rw [z];lia
      ·right;rw [z];exact ⟨by lia,z'⟩
     have hmul:(1+(i:Int))*nn=0\/(1+(i:Int))*nn=1+i:=hnn.imp id And.left;have k5b:Kp [] H5 (upd H5 b (.lst [.int 1,.int 2])):=Kp.new Kp.refl fb
     refine ⟨_,_,rfl,rfl,?_,_,rfl,by lia,by lia,zB3 (lo:=0) (n:=((1+(i:Int))*nn).toNat) (fun a σ H6=>∃(o7 o8:Option V) (ts3:List ((Int×Int)×Addr)),σ=[some (.ref p),some (.int m),some (.int way),some (.int thin),some (.ref l),some (.int (1+(i:Int))),some (.int v6),o7,o8]/\zBx H6 p/\Kp [p] H H6/\ITs H6 l ts3/\(∀t∈ts3,Fre H t.2)/\ts3.length<=ts2.length+a/\zC6 m ts3)
      ⟨_,_,ts2,rfl,P5.kp k5b (by simp),K5.trans (k5b.weak (by simp)),R5.kp k5b (by simp) (by simp),f4,qAF _,q4⟩ ?_ ?_⟩
     ·rcases hb2 with z| ⟨z,_⟩
      ·rw [z];exact Or.inl ⟨by lia,by lia⟩
      ·rw [z];exact Or.inl ⟨by lia,by lia⟩
     ·rintro a σ H6 ha ⟨o7',o8',ts3,rfl,P6,K6,R6,f5,e5,q5⟩;have ha':(a:Int)<1+i:=by lia
      refine seq_mid (fun σ H7=>∃bN:Bool,σ=[some (.ref p),some (.int m),some (.int way),some (.int thin),some (.ref l),some (.int (1+(i:Int))),some (.int v6),some (.int (0+(a:Int))),some (.bl bN)]/\H7=H6) (fun N hN=>?_) ?_
      ·refine ⟨_,rfl,rfl,_,rfl,ite2 (fun c=>?_) (fun c=>?_)⟩
       ·exact hN _ _ ⟨true,rfl,rfl⟩
       ·refine ⟨_,rfl,_,rfl,_,_,rfl,rfl,⟨by lia,by lia⟩,_,_,rfl,rfl,_,rfl,_,rfl,_,_,rfl,rfl,⟨by lia,by lia⟩,rfl,?_⟩;exact hN _ _ ⟨_,rfl,rfl⟩
      ·rintro σ H7 ⟨bN,rfl,rfl⟩;refine ⟨_,rfl,_,rfl,ite2 (fun c=>?_) (fun c=>?_)⟩
       ·refine ⟨_,rfl,_,rfl,p,thin,rfl,P6,by lia,by lia,fun d H8 d0 d1 P8 K8=>?_⟩;have R8:ITs H8 l ts3:=R6.kp K8 (nm1 npl.symm) fun t ht=>nm1 (by obtain ⟨x,y,e,_⟩:=hP;exact (ne_fre (f5 t ht) e).symm);have K68:=K6.trans K8;refine ⟨rfl,_,rfl,rfl,rfl,_,rfl,ite2 (fun c=>?_) (fun c=>?_)⟩
        ·-- _law_pairs_here.append((_law_i,_law_j))
         refine ⟨_,rfl,.inl ⟨rfl,_,SqL.of R8.top⟩,_,rfl,_,rfl,(by walk_at "ln"),fun t ht=>?_⟩;have ft:Fre H8 t:=ht;have nlt:l≠t:=ne_fre ft R8.top;have ntp:t≠p:=by obtain ⟨x,y,e,_⟩:=P8;exact (ne_fre ft e).symm
         have k8:Kp [] H8 (upd H8 t (.tup [.int (0+(a:Int)),.int (1+(i:Int))])):=Kp.new Kp.refl ft;refine ⟨_,_,_,rfl,rfl,(upd_ne nlt).trans R8.top,?_,_,_,ts3++[((0+(a:Int),1+(i:Int)),t)],rfl,(P8.kp k8 (by simp)).kp (M:=[l]) (Kp.put Kp.refl (by simp)) (nm1 npl),Kp.new (K68.trans (k8.weak (by simp))) fl,(R8.kp k8 (by simp) (by simp)).more upd_same,fun u hu=>?_,?_,q5.more (by lia) (by lia) (by lia)⟩
         ·rw [qAD,qAM];have:(if way=1\/way=2 then 1 else 0)<=1:=by split<;>decide
          lia
         ·rcases qAQ.mp hu with z| z
          ·exact f5 u z
          ·rw [qAP.mp z];exact K68.fre ft (nm1 ntp)
         ·rw [qAf];simp only [qAe,qBc];lia
        ·exact ⟨_,_,ts3,rfl,P8,K68,R8,f5,by lia,q5⟩
       ·exact ⟨_,_,ts3,rfl,P6,K6,R6,f5,by lia,q5⟩
     ·rintro σ H6 ⟨o7',o8',ts3,rfl,P6,K6,R6,f5,e5,q5⟩;refine ⟨_,_,_,_,ts3,rfl,P6,K6,R6,f5,?_,q5⟩;have:=tri_step i
      have e6:ts3.length<=ts.length+(i+1):=by
       rcases hnn with z| ⟨z,z'⟩
       ·have:(if way=1\/way=2 then 1 else 0)<=1:=by split<;>decide
        rw [z] at e5;have e5:ts3.length<=ts2.length+0:=e5;lia
       ·rw [qAB z'] at e4;rw [z] at e5;have:(1+(i:Int)).toNat=i+1:=by lia
        lia
      have e7:(i+1)*(i+1+1)=(i+1)*(i+2):=rfl;rw [e7,<-this];lia
  ·rintro σ H2 ⟨o5,o6,o7,o8,ts,rfl,P2,K2,R2,f2,e2,q2⟩;have hle:(m - 1).toNat*((m - 1).toNat+1)<=19*20:=Nat.mul_le_mul (by lia) (by lia);exact ⟨_,rfl,k l ts H2 fl R2 f2 (by lia) q2 P2 K2⟩
end
theorem zEc {α:Type} [BEq α] [LawfulBEq α]:∀{L:List α} {i:Nat} {x:α},L.Nodup->L[i]?=some x->L.idxOf x=i
 | [],i,x,_,h=>by simp at h
 | y::L,0,x,_,h=>by
  have:y=x:=qAh h;subst this;simp
 | y::L,i+1,x,hn,h=>by
  rw [qCk] at h;obtain ⟨h1,h2⟩:=qBC.mp hn;have hne:y≠x:=fun z=>h1 (z▸qAL h);rw [List.idxOf_cons,qBA.mpr hne];show L.idxOf x+1=i+1;rw [zEc h2 h]
theorem map_nodup {α β:Type} {f:α->β}:∀{L:List α},L.Nodup->(∀a∈L,∀b∈L,f a=f b->a=b)->(L.map f).Nodup
 | [],_,_=>qAy
 | x::L,h,hi=>by
  obtain ⟨h1,h2⟩:=qBC.mp h;rw [qAo];refine qBC.mpr ⟨fun z=>?_,map_nodup h2 fun a ha b hb=>hi a (qAT _ ha) b (qAT _ hb)⟩;obtain ⟨y,hy,e⟩:=qAa.mp z;rw [hi y (qAT _ hy) x qAS e] at hy;exact h1 hy
theorem ne_nil_read {K:PySem.W.Frag} {c e:Addr} {xs:List V} {Q:VK} (h1:SqL K H c xs) (h2:SqL K H e []) (h:∀bb:Bool,(bb=true->xs≠[])->Q (.bl bb) H):zH7 K 8 false (.ref c) (.ref e) H Q\/zH6 K true (.ref c) (.ref e) H Q:=by
 by_cases z:xs=[]
 ·subst z;exact .inl ⟨c,e,_,_,rfl,rfl,h1,h2,rfl,(fun i x y h=>by simp at h),h false (fun z=>nomatch z)⟩
 ·refine .inr ⟨c,e,_,_,rfl,rfl,h1,h2,fun y=>z (qCY.mp y),h true fun _=>z⟩
structure Spots (Is:List Int) (m:Nat):Prop where
 len:Is.length=m
 nd:Is.Nodup
 lt:∀x∈Is,0<=x/\x<m
theorem Spots.put {Is:List Int} {m:Nat} (S:Spots Is m) (d:Nat):Spots (Is.take d++(m:Int)::Is.drop d) (m+1):=by
 have hp:=ST.ins_perm Is d (m:Int);refine ⟨by rw [hp.length_eq,qAe,S.len],hp.nodup_iff.mpr (qBC.mpr ⟨fun z=>?_,S.nd⟩),fun x hx=>?_⟩
 ·have:=(S.lt _ z).2;lia
 ·rcases qAO.mp (hp.mem_iff.mp hx) with z| z
  ·subst z;lia
  ·have:=S.lt x z;lia
def rowOf (ns:List Str) (Is:List Int):List Str:=Is.map fun k=>ns.getD k.toNat Str.empty
theorem rowOf_nd {Is:List Int} (hn:ns.Nodup) (S:Spots Is ns.length):(rowOf ns Is).Nodup:=by
 refine map_nodup S.nd fun a ha b hb e=>?_;have h1:=S.lt a ha;have h2:=S.lt b hb;have e1:ns.getD a.toNat Str.empty=ns[a.toNat]'(by lia):=by rw [qBD,qAt (by lia)];rfl
 have e2:ns.getD b.toNat Str.empty=ns[b.toNat]'(by lia):=by rw [qBD,qAt (by lia)];rfl
 rw [e1,e2] at e;have:=(List.getElem_inj hn).mp e;lia
theorem rowOf_at {Is:List Int} (S:Spots Is ns.length) {i:Int} (h0:0<=i) (h1:i<ns.length):∃s n,Is[i.toNat]?=some s/\0<=s/\ns[s.toNat]?=some n/\(rowOf ns Is)[i.toNat]?=some n:=by
 have hi:i.toNat<Is.length:=by rw [S.len];lia
 have hs:=S.lt Is[i.toNat] (qB7 hi);have hs':Is[i.toNat].toNat<ns.length:=by lia
 refine ⟨Is[i.toNat],ns[Is[i.toNat].toNat],qAt hi,hs.1,qAt hs',?_⟩;unfold rowOf;rw [qAZ,qAt hi];show some (ns.getD _ _)=_;rw [qBD,qAt hs'];rfl
theorem zI2 {α β:Type} (f:α->β) (L:List α) (d:Nat) (x:α):(L.map f).take d++f x::(L.map f).drop d=(L.take d++x::L.drop d).map f:=by
 rw [qAU,qAo,qCm,qCn]
theorem it_at {ts:List ((Int×Int)×Addr)} {v:V} (h:(ts.map fun q=>V.ref q.2)[i]?=some v):∃q,ts[i]?=some q/\v= .ref q.2:=by
 rw [qAZ] at h;obtain ⟨n,e,r⟩:=qBU.mp h;exact ⟨n,e,r.symm⟩
section
def spLJobs:Sp:=fun vs H Q _=>∃(p:Addr) (mo:Int),vs=[.ref p,.int mo]/\0<=mo/\mo<=20/\zBx H p/\∀(t l m:Addr) (ns:List Str) (qs:List (List Str×Addr)) (r:Str->Nat) (H':Hp),(ns.length:Int)<=mo->qs.length<=192->H' t=some (.tup [.ref l,.ref m])->Fre H t->Fre H l->Fre H m->(∀q∈qs,Fre H q.2)->Txs H' l ns->Ords H' m qs->Good ns qs r->zBx H' p->Kp [p] H H'->Q (.ref t) H'
abbrev s_jobs:Stmt:=top 48
theorem zDf:FnScope ["_law_purse_here", "_law_most", "_law_many", "_law_names_here", "_law_way", "_law_thin", "_law_pairs_here", "_law_k", "_law_spots"] ["_law_purse_here", "_law_most"] (zAd s_jobs):=fnS
theorem ok_jobs (F:Fun K "_law_jobs" "_law_jobs" s_jobs f fd) (T:Txt K mg) (C_take:Cal P w K mg base "_law_take" 1 ["_law_purse_here", "_law_many"] spTake) (C_names:Cal P w K mg base "_law_names" 2 ["_law_purse_here", "_law_many"] zIi)
  (C_pairs:Cal P w K mg base "_law_pairs" 2 ["_law_purse_here", "_law_many", "_law_way", "_law_thin"] spLPairs):FnOk P w K mg base CX0 3 f fd ["_law_purse_here", "_law_most"] spLJobs:=by
 refine F.ok zDf (fun vs H Q E h=>?_) (fun cdv A outer s H vs Q E hr h=>?_)
 ·obtain ⟨p,mo,rfl,_⟩:=h;rfl
 ·obtain ⟨p,mo,rfl,mo0,mo1,hP,k⟩:=h;have HR_names:=hr;have HR_pairs:=hr;have HR_take:=hr.mono (j:=1) (by decide)
  refine ⟨_,(zAc (psS (i:=2) zDf.nd (zAg C_take HR_take rfl (zAa (pv 0) (zAa (zAn zBh (pv 1) zAf) zAb))))
   (zAc (psS (i:=3) zDf.nd (zAg C_names HR_names rfl (zAa (pv 0) (zAa (pv 2) zAb))))
   (zAc (psS (i:=4) zDf.nd (zAg C_take HR_take rfl (zAa (pv 0) (zAa zAf zAb))))
   (zAc (psS (i:=5) zDf.nd (zBv zA5 (zA7 (zAa zAf (zAa zAf (zAa zAf (zAa zAf (zAa zAf zAb)))))) (zAg C_take HR_take rfl (zAa (pv 0) (zAa zAf zAb))) (fun _ _=>rfl)))
   (zAc (psS (i:=6) zDf.nd (zAg C_pairs HR_pairs rfl (zAa (pv 0) (zAa (pv 2) (zAa (pv 4) (zAa (pv 5) zAb))))))
   (zAc (zAu qAg rfl (zCp rfl T.z_range (zAa (zAn zFj (zA3 zFp (by rfl) T.z_int bo_int (zAa (zCq (zIt HR_take) (pv 6) (zA7 zAb) (zAz _)) zAb)) (zAg C_take HR_take rfl (zAa (pv 0) (zAa zAf zAb)))) zAb)) (pgN (i:=7) zDf.nd)
    (zAe (zAr (zDm qAw qDL qDM zG6 (pv 6) (zAa (zAg C_take HR_take rfl (zAa (pv 0) (zAa (zAn zBh (zAh zAl (by rfl) T.z_len zCe (zAa (pv 6) zAb)) zAf) zAb))) (zAa (zBv zA5 (pv 6) (zAg C_take HR_take rfl (zAa (pv 0) (zAa (zAh zAl (by rfl) T.z_len zCe (zAa (pv 6) zAb)) zAb))) (fun _ _=>rfl)) zAb))))))
   (zAc (psS (i:=8) zDf.nd (zA7 zAb))
   (zAc (zAu qAg rfl (zCp rfl T.z_range (zAa (pv 2) zAb)) (pgN (i:=7) zDf.nd)
    (zAe (zAr (zDm qAw qDL qDM zG6 (pv 8) (zAa (zAg C_take HR_take rfl (zAa (pv 0) (zAa (zAn zBh (pv 7) zAf) zAb))) (zAa (pv 7) zAb))))))
   (zAe (zAo (zA9 (zAa (pv 3) (zAa (zBj rfl (zBn (sc:=zAd s_jobs) rfl (by decide +kernel)) (Draws.own (x:= "_law_i") (Draws.own (x:= "_law_j") (dtk (i:=3) rfl (dtk (i:=8) rfl Draws.nil)))) (zAk (pv 6)) (fun _ _ _ _=>(pg_tupK (K:=K) (n:=2) rfl (zA1 (pgB (i:=0)) (zA1 (pgB (i:=1)) zD4)))) (fun _ _ _ _=>zC1) (fun _ _ _ _=>(zA9 (zAa (zBv (zEo (K:=K)) (pv 2) (zBv (zEo (K:=K)) (pv 3) (pv 0) (fun _ _=>rfl)) (fun _ _=>rfl)) (zAa (zBv (zEo (K:=K)) (pv 2) (zBv (zEo (K:=K)) (pv 3) (pv 1) (fun _ _=>rfl)) (fun _ _=>rfl)) zAb))))) zAb))))))))))))),?_⟩
  refine ⟨_,rfl,_,rfl,_,_,rfl,rfl,p,mo+1,rfl,hP,by lia,by lia,fun m H1 m0 m1 P1 K1=>?_⟩;refine ⟨_,rfl,_,rfl,p,m,rfl,P1,m0,by lia,fun l ns H2 fl hl en nd nm P2 K2=>?_⟩;have npl:p≠l:=by obtain ⟨a,b,e,_⟩:=P1;exact ne_fre fl e
  refine ⟨_,rfl,p,6,rfl,P2,by decide,by decide,fun way H3 w0 w1 P3 K3=>?_⟩;refine ⟨(by walk_at "ln"),fun b hb=>?_⟩;have fb:Fre H3 b:=hb;have npb:p≠b:=by obtain ⟨x,y,e,_⟩:=P3;exact ne_fre fb e
  refine ⟨_,rfl,p,5,rfl,P3.kp (M:=[]) (Kp.new Kp.refl fb) (by simp),by decide,by decide,fun d H4 d0 d1 P4 K4=>?_⟩
  obtain ⟨th,hth,th2,th12⟩:∃th:Int,([V.int 2,.int 3,.int 4,.int 6,.int 12])[d.toNat]?=some (.int th)/\2<=th/\th<=12:=by
   have:d=0\/d=1\/d=2\/d=3\/d=4:=by lia
   rcases this with rfl| rfl| rfl| rfl| rfl
   ·exact ⟨2,rfl,by decide,by decide⟩
   ·exact ⟨3,rfl,by decide,by decide⟩
   ·exact ⟨4,rfl,by decide,by decide⟩
   ·exact ⟨6,rfl,by decide,by decide⟩
   ·exact ⟨12,rfl,by decide,by decide⟩
  refine ⟨_,_,_,.int th,rfl,rfl,SqL.of (K4 b _ upd_same (nm1 npb.symm)),zDz d0 hth,?_⟩;have K34:Kp [p] H3 H4:=Kp.trans (Kp.new Kp.refl fb) K4;have K14:Kp [p] H1 H4:=K2.trans (K3.trans K34);have hl4:Txs H4 l ns:=(K3.trans K34) l _ hl (nm1 npl.symm);refine ⟨_,rfl,_,rfl,_,rfl,_,rfl,p,m,way,th,rfl,P4,m0,by lia,th2,th12,fun c ts H5 fc I5 ft5 tl5 ok5 P5 K5=>?_⟩;have npc:p≠c:=by obtain ⟨x,y,e,_⟩:=P4;exact ne_fre fc e
  have hl5:Txs H5 l ns:=K5 l _ hl4 (nm1 npl.symm);have nlc:l≠c:=ne_fre fc hl4;have K05:Kp [p] H H5:=K1.trans (K14.trans K5);have fcH:Fre H c:=(K1.trans K14).fre fc (nm1 npc.symm);have flH:Fre H l:=K1.fre fl (nm1 npl.symm);refine ⟨_,rfl,(by walk_at "ln"),fun e he=>?_⟩;have fe:Fre H5 e:=he;have npe:p≠e:=by obtain ⟨x,y,q,_⟩:=P5;exact ne_fre fe q
  have k5e:Kp [] H5 (upd H5 e (.lst [])):=Kp.new Kp.refl fe;have I5e:=I5.kp k5e (by simp) (by simp);refine ne_nil_read (xs:=ts.map fun t=>V.ref t.2) (SqL.of I5e.top) (SqL.of upd_same) fun bb hbb=>?_;refine .inr ⟨bb,rfl,?_⟩;refine ⟨_,rfl,p,3,rfl,P5.kp k5e (by simp),by decide,by decide,fun dd H6 dd0 dd1 P6 K6=>?_⟩;have K56:Kp [p] H5 H6:=Kp.trans (k5e.weak (by simp)) K6;have ntp:∀t∈ts,t.2∉[p]:=fun t ht=>nm1 (by obtain ⟨x,y,q,_⟩:=P4;exact (ne_fre (ft5 t ht) q).symm);have I6:ITs H6 c ts:=I5e.kp K6 (nm1 npc.symm) ntp
  have hmul:(if bb=true then (1:Int) else 0)*dd=0\/((if bb=true then (1:Int) else 0)*dd=dd/\ts≠[]):=by
   cases bb with
   | false=>left;rw [qAB (by decide)];lia
   | true=>right;rw [qAC rfl];exact ⟨by lia,fun z=>hbb rfl (by rw [z];rfl)⟩
  have hml:(if bb=true then (1:Int) else 0)=0\/(if bb=true then (1:Int) else 0)=1:=by cases bb<;>simp
  generalize (if bb=true then (1:Int) else 0)=n01 at hmul hml ⊢
  refine ⟨_,_,rfl,rfl,?_,_,rfl,by rcases hmul with z| ⟨z,_⟩<;>lia,by rcases hmul with z| ⟨z,_⟩<;>lia,zB3 (lo:=0) (n:=(n01*dd).toNat) (fun i σ H7=>∃(o7 o8:Option V) (ts':List ((Int×Int)×Addr)),σ=[some (.ref p),some (.int mo),some (.int m),some (.ref l),some (.int way),some (.int th),some (.ref c),o7,o8]/\zBx H7 p/\Kp [p] H H7/\Txs H7 l ns/\ITs H7 c ts'/\(∀t∈ts',t∈ts)/\ts'.length=ts.length+i)
   ⟨_,_,ts,rfl,P6,K05.trans K56,K56 l _ hl5 (nm1 npl.symm),I6,fun t h=>h,rfl⟩ ?_ ?_⟩
  ·rcases hml with z| z
   ·exact Or.inl ⟨by lia,by lia⟩
   ·exact Or.inl ⟨by lia,by lia⟩
  ·rintro i σ H7 hi ⟨o7,o8,ts',rfl,P7,K7,hl7,I7,s7,e7⟩
   have ne:ts≠[]:=by
    rcases hmul with z| ⟨_,z⟩
    ·rw [z] at hi;exact absurd hi (qCX _)
    ·exact z
   have pos:0<ts'.length:=by
    have:=List.length_pos_iff.mpr ne;lia
   have ntp':∀t∈ts',t.2∉[p]:=fun t ht=>ntp t (s7 t ht);have nlc':l≠c:=nlc;refine ⟨_,rfl,.inl ⟨rfl,_,SqL.of I7.top⟩,_,rfl,_,rfl,_,_,rfl,.inl (SqL.of I7.top),_,_,rfl,rfl,p,_,rfl,P7,?_,?_,fun d1 H8 x0 x1 P8 K8=>?_⟩
   ·lia
   ·rw [qAD];have:i<3:=by rcases hmul with z| ⟨z,_⟩<;>lia
    lia
   have I8:ITs H8 c ts':=I7.kp K8 (nm1 npc.symm) ntp';refine ⟨_,rfl,_,rfl,_,rfl,_,_,rfl,.inl (SqL.of I8.top),p,_,rfl,P8,?_,?_,fun d2 H9 y0 y1 P9 K9=>?_⟩
   ·rw [qAD];lia
   ·rw [qAD];have:i<3:=by rcases hmul with z| ⟨z,_⟩<;>lia
    lia
   have I9:ITs H9 c ts':=I8.kp K9 (nm1 npc.symm) ntp';rw [qAD] at x1 y1;obtain ⟨t,et⟩:∃t,ts'[d2.toNat]?=some t:=⟨ts'[d2.toNat]'(by lia),qAt (by lia)⟩;have evt:(ts'.map fun t=>V.ref t.2)[d2.toNat]?=some (V.ref t.2):=by rw [qAZ,et];rfl
   refine ⟨_,_,_,.ref t.2,rfl,rfl,SqL.of I9.top,zDz y0 evt,_,_,_,_,rfl,rfl,I9.top,?_,x0,?_,?_⟩
   ·rw [qAD,qAM];have:i<3:=by rcases hmul with z| ⟨z,_⟩<;>lia
    lia
   ·rw [qAD];lia
   ·have hp:=ST.ins_perm ts' d1.toNat t;refine ⟨_,_,ts'.take d1.toNat++t::ts'.drop d1.toNat,rfl,P9.kp (M:=[c]) (Kp.put Kp.refl (by simp)) (nm1 npc),Kp.new (K7.trans (K8.trans K9)) fcH,(upd_ne nlc).trans ((K8.trans K9) l _ hl7 (nm1 npl.symm)),⟨?_,fun u hu=>?_⟩,fun u hu=>?_,?_⟩
    ·rw [upd_same,zI2 (fun t:(Int×Int)×Addr=>V.ref t.2)]
    ·have hu':u∈ts':=by
      rcases qAO.mp (hp.mem_iff.mp hu) with z| z
      ·rw [z];exact qAL et
      ·exact z
     exact (upd_ne (zBw (I9.row u hu') I9.top (fun y=>nomatch y))).trans (I9.row u hu')
    ·rcases qAO.mp (hp.mem_iff.mp hu) with z| z
     ·rw [z];exact s7 t (qAL et)
     ·exact s7 u z
    ·rw [hp.length_eq,qAe,e7];lia
  ·rintro σ H7 ⟨o7,o8,ts',rfl,P7,K7,hl7,I7,s7,e7⟩;have hts:ts'.length<=192:=by rcases hmul with z| ⟨z,_⟩<;>lia
   refine ⟨(by walk_at "ln"),fun g hg=>?_⟩;have fg:Fre H7 g:=hg;have npg:p≠g:=by obtain ⟨x,y,q,_⟩:=P7;exact ne_fre fg q
   have nlg:l≠g:=ne_fre fg hl7;have ncg:c≠g:=ne_fre fg I7.top;have fgH:Fre H g:=K7.fre fg (nm1 npg.symm);have k7g:Kp [] H7 (upd H7 g (.lst [])):=Kp.new Kp.refl fg;have ntp':∀t∈ts',t.2∉[p]:=fun t ht=>ntp t (s7 t ht)
   refine ⟨_,rfl,_,rfl,by lia,by lia,zB3 (lo:=0) (n:=m.toNat) (fun i σ H8=>∃(o7:Option V) (Is:List Int),σ=[some (.ref p),some (.int mo),some (.int m),some (.ref l),some (.int way),some (.int th),some (.ref c),o7,some (.ref g)]/\zBx H8 p/\Kp [p] H H8/\Txs H8 l ns/\ITs H8 c ts'/\H8 g=some (.lst (Is.map V.int))/\Spots Is i)
    ⟨_,[],rfl,P7.kp k7g (by simp),Kp.new K7 fgH,k7g l _ hl7 (by simp),I7.kp k7g (by simp) (by simp),upd_same,rfl,qAy,(fun x h=>nomatch h)⟩ ?_ ?_⟩
   ·rintro i σ H8 hi ⟨o7,Is,rfl,P8,K8,hl8,I8,hg8,S8⟩;refine ⟨_,rfl,.inl ⟨rfl,_,SqL.of hg8⟩,_,rfl,_,rfl,_,_,rfl,rfl,p,_,rfl,P8,?_,?_,fun d1 H9 x0 x1 P9 K9=>?_⟩
    ·lia
    ·lia
    have hg9:=K9 g _ hg8 (nm1 npg.symm);refine ⟨_,rfl,_,_,_,_,rfl,rfl,hg9,?_,x0,?_,?_⟩
    ·rw [qAD,S8.len,qAM];lia
    ·rw [qAD,S8.len];lia
    ·have e1:(Is.map V.int).take d1.toNat++V.int (0+(i:Int))::(Is.map V.int).drop d1.toNat=(Is.take d1.toNat++(i:Int)::Is.drop d1.toNat).map V.int:=by
      rw [Int.zero_add];exact zI2 V.int Is d1.toNat (i:Int)
     rw [e1];have hl9:=K9 l _ hl8 (nm1 npl.symm);have I9:=I8.kp K9 (nm1 npc.symm) ntp';exact ⟨_,_,rfl,P9.kp (M:=[g]) (Kp.put Kp.refl (by simp)) (nm1 npg),Kp.new (K8.trans K9) fgH,(upd_ne nlg).trans hl9,⟨(upd_ne ncg).trans I9.top,fun u hu=>(upd_ne (zBw (I9.row u hu) hg9 (fun y=>nomatch y))).trans (I9.row u hu)⟩,upd_same,S8.put _⟩
   ·rintro σ H8 ⟨o7,Is,rfl,P8,K8,hl8,I8,hg8,S8⟩;rw [<-en] at S8;have hmn:(ns.length:Int)=m:=by rw [en];lia
    refine ⟨_,rfl,_,rfl,_,rfl,⟨_,SqL.of I8.top⟩,fun B hB=>zBg (ts'.map fun t=>V.ref t.2) (fun i ys τ H9=>∃ks:List (List Str×Addr),(∃o0 o1,τ=[o0,o1,some (.ref l),some (.ref g)])/\ys=(ks.map fun q=>V.ref q.2)/\ks.length=i/\(∀q∈ks,H9 q.2=some (.tup (q.1.map V.str))/\Fre H q.2/\∃(a b:Str) (x y:Nat),q.1=[a,b]/\x<y/\(rowOf ns Is)[x]?=some a/\(rowOf ns Is)[y]?=some b)/\Kp [] H8 H9/\H9 B=some (.lst ys))
     ⟨[],⟨_,_,rfl⟩,rfl,rfl,(fun q h=>nomatch h),Kp.new Kp.refl hB,upd_same⟩ (fun i ys τ H9 ⟨_,_,_,_,_,k9,_⟩=>SqL.of (k9 c _ I8.top (by simp))) ?_ ?_⟩
    ·rintro i v ys τ H9 hv ⟨ks,⟨o0,o1,rfl⟩,rfl,ek,hk,k9,h9⟩;obtain ⟨t,eq,rfl⟩:=it_at hv;have mt:=qAL eq;have okt:=ok5 t (s7 t mt);have hrow:H9 t.2=some (.tup [.int t.1.1,.int t.1.2]):=k9 t.2 _ (I8.row t mt) (by simp);refine ⟨_,_,rfl,.inl (.inl hrow),rfl,_,_,rfl,_,_,rfl,rfl,?_⟩;obtain ⟨s1,n1,a1,a2,a3,a4⟩:=rowOf_at S8 okt.1 (by lia);obtain ⟨s2,n2,b1,b2,b3,b4⟩:=rowOf_at S8 (i:=t.1.2) (by lia) (by lia);have hl9:=k9 l _ hl8 (by simp);have hg9:=k9 g _ hg8 (by simp);have ai:∀{x:Int} {s:Int},0<=x->Is[x.toNat]?=some s->atI (Is.map V.int) x=some (.int s):=fun h0 h=>zDz h0 (by rw [qAZ,h];rfl);have an:∀{x:Int} {n:Str},0<=x->ns[x.toNat]?=some n->atI (ns.map V.str) x=some (.str n):=fun h0 h=>zDz h0 (by rw [qAZ,h];rfl);refine ⟨_,rfl,_,rfl,_,rfl,_,_,_,_,rfl,rfl,SqL.of hg9,ai okt.1 a1,_,_,_,_,rfl,rfl,SqL.of hl9,an a2 a3,_,rfl,_,rfl,_,rfl,_,_,_,_,rfl,rfl,SqL.of hg9,ai (by lia) b1,_,_,_,_,rfl,rfl,SqL.of hl9,an b2 b3,(by walk_at "ln"),fun u hu=>?_⟩;have fu:Fre H9 u:=hu;have nBu:B≠u:=ne_fre fu h9;have hu8:Fre H8 u:=k9.fre fu (by simp);have npu:p≠u:=by obtain ⟨x,y,q,_⟩:=P8;exact ne_fre hu8 q
     have fuH:Fre H u:=K8.fre hu8 (nm1 npu.symm);refine ⟨(upd_ne nBu).trans h9,?_,ks++[([n1,n2],u)],⟨_,_,rfl⟩,?_,by rw [qAf,ek];rfl,fun q hq=>?_,Kp.new (Kp.new k9 (k9.fre fu (by simp))) hB,upd_same⟩
     ·have:=(qAV.mp eq).1;rw [qAD,ek,qAM];lia
     ·rw [qAU];rfl
     ·rcases qAQ.mp hq with z| z
      ·obtain ⟨z1,z2⟩:=hk q z;exact ⟨(upd_ne (zBw z1 h9 (fun y=>nomatch y))).trans ((upd_ne (ne_fre fu z1)).trans z1),z2⟩
      ·rw [qAP.mp z];exact ⟨(upd_ne nBu.symm).trans upd_same,fuH,n1,n2,t.1.1.toNat,t.1.2.toNat,rfl,by lia,a4,b4⟩
    ·rintro ys τ H9 ⟨ks,_,rfl,ek,hk,k9,h9⟩;rw [qAD] at ek;refine ⟨(by walk_at "ln"),fun t ht=>?_⟩;have ft:Fre H9 t:=ht;have k10:Kp [] H9 (upd H9 t (.tup [.ref l,.ref B])):=Kp.new Kp.refl ft;have ft8:Fre H8 t:=k9.fre ft (by simp);have npt:p≠t:=by obtain ⟨x,y,q,_⟩:=P8;exact ne_fre ft8 q
     have npB:p≠B:=by obtain ⟨x,y,q,_⟩:=P8;exact ne_fre (show Fre H8 B from hB) q
     have rnd:=rowOf_nd nd S8
     have rin:∀{x:Nat} {a:Str},(rowOf ns Is)[x]?=some a->a∈ns:=fun {x a} h=>by
      obtain ⟨s,hs,e⟩:=qAa.mp (qAL h);have:=S8.lt s hs;rw [<-e,qBD,qAt (by lia)];exact qB7 _
     refine k t l B ns ks (fun n=>(rowOf ns Is).idxOf n) _ (by rw [en];lia) (by lia) upd_same (K8.fre ft8 (nm1 npt.symm)) flH (K8.fre (show Fre H8 B from hB) (nm1 npB.symm)) (fun q hq=>(hk q hq).2.1) ((k9.trans k10) l _ hl8 (by simp)) ⟨k10 B _ h9 (by simp),fun q hq=>k10 _ _ (hk q hq).1 (by simp),fun q hq=>?_⟩ ⟨nm,nd,by rw [en];lia,by lia,fun q hq x hx=>?_,fun q hq=>?_⟩ (P8.kp (k9.trans k10) (by simp)) (K8.trans ((k9.trans k10).weak (by simp)))
     ·obtain ⟨a,b,x,y,e,_⟩:=(hk q hq).2.2;exact ⟨a,b,e⟩
     ·obtain ⟨a,b,i,j,e,_,h1,h2⟩:=(hk q hq).2.2;rw [e] at hx;rcases qAO.mp hx with z| z
      ·rw [z];exact rin h1
      ·rw [qAP.mp z];exact rin h2
     ·obtain ⟨a,b,i,j,e,hij,h1,h2⟩:=(hk q hq).2.2;have e1:fst q=a:=by unfold fst;rw [e];rfl
      have e2:snd q=b:=by unfold snd;rw [e];rfl
      rw [e1,e2,zEc rnd h1,zEc rnd h2];exact hij
end
structure Mth (P:Program) (w:World) (K:PySem.W.Frag) (mg:Str->Option Value) (base:Heap) (C:Addr) (m:Str) (k:Nat) (ps:List Str) (sp:Sp):Prop where
 to:∃(f:Addr) (fd:FuncData),Meth K C m f/\zD0 K fd ps []/\FnOk P w K mg base CX0 k f fd ps sp
theorem zGn {m:Str} {k:Nat} {ps:List Str} {o e:Expr} {es:List Expr} {apos pos:Pos} {ta:TE} {t:TA} {pl:Sem Bool} (M:Mth X.prog X.w X.K X.mg X.base C m k ps sp) (c:Cls X.K C) (hr:Room k X.A) (he:PE X o ta) (ha:PA X (e::es) t)
  (hst:starEach (e::es) X.env=(false,eval e X.env)::starEach es X.env:=by rfl) (hpl:(backTo pos (starEach es X.env)).any (·.1)=false:=by rfl)
  (ht:eval (.Call (.Attribute o m apos) (e::es) [] pos) X.env=(do
   let ov<-eval o X.env
   standAt apos.atName
   let (f,first)<-holding [ov] (getMethod ov m pl)
   callWith pos f first (backTo pos (starEach (e::es) X.env)) (backToKw pos (keywordEach [] X.env))):=by rfl):PE X (.Call (.Attribute o m apos) (e::es) [] pos) (tMeth C m sp [] E0 ta t):=by
 obtain ⟨f,fd,h1,h2,h3⟩:=M.to;exact pe_meth he c h1 h3 hr h2 .nil pass0 ha hst hpl ht
theorem zFh {m:Str} {k:Nat} {ps:List Str} {o:Expr} {apos:Pos} {ta:TE} {pl:Sem Bool} (M:Mth X.prog X.w X.K X.mg X.base C m k ps sp) (c:Cls X.K C) (hr:Room k X.A) (he:PE X o ta)
  (ht:eval (.Call (.Attribute o m apos) [] [] pos) X.env=(do
   let ov<-eval o X.env
   standAt apos.atName
   let (f,first)<-holding [ov] (getMethod ov m pl)
   callWith pos f first (backTo pos (starEach [] X.env)) (backToKw pos (keywordEach [] X.env))):=by rfl):PE X (.Call (.Attribute o m apos) [] [] pos) (tMeth C m sp [] E0 ta tNil):=by
 obtain ⟨f,fd,h1,h2,h3⟩:=M.to;exact pe_meth0 he c h1 h3 hr h2 .nil pass0 ht
theorem S_rank {j:Addr} {r:Str->Nat} (A:JobsAt C H j J) (G:Good J.ns qs r) (hz:∀k,k∈J.zs.map (·.1)↔k∈qs.map (·.1)):∀(b:Nat) (n x:Str),r n<=b->n∈J.ns->x∈J.S n->r x<r n:=by
 have tk:∀n x,x∈told J.zs n->x∈J.ns/\r x<r n:=fun n x hx=>by
  obtain ⟨q,q1,q2,q3⟩:=zGo.mp hx;have:q.1∈qs.map (·.1):=(hz q.1).mp (qAa.mpr ⟨q,q1,rfl⟩);obtain ⟨q',h1,h2⟩:=qAa.mp this;obtain ⟨e1,e2⟩:=fst_of h2;obtain ⟨a,b,eab⟩:=A.prs.two q q1;refine ⟨?_,by rw [<-q2,<-q3,<-e1,<-e2];exact G.rk q' h1⟩;rw [<-q3];refine A.zin q q1 _ ?_;unfold fst;rw [eab];simp
 intro b
 induction b with
 | zero =>
  intro n x hb hn hx;rcases (A.mem n hn x).mp hx with z| ⟨m,z,_⟩
  ·exact (tk n x z).2
  ·have:=(tk n m z).2;lia
 | succ b ih =>
  intro n x hb hn hx;rcases (A.mem n hn x).mp hx with z| ⟨m,z,z'⟩
  ·exact (tk n x z).2
  ·have h1:=tk n m z;exact qCQ (ih m x (by lia) h1.1 z') h1.2
structure Mkr (P:Program) (w:World) (K:PySem.W.Frag) (mg:Str->Option Value) (base:Heap) (C:Addr) (x:Str) (k:Nat) (ps:List Str) (sp:Sp):Prop where
 to:∃(f:Addr) (fd:FuncData),Mk K C f/\mg x=some (.ref C)/\zD0 K fd ps []/\FnOk P w K mg base CX0 k f fd ps sp
theorem pe_makeC {k:Nat} {ps:List Str} {e:Expr} {es:List Expr} {p:Pos} {t:TA} (M:Mkr X.prog X.w X.K X.mg X.base C x k (("self" : Str)::ps) sp) (hr:Room (k+1) X.A) (hg:Gl X x) (ha:PA X (e::es) t)
  (hdb:(x==("__debug__" : Str))=false:=by decide) (he:starEach (e::es) X.env=(false,eval e X.env)::starEach es X.env:=by rfl) (hpl:(backTo pos (starEach es X.env)).any (·.1)=false:=by rfl):PE X (.Call (.Name x p) (e::es) [] pos) (tMake C sp [] E0 t):=by
 obtain ⟨f,fd,h1,h2,h3,h4⟩:=M.to;exact pe_make h1 h4 hr hg h2 h3 .nil pass0 ha hdb he hpl
def TA (qs:List (List Str×Addr)) (a b:Str):Prop:=∃q∈qs,fst q=a/\snd q=b
inductive Way (qs:List (List Str×Addr)):Str->Str->Prop
 | one {a b:Str}:TA qs a b->Way qs a b
 | more {a b c:Str}:Way qs a b->TA qs b c->Way qs a c
theorem Way.trans {a b c:Str} (h:Way qs a b) (w:Way qs b c):Way qs a c:=by
 induction w with
 | one h'=>exact .more h h'
 | more _ h' ih=>exact .more ih h'
theorem TA.to (two:∀q∈qs,∃a b,q.1=[a,b]) (qin:∀q∈qs,∀x∈q.1,x∈ns) {a b:Str} (h:TA qs a b):a∈ns/\b∈ns:=by
 obtain ⟨q,hq,rfl,rfl⟩:=h;obtain ⟨a,b,e⟩:=two q hq;unfold fst snd;rw [e];exact ⟨qin q hq a (by rw [e];simp),qin q hq b (by rw [e];simp)⟩
theorem Way.to (two:∀q∈qs,∃a b,q.1=[a,b]) (qin:∀q∈qs,∀x∈q.1,x∈ns) {a b:Str} (h:Way qs a b):a∈ns/\b∈ns:=by
 induction h with
 | one h=>exact h.to two qin
 | more _ h ih=>exact ⟨ih.1,(h.to two qin).2⟩
theorem S_way {j:Addr} {r:Str->Nat} (A:JobsAt C H j J) (G:Good J.ns qs r) (hz:∀k,k∈J.zs.map (·.1)↔k∈qs.map (·.1)) (hn:n∈J.ns):x∈J.S n↔Way qs x n:=by
 have tk:∀n x,x∈told J.zs n↔TA qs x n:=fun n x=>by
  rw [zGo];constructor
  ·rintro ⟨q,h1,h2,h3⟩;obtain ⟨q',h4,h5⟩:=qAa.mp ((hz q.1).mp (qAa.mpr ⟨q,h1,rfl⟩));obtain ⟨e1,e2⟩:=fst_of h5;exact ⟨q',h4,e1.trans h3,e2.trans h2⟩
  ·rintro ⟨q,h1,h2,h3⟩;obtain ⟨q',h4,h5⟩:=qAa.mp ((hz q.1).mpr (qAa.mpr ⟨q,h1,rfl⟩));obtain ⟨e1,e2⟩:=fst_of h5;exact ⟨q',h4,e2.trans h3,e1.trans h2⟩
 have tin:∀n x,TA qs x n->x∈J.ns/\r x<r n:=fun n x h=>by
  have hT:=(tk n x).mpr h;obtain ⟨q,q1,q2,q3⟩:=zGo.mp hT;obtain ⟨a,b,e⟩:=A.prs.two q q1;refine ⟨?_,?_⟩
  ·rw [<-q3];refine A.zin q q1 _ ?_;unfold fst;rw [e];simp
  ·obtain ⟨q',h1,h2,h3⟩:=h;rw [<-h2,<-h3];exact G.rk q' h1
 constructor
 ·have:∀(b:Nat) (n:Str),r n<=b->n∈J.ns->∀x,x∈J.S n->Way qs x n:=by
   intro b
   induction b with
   | zero =>
    intro n hb hn x hx;rcases (A.mem n hn x).mp hx with z| ⟨m,z,_⟩
    ·exact .one ((tk n x).mp z)
    ·have:=(tin n m ((tk n m).mp z)).2;lia
   | succ b ih =>
    intro n hb hn x hx;rcases (A.mem n hn x).mp hx with z| ⟨m,z,z'⟩
    ·exact .one ((tk n x).mp z)
    ·have h1:=tin n m ((tk n m).mp z);exact .more (ih m (by lia) h1.1 x z') ((tk n m).mp z)
  exact this (r n) n (qAF _) hn x
 ·intro w
  induction w with
  | one h=>exact (A.mem _ hn _).mpr (.inl ((tk _ _).mpr h))
  | more _ h ih=>exact (A.mem _ hn _).mpr (.inr ⟨_,(tk _ _).mpr h,ih (tin _ _ h).1⟩)
section
def zF1 (C:Addr):Sp:=fun vs H Q _=>∃(j l:Addr) (J:JR) (ls:List Str) (y:Str),vs=[.ref j,.ref l,.str y]/\JobsAt C H j J/\Txs H l ls/\ls.length<=4096/\y∈J.ns/\∀H',Kp [] H H'->Q (.bl (ls.any fun n=>decide (n∈J.S y))) H'
abbrev zA8:Stmt:=zFw (top 33) 7
theorem zEw:FnScope ["self", "later", "other"] ["self", "later", "other"] (zAd zA8):=fnS
theorem zE1 (F:Fun K "has_between" "Jobs.has_between" zA8 f fd) (T:Txt K mg) (U:JC K mg C):FnOk P w K mg base CX0 1 f fd ["self", "later", "other"] (zF1 C):=by
 refine F.ok zEw (fun vs H Q E h=>?_) (fun cdv A outer s H vs Q E hr h=>?_)
 ·obtain ⟨j,l,J,ls,y,rfl,_⟩:=h;rfl
 ·obtain ⟨j,l,J,ls,y,rfl,A0,hl,hlen,hy,k⟩:=h;have hu:=zDq hr;refine ⟨_,(zAe (zAo (zAh (call_any _ rfl) (by rfl) T.z_any bo_any (zAa (zBj rfl (zBn (sc:=zAd zA8) rfl (by decide +kernel)) (Draws.own (x:= "name") (dtk (i:=2) rfl (dtk (i:=0) rfl Draws.nil))) (zAk (pv 1)) (fun _ _ _ _=>(pgB (i:=0))) (fun _ _ _ _=>zC1) (fun _ _ _ _=>(pe_cmp (zG2 hu (pv 0) (zA4 hu (pe_fldK (K:=K) (pv 2) rfl) (pv 1) (fun _ _=>rfl)))))) zAb)))),?_⟩
  refine ⟨_,rfl,_,rfl,⟨_,SqL.of hl⟩,fun B hB=>zBg (ls.map V.str) (fun i ys τ H3=>(∃o0,τ=[o0,some (.str y),some (.ref j)])/\ys=((ls.take i).map fun n=>V.bl (decide (n∈J.S y)))/\H3=upd H B (.lst ys))
   ⟨⟨_,rfl⟩,rfl,rfl⟩ (fun i ys τ H3 ⟨_,_,z⟩=>by subst z;exact SqL.of ((Kp.new (M:=[]) Kp.refl hB) _ _ hl (by simp))) ?_ ?_⟩
  ·rintro i v ys τ H3 hv ⟨⟨o0,rfl⟩,rfl,rfl⟩;obtain ⟨n,en,rfl⟩:=zA2 hv;have A3:=A0.kp0 (Kp.new (l:=B) (o:=.lst ((ls.take i).map fun n=>V.bl (decide (n∈J.S y)))) Kp.refl hB);obtain ⟨o,g1,g2⟩:=zGw (A3.sets y (A3.all y hy)) n;refine ⟨_,rfl,_,rfl,_,_,_,_,_,rfl,A3.ob,U.cl,U.n_above,zI1 _ _ _,_,rfl,_,_,rfl,abv_get A3 hy,_,o,rfl,g1,?_⟩;rw [g2];refine ⟨upd_same,?_,⟨_,rfl⟩,?_,zCf⟩
   ·rw [qAD,qAX,qAM];lia
   ·rw [zAi en,qAU];rfl
  ·rintro ys τ H3 ⟨_,rfl,rfl⟩;have eT:ls.take (ls.map V.str).length=ls:=by rw [qAD,qAj]
   rw [eT];refine ⟨B,ls.map fun n=>decide (n∈J.S y),rfl,SqL.of ?_,?_⟩
   ·rw [upd_same,qBV];rfl
   ·have e:((ls.map fun n=>decide (n∈J.S y)).any id)=ls.any fun n=>decide (n∈J.S y):=by rw [List.any_map];rfl
    rw [e];exact k _ (Kp.new Kp.refl hB)
def strB (J:JR) (x:Str):List Str:=(J.ns.filter fun n=>decide (x∈J.S n)).filter fun o=>!((J.ns.filter fun n=>decide (x∈J.S n)).any fun n=>decide (n∈J.S o))
def zH3 (C:Addr):Sp:=fun vs H Q _=>∃(j:Addr) (J:JR) (x:Str),vs=[.ref j,.str x]/\JobsAt C H j J/\x∈J.ns/\∀l H',Fre H l->Txs H' l (strB J x)->Kp [] H H'->Q (.ref l) H'
abbrev zB0:Stmt:=zFw (top 33) 6
theorem zDw:FnScope ["self", "name", "later"] ["self", "name"] (zAd zB0):=fnS
theorem zGf (F:Fun K "straight" "Jobs.straight" zB0 f fd) (T:Txt K mg) (U:JC K mg C) (M_behind:Mth P w K mg base C "behind" 3 ["self", "name"] (spBehind C)) (M_has_between:Mth P w K mg base C "has_between" 1 ["self", "later", "other"] (zF1 C)):FnOk P w K mg base CX0 4 f fd ["self", "name"] (zH3 C):=by
 refine F.ok zDw (fun vs H Q E h=>?_) (fun cdv A outer s H vs Q E hr h=>?_)
 ·obtain ⟨j,J,x,rfl,_⟩:=h;rfl
 ·obtain ⟨j,J,x,rfl,A0,hx,k⟩:=h;have hr1:=hr.mono (j:=1) (by decide)
  refine ⟨_,(zAc (psS (i:=2) zDw.nd (zGn M_behind U.cl hr (pv 0) (zAa (pv 1) zAb)))
   (zAe (zAo (zBj rfl (zBn (sc:=zAd zB0) rfl (by decide +kernel)) (Draws.own (x:= "other") (dtk (i:=2) rfl (dtk (i:=0) rfl Draws.nil))) (zAk (pv 2)) (fun _ _ _ _=>(pgB (i:=0))) (fun C₀ s₀ H₀ ex=>(zCo (zCw (zCg (zGn M_has_between U.cl hr1 (pv 2) (zAa (pv 1) (zAa (pv 0) zAb))))))) (fun _ _ _ _=>(pv 0)))))),?_⟩
  refine ⟨_,rfl,j,J.dx,_,rfl,A0.ob,jf_no _ _ _ (by decide +kernel) (by decide +kernel) (by decide +kernel),_,rfl,j,J,x,rfl,A0,hx,fun l H1 fl hl k1=>?_⟩;have A1:=A0.kp0 k1;have hLn:∀n∈(J.ns.filter fun n=>decide (x∈J.S n)),n∈J.ns:=fun n hn=>(qAY.mp hn).1;have hLl:(J.ns.filter fun n=>decide (x∈J.S n)).length<=20:=qAW (qBH _ _) A0.few;have eS:strB J x=(J.ns.filter fun n=>decide (x∈J.S n)).filter fun o=>!((J.ns.filter fun n=>decide (x∈J.S n)).any fun n=>decide (n∈J.S o)):=rfl;rw [eS] at k;generalize (J.ns.filter fun n=>decide (x∈J.S n))=L at *
  refine ⟨_,rfl,_,rfl,⟨_,SqL.of hl⟩,fun B hB=>zBm (L.map V.str) (fun i ys τ H3=>(∃o0,τ=[o0,some (.ref l),some (.ref j)])/\ys=((L.take i).filter fun o=>!(L.any fun n=>decide (n∈J.S o))).map V.str/\Kp [] H1 H3/\H3 B=some (.lst ys))
   ⟨⟨_,rfl⟩,rfl,Kp.new Kp.refl hB,upd_same⟩ (fun i ys τ H3 ⟨_,_,k3,_⟩=>SqL.of (k3 l _ hl (by simp))) ?_ ?_⟩
  ·rintro i v ys τ H3 hv ⟨⟨o0,rfl⟩,rfl,k3,h3⟩;obtain ⟨n,en,rfl⟩:=zA2 hv;have A3:=A1.kp0 k3;refine ⟨_,rfl,j,J.dx,_,rfl,A3.ob,jf_no _ _ _ (by decide +kernel) (by decide +kernel) (by decide +kernel),_,rfl,_,rfl,j,l,J,L,n,rfl,A3,k3 l _ hl (by simp),by lia,hLn n (qAL en),fun H4 k4=>⟨_,rfl,?_⟩⟩;have h4:=k4 B _ h3 (by simp);refine ite2 (fun c=>?_) (fun c=>?_)
   ·refine ⟨_,rfl,h4,?_,⟨_,rfl⟩,?_,Kp.new (k3.trans k4) hB,upd_same⟩
    ·rw [qAD];exact zDs (by lia)
    ·rw [zDr en c,qAU];rfl
   ·refine ⟨⟨_,rfl⟩,?_,k3.trans k4,?_⟩
    ·rw [zE5 en c]
    ·exact h4
  ·rintro ys τ H3 ⟨_,rfl,k3,h3⟩;have eT:L.take (L.map V.str).length=L:=by rw [qAD,qAj]
   rw [eT] at h3;exact k B H3 (k1.fre hB (by simp)) h3 (k1.trans k3)
end
structure DS (H0 H:Hp) (d:Addr) (ns:List Str) (la:Str->Addr) (L:Str->List Str):Prop where
 top:H d=some (.dK (dT1 ns fun n=>.ref (la n)))
 row:∀n∈ns,SetD H (la n) (L n)
 ne:∀n∈ns,la n≠d
 fr:Fre H0 d
 frs:∀n∈ns,Fre H0 (la n)
structure BI (qs:List (List Str×Addr)) (ns:List Str) (n:Str) (B W:List Str):Prop where
 nd:B.Nodup
 sub:∀x∈B,x∈ns
 way:∀x∈B,Way qs n x
 wl:∀x∈W,x=n\/x∈B
 cl:∀x,(x=n\/x∈B)->x∉W->∀y,TA qs x y->y∈B
 cap:W.length+2*(20 - B.length)<=41
structure BJ (qs:List (List Str×Addr)) (ns:List Str) (n x0:Str) (i c:Nat) (B W:List Str):Prop where
 nd:B.Nodup
 sub:∀x∈B,x∈ns
 way:∀x∈B,Way qs n x
 wl:∀x∈W,x=n\/x∈B
 cl:∀x,(x=n\/x∈B)->x∉W->x≠x0->∀y,TA qs x y->y∈B
 here:x0=n\/x0∈B
 part:∀q∈qs.take i,fst q=x0->snd q∈B
 cap:W.length+2*(20 - B.length)<=c
theorem BI.start :BI qs ns n [] [n] :=
 ⟨qAy,(fun x h=>nomatch h),(fun x h=>nomatch h),fun x h=>.inl (qAP.mp h),fun x h hn=>absurd (by
  rcases h with z| z
  ·rw [z];simp
  ·exact nomatch z) hn,by simp⟩
theorem BI.pop {W:List Str} (b:BI qs ns n B (W++[x0])):BJ qs ns n x0 0 (W.length+2*(20 - B.length)) B W :=
 ⟨b.nd,b.sub,b.way,fun x h=>b.wl x (qAs _ h),fun x h1 h2 h3=>b.cl x h1 fun z=>by
  rcases qAQ.mp z with y| y
  ·exact h2 y
  ·exact h3 (qAP.mp y),b.wl x0 (by simp),fun q h=>(by simp at h),qAF _⟩
theorem BJ.skip {c:Nat} {W:List Str} {q:List Str×Addr} (b:BJ qs ns n x0 i c B W) (e:qs[i]?=some q) (h:fst q=x0->snd q∈B):BJ qs ns n x0 (i+1) c B W :=
 ⟨b.nd,b.sub,b.way,b.wl,b.cl,b.here,fun q' h1 h2=>by
  rw [zAi e] at h1;rcases qAQ.mp h1 with z| z
  ·exact b.part q' z h2
  ·rw [qAP.mp z] at h2 ⊢;exact h h2,b.cap⟩
theorem BJ.add {c:Nat} {W:List Str} {q:List Str×Addr} (b:BJ qs ns n x0 i c B W) (e:qs[i]?=some q) (h1:fst q=x0) (h2:snd q∉B) (h3:snd q∈ns) (hn:ns.length<=20):BJ qs ns n x0 (i+1) c (B++[snd q]) (W++[snd q]):=by
 have nd:(B++[snd q]).Nodup:=qBg.mpr ⟨b.nd,by simp,fun a ha d hd=>by
  rw [qAP.mp hd];exact fun z=>h2 (z▸ha)⟩
 have sub:∀x∈B++[snd q],x∈ns:=fun x h=>by
  rcases qAQ.mp h with z| z
  ·exact b.sub x z
  ·rw [qAP.mp z];exact h3
 refine ⟨nd,sub,fun x h=>?_,fun x h=>?_,fun x h k1 k2 y hy=>?_,?_,fun q' k1 k2=>?_,?_⟩
 ·rcases qAQ.mp h with z| z
  ·exact b.way x z
  ·rw [qAP.mp z];have t:TA qs x0 (snd q):=⟨q,qAL e,h1,rfl⟩;rcases b.here with y| y
   ·rw [y] at t;exact .one t
   ·exact .more (b.way x0 y) t
 ·rcases qAQ.mp h with z| z
  ·rcases b.wl x z with y| y
   ·exact .inl y
   ·exact .inr (qAs _ y)
  ·exact .inr (qAv _ z)
 ·have hx:x∉W/\x≠snd q:=⟨fun z=>k1 (qAs _ z),fun z=>k1 (by rw [z];simp)⟩;refine qAs _ (b.cl x ?_ hx.1 k2 y hy);rcases h with z| z
  ·exact .inl z
  ·rcases qAQ.mp z with y| y
   ·exact .inr y
   ·exact absurd (qAP.mp y) hx.2
 ·rcases b.here with y| y
  ·exact .inl y
  ·exact .inr (qAs _ y)
 ·rw [zAi e] at k1;rcases qAQ.mp k1 with z| z
  ·exact qAs _ (b.part q' z k2)
  ·rw [qAP.mp z];simp
 ·have:=zBi nd sub;have:=b.cap;simp only [qAf,qBN] at *
  lia
theorem BJ.done {c:Nat} {W:List Str} (b:BJ qs ns n x0 qs.length c B W) (hc:c<=41):BI qs ns n B W :=
 ⟨b.nd,b.sub,b.way,b.wl,fun x h1 h2 y hy=>by
  by_cases z:x=x0
  ·obtain ⟨q,q1,q2,q3⟩:=hy;rw [<-q3];exact b.part q (by rw [qAj];exact q1) (q2.trans z)
  ·exact b.cl x h1 h2 z y hy,qAW b.cap hc⟩
theorem BI.all (b:BI qs ns n B []) (x:Str):x∈B↔Way qs n x:=by
 refine ⟨b.way x,fun h=>?_⟩
 induction h with
 | one h=>exact b.cl n (.inl rfl) (by simp) _ h
 | more _ h ih=>exact b.cl _ (.inr ih) (by simp) _ h
theorem ne_nil_is {K:PySem.W.Frag} {c e:Addr} {xs:List V} {Q:VK} (h1:SqL K H c xs) (h2:SqL K H e []) (h:Q (.bl (decide (xs≠[]))) H):zH7 K 8 false (.ref c) (.ref e) H Q\/zH6 K true (.ref c) (.ref e) H Q:=by
 by_cases z:xs=[]
 ·subst z;exact .inl ⟨c,e,_,_,rfl,rfl,h1,h2,rfl,(fun i x y h=>by simp at h),h⟩
 ·rw [qAR z] at h;exact .inr ⟨c,e,_,_,rfl,rfl,h1,h2,fun y=>z (qCY.mp y),h⟩
def szAt (H:Hp) (a:Addr):Nat:=match H a with
 | some (.lst xs)=>xs.length
 | some (.dK kvs)=>kvs.length
 | _=>0
theorem szAt_lst {a:Addr} {xs:List V} (h:H a=some (.lst xs)):szAt H a=xs.length:=by unfold szAt;rw [h]
theorem szAt_dK {a:Addr} {kvs:List (Key×V)} (h:H a=some (.dK kvs)):szAt H a=kvs.length:=by unfold szAt;rw [h]
theorem zGp (B:List Str) (x:Str) (g:Str->V):dT1 (B++[x]) g=dT1 B g++[(.inr x,g x)]:=by unfold dT1;rw [qAU];rfl
theorem zF0 (B:List Str) (g:Str->V):(dT1 B g).length=B.length:=by unfold dT1;rw [qAD]
structure DR (H:Hp) (d:Addr) (ns:List Str) (la:Str->Addr) (L:Str->List Str):Prop where
 top:H d=some (.dK (dT1 ns fun n=>.ref (la n)))
 row:∀n∈ns,SetD H (la n) (L n)
theorem DS.rd {la:Str->Addr} {L:Str->List Str} (D:DS H0 H d ns la L):DR H d ns la L:=⟨D.top,D.row⟩
theorem DR.kp0 {la:Str->Addr} {L:Str->List Str} (D:DR H d ns la L) (k:Kp [] H H'):DR H' d ns la L:=⟨k d _ D.top (by simp),fun n hn=>k _ _ (D.row n hn) (by simp)⟩
theorem DR.get {la:Str->Addr} {L:Str->List Str} (D:DR H d ns la L) {y:Str} (hy:y∈ns):DGet H d (.str y) (some (.ref (la y))):=by
 have:=DGet.k (k:=Sum.inr y) D.top;rw [zBb,qAC hy] at this;exact this
section
def spLBehind:Sp:=fun vs H Q _=>∃(l m:Addr) (ns:List Str) (qs:List (List Str×Addr)),vs=[.ref l,.ref m]/\Txs H l ns/\Ords H m qs/\ns.Nodup/\ns.length<=20/\qs.length<=306/\(∀q∈qs,∀x∈q.1,x∈ns) /\
 ∀d la L H',DS H H' d ns la L->(∀n∈ns,(L n).Nodup/\∀x,x∈L n↔Way qs n x)->Kp [] H H'->Q (.ref d) H'
abbrev zIr:Stmt:=top 49
theorem zCl:FnScope ["_law_names_here", "_law_orders", "_law_found", "_law_name", "_law_waiting", "_law_here", "_law_one", "_law_other"] ["_law_names_here", "_law_orders"] (zAd zIr):=fnS
theorem ok_behind (F:Fun K "_law_behind" "_law_behind" zIr f fd) (_T:Txt K mg):FnOk P w K mg base CX0 1 f fd ["_law_names_here", "_law_orders"] spLBehind:=by
 refine F.ok zCl (fun vs H Q E h=>?_) (fun cdv A outer s H vs Q E hr h=>?_)
 ·obtain ⟨l,m,ns,qs,rfl,_⟩:=h;rfl
 ·obtain ⟨l,m,ns,qs,rfl,hl,hm,hN,hn,hz,hq,k⟩:=h;have hu:=zDq hr
  refine ⟨_,(zAc (psS (i:=2) zCl.nd zB9)
   (zAc (zAu qAg rfl (zAk (pv 0)) (pgN (i:=3) zCl.nd)
    (zAc (zC2 hu (pv 2) (pv 3) zB9 rfl)
    (zAc (psS (i:=4) zCl.nd (zA7 (zAa (pv 3) zAb)))
    (zAe (zFf qAg (zAs (zIt hr) (pv 4) (zA7 zAb) (zAz _))
     (zAc (psS (i:=5) zCl.nd (pe_bm0 qAw PySem.F.slot_list_pop PySem.F.type_list_pop mt_pop (pv 4)))
     (zAe (zAu qAg rfl (zAk (pv 1)) (zH8 rfl (zA1 (pgN (i:=6) zCl.nd) (zA1 (pgN (i:=7) zCl.nd) zD4)))
      (zAe (zCc (PW.pt (pw_and (zAs op_eq (pv 6) (pv 5) (zAz _)) (pw_and1 (zFe (zD5 hu (pv 7) (zA4 hu (pv 2) (pv 3) (fun _ _=>rfl)))))))
       (zAc (zC2 hu (zA4 hu (pv 2) (pv 3) (fun _ _=>rfl)) (pv 7) pe_bl rfl)
       (zAe (zAr (zDm qAw qBj qBk zBl (pv 4) (zAa (pv 7) zAb)))))
       zAq))))))))))
   (zAe (zAo (pv 2))))),?_⟩
  refine fun d hd=>?_;have fd:Fre H d:=hd
  refine ⟨_,rfl,_,rfl,⟨_,SqL.of ((Kp.new (M:=[]) Kp.refl fd) l _ hl (by simp))⟩,zAv (fun i σ H2=>(∃o3 o4 o5 o6 o7:Option V,σ=[some (.ref l),some (.ref m),some (.ref d),o3,o4,o5,o6,o7])/\Kp [] H H2/\∃la L,DS H H2 d (ns.take i) la L/\∀n∈ns.take i,(L n).Nodup/\∀x,x∈L n↔Way qs n x)
   ⟨⟨_,_,_,_,_,rfl⟩,Kp.new Kp.refl fd,fun _=>0,fun _=>[],⟨upd_same,(fun n h=>nomatch h),(fun n h=>nomatch h),fd,(fun n h=>nomatch h)⟩,(fun n h=>nomatch h)⟩ (fun i σ H2 _ ⟨_,k2,_⟩=>SqL.of (k2 l _ hl (by simp))) ?_ ?_⟩
  ·rintro i0 v σ H2 hv ⟨⟨o3,o4,o5,o6,o7,rfl⟩,k2,la,L,D,hL⟩;obtain ⟨n,en,rfl⟩:=zA2 hv;have mn:=qAL en;have ni:=zEm hN en;refine fun b hb=>?_;have fb:Fre H2 b:=hb;have ndb:d≠b:=ne_fre fb D.top;have fbH:Fre H b:=k2.fre fb (by simp);refine ⟨_,rfl,_,rfl,_,_,rfl,DPut.k (k:=Sum.inr n) ((upd_ne ndb).trans D.top) ?_,?_⟩
   ·rw [zF0,qAX,qAM];lia
   rw [zDl _ ni];refine ⟨_,rfl,(by walk_at "ln"),fun wa hwa=>?_⟩;have k3:Kp [] H (upd (upd H2 b (.dK [])) d (.dK (dT1 (ns.take i0) (fun n=>.ref (la n))++[(.inr n,.ref b)]))):=Kp.new (Kp.new k2 fbH) fd;have hd3:(upd (upd H2 b (.dK [])) d (.dK (dT1 (ns.take i0) (fun n=>.ref (la n))++[(.inr n,.ref b)]))) d=some (.dK (dT1 (ns.take i0) (fun n=>.ref (la n))++[(.inr n,.ref b)])):=upd_same;have hb3:(upd (upd H2 b (.dK [])) d (.dK (dT1 (ns.take i0) (fun n=>.ref (la n))++[(.inr n,.ref b)]))) b=some (.dK []):=(upd_ne ndb.symm).trans upd_same
   have hs3:∀x∈ns.take i0,SetD (upd (upd H2 b (.dK [])) d (.dK (dT1 (ns.take i0) (fun n=>.ref (la n))++[(.inr n,.ref b)]))) (la x) (L x):=fun x hx =>
    (upd_ne (D.ne x hx)).trans ((upd_ne (ne_fre fb (D.row x hx))).trans (D.row x hx))
   have nlb:∀x∈ns.take i0,la x≠b:=fun x hx=>ne_fre fb (D.row x hx);generalize upd (upd H2 b (.dK [])) d (.dK (dT1 (ns.take i0) (fun n=>.ref (la n))++[(.inr n,.ref b)]))=H3 at k3 hd3 hb3 hs3 hwa ⊢;have fw:Fre H3 wa:=hwa;have k4:Kp [] H3 (upd H3 wa (.lst [.str n])):=Kp.new Kp.refl fw;have hw4:Txs (upd H3 wa (.lst [.str n])) wa [n]:=upd_same;have nwb:b≠wa:=ne_fre fw hb3;have nwd:d≠wa:=ne_fre fw hd3;have fwH:Fre H wa:=k3.fre fw (by simp);generalize upd H3 wa (.lst [.str n])=H4 at k4 hw4 ⊢;have hb4:SetD H4 b []:=k4 b _ hb3 (by simp);have hd4:=k4 d _ hd3 (by simp);have k04:=k3.trans k4
   refine zE7 (fun σ H5=>(∃o5 o6 o7:Option V,σ=[some (.ref l),some (.ref m),some (.ref d),some (.str n),some (.ref wa),o5,o6,o7])/\Kp [b,wa] H4 H5/\∃B W,SetD H5 b B/\Txs H5 wa W/\BI qs ns n B W) (fun _ H5=>2*(20 - szAt H5 b)+szAt H5 wa)
    ⟨⟨_,_,_,rfl⟩,Kp.refl,[],[n],hb4,hw4,BI.start⟩ ?_ (fun σ H Q Q' hq hc=>?_)
   ·rintro σ H5 ⟨⟨o5',o6',o7',rfl⟩,k5,B,W,hB,hW,I5⟩;refine ⟨_,rfl,(by walk_at "ln"),fun e he=>?_⟩;have fe:Fre H5 e:=he;have k5e:Kp [] H5 (upd H5 e (.lst [])):=Kp.new Kp.refl fe;have hB6:SetD (upd H5 e (.lst [])) b B:=k5e b _ hB (by simp);have hW6:Txs (upd H5 e (.lst [])) wa W:=k5e wa _ hW (by simp);have hE6:(upd H5 e (.lst [])) e=some (.lst []):=upd_same;have k46:Kp [b,wa] H4 (upd H5 e (.lst [])):=fun c o h z=>k5e c o (k5 c o h z) (by simp);generalize upd H5 e (.lst [])=H6 at k5e hB6 hW6 hE6 k46 ⊢;refine ne_nil_is (SqL.of hW6) (SqL.of hE6) ?_;refine ⟨_,rfl,ite2 (fun c=>?_) (fun c=>?_)⟩
    ·obtain ⟨W0,x0,rfl⟩:∃W0 x0,W=W0++[x0]:=by
      have:W≠[]:=fun z=>by rw [z] at c;exact absurd c (by decide)
      exact ⟨W.dropLast,W.getLast this,(List.dropLast_concat_getLast this).symm⟩
     have eW:(W0++[x0]).map V.str=W0.map V.str++[.str x0]:=by rw [qAU];rfl
     have hW6:H6 wa=some (.lst (W0.map V.str++[.str x0])):=by rw [<-eW];exact hW6
     have hBl:=zBi I5.nd I5.sub;have cap0:=I5.cap;rw [qAf,qBN] at cap0;refine ⟨_,rfl,.inl ⟨rfl,_,SqL.of hW6⟩,_,_,.str x0,rfl,rfl,hW6,(by simp),?_⟩;rw [List.dropLast_concat];have k7:Kp [b,wa] H4 (upd H6 wa (.lst (W0.map V.str))):=Kp.put k46 (by simp);have hW7:Txs (upd H6 wa (.lst (W0.map V.str))) wa W0:=upd_same;have hB7:SetD (upd H6 wa (.lst (W0.map V.str))) b B:=(upd_ne nwb).trans hB6;generalize upd H6 wa (.lst (W0.map V.str))=H7 at k7 hW7 hB7 ⊢;have hm4:=hm.kp k04 (by simp) (by simp);have nmb:∀{c:Addr} {o:HO},H c=some o->c∉[b,wa]:=fun h=>nm2 (ne_fre fbH h) (ne_fre fwH h);have hm7:H7 m=some (.lst (qs.map fun q=>V.ref q.2)):=k7 m _ hm4.top (nmb hm.top)
     refine ⟨_,rfl,_,rfl,⟨_,SqL.of hm7⟩,zAv (fun i σ H8=>(∃o6 o7:Option V,σ=[some (.ref l),some (.ref m),some (.ref d),some (.str n),some (.ref wa),some (.str x0),o6,o7])/\Kp [b,wa] H4 H8/\∃B' W',SetD H8 b B'/\Txs H8 wa W'/\BJ qs ns n x0 i (W0.length+2*(20 - B.length)) B' W')
      ⟨⟨_,_,rfl⟩,k7,B,W0,hB7,hW7,I5.pop⟩ (fun i σ H8 _ ⟨_,k8,_⟩=>SqL.of (k8 m _ hm4.top (nmb hm.top))) ?_ ?_⟩
     ·rintro i v σ H8 hv ⟨⟨o6,o7,rfl⟩,k8,B',W',hB8,hW8,J8⟩;obtain ⟨q,eq,rfl⟩:=ref_at hv;have mq:=qAL eq;obtain ⟨x,y,exy⟩:=hm.two q mq
      have hrow:H8 q.2=some (.tup [.str x,.str y]):=by
       have:=k8 q.2 _ (hm4.row q mq) (nmb (hm.row q mq));rw [exy] at this;exact this
      have e1:fst q=x:=by unfold fst;rw [exy];rfl
      have e2:snd q=y:=by unfold snd;rw [exy];rfl
      have hy:y∈ns:=hq q mq y (by rw [exy];simp);have hd8:H8 d=some (.dK (dT1 (ns.take i0) (fun n=>.ref (la n))++[(.inr n,.ref b)])):=k8 d _ hd4 (nm2 ndb nwd)
      have gd:∀{Hx:Hp},Hx d=some (.dK (dT1 (ns.take i0) (fun n=>.ref (la n))++[(.inr n,.ref b)]))->DGet Hx d (.str n) (some (.ref b)):=fun h=>by
       have h1:=DGet.k (k:=Sum.inr n) h
       have h2:valV (dT1 (ns.take i0) (fun n=>V.ref (la n))++[(Sum.inr n,V.ref b)]) (Sum.inr n:Key)=some (.ref b):=by
        have h3:dT1 (ns.take i0) (fun n=>V.ref (la n))++[(Sum.inr n,V.ref b)]=dT1 (ns.take i0++[n]) (fun x=>V.ref (if x=n then b else la x)):=by
         rw [zGp,qAC rfl];congr 1;exact zEf fun x hx=>by rw [qAB (show¬x=n from fun z=>ni (z▸hx))]
        rw [h3,zBb,qAC (by simp),qAC rfl]
       rw [h2] at h1;exact h1
      refine ⟨_,_,rfl,.inl (.inl hrow),rfl,_,_,rfl,_,_,rfl,rfl,?_⟩;obtain ⟨o,g1,g2⟩:=zGw hB8 y;refine ⟨_,rfl,_,rfl,rfl,_,rfl,ite2 (fun c1=>?_) (fun c1=>?_)⟩
      ·have c1':x=x0:=by simpa using c1
       refine ⟨_,rfl,_,rfl,_,rfl,_,_,rfl,gd hd8,_,o,rfl,g1,_,rfl,?_⟩;rw [g2];refine ite2 (fun c2=>?_) (fun c2=>?_)
       ·have c2':y∉B':=by simpa using c2
        refine ⟨_,rfl,_,rfl,_,_,rfl,gd hd8,_,rfl,_,_,rfl,DPut.k (k:=Sum.inr y) hB8 ?_,?_⟩
        ·have:=zBi J8.nd J8.sub;rw [zF0,qAM];lia
        rw [zDl _ c2',<-zGp B' y fun _=>.bl true];have hW9:Txs (upd H8 b (.dK (dT1 (B'++[y]) fun _=>.bl true))) wa W':=(upd_ne nwb.symm).trans hW8;refine ⟨_,rfl,.inl ⟨rfl,_,SqL.of hW9⟩,_,rfl,_,_,_,rfl,rfl,hW9,?_,?_⟩
        ·have:=J8.cap;rw [qAD,qAM];lia
        ·refine ⟨⟨_,_,rfl⟩,Kp.put (Kp.put k8 (by simp)) (by simp),B'++[y],W'++[y],(upd_ne nwb).trans upd_same,?_,by rw [<-e2];exact J8.add eq (e1.trans c1') (by rw [e2];exact c2') (by rw [e2];exact hy) hn⟩;show upd _ wa _ wa=some (.lst ((W'++[y]).map V.str));rw [upd_same,qAU];rfl
       ·have c2':y∈B':=by simpa using c2
        exact ⟨⟨_,_,rfl⟩,k8,B',W',hB8,hW8,J8.skip eq fun _=>by rw [e2];exact c2'⟩
      ·have c1':x≠x0:=fun z=>c1 (by simpa using z);exact ⟨⟨_,_,rfl⟩,k8,B',W',hB8,hW8,J8.skip eq fun z=>absurd (e1.symm.trans z) c1'⟩
     ·rintro σ H8 ⟨⟨o6,o7,rfl⟩,k8,B',W',hB8,hW8,J8⟩;rw [qAD] at J8;refine ⟨⟨⟨_,_,_,rfl⟩,k8,B',W',hB8,hW8,J8.done (by lia)⟩,?_⟩;have:=J8.cap;have s1:szAt H8 b=B'.length:=by rw [szAt_dK hB8,zF0]
      have s2:szAt H8 wa=W'.length:=by rw [szAt_lst hW8,qAD]
      have s3:szAt H5 b=B.length:=by rw [szAt_dK hB,zF0]
      have s4:szAt H5 wa=W0.length+1:=by rw [szAt_lst hW,qAD,qAf];rfl
      show 2*(20 - szAt H8 b)+szAt H8 wa<2*(20 - szAt H5 b)+szAt H5 wa;rw [s1,s2,s3,s4];lia
    ·have eW:W=[]:=by
      cases W with
      | nil=>rfl
      | cons _ _=>exact absurd (qAR (by simp)) c
     subst eW;have k6:Kp [] H H6:=fun c o h _=>k46 c o (k04 c o h (by simp)) (nm2 (ne_fre fbH h) (ne_fre fwH h));have hd6:=k46 d _ hd4 (nm2 ndb nwd);have et:=zAi en;refine ⟨⟨_,_,_,_,_,rfl⟩,k6,fun x=>if x=n then b else la x,fun x=>if x=n then B else L x,?_,fun x hx=>?_⟩
     ·have cs:∀x,x∈ns.take (i0+1)->(x∈ns.take i0/\x≠n)\/x=n:=fun x h=>by
       rw [et] at h;rcases qAQ.mp h with z| z
       ·exact .inl ⟨z,fun y=>ni (y▸z)⟩
       ·exact .inr (qAP.mp z)
      refine ⟨?_,fun x hx=>?_,fun x hx=>?_,D.fr,fun x hx=>?_⟩
      ·rw [hd6,et,zGp,qAC rfl];congr 3;exact zEf fun x hx=>by rw [qAB (show¬x=n from fun z=>ni (z▸hx))]
      ·rcases cs x hx with ⟨z1,z2⟩| z
       ·show SetD H6 (if x=n then b else la x) (if x=n then B else L x);rw [qAB z2,qAB z2];have h3:=hs3 x z1;exact k46 _ _ (k4 _ _ h3 (by simp)) (nm2 (nlb x z1) (ne_fre fw h3))
       ·show SetD H6 (if x=n then b else la x) (if x=n then B else L x);rw [qAC z,qAC z];exact hB6
      ·rcases cs x hx with ⟨z1,z2⟩| z
       ·show (if x=n then b else la x)≠d;rw [qAB z2];exact D.ne x z1
       ·show (if x=n then b else la x)≠d;rw [qAC z];exact ndb.symm
      ·rcases cs x hx with ⟨z1,z2⟩| z
       ·show Fre H (if x=n then b else la x);rw [qAB z2];exact D.frs x z1
       ·show Fre H (if x=n then b else la x);rw [qAC z];exact fbH
     ·show (if x=n then B else L x).Nodup/\∀y,y∈(if x=n then B else L x)↔_
      by_cases z:x=n
      ·rw [qAC z,z];exact ⟨I5.nd,I5.all⟩
      ·rw [qAB z];rw [et] at hx;rcases qAQ.mp hx with z'| z'
       ·exact hL x z'
       ·exact absurd (qAP.mp z') z
   ·obtain ⟨x,e,h1,h2⟩:=hc;refine ⟨x,e,h1,fun l hl=>?_⟩;rcases h2 l hl with ⟨a,c,xs,ys,q1,q2,q3,q4,q5,q6,b,q7,q8⟩| ⟨a,c,xs,ys,q1,q2,q3,q4,q5,b,q7,q8⟩
    ·exact .inl ⟨a,c,xs,ys,q1,q2,q3,q4,q5,q6,b,q7,hq _ _ q8⟩
    ·exact .inr ⟨a,c,xs,ys,q1,q2,q3,q4,q5,b,q7,hq _ _ q8⟩
  ·rintro σ H2 ⟨⟨o3,o4,o5,o6,o7,rfl⟩,k2,la,L,D,hL⟩;have eT:ns.take (ns.map V.str).length=ns:=by rw [qAD,qAj]
   rw [eT] at D hL;exact ⟨_,rfl,k d la L H2 D hL k2⟩
end
theorem kit_ib {K:PySem.W.Frag}:PySem.W.kitOne K (.type "int") (.type "bool")=some false:=by rfl
section
def spOneOf:Sp:=fun vs H Q _=>∃(x:Str) (l:Addr) (ns:List Str),vs=[.str x,.ref l]/\Txs H l ns/\Q (.bl (decide (x∈ns))) H
theorem ok_one_of (F:Fun K "is_one_of" "is_one_of" zDh f fd) (T:Txt K mg):FnOk P w K mg base CX0 1 f fd ["thing", "names"] spOneOf:=by
 refine F.ok zF5 (fun vs H Q E h=>?_) (fun cdv A outer s H vs Q E hr h=>?_)
 ·obtain ⟨v,l,ns,rfl,_⟩:=h;rfl
 ·obtain ⟨x,l,ns,rfl,hl,k⟩:=h;refine ⟨_,(zAe (zAo (pe_and (zAh zCa (by rfl) T.z_isinstance zAp (zAa (pv 0) (zAa (zC3 (by rfl) T.z_str bo_str (v:=.ty "str") rfl) zAb))) (pe_one (zCq zFk (pv 0) (pv 1) (by rfl)))))),?_⟩;refine ⟨_,rfl,_,_,_,_,rfl,TyOf.str x,zCi,_,rfl,iteT ?_⟩;refine ⟨_,rfl,_,rfl,_,_,rfl,.inl (SqL.of hl),rfl,zDb ns,?_⟩;rw [qAB (by decide),zFv];exact k
def spWhole:Sp:=fun vs H Q _=>∃n:Int,vs=[.int n]/\Q (.bl true) H
abbrev zFr:Stmt:=top 13
theorem sc_is_whole:FnScope ["thing"] ["thing"] (zAd zFr):=fnS
theorem ok_is_whole (F:Fun K "is_whole" "is_whole" zFr f fd) (T:Txt K mg):FnOk P w K mg base CX0 1 f fd ["thing"] spWhole:=by
 refine F.ok sc_is_whole (fun vs H Q E h=>?_) (fun cdv A outer s H vs Q E hr h=>?_)
 ·obtain ⟨n,rfl,_⟩:=h;rfl
 ·obtain ⟨n,rfl,k⟩:=h;refine ⟨_,(zAe (zAo (pe_and (zAh zCa (by rfl) T.z_isinstance zAp (zAa (pv 0) (zAa (zC3 (by rfl) T.z_int bo_int (v:=.ty "int") rfl) zAb))) (pe_one (pe_not (zAh zCa (by rfl) T.z_isinstance zAp (zAa (pv 0) (zAa (zC3 (by rfl) T.z_bool bo_bool (v:=.ty "bool") rfl) zAb)))))))),?_⟩;exact ⟨_,rfl,_,_,_,_,rfl,TyOf.int n,zCi,_,rfl,iteT ⟨_,rfl,_,_,_,_,rfl,TyOf.int n,kit_ib,_,rfl,k⟩⟩
def spBench:Sp:=fun vs H Q _=>∃b:Int,vs=[.int b]/\1<=b/\Q .non H
abbrev zCm:Stmt:=top 16
theorem zGb:FnScope ["benches"] ["benches"] (zAd zCm):=fnS
theorem zGe (F:Fun K "check_benches" "check_benches" zCm f fd) (C_is_whole:Cal P w K mg base "is_whole" 1 ["thing"] spWhole):FnOk P w K mg base CX0 2 f fd ["benches"] spBench:=by
 refine F.ok zGb (fun vs H Q E h=>?_) (fun cdv A outer s H vs Q E hr h=>?_)
 ·obtain ⟨n,rfl,_⟩:=h;rfl
 ·obtain ⟨n,rfl,h1,k⟩:=h
  refine ⟨_,(zAe (zCc (PW.pt (zHr (zCw (zCg (zAg C_is_whole hr rfl (zAa (pv 0) zAb)))) (zEs (zAs op_lt (pv 0) zAf (zAz _)))))
    (zAe zAy)
    zAq)),?_⟩
  refine ⟨_,rfl,n,rfl,_,rfl,iteF ⟨_,rfl,_,_,rfl,rfl,_,rfl,?_⟩⟩;rw [qAb (by lia)];exact iteF k
def rdyB (J:JR) (A:List Str) (n:Str):Bool:=(J.ns.filter fun m=>decide (m∈J.S n)).all fun m=>decide (m∈A)
def spReady (C:Addr):Sp:=fun vs H Q _=>∃(j d:Addr) (J:JR) (A:List Str) (n:Str),vs=[.ref j,.ref d,.str n]/\JobsAt C H j J/\SetD H d A/\n∈J.ns/\∀H',Kp [] H H'->Q (.bl (rdyB J A n)) H'
abbrev zEk:Stmt:=top 19
theorem sc_is_ready:FnScope ["jobs", "earlier", "name"] ["jobs", "earlier", "name"] (zAd zEk):=fnS
theorem ok_is_ready (F:Fun K "is_ready" "is_ready" zEk f fd) (T:Txt K mg) (U:JC K mg C) (M_ahead:Mth P w K mg base C "ahead" 3 ["self", "name"] (spAhead C)):FnOk P w K mg base CX0 4 f fd ["jobs", "earlier", "name"] (spReady C):=by
 refine F.ok sc_is_ready (fun vs H Q E h=>?_) (fun cdv A outer s H vs Q E hr h=>?_)
 ·obtain ⟨j,d,J,A,n,rfl,_⟩:=h;rfl
 ·obtain ⟨j,d,J,D0,n,rfl,A0,hd,hn,k⟩:=h;have hu:=zDq hr;refine ⟨_,(zAe (zAo (zAh (zGq _ rfl) (by rfl) T.z_all bo_all (zAa (zBj rfl (zBn (sc:=zAd zEk) rfl (by decide +kernel)) (Draws.own (x:= "one") (dtk (i:=1) rfl Draws.nil)) (zAk (zGn M_ahead U.cl hr (pv 0) (zAa (pv 2) zAb))) (fun _ _ _ _=>(pgB (i:=0))) (fun _ _ _ _=>zC1) (fun _ _ _ _=>(pe_cmp (zG2 hu (pv 0) (pv 1))))) zAb)))),?_⟩;refine ⟨_,rfl,j,J.dx,_,rfl,A0.ob,jf_no _ _ _ (by decide +kernel) (by decide +kernel) (by decide +kernel),_,rfl,j,J,n,rfl,A0,hn,fun a H1 fa h1 k1=>?_⟩;have hd1:=k1 d _ hd (by simp);have hml:(J.ns.filter fun m=>decide (m∈J.S n)).length<=20:=qAW (qBH _ _) A0.few;have ek:rdyB J D0 n=(J.ns.filter fun m=>decide (m∈J.S n)).all fun m=>decide (m∈D0):=rfl;rw [ek] at k;generalize (J.ns.filter fun m=>decide (m∈J.S n))=ms at h1 hml k;refine ⟨_,rfl,⟨_,SqL.of h1⟩,fun B hB=>zBg (ms.map V.str) (fun i ys τ H'=>(∃o0,τ=[o0,some (.ref d)])/\ys=((ms.take i).map fun m=>V.bl (decide (m∈D0)))/\H'=upd H1 B (.lst ys)) ⟨⟨_,rfl⟩,rfl,rfl⟩ (fun i ys τ H' ⟨_,_,e⟩=>by subst e;exact SqL.of ((upd_ne (ne_fre (show Fre H1 B from hB) h1)).trans h1)) ?_ ?_⟩
  ·rintro i v ys τ H' hv ⟨⟨o0,rfl⟩,rfl,rfl⟩;obtain ⟨m,em,rfl⟩:=zA2 hv;refine ⟨_,rfl,_,rfl,_,_,rfl,DGet.k (k:=Sum.inr m) ((upd_ne (ne_fre (show Fre H1 B from hB) hd1)).trans hd1),upd_same,?_,⟨_,rfl⟩,?_,zCf⟩
   ·rw [qAD,qAX,qAM];lia
   ·rw [zAi em,qAU,zEd];rfl
  ·rintro ys τ H' ⟨_,rfl,rfl⟩;have eM:ms.take (ms.map V.str).length=ms:=by rw [qAD,qAj]
   refine ⟨B,ms.map fun m=>decide (m∈D0),rfl,SqL.of ?_,?_⟩
   ·rw [upd_same,eM,qBV];rfl
   ·rw [qDG];exact k _ (Kp.new k1 (k1.fre hB (by simp)))
theorem zHe:∀(B A:List Str),(B.foldl addA A).length<=A.length+B.length
 | [],A=>by simp
 | b::B,A=>by
  have h1:=zHe B (addA A b)
  have h2:(addA A b).length<=A.length+1:=by
   unfold addA;split
   ·lia
   ·simp
  rw [qBa,qAe];lia
def spPTake:Sp:=fun vs H Q _=>∃(d l:Addr) (A ws:List Str),vs=[.ref d,.ref l]/\SetD H d A/\Txs H l ws/\A.length+ws.length<=4096/\∀H',SetD H' d (ws.foldl addA A)->Kp [d] H H'->Q .non H'
abbrev s_ptake:Stmt:=top 20
theorem sc_ptake:FnScope ["taken", "row", "name"] ["taken", "row"] (zAd s_ptake):=fnS
theorem ok_ptake (F:Fun K "take" "take" s_ptake f fd):FnOk P w K mg base CX0 1 f fd ["taken", "row"] spPTake:=by
 refine F.ok sc_ptake (fun vs H Q E h=>?_) (fun cdv A outer s H vs Q E hr h=>?_)
 ·obtain ⟨d,l,A,ws,rfl,_⟩:=h;rfl
 ·obtain ⟨d,l,D0,ws,rfl,hd,hl,hz,k⟩:=h;have hu:=zDq hr
  have ndl:l≠d:=fun z=>by
   have h2:H d=some (.lst (ws.map V.str)):=by rw [<-z];exact hl
   rw [show H d=_ from hd] at h2
   cases h2
  refine ⟨_,(zAe (zAu qAg rfl (zAk (pv 1)) (pgN (i:=2) sc_ptake.nd)
    (zAe (zC2 hu (pv 0) (pv 2) pe_bl rfl)))),?_⟩
  refine ⟨_,rfl,_,rfl,⟨_,SqL.of hl⟩,zAv (xs:=ws.map V.str) (fun i σ H2=>(∃o2,σ=[some (.ref d),some (.ref l),o2])/\SetD H2 d ((ws.take i).foldl addA D0)/\Kp [d] H H2) ⟨⟨_,rfl⟩,hd,Kp.refl⟩ (fun i σ H2 _ ⟨_,_,k2⟩=>SqL.of (k2 l _ hl (nm1 ndl))) ?_ ?_⟩
  ·rintro i v σ H2 hv ⟨⟨o2,rfl⟩,h2,k2⟩;obtain ⟨m,em,rfl⟩:=zA2 hv;have hlf:=zHe (ws.take i) D0;rw [qAX] at hlf;refine ⟨_,rfl,_,rfl,_,_,rfl,DPut.k (k:=Sum.inr m) h2 (by rw [qAD,qAM];lia),?_⟩;refine ⟨⟨_,rfl⟩,?_,Kp.put k2 (by simp)⟩;rw [put_set,zAi em,qDI];exact upd_same
  ·rintro σ H2 ⟨_,h2,k2⟩;rw [qAD,qAj] at h2;exact k H2 h2 k2
end
theorem rise_one:∀{xs ys:List Str},RiseS xs->RiseS ys->xs.Perm ys->xs=ys
 | [],ys,_,_,p=>by rw [List.nil_perm.mp p]
 | x::xs,ys,h1,h2,p=>by
  cases ys with
  | nil=>exact absurd p (by simp)
  | cons y ys =>
   obtain ⟨a1,a2⟩:=qBe.mp h1;obtain ⟨b1,b2⟩:=qBe.mp h2
   have ex:x=y:=by
    rcases qAO.mp (p.mem_iff.mp qAS) with z| z
    ·exact z
    rcases qAO.mp (p.mem_iff.mpr (qAS (a:=y) (l:=ys))) with z'| z'
    ·exact z'.symm
    ·rcases ST.sg_tri x y with q| q| q
     ·exact absurd q (b1 x z)
     ·exact q
     ·exact absurd q (a1 y z')
   subst ex;rw [rise_one a2 b2 (List.Perm.cons_inv p)]
section
def zH4:Sp:=fun vs H Q _=>∃(l m:Addr) (ns ws:List Str),vs=[.ref l,.ref m]/\Txs H l ns/\ns.length<=20/\Txs H m ws/\ws.Perm ns/\∀H',Kp [] H H'->Q .non H'
abbrev zDi:Stmt:=top 22
theorem sc_check_row:FnScope ["names", "row"] ["names", "row"] (zAd zDi):=fnS
theorem ok_check_row (F:Fun K "check_row" "check_row" zDi f fd) (T:Txt K mg) (C_is_one_of:Cal P w K mg base "is_one_of" 1 ["thing", "names"] spOneOf):FnOk P w K mg base CX0 2 f fd ["names", "row"] zH4:=by
 refine F.ok sc_check_row (fun vs H Q E h=>?_) (fun cdv A outer s H vs Q E hr h=>?_)
 ·obtain ⟨l,m,ns,xs,rfl,_⟩:=h;rfl
 ·obtain ⟨l,m,ns,ws,rfl,hl,hn,hm,pm,k⟩:=h;have HR_is_one_of:=hr;have hwl:ws.length<=20:=by rw [pm.length_eq];exact hn
  refine ⟨_,(zAe (zCc (PW.pt (zHr (zCw (zCg (zAh (zGq _ rfl) (by rfl) T.z_all bo_all (zAa (zBj rfl (zBn (sc:=zAd zDi) rfl (by decide +kernel)) (Draws.own (x:= "thing") (dtk (i:=0) rfl Draws.nil)) (zAk (pv 1)) (fun _ _ _ _=>(pgB (i:=0))) (fun _ _ _ _=>zC1) (fun _ _ _ _=>(zAg C_is_one_of HR_is_one_of rfl (zAa (pv 0) (zAa (pv 1) zAb))))) zAb)))) (zEs (zAs (op_neS (hu0 hr)) (zAh zDy (by rfl) T.z_sorted zEh (zAa (pv 1) zAb)) (zAh zDy (by rfl) T.z_sorted zEh (zAa (pv 0) zAb)) (zAz _)))))
    (zAe zAy)
    zAq)),?_⟩
  refine ⟨_,rfl,_,rfl,⟨_,SqL.of hm⟩,fun B hB=>zBg (ws.map V.str) (fun i ys τ H'=>(∃o0,τ=[o0,some (.ref l)])/\ys=((ws.take i).map fun v=>V.bl (decide (v∈ns)))/\H'=upd H B (.lst ys)) ⟨⟨_,rfl⟩,rfl,rfl⟩ (fun i ys τ H' ⟨_,_,e⟩=>by subst e;exact SqL.of ((upd_ne (ne_fre (show Fre H B from hB) hm)).trans hm)) ?_ ?_⟩
  ·rintro i v ys τ H' hv ⟨⟨o0,rfl⟩,rfl,rfl⟩;obtain ⟨n,en,rfl⟩:=zA2 hv;have kB:Kp [] H (upd H B (.lst ((ws.take i).map fun v=>V.bl (decide (v∈ns))))):=Kp.new Kp.refl hB;refine ⟨_,rfl,_,rfl,n,l,ns,rfl,kB l _ hl (by simp),upd_same,?_,⟨_,rfl⟩,?_,zCf⟩
   ·rw [qAD,qAX,qAM];lia
   ·rw [zAi en,qAU];rfl
  ·rintro ys τ H' ⟨_,rfl,rfl⟩;have eM:ws.take (ws.map V.str).length=ws:=by rw [qAD,qAj]
   refine ⟨B,ws.map fun v=>decide (v∈ns),rfl,SqL.of ?_,?_⟩
   ·rw [upd_same,eM,qBV];rfl
   ·rw [eM]
    have ea:((ws.map fun v=>decide (v∈ns)).all id)=true:=by
     rw [qDG,qA6];exact fun x hx=>qAR (pm.mem_iff.mp hx)
    rw [ea];have kB:Kp [] H (upd H B (.lst (ws.map fun v=>V.bl (decide (v∈ns))))):=Kp.new Kp.refl hB;generalize upd H B (.lst (ws.map fun v=>V.bl (decide (v∈ns))))=H1 at kB;refine ⟨_,rfl,iteF ?_⟩;refine ⟨_,rfl,_,ws,rfl,SqL.of (kB m _ hm (by simp)),by lia,fun b zs hb p1 r1=>?_⟩;have fb:Fre H1 b:=hb;refine ⟨_,rfl,_,ns,rfl,SqL.of ((upd_ne (ne_fre fb (kB l _ hl (by simp)))).trans (kB l _ hl (by simp))),by lia,fun c yz hc p2 r2=>?_⟩;have fc:=(show Fre _ c from hc);refine ⟨_,_,zs,yz,rfl,rfl,SqL.of ((upd_ne (ne_fre fc upd_same)).trans upd_same),SqL.of upd_same,_,rfl,?_⟩;have K2:Kp [] H1 (upd (upd H1 b (.lst (zs.map V.str))) c (.lst (yz.map V.str))):=Kp.trans (Kp.new Kp.refl fb) (Kp.new Kp.refl fc);have e:zs=yz:=rise_one r1 r2 (p1.trans (pm.trans p2.symm));rw [qAC rfl,qAR e];exact iteF (k _ (kB.trans K2))
end
structure RowsAt (H0 H:Hp) (l:Addr) (as:List Addr) (rs:List (List Str)):Prop where
 top:H l=some (.lst (as.map V.ref))
 len:as.length=rs.length
 row:∀(i:Nat) (a:Addr) (r:List Str),as[i]?=some a->rs[i]?=some r->H a=some (.lst (r.map V.str))
 ne:∀a∈as,a≠l
 fr:Fre H0 l
 frs:∀a∈as,Fre H0 a
theorem RowsAt.mem {rs:List (List Str)} (R:RowsAt H0 H l as rs) {a:Addr} (h:a∈as):∃r,r∈rs/\H a=some (.lst (r.map V.str)):=by
 obtain ⟨i,hi,rfl⟩:=qA7.mp h;have hi':i<rs.length:=by rw [<-R.len];exact hi
 exact ⟨rs[i],qB7 hi',R.row i _ _ (by simp) (by simp)⟩
theorem RowsAt.kp {M:List Addr} {rs:List (List Str)} (R:RowsAt H0 H l as rs) (k:Kp M H H') (h1:l∉M) (h2:∀a∈as,a∉M):RowsAt H0 H' l as rs :=
 ⟨k l _ R.top h1,R.len,fun i a r e1 e2=>k a _ (R.row i a r e1 e2) (h2 a (qAL e1)),R.ne,R.fr,R.frs⟩
theorem RowsAt.nil (h:H l=some (.lst [])) (f:Fre H0 l):RowsAt H0 H l [] [] :=
 ⟨h,rfl,(fun i a r e=>by simp at e),(fun a h=>by simp at h),f,(fun a h=>by simp at h)⟩
theorem RowsAt.more {b:Addr} {rs:List (List Str)} {r:List Str} (R:RowsAt H0 H l as rs) (hb:H b=some (.lst (r.map V.str))) (n:b≠l) (f:Fre H0 b):RowsAt H0 (upd H l (.lst (as.map V.ref++[.ref b]))) l (as++[b]) (rs++[r]):=by
 refine ⟨by rw [upd_same];simp,by simp [R.len],fun i a q e1 e2=>?_,fun a h=>?_,R.fr,fun a h=>?_⟩
 ·by_cases hi:i<as.length
  ·rw [qB5 hi] at e1;rw [qB5 (by rw [<-R.len];exact hi)] at e2;rw [upd_ne (R.ne a (qAL e1))];exact R.row i a q e1 e2
  ·rw [qB4 (by lia)] at e1;rw [qB4 (by rw [<-R.len];lia)] at e2;have hl:=R.len
   have h0:i - as.length=0:=by
    have:=(qAV.mp e1).1;simp at this;lia
   rw [h0] at e1;rw [<-hl,h0] at e2;have e1:b=a:=by simpa using e1
   have e2:r=q:=by simpa using e2
   subst e1 e2;rw [upd_ne n];exact hb
 ·rcases qAQ.mp h with z| z
  ·exact R.ne a z
  ·have:a=b:=by simpa using z
   subst this;exact n
 ·rcases qAQ.mp h with z| z
  ·exact R.frs a z
  ·have:a=b:=by simpa using z
   subst this;exact f
def zCb (J:JR) (b:Nat) (A L:List Str):List Str:=(L.filter (rdyB J A)).take b
def zDo (J:JR) (b:Nat) (A L:List Str):List Str:=(zCb J b A L).foldl addA A
def zE2 (J:JR) (b:Nat) (A L:List Str):List Str:=L.filter fun n=>decide (n∉zDo J b A L)
def zDp (J:JR) (b:Nat):Nat->List Str->List Str->List (List Str)
 | 0,_,_=>[]
 | f+1,A,L=>if L=[] then [] else zCb J b A L::zDp J b f (zDo J b A L) (zE2 J b A L)
theorem zG9 (J:JR) (b f:Nat) (A:List Str):zDp J b f A []=[]:=by
 cases f with
 | zero=>rfl
 | succ f=>exact qAC rfl
structure ListI (J:JR) (r:Str->Nat) (A L:List Str):Prop where
 rk:∀n∈J.ns,∀x∈J.S n,r x<r n
 an:A.Nodup
 ai:∀n∈A,n∈J.ns
 li:∀n∈L,n∈J.ns
 al:∀n∈J.ns,n∈A\/n∈L
theorem ListI.turn {r:Str->Nat} {L:List Str} (I:ListI J r A L) {b:Nat} (hb:1<=b) (h:L≠[]):zCb J b A L≠[]:=by
 obtain ⟨n,n1,n2⟩:=zHg r L h
 have hr:rdyB J A n=true:=by
  unfold rdyB;rw [qA6];intro m hm;obtain ⟨m1,m2⟩:=qAY.mp hm;refine qAR ?_;rcases I.al m m1 with z| z
  ·exact z
  ·have h1:=n2 m z;have h2:=I.rk n (I.li n n1) m (qAi m2);lia
 have hn:n∈L.filter (rdyB J A):=qAY.mpr ⟨n1,hr⟩;unfold zCb
 cases e:L.filter (rdyB J A) with
 | nil=>rw [e] at hn;cases hn
 | cons x xs =>
  cases b with
  | zero=>lia
  | succ b=>simp
theorem zD1 {b:Nat} {L:List Str} (h:n∈zCb J b A L):n∈L:=(qAY.mp (qBt h)).1
theorem ListI.next {r:Str->Nat} {L:List Str} (I:ListI J r A L) (b:Nat):ListI J r (zDo J b A L) (zE2 J b A L) where
 rk:=I.rk
 an:=zDn _ _ I.an
 ai:=fun n hn=>by
  rcases (zBd _ _).mp hn with z| z
  ·exact I.ai n z
  ·exact I.li n (zD1 z)
 li:=fun n hn=>I.li n (qAY.mp hn).1
 al:=fun n hn=>by
  by_cases z:n∈zDo J b A L
  ·exact .inl z
  ·refine .inr (qAY.mpr ⟨?_,qAR z⟩);rcases I.al n hn with q| q
   ·exact absurd ((zBd _ _).mpr (.inl q)) z
   ·exact q
theorem ListI.less {r:Str->Nat} {L:List Str} (I:ListI J r A L) {b:Nat} (hb:1<=b) (h:L≠[]):(zE2 J b A L).length<L.length:=by
 cases e:zCb J b A L with
 | nil=>exact absurd e (I.turn hb h)
 | cons x xs =>
  have hx:x∈zCb J b A L:=by rw [e];exact qAS
  exact zHl (zD1 hx) (qAb fun z=>z ((zBd _ _).mpr (.inr hx)))
def zHf (i:Nat) (σ:St) (H:Hp):Nat:=match (σ[i]?:Option (Option V)) with
 | some (some (.ref a))=>match H a with
  | some (.lst xs)=>xs.length
  | _=>0
 | _=>0
section
def spListed (C:Addr):Sp:=fun vs H Q _=>∃(j m:Addr) (b:Int) (J:JR) (r:Str->Nat) (ws:List Str),vs=[.ref j,.int b,.ref m]/\JobsAt C H j J/\(∀n∈J.ns,∀x∈J.S n,r x<r n)/\Txs H m ws/\1<=b/\ws.Perm J.ns/\∀(pl:Addr) (as:List Addr) (H':Hp),RowsAt H H' pl as (zDp J b.toNat ws.length [] ws)->Kp [] H H'->Q (.ref pl) H'
abbrev zFa:Stmt:=top 21
theorem zCj:FnScope ["jobs", "benches", "row", "plan", "taken", "left", "ready", "turn"] ["jobs", "benches", "row"] (zAd zFa):=fnS
theorem ok_listed (F:Fun K "listed" "listed" zFa f fd) (T:Txt K mg) (U:JC K mg C) (M_names:Mth P w K mg base C "names" 1 ["self"] (zIh C)) (C_check_benches:Cal P w K mg base "check_benches" 2 ["benches"] spBench)
  (C_check_row:Cal P w K mg base "check_row" 2 ["names", "row"] zH4) (C_is_ready:Cal P w K mg base "is_ready" 4 ["jobs", "earlier", "name"] (spReady C)) (C_take:Cal P w K mg base "take" 1 ["taken", "row"] spPTake):FnOk P w K mg base CX0 5 f fd ["jobs", "benches", "row"] (spListed C):=by
 refine F.ok zCj (fun vs H Q E h=>?_) (fun cdv A outer s H vs Q E hr h=>?_)
 ·obtain ⟨j,m,b,J,r,ws,rfl,_⟩:=h;rfl
 ·obtain ⟨j,m,b,J,r,ws,rfl,A0,hrk,hm,hb,hp,k⟩:=h;have hu:=zDq hr;have hr2:=hr.mono (j:=2) (by decide);have hr1:=hr.mono (j:=1) (by decide);have HR_is_ready:Room 4 _:=hr
  refine ⟨_,(zAc (zAr (zAg C_check_benches hr2 rfl (zAa (pv 1) zAb)))
   (zAc (zAr (zAg C_check_row hr2 rfl (zAa (zFh M_names U.cl hr1 (pv 0)) (zAa (pv 2) zAb))))
   (zAc (psS (i:=3) zCj.nd (zA7 zAb))
   (zAc (psS (i:=4) zCj.nd zB9)
   (zAc (psS (i:=5) zCj.nd (zA3 zBt (by rfl) T.z_list zCr (zAa (pv 2) zAb)))
   (zAc (zFf qAg (zGl (pv 5) (fun _=>rfl))
    (zAc (zG0 (i:=6) rfl (zBn (sc:=zAd zFa) rfl (by decide +kernel)) (Draws.own (x:= "name") (dtk (i:=0) rfl (dtk (i:=4) rfl Draws.nil))) (zAk (pv 5)) (fun _ _ _ _=>(pgB (i:=0))) (fun _ _ _ _=>(zCo (zCg (zAg C_is_ready HR_is_ready rfl (zAa (pv 1) (zAa (pv 2) (zAa (pv 0) zAb))))))) (fun _ _ _ _=>(pv 0)) zCj.nd rfl rfl)
    (zAc (psS (i:=7) zCj.nd (zGm zIm (pv 6) po_none (zG1 (pv 1))))
    (zAc (zAr (zDm qAw qBj qBk zBl (pv 3) (zAa (pv 7) zAb)))
    (zAc (zAr (zAg C_take hr1 rfl (zAa (pv 4) (zAa (pv 7) zAb))))
    (zAe (zG0 (i:=5) rfl (zBn (sc:=zAd zFa) rfl (by decide +kernel)) (Draws.own (x:= "name") (dtk (i:=4) rfl Draws.nil)) (zAk (pv 5)) (fun _ _ _ _=>(pgB (i:=0))) (fun _ _ _ _=>(zCo (zFe (zD5 hu (pv 0) (pv 1))))) (fun _ _ _ _=>(pv 0)) zCj.nd rfl rfl)))))))
   (zAe (zAo (pv 3))))))))),?_⟩
  refine ⟨_,rfl,b,rfl,hb,?_⟩;refine ⟨_,rfl,j,J.dx,_,rfl,A0.ob,jf_no _ _ _ (by decide +kernel) (by decide +kernel) (by decide +kernel),j,J,rfl,A0,fun a H1 fa h1 k1=>?_⟩;refine ⟨_,rfl,a,m,J.ns,ws,rfl,h1,A0.few,k1 m _ hm (by simp),hp,fun H2 k2=>?_⟩;have k12:=k1.trans k2;refine ⟨(by walk_at "ln"),fun pl hpl=>?_⟩;have fpl:Fre H2 pl:=hpl;refine fun tk htk=>?_;have ftk:Fre (upd H2 pl (.lst [])) tk:=htk;have npt:pl≠tk:=ne_fre ftk upd_same;have k3:Kp [] H (upd (upd H2 pl (.lst [])) tk (.dK [])):=Kp.trans k12 (Kp.trans (Kp.new Kp.refl fpl) (Kp.new Kp.refl ftk));refine ⟨_,rfl,_,_,rfl,.inl (SqL.of (k3 m _ hm (by simp))),fun lf hlf=>?_⟩;have flf:=(show Fre _ lf from hlf);have ntl:tk≠lf:=ne_fre flf upd_same;have npl:pl≠lf:=ne_fre flf ((upd_ne npt).trans upd_same);have fpl0:Fre H pl:=k12.fre fpl (by simp);have ftk0:Fre H tk:=(Kp.trans k12 (Kp.new Kp.refl fpl)).fre ftk (by simp);have hwl:ws.length<=20:=by rw [hp.length_eq];exact A0.few
  show tWhile (fun σ H Q=>tVar 5 σ H fun x H'=>∃k,TruV K x H' k/\Q k H') _ _ _ _
  refine zE7 (fun σ H3=>∃(lf:Addr) (D L:List Str) (as:List Addr) (rs:List (List Str)) (f:Nat) (o6 o7:Option V),σ=[some (.ref j),some (.int b),some (.ref m),some (.ref pl),some (.ref tk),some (.ref lf),o6,o7]/\Kp [] H H3/\SetD H3 tk D/\Txs H3 lf L/\RowsAt H H3 pl as rs/\ListI J r D L/\L.length<=f/\f<=20/\rs.length+f<=20/\rs++zDp J b.toNat f D L=zDp J b.toNat ws.length [] ws) (zHf 5)
   ⟨lf,[],ws,[],[],ws.length,none,none,rfl,Kp.trans k3 (Kp.new Kp.refl flf),(upd_ne ntl).trans upd_same,upd_same,RowsAt.nil ((upd_ne npl).trans ((upd_ne npt).trans upd_same)) fpl0,
    ⟨hrk,qAy,(fun _ h=>nomatch h),fun n hn=>hp.mem_iff.mp hn,fun n hn=>.inr (hp.mem_iff.mpr hn)⟩,qAF _,hwl,by simpa using hwl,rfl⟩ ?_ (fun σ H Q Q' hq hc=>by
    obtain ⟨x,e,b,t,q⟩:=hc;exact ⟨x,e,b,t,hq _ _ q⟩)
  rintro σ H3 ⟨lf,D,L,as,rs,f,o6,o7,rfl,kh,hD,hL,R,I,hf,hf20,hrf,el⟩;refine ⟨_,rfl,_,.inl ⟨_,SqL.of hL,rfl⟩,?_⟩;have hLl:L.length<=20:=by lia
  have A3:=A0.kp0 kh;refine ite2 (fun c=>?_) (fun c=>?_)
  ·have cL:L≠[]:=fun z=>by rw [z] at c;simp at c
   refine ⟨_,rfl,_,rfl,⟨_,SqL.of hL⟩,fun B hB=>zBm (L.map V.str) (fun i ys τ H4=>(∃o0,τ=[o0,some (.ref j),some (.ref tk)])/\ys=((L.take i).filter (rdyB J D)).map V.str/\Kp [] H3 H4/\H4 B=some (.lst ys))
    ⟨⟨_,rfl⟩,rfl,Kp.new Kp.refl hB,upd_same⟩ (fun i ys τ H4 ⟨_,_,k4,_⟩=>SqL.of (k4 lf _ hL (by simp))) ?_ ?_⟩
   ·rintro i y ys τ H4 hy ⟨⟨o0,rfl⟩,rfl,k4,h4⟩;obtain ⟨n,en,rfl⟩:=zA2 hy;have mn:=I.li n (qAL en);refine ⟨_,rfl,_,rfl,_,rfl,j,tk,J,D,n,rfl,A3.kp0 k4,k4 tk _ hD (by simp),mn,fun H5 k5=>?_⟩;have h5:=k5 B _ h4 (by simp);refine ⟨_,rfl,ite2 (fun c=>?_) (fun c=>?_)⟩
    ·refine ⟨_,rfl,h5,?_,⟨_,rfl⟩,?_,Kp.new (k4.trans k5) hB,upd_same⟩
     ·rw [qAD];exact zDs (by lia)
     ·rw [zDr en c,qAU];rfl
    ·refine ⟨⟨_,rfl⟩,?_,k4.trans k5,h5⟩;rw [zE5 en c]
   ·rintro ys τ H4 ⟨_,rfl,k4,h4⟩;have eT:L.take (L.map V.str).length=L:=by rw [qAD,qAj]
    rw [eT] at h4;refine ⟨_,rfl,_,rfl,_,rfl,_,_,rfl,SqL.of h4,fun tn htn=>?_⟩;have ftn:Fre H4 tn:=htn
    have ecut:cutV ((L.filter (rdyB J D)).map V.str) none (some b)=(zCb J b.toNat D L).map V.str:=by
     rw [cut_to _ (by lia),<-qCm];rfl
    rw [ecut];have k5:Kp [] H3 (upd H4 tn (.lst ((zCb J b.toNat D L).map V.str))):=Kp.trans k4 (Kp.new Kp.refl ftn);have e5:upd H4 tn (.lst ((zCb J b.toNat D L).map V.str)) tn=some (.lst ((zCb J b.toNat D L).map V.str)):=upd_same;have ftn3:Fre H3 tn:=k4.fre ftn (by simp);have ntp:tn≠pl:=(ne_fre ftn3 R.top).symm;have ntt:tn≠tk:=(ne_fre ftn3 hD).symm;generalize upd H4 tn (.lst ((zCb J b.toNat D L).map V.str))=H5 at k5 e5;have R5:=R.kp k5 (by simp) (fun _ _=>by simp);refine ⟨_,rfl,.inl ⟨rfl,_,SqL.of R5.top⟩,_,rfl,_,_,_,rfl,rfl,R5.top,?_,?_⟩
    ·rw [qAD,R5.len,qAM];lia
    have fD5:SetD H5 tk D:=k5 tk _ hD (by simp)
    have ntpl:tk≠pl:=fun z=>by
     have h2:H5 pl=some (.dK (dT1 D fun _=>.bl true)):=by rw [<-z];exact fD5
     rw [R5.top] at h2;cases h2
    have nlpl:lf≠pl\/True:=.inr trivial;have k6:Kp [pl] H5 (upd H5 pl (.lst (as.map V.ref++[.ref tn]))):=Kp.put Kp.refl (by simp);have R6:=R5.more e5 ntp (kh.fre ftn3 (by simp));have e6:upd H5 pl (.lst (as.map V.ref++[.ref tn])) tn=some (.lst ((zCb J b.toNat D L).map V.str)):=(upd_ne ntp).trans e5;have hL5:=k5 lf _ hL (by simp);have D6:SetD (upd H5 pl (.lst (as.map V.ref++[.ref tn]))) tk D:=(upd_ne ntpl).trans fD5;generalize hH6:upd H5 pl (.lst (as.map V.ref++[.ref tn]))=H6 at k6 R6 e6 D6;have hDl:D.length<=20:=qAW (zBi I.an I.ai) A0.few
    have htl:(zCb J b.toNat D L).length<=20:=by
     have h1:(zCb J b.toNat D L).length<=(L.filter (rdyB J D)).length:=by
      unfold zCb;rw [qAX];lia
     have h2:=qBH (rdyB J D) L;lia
    refine ⟨_,rfl,_,rfl,tk,tn,D,zCb J b.toNat D L,rfl,D6,e6,by lia,fun H7 h7 k7=>?_⟩
    have K56:Kp [] H H6:=by
     rw [<-hH6];exact Kp.new (kh.trans k5) fpl0
    have K7:Kp [] H H7:=Kp.drop K56 ftk0 k7
    have nast:∀x∈as++[tn],x∉[tk]:=fun x hx=>nm1 fun z=>by
     obtain ⟨q,_,e⟩:=R6.mem hx;rw [z,show H6 tk=_ from D6] at e;cases e
    have R7:=R6.kp k7 (nm1 ntpl.symm) nast;have hfin:∀(lf7:Txs H7 lf L),True:=fun _=>trivial
    by_cases nlp:lf=pl
    ·exfalso;rw [nlp,R5.top] at hL5
     cases as with
     | nil =>
      have:L=[]:=by
       have h2:([]:List V)=L.map V.str:=by injection hL5 with h;injection h
       exact List.map_eq_nil_iff.mp h2.symm
      exact cL this
     | cons x xs =>
      cases L with
      | nil=>exact cL rfl
      | cons y ys =>
       injection hL5 with h;injection h with h;simp at h
    have nlt:lf≠tk:=fun z=>by
     rw [z,show H5 tk=_ from fD5] at hL5;cases hL5
    have hL7:Txs H7 lf L:=k7 lf _ (by rw [<-hH6];exact (upd_ne nlp).trans hL5) (nm1 nlt);have hnA:SetD H7 tk (zDo J b.toNat D L):=h7
    refine ⟨_,rfl,_,rfl,⟨_,SqL.of hL7⟩,fun B2 hB2=>zBm (L.map V.str) (fun i ys τ H8=>(∃o0,τ=[o0,some (.ref tk)])/\ys=((L.take i).filter fun n=>decide (n∉zDo J b.toNat D L)).map V.str/\H8=upd H7 B2 (.lst ys))
     ⟨⟨_,rfl⟩,rfl,rfl⟩ (fun i ys τ H8 ⟨_,_,e⟩=>by subst e;exact SqL.of ((upd_ne (ne_fre (show Fre H7 B2 from hB2) hL7)).trans hL7)) ?_ ?_⟩
    ·rintro i y ys τ H8 hy ⟨⟨o0,rfl⟩,rfl,rfl⟩;obtain ⟨n,en,rfl⟩:=zA2 hy;refine ⟨_,rfl,_,rfl,_,_,rfl,DGet.k (k:=Sum.inr n) ((upd_ne (ne_fre (show Fre H7 B2 from hB2) hnA)).trans hnA),_,rfl,?_⟩;rw [zEd]
     have ed:(!decide (n∈zDo J b.toNat D L))=decide (n∉zDo J b.toNat D L):=by
      by_cases z:n∈zDo J b.toNat D L<;>simp [z]
     rw [ed];refine ite2 (fun c=>?_) (fun c=>?_)
     ·refine ⟨_,rfl,upd_same,?_,⟨_,rfl⟩,?_,zCf⟩
      ·rw [qAD];exact zDs (by lia)
      ·rw [zDr en c,qAU];rfl
     ·refine ⟨⟨_,rfl⟩,?_,rfl⟩;rw [zE5 en c]
    ·rintro ys τ H8 ⟨_,rfl,rfl⟩;rw [eT];have fB2:Fre H7 B2:=hB2;have k8:Kp [] H7 (upd H7 B2 (.lst ((zE2 J b.toNat D L).map V.str))):=Kp.new Kp.refl fB2;have hless:=I.less (b:=b.toNat) (by lia) cL
     obtain ⟨f',rfl⟩:∃f',f=f'+1:=⟨f - 1,by
      have:1<=L.length:=List.length_pos_iff.mpr cL;lia⟩
     refine ⟨⟨B2,zDo J b.toNat D L,zE2 J b.toNat D L,as++[tn],rs++[zCb J b.toNat D L],f',_,_,rfl,K7.trans k8,k8 tk _ hnA (by simp),upd_same,R7.kp k8 (by simp) (fun _ _=>by simp),I.next _,by lia,by lia,by simp;lia,?_⟩,?_⟩
     ·rw [<-el];show _=rs++(if L=[] then [] else _);rw [qAB cL,qBM];rfl
     ·show zHf 5 [_,_,_,_,_,some (V.ref B2),_,_] _<zHf 5 [_,_,_,_,_,some (V.ref lf),_,_] _
      have e1:zHf 5 [some (V.ref j),some (.int b),some (.ref m),some (.ref pl),some (.ref tk),some (V.ref B2),some (.ref B),some (.ref tn)] (upd H7 B2 (.lst ((zE2 J b.toNat D L).map V.str)))=(zE2 J b.toNat D L).length:=by
       show (match (upd H7 B2 (.lst ((zE2 J b.toNat D L).map V.str))) B2 with| some (.lst xs)=>xs.length| _=>0)=_;rw [upd_same];simp
      have e2:zHf 5 [some (V.ref j),some (.int b),some (.ref m),some (.ref pl),some (.ref tk),some (V.ref lf),o6,o7] H3=L.length:=by
       show (match H3 lf with| some (.lst xs)=>xs.length| _=>0)=_;rw [hL];simp
      show zHf 5 [some (V.ref j),some (.int b),some (.ref m),some (.ref pl),some (.ref tk),some (V.ref B2),some (.ref B),some (.ref tn)] _<zHf 5 [some (V.ref j),some (.int b),some (.ref m),some (.ref pl),some (.ref tk),some (V.ref lf),o6,o7] H3;rw [e2];exact qC7 (qBl e1) hless
  ·have cL:L=[]:=by
    cases L with
    | nil=>rfl
    | cons x xs=>exact absurd rfl c
   subst cL;rw [zG9,qA2] at el;subst el;exact ⟨_,rfl,k pl as H3 R kh⟩
end
structure RowsR (H:Hp) (l:Addr) (as:List Addr) (rs:List (List Str)):Prop where
 top:H l=some (.lst (as.map V.ref))
 len:as.length=rs.length
 row:∀(i:Nat) (a:Addr) (r:List Str),as[i]?=some a->rs[i]?=some r->H a=some (.lst (r.map V.str))
theorem RowsR.kp {rs:List (List Str)} (R:RowsR H l as rs) (k:Kp [] H H'):RowsR H' l as rs :=
 ⟨k l _ R.top (by simp),R.len,fun i a r e1 e2=>k a _ (R.row i a r e1 e2) (by simp)⟩
theorem RowsR.at {rs:List (List Str)} (R:RowsR H l as rs) (h:i<rs.length):∃a r,as[i]?=some a/\rs[i]?=some r/\(as.map V.ref)[i]?=some (.ref a)/\H a=some (.lst (r.map V.str)):=by
 have hi:i<as.length:=by rw [R.len];exact h
 have e1:as[i]?=some as[i]:=by simp [hi]
 have e2:rs[i]?=some rs[i]:=by simp [h]
 exact ⟨as[i],rs[i],e1,e2,by rw [qAZ,e1];rfl,R.row i _ _ e1 e2⟩
structure TurnOk (J:JR) (b:Int) (A r:List Str):Prop where
 ns:∀n∈r,n∈J.ns
 nd:r.Nodup
 nw:∀n∈r,n∉A
 rd:∀n∈r,rdyB J A n=true
 fit:(r.length:Int)<=b
theorem zFx:∀(rs:List (List Str)) (A:List Str),A.Nodup->(rs.foldl (fun A r=>r.foldl addA A) A).Nodup
 | [],_,h=>h
 | q::rs,A,h=>zFx rs _ (zDn _ _ h)
theorem zI5 {J:JR}:∀(rs:List (List Str)) (A:List Str),(∀n∈A,n∈J.ns)->(∀r∈rs,∀n∈r,n∈J.ns)->∀n∈rs.foldl (fun A r=>r.foldl addA A) A,n∈J.ns
 | [],_,h,_=>h
 | q::rs,A,h,hr=>zI5 rs _ (fun n hn=>by
   rcases (zBd _ _).mp hn with z| z
   ·exact h n z
   ·exact hr q qAS n z) fun r h'=>hr r (qAT _ h')
theorem rdy_congr (h:∀n,n∈A↔n∈B) (n:Str):rdyB J A n=rdyB J B n:=by
 unfold rdyB;congr 1;funext m;exact decide_eq_decide.mpr (h m)
abbrev AF (rs:List (List Str)) (A:List Str):List Str:=rs.foldl (fun A r=>r.foldl addA A) A
structure RightI (J:JR) (b:Int) (rs:List (List Str)):Prop where
 at':∀(i:Nat) (r:List Str),rs[i]?=some r->TurnOk J b (AF (rs.take i) []) r
 all:∀n∈J.ns,n∈AF rs []
theorem thaw_kp {H2:Hp} {kvs:List (Key×V)} (hd:H d=some (.dK kvs)) (k:Kp [d] H H2):Kp [] H (upd H2 d (.dK kvs)):=fun c o h n=>by
 by_cases e:c=d
 ·subst e;rw [hd] at h;cases h;exact upd_same
 ·rw [upd_ne e];exact k c o h (nm1 e)
def tFrz (t:TS):TS:=fun D σ H=>∃a kvs,H a=some (.dK kvs)/\∀o,t (thawE D a o kvs) σ (upd H a (.frz o (.dK kvs)))
theorem ps_frzN {st:Stmt} {t:TS} (h:PS X st t):PS X st (tFrz t):=ps_frz h
theorem key_at {m:Nat} {kk:Key} {v:V} (h:(dT1 B fun _=>V.bl true)[m]?=some (kk,v)):∃y,B[m]?=some y/\kk=Sum.inr y:=by
 unfold dT1 at h;rw [qAZ] at h;obtain ⟨y,e,r⟩:=qBU.mp h
 cases r
 exact ⟨y,e,rfl⟩
theorem zD7 :∀(rs:List (List Str)) (A:List Str),n∈AF rs A↔n∈A\/∃r∈rs,n∈r
 | [],A=>by simp
 | q::rs,A=>by
  show n∈AF rs (q.foldl addA A)↔_;rw [zD7 rs,zBd];constructor
  ·rintro ((h| h)| ⟨r,hr,h⟩)
   ·exact .inl h
   ·exact .inr ⟨q,qAS,h⟩
   ·exact .inr ⟨r,qAT _ hr,h⟩
  ·rintro (h| ⟨r,hr,h⟩)
   ·exact .inl (.inl h)
   ·rcases qAO.mp hr with z| z
    ·subst z;exact .inl (.inr h)
    ·exact .inr ⟨r,z,h⟩
def tI:List (List Str)->Str->Nat
 | [],_=>0
 | r::rs,n=>if n∈r then 0 else tI rs n+1
theorem tI_eq :∀{rs:List (List Str)} {i:Nat} {r:List Str},rs[i]?=some r->n∈r->(∀q∈rs.take i,n∉q)->tI rs n=i
 | [],i,r,h,_,_=>by simp at h
 | q::rs,0,r,h,hn,_=>by
  have e:q=r:=by simpa using h
  subst e;exact qAC hn
 | q::rs,i+1,r,h,hn,hq=>by
  have:n∉q:=hq q (by rw [qDN];exact qAS);show (if n∈q then 0 else tI rs n+1)=i+1;rw [qAB this,tI_eq (by simpa using h) hn fun p hp=>hq p (by rw [qDN];exact qAT _ hp)]
theorem tI_lt :∀{rs:List (List Str)} {i:Nat} {q:List Str},q∈rs.take i->n∈q->tI rs n<i
 | [],i,q,h,_=>by simp at h
 | p::rs,0,q,h,_=>by simp at h
 | p::rs,i+1,q,h,hn=>by
  show (if n∈p then 0 else tI rs n+1)<i+1;rw [qDN] at h
  by_cases c:n∈p
  ·rw [qAC c];lia
  ·rw [qAB c];rcases qAO.mp h with z| z
   ·subst z;exact absurd hn c
   ·have:=tI_lt z hn;lia
theorem tI_at :∀{rs:List (List Str)},(∃r∈rs,n∈r)->∃r,rs[tI rs n]?=some r/\n∈r
 | [],⟨r,h,_⟩=>nomatch h
 | p::rs,⟨r,h,hn⟩=>by
  by_cases c:n∈p
  ·have e:tI (p::rs) n=0:=qAC c;rw [e];exact ⟨p,rfl,c⟩
  ·have e:tI (p::rs) n=tI rs n+1:=qAB c;rw [e];rcases qAO.mp h with z| z
   ·subst z;exact absurd hn c
   ·obtain ⟨r',h1,h2⟩:=tI_at ⟨r,z,hn⟩;exact ⟨r',by simpa using h1,h2⟩
theorem right_lt {b:Int} {rs:List (List Str)} (R:RightI J b rs) {y:Str} (hn:n∈J.ns) (hy:y∈J.ns) (h:n∈J.S y):tI rs n<tI rs y:=by
 have h1:=(zD7 rs []).mp (R.all y hy);obtain ⟨r,e,hr⟩:=tI_at (h1.resolve_left (by simp));have ok:=R.at' _ r e;have rd:=ok.rd y hr;unfold rdyB at rd;have:=qAi (qA6.mp rd n (qAY.mpr ⟨hn,qAR h⟩));obtain ⟨q,hq,hnq⟩:=((zD7 _ []).mp this).resolve_left (by simp);exact tI_lt hq hnq
theorem addA_new (h:n∉A):addA A n=A++[n]:=by unfold addA;rw [qAB h]
section
def spIsRight:Sp:=fun vs H Q _=>∃(l d m:Addr) (b:Int) (J:JR) (as:List Addr) (rs:List (List Str)) (la:Str->Addr) (L:Str->List Str),vs=[.ref l,.ref d,.int b,.ref m]/\Txs H l J.ns/\DR H d J.ns la L/\(∀n∈J.ns,la n≠d)/\J.ns.Nodup/\J.ns.length<=20/\(∀n∈J.ns,∀y∈L n,y∈J.ns/\n∈J.S y)/\RowsR H m as rs/\rs.length<=1000/\RightI J b rs/\∀H',Kp [] H H'->Q (.bl true) H'
abbrev zEj:Stmt:=top 50
theorem zB5:FnScope ["_law_names_here", "_law_behind_here", "_law_benches", "_law_plan", "_law_turns", "_law_k", "_law_turn", "_law_name"] ["_law_names_here", "_law_behind_here", "_law_benches", "_law_plan"] (zAd zEj):=fnS
theorem ok_is_right (F:Fun K "_law_is_right" "_law_is_right" zEj f fd) (T:Txt K mg):FnOk P w K mg base CX0 1 f fd ["_law_names_here", "_law_behind_here", "_law_benches", "_law_plan"] spIsRight:=by
 refine F.ok zB5 (fun vs H Q E h=>?_) (fun cdv A outer s H vs Q E hr h=>?_)
 ·obtain ⟨l,d,m,b,J,as,rs,la,L,rfl,_⟩:=h;rfl
 ·obtain ⟨l,d,m,b,J,as,rs,la,L,rfl,hl,D0,ne0,nd,len,sub,R,hrs,rt,k⟩:=h;have hu:=zDq hr
  refine ⟨_,(zAc (psS (i:=4) zB5.nd zB9)
   (zAc (zAu qAg rfl (pi_enum rfl T.z_enumerate (zAa (pv 3) zAb)) (zH8 rfl (zA1 (pgN (i:=5) zB5.nd) (zA1 (pgN (i:=6) zB5.nd) zD4)))
    (zAc (zCc (PW.pt (zHr (zCw (zCg (zAh zCa (by rfl) T.z_isinstance zAp (zAa (pv 6) (zAa (zC3 (by rfl) T.z_list zCr (v:=.ty "list") rfl) zAb))))) (zEs (zAs op_gt (zAh zAl (by rfl) T.z_len zCe (zAa (pv 6) zAb)) (pv 2) (zAz _)))))
     (zAe zAy)
     zAq)
    (zAe (zAu qAg rfl (zAk (pv 6)) (pgN (i:=7) zB5.nd)
     (zAc (zCc (PW.pt (zHr (zFe (zG2 hu (pv 7) (pv 4))) (zEs (zAs zD6 (pv 7) (pv 0) (by rfl)))))
      (zAe zAy)
      zAq)
     (zAe (zC2 hu (pv 4) (pv 7) (pv 5) rfl)))))))
   (zAc (zCc (zAs op_ne (zAh call_lenD (by rfl) T.z_len zCe (zAa (pv 4) zAb)) (zAh zAl (by rfl) T.z_len zCe (zAa (pv 0) zAb)) (zAz _))
    (zAe zAy)
    zAq)
   (zAc (zAu qAg rfl (zAk (pv 0)) (pgN (i:=7) zB5.nd)
    (zAe (ps_frzN (zCc (zAs (zIt hr) (zBj rfl (zBn (sc:=zAd zEj) rfl (by decide +kernel)) (Draws.own (x:= "_law_other") (dtk (i:=4) rfl (dtk (i:=7) rfl Draws.nil))) (pi_keys (zA4 hu (pv 1) (pv 7) (fun _ _=>rfl))) (fun _ _ _ _=>(pgB (i:=0))) (fun _ _ _ _=>(zCo (zAs op_le (zA4 hu (pv 1) (pv 0) (fun _ _=>rfl)) (zA4 hu (pv 1) (pv 2) (fun _ _=>rfl)) (zAz _)))) (fun _ _ _ _=>(pv 0))) (zA7 zAb) (zAz _))
     (zAe zAy)
     zAq))))
   (zAe (zAo pe_bl)))))),?_⟩
  refine fun e he=>?_;have fe:Fre H e:=he;have k1:Kp [] H (upd H e (.dK [])):=Kp.new Kp.refl fe;have e1:upd H e (.dK []) e=some (.dK (dT1 (AF (rs.take 0) []) fun n=>.int (tI rs n))):=upd_same;generalize upd H e (.dK [])=H1 at k1 e1;have hin:=rt.at'
  have hsub:∀r∈rs,∀n∈r,n∈J.ns:=fun r hr=>by
   obtain ⟨i,hi,rfl⟩:=qA7.mp hr;exact (hin i rs[i] (by simp)).ns
  refine ⟨_,rfl,_,rfl,⟨_,SqL.of (k1 m _ R.top (by simp))⟩,for_enum (lo:=0) (xs:=as.map V.ref) (fun i σ H2=>(∃o5 o6 o7,σ=[some (.ref l),some (.ref d),some (.int b),some (.ref m),some (.ref e),o5,o6,o7])/\Kp [] H H2/\H2 e=some (.dK (dT1 (AF (rs.take i) []) fun n=>.int (tI rs n)))) ⟨⟨_,_,_,rfl⟩,k1,e1⟩ (fun i σ H2 _ ⟨_,k2,_⟩=>SqL.of (k2 m _ R.top (by simp))) ?_ ?_⟩
  ·rintro i v σ H2 t hv ⟨⟨o5,o6,o7,rfl⟩,k2,h2⟩ ht;have ft:Fre H2 t:=ht
   have hi:i<rs.length:=by
    have:=(qAV.mp hv).1;rw [qAD,R.len] at this;exact this
   obtain ⟨a,r,ea,er,ev,ha⟩:=R.at hi;rw [ev] at hv
   cases hv
   have kt:Kp [] H2 (upd H2 t (.tup [.int (0+(i:Int)),.ref a])):=Kp.new Kp.refl ft;refine ⟨_,_,rfl,.inl (.inl upd_same),rfl,_,_,rfl,_,_,rfl,rfl,?_⟩;have h3:=kt e _ h2 (by simp);have ok:=hin i r er;generalize upd H2 t (.tup [.int (0+(i:Int)),.ref a])=H3 at kt h3 ⊢;have k3:=k2.trans kt;have ha3:=k3 a _ ha (by simp);have hDl:(AF (rs.take i) []).length<=20:=qAW (zBi (zFx _ _ qAy) (zI5 _ _ (fun _ h=>nomatch h) fun r hr=>hsub r (qBt hr))) len;have hrl:r.length<=20:=qAW (zBi ok.nd ok.ns) len;refine ⟨_,rfl,_,_,_,_,rfl,TyOf.lst ha3,zCi,_,rfl,iteF ?_⟩;refine ⟨_,rfl,_,_,rfl,.inl (SqL.of ha3),_,rfl,_,_,rfl,rfl,_,rfl,?_⟩;rw [qAb (by rw [qAD];have:=ok.fit;lia)];refine iteF ?_;refine ⟨_,rfl,_,rfl,⟨_,SqL.of ha3⟩,zAv (xs:=r.map V.str) (fun p σ H4=>(∃o7,σ=[some (.ref l),some (.ref d),some (.int b),some (.ref m),some (.ref e),some (.int (0+(i:Int))),some (.ref a),o7])/\Kp [] H H4/\H4 e=some (.dK (dT1 ((r.take p).foldl addA (AF (rs.take i) [])) fun n=>.int (tI rs n)))) ⟨⟨_,rfl⟩,k3,h3⟩ (fun p σ H4 _ ⟨_,k4,_⟩=>SqL.of (k4 a _ ha (by simp))) ?_ ?_⟩
   ·rintro p v σ H4 hv ⟨⟨o7,rfl⟩,k4,h4⟩;obtain ⟨n,en,rfl⟩:=zA2 hv;have hn:=qAL en
    have nin:n∉(r.take p).foldl addA (AF (rs.take i) []):=fun z=>by
     rcases (zBd _ _).mp z with z| z
     ·exact ok.nw n hn z
     ·exact zEm ok.nd en z
    refine ⟨_,rfl,_,rfl,_,_,rfl,DGet.k (k:=Sum.inr n) h4,_,rfl,?_⟩;rw [zEd,qAb nin];refine iteF ?_;refine ⟨_,rfl,_,rfl,_,_,rfl,.inl (SqL.of (k4 l _ hl (by simp))),rfl,zDb _,_,rfl,?_⟩;rw [qAC rfl,zFv,qAR (ok.ns n hn)];refine iteF ?_;have hlf:=zHe (r.take p) (AF (rs.take i) []);rw [qAX] at hlf;refine ⟨_,rfl,_,rfl,_,rfl,_,_,rfl,DPut.k (k:=Sum.inr n) h4 (by rw [zF0,qAM];lia),?_⟩;refine ⟨⟨_,rfl⟩,Kp.new k4 fe,?_⟩;have et:tI rs n=i:=tI_eq er hn fun q hq z=>ok.nw n hn ((zD7 _ _).mpr (.inr ⟨q,hq,z⟩));rw [upd_same,zDl _ nin,zAi en,qDI];show _=some (HO.dK (dT1 (addA _ n) _));rw [addA_new nin,zGp,et];simp
   ·rintro σ H4 ⟨⟨o7,rfl⟩,k4,h4⟩;rw [qAD,qAj] at h4;refine ⟨⟨_,_,_,rfl⟩,k4,?_⟩;rw [zAi er];unfold AF;rw [qDI];exact h4
  rintro σ H2 ⟨⟨o5,o6,o7,rfl⟩,k2,h2⟩;have eT:rs.take (as.map V.ref).length=rs:=by rw [qAD,R.len,qAj]
  rw [eT] at h2;have all:=rt.all;have inn:=zI5 (J:=J) rs [] (fun _ h=>nomatch h) hsub;have el:(AF rs []).length=J.ns.length:=Nat.le_antisymm (zBi (zFx _ _ qAy) inn) (zBi nd all);refine ⟨_,rfl,_,_,rfl,h2,_,rfl,_,_,rfl,.inl (SqL.of (k2 l _ hl (by simp))),rfl,_,rfl,?_⟩;rw [zF0,qAD,el];have enn:(!decide (V.int (J.ns.length:Int)=V.int (J.ns.length:Int)))=false:=by simp
  rw [enn];refine iteF ?_;refine ⟨_,rfl,_,rfl,⟨_,SqL.of (k2 l _ hl (by simp))⟩,zAv (xs:=J.ns.map V.str) (fun i σ H3=>(∃o5 o6 o7,σ=[some (.ref l),some (.ref d),some (.int b),some (.ref m),some (.ref e),o5,o6,o7])/\Kp [] H H3/\H3 e=some (.dK (dT1 (AF rs []) fun n=>.int (tI rs n)))) ⟨⟨_,_,_,rfl⟩,k2,h2⟩ (fun i σ H3 _ ⟨_,k3,_⟩=>SqL.of (k3 l _ hl (by simp))) ?_ ?_⟩
  ·clear h2 k2;rintro i v σ H3 hv ⟨⟨o5,o6,o7,rfl⟩,k3,e3⟩;obtain ⟨n,en,rfl⟩:=zA2 hv;have mn:n∈J.ns:=qAL en;have D3:=D0.kp0 k3;have hrow:H3 (la n)=some (.dK (dT1 (L n) fun _=>.bl true)):=D3.row n mn
   have nea:e≠la n:=fun z=>by
    have h:=D0.row n mn;rw [<-z] at h;have h:H e=some _:=h;rw [show H e=none from fe] at h;cases h
   refine ⟨la n,dT1 (L n) fun _=>.bl true,hrow,fun o=>?_⟩;have kf:Kp [la n] H3 (upd H3 (la n) (.frz o (.dK (dT1 (L n) fun _=>.bl true)))):=Kp.put Kp.refl (by simp);have ff:upd H3 (la n) (.frz o (.dK (dT1 (L n) fun _=>.bl true))) (la n)=some (.frz o (.dK (dT1 (L n) fun _=>.bl true))):=upd_same;generalize upd H3 (la n) (.frz o (.dK (dT1 (L n) fun _=>.bl true)))=H4 at kf ff;have e4:=kf _ _ e3 (nm1 nea)
   have dg4:DGet H4 d (.str n) (some (.ref (la n))):=by
    have:=DGet.k (k:=Sum.inr n) (kf _ _ D3.top (nm1 (fun z=>(ne0 n mn z.symm))));rw [zBb,qAC mn] at this;exact this
   have tg:∀{H5:Hp} (y:Str),y∈J.ns->H5 e=some (.dK (dT1 (AF rs []) fun n=>.int (tI rs n)))->DGet H5 e (.str y) (some (.int (tI rs y))):=fun {H5} y hy h5=>by
    have:=DGet.k (k:=Sum.inr y) h5;rw [zBb,qAC (all y hy)] at this;exact this
   refine ⟨_,rfl,_,rfl,d,_,rfl,dg4,la n,o,_,rfl,ff,fun B hB=>comp_keys (fun m ys τ H5=>(∃o0,τ=[o0,some (.ref e),some (.str n)])/\ys=[]/\H5=upd H4 B (.lst [])) ⟨⟨_,rfl⟩,rfl,rfl⟩ (fun m ys τ H5 ⟨_,_,z⟩=>by subst z;exact (Kp.new (M:=[]) Kp.refl hB) _ _ ff (by simp)) ?_ ?_⟩
   ·rintro m kk v ys τ H5 hv ⟨⟨o0,rfl⟩,rfl,rfl⟩;obtain ⟨y,ey,rfl⟩:=key_at hv;obtain ⟨yn,hS⟩:=sub n mn y (qAL ey);have e5:=(Kp.new (M:=[]) (l:=B) (o:=.lst []) Kp.refl hB) _ _ e4 (by simp);have hlt:=right_lt rt mn yn hS;unfold gName;refine ⟨_,rfl,_,rfl,e,_,rfl,tg y yn e5,_,rfl,_,rfl,e,_,rfl,tg n mn e5,_,_,rfl,rfl,_,rfl,?_⟩;rw [qAb (by lia)];exact iteF ⟨⟨_,rfl⟩,rfl,rfl⟩
   ·rintro ys τ H5 ⟨_,rfl,rfl⟩;have fB:Fre H4 B:=hB;have k5:Kp [] H4 (upd H4 B (.lst [])):=Kp.new Kp.refl fB;have e5:upd H4 B (.lst []) B=some (.lst []):=upd_same;generalize upd H4 B (.lst [])=H5 at k5 e5;refine ⟨(by walk_at "ln"),fun q hq=>?_⟩;have fq:Fre H5 q:=hq;have k6:Kp [] H5 (upd H5 q (.lst [])):=Kp.new Kp.refl fq;refine .inl ⟨_,_,_,_,rfl,rfl,SqL.of (k6 _ _ e5 (by simp)),SqL.of upd_same,rfl,(fun i x y h=>by simp at h),_,rfl,iteF ?_⟩;have k46:=k5.trans k6;refine ⟨k46 _ _ ff (by simp),⟨_,_,_,rfl⟩,k3.trans (thaw_kp hrow (kf.trans (k46.weak (by simp)))),?_⟩;rw [upd_ne nea];exact k46 _ _ e4 (by simp)
  ·rintro σ H3 ⟨_,k3,_⟩;exact k H3 k3
end
end My
namespace RK
open PySem PyProof.Rows
open AutoSeq1 (wpAny_loadPart')
open MeetsSeq MeetsSeq3
theorem lt_loop (l b:Addr) (items items2:Array Value) (n n2:Nat) (sl sl2:Array (Option Value)):∀(ns ms:List Int) (i:Nat),IntsAre (items.toList.drop i) ns->IntsAre (items2.toList.drop i) ms->i<=items.size->i<=items2.size ->
  Meets (Builtin.«list.__eq__.loop» ⟨[.ref l,.ref b,rawInt i,rawInt 0],[]⟩)
   (fun _ R s=>s.heap.get? l=some {cls:=.type "list",dict:=none,data:=.seq items n,slots:=sl}/\s.heap.get? b=some {cls:=.type "list",dict:=none,data:=.seq items2 n2,slots:=sl2} /\
    R (.ok (.ret (.bool (HT.lexLt ns ms)))) s):=by
 intro ns
 induction ns with
 | nil =>
  intro ms i h1 h2 z1 z2 prog w A R s h;obtain ⟨hp,g,d,tk,os⟩:=s;obtain ⟨hl,hb,h⟩:=h
  have e1:items.size<=i:=by
   have:=h1.length;simp at this;lia
  wp_walk using wpAny_loadPart' hl,wpAny_loadPart' hb
  have hi1:items[((i:Nat):Int).toNat]?=none:=by simp;lia
  rw [hi1]
  wp_walk using wpAny_loadPart' hl,wpAny_loadPart' hb
  show R (.ok (.ret (.bool (decide (items.size<items2.size))))) _
  have e:decide (items.size<items2.size)=HT.lexLt [] ms:=by
   have l2:=h2.length;simp at l2
   cases ms with
   | nil=>rw [HT.lexLt_nil_nil];simp at l2;exact qAb (by lia)
   | cons y ys=>rw [HT.lexLt_nil_cons];simp at l2;exact qAR (by lia)
  rw [e];exact h
 | cons x ns ih =>
  intro ms i h1 h2 z1 z2 prog w A R s h;obtain ⟨hp,g,d,tk,os⟩:=s;obtain ⟨hl,hb,h⟩:=h;have l1:=h1.length;have l2:=h2.length;simp at l1 l2;have hlt:i<items.size:=by lia
  have d1:items.toList.drop i=items[i]::items.toList.drop (i+1):=by simp [qCc,hlt]
  rw [d1] at h1;generalize ex:items[i]=x1 at h1
  cases h1 with
  | cons _ t1 h1 =>
  cases ms with
  | nil =>
   have e2:items2.size<=i:=by simp at l2;lia
   wp_walk using wpAny_loadPart' hl,wpAny_loadPart' hb
   have hi1:items[((i:Nat):Int).toNat]?=some (.int x t1):=by simp [hlt,ex]
   have hi2:items2[((i:Nat):Int).toNat]?=none:=by simp;lia
   rw [hi1,hi2]
   wp_walk using wpAny_loadPart' hl,wpAny_loadPart' hb
   show R (.ok (.ret (.bool (decide (items.size<items2.size))))) _;have e:decide (items.size<items2.size)=HT.lexLt (x::ns) []:=by rw [HT.lexLt_cons_nil];exact qAb (by lia)
   rw [e];exact h
  | cons y ms =>
   have hlt2:i<items2.size:=by simp at l2;lia
   have d2:items2.toList.drop i=items2[i]::items2.toList.drop (i+1):=by simp [qCc,hlt2]
   rw [d2] at h2;generalize ey:items2[i]=y1 at h2
   cases h2 with
   | cons _ t2 h2 =>
   wp_walk using wpAny_loadPart' hl,wpAny_loadPart' hb
   have hi1:items[((i:Nat):Int).toNat]?=some (.int x t1):=by simp [hlt,ex]
   have hi2:items2[((i:Nat):Int).toNat]?=some (.int y t2):=by simp [hlt2,ey]
   have hc:((i:Int)+1)=((i+1:Nat):Int):=by push_cast;rfl
   rw [hi1,hi2];rw [HT.lexLt_cons] at h;refine qAA (wpAny_eqBool_int ?_)
   by_cases xy:x=y
   ·rw [qAC xy] at h;rw [show (x==y)=true by simp [xy]]
    wp_walk
    rw [hc]
    exact ⟨qB8 plain_eq_loop _,qBG entry_eq_loop (by
     rw [qBP plain_eq_loop _];exact ih ms (i+1) h1 h2 hlt hlt2 prog w A R _ ⟨hl,hb,h⟩)⟩
   ·rw [qAB xy] at h;rw [show (x==y)=false by simp [xy]]
    wp_walk using wpAny_loadPart' hl,wpAny_loadPart' hb
    rw [hi1,hi2];refine qAA (HT.rcLt_int _ _ x t1 y t2 _ _ _ _ ?_)
    wp_walk
    exact h
theorem list_lt (l b:Addr) (items items2:Array Value) (n n2:Nat) (sl sl2:Array (Option Value)) (ns ms:List Int) (h1:IntsAre items.toList ns) (h2:IntsAre items2.toList ms) :
  Meets (Builtin.«list.__lt__» ⟨[.ref l,.ref b],[]⟩)
   (fun _ R s=>s.heap.get? l=some {cls:=.type "list",dict:=none,data:=.seq items n,slots:=sl}/\s.heap.get? b=some {cls:=.type "list",dict:=none,data:=.seq items2 n2,slots:=sl2} /\
    R (.ok (.ret (.bool (HT.lexLt ns ms)))) s):=by
 intro prog w A R s h;obtain ⟨hp,g,d,tk,os⟩:=s;obtain ⟨hl,hb,h⟩:=h;have f3:=AutoSeq1.sub_list_list
 wp_walk using wpAny_loadPart' hl,wpAny_loadPart' hb
 exact ⟨qB8 plain_eq_loop _,qBG entry_eq_loop (by
  rw [qBP plain_eq_loop _];exact lt_loop l b items items2 n n2 sl sl2 ns ms 0 (by simpa using h1) (by simpa using h2) (qAd _) (qAd _) prog w A R _ ⟨hl,hb,h⟩)⟩
end RK
namespace L2
open PySem PySem.Spec PyProof.Rows
theorem lt_lists {X:Cx} {pins:List (Addr×Obj)} {σ:St} {H:Hp} {s:Shared} {A:Around} {E:Value->Shared->Prop} {a b:Addr} {ns ms:List Int} {Q:Value->Shared->Prop} (hu:A.units<cLine) (I:Inv X pins σ H s) (ha:SqL X.K H a (ns.map V.int)) (hb:SqL X.K H b (ms.map V.int)) (q:Q (.bool (HT.lexLt ns ms)) s) :
  wpAny (model X.prog X.w) A (compareOp .Lt (.ref a) (.ref b)) Q E s:=by
 obtain ⟨its,r1,p1,_⟩:=I.list ha;obtain ⟨its2,r2,p2,_⟩:=I.list hb;obtain ⟨o1,n1,g1,c1,d1,s1⟩:=p1;obtain ⟨o2,n2,g2,c2,d2,s2⟩:=p2;obtain ⟨cls1,dd1,dt1,sl1⟩:=o1;obtain ⟨cls2,dd2,dt2,sl2⟩:=o2;simp only at c1 d1 s1 c2 d2 s2;subst c1 d1 s1 c2 d2 s2
 exact richCompare_meets_room (op:=.Lt) ⟨_,g1,rfl⟩ ⟨_,g2,rfl⟩ PySem.F.slot_list_lt PySem.F.entry_list_lt (PySem.F.args_list_lt_2 _ _) (RK.list_lt a b its.toArray its2.toArray n1 n2 sl1 sl2 ns ms (zFt r1) (zFt r2))
  ⟨g1,g2,show Value.bool (HT.lexLt ns ms)≠Value.notImplemented/\Q (.bool (HT.lexLt ns ms)) s from ⟨(fun x=>nomatch x),q⟩⟩ hu
section
variable {X:Cx}
def tSortRI (ta:TA):TE:=fun σ H Q=>ta σ H fun xs H1=>∃(a:Addr) (ns:List Int),xs=[.ref a]/\SqL X.K H1 a (ns.map V.int)/\ns.length<64/\∀(b:Addr) (zs:List Int),H1 b=none->zs.Perm ns->zs.Pairwise (·>=·)->Q (.ref b) (upd H1 b (.lst (zs.map V.int)))
theorem pe_sortedRI {a:Expr} {ta:TA} {p pos kp ip:Pos} {jj:Nat} (hg:Gl X "sorted") (hm:X.mg "sorted" = none) (hb:bootBuiltins "sorted" = some (.builtin "sorted")) (ha:PA X [a] ta) (hs:starEach [a] X.env=[(false,eval a X.env)]:=by rfl) :
  PE X (.Call (.Name "sorted" p) [a] [⟨some (Str.ofString "reverse"),.Constant (.bool true) jj ip,kp⟩] pos) (tSortRI (X:=X) ta):=by
 intro pins s σ H Q I h;refine qB3 (zEb I hg hm hb ?_);refine qDi (by rw [hs];rfl) rfl ?_;have ha':=ha pos pins s σ H _ I h;have e0:backTo pos (starEach [a] X.env)=(false,eval a X.env)::[]:=by rw [hs];rfl
 rw [e0] at ha' ⊢;refine evalArgs_kwB rfl (thn ha' fun us s1 ⟨vs,H1,I1,r1,q1⟩=>?_);refine thn (pk_cons pe_bl pk_nil pos pins s1 σ H1 (fun zs H2=>zs=[.bl true]/\H2=H1) I1 ⟨rfl,rfl⟩) fun ws s2 ⟨zs,H2,I2,rz,ez,eh⟩=>?_;subst ez eh;obtain ⟨a,ns,e,ea,hc,q⟩:=q1;subst e;obtain ⟨u,rfl,ru⟩:=r1.one
 cases ru
 obtain ⟨w1,rfl,rw1⟩:=rz.one
 cases rw1
 obtain ⟨its,r,pl,hz⟩:=I2.list ea;have len:=r.length;rw [qAD] at len;refine sorted_ints_rev (b:=true) pl.isList (zFt r) (by lia) fun out ns' a1 a2 a3=>?_
 have hD:(((s2.heap.push (seqObj "list" #[] 0)).update s2.heap.objs.size (Obj.mapSeq (·++its.toArray))).push (seqObj "list" its.toArray 0)).get? (s2.heap.objs.size+1)=some (seqObj "list" its.toArray 0):=by
  have hsz:((s2.heap.push (seqObj "list" #[] 0)).update s2.heap.objs.size (Obj.mapSeq (·++its.toArray))).objs.size=s2.heap.objs.size+1:=by
   rw [Heap.size_update,size_push']
  rw [<-hsz];exact qAc _ rfl
 obtain ⟨⟨c,g1⟩,g2⟩:=ST.srt_heap (out:=out) hD
 have up:∀b o,s2.heap.get? b=some o->(sortedAll s2.heap its out).get? b=some o:=fun b o e=>by
  have hlt:=qAK e;have nb:b≠s2.heap.objs.size+1:=qAN (qBp hlt);refine g2 b o nb (qAI _ ?_);rw [qBn _ _ (qAu hlt)];exact qAI _ e
 have l2:=a2.length_eq;have hz2:(ns'.map V.int).length<=sizeLine:=by rw [qAD,l2,qAM];lia
 exact ⟨.ref (s2.heap.objs.size+1),_,I2.laid (t':=s2.toks) up (qBK _) (show zAx X.prog X.w _ _ _ (.lst (ns'.map V.int)) from ⟨hz2,_,c,zGs a1,by rw [Array.toArray_toList];exact g1⟩),rfl,q _ _ (I2.hok.fresh (qBK _)) a2 (by simpa [Ordered] using a3)⟩
theorem zH1:∀{xs:List V} {us:List Value} (_:Vals xs us) (j:Nat),Vals (xs.eraseIdx j) (us.eraseIdx j)
 | _,_,.nil,_=>.nil
 | _,_,.cons r rr,0=>rr
 | _,_,.cons r rr,j+1=>.cons r (zH1 rr j)
theorem erase_map {α β:Type} (f:α->β):∀(l:List α) (j:Nat),(l.eraseIdx j).map f=(l.map f).eraseIdx j
 | [],_=>rfl
 | _::_,0=>rfl
 | a::l,j+1=>by
  show f a::(l.eraseIdx j).map f=f a::(l.map f).eraseIdx j;rw [erase_map f l j]
def rRemove:V->List V->Hp->VK->Prop:=fun x vs H Q=>∃(l:Addr) (ks:List Str) (y:Str),x= .ref l/\vs=[.str y]/\H l=some (.lst (ks.map V.str))/\y∈ks/\Q .non (upd H l (.lst ((ks.erase y).map V.str)))
theorem mt_remove:MtM X "list.remove" rRemove:=by
 intro pins s σ H x vs v us Q I rx rv h;obtain ⟨l,ks,y,rfl,rfl,hH,hy,q⟩:=h
 cases rx
 obtain ⟨u,rfl,ru⟩:=rv.one;obtain ⟨t,rfl⟩:=ru;obtain ⟨z,its,n,r,hl,e⟩:=I.lstM hH;have hS:=zC8 r;rw [qAD] at hl z;have jl:ks.idxOf y<ks.length:=List.idxOf_lt_length_of_mem hy
 have at':∀m (hm:m<its.toArray.size),∃t',its.toArray[m]= .str (ks[m]'(by rw [qAJ] at hm;lia)) t':=fun m hm=>by
  rw [qAJ] at hm;have hm2:m<ks.length:=by lia
  obtain ⟨u,hu,t',e'⟩:=r.get (i:=m) (x:=V.str ks[m]) (by rw [qAZ,qAt hm2];rfl);refine ⟨t',?_⟩;rw [qAt hm] at hu
  cases hu
  simpa using e'
 have sym:∀a b:Str,(a.cps.toList==b.cps.toList)=true↔a=b:=fun a b=>by
  rw [qB2];refine ⟨fun h=>?_,fun h=>by rw [h]⟩
  cases a;cases b
  simp only [Str.mk.injEq];exact Array.toList_inj.mp h
 refine qBb F.slot_list_remove ⟨_,e,rfl⟩ F.entry_list_remove (F.args_list_remove_2 _ _)
  (MeetsSeq.list_remove l its.toArray n (.str y t) (fun v=>(strOf v).cps.toList==y.cps.toList) (fun v hv=>?_) (ks.idxOf y) (by rw [qAJ];lia) ?_ ?_ (by rw [qAJ];lia)) ⟨e,?_⟩
 ·obtain ⟨m,hm,rfl⟩:=Array.mem_iff_getElem.mp hv;obtain ⟨t',e'⟩:=at' m hm;rw [e'];exact SeqRoads2.EqGives.str _ _ _ _
 ·obtain ⟨t',e'⟩:=at' (ks.idxOf y) (by rw [qAJ];lia);rw [e'];exact (sym _ _).mpr (qC2 jl)
 ·intro m hm hj;obtain ⟨t',e'⟩:=at' m hm;rw [e'];refine Bool.eq_false_iff.mpr fun h=>?_;have h:=(sym _ _).mp h;have h:ks[m]'(by rw [qAJ] at hm;lia)=y:=h;have:=List.not_of_lt_findIdx (show m<ks.findIdx (·==y) from hj);simp [h] at this
 ·refine ⟨.non,_,I.lset (its':=its.eraseIdx (ks.idxOf y)) (ys:=(ks.erase y).map V.str) hH e ?_ ?_ ?_,rfl,q⟩
  ·rw [qDW]
  ·rw [List.erase_eq_eraseIdx_of_idxOf rfl,erase_map];exact zH1 r _
  ·rw [qAD,qCy hy];lia
end
end L2
namespace RK
open PySem PyProof.Rows PySem.W
end RK
namespace L2
open PySem PySem.Spec PyProof.Rows
variable {y z qual x:Str}{c d f:Addr}{scope:Scope}
structure LamScope2 (x y z:Str) (sc:Scope):Prop where
 kind:sc.kind= .function
 co:sc.isCoroutine=false
 gen:sc.isGenerator=false
 px:sc.names.lookup x=some .local
 fy:sc.names.lookup y=some .free
 fz:sc.names.lookup z=some .free
 nocell:∀n∈sc.names,n.2≠.cell
 onlyy:∀n∈sc.names,n.2= .free->n.1=y\/n.1=z
section
variable {X:Cx} {pins:List (Addr×Obj)} {σ:St} {H:Hp} {s:Shared}
theorem look2 {n:Str} {e:Addr} (h:([(y,c),(z,d)]:List (Str×Addr)).lookup n=some e):(n=y/\e=c)\/(n=z/\e=d):=by
 rw [qA5] at h
 cases q:(n==y) with
 | true=>rw [q] at h;cases h;exact .inl ⟨by simpa using q,rfl⟩
 | false=>rw [q] at h;exact .inr (look1 h)
theorem inv_lam2 {A:Around} {f c d:Addr} {cd:Value} {qual x y z:Str} {vx vy vz:V} {ux uy uz:Value} {h₁:Heap} {tk:Nat} (I:Inv X pins σ H s) (hA:A.frames=some X.stack) (hh:A.handled=none) (S:LamScope2 x y z scope) (yz:y≠z)
  (hy:X.env.cells.lookup y=some c) (hz:X.env.cells.lookup z=some d) (iy:s.heap.IsCell c (some uy)) (iz:s.heap.IsCell d (some uz)) (ry:RelV vy uy) (rz:RelV vz uz) (rx:RelV vx ux) (hns:h₁.Ns s.heap.objs.size (fun n=>([(x,ux)]:List (Str×Value)).reverse.lookup n)) (hk:∀b o,s.heap.get? b=some o->h₁.get? b=some o) :
  Inv (cxLam X [x,y,z] qual scope f cd [(y,c),(z,d)] A s H) [] [some vx,some vy,some vz] H {s with heap:=h₁,toks:=tk}:=by
 have e0:=I.env0;have noA:∀b:Addr,b∉(cxLam X [x,y,z] qual scope f cd [(y,c),(z,d)] A s H).ex:=fun b z=>absurd (show b∈([]:List Addr) from z) (by simp);have hc0:=I.freeC y c hy;have hd0:=I.freeC z d hz;have ly:([(y,c),(z,d)]:List (Str×Addr)).lookup y=some c:=by simp
 have zy:(z==y)=false:=by simpa using qAr yz
 have lz:([(y,c),(z,d)]:List (Str×Addr)).lookup z=some d:=by rw [qA5,zy];simp
 have ncd:c≠d:=fun e=>yz (I.ok.inj y z c hy (e▸hz))
 refine ⟨⟨e0.mod,S.kind,rfl,rfl,qAF _,fun a b e h1 h2=>?_,fun n hn=>?_,fun n e h _=>Bool.noConfusion h,fun _=>hh,qDV hA,.inr ⟨rfl,rfl⟩,fun b z=>absurd z (noA b),e0.bs,e0.bsz,fun b _ _=>noA b,fun b z=>absurd z (noA b),e0.funs,e0.frf⟩,
  rfl,e0.bare,Un.kept hk,⟨_,hns,fun i n v h1 h2 h3=>?_⟩,fun n e h=>?_,e0.hok.fresh (qAF _),fun n e h=>?_,fun p hp=>absurd (show p∈([]:List (Addr×Obj)) from hp) (by simp),e0.hok.kept hk,rfl⟩
 ·rcases look2 h1 with ⟨a1,a2⟩| ⟨a1,a2⟩<;>rcases look2 h2 with ⟨b1,b2⟩| ⟨b1,b2⟩
  ·rw [a1,b1]
  ·exact absurd (a2.symm.trans b2) ncd
  ·exact absurd (b2.symm.trans a2) ncd
  ·rw [a1,b1]
 ·have hn:scope.names.lookup n=some .cell\/scope.names.lookup n=some .free:=hn;rcases hn with hn| hn
  ·exact absurd rfl (S.nocell _ (qBT hn))
  ·rcases S.onlyy _ (qBT hn) rfl with e| e
   ·have e:n=y:=e;subst e;exact ⟨c,ly⟩
   ·have e:n=z:=e;subst e;exact ⟨d,lz⟩
 ·match i,h1,h2 with
  | 0,h1,h2 =>
   have h1:some x=some n:=h1;have h2:some (some vx)=some (some v):=h2
   cases h1
   cases h2
   exact ⟨ux,rx,.inl ⟨S.px,by simp⟩⟩
  | 1,h1,h2 =>
   have h1:some y=some n:=h1;have h2:some (some vy)=some (some v):=h2
   cases h1
   cases h2
   exact ⟨uy,ry,.inr ⟨.inr S.fy,c,ly,zBu iy hk⟩⟩
  | 2,h1,h2 =>
   have h1:some z=some n:=h1;have h2:some (some vz)=some (some v):=h2
   cases h1
   cases h2
   exact ⟨uz,rz,.inr ⟨.inr S.fz,d,lz,zBu iz hk⟩⟩
  | m+3,h1,_=>exact absurd (show ([]:List Str)[m]?=some n from h1) (by simp)
 ·rcases look2 h with ⟨_,rfl⟩| ⟨_,rfl⟩
  ·exact ⟨_,zBu iy hk⟩
  ·exact ⟨_,zBu iz hk⟩
 ·rcases look2 h with ⟨_,rfl⟩| ⟨_,rfl⟩
  ·exact hc0
  ·exact hd0
theorem lam_call2 {A:Around} {c':Addr} {params:Arguments} {body:Expr} {pm ctv:Value} {vx vy vz:V} {ux uy uz:Value} {te:TE} {Q:VK} (I:Inv X pins σ H s) (hA:A.frames=some X.stack) (hh:A.handled=none) (room:A.depth<recursionLimit)
  (ho:s.heap.get? f=some (PySem.W.kla_obj "<lambda>" qual params body scope [(y,c),(z,d)] pm c' ctv)) (hcd:s.heap.CodeRec (.ref c') qual) (S:LamScope2 x y z scope) (yz:y≠z)
  (hb:bindArgs (PySem.W.kla_fn "<lambda>" qual params body scope [(y,c),(z,d)] pm (.ref c') ctv) ⟨[ux],[]⟩=pure [(x,ux)])
  (hy:X.env.cells.lookup y=some c) (hz:X.env.cells.lookup z=some d) (iy:s.heap.IsCell c (some uy)) (iz:s.heap.IsCell d (some uz)) (ry:RelV vy uy) (rz:RelV vz uz) (rx:RelV vx ux)
  (ht:PE (cxLam X [x,y,z] qual scope f (.ref c') [(y,c),(z,d)] A s H) body te) (hq:te [some vx,some vy,some vz] H Q) :
  wpAny (model X.prog X.w) A (call (.ref f) [ux]) (CE X.stack X.prog X.w H s Q) (fun _ _=>False) s:=by
 refine qCK (PySem.W.kla_callFunE room ho rfl S.co S.gen rfl hcd ?_);rw [hb];refine qAE (wpAny_newFunctionEnv S.nocell (fun z hz=>?_) (fun h₁ hns hsb=>⟨I.nolimit.fresh _ hsb,?_⟩) S.kind)
 ·have:z=(x,ux):=by simpa using hz
  subst this;exact S.px
 ·show codeAny _ _ (.expr body (PySem.W.envX qual scope s.heap.objs.size f (.ref c') [(y,c),(z,d)])) _ _;have hk₁:∀b o,s.heap.get? b=some o->h₁.get? b=some o:=fun b o e=>hsb.extBut b o (qAN (qAK e)) (qAI _ e);have J:=inv_lam2 (qual:=qual) (f:=f) (cd:=.ref c') (tk:=s.toks+[(x,ux)].length) I hA hh S yz hy hz iy iz ry rz rx hns hk₁;refine PySem.W.kla_codeExpr (qAq (ht [] _ _ H _ J hq) (fun v s' hs=>?_) fun _ _ h=>h.elim);obtain ⟨v',H',J',rv,q⟩:=hs;exact ⟨v',H',J'.os,J'.bare,J'.base,J'.hok,rv,q⟩
end
def fmin (g:Str->List Int):List Str->Str->Str
 | [],b=>b
 | y::l,b=>fmin g l (if HT.lexLt (g y) (g b)=true then y else b)
section
variable {X:Cx} {pins:List (Addr×Obj)} {σ:St} {H:Hp} {s:Shared}
structure MN (X:Cx) (pins:List (Addr×Obj)) (σ:St) (H H':Hp) (lam:Obj) (f I S p:Addr) (j:Nat) (sq:Array Value) (s:Shared):Prop where
 kp:Kp [] H H'
 inv:Inv X pins σ H' s
 fo:s.heap.get? f=some lam
 it:s.heap.IsListIter I p j
 so:∃n,s.heap.get? S=some {cls:=.type "list",data:=.seq sq n}
 ff:H' f=none
 fI:H' I=none
 fS:H' S=none
def MTurn (X:Cx) (pins:List (Addr×Obj)) (σ:St) (H:Hp) (lam:Obj) (f:Addr) (ks:List Str) (g:Str->List Int):Prop :=
 ∀x∈ks,∀t s' H',Kp [] H H'->Inv X pins σ H' s'->s'.heap.get? f=some lam->wpAny (model X.prog X.w) X.A.in1 (call (.ref f) [.str x t]) (CE X.stack X.prog X.w H' s' (fun r H3=>∃a,r= .ref a/\H3 a=some (.lst ((g x).map V.int))/\Kp [] H' H3)) (fun _ _=>False) s'
theorem minK_loop {lam:Obj} {I S p:Addr} {ks:List Str} {g:Str->List Int} {R:Result->Shared->Prop} (hu:X.A.units+4<cLine) (hc':X.calm=true) (hp:H p=some (.lst (ks.map V.str))) (ff:FpOk X pins H f) (fI:FpOk X pins H I) (fS:FpOk X pins H S) (nIS:I≠S) (nfI:f≠I) (nfS:f≠S) (npI:p≠I) (npS:p≠S)
  (turn:MTurn X pins σ H lam f ks g)
  (fin:∀v t s' H',v= .str (fmin g (ks.drop 1) (ks.headD Str.empty)) t->Kp [] H H'->Inv X pins σ H' s'->R (.ok (.ret v)) s') :
  ∀(l:List Str) (j:Nat) (b:Str) (t:Tok) (kb:Addr) (s:Shared) (H1:Hp),ks.drop j=l->j<=ks.length->fmin g l b=fmin g (ks.drop 1) (ks.headD Str.empty)->H1 kb=some (.lst ((g b).map V.int))->MN X pins σ H H1 lam f I S p j #[.str b t,.ref kb] s ->
   codeAny (model X.prog X.w) X.A (Code.builtin "min.loop" {pos:=[.ref I,.ref f,.ref S]}) R s:=by
 intro l
 induction l with
 | nil =>
  intro j b t kb s H1 hd hj hf hkb M;obtain ⟨nS,hS⟩:=M.so
  have jn:j=ks.length:=by
   have:=qAk List.length hd;rw [qA4,qBc] at this;lia
  have hp1:=M.kp _ _ hp (by simp);obtain ⟨its,r,pl,hz⟩:=M.inv.list (SqL.of (K:=X.K) hp1);have hln:its.length=ks.length:=by have:=r.length;rw [qAD] at this;exact this.symm
  refine qBG F.entry_min_loop ?_;rw [qBP F.plain_min_loop _];refine qAA (m:=seqItems? (.ref S)) ?_;rw [seqItems?.eq_1];refine qAA (qB0 hS ?_);refine qAE ?_;have W:=qCS (prog:=X.prog) (w:=X.w) (A:=X.A.in1) (M.inv.ok.hd hc') I p npI its.toArray;have st:s.heap.IsListIter I p its.toArray.size/\s.heap.IsList p its.toArray:=⟨by rw [qAJ,hln,<-jn];exact M.it,pl.isList⟩;refine qAA (qCd (W.done s _ _ st fun h' tk hk'=>?_));have g2:=hk' S _ (fun z=>nIS (show S=I by simpa using z).symm) hS;have sb:=qAp h' S (Obj.mapSeq fun _=>(#[]:Array Value));have I1:Inv X pins σ H1 {s with heap:=h',toks:=tk}:=M.inv.turned (t':=tk) (fun b o n q=>hk' b o (fun z=>n (by simpa using z)) q) M.fI fI.2.1 fI.2.2.2.1 fI.2.2.2.2.1 fI.2.2.2.2.2;refine qAA (qCa (s:={s with heap:=h',toks:=tk}) g2 rfl (qAA (qCB (qAE ?_))) (by rw [qAM];simp) (by rw [qAM];simp));exact fin _ t _ H1 (by rw [<-hf];rfl) M.kp (I1.turned (t':=tk) (fun b o n q=>(sb.2 b n).trans q) M.fS fS.2.1 fS.2.2.2.1 fS.2.2.2.2.1 fS.2.2.2.2.2)
 | cons y l ih =>
  intro j b t kb s H1 hd hj hf hkb M;obtain ⟨nS,hS⟩:=M.so
  have ey:ks[j]?=some y:=by
   have:(ks.drop j)[0]?=some y:=by rw [hd];rfl
   rwa [qBf,qCi] at this
  have jl:j<ks.length:=(qAV.mp ey).1;have yk:y∈ks:=qAL ey;have hp1:=M.kp _ _ hp (by simp);obtain ⟨its,r,pl,hz⟩:=M.inv.list (SqL.of (K:=X.K) hp1);have hSt:=zC8 r;have hln:its.length=ks.length:=ST.strs_len hSt;refine qBG F.entry_min_loop ?_;rw [qBP F.plain_min_loop _];refine qAA (m:=seqItems? (.ref S)) ?_;rw [seqItems?.eq_1];refine qAA (qB0 hS ?_);refine qAE ?_;have W:=qCS (prog:=X.prog) (w:=X.w) (A:=X.A.in1) (M.inv.ok.hd hc') I p npI its.toArray;refine qAA (qCd (W.item j s _ _ (by rw [qAJ,hln];exact jl) ⟨M.it,pl.isList⟩ fun v h' tk hv st' hk'=>?_));have g2:=hk' S _ (fun z=>nIS (show S=I by simpa using z).symm) hS;have f2:=hk' f _ (fun z=>nfI (by simpa using z)) M.fo;have I1:Inv X pins σ H1 {s with heap:=h',toks:=tk}:=M.inv.turned (t':=tk) (fun b o n q=>hk' b o (fun z=>n (by simpa using z)) q) M.fI fI.2.1 fI.2.2.2.1 fI.2.2.2.2.1 fI.2.2.2.2.2
  obtain ⟨ty,rfl⟩:∃t,v= .str y t:=by
   have hv:its[j]?=some v:=by simpa using hv
   obtain ⟨x2,t,rfl⟩:=hSt.all v (qAL hv);have h2:(its.map strOf)[j]?=some x2:=by rw [qAZ,hv];rfl
   rw [hSt.strs,ey] at h2
   cases h2
   exact ⟨t,rfl⟩
  refine qAA (qCd (qAx (qAq (turn y yk ty _ H1 M.kp I1 f2) (fun rr s3 hE=>?_) fun _ _ hF=>hF.elim)));obtain ⟨vv,H3,os,bare,un,hok3,rv,a3,qv,qa,qh⟩:=hE;subst qv
  cases rv
  have fI':FpOk X pins H1 I:=⟨M.fI,fI.2⟩;have fS':FpOk X pins H1 S:=⟨M.fS,fS.2⟩;have ff':FpOk X pins H1 f:=⟨M.ff,ff.2⟩;have I3:Inv X pins σ H3 s3:=I1.call' os un hok3 bare (fun b z=>nomatch z);have S3:=un.keep _ _ g2 fS'.1 (fS'.nstk I1) (by simp);have f3:=un.keep _ _ f2 ff'.1 (ff'.nstk I1) (by simp)
  have it3:s3.heap.IsListIter I p (j+1):=by
   obtain ⟨o,e1,e2⟩:=st'.1;exact ⟨o,un.keep _ _ e1 fI'.1 (fI'.nstk I1) (by simp),e2⟩
  have nf3:H3 f=none:=un.free _ _ f2 ff'.1 (by simp);have nS3:H3 S=none:=un.free _ _ g2 fS'.1 (by simp)
  have nI3:H3 I=none:=by
   obtain ⟨o,e1,e2⟩:=st'.1;exact un.free _ _ e1 fI'.1 (by simp)
  have kb3:=qh _ _ hkb (by simp);refine qAA (qCd (qAx (qAA (lt_lists (ns:=g y) (ms:=g b) (by show X.A.units+1<cLine;lia) I3 (SqL.of (K:=X.K) qa) (SqL.of (K:=X.K) kb3) ?_))));refine qAA (qAx (qBB ?_));refine qAA (qCB (qAE ?_));have hd':ks.drop (j+1)=l:=by rw [<-List.drop_drop,hd];rfl
  by_cases e:HT.lexLt (g y) (g b)=true
  ·refine (show wpAny _ _ (if HT.lexLt (g y) (g b)=true then _ else _) _ _ _ from ?_);rw [qAC e];have sb:=qAp s3.heap S (Obj.mapSeq fun _=>(#[.str y ty,.ref a3]:Array Value));refine qAA (qCa S3 rfl (qAA (qCB (qAE ⟨rfl,?_⟩))) (by rw [qAM];simp) (by rw [qAM];simp));refine ih (j+1) y ty a3 _ H3 hd' (by lia) ?_ qa ⟨M.kp.trans qh,I3.turned (t':=s3.toks) (fun b o n q=>(sb.2 b n).trans q) nS3 fS.2.1 fS.2.2.2.1 fS.2.2.2.2.1 fS.2.2.2.2.2,(sb.2 f nfS).trans f3,?_,⟨_,qBv S3 fun _=>#[.str y ty,.ref a3]⟩,nf3,nI3,nS3⟩
   ·rw [<-hf];show _=fmin g l (if HT.lexLt (g y) (g b)=true then y else b);rw [qAC e]
   ·obtain ⟨o,e1,e2⟩:=it3;exact ⟨o,(sb.2 I nIS).trans e1,e2⟩
  ·refine (show wpAny _ _ (if HT.lexLt (g y) (g b)=true then _ else _) _ _ _ from ?_);rw [qAB e];refine qAA (qCB (qAE ⟨rfl,?_⟩));refine ih (j+1) b t kb _ H3 hd' (by lia) ?_ kb3 ⟨M.kp.trans qh,I3,f3,it3,⟨_,S3⟩,nf3,nI3,nS3⟩;rw [<-hf];show _=fmin g l (if HT.lexLt (g y) (g b)=true then y else b);rw [qAB e]
theorem minK_first {lam:Obj} {f I S p:Addr} {l:List Str} {g:Str->List Int} {R:Result->Shared->Prop} (hu:X.A.units+4<cLine) (hc':X.calm=true) (hp:H p=some (.lst ((x::l).map V.str))) (ff:FpOk X pins H f) (fI:FpOk X pins H I) (fS:FpOk X pins H S) (nIS:I≠S) (nfI:f≠I) (nfS:f≠S) (npI:p≠I) (npS:p≠S)
  (turn:MTurn X pins σ H lam f (x::l) g)
  (fin:∀v t s' H',v= .str (fmin g l x) t->Kp [] H H'->Inv X pins σ H' s'->R (.ok (.ret v)) s') (M:MN X pins σ H H lam f I S p 0 #[] s) :
  codeAny (model X.prog X.w) X.A (Code.builtin "min.loop" {pos:=[.ref I,.ref f,.ref S]}) R s:=by
 obtain ⟨nS,hS⟩:=M.so;obtain ⟨its,r,pl,hz⟩:=M.inv.list (SqL.of (K:=X.K) hp);have hSt:=zC8 r;have hln:its.length=(x::l).length:=ST.strs_len hSt;refine qBG F.entry_min_loop ?_;rw [qBP F.plain_min_loop _];refine qAA (m:=seqItems? (.ref S)) ?_;rw [seqItems?.eq_1];refine qAA (qB0 hS ?_);refine qAE ?_;have W:=qCS (prog:=X.prog) (w:=X.w) (A:=X.A.in1) (M.inv.ok.hd hc') I p npI its.toArray;refine qAA (qCd (W.item 0 s _ _ (by rw [qAJ,hln];simp) ⟨M.it,pl.isList⟩ fun v h' tk hv st' hk'=>?_));have g2:=hk' S _ (fun z=>nIS (show S=I by simpa using z).symm) hS;have f2:=hk' f _ (fun z=>nfI (by simpa using z)) M.fo;have I1:Inv X pins σ H {s with heap:=h',toks:=tk}:=M.inv.turned (t':=tk) (fun b o n q=>hk' b o (fun z=>n (by simpa using z)) q) fI.1 fI.2.1 fI.2.2.2.1 fI.2.2.2.2.1 fI.2.2.2.2.2
 obtain ⟨ty,rfl⟩:∃t,v= .str x t:=by
  have hv:its[0]?=some v:=by simpa using hv
  obtain ⟨x2,t,rfl⟩:=hSt.all v (qAL hv);have h2:(its.map strOf)[0]?=some x2:=by rw [qAZ,hv];rfl
  rw [hSt.strs] at h2
  cases h2
  exact ⟨t,rfl⟩
 refine qAA (qCd (qAx (qAq (turn x qAS ty _ H Kp.refl I1 f2) (fun rr s3 hE=>?_) fun _ _ hF=>hF.elim)));obtain ⟨vv,H3,os,bare,un,hok3,rv,a3,qv,qa,qh⟩:=hE;subst qv
 cases rv
 have I3:Inv X pins σ H3 s3:=I1.call' os un hok3 bare (fun b z=>nomatch z);have S3:=un.keep _ _ g2 fS.1 (fS.nstk I1) (by simp);have f3:=un.keep _ _ f2 ff.1 (ff.nstk I1) (by simp);have nf3:H3 f=none:=un.free _ _ f2 ff.1 (by simp);have nS3:H3 S=none:=un.free _ _ g2 fS.1 (by simp);obtain ⟨o,e1,e2⟩:=st'.1;have nI3:H3 I=none:=un.free _ _ e1 fI.1 (by simp);have sb:=qAp s3.heap S (Obj.mapSeq fun _=>(#[.str x ty,.ref a3]:Array Value));refine qAA (qCa S3 rfl (qAE ⟨rfl,?_⟩) (by rw [qAM];simp) (by rw [qAM];simp));exact minK_loop (ks:=x::l) hu hc' hp ff fI fS nIS nfI nfS npI npS turn fin l 1 x ty a3 _ H3 rfl (by simp) rfl qa ⟨qh,I3.turned (t':=s3.toks) (fun b o n q=>(sb.2 b n).trans q) nS3 fS.2.1 fS.2.2.2.1 fS.2.2.2.2.1 fS.2.2.2.2.2,(sb.2 f nfS).trans f3,⟨o,(sb.2 I nIS).trans (un.keep _ _ e1 fI.1 (fI.nstk I1) (by simp)),e2⟩,⟨_,qBv S3 fun _=>#[.str x ty,.ref a3]⟩,nf3,nI3,nS3⟩
end
section
variable {X:Cx} {pins:List (Addr×Obj)} {σ:St} {H:Hp} {s:Shared}
def tMinK (ta:TA) (iy iz:Nat) (P:Addr) (qual:Str) (lp:Pos) (te:TE):TE:=fun σ H Q=>ta σ H fun xs H1=>∃(a:Addr) (x:Str) (l:List Str) (g:Str->List Int) (vy vz:V),xs=[.ref a]/\σ[iy]?=some (some vy)/\σ[iz]?=some (some vz)/\H1 a=some (.lst ((x::l).map V.str))/\Tab0 H1 P qual lp /\
 ∀H2,Kp [P] H1 H2->Tab1 H2 P qual lp->(∀y∈x::l,∀H',Kp [] H2 H'->te [some (.str y),some vy,some vz] H' fun r H3=>∃a,r= .ref a/\H3 a=some (.lst ((g y).map V.int))/\Kp [] H' H3)/\∀H3,Kp [] H2 H3->Q (.str (fmin g l x)) H3
theorem pe_minK {e:Expr} {ta:TA} {p pos kp lp:Pos} {params:Arguments} {body:Expr} {x y z qual:Str} {c d c0 P:Addr} {iy iz:Nat} {te:TE} {k:Nat} (hr:Room (k+2) X.A) (hc':X.calm=true) (hg:Gl X "min") (hm:X.mg "min" = none) (hb:bootBuiltins "min" = some (.builtin "min")) (ha:PA X [e] ta)
  (S:LamScope2 x y z scope) (yz:y≠z) (hN:X.N[iy]?=some y) (hN2:X.N[iz]?=some z) (hk:X.env.kindOf y=some .cell) (hk2:X.env.kindOf z=some .cell) (hy:X.env.cells.lookup y=some c) (hz:X.env.cells.lookup z=some d) (hcl:closureFor scope X.env=pure [(y,c),(z,d)]) (hq:X.env.qual++ "<lambda>" = qual) (hcode:X.env.code= .ref c0) (C:PySem.W.CodeHd X.base c0 P) (B:zHp X.mg X.base)
  (hdef:defaultsOf params X.env=([],[])) (hbind:∀(pm:Value) (c':Addr) (ctv u:Value),bindArgs (PySem.W.kla_fn "<lambda>" qual params body scope [(y,c),(z,d)] pm (.ref c') ctv) ⟨[u],[]⟩=pure [(x,u)])
  (ht:∀(f:Addr) (cd:Value) (A:Around) (s:Shared) (H:Hp),Room k (A.deeper (PySem.W.envX qual scope s.heap.objs.size f cd [(y,c),(z,d)]))->PE (cxLam X [x,y,z] qual scope f cd [(y,c),(z,d)] A s H) body te) (hs:starEach [e] X.env=[(false,eval e X.env)]:=by rfl) :
  PE X (.Call (.Name "min" p) [e] [⟨some (Str.ofString "key"),.Lambda params body scope lp,kp⟩] pos) (tMinK ta iy iz P qual lp te):=by
 intro pins s σ H Q I h;refine qB3 (zEb I hg hm hb ?_);refine qDi (by rw [hs];rfl) rfl ?_;have ha':=ha pos pins s σ H _ I h;have e0:backTo pos (starEach [e] X.env)=(false,eval e X.env)::[]:=by rw [hs];rfl
 rw [e0] at ha' ⊢;refine evalArgs_kwB rfl (thn ha' fun us s1 ⟨vs,H1,I1,r1,q1⟩=>?_);obtain ⟨a,x0,l,g,vy,vz,e1,hσ,hσ2,ea,T,q⟩:=q1;subst e1;obtain ⟨u,rfl,ru⟩:=r1.one
 cases ru
 show wpAny _ _ (evalAll ((do let v<-eval (.Lambda params body scope lp) X.env;standAt pos;pure v)::[])) _ _ s1;refine qC5 (qAA (PySem.W.kla_eval hdef ?_));rw [hq];refine lam_make I1 hcl hcode C B T fun f c' ctv pm H2 s2 I2 k2 T2 ec fo ff=>?_;refine qAA (qBy (qAE (wpAny_evalAll_nil ?_)));obtain ⟨qb,qr⟩:=q H2 k2 T2
 have naP:a≠P:=fun z=>by
  rcases T with t| ⟨_,t,_⟩
  ·rw [z,t] at ea;cases ea
  ·rw [z,t] at ea;cases ea
 have ea2:H2 a=some (.lst ((x0::l).map V.str)):=k2 a _ ea (by simp [naP]);obtain ⟨its0,r',pl,hz0⟩:=I2.list (SqL.of (K:=X.K) ea2);have hI:=pl.isList;have ck:checkBuiltinCall "min" {pos:=[.ref a],kw:=[(Str.ofString "key",.ref f)]}=pure ():=rfl;refine qCK (f:=.builtin "min") (pos:=[.ref a]) (kw:=[(Str.ofString "key",.ref f)]) (codeAny_call_builtin_code rfl ?_);rw [ck];refine qAE (qBG F.entry_min ?_);rw [qBP F.plain_min _];refine qAA (m:=Builtin.Builtins.bindParams "min" ["key", "default"] 0 {kw:=[(Str.ofString "key",.ref f)]}) (qAE ?_);refine qAA (qAE ?_);refine qAA (Flt.iter_list_ hI fun s3 e3 ⟨w1,w2⟩ w3 w4=>?_);refine qAA (qC1 ?_ (qAd _));refine qAE ⟨rfl,?_⟩;have k3:∀b o,s2.heap.get? b=some o->s3.heap.get? b=some o:=fun b o q=>by rw [e3];exact qAI _ q
 have hnew:(s3.heap.push {cls:=.type "list",data:=.seq #[]}).get? s3.heap.objs.size=some {cls:=.type "list",data:=.seq #[] 0}:=qAc _ rfl;have up:∀b o,s3.heap.get? b=some o->(s3.heap.push {cls:=.type "list",data:=.seq #[]}).get? b=some o:=fun b o q=>qAI _ q;have z3:s2.heap.objs.size<=s3.heap.objs.size:=qBx (w3 _ (by simp));have flt:f<s2.heap.objs.size:=qAK fo;have fI:FpOk X pins H2 s2.heap.objs.size:=I2.fpOk (qAF _) (I2.hok.fresh (qAF _));have fS:FpOk X pins H2 s3.heap.objs.size:=I2.fpOk z3 (I2.hok.fresh z3)
 have I4:Inv X pins σ H2 {s3 with heap:=s3.heap.push {cls:=.type "list",data:=.seq #[]}}:=by
  subst e3;exact I2.kept (t':=s2.toks) fun b o q=>up b o (k3 b o q)
 have hun:=hr.units;refine minK_first (g:=g) (lam:=PySem.W.kla_obj "<lambda>" qual params body scope [(y,c),(z,d)] pm c' ctv) (f:=f) (by lia) hc' ea2 ff fI fS (qAN (w3 _ (by simp))) (qAN flt) (qAN (qAn flt z3)) w4 (qAN (w3 _ (by simp))) (fun y' hy' t s' H5 k5 I5 fo5=>?_) (fun v t s' H5 ev k5 I5=>?_) ⟨Kp.refl,I4,up _ _ (k3 _ _ fo),?_,⟨_,hnew⟩,ff.1,fI.1,fS.1⟩
 ·obtain ⟨uy,ry,iy'⟩:=I5.cellAt hN hσ hk hy;obtain ⟨uz,rz,iz'⟩:=I5.cellAt hN2 hσ2 hk2 hz;have hr2:Room (k+1) X.A.in1:=Room.in1 hr;exact lam_call2 (A:=X.A.in1) (vx:=.str y') I5 I5.ok.frames hr2.hd hr2.depth fo5 (codeO_rec I5 (k5 _ _ ec (by simp))) S yz (hbind _ _ _ _) hy hz iy' iz' ry rz ⟨t,rfl⟩ (ht _ _ _ _ _ (hr2.deeper _)) (qb y' hy' H5 k5)
 ·exact ⟨.str _,H5,I5,by rw [ev];exact ⟨t,rfl⟩,qr H5 k5⟩
 ·obtain ⟨o,o1,o2⟩:=w1;exact ⟨o,up _ _ o1,o2⟩
end
end L2
namespace My
open PySem L2
variable {O:List Str}{x y:Str}{near:Str->List Str}{H:Hp}
theorem zD8:∀(a b c:List Int),HT.lexLt a b=true->HT.lexLt b c=true->HT.lexLt a c=true
 | [],[],_,h,_=>by rw [HT.lexLt_nil_nil] at h;cases h
 | [],y::b,[],_,h=>by rw [HT.lexLt_cons_nil] at h;cases h
 | [],y::b,z::c,_,_=>HT.lexLt_nil_cons z c
 | x::a,[],_,h,_=>by rw [HT.lexLt_cons_nil] at h;cases h
 | x::a,y::b,[],_,h=>by rw [HT.lexLt_cons_nil] at h;cases h
 | x::a,y::b,z::c,h1,h2=>by
  rw [HT.lexLt_cons] at h1 h2 ⊢
  by_cases e1:x=y
  ·rw [qAC e1] at h1
   by_cases e2:y=z
   ·rw [qAC e2] at h2;rw [qAC (e1.trans e2)];exact zD8 a b c h1 h2
   ·rw [qAB e2] at h2;rw [qAB (by rw [e1];exact e2),e1];exact h2
  ·rw [qAB e1] at h1;have h1:=qAi h1
   by_cases e2:y=z
   ·rw [qAB (by rw [<-e2];exact e1),<-e2];exact qAR h1
   ·rw [qAB e2] at h2;have h2:=qAi h2;rw [qAB (by lia)];exact qAR (by lia)
theorem zHc:∀(a:List Int),HT.lexLt a a=false
 | []=>HT.lexLt_nil_nil
 | x::a=>by rw [HT.lexLt_cons,qAC rfl];exact zHc a
theorem fmin_mem (g:Str->List Int):∀(l:List Str) (b:Str),fmin g l b∈b::l
 | [],b=>qAS
 | y::l,b=>by
  show fmin g l (if HT.lexLt (g y) (g b)=true then y else b)∈b::y::l;have:=fmin_mem g l (if HT.lexLt (g y) (g b)=true then y else b);rcases qAO.mp this with z| z
  ·rw [z];split
   ·simp
   ·simp
  ·simp [z]
theorem fmin_le (g:Str->List Int):∀(l:List Str) (b:Str),(fmin g l b=b\/HT.lexLt (g (fmin g l b)) (g b)=true)/\∀y∈l,HT.lexLt (g y) (g (fmin g l b))≠true
 | [],b=>⟨.inl rfl,fun _ h=>nomatch h⟩
 | y::l,b=>by
  obtain ⟨h1,h2⟩:=fmin_le g l (if HT.lexLt (g y) (g b)=true then y else b);have e:fmin g (y::l) b=fmin g l (if HT.lexLt (g y) (g b)=true then y else b):=rfl;rw [e]
  by_cases c:HT.lexLt (g y) (g b)=true
  ·rw [qAC c] at h1 h2 ⊢;refine ⟨.inr ?_,fun z hz=>?_⟩
   ·rcases h1 with q| q
    ·rw [q];exact c
    ·exact zD8 _ _ _ q c
   ·rcases qAO.mp hz with w| w
    ·rw [w];intro hw;rcases h1 with q| q
     ·rw [q,zHc] at hw;cases hw
     ·have:=zD8 _ _ _ hw q;rw [zHc] at this;cases this
    ·exact h2 z w
  ·rw [qAB c] at h1 h2 ⊢;refine ⟨h1,fun z hz=>?_⟩;rcases qAO.mp hz with w| w
   ·rw [w];intro hw;rcases h1 with q| q
    ·rw [q] at hw;exact c hw
    ·exact c (zD8 _ _ _ hw q)
   ·exact h2 z w
theorem fmin_least (g:Str->List Int) (x:Str) (l:List Str):∀y∈x::l,HT.lexLt (g y) (g (fmin g l x))≠true:=fun y hy=>by
 obtain ⟨h1,h2⟩:=fmin_le g l x;rcases qAO.mp hy with w| w
 ·rw [w];intro hw;rcases h1 with q| q
  ·rw [q,zHc] at hw;cases hw
  ·have:=zD8 _ _ _ hw q;rw [zHc] at this;cases this
 ·exact h2 y w
def zB6 (l:List Int):List Int:=l.mergeSort fun a b=>decide (a>=b)
theorem zI7 {l z:List Int} (p:z.Perm l) (h:z.Pairwise (·>=·)):z=zB6 l:=by
 have h2:(zB6 l).Pairwise (·>=·):=by
  have:=qDj (le:=fun a b:Int=>decide (a>=b)) (fun a b c h1 h2=>by
   have h1:=qAi h1;have h2:=qAi h2;exact qAR (by lia)) (fun a b=>by
   rcases Int.le_total a b with z| z
   ·simp [z]
   ·simp [z]) l
  exact this.imp fun h=>qAi h
 exact List.Perm.eq_of_pairwise (fun a b _ _ h1 h2=>by lia) h h2 (p.trans (List.mergeSort_perm _ _).symm)
theorem dsort_perm {l m:List Int} (p:l.Perm m):zB6 l=zB6 m:=by
 have h2:(zB6 l).Pairwise (·>=·):=by
  have:=qDj (le:=fun a b:Int=>decide (a>=b)) (fun a b c h1 h2=>by
   have h1:=qAi h1;have h2:=qAi h2;exact qAR (by lia)) (fun a b=>by
   rcases Int.le_total a b with z| z
   ·simp [z]
   ·simp [z]) l
  exact this.imp fun h=>qAi h
 exact zI7 ((List.mergeSort_perm _ _).trans p) h2
def rk (O:List Str) (x:Str):Int:=(O.idxOf x:Int)+1
theorem rk_old (h:y∈O):rk (O++[x]) y=rk O y:=by unfold rk;rw [List.idxOf_append,qAC h]
theorem rk_new (h:x∉O):rk (O++[x]) x=(O.length:Int)+1:=by
 unfold rk;rw [List.idxOf_append,qAB h];simp
theorem rk_take {i:Nat} (h:y∈O.take i):rk (O.take i) y=rk O y:=by
 have e:O=O.take i++O.drop i:=(qA8 i O).symm
 have e2:O.idxOf y=(O.take i).idxOf y:=by
  have q:(O.take i++O.drop i).idxOf y=(O.take i).idxOf y:=by rw [List.idxOf_append,qAC h]
  rwa [<-e] at q
 unfold rk;rw [e2]
theorem rk_lt {i:Nat} (nd:O.Nodup) (hy:y∈O):rk O y<(i:Int)+1↔y∈O.take i:=by
 have lt:=qDO.mpr hy;constructor
 ·intro h;have h:O.idxOf y<i:=by unfold rk at h;lia
  rw [List.mem_take_iff_getElem];exact ⟨O.idxOf y,by lia,qC2 lt⟩
 ·intro h;have h2:(O.take i).idxOf y<(O.take i).length:=qDO.mpr h;rw [<-rk_take h];rw [qAX] at h2;unfold rk;lia
def kvR (O:List Str):List (Key×V):=dT1 O fun n=>.int (rk O n)
def gk (near:Str->List Str) (O:List Str) (x:Str):List Int:=zB6 ((near x).map (rk O))
def redy (near:Str->List Str) (O:List Str) (x:Str):Bool:=(near x).all fun y=>decide (y∈O)
def deal (near:Str->List Str):Nat->List Str->List Str->List Str
 | 0,O,_=>O
 | n+1,O,L=>match L.filter (redy near O) with
  | []=>O
  | x::l=>deal near n (O++[fmin (gk near O) l x]) (L.erase (fmin (gk near O) l x))
structure Dl (near:Str->List Str) (ns O:List Str):Prop where
 nd:O.Nodup
 sub:∀x∈O,x∈ns
 bef:∀i (h:i<O.length),∀y∈near O[i],y∈O.take i
 lst:∀i (h:i<O.length),∀z∈ns,z∉O.take i->(∀y∈near z,y∈O.take i)->HT.lexLt (gk near (O.take i) z) (gk near (O.take i) O[i])≠true
theorem Dl.nil (near:Str->List Str) (ns:List Str):Dl near ns []:=⟨qAy,(fun _ h=>nomatch h),(fun i h=>absurd h (qCX _)),fun i h=>absurd h (qCX _)⟩
theorem Dl.more {ns:List Str} {b:Str} (D:Dl near ns O) (hb:b∈ns) (nb:b∉O) (rb:∀y∈near b,y∈O) (lb:∀z∈ns,z∉O->(∀y∈near z,y∈O)->HT.lexLt (gk near O z) (gk near O b)≠true):Dl near ns (O++[b]):=by
 have tk:∀i,i<O.length->(O++[b]).take i=O.take i:=fun i h=>by rw [List.take_append_of_le_length (by lia)]
 have tl:(O++[b]).take O.length=O:=by rw [List.take_left'];rfl
 refine ⟨?_,fun x hx=>?_,fun i h y hy=>?_,fun i h z hz nz rz=>?_⟩
 ·rw [qBg];refine ⟨D.nd,by simp,fun x hx y hy=>?_⟩;rw [qAP] at hy;rw [hy];exact fun z=>nb (z▸hx)
 ·rcases qAQ.mp hx with z| z
  ·exact D.sub x z
  ·rw [qAP.mp z];exact hb
 ·rw [qAf,qBN] at h
  by_cases c:i<O.length
  ·rw [tk i c];rw [List.getElem_append_left c] at hy;exact D.bef i c y hy
  ·have:i=O.length:=by lia
   subst this;rw [tl];rw [List.getElem_append_right (qAF _)] at hy;exact rb y (by simpa using hy)
 ·rw [qAf,qBN] at h
  by_cases c:i<O.length
  ·rw [tk i c] at nz rz ⊢;rw [List.getElem_append_left c];exact D.lst i c z hz nz rz
  ·have:i=O.length:=by lia
   subst this;rw [tl] at nz rz ⊢;rw [List.getElem_append_right (qAF _)];simpa using lb z hz nz rz
structure Stp (near:Str->List Str) (ns O L:List Str):Prop where
 dl:Dl near ns O
 pm:(O++L).Perm ns
theorem zGj :redy near O x=true↔∀y∈near x,y∈O:=by
 unfold redy;rw [qA6];exact ⟨fun h y hy=>qAi (h y hy),fun h y hy=>qAR (h y hy)⟩
theorem Stp.some {ns L:List Str} (S:Stp near ns O L) (m:Str->Nat) (hm:∀x∈ns,∀y∈near x,y∈ns/\m x<m y) (hL:L≠[]):∃x l,L.filter (redy near O)=x::l:=by
 obtain ⟨x,hx,least⟩:∃x∈L,∀y∈L,m y<=m x:=by
  clear S
  induction L with
  | nil=>exact absurd rfl hL
  | cons a L ih =>
   by_cases e:L=[]
   ·subst e;exact ⟨a,by simp,fun y hy=>by rw [qAP.mp hy];exact qAF _⟩
   ·obtain ⟨x,hx,h⟩:=ih e
    by_cases c:m x<=m a
    ·refine ⟨a,by simp,fun y hy=>?_⟩;rcases qAO.mp hy with z| z
     ·rw [z];exact qAF _
     ·exact qAW (h y z) c
    ·refine ⟨x,by simp [hx],fun y hy=>?_⟩;rcases qAO.mp hy with z| z
     ·rw [z];lia
     ·exact h y z
 have xn:x∈ns:=S.pm.mem_iff.mp (qAv _ hx)
 have rx:redy near O x=true:=zGj.mpr fun y hy=>by
  obtain ⟨yn,lt⟩:=hm x xn y hy;rcases qAQ.mp (S.pm.mem_iff.mpr yn) with z| z
  ·exact z
  ·have:=least y z;lia
 have:x∈L.filter (redy near O):=qAY.mpr ⟨hx,rx⟩
 cases e:L.filter (redy near O) with
 | nil=>rw [e] at this;cases this
 | cons a l=>exact ⟨a,l,rfl⟩
theorem Stp.next {ns L:List Str} (S:Stp near ns O L) (nd:ns.Nodup) {l:List Str} (e:L.filter (redy near O)=x::l):Stp near ns (O++[fmin (gk near O) l x]) (L.erase (fmin (gk near O) l x))/\fmin (gk near O) l x∈L/\fmin (gk near O) l x∉O:=by
 have nd2:(O++L).Nodup:=S.pm.nodup_iff.mpr nd;have bm:=fmin_mem (gk near O) l x;rw [<-e] at bm;obtain ⟨bL,br⟩:=qAY.mp bm;have bO:fmin (gk near O) l x∉O:=fun z=>(qBg.mp nd2).2.2 _ z _ bL rfl;have bn:fmin (gk near O) l x∈ns:=S.pm.mem_iff.mp (qAv _ bL);refine ⟨⟨S.dl.more bn bO (zGj.mp br) fun z hz nz rz=>?_,?_⟩,bL,bO⟩
 ·have zL:z∈L:=by
   rcases qAQ.mp (S.pm.mem_iff.mpr hz) with q| q
   ·exact absurd q nz
   ·exact q
  exact fmin_least _ x l z (by rw [<-e];exact qAY.mpr ⟨zL,zGj.mpr rz⟩)
 ·rw [qBM];exact ((List.Perm.append_left O (List.perm_cons_erase bL).symm)).trans S.pm
theorem deal_dl {near:Str->List Str} {ns:List Str} (nd:ns.Nodup) (m:Str->Nat) (hm:∀x∈ns,∀y∈near x,y∈ns/\m x<m y):∀(n:Nat) (O L:List Str),Stp near ns O L->L.length<=n->Dl near ns (deal near n O L)/\(deal near n O L).Perm ns
 | 0,O,L,S,h=>by
  have:L=[]:=qCY.mp (by lia);subst this;exact ⟨S.dl,by have:=S.pm;rwa [qA2] at this⟩
 | n+1,O,L,S,h=>by
  by_cases c:L=[]
  ·subst c;exact ⟨S.dl,by have:=S.pm;rwa [qA2] at this⟩
  ·obtain ⟨x,l,e⟩:=S.some m hm c;obtain ⟨S2,bL,_⟩:=S.next nd e
   have q:deal near (n+1) O L=deal near n (O++[fmin (gk near O) l x]) (L.erase (fmin (gk near O) l x)):=by
    show (match L.filter (redy near O) with| []=>O| x::l=>deal near n (O++[fmin (gk near O) l x]) (L.erase (fmin (gk near O) l x)))=_;rw [e]
   rw [q];exact deal_dl nd m hm n _ _ S2 (by rw [qCy bL];lia)
def lamQ:Str:=Str.ofString "ranks" ++ ".<locals>." ++ "<lambda>"
def lamPos:Pos:=⟨181,31,181,76⟩
abbrev TabA (H:Hp) (Pt:Addr):Prop:=Tab0 H Pt lamQ lamPos
theorem TabA.kp {H':Hp} {Pt:Addr} (h:TabA H Pt) (k:Kp [] H H'):TabA H' Pt:=by
 rcases h with e| ⟨c,e,ec⟩
 ·exact .inl (k _ _ e (by simp))
 ·exact .inr ⟨c,k _ _ e (by simp),k _ _ ec (by simp)⟩
theorem TabA.tbl {Pt:Addr} (h:TabA H Pt):∃ps,H Pt=some (.tbl ps):=by
 rcases h with e| ⟨c,e,_⟩
 ·exact ⟨_,e⟩
 ·exact ⟨_,e⟩
theorem okC {P:Program} {w:World} {K:PySem.W.Frag} {mg:Str->Option Value} {base:Heap} {qual:Str} {st:Stmt} {f c0:Addr} {oc:Value} {od an:Option Addr} {osl:Array (Option Value)} {kV doc pm ct:Value} {N ps:List Str} {k:Nat} {sp:Sp}
  (lk:K.lookup f=some ⟨oc,od,.func (PySem.W.fnOf x qual (zBe st) (zA6 st) (zAd st) .none kV doc pm an (.ref c0) ct),osl⟩) (hcd:PySem.W.codeIn K (.ref c0) qual=true) (S:FnScope N ps (zAd st)) (len:∀vs H Q E,sp vs H Q E->vs.length=ps.length)
  (hbody:∀(A:Around) (outer:List Env) (s:Shared) (H:Hp) (vs:List V) (Q:VK) (E:XK),Room k (A.deeper (PyProof.Rows.envOfC qual (zAd st) s.heap.objs.size f (.ref c0)))->sp vs H Q E ->
   ∃t,PSs (cxOf CX0 P w K mg base N qual (zAd st) f (.ref c0) A outer s H E).nox (zA6 st) t/\t {nx:=fun _ H'=>Q .non H',rt:=Q} (L2.start N vs) H):FnOk P w K mg base CX0 (k+1) f (PySem.W.fnOf x qual (zBe st) (zA6 st) (zAd st) .none kV doc pm an (.ref c0) ct) ps sp:=by
 refine fn_of lk hcd S len fun A outer s H vs Q E hr hsp=>?_;obtain ⟨t,h,q⟩:=hbody A outer s H vs Q E hr hsp;exact ⟨t,h.nox,q⟩
theorem zHh {M:List Addr} {e:Addr} {H1 H2:Hp} (a:Kp M H H1) (f:Fre H e) (b:Kp [e] H1 H2):Kp M H H2:=fun c o h n=>b c o (a c o h n) (nm1 (ne_fre f h))
theorem zEt {Q:Addr} {q:Str} {ps:Pos} (h:Tab0 H Q q ps):∃xs,H Q=some (.tbl xs):=by
 rcases h with e| ⟨c,e,_⟩
 ·exact ⟨_,e⟩
 ·exact ⟨_,e⟩
theorem zBk {Q a:Addr} {o:HO} (t:∃xs,H Q=some (.tbl xs)) (h:H a=some o) (no:∀ps,o≠.tbl ps):a≠Q:=fun z=>by
 obtain ⟨ps,e⟩:=t;rw [z,e] at h;exact no ps (qAh h).symm
theorem zE8 {M:List Addr} {H':Hp} {Q:Addr} {q:Str} {ps:Pos} (h:Tab0 H Q q ps) (k:Kp M H H') (n:Q∉M) (n':∀a o,H a=some o->(∀xs,o≠.lst xs)->(∀xs,o≠.tbl xs)->a∉M):Tab0 H' Q q ps:=by
 rcases h with e| ⟨c,e,ec⟩
 ·exact .inl (k _ _ e n)
 ·exact .inr ⟨c,k _ _ e n,k _ _ ec (n' _ _ ec (fun _ z=>nomatch z) fun _ z=>nomatch z)⟩
theorem kvR_put (h:x∉O):putK (kvR O) (Sum.inr x) (.int ((O.length:Int)+1))=kvR (O++[x]):=by
 unfold kvR;rw [zDl _ h];have e:dT1 (O++[x]) (fun n=>V.int (rk (O++[x]) n))=dT1 O (fun n=>V.int (rk (O++[x]) n))++[(.inr x,.int (rk (O++[x]) x))]:=by unfold dT1;rw [qAU];rfl
 rw [e,rk_new h];have e2:dT1 O (fun n=>V.int (rk (O++[x]) n))=dT1 O (fun n=>V.int (rk O n)):=zEf fun n hn=>by rw [rk_old hn]
 rw [e2]
theorem kvR_get (h:x∈O):valV (kvR O) (Sum.inr x)=some (.int (rk O x)):=by unfold kvR;rw [zBb,qAC h]
theorem kvR_len (O:List Str):(kvR O).length=O.length:=by unfold kvR dT1;rw [qAD]
section
variable {P:Program} {w:World} {K:PySem.W.Frag} {mg:Str->Option Value} {base:Heap} {C:Addr}
def spFall:Sp:=fun vs H Q _=>∃(d l:Addr) (kvs:List (Key×V)) (row:List Str) (f:Str->Int),vs=[.ref d,.ref l]/\H d=some (.dK kvs)/\Txs H l row/\row.length<64/\(∀y∈row,valV kvs (.inr y)=some (.int (f y)))/\∀b H',Fre H b->H' b=some (.lst ((zB6 (row.map f)).map V.int))->Kp [] H H'->Q (.ref b) H'
theorem fall_read {l:Addr} {row:List Str} {f:Str->Int} {Q:VK} (hl:Txs H l row) (len:row.length<64) (k:∀b H',Fre H b->H' b=some (.lst ((zB6 (row.map f)).map V.int))->Kp [] H H'->Q (.ref b) H') {B:Addr} (hB:H B=none) (b:Addr) (zs:List Int) (hb:upd H B (.lst ((row.map f).map V.int)) b=none) (pm:zs.Perm (row.map f)) (pw:zs.Pairwise (·>=·)):Q (.ref b) (upd (upd H B (.lst ((row.map f).map V.int))) b (.lst (zs.map V.int))):=by
 have nb:b≠B:=fun z=>by rw [z,upd_same] at hb;cases hb
 have fb:Fre H b:=by rw [upd_ne nb] at hb;exact hb
 refine k b _ fb ?_ (Kp.new (Kp.new Kp.refl hB) fb);rw [upd_same,zI7 pm pw]
abbrev zBz:Stmt:=top 36
theorem zGa:FnScope ["dealt", "row"] ["dealt", "row"] (zAd zBz):=fnS
theorem zGd {f:Addr} {fd:FuncData} (F:Fun K "falling_ranks" "falling_ranks" zBz f fd) (T:Txt K mg):FnOk P w K mg base CX0 1 f fd ["dealt", "row"] spFall:=by
 refine F.ok zGa (fun vs H Q E h=>?_) (fun cdv A outer s H vs Q E hr h=>?_)
 ·obtain ⟨d,l,kvs,row,g,rfl,_⟩:=h;rfl
 ·obtain ⟨d,l,kvs,row,g,rfl,hd,hl,len,hg,k⟩:=h;have hu:=zDq hr;refine ⟨_,(zAe (zAo (pe_sortedRI (by rfl) T.z_sorted zEh (zAa (zBj rfl (zBn (sc:=zAd zBz) rfl (by decide +kernel)) (Draws.own (x:= "name") (dtk (i:=0) rfl Draws.nil)) (zAk (pv 1)) (fun _ _ _ _=>(pgB (i:=0))) (fun _ _ _ _=>zC1) (fun _ _ _ _=>(zA4 hu (pv 1) (pv 0) (fun _ _=>rfl)))) zAb)))),?_⟩
  refine ⟨_,rfl,_,rfl,⟨_,SqL.of hl⟩,fun B hB=>zBg (row.map V.str) (fun i ys τ H3=>(∃o0,τ=[o0,some (.ref d)])/\ys=((row.take i).map g).map V.int/\H3=upd H B (.lst ys))
   ⟨⟨_,rfl⟩,rfl,rfl⟩ (fun i ys τ H3 ⟨_,_,z⟩=>by subst z;exact SqL.of ((Kp.new (M:=[]) Kp.refl hB) _ _ hl (by simp))) ?_ ?_⟩
  ·rintro i v ys τ H3 hv ⟨⟨o0,rfl⟩,rfl,rfl⟩;obtain ⟨n,en,rfl⟩:=zA2 hv;have h5:upd H B (.lst (((row.take i).map g).map V.int)) d=some (.dK kvs):=(Kp.new (M:=[]) Kp.refl hB) _ _ hd (by simp);refine ⟨_,rfl,_,rfl,d,_,rfl,by have:=DGet.k (k:=Sum.inr n) h5;rw [hg n (qAL en)] at this;exact this,upd_same,by rw [qAD,qAD,qAX,qAM];lia,⟨_,rfl⟩,?_,zCf⟩;rw [zAi en,qAU,qAU];rfl
  ·rintro ys τ H3 ⟨_,rfl,rfl⟩;have eT:row.take (row.map V.str).length=row:=by rw [qAD,qAj]
   rw [eT];exact ⟨B,row.map g,rfl,SqL.of upd_same,by rw [qAD];exact len,fun b zs hb pm pw=>fall_read hl len k hB b zs hb pm pw⟩
end
def zFz (J:JR):List Str:=deal (strB J) J.ns.length [] J.ns
theorem strB_len {J:JR} (x:Str):(strB J x).length<=J.ns.length:=qAW (qBH _ _) (qBH _ _)
theorem zIg {J:JR} (h:y∈strB J x):y∈J.ns/\x∈J.S y:=by
 have h1:=(qAY.mp (qAY.mp h).1);exact ⟨h1.1,qAi h1.2⟩
theorem strB_up {C:Addr} {j:Addr} {J:JR} {qs:List (List Str×Addr)} {r:Str->Nat} (A:JobsAt C H j J) (G:Good J.ns qs r) (hz:∀k,k∈J.zs.map (·.1)↔k∈qs.map (·.1)):∀x∈J.ns,∀y∈strB J x,y∈J.ns/\r x<r y:=fun x hx y hy=>by
 obtain ⟨h1,h2⟩:=zIg hy;exact ⟨h1,S_rank A G hz _ y x (qAF _) h1 h2⟩
section
variable {P:Program} {w:World} {K:PySem.W.Frag} {mg:Str->Option Value} {base:Heap} {C:Addr}
def spRanks (C Pt:Addr):Sp:=fun vs H Q _=>∃(j:Addr) (J:JR) (qs:List (List Str×Addr)) (r:Str->Nat),vs=[.ref j]/\JobsAt C H j J/\Good J.ns qs r/\(∀k,k∈J.zs.map (·.1)↔k∈qs.map (·.1))/\TabA H Pt /\
 ∀(d:Addr) (H':Hp),Kp [Pt] H H'->TabA H' Pt->Fre H d->H' d=some (.dK (kvR (zFz J)))->Q (.ref d) H'
abbrev zCz:Stmt:=top 35
theorem zDe:FnScope ["jobs", "near", "name", "dealt", "left", "ready", "least"] ["jobs"] (zAd zCz):=fnS
theorem ok_ranks {f c0 Pt:Addr} {oc:Value} {od an:Option Addr} {osl:Array (Option Value)} {kV doc pm ct:Value} (lk:K.lookup f=some ⟨oc,od,.func (PySem.W.fnOf "ranks" "ranks" (zBe zCz) (zA6 zCz) (zAd zCz) .none kV doc pm an (.ref c0) ct),osl⟩) (hcd:PySem.W.codeIn K (.ref c0) "ranks" = true) (T:Txt K mg) (U:JC K mg C) (B:zHp mg base) (CH:PySem.W.CodeHd base c0 Pt)
  (M_names:Mth P w K mg base C "names" 1 ["self"] (zIh C)) (M_straight:Mth P w K mg base C "straight" 4 ["self", "name"] (zH3 C)) (C_has_all:Cal P w K mg base "has_all" 1 ["done", "names"] zIj) (C_falling_ranks:Cal P w K mg base "falling_ranks" 1 ["dealt", "row"] spFall):FnOk P w K mg base CX0 5 f (PySem.W.fnOf "ranks" "ranks" (zBe zCz) (zA6 zCz) (zAd zCz) .none kV doc pm an (.ref c0) ct) ["jobs"] (spRanks C Pt):=by
 refine okC lk hcd zDe (fun vs H Q E h=>?_) (fun A outer s H vs Q E hr h=>?_)
 ·obtain ⟨j,J,qs,r,rfl,_⟩:=h;rfl
 ·obtain ⟨j,J,qs,r,rfl,A0,G,hz,T0,k⟩:=h;have hr1:=hr.mono (j:=1) (by decide);have hr3:=hr.mono (j:=1+2) (by decide);have hu:=zDq hr
  refine ⟨_,(zAc (psS (i:=1) zDe.nd zB9)
   (zAc (zAu qAg rfl (zAk (zFh M_names U.cl hr1 (pv 0))) (pgN (i:=2) zDe.nd)
    (zAe (zC2 hu (pv 1) (pv 2) (zGn M_straight U.cl hr (pv 0) (zAa (pv 2) zAb)) rfl)))
   (zAc (psS (i:=3) zDe.nd zB9)
   (zAc (psS (i:=4) zDe.nd (zFh M_names U.cl hr1 (pv 0)))
   (zAc (zFf qAg (zGl (pv 4) (fun _=>rfl))
    (zAc (zG0 (i:=5) rfl (zBn (sc:=zAd zCz) rfl (by decide +kernel)) (Draws.own (x:= "name") (dtk (i:=3) rfl (dtk (i:=1) rfl Draws.nil))) (zAk (pv 4)) (fun _ _ _ _=>(pgB (i:=0))) (fun _ _ _ _=>(zCo (zCg (zAg C_has_all hr1 rfl (zAa (pv 1) (zAa (zA4 hu (pv 2) (pv 0) (fun _ _=>rfl)) zAb)))))) (fun _ _ _ _=>(pv 0)) zDe.nd rfl rfl)
    (zAc (psS (i:=6) zDe.nd (pe_minK (x:= "name") (y:= "near") (z:= "dealt") (iy:=1) (iz:=3) (P:=Pt) (c0:=c0) (qual:=lamQ) (k:=1) hr3 rfl (by rfl) T.z_min bo_min (zAa (pv 5) zAb) (by exact ⟨rfl,rfl,rfl,rfl,rfl,rfl,by decide +kernel,by decide +kernel⟩) (by decide) rfl rfl rfl rfl rfl rfl rfl rfl rfl CH B rfl (fun _ _ _ _=>rfl) (fun f' cd' A' s' H' hA=>zAg C_falling_ranks hA rfl (zAa (pv 2) (zAa (zA4 (zDq hA) (pv 1) (pv 0) (fun _ _=>rfl)) zAb)))))
    (zAc (zC2 hu (pv 3) (pv 6) (zAn zBh (zAh call_lenD (by rfl) T.z_len zCe (zAa (pv 3) zAb)) zAf) rfl)
    (zAe (zAr (zDm qAw PySem.F.slot_list_remove PySem.F.type_list_remove mt_remove (pv 4) (zAa (pv 6) zAb))))))))
   (zAe (zAo (pv 3)))))))),?_⟩
  have few:=A0.few;have up:=strB_up A0 G hz;refine fun e he=>?_;have fe:Fre H e:=he;have k1:Kp [] H (upd H e (.dK [])):=Kp.new Kp.refl fe;have e1:upd H e (.dK []) e=some (.dK []):=upd_same;generalize upd H e (.dK [])=H1 at k1 e1;have A1:=A0.kp0 k1;refine ⟨_,rfl,j,J.dx,_,rfl,A1.ob,jf_no _ _ _ (by decide +kernel) (by decide +kernel) (by decide +kernel),j,J,rfl,A1,fun l H2 fl hl k2=>?_⟩;have e2:=k2 e _ e1 (by simp);have K2:Kp [] H H2:=k1.trans k2;have A2:=A0.kp0 K2;refine ⟨_,rfl,⟨_,SqL.of hl⟩,zAv (xs:=J.ns.map V.str) (fun i σ H3=>∃(o2:Option V) (la:Str->Addr),σ=[some (.ref j),some (.ref e),o2,none,none,none,none]/\Kp [e] H2 H3/\H3 e=some (.dK (dT1 (J.ns.take i) fun n=>.ref (la n)))/\∀n∈J.ns.take i,Txs H3 (la n) (strB J n)) ⟨none,fun _=>0,rfl,Kp.refl,e2,(fun _ h=>nomatch h)⟩ (fun i σ H3 _ ⟨_,_,_,k3,_⟩=>SqL.of (k3 _ _ hl (nm1 fun z=>by have h:H2 l=_:=hl;rw [z,e2] at h;cases h))) ?_ ?_⟩
  ·rintro i v σ H3 hv ⟨o2,la,rfl,k3,h3,hf⟩;obtain ⟨x,ex,rfl⟩:=zA2 hv;have xn:x∈J.ns:=qAL ex;have A3:JobsAt C H3 j J:=A0.kp0 (zHh K2 fe k3);have nx:x∉J.ns.take i:=zEm A0.nd ex;refine ⟨_,rfl,j,J.dx,_,rfl,A3.ob,jf_no _ _ _ (by decide +kernel) (by decide +kernel) (by decide +kernel),_,rfl,j,J,x,rfl,A3,xn,fun m H4 fm hm k4=>?_⟩;have h4:=k4 _ _ h3 (by simp);refine ⟨_,rfl,_,rfl,_,_,rfl,DPut.k (k:=Sum.inr x) h4 (by unfold dT1;rw [qAD,qAX,qAM];lia),?_⟩;rw [zDl _ nx];have ne:∀a ys,Txs H4 a ys->a≠e:=fun a ys h z=>by have h:H4 a=_:=h;rw [z,h4] at h;cases h
   refine ⟨_,fun n=>if n=x then m else la n,rfl,Kp.put (k3.trans (k4.weak (by simp))) (by simp),?_,fun n hn=>?_⟩
   ·rw [upd_same,zAi ex];congr 2;unfold dT1;rw [qAU];congr 1
    ·refine qDH fun n hn=>?_;show (Sum.inr n,V.ref (la n))=(Sum.inr n,V.ref (if n=x then m else la n));rw [qAB (fun z=>nx (by rw [<-z];exact hn))]
    ·show _=[(Sum.inr x,V.ref (if x=x then m else la x))];rw [qAC rfl]
   ·rw [zAi ex] at hn;show Txs _ (if n=x then m else la n) _
    by_cases c:n=x
    ·subst c;rw [qAC rfl];exact (upd_ne (ne _ _ hm)).trans hm
    ·rw [qAB c]
     have hn:n∈J.ns.take i:=by
      rcases qAQ.mp hn with z| z
      ·exact z
      ·exact absurd (qAP.mp z) c
     have h:=k4 _ _ (hf n hn) (by simp);exact (upd_ne (ne _ _ h)).trans h
  rintro σ H3 ⟨o2,la,rfl,k3,h3,hf⟩;have eT:J.ns.take (J.ns.map V.str).length=J.ns:=by rw [qAD,qAj]
  rw [eT] at h3 hf;have K3:Kp [] H H3:=zHh K2 fe k3;refine fun d hd=>?_;have fd0:Fre H3 d:=hd;have fd:Fre H d:=K3.fre fd0 (by simp);have k4:Kp [] H3 (upd H3 d (.dK [])):=Kp.new Kp.refl fd0;have e4:upd H3 d (.dK []) d=some (.dK []):=upd_same;generalize upd H3 d (.dK [])=H4 at k4 e4;have A4:=A0.kp0 (K3.trans k4);refine ⟨_,rfl,j,J.dx,_,rfl,A4.ob,jf_no _ _ _ (by decide +kernel) (by decide +kernel) (by decide +kernel),j,J,rfl,A4,fun lf H5 flf hlf k5=>?_⟩;have K5:Kp [] H H5:=(K3.trans k4).trans k5;have T5:TabA H5 Pt:=T0.kp K5;have d5:=k5 _ _ e4 (by simp);have fl4:Fre H3 lf:=k4.fre flf (by simp);have flH:Fre H lf:=K3.fre fl4 (by simp);have ndl:d≠lf:=fun z=>by rw [<-z] at flf;rw [show H4 d=none from flf] at e4;cases e4
  have e5:H5 e=some (.dK (dT1 J.ns fun n=>.ref (la n))):=(k4.trans k5) _ _ h3 (by simp);have la5:∀n∈J.ns,Txs H5 (la n) (strB J n):=fun n hn=>(k4.trans k5) _ _ (hf n hn) (by simp);have t5:=T5.tbl
  have nM:∀a o,H3 a=some o->(∀ps,o≠.tbl ps)->a∉[Pt,d,lf]:=fun a o h no hm=>by
   simp only [qAO,qBh,qB9] at hm;rcases hm with z| z| z
   ·exact zBk t5 ((k4.trans k5) _ _ h (by simp)) no z
   ·rw [z,show H3 d=none from fd0] at h;cases h
   ·rw [z,show H3 lf=none from fl4] at h;cases h
  have nlt:lf≠Pt:=zBk t5 hlf fun _ z=>nomatch z;have ndt:d≠Pt:=zBk t5 d5 fun _ z=>nomatch z;show tWhile (fun σ H Q=>tVar 4 σ H fun x H'=>∃k,TruV K x H' k/\Q k H') _ _ _ _
  refine zE7 (fun σ H6=>∃(O L:List Str) (o2 o5 o6:Option V),σ=[some (.ref j),some (.ref e),o2,some (.ref d),some (.ref lf),o5,o6]/\Kp [Pt,d,lf] H5 H6/\TabA H6 Pt/\H6 d=some (.dK (kvR O))/\Txs H6 lf L/\Stp (strB J) J.ns O L/\deal (strB J) L.length O L=zFz J) (zHf 4)
   ⟨[],J.ns,_,none,none,rfl,Kp.refl,T5,d5,hlf,⟨Dl.nil _ _,qCr _⟩,rfl⟩ ?_ (fun σ H Q Q' hq hc=>by
    obtain ⟨x,e,b,t,q⟩:=hc;exact ⟨x,e,b,t,hq _ _ q⟩)
  rintro σ H6 ⟨O,L,o2,o5,o6,rfl,K6,T6,d6,hL,S,hE⟩;refine ⟨_,rfl,_,.inl ⟨_,SqL.of hL,rfl⟩,?_⟩;have Ln:∀n∈L,n∈J.ns:=fun n hn=>S.pm.mem_iff.mp (qAv _ hn);have On:∀n∈O,n∈J.ns:=fun n hn=>S.pm.mem_iff.mp (qAs _ hn);have sz:O.length+L.length=J.ns.length:=by rw [<-S.pm.length_eq,qAf]
  have e6:=K6 _ _ e5 (nM _ _ h3 fun _ z=>nomatch z);have la6:∀n∈J.ns,Txs H6 (la n) (strB J n):=fun n hn=>K6 _ _ (la5 n hn) (nM _ _ (hf n hn) fun _ z=>nomatch z);refine ite2 (fun c=>?_) (fun c=>?_)
  ·have cL:L≠[]:=fun z=>by rw [z] at c;simp at c
   refine ⟨_,rfl,_,rfl,⟨_,SqL.of hL⟩,fun B hB=>zBm (L.map V.str) (fun i ys τ H7=>(∃o0,τ=[o0,some (.ref d),some (.ref e)])/\ys=((L.take i).filter (redy (strB J) O)).map V.str/\Kp [] H6 H7/\H7 B=some (.lst ys))
    ⟨⟨_,rfl⟩,rfl,Kp.new Kp.refl hB,upd_same⟩ (fun i ys τ H7 ⟨_,_,k7,_⟩=>SqL.of (k7 lf _ hL (by simp))) ?_ ?_⟩
   ·rintro i v ys τ H7 hv ⟨⟨o0,rfl⟩,rfl,k7,h7⟩;obtain ⟨n,en,rfl⟩:=zA2 hv;have nn:=Ln n (qAL en);refine ⟨_,rfl,_,rfl,_,rfl,_,.ref (la n),rfl,?_,d,la n,_,strB J n,rfl,k7 d _ d6 (by simp),k7 _ _ (la6 n nn) (by simp),by have:=strB_len (J:=J) n;lia,fun H8 k8=>?_⟩
    ·have:=DGet.k (k:=Sum.inr n) (k7 e _ e6 (by simp));rw [zBb,qAC nn] at this;exact this
    have eall:((strB J n).all fun m=>(valV (kvR O) (.inr m)).isSome)=redy (strB J) O n:=by
     unfold redy;congr 1;funext m;exact zEd O _ m
    rw [eall];have h8:=k8 B _ h7 (by simp);refine ⟨_,rfl,ite2 (fun c=>?_) (fun c=>?_)⟩
    ·refine ⟨_,rfl,h8,?_,⟨_,rfl⟩,?_,Kp.new (k7.trans k8) hB,upd_same⟩
     ·rw [qAD];exact zDs (by lia)
     ·rw [zDr en c,qAU];rfl
    ·refine ⟨⟨_,rfl⟩,?_,k7.trans k8,?_⟩
     ·rw [zE5 en c]
     ·exact h8
   rintro ys τ H7 ⟨_,rfl,k7,h7⟩;have eT:L.take (L.map V.str).length=L:=by rw [qAD,qAj]
   rw [eT] at h7;obtain ⟨x,rl,er⟩:=S.some r up cL;obtain ⟨S2,bL,bO⟩:=S.next A0.nd er;rw [er] at h7;have T7:TabA H7 Pt:=T6.kp k7;have t7:=T7.tbl;have d7:=k7 _ _ d6 (by simp);have e7:=k7 _ _ e6 (by simp);refine ⟨_,rfl,B,x,rl,gk (strB J) O,.ref e,.ref d,rfl,rfl,rfl,h7,T7,fun H8 k8 T8=>?_⟩;have d8:=k8 _ _ d7 (nm1 (zBk t7 d7 fun _ z=>nomatch z));have e8:=k8 _ _ e7 (nm1 (zBk t7 e7 fun _ z=>nomatch z));refine ⟨fun y hy H9 k9=>?_,fun H9 k9=>?_⟩
   ·rw [<-er] at hy;obtain ⟨yL,yr⟩:=qAY.mp hy;have yn:=Ln y yL;have l7:=k7 _ _ (la6 y yn) (by simp);have l8:=k8 _ _ l7 (nm1 (zBk t7 l7 fun _ z=>nomatch z));refine ⟨_,rfl,_,rfl,_,rfl,_,.ref (la y),rfl,?_,d,la y,_,strB J y,rk O,rfl,k9 _ _ d8 (by simp),k9 _ _ l8 (by simp),by have:=strB_len (J:=J) y;lia,fun q hq=>kvR_get (zGj.mp yr q hq),fun b H10 _ hb kb=>⟨b,rfl,hb,kb⟩⟩;have:=DGet.k (k:=Sum.inr y) (k9 e _ e8 (by simp));rw [zBb,qAC yn] at this;exact this
   have d9:=k9 _ _ d8 (by simp);have hL7:Txs H7 lf L:=k7 _ _ hL (by simp);have hL8:Txs H8 lf L:=k8 _ _ hL7 (nm1 nlt);have hL9:Txs H9 lf L:=k9 _ _ hL8 (by simp);have T9:TabA H9 Pt:=TabA.kp (.inr T8) k9;have K9:Kp [Pt,d,lf] H5 H9:=(K6.trans (k7.weak (by simp))).trans ((k8.weak (by simp)).trans (k9.weak (by simp)))
   have hE2:deal (strB J) L.length O L=deal (strB J) (L.length - 1) (O++[fmin (gk (strB J) O) rl x]) (L.erase (fmin (gk (strB J) O) rl x)):=by
    have lp:=qDf bL;obtain ⟨n',en⟩:∃n',L.length=n'+1:=⟨L.length - 1,by lia⟩;rw [en];show (match L.filter (redy (strB J) O) with| []=>O| x::l=>deal (strB J) n' (O++[fmin (gk (strB J) O) l x]) (L.erase (fmin (gk (strB J) O) l x)))=_;rw [er];rfl
   generalize fmin (gk (strB J) O) rl x=b at S2 bL bO hE2;refine ⟨_,rfl,_,_,rfl,d9,_,_,rfl,rfl,_,rfl,_,rfl,_,_,rfl,DPut.k (k:=Sum.inr b) d9 (by rw [kvR_len,qAM];lia),?_⟩;rw [kvR_len,kvR_put bO];have kA:Kp [d] H9 (upd H9 d (.dK (kvR (O++[b])))):=Kp.put Kp.refl (by simp);have eA:upd H9 d (.dK (kvR (O++[b]))) d=some (.dK (kvR (O++[b]))):=upd_same;generalize upd H9 d (.dK (kvR (O++[b])))=HA at kA eA;have hLA:Txs HA lf L:=kA _ _ hL9 (nm1 ndl.symm)
   have TA:TabA HA Pt:=by
    rcases T9 with q| ⟨q,q1,q2⟩
    ·exact .inl (kA _ _ q (nm1 ndt.symm))
    ·exact .inr ⟨q,kA _ _ q1 (nm1 ndt.symm),kA _ _ q2 (nm1 fun z=>by rw [z,d9] at q2;cases q2)⟩
   refine ⟨_,rfl,.inl ⟨rfl,_,SqL.of hLA⟩,_,rfl,lf,L,b,rfl,rfl,hLA,bL,?_⟩;have kB:Kp [lf] HA (upd HA lf (.lst ((L.erase b).map V.str))):=Kp.put Kp.refl (by simp);have eB:Txs (upd HA lf (.lst ((L.erase b).map V.str))) lf (L.erase b):=upd_same;generalize upd HA lf (.lst ((L.erase b).map V.str))=HB at kB eB
   have TB:TabA HB Pt:=zE8 TA kB (nm1 nlt.symm) fun a o h no1 no2=>nm1 fun z=>by
    have hLA:HA lf=_:=hLA;rw [z,hLA] at h;exact no1 _ (qAh h).symm
   refine ⟨⟨O++[b],L.erase b,_,_,_,rfl,(K9.trans (kA.weak (by simp))).trans (kB.weak (by simp)),TB,kB _ _ eA (nm1 ndl),eB,S2,?_⟩,?_⟩
   ·rw [<-hE,qCy bL];exact hE2.symm
   ·have l1:zHf 4 [some (.ref j),some (.ref e),o2,some (.ref d),some (.ref lf),o5,o6] H6=L.length:=by
     show (match H6 lf with| some (.lst xs)=>xs.length| _=>0)=_;rw [show H6 lf=_ from hL];show (L.map V.str).length=_;rw [qAD]
    have l2:∀σ:St,σ[4]?=some (some (.ref lf))->zHf 4 σ HB=(L.erase b).length:=fun σ hσ=>by
     unfold zHf;rw [hσ];show (match HB lf with| some (.lst xs)=>xs.length| _=>0)=_;rw [show HB lf=_ from eB];show ((L.erase b).map V.str).length=_;rw [qAD]
    rw [l1,l2 _ rfl,qCy bL];have:=qDf bL;lia
  ·have eL:L=[]:=by
    cases L with
    | nil=>rfl
    | cons y l=>exact absurd rfl c
   rw [eL] at hE;refine ⟨_,rfl,k d H6 (fun a o h n=>?_) T6 fd (by rw [<-hE];exact d6)⟩;refine K6 _ _ (K5 _ _ h (by simp)) fun hm=>?_;simp only [qAO,qBh,qB9] at hm;rcases hm with z| z| z
   ·exact n (by simp [z])
   ·rw [z,show H d=none from fd] at h;cases h
   ·rw [z,show H lf=none from flH] at h;cases h
end
end My
namespace ST
open PySem L2 PySem.SetTable PyProof.Rows
end ST
namespace L2
open PySem PySem.Spec PyProof.Rows PySem.W
def del (H:Hp) (a:Addr):Hp:=fun b=>if b=a then none else H b
theorem del_same {H:Hp} {a:Addr}:del H a a=none:=qAC rfl
theorem zF9 {H:Hp} {a b:Addr} (h:b≠a):del H a b=H b:=qAB h
theorem del_some {H:Hp} {a b:Addr} {o:HO} (h:del H a b=some o):b≠a/\H b=some o:=by
 by_cases z:b=a
 ·rw [z,del_same] at h;cases h
 ·exact ⟨z,by rw [zF9 z] at h;exact h⟩
end L2
namespace L2
open PySem PySem.Spec PyProof.Rows PySem.W PySem.Builtin PySem.Builtin.ObjectAttr
end L2
namespace L2
open PySem PySem.Spec PyProof.Rows
section
variable {prog:Program} {w:World} {A:Around} {E:Value->Shared->Prop} {s:Shared}
theorem rv_len:typeLookup (.type "list_reverseiterator") "__len__" = pure none:=by rw [qCp,qCq];kernel_rfl
theorem rv_hint:typeLookup (.type "list_reverseiterator") "__length_hint__" = pure (some (.builtin "list_reverseiterator.__length_hint__")):=by rw [qCp,qCq];kernel_rfl
theorem hint_rev {r l:Addr} {i:Int} {Q:Bool->Shared->Prop} (hr:s.heap.IsRevIter r l i) (h:Q false s):wpAny (model prog w) A (Builtin.List.listLengthHint (.ref r)) Q E s:=by
 unfold Builtin.List.listLengthHint;refine qAA (qCh hr.typeIs rv_len ?_);refine qCe (fun hab=>absurd hab (by decide +kernel)) (fun _=>?_);refine qCe (fun hab=>absurd hab (by decide)) (fun _=>?_);refine qAA (qCh hr.typeIs rv_hint ?_);generalize hid:("list_reverseiterator.__length_hint__" : String)=id0
 wp_delta
 rw [show splitId id0=some ("list_reverseiterator", "__length_hint__") from by subst hid;decide +kernel];subst hid;refine qAA (qDD (T:= "list_reverseiterator") (b:=true) hr.typeIs (by rw [isSubtype_type];kernel_rfl) ?_);refine qCe (fun hab=>absurd hab (by decide)) (fun _=>?_);refine qCe (fun _=>?_) (fun hab=>absurd (by decide +kernel) hab);refine qCe (fun hab=>absurd hab (by decide +kernel)) (fun _=>?_);exact qAE h
theorem rev_items {its acc:Array Value} (h:ItemsOf (fun i v=>its[its.size - 1 - i]?=some v) acc its.size):acc.toList=its.toList.reverse:=by
 refine List.ext_getElem? fun i=>?_;rw [qAm]
 by_cases hi:i<its.size
 ·have e:acc[i]?=some (acc[i]'(by rw [h.1];exact hi)):=qDY (by rw [h.1];exact hi);rw [e,<-h.2 i _ e,qDP (by simpa using hi)];simp
 ·rw [Array.getElem?_eq_none (by rw [h.1];lia),qDa (by simp;lia)]
theorem list_rev {r l:Addr} {its:Array Value} {Q:Value->Shared->Prop} (hh:A.handled=none) (hr:s.heap.IsRevIter r l ((its.size:Int) - 1)) (hl:s.heap.IsList l its) (ne:l≠r) (hz:its.size<=sizeLine)
  (q:∀h' tk acc c,(∀b o,b≠r->s.heap.get? b=some o->h'.get? b=some o)->h'.get? s.heap.objs.size=some {cls:=.type "list",dict:=none,data:=.seq acc c,slots:=#[]}->acc.toList=its.toList.reverse->Q (.ref s.heap.objs.size) {s with heap:=h',toks:=tk}) :
  wpAny (model prog w) A (call (.type "list") [.ref r]) Q E s:=by
 obtain ⟨h0,g,dd,tk,os⟩:=s;have lr:r<h0.objs.size:=by obtain ⟨o,y,_⟩:=hr;exact qAK y
 have ll:l<h0.objs.size:=by obtain ⟨o,y,_⟩:=hl;exact qAK y
 refine callType_codes (Q₁:=fun obj s₁=>obj= .ref h0.objs.size/\s₁=⟨h0.push {cls:=.type "list",data:=.seq #[]},g,dd,tk,os⟩) F.called_list (F.typeCall_list_1 _) F.entry_list_init (code_list_new _ ⟨rfl,rfl⟩) fun obj s1 h1=>?_;obtain ⟨rfl,rfl⟩:=h1;have hS:(h0.push {cls:=.type "list",data:=.seq #[]}).get? h0.objs.size=some {cls:=.type "list",data:=.seq #[]}:=qAc _ rfl;refine ⟨⟨_,hS,rfl⟩,F.args_list_init_2 _ _,?_⟩;show wpAny _ A.in1.in1 (do let old<-Builtin.List.listItems (.ref h0.objs.size);Builtin.List.listUpdate (.ref h0.objs.size) (fun _=>#[]);letGo old.toList.reverse;Builtin.List.listExtendWith (.ref h0.objs.size) (.ref r) .none) _ _ _;refine qAA ?_;unfold Builtin.List.listItems;refine qAA (wpAny_seqItems hS rfl (qAE ?_));show wpAny _ A.in1.in1 (updateSeq h0.objs.size (fun _=>#[]) >>= fun _=>letGo (#[]:Array Value).toList.reverse >>= fun _=>Builtin.List.listExtendWith (.ref h0.objs.size) (.ref r) .none) _ _ _;refine qAA (qCa hS rfl ?_);have S1:=qBL (Obj.mapSeq (fun _=>(#[]:Array Value))) hS rfl;have o1:∀b o,h0.get? b=some o->((h0.push {cls:=.type "list",data:=.seq #[]}).update h0.objs.size (Obj.mapSeq (fun _=>(#[]:Array Value)))).get? b=some o:=fun b o y=>(qBn _ _ (qAu (qAK y))).trans (qAI _ y);generalize (h0.push {cls:=.type "list",data:=.seq #[]}).update h0.objs.size (Obj.mapSeq (fun _=>(#[]:Array Value)))=h1 at S1 o1 ⊢;refine qAA (qCB ?_);have hr1:h1.IsRevIter r l ((its.size:Int) - 1):=Heap.IsRevIter.at hr fun o y=>o1 _ _ y;have hl1:h1.IsList l its:=hl.at fun o y=>o1 _ _ y;unfold Builtin.List.listExtendWith;refine qAA (qC9 (T:= "list_reverseiterator") (s:=⟨h1,g,dd,tk,os⟩) hr1.typeIs ?_);have d1:Builtin.List.listSameRef (.ref h0.objs.size) (.ref r)=false:=qBA.mpr (qAu lr);have d2:(Value.type "list_reverseiterator" == Value.type "list")=false:=by decide
 have d3:(Value.type "list_reverseiterator" == Value.type "tuple")=false:=by decide
 simp only [d1,d2,d3,Bool.or_false,qDK,qCN];refine qAA (wpAny_pyIter_revIter (s:=⟨h1,g,dd,tk,os⟩) hr1 (qAA (qAx (hint_rev (s:=⟨h1,g,dd,tk,os⟩) hr1 ?_))));refine qCe (fun hab=>absurd hab (by decide +kernel)) fun _=>qAE ⟨qB8 F.plain_extend_loop _,?_⟩;have W:=(Walks.listRev (prog:=prog) (w:=w) (A:=A.in1.in1) hh r l ne its).toS;refine codeAny_extend_loopS W hz h0.objs.size ?_ .none its.size 0 ⟨h1,g,dd,tk,os⟩ #[] _ rfl (qAd _) ⟨qAd _,by simpa using hr1,hl1⟩ S1 (ItemsOf.nil _) fun s' acc c mv hS' it=>?_
 ·simp only [qAO,qBh,qB9,not_or];exact ⟨qAu lr,qAu ll⟩
 ·rw [Moved.eq_with mv];refine ⟨rfl,q s'.heap s'.toks acc c (fun b o hb e=>mv.heap b o ?_ (o1 b o e)) hS' (rev_items it)⟩;simp only [qAO,qBh,qB9,not_or];exact ⟨qAN (qAK e),hb⟩
end
def rvN (n0:Nat) (r l:Addr) (n:Nat):HO:=.ext fun h=>h.IsRevIter r l ((n:Int) - 1)/\n0<=r
theorem vals_rev:∀{xs:List V} {us:List Value},Vals xs us->Vals xs.reverse us.reverse
 | _,_,.nil=>.nil
 | _,_,.cons r t=>by rw [List.reverse_cons,List.reverse_cons];exact (vals_rev t).append (.cons r .nil)
section
variable {X:Cx}
theorem zHy:zC7 X (.type "reversed") (fun xs H Q=>∃l ys,xs=[.ref l]/\H l=some (.lst ys)/\∀r,H r=none->Q (.ref r) (upd H r (rvN X.s₀.heap.objs.size r l ys.length))):=by
 intro pins s σ H xs us Q I rv h;obtain ⟨l,ys,rfl,e,q⟩:=h;obtain ⟨u,rfl,ru⟩:=rv.one
 cases ru
 obtain ⟨z,its,n,rel,hl⟩:zAx X.prog X.w H s.heap l (.lst ys):=I.hok l _ e;have len:=rel.length;refine call_reversed_list (items:=its.toArray) ⟨_,hl,rfl,n,rfl⟩ ?_;have ge:(s.heap.push (revObj l ((its.toArray.size:Int) - 1))).IsRevIter s.heap.objs.size l ((ys.length:Int) - 1):=⟨_,qAc _ rfl,rfl,by rw [qAJ,<-len];rfl⟩;refine ⟨.ref s.heap.objs.size,_,I.laid (o:=rvN X.s₀.heap.objs.size s.heap.objs.size l ys.length) (t':=s.toks) (fun b o z=>qAI _ z) (qAF _) ?_,rfl,q _ (I.hok.fresh (qAF _))⟩;exact ⟨⟨ge,I.sz⟩,⟨_,qAc _ rfl⟩,fun h1 h2 x y=>⟨x.1.at y,x.2⟩⟩
theorem call_listRv (hc:X.calm=true):zC7 X (.type "list") (fun xs H Q=>∃r l ys,xs=[.ref r]/\H r=some (rvN X.s₀.heap.objs.size r l ys.length)/\H l=some (.lst ys)/\∀p,H p=none->Q (.ref p) (upd (del H r) p (.lst ys.reverse))):=by
 intro pins s σ H xs us Q I rv h;obtain ⟨r,l,ys,rfl,er,e,q⟩:=h;obtain ⟨u,rfl,ru⟩:=rv.one
 cases ru
 obtain ⟨⟨hr,n0⟩,_,_⟩:zAx X.prog X.w H s.heap r (rvN X.s₀.heap.objs.size r l ys.length):=I.hok r _ er;obtain ⟨z,its,n,rel,hl⟩:zAx X.prog X.w H s.heap l (.lst ys):=I.hok l _ e;have len:=rel.length;have ne:l≠r:=zBw e er fun z=>nomatch z;refine list_rev (its:=its.toArray) (I.ok.hd hc) (by rw [qAJ,<-len];exact hr) ⟨_,hl,rfl,n,rfl⟩ ne (by rw [qAJ];lia) fun h' tk acc c kp ge ea=>?_;have fr:H s.heap.objs.size=none:=I.hok.fresh (qAF _);refine ⟨.ref s.heap.objs.size,_,?_,rfl,q _ fr⟩;have rs:r≠s.heap.objs.size:=zAj er fr;refine I.call' (s':={s with heap:=h',toks:=tk}) (ch:=[r]) rfl ⟨fun b o z m _ nr=>kp b o (fun y=>nr (by rw [y];simp)) z,fun b o z m _ nr=>⟨o.slots,kp b o (fun y=>nr (by rw [y];simp)) z⟩,fun b o z m nr=>?_,fun b o z nr=>⟨o,kp b o (fun y=>nr (by rw [y];simp)) z⟩,fun b xs z=>?_,fun b o u z=>?_,fun b ps z=>⟨#[],?_⟩⟩ (fun b o z=>?_) I.bare (fun b hb=>?_)
 ·rw [upd_ne (qAN (qAK z)),zF9 (fun y=>nr (by rw [y];simp))];exact m
 ·rw [upd_ne (zAj z fr),zF9 (zBw z er fun y=>nomatch y)];exact z
 ·rw [upd_ne (zAj z fr),zF9 (zBw z er fun y=>nomatch y)];exact z
 ·rw [Array.append_empty,upd_ne (zAj z fr),zF9 (zBw z er fun y=>nomatch y)];exact z
 ·by_cases hb:b=s.heap.objs.size
  ·subst hb;rw [upd_same] at z;cases z;refine ⟨by rw [qCf];exact ‹ys.length<=sizeLine›,acc.toList,c,?_,by simpa using ge⟩;rw [ea];exact vals_rev rel
  ·rw [upd_ne hb] at z;obtain ⟨br,z⟩:=del_some z;refine (I.hok b o z).stay (fun d v hd y=>kp d v ?_ y) (fun d y=>?_) fun d xs y=>?_
   ·rcases hd with rfl| hd
    ·exact br
    ·exact zBw hd er fun y=>nomatch y
   ·rw [upd_ne (zAj y fr),zF9 (zBw y er fun y=>nomatch y)];exact y
   ·rw [upd_ne (zAj y fr),zF9 (zBw y er fun y=>nomatch y)];exact y
 ·rw [qAP.mp hb];refine ⟨.inr n0,fun y=>?_,fun x c y w=>?_,fun p hp y=>?_⟩
  ·rw [y,I.free] at er;cases er
  ·rw [<-w,I.freeC x c y] at er;cases er
  ·rw [<-y,(I.pin p hp).2.1] at er;cases er
end
section
variable {X:Cx}
def iRngD (ta:TA):TI:=fun σ H R=>ta σ H fun vs H1=>∃(i j:Int) (n:Nat),vs=[.int i,.int j,.int (-1)]/\Builtin.Range.small i j (-1)=true/\Builtin.Range.rangeSize i j (-1)=n/\R (Itr3 i (-1) n) H1
theorem pi_rangeD {tg a b c:Expr} {ta:TA} {p pos:Pos} (hg:Gl X "range") (hm:X.mg "range" = none) (ha:PA X [a,b,c] ta) (hs:starEach [a,b,c] X.env=[(false,eval a X.env),(false,eval b X.env),(false,eval c X.env)]:=by rfl) (hs2:starEach [b,c] X.env=[(false,eval b X.env),(false,eval c X.env)]:=by rfl) :
  PI X tg (.Call (.Name "range" p) [a,b,c] [] pos) (iRngD ta):=by
 intro pins s σ H R I h;refine Call_ (zEb I hg hm boot_range (qCI (thn (ha pos pins s σ H _ I h) fun us s1 ⟨vs,H1,I1,r1,q1⟩=>?_) (by rw [hs,hs2]) (by rw [hs2];rfl)));obtain ⟨i,j,n,e,hsm,hn,q⟩:=q1;subst e
 cases r1 with
 | cons r rr =>
  cases rr with
  | cons r' rr =>
   cases rr with
   | cons r'' rr =>
    cases rr
    obtain ⟨t,rfl⟩:=r;obtain ⟨u,rfl⟩:=r';obtain ⟨v,rfl⟩:=r'';refine call_range_3 (by lia) ?_ (.inl (PyProof.noPylong_small (by lia)));refine wpAny_pyIter_range (IsRange.new ..) hsm ?_;have I2:Inv X pins σ H1 {s1 with heap:=s1.heap.push {cls:=.type "range",data:=.fields #[.int i t,.int j u,.int (-1) v]},toks:=s1.toks}:=I1.kept fun b o e=>qAI _ e
    refine ⟨(s1.heap.push {cls:=.type "range",data:=.fields #[.int i t,.int j u,.int (-1) v]}).objs.size,[(s1.heap.push {cls:=.type "range",data:=.fields #[.int i t,.int j u,.int (-1) v]}).objs.size],_,_,H1,rfl,
     I2.kept (t':=s1.toks) fun b o e=>qAI _ e,turn_range3 _ i (-1) n,?_,fun b hb=>?_,q⟩
    ·have e1:i+((0:Nat):Int)*(-1)=i:=by simp
     have e2:((n:Nat):Int) - ((0:Nat):Int)=Builtin.Range.rangeSize i j (-1):=by rw [hn];simp
     show IsRangeIter _ _ (i+((0:Nat):Int)*(-1)) (((n:Nat):Int) - ((0:Nat):Int)) (-1);rw [e1,e2];exact qAc _ rfl
    ·have e:b=(s1.heap.push {cls:=.type "range",data:=.fields #[.int i t,.int j u,.int (-1) v]}).objs.size:=by simpa using hb
     subst e;exact I2.fpOk (qAF _) (I2.hok.fresh (qAF _))
theorem down_by {j:Int} (h0:-1<=j) (h1:j<1000):Builtin.Range.small j (-1) (-1)=true/\Builtin.Range.rangeSize j (-1) (-1)=((j+1).toNat:Nat):=by
 have e:Builtin.Range.rangeSize j (-1) (-1)=((j+1).toNat:Nat):=by
  unfold Builtin.Range.rangeSize;simp;split<;>lia
 refine ⟨?_,e⟩;unfold Builtin.Range.small;rw [e];obtain ⟨m,hm⟩:∃m:Nat,(j+1).toNat=m:=⟨_,rfl⟩;rw [hm];have h2:m<=1000:=by lia
 simp only [Builtin.Range.rangeFitsLong,qB6,Bool.or_eq_true,qCC,qB2];exact ⟨by lia,.inr (by decide)⟩
end
end L2
namespace SR
open PySem PyProof.Rows ST
section
variable {prog:Program} {w:World} {A:Around} {E:Value->Shared->Prop} {s:Shared} {a kS:Addr} {vs:List Value} {kz:List Int} {keys:Array Value} {e e1:Nat} {P:PySem.Fin->Shared->Prop}
theorem k_tail {st:SortSt} (nk:s.heap.get? kS=some (seqObj "list" keys e)) (na:s.heap.get? a=some (seqObj "list" #[] e1)) (hka:kS≠a)
  (hk:IntsAre keys.toList kz) (hlen:kz.length=vs.length) (h64:vs.length<64) (hp:(arrOf st).Perm (keys.zip vs.toArray)) (hs:SortedTo (arrOf st) (arrOf st).size) (hfl:failedOf st=none)
  (h:∀h' tk out c,(∀b o,b≠kS->b≠a->s.heap.get? b=some o->h'.get? b=some o)->h'.get? a=some (seqObj "list" out c)->KskOut true kz vs out.toList->P (.done (.ret .none)) {s with heap:=h',toks:=tk}) :
  wpAny (model prog w) A (ksk_tail a true e1 (.ref kS) st) P E s:=by
 have hsz:keys.size=vs.length:=by
  have h1:=hk.length;rw [qBS] at h1;lia
 have hsz2:(arrOf st).size=vs.length:=by rw [hp.size_eq,Array.size_zip,hsz,qAJ,Nat.min_self]
 have hout:((arrOf st).map (·.2)).reverse.size=vs.length:=by rw [Array.size_reverse,Array.size_map];exact hsz2
 have ko:KskOut true kz vs ((arrOf st).map (·.2)).reverse.toList:=ksk_out (b:=true) hk hp hs;unfold ksk_tail;simp only [qBo];generalize ((arrOf st).map (·.2)).reverse=out at hout ko;have s1:=qAp s.heap kS (Obj.mapSeq fun _=>(#[]:Array Value));have na1:(s.heap.update kS (Obj.mapSeq fun _=>(#[]:Array Value))).get? a=some (seqObj "list" #[] e1):=(s1.2 a hka.symm).trans na;have s2:=qAp (s.heap.update kS (Obj.mapSeq fun _=>(#[]:Array Value))) a (Obj.mapSeq fun _=>out);have hc2:=qBv na1 fun _=>out;refine qAA (qCF nk rfl ?_ (by rw [hsz,qAM];lia) (qAd _));refine qAA (qCB ?_);refine qAA (qC0 na1 rfl ?_);refine qAA (qCF na1 rfl ?_ (qAd _) (qAW (qBl hout) (by rw [qAM];lia)));rw [hfl];simp only [bne_self_eq_false,qDK,qCN];exact qAE (h _ _ out _ (fun b o n1 n2 q=>(s2.2 b n2).trans ((s1.2 b n1).trans q)) hc2 ko)
theorem k_end (nk:s.heap.get? kS=some (seqObj "list" keys e)) (na:s.heap.get? a=some (seqObj "list" #[] e1)) (hka:kS≠a)
  (hk:IntsAre keys.toList kz) (hlen:kz.length=vs.length) (h64:vs.length<64)
  (h:∀h' tk out c,(∀b o,b≠kS->b≠a->s.heap.get? b=some o->h'.get? b=some o)->h'.get? a=some (seqObj "list" out c)->KskOut true kz vs out.toList->P (.done (.ret .none)) {s with heap:=h',toks:=tk}) :
  wpAny (model prog w) A (ksk_end a true vs.toArray e1 (.ref kS) keys) P E s:=by
 have hsz:keys.size=vs.length:=by
  have h1:=hk.length;rw [qBS] at h1;lia
 have hzs:(keys.zip vs.toArray).size=vs.length:=by rw [Array.size_zip,hsz,qAJ,Nat.min_self]
 have hst:((keys.zip vs.toArray).reverse).Perm (keys.zip vs.toArray):=qCu.mpr (by rw [Array.toList_reverse];exact List.reverse_perm _);unfold ksk_end;simp only [qBo];refine qAA (qBQ ?_)
 by_cases h2:vs.toArray.size<2
 ·rw [qAC h2,qAC h2];refine qAA (qAE ?_);rw [StateT.run_pure];refine qAA (qAE ?_)
  try dsimp only
  refine k_tail (st:=SortSt.mk' general' ((keys.zip vs.toArray).reverse) #[] 7 none) nk na hka hk hlen h64 hst ?_ rfl h;intro i j hij hj;have hj2:j<((keys.zip vs.toArray).reverse).size:=hj;rw [Array.size_reverse,hzs] at hj2;rw [qAJ] at h2;have:i=j:=by lia
  subst this;exact Int.le_refl _
 ·rw [qAB h2,qAB h2];rw [qAJ] at h2;rw [ksk_kind hk (by rw [hsz];lia)];refine qAA (qAE ?_)
  refine qAA (qAq (wpS_sortRuns (a₀:=keys.zip vs.toArray) (st:=SortSt.mk' oneType' ((keys.zip vs.toArray).reverse) #[] 7 none)
   (Q:=fun _ st'=>(arrOf st').Perm (keys.zip vs.toArray)/\failedOf st'=none/\SortedTo (arrOf st') (keys.zip vs.toArray).size)
   (ksk_intKeys hk) ⟨hst,rfl,rfl,rfl⟩ (by rw [hzs];lia) (by rw [hzs];exact h64) fun st' a1 a2 a3=>⟨a1,a2,a3⟩) ?_ fun _ _ e=>e)
  rintro ⟨⟨⟩,st'⟩ s' ⟨rfl,hp,hf,hs⟩
  try dsimp only
  exact k_tail nk na hka hk hlen h64 hp (by rw [hp.size_eq];exact hs) hf h
theorem k_rest {f:Value} (J:Shared->Prop) (hJ:J s) (nk:s.heap.get? kS=some (seqObj "list" #[] 0)) (na:s.heap.get? a=some (seqObj "list" #[] e1)) (hka:kS≠a) (hlen:kz.length=vs.length) (h64:vs.length<64)
  (turn:∀(i:Nat) (v:Value) (k:Int),vs[i]?=some v->kz[i]?=some k->∀s',J s' ->
   wpAny (model prog w) A (call f [v]) (fun r s2=>(∃t,r= .int k t)/\J s2/\∀b,b=kS\/b=a->∀o,s'.heap.get? b=some o->s2.heap.get? b=some o) (fun _ _=>False) s')
  (put:∀s' h',J s'->(∀b o,b≠kS->s'.heap.get? b=some o->h'.get? b=some o)->(∃o,h'.get? kS=some o)->J {s' with heap:=h'})
  (h:∀s' h' tk out c,J s'->(∀b o,b≠kS->b≠a->s'.heap.get? b=some o->h'.get? b=some o)->h'.get? a=some (seqObj "list" out c)->KskOut true kz vs out.toList->P (.done (.ret .none)) {s' with heap:=h',toks:=tk}) :
  wpAny (model prog w) A (ksk_rest a f true vs.toArray e1 (.ref kS)) P E s:=by
 unfold ksk_rest;refine qAA (qBQ ?_)
 first
  | rw [List.forIn_toArray]
  | (rw [<-qDA];simp only [List.toList_toArray])
  | rw [<-qDA]
 refine qAA (ksk_fold (fun i s'=>J s'/\∃kA e,s'.heap.get? kS=some (seqObj "list" kA e)/\s'.heap.get? a=some (seqObj "list" #[] e1)/\IntsAre kA.toList (kz.take i)) vs 0 s
  ⟨hJ,#[],0,nk,na,by simpa using IntsAre.nil⟩ ?step ?done)
 case step =>
  rintro j x s' hx ⟨hJ',kA,e,nk',na',hk⟩;simp only [Nat.zero_add] at hk ⊢;have hj:j<vs.length:=(qAV.mp hx).1;obtain ⟨k,hkj⟩:∃k,kz[j]?=some k:=⟨_,qAt (by lia)⟩
  have hz:kA.size<=vs.length:=by
   have h1:=hk.length;rw [qBS,qAX] at h1;lia
  refine qAA (qCT (qAq (turn j x k hx hkj s' hJ') (fun v s'' he=>?_) fun _ _ hF=>hF.elim));obtain ⟨⟨t2,rfl⟩,J2,kp⟩:=he
  try dsimp only
  have nk2:=kp kS (.inl rfl) _ nk';have na2:=kp a (.inr rfl) _ na';have s1:=qAp s''.heap kS (Obj.mapSeq (·.push (.int k t2)));obtain ⟨c2,hc2⟩:∃c2,(s''.heap.update kS (Obj.mapSeq (·.push (.int k t2)))).get? kS=some (seqObj "list" (kA.push (.int k t2)) c2):=⟨_,qBv nk2 (·.push (.int k t2))⟩;have ek:kz.take (j+1)=kz.take j++[k]:=by rw [List.take_add_one,hkj];simp
  have ea:(kA.push (Value.int k t2)).toList=kA.toList++[Value.int k t2]:=by simp
  refine qAA (qCF nk2 rfl ?_ (by rw [qAM];lia) (qAW (qBl (Array.size_push ..)) (by rw [qAM];lia)));exact qAE ⟨rfl,put s'' _ J2 (fun b o n q=>(s1.2 b n).trans q) ⟨_,hc2⟩,kA.push (.int k t2),c2,hc2,(s1.2 a hka.symm).trans na2,by rw [ea,ek];exact ksk_snoc hk⟩
 case done =>
  rintro s' ⟨hJ',kA,e,nk',na',hk⟩
  have hk':IntsAre kA.toList kz:=by
   have e3:kz.take (0+vs.length)=kz:=qBF (by lia);rw [e3] at hk;exact hk
  try dsimp only
  refine qAA (listItems_at nk' rfl ?_);exact k_end nk' na' hka hk' hlen h64 fun h3 tk3 out c k3 g3 o3=>h s' h3 tk3 out c hJ' k3 g3 o3
theorem w_sortedK {f:Addr} {v:Value} {Q:Value->Shared->Prop} {Jc:List Value->Shared->Prop} (hc:wpAny (model prog w) A.in1 (collect v) Jc E s)
  (hJ:∀vs s1,Jc vs s1->vs.length<64/\∃(kz:List Int) (J:Shared->Prop),kz.length=vs.length /\
   (∀h',(∀b o,s1.heap.get? b=some o->h'.get? b=some o)->(∃o,h'.get? s1.heap.objs.size=some o)->(∃o,h'.get? (s1.heap.objs.size+2)=some o)->J {s1 with heap:=h'}) /\
   (∀(i:Nat) (v:Value) (k:Int),vs[i]?=some v->kz[i]?=some k->∀s',J s'->wpAny (model prog w) A.in1.in1 (call (.ref f) [v]) (fun r s2=>(∃t,r= .int k t)/\J s2/\∀b,b=s1.heap.objs.size+2\/b=s1.heap.objs.size->∀o,s'.heap.get? b=some o->s2.heap.get? b=some o) (fun _ _=>False) s') /\
   (∀s' h',J s'->(∀b o,b≠s1.heap.objs.size+2->s'.heap.get? b=some o->h'.get? b=some o)->(∃o,h'.get? (s1.heap.objs.size+2)=some o)->J {s' with heap:=h'}) /\
   ∀s' h' tk out c,J s'->(∀b o,b≠s1.heap.objs.size+2->b≠s1.heap.objs.size->s'.heap.get? b=some o->h'.get? b=some o)->h'.get? s1.heap.objs.size=some (seqObj "list" out c)->KskOut true kz vs out.toList->Q (.ref s1.heap.objs.size) {s' with heap:=h',toks:=tk}) :
  wpAny (model prog w) A (call (.builtin "sorted") [v] [(Str.ofString "key",.ref f),(Str.ofString "reverse",.bool true)]) Q E s:=by
 refine call_function_entry_kw kind_sorted plain_sorted entry_sorted (ksk_s2 _ _ _) ?_;unfold Builtin.«sorted»;refine qAA (m:=checkCount "sorted" 1 1 _) (qAE ?_);refine qAA (qAq hc (fun vs s1 j=>?_) fun _ _ x=>x);obtain ⟨j1,kz,J,j2,j3,j4,j5,j6⟩:=hJ vs s1 j;refine qAA (qC1 ?_ (by rw [qAM];lia));have hD:(s1.heap.push (seqObj "list" vs.toArray 0)).get? s1.heap.objs.size=some (seqObj "list" vs.toArray 0):=qAc _ rfl;change wpAny _ _ _ _ _ {s1 with heap:=s1.heap.push (seqObj "list" vs.toArray 0)};have ne:∀b o,s1.heap.get? b=some o->b≠s1.heap.objs.size:=fun b o q=>qAN (qAK q);refine qAA (qAx (wpAny_call_entry_kw slot_list_sort ⟨_,hD,rfl⟩ entry_list_sort ?body (ksk_l2 _ _ _)))
 case body =>
  rw [ksk_t2];have ha:s1.heap.objs.size<(s1.heap.push (seqObj "list" vs.toArray 0)).objs.size:=qAK hD;have s2:=qAp (s1.heap.push (seqObj "list" vs.toArray 0)) s1.heap.objs.size (Obj.mapSeq fun _=>(#[]:Array Value));obtain ⟨e1,ho1⟩:∃e1,((s1.heap.push (seqObj "list" vs.toArray 0)).update s1.heap.objs.size (Obj.mapSeq fun _=>(#[]:Array Value))).get? s1.heap.objs.size=some (seqObj "list" #[] e1):=⟨_,qBv hD fun _=>#[]⟩;have hkS:(((s1.heap.push (seqObj "list" vs.toArray 0)).update s1.heap.objs.size (Obj.mapSeq fun _=>(#[]:Array Value))).push (seqObj "tuple" vs.toArray 0)).objs.size=s1.heap.objs.size+2:=by rw [size_push',Heap.size_update,size_push']
  unfold ksk_tree;refine qAA (listItems_at hD rfl ?_);refine qAA (qCF hD rfl ?_ (by rw [qAJ,qAM];lia) (qAd _));refine qAA (qC0 ho1 rfl ?_);refine qAA (qDE ?_ (by show vs.length<=_;rw [qAM];lia));refine qAA (qC1 ?_ (qAd _));refine qAx ?_;rw [hkS];refine k_rest (kS:=s1.heap.objs.size+2) (a:=s1.heap.objs.size) (s:={s1 with heap:=(((s1.heap.push (seqObj "list" vs.toArray 0)).update s1.heap.objs.size (Obj.mapSeq fun _=>(#[]:Array Value))).push (seqObj "tuple" vs.toArray 0)).push (seqObj "list" #[] 0)}) J (j3 _ (fun b o q=>?_) ⟨_,qAI _ (qAI _ ho1)⟩ ⟨seqObj "list" #[] 0,by rw [<-hkS];exact qAc _ rfl⟩) (by rw [<-hkS];exact qAc _ rfl) (qAI _ (qAI _ ho1)) (qAu (qBp (qCJ _))) j2 j1 j4 j5 fun s' h' tk out c jj kk gg oo=>?_
  ·exact qAI _ (qAI _ ((s2.2 b (ne b o q)).trans (qAI _ q)))
  ·exact ⟨_,rfl,qAE ⟨_,rfl,j6 s' h' tk out c jj kk gg oo⟩⟩
end
end SR
namespace L2
open PySem PySem.Spec PyProof.Rows
section
variable {X:Cx} {pins:List (Addr×Obj)} {σ:St} {H:Hp} {s:Shared}
def tSortKR (ta:TA) (iy:Nat) (P:Addr) (qual:Str) (lp:Pos) (te:TE):TE:=fun σ H Q=>ta σ H fun xs H1=>∃(a:Addr) (ks:List Str) (g:Str->Int) (vy:V),xs=[.ref a]/\σ[iy]?=some (some vy)/\H1 a=some (.lst (ks.map V.str))/\ks.length<64/\Tab0 H1 P qual lp /\
 ∀H2,Kp [P] H1 H2->Tab1 H2 P qual lp->(∀x∈ks,∀H',Kp [] H2 H'->te [some (.str x),some vy] H' fun r H3=>r= .int (g x)/\Kp [] H' H3)/\∀(b:Addr) (zs:List Str) (H3:Hp),Kp [] H2 H3->H3 b=none->zs.Perm ks->zs.Pairwise (fun x y=>g y<=g x)->Q (.ref b) (upd H3 b (.lst (zs.map V.str)))
theorem pe_sortedKR {e:Expr} {ta:TA} {p pos kp lp kp2 ip:Pos} {jj:Nat} {params:Arguments} {body:Expr} {scope:Scope} {x y qual:Str} {c c0 P:Addr} {iy:Nat} {te:TE} {k:Nat} (hr:Room (k+3) X.A) (hc':X.calm=true) (hg:Gl X "sorted") (hm:X.mg "sorted" = none) (hb:bootBuiltins "sorted" = some (.builtin "sorted")) (ha:PA X [e] ta)
  (S:LamScope x y scope) (ne:x≠y) (hN:X.N[iy]?=some y) (hk:X.env.kindOf y=some .cell) (hy:X.env.cells.lookup y=some c) (hcl:closureFor scope X.env=pure [(y,c)]) (hq:X.env.qual++ "<lambda>" = qual) (hcode:X.env.code= .ref c0) (C:PySem.W.CodeHd X.base c0 P) (B:zHp X.mg X.base)
  (hdef:defaultsOf params X.env=([],[])) (hbind:∀(pm:Value) (c':Addr) (ctv u:Value),bindArgs (PySem.W.kla_fn "<lambda>" qual params body scope [(y,c)] pm (.ref c') ctv) ⟨[u],[]⟩=pure [(x,u)])
  (ht:∀(f:Addr) (cd:Value) (A:Around) (s:Shared) (H:Hp),Room k (A.deeper (PySem.W.envX qual scope s.heap.objs.size f cd [(y,c)]))->PE (cxLam X [x,y] qual scope f cd [(y,c)] A s H) body te) (hs:starEach [e] X.env=[(false,eval e X.env)]:=by rfl) :
  PE X (.Call (.Name "sorted" p) [e] [⟨some (Str.ofString "key"),.Lambda params body scope lp,kp⟩,⟨some (Str.ofString "reverse"),.Constant (.bool true) jj ip,kp2⟩] pos) (tSortKR ta iy P qual lp te):=by
 intro pins s σ H Q I h;refine qB3 (zEb I hg hm hb ?_);refine qDi (by rw [hs];rfl) rfl ?_;have ha':=ha pos pins s σ H _ I h;have e0:backTo pos (starEach [e] X.env)=(false,eval e X.env)::[]:=by rw [hs];rfl
 rw [e0] at ha' ⊢;refine evalArgs_kwB rfl (thn ha' fun us s1 ⟨vs,H1,I1,r1,q1⟩=>?_);obtain ⟨a,ks,g,vy,e1,hσ,ea,hl64,T,q⟩:=q1;subst e1;obtain ⟨u,rfl,ru⟩:=r1.one
 cases ru
 show wpAny _ _ (evalAll ((do let v<-eval (.Lambda params body scope lp) X.env;standAt pos;pure v)::_)) _ _ s1;refine qC5 (qAA (PySem.W.kla_eval hdef ?_));rw [hq];refine lam_make I1 hcl hcode C B T fun f c' ctv pm H2 s2 I2 k2 T2 ec fo ff=>?_;refine qAA (qBy (qAE ?_));show wpAny _ _ (evalAll ((do let v<-eval (.Constant (.bool true) jj ip) X.env;standAt pos;pure v)::[])) _ _ s2;refine qC5 (qAA (Constant_bool (qAA (qBy (qAE (wpAny_evalAll_nil ?_))))));obtain ⟨qb,qr⟩:=q H2 k2 T2
 have naP:a≠P:=fun z=>by
  rcases T with t| ⟨_,t,_⟩
  ·rw [z,t] at ea;cases ea
  ·rw [z,t] at ea;cases ea
 have ea2:H2 a=some (.lst (ks.map V.str)):=k2 a _ ea (by simp [naP]);obtain ⟨its0,r',pl,hz0⟩:=I2.list (SqL.of (K:=X.K) ea2);have hS0:=zC8 r';have hln0:its0.length=ks.length:=ST.strs_len hS0
 refine SR.w_sortedK
  (Jc:=fun its s1=>StrsAre its ks/\∃h1 tk,s1={s2 with heap:=h1,toks:=tk}/\∀b o,s2.heap.get? b=some o->h1.get? b=some o)
  (collect_list pl.isList ⟨hS0,_,_,rfl,fun b o e=>?_⟩ (by rw [qAM];lia)) fun its s3 ⟨hS,h1,tk,v2,v3⟩=>?_
 ·have hlt:=qAK e;rw [qBn _ _ (qAu hlt)];exact qAI _ e
 ·subst v2;have hln:its.length=ks.length:=ST.strs_len hS;have I3:Inv X pins σ H2 {s2 with heap:=h1,toks:=tk}:=I2.kept v3;have fo3:h1.get? f=some _:=v3 _ _ fo;have flt:f<h1.objs.size:=qAK fo3;have fa:FpOk X pins H2 h1.objs.size:=I3.fpOk (qAF _) (I3.hok.fresh (qAF _));have fk:FpOk X pins H2 (h1.objs.size+2):=I3.fpOk (qBs _ _) (I3.hok.fresh (qBs _ _));have ff3:H2 f=none:=ff.1;refine ⟨by lia,ks.map g,fun s'=>∃H',Kp [] H2 H'/\Inv X pins σ H' s'/\s'.heap.get? f=some (PySem.W.kla_obj "<lambda>" qual params body scope [(y,c)] pm c' ctv)/\H' f=none/\H' h1.objs.size=none/\H' (h1.objs.size+2)=none/\(∃o,s'.heap.get? h1.objs.size=some o)/\∃o,s'.heap.get? (h1.objs.size+2)=some o,by rw [qAD,hln],fun h' up ha hk=>⟨H2,Kp.refl,I3.kept (t':=tk) up,up _ _ fo3,ff3,fa.1,fk.1,ha,hk⟩,?_,?_,?_⟩
  ·rintro i v kx hv hkx s' ⟨H4,k4,I4,fo4,ff4,fa4,fk4,⟨oa,ha4⟩,ok',hk4⟩;rw [qAZ] at hkx;obtain ⟨x',ex',rfl⟩:=qBU.mp hkx
   obtain ⟨t,rfl⟩:∃t,v= .str x' t:=by
    have h1:=hS.all v (qAL hv);obtain ⟨x2,t,rfl⟩:=h1;have h2:(its.map strOf)[i]?=some x2:=by rw [qAZ,hv];rfl
    rw [hS.strs,ex'] at h2
    cases h2
    exact ⟨t,rfl⟩
   obtain ⟨uy,ry,iy'⟩:=I4.cellAt hN hσ hk hy;have hr2:Room (k+1) X.A.in1.in1:=Room.in1 (Room.in1 hr);have fa':FpOk X pins H4 h1.objs.size:=⟨fa4,fa.2⟩;have fk':FpOk X pins H4 (h1.objs.size+2):=⟨fk4,fk.2⟩;have ff':FpOk X pins H4 f:=⟨ff4,ff.2⟩;refine qAq (lam_call (A:=X.A.in1.in1) (vx:=.str x') I4 I4.ok.frames hr2.hd hr2.depth fo4 (codeO_rec I4 (k4 _ _ ec (by simp))) S ne (hbind _ _ _ _) hy iy' ry ⟨t,rfl⟩ (ht _ _ _ _ _ (hr2.deeper _)) (qb x' (qAL ex') H4 k4)) (fun r s5 hE=>?_) fun _ _ hF=>hF;obtain ⟨v,H5,os,bare,un,hok5,rv,qv,qh⟩:=hE;subst qv;obtain ⟨t',rfl⟩:=rv;have keepA:=un.keep _ _ ha4 fa'.1 (fa'.nstk I4) (by simp);have keepK:=un.keep _ _ hk4 fk'.1 (fk'.nstk I4) (by simp);refine ⟨⟨t',rfl⟩,⟨H5,k4.trans qh,I4.call' os un hok5 bare (fun b z=>nomatch z),un.keep _ _ fo4 ff'.1 (ff'.nstk I4) (by simp),un.free _ _ fo4 ff'.1 (by simp),un.free _ _ ha4 fa'.1 (by simp),un.free _ _ hk4 fk'.1 (by simp),⟨_,keepA⟩,_,keepK⟩,fun b hb o qo=>?_⟩;rcases hb with rfl| rfl
   ·exact un.keep _ _ qo fk'.1 (fk'.nstk I4) (by simp)
   ·exact un.keep _ _ qo fa'.1 (fa'.nstk I4) (by simp)
  ·rintro s' h' ⟨H4,k4,I4,fo4,ff4,fa4,fk4,⟨oa,ha4⟩,ok',hk4⟩ kk hex;exact ⟨H4,k4,I4.turned (t':=s'.toks) kk fk4 fk.2.1 fk.2.2.2.1 fk.2.2.2.2.1 fk.2.2.2.2.2,kk _ _ (qAN (qAn flt (qBs _ _))) fo4,ff4,fa4,fk4,⟨_,kk _ _ (qAN (Nat.lt_add_of_pos_right (by decide))) ha4⟩,hex⟩
  ·rintro s' h' tk' out c2 ⟨H4,k4,I4,fo4,ff4,fa4,fk4,_,_⟩ kk gg ⟨ps,pp,po,pw⟩;have hp':∀p∈ps,∃x t,x∈ks/\p=(g x,.str x t):=fun p hp=>zip_strs hS p (pp.mem_iff.mp hp)
   have hall:∀v∈out.toList,∃x t,v= .str x t:=fun v hv=>by
    rw [po] at hv;obtain ⟨p,hp,rfl⟩:=qAa.mp hv;obtain ⟨x,t,_,e⟩:=hp' p hp;exact ⟨x,t,by rw [e]⟩
   have hO:=strsAre_map out.toList hall
   have hpz:(out.toList.map strOf).Perm ks:=by
    have h1:(ps.map Prod.snd).Perm its:=by
     have:=pp.map Prod.snd
     rwa [List.map_snd_zip (by rw [qAD,hln];exact qAF _)] at this
    rw [po];have:=h1.map strOf
    rwa [hS.strs] at this
   have hsr:(out.toList.map strOf).Pairwise (fun x y=>g y<=g x):=by
    rw [po,qBV,List.pairwise_map];refine pw.imp_of_mem fun {p q} hp hq z=>?_;obtain ⟨x,t,_,e⟩:=hp' p hp;obtain ⟨x',t',_,e'⟩:=hp' q hq;subst e e';exact z
   have hz:((out.toList.map strOf).map V.str).length<=sizeLine:=by rw [qAD,hpz.length_eq,qAM];lia
   have un:Un (frs X.stack) [h1.objs.size+2,h1.objs.size] H4 H4 s'.heap h':=by
    have k':∀b o,b∉([h1.objs.size+2,h1.objs.size]:List Addr)->s'.heap.get? b=some o->h'.get? b=some o:=fun b o n q=>kk b o (fun z=>n (by simp [z])) (fun z=>n (by simp [z])) q;exact ⟨fun b o q n _ x=>k' b o x q,fun b o q n _ x=>⟨o.slots,k' b o x q⟩,fun b o q n _=>n,fun b o q x=>⟨o,k' b o x q⟩,fun _ _ q=>q,fun _ _ _ q=>q,fun b ps q=>⟨#[],by rw [q];simp⟩⟩
   have hok2:HOk X.prog X.w H4 h':=fun b o q=>by
    refine (I4.hok b o q).stay (fun d v hd y=>?_) (fun _ y=>y) fun _ _ y=>y
    have nn:H4 d≠none:=by
     rcases hd with rfl| hd
     ·rw [q];simp
     ·rw [hd];simp
    exact kk d v (fun z=>nn (by rw [z];exact fk4)) (fun z=>nn (by rw [z];exact fa4)) y
   have I5:Inv X pins σ H4 {s' with heap:=h',toks:=tk'}:=I4.call' rfl un hok2 I4.bare fun b hb=>by
    have:b=h1.objs.size+2\/b=h1.objs.size:=by simpa using hb
    rcases this with rfl| rfl
    ·exact ⟨fk.2.2.2.1,fk.2.1,fk.2.2.2.2.1,fk.2.2.2.2.2⟩
    ·exact ⟨fa.2.2.2.1,fa.2.1,fa.2.2.2.2.1,fa.2.2.2.2.2⟩
   have new:zAx X.prog X.w (upd H4 h1.objs.size (.lst ((out.toList.map strOf).map V.str))) h' h1.objs.size (.lst ((out.toList.map strOf).map V.str)):=⟨hz,out.toList,c2,zGu hO,by simpa using gg⟩;exact ⟨.ref h1.objs.size,_,I5.adopt (⟨fa4,fa.2⟩:FpOk X pins H4 h1.objs.size) new,rfl,qr _ _ H4 k4 fa4 hpz hsr⟩
end
end L2
namespace My
open PySem L2
variable {H:Hp}{p i lo e:Nat}{f:Addr}{J:JR}
theorem kp_rev {r p:Addr} {o o':HO} (hr:H r=none) (hp:upd H r o p=none):Kp [] H (upd (del (upd H r o) r) p o')/\upd (del (upd H r o) r) p o' p=some o':=⟨fun c x hc _=>by
 have n1:c≠r:=zAj hc hr;have e:upd H r o c=some x:=by rw [upd_ne n1];exact hc
 rw [upd_ne (zAj e hp),zF9 n1];exact e,upd_same⟩
def hd1 (r:List Str):Str:=match r with
 | []=> ""
 | a::_=>a
def rowN (rs:List (List Str)) (i:Nat):List Str:=(rs[i]?).getD []
def cutB (q:Str->Int) (r:Int):List Str->Bool
 | _::b::_=>decide (q b<r)
 | _=>true
def cutI (rs:List (List Str)) (q:Str->Int) (r:Int):Nat->Int
 | 0=>-1
 | n+1=>if cutB q r (rowN rs n)=true then n else cutI rs q r n
theorem zI9 (rs:List (List Str)) (q:Str->Int) (r:Int):∀n:Nat,-1<=cutI rs q r n/\cutI rs q r n<n
 | 0=>⟨by unfold cutI;lia,by unfold cutI;lia⟩
 | n+1=>by
  have ih:=zI9 rs q r n;unfold cutI;split
  ·lia
  ·lia
def cutP (rs:List (List Str)) (q:Str->Int) (p:Nat):Int:=cutI rs q (q (hd1 (rowN rs p))) p
def blkP (rs:List (List Str)) (q:Str->Int) (p:Nat):List Str:=((rs.take p).drop (cutP rs q p+1).toNat).flatten++[hd1 (rowN rs p)]
def blkF (rs:List (List Str)) (q:Str->Int):Nat->Int->List (List Str)
 | 0,_=>[]
 | f+1,p=>if p<0 then [] else blkP rs q p.toNat::blkF rs q f (cutP rs q p.toNat)
def blks (rs:List (List Str)) (q:Str->Int):List (List Str):=(blkF rs q rs.length ((rs.length:Int) - 1)).reverse
theorem zJd (rs:List (List Str)) (q:Str->Int) (f:Nat) {p:Int} (h:p<0):blkF rs q f p=[]:=by
 cases f with
 | zero=>rfl
 | succ f=>exact qAC h
theorem zGz {rs:List (List Str)} {r:List Str} (h:rs[i]?=some r):rowN rs i=r:=by unfold rowN;rw [h];rfl
theorem cut_mid (xs:List V) {a b:Int} (h:0<=a) (h1:a<=b) (h2:b<=xs.length):cutV xs (some a) (some b)=(xs.take b.toNat).drop a.toNat:=by
 obtain ⟨k,rfl⟩:∃k:Nat,a=k:=⟨a.toNat,by lia⟩;obtain ⟨m,rfl⟩:∃k:Nat,b=k:=⟨b.toNat,by lia⟩;unfold cutV;rw [HT.sIx_nat,HT.sIx_nat];show (xs.drop (min k xs.length)).take (min m xs.length - min k xs.length)=(xs.take m).drop k;rw [qCw (by lia),qCw (by lia),List.drop_take]
theorem RowsAt.r {H0:Hp} {l:Addr} {as:List Addr} {rs:List (List Str)} (R:RowsAt H0 H l as rs):RowsR H l as rs:=⟨R.top,R.len,R.row⟩
theorem RowsR.here {l:Addr} {as:List Addr} {rs:List (List Str)} (R:RowsR H l as rs) {i:Nat} (h:i<rs.length):∃a,(as.map V.ref)[i]?=some (.ref a)/\as[i]?=some a/\rs[i]?=some (rowN rs i)/\Txs H a (rowN rs i):=by
 have h':i<as.length:=by rw [R.len];exact h
 have e1:as[i]?=some as[i]:=qAt h';have e2:rs[i]?=some rs[i]:=qAt h;refine ⟨as[i],by rw [qAZ,e1];rfl,e1,by rw [zGz e2];exact e2,?_⟩;rw [zGz e2];exact R.row i _ _ e1 e2
theorem flat_le (rs:List (List Str)) (a b:Nat):((rs.take b).drop a).flatten.length<=rs.flatten.length:=by
 have h1:rs.flatten.length=(rs.take b).flatten.length+(rs.drop b).flatten.length:=by
  rw [<-qAf,<-qBX,qA8]
 have h2:(rs.take b).flatten.length=((rs.take b).take a).flatten.length+((rs.take b).drop a).flatten.length:=by
  rw [<-qAf,<-qBX,qA8]
 lia
def intAt (i:Nat) (σ:St) (_:Hp):Nat:=match (σ[i]?:Option (Option V)) with
 | some (some (.int z))=>(z+1).toNat
 | _=>0
section
variable {P:Program} {w:World} {K:PySem.W.Frag} {mg:Str->Option Value} {base:Heap} {C:Addr}
def spJoinT:Sp:=fun vs H Q _=>∃(m:Addr) (as:List Addr) (rs:List (List Str)),vs=[.ref m]/\RowsR H m as rs/\rs.flatten.length<=20/\∀(x:Addr) (H':Hp),Fre H x->Txs H' x rs.flatten->Kp [] H H'->Q (.ref x) H'
abbrev zC0:Stmt:=top 41
theorem zCk:FnScope ["turns", "row", "turn"] ["turns"] (zAd zC0):=fnS
theorem zG4 {fd:FuncData} (F:Fun K "joined_turns" "joined_turns" zC0 f fd):FnOk P w K mg base CX0 1 f fd ["turns"] spJoinT:=by
 refine F.ok zCk (fun vs H Q E h=>?_) (fun cdv A outer s H vs Q E hr h=>?_)
 ·obtain ⟨m,as,rs,rfl,_⟩:=h;rfl
 ·obtain ⟨m,as,rs,rfl,R,hz,k⟩:=h
  refine ⟨_,(zAc (psS (i:=1) zCk.nd (zA7 zAb))
   (zAc (zAu qAg rfl (zAk (pv 0)) (pgN (i:=2) zCk.nd)
    (zAe (zAr (zDm qAw qDg qDh zG7 (pv 1) (zAa (pv 2) zAb)))))
   (zAe (zAo (pv 1))))),?_⟩
  refine ⟨(by walk_at "ln"),fun (x:Addr) hx=>?_⟩;have fx:Fre H x:=hx;have k1:Kp [] H (upd H x (.lst [])):=Kp.new Kp.refl fx;refine ⟨_,rfl,_,rfl,⟨_,SqL.of (R.kp k1).top⟩,zAv (xs:=as.map V.ref) (fun i σ H2=>(∃o2,σ=[some (.ref m),some (.ref x),o2])/\Kp [] H H2/\Txs H2 x (rs.take i).flatten) ⟨⟨_,rfl⟩,k1,upd_same⟩ (fun i σ H2 _ ⟨_,k2,_⟩=>SqL.of (R.kp k2).top) ?_ ?_⟩
  ·rintro i v σ H2 hv ⟨⟨o2,rfl⟩,k2,hx2⟩
   obtain ⟨a,ea,rfl⟩:∃a,as[i]?=some a/\V.ref a=v:=by
    rw [qAZ] at hv;exact qBU.mp hv
   have hi:i<rs.length:=by
    rw [<-R.len];exact (qAV.mp ea).1
   have er:rs[i]?=some rs[i]:=qAt hi;have hr2:=(R.kp k2).row i a _ ea er
   have et:(rs.take (i+1)).flatten=(rs.take i).flatten++rs[i]:=by
    rw [zAi er,qBX];simp
   have hle:(rs.take (i+1)).flatten.length<=rs.flatten.length:=by
    conv=>rhs;rw [<-qA8 (i+1) rs,qBX,qAf]
    lia
   rw [et,qAf] at hle;refine ⟨_,rfl,.inl ⟨rfl,_,SqL.of hx2⟩,_,rfl,_,_,_,_,rfl,rfl,hx2,hr2,?_,?_⟩
   ·rw [qAD,qAD,qAM];lia
   ·refine ⟨⟨_,rfl⟩,Kp.new k2 fx,?_⟩;show upd _ x _ x=some (.lst ((rs.take (i+1)).flatten.map V.str));rw [upd_same,et,qAU]
  ·rintro σ H2 ⟨⟨o2,rfl⟩,k2,hx2⟩;rw [qAD,R.len,qAj] at hx2;exact ⟨_,rfl,k x H2 fx hx2 k2⟩
def spPlace:Sp:=fun vs H Q _=>∃(pl d:Addr) (p:Nat) (as:List Addr) (rs:List (List Str)) (O:List Str),vs=[.ref pl,.ref d,.int p]/\RowsR H pl as rs/\p<rs.length/\rs.length<=20/\H d=some (.dK (kvR O))/\(∀r∈rs,r≠[]/\r.length<=20/\∀x∈r,x∈O)/\Q (.int (cutP rs (rk O) p)) H
abbrev zDg:Stmt:=top 40
theorem zB7:FnScope ["plan", "dealt", "place", "rank", "earlier", "row"] ["plan", "dealt", "place"] (zAd zDg):=fnS
theorem zHs {fd:FuncData} (F:Fun K "place_ahead" "place_ahead" zDg f fd) (T:Txt K mg):FnOk P w K mg base CX0 1 f fd ["plan", "dealt", "place"] spPlace:=by
 refine F.ok zB7 (fun vs H Q E h=>?_) (fun cdv A outer s H vs Q E hr h=>?_)
 ·obtain ⟨pl,d,p,as,rs,O,rfl,_⟩:=h;rfl
 ·obtain ⟨pl,d,p,as,rs,O,rfl,R,hp,hl,hd,hO,k⟩:=h;have hu:=zDq hr
  refine ⟨_,(zAc (psS (i:=3) zB7.nd (zA4 hu (pv 1) (zBv zA5 (zBv zA5 (pv 0) (pv 2) (fun _ _=>rfl)) zAf (fun _ _=>rfl)) (fun _ _=>rfl)))
   (zAc (zAu qAg rfl (pi_rangeD rfl T.z_range (zAa (zAn zF6 (pv 2) zAf) (zAa (pe_un un_neg zAf) (zAa (pe_un un_neg zAf) zAb)))) (pgN (i:=4) zB7.nd)
    (zAc (psS (i:=5) zB7.nd (zBv zA5 (pv 0) (pv 4) (fun _ _=>rfl)))
    (zAe (zCc (PW.pt (zHr (zAs op_lt (zAh zAl (by rfl) T.z_len zCe (zAa (pv 5) zAb)) zAf (zAz _)) (zEs (zAs op_lt (zA4 hu (pv 1) (zBv zA5 (pv 5) zAf (fun _ _=>rfl)) (fun _ _=>rfl)) (pv 3) (zAz _)))))
     (zAe (zAo (pv 4)))
     zAq))))
   (zAe (zAo (pe_un un_neg zAf))))),?_⟩
  obtain ⟨a,e1,_,e2,hr0⟩:=R.here hp
  obtain ⟨y,ys,ey⟩:∃y ys,rowN rs p=y::ys:=by
   cases z:rowN rs p with
   | nil=>exact absurd z (hO _ (qAL e2)).1
   | cons y ys=>exact ⟨y,ys,rfl⟩
  have get:∀x∈O,DGet H d (.str x) (some (.int (rk O x))):=fun x hx=>by
   have:=DGet.k (k:=Sum.inr x) hd;rw [kvR_get hx] at this;exact this
  have hy:y∈O:=(hO _ (qAL e2)).2.2 y (by rw [ey];exact qAS);refine ⟨_,rfl,_,rfl,_,rfl,_,_,_,_,rfl,rfl,SqL.of R.top,atI_natc e1,_,_,_,_,rfl,rfl,SqL.of hr0,(by rw [ey];exact atI_natc (n:=0) rfl),_,_,rfl,get y hy,?_⟩;obtain ⟨d1,d2⟩:=down_by (j:=(p:Int) - 1) (by lia) (by lia);have ep:((p:Int) - 1+1).toNat=p:=by lia
  rw [ep] at d2;refine ⟨_,rfl,_,_,rfl,rfl,_,rfl,_,rfl,_,_,p,rfl,d1,d2,for_range3 (fun i σ H2=>(∃o4 o5,σ=[some (.ref pl),some (.ref d),some (.int p),some (.int (rk O y)),o4,o5])/\H2=H/\cutI rs (rk O) (rk O y) (p - i)=cutI rs (rk O) (rk O y) p) ⟨⟨_,_,rfl⟩,rfl,by rw [Nat.sub_zero]⟩ ?_ ?_⟩
  ·rintro i σ H2 hi ⟨⟨o4,o5,rfl⟩,rfl,hc⟩;obtain ⟨e,he⟩:∃e,p - i=e+1:=⟨p - i - 1,by lia⟩;have he':(p:Int) - 1+i*(-1)=(e:Int):=by lia
   rw [he'];obtain ⟨b,b1,_,b2,hb⟩:=R.here (i:=e) (by lia);have hOb:=hO _ (qAL b2);refine ⟨_,rfl,_,rfl,_,_,_,_,rfl,rfl,SqL.of R.top,atI_natc b1,?_⟩;refine ⟨_,rfl,_,_,rfl,.inl (SqL.of hb),_,_,rfl,rfl,_,rfl,?_⟩
   have fin:cutB (rk O) (rk O y) (rowN rs e)=true->Q (.int (e:Int)) H2:=fun z=>by
    have h1:cutI rs (rk O) (rk O y) (e+1)=(e:Int):=qAC z;rw [he,h1] at hc;have h2:cutP rs (rk O) p=(e:Int):=by unfold cutP;rw [ey];exact hc.symm
    rw [h2] at k;exact k
   refine ite2 (fun c=>?_) (fun c=>?_)
   ·have z:cutB (rk O) (rk O y) (rowN rs e)=true:=by
     have c:=qAi c;rw [qAD] at c;generalize rowN rs e=r at c
     match r,c with
     | [],_=>rfl
     | [_],_=>rfl
     | _::_::_,c=>exact absurd c (by simp only [qAe];lia)
    refine ite2 (fun _=>⟨_,rfl,fin z⟩) (fun z=>?_)
    first| exact absurd c z| exact absurd rfl z
   ·obtain ⟨u,v,l,el⟩:∃u v l,rowN rs e=u::v::l:=by
     have c:¬(((rowN rs e).map V.str).length:Int)<2:=fun z=>c (qAR z);rw [qAD] at c;generalize rowN rs e=r at c
     match r,c with
     | [],c=>exact absurd (by simp) c
     | [_],c=>exact absurd (by simp) c
     | u::v::l,_=>exact ⟨u,v,l,rfl⟩
    have hv:v∈O:=hOb.2.2 v (by rw [el];simp);have e3:cutB (rk O) (rk O y) (rowN rs e)=decide (rk O v<rk O y):=by rw [el];rfl
    refine ⟨_,rfl,_,rfl,_,_,_,_,rfl,rfl,SqL.of hb,(by rw [el];exact atI_natc (n:=1) rfl),_,_,rfl,get v hv,_,rfl,_,_,rfl,rfl,_,rfl,?_⟩;refine ite2 (fun z=>⟨_,rfl,fin (e3.trans z)⟩) (fun z=>?_);refine ⟨⟨_,_,rfl⟩,rfl,?_⟩;have h1:cutI rs (rk O) (rk O y) (e+1)=cutI rs (rk O) (rk O y) e:=qAB (by rw [e3];exact z);rw [<-hc,he,h1];congr 1;lia
  ·rintro σ H2 ⟨⟨o4,o5,rfl⟩,rfl,hc⟩;rw [Nat.sub_self] at hc;refine ⟨_,rfl,?_⟩;have h2:cutP rs (rk O) p= -1:=by unfold cutP;rw [ey];exact hc.symm
   rw [h2] at k;exact k
def spBlocks:Sp:=fun vs H Q _=>∃(pl d:Addr) (as:List Addr) (rs:List (List Str)) (O:List Str),vs=[.ref pl,.ref d]/\RowsR H pl as rs/\rs.length<=20/\rs.flatten.length<=20/\H d=some (.dK (kvR O))/\(∀r∈rs,r≠[]/\r.length<=20/\∀x∈r,x∈O)/\∀(bl:Addr) (bs:List Addr) (H':Hp),RowsAt H H' bl bs (blks rs (rk O))->Kp [] H H'->Q (.ref bl) H'
abbrev zEz:Stmt:=top 39
theorem zBr:FnScope ["plan", "dealt", "blocks", "place", "first", "cut"] ["plan", "dealt"] (zAd zEz):=fnS
theorem ok_blocks_of {fd:FuncData} (F:Fun K "blocks_of" "blocks_of" zEz f fd) (T:Txt K mg) (C_place_ahead:Cal P w K mg base "place_ahead" 1 ["plan", "dealt", "place"] spPlace) (C_joined_turns:Cal P w K mg base "joined_turns" 1 ["turns"] spJoinT):FnOk P w K mg base CX0 2 f fd ["plan", "dealt"] spBlocks:=by
 refine F.ok zBr (fun vs H Q E h=>?_) (fun cdv A outer s H vs Q E hr h=>?_)
 ·obtain ⟨pl,d,as,rs,O,rfl,_⟩:=h;rfl
 ·obtain ⟨pl,d,as,rs,O,rfl,R,hl,hfl,hd,hO,k⟩:=h
  refine ⟨_,(zAc (psS (i:=2) zBr.nd (zA7 zAb))
   (zAc (psS (i:=3) zBr.nd (zAn zF6 (zAh zAl (by rfl) T.z_len zCe (zAa (pv 0) zAb)) zAf))
   (zAc (zFf qAg (zAs op_ge (pv 3) zAf (zAz _))
    (zAc (psS (i:=4) zBr.nd (zBv zA5 (zBv zA5 (pv 0) (pv 3) (fun _ _=>rfl)) zAf (fun _ _=>rfl)))
    (zAc (psS (i:=5) zBr.nd (zAg C_place_ahead hr rfl (zAa (pv 0) (zAa (pv 1) (zAa (pv 3) zAb)))))
    (zAc (zAr (zDm qAw qBj qBk zBl (pv 2) (zAa (zAn op_cat (zAg C_joined_turns hr rfl (zAa (zGm zIm (pv 0) (zG1 (zAn zBh (pv 5) zAf)) (zG1 (pv 3))) zAb)) (zA7 (zAa (pv 4) zAb))) zAb)))
    (zAe (psS (i:=3) zBr.nd (pv 5)))))))
   (zAe (zAo (zA3 (call_listRv rfl) (by rfl) T.z_list zCr (zAa (zA3 zHy (by rfl) T.z_reversed bo_reversed (zAa (pv 2) zAb)) zAb))))))),?_⟩
  refine ⟨(by walk_at "ln"),fun (bk:Addr) hbk=>?_⟩;have fbk:Fre H bk:=hbk;have k1:Kp [] H (upd H bk (.lst [])):=Kp.new Kp.refl fbk;refine ⟨_,rfl,_,_,rfl,.inl (SqL.of (R.kp k1).top),_,_,rfl,rfl,?_⟩;rw [show (((as.map V.ref).length:Nat):Int)=(rs.length:Int) by rw [qAD,R.len]]
  refine zE7 (fun σ H2=>∃(p:Int) (bs:List Addr) (Bs:List (List Str)) (f:Nat) (o4 o5:Option V),σ=[some (.ref pl),some (.ref d),some (.ref bk),some (.int p),o4,o5]/\Kp [] H H2/\RowsAt H H2 bk bs Bs/\-1<=p/\p<rs.length/\p<f/\Bs.length+f<=20/\Bs++blkF rs (rk O) f p=blkF rs (rk O) rs.length ((rs.length:Int) - 1)) (intAt 3)
   ⟨_,[],[],rs.length,none,none,rfl,k1,RowsAt.nil upd_same fbk,by lia,by lia,by lia,by simpa using hl,rfl⟩ ?_ (fun σ H Q Q' hq hc=>?_)
  ·rintro σ H2 ⟨p,bs,Bs,f,o4,o5,rfl,k2,Rb,hp0,hp1,hpf,hbf,hE⟩;refine ⟨_,rfl,_,_,rfl,rfl,_,rfl,ite2 (fun c=>?_) (fun c=>?_)⟩
   ·have c:p>=0:=qAi c;obtain ⟨n,rfl⟩:∃n:Nat,p=n:=⟨p.toNat,by lia⟩;obtain ⟨f',rfl⟩:∃f',f=f'+1:=⟨f - 1,by lia⟩;have hn:n<rs.length:=by lia
    have R2:=R.kp k2;obtain ⟨a,a1,_,a2,ha⟩:=R2.here hn
    obtain ⟨y,ys,ey⟩:∃y ys,rowN rs n=y::ys:=by
     cases z:rowN rs n with
     | nil=>exact absurd z (hO _ (qAL a2)).1
     | cons y ys=>exact ⟨y,ys,rfl⟩
    refine ⟨_,rfl,_,rfl,_,_,_,_,rfl,rfl,SqL.of R2.top,atI_natc a1,_,_,_,_,rfl,rfl,SqL.of ha,(by rw [ey];exact atI_natc (n:=0) rfl),?_⟩;refine ⟨_,rfl,_,rfl,_,rfl,pl,d,n,as,rs,O,rfl,R2,hn,hl,k2 d _ hd (by simp),hO,?_⟩;obtain ⟨c1,c2⟩:=zI9 rs (rk O) (rk O (hd1 (rowN rs n))) n;have c1:-1<=cutP rs (rk O) n:=c1;have c2:cutP rs (rk O) n<n:=c2;refine ⟨_,rfl,.inl ⟨rfl,_,SqL.of Rb.top⟩,?_⟩;refine ⟨_,rfl,_,rfl,_,_,rfl,rfl,_,rfl,_,rfl,_,rfl,_,_,rfl,SqL.of R2.top,fun (sl:Addr) hsl=>?_⟩;have fsl:Fre H2 sl:=hsl
    have em:cutV (as.map V.ref) (some (cutP rs (rk O) n+1)) (some (n:Int))=((as.take n).drop (cutP rs (rk O) n+1).toNat).map V.ref:=by
     rw [cut_mid _ (by lia) (by lia) (by rw [qAD,R.len];lia),qCn,qCm];rfl
    rw [em];have k3:Kp [] H2 (upd H2 sl (.lst (((as.take n).drop (cutP rs (rk O) n+1).toNat).map V.ref))):=Kp.new Kp.refl fsl;have h3:upd H2 sl (.lst (((as.take n).drop (cutP rs (rk O) n+1).toNat).map V.ref)) sl=some (.lst (((as.take n).drop (cutP rs (rk O) n+1).toNat).map V.ref)):=upd_same;generalize upd H2 sl (.lst (((as.take n).drop (cutP rs (rk O) n+1).toNat).map V.ref))=H3 at k3 h3;have R3:=R2.kp k3
    have hlen:((rs.take n).drop (cutP rs (rk O) n+1).toNat).flatten.length<=rs.flatten.length :=
     flat_le _ _ _
    refine ⟨sl,_,(rs.take n).drop (cutP rs (rk O) n+1).toNat,rfl,⟨h3,?_,fun i a' r' e1 e2=>?_⟩,by lia,fun x H4 fx hx k4=>?_⟩
    ·rw [qA4,qA4,qAX,qAX,R.len]
    ·rw [qBf] at e1 e2;have hi:=(qAV.mp e1).1;rw [qAX] at hi;rw [qBm (by lia)] at e1 e2;exact R3.row _ a' r' e1 e2
    have k24:=k3.trans k4;refine ⟨_,rfl,(by walk_at "ln"),fun (on:Addr) hon=>?_⟩;have fon:Fre H4 on:=hon;have k5:Kp [] H4 (upd H4 on (.lst [.str y])):=Kp.new Kp.refl fon;have h5:upd H4 on (.lst [.str y]) on=some (.lst [.str y]):=upd_same;generalize upd H4 on (.lst [.str y])=H5 at k5 h5;refine ⟨_,_,_,_,rfl,rfl,k5 x _ hx (by simp),h5,?_,fun (cc:Addr) hcc=>?_⟩
    ·rw [qAD,qBN,qAM];lia
    have fcc:Fre H5 cc:=hcc
    have eB:(((rs.take n).drop (cutP rs (rk O) n+1).toNat).flatten).map V.str++[.str y]=(blkP rs (rk O) n).map V.str:=by
     unfold blkP;rw [qAU,ey];rfl
    rw [eB];have k6:Kp [] H5 (upd H5 cc (.lst ((blkP rs (rk O) n).map V.str))):=Kp.new Kp.refl fcc;have h6:upd H5 cc (.lst ((blkP rs (rk O) n).map V.str)) cc=some (.lst ((blkP rs (rk O) n).map V.str)):=upd_same;generalize upd H5 cc (.lst ((blkP rs (rk O) n).map V.str))=H6 at k6 h6;have k25:=k24.trans k5;have k26:=k25.trans k6;have Rb6:=Rb.kp k26 (by simp) (by simp);have fcc2:Fre H2 cc:=k25.fre fcc (by simp);have ncb:cc≠bk:=(ne_fre fcc2 Rb.top).symm;have hbl:=Rb.len;refine ⟨_,_,_,rfl,rfl,Rb6.top,by rw [qAD,qAM];lia,?_⟩;have M:=Rb6.more h6 ncb (k2.fre fcc2 (by simp));refine ⟨_,rfl,⟨cutP rs (rk O) n,bs++[cc],Bs++[blkP rs (rk O) n],f',_,_,rfl,Kp.new (k2.trans k26) fbk,M,c1,by lia,by lia,by rw [qAf,qBN];lia,?_⟩,?_⟩
    ·rw [<-hE,qBM];have:blkF rs (rk O) (f'+1) (n:Int)=blkP rs (rk O) n::blkF rs (rk O) f' (cutP rs (rk O) n):=qAB (by lia);rw [this];rfl
    ·show (cutP rs (rk O) n+1).toNat<((n:Int)+1).toNat;lia
   ·have c:p<0:=by
     have:¬p>=0:=fun z=>c (qAR z);lia
    rw [zJd _ _ _ c,qA2] at hE;refine ⟨_,rfl,bk,_,rfl,Rb.top,fun rv hrv=>⟨rv,bk,_,rfl,upd_same,(upd_ne (zAj Rb.top hrv)).trans Rb.top,fun bl hbl=>?_⟩⟩;obtain ⟨k4,h4⟩:=kp_rev hrv hbl (o':=.lst (bs.map V.ref).reverse);have fbl:Fre H2 bl:=(Kp.new (M:=[]) Kp.refl hrv).fre hbl (by simp);generalize upd (del (upd H2 rv _) rv) bl (.lst (bs.map V.ref).reverse)=H4 at k4 h4 ⊢;refine k bl bs.reverse H4 ⟨by rw [h4,List.map_reverse],?_,fun i a r e1 e2=>?_,fun a ha=>?_,k2.fre fbl (by simp),fun a ha=>Rb.frs a (List.mem_reverse.mp ha)⟩ (k2.trans k4)
    ·unfold blks;rw [<-hE,qCf,qCf,Rb.len]
    ·unfold blks at e2;rw [<-hE] at e2;have hi:=(qAV.mp e1).1;rw [qCf] at hi;rw [qDP hi] at e1;rw [qDP (by rw [<-Rb.len];exact hi),<-Rb.len] at e2;exact k4 _ _ (Rb.row _ a r e1 e2) (by simp)
    ·obtain ⟨r,_,hr'⟩:=Rb.mem (List.mem_reverse.mp ha);exact ne_fre fbl hr'
  ·obtain ⟨x,e,i,j,h1,h2,b,h3,q⟩:=hc;exact ⟨x,e,i,j,h1,h2,b,h3,hq _ _ q⟩
end
theorem zDt (l:List Int):(zB6 l).Perm l:=List.mergeSort_perm _ _
theorem zI8 (l:List Int):(zB6 l).Pairwise (·>=·):=by
 have:=qDj (le:=fun a b:Int=>decide (a>=b)) (fun a b c h1 h2=>by
  have h1:=qAi h1;have h2:=qAi h2;exact qAR (by lia)) (fun a b=>by
  rcases Int.le_total a b with z| z
  ·simp [z]
  ·simp [z]) l
 exact this.imp fun h=>qAi h
theorem dsort_cut (l:List Int) (c:Int):zB6 l=zB6 (l.filter fun i=>decide (c<i))++zB6 (l.filter fun i=>!decide (c<i)):=by
 refine (zI7 (((zDt _).append (zDt _)).trans (List.filter_append_perm _ l)) (List.pairwise_append.mpr ⟨zI8 _,zI8 _,fun a ha b hb=>?_⟩)).symm;have h1:=qAi (qAY.mp ((zDt _).mem_iff.mp ha)).2;have h2:=(qAY.mp ((zDt _).mem_iff.mp hb)).2;simp at h2;lia
theorem lex_app (X Y:List Int):∀P:List Int,HT.lexLt (P++X) (P++Y)=HT.lexLt X Y
 | []=>rfl
 | p::P=>by
  rw [List.cons_append,List.cons_append,HT.lexLt_cons,qAC rfl];exact lex_app X Y P
theorem lex_less {A B:List Int} {c:Int} (na:A.Nodup) (nb:B.Nodup) (hb:c∈B) (ha:c∉A) (h:∀i,c<i->(i∈A↔i∈B)):HT.lexLt (zB6 A) (zB6 B)=true:=by
 rw [dsort_cut A c,dsort_cut B c]
 have e:zB6 (A.filter fun i=>decide (c<i))=zB6 (B.filter fun i=>decide (c<i)):=by
  refine dsort_perm ((List.perm_ext_iff_of_nodup (na.filter _) (nb.filter _)).mpr fun i=>?_);rw [qAY,qAY];exact ⟨fun z=>⟨(h i (qAi z.2)).mp z.1,z.2⟩,fun z=>⟨(h i (qAi z.2)).mpr z.1,z.2⟩⟩
 rw [e,lex_app]
 have le:∀i∈zB6 (A.filter fun i=>!decide (c<i)),i<c:=fun i hi=>by
  obtain ⟨h1,h2⟩:=qAY.mp ((zDt _).mem_iff.mp hi);simp at h2;have:i≠c:=fun z=>ha (z▸h1);lia
 have up:∀i∈zB6 (B.filter fun i=>!decide (c<i)),i<=c:=fun i hi=>by
  obtain ⟨h1,h2⟩:=qAY.mp ((zDt _).mem_iff.mp hi);simpa using h2
 have mc:c∈zB6 (B.filter fun i=>!decide (c<i)):=(zDt _).mem_iff.mpr (qAY.mpr ⟨hb,by simp⟩);have pw:=zI8 (B.filter fun i=>!decide (c<i));generalize zB6 (A.filter fun i=>!decide (c<i))=X at le;generalize zB6 (B.filter fun i=>!decide (c<i))=Y at up mc pw
 cases Y with
 | nil=>exact nomatch mc
 | cons y Y =>
  have ey:y=c:=by
   have h1:=up y qAS;rcases qAO.mp mc with z| z
   ·exact z.symm
   ·have:=(qBe.mp pw).1 c z;lia
  cases X with
  | nil=>rfl
  | cons x X =>
   have:=le x qAS;rw [HT.lexLt_cons,qAB (by lia)];exact qAR (by lia)
theorem nd_inj {α β:Type} {f:α->β}:∀{L:List α},L.Nodup->(∀a∈L,∀b∈L,f a=f b->a=b)->(L.map f).Nodup
 | [],_,_=>qAy
 | a::L,nd,h=>by
  obtain ⟨n1,n2⟩:=qBC.mp nd;rw [qAo];refine qBC.mpr ⟨fun z=>?_,nd_inj n2 fun x hx y hy=>h x (qAT _ hx) y (qAT _ hy)⟩;obtain ⟨y,h1,h2⟩:=qAa.mp z;exact n1 (h y (qAT _ h1) a qAS h2▸h1)
section
variable {α:Type} [DecidableEq α] {ns:List α} {S st:α->List α} {rk:α->Int} {g:α->Nat} {k:Nat} {fs:Nat->α} {sn:Nat->Option α}
structure Two (ns:List α) (S st:α->List α) (rk:α->Int) (g:α->Nat) (k:Nat) (fs:Nat->α) (sn:Nat->Option α):Prop where
 nd:ns.Nodup
 sub:∀n∈ns,∀m∈S n,m∈ns
 tr:∀n∈ns,∀m∈S n,∀x∈S m,x∈S n
 inj:∀x∈ns,∀y∈ns,rk x=rk y->x=y
 dn:∀n∈ns,∀m∈S n,rk n<rk m
 stm:∀n∈ns,∀y,y∈st n↔(y∈ns/\n∈S y/\∀z∈ns,n∈S z->z∉S y)
 std:∀n∈ns,(st n).Nodup
 lst:∀n∈ns,∀o∈ns,rk n<=rk o->(∀y∈st o,rk y<rk n)->HT.lexLt (zB6 ((st o).map rk)) (zB6 ((st n).map rk))≠true
 lt:∀n∈ns,g n<k
 od:∀n∈ns,∀m∈S n,g m<g n
 f1:∀i,i<k->fs i∈ns/\g (fs i)=i
 s1:∀i,i<k->∀b,sn i=some b->b∈ns/\g b=i/\rk b<rk (fs i)
 at':∀n∈ns,n=fs (g n)\/sn (g n)=some n
 gr:∀i,i<k->∀x∈ns,i<=g x->(∀m∈S x,g m<i)->x=fs i\/sn i=some x\/∃b,sn i=some b/\rk x<rk b
def Full (rk:α->Int) (fs:Nat->α) (sn:Nat->Option α) (p i:Nat):Prop:=∃b,sn i=some b/\rk (fs p)<=rk b
structure Cut (rk:α->Int) (fs:Nat->α) (sn:Nat->Option α) (p e:Nat):Prop where
 lt:e<p
 cut:∀b,sn e=some b->rk b<rk (fs p)
 full:∀i,e<i->i<p->Full rk fs sn p i
def InB (ns:List α) (g:α->Nat) (fs:Nat->α) (lo p:Nat) (x:α):Prop:=x∈ns/\((lo<=g x/\g x<p)\/x=fs p)
def Top (ns:List α) (rk:α->Int) (g:α->Nat) (fs:Nat->α) (p:Nat):Prop:=∀x∈ns,p<=g x->x≠fs p->rk x<rk (fs p)
theorem Two.top_last (T:Two ns S st rk g k fs sn) (h:p+1=k):Top ns rk g fs p:=fun x hx hp hn=>by
 have h1:=T.lt x hx;have h2:g x=p:=by lia
 rcases T.at' x hx with z| z
 ·rw [h2] at z;exact absurd z hn
 ·rw [h2] at z;exact (T.s1 p (by lia) x z).2.2
theorem Two.ge (T:Two ns S st rk g k fs sn) (hp:p<k) (full:∀i,lo<=i->i<p->Full rk fs sn p i) {x:α} (h:InB ns g fs lo p x):rk (fs p)<=rk x:=by
 obtain ⟨hx,⟨h1,h2⟩| h⟩:=h
 ·obtain ⟨b,hb,hr⟩:=full (g x) h1 h2;have h3:=T.s1 (g x) (by lia) b hb;rcases T.at' x hx with z| z
  ·have:=h3.2.2;rw [<-z] at this;lia
  ·rw [hb] at z;cases z;exact hr
 ·rw [h];lia
theorem InB.gt (T:Two ns S st rk g k fs sn) (hp:p<k) (h:e<p) {x:α} (hx:InB ns g fs (e+1) p x):e<g x/\g x<=p:=by
 obtain ⟨_,⟨h1,h2⟩| h3⟩:=hx
 ·exact ⟨by lia,by lia⟩
 ·rw [h3,(T.f1 p hp).2];exact ⟨h,qAF _⟩
theorem zI0 {Q:α->Prop} {x:α} (hx:Q x):∃y,Q y/\∀z,Q z->g y<=g z:=by
 suffices H:∀n x,Q x->g x<=n->∃y,Q y/\∀z,Q z->g y<=g z from H (g x) x hx (qAF _)
 intro n
 induction n with
 | zero=>exact fun x hx h=>⟨x,hx,fun z _=>by lia⟩
 | succ n ih =>
  intro x hx h
  by_cases c:∃z,Q z/\g z<g x
  ·obtain ⟨z,h1,h2⟩:=c;exact ih z h1 (by lia)
  ·exact ⟨x,hx,fun z hz=>Nat.le_of_not_lt fun y=>c ⟨z,hz,y⟩⟩
theorem Two.ahead (T:Two ns S st rk g k fs sn) (hp:p<k) (C:Cut rk fs sn p e) {x:α} (h:InB ns g fs (e+1) p x):fs e∈S x:=by
 have ge:=T.ge hp (fun i h1 h2=>C.full i (by lia) h2) h;have gx:=h.gt T hp C.lt;have hxn:=h.1;obtain ⟨y,⟨hy,he⟩,mn⟩:=zI0 (g:=g) (Q:=fun y=>(y=x\/y∈S x)/\e<=g y) (x:=x) ⟨.inl rfl,by lia⟩;have yn:y∈ns:=hy.elim (fun z=>z▸hxn) (T.sub x hxn y)
 have rd:∀m∈S y,g m<e:=fun m hm=>qDB fun z=>by
  have h1:=mn m ⟨.inr (hy.elim (fun w=>w▸hm) fun w=>T.tr x hxn y w m hm),z⟩;have h2:=T.od y yn m hm;lia
 have ry:y=x\/rk x<rk y:=hy.imp_right (T.dn x hxn y);have hek:e<k:=qCQ C.lt hp;rcases T.gr e hek y yn he rd with z| z| ⟨b,z,w⟩
 ·have ne:y≠x:=fun w=>by
   have:=(T.f1 e hek).2;rw [<-z,w] at this;lia
  rw [<-z];exact hy.resolve_left ne
 ·have h1:=C.cut y z;have h2:=(T.s1 e hek y z).2.1;rcases ry with w| w
  ·rw [w] at h2;lia
  ·lia
 ·have h1:=C.cut b z;rcases ry with v| v
  ·rw [v] at w;lia
  ·lia
theorem Two.top_cut (T:Two ns S st rk g k fs sn) (hp:p<k) (C:Cut rk fs sn p e) (A:Top ns rk g fs p):Top ns rk g fs e:=fun x hx he hn=>by
 have hek:e<k:=qCQ C.lt hp;have inb:∀y,InB ns g fs (e+1) p y->rk y<rk (fs e):=fun y hy=>T.dn y hy.1 _ (T.ahead hp C hy)
 by_cases h1:g x=e
 ·rcases T.at' x hx with z| z
  ·rw [h1] at z;exact absurd z hn
  ·rw [h1] at z;exact (T.s1 e hek x z).2.2
 ·by_cases h2:g x<p
  ·exact inb x ⟨hx,.inl ⟨by lia,h2⟩⟩
  ·by_cases h3:x=fs p
   ·exact inb x ⟨hx,.inr h3⟩
   ·have h4:=A x hx (by lia) h3;have h5:=inb (fs p) ⟨(T.f1 p hp).1,.inr rfl⟩;lia
def Ini (ns:List α) (S:α->List α) (g:α->Nat) (fs:Nat->α) (lo p:Nat) (t:α):Prop:=InB ns g fs lo p t/\∀m,InB ns g fs lo p m->m∉S t
theorem Two.ini (T:Two ns S st rk g k fs sn) {x:α} (h:InB ns g fs lo p x):∃t,Ini ns S g fs lo p t/\(t=x\/t∈S x):=by
 obtain ⟨t,⟨h1,h2⟩,mn⟩:=zI0 (g:=g) (Q:=fun y=>InB ns g fs lo p y/\(y=x\/y∈S x)) (x:=x) ⟨h,.inl rfl⟩;refine ⟨t,⟨h1,fun m hm z=>?_⟩,h2⟩;have h3:=mn m ⟨hm,.inr (h2.elim (fun w=>w▸z) fun w=>T.tr x h.1 t w m z)⟩;have h4:=T.od t h1.1 m z;lia
theorem Two.blocks (T:Two ns S st rk g k fs sn) (hp:p<k) (C:Cut rk fs sn p e) (A:Top ns rk g fs p) (full:∀i,lo<=i->i<e->Full rk fs sn e i):∀(n:Nat) (z:α),(rk z - rk (fs e)).toNat<=n->InB ns g fs lo e z->∀x,InB ns g fs (e+1) p x->z∈S x:=by
 have hek:e<k:=qCQ C.lt hp;have un:=(T.f1 e hek).1;have A':=T.top_cut hp C A;intro n
 induction n with
 | zero =>
  intro z hn hz x hx;have h1:=T.ge hek full hz;have:rk z=rk (fs e):=by lia
  rw [T.inj z hz.1 _ un this];exact T.ahead hp C hx
 | succ n ih =>
  intro z hn hz x hx
  by_cases zu:z=fs e
  ·rw [zu];exact T.ahead hp C hx
  have hzn:=hz.1;have hgz:lo<=g z/\g z<e:=hz.2.resolve_right zu
  have rz:rk (fs e)<rk z:=by
   have h1:=T.ge hek full hz;have:rk z≠rk (fs e):=fun w=>zu (T.inj z hzn _ un w);lia
  have own:∀y∈st z,InB ns g fs lo e y->z∈S x:=fun y hy hb=>by
   obtain ⟨h1,h2,_⟩:=(T.stm z hzn y).mp hy;have h3:=T.dn y h1 z h2;have h4:=T.ge hek full hb;exact T.tr x hx.1 y (ih y (by lia) hb x hx) z h2
  by_cases c:∃y∈st z,InB ns g fs lo e y
  ·obtain ⟨y,h1,h2⟩:=c;exact own y h1 h2
  have no:∀y∈st z,¬InB ns g fs lo e y:=fun y h1 h2=>c ⟨y,h1,h2⟩
  have gy:∀y∈st z,y∈ns/\z∈S y/\e<=g y/\y≠fs e:=fun y hy=>by
   obtain ⟨h1,h2,_⟩:=(T.stm z hzn y).mp hy;have h3:=T.od y h1 z h2;have h4:=no y hy;refine ⟨h1,h2,Nat.le_of_not_lt fun w=>h4 ⟨h1,.inl ⟨by lia,w⟩⟩,fun w=>h4 ⟨h1,.inr w⟩⟩
  have ll:=T.lst (fs e) un z hzn (by lia) fun y hy=>A' y (gy y hy).1 (gy y hy).2.2.1 (gy y hy).2.2.2
  have ist:∀t,Ini ns S g fs (e+1) p t->t∈st (fs e):=fun t ht=>(T.stm _ un t).mpr ⟨ht.1.1,T.ahead hp C ht.1,fun w hw h1 h2=>by
   have g1:=T.od w hw _ h1;have g2:=T.od t ht.1.1 w h2;have g3:=(ht.1.gt T hp C.lt).2;have g4:=(T.f1 e hek).2;exact ht.2 w ⟨hw,.inl ⟨by lia,by lia⟩⟩ h2⟩
  have all:∀t,Ini ns S g fs (e+1) p t->t∈st z:=by
   refine qBE fun hno=>?_;have:∃t,Ini ns S g fs (e+1) p t/\t∉st z:=qBE fun w=>hno fun t ht=>qBE fun v=>w ⟨t,ht,v⟩;obtain ⟨t0,ht0⟩:=this;obtain ⟨t,⟨ht,nt⟩,mx⟩:=zI0 (g:=fun y=>(rk (fs e) - rk y).toNat) (Q:=fun t=>Ini ns S g fs (e+1) p t/\t∉st z) (x:=t0) ht0;have lo':∀y,Ini ns S g fs (e+1) p y->rk y<rk (fs e):=fun y hy=>T.dn y hy.1.1 _ (T.ahead hp C hy.1)
   have gt:∀y,Ini ns S g fs (e+1) p y->rk t<rk y->y∈st z:=fun y hy hr=>qBE fun w=>by
    have h1:(rk (fs e) - rk t).toNat<=(rk (fs e) - rk y).toNat:=mx y ⟨hy,w⟩;have h2:=lo' y hy;have h3:=lo' t ht;lia
   have gev:=T.ge hp (fun i h1 h2=>C.full i (by lia) h2) ht.1;refine ll (lex_less (c:=rk t) ?_ ?_ (qAa.mpr ⟨t,ist t ht,rfl⟩) ?_ fun i hi=>⟨fun h=>?_,fun h=>?_⟩)
   ·exact nd_inj (T.std z hzn) fun a ha b hb w=>T.inj a (gy a ha).1 b (gy b hb).1 w
   ·exact nd_inj (T.std _ un) fun a ha b hb w=>T.inj a ((T.stm _ un a).mp ha).1 b ((T.stm _ un b).mp hb).1 w
   ·intro h;obtain ⟨y,h1,h2⟩:=qAa.mp h;exact nt (T.inj y (gy y h1).1 t ht.1.1 h2▸h1)
   ·obtain ⟨y,hy,rfl⟩:=qAa.mp h;obtain ⟨y1,y2,y3,y4⟩:=gy y hy
    have y5:g y<p:=qDB fun w=>by
     by_cases v:y=fs p
     ·rw [v] at hi;lia
     ·have:=A y y1 w v;lia
    have y6:g y≠e:=fun w=>by
     rcases T.at' y y1 with v| v
     ·rw [w] at v;exact y4 v
     ·rw [w] at v;have:=C.cut y v;lia
    have yb:InB ns g fs (e+1) p y:=⟨y1,.inl ⟨by lia,y5⟩⟩;obtain ⟨t',h1,h2⟩:=T.ini yb;rcases h2 with h2| h2
    ·rw [h2] at h1;exact qAa.mpr ⟨y,ist y h1,rfl⟩
    ·have h3:=T.dn y y1 t' h2;have h4:=gt t' h1 (by lia);exact absurd h2 (((T.stm z hzn y).mp hy).2.2 t' h1.1.1 (gy t' h4).2.1)
   ·obtain ⟨y,hy,rfl⟩:=qAa.mp h;obtain ⟨y1,y2,y3⟩:=(T.stm _ un y).mp hy;have y4:=T.od y y1 _ y2;rw [(T.f1 e hek).2] at y4
    have y5:g y<p:=qDB fun w=>by
     by_cases v:y=fs p
     ·rw [v] at hi;lia
     ·have:=A y y1 w v;lia
    have yb:InB ns g fs (e+1) p y:=⟨y1,.inl ⟨by lia,y5⟩⟩;have yi:Ini ns S g fs (e+1) p y:=⟨yb,fun m hm w=>y3 m hm.1 (T.ahead hp C hm) w⟩;exact qAa.mpr ⟨y,gt y yi hi,rfl⟩
  obtain ⟨t,h1,h2⟩:=T.ini hx;have h3:=(gy t (all t h1)).2.1;rcases h2 with h2| h2
  ·rw [<-h2];exact h3
  ·exact T.tr x hx.1 t h2 z h3
end
structure OrdJ (J:JR) (r:Str->Nat):Prop where
 nd:J.ns.Nodup
 few:J.ns.length<=20
 rk:∀n∈J.ns,∀x∈J.S n,r x<r n
 sub:∀n∈J.ns,∀x∈J.S n,x∈J.ns
 tr:∀n∈J.ns,∀m∈J.S n,∀x∈J.S m,x∈J.S n
theorem ord_of {C:Addr} {j:Addr} {qs:List (List Str×Addr)} {r:Str->Nat} (A:JobsAt C H j J) (G:Good J.ns qs r) (hz:∀k,k∈J.zs.map (·.1)↔k∈qs.map (·.1)) (two:∀q∈qs,∃a b,q.1=[a,b]):OrdJ J r:=by
 have sub:∀n∈J.ns,∀x∈J.S n,x∈J.ns:=fun n hn x hx=>(Way.to two G.qin ((S_way A G hz hn).mp hx)).1;exact ⟨A.nd,A.few,fun n hn x hx=>S_rank A G hz _ n x (qAF _) hn hx,sub,fun n hn m hm x hx=>(S_way A G hz hn).mpr (((S_way A G hz (sub n hn m hm)).mp hx).trans ((S_way A G hz hn).mp hm))⟩
theorem strB_iff {x y:Str}:y∈strB J x↔y∈J.ns/\x∈J.S y/\∀z∈J.ns,x∈J.S z->z∉J.S y:=by
 unfold strB;rw [qAY,qAY,qCC,Bool.not_eq_true',List.any_eq_false];constructor
 ·rintro ⟨⟨h1,h2⟩,h3⟩;exact ⟨h1,h2,fun z hz hx hs=>h3 z (qAY.mpr ⟨hz,qAR hx⟩) (qAR hs)⟩
 ·rintro ⟨h1,h2,h3⟩;refine ⟨⟨h1,h2⟩,fun z hz c=>?_⟩;obtain ⟨z1,z2⟩:=qAY.mp hz;exact h3 z z1 (qAi z2) (qAi c)
theorem rk_inj {O:List Str} {x y:Str} (hx:x∈O) (h:rk O x=rk O y):x=y:=by
 unfold rk at h;have h1:O.idxOf x=O.idxOf y:=by lia
 have l1:=qDO.mpr hx;have l2:O.idxOf y<O.length:=by lia
 have e1:O[O.idxOf x]=x:=qC2 l1;have e2:O[O.idxOf y]=y:=qC2 l2;rw [<-e1,<-e2];congr 1
structure RkB (J:JR) (O:List Str):Prop where
 pm:O.Perm J.ns
 bef:∀n∈J.ns,∀y∈strB J n,rk O y<rk O n
 lst:∀n∈J.ns,∀o∈J.ns,rk O n<=rk O o->(∀y∈strB J o,rk O y<rk O n)->HT.lexLt (zB6 ((strB J o).map (rk O))) (zB6 ((strB J n).map (rk O)))≠true
theorem rk_b {r:Str->Nat} (A:OrdJ J r):RkB J (zFz J):=by
 obtain ⟨D,pm⟩:=deal_dl (near:=strB J) A.nd r (fun x hx y hy=>by
  obtain ⟨h1,h2⟩:=zIg hy;exact ⟨h1,A.rk y h1 x h2⟩) J.ns.length [] J.ns ⟨Dl.nil _ _,qCr _⟩ (qAF _)
 have D:Dl (strB J) J.ns (zFz J):=D;have pm:(zFz J).Perm J.ns:=pm;have sub:∀n∈J.ns,∀y∈strB J n,y∈J.ns:=fun n hn y hy=>(zIg hy).1;generalize zFz J=O at D pm
 have at':∀n∈J.ns,∃i,∃h:i<O.length,O[i]=n/\rk O n=(i:Int)+1:=fun n hn=>by
  have hO:=pm.mem_iff.mpr hn;exact ⟨O.idxOf n,qDO.mpr hO,qC2 _,rfl⟩
 have bef:∀n∈J.ns,∀i (h:i<O.length),O[i]=n->∀y∈strB J n,y∈O.take i:=fun n hn i h e y hy=>D.bef i h y (by rw [e];exact hy);refine ⟨pm,fun n hn y hy=>?_,fun n hn o ho h1 h2=>?_⟩
 ·obtain ⟨i,hi,e1,e2⟩:=at' n hn;rw [e2];exact (rk_lt D.nd (pm.mem_iff.mpr (sub n hn y hy))).mpr (bef n hn i hi e1 y hy)
 ·obtain ⟨i,hi,e1,e2⟩:=at' n hn
  have no:o∉O.take i:=fun z=>by
   have:=(rk_lt (i:=i) D.nd (pm.mem_iff.mpr ho)).mpr z;lia
  have so:∀y∈strB J o,y∈O.take i:=fun y hy=>by
   have:=h2 y hy;rw [e2] at this;exact (rk_lt D.nd (pm.mem_iff.mpr (sub o ho y hy))).mp this
  have key:=D.lst i hi o ho no so
  have gq:∀q,(∀y∈strB J q,y∈O.take i)->gk (strB J) (O.take i) q=zB6 ((strB J q).map (rk O)):=fun q hs=>by
   unfold gk;rw [qDH fun y hy=>rk_take (hs y hy)]
  rw [e1,gq o so,gq n (bef n hn i hi e1)] at key;exact key
theorem rk_up {r:Str->Nat} {O:List Str} (A:OrdJ J r) (B:RkB J O):∀(k:Nat) (n m:Str),n∈J.ns->m∈J.S n->r n<=r m+k->rk O n<rk O m:=by
 intro k
 induction k with
 | zero =>
  intro n m hn hm h;have:=A.rk n hn m hm;lia
 | succ k ih =>
  intro n m hn hm h;obtain ⟨y,⟨y1,y2,y3⟩,mn⟩:=zI0 (g:=r) (Q:=fun y=>y∈J.ns/\m∈J.S y/\(y=n\/y∈J.S n)) (x:=n) ⟨hn,hm,.inl rfl⟩
  have hy:y∈strB J m:=strB_iff.mpr ⟨y1,y2,fun z hz h1 h2=>by
   have g1:=mn z ⟨hz,h1,.inr (y3.elim (fun e=>e▸h2) fun e=>A.tr n hn y e z h2)⟩;have g2:=A.rk y y1 z h2;lia⟩
  have h1:=B.bef m (A.sub n hn m hm) y hy;rcases y3 with e| e
  ·rw [<-e];exact h1
  ·have h2:=A.rk y y1 m y2;have:=ih n y hn e (by lia);lia
theorem list_at {r:Str->Nat} {b:Nat} (hb:1<=b):∀(f:Nat) (A L:List Str),ListI J r A L->(∀n∈L,n∉A)->L.Nodup->∀(i:Nat) (q:List Str),(zDp J b f A L)[i]?=some q->∃A' L':List Str,ListI J r A' L'/\(∀n∈L',n∉A')/\L'.Nodup/\L'.Sublist L/\L'≠[]/\q=zCb J b A' L'/\∀n,n∈A'↔n∈A\/∃p∈(zDp J b f A L).take i,n∈p
 | 0,A,L,_,_,_,i,q,h=>by simp [zDp] at h
 | f+1,A,L,I,dj,nd,i,q,h=>by
  by_cases cL:L=[]
  ·rw [cL,zG9] at h;simp at h
  ·have e:zDp J b (f+1) A L=zCb J b A L::zDp J b f (zDo J b A L) (zE2 J b A L):=qAB cL;rw [e] at h ⊢
   cases i with
   | zero =>
    have:zCb J b A L=q:=by simpa using h
    exact ⟨A,L,I,dj,nd,qDQ _,cL,this.symm,fun n=>by simp⟩
   | succ i =>
    obtain ⟨A',L',h1,h2,h3,h4,h5,h6,h7⟩:=list_at hb f (zDo J b A L) (zE2 J b A L) (I.next b) (fun n hn z=>qAi (qAY.mp hn).2 z) (nd.sublist qBR) i q (by simpa using h);refine ⟨A',L',h1,h2,h3,h4.trans qBR,h5,h6,fun n=>?_⟩;rw [h7 n,qDN];unfold zDo;rw [zBd];constructor
    ·rintro ((z| z)| ⟨p,p1,p2⟩)
     ·exact .inl z
     ·exact .inr ⟨_,qAS,z⟩
     ·exact .inr ⟨p,qAT _ p1,p2⟩
    ·rintro (z| ⟨p,p1,p2⟩)
     ·exact .inl (.inl z)
     ·rcases qAO.mp p1 with e| e
      ·exact .inl (.inr (e▸p2))
      ·exact .inr ⟨p,e,p2⟩
theorem list_all {r:Str->Nat} {b:Nat} (hb:1<=b):∀(f:Nat) (A L:List Str),ListI J r A L->L.length<=f->∀n∈L,n∈A\/∃p∈zDp J b f A L,n∈p
 | 0,A,L,_,hf,n,hn=>by
  have:L=[]:=List.eq_nil_of_length_eq_zero (by lia);rw [this] at hn;exact nomatch hn
 | f+1,A,L,I,hf,n,hn=>by
  have cL:L≠[]:=fun z=>by rw [z] at hn;exact nomatch hn
  have e:zDp J b (f+1) A L=zCb J b A L::zDp J b f (zDo J b A L) (zE2 J b A L):=qAB cL;rw [e]
  by_cases z:n∈zDo J b A L
  ·rcases (zBd _ _).mp z with y| y
   ·exact .inl y
   ·exact .inr ⟨_,qAS,y⟩
  ·have hless:=I.less hb cL;rcases list_all hb f (zDo J b A L) (zE2 J b A L) (I.next b) (by lia) n (qAY.mpr ⟨hn,qAR z⟩) with y| ⟨p,p1,p2⟩
   ·exact absurd y z
   ·exact .inr ⟨p,qAT _ p1,p2⟩
theorem zHa (J:JR) (b:Nat):∀(f:Nat) (A L:List Str),(zDp J b f A L).length<=f
 | 0,_,_=>qAF _
 | f+1,A,L=>by
  show (if L=[] then [] else _).length<=_
  by_cases c:L=[]
  ·rw [qAC c];simp
  ·rw [qAB c];have:=zHa J b f (zDo J b A L) (zE2 J b A L);simp;lia
theorem zI6 {J:JR} {b:Nat}:∀(f:Nat) (A L:List Str),L.Nodup->(zDp J b f A L).flatten.Nodup/\∀n∈(zDp J b f A L).flatten,n∈L
 | 0,_,_,_=>⟨qAy,(fun _ h=>nomatch h)⟩
 | f+1,A,L,nd=>by
  by_cases c:L=[]
  ·rw [c,zG9];exact ⟨qAy,(fun _ h=>nomatch h)⟩
  ·have e:zDp J b (f+1) A L=zCb J b A L::zDp J b f (zDo J b A L) (zE2 J b A L):=qAB c;obtain ⟨h1,h2⟩:=zI6 f (zDo J b A L) (zE2 J b A L) (nd.sublist qBR);rw [e,qBZ];refine ⟨qBg.mpr ⟨(nd.sublist qBR).sublist (qCM _ _),h1,fun a ha d hd z=>?_⟩,fun n hn=>?_⟩
   ·have h3:=qAi (qAY.mp (h2 d hd)).2;exact h3 ((zBd _ _).mpr (.inr (z▸ha)))
   ·rcases qAQ.mp hn with z| z
    ·exact zD1 z
    ·exact (qAY.mp (h2 n z)).1
def rsT (J:JR) (ws:List Str):List (List Str):=zDp J 2 ws.length [] ws
section
variable {J:JR} {r:Str->Nat} {O ws:List Str}
theorem list_i (A:OrdJ J r) (pm:ws.Perm J.ns):ListI J r [] ws:=⟨A.rk,qAy,(fun _ h=>nomatch h),fun n hn=>pm.mem_iff.mp hn,fun n hn=>.inr (pm.mem_iff.mpr hn)⟩
theorem zIf (A:OrdJ J r) (pm:ws.Perm J.ns) {q:List Str} (h:(rsT J ws)[i]?=some q):∃A' L':List Str,ListI J r A' L'/\(∀n∈L',n∉A')/\L'.Nodup/\L'.Sublist ws/\L'≠[]/\q=zCb J 2 A' L'/\∀n,n∈A'↔n∈AF ((rsT J ws).take i) []:=by
 obtain ⟨A',L',h1,h2,h3,h4,h5,h6,h7⟩:=list_at (b:=2) (by decide) ws.length [] ws (list_i A pm) (fun _ _ h=>nomatch h) (pm.nodup_iff.mpr A.nd) i q h;refine ⟨A',L',h1,h2,h3,h4,h5,h6,fun n=>?_⟩;rw [h7 n,zD7];rfl
theorem zDa (A:OrdJ J r) (pm:ws.Perm J.ns):RightI J 2 (rsT J ws):=by
 refine ⟨fun i q h=>?_,fun n hn=>(zD7 _ _).mpr (list_all (b:=2) (by decide) ws.length [] ws (list_i A pm) (qAF _) n (pm.mem_iff.mpr hn))⟩;obtain ⟨A',L',h1,h2,h3,h4,h5,rfl,h7⟩:=zIf A pm h;refine ⟨fun n hn=>h1.li n (zD1 hn),(h3.sublist qBR).sublist (qCM _ _),fun n hn z=>h2 n (zD1 hn) ((h7 n).mpr z),fun n hn=>?_,?_⟩
 ·rw [<-rdy_congr h7];exact (qAY.mp (qBt hn)).2
 ·have:(zCb J 2 A' L').length<=2:=by unfold zCb;rw [qAX];lia
  lia
theorem zC9 (A:OrdJ J r) (pm:ws.Perm J.ns):∀q∈rsT J ws,q≠[]/\q.length<=2/\∀x∈q,x∈J.ns:=fun q hq=>by
 obtain ⟨i,hi⟩:=qDk hq;have T:=(zDa A pm).at' i q hi;obtain ⟨A',L',h1,_,_,_,h5,e,_⟩:=zIf A pm hi;exact ⟨by rw [e];exact h1.turn (by decide) h5,by have:=T.fit;lia,T.ns⟩
theorem tI_is (A:OrdJ J r) (pm:ws.Perm J.ns) {q:List Str} {n:Str} (h:(rsT J ws)[i]?=some q) (hn:n∈q):tI (rsT J ws) n=i :=
 tI_eq h hn fun p hp z=>((zDa A pm).at' i q h).nw n hn ((zD7 _ _).mpr (.inr ⟨p,hp,z⟩))
theorem zFd {rs:List (List Str)} (h:i<rs.length):rs[i]?=some (rowN rs i):=by
 have e:=qAt h;rw [zGz e];exact e
theorem two_in {q:List Str} {n:Str} (h:q.length<=2) (hn:n∈q):n=hd1 q\/q[1]?=some n:=by
 match q,h,hn with
 | [a],_,hn=>exact .inl (qAP.mp hn)
 | [a,b],_,hn =>
  rcases qAO.mp hn with z| z
  ·exact .inl z
  ·exact .inr (by rw [qAP.mp z];rfl)
theorem rk_st {L:List Str} (A:OrdJ J r) (B:RkB J O) (nd:L.Nodup) (sub:∀n∈L,n∈J.ns) (pw:L.Pairwise (fun x y=>rk O y<=rk O x)):L.Pairwise (fun x y=>rk O y<rk O x):=by
 refine (List.pairwise_and_iff.mpr ⟨pw,nd⟩).imp_of_mem fun {a b} ha hb ⟨h1,h2⟩=>?_;have:rk O b≠rk O a:=fun z=>h2 (rk_inj (B.pm.mem_iff.mpr (sub b hb)) z).symm;lia
theorem two_is (A:OrdJ J r) (B:RkB J O) (pm:ws.Perm J.ns) (pw:ws.Pairwise (fun x y=>rk O y<=rk O x)):Two J.ns J.S (strB J) (rk O) (tI (rsT J ws)) (rsT J ws).length (fun i=>hd1 (rowN (rsT J ws) i)) (fun i=>(rowN (rsT J ws) i)[1]?):=by
 have R:=zDa A pm;have rows:=zC9 A pm;have inR:∀n∈J.ns,∃q,(rsT J ws)[tI (rsT J ws) n]?=some q/\n∈q:=fun n hn=>tI_at (((zD7 _ _).mp (R.all n hn)).resolve_left (by simp));have st:=rk_st A B (pm.nodup_iff.mpr A.nd) (fun n hn=>pm.mem_iff.mp hn) pw
 have hd:∀i,i<(rsT J ws).length->∃a l,rowN (rsT J ws) i=a::l/\(rsT J ws)[i]?=some (a::l):=fun i hi=>by
  have e:=zFd hi
  cases z:rowN (rsT J ws) i with
  | nil=>exact absurd z (rows _ (qAL e)).1
  | cons a l=>rw [z] at e;exact ⟨a,l,rfl,e⟩
 refine ⟨A.nd,A.sub,A.tr,fun x hx y _ h=>rk_inj (B.pm.mem_iff.mpr hx) h,fun n hn m hm=>rk_up A B (r n) n m hn hm (Nat.le_add_left _ _),fun n _ y=>strB_iff,fun n _=>(A.nd.sublist qBR).sublist qBR,B.lst,fun n hn=>?_,fun n hn m hm=>right_lt R (A.sub n hn m hm) hn hm,fun i hi=>?_,fun i hi b hb=>?_,fun n hn=>?_,fun i hi x hx hg hS=>?_⟩
 ·obtain ⟨q,e,_⟩:=inR n hn;exact (qAV.mp e).1
 ·obtain ⟨a,l,e1,e2⟩:=hd i hi;show hd1 (rowN _ i)∈J.ns/\tI _ (hd1 (rowN _ i))=i;rw [e1];exact ⟨(rows _ (qAL e2)).2.2 a qAS,tI_is A pm e2 qAS⟩
 ·obtain ⟨a,l,e1,e2⟩:=hd i hi;have hb:(rowN (rsT J ws) i)[1]?=some b:=hb;rw [e1] at hb;have mb:b∈a::l:=qAL hb;refine ⟨(rows _ (qAL e2)).2.2 b mb,tI_is A pm e2 mb,?_⟩;show _<rk O (hd1 (rowN _ i));rw [e1];obtain ⟨A',L',_,_,_,h4,_,e,_⟩:=zIf A pm e2;have sl:(a::l).Sublist ws:=by rw [e];exact ((qCM _ _).trans qBR).trans h4
  have mb':b∈l:=qAL (i:=0) (by simpa using hb);exact (qBe.mp (st.sublist sl)).1 b mb'
 ·obtain ⟨q,e,hq⟩:=inR n hn;have:=two_in (rows q (qAL e)).2.1 hq;show n=hd1 (rowN _ _)\/(rowN _ _)[1]?=some n;rw [zGz e];exact this
 ·obtain ⟨a,l,e1,e2⟩:=hd i hi;show x=hd1 (rowN _ i)\/(rowN _ i)[1]?=some x\/∃b,(rowN _ i)[1]?=some b/\rk O x<rk O b;obtain ⟨A',L',h1,h2,h3,h4,_,e,h7⟩:=zIf A pm e2
  have nA:x∉A':=fun z=>by
   have z:=(zD7 _ _).mp ((h7 x).mp z);obtain ⟨q,q1,q2⟩:=z.resolve_left (by simp);have:=tI_lt q1 q2;lia
  have xL:x∈L':=(h1.al x hx).resolve_left nA
  have rd:rdyB J A' x=true:=by
   unfold rdyB;rw [qA6];intro m hm;have hs:=qAi (qAY.mp hm).2;refine qAR ((h7 m).mpr ((zD7 _ _).mpr (.inr ?_)));have lt:=hS m hs;obtain ⟨q,q1,q2⟩:=inR m (A.sub x hx m hs);refine ⟨q,qAL (i:=tI (rsT J ws) m) ?_,q2⟩;rw [qBm lt];exact q1
  have xF:x∈L'.filter (rdyB J A'):=qAY.mpr ⟨xL,rd⟩;have pF:=st.sublist (qBR.trans h4:(L'.filter (rdyB J A')).Sublist ws);have e':rowN (rsT J ws) i=(L'.filter (rdyB J A')).take 2:=by rw [e1,e];rfl
  rw [e'];generalize L'.filter (rdyB J A')=M at xF pF
  match M,xF,pF with
  | [u],xF,_=>exact .inl (qAP.mp xF)
  | u::v::M,xF,pF =>
   rcases qAO.mp xF with z| z
   ·exact .inl z
   ·rcases qAO.mp z with z| z
    ·exact .inr (.inl (by rw [z];rfl))
    ·exact .inr (.inr ⟨v,rfl,(qBe.mp (qBe.mp pF).2).1 x z⟩)
end
def lamQ2:Str:=Str.ofString "two_plan" ++ ".<locals>." ++ "<lambda>"
def lamPos2:Pos:=⟨190,35,190,59⟩
abbrev TabU (H:Hp) (Pu:Addr):Prop:=Tab0 H Pu lamQ2 lamPos2
theorem JobsAt.kp2 {C:Addr} {H':Hp} {j Pt Pu:Addr} (A:JobsAt C H j J) (k:Kp [Pt,Pu] H H') (t:∃xs,H Pt=some (.tbl xs)) (u:∃xs,H Pu=some (.tbl xs)):JobsAt C H' j J:=by
 refine A.kp k fun a o ha hm=>?_
 have t':∃xs,H a=some (.tbl xs):=by
  rcases qAO.mp hm with e| e
  ·rw [e];exact t
  ·rw [qAP.mp e];exact u
 exact ⟨(zBk t' A.ob fun _ z=>nomatch z).symm,(zBk t' A.row fun _ z=>nomatch z).symm,(zBk t' A.prs.top fun _ z=>nomatch z).symm,(zBk t' A.abv fun _ z=>nomatch z).symm,fun q hq=>(zBk t' (A.prs.row q hq) fun _ z=>nomatch z).symm,fun n hn=>(zBk t' (A.sets n hn) fun _ z=>nomatch z).symm⟩
theorem fre_two {H':Hp} {Pt Pu a:Addr} (t:∃xs,H' Pt=some (.tbl xs)) (u:∃xs,H' Pu=some (.tbl xs)) (k:Kp [Pt,Pu] H H') (f:Fre H' a):Fre H a:=by
 cases z:H a with
 | none=>exact z
 | some o =>
  obtain ⟨ps,e⟩:=t;obtain ⟨qs,e'⟩:=u;have f:H' a=none:=f;have:=k a o z (nm2 (fun y=>by rw [<-y,f] at e;cases e) (fun y=>by rw [<-y,f] at e';cases e'));rw [f] at this;cases this
theorem RowsAt.back {H0 H1:Hp} {l:Addr} {as:List Addr} {rs:List (List Str)} (R:RowsAt H1 H l as rs) (f:∀a,Fre H1 a->Fre H0 a):RowsAt H0 H l as rs:=⟨R.top,R.len,R.row,R.ne,f _ R.fr,fun a h=>f a (R.frs a h)⟩
section
variable {P:Program} {w:World} {K:PySem.W.Frag} {mg:Str->Option Value} {base:Heap} {C:Addr}
def spTwo (C Pt Pu:Addr):Sp:=fun vs H Q _=>∃(j:Addr) (J:JR) (qs:List (List Str×Addr)) (r:Str->Nat),vs=[.ref j]/\JobsAt C H j J/\Good J.ns qs r/\(∀k,k∈J.zs.map (·.1)↔k∈qs.map (·.1))/\OrdJ J r/\TabA H Pt/\TabU H Pu/\Pt≠Pu /\
 ∀(t pl bl:Addr) (as bs:List Addr) (ws:List Str) (H':Hp),Kp [Pt,Pu] H H'->TabA H' Pt->TabU H' Pu->Fre H t->H' t=some (.tup [.ref pl,.ref bl])->ws.Perm J.ns->ws.Pairwise (fun x y=>rk (zFz J) y<=rk (zFz J) x)->RowsAt H H' pl as (rsT J ws)->RowsAt H H' bl bs (blks (rsT J ws) (rk (zFz J)))->Q (.ref t) H'
abbrev zBf:Stmt:=top 38
theorem zDc:FnScope ["jobs", "dealt", "row", "plan"] ["jobs"] (zAd zBf):=fnS
theorem ok_two_plan {c0 Pt Pu:Addr} {oc:Value} {od an:Option Addr} {osl:Array (Option Value)} {kV doc pm ct:Value} (lk:K.lookup f=some ⟨oc,od,.func (PySem.W.fnOf "two_plan" "two_plan" (zBe zBf) (zA6 zBf) (zAd zBf) .none kV doc pm an (.ref c0) ct),osl⟩) (hcd:PySem.W.codeIn K (.ref c0) "two_plan" = true) (T:Txt K mg) (U:JC K mg C) (B:zHp mg base) (CH:PySem.W.CodeHd base c0 Pu)
  (C_ranks:Cal P w K mg base "ranks" 5 ["jobs"] (spRanks C Pt)) (M_names:Mth P w K mg base C "names" 1 ["self"] (zIh C)) (C_listed:Cal P w K mg base "listed" 5 ["jobs", "benches", "row"] (spListed C)) (C_blocks_of:Cal P w K mg base "blocks_of" 2 ["plan", "dealt"] spBlocks):FnOk P w K mg base CX0 6 f (PySem.W.fnOf "two_plan" "two_plan" (zBe zBf) (zA6 zBf) (zAd zBf) .none kV doc pm an (.ref c0) ct) ["jobs"] (spTwo C Pt Pu):=by
 refine okC lk hcd zDc (fun vs H Q E h=>?_) (fun A outer s H vs Q E hr h=>?_)
 ·obtain ⟨j,J,qs,r,rfl,_⟩:=h;rfl
 ·obtain ⟨j,J,qs,r,rfl,A0,G,hz,OJ,T0,U0,nPU,k⟩:=h;have hr1:=hr.mono (j:=1) (by decide);have hr2:=hr.mono (j:=2) (by decide);have hr3:=hr.mono (j:=0+3) (by decide)
  refine ⟨_,(zAc (psS (i:=1) zDc.nd (zAg C_ranks hr rfl (zAa (pv 0) zAb)))
   (zAc (psS (i:=2) zDc.nd (pe_sortedKR (x:= "name") (y:= "dealt") (iy:=1) (P:=Pu) (c0:=c0) (qual:=lamQ2) (k:=0) hr3 rfl (by rfl) T.z_sorted zEh (zAa (zFh M_names U.cl hr1 (pv 0)) zAb) (by exact ⟨rfl,rfl,rfl,rfl,rfl,by decide +kernel,by decide +kernel⟩) (by decide) rfl rfl rfl rfl rfl rfl CH B rfl (fun _ _ _ _=>rfl) (fun f' cd' A' s' H' hA=>zA4 (zDq hA) (pv 1) (pv 0) (fun _ _=>rfl))))
   (zAc (psS (i:=3) zDc.nd (zAg C_listed hr rfl (zAa (pv 0) (zAa zAf (zAa (pv 2) zAb)))))
   (zAe (zAo (zA9 (zAa (pv 3) (zAa (zAg C_blocks_of hr2 rfl (zAa (pv 3) (zAa (pv 1) zAb))) zAb)))))))),?_⟩
  have few:=A0.few;have BR:=rk_b OJ;refine ⟨_,rfl,j,J,qs,r,rfl,A0,G,hz,T0,fun d H1 k1 T1 fd hd=>?_⟩;have U1:TabU H1 Pu:=zE8 U0 k1 (nm1 nPU.symm) fun a o h _ no=>nm1 (zBk T0.tbl h no);have K1:Kp [Pt,Pu] H H1:=k1.weak (by simp);have A1:=A0.kp2 K1 T0.tbl (zEt U0);refine ⟨_,rfl,j,J.dx,_,rfl,A1.ob,jf_no _ _ _ (by decide +kernel) (by decide +kernel) (by decide +kernel),j,J,rfl,A1,fun l H2 fl hl k2=>?_⟩;have U2:TabU H2 Pu:=zE8 U1 k2 (by simp) (fun _ _ _ _ _=>by simp);have d2:=k2 _ _ hd (by simp);have T2:=T1.kp k2;refine ⟨l,J.ns,rk (zFz J),.ref d,rfl,rfl,hl,by lia,U2,fun H3 k3 U3=>?_⟩;have u2:=zEt U2;have d3:H3 d=some (.dK (kvR (zFz J))):=k3 _ _ d2 (nm1 (zBk u2 d2 fun _ z=>nomatch z));have T3:TabA H3 Pt:=zE8 T2 k3 (nm1 nPU) fun a o h _ no=>nm1 (zBk u2 h no);have U3:TabU H3 Pu:=.inr U3;have K3:Kp [Pt,Pu] H H3:=(K1.trans (k2.weak (by simp))).trans (k3.weak (by simp));refine ⟨fun x hx H' k'=>⟨_,rfl,_,rfl,d,_,rfl,by have:=DGet.k (k:=Sum.inr x) (k' _ _ d3 (by simp));rw [kvR_get (BR.pm.mem_iff.mpr hx)] at this;exact this,rfl,Kp.refl⟩,fun b ws H4 k4 hb pm' pw=>?_⟩;have fb4:Fre H4 b:=hb;have k5:Kp [] H4 (upd H4 b (.lst (ws.map V.str))):=Kp.new Kp.refl fb4;have e5:Txs (upd H4 b (.lst (ws.map V.str))) b ws:=upd_same;generalize upd H4 b (.lst (ws.map V.str))=H5 at k5 e5;have k35:=k4.trans k5;have K5:Kp [Pt,Pu] H H5:=K3.trans (k35.weak (by simp));have T5:=T3.kp k35;have U5:TabU H5 Pu:=zE8 U3 k35 (by simp) (fun _ _ _ _ _=>by simp);have A5:=A0.kp2 K5 T0.tbl (zEt U0);have bk:∀a,Fre H5 a->Fre H a:=fun a=>fre_two T5.tbl (zEt U5) K5;refine ⟨_,rfl,_,rfl,j,b,2,J,r,ws,rfl,A5,OJ.rk,e5,by decide,pm',fun pl as H6 R6 k6=>?_⟩;have R6:RowsAt H5 H6 pl as (rsT J ws):=R6;have wl:ws.length<=20:=by rw [pm'.length_eq];exact few
  have rows:=zC9 OJ pm'
  have fl:(rsT J ws).flatten.length<=20:=by
   obtain ⟨h1,h2⟩:=zI6 (J:=J) (b:=2) ws.length [] ws (pm'.nodup_iff.mpr A0.nd);exact qAW (zBi h1 h2) wl
  refine ⟨_,rfl,_,rfl,_,rfl,pl,d,as,rsT J ws,zFz J,rfl,R6.r,qAW (zHa J 2 ws.length [] ws) wl,fl,(k35.trans k6) _ _ d3 (by simp),fun q hq=>⟨(rows q hq).1,by have:=(rows q hq).2.1;lia,fun x hx=>BR.pm.mem_iff.mpr ((rows q hq).2.2 x hx)⟩,fun bl bs H7 Rb k7=>?_⟩;have k57:=k6.trans k7;refine ⟨(by walk_at "ln"),fun t ht=>?_⟩;have ft:Fre H7 t:=ht;have k8:Kp [] H7 (upd H7 t (.tup [.ref pl,.ref bl])):=Kp.new Kp.refl ft;have e8:upd H7 t (.tup [.ref pl,.ref bl]) t=some (.tup [.ref pl,.ref bl]):=upd_same;generalize upd H7 t (.tup [.ref pl,.ref bl])=H8 at k8 e8;have k58:=k57.trans k8;have U8:TabU H8 Pu:=zE8 U5 k58 (by simp) (fun _ _ _ _ _=>by simp);exact k t pl bl as bs ws H8 (K5.trans (k58.weak (by simp))) (T5.kp k58) U8 (bk t (k57.fre ft (by simp))) e8 pm' pw ((R6.kp (k7.trans k8) (by simp) (by simp)).back bk) ((Rb.kp k8 (by simp) (by simp)).back fun a h=>bk a (k6.fre h (by simp)))
end
theorem cutI_is (rs:List (List Str)) (q:Str->Int) (r:Int):∀n:Nat,(∀i:Nat,cutI rs q r n<i->i<n->cutB q r (rowN rs i)=false)/\∀e:Nat,cutI rs q r n=e->cutB q r (rowN rs e)=true
 | 0=>⟨fun i _ h=>absurd h (qCX _),fun e h=>by unfold cutI at h;lia⟩
 | n+1=>by
  obtain ⟨h1,h2⟩:=cutI_is rs q r n;unfold cutI
  by_cases c:cutB q r (rowN rs n)=true
  ·rw [qAC c];exact ⟨fun i a b=>by lia,fun e h=>by rw [show e=n by lia];exact c⟩
  ·rw [qAB c];refine ⟨fun i a b=>?_,h2⟩
   by_cases z:i=n
   ·rw [z];exact Bool.eq_false_iff.mpr c
   ·exact h1 i a (by lia)
theorem cutB_no {q:Str->Int} {r:Int} {l:List Str} (h:cutB q r l=false):∃b,l[1]?=some b/\r<=q b:=by
 match l,h with
 | [],h=>exact nomatch h
 | [_],h=>exact nomatch h
 | _::b::_,h=>exact ⟨b,rfl,by have:=qCt h;lia⟩
theorem cutB_yes {q:Str->Int} {r:Int} {l:List Str} (h:cutB q r l=true) (b:Str) (e:l[1]?=some b):q b<r:=by
 match l,h,e with
 | [],_,e=>exact nomatch e
 | [_],_,e=>exact nomatch e
 | _::c::_,h,e=>cases e;exact qAi h
theorem flat_two:∀{l:List (List Str)},(∀r∈l,r.length=2)->l.flatten.length=2*l.length
 | [],_=>rfl
 | a::l,h=>by
  rw [qBZ,qAf,h a qAS,flat_two fun r hr=>h r (qAT _ hr),qAe];lia
theorem take_row {rs:List (List Str)} (h:p<rs.length):rs.take (p+1)=rs.take p++[rowN rs p]:=by
 rw [qCo,zFd h];rfl
structure BlkQ (J:JR) (k:Nat) (bs:List (List Str)):Prop where
 ne:∀B∈bs,B≠[]
 ns:∀B∈bs,∀x∈B,x∈J.ns
 nd:bs.flatten.Nodup
 nx:∀(i:Nat) (B B':List Str),bs[i]?=some B->bs[i+1]?=some B'->∀x∈B,∀y∈B',x∈J.S y
 sm:(bs.map fun B=>(B.length+1) / 2).sum=k
section
variable {J:JR} {r:Str->Nat} {ws O:List Str}
theorem in_row (A:OrdJ J r) (pm:ws.Perm J.ns) (h:i<(rsT J ws).length) {x:Str}:x∈rowN (rsT J ws) i↔x∈J.ns/\tI (rsT J ws) x=i:=by
 constructor
 ·intro hx;exact ⟨(zC9 A pm _ (qAL (zFd h))).2.2 x hx,tI_is A pm (zFd h) hx⟩
 ·rintro ⟨hx,e⟩;obtain ⟨q,e',hq⟩:=tI_at (((zD7 _ _).mp ((zDa A pm).all x hx)).resolve_left (by simp));rw [e,zFd h] at e'
  cases e';exact hq
theorem hd_in {l:List Str} (h:l≠[]):hd1 l∈l:=by
 cases l with
 | nil=>exact absurd rfl h
 | cons a l=>exact qAS
theorem blk_in (A:OrdJ J r) (pm:ws.Perm J.ns) {q:Str->Int} (hp:p<(rsT J ws).length) {x:Str}:x∈blkP (rsT J ws) q p↔InB J.ns (tI (rsT J ws)) (fun i=>hd1 (rowN (rsT J ws) i)) (cutP (rsT J ws) q p+1).toNat p x:=by
 have hd:=hd_in (zC9 A pm _ (qAL (zFd hp))).1;unfold blkP InB;rw [qAQ,qAP,List.mem_flatten];constructor
 ·rintro (⟨l,h1,h2⟩| h)
  ·obtain ⟨i,hi⟩:=qDk h1;rw [qBf] at hi;have hl:=(qAV.mp hi).1;rw [qAX] at hl;rw [qBm (by lia),zFd (by lia)] at hi
   cases hi
   obtain ⟨y1,y2⟩:=(in_row A pm (by lia)).mp h2;exact ⟨y1,.inl ⟨by lia,by lia⟩⟩
  ·rw [h];exact ⟨((in_row A pm hp).mp hd).1,.inr rfl⟩
 ·rintro ⟨hx,⟨h1,h2⟩| h⟩
  ·refine .inl ⟨rowN (rsT J ws) (tI (rsT J ws) x),qAL (i:=tI (rsT J ws) x - (cutP (rsT J ws) q p+1).toNat) ?_,(in_row A pm (by lia)).mpr ⟨hx,rfl⟩⟩;rw [qBf,qBm (by lia),show (cutP (rsT J ws) q p+1).toNat+(tI (rsT J ws) x - (cutP (rsT J ws) q p+1).toNat)=tI (rsT J ws) x by lia];exact zFd (by lia)
  ·exact .inr h
theorem blk_all (A:OrdJ J r) (B:RkB J O) (pm:ws.Perm J.ns) (pw:ws.Pairwise (fun x y=>rk O y<=rk O x)):∀(f:Nat) (p:Int),-1<=p->p<(rsT J ws).length->p<f->(∀n:Nat,p=n->Top J.ns (rk O) (tI (rsT J ws)) (fun i=>hd1 (rowN (rsT J ws) i)) n) ->
  ((blkF (rsT J ws) (rk O) f p).reverse.flatten).Sublist ((rsT J ws).take (p+1).toNat).flatten/\((blkF (rsT J ws) (rk O) f p).map fun B=>(B.length+1) / 2).sum=(p+1).toNat/\(∀b∈blkF (rsT J ws) (rk O) f p,b≠[]) /\
  ∀(i:Nat) (B B':List Str),(blkF (rsT J ws) (rk O) f p)[i]?=some B->(blkF (rsT J ws) (rk O) f p)[i+1]?=some B'->∀x∈B',∀y∈B,x∈J.S y
 | 0,p,h1,h2,h3,_=>by
  have:p= -1:=by lia
  subst this;exact ⟨qDQ _,rfl,(fun b h=>nomatch h),fun i B B' h=>by simp [blkF] at h⟩
 | f+1,p,h1,h2,h3,tp=>by
  have T:=two_is A B pm pw
  by_cases c:p<0
  ·have:p= -1:=by lia
   subst this;rw [zJd _ _ _ c];exact ⟨List.nil_sublist _,rfl,(fun b h=>nomatch h),fun i B B' h=>by simp at h⟩
  obtain ⟨n,rfl⟩:∃n:Nat,p=n:=⟨p.toNat,by lia⟩;have hn:n<(rsT J ws).length:=by lia
  have e:blkF (rsT J ws) (rk O) (f+1) n=blkP (rsT J ws) (rk O) n::blkF (rsT J ws) (rk O) f (cutP (rsT J ws) (rk O) n):=qAB (by lia);obtain ⟨c1,c2⟩:=zI9 (rsT J ws) (rk O) (rk O (hd1 (rowN (rsT J ws) n))) n;obtain ⟨d1,d2⟩:=cutI_is (rsT J ws) (rk O) (rk O (hd1 (rowN (rsT J ws) n))) n;have ec:cutI (rsT J ws) (rk O) (rk O (hd1 (rowN (rsT J ws) n))) n=cutP (rsT J ws) (rk O) n:=rfl;rw [ec] at c1 c2 d1 d2;have tn:=tp n rfl;have full:∀i:Nat,cutP (rsT J ws) (rk O) n<i->i<n->Full (rk O) (fun i=>hd1 (rowN (rsT J ws) i)) (fun i=>(rowN (rsT J ws) i)[1]?) n i:=fun i a b=>cutB_no (d1 i a b);have cut:∀e:Nat,cutP (rsT J ws) (rk O) n=e->Cut (rk O) (fun i=>hd1 (rowN (rsT J ws) i)) (fun i=>(rowN (rsT J ws) i)[1]?) n e:=fun e he=>⟨by lia,fun b hb=>cutB_yes (d2 e he) b hb,fun i a b=>full i (by lia) b⟩;obtain ⟨s1,s2,s3,s4⟩:=blk_all A B pm pw f (cutP (rsT J ws) (rk O) n) c1 (by lia) (by lia) fun m hm=>T.top_cut hn (cut m hm) tn;generalize hlo:(cutP (rsT J ws) (rk O) n+1).toNat=lo at s1 s2;have hrow:=zC9 A pm _ (qAL (zFd hn))
  have edrop:((rsT J ws).take (n+1)).drop lo=((rsT J ws).take n).drop lo++[rowN (rsT J ws) n]:=by
   rw [take_row hn,List.drop_append_of_le_length (by rw [qAX];lia)]
  have sb:(blkP (rsT J ws) (rk O) n).Sublist (((rsT J ws).take (n+1)).drop lo).flatten:=by
   unfold blkP;rw [hlo,edrop,qBX];refine List.Sublist.append (qDQ _) ?_;have:=hrow.1;generalize rowN (rsT J ws) n=R at this
   cases R with
   | nil=>exact absurd rfl this
   | cons a R=>simp [hd1]
  have et:((n:Int)+1).toNat=n+1:=by lia
  rw [e,et];refine ⟨?_,?_,fun b hb=>?_,fun i B1 B2 e1 e2=>?_⟩
  ·rw [List.reverse_cons,qBX,qBZ,List.flatten_nil,qA2]
   have:(rsT J ws).take (n+1)=(rsT J ws).take lo++((rsT J ws).take (n+1)).drop lo:=by
    have:=qA8 lo ((rsT J ws).take (n+1));rw [List.take_take,show min lo (n+1)=lo by lia] at this;exact this.symm
   rw [this,qBX];exact s1.append sb
  ·rw [qAo,List.sum_cons,s2]
   have l2:∀q∈((rsT J ws).take n).drop lo,q.length=2:=fun q hq=>by
    obtain ⟨i,hi⟩:=qDk hq;rw [qBf] at hi;have hl:=(qAV.mp hi).1;rw [qAX] at hl;rw [qBm (by lia)] at hi;have hle:=(zC9 A pm q (qAL hi)).2.1;obtain ⟨b,hb,_⟩:=full (lo+i) (by lia) (by lia);have hb:(rowN (rsT J ws) (lo+i))[1]?=some b:=hb;rw [zGz hi] at hb;have:=(qAV.mp hb).1;lia
   have bl:(blkP (rsT J ws) (rk O) n).length=2*(n - lo)+1:=by
    unfold blkP;rw [hlo,qAf,flat_two l2,qA4,qAX,qBN];lia
   rw [bl];lia
  ·rcases qAO.mp hb with z| z
   ·rw [z];unfold blkP;simp
   ·exact s3 b z
  ·cases i with
   | succ i=>exact s4 i B1 B2 (by simpa using e1) (by simpa using e2)
   | zero =>
    have e1:blkP (rsT J ws) (rk O) n=B1:=by simpa using e1
    have e2:(blkF (rsT J ws) (rk O) f (cutP (rsT J ws) (rk O) n))[0]?=some B2:=by simpa using e2
    subst e1
    cases f with
    | zero=>simp [blkF] at e2
    | succ f =>
     by_cases c':cutP (rsT J ws) (rk O) n<0
     ·rw [zJd _ _ _ c'] at e2;simp at e2
     obtain ⟨m,hm⟩:∃m:Nat,cutP (rsT J ws) (rk O) n=m:=⟨(cutP (rsT J ws) (rk O) n).toNat,by lia⟩;have e3:blkF (rsT J ws) (rk O) (f+1) m=blkP (rsT J ws) (rk O) m::blkF (rsT J ws) (rk O) f (cutP (rsT J ws) (rk O) m):=qAB (by lia);rw [hm,e3] at e2;have e2:blkP (rsT J ws) (rk O) m=B2:=by simpa using e2
     subst e2;have Cm:=cut m hm;have mn:=Cm.lt;obtain ⟨g1,_⟩:=zI9 (rsT J ws) (rk O) (rk O (hd1 (rowN (rsT J ws) m))) m;obtain ⟨g2,_⟩:=cutI_is (rsT J ws) (rk O) (rk O (hd1 (rowN (rsT J ws) m))) m;have eg:cutI (rsT J ws) (rk O) (rk O (hd1 (rowN (rsT J ws) m))) m=cutP (rsT J ws) (rk O) m:=rfl;rw [eg] at g1 g2;intro x hx y hy;have hx:=(blk_in A pm (by lia)).mp hx;have hy:=(blk_in A pm hn).mp hy;rw [hlo,show lo=m+1 by lia] at hy;exact T.blocks hn Cm tn (lo:=(cutP (rsT J ws) (rk O) m+1).toNat) (fun i a b=>cutB_no (g2 i (by lia) b)) _ x (qAF _) hx y hy
theorem blks_ok (A:OrdJ J r) (B:RkB J O) (pm:ws.Perm J.ns) (pw:ws.Pairwise (fun x y=>rk O y<=rk O x)):BlkQ J (rsT J ws).length (blks (rsT J ws) (rk O)):=by
 have T:=two_is A B pm pw;obtain ⟨s1,s2,s3,s4⟩:=blk_all A B pm pw (rsT J ws).length ((rsT J ws).length - 1) (by lia) (by lia) (by lia) fun n hn=>T.top_last (by lia);have e:(((rsT J ws).length:Int) - 1+1).toNat=(rsT J ws).length:=by lia
 rw [e] at s1 s2;rw [qAj] at s1;obtain ⟨f1,f2⟩:=zI6 (J:=J) (b:=2) ws.length [] ws (pm.nodup_iff.mpr A.nd);have f1:(rsT J ws).flatten.Nodup:=f1;unfold blks;refine ⟨fun b hb=>s3 b (List.mem_reverse.mp hb),fun b hb x hx=>?_,f1.sublist s1,fun i B1 B2 e1 e2=>?_,?_⟩
 ·have h1:x∈(blkF (rsT J ws) (rk O) (rsT J ws).length ((rsT J ws).length - 1)).reverse.flatten:=List.mem_flatten.mpr ⟨b,hb,hx⟩;exact pm.mem_iff.mp (f2 x (s1.subset h1))
 ·have h2:=(qAV.mp e2).1;rw [qCf] at h2;rw [qDP (by lia)] at e1 e2;refine fun x hx y hy=>s4 _ B2 B1 e2 ?_ x hx y hy;rw [<-e1];congr 1;lia
 ·rw [List.map_reverse,List.sum_reverse];exact s2
end
end My
namespace L2
open PySem PySem.Spec PyProof.Rows
def Itz (K:PySem.W.Frag) (a b:Addr):It :=
 ⟨fun i H=>∃xs ys x y,SqL K H a xs/\SqL K H b ys/\xs[i]?=some x/\ys[i]?=some y,fun i H v H'=>∃t x y,v= .ref t/\H t=none/\H'=upd H t (.tup [x,y])/\(∀xs,SqL K H a xs->xs[i]?=some x)/\∀ys,SqL K H b ys->ys[i]?=some y,fun i H=>∃xs ys,SqL K H a xs/\SqL K H b ys/\(xs.length<=i\/ys.length<=i)⟩
theorem un_but {fs ex:List Addr} {H:Hp} {h h':Heap} (k:∀b u,b∉ex->h.get? b=some u->h'.get? b=some u):Un fs ex H H h h' :=
 ⟨fun b ob q _ _ hx=>k b ob hx q,fun b ob q _ _ hx=>⟨ob.slots,k b ob hx q⟩,fun _ _ _ n _=>n,fun b ob q hx=>⟨ob,k b ob hx q⟩,fun _ _ q=>q,fun _ _ _ q=>q,fun _ ps q=>⟨#[],by rw [q];simp⟩⟩
theorem hok_but {P:Program} {w:World} {H:Hp} {h h':Heap} {ex:List Addr} (x:HOk P w H h) (k:∀b u,b∉ex->h.get? b=some u->h'.get? b=some u) (hex:∀b∈ex,H b=none):HOk P w H h':=fun b u e =>
 (x b u e).stay (fun c v hc q=>k c v (fun z=>by
  have hz:=hex c z;rcases hc with y| y
  ·rw [y,e] at hz;cases hz
  ·rw [y] at hz;cases hz) q) (fun _ q=>q) fun _ _ q=>q
structure Apart (z TI TO i1 i2:Addr):Prop where
 TIz:TI≠z
 TOz:TO≠z
 i1z:i1≠z
 i2z:i2≠z
 TITO:TI≠TO
 TIi1:TI≠i1
 TIi2:TI≠i2
 TOi1:TO≠i1
 TOi2:TO≠i2
 i12:i1≠i2
theorem apart_at (n:Nat):Apart (n+4) (n+2) (n+3) n (n+1):=⟨qAN (by lia),qAN (by lia),qAN (by lia),qAN (by lia),qAN (by lia),qAu (by lia),qAu (by lia),qAu (by lia),qAu (by lia),qAN (by lia)⟩
def ZipAt (z TI TO i1 i2 a b:Addr) (i:Nat) (h:Heap):Prop:=IsZip h z TI TO .none/\IsPair h TI (.ref i1) (.ref i2)/\(∃p q,IsPair h TO p q)/\h.IsListIter i1 a i/\h.IsListIter i2 b i
theorem ZipAt.apart {z TI TO i1 i2 a b:Addr} {i:Nat} {h:Heap} {xs ys:Array Value} (D:Apart z TI TO i1 i2) (Z:ZipAt z TI TO i1 i2 a b i h) (ha:h.IsList a xs) (hb:h.IsList b ys):ZipApart z TI TO i1 i2 a b:=by
 obtain ⟨s1,_,⟨p,q,s3⟩,⟨o4,s4,c4,_⟩,⟨o5,s5,c5,_⟩⟩:=Z;obtain ⟨oa,ga,ca,_⟩:=ha;obtain ⟨ob,gb,cb,_⟩:=hb;refine ⟨D.TIz,D.TOz,D.i1z,D.i2z,D.TITO,D.TIi1,D.TIi2,D.TOi1,D.TOi2,D.i12,?_,?_,?_,?_,?_,?_,?_,?_⟩
 ·exact fun e=>by rw [e,s1] at ga;cases ga;simp at ca
 ·exact fun e=>by rw [e,s3] at ga;cases ga;simp at ca
 ·exact fun e=>by rw [e,s4] at ga;cases ga;rw [c4] at ca;simp at ca
 ·exact fun e=>by rw [e,s5] at ga;cases ga;rw [c5] at ca;simp at ca
 ·exact fun e=>by rw [e,s1] at gb;cases gb;simp at cb
 ·exact fun e=>by rw [e,s3] at gb;cases gb;simp at cb
 ·exact fun e=>by rw [e,s4] at gb;cases gb;rw [c4] at cb;simp at cb
 ·exact fun e=>by rw [e,s5] at gb;cases gb;rw [c5] at cb;simp at cb
theorem turn_zip {P:Program} {w:World} {K:PySem.W.Frag} {elts:List Expr} {kk:Nat} {tp:Pos} (a b z TI TO i1 i2:Addr) (D:Apart z TI TO i1 i2):Turn P w K (.Tuple elts kk tp) (Itz K a b) [z,TI,TO,i1,i2] z (ZipAt z TI TO i1 i2 a b) where
 mem:=by simp
 obj:=fun i h st c hc=>by
  obtain ⟨s1,s2,⟨p,q,s3⟩,⟨o4,s4,_,d4⟩,⟨o5,s5,_,d5⟩⟩:=st;have cs:c=z\/c=TI\/c=TO\/c=i1\/c=i2:=by simpa using hc
  rcases cs with e| e| e| e| e
  ·rw [e];exact ⟨_,s1,fun v y=>by cases y⟩
  ·rw [e];exact ⟨_,s2,fun v y=>by cases y⟩
  ·rw [e];exact ⟨_,s3,fun v y=>by cases y⟩
  ·rw [e];exact ⟨o4,s4,fun v y=>by rw [d4] at y;cases y⟩
  ·rw [e];exact ⟨o5,s5,fun v y=>by rw [d5] at y;cases y⟩
 keep:=fun i h h' ⟨s1,s2,⟨p,q,s3⟩,s4,s5⟩ k=>⟨k z (by simp) _ s1,k TI (by simp) _ s2,⟨p,q,k TO (by simp) _ s3⟩,s4.at fun o y=>k i1 (by simp) o y,s5.at fun o y=>k i2 (by simp) o y⟩
 item:=by
  intro X hP hw hK hc i pins s σ H E I hf st hg;subst hP hw hK;obtain ⟨xs,ys,x,y,hq1,hq2,hx,hy⟩:=hg;obtain ⟨its1,rv1,p1,_⟩:=I.list hq1;obtain ⟨its2,rv2,p2,_⟩:=I.list hq2;obtain ⟨u,hu,ru⟩:=rv1.get hx;obtain ⟨v,hv,rv⟩:=rv2.get hy;have D':=st.apart D p1.isList p2.isList;obtain ⟨s1,s2,⟨p,q,s3⟩,s4,s5⟩:=st;have hn:∀c∈[z,TI,TO,i1,i2],H c=none:=fun c hc=>(hf c hc).1;refine wpAny_pyNext_zip_item D' s1 s2 s3 s4 s5 p1.isList p2.isList (x:=u) (y:=v) (by simpa using hu) (by simpa using hv) fun k a1 a2 a3 a4 a5 a6 a7=>?_;refine ⟨_,rfl,wpAny_letOwnedTupleGo_zip a1 fun k2 z2 b2=>?_⟩;have b2:Heap.SameBut z k k2:=b2;have zsz:z<s.heap.objs.size:=qAK s1
  have lts:∀c∈[z,TI,TO,i1,i2],c≠s.heap.objs.size:=fun c hc=>by
   have cs:c=z\/c=TI\/c=TO\/c=i1\/c=i2:=by simpa using hc
   rcases cs with e| e| e| e| e
   ·rw [e];exact qAN zsz
   ·rw [e];exact qAN (qAK s2)
   ·rw [e];exact qAN (qAK s3)
   ·obtain ⟨o,g,_⟩:=s4;rw [e];exact qAN (qAK g)
   ·obtain ⟨o,g,_⟩:=s5;rw [e];exact qAN (qAK g)
  have t2:k2.get? s.heap.objs.size=some {cls:=.type "tuple",data:=.seq #[u,v]}:=b2.extBut _ _ (qAu zsz) a5;have on:∀c o,c∉[z,TI,TO,i1,i2]->s.heap.get? c=some o->k2.get? c=some o:=fun c o nc g=>b2.extBut c o (fun e=>nc (by simp [e])) (a7 c o (fun e=>nc (by simp [e])) (fun e=>nc (by simp [e])) (fun e=>nc (by simp [e])) (fun e=>nc (by simp [e])) g);have new:zAx X.prog X.w (upd H s.heap.objs.size (.tup [x,y])) k2 s.heap.objs.size (.tup [x,y]):=⟨by show (2:Nat)<=sizeLine;decide,[u,v],.cons ru (.cons rv .nil),⟨_,t2,rfl,_,rfl⟩⟩
  have I2:Inv X pins σ (upd H s.heap.objs.size (.tup [x,y])) {s with heap:=k2}:=I.call' (ch:=[z,TI,TO,i1,i2]) rfl (un_laid on (qAF _) (I.hok.fresh (qAF _))) (hok_laid I.hok on hn (qAF _) new) I.bare fun c hc=>by
   obtain ⟨_,f1,_,f3,f4,f5⟩:=hf c hc;exact ⟨f3,f1,f4,f5⟩
  refine ⟨.ref s.heap.objs.size,_,I2,rfl,⟨_,x,y,rfl,I.hok.fresh (qAF _),rfl,fun zs hz=>by rw [I.list_inj hz hq1];exact hx,fun zs hz=>by rw [I.list_inj hz hq2];exact hy⟩,⟨z2,b2.extBut _ _ D.TIz (a7 _ _ D.TIz D.TITO D.TIi1 D.TIi2 s2),⟨u,v,b2.extBut _ _ D.TOz a2⟩,a3.extBut b2.extBut D.i1z,a4.extBut b2.extBut D.i2z⟩,fun c hc=>?_⟩;rw [upd_ne (lts c hc)];exact hn c hc
 done:=by
  intro X hP hw hK hc i pins s σ H E I hf st hg;subst hP hw hK;obtain ⟨xs,ys,hq1,hq2,hx⟩:=hg;obtain ⟨its1,rv1,p1,_⟩:=I.list hq1;obtain ⟨its2,rv2,p2,_⟩:=I.list hq2;have l1:=rv1.length;have l2:=rv2.length;have D':=st.apart D p1.isList p2.isList;obtain ⟨s1,s2,⟨p,q,s3⟩,s4,s5⟩:=st;have hn:∀c∈[z,TI,TO,i1,i2],H c=none:=fun c hc=>(hf c hc).1;refine wpAny_pyNext_zip_end (I.ok.hd hc) D' s1 s2 s3 s4 s5 p1.isList p2.isList ?_ fun h' eb=>⟨rfl,?_⟩
  ·rcases hx with z| z
   ·exact .inl (by simp;lia)
   ·exact .inr (by simp;lia)
  ·have on:∀c o,c∉[z,TI,TO,i1,i2]->s.heap.get? c=some o->h'.get? c=some o:=fun c o nc g=>eb c o (fun e=>nc (by simp [e])) (fun e=>nc (by simp [e])) (fun e=>nc (by simp [e])) (fun e=>nc (by simp [e])) g
   exact I.call' (s':={s with heap:=h'}) (ch:=[z,TI,TO,i1,i2]) rfl (un_but on) (hok_but I.hok on hn) I.bare fun c hc=>by
    obtain ⟨_,f1,_,f3,f4,f5⟩:=hf c hc;exact ⟨f3,f1,f4,f5⟩
 self:=fun _ _ _ _ _ ⟨s1,_⟩ h=>wpAny_pyIter_zip s1 h
section
variable {X:Cx} {elts:List Expr} {kk:Nat} {tp:Pos}
def iZip (K:PySem.W.Frag) (ta:TA):TI:=fun σ H R=>ta σ H fun vs H1=>∃a b,vs=[.ref a,.ref b]/\(∃xs,SqL K H1 a xs)/\(∃ys,SqL K H1 b ys)/\R (Itz K a b) H1
theorem boot_zip:bootBuiltins "zip" = some (.type "zip"):=by decide +kernel
theorem pi_zip {a b:Expr} {ta:TA} {p pos:Pos} (hg:Gl X "zip") (hm:X.mg "zip" = none) (ha:PA X [a,b] ta) (he:starEach [a,b] X.env=(false,eval a X.env)::starEach [b] X.env:=by rfl) (hpl:(backTo pos (starEach [b] X.env)).any (·.1)=false:=by rfl):PI X (.Tuple elts kk tp) (.Call (.Name "zip" p) [a,b] [] pos) (iZip X.K ta):=by
 intro pins s σ H R I h;refine Call_ (zEb I hg hm boot_zip (qCI (thn (ha pos pins s σ H _ I h) fun us s1 ⟨vs,H1,I1,r1,q1⟩=>?_) he hpl));obtain ⟨a,b,e,⟨xs,hq1⟩,⟨ys,hq2⟩,q⟩:=q1;subst e
 obtain ⟨u,v,rfl,ru,rv⟩:∃u v,us=[u,v]/\RelV (.ref a) u/\RelV (.ref b) v:=by
  cases r1 with
  | cons ra r2=>cases r2 with
   | cons rb r3=>cases r3;exact ⟨_,_,rfl,ra,rb⟩
 cases ru
 cases rv
 obtain ⟨its1,r1,p1,_⟩:=I1.list hq1;obtain ⟨its2,r2,p2,_⟩:=I1.list hq2;refine call_zip_2 p1.isList p2.isList fun h' e1 e2 e3 e4 e5 e6 e7=>wpAny_pyIter_zip e1 ?_;refine ⟨s1.heap.objs.size+4,[s1.heap.objs.size+4,s1.heap.objs.size+2,s1.heap.objs.size+3,s1.heap.objs.size,s1.heap.objs.size+1],_,_,H1,rfl,I1.kept (t':=s1.toks) e7,turn_zip a b (s1.heap.objs.size+4) (s1.heap.objs.size+2) (s1.heap.objs.size+3) s1.heap.objs.size (s1.heap.objs.size+1) (apart_at _),⟨e1,e2,⟨_,_,e3⟩,e4,e5⟩,fun c hc=>?_,q⟩;have cs:c=s1.heap.objs.size+4\/c=s1.heap.objs.size+2\/c=s1.heap.objs.size+3\/c=s1.heap.objs.size\/c=s1.heap.objs.size+1:=by simpa using hc
 have ge:s1.heap.objs.size<=c:=by
  rcases cs with e| e| e| e| e<;>(rw [e];lia)
 exact I1.fpOk ge (I1.hok.fresh ge)
theorem for_zip {K:PySem.W.Frag} {a b:Addr} {xs ys:List V} {g:TG} {tb:TS} {D:Ends} {σ:St} {H:Hp} (Pv:Nat->St->Hp->Prop) (h0:Pv 0 σ H) (hl:∀i σ H,Pv i σ H->SqL K H a xs/\SqL K H b ys)
  (hs:∀i x y σ H t,xs[i]?=some x->ys[i]?=some y->Pv i σ H->H t=none->g (.ref t) σ (upd H t (.tup [x,y])) fun σ2 H2=>tb {D with nx:=Pv (i+1),ct:=Pv (i+1),bk:=D.nx} σ2 H2) (hd:∀i σ H,(xs.length<=i\/ys.length<=i)->Pv i σ H->D.nx σ H) :
  ∃W:Nat->Nat->St->Hp->Prop,(∃m,W 0 m σ H)/\∀i m σ H,W i m σ H ->
   ((Itz K a b).stop i H/\D.nx σ H)\/((Itz K a b).go i H/\∃N:St->Hp->Prop,(∀σ' H',N σ' H'->∃m',m'<m/\W (i+1) m' σ' H')/\∀x H',(Itz K a b).yld i H x H'->g x σ H' fun σ2 H2=>tb {D with nx:=N,ct:=N,bk:=D.nx} σ2 H2):=by
 refine ⟨fun i m σ H=>m=xs.length - i/\Pv i σ H,⟨xs.length,by simp,h0⟩,?_⟩;rintro i m σ H ⟨rfl,p⟩;obtain ⟨q1,q2⟩:=hl i σ H p
 by_cases h1:i<xs.length
 ·by_cases h2:i<ys.length
  ·refine .inr ⟨⟨xs,ys,xs[i],ys[i],q1,q2,by simp [h1],by simp [h2]⟩,Pv (i+1),fun σ' H' p'=>⟨xs.length - (i+1),by lia,rfl,p'⟩,fun v H' y=>?_⟩;obtain ⟨t,x,y,rfl,hn,rfl,y1,y2⟩:=y;exact hs i x y σ H t (y1 xs q1) (y2 ys q2) p hn
  ·exact .inl ⟨⟨xs,ys,q1,q2,.inr (by lia)⟩,hd i σ H (.inr (by lia)) p⟩
 ·exact .inl ⟨⟨xs,ys,q1,q2,.inl (by lia)⟩,hd i σ H (.inl (by lia)) p⟩
end
section
variable {X:Cx}
theorem call_sum1 (hc:X.calm=true):zC7 X (.builtin "sum") (fun xs H Q=>∃(p:Addr) (ns:List Int),xs=[.ref p]/\SqL X.K H p (ns.map V.int)/\Q (.int ns.sum) H):=by
 intro pins s σ H xs us Q I rv h;obtain ⟨p,ns,rfl,hq,q⟩:=h;obtain ⟨u,rfl,ru⟩:=rv.one
 cases ru
 obtain ⟨its,r,pl,hz⟩:=I.list hq;obtain ⟨xs,rfl,e⟩:=ints_of r
 have hI:s.heap.IsList p (intItems xs.toArray):=by
  have:=pl.isList
  rwa [show (xs.map fun p=>Value.int p.1 p.2).toArray=intItems xs.toArray from by unfold intItems;simp] at this
 refine sum_intListG (I.ok.hd hc) hI fun h' tk tk' hk=>?_
 have es:preSum (numAt xs.toArray) xs.toArray.size=ns.sum:=by
  rw [PySem.preSum_eq,<-e,qAJ,qBF (by simp)]
 exact ⟨.int ns.sum,H,I.kept (t':=tk) hk,⟨_,by rw [es]⟩,q⟩
def rInsertC:V->List V->Hp->VK->Prop:=fun x vs H Q=>∃l xs i y,x= .ref l/\vs=[.int i,y]/\H l=some (.lst xs)/\xs.length<sizeLine/\0<=i/\i<1000/\Q .non (upd H l (.lst (xs.take i.toNat++y::xs.drop i.toNat)))
theorem mt_insertC:MtM X "list.insert" rInsertC:=by
 intro pins s σ H x vs v us Q I rx rv h;obtain ⟨l,xs,i,y,rfl,rfl,hH,hz,h0,h1,q⟩:=h
 cases rx
 obtain ⟨u1,u,rfl,r1,ru⟩:=rv.two;obtain ⟨t,rfl⟩:=r1;obtain ⟨z,its,n,r,hl,e⟩:=I.lstM hH
 have hfit:¬(!Builtin.List.listFitsIndex i)=true:=by
  unfold Builtin.List.listFitsIndex;rw [qAR (show -(2^63:Int)<=i by lia),qAR (show i<2^63 by lia)];decide
 refine qBb F.slot_list_insert ⟨_,e,rfl⟩ F.entry_list_insert (F.args_list_insert_3 _ _ _) (PySem.AutoListH.list_insert_list_int_val_1 l its.toArray n i t u hfit (by rw [qAJ];lia)) ⟨e,?_⟩;refine ⟨.non,_,I.lset (its':=its.take i.toNat++u::its.drop i.toNat) hH e ?_ ((r.take _).append (.cons ru (r.drop _))) ?_,rfl,q⟩
 ·have hk:(if i<0 then (i+((its.toArray.size:Nat):Int)).toNat else min i.toNat its.toArray.size)=min i.toNat its.length:=by
   rw [qAB (by lia),qAJ]
  show (its.toArray.extract 0 _).push u++its.toArray.extract _=_;rw [hk];apply Array.ext';rw [qCj,qCW,qBd,qBd,qBM]
  have t1:its.take (min i.toNat its.length)=its.take i.toNat:=by
   by_cases c:i.toNat<=its.length
   ·rw [qCw c]
   ·rw [Nat.min_eq_right (by lia),qBF (qAF _),qBF (by lia)]
  have t2:its.drop (min i.toNat its.length)=its.drop i.toNat:=by
   by_cases c:i.toNat<=its.length
   ·rw [qCw c]
   ·rw [Nat.min_eq_right (by lia),qCx (qAF _),qCx (by lia)]
  simp [List.extract_eq_drop_take,t1,t2];exact qBF (by rw [qA4];lia)
 ·rw [qAf,qAe,qAX,qA4];lia
end
end L2
namespace My
open PySem L2
variable {P:Program}{w:World}{K:PySem.W.Frag}{mg:Str->Option Value}{base:Heap}{C:Addr}
variable {f t c:Addr}{H H':Hp}
theorem nd_pref {bs:List (List Str)} {i p:Nat} {B:List Str} {x:Str} (nd:bs.flatten.Nodup) (h:bs[i]?=some B) (hx:B[p]?=some x):x∉(bs.take i).flatten++B.take p:=by
 have hi:=(qAV.mp h).1
 have e:bs=bs.take i++(B::bs.drop (i+1)):=by
  have h1:=(qA8 i bs).symm;rw [qCc hi] at h1;rw [(qAV.mp h).2] at h1;exact h1
 have eB:B=B.take p++(x::B.drop (p+1)):=by
  have hp:=(qAV.mp hx).1;have h1:=(qA8 p B).symm;rw [qCc hp,(qAV.mp hx).2] at h1;exact h1
 rw [e,qBX,qBZ] at nd;generalize (bs.take i).flatten=U at nd ⊢;rw [eB,qBM,<-qBM] at nd;intro hm;exact (qBg.mp nd).2.2 x hm x (by simp) rfl
theorem nd_of {bs:List (List Str)} {B:List Str} (nd:bs.flatten.Nodup) (h:B∈bs):B.Nodup:=nd.sublist (List.sublist_flatten_of_mem h)
theorem sum_int:∀(l:List Nat),(l.map fun n:Nat=>(n:Int)).sum=((l.sum:Nat):Int)
 | []=>rfl
 | a::l=>by rw [qAo,List.sum_cons,List.sum_cons,sum_int l];lia
section
def spShows:Sp:=fun vs H Q _=>∃(d bl:Addr) (k:Nat) (J:JR) (as:List Addr) (bs:List (List Str)) (la:Str->Addr) (L:Str->List Str),vs=[.ref d,.int 2,.ref bl,.int k]/\DR H d J.ns la L/\J.ns.length<=20/\(∀n∈J.ns,∀y∈J.ns,n∈J.S y->y∈L n)/\RowsR H bl as bs/\bs.length<=20/\BlkQ J k bs/\∀H',Kp [] H H'->Q (.bl true) H'
abbrev zGy:Stmt:=top 51
theorem zDd:FnScope ["_law_behind_here", "_law_benches", "_law_rows", "_law_length", "_law_gone", "_law_row", "_law_name", "_law_after", "_law_one"] ["_law_behind_here", "_law_benches", "_law_rows", "_law_length"] (zAd zGy):=fnS
theorem ok_shows {fd:FuncData} (F:Fun K "_law_shows" "_law_shows" zGy f fd) (T:Txt K mg):FnOk P w K mg base CX0 2 f fd ["_law_behind_here", "_law_benches", "_law_rows", "_law_length"] spShows:=by
 refine F.ok zDd (fun vs H Q E h=>?_) (fun cdv A outer s H vs Q E hr h=>?_)
 ·obtain ⟨d,bl,k,J,as,bs,la,L,rfl,_⟩:=h;rfl
 ·obtain ⟨d,bl,k,J,as,bs,la,L,rfl,D0,len,hLS,R,l20,BQ,kk⟩:=h;have hu:=zDq hr
  refine ⟨_,(zAc (psS (i:=4) zDd.nd (zA7 zAb))
   (zAc (zAu qAg rfl (zAk (pv 2)) (pgN (i:=5) zDd.nd)
    (zAc (zCc (PW.pt (zHr (zCw (zCg (zAh zCa (by rfl) T.z_isinstance zAp (zAa (pv 5) (zAa (zC3 (by rfl) T.z_list zCr (v:=.ty "list") rfl) zAb))))) (zEs (zAs (op_eqL hr) (pv 5) (zA7 zAb) (zAz _)))))
     (zAe zAy)
     zAq)
    (zAe (zAu qAg rfl (zAk (pv 5)) (pgN (i:=6) zDd.nd)
     (zAc (zCc (PW.pt (zHr (zFe (zD5 hu (pv 6) (pv 0))) (zEs (zAs zFk (pv 6) (pv 4) (by rfl)))))
      (zAe zAy)
      zAq)
     (zAe (zAr (zDm qAw qBj qBk zBl (pv 4) (zAa (pv 6) zAb)))))))))
   (zAc (zAu qAg rfl (pi_zip rfl T.z_zip (zAa (pv 2) (zAa (zGm zIm (pv 2) (zG1 zAf) po_none) zAb))) (zH8 rfl (zA1 (pgN (i:=5) zDd.nd) (zA1 (pgN (i:=7) zDd.nd) zD4)))
    (zAe (zAu qAg rfl (zAk (pv 5)) (pgN (i:=8) zDd.nd)
     (zAe (zCc (zAs (zIt hr) (zBj rfl (zBn (sc:=zAd zGy) rfl (by decide +kernel)) (Draws.own (x:= "_law_other") (dtk (i:=0) rfl (dtk (i:=8) rfl Draws.nil))) (zAk (pv 7)) (fun _ _ _ _=>(pgB (i:=0))) (fun _ _ _ _=>(zCo (zFe (zD5 hu (pv 0) (zA4 hu (pv 1) (pv 2) (fun _ _=>rfl)))))) (fun _ _ _ _=>(pv 0))) (zA7 zAb) (zAz _))
      (zAe zAy)
      zAq)))))
   (zAe (zAo (zCq op_eq (zAh (call_sum1 rfl) (by rfl) T.z_sum bo_sum (zAa (zBj rfl (zBn (sc:=zAd zGy) rfl (by decide +kernel)) (Draws.own (x:= "_law_row") (dtk (i:=1) rfl Draws.nil)) (zAk (pv 2)) (fun _ _ _ _=>(pgB (i:=0))) (fun _ _ _ _=>zC1) (fun _ _ _ _=>(zAn op_fdivB (zAn zF6 (zAn zBh (zAh (zJc (K:=K)) (by rfl) T.z_len zCe (zAa (pv 0) zAb)) (pv 1)) zAf) (pv 1)))) zAb)) (pv 3) (zAz _))))))),?_⟩
  have rlen:∀B∈bs,B.length<=20:=fun B hB=>qAW (zBi (nd_of BQ.nd hB) (BQ.ns B hB)) len
  have glen:∀i p B,bs[i]?=some B->((bs.take i).flatten++B.take p).length<=20:=fun i p B e=>by
   have h1:((bs.take i).flatten++B.take p).Sublist bs.flatten:=by
    have h2:bs.flatten=(bs.take i).flatten++(B++(bs.drop (i+1)).flatten):=by
     have hi:=(qAV.mp e).1;have h1:=(qA8 i bs).symm;rw [qCc hi,(qAV.mp e).2] at h1;have h3:=qAk List.flatten h1;rw [qBX,qBZ] at h3;exact h3
    rw [h2];exact List.Sublist.append (qDQ _) ((qCM _ _).trans (List.sublist_append_left _ _))
   refine qAW (zBi (BQ.nd.sublist h1) fun x hx=>?_) len;obtain ⟨B',h3,h4⟩:=List.mem_flatten.mp (h1.subset hx);exact BQ.ns B' h3 x h4
  refine ⟨(by walk_at "ln"),fun gn hgn=>?_⟩;have fg:Fre H gn:=hgn;have k1:Kp [] H (upd H gn (.lst [])):=Kp.new Kp.refl fg;have e1:Txs (upd H gn (.lst [])) gn (bs.take 0).flatten:=upd_same;generalize upd H gn (.lst [])=H1 at k1 e1;have ngb:gn≠bl:=(ne_fre fg R.top).symm;refine ⟨_,rfl,_,rfl,⟨_,SqL.of (k1 _ _ R.top (by simp))⟩,zAv (xs:=as.map V.ref) (fun i σ H2=>(∃o5 o6 o7 o8:Option V,σ=[some (.ref d),some (.int 2),some (.ref bl),some (.int k),some (.ref gn),o5,o6,o7,o8])/\Kp [] H H2/\Txs H2 gn (bs.take i).flatten) ⟨⟨_,_,_,_,rfl⟩,k1,e1⟩ (fun i σ H2 _ ⟨_,k2,_⟩=>SqL.of (k2 _ _ R.top (by simp))) ?_ ?_⟩
  ·rintro i v σ H2 hv ⟨⟨o5,o6,o7,o8,rfl⟩,k2,h2⟩
   have hi:i<bs.length:=by
    have:=(qAV.mp hv).1;rw [qAD,R.len] at this;exact this
   obtain ⟨a,B,ea,eB,ev,ha⟩:=R.at hi;rw [ev] at hv
   cases hv
   have mB:=qAL eB;have ha2:=k2 _ _ ha (by simp);refine ⟨_,rfl,_,_,_,_,rfl,TyOf.lst ha2,zCi,_,rfl,iteF ?_⟩;refine ⟨_,rfl,(by walk_at "ln"),fun z hz=>?_⟩;have kz:Kp [] H2 (upd H2 z (.lst [])):=Kp.new Kp.refl hz;have ez:upd H2 z (.lst []) z=some (.lst []):=upd_same;have hg3:=kz _ _ h2 (by simp);generalize upd H2 z (.lst [])=H3 at kz ez hg3;have k3:=k2.trans kz;refine .inr ⟨_,_,_,_,rfl,rfl,SqL.of (kz _ _ ha2 (by simp)),SqL.of ez,fun y=>BQ.ne B mB (List.map_eq_nil_iff.mp (qCY.mp y)),_,rfl,iteF ?_⟩;have ha3:=k3 _ _ ha (by simp);refine ⟨_,rfl,_,rfl,⟨_,SqL.of ha3⟩,zAv (xs:=B.map V.str) (fun p σ H4=>(∃o6:Option V,σ=[some (.ref d),some (.int 2),some (.ref bl),some (.int k),some (.ref gn),some (.ref a),o6,o7,o8])/\Kp [] H H4/\Txs H4 gn ((bs.take i).flatten++B.take p)) ⟨⟨_,rfl⟩,k3,by rw [qDJ,qA2];exact hg3⟩ (fun p σ H4 _ ⟨_,k4,_⟩=>SqL.of (k4 _ _ ha (by simp))) ?_ ?_⟩
   ·rintro p v σ H4 hv ⟨⟨o6,rfl⟩,k4,h4⟩;obtain ⟨x,ex,rfl⟩:=zA2 hv;have xn:=BQ.ns B mB x (qAL ex);refine ⟨_,rfl,_,rfl,_,_,rfl,DGet.k (k:=Sum.inr x) (k4 _ _ D0.top (by simp)),_,rfl,?_⟩;rw [zEd,qAR xn];refine iteF ?_;refine ⟨_,rfl,_,rfl,_,_,rfl,.inl (SqL.of h4),rfl,zDb _,_,rfl,?_⟩;rw [qAB (by decide),zFv,qAb (nd_pref BQ.nd eB ex)];refine iteF ?_;have gl:=glen i p B eB;refine ⟨_,rfl,.inl ⟨rfl,_,SqL.of h4⟩,_,rfl,_,_,_,rfl,rfl,h4,by rw [qAD,qAM];lia,⟨_,rfl⟩,Kp.new k4 fg,?_⟩;show upd _ gn _ gn=some (.lst (((bs.take i).flatten++B.take (p+1)).map V.str));rw [upd_same,zAi ex,<-qBM,qAU (l₁:=(bs.take i).flatten++B.take p)];rfl
   ·rintro σ H4 ⟨⟨o6,rfl⟩,k4,h4⟩;rw [qAD,qAj] at h4;refine ⟨⟨_,_,_,_,rfl⟩,k4,?_⟩;rw [zAi eB,qBX];simpa using h4
  rintro σ H2 ⟨⟨o5,o6,o7,o8,rfl⟩,k2,_⟩;refine ⟨_,rfl,_,rfl,_,rfl,_,_,rfl,SqL.of (k2 _ _ R.top (by simp)),fun sl hsl=>?_⟩;rw [cut_from _ (by decide)];have es:(as.map V.ref).drop (1:Int).toNat=(as.drop 1).map V.ref:=by rw [qCn];rfl
  rw [es];have k3:Kp [] H2 (upd H2 sl (.lst ((as.drop 1).map V.ref))):=Kp.new Kp.refl hsl;have e3:upd H2 sl (.lst ((as.drop 1).map V.ref)) sl=some (.lst ((as.drop 1).map V.ref)):=upd_same;generalize upd H2 sl (.lst ((as.drop 1).map V.ref))=H3 at k3 e3;have K3:=k2.trans k3;refine ⟨bl,sl,rfl,⟨_,SqL.of (K3 _ _ R.top (by simp))⟩,⟨_,SqL.of e3⟩,for_zip (xs:=as.map V.ref) (ys:=(as.drop 1).map V.ref) (fun i σ H4=>(∃o5 o6 o7 o8:Option V,σ=[some (.ref d),some (.int 2),some (.ref bl),some (.int k),some (.ref gn),o5,o6,o7,o8])/\Kp [] H3 H4) ⟨⟨_,_,_,_,rfl⟩,Kp.refl⟩ (fun i σ H4 ⟨_,k4⟩=>⟨SqL.of ((K3.trans k4) _ _ R.top (by simp)),SqL.of (k4 _ _ e3 (by simp))⟩) ?_ ?_⟩
  ·rintro i v1 v2 σ H4 t hv1 hv2 ⟨⟨o5,o6,o7,o8,rfl⟩,k4⟩ ht
   have hi:i<bs.length:=by
    have:=(qAV.mp hv1).1;rw [qAD,R.len] at this;exact this
   have hi1:i+1<bs.length:=by
    have:=(qAV.mp hv2).1;rw [qAD,qA4,R.len] at this;lia
   obtain ⟨a,B,ea,eB,ev,ha⟩:=R.at hi;obtain ⟨a',B',ea',eB',ev',ha'⟩:=R.at hi1;rw [ev] at hv1
   cases hv1
   have e2:((as.drop 1).map V.ref)[i]?=some (.ref a'):=by
    rw [qAZ,qBf,Nat.add_comm,ea'];rfl
   rw [e2] at hv2
   cases hv2
   have kt:Kp [] H4 (upd H4 t (.tup [.ref a,.ref a'])):=Kp.new Kp.refl ht;refine ⟨_,_,rfl,.inl (.inl upd_same),rfl,_,_,rfl,_,_,rfl,rfl,?_⟩;generalize upd H4 t (.tup [.ref a,.ref a'])=H5 at kt;have K5:=(K3.trans k4).trans kt;have ha5:=K5 _ _ ha (by simp);have mB:=qAL eB;have mB':=qAL eB';refine ⟨_,rfl,_,rfl,⟨_,SqL.of ha5⟩,zAv (xs:=B.map V.str) (fun p σ H6=>(∃o8:Option V,σ=[some (.ref d),some (.int 2),some (.ref bl),some (.int k),some (.ref gn),some (.ref a),o6,some (.ref a'),o8])/\Kp [] H3 H6) ⟨⟨_,rfl⟩,k4.trans kt⟩ (fun p σ H6 _ ⟨_,k6⟩=>SqL.of ((K3.trans k6) _ _ ha (by simp))) ?_ ?_⟩
   ·rintro p v σ H6 hv ⟨⟨o8,rfl⟩,k6⟩;obtain ⟨x,ex,rfl⟩:=zA2 hv;have mx:=qAL ex;have xn:=BQ.ns B mB x mx;have K6:=K3.trans k6;have D6:=D0.kp0 K6;have ha6:=K6 _ _ ha' (by simp);refine ⟨_,rfl,_,rfl,⟨_,SqL.of ha6⟩,fun Y hY=>zBm (B'.map V.str) (fun m ys τ H7=>(∃o0,τ=[o0,some (.ref d),some (.str x)])/\ys=[]/\H7=upd H6 Y (.lst [])) ⟨⟨_,rfl⟩,rfl,rfl⟩ (fun m ys τ H7 ⟨_,_,z⟩=>by subst z;exact SqL.of ((Kp.new (M:=[]) Kp.refl hY) _ _ ha6 (by simp))) ?_ ?_⟩
    ·rintro m v ys τ H7 hv ⟨⟨o0,rfl⟩,rfl,rfl⟩;obtain ⟨y,ey,rfl⟩:=zA2 hv;have my:=qAL ey;have yn:=BQ.ns B' mB' y my;have D7:=D6.kp0 (Kp.new (l:=Y) (o:=.lst []) Kp.refl hY);obtain ⟨o,g1,g2⟩:=zGw (D7.row x xn) y;refine ⟨_,rfl,_,rfl,_,rfl,_,_,rfl,D7.get xn,_,o,rfl,g1,_,rfl,?_⟩;rw [g2,qAR (hLS x xn y yn (BQ.nx i B B' eB eB' x mx y my))];exact iteF ⟨⟨_,rfl⟩,rfl,rfl⟩
    ·rintro ys τ H7 ⟨_,rfl,rfl⟩;have k7:Kp [] H6 (upd H6 Y (.lst [])):=Kp.new Kp.refl hY;have e7:upd H6 Y (.lst []) Y=some (.lst []):=upd_same;generalize upd H6 Y (.lst [])=H7 at k7 e7;refine ⟨(by walk_at "ln"),fun q hq=>?_⟩;have k8:Kp [] H7 (upd H7 q (.lst [])):=Kp.new Kp.refl hq;exact .inl ⟨_,_,_,_,rfl,rfl,SqL.of (k8 _ _ e7 (by simp)),SqL.of upd_same,rfl,(fun i x y h=>by simp at h),_,rfl,iteF ⟨⟨_,rfl⟩,(k6.trans k7).trans k8⟩⟩
   ·rintro σ H6 ⟨⟨o8,rfl⟩,k6⟩;exact ⟨⟨_,_,_,_,rfl⟩,k6⟩
  rintro i σ H4 _ ⟨⟨o5,o6,o7,o8,rfl⟩,k4⟩;have K4:=K3.trans k4;have top4:=K4 _ _ R.top (by simp);refine ⟨_,rfl,_,rfl,⟨_,SqL.of top4⟩,fun Y hY=>zBg (as.map V.ref) (fun m ys τ H5=>(∃o0,τ=[o0,some (.int 2)])/\ys=(((bs.take m).map fun B=>(((B.length+1) / 2:Nat):Int)).map V.int)/\H5=upd H4 Y (.lst ys)) ⟨⟨_,rfl⟩,rfl,rfl⟩ (fun m ys τ H5 ⟨_,_,z⟩=>by subst z;exact SqL.of ((Kp.new (M:=[]) Kp.refl hY) _ _ top4 (by simp))) ?_ ?_⟩
  ·rintro m v ys τ H5 hv ⟨⟨o0,rfl⟩,rfl,rfl⟩
   have hi:m<bs.length:=by
    have:=(qAV.mp hv).1;rw [qAD,R.len] at this;exact this
   obtain ⟨a,B,ea,eB,ev,ha⟩:=R.at hi;rw [ev] at hv
   cases hv
   have ha5:=(Kp.new (M:=[]) (l:=Y) (o:=.lst (((bs.take m).map fun B=>(((B.length+1) / 2:Nat):Int)).map V.int)) Kp.refl hY) _ _ (K4 _ _ ha (by simp)) (by simp);refine ⟨_,rfl,_,_,rfl,.inl (SqL.of ha5),_,rfl,_,_,rfl,rfl,_,_,rfl,rfl,_,rfl,_,_,rfl,rfl,⟨by decide,by decide +kernel⟩,upd_same,?_,⟨_,rfl⟩,?_,zCf⟩
   ·rw [qAD,qAD,qAX,qAM];lia
   ·rw [zAi eB,qAU,qAU,qAD];show _++[V.int (((B.length:Int)+2 - 1) / 2)]=_++[V.int (((B.length+1) / 2:Nat):Int)];congr 3;lia
  ·rintro ys τ H5 ⟨_,rfl,rfl⟩;rw [qAD,R.len,qAj];have k5:Kp [] H4 (upd H4 Y (.lst ((bs.map fun B=>(((B.length+1) / 2:Nat):Int)).map V.int))):=Kp.new Kp.refl hY;have e5:upd H4 Y (.lst ((bs.map fun B=>(((B.length+1) / 2:Nat):Int)).map V.int)) Y=some (.lst ((bs.map fun B=>(((B.length+1) / 2:Nat):Int)).map V.int)):=upd_same;generalize upd H4 Y (.lst ((bs.map fun B=>(((B.length+1) / 2:Nat):Int)).map V.int))=H5 at k5 e5;refine ⟨Y,_,rfl,SqL.of e5,_,rfl,rfl,?_⟩
   have es:(bs.map fun B=>(((B.length+1) / 2:Nat):Int)).sum=(k:Int):=by
    rw [<-BQ.sm,<-sum_int,qBV];rfl
   rw [es,qAR rfl];exact kk H5 (K4.trans k5)
def zH2:Sp:=fun vs H Q _=>∃(l m t pl bl:Addr) (J:JR) (qs:List (List Str×Addr)) (r:Str->Nat) (as bs:List Addr) (rs Bs:List (List Str)),vs=[.ref l,.ref m,.ref t]/\Txs H l J.ns/\Ords H m qs/\Good J.ns qs r/\(∀n∈J.ns,∀x,x∈J.S n↔Way qs x n)/\H t=some (.tup [.ref pl,.ref bl])/\RowsR H pl as rs/\RowsR H bl bs Bs/\rs.length<=20/\Bs.length<=20/\RightI J 2 rs/\BlkQ J rs.length Bs/\∀H',Kp [] H H'->Q (.bl true) H'
abbrev zEx:Stmt:=top 52
theorem zF4:FnScope ["_law_names_here", "_law_orders", "_law_found", "_law_behind_here"] ["_law_names_here", "_law_orders", "_law_found"] (zAd zEx):=fnS
theorem ok_two_right {fd:FuncData} (F:Fun K "_law_two_right" "_law_two_right" zEx f fd) (T:Txt K mg) (C_behind:Cal P w K mg base "_law_behind" 1 ["_law_names_here", "_law_orders"] spLBehind) (C_is_right:Cal P w K mg base "_law_is_right" 1 ["_law_names_here", "_law_behind_here", "_law_benches", "_law_plan"] spIsRight)
  (C_shows:Cal P w K mg base "_law_shows" 2 ["_law_behind_here", "_law_benches", "_law_rows", "_law_length"] spShows):FnOk P w K mg base CX0 3 f fd ["_law_names_here", "_law_orders", "_law_found"] zH2:=by
 refine F.ok zF4 (fun vs H Q E h=>?_) (fun cdv A outer s H vs Q E hr h=>?_)
 ·obtain ⟨l,m,t,pl,bl,J,qs,r,as,bs,rs,Bs,rfl,_⟩:=h;rfl
 ·obtain ⟨l,m,t,pl,bl,J,qs,r,as,bs,rs,Bs,rfl,hl,hm,G,hS,ht,R1,R2,l1,l2,rt,BQ,kk⟩:=h;have hr1:=hr.mono (j:=1) (by decide)
  refine ⟨_,(zAc (zCc (PW.pt (zHr (zCw (zCg (zAh zCa (by rfl) T.z_isinstance zAp (zAa (pv 2) (zAa (zC3 (by rfl) T.z_tuple bo_tuple (v:=.ty "tuple") rfl) zAb))))) (zEs (zAs op_ne (zAh zAl (by rfl) T.z_len zCe (zAa (pv 2) zAb)) zAf (zAz _)))))
    (zAe zAy)
    zAq)
   (zAc (zCc (PW.pt (zHr (zCw (zCg (zAh zCa (by rfl) T.z_isinstance zAp (zAa (zBv ix_tup (pv 2) zAf (fun _ _=>rfl)) (zAa (zC3 (by rfl) T.z_list zCr (v:=.ty "list") rfl) zAb))))) (zEs (zCw (zCg (zAh zCa (by rfl) T.z_isinstance zAp (zAa (zBv ix_tup (pv 2) zAf (fun _ _=>rfl)) (zAa (zC3 (by rfl) T.z_list zCr (v:=.ty "list") rfl) zAb))))))))
    (zAe zAy)
    zAq)
   (zAc (psS (i:=3) zF4.nd (zAg C_behind hr1 rfl (zAa (pv 0) (zAa (pv 1) zAb))))
   (zAe (zAo (pe_and (zAg C_is_right hr1 rfl (zAa (pv 0) (zAa (pv 3) (zAa zAf (zAa (zBv ix_tup (pv 2) zAf (fun _ _=>rfl)) zAb))))) (pe_one (zAg C_shows hr rfl (zAa (pv 3) (zAa zAf (zAa (zBv ix_tup (pv 2) zAf (fun _ _=>rfl)) (zAa (zAh zAl (by rfl) T.z_len zCe (zAa (zBv ix_tup (pv 2) zAf (fun _ _=>rfl)) zAb)) zAb)))))))))))),?_⟩
  refine ⟨_,rfl,_,_,_,_,rfl,TyOf.tup ht,zCi,_,rfl,iteF ?_⟩;refine ⟨_,rfl,_,_,rfl,.inr (SqT.of ht),rfl,_,rfl,iteF ?_⟩;refine ⟨_,rfl,_,_,_,_,rfl,rfl,SqT.of ht,rfl,_,_,_,_,rfl,TyOf.lst R1.top,zCi,_,rfl,iteF ?_⟩;refine ⟨_,rfl,_,_,_,_,rfl,rfl,SqT.of ht,rfl,_,_,_,_,rfl,TyOf.lst R2.top,zCi,_,rfl,iteF ?_⟩;refine ⟨_,rfl,_,rfl,l,m,J.ns,qs,rfl,hl,hm,G.nd,G.few,G.qfew,G.qin,fun d la L H1 D1 hL k1=>?_⟩
  have sub:∀n∈J.ns,∀y∈L n,y∈J.ns/\n∈J.S y:=fun n hn y hy=>by
   have w:=((hL n hn).2 y).mp hy;have h1:=(Way.to hm.two G.qin w).2;exact ⟨h1,(hS y h1 n).mpr w⟩
  have ht1:=k1 _ _ ht (by simp);refine ⟨_,rfl,_,rfl,_,rfl,_,_,_,_,rfl,rfl,SqT.of ht1,rfl,l,d,pl,2,J,as,rs,la,L,rfl,k1 _ _ hl (by simp),D1.rd,D1.ne,G.nd,G.few,sub,R1.kp k1,by lia,rt,fun H2 k2=>⟨_,rfl,iteT ?_⟩⟩;have k02:=k1.trans k2;have ht2:=k02 _ _ ht (by simp);have R12:=R1.kp k02;refine ⟨_,rfl,_,rfl,_,_,_,_,rfl,rfl,SqT.of ht2,rfl,_,rfl,_,_,_,_,rfl,rfl,SqT.of ht2,rfl,_,_,rfl,.inl (SqL.of R12.top),?_⟩;rw [show (((as.map V.ref).length:Nat):Int)=(rs.length:Int) by rw [qAD,R12.len]];exact ⟨d,bl,rs.length,J,bs,Bs,la,L,rfl,D1.rd.kp0 k2,G.few,fun n hn y hy h=>((hL n hn).2 y).mpr ((hS y hy n).mp h),R2.kp k02,l2,BQ,fun H3 k3=>kk H3 (k02.trans k3)⟩
end
def rkI (x:Int):Nat:=if x<10 then (30 - x).toNat else (x - 10).toNat
structure POk (m:Int) (t:Int×Int):Prop where
 a0:0<=t.1
 a1:t.1<m
 b0:0<=t.2
 b1:t.2<m
 rk:rkI t.1<rkI t.2
def Rws (H:Hp) (ts:List ((Int×Int)×Addr)):Prop:=∀t∈ts,H t.2=some (.tup [.int t.1.1,.int t.1.2])
theorem Rws.kp0 {ts:List ((Int×Int)×Addr)} (R:Rws H ts) (k:Kp [] H H'):Rws H' ts:=fun t ht=>k _ _ (R t ht) (by simp)
theorem Rws.more {ts:List ((Int×Int)×Addr)} {a b:Int} (R:Rws H ts) (k:Kp [] H H') (h:H' t=some (.tup [.int a,.int b])):Rws H' (ts++[((a,b),t)]):=fun u hu=>by
 rcases qAQ.mp hu with z| z
 ·exact R.kp0 k u z
 ·rw [qAP.mp z];exact h
structure PAI (X:Cx) (es:List Expr) (t:L2.TA):Prop where
 to:PA X es t
theorem pai_nil {X:Cx}:PAI X [] tNil:=⟨zAb⟩
theorem zG3 {X:Cx} {e:Expr} {es:List Expr} {te:TE} {t:L2.TA} (ha:PE X e te) (hr:PAI X es t) (hs:notStar e=true:=by rfl):PAI X (e::es) (tCons te t):=⟨zAa ha hr.to (star_cons hs)⟩
theorem pe_lstI {X:Cx} {es:List Expr} {t:L2.TA} {pos:Pos} (h:PAI X es t):PE X (.List es pos) (tLst t):=zA7 h.to
theorem pok_all {L:List (Int×Int)} (h:(L.all fun t=>decide (0<=t.1)&&decide (t.1<10)&&decide (0<=t.2)&&decide (t.2<10)&&decide (rkI t.1<rkI t.2))=true) {m:Int} (hm:10<=m) {t:Int×Int} (ht:t∈L):POk m t:=by
 have:=qA6.mp h t ht;simp only [qB6,qCC] at this;obtain ⟨⟨⟨⟨a,b⟩,c⟩,d⟩,e⟩:=this;exact ⟨a,by lia,c,by lia,e⟩
theorem pok_new {mo b:Int} (h0:0<mo) (h1:mo<=10) (hb:0<=b) (hb1:b<10):POk (10+mo) (9+mo,b):=by
 refine ⟨by show 0<=9+mo;lia,by show 9+mo<10+mo;lia,hb,by show b<10+mo;lia,?_⟩;show rkI (9+mo)<rkI b;unfold rkI;rw [qAB (by lia),qAC hb1];lia
theorem midS {a b:TS} {D:Ends} {σ:St} (I:St->Hp->Prop) (h1:∀σ H,I σ H->b D σ H) (h2:(∀σ H,I σ H->b D σ H)->a {D with nx:=b D} σ H):tSeq a b D σ H:=h2 h1
theorem seq0 {n:Nat} (h:0<n):seqIndex? 0 n=some 0:=by
 unfold seqIndex?;simp [h]
theorem cut_last (xs:List V):cutV xs none (some (-1))=xs.dropLast:=by
 unfold cutV HT.sIx;rw [List.dropLast_eq_take];simp;congr 1;lia
theorem zBp {xs:List V} (h:H t=none):∃H',H'=upd H t (.tup xs)/\Kp [] H H'/\H' t=some (.tup xs):=⟨_,rfl,Kp.new Kp.refl h,upd_same⟩
section
def spPlanted:Sp:=fun vs H Q _=>∃p:Addr,vs=[.ref p]/\zBx H p/\∀(t l m:Addr) (ns:List Str) (qs:List (List Str×Addr)) (r:Str->Nat) (H':Hp),H' t=some (.tup [.ref l,.ref m])->Fre H t->Txs H' l ns->Ords H' m qs->Good ns qs r->Kp [p] H H'->Q (.ref t) H'
abbrev zE9:Stmt:=top 53
theorem zBq:FnScope ["_law_purse_here", "_law_pairs_here", "_law_more", "_law_k", "_law_names_here", "_law_row"] ["_law_purse_here"] (zAd zE9):=fnS
theorem ok_planted {fd:FuncData} (F:Fun K "_law_planted" "_law_planted" zE9 f fd) (T:Txt K mg) (C_take:Cal P w K mg base "_law_take" 1 ["_law_purse_here", "_law_many"] spTake) (C_names:Cal P w K mg base "_law_names" 2 ["_law_purse_here", "_law_many"] zIi):FnOk P w K mg base CX0 3 f fd ["_law_purse_here"] spPlanted:=by
 refine F.ok zBq (fun vs H Q E h=>?_) (fun cdv A outer s H vs Q E hr h=>?_)
 ·obtain ⟨p,rfl,_⟩:=h;rfl
 ·obtain ⟨p,rfl,hP,kk⟩:=h;have hr1:=hr.mono (j:=1) (by decide)
  refine ⟨_,(@zAc _ _ _ _ _ (@ps_set _ _ 1 _ _ _ _ (by exact zBq.nd) (by rfl) (by walk_at "lc") (@pe_lstI _ _ _ _ (zG3 (by exact (zA9 (zAa zAf (zAa zAf zAb)))) (zG3 (by exact (zA9 (zAa zAf (zAa zAf zAb)))) (zG3 (by exact (zA9 (zAa zAf (zAa zAf zAb)))) (zG3 (by exact (zA9 (zAa zAf (zAa zAf zAb)))) (zG3 (by exact (zA9 (zAa zAf (zAa zAf zAb)))) (zG3 (by exact (zA9 (zAa zAf (zAa zAf zAb)))) (zG3 (by exact (zA9 (zAa zAf (zAa zAf zAb)))) (zG3 (by exact (zA9 (zAa zAf (zAa zAf zAb)))) (zG3 (by exact (zA9 (zAa zAf (zAa zAf zAb)))) (zG3 (by exact (zA9 (zAa zAf (zAa zAf zAb)))) (zG3 (by exact (zA9 (zAa zAf (zAa zAf zAb)))) pai_nil)))))))))))) (by rfl) (by first| exact Or.inl rfl| exact Or.inr rfl))
   (by exact (zAc (psS (i:=2) zBq.nd (zAg C_take hr1 rfl (zAa (pv 0) (zAa zAf zAb))))
   (zAc (zAu qAg rfl (pi_range2 rfl T.z_range (zAa zAf (zAa (zAn zBh zAf (pv 2)) zAb))) (pgN (i:=3) zBq.nd)
    (zAe (zAr (zDm qAw qBj qBk zBl (pv 1) (zAa (zA9 (zAa (pv 3) (zAa (zAn zBh (pv 3) zAf) zAb))) zAb)))))
   (zAc (zCc (zAs op_gt (pv 2) zAf (zAz _))
    (zAe (psS (i:=1) zBq.nd (zAn op_cat (zGm zIm (pv 1) po_none (zG1 (pe_un un_neg zAf))) (zA7 (zAa (zA9 (zAa (zAn zBh zAf (pv 2)) (zAa zAf zAb))) (zAa (zA9 (zAa (zAn zBh zAf (pv 2)) (zAa zAf zAb))) (zAa (zA9 (zAa (zAn zBh zAf (pv 2)) (zAa zAf zAb))) zAb)))))))
    zAq)
   (zAc (psS (i:=4) zBq.nd (zAg C_names hr rfl (zAa (pv 0) (zAa (zAn zBh zAf (pv 2)) zAb))))
   (zAc (psS (i:=5) zBq.nd (zA7 zAb))
   (zAc (zAu qAg rfl (zCp rfl T.z_range (zAa (zAh zAl (by rfl) T.z_len zCe (zAa (pv 4) zAb)) zAb)) (pgN (i:=3) zBq.nd)
    (zAe (zAr (zDm qAw qDL qDM zG6 (pv 5) (zAa (zBv zA5 (zA7 (zAa (pv 3) (zAa (zAg C_take hr1 rfl (zAa (pv 0) (zAa (zAn zBh (pv 3) zAf) zAb))) zAb))) (zAn zF7 (pv 2) zAf) (fun _ _=>rfl)) (zAa (zBv zA5 (pv 4) (pv 3) (fun _ _=>rfl)) zAb))))))
   (zAc (zAr (zDm qAw qDL qDM mt_insertC (pv 1) (zAa (zAg C_take hr1 rfl (zAa (pv 0) (zAa (zAn zBh (zAh zAl (by rfl) T.z_len zCe (zAa (pv 1) zAb)) zAf) zAb))) (zAa (zDm qAw PySem.F.slot_list_pop PySem.F.type_list_pop mt_popAt (pv 1) (zAa zAf zAb)) zAb))))
   (zAe (zAo (zA9 (zAa (pv 5) (zAa (zBj rfl (zBn (sc:=zAd zE9) rfl (by decide +kernel)) (Draws.own (x:= "_law_i") (Draws.own (x:= "_law_j") (dtk (i:=4) rfl Draws.nil))) (zAk (pv 1)) (fun _ _ _ _=>(pg_tupK (K:=K) (n:=2) rfl (zA1 (pgB (i:=0)) (zA1 (pgB (i:=1)) zD4)))) (fun _ _ _ _=>zC1) (fun _ _ _ _=>(zA9 (zAa (zBv (zEo (K:=K)) (pv 2) (pv 0) (fun _ _=>rfl)) (zAa (zBv (zEo (K:=K)) (pv 2) (pv 1) (fun _ _=>rfl)) zAb))))) zAb)))))))))))))),?_⟩
  have R0:Rws H []:=fun t h=>nomatch h;refine ⟨(by walk_at "ln"),fun t1 h1=>?_⟩;obtain ⟨H1,e1,k1,g1⟩:=zBp (xs:=[.int 9,.int 6]) h1;rw [<-e1];have R1:=R0.more k1 g1;clear g1 e1 h1 R0;refine ⟨(by walk_at "ln"),fun t2 h2=>?_⟩;obtain ⟨H2,e2,k2,g2⟩:=zBp (xs:=[.int 8,.int 6]) h2;rw [<-e2];have R2:=R1.more k2 g2;clear g2 e2 h2 R1;refine ⟨(by walk_at "ln"),fun t3 h3=>?_⟩;obtain ⟨H3,e3,k3,g3⟩:=zBp (xs:=[.int 7,.int 6]) h3;rw [<-e3];have R3:=R2.more k3 g3;clear g3 e3 h3 R2;refine ⟨(by walk_at "ln"),fun t4 h4=>?_⟩;obtain ⟨H4,e4,k4,g4⟩:=zBp (xs:=[.int 6,.int 5]) h4;rw [<-e4];have R4:=R3.more k4 g4;clear g4 e4 h4 R3;refine ⟨(by walk_at "ln"),fun t5 h5=>?_⟩;obtain ⟨H5,e5,k5,g5⟩:=zBp (xs:=[.int 5,.int 3]) h5;rw [<-e5];have R5:=R4.more k5 g5;clear g5 e5 h5 R4;refine ⟨(by walk_at "ln"),fun t6 h6=>?_⟩;obtain ⟨H6,e6,k6,g6⟩:=zBp (xs:=[.int 9,.int 4]) h6;rw [<-e6];have R6:=R5.more k6 g6;clear g6 e6 h6 R5;refine ⟨(by walk_at "ln"),fun t7 h7=>?_⟩;obtain ⟨H7,e7,k7,g7⟩:=zBp (xs:=[.int 8,.int 4]) h7;rw [<-e7];have R7:=R6.more k7 g7;clear g7 e7 h7 R6;refine ⟨(by walk_at "ln"),fun t8 h8=>?_⟩;obtain ⟨H8,e8,k8,g8⟩:=zBp (xs:=[.int 4,.int 2]) h8;rw [<-e8];have R8:=R7.more k8 g8;clear g8 e8 h8 R7;refine ⟨(by walk_at "ln"),fun t9 h9=>?_⟩;obtain ⟨H9,e9,k9,g9⟩:=zBp (xs:=[.int 4,.int 1]) h9;rw [<-e9];have R9:=R8.more k9 g9;clear g9 e9 h9 R8;refine ⟨(by walk_at "ln"),fun t10 h10=>?_⟩;obtain ⟨H10,e10,k10,g10⟩:=zBp (xs:=[.int 4,.int 0]) h10;rw [<-e10];have R10:=R9.more k10 g10;clear g10 e10 h10 R9;refine ⟨(by walk_at "ln"),fun t11 h11=>?_⟩;obtain ⟨H11,e11,k11,g11⟩:=zBp (xs:=[.int 7,.int 5]) h11;rw [<-e11];have R11:=R10.more k11 g11;clear g11 e11 h11 R10;have K11:=((((((((((k1.trans k2).trans k3).trans k4).trans k5).trans k6).trans k7).trans k8).trans k9).trans k10).trans k11);clear k1 k2 k3 k4 k5 k6 k7 k8 k9 k10 k11;refine ⟨(by walk_at "ln"),fun c0 hc0=>?_⟩;have fc0:Fre H11 c0:=hc0;have kc:Kp [] H11 (upd H11 c0 (.lst [.ref t1,.ref t2,.ref t3,.ref t4,.ref t5,.ref t6,.ref t7,.ref t8,.ref t9,.ref t10,.ref t11])):=Kp.new Kp.refl fc0;have ec:upd H11 c0 (.lst [.ref t1,.ref t2,.ref t3,.ref t4,.ref t5,.ref t6,.ref t7,.ref t8,.ref t9,.ref t10,.ref t11]) c0=some (.lst [.ref t1,.ref t2,.ref t3,.ref t4,.ref t5,.ref t6,.ref t7,.ref t8,.ref t9,.ref t10,.ref t11]):=upd_same;generalize upd H11 c0 (.lst [.ref t1,.ref t2,.ref t3,.ref t4,.ref t5,.ref t6,.ref t7,.ref t8,.ref t9,.ref t10,.ref t11])=H12 at kc ec;have K12:=K11.trans kc;have R12:=R11.kp0 kc
  have I0:∃ts:List ((Int×Int)×Addr),ITs H12 c0 ts/\ts.length=11/\∀m:Int,10<=m->∀t∈ts,POk m t.1:=by
   refine ⟨_,⟨?_,R12⟩,rfl,fun m hm t ht=>pok_all ?_ hm (qAa.mpr ⟨t,ht,rfl⟩)⟩
   ·exact ec
   ·rfl
  clear R12;obtain ⟨ts0,I0,l0,ok0⟩:=I0;have fc:Fre H c0:=K11.fre fc0 (by simp);have npc:c0≠p:=by obtain ⟨a,b,e,_⟩:=hP;exact (ne_fre fc e).symm
  clear ec kc R11 fc0 hc0;refine ⟨_,rfl,p,11,rfl,hP.kp K12 (by simp),by decide,by decide +kernel,fun mo H13 m0 m1 P13 k13=>?_⟩;have K13:Kp [p] H H13:=(K12.weak (by simp)).trans k13
  have off:∀{a:Addr} {xs:List V} {Hx:Hp},zBx Hx p->Hx a=some (.tup xs)->a≠p:=fun {a xs Hx} hp e z=>by
   obtain ⟨u,v,e',_⟩:=hp;rw [z,e'] at e;cases e
  have I13:ITs H13 c0 ts0:=I0.kp k13 (nm1 npc) fun t ht=>nm1 (off (hP.kp K12 (by simp)) (I0.row t ht));refine ⟨_,rfl,_,_,rfl,rfl,_,_,rfl,⟨by lia,by lia,by lia,by lia⟩,?_⟩;rw [show (10+mo - 10).toNat=mo.toNat by lia];refine zB3 (lo:=10) (n:=mo.toNat) (fun i σ H2=>∃(o3:Option V) (ts ts':List ((Int×Int)×Addr)),σ=[some (.ref p),some (.ref c0),some (.int mo),o3,none,none]/\Kp [p] H H2/\zBx H2 p/\ITs H2 c0 ts/\ts.length=11+i/\(∀t∈ts',POk (10+mo) t.1)/\((i=0/\ts=ts')\/1<=i/\∃u:(Int×Int)×Addr,ts=ts'++[u]/\u.1=(9+(i:Int),10+(i:Int)))) ⟨none,ts0,ts0,rfl,K13,P13,I13,l0,fun t ht=>ok0 _ (by lia) t ht,.inl ⟨rfl,rfl⟩⟩ ?_ ?_
  ·rintro i σ H2 hi ⟨o3,ts,ts',rfl,k2,P2,I2,l2,ok,cs⟩;refine ⟨_,rfl,.inl ⟨rfl,_,SqL.of I2.top⟩,_,rfl,_,rfl,_,_,rfl,rfl,(by walk_at "ln"),fun t ht=>?_⟩;obtain ⟨H3,e3,k3,g3⟩:=zBp (xs:=[.int (10+(i:Int)),.int (10+(i:Int)+1)]) ht;rw [<-e3];have I3:=I2.kp k3 (by simp) (by simp);have ntc:t≠c0:=(ne_fre (show Fre H2 t from ht) I2.top).symm;refine ⟨_,_,_,rfl,rfl,I3.top,by rw [qAD,qAM];lia,?_⟩;have k4:Kp [c0] H3 (upd H3 c0 (.lst ((ts.map fun t=>V.ref t.2)++[.ref t]))):=Kp.put Kp.refl (by simp);have e4:upd H3 c0 (.lst ((ts.map fun t=>V.ref t.2)++[.ref t])) c0=some (.lst ((ts.map fun t=>V.ref t.2)++[.ref t])):=upd_same;generalize upd H3 c0 (.lst ((ts.map fun t=>V.ref t.2)++[.ref t]))=H4 at k4 e4;have nc:∀u∈ts,u.2≠c0:=fun u hu z=>by have:=I3.row u hu;rw [z,I3.top] at this;cases this
   refine ⟨_,ts++[((10+(i:Int),10+(i:Int)+1),t)],ts,rfl,zHh (k2.trans (k3.weak (by simp))) fc k4,(P2.kp k3 (by simp)).kp k4 (nm1 npc.symm),⟨by rw [e4,qAU];rfl,fun u hu=>?_⟩,by rw [qAf,qBN];lia,fun u hu=>?_,.inr ⟨by lia,_,rfl,?_⟩⟩
   ·rcases qAQ.mp hu with z| z
    ·exact k4 _ _ (I3.row u z) (nm1 (nc u z))
    ·rw [qAP.mp z];exact k4 _ _ g3 (nm1 ntc)
   ·rcases cs with ⟨_,e⟩| ⟨i1,v,e,ev⟩
    ·rw [e] at hu;exact ok u hu
    ·rw [e] at hu;rcases qAQ.mp hu with z| z
     ·exact ok u z
     ·rw [qAP.mp z,ev];refine ⟨by show 0<=9+(i:Int);lia,by show 9+(i:Int)<_;lia,by show 0<=10+(i:Int);lia,by show 10+(i:Int)<_;lia,?_⟩;show rkI (9+(i:Int))<rkI (10+(i:Int));unfold rkI;rw [qAB (by lia),qAB (by lia)];lia
   ·show ((10+(i:Int),10+(i:Int)+1):Int×Int)=(9+((i+1:Nat):Int),10+((i+1:Nat):Int));congr 1<;>lia
  ·rintro σ H14 ⟨o3,ts1,ts1',rfl,k14,P14,I14,l14,ok14,cs⟩;dsimp only;refine midS (fun σ H15=>∃(c:Addr) (o3:Option V) (ts:List ((Int×Int)×Addr)),σ=[some (.ref p),some (.ref c),some (.int mo),o3,none,none]/\Kp [p] H H15/\zBx H15 p/\ITs H15 c ts/\Fre H c/\1<=ts.length/\ts.length<=24/\∀t∈ts,POk (10+mo) t.1) ?_ (fun key=>?_)
   ·clear cs ok14 l14 I14 P14 k14 ok0 l0 I0 I13 P13 K13 K12 K11 k13 ts1 ts1' ts0 fc npc;rintro σ H15 ⟨c,o3,ts,rfl,k15,P15,I15,fc,l15,l15',ok⟩;refine ⟨_,rfl,_,rfl,_,_,rfl,rfl,p,_,rfl,P15,by lia,by lia,fun l R H16 fl hl en nd nm P16 K16=>?_⟩;have npl:l≠p:=by obtain ⟨a,b,e,_⟩:=P15;exact (ne_fre fl e).symm
    have npc:c≠p:=by obtain ⟨a,b,e,_⟩:=hP;exact (ne_fre fc e).symm
    have ntp:∀t∈ts,t.2∉[p]:=fun t ht=>nm1 (off P15 (I15.row t ht));have I16:ITs H16 c ts:=I15.kp K16 (nm1 npc) ntp;have ncl:c≠l:=ne_fre fl I15.top;have flH:Fre H l:=k15.fre fl (nm1 npl);refine ⟨(by walk_at "ln"),fun g hg=>?_⟩;have fg:Fre H16 g:=hg;have kg:Kp [] H16 (upd H16 g (.lst [])):=Kp.new Kp.refl fg;have gg:upd H16 g (.lst []) g=some (.lst []):=upd_same;generalize upd H16 g (.lst [])=H17 at kg gg;have npg:g≠p:=by obtain ⟨a,b,e,_⟩:=P16;exact (ne_fre fg e).symm
    have ncg:c≠g:=ne_fre fg I16.top;have nlg:l≠g:=ne_fre fg hl;have fgH:Fre H g:=(k15.trans K16).fre fg (nm1 npg);have hl17:Txs H17 l R:=kg l _ hl (by simp);have lR:(R.length:Int)=10+mo:=by rw [en];lia
    refine ⟨_,rfl,_,_,rfl,.inl (SqL.of hl17),_,rfl,by lia,by rw [qAD];lia,?_⟩;rw [qAD,Int.toNat_natCast];refine zB3 (lo:=0) (n:=R.length) (fun i σ H18=>∃(o3:Option V) (row:List Str),σ=[some (.ref p),some (.ref c),some (.int mo),o3,some (.ref l),some (.ref g)]/\zBx H18 p/\Kp [p] H H18/\Txs H18 l R/\ITs H18 c ts/\Txs H18 g row/\row.Perm (R.take i)) ⟨o3,[],rfl,P16.kp kg (by simp),(k15.trans K16).trans (kg.weak (by simp)),hl17,I16.kp kg (by simp) (by simp),gg,by rw [qDJ]⟩ ?_ ?_
    ·rintro i σ H18 hi ⟨o3,row,rfl,P18,k18,hl18,I18,hg18,pm⟩;have rl:row.length=i:=by rw [pm.length_eq,qAX];lia
     refine ⟨_,rfl,.inl ⟨rfl,_,SqL.of hg18⟩,_,rfl,_,rfl,_,rfl,_,_,rfl,rfl,p,_,rfl,P18,by lia,by lia,fun d H19 d0 d1 P19 K19=>?_⟩;refine ⟨(by walk_at "ln"),fun e he=>?_⟩;have fe:Fre H19 e:=he;have ke:Kp [] H19 (upd H19 e (.lst [.int (0+(i:Int)),.int d])):=Kp.new Kp.refl fe;have ge:upd H19 e (.lst [.int (0+(i:Int)),.int d]) e=some (.lst [.int (0+(i:Int)),.int d]):=upd_same;generalize upd H19 e (.lst [.int (0+(i:Int)),.int d])=H20 at ke ge
     obtain ⟨d',ed,e0,e1⟩:∃d':Int,atI [V.int (0+(i:Int)),.int d] (mo % 2)=some (.int d')/\0<=d'/\d'<=i:=by
      have h2:mo % 2=0\/mo % 2=1:=by lia
      rcases h2 with z| z<;>rw [z]
      ·exact ⟨_,zDz (by decide) rfl,by lia,by lia⟩
      ·exact ⟨_,zDz (by decide) rfl,d0,by lia⟩
     obtain ⟨x,ex⟩:∃x,R[i]?=some x:=⟨R[i],qAt hi⟩;have K20:Kp [p] H18 H20:=K19.trans (ke.weak (by simp));have hg20:Txs H20 g row:=K20 g _ hg18 (nm1 npg);have hl20:Txs H20 l R:=K20 l _ hl18 (nm1 npl);have I20:=I18.kp K20 (nm1 npc) ntp;have P20:=P19.kp ke (by simp);refine ⟨_,rfl,_,_,rfl,rfl,(show (0:Int)<2 by decide),_,_,_,_,rfl,rfl,SqL.of ge,ed,?_⟩;refine ⟨_,rfl,_,rfl,_,_,_,.str x,rfl,rfl,SqL.of hl20,zDz (by lia) (by rw [qAZ,show (0+(i:Int)).toNat=i by lia,ex];rfl),_,_,_,_,rfl,rfl,hg20,by rw [qAD,qAM];lia,e0,by rw [qAD];lia,?_⟩;rw [zI2 V.str];refine ⟨_,_,rfl,P20.kp (M:=[g]) (Kp.put Kp.refl (by simp)) (nm1 npg.symm),Kp.new (k18.trans K20) fgH,(upd_ne nlg).trans hl20,⟨(upd_ne ncg).trans I20.top,fun u hu=>(upd_ne (zBw (I20.row u hu) hg20 (fun y=>nomatch y))).trans (I20.row u hu)⟩,upd_same,?_⟩;have p1:=(ST.ins_perm row d'.toNat x).trans (pm.cons x);refine p1.trans ?_;rw [List.take_add_one,ex];exact List.perm_append_comm (l₁:=[x])
    ·rintro σ H18 ⟨o3,row,rfl,P18,k18,hl18,I18,hg18,pm⟩;rw [qAj] at pm
     obtain ⟨t0,ts',rfl⟩:∃t0 ts',ts=t0::ts':=by
      cases ts with
      | nil=>exact absurd l15 (by simp)
      | cons a b=>exact ⟨a,b,rfl⟩
     rw [qAe] at l15';refine ⟨_,rfl,.inl ⟨rfl,_,SqL.of I18.top⟩,_,rfl,_,rfl,_,_,rfl,.inl (SqL.of I18.top),_,_,rfl,rfl,p,_,rfl,P18,by lia,by rw [qAD,qAe];lia,fun d H19 d0 d1 P19 K19=>?_⟩;rw [qAD,qAe] at d1;have I19:=I18.kp K19 (nm1 npc) ntp;refine ⟨_,rfl,.inl ⟨rfl,_,SqL.of I19.top⟩,_,_,0,0,.ref t0.2,rfl,rfl,I19.top,by decide,by decide,seq0 (by simp),rfl,?_⟩;refine ⟨c,ts'.map fun t=>V.ref t.2,d,_,rfl,rfl,upd_same,by rw [qAD,qAM];lia,d0,by lia,?_⟩;rw [zI2 (fun t:(Int×Int)×Addr=>V.ref t.2)];have pt:=ST.ins_perm ts' d.toNat t0;generalize ts'.take d.toNat++t0::ts'.drop d.toNat=zs at pt;have lz:zs.length<=24:=by rw [pt.length_eq,qAe];lia
     have okz:∀t∈zs,POk (10+mo) t.1:=fun t ht=>ok t (pt.mem_iff.mp ht);have kc:Kp [c] H19 (upd (upd H19 c (.lst (((t0::ts').map fun t=>V.ref t.2).eraseIdx 0))) c (.lst (zs.map fun t=>V.ref t.2))):=Kp.put (Kp.put Kp.refl (by simp)) (by simp);have gc:(upd (upd H19 c (.lst (((t0::ts').map fun t=>V.ref t.2).eraseIdx 0))) c (.lst (zs.map fun t=>V.ref t.2))) c=some (.lst (zs.map fun t=>V.ref t.2)):=upd_same;generalize (upd (upd H19 c (.lst (((t0::ts').map fun t=>V.ref t.2).eraseIdx 0))) c (.lst (zs.map fun t=>V.ref t.2)))=H8 at kc gc;have I8:ITs H8 c zs:=⟨gc,fun t ht=>kc _ _ (I19.row t (pt.mem_iff.mp ht)) (nm1 (zBw (I19.row t (pt.mem_iff.mp ht)) I19.top (fun y=>nomatch y)))⟩;have K8:Kp [p] H H8:=zHh (k18.trans K19) fc kc;have hl8:Txs H8 l R:=kc l _ (K19 l _ hl18 (nm1 npl)) (nm1 ncl.symm);have hg8:Txs H8 g row:=kc g _ (K19 g _ hg18 (nm1 npg)) (nm1 ncg.symm);have P8:zBx H8 p:=P19.kp kc (nm1 npc.symm);clear kc gc I19 hl18 hg18 I18 P18 k18 K19 P19
     refine ⟨_,rfl,_,rfl,_,rfl,⟨_,SqL.of I8.top⟩,fun B hB=>zBg (zs.map fun t=>V.ref t.2) (fun i ys τ H9=>∃ks:List (List Str×Addr),(∃o0 o1,τ=[o0,o1,some (.ref l)])/\ys=(ks.map fun q=>V.ref q.2)/\ks.length=i/\(∀q∈ks,H9 q.2=some (.tup (q.1.map V.str))/\∃(a b:Str) (t:Int×Int),q.1=[a,b]/\POk (10+mo) t/\R[t.1.toNat]?=some a/\R[t.2.toNat]?=some b)/\Kp [] H8 H9/\H9 B=some (.lst ys))
      ⟨[],⟨_,_,rfl⟩,rfl,rfl,(fun q h=>nomatch h),Kp.new Kp.refl hB,upd_same⟩ (fun i ys τ H9 ⟨_,_,_,_,_,k9,_⟩=>SqL.of (k9 c _ I8.top (by simp))) ?_ ?_⟩
     ·rintro i v ys τ H9 hv ⟨ks,⟨o0,o1,rfl⟩,rfl,ek,hk,k9,h9⟩;obtain ⟨t,eq,rfl⟩:=it_at hv;have mt:=qAL eq;have okt:=okz t mt;have hrow:H9 t.2=some (.tup [.int t.1.1,.int t.1.2]):=k9 t.2 _ (I8.row t mt) (by simp);refine ⟨_,_,rfl,.inl (.inl hrow),rfl,_,_,rfl,_,_,rfl,rfl,?_⟩;have a0:=okt.a0;have a1:=okt.a1;have b0:=okt.b0;have b1:=okt.b1;obtain ⟨n1,e1⟩:∃n,R[t.1.1.toNat]?=some n:=⟨_,qAt (by lia)⟩;obtain ⟨n2,e2⟩:∃n,R[t.1.2.toNat]?=some n:=⟨_,qAt (by lia)⟩;have hl9:=k9 l _ hl8 (by simp);have an:∀{x:Int} {n:Str},0<=x->R[x.toNat]?=some n->atI (R.map V.str) x=some (.str n):=fun h0 h=>zDz h0 (by rw [qAZ,h];rfl);refine ⟨_,rfl,_,rfl,_,_,_,_,rfl,rfl,SqL.of hl9,an a0 e1,_,rfl,_,rfl,_,_,_,_,rfl,rfl,SqL.of hl9,an b0 e2,(by walk_at "ln"),fun u hu=>?_⟩;have fu:Fre H9 u:=hu;have nBu:B≠u:=ne_fre fu h9;refine ⟨(upd_ne nBu).trans h9,?_,ks++[([n1,n2],u)],⟨_,_,rfl⟩,?_,by rw [qAf,ek];rfl,fun q hq=>?_,Kp.new (Kp.new k9 (k9.fre fu (by simp))) hB,upd_same⟩
      ·have:=(qAV.mp eq).1;rw [qAD,ek,qAM];lia
      ·rw [qAU];rfl
      ·rcases qAQ.mp hq with z| z
       ·obtain ⟨z1,z2⟩:=hk q z;exact ⟨(upd_ne (zBw z1 h9 (fun y=>nomatch y))).trans ((upd_ne (ne_fre fu z1)).trans z1),z2⟩
       ·rw [qAP.mp z];exact ⟨(upd_ne nBu.symm).trans upd_same,n1,n2,t.1,rfl,okt,e1,e2⟩
     ·rintro ys τ H9 ⟨ks,_,rfl,ek,hk,k9,h9⟩;rw [qAD] at ek;refine ⟨(by walk_at "ln"),fun t ht=>?_⟩;have ft:Fre H9 t:=ht;have k10:Kp [] H9 (upd H9 t (.tup [.ref g,.ref B])):=Kp.new Kp.refl ft;have ft8:Fre H8 t:=k9.fre ft (by simp);have npt:p≠t:=by obtain ⟨x,y,q,_⟩:=P8;exact ne_fre ft8 q
      refine kk t g B row ks (fun n=>rkI (R.idxOf n)) _ upd_same (K8.fre ft8 (nm1 npt.symm)) ((k9.trans k10) g _ hg8 (by simp)) ⟨k10 B _ h9 (by simp),fun q hq=>k10 _ _ (hk q hq).1 (by simp),fun q hq=>?_⟩ ⟨fun n hn=>nm n (pm.mem_iff.mp hn),pm.nodup_iff.mpr nd,by rw [pm.length_eq];lia,by lia,fun q hq x hx=>?_,fun q hq=>?_⟩ (K8.trans ((k9.trans k10).weak (by simp)))
      ·obtain ⟨a,b,t,e,_⟩:=(hk q hq).2;exact ⟨a,b,e⟩
      ·obtain ⟨a,b,t,e,_,h1,h2⟩:=(hk q hq).2;rw [e] at hx;refine pm.mem_iff.mpr ?_;rcases qAO.mp hx with z| z
       ·rw [z];exact qAL h1
       ·rw [qAP.mp z];exact qAL h2
      ·obtain ⟨a,b,t,e,ok,h1,h2⟩:=(hk q hq).2;have e1:fst q=a:=by unfold fst;rw [e];rfl
       have e2:snd q=b:=by unfold snd;rw [e];rfl
       rw [e1,e2,zEc nd h1,zEc nd h2,Int.toNat_of_nonneg ok.a0,Int.toNat_of_nonneg ok.b0];exact ok.rk
   ·refine ⟨_,rfl,_,_,rfl,rfl,_,rfl,?_⟩;show ite _ _ _
    by_cases c:0<mo
    ·rw [qAC (qAR c)]
     obtain ⟨u,e,_⟩:∃u:(Int×Int)×Addr,ts1=ts1'++[u]/\u.1=(9+(mo.toNat:Int),10+(mo.toNat:Int)):=by
      rcases cs with ⟨z,_⟩| ⟨_,u,e,h⟩
      ·lia
      ·exact ⟨u,e,h⟩
     have l1:ts1'.length=10+mo.toNat:=by rw [e,qAf,qBN] at l14;lia
     have ec:cutV (ts1.map fun t=>V.ref t.2) none (some (-1))=ts1'.map fun t=>V.ref t.2:=by
      rw [cut_last,e,qAU];exact List.dropLast_concat
     have R14:Rws H14 ts1':=fun t ht=>I14.row t (by rw [e];exact qAs _ ht);refine ⟨_,rfl,_,rfl,_,rfl,_,_,rfl,SqL.of I14.top,fun d hd=>?_⟩;rw [ec];obtain ⟨H15,e15,k15,g15⟩:∃H',H'=upd H14 d (.lst (ts1'.map fun t=>V.ref t.2))/\Kp [] H14 H'/\H' d=some (.lst (ts1'.map fun t=>V.ref t.2)):=⟨_,rfl,Kp.new Kp.refl hd,upd_same⟩;rw [<-e15];have R15:=R14.kp0 k15;refine ⟨_,rfl,_,_,rfl,rfl,(by walk_at "ln"),fun a1 h1=>?_⟩;obtain ⟨H16,e16,k16,g16⟩:=zBp (xs:=[.int (9+mo),.int 9]) h1;rw [<-e16];have R16:=R15.more k16 g16;refine ⟨_,rfl,_,_,rfl,rfl,(by walk_at "ln"),fun a2 h2=>?_⟩;obtain ⟨H17,e17,k17,g17⟩:=zBp (xs:=[.int (9+mo),.int 8]) h2;rw [<-e17];have R17:=R16.more k17 g17;refine ⟨_,rfl,_,_,rfl,rfl,(by walk_at "ln"),fun a3 h3=>?_⟩;obtain ⟨H18,e18,k18,g18⟩:=zBp (xs:=[.int (9+mo),.int 7]) h3;rw [<-e18];have R18:=R17.more k18 g18;refine ⟨(by walk_at "ln"),fun b hb=>?_⟩;have kb:Kp [] H18 (upd H18 b (.lst [.ref a1,.ref a2,.ref a3])):=Kp.new Kp.refl hb;have gb:upd H18 b (.lst [.ref a1,.ref a2,.ref a3]) b=some (.lst [.ref a1,.ref a2,.ref a3]):=upd_same;generalize upd H18 b (.lst [.ref a1,.ref a2,.ref a3])=H19 at kb gb;have g19:=(((k16.trans k17).trans k18).trans kb) d _ g15 (by simp);have K19:=((((k15.trans k16).trans k17).trans k18).trans kb);refine ⟨_,_,_,_,rfl,rfl,g19,gb,by rw [qAD,qAM];show ts1'.length+3<=_;lia,fun d2 hd2=>?_⟩;have k20:Kp [] H19 (upd H19 d2 (.lst ((ts1'.map fun t=>V.ref t.2)++[.ref a1,.ref a2,.ref a3]))):=Kp.new Kp.refl hd2;have fd2:Fre H14 d2:=K19.fre hd2 (by simp);have npd:d2≠p:=by obtain ⟨a,b,e,_⟩:=P14;exact (ne_fre fd2 e).symm
     refine key _ _ ⟨d2,_,ts1'++[((9+mo,9),a1)]++[((9+mo,8),a2)]++[((9+mo,7),a3)],rfl,k14.trans ((K19.trans k20).weak (by simp)),P14.kp (K19.trans k20) (by simp),⟨?_,(R18.kp0 kb).kp0 k20⟩,k14.fre fd2 (nm1 npd),?_,?_,fun t ht=>?_⟩
     ·rw [upd_same];simp
     ·simp
     ·simp;lia
     ·rcases qAQ.mp ht with z| z
      ·rcases qAQ.mp z with z| z
       ·rcases qAQ.mp z with z| z
        ·exact ok14 t z
        ·rw [qAP.mp z];exact pok_new (by lia) (by lia) (by decide) (by decide)
       ·rw [qAP.mp z];exact pok_new (by lia) (by lia) (by decide) (by decide)
      ·rw [qAP.mp z];exact pok_new (by lia) (by lia) (by decide) (by decide)
    ·rw [qAB (by rw [qCC];exact c)];refine key _ _ ⟨c0,o3,ts1,rfl,k14,P14,I14,fc,by lia,by lia,fun t ht=>?_⟩;rcases cs with ⟨_,z⟩| ⟨z,_⟩
     ·rw [z] at ht;exact ok14 t ht
     ·lia
end
theorem Kp.seqU {K:PySem.W.Frag} {a:Addr} {xs:List V} (k:Kp [] H H') (h:SqL K H a xs):SqL K H' a xs:=by
 rcases h with (h| ⟨o,h⟩)| h
 ·exact .inl (.inl (k _ _ h (by simp)))
 ·exact .inl (.inr ⟨o,k _ _ h (by simp)⟩)
 ·exact .inr h
theorem blkF_len (rs:List (List Str)) (q:Str->Int):∀(f:Nat) (p:Int),(blkF rs q f p).length<=f
 | 0,p=>by unfold blkF;simp
 | f+1,p=>by
  unfold blkF;split
  ·exact qAd _
  ·rw [qAe];exact Nat.succ_le_succ (blkF_len rs q f _)
def Pile (H:Hp) (c t:Addr):Prop:=∃(l m:Addr) (ns:List Str) (qs:List (List Str×Addr)) (r:Str->Nat),l≠c/\m≠c/\H t=some (.tup [.ref l,.ref m])/\Txs H l ns/\Ords H m qs/\Good ns qs r
theorem Pile.kp {M:List Addr} (h:Pile H c t) (k:Kp M H H') (off:∀a o,H a=some o->(∀ps,o≠.tbl ps)->a∉M):Pile H' c t:=by
 obtain ⟨l,m,ns,qs,r,n1,n2,ht,hl,hm,G⟩:=h;exact ⟨l,m,ns,qs,r,n1,n2,k _ _ ht (off _ _ ht fun _ z=>nomatch z),k _ _ hl (off _ _ hl fun _ z=>nomatch z),⟨k _ _ hm.top (off _ _ hm.top fun _ z=>nomatch z),fun q hq=>k _ _ (hm.row q hq) (off _ _ (hm.row q hq) fun _ z=>nomatch z),hm.two⟩,G⟩
theorem Pile.kp0 (h:Pile H c t) (k:Kp [] H H'):Pile H' c t:=h.kp k fun _ _ _ _=>by simp
theorem Pile.put {xs:List V} (h:Pile H c t) (hc:H c=some (.lst xs)) (k:Kp [c] H H'):Pile H' c t:=by
 obtain ⟨l,m,ns,qs,r,n1,n2,ht,hl,hm,G⟩:=h;exact ⟨l,m,ns,qs,r,n1,n2,k _ _ ht (nm1 (zBw ht hc fun z=>nomatch z)),k _ _ hl (nm1 n1),⟨k _ _ hm.top (nm1 n2),fun q hq=>k _ _ (hm.row q hq) (nm1 (zBw (hm.row q hq) hc fun z=>nomatch z)),hm.two⟩,G⟩
section
def spLaw (K:PySem.W.Frag) (Pt Pu:Addr):Sp:=fun vs H Q _=>∃(a:Addr) (ns:List Int),vs=[.ref a]/\SqL K H a (ns.map V.int)/\ns.length<=63/\TabA H Pt/\TabU H Pu/\∀H',Q (.bl true) H'
abbrev s_law:Stmt:=top 54
theorem sc_law:FnScope ["_law_script", "_law_drawn", "_law_k", "_law_names_here", "_law_orders"] ["_law_script"] (zAd s_law):=fnS
theorem ok_law {Pt Pu:Addr} {fd:FuncData} (F:Fun K "law" "law" s_law f fd) (nPU:Pt≠Pu) (T:Txt K mg) (C_cell:Cal P w K mg base "_law_cell" 1 ["_law_script", "_law_k"] (spCell K)) (C_purse:Cal P w K mg base "_law_purse" 1 ["_law_cell_here", "_law_k"] spPurse)
  (C_planted:Cal P w K mg base "_law_planted" 3 ["_law_purse_here"] spPlanted) (C_jobs:Cal P w K mg base "_law_jobs" 3 ["_law_purse_here", "_law_most"] spLJobs) (C_two_plan:Cal P w K mg base "two_plan" 6 ["jobs"] (spTwo C Pt Pu))
  (C_two_right:Cal P w K mg base "_law_two_right" 3 ["_law_names_here", "_law_orders", "_law_found"] zH2) (M_Jobs:Mkr P w K mg base C "Jobs" 4 ["self", "names", "orders"] (spInit C)):FnOk P w K mg base CX0 7 f fd ["_law_script"] (spLaw K Pt Pu):=by
 refine F.ok sc_law (fun vs H Q E h=>?_) (fun cdv A outer s H vs Q E hr h=>?_)
 ·obtain ⟨a,ns,rfl,_⟩:=h;rfl
 ·obtain ⟨sc,is,rfl,hS,hlen,T0,U0,k⟩:=h;have hr1:=hr.mono (j:=1) (by decide);have hr3:=hr.mono (j:=3) (by decide);have hr5:=hr.mono (j:=5) (by decide)
  refine ⟨_,(zAc (psS (i:=1) sc_law.nd (zA7 (zAa (zAg C_planted hr3 rfl (zAa (zAg C_purse hr1 rfl (zAa (zAg C_cell hr1 rfl (zAa (pv 0) (zAa zAf zAb))) (zAa zAf zAb))) zAb)) zAb)))
   (zAc (zAu qAg rfl (zCp rfl T.z_range (zAa (zAh (call_max2 rfl) (by rfl) T.z_max bo_max (zAa zAf (zAa (zAh (call_min2 rfl) (by rfl) T.z_min bo_min (zAa zAf (zAa (zAh zAl (by rfl) T.z_len zCe (zAa (pv 0) zAb)) zAb))) zAb))) zAb)) (pgN (i:=2) sc_law.nd)
    (zAe (zAr (zDm qAw qBj qBk zBl (pv 1) (zAa (zAg C_jobs hr3 rfl (zAa (zAg C_purse hr1 rfl (zAa (zAg C_cell hr1 rfl (zAa (pv 0) (zAa (pv 2) zAb))) (zAa (pv 2) zAb))) (zAa zAf zAb))) zAb)))))
   (zAc (zAu qAg rfl (zAk (pv 1)) (zH8 rfl (zA1 (pgN (i:=3) sc_law.nd) (zA1 (pgN (i:=4) sc_law.nd) zD4)))
    (zAe (zCc (zCw (zCg (zAg C_two_right hr3 rfl (zAa (pv 3) (zAa (pv 4) (zAa (zAg C_two_plan hr rfl (zAa (pe_makeC M_Jobs hr5 rfl (zAa (zA3 zBt (by rfl) T.z_list zCr (zAa (pv 3) zAb)) (zAa (zA3 zBt (by rfl) T.z_list zCr (zAa (pv 4) zAb)) zAb))) zAb)) zAb))))))
     (zAe zAy)
     zAq)))
   (zAe (zAo pe_bl))))),?_⟩
  refine ⟨_,rfl,sc,is,0,rfl,hS,by decide,fun c=>?_⟩;refine ⟨c,9,rfl,by decide,by decide,fun p H1 fp P1 k1=>?_⟩;refine ⟨p,rfl,P1,fun t l m ns qs r H2 ht ft hl hm G K2=>?_⟩;have k2:Kp [] H H2:=Kp.drop k1 fp K2;refine ⟨(by walk_at "ln"),fun c0 hc0=>?_⟩;have f0:Fre H2 c0:=hc0;have k3:Kp [] H2 (upd H2 c0 (.lst [.ref t])):=Kp.new Kp.refl f0;have g3:upd H2 c0 (.lst [.ref t]) c0=some (.lst ([t].map V.ref)):=upd_same;have pl0:Pile H2 c0 t:=⟨l,m,ns,qs,r,ne_fre f0 hl,ne_fre f0 hm.top,ht,hl,hm,G⟩;generalize upd H2 c0 (.lst [.ref t])=H3 at k3 g3;have fH:Fre H c0:=k2.fre f0 (by simp);have pl3:=pl0.kp0 k3;have k03:=k2.trans k3;clear pl0 k3 K2 k1 P1 fp;refine ⟨_,rfl,_,_,rfl,.inl (Kp.seqU k03 hS),_,_,rfl,_,_,rfl,_,rfl,?_,?_,?_⟩
  ·rw [qAD];split<;>split<;>lia
  ·rw [qAD];split<;>split<;>lia
  refine zB3 (lo:=0) (fun i σ H2=>∃(o2:Option V) (ts:List Addr),σ=[some (.ref sc),some (.ref c0),o2,none,none]/\Kp [] H H2/\H2 c0=some (.lst (ts.map V.ref))/\ts.length=i+1/\∀t∈ts,Pile H2 c0 t) ⟨none,[t],rfl,k03,g3,rfl,fun u hu=>by rw [qAP.mp hu];exact pl3⟩ ?_ ?_
  ·rintro i σ H4 hi ⟨o2,ts,rfl,k4,g4,e4,pl4⟩
   have hi4:i<4:=by
    rw [qAD] at hi;split at hi<;>split at hi<;>lia
   refine ⟨_,rfl,.inl ⟨rfl,_,SqL.of g4⟩,?_⟩;refine ⟨_,rfl,_,rfl,sc,is,_,rfl,Kp.seqU k4 hS,by lia,fun c=>?_⟩;refine ⟨_,rfl,c,_,rfl,by lia,by lia,fun p H5 fp P5 k5=>?_⟩;refine ⟨p,20,rfl,by decide,by decide,P5,fun t l m ns qs r H6 few _ ht ft fl fm fq hl hm G _ K6=>?_⟩;have k6:Kp [] H4 H6:=Kp.drop k5 fp K6;have g6:=k6 c0 _ g4 (by simp);have g5:=k5 c0 _ g4 (by simp);refine ⟨_,_,_,rfl,rfl,g6,by rw [qAD,qAM];lia,?_⟩;have k7:Kp [c0] H6 (upd H6 c0 (.lst (ts.map V.ref++[.ref t]))):=Kp.put Kp.refl (by simp);refine ⟨_,ts++[t],rfl,zHh (k4.trans k6) fH k7,by rw [upd_same,qAU];rfl,by rw [qAf,qBN];lia,fun u hu=>?_⟩;rcases qAQ.mp hu with z| z
   ·exact ((pl4 u z).kp0 k6).put g6 k7
   ·rw [qAP.mp z];exact Pile.put ⟨l,m,ns,qs,r,(ne_fre fl g5).symm,(ne_fre fm g5).symm,ht,hl,hm,G⟩ g6 k7
  ·rintro σ H1 ⟨o2,ts,rfl,k1,g1,_,pl⟩;clear pl3 g3 k03 f0 hc0 hl hm G ht ft k2 ns qs r l m c p t H2 H3;have T1:=T0.kp k1;have U1:TabU H1 Pu:=zE8 U0 k1 (by simp) (fun _ _ _ _ _=>by simp);refine ⟨_,rfl,_,rfl,⟨_,SqL.of g1⟩,zAv (xs:=ts.map V.ref) (fun i σ H2=>(∃o2 o3 o4:Option V,σ=[some (.ref sc),some (.ref c0),o2,o3,o4])/\Kp [Pt,Pu] H1 H2/\TabA H2 Pt/\TabU H2 Pu) ⟨⟨_,_,_,rfl⟩,Kp.refl,T1,U1⟩ (fun i σ H2 _ ⟨_,k2,_⟩=>SqL.of (k2 c0 _ g1 (nm2 (zBk T1.tbl g1 fun _ z=>nomatch z) (zBk (zEt U1) g1 fun _ z=>nomatch z)))) ?_ (fun _ _ _=>k _)⟩;rintro i v σ H2 hv ⟨⟨o2,o3,o4,rfl⟩,k2,T2,U2⟩;obtain ⟨t,mt,rfl⟩:=qAa.mp (qAL hv);have off1:∀a o,H1 a=some o->(∀ps,o≠.tbl ps)->a∉[Pt,Pu]:=fun a o h no=>nm2 (zBk T1.tbl h no) (zBk (zEt U1) h no);obtain ⟨l,m,ns,qs,r,_,_,ht,hl,hm,G⟩:=(pl t mt).kp k2 off1;refine ⟨_,_,rfl,.inl (.inl ht),rfl,_,_,rfl,_,_,rfl,rfl,?_⟩;refine ⟨_,rfl,_,rfl,_,rfl,_,_,rfl,.inl (SqL.of hl),fun a1 ha1=>?_⟩;have fa1:Fre H2 a1:=ha1;have k6:Kp [] H2 (upd H2 a1 (.lst (ns.map V.str))):=Kp.new Kp.refl fa1;have h6:Txs (upd H2 a1 (.lst (ns.map V.str))) a1 ns:=upd_same;generalize upd H2 a1 (.lst (ns.map V.str))=H6 at k6 h6;have hm6:=hm.kp k6 (by simp) (by simp);refine ⟨_,rfl,_,_,rfl,.inl (SqL.of hm6.top),fun a2 ha2=>?_⟩;have fa2:Fre H6 a2:=ha2;have k7:Kp [] H6 (upd H6 a2 (.lst (qs.map fun q=>V.ref q.2))):=Kp.new Kp.refl fa2;have h7:upd H6 a2 (.lst (qs.map fun q=>V.ref q.2)) a2=some (.lst (qs.map fun q=>V.ref q.2)):=upd_same;generalize upd H6 a2 (.lst (qs.map fun q=>V.ref q.2))=H7 at k7 h7;have hm7:=hm6.kp k7 (by simp) (by simp);have h17:Txs H7 a1 ns:=k7 _ _ h6 (by simp);refine fun x dx hx hdx nxd=>?_;have fx:Fre H7 x:=hx;have k8:Kp [] H7 (upd (upd H7 dx (.own x)) x (.ins C dx [])):=Kp.new (Kp.new Kp.refl hdx) fx;have hx8:(upd (upd H7 dx (.own x)) x (.ins C dx [])) x=some (.ins C dx []):=upd_same;generalize upd (upd H7 dx (.own x)) x (.ins C dx [])=H8 at k8 hx8 ⊢;refine ⟨x,dx,a1,a2,ns,qs,r,rfl,hx8,k8 a1 _ h17 (by simp),⟨k8 a2 _ h7 (by simp),fun q hq=>k8 _ _ (hm7.row q hq) (by simp),hm7.two⟩,G,fun J H9 A9 N9 ens ezs K9=>⟨rfl,?_⟩⟩;subst ens;have k29:Kp [] H2 H9:=(k6.trans k7).trans (Kp.drop k8 fx K9);have T9:=T2.kp k29;have U9:TabU H9 Pu:=zE8 U2 k29 (by simp) (fun _ _ _ _ _=>by simp);have OJ:=ord_of A9 G ezs hm.two;refine ⟨x,J,qs,r,rfl,A9,G,ezs,OJ,T9,U9,nPU,fun t2 pl bl as bs ws H10 k10 T10 U10 _ ht2 pm pw Rp Rb=>?_⟩;have off:∀a o,H9 a=some o->(∀ps,o≠.tbl ps)->a∉[Pt,Pu]:=fun a o h no=>nm2 (zBk T9.tbl h no) (zBk (zEt U9) h no);have hl9:Txs H9 l J.ns:=k29 _ _ hl (by simp);have hm9:=hm.kp k29 (by simp) (by simp);have hl10:Txs H10 l J.ns:=k10 _ _ hl9 (off _ _ hl9 fun _ z=>nomatch z);have hm10:Ords H10 m qs:=⟨k10 _ _ hm9.top (off _ _ hm9.top fun _ z=>nomatch z),fun q hq=>k10 _ _ (hm9.row q hq) (off _ _ (hm9.row q hq) fun _ z=>nomatch z),hm.two⟩;have pl20:(rsT J ws).length<=20:=qAW (zHa J 2 ws.length [] ws) (by rw [pm.length_eq];exact G.few)
   have bl20:(blks (rsT J ws) (rk (zFz J))).length<=20:=by
    unfold blks;rw [qCf];exact qAW (blkF_len _ _ _ _) pl20
   refine ⟨l,m,t2,pl,bl,J,qs,r,as,bs,_,_,rfl,hl10,hm10,G,fun n hn x=>S_way A9 G ezs hn,ht2,Rp.r,Rb.r,pl20,bl20,zDa OJ pm,blks_ok OJ (rk_b OJ) pm pw,fun H11 k11=>?_⟩;refine ⟨_,rfl,iteF ?_⟩;exact ⟨⟨_,_,_,rfl⟩,((k2.trans (k29.weak (by simp))).trans k10).trans (k11.weak (by simp)),T10.kp k11,zE8 U10 k11 (by simp) (fun _ _ _ _ _=>by simp)⟩
end
def Hd (K:PySem.W.Frag) (x q:Str) (st:Stmt) (f:Addr):Prop:=∃oc od kV dc pm an cd ct sl,K.lookup f=some ⟨oc,od,.func (PySem.W.fnOf x q (zBe st) (zA6 st) (zAd st) .none kV dc pm an cd ct),sl⟩/\PySem.W.codeIn K cd q=true/\PySem.W.keepIn K (.ref f)=true
def Dft (K:PySem.W.Frag) (x:Str) (st:Stmt) (f:Addr):Prop:=PySem.W.nsIn K mainGlobals x=some (some (.ref f))/\Hd K x x st f
def nnB (K:PySem.W.Frag) (x:Str):Bool:=match PySem.W.nsIn K mainGlobals x with
 | some none=>true
 | _=>false
theorem nnB_of {K:PySem.W.Frag} {x:Str} {h:Heap} {mg:Str->Option Value} (X:K.In h) (G:h.Ns mainGlobals mg) {xs:List Str} (a:xs.all (nnB K)=true) (m:x∈xs):mg x=none:=by
 have e:=qA6.mp a x m;unfold nnB at e;split at e
 ·rename_i e2;exact PySem.W.mg_none_of X G e2
 ·cases e
theorem Hd.to {K:PySem.W.Frag} {x q:Str} {st:Stmt} (t:Hd K x q st f):∃fd,Fun K x q st f fd:=by
 obtain ⟨_,_,_,_,_,_,_,_,_,l,c,k⟩:=t;exact ⟨_,fun_mk l c k⟩
section
variable {K:PySem.W.Frag} {x q a b c d g:Str} {st:Stmt} {f:Addr} {fd:FuncData} (F:Fun K x q st f fd)
include F
theorem _root_.L2.Fun.b1 (h:∀(kV doc pm:Value) (an:Option Addr) (cdv ct u:Value),bindArgs (PySem.W.fnOf x q (zBe st) (zA6 st) (zAd st) .none kV doc pm an cdv ct) ⟨[u],[]⟩=pure [(a,u)]:=by intros;rfl):zD0 K fd [a] []:=F.binds fun kV doc pm an cdv ct us hl=>match us,hl with| [u],_=>h kV doc pm an cdv ct u
theorem _root_.L2.Fun.b2 (h:∀(kV doc pm:Value) (an:Option Addr) (cdv ct u v:Value),bindArgs (PySem.W.fnOf x q (zBe st) (zA6 st) (zAd st) .none kV doc pm an cdv ct) ⟨[u,v],[]⟩=pure [(a,u),(b,v)]:=by intros;rfl):zD0 K fd [a,b] []:=F.binds fun kV doc pm an cdv ct us hl=>match us,hl with| [u,v],_=>h kV doc pm an cdv ct u v
theorem _root_.L2.Fun.b3 (h:∀(kV doc pm:Value) (an:Option Addr) (cdv ct u v w:Value),bindArgs (PySem.W.fnOf x q (zBe st) (zA6 st) (zAd st) .none kV doc pm an cdv ct) ⟨[u,v,w],[]⟩=pure [(a,u),(b,v),(c,w)]:=by intros;rfl):zD0 K fd [a,b,c] []:=F.binds fun kV doc pm an cdv ct us hl=>match us,hl with| [u,v,w],_=>h kV doc pm an cdv ct u v w
theorem _root_.L2.Fun.b4 (h:∀(kV doc pm:Value) (an:Option Addr) (cdv ct u v w z:Value),bindArgs (PySem.W.fnOf x q (zBe st) (zA6 st) (zAd st) .none kV doc pm an cdv ct) ⟨[u,v,w,z],[]⟩=pure [(a,u),(b,v),(c,w),(d,z)]:=by intros;rfl):zD0 K fd [a,b,c,d] []:=F.binds fun kV doc pm an cdv ct us hl=>match us,hl with| [u,v,w,z],_=>h kV doc pm an cdv ct u v w z
end
section
variable {K:PySem.W.Frag} {mg:Str->Option Value} {x q:Str} {st:Stmt} {f:Addr} {fd:FuncData} {ps:List Str} {sp:Sp} {k:Nat} (P:Program) (w:World) (base:Heap)
theorem cal (g:mg x=some (.ref f)) (F:Fun K x q st f fd) (b:zD0 K fd ps []) (h:FnOk P w K mg base CX0 k f fd ps sp):Cal P w K mg base x k ps sp:=⟨f,fd,g,F.kp,b,h⟩
def Dfm (K:PySem.W.Frag) (C:Addr) (m q:Str) (st:Stmt) (f:Addr):Prop:=PySem.W.findIn K (.ref C) m=some (some (.ref f))/\PySem.W.isFn K (.ref f)=true/\Hd K m q st f
theorem mth {C:Addr} {m:Str} (t:Dfm K C m q st f) (F:Fun K m q st f fd) (b:zD0 K fd ps []) (h:FnOk P w K mg base CX0 k f fd ps sp):Mth P w K mg base C m k ps sp:=⟨f,fd,⟨t.1,t.2.1,F.kp⟩,b,h⟩
end
def DftL (K:PySem.W.Frag) (x:Str) (st:Stmt) (f c:Addr):Prop:=PySem.W.nsIn K mainGlobals x=some (some (.ref f))/\∃oc od kV dc pm an ct sl,K.lookup f=some ⟨oc,od,.func (PySem.W.fnOf x x (zBe st) (zA6 st) (zAd st) .none kV dc pm an (.ref c) ct),sl⟩/\PySem.W.codeIn K (.ref c) x=true/\PySem.W.keepIn K (.ref f)=true
theorem all_mk {c Pt cU Pu:Addr} {l:PySem.W.OpenLaw} {w:World} {K:PySem.W.Frag} {h:Heap} {mg:Str->Option Value} {fa:Addr} (X:K.In h) (G:h.Ns mainGlobals mg) (hfa:mg "law" = some (.ref fa)) {C f0 f1 f2 f3 f4 f5 f6 f7 f8 f9 f10 f11 f12 f13 f14 f15 f16 f17 f18 f19 f20 f21 f22 f23 f24 f25 f26 f27 f28 f29 f30 f31 f32 f33 f34 f35 f36 f37 f38:Addr} {t_LONGEST_NAME t_MOST_JOBS:Tok}
  (aC:PySem.W.nsIn K mainGlobals "Jobs" = some (some (.ref C)))
  (l0:Dft K "_law_take" s_take f0)
  (l1:Dft K "_law_purse" s_purse f1)
  (l2:Dft K "_law_cell" s_cell f2)
  (l3:Dft K "is_name" zFb f3)
  (l4:Dft K "is_one_of" zDh f4)
  (l5:Dft K "check_job" zEy f5)
  (l6:Dft K "check_names" zDk f6)
  (l7:Dft K "check_parts" zDj f7)
  (l8:Dft K "told_ahead" zD2 f8)
  (l9:Dft K "has_all" zFc f9)
  (l10:Dft K "joined" zIq f10)
  (l11:Dft K "all_ahead" zCn f11)
  (l12:Dfm K C "__init__" "Jobs.__init__" zB1 f12)
  (l13:Dfm K C "names" "Jobs.names" zD3 f13)
  (l14:Dfm K C "behind" "Jobs.behind" zCh f14)
  (l15:Dfm K C "ahead" "Jobs.ahead" zCu f15)
  (l16:Dfm K C "has_between" "Jobs.has_between" zA8 f16)
  (l17:Dfm K C "straight" "Jobs.straight" zB0 f17)
  (l18:Dft K "falling_ranks" zBz f18)
  (l19:DftL K "ranks" zCz f19 c)
  (l20:Dft K "is_whole" zFr f20)
  (l21:Dft K "check_benches" zCm f21)
  (l22:Dft K "is_ready" zEk f22)
  (l23:Dft K "take" s_ptake f23)
  (l24:Dft K "check_row" zDi f24)
  (l25:Dft K "listed" zFa f25)
  (l26:Dft K "place_ahead" zDg f26)
  (l27:Dft K "joined_turns" zC0 f27)
  (l28:Dft K "blocks_of" zEz f28)
  (l29:DftL K "two_plan" zBf f29 cU)
  (l30:Dft K "_law_names" zIp f30)
  (l31:Dft K "_law_pairs" s_pairs f31)
  (l32:Dft K "_law_jobs" s_jobs f32)
  (l33:Dft K "_law_behind" zIr f33)
  (l34:Dft K "_law_is_right" zEj f34)
  (l35:Dft K "_law_shows" zGy f35)
  (l36:Dft K "_law_two_right" zEx f36)
  (l37:Dft K "_law_planted" zE9 f37)
  (l38:Dft K "law" s_law f38)
  (pg:PySem.W.plainGet K C Str.empty=true)
  (hd:PySem.W.hasDictIn K C=true)
  (po:PySem.W.plainOver K C=true)
  (sa:PySem.W.findIn K (.ref C) "__setattr__" = some (some (.builtin "object.__setattr__")))
  (mk:PySem.W.makesIn K C=true)
  (kc:PySem.W.keepIn K (.ref C)=true)
  (n_row:PySem.W.findIn K (.ref C) "row" = some none)
  (n_pairs:PySem.W.findIn K (.ref C) "pairs" = some none)
  (n_above:PySem.W.findIn K (.ref C) "above" = some none)
  (zz:List.all (α:=Str) ["len", "max", "range", "int", "str", "list", "all", "min", "dict", "bool", "abs", "reversed", "enumerate", "any", "zip", "sum", "isinstance", "sorted", "set", "tuple"] (nnB K)=true)
  (n_Pt_Pu:Pt≠Pu)
  (e_LONGEST_NAME:PySem.W.nsIn K mainGlobals "LONGEST_NAME" = some (some (.int 8 t_LONGEST_NAME)))
  (e_MOST_JOBS:PySem.W.nsIn K mainGlobals "MOST_JOBS" = some (some (.int 20 t_MOST_JOBS)))
  :∃fd:FuncData,(∀(s:Shared) (v:Value),BindsTo s fd ⟨[v],[]⟩ [("_law_script",v)])/\∀base:Heap,K.In base->base.Ns mainGlobals mg->zHp mg base->(∀q∈[(c,Pt),(cU,Pu)],PySem.W.CodeHd base q.1 q.2)->FnOk l.prog w K mg base CX0 7 fa fd ["_law_script"] (spLaw K Pt Pu):=by
 have z:∀x,x∈_->mg x=none:=fun x m=>nnB_of X G zz m;have m:=fun (x:Str) (v:Value) (e:PySem.W.nsIn K mainGlobals x=some (some v))=>PySem.W.mg_of X G e;obtain ⟨a,_,_,kV,dc,pm,an,cd,ct,_,u,v,k⟩:=l38
 cases hfa.symm.trans (m _ _ a)
 have T:Txt K mg:={z_len:=z _ (by decide),z_max:=z _ (by decide),z_range:=z _ (by decide),z_int:=z _ (by decide),z_str:=z _ (by decide),z_list:=z _ (by decide),z_all:=z _ (by decide),z_min:=z _ (by decide),z_dict:=z _ (by decide),z_bool:=z _ (by decide),z_abs:=z _ (by decide),z_reversed:=z _ (by decide),z_enumerate:=z _ (by decide),z_any:=z _ (by decide),z_zip:=z _ (by decide),z_sum:=z _ (by decide),z_isinstance:=z _ (by decide),z_sorted:=z _ (by decide),z_set:=z _ (by decide),z_tuple:=z _ (by decide),c_LONGEST_NAME:=⟨_,m _ _ e_LONGEST_NAME⟩,c_MOST_JOBS:=⟨_,m _ _ e_MOST_JOBS⟩};have U:JC K mg C:=⟨⟨pg,hd,po,sa⟩,n_row,n_pairs,n_above,m _ _ aC⟩;obtain ⟨_,F0⟩:=l0.2.to;obtain ⟨_,F1⟩:=l1.2.to;obtain ⟨_,F2⟩:=l2.2.to;obtain ⟨_,F3⟩:=l3.2.to;obtain ⟨_,F4⟩:=l4.2.to;obtain ⟨_,F5⟩:=l5.2.to;obtain ⟨_,F6⟩:=l6.2.to;obtain ⟨_,F7⟩:=l7.2.to;obtain ⟨_,F8⟩:=l8.2.to;obtain ⟨_,F9⟩:=l9.2.to;obtain ⟨_,F10⟩:=l10.2.to;obtain ⟨_,F11⟩:=l11.2.to;obtain ⟨_,F12⟩:=l12.2.2.to;obtain ⟨_,F13⟩:=l13.2.2.to;obtain ⟨_,F14⟩:=l14.2.2.to;obtain ⟨_,F15⟩:=l15.2.2.to;obtain ⟨_,F16⟩:=l16.2.2.to;obtain ⟨_,F17⟩:=l17.2.2.to;obtain ⟨_,F18⟩:=l18.2.to;obtain ⟨a19,_,_,_,_,_,_,_,_,u19,v19,k19⟩:=l19;have F19:=fun_mk (st:=zCz) u19 v19 k19;obtain ⟨_,F20⟩:=l20.2.to;obtain ⟨_,F21⟩:=l21.2.to;obtain ⟨_,F22⟩:=l22.2.to;obtain ⟨_,F23⟩:=l23.2.to;obtain ⟨_,F24⟩:=l24.2.to;obtain ⟨_,F25⟩:=l25.2.to;obtain ⟨_,F26⟩:=l26.2.to;obtain ⟨_,F27⟩:=l27.2.to;obtain ⟨_,F28⟩:=l28.2.to;obtain ⟨a29,_,_,_,_,_,_,_,_,u29,v29,k29⟩:=l29;have F29:=fun_mk (st:=zBf) u29 v29 k29;obtain ⟨_,F30⟩:=l30.2.to;obtain ⟨_,F31⟩:=l31.2.to;obtain ⟨_,F32⟩:=l32.2.to;obtain ⟨_,F33⟩:=l33.2.to;obtain ⟨_,F34⟩:=l34.2.to;obtain ⟨_,F35⟩:=l35.2.to;obtain ⟨_,F36⟩:=l36.2.to;obtain ⟨_,F37⟩:=l37.2.to;have F38:=fun_mk (st:=s_law) u v k;refine ⟨PySem.W.fnOf "law" "law" (zBe s_law) (zA6 s_law) (zAd s_law) .none kV dc pm an cd ct,fun s v=>.of_eq rfl,fun B _ _ BL CH=>?_⟩;have C_take:=cal l.prog w B (m _ _ l0.1) F0 F0.b2 (ok_take F0);have C_purse:=cal l.prog w B (m _ _ l1.1) F1 F1.b2 (ok_purse F1 T);have C_cell:=cal l.prog w B (m _ _ l2.1) F2 F2.b2 (ok_cell F2 T);have C_is_name:=cal l.prog w B (m _ _ l3.1) F3 F3.b1 (ok_is_name F3 T);have C_is_one_of:=cal l.prog w B (m _ _ l4.1) F4 F4.b2 (ok_is_one_of F4 T);have C_one_of:=cal l.prog w B (m _ _ l4.1) F4 F4.b2 (ok_one_of F4 T);have C_check_job:=cal l.prog w B (m _ _ l5.1) F5 F5.b2 (ok_check_job F5 T C_is_one_of);have C_check_names:=cal l.prog w B (m _ _ l6.1) F6 F6.b1 (zHu F6 T C_is_name);have C_check_parts:=cal l.prog w B (m _ _ l7.1) F7 F7.b2 (zHt F7 T C_check_job);have C_told_ahead:=cal l.prog w B (m _ _ l8.1) F8 F8.b2 (zIv F8);have C_has_all:=cal l.prog w B (m _ _ l9.1) F9 F9.b2 (ok_has_all F9 T);have C_joined:=cal l.prog w B (m _ _ l10.1) F10 F10.b2 (ok_joined F10);have C_all_ahead:=cal l.prog w B (m _ _ l11.1) F11 F11.b2 (ok_all_ahead F11 T C_has_all C_joined);have M_Jobs:Mkr l.prog w K mg B C "Jobs" 4 ["self", "names", "orders"] (spInit C):=⟨f12,_,⟨mk,l12.1,l12.2.1,kc⟩,m _ _ aC,F12.b3,(ok_Jobs_init F12 T U C_check_names C_check_parts C_all_ahead C_told_ahead)⟩;have M_names:=mth l.prog w B l13 F13 F13.b1 (zIw F13 T U);have M_behind:=mth l.prog w B l14 F14 F14.b2 (zHv F14 T U C_check_job);have M_ahead:=mth l.prog w B l15 F15 F15.b2 (zIx F15 T U C_check_job);have M_has_between:=mth l.prog w B l16 F16 F16.b3 (zE1 F16 T U);have M_straight:=mth l.prog w B l17 F17 F17.b2 (zGf F17 T U M_behind M_has_between);have C_falling:=cal l.prog w B (m _ _ l18.1) F18 F18.b2 (zGd F18 T);have C_ranks:=cal l.prog w B (m _ _ a19) F19 F19.b1 (ok_ranks u19 v19 T U BL (CH (c,Pt) (by simp)) M_names M_straight C_has_all C_falling);have C_is_whole:=cal l.prog w B (m _ _ l20.1) F20 F20.b1 (ok_is_whole F20 T);have C_check_benches:=cal l.prog w B (m _ _ l21.1) F21 F21.b1 (zGe F21 C_is_whole);have C_is_ready:=cal l.prog w B (m _ _ l22.1) F22 F22.b3 (ok_is_ready F22 T U M_ahead);have C_ptake:=cal l.prog w B (m _ _ l23.1) F23 F23.b2 (ok_ptake F23);have C_check_row:=cal l.prog w B (m _ _ l24.1) F24 F24.b2 (ok_check_row F24 T C_one_of);have C_listed:=cal l.prog w B (m _ _ l25.1) F25 F25.b3 (ok_listed F25 T U M_names C_check_benches C_check_row C_is_ready C_ptake);have C_place_ahead:=cal l.prog w B (m _ _ l26.1) F26 F26.b3 (zHs F26 T);have C_joined_turns:=cal l.prog w B (m _ _ l27.1) F27 F27.b1 (zG4 F27);have C_blocks_of:=cal l.prog w B (m _ _ l28.1) F28 F28.b2 (ok_blocks_of F28 T C_place_ahead C_joined_turns);have C_two_plan:=cal l.prog w B (m _ _ a29) F29 F29.b1 (ok_two_plan u29 v29 T U BL (CH (cU,Pu) (by simp)) C_ranks M_names C_listed C_blocks_of);have C_lnames:=cal l.prog w B (m _ _ l30.1) F30 F30.b2 (ok_names F30 T C_take);have C_pairs:=cal l.prog w B (m _ _ l31.1) F31 F31.b4 (ok_pairs F31 T C_take);have C_jobs:=cal l.prog w B (m _ _ l32.1) F32 F32.b2 (ok_jobs F32 T C_take C_lnames C_pairs);have C_lbehind:=cal l.prog w B (m _ _ l33.1) F33 F33.b2 (ok_behind F33 T);have C_is_right:=cal l.prog w B (m _ _ l34.1) F34 F34.b4 (ok_is_right F34 T);have C_shows:=cal l.prog w B (m _ _ l35.1) F35 F35.b4 (ok_shows F35 T);have C_two_right:=cal l.prog w B (m _ _ l36.1) F36 F36.b3 (ok_two_right F36 T C_lbehind C_is_right C_shows);have C_planted:=cal l.prog w B (m _ _ l37.1) F37 F37.b1 (ok_planted F37 T C_take C_lnames);exact ok_law F38 n_Pt_Pu T C_cell C_purse C_planted C_jobs C_two_plan C_two_right M_Jobs
theorem walk {c Pt cU Pu:Addr} {l:PySem.W.OpenLaw} {q:Program} {loose:List Str} {XP:(Str->Option Value)->Heap->Prop} {YP:World->Heap->Prop} {d:DefRec} {K:Params->PySem.W.Frag} (hn:l.most=some 63) (hdf:d.params.defaults=[])
  (hY:∀(w:World) (h:Heap),YP w h->(K w.params).In h) (hT:∀(w:World) (h:Heap),YP w h->PySem.W.TabsAt [(c,Pt),(cU,Pu)] h) (hKT:∀(w:World),∀q∈[(c,Pt),(cU,Pu)],(K w.params).lookup q.2=none)
  (F:∀(w:World) (mg:Str->Option Value) (fa:Addr) (h:Heap),(K w.params).In h->h.Ns mainGlobals mg->mg d.name=some (.ref fa) ->
   ∃fd:FuncData,(∀(s:Shared) (u:Value),BindsTo s fd ⟨[u],[]⟩ [("_law_script",u)])/\∀base:Heap,(K w.params).In base->base.Ns mainGlobals mg->zHp mg base->(∀q∈[(c,Pt),(cU,Pu)],PySem.W.CodeHd base q.1 q.2)->FnOk l.prog w (K w.params) mg base CX0 7 fa fd ["_law_script"] (spLaw (K w.params) Pt Pu)) :
  PySem.W.WalkO q loose XP YP l.row.toRowW d [] (fun f vs=>PySem.call f vs) :=
 L2.walk_ofT (n:=63) (k:=7) (x:= "_law_script") (CX:=fun _=>CX0) (sp:=fun w=>spLaw (K w.params) Pt Pu) hn (by decide) hdf ⟨rfl,by decide,by decide,rfl⟩ hY hT hKT F (fun _ _ a ns hl hS hH=>⟨a,ns,rfl,hS,hl,.inl (hH (c,Pt) (by simp)),.inl (hH (cU,Pu) (by simp)),fun _=>rfl⟩) fun _ _ _ _ _ z=>z
end My
namespace PySem.W.Fast
def tw14986267066808162063:Nat:=0
def tw11588953685421724592:Nat:=0
def tw12635262123775740335:Nat:=0
def tw6635858347461650926:Nat:=0
def tw2307750858182200754:Nat:=0
def tw16537170510680302677:Nat:=0
def tw1429225055342996439:Nat:=0
def tw11856409008633276092:Nat:=0
def tw10605083111575289648:Nat:=0
def tw9098360776803089459:Nat:=0
def tw2632544894895717300:Nat:=0
def tw10698110123535808950:Nat:=0
def tw4327279307012876007:Nat:=0
def tw17913532980209355670:Nat:=0
def tw6030946262422850182:Nat:=0
def tw9883420409074848426:Nat:=0
def tw8674249364747393948:Nat:=0
def tw6498566535291524922:Nat:=0
def tw9364282230178280497:Nat:=0
def tw17989605583965435598:Nat:=0
def tw2262313488684968937:Nat:=0
def tw6411050065390363632:Nat:=0
def tw12376830257763207063:Nat:=0
def tw2392107602881005621:Nat:=0
def tw11979244860352840027:Nat:=0
def tw3869673337050015968:Nat:=0
def tw1542399943333422676:Nat:=0
def tw3223293725498976138:Nat:=0
def tw13825883907542950197:Nat:=0
def tw5591766928876545249:Nat:=0
def tw7505363424751502096:Nat:=0
def tw15628032989046942160:Nat:=0
def tw14340880113332300229:Nat:=0
def tw9947082321160534053:Nat:=0
def tw6234591000783661345:Nat:=0
def tw13356373273547114272:Nat:=0
def tw12651142174358472124:Nat:=0
def tw7688695773646473762:Nat:=0
def tw16356512646180905395:Nat:=0
def tw12712225313168652194:Nat:=0
def tw15237315959562360839:Nat:=0
def tw348362758851505308:Nat:=0
def tw3791537799069813280:Nat:=0
def tw17327417966193405187:Nat:=0
def tw580203532930083363:Nat:=0
def tw2888563977137226898:Nat:=0
def tw321598988685355190:Nat:=0
def tw12537885796777225213:Nat:=0
def tw14919885354052415744:Nat:=0
def tw18421387426435901293:Nat:=0
def tw13820410787861581486:Nat:=0
def tw5428474356387715400:Nat:=0
def tw5602560231344229515:Nat:=0
def tw4648860716664362142:Nat:=0
def tw16741640954375849036:Nat:=0
def tw178243575673390725:Nat:=0
def tw14115250564015318885:Nat:=0
def tw2801782197936566368:Nat:=0
def tw4156855430208605840:Nat:=0
def tw15743727113420600861:Nat:=0
def tw7951730427235701142:Nat:=0
def tw2722661843639591318:Nat:=0
def tw3319565863380264589:Nat:=0
def tw9652582412249098645:Nat:=0
def tw6366046756565140578:Nat:=0
def tw8607063836480456266:Nat:=0
def tw13564396799817307088:Nat:=0
def tw1257870994970582503:Nat:=0
def tw3642733504773064583:Nat:=0
def tw8828113695016951613:Nat:=0
def tw505193701430825605:Nat:=0
def tw13517366612813969982:Nat:=0
def tw15116134167008666197:Nat:=0
def tw3101063792089709513:Nat:=0
def tw11697012179871300291:Nat:=0
def tw13628966690580743225:Nat:=0
def tw13401102568891052540:Nat:=0
def tw11144082002684227281:Nat:=0
def tw6133197586453289770:Nat:=0
def tw17143540962041602864:Nat:=0
def tw18219657582053850647:Nat:=0
def tw17582785392696363590:Nat:=0
def tw14106788609403921561:Nat:=0
def tw1417877881684667128:Nat:=0
def tw10466496260669466941:Nat:=0
def tw151215054084749188:Nat:=0
def tw4983643974563363685:Nat:=0
def tw9180913750657189972:Nat:=0
def tw841237983535017780:Nat:=0
def tw11632443846242025426:Nat:=0
def tw10888177513740500595:Nat:=0
def tw9647687580338576069:Nat:=0
def tw5387749987191451547:Nat:=0
def tw16293321138138268690:Nat:=0
def tw16055927493664402535:Nat:=0
def tw6427120439203971181:Nat:=0
def tw9029111606024564116:Nat:=0
def tw15680446453973056614:Nat:=0
def tw12296213697820783321:Nat:=0
def tw14275967062488050911:Nat:=0
def tw15482717464631913625:Nat:=0
def tw12638080731466074803:Nat:=0
def tw3792441732971229914:Nat:=0
def tw13199632612162490680:Nat:=0
def tw13056219755287094385:Nat:=0
def tw6772087439434958735:Nat:=0
def tw2790397791550689068:Nat:=0
def tw16715938790038747721:Nat:=0
def tw12290619295402830949:Nat:=0
def tw3401157578323506196:Nat:=0
def tw6818777133800435502:Nat:=0
def tw6226695200308758990:Nat:=0
def tw9559513232727562706:Nat:=0
def tw12960509067643248330:Nat:=0
def tw8093773997697781829:Nat:=0
def tw8999128884016698731:Nat:=0
def tw16102845060242148128:Nat:=0
def tw5204829651627909011:Nat:=0
def tw199934260614159266:Nat:=0
def tw1410118431995996254:Nat:=0
def tw17256034831890863650:Nat:=0
def tw5484184226523192850:Nat:=0
def tw946800443857849267:Nat:=0
def tw308713651578809743:Nat:=0
def tw14441123902315803894:Nat:=0
def tw8609276504559931667:Nat:=0
def tw9087622832232441522:Nat:=0
def tw9463795527549251167:Nat:=0
def tw14239737668462373201:Nat:=0
def tw1440499481971952243:Nat:=0
def tw6980681333706486605:Nat:=0
def tw10426480645989351118:Nat:=0
def tw17626835550576204020:Nat:=0
def tw202923418092942765:Nat:=0
def tw14290442151367405043:Nat:=0
def tw1191068077189415038:Nat:=0
def tw18138741558235536456:Nat:=0
def tw2284386502298146864:Nat:=0
def tw1097114538423612079:Nat:=0
def tw11920659545389413226:Nat:=0
def tw3693878574572854082:Nat:=0
def tw16220702479186410660:Nat:=0
def tw13395595827694245955:Nat:=0
def tw1369599907645108003:Nat:=0
def tw4844681306370894221:Nat:=0
def tw4593253172835159197:Nat:=0
def tw992237996492222913:Nat:=0
def tw8138763890563066906:Nat:=0
def tw14958486473027209752:Nat:=0
def tw10805433171782771545:Nat:=0
def tw9714496585585642087:Nat:=0
def tw7733865814850840504:Nat:=0
def tw7127612332160640270:Nat:=0
def tw16055391298460024640:Nat:=0
def tw14667337991857677166:Nat:=0
def tw9262631144745166363:Nat:=0
def tw15814213454642761129:Nat:=0
def tw18415259387891798769:Nat:=0
def tw16517069715681393080:Nat:=0
def tw8491547093865450397:Nat:=0
def tw11545597765558028684:Nat:=0
def tw14645239468142777836:Nat:=0
def tw11226302052940560927:Nat:=0
def tw9217663937842756651:Nat:=0
def tw17651103693911942589:Nat:=0
def tw14012343140804862715:Nat:=0
def tw11361766014304881657:Nat:=0
def tw4791140657302586717:Nat:=0
def tw6494755235728832589:Nat:=0
def tw11233664337415528459:Nat:=0
def tw16963504705307171614:Nat:=0
def tw13472027238142689232:Nat:=0
def tw292388281131750301:Nat:=0
def tw12551909653626866028:Nat:=0
end PySem.W.Fast
open PySem PySem.W PyProof.Rows
set_option maxRecDepth 100000 in
set_option maxHeartbeats 0 in
theorem PySem.Challenge.cw_levelbench_k41_whole_blocks_fill_the_pla_holds : PySem.Challenge.rw_levelbench_k41_whole_blocks_fill_the_pla.Holds := by
 w_on;o_law;k_head;(case hw=>w_witness2)
 k_fill
 refine My.walk (c:=328) (Pt:=326) (cU:=340) (Pu:=336) (l:=PySem.Challenge.rw_levelbench_k41_whole_blocks_fill_the_pla) rfl rfl (fun w h Y=>PySem.W.km_in_of Y) (fun w h Y=>qDR.mpr ⟨⟨PySem.W.codeHd_of_K (c:=328) (P:=326) (PySem.W.km_in_of Y) (by kernel_rfl),PySem.W.km_tabs_of Y 326 (by k_mem)⟩,qDR.mpr ⟨⟨PySem.W.codeHd_of_K (c:=340) (P:=336) (PySem.W.km_in_of Y) (by kernel_rfl),PySem.W.km_tabs_of Y 336 (by k_mem)⟩,fun _ h=>nomatch h⟩⟩) (fun w=>qDR.mpr ⟨by kernel_rfl,qDR.mpr ⟨by kernel_rfl,fun _ h=>nomatch h⟩⟩) ?F
 case F =>
  intro w mg fa h KX G hmg;refine' My.all_mk (c:=328) (Pt:=326) (cU:=340) (Pu:=336) KX G hmg ?h0 ?h1 ?h2 ?h3 ?h4 ?h5 ?h6 ?h7 ?h8 ?h9 ?h10 ?h11 ?h12 ?h13 ?h14 ?h15 ?h16 ?h17 ?h18 ?h19 ?h20 ?h21 ?h22 ?h23 ?h24 ?h25 ?h26 ?h27 ?h28 ?h29 ?h30 ?h31 ?h32 ?h33 ?h34 ?h35 ?h36 ?h37 ?h38 ?h39 ?h40 ?h41 ?h42 ?h43 ?h44 ?h45 ?h46 ?h47 ?h48 ?h49 ?h50 ?h51 ?h52
  all_goals try first| k_is| exact ⟨by k_is,_,_,_,_,_,_,_,_,_,by k_is,by k_is,by k_is⟩| exact ⟨by k_is,_,_,_,_,_,_,_,_,by k_is,by k_is,by k_is⟩| exact ⟨by k_is,by k_is,_,_,_,_,_,_,_,_,_,by k_is,by k_is,by k_is⟩| kernel_rfl| decide
