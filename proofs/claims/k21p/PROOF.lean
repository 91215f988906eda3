import PyProof.Rows.All
import Wide.All
import OpenK.AllK
import Wide.FinOn
import Lean
import PyProof.EqAt
import PyProof.EqKinds
import PyProof.TupleCall
import PyProof.StrLawsTight
import PyProof.FitsReplace
import KE.KSortTup
import PyProof.TupleKey
import PyProof.SetKind
import PyProof.IsRules
import PyProof.Rows.SetFrom
import PyProof.CollectWalk
import PyProof.DictUpdate
import PyProof.AutoListH
import PyProof.SeqI3
import PyProof.EnumStmt
import PyProof.EnumMake
import PyProof.Rows.CallKwBuiltin
import PyProof.NeKinds
import PyProof.StationsW
import PyProof.ExcClass3
import PyProof.PassesOwn
import OpenK.KOwn
import PyProof.RulesAs
import PyProof.RulesDel
import KE.KIsAll
import PyProof.ExcArgsOwn
import PyProof.StrLawsIn
import PyProof.Rows.Range3
import PyProof.Rows.FStr
import KE.KRevIter
import PyProof.Rows.SetObj
import PyProof.InstStoreFacts
import OpenK.KMake
import OpenK.KCls
import OpenK.KMore
import PyProof.ReprHeads
import PyProof.StrLawsRepr
import PyProof.DictItems
import PyProof.AttrMissHeap
import PyProof.ListCopy
import KE.KDictOf
import KE.KDictSum
import PyProof.Rows.SortRev
import PyProof.Rows.IntMath
import PyProof.ReprStr
import PySem.Challenge.RW_levelbench_k21_faults_told
set_option Elab.async false
set_option linter.all false
set_option maxRecDepth 100000
def qAA:=@PySem.wpAny_bind
def qAB:=@if_neg
def qAC:=@if_pos
def qAD:=@List.length_map
def qAE:=@PySem.wpAny_pure
def qAF:=@Nat.le_refl
def qAG:=@PyProof.Rows.wpS_bind
def qAH:=@PyProof.Rows.wpS_pure
def qAI:=@PySem.Heap.get?_push_of_some
def qAJ:=@List.mem_map
def qAK:=@PySem.Heap.lt_size
def qAL:=@List.mem_of_getElem?
def qAM:=@List.map_append
def qAN:=@List.mem_append
def qAO:=@PySem.sizeLine_eq
def qAP:=@List.size_toArray
def qAQ:=@List.mem_singleton
def qAR:=@decide_eq_true
def qAS:=@List.mem_cons
def qAT:=@Nat.ne_of_lt
def qAU:=@List.mem_cons_of_mem
def qAV:=@List.mem_cons_self
def qAW:=@decide_eq_false
def qAX:=@List.length_take
def qAY:=@List.getElem?_map
def qAZ:=@PySem.PassesOwn.never
def qAa:=@congrArg
def qAb:=@PySem.Heap.get?_push_size
def qAc:=@Nat.le_trans
def qAd:=@Option.some.inj
def qAe:=@List.length_cons
def qAf:=@List.take_length
def qAg:=@Nat.zero_le
def qAh:=@List.getElem?_eq_some_iff
def qAi:=@List.map_cons
def qAj:=@List.length_append
def qAk:=@Bool.false_ne_true
def qAl:=@Array.getElem?_toList
def qAm:=@Ne.symm
def qAn:=@Nat.lt_of_lt_of_le
def qAo:=@of_decide_eq_true
def qAp:=@List.getElem?_eq_getElem
def qAq:=@List.mem_append_left
def qAr:=@List.mem_append_right
def qAs:=@PySem.Heap.SameBut.update
def qAt:=@PySem.F.plainAttrs_list
def qAu:=@PyProof.Rows.wpS_forRange
def qAv:=@PySem.Obj.data_mapFields
def qAw:=@beq_eq_false_iff_ne
def qAx:=@PySem.wpAny_mono
def qAy:=@PySem.wpAny_of_eq
def qAz:=@PyProof.Rows.wpS_mono
def qA0:=@PySem.wpAny_holding
def qA1:=@List.map_map
def qA2:=@PyProof.Rows.wpS_modify
def qA3:=@List.mem_filter
def qA4:=@List.mem_range
def qA5:=@PySem.wpAny_truthy_bool
def qA6:=@PySem.call_meets
def qA7:=@List.mem_iff_getElem
def qA8:=@Nat.ne_of_gt
def qA9:=@PySem.wpAny_rule
def qBA:=@List.filter_cons
def qBB:=@PySem.Heap.size_push
def qBC:=@PySem.W.kia_one
def qBD:=@List.nodup_cons
def qBE:=@PySem.Heap.get?_update_self
def qBF:=@List.lookup_cons
def qBG:=@List.getD_eq_getElem?_getD
def qBH:=@decide_eq_true_eq
def qBI:=@PyProof.Rows.wpS_get
def qBJ:=@List.length_filter_le
def qBK:=@List.append_nil
def qBL:=@Nat.le_succ
def qBM:=@List.length_drop
def qBN:=@if_true
def qBO:=@Classical.byContradiction
def qBP:=@List.nodup_nil
def qBQ:=@List.not_mem_nil
def qBR:=@PySem.wpAny_askSetting
def qBS:=@Nat.lt_irrefl
def qBT:=@List.append_assoc
def qBU:=@List.foldl_cons
def qBV:=@List.length_nil
def qBW:=@Option.map_eq_some_iff
def qBX:=@PySem.codeAny_builtin
def qBY:=@PySem.wpAny_call_entry
def qBZ:=@PySem.wpAny_setField
def qBa:=@PySem.wpAny_field
def qBb:=@Array.length_toList
def qBc:=@Bool.eq_iff_iff
def qBd:=@PySem.codeAny_mono
def qBe:=@List.getElem?_append_right
def qBf:=@List.getElem?_append_left
def qBg:=@PySem.typeIs_str
def qBh:=@Bool.and_eq_true
def qBi:=@List.find?_cons
def qBj:=@List.all_eq_true
def qBk:=@List.take_of_length_le
def qBl:=@PyProof.Rows.wpS_lift
def qBm:=@Array.getElem?_eq_some_iff
def qBn:=@List.find?_eq_none
def qBo:=@PySem.F.called_set
def qBp:=@or_false
def qBq:=@PySem.wpAny_passesOwn
def qBr:=@Nat.le_of_eq
def qBs:=@if_false
def qBt:=@PySem.wpAny_newObj_type
def qBu:=@Array.toList_extract
def qBv:=@List.mem_of_mem_drop
def qBw:=@List.mem_of_mem_take
def qBx:=@PySem.Around.under_plainId
def qBy:=@PySem.plainId_quiet
def qBz:=@PySem.typeLookup_type
def qB0:=@PySem.builtinLookup_eq_fast
def qB1:=@List.drop_of_length_le
def qB2:=@List.filter_append
def qB3:=@List.countP_append
def qB4:=@PySem.wpAny_ite_split
def qB5:=@PySem.Paired.length
def qB6:=@Nat.le_of_lt
def qB7:=@List.filterMap_cons
def qB8:=@PySem.wpAny_pyIter_list
def qB9:=@beq_iff_eq
def qCA:=@PySem.mem_of_lookup
def qCB:=@PySem.Heap.get?_update_other
def qCC:=@List.any_cons
def qCD:=@PySem.wpAny_specialOf
def qCE:=@Nat.lt_succ_of_lt
def qCF:=@Array.toList_append
def qCG:=@Int.emod_nonneg
def qCH:=@Int.emod_lt_of_pos
def qCI:=@List.take_append_drop
def qCJ:=@List.map_take
def qCK:=@PySem.Obj.isFreed_of_fields
def qCL:=@PySem.wpAny_isInstance
def qCM:=@PySem.F.slot_list_append
def qCN:=@PySem.F.type_list_append
def qCO:=@PySem.F.slot_list_insert
def qCP:=@PySem.F.type_list_insert
def qCQ:=@PySem.wpAny_standAt
def qCR:=@PySem.wpAny_load
def qCS:=@PyProof.Rows.callWith_type1
def qCT:=@Nat.lt_succ_self
def qCU:=@PySem.wpAny_call
def qCV:=@PySem.wpAny_Call_Name_kw
def qCW:=@PySem.SeqAt.EqAt.same
def qCX:=@List.replicate_succ
def qCY:=@List.length_singleton
def qCZ:=@List.getElem_mem
def qCa:=@PySem.Str.cps_append
def qCb:=@PySem.wpAny_attempt
def qCc:=@Array.toList_push
def qCd:=@Nat.le_add_right
def qCe:=@List.getElem?_cons_succ
def qCf:=@List.nodup_append
def qCg:=@PySem.wpAny_typeOf
def qCh:=@Nat.not_lt
def qCi:=@Nat.not_lt_zero
def qCj:=@List.map_drop
def qCk:=@List.length_eq_zero_iff
def qCl:=@PySem.Obj.cls_mapFields
def qCm:=@PySem.wpAny_setField_rec
def qCn:=@List.all_map
def qCo:=@PyProof.Rows.wpS_reverse
def qCp:=@List.length_pos_iff
def qCq:=@PySem.wpAny_execs_nil
def qCr:=@List.getElem?_take_of_lt
def qCs:=@List.flatten_cons
def qCt:=@Nat.lt_of_le_of_lt
def qCu:=@PySem.tupleKind_room_in1
def qCv:=@List.any_eq_true
def qCw:=@List.getElem?_drop
def qCx:=@List.map_congr_left
def qCy:=@Nat.add_zero
def qCz:=@List.take_succ
def qC0:=@PySem.codeAny_of_tree
def qC1:=@PySem.codeAny_call_builtin
def qC2:=@PySem.isSubtype_type
def qC3:=@List.Perm.refl
def qC4:=@PySem.wpAny_callSpecial?_slot
def qC5:=@Array.perm_iff_toList_perm
def qC6:=@PySem.F.slot_enumerate_next
def qC7:=@Bool.false_eq_true
def qC8:=@List.mem_reverse
def qC9:=@PySem.F.plainAttrs_str
def qDA:=@List.getElem?_set_self
def qDB:=@PySem.wpAny_pyIter_rangeiter
def qDC:=@Array.mem_toList_iff
def qDD:=@PySem.W.cellsFrom_some
def qDE:=@PySem.Calls.callWith_builtin
def qDF:=@PySem.StrLaws.glued_eq_join
def qDG:=@Array.getElem?_eq_getElem
def qDH:=@List.mem_of_find?_eq_some
def qDI:=@List.getElem?_eq_none
def qDJ:=@Array.size_setIfInBounds
def qDK:=@PyProof.Rows.F.plain_set_update_loop
def qDL:=@List.getElem?_eq_none_iff
def qDM:=@Option.map_eq_none_iff
def qDN:=@PySem.wpAny_notOrdered_dict
def qDO:=@PySem.F.slot_list_extend
def qDP:=@PySem.F.type_list_extend
def qDQ:=@PySem.F.slot_dict_items
def qDR:=@PySem.F.slot_list_getattribute
namespace L2
open PySem PySem.Spec PyProof.Rows
variable {us:List Value}{x:Str}{u:Value}{a b C:Addr}{P:Program}{w:World}{h base:Heap}{t' i:Nat}{e tg:Expr}{A:Around}{s:Shared}{pos:Pos}{pins:List (Addr×Obj)}{op:CmpOp}{K:PySem.W.Frag}
abbrev Key:=Sum Int Str
def keyIs:Key->Value->Bool
 | .inl k,v=>Value.isInt k v
 | .inr x,v=>Value.isStrOf x v
def keyH (w:World):Key->Int
 | .inl k=>hashInt k
 | .inr x=>hashStr w x
theorem zA8:∀{k:Key} {v:Value},keyIs k v=true->(∃i t,k=Sum.inl i/\v=Value.int i t)\/(∃x t,k=Sum.inr x/\v=Value.str x t)
 | .inl i,v,h=>by
  obtain ⟨t,e⟩:=Value.isInt_shape (k:=i) (v:=v) h;exact .inl ⟨i,t,rfl,e⟩
 | .inr x,v,h=>by
  obtain ⟨t,e⟩:=Value.isStrOf_shape (x:=x) (v:=v) h;exact .inr ⟨x,t,rfl,e⟩
theorem keyIs_int (i:Int) (t:Tok):keyIs (.inl i) (.int i t)=true:=by simp [keyIs,Value.isInt]
theorem keyIs_str (x:Str) (t:Tok):keyIs (.inr x) (.str x t)=true:=by simp [keyIs,Value.isStrOf]
theorem key_ll (a b:Int):decide ((Sum.inl a:Key)=Sum.inl b)=(a==b):=by
 by_cases e:a=b
 ·subst e;simp
 ·have h:¬(Sum.inl a:Key)=Sum.inl b:=fun q=>e (Sum.inl.inj q);rw [qAW h];exact (qAw.mpr e).symm
theorem key_rr (a b:Str):decide ((Sum.inr a:Key)=Sum.inr b)=decide (a=b):=by
 by_cases e:a=b
 ·subst e;simp
 ·have h:¬(Sum.inr a:Key)=Sum.inr b:=fun q=>e (Sum.inr.inj q);rw [qAW h,qAW e]
theorem key_lr (a:Int) (b:Str):decide ((Sum.inl a:Key)=Sum.inr b)=false:=qAW (fun q=>nomatch q)
theorem key_rl (a:Str) (b:Int):decide ((Sum.inr a:Key)=Sum.inl b)=false:=qAW (fun q=>nomatch q)
def zBd (prog:Program) (w:World):PySem.KeyKind prog w Key where
 is:=keyIs
 hash:=keyH w
 inj:=fun v a b ha hb=>by
  rcases zA8 ha with ⟨i,t,rfl,rfl⟩| ⟨x,t,rfl,rfl⟩
  ·rcases zA8 hb with ⟨j,u,rfl,e⟩| ⟨y,u,rfl,e⟩
   ·injection e with e1 _;rw [e1]
   ·exact nomatch e
  ·rcases zA8 hb with ⟨j,u,rfl,e⟩| ⟨y,u,rfl,e⟩
   ·exact nomatch e
   ·injection e with e1 _;rw [e1]
 byValue:=fun k v h=>by
  rcases zA8 h with ⟨i,t,rfl,rfl⟩| ⟨x,t,rfl,rfl⟩<;>rfl
 pyHash:=fun hv h=>by
  rcases zA8 hv with ⟨i,t,rfl,rfl⟩| ⟨x,t,rfl,rfl⟩
  ·exact wpAny_pyHash_int h
  ·exact wpAny_pyHash_str h
 eqBool:=fun hu hv h=>by
  rcases zA8 hu with ⟨i,t,rfl,rfl⟩| ⟨x,t,rfl,rfl⟩
  ·rcases zA8 hv with ⟨j,u,rfl,rfl⟩| ⟨y,u,rfl,rfl⟩
   ·rw [key_ll] at h;exact wpAny_eqBool_int h
   ·rw [key_lr] at h;exact SeqAt.EqAt.int_str i t y u _ _ _ _ h
  ·rcases zA8 hv with ⟨j,u,rfl,rfl⟩| ⟨y,u,rfl,rfl⟩
   ·rw [key_rl] at h;exact SeqAt.EqAt.str_int x t j u _ _ _ _ h
   ·rw [key_rr] at h;exact wpAny_eqBool_str h
 «strs»:=fun k x t v h=>by
  rcases zA8 h with ⟨i,u,rfl,e⟩| ⟨y,u,rfl,e⟩
  ·exact nomatch e
  ·injection e with e1 _;subst e1
   cases v<;>rfl
theorem mixKind_int (prog:Program) (w:World) (i:Int) (t:Tok):(zBd prog w).is (.inl i) (.int i t)=true:=keyIs_int i t
theorem mixKind_str (prog:Program) (w:World) (x:Str) (t:Tok):(zBd prog w).is (.inr x) (.str x t)=true:=keyIs_str x t
inductive V where
 | non| bl (b:Bool)| int (i:Int)| str (x:Str)| byt (b:Array UInt8)| flt (b:UInt64)| ref (a:Addr)| ty (n:String)
 deriving DecidableEq
variable {xs:List V}{v y:V}
def RelV:V->Value->Prop
 | .non,u=>u=Value.none
 | .bl b,u=>u=Value.bool b
 | .int i,u=>∃t,u=Value.int i t
 | .str x,u=>∃t,u=Value.str x t
 | .byt b,u=>∃t,u=Value.bytes b t
 | .flt b,u=>∃t,u=Value.float b t
 | .ref a,u=>u=Value.ref a
 | .ty n,u=>u=Value.type n
abbrev Vals:List V->List Value->Prop:=Paired RelV
theorem Vals.length (r:Vals xs us):xs.length=us.length:=qB5 r
theorem Vals.get:∀{xs:List V} {us:List Value} {i:Nat} {x:V},Vals xs us->xs[i]?=some x->∃u,us[i]?=some u/\RelV x u
 | _,_,_,_,.nil,e=>by simp at e
 | _,_,0,_,.cons r _,e=>by simp at e;subst e;exact ⟨_,rfl,r⟩
 | _,_,i+1,x,.cons _ t,e=>by
  obtain ⟨u,h1,h2⟩:=Vals.get (i:=i) (x:=x) t (by simpa using e);exact ⟨u,by simpa using h1,h2⟩
theorem Vals.set {x:V} (r:RelV x u):∀{xs:List V} {us:List Value} (i:Nat),Vals xs us->Vals (xs.set i x) (us.set i u)
 | _,_,_,.nil=>.nil
 | _,_,0,.cons _ t=>.cons r t
 | _,_,i+1,.cons q t=>.cons q (Vals.set r i t)
theorem Vals.append:∀{xs ys:List V} {us ws:List Value},Vals xs us->Vals ys ws->Vals (xs++ys) (us++ws)
 | _,_,_,_,.nil,s=>s
 | _,_,_,_,.cons r t,s=>.cons r (Vals.append t s)
theorem Vals.take:∀{xs:List V} {us:List Value} (n:Nat),Vals xs us->Vals (xs.take n) (us.take n)
 | _,_,0,_=>.nil
 | _,_,_+1,.nil=>.nil
 | _,_,n+1,.cons r t=>.cons r (Vals.take n t)
theorem Vals.drop:∀{xs:List V} {us:List Value} (n:Nat),Vals xs us->Vals (xs.drop n) (us.drop n)
 | _,_,0,r=>r
 | _,_,_+1,.nil=>.nil
 | _,_,n+1,.cons _ t=>Vals.drop n t
def RelO:Option V->Option Value->Prop
 | some v,some u=>RelV v u
 | none,none=>True
 | _,_=>False
def KV {κ:Type}:List (κ×V)->List (κ×Value)->Prop:=Paired fun (p:κ×V) (q:κ×Value)=>p.1=q.1/\RelV p.2 q.2
def kV:Key->V
 | .inl i=>.int i
 | .inr x=>.str x
inductive HO where
 | lst (xs:List V)
 | tup (xs:List V)
 | dK (kvs:List (Key×V))| dT (kvs:List (List Key×V))
 | set (S:Int->Bool) (n:Nat)
 | ins (C dx:Addr) (fs:List (Str×V))
 | own (x:Addr)
 | xd (fs:List (Str×V))
 | met (f x:Addr)
 | rng (lo hi:Int)
 | frz (o:Obj) (u:HO)
 | tbl (ps:Array Value)
 | ext (φ:Heap->Prop)
variable {o:HO}
abbrev Hp:=Addr->Option HO
variable {H:Hp}
def upd (H:Hp) (a:Addr) (o:HO):Hp:=fun b=>if b=a then some o else H b
theorem upd_same {H:Hp} {a:Addr} {o:HO}:upd H a o a=some o:=by unfold upd;rw [qAC rfl]
theorem upd_ne (h:b≠a):upd H a o b=H b:=by unfold upd;rw [qAB h]
theorem zCc {u:HO}:upd (upd H a o) a u=upd H a u:=by
 funext b;unfold upd;split<;>rfl
theorem zBw {u:HO} (h:H a=some o) (h':H b=some u) (d:o≠u):a≠b:=by
 intro e;subst e;rw [h] at h';exact d (qAd h')
theorem zAg (h:H a=some o) (h':H b=none):a≠b:=by
 intro e;subst e;rw [h] at h';cases h'
section
variable (P:Program) (w:World)
def zBb (H:Hp) (h:Heap) (a:Addr):HO->Prop
 | .lst xs=>xs.length<=sizeLine/\∃(its:List Value) (n:Nat),Vals xs its/\h.get? a=some {cls:=.type "list",data:=.seq its.toArray n}
 | .tup xs=>xs.length<=sizeLine/\∃its:List Value,Vals xs its/\IsTup h a its.toArray
 | .dK kvs=>kvs.length<=sizeLine/\(a==sysModules)=false/\∃vs,KV kvs vs/\h.DictOf (zBd P w) a vs
 | .dT kvs=>kvs.length<=sizeLine/\(a==sysModules)=false/\∃xs:List (List Key×Addr×Value),
   Paired (fun (p:List Key×V) (q:List Key×Addr×Value)=>p.1=q.1/\H q.2.1=some (.tup (p.1.map kV))/\RelV p.2 q.2.2) kvs xs /\
   ∃o es ep,h.get? a=some o/\o.ExactDict/\o.data= .dict es ep/\es.toList=xs.map (entryOfKey (tupleKind (zBd P w)))/\(xs.map (·.1)).Nodup
 | .set S n=>h.SetOf (intKind P w) a S n
 | .ins C dx fs=>H dx=some (.own a)/\fs.length<=1000/\dx≠a/\h.get? a=some (PySem.W.instObj C dx) /\
   ∃mA,h.Ns1 dx mA/\(∀f,RelO (fs.lookup f) (mA f))/\PySem.Within mA (fs.map (·.1))
 | .own _=>∃o,h.get? a=some o
 | .xd fs=>∃mA,h.Ns1 a mA/\∀f,RelO (fs.lookup f) (mA f)
 | .rng lo hi=>∃t u v,h.get? a=some {cls:=.type "range",data:=.fields #[.int lo t,.int hi u,.int 1 v]}
 | .frz o u=>h.get? a=some o/\zBb H h a u
 | .tbl ps=>h.get? a=some {cls:=.none,data:=.fields ps}
 | .met f x=>h.get? a=some (PySem.W.methodObj (.ref f) (.ref x))
 | .ext φ=>φ h/\(∃o,h.get? a=some o)/\∀h1 h2:Heap,φ h1->(∀o,h1.get? a=some o->h2.get? a=some o)->φ h2
def HOk (H:Hp) (h:Heap):Prop:=∀a o,H a=some o->zBb P w H h a o
end
section
variable {P:Program} {w:World} {H H':Hp} {h h':Heap} {a:Addr} {o:HO}
theorem zBb.lt (x:zBb P w H h a o):a<h.objs.size:=by
 cases o with
 | lst xs=>obtain ⟨_,_,_,_,e⟩:=x;exact qAK e
 | tup xs=>obtain ⟨_,_,_,p⟩:=x;exact p.lt
 | dK kvs=>obtain ⟨_,_,_,_,o,_,_,e,_⟩:=x;exact qAK e
 | dT kvs=>obtain ⟨_,_,_,_,o,_,_,e,_⟩:=x;exact qAK e
 | set S n=>obtain ⟨o,_,_,_,e,_⟩:=x;exact qAK e
 | ins C dx fs=>obtain ⟨_,_,_,e,_⟩:=x;exact qAK e
 | own y=>obtain ⟨_,e⟩:=x;exact qAK e
 | xd fs=>obtain ⟨_,⟨_,_,_,e,_⟩,_⟩:=x;exact qAK e
 | rng lo hi=>obtain ⟨_,_,_,e⟩:=x;exact qAK e
 | frz ob u=>obtain ⟨e,_⟩:=x;exact qAK e
 | tbl ps=>exact qAK (show h.get? a=some _ from x)
 | met f y=>exact qAK (show h.get? a=some _ from x)
 | ext φ=>obtain ⟨_,⟨_,e⟩,_⟩:=x;exact qAK e
theorem Paired.mapP {α β:Type} {F G:α->β->Prop}:∀{l₁:List α} {l₂:List β},Paired F l₁ l₂->(∀a b,F a b->G a b)->Paired G l₁ l₂
 | _,_,.nil,_=>.nil
 | _,_,.cons r t,f=>.cons (f _ _ r) (Paired.mapP t f)
theorem zBb.stay (x:zBb P w H h a o) (k:∀b u,(b=a\/H b=some (.own a))->h.get? b=some u->h'.get? b=some u)
  (ho:∀b,H b=some (.own a)->H' b=some (.own a)) (ht:∀b xs,H b=some (.tup xs)->H' b=some (.tup xs)):zBb P w H' h' a o:=by
 induction o with
 | lst xs=>obtain ⟨z,its,n,r,e⟩:=x;exact ⟨z,its,n,r,k _ _ (.inl rfl) e⟩
 | tup xs=>obtain ⟨z,its,r,ob,e,c⟩:=x;exact ⟨z,its,r,ob,k _ _ (.inl rfl) e,c⟩
 | dK kvs=>obtain ⟨z,y,vs,r,ob,es,ep,e,c⟩:=x;exact ⟨z,y,vs,r,ob,es,ep,k _ _ (.inl rfl) e,c⟩
 | dT kvs =>
  obtain ⟨z,y,xs,r,ob,es,ep,e,c⟩:=x;exact ⟨z,y,xs,Paired.mapP r fun p q z=>⟨z.1,ht _ _ z.2.1,z.2.2⟩,ob,es,ep,k _ _ (.inl rfl) e,c⟩
 | set S n=>obtain ⟨ob,es,ep,t,e,c⟩:=x;exact ⟨ob,es,ep,t,k _ _ (.inl rfl) e,c⟩
 | ins C dx fs =>
  obtain ⟨d,z,ne,e,mA,⟨od,es,ep,e2,c⟩,r⟩:=x;exact ⟨ho _ d,z,ne,k _ _ (.inl rfl) e,mA,⟨od,es,ep,k _ _ (.inr d) e2,c⟩,r⟩
 | own y=>obtain ⟨ob,e⟩:=x;exact ⟨ob,k _ _ (.inl rfl) e⟩
 | xd fs=>obtain ⟨mA,⟨od,es,ep,e,c⟩,r⟩:=x;exact ⟨mA,⟨od,es,ep,k _ _ (.inl rfl) e,c⟩,r⟩
 | rng lo hi=>obtain ⟨t,u,v,e⟩:=x;exact ⟨t,u,v,k _ _ (.inl rfl) e⟩
 | frz ob u ih=>obtain ⟨e,q⟩:=x;exact ⟨k _ _ (.inl rfl) e,ih q⟩
 | tbl ps =>
  have e:h.get? a=some {cls:=.none,data:=.fields ps}:=x;show h'.get? a=some {cls:=.none,data:=.fields ps};exact k a _ (.inl rfl) e
 | met f y =>
  have e:h.get? a=some (PySem.W.methodObj (.ref f) (.ref y)):=x;show h'.get? a=some (PySem.W.methodObj (.ref f) (.ref y));exact k a _ (.inl rfl) e
 | ext φ=>obtain ⟨p,⟨o,e⟩,st⟩:=x;exact ⟨st _ _ p fun o q=>k _ _ (.inl rfl) q,⟨o,k _ _ (.inl rfl) e⟩,st⟩
theorem HOk.lt (x:HOk P w H h) (e:H a=some o):a<h.objs.size:=(x a o e).lt
theorem HOk.fresh (x:HOk P w H h) (e:h.objs.size<=a):H a=none:=by
 cases q:H a with
 | none=>rfl
 | some u=>exact absurd (qAn (x.lt q) e) (qBS _)
theorem HOk.kept (x:HOk P w H h) (k:∀b u,h.get? b=some u->h'.get? b=some u):HOk P w H h':=fun a o e =>
 (x a o e).stay (fun b u _ q=>k b u q) (fun _ q=>q) fun _ _ q=>q
theorem HOk.laid (x:HOk P w H h) (k:∀b u,h.get? b=some u->h'.get? b=some u) (hp:h.objs.size<=a) (new:zBb P w (upd H a o) h' a o):HOk P w (upd H a o) h':=fun b u e=>by
 have hn:=x.fresh hp
 by_cases hb:b=a
 ·subst hb;rw [upd_same] at e;cases e;exact new
 ·rw [upd_ne hb] at e;exact (x b u e).stay (fun c v _ q=>k c v q) (fun c q=>by rw [upd_ne (zAg q hn)];exact q) fun c xs q=>by rw [upd_ne (zAg q hn)];exact q
end
def Rd (H:Hp) (a:Addr) (u:HO):Prop:=H a=some u\/∃o,H a=some (.frz o u)
theorem Rd.ok {u:HO} (r:Rd H a u) (x:HOk P w H h):zBb P w H h a u:=by
 rcases r with r| ⟨o,r⟩
 ·exact x a u r
 ·obtain ⟨_,q⟩:=x a _ r;exact q
def Mut:Option HO->Prop
 | some (.lst _)=>True
 | some (.dK _)=>True
 | some (.dT _)=>True
 | some (.set _ _)=>True
 | some (.ins _ _ _)=>True
 | some (.ext _)=>True
 | _=>False
section
variable {P:Program} {w:World} {H:Hp} {h h':Heap} {x e:Addr} {o':HO}
theorem HOk.write (ok:HOk P w H h) (mu:Mut (H x)) (he:e=x\/H e=some (.own x)) (k:∀b u,b≠e->h.get? b=some u->h'.get? b=some u) (heo:∃u,h'.get? e=some u)
  (new:zBb P w (upd H x o') h' x o'):HOk P w (upd H x o') h':=fun b u q=>by
 have nown:∀c y,H c=some (.own y)->c≠x:=fun c y r z=>by subst z;rw [r] at mu;exact mu
 have ntup:∀c xs,H c=some (.tup xs)->c≠x:=fun c xs r z=>by subst z;rw [r] at mu;exact mu
 by_cases hb:b=x
 ·subst hb;rw [upd_same] at q;cases q;exact new
 ·rw [upd_ne hb] at q
  by_cases hbe:b=e
  ·have q':H b=some (.own x):=by
    rcases he with z| z
    ·exact absurd (hbe.trans z) hb
    ·rw [hbe];exact z
   rw [q] at q';cases q';obtain ⟨v,hv⟩:=heo;exact ⟨v,by rw [hbe];exact hv⟩
  ·refine (ok b u q).stay (fun c v hc r=>k c v ?_ r) (fun c r=>by rw [upd_ne (nown c b r)];exact r) fun c xs r=>by rw [upd_ne (ntup c xs r)];exact r
   rcases hc with rfl| hc
   ·exact hbe
   ·rintro rfl;rcases he with z| z
    ·exact nown c b hc z
    ·rw [hc] at z;cases z;exact hb rfl
end
structure Un (fs ex:List Addr) (H H':Hp) (h h':Heap):Prop where
 keep:∀b o,h.get? b=some o->H b=none->b∉fs->b∉ex->h'.get? b=some o
 slot:∀b o,h.get? b=some o->H b=none->b∈fs->b∉ex->∃sl,h'.get? b=some {o with slots:=sl}
 free:∀b o,h.get? b=some o->H b=none->b∉ex->H' b=none
 there:∀b o,h.get? b=some o->b∉ex->∃o',h'.get? b=some o'
 tups:∀b xs,H b=some (.tup xs)->H' b=some (.tup xs)
 frzs:∀b o u,H b=some (.frz o u)->H' b=some (.frz o u)
 tbls:∀b ps,H b=some (.tbl ps)->∃more,H' b=some (.tbl (ps++more))
section
variable {fs fs' ex ex':List Addr} {H H1 H2:Hp} {h h1 h2 h':Heap} {a x e:Addr} {o:HO}
theorem Un.any (u:Un fs ex H H1 h h1) {ob:Obj} (q:h.get? b=some ob) (n:H b=none) (hx:b∉ex):∃sl,h1.get? b=some {ob with slots:=sl}:=by
 by_cases hb:b∈fs
 ·exact u.slot b ob q n hb hx
 ·exact ⟨ob.slots,u.keep b ob q n hb hx⟩
theorem Un.kept (k:∀b u,h.get? b=some u->h'.get? b=some u):Un fs ex H H h h' :=
 ⟨fun b ob q _ _ _=>k b ob q,fun b ob q _ _ _=>⟨ob.slots,k b ob q⟩,fun _ _ _ n _=>n,fun b ob q _=>⟨ob,k b ob q⟩,fun _ _ q=>q,fun _ _ _ q=>q,fun _ ps q=>⟨#[],by rw [q];simp⟩⟩
theorem Un.refl:Un fs ex H H h h:=Un.kept fun _ _ q=>q
theorem Un.laid (k:∀b u,h.get? b=some u->h'.get? b=some u) (hp:h.objs.size<=a) (hn:H a=none):Un fs ex H (upd H a o) h h' where
 keep:=fun b u q _ _ _=>k b u q
 slot:=fun b u q _ _ _=>⟨u.slots,k b u q⟩
 free:=fun b u q n _=>by rw [upd_ne (qAT (qAn (qAK q) hp))];exact n
 there:=fun b u q _=>⟨u,k b u q⟩
 tups:=fun b xs q=>by rw [upd_ne (zAg q hn)];exact q
 frzs:=fun b u xs q=>by rw [upd_ne (zAg q hn)];exact q
 tbls:=fun b ps q=>⟨#[],by rw [upd_ne (zAg q hn),q];simp⟩
theorem Un.write (mu:Mut (H x)) (he:e=x\/H e=some (.own x)) (k:∀b u,b≠e->h.get? b=some u->h'.get? b=some u) (heo:∃u,h'.get? e=some u):Un fs ex H (upd H x o) h h':=by
 have hx:∀b,H b=none->b≠x:=fun b n z=>by subst z;rw [n] at mu;exact mu
 have hb:∀b,H b=none->b≠e:=fun b n z=>by
  subst z;rcases he with r| r
  ·exact hx b n r
  ·rw [n] at r;cases r
 have hm:∀b u,H b=some u->¬Mut (some u)->b≠x:=fun b u q nm z=>by subst z;rw [q] at mu;exact nm mu
 refine ⟨fun b u q n _ _=>k b u (hb b n) q,fun b u q n _ _=>⟨u.slots,k b u (hb b n) q⟩,fun b u q n _=>by rw [upd_ne (hx b n)];exact n,fun b u q _=>?_,
  fun b xs q=>by rw [upd_ne (hm b _ q fun z=>z)];exact q,fun b u xs q=>by rw [upd_ne (hm b _ q fun z=>z)];exact q,fun b ps q=>⟨#[],by rw [upd_ne (hm b _ q fun z=>z),q];simp⟩⟩
 by_cases hbe:b=e
 ·subst hbe;exact heo
 ·exact ⟨u,k b u hbe q⟩
end
def trk (h:Heap) (H:Hp):List Addr:=(List.range h.objs.size).filter fun a=>(H a).isSome
def hidT (h:Heap) (H:Hp):Heap:=PySem.W.hideAll h (trk h H)
theorem hidT_size (h:Heap) (H:Hp):(hidT h H).objs.size=h.objs.size:=PySem.W.hideAll_size _ _
theorem hidT_get {o:Obj} (e:h.get? b=some o) (n:H b=none):(hidT h H).get? b=some o :=
 PySem.W.hideAll_get _ e fun hm=>by
  have q:(H b).isSome=true:=(qA3.mp hm).2;rw [n] at q;simp at q
theorem of_hidT {o:Obj} (e:(hidT h H).get? b=some o):h.get? b=some o/\H b=none:=by
 have e':h.get? b=some o:=PySem.W.of_hideAll (trk h H) e;refine ⟨e',?_⟩
 cases q:H b with
 | none=>rfl
 | some x =>
  have hm:b∈trk h H:=qA3.mpr ⟨qA4.mpr (qAK e'),by simp [q]⟩;have z:(hidT h H).get? b=none:=PySem.W.hideAll_none (trk h H) hm;rw [z] at e;cases e
structure Mod (K:PySem.W.Frag) (mg:Str->Option Value) (base:Heap):Prop where
 kin:K.In base
 glob:base.Ns mainGlobals mg
 blt:∃mb,base.Ns builtinsNs mb/\∀x:Str,x≠ "__name__" ->mb x=bootBuiltins x
 nolimit:base.NoLimit
structure Cx where
 prog:Program
 w:World
 K:PySem.W.Frag
 mg:Str->Option Value
 base:Heap
 A:Around
 N:List Str
 s₀:Shared
 H₀:Hp
 env:Env
 outer:List Env
 stack:List Env
 ex:List Addr
 fn:Str->Bool
 calm:Bool
 pn:List (Addr×Obj)
 xe:Value->Shared->Prop
variable {X:Cx}
def frs (l:List Env):List Addr:=l.filterMap (·.frame)
abbrev Cx.fs (X:Cx):List Addr:=frs X.outer
def Vis (sc:Scope) (x:Str):Prop:=sc.names.lookup x=some .local\/sc.names.lookup x=some .cell\/sc.names.lookup x=some .free
def Loc (sc:Scope) (x:Str):Prop:=sc.names.lookup x=some .local\/sc.names.lookup x=some .cell
def Look (env:Env) (h:Heap) (m:Str->Option Value) (x:Str) (u:Value):Prop :=
 (env.kindOf x=some .local/\m x=some u)\/((env.kindOf x=some .cell\/env.kindOf x=some .free)/\∃c,env.cells.lookup x=some c/\h.IsCell c (some u))
structure Cx.Ok (X:Cx):Prop where
 mod:Mod X.K X.mg X.base
 kind:X.env.scope.kind= .function
 glob:X.env.globals=mainGlobals
 blt:X.env.builtins=builtinsNs
 above:X.s₀.heap.objs.size<=X.env.locals
 inj:∀x y c,X.env.cells.lookup x=some c->X.env.cells.lookup y=some c->x=y
 has:∀x,(X.env.kindOf x=some .cell\/X.env.kindOf x=some .free)->∃c,X.env.cells.lookup x=some c
 cab:∀x c,X.fn x=true->X.env.cells.lookup x=some c->X.s₀.heap.objs.size<=c
 hd:X.calm=true->X.A.handled=none
 frames:X.A.frames=some X.stack
 stk:X.stack=X.outer\/(X.stack=X.env::X.outer/\X.env.frame=some X.env.locals)
 exf:∀b∈X.ex,b≠X.env.locals/\∀x c,X.env.cells.lookup x=some c->c≠b
 bs:∀b o,X.base.get? b=some o->X.s₀.heap.get? b=some o/\X.H₀ b=none
 bsz:X.base.objs.size<=X.s₀.heap.objs.size
 noex:∀b o,X.base.get? b=some o->b∉X.ex
 exfs:∀b∈X.ex,b∉X.fs
 funs:X.s₀.heap.FunFrames X.base X.outer
 frf:∀b∈X.fs,X.H₀ b=none
structure Inv (X:Cx) (pins:List (Addr×Obj)) (σ:List (Option V)) (H:Hp) (s:Shared):Prop where
 ok:X.Ok
 os:s.os=X.s₀.os
 bare:AllBare s.gens
 base:Un X.fs X.ex X.H₀ H X.s₀.heap s.heap
 loc:∃m,s.heap.Ns X.env.locals m/\∀(i:Nat) (x:Str) (v:V),X.N[i]?=some x->σ[i]?=some (some v)->Vis X.env.scope x->∃u,RelV v u/\Look X.env s.heap m x u
 cell:∀x c,X.env.cells.lookup x=some c->∃v,s.heap.IsCell c v
 free:H X.env.locals=none
 freeC:∀x c,X.env.cells.lookup x=some c->H c=none
 pin:∀p∈X.pn++pins,s.heap.get? p.1=some p.2/\H p.1=none/\p.1≠X.env.locals/\p.1∉X.fs/\∀v,p.2.data≠.cell v
 hok:HOk X.prog X.w H s.heap
 len:σ.length=X.N.length
section
variable {X:Cx} {pins:List (Addr×Obj)} {σ:List (Option V)} {H H':Hp} {s:Shared} {h':Heap}
theorem Cx.Ok.nofr (ok:X.Ok) {o:Obj} (e:X.base.get? b=some o):b∉X.fs:=fun hb=>by
 have:=(ok.funs.mem hb).1;rw [e] at this;cases this
theorem Inv.bs (I:Inv X pins σ H s):∀b o,X.base.get? b=some o->s.heap.get? b=some o/\H b=none:=fun b o e =>
 ⟨I.base.keep b o (I.ok.bs b o e).1 (I.ok.bs b o e).2 (I.ok.nofr e) (I.ok.noex b o e),I.base.free b o (I.ok.bs b o e).1 (I.ok.bs b o e).2 (I.ok.noex b o e)⟩
theorem Inv.bk (I:Inv X pins σ H s):∀b o,X.base.get? b=some o->s.heap.get? b=some o:=fun b o e=>(I.bs b o e).1
theorem Inv.mod (I:Inv X pins σ H s):Mod X.K X.mg X.base:=I.ok.mod
theorem Inv.kIn (I:Inv X pins σ H s):X.K.In s.heap:=I.ok.mod.kin.keeps I.bk
theorem Inv.lt (I:Inv X pins σ H s):X.env.locals<s.heap.objs.size:=let ⟨_,hn,_⟩:=I.loc;hn.lt
theorem Inv.sz (I:Inv X pins σ H s):X.s₀.heap.objs.size<=s.heap.objs.size:=qAc I.ok.above (qB6 I.lt)
theorem Inv.nofs (I:Inv X pins σ H s) (h:s.heap.objs.size<=a):a∉X.fs:=fun hb=>by
 obtain ⟨_,o,ho,_⟩:=I.ok.funs.mem hb;exact absurd (qAn (qAK ho) (qAc I.sz h)) (qBS _)
theorem Inv.cne (I:Inv X pins σ H s):∀x c,X.env.cells.lookup x=some c->c≠X.env.locals:=fun x c e z=>by
 obtain ⟨v,o,ho,hd⟩:=I.cell x c e;obtain ⟨m,⟨o',es,ep,ho',hd',_⟩,_⟩:=I.loc;rw [z,ho'] at ho;cases ho;rw [hd'] at hd;cases hd
theorem Inv.funs (I:Inv X pins σ H s):s.heap.FunFrames X.base X.outer:=by
 have all:∀(l:List Env),(∀b∈frs l,b∈X.fs)->X.s₀.heap.FunFrames X.base l->s.heap.FunFrames X.base l:=by
  intro l
  induction l with
  | nil=>intro _ _;trivial
  | cons env r ih =>
   intro hs hl;obtain ⟨hk,⟨L,o,hf,hn,ho,hd⟩,hr⟩:=hl;have hL:L∈X.fs:=hs L (by unfold frs;rw [qB7,hf];exact qAV);obtain ⟨sl,e⟩:=I.base.slot L o ho (I.ok.frf L hL) hL fun z=>I.ok.exfs L z hL;exact ⟨hk,⟨L,_,hf,hn,e,hd⟩,ih (fun b hb=>hs b (by unfold frs;rw [qB7,hf];exact qAU _ hb)) hr⟩
 exact all X.outer (fun _ hb=>hb) I.ok.funs
theorem Inv.stack (I:Inv X pins σ H s):s.heap.FunFrames X.base X.stack:=by
 rcases I.ok.stk with e| ⟨e,hf⟩
 ·rw [e];exact I.funs
 ·rw [e];obtain ⟨m,hn,_⟩:=I.loc;refine .cons (by rw [I.ok.kind];decide) hf hn ?_ I.funs;exact Heap.get?_none_of_le (qAc I.ok.bsz I.ok.above)
theorem Inv.stkSub (I:Inv X pins σ H s):∀b∈frs X.stack,b∈X.env.locals::X.fs:=fun b hb=>by
 rcases I.ok.stk with e| ⟨e,hf⟩
 ·rw [e] at hb;exact qAU _ hb
 ·rw [e] at hb;unfold frs at hb;rw [qB7,hf] at hb;exact hb
theorem Inv.stkFree (I:Inv X pins σ H s):∀b∈frs X.stack,H b=none:=fun b hb=>by
 rcases qAS.mp (I.stkSub b hb) with e| hb
 ·rw [e];exact I.free
 ·obtain ⟨_,o,ho,_⟩:=I.ok.funs.mem hb;exact I.base.free b o ho (I.ok.frf b hb) fun z=>I.ok.exfs b z hb
theorem Inv.step {g':Array GenState} {t':Nat} {d':Drawn} {ch:List Addr} (I:Inv X pins σ H s)
  (hch:∀b∈ch,(b∈X.ex\/X.s₀.heap.objs.size<=b)/\b≠X.env.locals/\(∀x c,X.env.cells.lookup x=some c->c≠b)/\∀p∈X.pn++pins,p.1≠b)
  (keep:∀b o,b≠X.env.locals->b∉X.fs->b∉ch->s.heap.get? b=some o->H b=none->h'.get? b=some o)
  (slot:∀b o,b≠X.env.locals->b∈X.fs->b∉ch->s.heap.get? b=some o->H b=none->∃sl,h'.get? b=some {o with slots:=sl}) (free:∀b o,b∉ch->s.heap.get? b=some o->H b=none->H' b=none)
  (there:∀b o,b∉ch->s.heap.get? b=some o->∃o',h'.get? b=some o')
  (tups:∀b xs,H b=some (.tup xs)->H' b=some (.tup xs)) (frzs:∀b o u,H b=some (.frz o u)->H' b=some (.frz o u)) (tbls:∀b ps,H b=some (.tbl ps)->∃more,H' b=some (.tbl (ps++more)))
  (ns:∀m,s.heap.Ns X.env.locals m->h'.Ns X.env.locals m) (hok:HOk X.prog X.w H' h') (hg:AllBare g') :
  Inv X pins σ H' {s with heap:=h',gens:=g',drawn:=d',toks:=t'}:=by
 have neL:∀b o,X.s₀.heap.get? b=some o->b≠X.env.locals:=fun b o e=>qAT (qAn (qAK e) I.ok.above)
 have neC:∀b o,X.s₀.heap.get? b=some o->b∉X.ex->b∉ch:=fun b o e hx hb=>by
  rcases (hch b hb).1 with z| z
  ·exact hx z
  ·exact absurd (qAn (qAK e) z) (qBS _)
 have cellK:∀x c,X.env.cells.lookup x=some c->∀v,s.heap.IsCell c v->h'.IsCell c v:=fun x c e v ⟨o,ho,hd⟩=>by
  have nch:c∉ch:=fun z=>(hch c z).2.2.1 x c e rfl
  by_cases hc:c∈X.fs
  ·obtain ⟨sl,q⟩:=slot c o (I.cne x c e) hc nch ho (I.freeC x c e);exact ⟨_,q,hd⟩
  ·exact ⟨o,keep c o (I.cne x c e) hc nch ho (I.freeC x c e),hd⟩
 refine ⟨I.ok,I.os,hg,⟨fun b o e n hb hx=>?_,fun b o e n hb hx=>?_,fun b o e n hx=>?_,fun b o e hx=>?_,fun b xs e=>tups b xs (I.base.tups b xs e),fun b o xs e=>frzs b o xs (I.base.frzs b o xs e),fun b ps e=>?_⟩,?_,fun x c e=>?_,?_,fun x c e=>?_,fun p hp=>?_,hok,I.len⟩
 ·exact keep b o (neL b o e) hb (neC b o e hx) (I.base.keep b o e n hb hx) (I.base.free b o e n hx)
 ·obtain ⟨sl,e1⟩:=I.base.slot b o e n hb hx;obtain ⟨sl',e2⟩:=slot b _ (neL b o e) hb (neC b o e hx) e1 (I.base.free b o e n hx);exact ⟨sl',e2⟩
 ·obtain ⟨o',e1⟩:=I.base.there b o e hx;exact free b o' (neC b o e hx) e1 (I.base.free b o e n hx)
 ·obtain ⟨o',e1⟩:=I.base.there b o e hx;exact there b o' (neC b o e hx) e1
 ·obtain ⟨m1,e1⟩:=I.base.tbls b ps e;obtain ⟨m2,e2⟩:=tbls b _ e1;exact ⟨m1++m2,by rw [e2,Array.append_assoc]⟩
 ·obtain ⟨m,hn,hl⟩:=I.loc;refine ⟨m,ns m hn,fun i x v e1 e2 e3=>?_⟩;obtain ⟨u,r,l⟩:=hl i x v e1 e2 e3;refine ⟨u,r,?_⟩;rcases l with l| ⟨k,c,e,z⟩
  ·exact .inl l
  ·exact .inr ⟨k,c,e,cellK x c e _ z⟩
 ·obtain ⟨v,z⟩:=I.cell x c e;exact ⟨v,cellK x c e v z⟩
 ·obtain ⟨m,⟨o,_,_,ho,_⟩,_⟩:=I.loc;exact free _ o (fun z=>(hch _ z).2.1 rfl) ho I.free
 ·obtain ⟨v,o,ho,hd⟩:=I.cell x c e;exact free c o (fun z=>(hch c z).2.2.1 x c e rfl) ho (I.freeC x c e)
 ·obtain ⟨e,n,ne,nf,d⟩:=I.pin p hp;have nch:p.1∉ch:=fun z=>(hch p.1 z).2.2.2 p hp rfl;exact ⟨keep p.1 p.2 ne nf nch e n,free p.1 p.2 nch e n,ne,nf,d⟩
theorem Inv.un {t':Nat} (I:Inv X pins σ H s) (u:Un X.fs [] H H' s.heap h') (hok:HOk X.prog X.w H' h'):Inv X pins σ H' {s with heap:=h',toks:=t'}:=by
 obtain ⟨m,⟨o,es,ep,ho,r⟩,_⟩:=id I.loc;obtain ⟨sl,hL⟩:=u.any ho I.free (by simp)
 exact I.step (g':=s.gens) (d':=s.drawn) (ch:=[]) (fun _ z=>nomatch z) (fun b o _ hb _ e n=>u.keep b o e n hb (by simp)) (fun b o _ hb _ e n=>u.slot b o e n hb (by simp)) (fun b o _ e n=>u.free b o e n (by simp)) (fun b o _ e=>u.there b o e (by simp)) u.tups u.frzs u.tbls (fun m' hm=>by
  obtain ⟨o',es',ep',ho',r'⟩:=hm;rw [ho] at ho';cases ho';exact ⟨_,es',ep',hL,r'⟩) hok I.bare
theorem Inv.call {g':Array GenState} {t':Nat} {d':Drawn} {ch:List Addr} (I:Inv X pins σ H s) (u:Un (frs X.stack) ch H H' s.heap h') (hok:HOk X.prog X.w H' h') (hg:AllBare g')
  (hch:∀b∈ch,(b∈X.ex\/X.s₀.heap.objs.size<=b)/\b≠X.env.locals/\(∀x c,X.env.cells.lookup x=some c->c≠b)/\∀p∈X.pn++pins,p.1≠b) :
  Inv X pins σ H' {s with heap:=h',gens:=g',drawn:=d',toks:=t'}:=by
 obtain ⟨m,⟨o,es,ep,ho,r⟩,_⟩:=id I.loc;obtain ⟨sl,hL⟩:=u.any ho I.free fun z=>(hch _ z).2.1 rfl
 exact I.step (ch:=ch) hch (fun b o hL hb hc e n=>u.keep b o e n (fun z=>(qAS.mp (I.stkSub b z)).elim hL hb) hc) (fun b o _ _ hc e n=>u.any e n hc) (fun b o hc e n=>u.free b o e n hc) (fun b o hc e=>u.there b o e hc) u.tups u.frzs u.tbls (fun m' hm=>by
  obtain ⟨o',es',ep',ho',r'⟩:=hm;rw [ho] at ho';cases ho';exact ⟨_,es',ep',hL,r'⟩) hok hg
theorem Inv.turned {t':Nat} {it:Addr} (I:Inv X pins σ H s) (k:∀b o,b≠it->s.heap.get? b=some o->h'.get? b=some o) (hn:H it=none) (hL:it≠X.env.locals)
  (h1:it∈X.ex\/X.s₀.heap.objs.size<=it) (h2:∀x c,X.env.cells.lookup x=some c->c≠it) (h3:∀p∈X.pn++pins,p.1≠it):Inv X pins σ H {s with heap:=h',toks:=t'}:=by
 have nit:∀b u,H b=some u->b≠it:=fun b u e z=>by rw [z,hn] at e;cases e
 refine I.step (g':=s.gens) (d':=s.drawn) (ch:=[it]) (fun b hb=>?_) (fun b o _ _ hc e _=>k b o (fun z=>hc (by simp [z])) e) (fun b o _ _ hc e _=>⟨o.slots,k b o (fun z=>hc (by simp [z])) e⟩) (fun _ _ _ _ n=>n)
  (fun b o hc e=>⟨o,k b o (fun z=>hc (by simp [z])) e⟩) (fun _ _ e=>e) (fun _ _ _ e=>e) (fun b ps e=>⟨#[],by rw [e];simp⟩) (fun m hm=>?_) (fun b u e=>?_) I.bare
 ·have e:b=it:=by simpa using hb
  subst e;exact ⟨h1,hL,h2,h3⟩
 ·obtain ⟨o,es,ep,ho,r⟩:=hm;exact ⟨o,es,ep,k _ o (qAm hL) ho,r⟩
 ·refine (I.hok b u e).stay (fun c v hc q=>k c v ?_ q) (fun _ q=>q) fun _ _ q=>q;rcases hc with z| z
  ·rw [z];exact nit b u e
  ·exact nit c _ z
theorem Inv.tok (I:Inv X pins σ H s) (t:Nat):Inv X pins σ H {s with toks:=t}:=I.un (h':=s.heap) (t':=t) Un.refl I.hok
theorem Inv.kept {t':Nat} (I:Inv X pins σ H s) (k:∀b u,s.heap.get? b=some u->h'.get? b=some u):Inv X pins σ H {s with heap:=h',toks:=t'}:=I.un (Un.kept k) (I.hok.kept k)
theorem Inv.laid {a:Addr} {o:HO} {t':Nat} (I:Inv X pins σ H s) (k:∀b u,s.heap.get? b=some u->h'.get? b=some u) (hp:s.heap.objs.size<=a) (new:zBb X.prog X.w (upd H a o) h' a o) :
  Inv X pins σ (upd H a o) {s with heap:=h',toks:=t'}:=I.un (Un.laid k hp (I.hok.fresh hp)) (I.hok.laid k hp new)
theorem Inv.write {x e:Addr} {t':Nat} (I:Inv X pins σ H s) (mu:Mut (H x)) (he:e=x\/H e=some (.own x)) (k:∀b u,b≠e->s.heap.get? b=some u->h'.get? b=some u) (heo:∃u,h'.get? e=some u)
  (new:zBb X.prog X.w (upd H x o) h' x o):Inv X pins σ (upd H x o) {s with heap:=h',toks:=t'}:=I.un (Un.write mu he k heo) (I.hok.write mu he k heo new)
theorem Inv.pins_of {pins':List (Addr×Obj)} (I:Inv X pins σ H s) (h:∀p∈pins',s.heap.get? p.1=some p.2/\H p.1=none/\p.1≠X.env.locals/\p.1∉X.fs/\∀v,p.2.data≠.cell v):Inv X pins' σ H s :=
 ⟨I.ok,I.os,I.bare,I.base,I.loc,I.cell,I.free,I.freeC,fun p hp=>(qAN.mp hp).elim (fun z=>I.pin p (qAq _ z)) (h p),I.hok,I.len⟩
theorem nodup_ix {N:List Str} (hN:N.Nodup) {j:Nat} (a:N[i]?=some x) (b:N[j]?=some x):i=j:=by
 obtain ⟨h1,e1⟩:=qAh.mp a;obtain ⟨h2,e2⟩:=qAh.mp b;exact (List.getElem_inj hN).mp (e1.trans e2.symm)
theorem store_ok2 {M:Model} {E:Value->Shared->Prop} {Q:Unit->Shared->Prop} (I:Inv X pins σ H s) (hN:X.N.Nodup) (hi:X.N[i]?=some x) (hx:Loc X.env.scope x) (r:RelV v u)
  (h:∀s',Inv X pins (σ.set i (some v)) H s'->(∃a,Heap.SameBut a s.heap s'.heap/\(a=X.env.locals\/X.env.cells.lookup x=some a))->Q () s') (hf:X.fn x=true\/X.env.scope.names.lookup x=some .local:=by first| exact .inl rfl| exact .inr rfl| assumption):wpAny M A (storeName X.env x u) Q E s:=by
 obtain ⟨m,hn,hl⟩:=id I.loc;have hcls:(X.env.scope.kind== .class||(X.env.scope.kind== .module&&X.env.locals != X.env.globals))=false:=by rw [I.ok.kind];rfl
 have hiσ:i<σ.length:=by rw [I.len];exact (qAh.mp hi).1
 have cne:=I.cne
 have tracked:∀{a:Addr} {h':Heap},(∃o,s.heap.get? a=some o/\H a=none)->Heap.SameBut a s.heap h'->HOk X.prog X.w H h':=fun {a h'} ha hs b ob e=>by
  obtain ⟨_,_,hfree⟩:=ha;refine (I.hok b ob e).stay (fun c w' hc q=>(hs.2 c ?_).trans q) (fun _ q=>q) fun _ _ q=>q;rintro rfl;rcases hc with rfl| hc
  ·rw [hfree] at e;cases e
  ·rw [hfree] at hc;cases hc
 rcases hx with hk| hk
 ·refine wpAny_storeName_local hk hn (fun h' hn' hs=>?_) hcls;obtain ⟨oL,_,_,hoL,_⟩:=id hn;refine h _ ⟨I.ok,I.os,I.bare,⟨fun b o e n hb hx=>?_,fun b o e n hb hx=>?_,I.base.free,fun b o e hx=>?_,I.base.tups,I.base.frzs,I.base.tbls⟩,⟨_,hn',fun j y v' e1 e2 e3=>?_⟩,fun y c e=>?_,I.free,I.freeC,fun p hp=>?_,tracked ⟨oL,hoL,I.free⟩ hs,by simpa using I.len⟩ ⟨_,hs,.inl rfl⟩
  ·exact (hs.2 b (qAT (qAn (qAK e) I.ok.above))).trans (I.base.keep b o e n hb hx)
  ·obtain ⟨sl,e1⟩:=I.base.slot b o e n hb hx;exact ⟨sl,(hs.2 b (qAT (qAn (qAK e) I.ok.above))).trans e1⟩
  ·obtain ⟨o',e1⟩:=I.base.there b o e hx;exact ⟨o',(hs.2 b (qAT (qAn (qAK e) I.ok.above))).trans e1⟩
  ·by_cases hj:j=i
   ·subst hj;rw [hi] at e1;cases e1;rw [qDA hiσ] at e2
    cases e2
    exact ⟨u,r,.inl ⟨hk,by simp⟩⟩
   ·rw [List.getElem?_set_ne (qAm hj)] at e2;obtain ⟨u',r',q⟩:=hl j y v' e1 e2 e3;refine ⟨u',r',?_⟩;rcases q with ⟨k,e⟩| ⟨k,c,e,z⟩
    ·refine .inl ⟨k,?_⟩;have:y≠x:=fun e=>hj (nodup_ix hN e1 (e▸hi));simp [this,e]
    ·exact .inr ⟨k,c,e,z.sameBut hs (cne y c e)⟩
  ·obtain ⟨w',z⟩:=I.cell y c e;exact ⟨w',z.sameBut hs (cne y c e)⟩
  ·obtain ⟨e,n,ne,nf,d⟩:=I.pin p hp;exact ⟨(hs.2 p.1 ne).trans e,n,ne,nf,d⟩
 ·have hfn:X.fn x=true:=by
   rcases hf with z| z
   ·exact z
   ·rw [z] at hk;cases hk
  obtain ⟨c,hc⟩:=I.ok.has x (.inl hk);obtain ⟨w',z⟩:=I.cell x c hc;refine wpAny_storeName_cell I.ok.kind hk hc z (fun h' hc' hs=>?_);obtain ⟨oc,hoc,hocd⟩:=id z;refine h {s with heap:=h'} ⟨I.ok,I.os,I.bare,⟨fun b o e n hb hx=>?_,fun b o e n hb hx=>?_,I.base.free,fun b o e hx=>?_,I.base.tups,I.base.frzs,I.base.tbls⟩,⟨m,hn.sameBut hs (qAm (cne x c hc)),fun j y v' e1 e2 e3=>?_⟩,fun y c' e=>?_,I.free,I.freeC,fun p hp=>?_,tracked ⟨oc,hoc,I.freeC x c hc⟩ hs,by simpa using I.len⟩ ⟨c,hs,.inr hc⟩
  ·exact (hs.2 b (qAT (qAn (qAK e) (I.ok.cab x c hfn hc)))).trans (I.base.keep b o e n hb hx)
  ·obtain ⟨sl,e1⟩:=I.base.slot b o e n hb hx;exact ⟨sl,(hs.2 b (qAT (qAn (qAK e) (I.ok.cab x c hfn hc)))).trans e1⟩
  ·obtain ⟨o',e1⟩:=I.base.there b o e hx;exact ⟨o',(hs.2 b (qAT (qAn (qAK e) (I.ok.cab x c hfn hc)))).trans e1⟩
  ·by_cases hj:j=i
   ·subst hj;rw [hi] at e1;cases e1;rw [qDA hiσ] at e2
    cases e2
    exact ⟨u,r,.inr ⟨.inl hk,c,hc,hc'⟩⟩
   ·rw [List.getElem?_set_ne (qAm hj)] at e2;obtain ⟨u',r',q⟩:=hl j y v' e1 e2 e3;refine ⟨u',r',?_⟩;rcases q with q| ⟨k,c',e,z'⟩
    ·exact .inl q
    ·refine .inr ⟨k,c',e,z'.sameBut hs ?_⟩;rintro rfl;exact hj (nodup_ix hN e1 (I.ok.inj _ _ _ e hc▸hi))
  ·by_cases hcc:c'=c
   ·subst hcc;exact ⟨_,hc'⟩
   ·obtain ⟨w2,z2⟩:=I.cell y c' e;exact ⟨w2,z2.sameBut hs hcc⟩
  ·obtain ⟨e,n,ne,nf,d⟩:=I.pin p hp;refine ⟨(hs.2 p.1 ?_).trans e,n,ne,nf,d⟩;intro q;rw [q,hoc] at e;have q':oc=p.2:=qAd e;exact d w' (by rw [<-q'];exact hocd)
theorem store_ok {M:Model} {E:Value->Shared->Prop} {Q:Unit->Shared->Prop} (I:Inv X pins σ H s) (hN:X.N.Nodup) (hi:X.N[i]?=some x) (hx:Loc X.env.scope x) (r:RelV v u)
  (h:∀s',Inv X pins (σ.set i (some v)) H s'->Q () s') (hf:X.fn x=true\/X.env.scope.names.lookup x=some .local:=by first| exact .inl rfl| exact .inr rfl| assumption):wpAny M A (storeName X.env x u) Q E s :=
 store_ok2 I hN hi hx r (fun s' I' _=>h s' I') hf
theorem Inv.call' {s':Shared} {ch:List Addr} (I:Inv X pins σ H s) (ho:s'.os=s.os) (u:Un (frs X.stack) ch H H' s.heap s'.heap) (hok:HOk X.prog X.w H' s'.heap) (hg:AllBare s'.gens)
  (hch:∀b∈ch,(b∈X.ex\/X.s₀.heap.objs.size<=b)/\b≠X.env.locals/\(∀x c,X.env.cells.lookup x=some c->c≠b)/\∀p∈X.pn++pins,p.1≠b):Inv X pins σ H' s':=by
 obtain ⟨h',g',d',t',o'⟩:=s';have e:o'=s.os:=ho;subst e;exact I.call (g':=g') (t':=t') (d':=d') u hok hg hch
end
abbrev XK:=Value->Option Addr->Hp->Prop
abbrev St:=List (Option V)
variable {σ:St}
abbrev VK:=V->Hp->Prop
abbrev TE:=St->Hp->VK->Prop
variable {t:TE}
abbrev TT:=St->Hp->(Bool->Hp->Prop)->Prop
abbrev TA:=St->Hp->(List V->Hp->Prop)->Prop
structure Ends where
 nx:St->Hp->Prop
 rt:VK
 bk:St->Hp->Prop:=fun _ _=>False
 ct:St->Hp->Prop:=fun _ _=>False
variable {D:Ends}
abbrev TS:=Ends->St->Hp->Prop
variable {tb:TS}
def EP (X:Cx) (pins:List (Addr×Obj)) (σ:St) (Q:VK) (u:Value) (s':Shared):Prop:=∃v H',Inv X pins σ H' s'/\RelV v u/\Q v H'
def TP (X:Cx) (pins:List (Addr×Obj)) (σ:St) (Q:Bool->Hp->Prop) (b:Bool) (s':Shared):Prop:=∃H',Inv X pins σ H' s'/\Q b H'
def AP (X:Cx) (pins:List (Addr×Obj)) (σ:St) (Q:List V->Hp->Prop) (us:List Value) (s':Shared):Prop:=∃vs H',Inv X pins σ H' s'/\Vals vs us/\Q vs H'
def SP (X:Cx) (pins:List (Addr×Obj)) (D:Ends) (f:Flow) (s':Shared):Prop :=
 match f with
 | .next=>∃σ' H',Inv X pins σ' H' s'/\D.nx σ' H'
 | .brk=>∃σ' H',Inv X pins σ' H' s'/\D.bk σ' H'
 | .cont=>∃σ' H',Inv X pins σ' H' s'/\D.ct σ' H'
 | .ret u=>∃v σ' H',Inv X pins σ' H' s'/\RelV v u/\D.rt v H'
def PE (X:Cx) (e:Expr) (t:TE):Prop :=
 ∀(pins:List (Addr×Obj)) (s:Shared) (σ:St) (H:Hp) (Q:VK),Inv X pins σ H s->t σ H Q->wpAny (model X.prog X.w) X.A (eval e X.env) (EP X pins σ Q) X.xe s
def PT (X:Cx) (e:Expr) (t:TT):Prop :=
 ∀(pins:List (Addr×Obj)) (s:Shared) (σ:St) (H:Hp) (Q:Bool->Hp->Prop),Inv X pins σ H s->t σ H Q->wpAny (model X.prog X.w) X.A (isTrue e X.env (eval e X.env)) (TP X pins σ Q) X.xe s
def PW (X:Cx) (e:Expr) (t:TT):Prop :=
 ∀(whole:Sem Value) (pins:List (Addr×Obj)) (s:Shared) (σ:St) (H:Hp) (Q:Bool->Hp->Prop),Inv X pins σ H s->t σ H Q->wpAny (model X.prog X.w) X.A (isTrue e X.env whole) (TP X pins σ Q) X.xe s
theorem PW.pt {t:TT} (h:PW X e t):PT X e t:=h _
def PA (X:Cx) (es:List Expr) (t:TA):Prop :=
 ∀(pos:Pos) (pins:List (Addr×Obj)) (s:Shared) (σ:St) (H:Hp) (Q:List V->Hp->Prop),Inv X pins σ H s->t σ H Q->wpAny (model X.prog X.w) X.A (spliced (backTo pos (starEach es X.env))) (AP X pins σ Q) X.xe s
def PS (X:Cx) (st:Stmt) (t:TS):Prop :=
 ∀(pins:List (Addr×Obj)) (s:Shared) (σ:St) (H:Hp) (D:Ends),Inv X pins σ H s->t D σ H->wpAny (model X.prog X.w) X.A (exec st X.env) (SP X pins D) X.xe s
def PSs (X:Cx) (st:List Stmt) (t:TS):Prop :=
 ∀(pins:List (Addr×Obj)) (s:Shared) (σ:St) (H:Hp) (D:Ends),Inv X pins σ H s->t D σ H->wpAny (model X.prog X.w) X.A (execs st X.env) (SP X pins D) X.xe s
theorem thn {α:Type} {t:Sem α} {Q Q':α->Shared->Prop} {M:Model} {E:Value->Shared->Prop} (h:wpAny M A t Q E s) (hQ:∀a s,Q a s->Q' a s):wpAny M A t Q' E s:=qAx h hQ fun _ _ x=>x
section
variable {X:Cx}
def tVar (i:Nat):TE:=fun σ H Q=>∃v,σ[i]?=some (some v)/\Q v H
def tC (v:V):TE:=fun _ H Q=>Q v H
theorem pe_var (hN:X.N[i]?=some x) (hv:Vis X.env.scope x) (hd:(x==("__debug__" : Str))=false:=by decide) (hcd:(x==("__classdict__" : Str))=false:=by decide):PE X (.Name x pos) (tVar i):=by
 intro pins s σ H Q I h;obtain ⟨v,e,h⟩:=h;obtain ⟨m,hn,hl⟩:=I.loc;obtain ⟨u,r,l⟩:=hl i x v hN e hv;have fin:EP X pins σ Q u s:=⟨v,H,I,r,h⟩;rcases l with ⟨hk,hm⟩| ⟨hk,c,hc,hcell⟩
 ·exact wpAny_Name (wpAny_loadName_local I.ok.kind hk hn hm fin) hd
 ·rcases hk with hk| hk
  ·exact wpAny_Name (wpAny_loadName_cell I.ok.kind hk hc hcell fin) hd
  ·exact wpAny_Name (wpAny_loadName_free I.ok.kind hk hc hcell fin hcd) hd
theorem zAh {i j pos}:PE X (.Constant (.int i) j pos) (tC (.int i)):=fun _ _ _ H _ I h=>wpAny_Constant_int ⟨.int i,H,I.tok _,⟨_,rfl⟩,h⟩
theorem pe_bl {b j pos}:PE X (.Constant (.bool b) j pos) (tC (.bl b)):=fun _ _ _ H _ I h=>Constant_bool ⟨.bl b,H,I,rfl,h⟩
theorem zD6 {j pos}:PE X (.Constant .none j pos) (tC .non):=fun _ _ _ H _ I h=>Constant_none ⟨.non,H,I,rfl,h⟩
theorem zA4 {x j pos}:PE X (.Constant (.str x) j pos) (tC (.str x)):=fun _ _ _ H _ I h=>Calls.Constant_str ⟨.str x,H,I.tok _,⟨_,rfl⟩,h⟩
def Gl (X:Cx) (x:Str):Prop:=X.env.kindOf x=some .globalImplicit
theorem ld_glob {E:Value->Shared->Prop} {Q:Value->Shared->Prop} (I:Inv X pins σ H s) (hg:Gl X x) (hm:X.mg x=some u) (h:Q u s)
  (hd:(x==("__debug__" : Str))=false:=by decide):wpAny (model X.prog X.w) X.A (eval (.Name x pos) X.env) Q E s :=
 Calls.Name_function_global I.ok.kind hg (Calls.loadGlobal_global (by rw [I.ok.glob];exact I.mod.glob.keeps I.bk) hm h) hd
theorem zF5 {E:Value->Shared->Prop} {Q:Value->Shared->Prop} (I:Inv X pins σ H s) (hg:Gl X x) (hm:X.mg x=none) (hv:bootBuiltins x=some u) (h:Q u s)
  (hn:x≠ "__name__" := by decide) (hd:(x==("__debug__" : Str))=false:=by decide):wpAny (model X.prog X.w) X.A (eval (.Name x pos) X.env) Q E s:=by
 obtain ⟨mb,h1,h2⟩:=I.mod.blt;exact Calls.Name_function_global I.ok.kind hg (Calls.loadGlobal_builtin (by rw [I.ok.glob];exact I.mod.glob.keeps I.bk) hm (by rw [I.ok.blt];exact h1.keeps I.bk) ((h2 x hn).trans hv) h) hd
theorem pe_glob (hg:Gl X x) (hm:X.mg x=some u) (r:RelV v u) (hd:(x==("__debug__" : Str))=false:=by decide):PE X (.Name x pos) (tC v) :=
 fun _ _ _ H _ I h=>ld_glob I hg hm ⟨v,H,I,r,h⟩ hd
theorem zBm (hg:Gl X x) (hm:X.mg x=none) (hv:bootBuiltins x=some u) (r:RelV v u) (hn:x≠ "__name__" := by decide) (hd:(x==("__debug__" : Str))=false:=by decide):PE X (.Name x pos) (tC v) :=
 fun _ _ _ H _ I h=>zF5 I hg hm hv ⟨v,H,I,r,h⟩ hn hd
variable {a b:Expr} {ta tb:TE} {pos:Pos}
def PC (X:Cx) (op:CmpOp) (a b:Expr) (t:TE):Prop :=
 ∀(pins:List (Addr×Obj)) (s:Shared) (σ:St) (H:Hp) (Q:VK),Inv X pins σ H s->t σ H Q ->
  wpAny (model X.prog X.w) X.A (eval a X.env) (fun v s₁=>wpAny (model X.prog X.w) X.A (eval b X.env) (fun u s₂=>wpAny (model X.prog X.w) X.A (compareOp op v u) (EP X pins σ Q) X.xe s₂) X.xe s₁) X.xe s
def tB (t:TE):TT:=fun σ H Q=>t σ H fun x H1=>∃c,x= .bl c/\Q c H1
theorem pe_cmp (h:PC X op a b t) (h1:behindInMarks op b=false:=by first| exact nobehind _ (by decide) (by decide)| rfl):PE X (.Compare a [op] [b] pos) t:=fun pins s σ H Q I hw=>wpAny_Compare1 (h pins s σ H Q I hw) h1
theorem zGy (h:PC X op a b t) (h1:behindInMarks op b=false:=by first| exact nobehind _ (by decide) (by decide)| rfl):PT X (.Compare a [op] [b] pos) (tB t):=by
 intro pins s σ H Q I hw;refine wpAny_isTrue_Compare1 (thn (h pins s σ H _ I hw) fun v s1 h1=>thn h1 fun u s2 h2=>thn h2 fun c s3 ⟨x,H1,I1,r1,q1⟩=>?_) h1;obtain ⟨d,rfl,q⟩:=q1
 cases r1
 exact qA5 ⟨H1,I1,q⟩
theorem zBp (h:PE X e t) (he:∀whole,isTrue e X.env whole=(do let v<-whole;standAt e.pos;holding [v] (truthy v)):=by intro _;rfl):PT X e (tB t):=by
 intro pins s σ H Q I hw;refine isTrue_plain (thn (h pins s σ H _ I hw) fun v s1 ⟨x,H1,I1,r1,q1⟩=>?_) (he _);obtain ⟨d,rfl,q⟩:=q1
 cases r1
 exact qA5 ⟨H1,I1,q⟩
variable {tA tB':TT} {rest:List Expr}
def tAnd (t u:TT):TT:=fun σ H Q=>t σ H fun c H1=>if c=true then u σ H1 Q else Q false H1
def tOr (t u:TT):TT:=fun σ H Q=>t σ H fun c H1=>if c=true then Q true H1 else u σ H1 Q
def tNot (t:TT):TT:=fun σ H Q=>t σ H fun c H1=>Q (!c) H1
theorem zGx (ha:PT X a tA):PW X (.BoolOp .And [a] pos) tA:=by
 intro wh pins s σ H Q I h;refine isTrue_and (thn (ha pins s σ H Q I h) fun c s1 e=>?_)
 cases c with
 | true=>exact isTrue_and_nil e
 | false=>exact e
theorem pw_or1 (ha:PT X a tA):PW X (.BoolOp .Or [a] pos) tA:=by
 intro wh pins s σ H Q I h;refine isTrue_or (thn (ha pins s σ H Q I h) fun c s1 e=>?_)
 cases c with
 | false=>exact isTrue_or_nil e
 | true=>exact e
theorem pw_and (ha:PT X a tA) (hb:PW X (.BoolOp .And (b::rest) pos) tB'):PW X (.BoolOp .And (a::b::rest) pos) (tAnd tA tB'):=by
 intro wh pins s σ H Q I h;refine isTrue_and (thn (ha pins s σ H _ I h) fun c s1 ⟨H1,I1,q1⟩=>?_)
 cases c with
 | true=>exact hb wh pins s1 σ H1 Q I1 q1
 | false=>exact ⟨H1,I1,q1⟩
theorem pw_or (ha:PT X a tA) (hb:PW X (.BoolOp .Or (b::rest) pos) tB'):PW X (.BoolOp .Or (a::b::rest) pos) (tOr tA tB'):=by
 intro wh pins s σ H Q I h;refine isTrue_or (thn (ha pins s σ H _ I h) fun c s1 ⟨H1,I1,q1⟩=>?_)
 cases c with
 | true=>exact ⟨H1,I1,q1⟩
 | false=>exact hb wh pins s1 σ H1 Q I1 q1
theorem zDw (ha:PT X a tA):PT X (.UnaryOp .Not a pos) (tNot tA):=by
 intro pins s σ H Q I h;exact isTrue_not (ha pins s σ H (fun c H1=>Q (!c) H1) I h)
def tAndV (ta tb:TE):TE:=fun σ H Q=>ta σ H fun x H1=>∃c,x= .bl c/\if c=true then tb σ H1 Q else Q (.bl false) H1
def tOrV (ta tb:TE):TE:=fun σ H Q=>ta σ H fun x H1=>∃c,x= .bl c/\if c=true then Q (.bl true) H1 else tb σ H1 Q
def tNotV (ta:TE):TE:=fun σ H Q=>ta σ H fun x H1=>∃c,x= .bl c/\Q (.bl (!c)) H1
theorem pe_one {op} (h:PE X a t):PE X (.BoolOp op [a] pos) t:=fun pins s σ H Q I hw=>BoolOp_one (h pins s σ H Q I hw)
theorem pe_and (ha:PE X a ta) (hb:PE X (.BoolOp .And (b::rest) pos) tb):PE X (.BoolOp .And (a::b::rest) pos) (tAndV ta tb):=by
 intro pins s σ H Q I h;refine BoolOp_and (thn (ha pins s σ H _ I h) fun v s1 ⟨x,H1,I1,r1,q1⟩=>?_);obtain ⟨c,rfl,q1⟩:=q1
 cases r1
 refine qA5 ?_
 cases c with
 | true=>exact hb pins s1 σ H1 Q I1 q1
 | false=>exact ⟨.bl false,H1,I1,rfl,q1⟩
theorem pe_or (ha:PE X a ta) (hb:PE X (.BoolOp .Or (b::rest) pos) tb):PE X (.BoolOp .Or (a::b::rest) pos) (tOrV ta tb):=by
 intro pins s σ H Q I h;refine BoolOp_or (thn (ha pins s σ H _ I h) fun v s1 ⟨x,H1,I1,r1,q1⟩=>?_);obtain ⟨c,rfl,q1⟩:=q1
 cases r1
 refine qA5 ?_
 cases c with
 | false=>exact hb pins s1 σ H1 Q I1 q1
 | true=>exact ⟨.bl true,H1,I1,rfl,q1⟩
theorem pe_not (ha:PE X a ta):PE X (.UnaryOp .Not a pos) (tNotV ta):=by
 intro pins s σ H Q I h;refine UnaryOp_ (thn (ha pins s σ H _ I h) fun v s1 ⟨x,H1,I1,r1,q1⟩=>?_);obtain ⟨c,rfl,q1⟩:=q1
 cases r1
 exact not_of (qA5 ⟨.bl (!c),H1,I1,rfl,q1⟩)
def tIf (t:TT) (ta tb:TE):TE:=fun σ H Q=>t σ H fun c H1=>if c=true then ta σ H1 Q else tb σ H1 Q
theorem pe_ifExp {c:Expr} (hc:PT X c tA) (ha:PE X a ta) (hb:PE X b tb):PE X (.IfExp c a b pos) (tIf tA ta tb):=by
 intro pins s σ H Q I h;refine wpAny_IfExp (thn (hc pins s σ H _ I h) fun d s1 ⟨H1,I1,q1⟩=>?_)
 cases d with
 | true=>exact ha pins s1 σ H1 Q I1 q1
 | false=>exact hb pins s1 σ H1 Q I1 q1
end
def SqL (K:PySem.W.Frag) (H:Hp) (a:Addr) (xs:List V):Prop :=
 Rd H a (.lst xs) \/
  ∃(o:Obj) (its:Array Value) (n:Nat),K.lookup a=some o/\o.cls= .type "list" /\o.dict=none/\o.data= .seq its n/\its.size<=sizeLine/\Vals xs its.toList
def SqT (K:PySem.W.Frag) (H:Hp) (a:Addr) (xs:List V):Prop :=
 Rd H a (.tup xs) \/
  ∃(o:Obj) (its:Array Value) (n:Nat),K.lookup a=some o/\o.cls= .type "tuple" /\o.data= .seq its n/\its.size<=sizeLine/\Vals xs its.toList
def absV:Value->Option V
 | .none=>some .non
 | .bool b=>some (.bl b)
 | .int i _=>some (.int i)
 | .str x _=>some (.str x)
 | .bytes b _=>some (.byt b)
 | .float b _=>some (.flt b)
 | .ref a=>some (.ref a)
 | .type n=>some (.ty n)
 | _=>none
theorem RelV.abs {x:V} (r:RelV x u):absV u=some x:=by
 cases x with
 | non=>cases r;rfl
 | bl _=>cases r;rfl
 | int _=>obtain ⟨t,rfl⟩:=r;rfl
 | str _=>obtain ⟨t,rfl⟩:=r;rfl
 | byt _=>obtain ⟨t,rfl⟩:=r;rfl
 | flt _=>obtain ⟨t,rfl⟩:=r;rfl
 | ref _=>cases r;rfl
 | ty _=>cases r;rfl
theorem RelV.inj {x:V} (r:RelV x u) (q:RelV y u):x=y:=qAd (r.abs.symm.trans q.abs)
theorem Vals.inj:∀{xs ys:List V} {us:List Value},Vals xs us->Vals ys us->xs=ys
 | _,_,_,.nil,.nil=>rfl
 | _,_,_,.cons r t,.cons r' t'=>by rw [r.inj r',Vals.inj t t']
section
variable {X:Cx} {pins:List (Addr×Obj)} {σ:St} {H:Hp} {s:Shared} {a:Addr} {xs ys:List V}
theorem SqL.of (h:H a=some (.lst xs)):SqL K H a xs:=.inl (.inl h)
theorem SqT.of (h:H a=some (.tup xs)):SqT K H a xs:=.inl (.inl h)
theorem Inv.list (I:Inv X pins σ H s) (h:SqL X.K H a xs):∃its:List Value,Vals xs its/\PlainL s.heap a its.toArray/\xs.length<=sizeLine:=by
 rcases h with h| ⟨o,its,n,hk,hc,hd,hs,hz,r⟩
 ·obtain ⟨z,its,n,r,e⟩:=h.ok I.hok;exact ⟨its,r,⟨_,n,e,rfl,rfl,rfl⟩,z⟩
 ·refine ⟨its.toList,r,⟨o,n,I.kIn a o hk,hc,hd,by simpa using hs⟩,?_⟩;have e:=r.length;simp only [qBb] at e;lia
theorem Inv.tuple (I:Inv X pins σ H s) (h:SqT X.K H a xs):∃its:List Value,Vals xs its/\IsTup s.heap a its.toArray/\xs.length<=sizeLine:=by
 rcases h with h| ⟨o,its,n,hk,hc,hs,hz,r⟩
 ·obtain ⟨z,its,r,p⟩:=h.ok I.hok;exact ⟨its,r,p,z⟩
 ·refine ⟨its.toList,r,⟨o,I.kIn a o hk,hc,n,by simpa using hs⟩,?_⟩;have e:=r.length;simp only [qBb] at e;lia
theorem Inv.list_inj (I:Inv X pins σ H s) (h:SqL X.K H a xs) (h':SqL X.K H a ys):xs=ys:=by
 obtain ⟨its,r,⟨o,n,e,_,_,d⟩,_⟩:=I.list h;obtain ⟨its',r',⟨o',n',e',_,_,d'⟩,_⟩:=I.list h';rw [e] at e';cases e';rw [d] at d';injection d' with d1 _;have:its=its':=by simpa using qAa Array.toList d1
 subst this;exact r.inj r'
theorem Inv.tuple_inj (I:Inv X pins σ H s) (h:SqT X.K H a xs) (h':SqT X.K H a ys):xs=ys:=by
 obtain ⟨its,r,⟨o,e,_,n,d⟩,_⟩:=I.tuple h;obtain ⟨its',r',⟨o',e',_,n',d'⟩,_⟩:=I.tuple h';rw [e] at e';cases e';rw [d] at d';injection d' with d1 _;have:its=its':=by simpa using qAa Array.toList d1
 subst this;exact r.inj r'
end
abbrev Cx.wish (X:Cx) (E:Value->Shared->Prop):Cx:={X with xe:=E}
abbrev Cx.nox (X:Cx):Cx:=X.wish fun _ _=>False
theorem Cx.Ok.wish (ok:X.Ok) (E:Value->Shared->Prop):(X.wish E).Ok :=
 ⟨ok.mod,ok.kind,ok.glob,ok.blt,ok.above,ok.inj,ok.has,ok.cab,ok.hd,ok.frames,ok.stk,ok.exf,ok.bs,ok.bsz,ok.noex,ok.exfs,ok.funs,ok.frf⟩
theorem Cx.Ok.unwish {E:Value->Shared->Prop} (ok:(X.wish E).Ok):X.Ok :=
 ⟨ok.mod,ok.kind,ok.glob,ok.blt,ok.above,ok.inj,ok.has,ok.cab,ok.hd,ok.frames,ok.stk,ok.exf,ok.bs,ok.bsz,ok.noex,ok.exfs,ok.funs,ok.frf⟩
section
variable {X:Cx} {pins:List (Addr×Obj)} {σ:St} {H:Hp} {s:Shared} {E:Value->Shared->Prop}
theorem Inv.wish (I:Inv X pins σ H s) (E:Value->Shared->Prop):Inv (X.wish E) pins σ H s:=⟨I.ok.wish E,I.os,I.bare,I.base,I.loc,I.cell,I.free,I.freeC,I.pin,I.hok,I.len⟩
theorem Inv.unwish (I:Inv (X.wish E) pins σ H s):Inv X pins σ H s:=⟨I.ok.unwish,I.os,I.bare,I.base,I.loc,I.cell,I.free,I.freeC,I.pin,I.hok,I.len⟩
theorem SP.unwish {f:Flow} {s':Shared} (h:SP (X.wish E) pins D f s'):SP X pins D f s':=by
 cases f with
 | next=>obtain ⟨σ',H',I,q⟩:=h;exact ⟨σ',H',I.unwish,q⟩
 | brk=>obtain ⟨σ',H',I,q⟩:=h;exact ⟨σ',H',I.unwish,q⟩
 | cont=>obtain ⟨σ',H',I,q⟩:=h;exact ⟨σ',H',I.unwish,q⟩
 | ret u=>obtain ⟨v,σ',H',I,r,q⟩:=h;exact ⟨v,σ',H',I.unwish,r,q⟩
theorem PSs.nox {st:List Stmt} {t:TS} (h:PSs X.nox st t):PSs X st t:=fun pins s σ H D I hw =>
 qAx (h pins s σ H D (I.wish _) hw) (fun _ _ q=>q.unwish) fun _ _ z=>False.elim z
end
section
variable {X:Cx} {st:Stmt} {rest:List Stmt} {t u:TS} {e:Expr} {te:TE} {pos:Pos}
def tNext:TS:=fun D σ H=>D.nx σ H
def tSeq (t u:TS):TS:=fun D σ H=>t {D with nx:=u D} σ H
theorem zAk:PSs X [] tNext:=fun _ _ σ H _ I h=>qCq ⟨σ,H,I,h⟩
theorem zAc (h1:PS X st t) (h2:PSs X rest u):PSs X (st::rest) (tSeq t u):=by
 intro pins s σ H D I h;refine wpAny_execs_cons (thn (h1 pins s σ H {D with nx:=u D} I h) fun f s1 q=>?_)
 cases f with
 | next =>
  obtain ⟨σ',H',I',q⟩:=q;exact h2 pins s1 σ' H' D I' q
 | ret v=>exact q
 | brk=>exact q
 | cont=>exact q
theorem zAd (h1:PS X st t):PSs X [st] t:=by
 intro pins s σ H D I h;refine wpAny_execs_cons (thn (h1 pins s σ H D I h) fun f s1 q=>?_)
 cases f with
 | next=>exact qCq q
 | ret v=>exact q
 | brk=>exact q
 | cont=>exact q
theorem Inv.quiet (I:Inv X pins σ H s):interactive X.env=false:=by simp [interactive,I.ok.kind]
def tDrop (te:TE):TS:=fun D σ H=>te σ H fun _ H1=>D.nx σ H1
theorem zA2 (he:PE X e te) (hs:swapsWith e none pos.line X.env=pure false:=by rfl):PS X (.Expr e pos) (tDrop te):=by
 intro pins s σ H D I h;exact wpAny_Expr_any (thn (he pins s σ H _ I h) fun v s1 ⟨x,H1,I1,r1,q1⟩=>⟨σ,H1,I1,q1⟩) I.quiet hs
def tRet (te:TE):TS:=fun D σ H=>te σ H D.rt
theorem zAm (he:PE X e te):PS X (.Return (some e) pos) (tRet te):=by
 intro pins s σ H D I h;exact wpAny_Return_some (thn (he pins s σ H _ I h) fun v s1 ⟨x,H1,I1,r1,q1⟩=>⟨x,σ,H1,I1,r1,q1⟩)
def tIfS (c:TT) (t u:TS):TS:=fun D σ H=>c σ H fun b H1=>if b=true then t D σ H1 else u D σ H1
theorem zA0 {c:Expr} {a b:List Stmt} {tc:TT} (hc:PT X c tc) (ha:PSs X a t) (hb:PSs X b u):PS X (.If c a b pos) (tIfS tc t u):=by
 intro pins s σ H D I h;refine wpAny_If (thn (hc pins s σ H _ I h) fun d s1 ⟨H1,I1,q1⟩=>?_)
 cases d with
 | true=>exact ha pins s1 σ H1 D I1 q1
 | false=>exact hb pins s1 σ H1 D I1 q1
def tNever:TS:=fun _ _ _=>False
theorem zBu:PS X st tNever:=fun _ _ _ _ _ _ h=>h.elim
theorem zBc {sts:List Stmt}:PSs X sts tNever:=fun _ _ _ _ _ _ h=>h.elim
end
abbrev TG:=V->St->Hp->(St->Hp->Prop)->Prop
variable {g:TG}
abbrev TGs:=List V->St->Hp->(St->Hp->Prop)->Prop
def PG (X:Cx) (target:Expr) (t:TG):Prop :=
 ∀(pins:List (Addr×Obj)) (s:Shared) (σ:St) (H:Hp) (v:V) (u:Value) (Q:St->Hp->Prop),Inv X pins σ H s->RelV v u->t v σ H Q ->
  wpAny (model X.prog X.w) X.A (assign target X.env u) (fun _ s'=>∃σ' H',Inv X pins σ' H' s'/\Q σ' H') X.xe s
def PGs (X:Cx) (ts:List Expr) (t:TGs):Prop :=
 ∀(pins:List (Addr×Obj)) (s:Shared) (σ:St) (H:Hp) (vs:List V) (us:List Value) (Q:St->Hp->Prop),Inv X pins σ H s->Vals vs us->t vs σ H Q ->
  wpAny (model X.prog X.w) X.A (assignInOrder ((assignEach ts X.env).map (·.2)) us) (fun _ s'=>∃σ' H',Inv X pins σ' H' s'/\Q σ' H') X.xe s
abbrev TSet:=V->V->V->Hp->(Hp->Prop)->Prop
def PSet (X:Cx) (t:TSet):Prop :=
 ∀(pins:List (Addr×Obj)) (s:Shared) (σ:St) (H:Hp) (o i v:V) (ov iv u:Value) (Q:Hp->Prop),Inv X pins σ H s->RelV o ov->RelV i iv->RelV v u->t o i v H Q ->
  wpAny (model X.prog X.w) X.A (setItem ov iv u) (fun _ s'=>∃H',Inv X pins σ H' s'/\Q H') X.xe s
section
variable {X:Cx} {pos:Pos}
def gName (i:Nat):TG:=fun v σ H Q=>Q (σ.set i (some v)) H
theorem pg_name (hN:X.N.Nodup) (hi:X.N[i]?=some x) (hx:Loc X.env.scope x) (hf:X.fn x=true\/X.env.scope.names.lookup x=some .local:=by first| exact .inl rfl| exact .inr rfl| assumption):PG X (.Name x pos) (gName i):=by
 intro pins s σ H v u Q I r h;exact wpAny_assign_Name (store_ok I hN hi hx r (fun s' I'=>⟨_,H,I',h⟩) hf)
def gNil:TGs:=fun vs σ H Q=>vs=[]/\Q σ H
def gCons (t:TG) (u:TGs):TGs:=fun vs σ H Q=>∃v r,vs=v::r/\t v σ H fun σ' H'=>u r σ' H' Q
theorem zCf:PGs X [] gNil:=by
 intro pins s σ H vs us Q I r h;obtain ⟨e,h⟩:=h;subst e
 cases r
 exact assignInOrder_nil ⟨σ,H,I,h⟩
theorem zAt {es:List Expr} {t:TG} {u:TGs} (h1:PG X e t) (h2:PGs X es u)
  (hs:(assignEach (e::es) X.env).map (·.2)=assign e X.env::(assignEach es X.env).map (·.2):=by rfl):PGs X (e::es) (gCons t u):=by
 intro pins s σ H vs us Q I r h;obtain ⟨v,vr,e1,h⟩:=h;subst e1
 cases r with
 | cons r rr =>
  rw [hs];refine assignInOrder_cons (thn (h1 pins s σ H _ _ _ I r h) fun _ s1 ⟨σ1,H1,I1,q1⟩=>?_);exact h2 pins s1 σ1 H1 _ _ Q I1 rr q1
def gTup (K:PySem.W.Frag) (n:Nat) (t:TGs):TG:=fun v σ H Q=>∃a xs,v= .ref a/\SqT K H a xs/\xs.length=n/\t xs σ H Q
theorem zG0 {es:List Expr} {k:Nat} {t:TGs} {n:Nat} (hc:X.calm=true) (h:PGs X es t)
  (hn:(assignEach es X.env).length=n:=by rfl) (hst:(assignEach es X.env).findIdx? (·.1)=none:=by rfl):PG X (.Tuple es k pos) (gTup X.K n t):=by
 intro pins s σ H v u Q I r hw;obtain ⟨a,xs,e1,hq,hl,hw⟩:=hw;subst e1
 cases r
 obtain ⟨its,rv,ht,hz⟩:=I.tuple hq;refine assign_Tuple_tuple (I.ok.hd hc) ht (by simp [hn,<-hl,rv.length]) hst fun h' hx=>?_;have I1:Inv X pins σ H {s with heap:=h'}:=I.kept (t':=s.toks) fun b o e=>hx b o (qAT (qAK e)) e;exact h pins _ σ H xs _ Q I1 (by simpa using rv) hw
def gSub (to ti:TE) (t:TSet):TG:=fun v σ H Q=>to σ H fun o H1=>ti σ H1 fun i H2=>t o i v H2 fun H3=>Q σ H3
theorem pg_sub {o i:Expr} {to ti:TE} {t:TSet} (ho:PE X o to) (hi:PE X i ti) (hs:PSet X t)
  (ha:∀v,assign (.Subscript o i pos) X.env v=(do
   let ov<-holding [v] (eval o X.env)
   let iv<-holding [v,ov] (eval i X.env)
   standAt pos
   holding [v,ov,iv] (setItem ov iv v)
   release [v,ov,iv] []):=by intro _;rfl):PG X (.Subscript o i pos) (gSub to ti t):=by
 intro pins s σ H v u Q I r h;rw [ha];refine qAA (qA0 (thn (ho pins s σ H _ I h) fun ov s1 ⟨x,H1,I1,r1,q1⟩=>?_));refine qAA (qA0 (thn (hi pins s1 σ H1 _ I1 q1) fun iv s2 ⟨y,H2,I2,r2,q2⟩=>?_));refine qAA (qCQ (qAA (qA0 (thn (hs pins s2 σ H2 x y v ov iv u _ I2 r1 r2 r q2) fun _ s3 ⟨H3,I3,q3⟩=>?_))));exact wpAny_release ⟨σ,H3,I3,q3⟩
def tAsg (te:TE) (g:TG):TS:=fun D σ H=>te σ H fun x H1=>g x σ H1 D.nx
theorem ps_asg {te:TE} (he:PE X e te) (hg:PG X tg g) (hs:swapsWithSole [tg] e pos.line X.env=pure false:=by rfl) (hw:swappedStores [tg] e X.env=pure none:=by rfl)
  (h1:(assignEach [tg] X.env).map (·.2)=[assign tg X.env]:=by rfl):PS X (.Assign [tg] e pos) (tAsg te g):=by
 intro pins s σ H D I h;refine wpAny_Assign_stores (thn (he pins s σ H _ I h) fun v s1 ⟨x,H1,I1,r1,q1⟩=>?_) hs hw;rw [h1];exact thn (hg pins s1 σ H1 x v _ I1 r1 q1) fun _ s2 q=>q
theorem ps_set {i:Nat} {x:Str} {e:Expr} {te:TE} {pos':Pos} (hN:X.N.Nodup) (hi:X.N[i]?=some x) (hx:Loc X.env.scope x) (he:PE X e te) (hs:swapsWith e (some (.Name x pos')) pos.line X.env=pure false:=by rfl) (hf:X.fn x=true\/X.env.scope.names.lookup x=some .local:=by first| exact .inl rfl| exact .inr rfl| assumption) :
  PS X (.Assign [.Name x pos'] e pos) (tAsg te (gName i)):=by
 intro pins s σ H D I h;refine wpAny_Assign_Name (thn (he pins s σ H _ I h) fun v s1 ⟨y,H1,I1,r1,q1⟩=>?_) hs;exact store_ok I1 hN hi hx r1 (fun s2 I2=>⟨_,H1,I2,q1⟩) hf
end
section
variable {X:Cx} {pos:Pos}
def tWhile (c:TT) (tb:TS):TS:=fun D σ H=>∃W:Nat->St->Hp->Prop,(∃m,W m σ H)/\∀m σ H,W m σ H ->
 c σ H fun b H1=>if b=true then∃N:St->Hp->Prop,(∀σ' H',N σ' H'->∃m',m'<m/\W m' σ' H')/\tb {D with nx:=N,ct:=N,bk:=D.nx} σ H1 else D.nx σ H1
theorem zIx {c:Expr} {body:List Stmt} {tc:TT} (hp:PassesOwn (model X.prog X.w) X.A X.env X.xe) (hc:PT X c tc) (hb:PSs X body tb):PS X (.While c body [] pos) (tWhile tc tb):=by
 intro pins s σ H D I h;obtain ⟨W,⟨m0,w0⟩,turn⟩:=h;refine wpAny_While (codeAny_whileLoop (fun n s'=>∃σ' H',Inv X pins σ' H' s'/\W n σ' H') ?_ m0 ⟨σ,H,I,w0⟩);rintro n s1 ⟨σ1,H1,I1,w1⟩;refine qBq hp (thn (hc pins s1 σ1 H1 _ I1 (turn n σ1 H1 w1)) fun b s2 ⟨H2,I2,q2⟩=>?_)
 cases b with
 | true =>
  obtain ⟨N,hN,q2⟩:=q2;rw [qAC rfl];refine qBq hp (thn (hb pins s2 σ1 H2 _ I2 q2) fun f s3 q3=>?_)
  cases f with
  | next =>
   obtain ⟨σ3,H3,I3,n3⟩:=q3;obtain ⟨m',hm,w3⟩:=hN σ3 H3 n3;exact ⟨m',hm,σ3,H3,I3,w3⟩
  | cont =>
   obtain ⟨σ3,H3,I3,n3⟩:=q3;obtain ⟨m',hm,w3⟩:=hN σ3 H3 n3;exact ⟨m',hm,σ3,H3,I3,w3⟩
  | brk=>exact q3
  | ret v=>exact q3
 | false =>
  rw [qAB qAk];exact qCq ⟨σ1,H2,I2,q2⟩
end
structure It where
 go:Nat->Hp->Prop
 yld:Nat->Hp->V->Hp->Prop
 stop:Nat->Hp->Prop
def FpOk (X:Cx) (pins:List (Addr×Obj)) (H:Hp) (b:Addr):Prop :=
 H b=none/\b≠X.env.locals/\b∉X.fs/\(b∈X.ex\/X.s₀.heap.objs.size<=b)/\(∀x c,X.env.cells.lookup x=some c->c≠b)/\∀p∈X.pn++pins,p.1≠b
theorem Inv.fpOk {H':Hp} {b:Addr} (I:Inv X pins σ H s) (hb:s.heap.objs.size<=b) (hn:H' b=none):FpOk X pins H' b:=by
 refine ⟨hn,qA8 (qAn I.lt hb),I.nofs hb,.inr (qAc I.sz hb),fun x c e z=>?_,fun p hp z=>?_⟩
 ·obtain ⟨v,q⟩:=I.cell x c e;exact absurd (qAn q.lt (by rw [z];exact hb)) (qBS _)
 ·exact absurd (qAn (qAK (I.pin p hp).1) (by rw [z];exact hb)) (qBS _)
structure Turn (P:Program) (w:World) (K:PySem.W.Frag) (tg:Expr) (J:It) (fp:List Addr) (it:Addr) (tn:Nat->Heap->Prop):Prop where
 mem:it∈fp
 obj:∀i h,tn i h->∀b∈fp,∃o,h.get? b=some o/\∀v,o.data≠.cell v
 keep:∀i h h',tn i h->(∀b∈fp,∀o,h.get? b=some o->h'.get? b=some o)->tn i h'
 item:∀(X:Cx),X.prog=P->X.w=w->X.K=K->X.calm=true->∀(i:Nat) (pins:List (Addr×Obj)) (s:Shared) (σ:St) (H:Hp) (E:Value->Shared->Prop),Inv X pins σ H s->(∀b∈fp,FpOk X pins H b)->tn i s.heap->J.go i H ->
  wpAny (model P w) X.A (pyNext (.ref it)) (fun r s1=>∃u,r=some u /\
   wpAny (model P w) X.A (letOwnedTupleGo tg (.ref it) u) (fun _ s2=>∃x H',Inv X pins σ H' s2/\RelV x u/\J.yld i H x H'/\tn (i+1) s2.heap/\∀b∈fp,H' b=none) E s1) E s
 done:∀(X:Cx),X.prog=P->X.w=w->X.K=K->X.calm=true->∀(i:Nat) (pins:List (Addr×Obj)) (s:Shared) (σ:St) (H:Hp) (E:Value->Shared->Prop),Inv X pins σ H s->(∀b∈fp,FpOk X pins H b)->tn i s.heap->J.stop i H ->
  wpAny (model P w) X.A (pyNext (.ref it)) (fun r s1=>r=none/\Inv X pins σ H s1) E s
 self:∀(A:Around) (i:Nat) (s:Shared) (Q:Value->Shared->Prop) (E:Value->Shared->Prop),tn i s.heap->Q (.ref it) s->wpAny (model P w) A (pyIter (.ref it)) Q E s
abbrev TI:=St->Hp->(It->Hp->Prop)->Prop
def PIE (X:Cx) (pins:List (Addr×Obj)) (σ:St) (tg:Expr) (R:It->Hp->Prop) (itv:Value) (s2:Shared):Prop :=
 ∃(it:Addr) (fp:List Addr) (tn:Nat->Heap->Prop) (J:It) (H':Hp),itv= .ref it/\Inv X pins σ H' s2/\Turn X.prog X.w X.K tg J fp it tn/\tn 0 s2.heap/\(∀b∈fp,FpOk X pins H' b)/\R J H'
def PI (X:Cx) (tg iter:Expr) (wi:TI):Prop :=
 ∀(pins:List (Addr×Obj)) (s:Shared) (σ:St) (H:Hp) (R:It->Hp->Prop),Inv X pins σ H s->wi σ H R ->
  wpAny (model X.prog X.w) X.A (eval iter X.env) (fun v s1=>wpAny (model X.prog X.w) X.A (pyIter v) (PIE X pins σ tg R) X.xe s1) X.xe s
theorem go_of {M:Model} {E:Value->Shared->Prop} {s:Shared} {it:Addr} {o:Obj} {n:String} {vs:Array Value} {Q:Unit->Shared->Prop} (ho:s.heap.get? it=some o) (hc:o.cls= .type n) (hd:o.data= .fields vs)
  (hn:["enumerate", "zip", "dict_itemiterator", "dict_reverseitemiterator", "odict_iterator", "itertools.zip_longest", "itertools.pairwise"].contains n=false) (hQ:Q () s):wpAny M A (letOwnedTupleGo tg (.ref it) u) Q E s:=by
 unfold letOwnedTupleGo
 cases tg<;>first
  | exact qAE hQ
  | (cases u<;>first
    | exact qAE hQ
    | (refine qAA (qCR ho ?_)
       rw [hc,hd];show wpAny M A (if (["enumerate", "zip", "dict_itemiterator", "dict_reverseitemiterator", "odict_iterator", "itertools.zip_longest", "itertools.pairwise"].contains n&&vs[0]?==some (rawInt _))=true then _ else _) Q E s;rw [qAB (by intro h;rw [hn,Bool.false_and] at h;cases h)];exact qAE hQ))
def Itl (K:PySem.W.Frag) (a:Addr):It :=
 ⟨fun i H=>∃xs x,SqL K H a xs/\xs[i]?=some x,fun i H x H'=>H'=H/\∀xs,SqL K H a xs->xs[i]?=some x,fun i H=>∃xs,SqL K H a xs/\xs.length<=i⟩
def Itt (K:PySem.W.Frag) (a:Addr):It :=
 ⟨fun i H=>∃xs x,SqT K H a xs/\xs[i]?=some x,fun i H x H'=>H'=H/\∀xs,SqT K H a xs->xs[i]?=some x,fun i H=>∃xs,SqT K H a xs/\xs.length<=i⟩
def Itr (lo:Int) (n:Nat):It:=⟨fun i _=>i<n,fun i H x H'=>H'=H/\x= .int (lo+i),fun i _=>n<=i⟩
theorem turn_list (a it:Addr):Turn P w K tg (Itl K a) [it] it (fun i h=>h.IsListIter it a i) where
 mem:=by simp
 obj:=fun i h st b hb=>by
  have e:b=it:=by simpa using hb
  subst e;obtain ⟨o,e,c,d⟩:=st;exact ⟨o,e,fun v z=>by rw [d] at z;cases z⟩
 keep:=fun i h h' st k=>st.at fun o e=>k it (by simp) o e
 item:=by
  intro X hP hw hK hc i pins s σ H E I hf st hg;subst hP hw hK;obtain ⟨xs,x,hq,hx⟩:=hg;obtain ⟨its,rv,p,hz⟩:=I.list hq;obtain ⟨u,hu,ru⟩:=rv.get hx;obtain ⟨f0,f1,f2,f3,f4,f5⟩:=hf it (by simp);refine wpAny_pyNext_list_item st p.isList (x:=u) (by simpa using hu) fun h' st' sb=>?_;have I1:Inv X pins σ H {s with heap:=h'}:=I.turned (t':=s.toks) (fun b o hb e=>(sb.2 b hb).trans e) f0 f1 f3 f4 f5;obtain ⟨o,e,c,d⟩:=id st';exact ⟨u,rfl,go_of (s:={s with heap:=h'}) e c d (by decide) ⟨x,H,I1,ru,⟨rfl,fun ys hy=>by rw [I.list_inj hy hq];exact hx⟩,st',fun b hb=>(hf b hb).1⟩⟩
 done:=by
  intro X hP hw hK hc i pins s σ H E I hf st hg;subst hP hw hK;obtain ⟨xs,hq,hx⟩:=hg;obtain ⟨its,rv,p,hz⟩:=I.list hq;obtain ⟨f0,f1,f2,f3,f4,f5⟩:=hf it (by simp);have hl:=rv.length;exact wpAny_pyNext_list_end (I.ok.hd hc) st p.isList (by simp;lia) fun h' eb=>⟨rfl,I.turned (t':=s.toks) (fun b o hb e=>eb b o hb e) f0 f1 f3 f4 f5⟩
 self:=fun _ _ _ _ _ st h=>wpAny_pyIter_listiter st h
theorem turn_tuple (a it:Addr):Turn P w K tg (Itt K a) [it] it (fun i h=>h.IsTupleIter it a i) where
 mem:=by simp
 obj:=fun i h st b hb=>by
  have e:b=it:=by simpa using hb
  subst e;obtain ⟨o,e,c,d⟩:=st;exact ⟨o,e,fun v z=>by rw [d] at z;cases z⟩
 keep:=fun i h h' st k=>st.at fun o e=>k it (by simp) o e
 item:=by
  intro X hP hw hK hc i pins s σ H E I hf st hg;subst hP hw hK;obtain ⟨xs,x,hq,hx⟩:=hg;obtain ⟨its,rv,p,hz⟩:=I.tuple hq;obtain ⟨u,hu,ru⟩:=rv.get hx;obtain ⟨f0,f1,f2,f3,f4,f5⟩:=hf it (by simp);refine wpAny_pyNext_tuple_item st (show s.heap.IsTuple a its.toArray from p) (x:=u) (by simpa using hu) fun h' st' sb=>?_;have I1:Inv X pins σ H {s with heap:=h'}:=I.turned (t':=s.toks) (fun b o hb e=>(sb.2 b hb).trans e) f0 f1 f3 f4 f5;obtain ⟨o,e,c,d⟩:=id st';exact ⟨u,rfl,go_of (s:={s with heap:=h'}) e c d (by decide) ⟨x,H,I1,ru,⟨rfl,fun ys hy=>by rw [I.tuple_inj hy hq];exact hx⟩,st',fun b hb=>(hf b hb).1⟩⟩
 done:=by
  intro X hP hw hK hc i pins s σ H E I hf st hg;subst hP hw hK;obtain ⟨xs,hq,hx⟩:=hg;obtain ⟨its,rv,p,hz⟩:=I.tuple hq;obtain ⟨f0,f1,f2,f3,f4,f5⟩:=hf it (by simp);have hl:=rv.length;exact wpAny_pyNext_tuple_end (I.ok.hd hc) st (show s.heap.IsTuple a its.toArray from p) (by simp;lia) fun h' eb=>⟨rfl,I.turned (t':=s.toks) (fun b o hb e=>eb b o hb e) f0 f1 f3 f4 f5⟩
 self:=fun _ _ _ _ _ st h=>wpAny_pyIter_tupleiter st h
theorem turn_range (it:Addr) (lo:Int) (n:Nat):Turn P w K tg (Itr lo n) [it] it (fun i h=>IsRangeIter h it (lo+(i:Nat)*1) ((n:Int) - (i:Nat)) 1) where
 mem:=by simp
 obj:=fun i h st b hb=>by
  have e:b=it:=by simpa using hb
  subst e
  exact ⟨_,st,fun v z=>by
   have z':Data.fields _=Data.cell v:=z
   cases z'⟩
 keep:=fun i h h' st k=>k it (by simp) _ st
 item:=by
  intro X hP hw hK hc i pins s σ H E I hf st hg;subst hP hw hK;obtain ⟨f0,f1,f2,f3,f4,f5⟩:=hf it (by simp);have W:=Walks.range (prog:=X.prog) (w:=X.w) (I.ok.hd hc) it lo 1 n;refine W.item i s _ _ hg st fun v h' tk hv st' kk=>?_;obtain ⟨t,rfl⟩:=hv;have I1:Inv X pins σ H {s with heap:=h',toks:=tk}:=I.turned (fun b o hb e=>kk b o (by simpa using hb) e) f0 f1 f3 f4 f5;refine ⟨_,rfl,go_of (s:={s with heap:=h',toks:=tk}) (n:= "range_iterator") st' rfl rfl (by decide) ⟨.int (lo+i),H,I1,⟨t,?_⟩,⟨rfl,rfl⟩,st',fun b hb=>(hf b hb).1⟩⟩;rw [Int.mul_one]
 done:=by
  intro X hP hw hK hc i pins s σ H E I hf st hg;subst hP hw hK;obtain ⟨f0,f1,f2,f3,f4,f5⟩:=hf it (by simp);exact wpAny_pyNext_range_end (I.ok.hd hc) st (by have:n<=i:=hg;lia) fun h' eb=>⟨rfl,I.turned (t':=s.toks) (fun b o hb e=>eb b o hb e) f0 f1 f3 f4 f5⟩
 self:=fun _ _ _ _ _ st h=>qDB st h
section
variable {X:Cx} {tg:Expr}
def iList (K:PySem.W.Frag) (tl:TE):TI:=fun σ H R=>tl σ H fun x H1=>∃a,x= .ref a/\(∃xs,SqL K H1 a xs)/\R (Itl K a) H1
def iTup (K:PySem.W.Frag) (tl:TE):TI:=fun σ H R=>tl σ H fun x H1=>∃a,x= .ref a/\(∃xs,SqT K H1 a xs)/\R (Itt K a) H1
theorem zAp {l:Expr} {tl:TE} (hl:PE X l tl):PI X tg l (iList X.K tl):=by
 intro pins s σ H R I h;refine thn (hl pins s σ H _ I h) fun v s1 ⟨x,H1,I1,r1,q1⟩=>?_;obtain ⟨a,e,⟨xs,hq⟩,q⟩:=q1;subst e
 cases r1
 obtain ⟨its,rv,p,hz⟩:=I1.list hq;refine qB8 p.isList ?_;refine ⟨s1.heap.objs.size,[s1.heap.objs.size],_,_,H1,rfl,I1.kept (t':=s1.toks) fun b o e=>qAI _ e,turn_list a _,⟨_,qAb _ rfl,rfl,rfl⟩,fun b hb=>?_,q⟩;have e:b=s1.heap.objs.size:=by simpa using hb
 subst e;exact I1.fpOk (qAF _) (I1.hok.fresh (qAF _))
theorem pi_tup {l:Expr} {tl:TE} (hl:PE X l tl):PI X tg l (iTup X.K tl):=by
 intro pins s σ H R I h;refine thn (hl pins s σ H _ I h) fun v s1 ⟨x,H1,I1,r1,q1⟩=>?_;obtain ⟨a,e,⟨xs,hq⟩,q⟩:=q1;subst e
 cases r1
 obtain ⟨its,rv,p,hz⟩:=I1.tuple hq;refine wpAny_pyIter_tuple (show s1.heap.IsTuple a its.toArray from p) ?_;refine ⟨s1.heap.objs.size,[s1.heap.objs.size],_,_,H1,rfl,I1.kept (t':=s1.toks) fun b o e=>qAI _ e,turn_tuple a _,⟨_,qAb _ rfl,rfl,rfl⟩,fun b hb=>?_,q⟩;have e:b=s1.heap.objs.size:=by simpa using hb
 subst e;exact I1.fpOk (qAF _) (I1.hok.fresh (qAF _))
theorem range_it {R:It->Hp->Prop} {E:Value->Shared->Prop} {lo hi:Int} {t u v:Tok} {tk:Nat} (I:Inv X pins σ H s) (h1:-(2^62)<=lo) (h2:lo<2^62) (h3:-(2^62)<=hi) (h4:hi<2^62)
  (q:R (Itr lo (hi - lo).toNat) H):wpAny (model X.prog X.w) X.A (pyIter (.ref s.heap.objs.size)) (PIE X pins σ tg R) E {s with heap:=s.heap.push {cls:=.type "range",data:=.fields #[.int lo t,.int hi u,.int 1 v]},toks:=tk}:=by
 refine wpAny_pyIter_range (IsRange.new ..) (small_one h1 h2 h3 h4) ?_;have I1:Inv X pins σ H {s with heap:=s.heap.push {cls:=.type "range",data:=.fields #[.int lo t,.int hi u,.int 1 v]},toks:=tk}:=I.kept fun b o e=>qAI _ e
 refine ⟨(s.heap.push {cls:=.type "range",data:=.fields #[.int lo t,.int hi u,.int 1 v]}).objs.size,[(s.heap.push {cls:=.type "range",data:=.fields #[.int lo t,.int hi u,.int 1 v]}).objs.size],_,_,H,rfl,
  I1.kept (t':=tk) fun b o e=>qAI _ e,turn_range _ lo (hi - lo).toNat,?_,fun b hb=>?_,q⟩
 ·have e1:lo+((0:Nat):Int)*1=lo:=by simp
  have e2:(((hi - lo).toNat:Nat):Int) - ((0:Nat):Int)=Builtin.Range.rangeSize lo hi 1:=by rw [rangeSize_one];split<;>lia
  show IsRangeIter _ _ (lo+((0:Nat):Int)*1) ((((hi - lo).toNat:Nat):Int) - ((0:Nat):Int)) 1;rw [e1,e2];exact qAb _ rfl
 ·have e:b=(s.heap.push {cls:=.type "range",data:=.fields #[.int lo t,.int hi u,.int 1 v]}).objs.size:=by simpa using hb
  subst e;exact I1.fpOk (qAF _) (I1.hok.fresh (qAF _))
def iRng1 (ta:TA):TI:=fun σ H R=>ta σ H fun vs H1=>∃j:Int,vs=[.int j]/\-(2^62)<=j/\j<2^62/\R (Itr 0 j.toNat) H1
def iRng2 (ta:TA):TI:=fun σ H R=>ta σ H fun vs H1=>∃i j:Int,vs=[.int i,.int j]/\(-(2^62)<=i/\i<2^62/\-(2^62)<=j/\j<2^62)/\R (Itr i (j - i).toNat) H1
theorem zB2 {a:Expr} {ta:TA} {p:Pos} (hg:Gl X "range") (hm:X.mg "range" = none) (ha:PA X [a] ta) (hs:starEach [a] X.env=[(false,eval a X.env)]:=by rfl):PI X tg (.Call (.Name "range" p) [a] [] pos) (iRng1 ta):=by
 intro pins s σ H R I h;refine Call_ (zF5 I hg hm boot_range (qCS (thn (ha pos pins s σ H _ I h) fun us s1 ⟨vs,H1,I1,r1,q1⟩=>?_) hs rfl));obtain ⟨j,e,q1,q2,q⟩:=q1;subst e
 cases r1 with
 | cons r rr =>
  cases rr
  obtain ⟨t,rfl⟩:=r;exact call_range_1 (range_it I1 (by lia) (by lia) q1 q2 (by simpa using q))
theorem pi_range2 {a b:Expr} {ta:TA} {p pos:Pos} (hg:Gl X "range") (hm:X.mg "range" = none) (ha:PA X [a,b] ta) (hs:starEach [a,b] X.env=[(false,eval a X.env),(false,eval b X.env)]:=by rfl) (hs2:starEach [b] X.env=[(false,eval b X.env)]:=by rfl) :
  PI X tg (.Call (.Name "range" p) [a,b] [] pos) (iRng2 ta):=by
 intro pins s σ H R I h;refine Call_ (zF5 I hg hm boot_range (qCS (thn (ha pos pins s σ H _ I h) fun us s1 ⟨vs,H1,I1,r1,q1⟩=>?_) (by rw [hs,hs2]) (by rw [hs2];rfl)));obtain ⟨i,j,e,⟨q1,q2,q3,q4⟩,q⟩:=q1;subst e
 cases r1 with
 | cons r rr =>
  cases rr with
  | cons r' rr =>
   cases rr
   obtain ⟨t,rfl⟩:=r;obtain ⟨t',rfl⟩:=r';exact call_range_2 (range_it I1 q1 q2 q3 q4 q)
def tFor (wi:TI) (g:TG) (tb:TS):TS:=fun D σ H=>wi σ H fun J H1=>∃W:Nat->Nat->St->Hp->Prop,(∃m,W 0 m σ H1)/\∀i m σ H,W i m σ H ->
 (J.stop i H/\D.nx σ H)\/(J.go i H/\∃N:St->Hp->Prop,(∀σ' H',N σ' H'->∃m',m'<m/\W (i+1) m' σ' H')/\∀x H',J.yld i H x H'->g x σ H' fun σ2 H2=>tb {D with nx:=N,ct:=N,bk:=D.nx} σ2 H2)
def pinsAt (fp:List Addr) (h:Heap):List (Addr×Obj):=fp.filterMap fun b=>(h.get? b).map fun o=>(b,o)
theorem zEk {fp:List Addr} {o:Obj} (hb:b∈fp) (e:h.get? b=some o):(b,o)∈pinsAt fp h:=List.mem_filterMap.mpr ⟨b,hb,by rw [e];rfl⟩
theorem of_pinsAt {fp:List Addr} {p:Addr×Obj} (hp:p∈pinsAt fp h):p.1∈fp/\h.get? p.1=some p.2:=by
 obtain ⟨b,hb,e⟩:=List.mem_filterMap.mp hp
 cases q:h.get? b with
 | none=>rw [q] at e;cases e
 | some o =>
  rw [q] at e;have e':(b,o)=p:=qAd e;subst e';exact ⟨hb,q⟩
theorem Inv.pinned {fp:List Addr} (I:Inv X pins σ H s) (hf:∀b∈fp,FpOk X pins H b) (ho:∀b∈fp,∃o,s.heap.get? b=some o/\∀v,o.data≠.cell v):Inv X (pins++pinsAt fp s.heap) σ H s :=
 I.pins_of fun p hp=>(qAN.mp hp).elim (fun z=>I.pin p (qAr _ z)) fun z=>by
  obtain ⟨hb,e⟩:=of_pinsAt z;obtain ⟨f0,f1,f2,_⟩:=hf p.1 hb;obtain ⟨o,e',d⟩:=ho p.1 hb;rw [e] at e';cases e';exact ⟨e,f0,f1,f2,d⟩
theorem Inv.unpinned {pl:List (Addr×Obj)} (I:Inv X (pins++pl) σ H s):Inv X pins σ H s:=I.pins_of fun p hp=>I.pin p (qAr _ (qAq _ hp))
theorem zAz {iter:Expr} {body:List Stmt} {wi:TI} (hp:PassesOwn (model X.prog X.w) X.A X.env X.xe) (hc:X.calm=true) (hi:PI X tg iter wi) (hg:PG X tg g) (hb:PSs X body tb)
  (hs:∀x,foldedSetIterable iter X.env x=pure x:=by intro _;rfl):PS X (.For tg iter body [] pos) (tFor wi g tb):=by
 intro pins s σ H D I h;refine wpAny_For (thn (hi pins s σ H _ I h) fun v s1 h1=>thn h1 fun itv s2 h2=>?_) hs;obtain ⟨it,fp,tn,J,H2,e,I2,T,st2,f2,W,⟨m0,w0⟩,turn⟩:=h2;subst e;have stat:∀{H':Hp},(∀b∈fp,H' b=none)->∀b∈fp,FpOk X pins H' b:=fun hn b hb=>⟨hn b hb,(f2 b hb).2⟩;refine codeAny_forLoop_any (fun n s'=>∃i σ' H',Inv X pins σ' H' s'/\tn i s'.heap/\(∀b∈fp,H' b=none)/\W i n σ' H') ?_ m0 ⟨0,σ,H2,I2,st2,fun b hb=>(f2 b hb).1,w0⟩;rintro n s3 ⟨i,σ3,H3,I3,st3,fr3,w3⟩;rcases turn i n σ3 H3 w3 with ⟨stop,qn⟩| ⟨go,N,hN,step⟩
 ·refine qBq hp (thn (T.done X rfl rfl rfl hc i pins s3 σ3 H3 X.xe I3 (stat fr3) st3 stop) fun r s4 ⟨hr,I4⟩=>?_);subst hr;exact qCq ⟨σ3,H3,I4,qn⟩
 ·refine qBq hp (thn (T.item X rfl rfl rfl hc i pins s3 σ3 H3 X.xe I3 (stat fr3) st3 go) fun r s4 ⟨u,hr,h4⟩=>?_);subst hr;refine qBq hp (thn h4 fun _ s5 ⟨x,H5,I5,r5,y5,st5,fr5⟩=>?_);have I5':=I5.pinned (stat fr5) (T.obj _ _ st5);refine qBq hp (thn (hg _ s5 σ3 H5 x u _ I5' r5 (step x H5 y5)) fun _ s6 ⟨σ6,H6,I6,q6⟩=>?_);refine qBq hp (thn (hb _ s6 σ6 H6 _ I6 q6) fun f s7 q7=>?_)
  have again:∀{σ7:St} {H7:Hp},Inv X (pins++pinsAt fp s5.heap) σ7 H7 s7->N σ7 H7->∃m,m<n/\∃i σ' H',Inv X pins σ' H' s7/\tn i s7.heap/\(∀b∈fp,H' b=none)/\W i m σ' H':=fun {σ7 H7} I7 n7=>by
   obtain ⟨m',hm,w7⟩:=hN σ7 H7 n7;refine ⟨m',hm,i+1,σ7,H7,I7.unpinned,T.keep _ _ _ st5 fun b hb o e=>(I7.pin (b,o) (qAr _ (qAr _ (zEk hb e)))).1,fun b hb=>?_,w7⟩;obtain ⟨o,e,d⟩:=T.obj _ _ st5 b hb;exact (I7.pin (b,o) (qAr _ (qAr _ (zEk hb e)))).2.1
  cases f with
  | next=>obtain ⟨σ7,H7,I7,n7⟩:=q7;exact again I7 n7
  | cont=>obtain ⟨σ7,H7,I7,n7⟩:=q7;exact again I7 n7
  | brk=>obtain ⟨σ7,H7,I7,q7⟩:=q7;exact ⟨σ7,H7,I7.unpinned,q7⟩
  | ret v=>obtain ⟨x7,σ7,H7,I7,r7,q7⟩:=q7;exact ⟨x7,σ7,H7,I7.unpinned,r7,q7⟩
end
theorem zAu {xs:List V} (Pv:Nat->St->Hp->Prop) (h0:Pv 0 σ H) (hl:∀i σ H,i<=xs.length->Pv i σ H->SqL K H a xs)
  (hs:∀i x σ H,xs[i]?=some x->Pv i σ H->g x σ H fun σ2 H2=>tb {D with nx:=Pv (i+1),ct:=Pv (i+1),bk:=D.nx} σ2 H2) (hd:∀σ H,Pv xs.length σ H->D.nx σ H) :
  ∃W:Nat->Nat->St->Hp->Prop,(∃m,W 0 m σ H)/\∀i m σ H,W i m σ H ->
   ((Itl K a).stop i H/\D.nx σ H)\/((Itl K a).go i H/\∃N:St->Hp->Prop,(∀σ' H',N σ' H'->∃m',m'<m/\W (i+1) m' σ' H')/\∀x H',(Itl K a).yld i H x H'->g x σ H' fun σ2 H2=>tb {D with nx:=N,ct:=N,bk:=D.nx} σ2 H2):=by
 refine ⟨fun i m σ H=>m=xs.length - i/\i<=xs.length/\Pv i σ H,⟨xs.length,by simp,qAg _,h0⟩,?_⟩;rintro i m σ H ⟨rfl,hi,p⟩;have q:=hl i σ H hi p
 by_cases hlt:i<xs.length
 ·refine .inr ⟨⟨xs,xs[i],q,by simp [hlt]⟩,Pv (i+1),fun σ' H' p'=>⟨xs.length - (i+1),by lia,rfl,hlt,p'⟩,fun x H' y=>?_⟩;obtain ⟨e,y⟩:=y;subst e;exact hs i x σ _ (y xs q) p
 ·have e:i=xs.length:=by lia
  subst e;exact .inl ⟨⟨xs,q,qAF _⟩,hd σ H p⟩
theorem for_tup (Pv:Nat->St->Hp->Prop) (h0:Pv 0 σ H) (hl:∀i σ H,i<=xs.length->Pv i σ H->SqT K H a xs)
  (hs:∀i x σ H,xs[i]?=some x->Pv i σ H->g x σ H fun σ2 H2=>tb {D with nx:=Pv (i+1),ct:=Pv (i+1),bk:=D.nx} σ2 H2) (hd:∀σ H,Pv xs.length σ H->D.nx σ H) :
  ∃W:Nat->Nat->St->Hp->Prop,(∃m,W 0 m σ H)/\∀i m σ H,W i m σ H ->
   ((Itt K a).stop i H/\D.nx σ H)\/((Itt K a).go i H/\∃N:St->Hp->Prop,(∀σ' H',N σ' H'->∃m',m'<m/\W (i+1) m' σ' H')/\∀x H',(Itt K a).yld i H x H'->g x σ H' fun σ2 H2=>tb {D with nx:=N,ct:=N,bk:=D.nx} σ2 H2):=by
 refine ⟨fun i m σ H=>m=xs.length - i/\i<=xs.length/\Pv i σ H,⟨xs.length,by simp,qAg _,h0⟩,?_⟩;rintro i m σ H ⟨rfl,hi,p⟩;have q:=hl i σ H hi p
 by_cases hlt:i<xs.length
 ·refine .inr ⟨⟨xs,xs[i],q,by simp [hlt]⟩,Pv (i+1),fun σ' H' p'=>⟨xs.length - (i+1),by lia,rfl,hlt,p'⟩,fun x H' y=>?_⟩;obtain ⟨e,y⟩:=y;subst e;exact hs i x σ _ (y xs q) p
 ·have e:i=xs.length:=by lia
  subst e;exact .inl ⟨⟨xs,q,qAF _⟩,hd σ H p⟩
theorem zB4 {lo:Int} {n:Nat} (Pv:Nat->St->Hp->Prop) (h0:Pv 0 σ H)
  (hs:∀i σ H,i<n->Pv i σ H->g (.int (lo+i)) σ H fun σ2 H2=>tb {D with nx:=Pv (i+1),ct:=Pv (i+1),bk:=D.nx} σ2 H2) (hd:∀σ H,Pv n σ H->D.nx σ H) :
  ∃W:Nat->Nat->St->Hp->Prop,(∃m,W 0 m σ H)/\∀i m σ H,W i m σ H ->
   ((Itr lo n).stop i H/\D.nx σ H)\/((Itr lo n).go i H/\∃N:St->Hp->Prop,(∀σ' H',N σ' H'->∃m',m'<m/\W (i+1) m' σ' H')/\∀x H',(Itr lo n).yld i H x H'->g x σ H' fun σ2 H2=>tb {D with nx:=N,ct:=N,bk:=D.nx} σ2 H2):=by
 refine ⟨fun i m σ H=>m=n - i/\i<=n/\Pv i σ H,⟨n,by simp,qAg _,h0⟩,?_⟩;rintro i m σ H ⟨rfl,hi,p⟩
 by_cases hlt:i<n
 ·refine .inr ⟨hlt,Pv (i+1),fun σ' H' p'=>⟨n - (i+1),by lia,rfl,hlt,p'⟩,fun x H' y=>?_⟩;obtain ⟨e,y⟩:=y;subst e y;exact hs i σ _ hlt p
 ·have e:i=n:=by lia
  subst e;exact .inl ⟨qAF _,hd σ H p⟩
theorem zId {c:TT} (Pv:St->Hp->Prop) (μ:St->Hp->Nat) (h0:Pv σ H)
  (hs:∀σ H,Pv σ H->c σ H fun b H1=>if b=true then tb {D with nx:=fun σ' H'=>Pv σ' H'/\μ σ' H'<μ σ H,ct:=fun σ' H'=>Pv σ' H'/\μ σ' H'<μ σ H,bk:=D.nx} σ H1 else D.nx σ H1)
  (mono:∀σ H Q Q',(∀b H1,Q b H1->Q' b H1)->c σ H Q->c σ H Q'):tWhile c tb D σ H:=by
 refine ⟨fun m σ H=>m=μ σ H/\Pv σ H,⟨_,rfl,h0⟩,?_⟩;rintro m σ H ⟨rfl,p⟩;refine mono σ H _ _ (fun b H1 q=>?_) (hs σ H p)
 cases b with
 | true=>exact ⟨_,fun σ' H' ⟨p',l⟩=>⟨_,l,rfl,p'⟩,q⟩
 | false=>exact q
abbrev R2:=V->V->Hp->VK->Prop
variable {r:R2}
def OpR (X:Cx) (f:Value->Value->Sem Value) (r:R2):Prop :=
 ∀(pins:List (Addr×Obj)) (s:Shared) (σ:St) (H:Hp) (x y:V) (v u:Value) (Q:VK),Inv X pins σ H s->RelV x v->RelV y u->r x y H Q ->
  wpAny (model X.prog X.w) X.A (f v u) (EP X pins σ Q) X.xe s
def UnR (X:Cx) (f:Value->Sem Value) (r:V->Hp->VK->Prop):Prop :=
 ∀(pins:List (Addr×Obj)) (s:Shared) (σ:St) (H:Hp) (x:V) (v:Value) (Q:VK),Inv X pins σ H s->RelV x v->r x H Q ->
  wpAny (model X.prog X.w) X.A (f v) (EP X pins σ Q) X.xe s
def zCu (X:Cx) (f:Value) (r:List V->Hp->VK->Prop):Prop :=
 ∀(pins:List (Addr×Obj)) (s:Shared) (σ:St) (H:Hp) (xs:List V) (us:List Value) (Q:VK),Inv X pins σ H s->Vals xs us->r xs H Q ->
  wpAny (model X.prog X.w) X.A (call f us) (EP X pins σ Q) X.xe s
def TruR (X:Cx) (r:V->Hp->(Bool->Hp->Prop)->Prop):Prop :=
 ∀(pins:List (Addr×Obj)) (s:Shared) (σ:St) (H:Hp) (x:V) (v:Value) (Q:Bool->Hp->Prop),Inv X pins σ H s->RelV x v->r x H Q ->
  wpAny (model X.prog X.w) X.A (truthy v) (TP X pins σ Q) X.xe s
def tOp (r:R2) (ta tb:TE):TE:=fun σ H Q=>ta σ H fun x H1=>tb σ H1 fun y H2=>r x y H2 Q
def tUn (r:V->Hp->VK->Prop) (ta:TE):TE:=fun σ H Q=>ta σ H fun x H1=>r x H1 Q
def rI (C:Int->Int->Prop) (g:Int->Int->V):R2:=fun x y H Q=>∃i j,x= .int i/\y= .int j/\C i j/\Q (g i j) H
def rI0 (g:Int->Int->V):R2:=fun x y H Q=>∃i j,x= .int i/\y= .int j/\Q (g i j) H
def rU (g:Int->V):V->Hp->VK->Prop:=fun x H Q=>∃i,x= .int i/\Q (g i) H
section
variable {X:Cx} {a b c:Expr} {ta tb tc:TE} {pos:Pos}
theorem binT (ha:PE X a ta) (hb:PE X b tb) {R:V->V->Hp->Prop} (I:Inv X pins σ H s)
  (h:ta σ H fun x H1=>tb σ H1 fun y H2=>R x y H2) {Q:Value->Shared->Prop} {f:Value->Value->Sem Value}
  (hf:∀v u s2 x y H2,Inv X pins σ H2 s2->RelV x v->RelV y u->R x y H2->wpAny (model X.prog X.w) X.A (f v u) Q X.xe s2) :
  wpAny (model X.prog X.w) X.A (eval a X.env) (fun v s₁=>wpAny (model X.prog X.w) X.A (eval b X.env) (fun u s₂=>wpAny (model X.prog X.w) X.A (f v u) Q X.xe s₂) X.xe s₁) X.xe s:=by
 refine thn (ha pins s σ H _ I h) fun v s1 ⟨x,H1,I1,r1,q1⟩=>?_;refine thn (hb pins s1 σ H1 _ I1 q1) fun u s2 ⟨y,H2,I2,r2,q2⟩=>?_;exact hf v u s2 x y H2 I2 r1 r2 q2
theorem zAv {op:Operator} (ho:OpR X (binaryOp op) r) (ha:PE X a ta) (hb:PE X b tb):PE X (.BinOp a op b pos) (tOp r ta tb):=by
 intro pins s σ H Q I h;exact wpAny_BinOp (binT ha hb I h fun v u s2 x y H2 I2 rx ry q=>ho pins s2 σ H2 x y v u Q I2 rx ry q)
theorem pe_un {op:UnaryOp} {r:V->Hp->VK->Prop} (ho:UnR X (unaryOp op) r) (ha:PE X a ta):PE X (.UnaryOp op a pos) (tUn r ta):=by
 intro pins s σ H Q I h;exact UnaryOp_ (thn (ha pins s σ H _ I h) fun v s1 ⟨x,H1,I1,r1,q1⟩=>ho pins s1 σ H1 x v Q I1 r1 q1)
theorem opI {f:Value->Value->Sem Value} {C:Int->Int->Prop} {g:Int->Int->Int}
  (rule:∀(i j:Int) (t u:Tok) (s:Shared) (Q:Value->Shared->Prop) (E:Value->Shared->Prop),C i j->Q (.int (g i j) s.toks) {s with toks:=s.toks+1}->wpAny (model X.prog X.w) X.A (f (.int i t) (.int j u)) Q E s) :
  OpR X f (rI C fun i j=>.int (g i j)):=by
 intro pins s σ H x y v u Q I rx ry h;obtain ⟨i,j,rfl,rfl,hc,q⟩:=h;obtain ⟨t,rfl⟩:=rx;obtain ⟨t',rfl⟩:=ry;exact rule i j t t' s _ _ hc ⟨.int (g i j),H,I.tok _,⟨_,rfl⟩,q⟩
theorem opI0 {f:Value->Value->Sem Value} {g:Int->Int->Int}
  (rule:∀(i j:Int) (t u:Tok) (s:Shared) (Q:Value->Shared->Prop) (E:Value->Shared->Prop),Q (.int (g i j) s.toks) {s with toks:=s.toks+1}->wpAny (model X.prog X.w) X.A (f (.int i t) (.int j u)) Q E s) :
  OpR X f (rI0 fun i j=>.int (g i j)):=by
 intro pins s σ H x y v u Q I rx ry h;obtain ⟨i,j,rfl,rfl,q⟩:=h;obtain ⟨t,rfl⟩:=rx;obtain ⟨t',rfl⟩:=ry;exact rule i j t t' s _ _ ⟨.int (g i j),H,I.tok _,⟨_,rfl⟩,q⟩
theorem opB0 {f:Value->Value->Sem Value} {g:Int->Int->Bool}
  (rule:∀(i j:Int) (t u:Tok) (s:Shared) (Q:Value->Shared->Prop) (E:Value->Shared->Prop),Q (.bool (g i j)) s->wpAny (model X.prog X.w) X.A (f (.int i t) (.int j u)) Q E s) :
  OpR X f (rI0 fun i j=>.bl (g i j)):=by
 intro pins s σ H x y v u Q I rx ry h;obtain ⟨i,j,rfl,rfl,q⟩:=h;obtain ⟨t,rfl⟩:=rx;obtain ⟨t',rfl⟩:=ry;exact rule i j t t' s _ _ ⟨.bl (g i j),H,I,rfl,q⟩
def CDiv (i j:Int):Prop:=0<j/\j<1073741824
def CPow (i j:Int):Prop:=0<=j/\j<=1000000/\i.natAbs<2^64
def CMul (i j:Int):Prop:=(-(2^64)<i/\i<2^64)\/(-(2^64)<j/\j<2^64)
theorem CMul.ok {i j:Int} (h:CMul i j):IntMulOk i j:=by
 rcases h with ⟨h1,h2⟩| ⟨h1,h2⟩
 ·exact .of_left (intBits_le_64 h1 h2)
 ·exact .of_right (intBits_le_64 h1 h2)
theorem zBn:OpR X (binaryOp .Add) (rI0 fun i j=>.int (i+j)):=opI0 fun _ _ _ _ _ _ _ q=>add_int q
theorem zFc:OpR X (binaryOp .Sub) (rI0 fun i j=>.int (i - j)):=opI0 fun _ _ _ _ _ _ _ q=>sub_int q
theorem zFd:OpR X (binaryOp .Mult) (rI CMul fun i j=>.int (i*j)):=opI fun _ _ _ _ _ _ _ hc q=>mul_int q hc.ok
theorem op_fdiv:OpR X (binaryOp .FloorDiv) (rI CDiv fun i j=>.int (i / j)):=opI fun i j _ _ _ _ _ hc q=>by
 have h1:(0:Int)<j:=hc.1;have h2:j<1073741824:=hc.2;exact floordiv_int (by lia) (by rw [Int.fdiv_eq_ediv_of_nonneg i (by lia)];exact q) (.inl (PyProof.noPylong_small (by lia)))
theorem zG3:OpR X (binaryOp .Mod) (rI (fun _ j=>0<j) fun i j=>.int (i % j)):=opI fun i j _ _ _ _ _ hc q=>by
 have h1:(0:Int)<j:=hc;exact mod_int' (by lia) (by rw [Int.fmod_eq_emod_of_nonneg i (by lia)];exact q)
theorem op_pow:OpR X (binaryOp .Pow) (rI CPow fun i j=>.int (i^j.toNat)):=opI fun _ _ _ _ _ _ _ hc q=>pow_int_small hc.1 hc.2.1 hc.2.2 q
theorem unI {f:Value->Sem Value} {g:Int->Int}
  (rule:∀(i:Int) (t:Tok) (s:Shared) (Q:Value->Shared->Prop) (E:Value->Shared->Prop),Q (.int (g i) s.toks) {s with toks:=s.toks+1}->wpAny (model X.prog X.w) X.A (f (.int i t)) Q E s) :
  UnR X f (rU fun i=>.int (g i)):=by
 intro pins s σ H x v Q I rx h;obtain ⟨i,rfl,q⟩:=h;obtain ⟨t,rfl⟩:=rx;exact rule i t s _ _ ⟨.int (g i),H,I.tok _,⟨_,rfl⟩,q⟩
theorem un_neg:UnR X (unaryOp .USub) (rU fun i=>.int (-i)):=unI fun _ _ _ _ _ q=>neg_int q
end
def scal:V->V->Bool
 | .non,.non=>true| .non,.int _=>true| .int _,.non=>true| .non,.bl _=>true| .bl _,.non=>true| .non,.str _=>true| .str _,.non=>true
 | .int _,.int _=>true| .bl _,.bl _=>true| .str _,.str _=>true| .byt _,.byt _=>true
 | .int _,.str _=>true| .str _,.int _=>true| .bl _,.str _=>true| .str _,.bl _=>true
 | _,_=>false
def rEq:R2:=fun x y H Q=>scal x y=true/\Q (.bl (decide (x=y))) H
def rNe:R2:=fun x y H Q=>scal x y=true/\Q (.bl (!decide (x=y))) H
theorem dec_int {i j:Int}:decide (V.int i=V.int j)=(i==j):=by
 rw [qBc];simp
theorem dec_bl {i j:Bool}:decide (V.bl i=V.bl j)=(i==j):=by
 rw [qBc];simp
theorem dec_str {i j:Str}:decide (V.str i=V.str j)=(i==j):=by
 rw [qBc];simp
theorem dec_byt {i j:Array UInt8}:decide (V.byt i=V.byt j)=(i.toList==j.toList):=by
 rw [qBc]
 cases i
 cases j
 simp
section
variable {X:Cx} {a b c:Expr} {ta tb tc:TE} {pos:Pos}
theorem zA3 {Q:VK} {k k':Bool} (I:Inv X pins σ H s) (q:Q (.bl k) H) (e:k=k'):EP X pins σ Q (.bool k') s:=by
 subst e;exact ⟨.bl k,H,I,rfl,q⟩
theorem zDd:OpR X (compareOp .Eq) rEq:=by
 intro pins s σ H x y v u Q I rx ry h;obtain ⟨hs,q⟩:=h
 cases x with
 | non =>
  cases rx
  cases y with
  | non=>cases ry;exact PySem.EqNone.eq_none_none (zA3 I q (by simp))
  | bl j=>cases ry;exact PySem.EqNone.eq_none_bool (zA3 I q (by simp))
  | int j=>obtain ⟨t',rfl⟩:=ry;exact PySem.EqNone.eq_none_int (zA3 I q (by simp))
  | str j=>obtain ⟨t',rfl⟩:=ry;exact PySem.EqNone.eq_none_str (zA3 I q (by simp))
  | _=>exact absurd (show false=true from hs) qAk
 | bl i =>
  cases rx
  cases y with
  | non=>cases ry;exact PySem.EqNone.eq_bool_none (zA3 I q (by simp))
  | bl j=>cases ry;exact eq_bool (zA3 I q dec_bl)
  | str j=>obtain ⟨t',rfl⟩:=ry;exact PySem.EqMixed.eq_bool_str (zA3 I q (by simp))
  | _=>exact absurd (show false=true from hs) qAk
 | int i =>
  obtain ⟨t,rfl⟩:=rx
  cases y with
  | non=>cases ry;exact PySem.EqNone.eq_int_none (zA3 I q (by simp))
  | int j=>obtain ⟨t',rfl⟩:=ry;exact eq_int (zA3 I q dec_int)
  | str j=>obtain ⟨t',rfl⟩:=ry;exact PySem.EqMixed.eq_int_str (zA3 I q (by simp))
  | _=>exact absurd (show false=true from hs) qAk
 | str i =>
  obtain ⟨t,rfl⟩:=rx
  cases y with
  | non=>cases ry;exact PySem.EqNone.eq_str_none (zA3 I q (by simp))
  | bl j=>cases ry;exact PySem.EqMixed.eq_str_bool (zA3 I q (by simp))
  | int j=>obtain ⟨t',rfl⟩:=ry;exact PySem.EqMixed.eq_str_int (zA3 I q (by simp))
  | str j=>obtain ⟨t',rfl⟩:=ry;exact eq_str (zA3 I q dec_str)
  | _=>exact absurd (show false=true from hs) qAk
 | byt i =>
  obtain ⟨t,rfl⟩:=rx
  cases y with
  | byt j=>obtain ⟨t',rfl⟩:=ry;exact PySem.W.eq_bytes (zA3 I q dec_byt)
  | _=>exact absurd (show false=true from hs) qAk
 | _=>cases y<;>exact absurd (show false=true from hs) qAk
theorem op_ne:OpR X (compareOp .NotEq) rNe:=by
 intro pins s σ H x y v u Q I rx ry h;obtain ⟨hs,q⟩:=h
 cases x with
 | non =>
  cases rx
  cases y with
  | non=>cases ry;exact PySem.EqNone.ne_none_none (zA3 I q (by simp))
  | bl j=>cases ry;exact PySem.EqNone.ne_none_bool (zA3 I q (by simp))
  | int j=>obtain ⟨t',rfl⟩:=ry;exact PySem.EqNone.ne_none_int (zA3 I q (by simp))
  | str j=>obtain ⟨t',rfl⟩:=ry;exact PySem.EqNone.ne_none_str (zA3 I q (by simp))
  | _=>exact absurd (show false=true from hs) qAk
 | bl i =>
  cases rx
  cases y with
  | non=>cases ry;exact PySem.EqNone.ne_bool_none (zA3 I q (by simp))
  | bl j=>cases ry;exact ne_bool (zA3 I q (qAa not dec_bl))
  | str j=>obtain ⟨t',rfl⟩:=ry;exact PySem.EqMixed.ne_bool_str (zA3 I q (by simp))
  | _=>exact absurd (show false=true from hs) qAk
 | int i =>
  obtain ⟨t,rfl⟩:=rx
  cases y with
  | non=>cases ry;exact PySem.EqNone.ne_int_none (zA3 I q (by simp))
  | int j=>obtain ⟨t',rfl⟩:=ry;exact ne_int (zA3 I q (qAa not dec_int))
  | str j=>obtain ⟨t',rfl⟩:=ry;exact PySem.EqMixed.ne_int_str (zA3 I q (by simp))
  | _=>exact absurd (show false=true from hs) qAk
 | str i =>
  obtain ⟨t,rfl⟩:=rx
  cases y with
  | non=>cases ry;exact PySem.EqNone.ne_str_none (zA3 I q (by simp))
  | bl j=>cases ry;exact PySem.EqMixed.ne_str_bool (zA3 I q (by simp))
  | int j=>obtain ⟨t',rfl⟩:=ry;exact PySem.EqMixed.ne_str_int (zA3 I q (by simp))
  | str j=>obtain ⟨t',rfl⟩:=ry;exact ne_str (zA3 I q (qAa not dec_str))
  | _=>exact absurd (show false=true from hs) qAk
 | byt i =>
  obtain ⟨t,rfl⟩:=rx
  cases y with
  | byt j=>obtain ⟨t',rfl⟩:=ry;exact PySem.W.ne_bytes (zA3 I q (qAa not dec_byt))
  | _=>exact absurd (show false=true from hs) qAk
 | _=>cases y<;>exact absurd (show false=true from hs) qAk
theorem op_lt:OpR X (compareOp .Lt) (rI0 fun i j=>.bl (decide (i<j))):=opB0 fun _ _ _ _ _ _ _ q=>lt_int q
theorem op_le:OpR X (compareOp .LtE) (rI0 fun i j=>.bl (decide (i<=j))):=opB0 fun _ _ _ _ _ _ _ q=>le_int q
theorem op_gt:OpR X (compareOp .Gt) (rI0 fun i j=>.bl (decide (j<i))):=opB0 fun _ _ _ _ _ _ _ q=>gt_int q
theorem zI0:OpR X (compareOp .IsNot) (fun x y H Q=>y= .non/\Q (.bl (!decide (x= .non))) H):=by
 intro pins s σ H x y v u Q I rx ry h;obtain ⟨rfl,q⟩:=h
 cases ry
 refine isnot_none_gen (zA3 I q ?_)
 cases x<;>first
  | (cases rx;rfl)
  | (obtain ⟨t,rfl⟩:=rx;rfl)
theorem zAr (b:Expr) (h:op≠.In:=by decide) (h2:op≠.NotIn:=by decide):behindInMarks op b=false:=by
 have e1:(op==CmpOp.In)=false:=by cases op<;>first| rfl| exact absurd rfl h
 have e2:(op==CmpOp.NotIn)=false:=by cases op<;>first| rfl| exact absurd rfl h2
 cases b<;>simp [behindInMarks,e1,e2]
theorem zCg (ho:OpR X (compareOp op) r) (ha:PE X a ta) (hb:PE X b tb) (hm:behindInMarks op b=false):PE X (.Compare a [op] [b] pos) (tOp r ta tb):=by
 intro pins s σ H Q I h;exact wpAny_Compare1 (binT ha hb I h fun v u s2 x y H2 I2 rx ry q=>ho pins s2 σ H2 x y v u Q I2 rx ry q) hm
def tTest (t:TE):TT:=fun σ H Q=>t σ H fun x H'=>∃k,x= .bl k/\Q k H'
theorem zAn (ho:OpR X (compareOp op) r) (ha:PE X a ta) (hb:PE X b tb) (hm:behindInMarks op b=false):PT X (.Compare a [op] [b] pos) (tTest (tOp r ta tb)):=by
 intro pins s σ H Q I h
 refine wpAny_isTrue_Compare1 (thn (ha pins s σ H _ I h) fun v s1 ⟨x,H1,I1,r1,q1⟩=>thn (hb pins s1 σ H1 _ I1 q1) fun u s2 ⟨y,H2,I2,r2,q2⟩ =>
  thn (ho pins s2 σ H2 x y v u _ I2 r1 r2 q2) fun c s3 ⟨z,H3,I3,r3,k,e,q3⟩=>?_) hm
 subst e
 cases r3
 exact qA5 ⟨H3,I3,q3⟩
def tChain (r r':R2) (ta tb tc:TE):TE:=fun σ H Q=>ta σ H fun x H1=>tb σ H1 fun y H2=>r x y H2 fun z H3=>∃k,z= .bl k /\
 (if k=true then tc σ H3 fun w' H4=>r' y w' H4 Q else Q (.bl false) H3)
theorem pe_chain {op':CmpOp} {r':R2} (ho:OpR X (compareOp op) r) (ho':OpR X (compareOp op') r') (ha:PE X a ta) (hb:PE X b tb) (hc:PE X c tc)
  (hm:lastMarks [op,op'] [b,c]=false:=by with_unfolding_all rfl):PE X (.Compare a [op,op'] [b,c] pos) (tChain r r' ta tb tc):=by
 intro pins s σ H Q I h
 refine Compare_chain (thn (ha pins s σ H _ I h) fun v s1 ⟨x,H1,I1,r1,q1⟩=>chain_link (thn (hb pins s1 σ H1 _ I1 q1) fun u s2 ⟨y,H2,I2,r2,q2⟩ =>
  thn (ho pins s2 σ H2 x y v u _ I2 r1 r2 q2) fun d s3 ⟨z,H3,I3,r3,k,e,q3⟩=>?_)) hm
 subst e
 cases r3
 refine qA5 ?_
 cases k with
 | false=>exact ite_ff ⟨.bl false,H3,I3,rfl,q3⟩
 | true=>exact ite_tt (chain_last (thn (hc pins s3 σ H3 _ I3 q3) fun w' s4 ⟨z',H4,I4,r4,q4⟩=>ho' pins s4 σ H4 y z' u w' Q I4 r2 r4 q4))
theorem pt_chain {op':CmpOp} {r':R2} (ho:OpR X (compareOp op) r) (ho':OpR X (compareOp op') r') (ha:PE X a ta) (hb:PE X b tb) (hc:PE X c tc)
  (hm:lastMarks [op,op'] [b,c]=false:=by with_unfolding_all rfl):PT X (.Compare a [op,op'] [b,c] pos) (tTest (tChain r r' ta tb tc)):=by
 intro pins s σ H Q I h
 refine isTrue_chain (thn (ha pins s σ H _ I h) fun v s1 ⟨x,H1,I1,r1,q1⟩=>test_link (thn (hb pins s1 σ H1 _ I1 q1) fun u s2 ⟨y,H2,I2,r2,q2⟩ =>
  thn (ho pins s2 σ H2 x y v u _ I2 r1 r2 q2) fun d s3 ⟨z,H3,I3,r3,k,e,q3⟩=>?_)) hm
 subst e
 cases r3
 refine qA5 ?_
 cases k with
 | false =>
  obtain ⟨k',e',q'⟩:=q3
  cases e'
  exact ite_ff ⟨H3,I3,q'⟩
 | true =>
  refine ite_tt (test_last (thn (hc pins s3 σ H3 _ I3 q3) fun w' s4 ⟨z',H4,I4,r4,q4⟩=>thn (ho' pins s4 σ H4 y z' u w' _ I4 r2 r4 q4) fun d' s5 ⟨z2,H5,I5,r5,k2,e2,q5⟩=>?_));subst e2
  cases r5
  exact qA5 ⟨H5,I5,q5⟩
def TruV (K:PySem.W.Frag) (x:V) (H:Hp) (k:Bool):Prop :=
 match x with
 | .non=>k=false
 | .bl b=>k=b
 | .int i=>k=(i != 0)
 | .str y=>y.length<=sizeLine/\k=((y.length:Int) != 0)
 | .byt y=>y.size<=sizeLine/\k=((y.size:Int) != 0)
 | .ref p=>(∃xs,SqL K H p xs/\k= !xs.isEmpty)\/(∃xs,SqT K H p xs/\k= !xs.isEmpty)\/∃kvs,H p=some (.dK kvs)/\k= !kvs.isEmpty
 | _=>False
theorem isEmpty_kv {κ:Type} {kvs:List (κ×V)} {vs:List (κ×Value)} (r:KV kvs vs):(!vs.isEmpty)= !kvs.isEmpty:=by
 cases r<;>rfl
theorem zH7 {its:List Value} (r:Vals xs its):(!its.toArray.isEmpty)= !xs.isEmpty:=by
 cases r<;>simp
theorem zG8:(sizeLine:Nat)<2^63:=by rw [qAO];decide
theorem tru_ok:TruR X (fun x H Q=>∃k,TruV X.K x H k/\Q k H):=by
 intro pins s σ H x v Q I rx h;obtain ⟨k,e,q⟩:=h;have hl:=zG8;have hs:sizeLine=16777216:=qAO
 cases x with
 | non =>
  cases rx
  have e':k=false:=e;subst e';exact truthy_none ⟨H,I,q⟩
 | bl b =>
  cases rx
  have e':k=b:=e;subst e';exact qA5 ⟨H,I,q⟩
 | int i =>
  obtain ⟨t,rfl⟩:=rx;have e':k=(i != 0):=e;subst e';exact PySem.P.truthy_int ⟨H,I,q⟩
 | str y =>
  obtain ⟨t,rfl⟩:=rx;obtain ⟨hy,e'⟩:y.length<=sizeLine/\k=((y.length:Int) != 0):=e;subst e';exact PySem.P.truthy_str (by lia) ⟨H,I.tok _,q⟩
 | byt y =>
  obtain ⟨t,rfl⟩:=rx;obtain ⟨hy,e'⟩:y.size<=sizeLine/\k=((y.size:Int) != 0):=e;subst e';exact PySem.W.truthy_bytes (by lia) ⟨H,I.tok _,q⟩
 | ref p =>
  cases rx
  have e':(∃xs,SqL X.K H p xs/\k= !xs.isEmpty)\/(∃xs,SqT X.K H p xs/\k= !xs.isEmpty)\/∃kvs,H p=some (.dK kvs)/\k= !kvs.isEmpty:=e;rcases e' with ⟨xs,hx,e'⟩| ⟨xs,hx,e'⟩| ⟨kvs,hx,e'⟩
  ·subst e';obtain ⟨its,r,pl,hz⟩:=I.list hx;have hlen:=r.length;exact wpAny_truthy_list pl.isList (by simp only [qAP];lia) ⟨H,I.tok _,by rw [zH7 r];exact q⟩
  ·subst e';obtain ⟨its,r,pl,hz⟩:=I.tuple hx;have hlen:=r.length;exact truthy_tuple pl (by simp only [qAP];lia) ⟨H,I.tok _,by rw [zH7 r];exact q⟩
  ·subst e';obtain ⟨hz,hS,vs,r,m⟩:kvs.length<=sizeLine/\(p==sysModules)=false/\∃vs,KV kvs vs/\s.heap.DictOf (zBd X.prog X.w) p vs:=I.hok p _ hx;have hlen:kvs.length=vs.length:=qB5 r;exact wpAny_truthy_dict hS m (by lia) ⟨H,I.tok _,by rw [isEmpty_kv r];exact q⟩
 | _=>exact (show False from e).elim
theorem pt_truth (ha:PE X a ta) (he:∀whole,isTrue a X.env whole=(do let v<-whole;standAt a.pos;holding [v] (truthy v))) :
  PT X a (fun σ H Q=>ta σ H fun x H'=>∃k,TruV X.K x H' k/\Q k H'):=by
 intro pins s σ H Q I h;exact isTrue_plain (thn (ha pins s σ H _ I h) fun v s1 ⟨x,H1,I1,r1,q1⟩=>tru_ok pins s1 σ H1 x v Q I1 r1 q1) (he _)
theorem op_add_str:OpR X (binaryOp .Add) (fun x y H Q=>∃i j,x= .str i/\y= .str j/\i.length+j.length<=sizeLine/\Q (.str (i++j)) H):=by
 intro pins s σ H x y v u Q I rx ry h;obtain ⟨i,j,rfl,rfl,hz,q⟩:=h;obtain ⟨t,rfl⟩:=rx;obtain ⟨t',rfl⟩:=ry;exact add_str (fun t' tk=>⟨.str (i++j),H,I.tok _,⟨_,rfl⟩,q⟩) hz
theorem vals1 {x:V} (r:Vals [x] us):∃u,us=[u]/\RelV x u:=by
 cases r with
 | cons r1 r2=>cases r2;exact ⟨_,rfl,r1⟩
theorem vals2 {x:V} (r:Vals [x,y] us):∃u w',us=[u,w']/\RelV x u/\RelV y w':=by
 cases r with
 | cons r1 r2 =>
  cases r2 with
  | cons r3 r4=>cases r4;exact ⟨_,_,rfl,r1,r3⟩
theorem call_max2 (hc:X.calm=true):zCu X (.builtin "max") (fun xs H Q=>∃i j,xs=[.int i,.int j]/\Q (.int (if j>i then j else i)) H):=by
 intro pins s σ H xs us Q I r h;obtain ⟨i,j,rfl,q⟩:=h;obtain ⟨u,w',rfl,⟨t,rfl⟩,⟨t',rfl⟩⟩:=vals2 r;refine max_two_ints (I.ok.hd hc) fun h' tk k=>⟨_,H,I.kept k,?_,q⟩
 by_cases hj:j>i
 ·rw [qAC hj,qAC hj];exact ⟨_,rfl⟩
 ·rw [qAB hj,qAB hj];exact ⟨_,rfl⟩
theorem call_min2 (hc:X.calm=true):zCu X (.builtin "min") (fun xs H Q=>∃i j,xs=[.int i,.int j]/\Q (.int (if j<i then j else i)) H):=by
 intro pins s σ H xs us Q I r h;obtain ⟨i,j,rfl,q⟩:=h;obtain ⟨u,w',rfl,⟨t,rfl⟩,⟨t',rfl⟩⟩:=vals2 r;refine min_two_ints (I.ok.hd hc) fun h' tk k=>⟨_,H,I.kept k,?_,q⟩
 by_cases hj:j<i
 ·rw [qAC hj,qAC hj];exact ⟨_,rfl⟩
 ·rw [qAB hj,qAB hj];exact ⟨_,rfl⟩
theorem zEe:zCu X (.type "int") (fun xs H Q=>(∃i,xs=[.int i]/\Q (.int i) H)\/∃k,xs=[.bl k]/\Q (.int (if k then 1 else 0)) H):=by
 intro pins s σ H xs us Q I r h;rcases h with ⟨i,rfl,q⟩| ⟨k,rfl,q⟩
 ·obtain ⟨u,rfl,t,rfl⟩:=vals1 r;exact call_int_int ⟨.int i,H,I,⟨_,rfl⟩,q⟩
 ·obtain ⟨u,rfl,r1⟩:=vals1 r
  cases r1
  exact call_int_bool ⟨.int (if k then 1 else 0),H,I.tok _,⟨_,rfl⟩,q⟩
end
structure ObjM (h:Heap) (x dx C:Addr) (mA:Str->Option Value):Prop where
 obj:h.get? x=some (PySem.W.instObj C dx)
 ns:h.Ns1 dx mA
 ne:dx≠x
theorem lookIn_ns {dx:Addr} {mA:Str->Option Value} (n:h.Ns1 dx mA):∃od,h.get? dx=some od/\∀name,PySem.W.lookIn name od=some (mA name):=by
 obtain ⟨o,es,ep,ho,hd,hk,_,hm⟩:=n;refine ⟨o,ho,fun name=>?_⟩;have e:=hm name;unfold nsFind findBy at e;rw [<-Array.find?_toList] at e;unfold PySem.W.lookIn;rw [hd];dsimp only;split
 ·rename_i y q;rw [q] at e;exact qAa some e
 ·rename_i q;rw [q] at e
  have a:es.toList.any (·.refKey)=false:=by
   rw [List.any_eq_false];intro y hy;obtain ⟨z,t,hkey⟩:=hk y (qDC.mp hy);simp [DictEntry.refKey,hkey]
  have a':¬es.toList.any (·.refKey)=true:=by rw [a];exact qAk
  rw [qAB a'];exact qAa some e
theorem ObjM.look {x dx:Addr} {mA:Str->Option Value} (I:ObjM h x dx C mA):∃od,PySem.W.InstAt h x (PySem.W.instObj C dx) C (some od)/\∀name,PySem.W.lookIn name od=some (mA name) :=
 let ⟨od,ho,hl⟩:=lookIn_ns I.ns
 ⟨od,⟨I.obj,rfl,rfl,ho⟩,hl⟩
section
variable {prog:Program} {w:World} {A:Around} {E:Value->Shared->Prop} {s:Shared} {K:PySem.W.Frag} {x dx C f:Addr} {mA:Str->Option Value} {name:Str} {v:Value}
theorem get_map {expr:Bool} {Q:Value->Shared->Prop} (X:K.In s.heap) (I:ObjM s.heap x dx C mA) (hg:PySem.W.plainGet K C name=true) (hh:PySem.W.hasDictIn K C=true)
  (ha:PySem.W.findIn K (.ref C) name=some none) (hv:mA name=some v) (hv':PySem.W.handedIn v=true) (h:Q v {s with toks:=s.toks+1}) :
  wpAny (model prog w) A (getAttr (.ref x) name expr) Q E s:=by
 obtain ⟨od,J,hl⟩:=I.look;exact PySem.W.get_value X J (PySem.W.plainGet_of hg).1 (PySem.W.findObj_own hh ha rfl (by rw [hl,hv])) hv' h
theorem get_meth {pl:Sem Bool} {Q:Value×List Value->Shared->Prop} (X:K.In s.heap) (I:ObjM s.heap x dx C mA) (hg:PySem.W.plainGet K C name=true)
  (hf:PySem.W.findIn K (.ref C) name=some (some (.ref f))) (ht:PySem.W.isFn K (.ref f)=true) (hv:mA name=none) (h:Q (.ref f,[.ref x]) s) :
  wpAny (model prog w) A (getMethod (.ref x) name pl) Q E s:=by
 obtain ⟨od,J,hl⟩:=I.look;exact PySem.W.method_fn X J (PySem.W.plainGet_of hg).1 (PySem.W.plainGet_of hg).2 hf (qB9.mp ht) (by show (PySem.W.lookIn name od).map (·.isSome)=some false;rw [hl,hv];rfl) h
theorem set_map {ns:List Str} {Q:Unit->Shared->Prop} (X:K.In s.heap) (I:ObjM s.heap x dx C mA)
  (hs:PySem.W.findIn K (.ref C) "__setattr__" = some (some (.builtin "object.__setattr__"))) (hp:PySem.W.plainOver K C=true) (ht:PySem.W.takerIn K C name=some none) (hh:PySem.W.hasDictIn K C=true)
  (hw:PySem.Within mA ns) (hsz:ns.length<=sizeLine)
  (h:∀h',ObjM h' x dx C (fun y=>if y=name then some v else mA y)->Heap.SameBut dx s.heap h'->Q () {s with heap:=h',toks:=s.toks+2}) :
  wpAny (model prog w) A (setAttr (.ref x) name v) Q E s:=by
 obtain ⟨od,J,hl⟩:=I.look;refine PySem.W.set_plain X J hs (PySem.W.osa_open (s:={s with toks:=s.toks+1}) (r:=none) X J hp ht fun b=>?_);obtain ⟨cd,hc,hd'⟩:=PySem.W.any_some hh;have hx:s.heap.get? x=some ⟨.ref C,some dx,.plain,#[]⟩:=I.obj;refine qAA (qAE (qAA (qAA (wpAny_loadPart hx (qAA (PySem.W.Looks.here (s:={s with toks:=s.toks+1}) (PySem.W.looks_clsIn X hc) ?_))))));rw [hd'];refine qAE (a:=some dx) (qAA (qAE (qAA ?_)));refine wpAny_nsSet1 (s:={s with toks:=s.toks+1}) I.ns fun h' hn2 hs2=>?_;obtain ⟨oD,esD,epD,hoD,hdD,hcD⟩:=hn2.count (PySem.Within.cons name v hw);refine qAA (wpAny_lookBehind hoD (by rw [hdD];exact pastItsLine_dict (qAc hcD (by rw [qAe];lia))) ?_);exact qAE (h _ ⟨(hs2.2 _ (qAm I.ne)).trans I.obj,hn2,I.ne⟩ hs2)
theorem make_map {R:Result->Shared->Prop} {vs:List Value} {kw:List (Str×Value)} (X:K.In s.heap) (hm:PySem.W.makesIn K C=true)
  (hi:PySem.W.findIn K (.ref C) "__init__" = some (some (.ref f))) (hf:PySem.W.typeIn K (.ref f)=some (.type "function"))
  (h:codeAny (model prog w) (A.under (.builtin "type.__call__" ⟨.ref C::vs,kw⟩)) (.call (.ref f) ⟨.ref (s.heap.objs.size+1)::vs,kw⟩) (PySem.W.InitBack (s.heap.objs.size+1) R)
   {s with heap:=(s.heap.push PySem.W.emptyDict).push (PySem.W.instObj C s.heap.objs.size)}) :
  codeAny (model prog w) A (.call (.ref C) ⟨vs,kw⟩) R s:=by
 obtain ⟨hh,g,d,t,os⟩:=s;exact PySem.W.make_core (PySem.W.makes_of X hm) (PySem.W.looks_findIn X hi) (fun self=>PySem.W.bind_fn X self hf) (.inl rfl) h
end
def putF (f:Str) (v:V):List (Str×V)->List (Str×V)
 | []=>[(f,v)]
 | (g,x)::r=>if g=f then (g,v)::r else (g,x)::putF f v r
theorem zAw (f g:Str) (v:V):∀fs:List (Str×V),(putF f v fs).lookup g=if g=f then some v else fs.lookup g
 | []=>by
  show List.lookup g [(f,v)]=_
  by_cases h:g=f
  ·have hb:(g==f)=true:=qB9.mpr h;simp only [List.lookup,hb,qAC h]
  ·have hb:(g==f)=false:=qAw.mpr h;simp only [List.lookup,hb,qAB h]
 | (k,x)::r=>by
  have ih:=zAw f g v r;rw [show putF f v ((k,x)::r)=(if k=f then (k,v)::r else (k,x)::putF f v r) from rfl]
  by_cases hk:k=f
  ·rw [qAC hk]
   by_cases h:g=k
   ·have hb:(g==k)=true:=qB9.mpr h;simp only [List.lookup,hb,qAC (h.trans hk)]
   ·have hb:(g==k)=false:=qAw.mpr h;simp only [List.lookup,hb,qAB (fun e:g=f=>h (e.trans hk.symm))]
  ·rw [qAB hk]
   by_cases h:g=k
   ·have hb:(g==k)=true:=qB9.mpr h;simp only [List.lookup,hb,qAB (fun e:g=f=>hk (h.symm.trans e))]
   ·have hb:(g==k)=false:=qAw.mpr h;simp only [List.lookup,hb];exact ih
theorem zHc (f:Str) (v:V):∀fs:List (Str×V),f∈(putF f v fs).map (·.1)/\∀g,g∈fs.map (·.1)->g∈(putF f v fs).map (·.1)
 | []=>⟨by simp [putF],fun g h=>by simp at h⟩
 | (k,x)::r=>by
  obtain ⟨i1,i2⟩:=zHc f v r;rw [show putF f v ((k,x)::r)=(if k=f then (k,v)::r else (k,x)::putF f v r) from rfl]
  by_cases hk:k=f
  ·rw [qAC hk];subst hk;exact ⟨by simp,fun g h=>by simpa using h⟩
  ·rw [qAB hk];refine ⟨?_,fun g h=>?_⟩
   ·rw [qAi];exact qAU _ i1
   ·rw [qAi] at h ⊢;rcases qAS.mp h with e| e
    ·exact qAS.mpr (.inl e)
    ·exact qAU _ (i2 g e)
theorem zG9 (f:Str) (v:V):∀fs:List (Str×V),(putF f v fs).length<=fs.length+1
 | []=>by simp [putF]
 | (k,x)::r=>by
  have ih:=zG9 f v r;rw [show putF f v ((k,x)::r)=(if k=f then (k,v)::r else (k,x)::putF f v r) from rfl]
  by_cases hk:k=f
  ·rw [qAC hk,qAe,qAe];lia
  ·rw [qAB hk,qAe,qAe];lia
theorem RelO.some_of {v:V} {o:Option Value} (r:RelO (some v) o):∃u,o=some u/\RelV v u:=by
 cases o with
 | none=>exact (show False from r).elim
 | some u=>exact ⟨u,rfl,r⟩
theorem RelO.none_of {o:Option Value} (r:RelO none o):o=none:=by
 cases o with
 | none=>rfl
 | some u=>exact (show False from r).elim
theorem handed_of (r:RelV v u):PySem.W.handedIn u=true:=by
 cases v with
 | non=>cases (show u=Value.none from r);rfl
 | bl b=>cases (show u=Value.bool b from r);rfl
 | int i=>obtain ⟨t,e⟩:=(show∃t,u=Value.int i t from r);cases e;rfl
 | str x=>obtain ⟨t,e⟩:=(show∃t,u=Value.str x t from r);cases e;rfl
 | byt b=>obtain ⟨t,e⟩:=(show∃t,u=Value.bytes b t from r);cases e;rfl
 | flt b=>obtain ⟨t,e⟩:=(show∃t,u=Value.float b t from r);cases e;rfl
 | ref a=>cases (show u=Value.ref a from r);rfl
 | ty n=>cases (show u=Value.type n from r);rfl
section
variable {P:Program} {w:World} {H H':Hp} {h h':Heap} {a C dx:Addr} {fs fs':List (Str×V)}
theorem zFw (hok:HOk P w H h) (e:H a=some (.ins C dx fs)):∃mA,ObjM h a dx C mA/\(∀f,RelO (fs.lookup f) (mA f))/\PySem.Within mA (fs.map (·.1))/\fs.length<=1000/\H dx=some (.own a):=by
 obtain ⟨d,z,ne,ob,mA,n,r,q⟩:=(show zBb P w H h a (.ins C dx fs) from hok a _ e);exact ⟨mA,⟨ob,n,ne⟩,r,q,z,d⟩
end
structure Cls (K:PySem.W.Frag) (C:Addr):Prop where
 pg:PySem.W.plainGet K C Str.empty=true
 hd:PySem.W.hasDictIn K C=true
 po:PySem.W.plainOver K C=true
 sa:PySem.W.findIn K (.ref C) "__setattr__" = some (some (.builtin "object.__setattr__"))
theorem Cls.get (c:Cls K C) (f:Str):PySem.W.plainGet K C f=true:=c.pg
def zFn (K:PySem.W.Frag) (C:Addr) (f:Str):Prop:=PySem.W.findIn K (.ref C) f=some none
theorem zFn.taker {f:Str} (n:zFn K C f):PySem.W.takerIn K C f=some none:=by
 unfold PySem.W.takerIn;rw [show PySem.W.findIn K (.ref C) f=some none from n];rfl
structure Meth (K:PySem.W.Frag) (C:Addr) (m:Str) (f:Addr):Prop where
 at_:PySem.W.findIn K (.ref C) m=some (some (.ref f))
 fn:PySem.W.isFn K (.ref f)=true
 kp:PySem.W.keepIn K (.ref f)=true
section
variable {X:Cx} {pins:List (Addr×Obj)} {σ:St} {H:Hp} {s:Shared} {a C dx:Addr} {fs:List (Str×V)} {f:Str} {v:V} {A:Around} {E:Value->Shared->Prop}
theorem getattr_ok {b:Bool} {Q:Value->Shared->Prop} (I:Inv X pins σ H s) (e:H a=some (.ins C dx fs)) (c:Cls X.K C) (n:zFn X.K C f) (l:fs.lookup f=some v)
  (h:∀u s',Inv X pins σ H s'->RelV v u->Q u s'):wpAny (model X.prog X.w) A (getAttr (.ref a) f b) Q E s:=by
 obtain ⟨mA,O,r,_,_,_⟩:=zFw I.hok e;obtain ⟨u,hu,ru⟩:=RelO.some_of (v:=v) (o:=mA f) (by rw [<-l];exact r f);exact get_map I.kIn O (c.get f) c.hd n hu (handed_of ru) (h u _ (I.tok _) ru)
theorem zH8 {m:Str} {g:Addr} {pl:Sem Bool} {Q:Value×List Value->Shared->Prop} (I:Inv X pins σ H s) (e:H a=some (.ins C dx fs)) (c:Cls X.K C) (k:Meth X.K C m g) (l:fs.lookup m=none)
  (h:Q (.ref g,[.ref a]) s):wpAny (model X.prog X.w) A (getMethod (.ref a) m pl) Q E s:=by
 obtain ⟨mA,O,r,_,_,_⟩:=zFw I.hok e;have hn:mA m=none:=RelO.none_of (by rw [<-l];exact r m);exact get_meth I.kIn O (c.get m) k.at_ k.fn hn h
theorem setattr_ok {Q:Unit->Shared->Prop} (I:Inv X pins σ H s) (e:H a=some (.ins C dx fs)) (c:Cls X.K C) (n:zFn X.K C f) (hl:fs.length<1000) (ry:RelV y u)
  (h:∀s',Inv X pins σ (upd H a (.ins C dx (putF f y fs))) s'->Q () s'):wpAny (model X.prog X.w) A (setAttr (.ref a) f u) Q E s:=by
 obtain ⟨mA,O,r,wi,_,ho⟩:=zFw I.hok e;have hz:(fs.map (·.1)).length<=sizeLine:=by rw [qAD,qAO];lia
 refine set_map I.kIn O c.sa c.po n.taker c.hd wi hz fun h' O' sb=>h _ ?_;have hd:∃o,h'.get? dx=some o:=let ⟨o,_,_,e',_⟩:=O'.ns;⟨o,e'⟩;refine I.write (x:=a) (e:=dx) (by rw [e];exact True.intro) (.inr ho) (fun b q hb z=>(sb.2 b hb).trans z) hd ?_;refine ⟨by rw [upd_ne O.ne];exact ho,?_,O.ne,O'.obj,_,O'.ns,fun g=>?_,fun g hg=>?_⟩
 ·have:=zG9 f y fs;lia
 ·show RelO ((putF f y fs).lookup g) (if g=f then some u else mA g);rw [zAw]
  by_cases q:g=f
  ·rw [qAC q,qAC q];exact ry
  ·rw [qAB q,qAB q];exact r g
 ·by_cases q:g=f
  ·rw [q];exact (zHc f y fs).1
  ·refine (zHc f y fs).2 g (wi g fun z=>hg ?_);show (if g=f then some u else mA g)=none;rw [qAB q];exact z
theorem Inv.made (I:Inv X pins σ H s):Inv X pins σ (upd (upd H s.heap.objs.size (.own (s.heap.objs.size+1))) (s.heap.objs.size+1) (.ins C s.heap.objs.size []))
  {s with heap:=(s.heap.push PySem.W.emptyDict).push (PySem.W.instObj C s.heap.objs.size)}:=by
 have e1:(s.heap.push PySem.W.emptyDict).get? s.heap.objs.size=some PySem.W.emptyDict:=qAb s.heap rfl
 have e2:((s.heap.push PySem.W.emptyDict).push (PySem.W.instObj C s.heap.objs.size)).get? (s.heap.objs.size+1)=some (PySem.W.instObj C s.heap.objs.size):=by
  have:=qAb (s.heap.push PySem.W.emptyDict) (o:=PySem.W.instObj C s.heap.objs.size) rfl
  rwa [qBB] at this
 have e3:(s.heap.push PySem.W.emptyDict).Ns s.heap.objs.size (fun _=>none):=⟨PySem.W.emptyDict,#[],_,e1,rfl,(fun e he=>absurd he (by simp)),fun _=>rfl⟩;have I1:=I.laid (a:=s.heap.objs.size) (o:=.own (s.heap.objs.size+1)) (h':=s.heap.push PySem.W.emptyDict) (t':=s.toks) (fun b u q=>qAI _ q) (qAF _) ⟨_,e1⟩;refine I1.laid (a:=s.heap.objs.size+1) (o:=.ins C s.heap.objs.size []) (t':=s.toks) (fun b u q=>qAI _ q) (qBr (qBB _ _)) ?_;have ne:s.heap.objs.size≠s.heap.objs.size+1:=qAT (qCT _);refine ⟨by rw [upd_ne ne,upd_same],qAg _,ne,e2,fun _=>none,(Heap.Ns1.of_empty e3).at fun o q=>qAI _ q,fun _=>True.intro,fun y hy=>absurd rfl hy⟩
theorem attr_of {prog:Program} {env:Env} {f:Str} {Q:Value->Shared->Prop} (hb:attributeBase e f env (eval e env)=eval e env)
  (h:wpAny (model prog w) A (eval e env) (fun o s₁=>wpAny (model prog w) A (getAttr o f true) Q E s₁) E s):wpAny (model prog w) A (eval (.Attribute e f pos) env) Q E s :=
 Attribute_any_ h (by rw [arm_eval_Attribute,hb])
end
def tFld (K:PySem.W.Frag) (ta:TE) (f:Str):TE:=fun σ H Q=>ta σ H fun x H1=>∃a C dx fs v,x= .ref a/\H1 a=some (.ins C dx fs)/\Cls K C/\zFn K C f/\fs.lookup f=some v/\Q v H1
def sFld (K:PySem.W.Frag) (ta tv:TE) (f:Str):TS:=fun D σ H=>tv σ H fun y H1=>ta σ H1 fun x H2=>∃a C dx fs,x= .ref a/\H2 a=some (.ins C dx fs)/\Cls K C/\zFn K C f/\fs.length<1000 /\
 D.nx σ (upd H2 a (.ins C dx (putF f y fs)))
section
variable {X:Cx} {o e value:Expr} {f:Str} {pos pos' tpos:Pos} {ta tv:TE}
theorem zEr (he:PE X e ta) (hb:attributeBase e f X.env (eval e X.env)=eval e X.env):PE X (.Attribute e f pos) (tFld X.K ta f):=by
 intro pins s σ H Q I h;refine attr_of hb (thn (he pins s σ H _ I h) fun u s1 ⟨x,H1,I1,rx,a,C,dx,fs,v,ex,ea,c,n,l,q⟩=>?_);subst ex;obtain rfl:u=Value.ref a:=rx;exact getattr_ok I1 ea c n l fun u' s2 I2 ru=>⟨v,H1,I2,ru,q⟩
theorem ps_fld (ha:PE X o ta) (hv:PE X value tv) (hs:swapsWith value (some (.Attribute o f pos')) pos.line X.env=pure false):PS X (.Assign [.Attribute o f pos'] value pos) (sFld X.K ta tv f):=by
 intro pins s σ H D I h;refine plainObj_wpAny_Assign_Attribute (thn (hv pins s σ H _ I h) fun u s1 ⟨y,H1,I1,ry,q⟩=>thn (ha pins s1 σ H1 _ I1 q) fun ov s2 ⟨x,H2,I2,rx,a,C,dx,fs,ex,ea,c,n,l,q2⟩=>?_) hs;subst ex;obtain rfl:ov=Value.ref a:=rx;exact setattr_ok I2 ea c n l ry fun s3 I3=>⟨σ,_,I3,q2⟩
end
section
variable {X:Cx} {pins:List (Addr×Obj)} {σ:St} {H:Hp} {s:Shared} {A:Around} {E:Value->Shared->Prop} {Q:Value->Shared->Prop} {c:Value} {b:Bool}
inductive TyOf (K:PySem.W.Frag) (H:Hp):V->Value->Prop where
 | non:TyOf K H .non (.type "NoneType")
 | bl (x:Bool):TyOf K H (.bl x) (.type "bool")
 | int (i:Int):TyOf K H (.int i) (.type "int")
 | str (x:Str):TyOf K H (.str x) (.type "str")
 | flt (x:UInt64):TyOf K H (.flt x) (.type "float")
 | lst {a:Addr} {xs:List V} (e:H a=some (.lst xs)):TyOf K H (.ref a) (.type "list")
 | frz {a:Addr} {o:Obj} {xs:List V} (e:H a=some (.frz o (.lst xs))):TyOf K H (.ref a) (.type "list")
 | tup {a:Addr} {xs:List V} (e:H a=some (.tup xs)):TyOf K H (.ref a) (.type "tuple")
 | dK {a:Addr} {kvs:List (Key×V)} (e:H a=some (.dK kvs)):TyOf K H (.ref a) (.type "dict")
 | dT {a:Addr} {kvs:List (List Key×V)} (e:H a=some (.dT kvs)):TyOf K H (.ref a) (.type "dict")
 | ins {a C dx:Addr} {fs:List (Str×V)} (e:H a=some (.ins C dx fs)) (cl:Cls K C) (ha:PySem.W.findIn K (.ref C) "__class__" = some (some (.builtin "object.__class__")))
   (hn:PySem.W.specialIn K (.builtin "object.__class__") "__get__" = some (some (.builtin "getset_descriptor.__get__"))) (htk:PySem.W.takesIn K (.builtin "object.__class__")=some true)
   (hm:PySem.W.mroIn K C (.type "object")=some true):TyOf K H (.ref a) (.ref C)
theorem isinst_ok {x:V} {t:Value} (I:Inv X pins σ H s) (rx:RelV x u) (ty:TyOf X.K H x t) (e:PySem.W.kitOne X.K t c=some b) (h:∀tk,Q (.bool b) {s with toks:=tk}) :
  wpAny (model X.prog X.w) A (call (.builtin "isinstance") [u,c]) Q E s:=by
 cases ty with
 | non=>cases (show u=Value.none from rx);exact qBC PySem.W.kitx_none I.kIn True.intro e (fun z=>nomatch z) h
 | bl y=>cases (show u=Value.bool y from rx);exact qBC PySem.W.kitx_bool I.kIn True.intro e (fun z=>nomatch z) h
 | int i=>obtain ⟨t,q⟩:=(show∃t,u=Value.int i t from rx);cases q;exact qBC PySem.W.kitx_int I.kIn True.intro e (fun z=>nomatch z) h
 | str y=>obtain ⟨t,q⟩:=(show∃t,u=Value.str y t from rx);cases q;exact qBC PySem.W.kitx_str I.kIn True.intro e (fun z=>nomatch z) h
 | flt y=>obtain ⟨t,q⟩:=(show∃t,u=Value.float y t from rx);cases q;exact qBC PySem.W.kitx_float I.kIn True.intro e (fun z=>nomatch z) h
 | @lst a xs ea =>
  cases (show u=Value.ref a from rx)
  obtain ⟨_,_,n,_,h1⟩:=(show zBb X.prog X.w H s.heap a (.lst xs) from I.hok a _ ea);exact qBC PySem.W.kitx_list I.kIn ⟨_,h1,rfl⟩ e (fun z=>nomatch z) h
 | @frz a ob xs ea =>
  cases (show u=Value.ref a from rx)
  obtain ⟨_,_,_,n,_,h1⟩:=(show zBb X.prog X.w H s.heap a (.frz ob (.lst xs)) from I.hok a _ ea);exact qBC PySem.W.kitx_list I.kIn ⟨_,h1,rfl⟩ e (fun z=>nomatch z) h
 | @tup a xs ea =>
  cases (show u=Value.ref a from rx)
  obtain ⟨_,_,_,p⟩:=(show zBb X.prog X.w H s.heap a (.tup xs) from I.hok a _ ea);obtain ⟨o,h1,h2,_⟩:=p;exact qBC PySem.W.kitx_tuple I.kIn ⟨o,h1,h2⟩ e (fun z=>nomatch z) h
 | @dK a kvs ea =>
  cases (show u=Value.ref a from rx)
  obtain ⟨_,_,vs,_,p⟩:=(show zBb X.prog X.w H s.heap a (.dK kvs) from I.hok a _ ea);obtain ⟨o,es,ep,h1,h2,_⟩:=p;exact qBC PySem.W.kitx_dict I.kIn ⟨o,h1,h2.1⟩ e (fun z=>nomatch z) h
 | @dT a kvs ea =>
  cases (show u=Value.ref a from rx)
  obtain ⟨_,_,xs,_,o,es,ep,h1,h2,_⟩:=(show zBb X.prog X.w H s.heap a (.dT kvs) from I.hok a _ ea);exact qBC PySem.W.kitx_dict I.kIn ⟨o,h1,h2.1⟩ e (fun z=>nomatch z) h
 | @ins a C dx fs ea cl ha hn htk hm =>
  cases (show u=Value.ref a from rx)
  obtain ⟨mA,O,_⟩:=zFw I.hok ea;obtain ⟨od,J,_⟩:=O.look;exact qBC (PySem.W.kitx_own (cl.get _) cl.hd ha hn htk hm) I.kIn J e (fun z=>nomatch z) h
end
structure Room (k:Nat) (A:Around):Prop where
 hd:A.handled=none
 dp:A.depth+3*k+5<recursionLimit
 un:A.units+16*k+200<cLine
 gd:A.guards=some []
theorem Room.mono {j k:Nat} (r:Room k A) (h:j<=k):Room j A:=⟨r.hd,by have:=r.dp;lia,by have:=r.un;lia,r.gd⟩
theorem Room.deeper {k:Nat} (r:Room (k+1) A) (env:Env):Room k (A.deeper env) :=
 ⟨r.hd,by have:=r.dp;show A.depth+1+3*k+5<_;lia,by have:=r.un;show A.units+3+16*k+200<_;lia,r.gd⟩
theorem make_depth {kw:List (Str×Value)}:(A.under (.builtin "type.__call__" ⟨.ref C::us,kw⟩)).depth=A.depth+1:=by
 first| rfl| simp [Around.under,Code.weight,Code.isCreation,Code.isGuard,Code.isCaller,Code.frames,Code.isFrame,guardIds]
theorem make_units {kw:List (Str×Value)}:(A.under (.builtin "type.__call__" ⟨.ref C::us,kw⟩)).units=A.units+1:=by
 first| rfl| simp [Around.under,Code.cUnits,Code.frames,Code.isFrame]
theorem Room.make {k:Nat} (r:Room (k+1) A) (C:Addr) (us:List Value) (kw:List (Str×Value)):Room k (A.under (.builtin "type.__call__" ⟨.ref C::us,kw⟩)) :=
 ⟨r.hd,by have:=r.dp;rw [make_depth];lia,by have:=r.un;rw [make_units];lia,(by unfold Around.under;dsimp only;rw [r.gd];rfl)⟩
theorem Room.depth {k:Nat} (r:Room k A):A.depth<recursionLimit:=by have:=r.dp;lia
theorem Room.units {k:Nat} (r:Room k A):A.units+64<cLine:=by have:=r.un;lia
def tNil:TA:=fun _ H Q=>Q [] H
def tCons (ta:TE) (tr:TA):TA:=fun σ H Q=>ta σ H fun x H1=>tr σ H1 fun xs H2=>Q (x::xs) H2
section
variable {X:Cx} {e:Expr} {es:List Expr} {te:TE} {t:TA} {pos:Pos}
theorem zAb:PA X [] tNil:=fun _ _ _ _ H Q I h=>Calls.spliced_nil ⟨[],H,I,.nil,h⟩
theorem zAa (ha:PE X e te) (hr:PA X es t) (hs:starEach (e::es) X.env=(false,eval e X.env)::starEach es X.env:=by rfl):PA X (e::es) (tCons te t):=by
 intro pos pins s σ H Q I h;rw [hs];show wpAny _ _ (spliced ((false,eval e X.env)::backTo pos (starEach es X.env))) _ _ s;refine Calls.spliced_cons (thn (ha pins s σ H _ I h) fun u s1 ⟨x,H1,I1,r1,q1⟩=>?_);exact thn (hr pos pins s1 σ H1 _ I1 q1) fun us s2 ⟨xs,H2,I2,r2,q2⟩=>⟨x::xs,H2,I2,.cons r1 r2,q2⟩
def tTup (t:TA):TE:=fun σ H Q=>t σ H fun xs H1=>xs.length<=sizeLine/\∀p,H1 p=none->Q (.ref p) (upd H1 p (.tup xs))
def tLst (t:TA):TE:=fun σ H Q=>t σ H fun xs H1=>xs.length<=sizeLine/\∀p,H1 p=none->Q (.ref p) (upd H1 p (.lst xs))
theorem zA9 {x1} (h:PA X es t):PE X (.Tuple es x1 pos) (tTup t):=by
 intro pins s σ H Q I hq;refine wpAny_Tuple_spliced (thn (h pos pins s σ H _ I hq) fun us s1 ⟨xs,H1,I1,r,z,q⟩=>⟨by rw [<-r.length];exact z,?_⟩);have hf:H1 s1.heap.objs.size=none:=I1.hok.fresh (qAF _);refine ⟨.ref s1.heap.objs.size,upd H1 s1.heap.objs.size (.tup xs),I1.laid (t':=s1.toks) (fun b u e=>qAI _ e) (qAF _) ?_,rfl,q _ hf⟩;exact ⟨z,us,r,⟨_,qAb _ rfl,rfl,_,rfl⟩⟩
theorem zA6 (h:PA X es t):PE X (.List es pos) (tLst t):=by
 intro pins s σ H Q I hq;refine wpAny_List_spliced (thn (h pos pins s σ H _ I hq) fun us s1 ⟨xs,H1,I1,r,z,q⟩=>⟨by rw [<-r.length];exact z,?_⟩);have hf:H1 s1.heap.objs.size=none:=I1.hok.fresh (qAF _);refine ⟨.ref s1.heap.objs.size,upd H1 s1.heap.objs.size (.lst xs),I1.laid (t':=s1.toks) (fun b u e=>qAI _ e) (qAF _) ?_,rfl,q _ hf⟩;exact ⟨z,us,0,r,qAb _ rfl⟩
end
abbrev Sp:=List V->Hp->VK->XK->Prop
abbrev CXT:=List Env->Hp->Shared->XK->Value->Shared->Prop
structure Env0 (P:Program) (w:World) (K:PySem.W.Frag) (mg:Str->Option Value) (base:Heap) (A:Around) (outer:List Env) (s:Shared) (H:Hp):Prop where
 frames:A.frames=some outer
 mod:Mod K mg base
 bs:∀b o,base.get? b=some o->s.heap.get? b=some o/\H b=none
 bsz:base.objs.size<=s.heap.objs.size
 funs:s.heap.FunFrames base outer
 frf:∀b∈frs outer,H b=none
 hok:HOk P w H s.heap
 bare:AllBare s.gens
def CE (outer:List Env) (P:Program) (w:World) (H:Hp) (s:Shared) (Q:VK) (u:Value) (s':Shared):Prop :=
 ∃v H',s'.os=s.os/\AllBare s'.gens/\Un (frs outer) [] H H' s.heap s'.heap/\HOk P w H' s'.heap/\RelV v u/\Q v H'
def CR (CX:CXT) (outer:List Env) (P:Program) (w:World) (H:Hp) (s:Shared) (Q:VK) (E:XK) (r:Result) (s':Shared):Prop :=
 match r with
 | .ok (.ret u)=>CE outer P w H s Q u s'
 | .ok _=>False
 | .error e=>CX outer H s E e s'
structure FnOk (P:Program) (w:World) (K:PySem.W.Frag) (mg:Str->Option Value) (base:Heap) (CX:CXT) (k:Nat) (f:Addr) (fd:FuncData) (ps:List Str) (sp:Sp):Prop where
 len:∀vs H Q E,sp vs H Q E->vs.length=ps.length
 run:∀(A:Around) (outer:List Env) (s:Shared) (H:Hp) (args:Args) (us:List Value) (vs:List V) (Q:VK) (E:XK),Room k A->Env0 P w K mg base A outer s H->BindsTo s fd args (ps.zip us)->Vals vs us->sp vs H Q E ->
  codeAny (model P w) A (.call (.ref f) args) (CR CX outer P w H s Q E) s
theorem Env0.make {mg:Str->Option Value} {outer:List Env} (e:Env0 P w K mg base A outer s H) (C:Addr) (us:List Value) (kw:List (Str×Value)) :
  Env0 P w K mg base (A.under (.builtin "type.__call__" ⟨.ref C::us,kw⟩)) outer s H:=⟨by first| exact e.frames| (simpa [Around.under,Code.envs,Code.isFrame,pushEnvs] using e.frames),e.mod,e.bs,e.bsz,e.funs,e.frf,e.hok,e.bare⟩
section
variable {X:Cx} {pins:List (Addr×Obj)} {σ:St} {H:Hp} {s s':Shared}
theorem Inv.env0 (I:Inv X pins σ H s):Env0 X.prog X.w X.K X.mg X.base X.A X.stack s H :=
 ⟨I.ok.frames,I.ok.mod,I.bs,qAc I.ok.bsz I.sz,I.stack,I.stkFree,I.hok,I.bare⟩
theorem Inv.after {Q:VK} (I:Inv X pins σ H s) (h:CE X.stack X.prog X.w H s Q u s'):EP X pins σ Q u s':=by
 obtain ⟨v,H',os,bare,un,hok,r,q⟩:=h;obtain ⟨hh,g,d,t,os'⟩:=s';obtain rfl:os'=s.os:=os;exact ⟨v,H',I.call (h':=hh) (g':=g) (d':=d) (t':=t) (ch:=[]) un hok bare (fun b z=>absurd z (by simp)),r,q⟩
end
def tCall (sp:Sp) (dvs:List V) (E:XK) (t:TA):TE:=fun σ H Q=>t σ H fun vs H1=>sp (vs++dvs) H1 Q E
def tMeth (C:Addr) (m:Str) (sp:Sp) (dvs:List V) (E:XK) (ta:TE) (t:TA):TE:=fun σ H Q=>ta σ H fun x H1=>∃a dx fs,x= .ref a/\H1 a=some (.ins C dx fs)/\fs.lookup m=none /\
 t σ H1 fun vs H2=>sp (x::(vs++dvs)) H2 Q E
def tMake (C:Addr) (sp:Sp) (dvs:List V) (E:XK) (t:TA):TE:=fun σ H Q=>t σ H fun vs H1=>∀x dx,H1 x=none->H1 dx=none->dx≠x ->
 sp (.ref x::(vs++dvs)) (upd (upd H1 dx (.own x)) x (.ins C dx [])) (fun v H2=>v= .non/\Q (.ref x) H2) E
def zC9 (K:PySem.W.Frag) (fd:FuncData) (ps:List Str) (ds:List Value):Prop :=
 ∀(s:Shared) (us:List Value),K.In s.heap->(us++ds).length=ps.length->BindsTo s fd ⟨us,[]⟩ (ps.zip (us++ds))
theorem zC9.all {fd:FuncData} {ps:List Str} (h:∀us:List Value,us.length=ps.length->bindArgs fd ⟨us,[]⟩=pure (ps.zip us)):zC9 K fd ps []:=fun s us _ hl=>by
 rw [qBK] at hl ⊢;exact .of_eq (h us hl)
def zHo (CX:CXT) (X:Cx) (E:XK):Prop:=∀(pins:List (Addr×Obj)) (σ:St) (H:Hp) (s:Shared) (e:Value) (s':Shared),Inv X pins σ H s->CX X.stack H s E e s'->X.xe e s'
section
variable {X:Cx} {CX:CXT} {k:Nat} {f C:Addr} {fd:FuncData} {ps:List Str} {sp:Sp} {dvs:List V} {ds:List Value} {E:XK} {x m:Str} {p pos apos:Pos} {e o:Expr} {es:List Expr} {ta:TE} {t:TA}
theorem run_fn {Q:VK} {us:List Value} {vs:List V} (F:FnOk X.prog X.w X.K X.mg X.base CX k f fd ps sp) (hr:Room k X.A) (hb:zC9 X.K fd ps ds) (hd:Vals dvs ds) (hx:zHo CX X E)
  (I:Inv X pins σ H s) (r:Vals vs us) (h:sp (vs++dvs) H Q E):wpAny (model X.prog X.w) X.A (call (.ref f) us) (EP X pins σ Q) X.xe s:=by
 have r2:Vals (vs++dvs) (us++ds):=r.append hd;have hl:(us++ds).length=ps.length:=by rw [<-r2.length];exact F.len _ _ _ _ h
 refine qCU (qBd (F.run X.A X.stack s H ⟨us,[]⟩ (us++ds) (vs++dvs) Q E hr I.env0 (hb s us I.kIn hl) r2 h) fun r s' hq=>?_)
 cases r with
 | error e=>exact hx pins σ H s e s' I hq
 | ok fl =>
  cases fl with
  | ret u=>exact I.after hq
  | next=>exact False.elim hq
  | brk=>exact False.elim hq
  | cont=>exact False.elim hq
theorem pe_call (F:FnOk X.prog X.w X.K X.mg X.base CX k f fd ps sp) (hr:Room k X.A) (hg:Gl X x) (hm:X.mg x=some (.ref f)) (hk:PySem.W.keepIn X.K (.ref f)=true) (hb:zC9 X.K fd ps ds) (hd:Vals dvs ds) (hx:zHo CX X E)
  (ha:PA X (e::es) t) (hdb:(x==("__debug__" : Str))=false:=by decide) (he:starEach (e::es) X.env=(false,eval e X.env)::starEach es X.env:=by rfl) (hpl:(backTo pos (starEach es X.env)).any (·.1)=false:=by rfl) :
  PE X (.Call (.Name x p) (e::es) [] pos) (tCall sp dvs E t):=by
 intro pins s σ H Q I h;refine qCV (ld_glob I hg hm ?_ hdb);refine PySem.W.callWith_K (h₀:=X.base) I.ok.mod.kin hk (thn (ha pos pins s σ H _ I h) fun us s1 ⟨vs,H1,I1,r,q⟩=>⟨I1.kIn,?_⟩) he hpl;exact run_fn F hr hb hd hx I1 r q
theorem pe_meth {pl:Sem Bool} (he:PE X o ta) (c:Cls X.K C) (hm:Meth X.K C m f) (F:FnOk X.prog X.w X.K X.mg X.base CX k f fd ps sp) (hr:Room k X.A) (hb:zC9 X.K fd ps ds) (hd:Vals dvs ds) (hx:zHo CX X E) (ha:PA X (e::es) t)
  (hst:starEach (e::es) X.env=(false,eval e X.env)::starEach es X.env:=by rfl) (hpl:(backTo pos (starEach es X.env)).any (·.1)=false:=by rfl)
  (ht:eval (.Call (.Attribute o m apos) (e::es) [] pos) X.env=(do
   let ov<-eval o X.env
   standAt apos.atName
   let (f,first)<-holding [ov] (getMethod ov m pl)
   callWith pos f first (backTo pos (starEach (e::es) X.env)) (backToKw pos (keywordEach [] X.env))):=by rfl) :
  PE X (.Call (.Attribute o m apos) (e::es) [] pos) (tMeth C m sp dvs E ta t):=by
 intro pins s σ H Q I h;refine PySem.W.methodCall_KW (pl:=pl) (thn (he pins s σ H _ I h) fun u s1 ⟨x,H1,I1,rx,a,dx,fs,ex,ea,l,q⟩=>?_) ht;subst ex;obtain rfl:u=Value.ref a:=rx;refine zH8 I1 ea c hm l ?_;refine PySem.W.callWith_K (first:=[.ref a]) (h₀:=X.base) I.ok.mod.kin hm.kp (thn (ha pos pins s1 σ H1 _ I1 q) fun us s2 ⟨vs,H2,I2,r,q2⟩=>⟨I2.kIn,?_⟩) hst hpl;exact run_fn (us:=.ref a::us) (vs:=.ref a::vs) F hr hb hd hx I2 (.cons rfl r) q2
theorem pe_meth0 {pl:Sem Bool} (he:PE X o ta) (c:Cls X.K C) (hm:Meth X.K C m f) (F:FnOk X.prog X.w X.K X.mg X.base CX k f fd ps sp) (hr:Room k X.A) (hb:zC9 X.K fd ps ds) (hd:Vals dvs ds) (hx:zHo CX X E)
  (ht:eval (.Call (.Attribute o m apos) [] [] pos) X.env=(do
   let ov<-eval o X.env
   standAt apos.atName
   let (f,first)<-holding [ov] (getMethod ov m pl)
   callWith pos f first (backTo pos (starEach [] X.env)) (backToKw pos (keywordEach [] X.env))):=by rfl) :
  PE X (.Call (.Attribute o m apos) [] [] pos) (tMeth C m sp dvs E ta tNil):=by
 intro pins s σ H Q I h;refine PySem.W.methodCall_KW (pl:=pl) (thn (he pins s σ H _ I h) fun u s1 ⟨x,H1,I1,rx,a,dx,fs,ex,ea,l,q⟩=>?_) ht;subst ex;obtain rfl:u=Value.ref a:=rx;refine zH8 I1 ea c hm l ?_;exact PySem.W.callWith_K0 (first:=[.ref a]) I1.kIn hm.kp (run_fn (us:=[.ref a]) (vs:=[.ref a]) F hr hb hd hx I1 (.cons rfl .nil) q)
structure Mk (K:PySem.W.Frag) (C f:Addr):Prop where
 makes:PySem.W.makesIn K C=true
 init:PySem.W.findIn K (.ref C) "__init__" = some (some (.ref f))
 fn:PySem.W.isFn K (.ref f)=true
 kp:PySem.W.keepIn K (.ref C)=true
theorem run_make {Q:VK} {vs:List V} (M:Mk X.K C f) (F:FnOk X.prog X.w X.K X.mg X.base CX k f fd ps sp) (hr:Room (k+1) X.A) (hb:zC9 X.K fd ps ds) (hd:Vals dvs ds)
  (hx:zHo CX X E) (I:Inv X pins σ H s) (r:Vals vs us)
  (h:∀x dx,H x=none->H dx=none->dx≠x->sp (.ref x::(vs++dvs)) (upd (upd H dx (.own x)) x (.ins C dx [])) (fun v H2=>v= .non/\Q (.ref x) H2) E) :
  wpAny (model X.prog X.w) X.A (call (.ref C) us) (EP X pins σ Q) X.xe s:=by
 have hq:=h (s.heap.objs.size+1) s.heap.objs.size (I.hok.fresh (qBL _)) (I.hok.fresh (qAF _)) (qAT (qCT _));have I2:=Inv.made (C:=C) I;have r2:Vals (V.ref (s.heap.objs.size+1)::(vs++dvs)) (Value.ref (s.heap.objs.size+1)::(us++ds)):=.cons rfl (r.append hd)
 have hl:(Value.ref (s.heap.objs.size+1)::us++ds).length=ps.length:=by
  have e:=r2.length;rw [F.len _ _ _ _ hq] at e;exact e.symm
 refine qCU (make_map (f:=f) I.kIn M.makes M.init (qB9.mp M.fn) (qBd (F.run _ X.stack _ _ ⟨Value.ref (s.heap.objs.size+1)::us,[]⟩ (Value.ref (s.heap.objs.size+1)::(us++ds)) _ _ E (hr.make C us [])
  (I2.env0.make C us []) (hb _ (Value.ref (s.heap.objs.size+1)::us) I2.kIn hl) r2 hq) fun r s' hq'=>?_))
 cases r with
 | error e=>exact hx pins σ _ _ e s' I2 hq'
 | ok fl =>
  cases fl with
  | ret u =>
   obtain ⟨v,H',I3,rv,ev,q3⟩:=I2.after hq';subst ev;exact ⟨rv,⟨V.ref (s.heap.objs.size+1),H',I3,rfl,q3⟩⟩
  | next=>exact False.elim hq'
  | brk=>exact False.elim hq'
  | cont=>exact False.elim hq'
theorem pe_make (M:Mk X.K C f) (F:FnOk X.prog X.w X.K X.mg X.base CX k f fd ps sp) (hr:Room (k+1) X.A) (hg:Gl X x) (hm:X.mg x=some (.ref C)) (hb:zC9 X.K fd ps ds) (hd:Vals dvs ds) (hx:zHo CX X E)
  (ha:PA X (e::es) t) (hdb:(x==("__debug__" : Str))=false:=by decide) (he:starEach (e::es) X.env=(false,eval e X.env)::starEach es X.env:=by rfl) (hpl:(backTo pos (starEach es X.env)).any (·.1)=false:=by rfl) :
  PE X (.Call (.Name x p) (e::es) [] pos) (tMake C sp dvs E t):=by
 intro pins s σ H Q I h;refine qCV (ld_glob I hg hm ?_ hdb);refine PySem.W.callWith_K (h₀:=X.base) I.ok.mod.kin M.kp (thn (ha pos pins s σ H _ I h) fun us s1 ⟨vs,H1,I1,r,q⟩=>⟨I1.kIn,?_⟩) he hpl;exact run_make M F hr hb hd hx I1 r q
end
def PK (X:Cx) (kws:List Keyword) (t:TA):Prop :=
 ∀(pos:Pos) (pins:List (Addr×Obj)) (s:Shared) (σ:St) (H:Hp) (Q:List V->Hp->Prop),Inv X pins σ H s->t σ H Q->wpAny (model X.prog X.w) X.A (evalAll ((backToKw pos (keywordEach kws X.env)).map (·.2))) (AP X pins σ Q) X.xe s
section
variable {X:Cx} {CX:CXT} {k:Nat} {f C:Addr} {fd:FuncData} {ps ks:List Str} {sp:Sp} {E:XK} {x m:Str} {p pos apos kpos:Pos} {e o:Expr} {es:List Expr} {kws:List Keyword} {te ta:TE} {t tk:TA} {nm:Option Str}
theorem pk_nil:PK X [] tNil:=fun _ _ _ _ H Q I h=>wpAny_evalAll_nil ⟨[],H,I,.nil,h⟩
theorem pk_cons (ha:PE X e te) (hr:PK X kws t):PK X (⟨nm,e,kpos⟩::kws) (tCons te t):=by
 intro pos pins s σ H Q I h;show wpAny _ _ (evalAll ((do let v<-eval e X.env;standAt pos;pure v)::(backToKw pos (keywordEach kws X.env)).map (·.2))) _ _ s;refine wpAny_evalAll_cons (qAA (thn (ha pins s σ H _ I h) fun u s1 ⟨x,H1,I1,r1,q1⟩=>qAA (qCQ (qAE ?_))));exact thn (hr pos pins s1 σ H1 _ I1 q1) fun us s2 ⟨xs,H2,I2,r2,q2⟩=>⟨x::xs,H2,I2,.cons r1 r2,q2⟩
variable {g:List Value->List Value->List Value} {gV:List V->List V->List V}
end
structure FnScope (N P:List Str) (sc:Scope):Prop where
 kind:sc.kind= .function
 co:sc.isCoroutine=false
 gen:sc.isGenerator=false
 nd:N.Nodup
 pre:N.take P.length=P
 par:∀x∈P,sc.names.lookup x=some .local\/sc.names.lookup x=some .cell
 nofree:∀y∈sc.names,y.2≠.free
theorem bindL_out {kindOf:Str->Option NameKind} :∀{binds:List (Str×Value)} {m:Str->Option Value},(∀v,(x,v)∉binds)->bindL kindOf binds m x=m x
 | [],_,_=>rfl
 | (n,v)::r,m,h=>by
  unfold bindL;rw [bindL_out fun w hw=>h w (qAU _ hw)];split
  ·have:x≠n:=by rintro rfl;exact h v qAV
   simp [this]
  ·rfl
theorem bindC_out {kindOf:Str->Option NameKind} :∀{binds:List (Str×Value)} {m:Str->Option Value},(∀v,(x,v)∉binds)->bindC kindOf binds m x=m x
 | [],_,_=>rfl
 | (n,v)::r,m,h=>by
  unfold bindC;rw [bindC_out fun w hw=>h w (qAU _ hw)];split
  ·rfl
  ·have:x≠n:=by rintro rfl;exact h v qAV
   simp [this]
theorem bindL_get {kindOf:Str->Option NameKind} {v:Value}:∀{P:List Str} {vs:List Value} {i:Nat} {m:Str->Option Value},P.Nodup->P[i]?=some x->vs[i]?=some v->kindOf x=some .local ->
  bindL kindOf (P.zip vs) m x=some v
 | [],_,_,_,_,h,_,_=>by simp at h
 | _::_,[],_,_,_,_,h,_=>by simp at h
 | p::P,w::vs,0,m,nd,h1,h2,hk=>by
  simp at h1 h2;subst h1;subst h2;show bindL kindOf ((p,w)::P.zip vs) m p=_;unfold bindL;rw [bindL_out fun v hv=>(qBD.mp nd).1 (List.of_mem_zip hv).1,qAC hk];simp
 | p::P,w::vs,i+1,m,nd,h1,h2,hk=>by
  show bindL kindOf ((p,w)::P.zip vs) m x=_;unfold bindL;exact bindL_get (i:=i) (qBD.mp nd).2 (by simpa using h1) (by simpa using h2) hk
theorem bindC_get {kindOf:Str->Option NameKind} {v:Value}:∀{P:List Str} {vs:List Value} {i:Nat} {m:Str->Option Value},P.Nodup->P[i]?=some x->vs[i]?=some v->kindOf x≠some .local ->
  bindC kindOf (P.zip vs) m x=some v
 | [],_,_,_,_,h,_,_=>by simp at h
 | _::_,[],_,_,_,_,h,_=>by simp at h
 | p::P,w::vs,0,m,nd,h1,h2,hk=>by
  simp at h1 h2;subst h1;subst h2;show bindC kindOf ((p,w)::P.zip vs) m p=_;unfold bindC;rw [bindC_out fun v hv=>(qBD.mp nd).1 (List.of_mem_zip hv).1,qAB hk];simp
 | p::P,w::vs,i+1,m,nd,h1,h2,hk=>by
  show bindC kindOf ((p,w)::P.zip vs) m x=_;unfold bindC;exact bindC_get (i:=i) (qBD.mp nd).2 (by simpa using h1) (by simpa using h2) hk
def start (N:List Str) (vs:List V):St:=vs.map some++List.replicate (N.length - vs.length) none
def cxOf (CX:CXT) (P:Program) (w:World) (K:PySem.W.Frag) (mg:Str->Option Value) (base:Heap) (N:List Str) (qual:Str) (scope:Scope) (f:Addr) (cd:Value) (A:Around) (outer:List Env) (s:Shared) (H:Hp) (E:XK):Cx where
 prog:=P
 w:=w
 K:=K
 mg:=mg
 base:=base
 A:=A.deeper (envOfC qual scope s.heap.objs.size f cd)
 N:=N
 s₀:=s
 H₀:=H
 env:=envOfC qual scope s.heap.objs.size f cd
 outer:=outer
 stack:=envOfC qual scope s.heap.objs.size f cd::outer
 ex:=[]
 calm:=true
 fn:=fun _=>true
 pn:=[]
 xe:=fun e s'=>wpAny (model P w) (A.deeper (envOfC qual scope s.heap.objs.size f cd)) (leaving (envOfC qual scope s.heap.objs.size f cd) e) (fun _ s''=>CX outer H s E e s'') (fun e' s''=>CX outer H s E e' s'') s'
theorem cell_has {sc:Scope} {n:Nat} (h:sc.names.lookup x=some .cell):∃c,(cellsFrom n sc.names []).lookup x=some c:=by
 have q:=qDD sc.names n [] (.inl h);exact Option.isSome_iff_exists.mp q
theorem inv_start {CX:CXT} {mg:Str->Option Value} {N ps:List Str} {qual:Str} {scope:Scope} {f:Addr} {cd:Value} {outer:List Env} {s1:Shared} {E:XK} {vs:List V}
  (S:FnScope N ps scope) (hd:A.handled=none) (e0:Env0 P w K mg base A outer s H) (hl:vs.length=ps.length) (r:Vals vs us)
  (x:InCallC s s.heap.objs.size (bindL (envOfC qual scope s.heap.objs.size f cd).kindOf (ps.zip us) fun _=>none) (cellsFrom (s.heap.objs.size+1) scope.names []) (bindC (envOfC qual scope s.heap.objs.size f cd).kindOf (ps.zip us) fun _=>none) s1) :
  Inv (cxOf CX P w K mg base N qual scope f cd A outer s H E) [] (start N vs) H s1:=by
 have hpl:ps.length<=N.length:=by have:=qAa List.length S.pre;rw [qAX] at this;lia
 obtain ⟨h1,tk,rfl,hk⟩:=x.done;have noA:∀b:Addr,b∉(cxOf CX P w K mg base N qual scope f cd A outer s H E).ex:=fun b z=>absurd (show b∈([]:List Addr) from z) (by simp)
 refine ⟨⟨e0.mod,S.kind,rfl,rfl,qAF _,fun y z c h1 h2=>?_,fun y hy=>?_,fun y c _ h=>?_,fun _=>hd,Around.frames_deeper e0.frames,.inr ⟨rfl,rfl⟩,fun b z=>absurd z (noA b),e0.bs,e0.bsz,fun b _ _=>noA b,fun b z=>absurd z (noA b),e0.funs,e0.frf⟩,
  rfl,e0.bare,Un.kept hk,⟨_,x.toInCall.ns,fun i y v h1 h2 h3=>?_⟩,fun y c h=>⟨_,x.cell y c h⟩,e0.hok.fresh (qAF _),fun y c h=>?_,fun p hp=>absurd (show p∈([]:List (Addr×Obj)) from hp) (by simp),e0.hok.kept hk,?_⟩
 ·exact name_of_addr x.apart (qCA h1) (qCA h2)
 ·have hy:scope.names.lookup y=some .cell\/scope.names.lookup y=some .free:=hy;rcases hy with hy| hy
  ·exact cell_has hy
  ·exact absurd rfl (S.nofree _ (qCA hy))
 ·exact qB6 (x.above y c (qCA h))
 ·have hi:i<vs.length:=by
   unfold start at h2
   by_cases hi:i<vs.length
   ·exact hi
   ·rw [qBe (by simpa using hi)] at h2;rw [List.getElem?_replicate] at h2;split at h2<;>cases h2
  have ha:vs[i]?=some v:=by
   unfold start at h2;rw [qBf (by simpa using hi),qAY] at h2
   cases e:vs[i]? with
   | none=>rw [e] at h2;cases h2
   | some a=>rw [e] at h2;cases h2;rfl
  obtain ⟨u,hu,rv⟩:=r.get ha
  have hp:ps[i]?=some y:=by
   rw [<-S.pre,qCr (by lia)];exact h1
  have ndP:ps.Nodup:=by rw [<-S.pre];exact S.nd.sublist (List.take_sublist _ _)
  refine ⟨u,rv,?_⟩;rcases S.par y (qAL hp) with k| k
  ·exact .inl ⟨k,bindL_get ndP hp hu k⟩
  ·obtain ⟨c,e⟩:=cell_has (n:=s.heap.objs.size+1) k;refine .inr ⟨.inl k,c,e,?_⟩;have q:=x.cell y c e;rw [bindC_get ndP hp hu (by show scope.names.lookup y≠_;rw [k];decide)] at q;exact q
 ·exact e0.hok.fresh (qB6 (x.above y c (qCA h)))
 ·unfold start;show _=N.length;rw [qAj,qAD,List.length_replicate];lia
theorem fn_of {CX:CXT} {mg:Str->Option Value} {k:Nat} {f:Addr} {name qual:Str} {params:Arguments} {body:List Stmt} {scope:Scope} {dV kV doc pm cdv ct oc:Value} {an od:Option Addr}
  {osl:Array (Option Value)} {N ps:List Str} {sp:Sp} (lk:K.lookup f=some ⟨oc,od,.func (PySem.W.fnOf name qual params body scope dV kV doc pm an cdv ct),osl⟩) (hcd:PySem.W.codeIn K cdv qual=true) (S:FnScope N ps scope)
  (len:∀vs H Q E,sp vs H Q E->vs.length=ps.length)
  (hbody:∀(A:Around) (outer:List Env) (s:Shared) (H:Hp) (vs:List V) (Q:VK) (E:XK),Room k (A.deeper (envOfC qual scope s.heap.objs.size f cdv))->sp vs H Q E ->
   ∃t,PSs (cxOf CX P w K mg base N qual scope f cdv A outer s H E) body t/\t {nx:=fun _ H'=>Q .non H',rt:=Q} (start N vs) H) :
  FnOk P w K mg base CX (k+1) f (PySem.W.fnOf name qual params body scope dV kV doc pm an cdv ct) ps sp:=by
 refine ⟨len,fun A outer s H args us vs Q E hr e0 hb r hsp=>?_⟩;have hl:=len _ _ _ _ hsp;have KX:K.In s.heap:=e0.mod.kin.keeps fun b o e=>(e0.bs b o e).1;have lim:s.heap.NoLimit:=e0.mod.nolimit.keeps fun b o e=>(e0.bs b o e).1
 have hkind:∀y∈ps.zip us,scope.names.lookup y.1=some .local\/(scope.names.lookup y.1=some .cell/\((cellsFrom (s.heap.objs.size+1) scope.names []).lookup y.1).isSome=true):=fun ⟨n,v⟩ hy=>by
  rcases S.par n (List.of_mem_zip hy).1 with q| q
  ·exact .inl q
  ·exact .inr ⟨q,qDD _ _ _ (.inl q)⟩
 refine codeAny_call_function hr.depth (KX _ _ lk) rfl S.co S.gen rfl (PySem.W.codeRec_of KX hcd) (hb _ _ _ _ ?_);refine wpAny_newFunctionEnv_cells S.kind hkind fun env he s1 x=>?_;subst he;refine ⟨lim.keeps x.toInCall.keep,codeAny_func ?_⟩;obtain ⟨t,ht,hq⟩:=hbody A outer s H vs Q E (hr.deeper _) hsp;have I:Inv (cxOf CX P w K mg base N qual scope f cdv A outer s H E) [] (start N vs) H s1:=inv_start S hr.hd e0 hl r x;refine qAx (ht [] s1 (start N vs) H _ I hq) (fun fl s' hs=>?_) fun e s' hs=>hs
 have fin:∀{σ':St} {H':Hp} {v:V} {u:Value},Inv (cxOf CX P w K mg base N qual scope f cdv A outer s H E) [] σ' H' s'->RelV v u->Q v H'->CE outer P w H s Q u s' :=
  fun {σ' H' v u} J rv q=>⟨v,H',J.os,J.bare,J.base,J.hok,rv,q⟩
 cases fl with
 | ret u =>
  obtain ⟨v,σ',H',J,rv,q⟩:=hs;exact fin J rv q
 | next =>
  obtain ⟨σ',H',J,q⟩:=hs;exact fin (v:=V.non) (u:=Value.none) J rfl q
 | brk =>
  obtain ⟨_,_,_,q⟩:=hs;exact False.elim q
 | cont =>
  obtain ⟨_,_,_,q⟩:=hs;exact False.elim q
section
variable {X:Cx} {x:Str} {p pos:Pos} {e:Expr} {es:List Expr} {t:TA} {id T:String} {r:List V->Hp->VK->Prop}
def tCB (r:List V->Hp->VK->Prop) (t:TA):TE:=fun σ H Q=>t σ H fun vs H1=>r vs H1 Q
theorem zAj (hc:zCu X (.builtin id) r) (hg:Gl X x) (hm:X.mg x=none) (hv:bootBuiltins x=some (.builtin id)) (ha:PA X (e::es) t) (hn:x≠ "__name__" := by decide) (hdb:(x==("__debug__" : Str))=false:=by decide)
  (he:starEach (e::es) X.env=(false,eval e X.env)::starEach es X.env:=by rfl) (hpl:(backTo pos (starEach es X.env)).any (·.1)=false:=by rfl):PE X (.Call (.Name x p) (e::es) [] pos) (tCB r t):=by
 intro pins s σ H Q I h;refine qCV (zF5 I hg hm hv ?_ hn hdb);exact PyProof.Rows.callWith_builtin1 (thn (ha pos pins s σ H _ I h) fun us s1 ⟨vs,H1,I1,r1,q1⟩=>hc pins s1 σ H1 vs us Q I1 r1 q1) he hpl
theorem zAq (hc:zCu X (.type T) r) (hg:Gl X x) (hm:X.mg x=none) (hv:bootBuiltins x=some (.type T)) (ha:PA X (e::es) t) (hn:x≠ "__name__" := by decide) (hdb:(x==("__debug__" : Str))=false:=by decide)
  (he:starEach (e::es) X.env=(false,eval e X.env)::starEach es X.env:=by rfl) (hpl:(backTo pos (starEach es X.env)).any (·.1)=false:=by rfl):PE X (.Call (.Name x p) (e::es) [] pos) (tCB r t):=by
 intro pins s σ H Q I h;refine qCV (zF5 I hg hm hv ?_ hn hdb);exact qCS (thn (ha pos pins s σ H _ I h) fun us s1 ⟨vs,H1,I1,r1,q1⟩=>hc pins s1 σ H1 vs us Q I1 r1 q1) he hpl
end
end L2
namespace HT
open PySem PyProof.Rows
section
open PySem.SeqAt
open PySem.AutoSeq1 (wpAny_loadPart')
open PySem.MeetsSeq PySem.MeetsSeq2 PySem.MeetsSeq3
end
section
variable {prog:Program} {w:World} {A:Around} {E:Value->Shared->Prop} {s:Shared}
def sIx (n d:Nat):Option Int->Nat
 | none=>d
 | some v=>if v<0 then (v+(n:Int)).toNat else min v.toNat n
theorem sIx_none (n d:Nat):sIx n d none=d:=rfl
theorem sIx_nat (n d k:Nat):sIx n d (some (k:Int))=min k n:=by
 show (if (k:Int)<0 then ((k:Int)+(n:Int)).toNat else min (k:Int).toNat n)=min k n;rw [qAB (by lia),Int.toNat_natCast]
end
end HT
namespace L2
open PySem PySem.Spec PyProof.Rows
variable {α:Type}{n:Nat}{x:V}
abbrev TO:=St->Hp->(Option Int->Hp->Prop)->Prop
def PO (X:Cx) (e:Option Expr) (t:TO):Prop :=
 ∀(pins:List (Addr×Obj)) (s:Shared) (σ:St) (H:Hp) (Q:Option Int->Hp->Prop),Inv X pins σ H s->t σ H Q ->
  wpAny (model X.prog X.w) X.A (evalPart e X.env) (fun u s'=>∃o H',Inv X pins σ H' s'/\IsPart u o/\Q o H') X.xe s
def tNoPart:TO:=fun _ H Q=>Q none H
def tPart (t:TE):TO:=fun σ H Q=>t σ H fun x H1=>∃i,x= .int i/\Q (some i) H1
section
variable {X:Cx} {e:Expr} {te:TE} {lo hi:Option Expr} {tl th:TO} {pos p2:Pos}
theorem zIz:PO X none tNoPart:=by
 intro pins s σ H Q I h;rw [evalPart_none];exact qAE ⟨none,H,I,.none,h⟩
theorem zIy (h:PE X e te):PO X (some e) (tPart te):=by
 intro pins s σ H Q I hw;rw [evalPart_some];refine thn (h pins s σ H _ I hw) fun u s1 ⟨x,H1,I1,r1,q1⟩=>?_;obtain ⟨i,rfl,q⟩:=q1;obtain ⟨t,rfl⟩:=r1;exact ⟨some i,H1,I1,.int i t,q⟩
def SlR (X:Cx) (r:V->Option Int->Option Int->Hp->VK->Prop):Prop :=
 ∀(pins:List (Addr×Obj)) (s:Shared) (σ:St) (H:Hp) (x:V) (v vl vu:Value) (lo hi:Option Int) (sl:Addr) (Q:VK),Inv X pins σ H s->RelV x v->s.heap.IsSliceOf sl vl vu .none->IsPart vl lo->IsPart vu hi->r x lo hi H Q ->
  ∃T id,typeLookup (.type T) "__getitem__" = pure (some (.builtin id))/\s.TypeIs v T/\wpAny (model X.prog X.w) X.A (getItem v (.ref sl)) (EP X pins σ Q) X.xe s
def tSl (r:V->Option Int->Option Int->Hp->VK->Prop) (te:TE) (tl th:TO):TE:=fun σ H Q=>te σ H fun x H1=>tl σ H1 fun l H2=>th σ H2 fun u H3=>r x l u H3 Q
theorem zGh {r:V->Option Int->Option Int->Hp->VK->Prop} (hr:SlR X r) (he:PE X e te) (hl:PO X lo tl) (hu:PO X hi th):PE X (.Subscript e (.Slice lo hi none p2) pos) (tSl r te tl th):=by
 intro pins s σ H Q I h;refine Subscript_ (thn (he pins s σ H _ I h) fun v s1 ⟨x,H1,I1,r1,q1⟩=>?_);refine wpAny_Slice (thn (hl pins s1 σ H1 _ I1 q1) fun vl s2 ⟨l,H2,I2,pl,q2⟩=>thn (hu pins s2 σ H2 _ I2 q2) fun vu s3 ⟨u,H3,I3,pu,q3⟩=>?_);rw [evalPart_none];refine qAE ?_;have I4:Inv X pins σ H3 {s3 with heap:=s3.heap.push {cls:=.type "slice",data:=.fields #[vl,vu,.none]}}:=I3.kept (t':=s3.toks) fun b ob q=>qAI _ q;obtain ⟨T,id,hT,ht,hg⟩:=hr pins {s3 with heap:=s3.heap.push {cls:=.type "slice",data:=.fields #[vl,vu,.none]}} σ H3 x v vl vu l u s3.heap.objs.size Q I4 r1 (Heap.IsSliceOf.new ..) pl pu q3;show wpAny (model X.prog X.w) X.A (subscriptTail e (.Slice lo hi none p2) v (.ref s3.heap.objs.size)) (EP X pins σ Q) X.xe {s3 with heap:=s3.heap.push {cls:=.type "slice",data:=.fields #[vl,vu,.none]}};exact tail_any (ops:=[.ref s3.heap.objs.size,v]) ht hT hg (by with_unfolding_all rfl)
def cutV (xs:List V) (lo hi:Option Int):List V:=(xs.drop (HT.sIx xs.length 0 lo)).take (HT.sIx xs.length xs.length hi - HT.sIx xs.length 0 lo)
theorem cutV_length (xs:List V) (lo hi:Option Int):(cutV xs lo hi).length<=xs.length:=by
 unfold cutV;rw [qAX,qBM];lia
end
def ixN (n:Nat) (i:Int):Option Nat:=if 0<=i then (if i<n then some i.toNat else none) else if -(n:Int)<=i then some (i+n).toNat else none
def atI (xs:List α) (i:Int):Option α:=(ixN xs.length i).bind fun j=>xs[j]?
theorem ixN_seq {i:Int} {j:Nat} (h:ixN n i=some j):seqIndex? i n=some j/\j<n/\-(n:Int)<=i/\i<n:=by
 unfold ixN at h
 by_cases h0:0<=i
 ·rw [qAC h0] at h
  by_cases h1:i<n
  ·rw [qAC h1] at h;have e:i.toNat=j:=qAd h;exact ⟨by rw [seqIndex_of h0 h1,e],by lia,by lia,h1⟩
  ·rw [qAB h1] at h;cases h
 ·rw [qAB h0] at h
  by_cases h1:-(n:Int)<=i
  ·rw [qAC h1] at h;have e:(i+n).toNat=j:=qAd h;exact ⟨by rw [seqIndex_neg (by lia) h1,e],by lia,h1,by lia⟩
  ·rw [qAB h1] at h;cases h
theorem atI_get {xs:List α} {i:Int} {v:α} (h:atI xs i=some v):∃j,seqIndex? i xs.length=some j/\xs[j]?=some v/\j<xs.length/\-(xs.length:Int)<=i/\i<xs.length:=by
 unfold atI at h
 cases e:ixN xs.length i with
 | none=>rw [e] at h;cases h
 | some j =>
  rw [e] at h;obtain ⟨h1,h2,h3,h4⟩:=ixN_seq e;exact ⟨j,h1,h,h2,h3,h4⟩
def PlainIx (b:Expr):Prop:=∀o i,subscripted b false o i=operate [o,i] (getItem o i)
def IxR (X:Cx) (r:R2):Prop :=
 ∀(value slice:Expr) (pins:List (Addr×Obj)) (s:Shared) (σ:St) (H:Hp) (x y:V) (v u:Value) (Q:VK),Inv X pins σ H s->RelV x v->RelV y u->r x y H Q ->
  subscripted slice false v u=operate [v,u] (getItem v u)->wpAny (model X.prog X.w) X.A (subscriptTail value slice v u) (EP X pins σ Q) X.xe s
def MtR (X:Cx) (id:String) (r:V->List V->Hp->VK->Prop):Prop :=
 ∀(pins:List (Addr×Obj)) (s:Shared) (σ:St) (H:Hp) (x:V) (xs:List V) (v:Value) (us:List Value) (Q:VK),Inv X pins σ H s->RelV x v->Vals xs us->r x xs H Q ->
  wpAny (model X.prog X.w) X.A (call (.builtin id) (v::us)) (EP X pins σ Q) X.xe s
section
variable {X:Cx} {a b:Expr} {ta tb:TE} {pos:Pos}
theorem zBg {r:R2} (hr:IxR X r) (ha:PE X a ta) (hb:PE X b tb) (hs:PlainIx b):PE X (.Subscript a b pos) (tOp r ta tb):=by
 intro pins s σ H Q I h;exact Subscript_ (binT ha hb I h fun v u s2 x y H2 I2 rx ry q=>hr a b pins s2 σ H2 x y v u Q I2 rx ry q (hs _ _))
def rIxL (K:PySem.W.Frag):R2:=fun x y H Q=>∃p xs i v,x= .ref p/\y= .int i/\SqL K H p xs/\atI xs i=some v/\Q v H
def rIxT (K:PySem.W.Frag):R2:=fun x y H Q=>∃p xs i v,x= .ref p/\y= .int i/\SqT K H p xs/\atI xs i=some v/\Q v H
def rIxS:R2:=fun x y H Q=>∃z i c,x= .str z/\y= .int i/\z.length<=sizeLine/\atI z.cps.toList i=some c/\Q (.str ⟨#[c]⟩) H
theorem zAx:IxR X (rIxL X.K):=by
 intro value slice pins s σ H x y v u Q I rx ry h hs;obtain ⟨p,xs,i,z,rfl,rfl,hq,he,q⟩:=h
 cases rx
 obtain ⟨t,rfl⟩:=ry;obtain ⟨its,r,pl,hz⟩:=I.list hq;obtain ⟨j,h1,h2,h3,h4,h5⟩:=atI_get he;obtain ⟨w,ew,rw'⟩:=r.get h2;have hl:=r.length;have hn:=zG8;have fin:EP X pins σ Q w s:=⟨z,H,I,rw',q⟩
 by_cases h0:0<=i
 ·have hj:i.toNat=j:=by
   rw [seqIndex_of h0 h5] at h1;exact qAd h1
  exact item_listR pl.isList h0 (by lia) (by rw [hj];simpa using ew) fin hs
 ·have hj:(i+(its.toArray.size:Int)).toNat=j:=by
   rw [seqIndex_neg (by lia) h4] at h1;rw [qAP,<-hl];exact qAd h1
  exact subscriptTail_builtinR (x:=w) pl.isList.typeIs slot_list_getitem.lookup
   (wpAny_getItem_list_neg (Q:=fun r s'=>r=w/\EP X pins σ Q r s') pl.isList (by lia) (by rw [qAP]<;>lia) (by lia) (by rw [hj];simpa using ew) ⟨rfl,fin⟩) hs
theorem ix_tup:IxR X (rIxT X.K):=by
 intro value slice pins s σ H x y v u Q I rx ry h hs;obtain ⟨p,xs,i,z,rfl,rfl,hq,he,q⟩:=h
 cases rx
 obtain ⟨t,rfl⟩:=ry;obtain ⟨its,r,pl,hz⟩:=I.tuple hq;obtain ⟨j,h1,h2,h3,h4,h5⟩:=atI_get he;obtain ⟨w,ew,rw'⟩:=r.get h2;have hl:=r.length;have hn:=zG8;have fin:EP X pins σ Q w s:=⟨z,H,I,rw',q⟩
 exact subscriptTail_builtinR (x:=w) pl.typeIs slot_tuple_getitem.lookup
  (getItem_tuple (j:=j) (Q:=fun r s'=>r=w/\EP X pins σ Q r s') pl (by lia) (by lia) (by rw [qAP,<-hl];exact h1) (by simpa using ew) ⟨rfl,fin⟩) hs
theorem ix_str:IxR X rIxS:=by
 intro value slice pins s σ H x y v u Q I rx ry h hs;obtain ⟨z,i,c,rfl,rfl,hz,he,q⟩:=h;obtain ⟨t,rfl⟩:=rx;obtain ⟨t',rfl⟩:=ry;obtain ⟨j,h1,h2,h3,h4,h5⟩:=atI_get he;have hl:z.cps.toList.length=z.length:=by simp [Str.length]
 rw [hl] at h1 h4 h5;have hn:=zG8
 exact tail_any (qBg s z t) slot_str_getitem.lookup (getItem_str (c:=c) (by
  have e1:decide (i< -(2^63:Int))=false:=qAW (by lia);have e2:decide (i>=2^63)=false:=qAW (by lia);rw [e1,e2,Bool.or_false]) (by rw [h1];simpa using h2) ⟨.str ⟨#[c]⟩,H,I.tok _,⟨_,rfl⟩,q⟩) hs
theorem mapSeq_set (its:List Value) (n j:Nat) (u:Value):Obj.mapSeq (·.setIfInBounds j u) {cls:=.type "list",data:=.seq its.toArray n}={cls:=.type "list",data:=.seq (its.set j u).toArray n}:=by
 simp [Obj.mapSeq]
theorem Inv.lst {pins:List (Addr×Obj)} {σ:St} {H:Hp} {s:Shared} {p:Addr} {xs:List V} (I:Inv X pins σ H s) (h:H p=some (.lst xs)) :
  ∃(its:List Value) (n:Nat),Vals xs its/\s.heap.get? p=some {cls:=.type "list",data:=.seq its.toArray n}/\xs.length<=sizeLine:=by
 obtain ⟨z,its,n,r,e⟩:=I.hok p _ h;exact ⟨its,n,r,e,z⟩
theorem Inv.lstUpd {pins:List (Addr×Obj)} {σ:St} {H:Hp} {s:Shared} {p:Addr} {xs ys:List V} {its its':List Value} {n':Nat} {f:Obj->Obj} (I:Inv X pins σ H s) (h:H p=some (.lst xs))
  (ho:s.heap.get? p=some {cls:=.type "list",data:=.seq its.toArray n}) (hf:f {cls:=.type "list",data:=.seq its.toArray n}={cls:=.type "list",data:=.seq its'.toArray n'}) (r:Vals ys its') (hz:ys.length<=sizeLine) (t:Nat) :
  Inv X pins σ (upd H p (.lst ys)) {s with heap:=s.heap.update p f,toks:=t}:=by
 have e:(s.heap.update p f).get? p=some {cls:=.type "list",data:=.seq its'.toArray n'}:=by
  rw [qBE f ho (by rw [hf]<;>rfl),hf]
 refine I.write (x:=p) (e:=p) (by rw [h];trivial) (.inl rfl) (fun b u hb q=>(qCB _ _ (qAm hb)).trans q) ⟨_,e⟩ ?_;exact ⟨hz,its',n',r,e⟩
def rSetL:V->V->V->Hp->(Hp->Prop)->Prop:=fun o i v H Q=>∃p xs k j,o= .ref p/\i= .int k/\H p=some (.lst xs)/\ixN xs.length k=some j/\Q (upd H p (.lst (xs.set j v)))
theorem set_list:PSet X rSetL:=by
 intro pins s σ H o i v ov iv u Q I ro ri rv h;obtain ⟨p,xs,k,j,rfl,rfl,hp,hj,q⟩:=h
 cases ro
 obtain ⟨t,rfl⟩:=ri;obtain ⟨its,n,r,ho,hz⟩:=I.lst hp;obtain ⟨h1,h2,h3,h4⟩:=ixN_seq hj;have hl:=r.length;have hn:=zG8
 have I':Inv X pins σ (upd H p (.lst (xs.set j v))) {s with heap:=s.heap.update p (Obj.mapSeq (·.setIfInBounds j u))} :=
  I.lstUpd hp ho (mapSeq_set its n j u) (r.set rv j) (by rw [List.length_set];exact hz) s.toks
 by_cases h0:0<=k
 ·have hk:k.toNat=j:=by
   rw [seqIndex_of h0 h4] at h1;exact qAd h1
  exact PySem.W.ki_setAt ho h0 (by lia) (by rw [qAP,<-hl];exact h4) (by rw [hk];exact ⟨_,I',q⟩)
 ·have hk:(k+(its.toArray.size:Int)).toNat=j:=by
   rw [seqIndex_neg (by lia) h3] at h1;rw [qAP,<-hl];exact qAd h1
  exact PySem.W.ki_setBack ho (by lia) (by rw [qAP,<-hl];exact h3) (by lia) (by rw [hk];exact ⟨_,I',q⟩)
theorem slice_bounds (lo hi:Option Int) (n:Nat):(sliceBounds lo hi none n).1=((HT.sIx n 0 lo:Nat):Int)/\(sliceBounds lo hi none n).2.1=((HT.sIx n n hi:Nat):Int)/\(sliceBounds lo hi none n).2.2=1:=by
 refine ⟨?_,?_,rfl⟩
 ·cases lo with
  | none=>simp [sliceBounds,HT.sIx]
  | some i =>
   simp only [sliceBounds,HT.sIx,Option.getD_none,show (1:Int)>0 by decide,qBN]
   by_cases h:i<0
   ·simp only [h,qBN]<;>lia
   ·simp only [h,qBs]<;>lia
 ·cases hi with
  | none=>simp [sliceBounds,HT.sIx]
  | some i =>
   simp only [sliceBounds,HT.sIx,Option.getD_none,show (1:Int)>0 by decide,qBN]
   by_cases h:i<0
   ·simp only [h,qBN]<;>lia
   ·simp only [h,qBs]<;>lia
theorem zIm (its:List Value) (lo hi:Option Int):slicePick its.toArray lo hi none=((its.drop (HT.sIx its.length 0 lo)).take (HT.sIx its.length its.length hi - HT.sIx its.length 0 lo)).toArray:=by
 obtain ⟨h1,h2,h3⟩:=slice_bounds lo hi its.toArray.size;unfold slicePick;rw [h1,h2,h3];simp only [sliceRange_one,pick_run,qAP]<;>rfl
def rSlL (K:PySem.W.Frag):V->Option Int->Option Int->Hp->VK->Prop:=fun x lo hi H Q=>∃a xs,x= .ref a/\SqL K H a xs/\∀p,H p=none->Q (.ref p) (upd H p (.lst (cutV xs lo hi)))
theorem zIn:SlR X (rSlL X.K):=by
 intro pins s σ H x v vl vu lo hi sl Q I rx hs pl pu h;obtain ⟨a,xs,rfl,hx,q⟩:=h
 cases rx
 obtain ⟨its,r,ht,hz⟩:=I.list hx;have hlen:=r.length;refine ⟨"list",_,slot_list_getitem.lookup,ht.isList.typeIs,?_⟩;refine wpAny_getItem_list_slice ht.isList hs pl pu .none (by simp) ?_ (by rw [qAP]<;>lia);rw [zIm,<-hlen];refine ⟨.ref s.heap.objs.size,_,I.laid (t':=s.toks) (o:=.lst (cutV xs lo hi)) (fun b ob q=>qAI _ q) (qAF _) ?_,rfl,q _ (I.hok.fresh (qAF _))⟩;exact ⟨qAc (cutV_length xs lo hi) hz,_,0,(r.drop (HT.sIx xs.length 0 lo)).take (HT.sIx xs.length xs.length hi - HT.sIx xs.length 0 lo),qAb _ rfl⟩
def zDs:V->Bool
 | .non=>true
 | .bl _=>true
 | .int _=>true
 | .str _=>true
 | _=>false
def eqV:V->V->Bool
 | .non,.non=>true
 | .bl a,.bl b=>a==b
 | .bl a,.int b=>(if a then 1 else 0)==b
 | .int a,.bl b=>a==(if b then 1 else 0)
 | .int a,.int b=>a==b
 | .str a,.str b=>a==b
 | _,_=>false
theorem eqAt_V {A:Around} {s:Shared} {y:V} {u v:Value} (ry:RelV y u) (rx:RelV x v) (fy:zDs y=true) (fx:zDs x=true):SeqAt.EqAt A s u v (eqV y x):=by
 cases y with
 | non =>
  cases ry
  cases x with
  | non=>cases rx;exact qCW _
  | bl b=>cases rx;exact SeqAt.EqAt.none_bool b
  | int b=>obtain ⟨t,rfl⟩:=rx;exact SeqAt.EqAt.none_int b t
  | str b=>obtain ⟨t,rfl⟩:=rx;exact SeqAt.EqAt.none_str b t
  | _=>exact absurd (show false=true from fx) qAk
 | bl a =>
  cases ry
  cases x with
  | non=>cases rx;exact SeqAt.EqAt.bool_none a
  | bl b=>cases rx;exact SeqAt.EqAt.bool_bool a b
  | int b=>obtain ⟨t,rfl⟩:=rx;exact SeqAt.EqAt.bool_int a b t
  | str b=>obtain ⟨t,rfl⟩:=rx;exact SeqAt.EqAt.bool_str a b t
  | _=>exact absurd (show false=true from fx) qAk
 | int a =>
  obtain ⟨t',rfl⟩:=ry
  cases x with
  | non=>cases rx;exact SeqAt.EqAt.int_none a t'
  | bl b=>cases rx;exact SeqAt.EqAt.int_bool a t' b
  | int b=>obtain ⟨t,rfl⟩:=rx;exact SeqAt.EqAt.int_int a t' b t
  | str b=>obtain ⟨t,rfl⟩:=rx;exact SeqAt.EqAt.int_str a t' b t
  | _=>exact absurd (show false=true from fx) qAk
 | str a =>
  obtain ⟨t',rfl⟩:=ry
  cases x with
  | non=>cases rx;exact SeqAt.EqAt.str_none a t'
  | bl b=>cases rx;exact SeqAt.EqAt.str_bool a t' b
  | int b=>obtain ⟨t,rfl⟩:=rx;exact SeqAt.EqAt.str_int a t' b t
  | str b=>obtain ⟨t,rfl⟩:=rx;exact SeqAt.EqAt.str_str a t' b t
  | _=>exact absurd (show false=true from fx) qAk
 | _=>exact absurd (show false=true from fy) qAk
def eqU (x:V) (u:Value):Bool:=match u with
 | .none=>eqV .non x
 | .bool b=>eqV (.bl b) x
 | .int i _=>eqV (.int i) x
 | .str z _=>eqV (.str z) x
 | _=>false
theorem eqU_of {y:V} {u:Value} (r:RelV y u) (f:zDs y=true):eqU x u=eqV y x:=by
 cases y with
 | non=>cases r;rfl
 | bl b=>cases r;rfl
 | int i=>obtain ⟨t,rfl⟩:=r;rfl
 | str z=>obtain ⟨t,rfl⟩:=r;rfl
 | _=>exact absurd (show false=true from f) qAk
theorem zHm :∀{xs:List V} {us:List Value},Vals xs us->xs.all zDs=true->us.any (eqU x)=xs.any fun y=>eqV y x
 | _,_,.nil,_=>rfl
 | y::xs,u::us,.cons r t,f=>by
  rw [List.all_cons,qBh] at f;rw [qCC,qCC,eqU_of r f.1,zHm t f.2]
theorem zFh {A:Around} {s:Shared} {v:Value} (rx:RelV x v) (fx:zDs x=true):∀{xs:List V} {us:List Value},Vals xs us->xs.all zDs=true->∀u∈us,SeqAt.EqAt A s u v (eqU x u)
 | _,_,.nil,_=>fun u hu=>by cases hu
 | y::xs,u::us,.cons r t,f=>fun u' hu=>by
  rw [List.all_cons,qBh] at f;rcases qAS.mp hu with rfl| hu
  ·rw [eqU_of r f.1];exact eqAt_V r rx f.1 fx
  ·exact zFh rx fx t f.2 u' hu
def inV (x:V) (xs:List V):Bool:=xs.any fun y=>eqV y x
def rIn (K:PySem.W.Frag) (neg:Bool):R2:=fun x y H Q=>∃p xs,y= .ref p/\(SqL K H p xs\/SqT K H p xs)/\zDs x=true/\xs.all zDs=true/\Q (.bl (if neg then !inV x xs else inV x xs)) H
theorem zCr:OpR X (compareOp .In) (rIn X.K false):=by
 intro pins s σ H x y v u Q I rx ry h;obtain ⟨p,xs,rfl,hq,fx,fs,q⟩:=h
 cases ry
 rcases hq with hq| hq
 ·obtain ⟨its,r,pl,hz⟩:=I.list hq;refine SeqAt.in_listAt (eqU x) pl.isList (fun w hw=>zFh rx fx r fs w (by simpa using hw)) ⟨.bl _,H,I,rfl,?_⟩;rw [show its.toArray.any (eqU x)=its.any (eqU x) by simp,zHm r fs];exact q
 ·obtain ⟨its,r,pl,hz⟩:=I.tuple hq;refine SeqAt.in_tupleAt (eqU x) pl (fun w hw=>zFh rx fx r fs w (by simpa using hw)) ⟨.bl _,H,I,rfl,?_⟩;rw [show its.toArray.any (eqU x)=its.any (eqU x) by simp,zHm r fs];exact q
theorem zC1:OpR X (compareOp .NotIn) (rIn X.K true):=by
 intro pins s σ H x y v u Q I rx ry h;obtain ⟨p,xs,rfl,hq,fx,fs,q⟩:=h
 cases ry
 rcases hq with hq| hq
 ·obtain ⟨its,r,pl,hz⟩:=I.list hq;refine SeqAt.notIn_listAt (eqU x) pl.isList (fun w hw=>zFh rx fx r fs w (by simpa using hw)) ⟨.bl _,H,I,rfl,?_⟩;rw [show its.toArray.any (eqU x)=its.any (eqU x) by simp,zHm r fs];exact q
 ·obtain ⟨its,r,pl,hz⟩:=I.tuple hq;refine SeqAt.notIn_tupleAt (eqU x) pl (fun w hw=>zFh rx fx r fs w (by simpa using hw)) ⟨.bl _,H,I,rfl,?_⟩;rw [show its.toArray.any (eqU x)=its.any (eqU x) by simp,zHm r fs];exact q
theorem zAl:zCu X (.builtin "len") (fun xs H Q=>∃p ys,xs=[.ref p]/\(SqL X.K H p ys\/SqT X.K H p ys)/\Q (.int ys.length) H):=by
 intro pins s σ H xs us Q I r h;obtain ⟨p,ys,rfl,hq,q⟩:=h;obtain ⟨u,rfl,rx⟩:=vals1 r
 cases rx
 have hn:=zG8;rcases hq with hq| hq
 ·obtain ⟨its,r',pl,hz⟩:=I.list hq;have hlen:=r'.length;exact Calls.call_len_list pl.isList (by simp only [qAP]<;>lia) ⟨.int ys.length,H,I.tok _,⟨s.toks+1,by rw [qAP,hlen]⟩,q⟩
 ·obtain ⟨its,r',pl,hz⟩:=I.tuple hq;have hlen:=r'.length;exact len_tuple pl (by simp only [qAP]<;>lia) ⟨.int ys.length,H,I.tok _,⟨s.toks+1,by rw [qAP,hlen]⟩,q⟩
theorem call_len_str:zCu X (.builtin "len") (fun xs H Q=>∃z,xs=[.str z]/\z.length<=sizeLine/\Q (.int z.length) H):=by
 intro pins s σ H xs us Q I r h;obtain ⟨z,rfl,hz,q⟩:=h;obtain ⟨u,rfl,t,rfl⟩:=vals1 r;have hn:=zG8;exact len_str (by lia) ⟨.int z.length,H,I.tok _,⟨_,rfl⟩,q⟩
theorem zAy:zCu X (.type "list") (fun xs H Q=>∃p ys,xs=[.ref p]/\(SqL X.K H p ys\/SqT X.K H p ys)/\∀l,H l=none->Q (.ref l) (upd H l (.lst ys))):=by
 intro pins s σ H xs us Q I r h;obtain ⟨p,ys,rfl,hq,q⟩:=h;obtain ⟨u,rfl,rx⟩:=vals1 r
 cases rx
 have fin:∀(its:List Value),Vals ys its->ys.length<=sizeLine->∀(h':Heap) (c':Nat),(∀b o',s.heap.get? b=some o'->h'.get? b=some o') ->
   h'.get? s.heap.objs.size=some {cls:=.type "list",dict:=none,data:=.seq its.toArray c',slots:=#[]}->EP X pins σ Q (.ref s.heap.objs.size) {s with heap:=h'}:=fun its r' hz h' c' kp e =>
  ⟨.ref s.heap.objs.size,_,I.laid (t':=s.toks) kp (qAF _) (show zBb X.prog X.w _ h' _ (.lst ys) from ⟨hz,its,c',r',e⟩),rfl,q _ (I.hok.fresh (qAF _))⟩
 rcases hq with hq| hq
 ·obtain ⟨its,r',pl,hz⟩:=I.list hq;have hlen:=r'.length;obtain ⟨o,ho,hc,n,hd⟩:=pl.isList;exact call_list_seq p (.inl rfl) ho hc hd (fun h' c' kp e=>fin its r' hz h' c' kp e) (by simp only [qAP]<;>lia)
 ·obtain ⟨its,r',pl,hz⟩:=I.tuple hq;have hlen:=r'.length;obtain ⟨o,ho,hc,n,hd⟩:=pl;exact call_list_seq p (.inr rfl) ho hc hd (fun h' c' kp e=>fin its r' hz h' c' kp e) (by simp only [qAP]<;>lia)
theorem zJj:zCu X (.type "tuple") (fun xs H Q=>∃p ys,xs=[.ref p]/\((SqL X.K H p ys/\∀l,H l=none->Q (.ref l) (upd H l (.tup ys)))\/(SqT X.K H p ys/\Q (.ref p) H))):=by
 intro pins s σ H xs us Q I r h;obtain ⟨p,ys,rfl,h⟩:=h;obtain ⟨u,rfl,rx⟩:=vals1 r
 cases rx
 rcases h with ⟨hq,q⟩| ⟨hq,q⟩
 ·obtain ⟨its,r',pl,hz⟩:=I.list hq;have hlen:=r'.length;refine call_tuple_list pl.isList (fun h' kp=>?_) (by simp only [qAP]<;>lia);have I1:Inv X pins σ H {s with heap:=h'}:=I.kept (t':=s.toks) kp
  have I2:Inv X pins σ (upd H h'.objs.size (.tup ys)) {s with heap:=h'.push {cls:=.type "tuple",data:=.seq its.toArray}} :=
   I1.laid (t':=s.toks) (fun b o e=>qAI _ e) (qAF _) (show zBb X.prog X.w _ _ _ (.tup ys) from ⟨hz,its,r',IsTup.new _ _⟩)
  exact ⟨.ref h'.objs.size,_,I2,rfl,q _ (I1.hok.fresh (qAF _))⟩
 ·obtain ⟨its,r',pl,hz⟩:=I.tuple hq;exact call_tuple_same pl ⟨.ref p,H,I,rfl,q⟩
def tyV (K:PySem.W.Frag) (T:String) (x:V) (H:Hp):Prop:=match x with
 | .str _=>T= "str"
 | .int _=>T= "int"
 | .ref p=>(T= "list" /\∃xs,SqL K H p xs)\/(T= "tuple" /\∃o,K.lookup p=some o/\o.cls= .type "tuple" /\o.dict=none) \/
   (T= "dict" /\((∃kvs,H p=some (.dK kvs))\/∃kvs,H p=some (.dT kvs)))\/(T= "set" /\∃S n,H p=some (.set S n))
 | _=>False
theorem tyV_is {pins:List (Addr×Obj)} {σ:St} {H:Hp} {s:Shared} {T:String} {v:Value} (I:Inv X pins σ H s) (r:RelV x v) (ty:tyV X.K T x H) :
  s.TypeIs v T/\∀a,v= .ref a->∃ob,s.heap.get? a=some ob/\ob.dict=none:=by
 cases x with
 | str z =>
  obtain ⟨t,rfl⟩:=r
  cases (show T= "str" from ty)
  exact ⟨qBg s z t,fun _ e=>nomatch e⟩
 | int i =>
  obtain ⟨t,rfl⟩:=r
  cases (show T= "int" from ty)
  exact ⟨typeIs_int s i t,fun _ e=>nomatch e⟩
 | ref p =>
  cases r
  rcases ty with ⟨rfl,xs,hq⟩| ⟨rfl,o,hk,hc,hd⟩| ⟨rfl,hk⟩| ⟨rfl,S,n,hk⟩
  ·obtain ⟨its,_,pl,_⟩:=I.list hq;refine ⟨pl.isList.typeIs,fun a e=>?_⟩
   cases e
   obtain ⟨o,n,e,c,hd,_⟩:=pl;exact ⟨o,e,hd⟩
  ·refine ⟨⟨o,I.kIn p o hk,hc⟩,fun a e=>?_⟩
   cases e
   exact ⟨o,I.kIn _ o hk,hd⟩
  ·have z:∃o,s.heap.get? p=some o/\o.ExactDict:=by
    rcases hk with ⟨kvs,hk⟩| ⟨kvs,hk⟩
    ·obtain ⟨_,_,_,_,o,_,_,e,ex,_⟩:=I.hok p _ hk;exact ⟨o,e,ex⟩
    ·obtain ⟨_,_,_,_,o,_,_,e,ex,_⟩:=I.hok p _ hk;exact ⟨o,e,ex⟩
   obtain ⟨o,e,ex⟩:=z;refine ⟨⟨o,e,ex.1⟩,fun a e2=>?_⟩
   cases e2
   exact ⟨o,e,ex.2.1⟩
  ·obtain ⟨o,_,_,_,e,ex,_⟩:=I.hok p _ hk;refine ⟨⟨o,e,ex.1⟩,fun a e2=>?_⟩
   cases e2
   exact ⟨o,e,ex.2.1⟩
 | _=>exact False.elim ty
def tBM0 (K:PySem.W.Frag) (T:String) (r:V->List V->Hp->VK->Prop) (to:TE):TE:=fun σ H Q=>to σ H fun x H1=>tyV K T x H1/\r x [] H1 Q
def tBM (K:PySem.W.Frag) (T:String) (r:V->List V->Hp->VK->Prop) (to:TE) (t:TA):TE:=fun σ H Q=>to σ H fun x H1=>tyV K T x H1/\t σ H1 fun xs H2=>r x xs H2 Q
variable {o e:Expr} {es:List Expr} {to:TE} {t:TA} {name:Str} {apos cpos:Pos} {T id:String} {r:V->List V->Hp->VK->Prop}
theorem pe_bm0 (pa:PlainAttrs T) (slot:Slot T name id) (hty:typeOf (.builtin id)=pure (.type "method_descriptor")) (hm:MtR X id r) (ho:PE X o to)
  (hbase:attributeBase o name X.env (eval o X.env)=eval o X.env:=by rfl) (hline:(apos.endLine==cpos.line)=true:=by rfl):PE X (.Call (.Attribute o name apos) [] [] cpos) (tBM0 X.K T r to):=by
 intro pins s σ H Q I h;refine wpAny_Call_method0_late hbase hline (thn (ho pins s σ H _ I h) fun v s1 ⟨x,H1,I1,r1,ty,q1⟩=>?_);obtain ⟨h1,h2⟩:=tyV_is I1 r1 ty;exact ⟨T,id,pa,slot,hty,h1,h2,qDE rfl (PySem.evalArgs_none (hm pins s1 σ H1 x [] v [] Q I1 r1 .nil q1))⟩
theorem zC5 (pa:PlainAttrs T) (slot:Slot T name id) (hty:typeOf (.builtin id)=pure (.type "method_descriptor")) (hm:MtR X id r) (ho:PE X o to) (ha:PA X (e::es) t)
  (hbase:attributeBase o name X.env (eval o X.env)=eval o X.env:=by rfl)
  (hfew:((backTo cpos (starEach (e::es) X.env)).all (fun x=>!x.1)&&(backToKw cpos (keywordEach [] X.env)).all (fun x=>x.1.isSome)
   &&decide ((e::es).length+([]:List Keyword).length+(if ([]:List Keyword).isEmpty then 0 else 1)<30))=true:=by rfl)
  (hline:(apos.endLine==cpos.line)=true:=by rfl) (hs:starEach (e::es) X.env=(false,eval e X.env)::starEach es X.env:=by rfl) (hplain:(backTo cpos (starEach es X.env)).any (·.1)=false:=by rfl) :
  PE X (.Call (.Attribute o name apos) (e::es) [] cpos) (tBM X.K T r to t):=by
 intro pins s σ H Q I h;refine wpAny_Call_method_late hbase hfew hline rfl (thn (ho pins s σ H _ I h) fun v s1 ⟨x,H1,I1,r1,ty,q1⟩=>?_);obtain ⟨h1,h2⟩:=tyV_is I1 r1 ty;refine ⟨T,id,pa,slot,hty,h1,h2,?_⟩;have hA:=ha cpos pins s1 σ H1 _ I1 q1;rw [hs] at hA ⊢;refine qDE (by show (false||(backTo cpos (starEach es X.env)).any (·.1))=false;rw [hplain]<;>rfl) (Calls.evalArgs_plain ?_);exact thn hA fun us s2 ⟨vs,H2,I2,r2,q2⟩=>hm pins s2 σ H2 x vs v us Q I2 r1 r2 q2
end
def MtM (X:Cx) (id:String) (r:V->List V->Hp->VK->Prop):Prop :=
 ∀(pins:List (Addr×Obj)) (s:Shared) (σ:St) (H:Hp) (x:V) (xs:List V) (v:Value) (us:List Value) (Q:VK),Inv X pins σ H s->RelV x v->Vals xs us->r x xs H Q ->
  wpAny (model X.prog X.w) X.A (call (.builtin id) (v::us)) (EP X pins σ Q) X.xe s
theorem Vals.one:∀{x:V} {us:List Value},Vals [x] us->∃u,us=[u]/\RelV x u
 | _,_,.cons r .nil=>⟨_,rfl,r⟩
theorem Vals.two:∀{x y:V} {us:List Value},Vals [x,y] us->∃u v,us=[u,v]/\RelV x u/\RelV y v
 | _,_,_,.cons r (.cons q .nil)=>⟨_,_,rfl,r,q⟩
theorem Vals.zero:∀{us:List Value},Vals [] us->us=[]
 | _,.nil=>rfl
theorem Vals.dropLast {xs:List V} {us:List Value} (h:Vals xs us):Vals xs.dropLast us.dropLast:=by
 induction h with
 | nil=>exact .nil
 | cons r t ih =>
  cases t with
  | nil=>exact .nil
  | cons q t'=>exact .cons r ih
theorem Vals.eraseIdx:∀{xs:List V} {us:List Value} (i:Nat),Vals xs us->Vals (xs.eraseIdx i) (us.eraseIdx i)
 | _,_,_,.nil=>.nil
 | _,_,0,.cons _ t=>t
 | _,_,i+1,.cons r t=>.cons r (Vals.eraseIdx i t)
theorem Vals.rep {xs:List V} {us:List Value} (h:Vals xs us):∀k:Nat,Vals (List.replicate k xs).flatten (List.replicate k us).flatten
 | 0=>.nil
 | k+1=>by
  rw [qCX,qCX,qCs,qCs];exact Vals.append h (Vals.rep h k)
theorem erase_last (l:List α):l.eraseIdx (l.length - 1)=l.dropLast:=by
 induction l with
 | nil=>rfl
 | cons a r ih =>
  cases r with
  | nil=>rfl
  | cons b r =>
   have e:(a::b::r).length - 1=((b::r).length - 1)+1:=by
    have h1:(a::b::r).length=r.length+2:=rfl;have h2:(b::r).length=r.length+1:=rfl;lia
   rw [e,List.eraseIdx_cons_succ,ih]
   all_goals rfl
theorem len_erase :∀(l:List α) (i:Nat),(l.eraseIdx i).length<=l.length
 | [],_=>qAF _
 | _::_,0=>qBL _
 | _::r,i+1=>Nat.succ_le_succ (len_erase r i)
theorem foldl_rep (its:List Value):∀(k:Nat) (acc:List Value),
  List.foldl (fun x1 x2=>x1++x2) acc.toArray (List.replicate k its.toArray)=(acc++(List.replicate k its).flatten).toArray
 | 0,acc=>by simp
 | k+1,acc=>by
  have e:acc.toArray++its.toArray=(acc++its).toArray:=by simp
  have e2:(acc++its)++(List.replicate k its).flatten=acc++(List.replicate (k+1) its).flatten:=by
   rw [qCX,qCs,qBT]
  rw [<-e2,<-foldl_rep its k (acc++its),<-e,qCX,qBU]
section
variable {X:Cx} {pins:List (Addr×Obj)} {σ:St} {H:Hp} {s:Shared} {l b:Addr} {xs ys zs:List V}
theorem Inv.lset {its its':List Value} {f:Array Value->Array Value} {t':Nat} (I:Inv X pins σ H s) (hH:H l=some (.lst xs))
  (e:s.heap.get? l=some {cls:=.type "list",data:=.seq its.toArray n}) (hf:f its.toArray=its'.toArray) (hv:Vals ys its') (hz:ys.length<=sizeLine) :
  Inv X pins σ (upd H l (.lst ys)) {s with heap:=s.heap.update l (Obj.mapSeq f),toks:=t'}:=by
 have q:=PySem.IsL.update e f;rw [hf] at q;refine I.write (x:=l) (e:=l) (by rw [hH];exact trivial) (.inl rfl) (fun b' u hb hu=>(qCB s.heap (Obj.mapSeq f) (qAm hb)).trans hu) ⟨_,q⟩ ?_;exact ⟨hz,its',_,hv,q⟩
theorem Inv.lnew {its:List Value} {t':Nat} (I:Inv X pins σ H s) (hv:Vals ys its) (hz:ys.length<=sizeLine) :
  Inv X pins σ (upd H s.heap.objs.size (.lst ys)) {s with heap:=s.heap.push {cls:=.type "list",data:=.seq its.toArray},toks:=t'} :=
 I.laid (fun _ _ q=>qAI _ q) (qAF _) ⟨hz,its,0,hv,qAb _ rfl⟩
theorem Inv.fresh (I:Inv X pins σ H s):H s.heap.objs.size=none:=I.hok.fresh (qAF _)
theorem Inv.lstM (I:Inv X pins σ H s) (hH:H l=some (.lst xs)):xs.length<=sizeLine/\∃(its:List Value) (n:Nat),Vals xs its/\xs.length=its.length/\s.heap.get? l=some {cls:=.type "list",data:=.seq its.toArray n}:=by
 obtain ⟨z,its,n,r,e⟩:=I.hok l _ hH;exact ⟨z,its,n,r,r.length,e⟩
theorem notLongL (h:n<=sizeLine):Builtin.List.listTooLong n=false:=by
 unfold Builtin.List.listTooLong;exact qAW (by lia)
end
section
variable {X:Cx}
def rAppend:V->List V->Hp->VK->Prop:=fun x vs H Q=>∃l xs y,x= .ref l/\vs=[y]/\H l=some (.lst xs)/\xs.length<sizeLine/\Q .non (upd H l (.lst (xs++[y])))
theorem zCs:MtM X "list.append" rAppend:=by
 intro pins s σ H x vs v us Q I rx rv h;obtain ⟨l,xs,y,rfl,rfl,hH,hz,q⟩:=h
 cases rx
 obtain ⟨u,rfl,ru⟩:=rv.one;obtain ⟨z,its,n,r,hl,e⟩:=I.lstM hH;refine qA6 F.slot_list_append ⟨_,e,rfl⟩ F.entry_list_append (F.args_list_append_2 _ _) (PySem.list_append l its.toArray n u (by rw [qAP];lia)) ⟨e,?_⟩;refine ⟨.non,_,I.lset (its':=its++[u]) hH e (by simp) (r.append (.cons ru .nil)) ?_,rfl,q⟩;rw [qAj,qCY];lia
def rExtend:V->List V->Hp->VK->Prop:=fun x vs H Q=>∃l b xs zs,x= .ref l/\vs=[.ref b]/\H l=some (.lst xs)/\H b=some (.lst zs)/\xs.length+zs.length<=sizeLine/\Q .non (upd H l (.lst (xs++zs)))
theorem zG6:MtM X "list.extend" rExtend:=by
 intro pins s σ H x vs v us Q I rx rv h;obtain ⟨l,b,xs,zs,rfl,rfl,hH,hB,hz,q⟩:=h
 cases rx
 obtain ⟨u,rfl,ru⟩:=rv.one
 cases ru
 obtain ⟨z,its,n,r,hl,e⟩:=I.lstM hH;obtain ⟨z2,its2,n2,r2,hl2,e2⟩:=I.lstM hB;have hsz:its.toArray.size+its2.toArray.size<=sizeLine:=by rw [qAP,qAP];lia
 have hlong:¬(!its.toArray.isEmpty&&Builtin.List.listTooLong (its.toArray.size+its2.toArray.size))=true:=by
  rw [notLongL hsz,Bool.and_false];exact qAk
 refine qA6 F.slot_list_extend ⟨_,e,rfl⟩ F.entry_list_extend (F.args_list_extend_2 _ _)
  (AutoSeq1.list_extend_list_list_0 l its.toArray n b its2.toArray n2 hlong (by rw [qAP];lia) (by lia)) ⟨e,e2,?_⟩
 refine ⟨.non,_,I.lset (its':=its++its2) hH e (by simp) (r.append r2) ?_,rfl,q⟩;rw [qAj];lia
def rPop:V->List V->Hp->VK->Prop:=fun x vs H Q=>∃l xs y,x= .ref l/\vs=[]/\H l=some (.lst xs)/\xs[xs.length - 1]?=some y/\Q y (upd H l (.lst xs.dropLast))
theorem mt_pop:MtM X "list.pop" rPop:=by
 intro pins s σ H x vs v us Q I rx rv h;obtain ⟨l,xs,y,rfl,rfl,hH,hy,q⟩:=h
 cases rx
 have hus:=rv.zero;subst hus;obtain ⟨z,its,n,r,hl,e⟩:=I.lstM hH;obtain ⟨u,hu,ru⟩:=r.get hy
 have hy':its.toArray[its.toArray.size - 1]?=some u:=by
  show its.toArray[its.length - 1]?=some u;rw [<-qAl,<-hl];exact hu
 refine qA6 F.slot_list_pop ⟨_,e,rfl⟩ F.entry_list_pop (F.args_list_pop_1 _) (MeetsSeq.list_pop_last l its.toArray n u hy' (by rw [qAP];lia)) ⟨e,?_⟩;refine ⟨y,_,I.lset (its':=its.dropLast) hH e ?_ r.dropLast ?_,ru,q⟩
 ·show its.toArray.eraseIdxIfInBounds (its.toArray.size - 1)=its.dropLast.toArray;rw [qAP,List.eraseIdxIfInBounds_toArray,erase_last]
 ·rw [List.length_dropLast];lia
def rPopAt:V->List V->Hp->VK->Prop:=fun x vs H Q=>∃l xs i k y,x= .ref l/\vs=[.int i]/\H l=some (.lst xs)/\-(2^63)<=i/\i<2^63/\seqIndex? i xs.length=some k/\xs[k]?=some y/\Q y (upd H l (.lst (xs.eraseIdx k)))
theorem mt_popAt:MtM X "list.pop" rPopAt:=by
 intro pins s σ H x vs v us Q I rx rv h;obtain ⟨l,xs,i,k,y,rfl,rfl,hH,h1,h2,hk,hy,q⟩:=h
 cases rx
 obtain ⟨u,rfl,ru⟩:=rv.one;obtain ⟨t,rfl⟩:=ru;obtain ⟨z,its,n,r,hl,e⟩:=I.lstM hH;obtain ⟨w,hw,rw'⟩:=r.get hy
 refine qA6 F.slot_list_pop ⟨_,e,rfl⟩ F.entry_list_pop (F.args_list_pop_2 _ _)
  (MeetsSeq.list_pop_at l its.toArray n i t k w (fitsIndex_both h1 h2) (by rw [qAP,<-hl];exact hk) (by rw [<-qAl];exact hw) (by rw [qAP];lia)) ⟨e,?_⟩
 refine ⟨y,_,I.lset (its':=its.eraseIdx k) hH e ?_ (r.eraseIdx k) ?_,rw',q⟩
 ·show its.toArray.eraseIdxIfInBounds k=(its.eraseIdx k).toArray;rw [List.eraseIdxIfInBounds_toArray]
 ·have:=len_erase xs k;lia
def rCat:R2:=fun x y H Q=>∃l b xs zs,x= .ref l/\y= .ref b/\H l=some (.lst xs)/\H b=some (.lst zs)/\xs.length+zs.length<=sizeLine/\∀p,H p=none->Q (.ref p) (upd H p (.lst (xs++zs)))
theorem op_cat:OpR X (binaryOp .Add) rCat:=by
 intro pins s σ H x y v u Q I rx ry h;obtain ⟨l,b,xs,zs,rfl,rfl,hH,hB,hz,q⟩:=h
 cases rx
 cases ry
 obtain ⟨z,its,n,r,hl,e⟩:=I.lstM hH;obtain ⟨z2,its2,n2,r2,hl2,e2⟩:=I.lstM hB;refine PySem.P.add_list e e2 ?_ (by rw [qAP,qAP];lia);have ea:its.toArray++its2.toArray=(its++its2).toArray:=by simp
 rw [ea];exact ⟨.ref _,_,I.lnew (t':=s.toks) (r.append r2) (by rw [qAj];lia),rfl,q _ I.fresh⟩
def rRep:R2:=fun x y H Q=>∃l k xs,x= .ref l/\y= .int k/\H l=some (.lst xs)/\-(2^63)<=k/\k<2^63/\xs.length*k.toNat<=sizeLine /\
 ∀p,H p=none->Q (.ref p) (upd H p (.lst (List.replicate k.toNat xs).flatten))
theorem len_rep (xs:List α) (k:Nat):(List.replicate k xs).flatten.length=k*xs.length:=by
 induction k with
 | zero=>simp
 | succ k ih=>rw [qCX,qCs,qAj,ih,Nat.succ_mul,Nat.add_comm]
theorem op_rep:OpR X (binaryOp .Mult) rRep:=by
 intro pins s σ H x y v u Q I rx ry h;obtain ⟨l,k,xs,rfl,rfl,hH,h1,h2,hz,q⟩:=h
 cases rx
 obtain ⟨t,rfl⟩:=ry;obtain ⟨z,its,n,r,hl,e⟩:=I.lstM hH;have hlen:its.toArray.size*k.toNat<=sizeLine:=by rw [qAP,<-hl];exact hz
 have hcap:¬its.toArray.size*k.toNat>(2^63 - 1) / 8:=by
  have:(sizeLine:Nat)<=(2^63 - 1) / 8:=by decide
  lia
 have hfit:¬(!Builtin.List.listFitsIndex k)=true:=by
  rw [fitsIndex_both h1 h2];exact qAk
 have hlong:¬Builtin.List.listTooLong (its.toArray.size*k.toNat)=true:=by
  rw [notLongL hlen];exact qAk
 have hnew:List.foldl (fun x1 x2=>x1++x2) #[] (List.replicate (if its.toArray.isEmpty=true then 0 else k.toNat) its.toArray)=(List.replicate k.toNat its).flatten.toArray:=by
  have f0:∀m:Nat,List.foldl (fun x1 x2=>x1++x2) #[] (List.replicate m its.toArray)=(List.replicate m its).flatten.toArray:=fun m=>by
   have:=foldl_rep its m [];rw [List.nil_append] at this;exact this
  rw [f0]
  cases its with
  | nil=>simp
  | cons a r'=>rw [qAB (by simp)]
 refine wpAny_binaryOp_repeat_ref (T:= "list") (U:= "int") (by decide) ⟨_,e,rfl⟩ (fun s'=>typeIs_int s' k t) noFill_list_mul F.fills_int_mul F.slot_int_rmul repeat_list F.slot_int_index.lookup
  (qA6 F.slot_int_rmul (typeIs_int s k t) F.entry_int_rmul (F.args_int_rmul_2 _ _) (int___rmul___int_list k t l its.toArray n)
   ⟨e,rfl,⟨_,e,rfl⟩,qA6 F.slot_list_mul ⟨_,e,rfl⟩ F.entry_list_mul (F.args_list_mul_2 _ _) (AutoListH.list___mul___list_int_3 l its.toArray n k t hfit hcap hlong) ⟨e,?_⟩⟩)
 rw [hnew];exact ⟨.ref _,_,I.lnew (t':=s.toks) (r.rep k.toNat) (by rw [len_rep,Nat.mul_comm];exact hz),rfl,q _ I.fresh⟩
end
section
variable {prog:Program} {w:World} {A:Around} {E:Value->Shared->Prop} {s:Shared}
set_option maxRecDepth 100000 in
end
end L2
namespace Att
open PySem PySem.W PySem.Calls PyProof.Rows
theorem zHf {P:Params} {h:Heap}:∀(ns:List Int) (vs:List Value),WellAll P h vs (ns.map WData.int)->IntsAre vs ns:=by
 intro ns
 induction ns with
 | nil =>
  intro vs w;rw [List.map_nil] at w
  cases w
  exact .nil
 | cons n ns ih =>
  intro vs w;rw [qAi] at w
  cases w with
  | cons a b =>
   cases a
   exact .cons _ _ (ih _ b)
theorem script_of {l:OpenLaw} {n:Nat} (hn:l.most=some n) {P:Params} {h:Heap} {args:List WData} {vals:List Value}
  (hpre:l.row.toRowW.claim.pre args=true) (hwl:WellAll P h vals args) :
  ∃a vs ns,vals=[Value.ref a]/\args=[WData.list (ns.map WData.int)]/\h.get? a=some {cls:=.type "list",data:=.seq vs.toArray}/\IntsAre vs ns/\ns.length<=n:=by
 have hsh:WShape.hasAll [] args [.list .int]=true:=(pre_splitW hpre).1;have hc:l.pre.holds [] {args:=args}=true:=(pre_splitW hpre).2;obtain ⟨d,r,rfl,h1,h2⟩:=hasAllW_cons hsh;obtain rfl:=hasAllW_nil h2;obtain ⟨xs,rfl,h3⟩:=hasW_list h1;obtain ⟨ns,rfl⟩:=items_int h3
 have hlen:ns.length<=n:=by
  unfold OpenLaw.pre at hc
  have h4:(WTm.not (.lt (.lit (.int (n:Int))) (.len (.arg 0)))).holds [] {args:=[.list (ns.map .int)]}=true:=by
   have h4:=(holds_andW hc).1;rw [hn] at h4;exact h4
  have h5:=condW_of h4 (w_not (w_lt w_lit (w_len_list (w_arg rfl))));rw [qAD] at h5;refine Nat.le_of_not_lt fun q=>?_;have q':(n:Int)<((ns.length:Nat):Int):=by lia
  first
   | (rw [qAR q'] at h5;exact absurd h5 (by decide))
   | (simp at h5;lia)
 cases hwl with
 | cons w1 w2 =>
  cases w2
  cases w1 with
  | list ho hall=>exact ⟨_,_,ns,rfl,rfl,ho,zHf ns _ hall,hlen⟩
theorem post_true (l:OpenLaw) (args:List WData):l.row.toRowW.claim.post args (.bool true) args=true :=
 postW_of (r:=l.row.toRowW) (X:=(true==true))
  (show WShape.has [] (.bool true) .bool=true by first| rfl| decide| simp [WShape.has,WShape.arms,WShape.armsAll])
  (show (WTm.eq .res (.lit (.bool true))).value [] {args:=args,res:=some (.bool true),after:=args}=some (.bool (true==true)) from w_eq_bool (w_res rfl) w_lit) rfl
theorem attach_call {l:OpenLaw} {n:Nat} {q:Program} {loose:List Str} {XP:(Str->Option Value)->Heap->Prop} {YP:World->Heap->Prop} {d:DefRec}
  (hn:l.most=some n) (hdf:d.params.defaults=[])
  (call:∀(w:World) (s₀ s₁:Shared) (mg mb:Str->Option Value) (fa:Addr) (o:Obj) (pm cd doc:Value) (a:Addr) (vs:List Value) (ns:List Int),
   Ground q loose [] XP w s₀ mg mb s₁.heap->YP w s₁.heap ->
   s₁.heap.get? fa=some o->o.data= .func (docDef d.name d.params d.body d.scope pm cd doc)->s₁.heap.CodeRec cd d.name->mg d.name=some (.ref fa) ->
   s₁.heap.get? a=some {cls:=.type "list",data:=.seq vs.toArray}->IntsAre vs ns->ns.length<=n->s₁.gens=#[] ->
   codeAny (model l.prog w) callerA (.call (.ref fa) ⟨[.ref a],[]⟩) (fun r s'=>r= .ok (.ret (.bool true))/\OldK s₁.heap s'.heap/\s'.os=s₁.os/\AllBare s'.gens) s₁) :
  WalkO q loose XP YP l.row.toRowW d [] (fun f vs=>PySem.call f vs):=by
 intro w s₀ s₁ mg mb G Y fa o pm cd doc dV kV ho hd hcd hD hmg hg args vals as hpre hlay hrd hwl hlo;obtain rfl:dV= .none:=Dflts.none hD hdf;obtain rfl:kV= .none:=Dflts.noKw hD;obtain ⟨a,vs,ns,rfl,rfl,hobj,hints,hlen⟩:=script_of hn hpre hwl;refine enter_call (qBd (call w s₀ s₁ mg mb fa o pm cd doc a vs ns G Y ho (fd_plain hd) hcd hmg hobj hints hlen hg) fun r s' hq=>?_);obtain ⟨rfl,h2,h3,h4⟩:=hq;exact ⟨.inl ⟨.bool true,.bool true,[],rfl,fun _=>rfl,.bool true,post_true l _,fun _=>⟨List.Pairwise.nil,fun _ hm=>(nomatch hm)⟩⟩,h2,h3,h4⟩
end Att
namespace L2
open PySem PySem.Spec PyProof.Rows
variable {P:Program}{w:World}{a:Addr}{x qual:Str}{H H':Hp}{u:Value}{y:V}
theorem vals_ints:∀{vs:List Value} {ns:List Int},IntsAre vs ns->Vals (ns.map V.int) vs
 | _,_,.nil=>.nil
 | _,_,.cons n t h=>.cons ⟨t,rfl⟩ (vals_ints h)
def Only (H:Hp):Prop:=∀b,H b=none\/∃o xs,H b=some (.frz o (.lst xs))
theorem law_call {P:Program} {w:World} {K:PySem.W.Frag} {mg mb:Str->Option Value} {CX:CXT} {k:Nat} {fa a:Addr} {fd:FuncData} {sp:Sp} {s₁:Shared} {vs:List Value} {ns:List Int}
  (KX:K.In s₁.heap) (hns:s₁.heap.Ns mainGlobals mg) (hb:s₁.heap.Ns builtinsNs mb) (hbb:∀x:Str,x≠ "__name__" ->mb x=bootBuiltins x) (hlim:s₁.heap.NoLimit) (hg:s₁.gens=#[])
  (ha:s₁.heap.get? a=some {cls:=.type "list",data:=.seq vs.toArray}) (hi:IntsAre vs ns) (hl:ns.length<=sizeLine) (hr:Room k callerA)
  (F:∀base:Heap,K.In base->base.Ns mainGlobals mg->FnOk P w K mg base CX k fa fd [x] sp) (hbind:∀(s:Shared) (u:Value),BindsTo s fd ⟨[u],[]⟩ [(x,u)])
  (hsp:∀H:Hp,Only H->SqL K H a (ns.map V.int)->sp [.ref a] H (fun v _=>v= .bl true) fun _ _ _=>False)
  (hCX:∀H e s',CX [] H s₁ (fun _ _ _=>False) e s'->False) :
  codeAny (model P w) callerA (.call (.ref fa) ⟨[.ref a],[]⟩) (fun r s'=>r= .ok (.ret (.bool true))/\OldK s₁.heap s'.heap/\s'.os=s₁.os/\AllBare s'.gens) s₁:=by
 have rv:=vals_ints hi;have lenV:=hi.length
 have core:∀H:Hp,Only H->SqL K H a (ns.map V.int)->HOk P w H s₁.heap->(∀b,H b≠none->b=a)->(H a≠none->K.lookup a=none) ->
   codeAny (model P w) callerA (.call (.ref fa) ⟨[.ref a],[]⟩) (fun r s'=>r= .ok (.ret (.bool true))/\OldK s₁.heap s'.heap/\s'.os=s₁.os/\AllBare s'.gens) s₁:=by
  intro H hO hS hok hA hK;have base_of:∀{b:Addr} {o:Obj},s₁.heap.get? b=some o->H b=none->(hidT s₁.heap H).get? b=some o:=fun e n=>hidT_get e n
  have noA:∀{b:Addr} {o:Obj} {es:Array DictEntry} {ep:Nat},s₁.heap.get? b=some o->o.data= .dict es ep->H b=none:=fun {b o es ep} e d=>by
   cases q:H b with
   | none=>rfl
   | some u =>
    have e':b=a:=hA b (by rw [q];simp);subst e';rw [ha] at e;cases e;have d':Data.seq vs.toArray _=Data.dict es ep:=d
    cases d'
  have nsK:∀{b:Addr} {m:Str->Option Value},s₁.heap.Ns b m->(hidT s₁.heap H).Ns b m:=fun {b m} ⟨o,es,ep,e,d,r⟩=>⟨o,es,ep,base_of e (noA e d),d,r⟩
  have hKb:K.In (hidT s₁.heap H):=fun b o e=>base_of (KX b o e) (by
   cases q:H b with
   | none=>rfl
   | some u =>
    have e':b=a:=hA b (by rw [q];simp);subst e';rw [hK (by rw [q];simp)] at e;cases e)
  have hM:Mod K mg (hidT s₁.heap H):=⟨hKb,nsK hns,⟨mb,nsK hb,hbb⟩,let ⟨mc,h1,h2⟩:=hlim;⟨mc,nsK h1,h2⟩⟩;have e0:Env0 P w K mg (hidT s₁.heap H) callerA [] s₁ H:=⟨rfl,hM,fun b o e=>of_hidT e,qBr (hidT_size _ _),trivial,fun b hb=>absurd (show b∈([]:List Addr) from hb) (by simp),hok,.of_eq hg⟩;refine qBd ((F _ hKb (nsK hns)).run callerA [] s₁ H ⟨[.ref a],[]⟩ [.ref a] [.ref a] _ _ hr e0 (hbind s₁ (.ref a)) (.cons rfl .nil) (hsp H hO hS)) fun r s' h=>?_
  cases r with
  | error e=>exact (hCX H e s' h).elim
  | ok fl =>
   cases fl with
   | next=>exact False.elim h
   | brk=>exact False.elim h
   | cont=>exact False.elim h
   | ret u =>
    obtain ⟨v,H',os,bare,un,hok',r',q⟩:=h;have q':v= .bl true:=q;subst q';obtain rfl:u=Value.bool true:=r';refine ⟨rfl,OldK.of_keep fun b o e=>?_,os,bare⟩
    cases q:H b with
    | none=>exact un.keep b o e q (by intro z;exact absurd (show b∈([]:List Addr) from z) (by simp)) (by simp)
    | some u =>
     rcases hO b with z| ⟨ob,xs,z⟩
     ·rw [q] at z;cases z
     ·have z2:=un.frzs b ob _ z;obtain ⟨e1,_⟩:=hok b _ z;obtain ⟨e2,_⟩:=hok' b _ z2;rw [e] at e1;cases e1;exact e2
 cases hk:K.lookup a with
 | some o =>
  have e:=KX a o hk;rw [ha] at e
  cases e
  refine core (fun _=>none) (fun _=>.inl rfl) (.inr ⟨_,vs.toArray,_,hk,rfl,rfl,rfl,by rw [qAP,lenV];exact hl,by simpa using rv⟩) (fun b u z=>by have z':(none:Option HO)=some u:=z;cases z') (fun b z=>absurd rfl z) fun z=>absurd rfl z
 | none =>
  refine core (fun b=>if b=a then some (.frz {cls:=.type "list",data:=.seq vs.toArray} (.lst (ns.map V.int))) else none) (fun b=>?_) (.inl (.inr ⟨{cls:=.type "list",data:=.seq vs.toArray},qAC rfl⟩)) (fun b u z=>?_) (fun b z=>?_) fun _=>hk
  ·by_cases hb:b=a
   ·exact .inr ⟨_,_,qAC hb⟩
   ·exact .inl (qAB hb)
  ·by_cases hb:b=a
   ·have z':=(qAC hb).symm.trans z
    cases z'
    subst hb;exact ⟨ha,by rw [qAD];exact hl,vs,_,rv,ha⟩
   ·have z':=(qAB hb).symm.trans z
    cases z'
  ·by_cases hb:b=a
   ·exact hb
   ·exact absurd (qAB hb) z
theorem walk_of {l:PySem.W.OpenLaw} {n k:Nat} {q:Program} {loose:List Str} {XP:(Str->Option Value)->Heap->Prop} {YP:World->Heap->Prop} {d:DefRec} {K:Params->PySem.W.Frag} {CX:World->CXT} {sp:World->Sp} {x:Str}
  (hn:l.most=some n) (hn2:n<=sizeLine) (hdf:d.params.defaults=[]) (hr:Room k callerA)
  (hY:∀(w:World) (h:Heap),YP w h->(K w.params).In h)
  (F:∀(w:World) (mg:Str->Option Value) (fa:Addr) (h:Heap),(K w.params).In h->h.Ns mainGlobals mg->mg d.name=some (.ref fa) ->
   ∃fd:FuncData,(∀(s:Shared) (u:Value),BindsTo s fd ⟨[u],[]⟩ [(x,u)]) /\
    ∀base:Heap,(K w.params).In base->base.Ns mainGlobals mg->FnOk l.prog w (K w.params) mg base (CX w) k fa fd [x] (sp w))
  (hsp:∀(w:World) (H:Hp) (a:Addr) (ns:List Int),ns.length<=n->Only H->SqL (K w.params) H a (ns.map V.int)->sp w [.ref a] H (fun v _=>v= .bl true) fun _ _ _=>False)
  (hCX:∀(w:World) (H:Hp) (s:Shared) (e:Value) (s':Shared),CX w [] H s (fun _ _ _=>False) e s'->False) :
  PySem.W.WalkO q loose XP YP l.row.toRowW d [] (fun f vs=>PySem.call f vs):=by
 refine Att.attach_call hn hdf fun w s₀ s₁ mg mb fa o pm cd doc a vs ns G Y ho hd hcd hmg hobj hints hlen hg=>?_;have KX:=hY w _ Y;obtain ⟨fd,hb,hF⟩:=F w mg fa _ KX G.T.g hmg;exact law_call KX G.T.g G.T.b G.T.builtins G.T.nolimit hg hobj hints (qAc hlen hn2) hr hF hb (fun H hO hS=>hsp w H a ns hlen hO hS) fun H e s'=>hCX w H s₁ e s'
def zHg (s:Stmt) (j:Nat):Stmt:=match s with
 | .ClassDef _ _ _ body _ _ _ _ _ _ _=>body.getD j (.Pass ⟨0,0,0,0⟩)
 | _=>.Pass ⟨0,0,0,0⟩
def zB5 (s:Stmt):Arguments:=match s with
 | .FunctionDef _ a _ _ _ _ _ _ _ _=>a
 | _=>{posonlyargs:=[],args:=[],vararg:=none,kwonlyargs:=[],kw_defaults:=[],kwarg:=none,defaults:=[]}
def zBs (s:Stmt):List Stmt:=match s with
 | .FunctionDef _ _ b _ _ _ _ _ _ _=>b
 | _=>[]
def zAe (s:Stmt):Scope:=match s with
 | .FunctionDef _ _ _ _ _ _ sc _ _ _=>sc
 | _=>{kind:=.function,names:=[],isGenerator:=false,isCoroutine:=false}
abbrev CX0:CXT:=fun _ _ _ _ _ _=>False
abbrev E0:XK:=fun _ _ _=>False
theorem pass0 {X:Cx}:zHo CX0 X E0:=fun _ _ _ _ _ _ _ h=>h.elim
structure Fun (K:PySem.W.Frag) (x qual:Str) (st:Stmt) (f:Addr) (fd:FuncData):Prop where
 ex:∃(oc:Value) (od:Option Addr) (kV doc pm:Value) (an:Option Addr) (cdv ct:Value) (osl:Array (Option Value)),
  fd=PySem.W.fnOf x qual (zB5 st) (zBs st) (zAe st) .none kV doc pm an cdv ct/\K.lookup f=some ⟨oc,od,.func fd,osl⟩/\PySem.W.codeIn K cdv qual=true
 kp:PySem.W.keepIn K (.ref f)=true
section
variable {P:Program} {w:World} {K:PySem.W.Frag} {mg:Str->Option Value} {base:Heap}
theorem Fun.ok {st:Stmt} {f:Addr} {fd:FuncData} {N ps:List Str} {k:Nat} {sp:Sp} (F:Fun K x qual st f fd) (S:FnScope N ps (zAe st)) (len:∀vs H Q E,sp vs H Q E->vs.length=ps.length)
  (hbody:∀(cdv:Value) (A:Around) (outer:List Env) (s:Shared) (H:Hp) (vs:List V) (Q:VK) (E:XK),Room k (A.deeper (envOfC qual (zAe st) s.heap.objs.size f cdv))->sp vs H Q E ->
   ∃t,PSs (cxOf CX0 P w K mg base N qual (zAe st) f cdv A outer s H E).nox (zBs st) t/\t {nx:=fun _ H'=>Q .non H',rt:=Q} (start N vs) H):FnOk P w K mg base CX0 (k+1) f fd ps sp:=by
 obtain ⟨oc,od,kV,doc,pm,an,cdv,ct,osl,rfl,lk,hcd⟩:=F.ex;refine fn_of lk hcd S len fun A outer s H vs Q E hr hsp=>?_;obtain ⟨t,h,q⟩:=hbody cdv A outer s H vs Q E hr hsp;exact ⟨t,h.nox,q⟩
theorem Fun.binds {st:Stmt} {f:Addr} {fd:FuncData} {ps:List Str} (F:Fun K x qual st f fd)
  (h:∀(kV doc pm:Value) (an:Option Addr) (cdv ct:Value) (us:List Value),us.length=ps.length->bindArgs (PySem.W.fnOf x qual (zB5 st) (zBs st) (zAe st) .none kV doc pm an cdv ct) ⟨us,[]⟩=pure (ps.zip us)):zC9 K fd ps []:=by
 obtain ⟨oc,od,kV,doc,pm,an,cdv,ct,osl,rfl,lk,hcd⟩:=F.ex;exact .all (h kV doc pm an cdv ct)
theorem fun_mk {st:Stmt} {f:Addr} {oc:Value} {od an:Option Addr} {osl:Array (Option Value)} {kV doc pm cdv ct:Value} (l:K.lookup f=some ⟨oc,od,.func (PySem.W.fnOf x qual (zB5 st) (zBs st) (zAe st) .none kV doc pm an cdv ct),osl⟩)
  (c:PySem.W.codeIn K cdv qual=true) (k:PySem.W.keepIn K (.ref f)=true):Fun K x qual st f (PySem.W.fnOf x qual (zB5 st) (zBs st) (zAe st) .none kV doc pm an cdv ct):=⟨⟨oc,od,kV,doc,pm,an,cdv,ct,osl,rfl,l,c⟩,k⟩
end
theorem zFj {A:Around} {k:Nat} (hr:Room k A):A.units+1<cLine:=qCt (Nat.add_le_add_left (by decide:1<=64) _) hr.units
section
variable {X:Cx}
theorem pv (i:Nat) {pos:Pos} (hN:X.N[i]?=some x:=by rfl) (hv:Vis X.env.scope x:=by first| exact Or.inl rfl| exact Or.inr (Or.inl rfl)| exact Or.inr (Or.inr rfl)) (hd:(x==("__debug__" : Str))=false:=by decide)
  (hcd:(x==("__classdict__" : Str))=false:=by decide):PE X (.Name x pos) (tVar i):=pe_var hN hv hd hcd
end
theorem iteF {A B:Prop} (h:B):if false=true then A else B:=by
 rw [qAB qAk];exact h
theorem iteT {A B:Prop} (h:A):if true=true then A else B:=by
 rw [qAC rfl];exact h
theorem ite2 {c A B:Prop} [Decidable c] (h1:c->A) (h2:¬c->B):if c then A else B:=by
 by_cases h:c
 ·rw [qAC h];exact h1 h
 ·rw [qAB h];exact h2 h
def Same (H H':Hp):Prop:=∀b o,H b=some o->H' b=some o
theorem Same.seq {K:PySem.W.Frag} {xs:List V} (e:Same H H') (h:SqL K H a xs):SqL K H' a xs:=by
 rcases h with (h| ⟨o,h⟩)| h
 ·exact .inl (.inl (e _ _ h))
 ·exact .inl (.inr ⟨o,e _ _ h⟩)
 ·exact .inr h
section
variable {κ:Type} [DecidableEq κ]
def valV (kvs:List (κ×V)) (k:κ):Option V:=(kvs.find? fun kv=>decide (kv.1=k)).map (·.2)
def putK (kvs:List (κ×V)) (k:κ) (v:V):List (κ×V) :=
 if (kvs.any fun kv=>decide (kv.1=k))=true then kvs.map (fun kv=>if kv.1=k then (kv.1,v) else kv) else kvs++[(k,v)]
theorem zGa {p:κ×V} {r:List (κ×V)} {k:κ} (e:p.1=k):valV (p::r) k=some p.2:=by simp [valV,qBi,e]
theorem zGb {p:κ×V} {r:List (κ×V)} {k:κ} (e:¬p.1=k):valV (p::r) k=valV r k:=by simp [valV,qBi,e]
theorem zGc (k:κ):∀kvs:List (κ×V),(kvs.any fun kv=>decide (kv.1=k))=(valV kvs k).isSome
 | []=>rfl
 | p::r=>by
  rw [qCC]
  by_cases e:p.1=k
  ·simp only [zGa e,qAR e,Bool.true_or,Option.isSome_some]
  ·rw [zGb e,qAW e,Bool.false_or];exact zGc k r
theorem zE2 (kvs:List (κ×V)) (k:κ) (v:V):(putK kvs k v).length<=kvs.length+1:=by
 unfold putK;split
 ·rw [qAD];lia
 ·rw [qAj,qAe,qBV];lia
theorem putK_new {kvs:List (κ×V)} {k:κ} (v:V) (h:valV kvs k=none):putK kvs k v=kvs++[(k,v)]:=by
 unfold putK;rw [zGc,h];exact qAB (by decide)
theorem RelO.isSome_eq {o:Option V} {u:Option Value} (r:RelO o u):o.isSome=u.isSome:=by
 cases o with
 | none=>cases u with
  | none=>rfl
  | some _=>exact (show False from r).elim
 | some _=>cases u with
  | none=>exact (show False from r).elim
  | some _=>rfl
theorem KV.val {kvs:List (κ×V)} {vs:List (κ×Value)} (r:KV kvs vs) (k:κ):RelO (valV kvs k) (valueAt vs k):=by
 unfold KV at r
 induction r with
 | nil=>exact True.intro
 | @cons p q ps qs h t ih =>
  obtain ⟨h1,h2⟩:=h
  by_cases e:p.1=k
  ·have e':q.1=k:=h1.symm.trans e;have b:valueAt (q::qs) k=some q.2:=by simp [valueAt,qBi,e']
   rw [zGa e,b];exact h2
  ·have e':¬q.1=k:=fun z=>e (h1.trans z);have b:valueAt (q::qs) k=valueAt qs k:=by simp [valueAt,qBi,e']
   rw [zGb e,b];exact ih
theorem KV.any {kvs:List (κ×V)} {vs:List (κ×Value)} (r:KV kvs vs) (k:κ):(kvs.any fun kv=>decide (kv.1=k))=vs.any fun kv=>decide (kv.1=k):=by
 unfold KV at r
 induction r with
 | nil=>rfl
 | cons h t ih=>rw [qCC,qCC,ih,h.1]
theorem KV.repl {kvs:List (κ×V)} {vs:List (κ×Value)} (r:KV kvs vs) (k:κ) (ry:RelV y u) :
  KV (kvs.map fun kv=>if kv.1=k then (kv.1,y) else kv) (vs.map fun kv=>if kv.1=k then (kv.1,u) else kv):=by
 unfold KV at r ⊢
 induction r with
 | nil=>exact .nil
 | @cons p q ps qs h t ih =>
  rw [qAi,qAi];refine .cons ?_ ih;obtain ⟨h1,h2⟩:=h
  by_cases e:p.1=k
  ·rw [qAC e,qAC (h1.symm.trans e)];exact ⟨h1,ry⟩
  ·rw [qAB e,qAB (fun z=>e (h1.trans z))];exact ⟨h1,h2⟩
theorem KV.put {kvs:List (κ×V)} {vs:List (κ×Value)} (r:KV kvs vs) (k:κ) (ry:RelV y u):KV (putK kvs k y) (stored vs k u):=by
 unfold putK stored;rw [r.any k]
 by_cases e:(vs.any fun kv=>decide (kv.1=k))=true
 ·rw [qAC e,qAC e];exact r.repl k ry
 ·rw [qAB e,qAB e];exact Paired.snoc r ⟨rfl,ry⟩
theorem KV.length {kvs:List (κ×V)} {vs:List (κ×Value)} (r:KV kvs vs):kvs.length=vs.length:=qB5 r
end
theorem kV_is {k:Key} (r:RelV (kV k) u):(zBd P w).is k u=true:=by
 cases k with
 | inl i=>obtain ⟨t,e⟩:=(show∃t,u=Value.int i t from r);subst e;exact mixKind_int P w i t
 | inr x=>obtain ⟨t,e⟩:=(show∃t,u=Value.str x t from r);subst e;exact mixKind_str P w x t
theorem items_are :∀{ks:List Key} {us:List Value},Vals (ks.map kV) us->ItemsAre (zBd P w) ks us
 | [],_,r=>by rw [List.map_nil] at r;cases r;exact .nil
 | k::ks,_,r=>by
  rw [qAi] at r
  cases r with
  | cons h t=>exact .cons (kV_is h) (items_are t)
abbrev KT (H:Hp):List (List Key×V)->List (List Key×Addr×Value)->Prop:=Paired fun p q=>p.1=q.1/\H q.2.1=some (.tup (p.1.map kV))/\RelV p.2 q.2.2
theorem KT.val {kvs:List (List Key×V)} {xs:List (List Key×Addr×Value)} (r:KT H kvs xs) (k:List Key):RelO (valV kvs k) ((atKey xs k).map (·.2)):=by
 induction r with
 | nil=>exact True.intro
 | @cons p q ps qs h t ih =>
  obtain ⟨h1,_,h2⟩:=h
  by_cases e:p.1=k
  ·have e':q.1=k:=h1.symm.trans e;have b:atKey (q::qs) k=some q.2:=by simp [atKey,qBi,e']
   rw [zGa e,b];exact h2
  ·have e':¬q.1=k:=fun z=>e (h1.trans z);have b:atKey (q::qs) k=atKey qs k:=by simp [atKey,qBi,e']
   rw [zGb e,b];exact ih
theorem KT.repl {kvs:List (List Key×V)} {xs:List (List Key×Addr×Value)} (r:KT H kvs xs) (k:List Key) (ry:RelV y u) :
  KT H (kvs.map fun kv=>if kv.1=k then (kv.1,y) else kv) (xs.map (putAt k u)):=by
 induction r with
 | nil=>exact .nil
 | @cons p q ps qs h t ih =>
  rw [qAi,qAi];refine .cons ?_ ih;obtain ⟨h1,h2,h3⟩:=h;unfold putAt
  by_cases e:p.1=k
  ·rw [qAC e,qAC (h1.symm.trans e)];exact ⟨h1,h2,ry⟩
  ·rw [qAB e,qAB (fun z=>e (h1.trans z))];exact ⟨h1,h2,h3⟩
theorem KT.put {kvs:List (List Key×V)} {xs:List (List Key×Addr×Value)} (r:KT H kvs xs) (k:List Key) {b:Addr} (hb:H b=some (.tup (k.map kV))) (ry:RelV y u) :
  KT H (putK kvs k y) (storedH xs k b u):=by
 have e:(kvs.any fun kv=>decide (kv.1=k))=(atKey xs k).isSome:=by
  rw [zGc,(r.val k).isSome_eq,Option.isSome_map]
 unfold putK storedH;rw [e]
 by_cases q:(atKey xs k).isSome=true
 ·rw [qAC q,qAC q];exact r.repl k ry
 ·rw [qAB q,qAB q];exact Paired.snoc r ⟨rfl,hb,ry⟩
theorem KT.keeps {kvs:List (List Key×V)} {xs:List (List Key×Addr×Value)} (r:KT H kvs xs) (ht:∀b ys,H b=some (.tup ys)->H' b=some (.tup ys)):KT H' kvs xs :=
 Paired.mapP r fun _ _ z=>⟨z.1,ht _ _ z.2.1,z.2.2⟩
section
variable {P:Program} {w:World} {H:Hp} {h:Heap} {a:Addr}
theorem rd_of {u:HO} (ok:HOk P w H h) (e:Rd H a u):zBb P w H h a u:=e.ok ok
theorem dk_rd {kvs:List (Key×V)} (ok:HOk P w H h) (e:Rd H a (.dK kvs)):kvs.length<=sizeLine/\(a==sysModules)=false/\∃vs,KV kvs vs/\h.DictOf (zBd P w) a vs :=
 show zBb P w H h a (.dK kvs) from rd_of ok e
theorem dk_of {kvs:List (Key×V)} (ok:HOk P w H h) (e:H a=some (.dK kvs)):kvs.length<=sizeLine/\(a==sysModules)=false/\∃vs,KV kvs vs/\h.DictOf (zBd P w) a vs:=dk_rd ok (.inl e)
theorem key_of {ks:List Key} (ok:HOk P w H h) (e:H a=some (.tup (ks.map kV))):(tupleKind (zBd P w)).is h ks a:=by
 obtain ⟨_,its,r,o,h1,h2,n,h3⟩:=(show zBb P w H h a (.tup (ks.map kV)) from ok a _ e);exact ⟨o,its.toArray,n,h1,h2,h3,by simpa using items_are r⟩
theorem dt_rd {kvs:List (List Key×V)} (ok:HOk P w H h) (e:Rd H a (.dT kvs)):kvs.length<=sizeLine/\(a==sysModules)=false /\
  ∃xs,KT H kvs xs/\h.DictOfH (tupleKind (zBd P w)) a xs:=by
 obtain ⟨z,y,xs,r,o,es,ep,h1,h2,h3,h4,h5⟩:=(show zBb P w H h a (.dT kvs) from rd_of ok e);refine ⟨z,y,xs,r,o,es,ep,h1,h2,h3,h4,fun x hx=>?_,h5⟩
 have all:∀{l:List (List Key×V)} {m:List (List Key×Addr×Value)},KT H l m->∀x∈m,(tupleKind (zBd P w)).is h x.1 x.2.1:=by
  intro l m q
  induction q with
  | nil=>intro x hx;exact nomatch hx
  | @cons p q ps qs hq t ih =>
   intro x hx;rcases qAS.mp hx with e| hx
   ·subst e;exact key_of ok (by rw [<-hq.1];exact hq.2.1)
   ·exact ih x hx
 exact all r x hx
theorem dt_of {kvs:List (List Key×V)} (ok:HOk P w H h) (e:H a=some (.dT kvs)):kvs.length<=sizeLine/\(a==sysModules)=false /\
  ∃xs,KT H kvs xs/\h.DictOfH (tupleKind (zBd P w)) a xs:=dt_rd ok (.inl e)
end
def DGet (H:Hp) (a:Addr) (y:V) (r:Option V):Prop :=
 (∃kvs k,Rd H a (.dK kvs)/\y=kV k/\r=valV kvs k)\/∃kvs k b,Rd H a (.dT kvs)/\y= .ref b/\H b=some (.tup (k.map kV))/\r=valV kvs k
def DPut (H:Hp) (a:Addr) (y v:V) (H':Hp):Prop :=
 (∃kvs k,H a=some (.dK kvs)/\y=kV k/\kvs.length<sizeLine/\H'=upd H a (.dK (putK kvs k v))) \/
 ∃kvs k b,H a=some (.dT kvs)/\y= .ref b/\H b=some (.tup (k.map kV))/\kvs.length<sizeLine/\H'=upd H a (.dT (putK kvs k v))
theorem DGet.k {kvs:List (Key×V)} {k:Key} (e:H a=some (.dK kvs)):DGet H a (kV k) (valV kvs k):=.inl ⟨kvs,k,.inl e,rfl,rfl⟩
theorem DPut.k {kvs:List (Key×V)} {k:Key} {v:V} (e:H a=some (.dK kvs)) (hl:kvs.length<sizeLine):DPut H a (kV k) v (upd H a (.dK (putK kvs k v))):=.inl ⟨kvs,k,e,rfl,hl,rfl⟩
section
variable {X:Cx} {pins:List (Addr×Obj)} {σ:St} {H:Hp} {s:Shared} {a:Addr} {y v:V} {u r:Value} {o:Option V} {A:Around} {E:Value->Shared->Prop}
theorem Inv.big (I:Inv X pins σ H s):sysModules<s.heap.objs.size:=by
 have h:mainGlobals<s.heap.objs.size:=(I.mod.glob.keeps I.bk).lt;exact Nat.lt_trans (by decide) h
theorem d_getItem {Q:Value->Shared->Prop} (hu:A.units+1<cLine) (I:Inv X pins σ H s) (g:DGet H a y (some v)) (ry:RelV y u) (h:∀w' s',Inv X pins σ H s'->RelV v w'->Q w' s') :
  wpAny (model X.prog X.w) A (getItem (.ref a) u) Q E s:=by
 rcases g with ⟨kvs,k,e,ey,l⟩| ⟨kvs,k,b,e,ey,eb,l⟩
 ·subst ey;obtain ⟨z,hd,vs,rel,dd⟩:=dk_rd I.hok e;obtain ⟨w',hw,rw'⟩:=RelO.some_of (v:=v) (o:=valueAt vs k) (by rw [l];exact rel.val k);exact wpAny_getItem_of (kV_is ry) dd.mapOf hw (h w' _ (I.tok _) rw')
 ·subst ey
  cases (show u=Value.ref b from ry)
  obtain ⟨z,hd,xs,rel,dd⟩:=dt_rd I.hok e;obtain ⟨w',hw,rw'⟩:=RelO.some_of (v:=v) (o:=(atKey xs k).map (·.2)) (by rw [l];exact rel.val k);obtain ⟨p,hp,hp2⟩:=qBW.mp hw;refine wpAny_getItem_heap (qCu hu) (key_of I.hok eb) dd hp ?_;rw [hp2];exact h w' _ (I.tok _) rw'
theorem d_in {Q:Value->Shared->Prop} (hu:A.units+1<cLine) (I:Inv X pins σ H s) (g:DGet H a y o) (ry:RelV y u) (h:∀s',Inv X pins σ H s'->Q (.bool o.isSome) s') :
  wpAny (model X.prog X.w) A (compareOp .In u (.ref a)) Q E s:=by
 rcases g with ⟨kvs,k,e,ey,l⟩| ⟨kvs,k,b,e,ey,eb,l⟩
 ·subst ey;obtain ⟨z,hd,vs,rel,dd⟩:=dk_rd I.hok e;refine wpAny_in_of (kV_is ry) hd dd.mapOf ?_;rw [<-(rel.val k).isSome_eq,<-l];exact h _ (I.tok _)
 ·subst ey
  cases (show u=Value.ref b from ry)
  obtain ⟨z,hd,xs,rel,dd⟩:=dt_rd I.hok e;refine wpAny_in_heap (qCu hu) (key_of I.hok eb) hd dd ?_;have q:=(rel.val k).isSome_eq;rw [Option.isSome_map] at q;rw [<-q,<-l];exact h _ (I.tok _)
theorem d_notIn {Q:Value->Shared->Prop} (hu:A.units+1<cLine) (I:Inv X pins σ H s) (g:DGet H a y o) (ry:RelV y u) (h:∀s',Inv X pins σ H s'->Q (.bool (!o.isSome)) s') :
  wpAny (model X.prog X.w) A (compareOp .NotIn u (.ref a)) Q E s:=by
 rcases g with ⟨kvs,k,e,ey,l⟩| ⟨kvs,k,b,e,ey,eb,l⟩
 ·subst ey;obtain ⟨z,hd,vs,rel,dd⟩:=dk_rd I.hok e;refine wpAny_notIn_of (kV_is ry) hd dd.mapOf ?_;rw [<-(rel.val k).isSome_eq,<-l];exact h _ (I.tok _)
 ·subst ey
  cases (show u=Value.ref b from ry)
  obtain ⟨z,hd,xs,rel,dd⟩:=dt_rd I.hok e;refine wpAny_notIn_heap (qCu hu) (key_of I.hok eb) hd dd ?_;have q:=(rel.val k).isSome_eq;rw [Option.isSome_map] at q;rw [<-q,<-l];exact h _ (I.tok _)
theorem d_write {h':Heap} {t':Nat} {ob:HO} (I:Inv X pins σ H s) (mu:Mut (H a)) (hs:Heap.SameBut a s.heap h') (he:∃q,h'.get? a=some q) (new:zBb X.prog X.w (upd H a ob) h' a ob) :
  Inv X pins σ (upd H a ob) {s with heap:=h',toks:=t'} :=
 I.write (x:=a) (e:=a) mu (.inl rfl) (fun b q hb z=>(hs.2 b hb).trans z) he new
theorem dk_new {h':Heap} {kvs:List (Key×V)} {vs:List (Key×Value)} (z:kvs.length<=sizeLine) (hd:(a==sysModules)=false) (rel:KV kvs vs) (dd:h'.DictOf (zBd P w) a vs) :
  zBb P w H' h' a (.dK kvs):=⟨z,hd,vs,rel,dd⟩
theorem d_setItem {Q:Unit->Shared->Prop} (hu:A.units+1<cLine) (I:Inv X pins σ H s) (g:DPut H a y v H') (ry:RelV y u) (rv:RelV v r) (h:∀s',Inv X pins σ H' s'->Q () s') :
  wpAny (model X.prog X.w) A (setItem (.ref a) u r) Q E s:=by
 rcases g with ⟨kvs,k,e,ey,l,eH⟩| ⟨kvs,k,b,e,ey,eb,l,eH⟩
 ·subst ey eH;obtain ⟨z,hd,vs,rel,dd⟩:=dk_of I.hok e;have hz:vs.length<=sizeLine:=by rw [<-rel.length];exact z
  have hl:(putK kvs k v).length<=sizeLine:=by have:=zE2 kvs k v;lia
  refine wpAny_setItem_pairs (hsz:=hz) (kV_is ry) dd fun h' dd' hs=>h _ ?_;have he:∃q,h'.get? a=some q:=let ⟨q,_,_,hq,_⟩:=dd';⟨q,hq⟩;exact d_write I (by rw [e];exact True.intro) hs he (dk_new hl hd (rel.put k rv) dd')
 ·subst ey eH
  cases (show u=Value.ref b from ry)
  obtain ⟨z,hd,xs,rel,dd⟩:=dt_of I.hok e;have hz:xs.length<=sizeLine:=by rw [<-qB5 rel];exact z
  have hl:(putK kvs k v).length<=sizeLine:=by have:=zE2 kvs k v;lia
  refine wpAny_setItem_heap (hsz:=hz) (qCu hu) (key_of I.hok eb) dd fun h' dd' hs=>h _ ?_;obtain ⟨q,es,ep,hq,h2,h3,h4,_,h5⟩:=dd';refine d_write I (by rw [e];exact True.intro) hs ⟨q,hq⟩ ⟨hl,hd,_,(rel.put k eb rv).keeps fun c ys ec=>?_,q,es,ep,hq,h2,h3,h4,h5⟩;rw [upd_ne (zBw ec e (fun z=>nomatch z))];exact ec
end
def NoSl (i:Expr):Prop:=∀ov iv,subscripted i false ov iv=operate [ov,iv] (getItem ov iv)
theorem subD_of {prog:Program} {A:Around} {E:Value->Shared->Prop} {s:Shared} {env:Env} {value slice:Expr} {pos:Pos} {T id:String} {Q:Value->Shared->Prop}
  (hl:typeLookup (.type T) "__getitem__" = pure (some (.builtin id))) (hs:NoSl slice)
  (h:wpAny (model prog w) A (eval value env) (fun o s₁=>wpAny (model prog w) A (eval slice env) (fun i s₂=>s₂.TypeIs o T/\wpAny (model prog w) A (getItem o i) Q E s₂) E s₁) E s) :
  wpAny (model prog w) A (eval (.Subscript value slice pos) env) Q E s:=by
 refine Subscript_ (qAx h (fun o s₁ h₁=>qAx h₁ (fun i s₂ h₂=>?_) fun _ _ x=>x) fun _ _ x=>x);obtain ⟨hT,h₂⟩:=h₂;unfold subscriptTail;refine qAA ?_;rw [getitemInPython_of_ne hT.not_modules];refine qAA (qCD hT hl ?_)
 have fin:wpAny (model prog w) A (subscripted slice false o i) (fun r s₃=>wpAny (model prog w) A (letTemporaryGo value o r >>= fun _=>pure r) Q E s₃) E s₂:=by
  rw [hs o i];exact wpAny_operating (qAx h₂ (fun r s₃ h₃=>qAA (wpAny_letTemporaryGo (qAE h₃))) fun _ _ x=>x)
 first
  | exact qAE (qAA fin)
  | exact qAA (qAE (qAA fin))
  | exact qAA fin
theorem dict_typeIs {X:Cx} {pins:List (Addr×Obj)} {σ:St} {s:Shared} {o:Option V} (I:Inv X pins σ H s) (g:DGet H a y o):s.TypeIs (.ref a) "dict" := by
 rcases g with ⟨kvs,k,e,_,_⟩| ⟨kvs,k,b,e,_,_,_⟩
 ·obtain ⟨_,_,vs,_,dd⟩:=dk_rd I.hok e;exact dd.typeIs
 ·obtain ⟨_,_,xs,_,dd⟩:=dt_rd I.hok e;exact dd.typeIs
def tDGet (td ty:TE):TE:=fun σ H Q=>td σ H fun x H1=>ty σ H1 fun y H2=>∃a v,x= .ref a/\DGet H2 a y (some v)/\Q v H2
def tDIn (ty td:TE):TE:=fun σ H Q=>ty σ H fun y H1=>td σ H1 fun x H2=>∃a o,x= .ref a/\DGet H2 a y o/\Q (.bl o.isSome) H2
def tDNotIn (ty td:TE):TE:=fun σ H Q=>ty σ H fun y H1=>td σ H1 fun x H2=>∃a o,x= .ref a/\DGet H2 a y o/\Q (.bl (!o.isSome)) H2
def sDPut (td ty tv:TE):TS:=fun D σ H=>tv σ H fun v H1=>td σ H1 fun x H2=>ty σ H2 fun y H3=>∃a H4,x= .ref a/\DPut H3 a y v H4/\D.nx σ H4
section
variable {X:Cx} {o i e value:Expr} {pos pos' tpos:Pos} {td ty tv:TE}
theorem zCq (hu:X.A.units+1<cLine) (ho:PE X o td) (hi:PE X i ty) (hs:NoSl i):PE X (.Subscript o i pos) (tDGet td ty):=by
 intro pins s σ H Q I h;refine subD_of PySem.F.slot_dict_getitem.lookup hs (thn (ho pins s σ H _ I h) fun u s1 ⟨x,H1,I1,rx,q1⟩=>thn (hi pins s1 σ H1 _ I1 q1) fun iv s2 ⟨y,H2,I2,ry,a,v,ex,g,q2⟩=>?_);subst ex;obtain rfl:u=Value.ref a:=rx;exact ⟨dict_typeIs I2 g,d_getItem hu I2 g ry fun w' s3 I3 rw'=>⟨v,H2,I3,rw',q2⟩⟩
theorem zG2 (hu:X.A.units+1<cLine) (hi:PE X i ty) (ho:PE X o td):PC X .In i o (tDIn ty td):=by
 intro pins s σ H Q I h;refine thn (hi pins s σ H _ I h) fun iv s1 ⟨y,H1,I1,ry,q1⟩=>thn (ho pins s1 σ H1 _ I1 q1) fun u s2 ⟨x,H2,I2,rx,a,ov,ex,g,q2⟩=>?_;subst ex;obtain rfl:u=Value.ref a:=rx;exact d_in hu I2 g ry fun s3 I3=>⟨.bl ov.isSome,H2,I3,rfl,q2⟩
theorem zG1 (hu:X.A.units+1<cLine) (hi:PE X i ty) (ho:PE X o td):PC X .NotIn i o (tDNotIn ty td):=by
 intro pins s σ H Q I h;refine thn (hi pins s σ H _ I h) fun iv s1 ⟨y,H1,I1,ry,q1⟩=>thn (ho pins s1 σ H1 _ I1 q1) fun u s2 ⟨x,H2,I2,rx,a,ov,ex,g,q2⟩=>?_;subst ex;obtain rfl:u=Value.ref a:=rx;exact d_notIn hu I2 g ry fun s3 I3=>⟨.bl (!ov.isSome),H2,I3,rfl,q2⟩
theorem zDq (hu:X.A.units+1<cLine) (ho:PE X o td) (hi:PE X i ty) (hv:PE X value tv) (hs:swapsWith value (some (.Subscript o i pos')) pos.line X.env=pure false) :
  PS X (.Assign [.Subscript o i pos'] value pos) (sDPut td ty tv):=by
 intro pins s σ H D I h;refine wpAny_Assign_Subscript (thn (hv pins s σ H _ I h) fun r s1 ⟨v,H1,I1,rv,q1⟩=>thn (ho pins s1 σ H1 _ I1 q1) fun u s2 ⟨x,H2,I2,rx,q2⟩=>thn (hi pins s2 σ H2 _ I2 q2) fun iv s3 ⟨y,H3,I3,ry,a,H4,ex,g,q3⟩=>?_) hs;subst ex;obtain rfl:u=Value.ref a:=rx;exact d_setItem hu I3 g ry rv fun s4 I4=>⟨σ,H4,I4,q3⟩
end
theorem dk_empty (h:Heap) (hb:sysModules<h.objs.size):zBb P w H (h.push {cls:=.type "dict",data:=.dict #[]}) h.objs.size (.dK []) :=
 ⟨qAg _,qAw.mpr (qAm (qAT hb)),[],.nil,Heap.DictOf.new h⟩
def tDNewK:TE:=fun _ H Q=>∀p,H p=none->Q (.ref p) (upd H p (.dK []))
section
variable {X:Cx} {pos:Pos}
theorem zCj:PE X (.Dict [] [] pos) tDNewK:=fun pins s σ H Q I h =>
 wpAny_Dict_empty ⟨.ref s.heap.objs.size,_,I.laid (a:=s.heap.objs.size) (o:=.dK []) (t':=s.toks) (fun _ _ q=>qAI _ q) (qAF _) (dk_empty s.heap I.big),rfl,h _ (I.hok.fresh (qAF _))⟩
end
section
variable {X:Cx} {pins:List (Addr×Obj)} {σ:St} {H:Hp} {s:Shared} {a:Addr} {kvs:List (Key×V)} {A:Around} {E:Value->Shared->Prop}
theorem d_copyOf {Q:Value->Shared->Prop} (I:Inv X pins σ H s) (e:Rd H a (.dK kvs)) (h:∀p s',H p=none->Inv X pins σ (upd H p (.dK kvs)) s'->Q (.ref p) s'):wpAny (model X.prog X.w) A (call (.type "dict") [.ref a]) Q E s:=by
 obtain ⟨z,hd,vs,rel,dd⟩:=dk_rd I.hok e;refine kt_call_dict hd dd (by rw [<-rel.length];exact z) fun h' dd' hs=>?_;refine h _ _ (I.hok.fresh (qAF _)) (I.laid (a:=s.heap.objs.size) (o:=.dK kvs) (t':=s.toks) (fun b q hq=>?_) (qAF _) (dk_new z (qAw.mpr (qAm (qAT I.big))) rel dd'));exact (hs.2 b (qAT (qAK hq))).trans (qAI _ hq)
end
end L2
set_option maxHeartbeats 4000000
namespace L2
open PySem PySem.Spec PyProof.Rows
variable {env:Env}{scope:Scope}{x:Str}{c:Addr}{X:Cx}{elt iter tg:Expr}{ifs:List Expr}{pos:Pos}{g:TG}{tt:TT}{te:TE}{wi:TI}
def clOf (env:Env):List (Str×NameKind)->List (Str×Addr)->List (Str×Addr)
 | [],cs=>cs
 | (n,k)::r,cs=>if (k==NameKind.free)=true then (match env.cells.lookup n with| some c=>clOf env r ((n,c)::cs)| none=>clOf env r cs) else clOf env r cs
theorem zEd {env:Env}:∀(l:List (Str×NameKind)) (cs:List (Str×Addr)),(∀x∈l,x.2= .free->∃c,env.cells.lookup x.1=some c) ->
  (forIn l cs (fun (x:Str×NameKind) (cs:List (Str×Addr))=>match x with
   | (name,kind)=>if (kind==NameKind.free)=true then (do let c<-cellOf env name;pure (ForInStep.yield ((name,c)::cs))) else pure (ForInStep.yield cs)):Sem (List (Str×Addr)))=pure (clOf env l cs)
 | [],_,_=>rfl
 | (n,k)::r,cs,h=>by
  rw [List.forIn_cons];have hr:∀x∈r,x.2= .free->∃c,env.cells.lookup x.1=some c:=fun x hx=>h x (qAU _ hx)
  by_cases hk:(k==NameKind.free)=true
  ·obtain ⟨c,hc⟩:=h (n,k) qAV (by simpa using hk)
   have e1:clOf env ((n,k)::r) cs=clOf env r ((n,c)::cs):=by
    show (if (k==NameKind.free)=true then _ else _)=_;rw [qAC hk];have hc:env.cells.lookup n=some c:=hc;rw [hc]
   have e2:cellOf env n=pure c:=by
    have hc:env.cells.lookup n=some c:=hc;unfold cellOf;rw [hc]
   rw [e1,<-zEd r ((n,c)::cs) hr];show (if (k==NameKind.free)=true then (do let c<-cellOf env n;pure (ForInStep.yield ((n,c)::cs))) else pure (ForInStep.yield cs)) >>= _=_;rw [qAC hk,e2,pure_bind,pure_bind]
  ·have e1:clOf env ((n,k)::r) cs=clOf env r cs:=by
    show (if (k==NameKind.free)=true then _ else _)=_;rw [qAB hk]
   rw [e1,<-zEd r cs hr];show (if (k==NameKind.free)=true then (do let c<-cellOf env n;pure (ForInStep.yield ((n,c)::cs))) else pure (ForInStep.yield cs)) >>= _=_;rw [qAB hk,pure_bind]
theorem zJi (h:∀x∈scope.names,x.2= .free->∃c,env.cells.lookup x.1=some c):closureFor scope env=pure (clOf env scope.names []):=by
 unfold closureFor;have e:=zEd (env:=env) scope.names [] h
 first
  | exact e
  | (refine Eq.trans ?_ e;rfl)
  | (rw [bind_pure];exact e)
  | simpa using e
theorem zEm :∀{l:List (Str×NameKind)} {cs:List (Str×Addr)},(∀y d,cs.lookup y=some d->env.cells.lookup y=some d)->(clOf env l cs).lookup x=some c->env.cells.lookup x=some c
 | [],cs,h,e=>h x c e
 | (n,k)::r,cs,h,e=>by
  unfold clOf at e
  by_cases hk:(k==NameKind.free)=true
  ·rw [qAC hk] at e
   cases q:env.cells.lookup n with
   | none=>rw [q] at e;exact zEm h e
   | some d =>
    rw [q] at e;refine zEm (fun y z hy=>?_) e;rw [qBF] at hy
    cases hyn:y==n with
    | true =>
     rw [hyn] at hy;have:y=n:=by simpa using hyn
     subst this;rw [q];exact hy
    | false=>rw [hyn] at hy;exact h y z hy
  ·rw [qAB hk] at e;exact zEm h e
theorem zEn (hx:env.cells.lookup x=some c):∀{l:List (Str×NameKind)} {cs:List (Str×Addr)},cs.lookup x=some c->(clOf env l cs).lookup x=some c
 | [],_,h=>h
 | (n,k)::r,cs,h=>by
  unfold clOf
  by_cases hk:(k==NameKind.free)=true
  ·rw [qAC hk]
   cases q:env.cells.lookup n with
   | none=>exact zEn hx h
   | some d =>
    refine zEn hx ?_;rw [qBF]
    cases hxn:x==n with
    | true =>
     have:x=n:=by simpa using hxn
     subst this;rw [<-q,hx]
    | false=>exact h
  ·rw [qAB hk];exact zEn hx h
theorem zFl (hx:env.cells.lookup x=some c):∀{l:List (Str×NameKind)} {cs:List (Str×Addr)},(x,NameKind.free)∈l->(clOf env l cs).lookup x=some c
 | [],_,h=>nomatch h
 | (n,k)::r,cs,h=>by
  unfold clOf;rcases qAS.mp h with e| h
  ·cases e
   rw [qAC (show (NameKind.free==NameKind.free)=true by decide),hx];exact zEn hx (by rw [qBF];simp)
  ·by_cases hk:(k==NameKind.free)=true
   ·rw [qAC hk]
    cases q:env.cells.lookup n with
    | none=>exact zFl hx h
    | some d=>exact zFl hx h
   ·rw [qAB hk];exact zFl hx h
theorem zDu :∀{l:List (Str×NameKind)} {n:Nat} {acc:List (Str×Addr)},(∀y∈l,y.2= .cell->y.1≠x)->(cellsFrom n l acc).lookup x=acc.lookup x
 | [],_,_,_=>rfl
 | (y,k)::r,n,acc,h=>by
  have hr:∀z∈r,z.2= .cell->z.1≠x:=fun z hz=>h z (qAU _ hz);unfold cellsFrom;split
  ·rename_i hk;rw [zDu hr,qBF]
   have:(x==y)=false:=by
    have:=h (y,k) qAV (by simpa using hk);exact qAw.mpr (fun z=>this z.symm)
   rw [this]
  ·exact zDu hr
theorem zCe :∀{l:List (Str×NameKind)} {n:Nat} {acc:List (Str×Addr)},(cellsFrom n l acc).lookup x=some c->acc.lookup x=some c\/(n<=c/\(x,NameKind.cell)∈l)
 | [],_,_,h=>.inl h
 | (y,k)::r,n,acc,h=>by
  unfold cellsFrom at h;split at h
  ·rename_i hk;have hk':k= .cell:=by simpa using hk
   rcases zCe h with z| ⟨z1,z2⟩
   ·rw [qBF] at z
    cases hx:x==y with
    | true =>
     rw [hx] at z;have e:n=c:=qAd z;have e2:x=y:=by simpa using hx
     subst e2;subst hk';exact .inr ⟨qBr e,qAV⟩
    | false=>rw [hx] at z;exact .inl z
   ·exact .inr ⟨qAc (qBL _) z1,qAU _ z2⟩
  ·rcases zCe h with z| ⟨z1,z2⟩
   ·exact .inl z
   ·exact .inr ⟨z1,qAU _ z2⟩
theorem zDv:∀{l:List (Str×NameKind)} {n:Nat} {acc:List (Str×Addr)},(∀x y c,acc.lookup x=some c->acc.lookup y=some c->x=y)->(∀z d,acc.lookup z=some d->d<n)->∀x y c,(cellsFrom n l acc).lookup x=some c->(cellsFrom n l acc).lookup y=some c->x=y
 | [],_,_,p,_=>p
 | (w,k)::r,n,acc,p,lt=>by
  unfold cellsFrom;split
  ·refine zDv (l:=r) (n:=n+1) (acc:=(w,n)::acc) (fun x y c h1 h2=>?_) (fun z d h=>?_)
   ·rw [qBF] at h1 h2
    cases hx:x==w with
    | true =>
     rw [hx] at h1;have e1:n=c:=qAd h1
     cases hy:y==w with
     | true=>exact (by simpa using hx:x=w).trans (by simpa using hy:y=w).symm
     | false =>
      rw [hy] at h2;have:=lt y c h2;rw [<-e1] at this;exact absurd this (qBS _)
    | false =>
     rw [hx] at h1
     cases hy:y==w with
     | true =>
      rw [hy] at h2;have e2:n=c:=qAd h2;have:=lt x c h1;rw [<-e2] at this;exact absurd this (qBS _)
     | false=>rw [hy] at h2;exact p x y c h1 h2
   ·rw [qBF] at h
    cases hz:z==w with
    | true =>
     rw [hz] at h;have e:n=d:=qAd h;rw [<-e];exact qCT _
    | false =>
     rw [hz] at h;exact qCE (lt z d h)
  ·exact zDv p lt
theorem zC7 :∀{l:List (Str×NameKind)} {h:Heap} {acc:List (Str×Addr)},(∀y d,acc.lookup y=some d->∃v,h.IsCell d v)->(cellsFrom h.objs.size l acc).lookup x=some c->∃v,(pushCells h l).IsCell c v
 | [],_,_,hA,e=>hA x c e
 | (y,k)::r,h,acc,hA,e=>by
  unfold cellsFrom at e;unfold pushCells;split at e
  ·rename_i hk;rw [qAC hk];have hs:(h.push {cls:=.type "cell",data:=.cell none}:Heap).objs.size=h.objs.size+1:=qBB ..;rw [<-hs] at e;refine zC7 (fun z d hz=>?_) e;rw [qBF] at hz
   cases hzy:z==y with
   | true =>
    rw [hzy] at hz;have e:h.objs.size=d:=qAd hz;subst e;exact ⟨none,_,qAb _ rfl,rfl⟩
   | false =>
    rw [hzy] at hz;obtain ⟨v,o,ho,hd⟩:=hA z d hz;exact ⟨v,o,qAI _ ho,hd⟩
  ·rename_i hk;rw [qAB hk];exact zC7 hA e
theorem zE5 {M:Model} {A:Around} {E:Value->Shared->Prop} {s:Shared} {globals:Addr} {cl:List (Str×Addr)} {qual:Str} {outer:Env} {Q:Env->Shared->Prop}
  (h:Q (newEnv scope s.heap.objs.size globals (cellsFrom (s.heap.objs.size+1) scope.names cl) qual none .none (some outer) builtinsNs) {s with heap:=pushCells (s.heap.push {cls:=.type "dict",data:=.dict #[]}) scope.names}) :
  wpAny M A (newFunctionEnv scope globals cl [] qual none .none (some outer)) Q E s:=by
 simp only [newFunctionEnv,Option.isSome_some,qBN];refine qAA (wpAny_alloc ?_);refine qAA (wpAny_layCells _ (fun name kind cells=>by cases hkc:kind==NameKind.cell<;>simp [hkc]) _ _ _ _ ?_);rw [show ({s with heap:=s.heap.push {cls:=.type "dict",data:=.dict #[]}}:Shared).heap.objs.size=s.heap.objs.size+1 from qBB ..];rw [List.forIn_nil];exact qAA (qAE (qAE h))
theorem zFk :∀{l:List (Str×NameKind)} {cs:List (Str×Addr)},(∀y∈l,y.2= .free->y.1≠x)->(clOf env l cs).lookup x=cs.lookup x
 | [],_,_=>rfl
 | (n,k)::r,cs,h=>by
  have hr:∀z∈r,z.2= .free->z.1≠x:=fun z hz=>h z (qAU _ hz);unfold clOf
  by_cases hk:(k==NameKind.free)=true
  ·rw [qAC hk];have nx:(x==n)=false:=qAw.mpr fun z=>h (n,k) qAV (by simpa using hk) z.symm
   cases q:env.cells.lookup n with
   | none=>exact zFk hr
   | some d =>
    rw [show (clOf env r ((n,d)::cs)).lookup x=((n,d)::cs).lookup x from zFk hr,qBF,nx]
  ·rw [qAB hk];exact zFk hr
def Cx.block (X:Cx) (scope:Scope) (C:Addr) (s₀:Shared) (H₀:Hp) (ex:List Addr) (N:List Str):Cx where
 prog:=X.prog
 w:=X.w
 K:=X.K
 mg:=X.mg
 base:=X.base
 A:=X.A
 N:=N
 s₀:=s₀
 H₀:=H₀
 env:=compEnvC scope (cellsFrom (C+1) scope.names (clOf X.env scope.names [])) C X.env
 outer:=X.stack
 stack:=X.stack
 ex:=ex
 fn:=fun x=>scope.names.lookup x==some .cell
 calm:=X.calm
 pn:=[]
 xe:=fun _ _=>False
structure BlkSc (X:Cx) (scope:Scope):Prop where
 kind:scope.kind= .function
 apart:∀y∈scope.names,∀z∈scope.names,y.2= .cell->z.2= .free->y.1≠z.1
 owns:∀y∈scope.names,y.2= .cell->scope.names.lookup y.1=some .cell
 free:∀y∈scope.names,y.2= .free->X.env.kindOf y.1=some .cell\/X.env.kindOf y.1=some .free
 locs:∀y∈scope.names,y.2= .local->scope.names.lookup y.1=some .local
theorem zC0 {scope:Scope} {k:NameKind}:∀{l:List (Str×NameKind)}, 
  (l.map fun (n,k)=>if (k==NameKind.free&&env.scope.kind== .function&&env.kindOf n==some .cell) then (n,NameKind.cell) else (n,k)).lookup x=some k ->
  k= .cell\/k= .free->∃k',(x,k')∈l/\(k'= .cell\/k'= .free)
 | [],h,_=>by simp at h
 | (n,j)::r,h,hk=>by
  have h:List.lookup x ((if (j==NameKind.free&&env.scope.kind== .function&&env.kindOf n==some .cell)=true then (n,NameKind.cell) else (n,j))::(r.map fun (n,k)=>if (k==NameKind.free&&env.scope.kind== .function&&env.kindOf n==some .cell) then (n,NameKind.cell) else (n,k)))=some k:=h
  by_cases hc:(j==NameKind.free&&env.scope.kind== .function&&env.kindOf n==some .cell)=true
  ·rw [qAC hc,qBF] at h
   have hj:j= .free:=by
    simp only [qBh] at hc;simpa using hc.1.1
   cases hx:x==n with
   | true =>
    have:x=n:=by simpa using hx
    subst this;exact ⟨j,qAV,.inr hj⟩
   | false =>
    rw [hx] at h;obtain ⟨k',m,q⟩:=zC0 (scope:=scope) h hk;exact ⟨k',qAU _ m,q⟩
  ·rw [qAB hc,qBF] at h
   cases hx:x==n with
   | true =>
    rw [hx] at h;have e:j=k:=qAd h;have:x=n:=by simpa using hx
    subst this;exact ⟨j,qAV,by rw [e];exact hk⟩
   | false =>
    rw [hx] at h;obtain ⟨k',m,q⟩:=zC0 (scope:=scope) h hk;exact ⟨k',qAU _ m,q⟩
inductive Draws (X:Cx) (scope:Scope):List Str->List (Option Nat)->Prop
 | nil:Draws X scope [] []
 | own {x:Str} {N:List Str} {ix:List (Option Nat)}:Draws X scope N ix->Draws X scope (x::N) (Option.none::ix)
 | tk {x:Str} {N:List Str} {ix:List (Option Nat)} {i:Nat} (hN:X.N[i]?=some x) (hv:Vis X.env.scope x) (hk:(relabel scope X.env).names.lookup x=some .cell\/(relabel scope X.env).names.lookup x=some .free) (hf:(x,NameKind.free)∈scope.names) :
   Draws X scope N ix->Draws X scope (x::N) (some i::ix)
def zB8 (σ:St) (ix:List (Option Nat)):St:=ix.map fun o=>o.bind fun i=>(σ[i]?).join
theorem Draws.len {N:List Str} {ix:List (Option Nat)} (D:Draws X scope N ix):ix.length=N.length:=by
 induction D with
 | nil=>rfl
 | own _ ih=>simp [ih]
 | tk _ _ _ _ _ ih=>simp [ih]
theorem Draws.get {N:List Str} {ix:List (Option Nat)} {σ:St} (D:Draws X scope N ix):∀(j:Nat) (x:Str) (v:V),N[j]?=some x->(zB8 σ ix)[j]?=some (some v) ->
  ∃(i:Nat),X.N[i]?=some x/\σ[i]?=some (some v)/\Vis X.env.scope x/\((relabel scope X.env).names.lookup x=some .cell\/(relabel scope X.env).names.lookup x=some .free)/\(x,NameKind.free)∈scope.names:=by
 induction D with
 | nil=>intro j x v h;simp at h
 | own d ih =>
  intro j x v h1 h2
  cases j with
  | zero=>simp [zB8] at h2
  | succ j=>exact ih j x v (by simpa using h1) (by simpa [zB8] using h2)
 | @tk y N ix i hN hv hk hf d ih =>
  intro j x v h1 h2
  cases j with
  | zero =>
   have e:y=x:=by simpa using h1
   subst e;refine ⟨i,hN,?_,hv,hk,hf⟩;have h2:((σ[i]?).join)=some v:=by simpa [zB8] using h2
   cases q:σ[i]? with
   | none=>rw [q] at h2;cases h2
   | some o=>rw [q] at h2;exact qAa some h2
  | succ j=>exact ih j x v (by simpa using h1) (by simpa [zB8] using h2)
section
variable {X:Cx} {pins:List (Addr×Obj)} {σ:St} {H:Hp} {s:Shared} {scope:Scope} {N:List Str} {ix:List (Option Nat)} {fp:List Addr}
theorem Inv.nostk (I:Inv X pins σ H s) {b:Addr} (h1:b≠X.env.locals) (h2:b∉X.fs):b∉frs X.stack:=fun z=>(qAS.mp (I.stkSub b z)).elim h1 h2
theorem Inv.blockStart {h':Heap} {tk:Nat} {m:Str->Option Value} (I:Inv X pins σ H s) (B:BlkSc X scope) (D:Draws X scope N ix) (hfp:∀b∈fp,FpOk X pins H b) (hfo:∀b∈fp,∃o,s.heap.get? b=some o)
  (hns:h'.Ns s.heap.objs.size m) (hk:∀b o,s.heap.get? b=some o->h'.get? b=some o) (hcl:∀x c,(cellsFrom (s.heap.objs.size+1) scope.names (clOf X.env scope.names [])).lookup x=some c->∃v,h'.IsCell c v) :
  Inv (X.block scope s.heap.objs.size s H fp N) (X.pn++pins) (zB8 σ ix) H {s with heap:=h',toks:=tk}:=by
 have sub:∀{x:Str} {c:Addr},(clOf X.env scope.names []).lookup x=some c->X.env.cells.lookup x=some c:=fun {x c} e=>zEm (fun y d z=>by simp at z) e
 have old:∀{x:Str} {c:Addr},(clOf X.env scope.names []).lookup x=some c->c<s.heap.objs.size:=fun {x c} e=>by
  obtain ⟨v,o,ho,_⟩:=I.cell x c (sub e);exact qAK ho
 have two:∀{x:Str} {c:Addr},(cellsFrom (s.heap.objs.size+1) scope.names (clOf X.env scope.names [])).lookup x=some c->X.env.cells.lookup x=some c\/s.heap.objs.size<c:=fun {x c} e=>by
  rcases zCe e with z| ⟨z,_⟩
  ·exact .inl (sub z)
  ·exact .inr z
 have own:∀{x:Str},(x,NameKind.free)∈scope.names->(cellsFrom (s.heap.objs.size+1) scope.names (clOf X.env scope.names [])).lookup x=(clOf X.env scope.names []).lookup x:=fun {x} hx=>zDu fun y hy e=>B.apart y hy _ hx e rfl
 have okB:(X.block scope s.heap.objs.size s H fp N).Ok:=by
  refine ⟨I.ok.mod,B.kind,I.ok.glob,I.ok.blt,qAF _,zDv (fun x y c h1 h2=>I.ok.inj x y c (sub h1) (sub h2)) (fun z d h=>qCE (old h)),fun x hx=>?_,(fun x c z e=>?_),I.ok.hd,I.ok.frames,.inl rfl,fun b hb=>⟨?_,fun x c e=>?_⟩,
   I.bs,qAc I.ok.bsz I.sz,fun b o e hb=>?_,fun b hb=>I.nostk (hfp b hb).2.1 (hfp b hb).2.2.1,I.stack,I.stkFree⟩
  ·have hx':(relabel scope X.env).names.lookup x=some .cell\/(relabel scope X.env).names.lookup x=some .free:=hx
   have key:∃k',(x,k')∈scope.names/\(k'= .cell\/k'= .free):=by
    rcases hx' with e| e
    ·exact zC0 (scope:=scope) e (.inl rfl)
    ·exact zC0 (scope:=scope) e (.inr rfl)
   obtain ⟨k',m1,q⟩:=key;rcases q with q| q
   ·subst q;exact Option.isSome_iff_exists.mp (qDD _ _ _ (.inl (B.owns _ m1 rfl)))
   ·subst q;obtain ⟨c,hc⟩:=I.ok.has x (B.free _ m1 rfl);exact ⟨c,(own m1).trans (zFl hc m1)⟩
  ·rcases zCe e with q| ⟨q,_⟩
   ·have z:scope.names.lookup x=some .cell:=by
     have z:(scope.names.lookup x==some NameKind.cell)=true:=z;simpa using z
    have hm:=qCA z;have:(x,NameKind.free)∈scope.names\/True:=.inr trivial
    exact absurd q (by
     rw [zFk (fun y hy e1 e2=>B.apart _ hm y hy rfl e1 e2.symm)];intro h;cases h)
   ·exact qB6 q
  ·obtain ⟨o,e⟩:=hfo b hb;exact qAT (qAK e)
  ·rcases two e with z| z
   ·exact (hfp b hb).2.2.2.2.1 x c z
   ·obtain ⟨o,e⟩:=hfo b hb;exact qA8 (Nat.lt_trans (qAK e) z)
  ·rcases (hfp b hb).2.2.2.1 with z| z
   ·exact I.ok.noex b o e z
   ·exact absurd (qAn (qAK (I.ok.bs b o e).1) z) (qBS _)
 refine ⟨okB,rfl,I.bare,Un.kept hk,⟨m,hns,fun j x v h1 h2 h3=>?_⟩,fun x c e=>?_,I.hok.fresh (qAF _),fun x c e=>(two e).elim (fun z=>I.freeC x c z) (fun z=>I.hok.fresh (qB6 z)),fun p hp=>?_,I.hok.kept hk,?_⟩
 ·obtain ⟨i,e1,e2,vis,kd,fr⟩:=D.get j x v h1 h2;obtain ⟨m0,hn0,hl⟩:=I.loc;obtain ⟨u,r,l⟩:=hl i x v e1 e2 vis;refine ⟨u,r,?_⟩;rcases l with ⟨k,_⟩| ⟨_,c,hc,o,ho,hd⟩
  ·rcases B.free _ fr rfl with z| z
   ·have z:X.env.kindOf x=some .cell:=z;rw [k] at z;cases z
   ·have z:X.env.kindOf x=some .free:=z;rw [k] at z;cases z
  ·exact .inr ⟨kd,c,(own fr).trans (zFl hc fr),o,hk c o ho,hd⟩
 ·exact hcl x c e
 ·have hp':p∈X.pn++pins:=by simpa [Cx.block] using hp
  obtain ⟨e,n,ne,nf,d⟩:=I.pin p hp';exact ⟨hk _ _ e,n,qAT (qAK e),I.nostk ne nf,d⟩
 ·show (zB8 σ ix).length=N.length;unfold zB8;rw [qAD];exact D.len
end
def PTs (X:Cx) (ifs:List Expr) (t:TT):Prop :=
 ∀(pins:List (Addr×Obj)) (s:Shared) (σ:St) (H:Hp) (Q:Bool->Hp->Prop),Inv X pins σ H s->t σ H Q ->
  wpAny (model X.prog X.w) X.A (forIn ifs true fun c r=>if r=true then do let ok<-isTrue c X.env (eval c X.env);pure (ForInStep.yield ok) else pure (ForInStep.yield r)) (TP X pins σ Q) X.xe s
def zIf:TT:=fun _ H Q=>Q true H
theorem zBr :PTs X [] zIf:=fun _ _ _ H _ I h=>wpAny_tests_nil ⟨H,I,h⟩
theorem zDp {c:Expr} {t:TT} (h:PT X c t):PTs X [c] t:=fun pins s σ H Q I hw=>wpAny_tests_one (h pins s σ H Q I hw)
theorem comp_loop {prog:Program} {w:World} {A:Around} {R:Result->Shared->Prop} {s:Shared} {elt target iter:Expr} {ifs:List Expr} {scope:Scope} {pos:Pos} {it acc:Value} {env:Env} (I:Nat->Shared->Prop)
  (turn:∀n s,I n s->wpAny (model prog w) A (pyNext it) (fun r s₁=>match r with
   | none=>R (.ok .next) s₁
   | some v=>wpAny (model prog w) A (letOwnedTupleGo target it v) (fun _ s₁'=>wpAny (model prog w) A (assign target env v) (fun _ s₂ =>
     wpAny (model prog w) A (forIn ifs true fun c r=>if r=true then do let ok<-isTrue c env (eval c env);pure (ForInStep.yield ok) else pure (ForInStep.yield r)) (fun ok s₃ =>
      if ok=true then wpAny (model prog w) A (eval elt env) (fun x s₄ =>
       wpAny (model prog w) A (call (.builtin "list.append") [acc,x]) (fun _ s₅=>∃m,m<n/\I m s₅) (fun _ _=>False) s₄) (fun _ _=>False) s₃
      else∃m,m<n/\I m s₃) (fun _ _=>False) s₂) (fun _ _=>False) s₁') (fun _ _=>False) s₁) (fun _ _=>False) s)
  (n:Nat) (h:I n s) :
  codeAny (model prog w) A (.compLoop (.ListComp elt [⟨target,iter,ifs,0⟩] scope pos) 0 it acc env) R s:=by
 refine codeAny_loop rfl I (fun n s hI=>?_) n h;show wpAny _ A ((compTurn (.ListComp elt [⟨target,iter,ifs,0⟩] scope pos) 0 it acc env).onRaise (fun x=>do noteFrame x env;theTreesLotGoes x)) _ _ s;refine wpAny_noted ?_;rw [compTurn_list];refine qAA (qCQ (qAA (qAx (turn n s hI) (fun r s₁ h₁=>?_) fun _ _ h'=>h'.elim)))
 cases r with
 | none=>exact qAE h₁
 | some v =>
  refine qAA (qAx h₁ (fun _ s₁' h₁'=>?_) fun _ _ h'=>h'.elim);refine qAA (qAx h₁' (fun _ s₂ h₂=>qAA (qAx h₂ (fun ok s₃ h₃=>?_) fun _ _ h'=>h'.elim)) fun _ _ h'=>h'.elim)
  cases ok with
  | false=>exact qAE ⟨rfl,h₃⟩
  | true =>
   exact qAA (qAA (qAx h₃ (fun x s₄ h₄=>qAA (qAx h₄ (fun _ s₅ h₅=>qAE (qAE ⟨rfl,h₅⟩)) fun _ _ h'=>h'.elim)) fun _ _ h'=>h'.elim))
def tComp (wi:TI) (ix:List (Option Nat)) (g:TG) (tt:TT) (te:TE):TE:=fun σ H Q=>wi σ H fun J H1=>∀D,H1 D=none->∃W:Nat->Nat->List V->St->Hp->Prop,
 (∃m,W 0 m [] (zB8 σ ix) (upd H1 D (.lst [])))/\∀i m ys τ H2,W i m ys τ H2 ->
  (J.stop i H2/\Q (.ref D) H2)\/(J.go i H2/\∃N:List V->St->Hp->Prop,(∀ys' τ' H',N ys' τ' H'->∃m',m'<m/\W (i+1) m' ys' τ' H')/\∀x H3,J.yld i H2 x H3->g x τ H3 fun τ' H4=>tt τ' H4 fun b H5 =>
   if b=true then te τ' H5 fun v H6=>H6 D=some (.lst ys)/\ys.length<sizeLine/\N (ys++[v]) τ' (upd H6 D (.lst (ys++[v])))
   else N ys τ' H5)
theorem block_loop {Y:Cx} {J:It} {fp:List Addr} {it D:Addr} {tn:Nat->Heap->Prop} {P:List (Addr×Obj)} {W:Nat->Nat->List V->St->Hp->Prop} {m0:Nat}
  {R:Result->Shared->Prop} {QD:Hp->Prop} {s4:Shared} {τ0:St} {H4:Hp}
  (hc:Y.calm=true) (hx:∀e s,Y.xe e s->False) (hg:PG Y tg g) (ht:PTs Y ifs tt) (he:PE Y elt te) (T:Turn Y.prog Y.w Y.K tg J fp it tn)
  (stat:∀{H':Hp},(∀b∈fp,H' b=none)->∀b∈fp,FpOk Y P H' b)
  (turn:∀i m ys τ H2,W i m ys τ H2->(J.stop i H2/\QD H2)\/(J.go i H2/\∃N:List V->St->Hp->Prop,(∀ys' τ' H',N ys' τ' H'->∃m',m'<m/\W (i+1) m' ys' τ' H')/\∀x H3,J.yld i H2 x H3->g x τ H3 fun τ' H4=>tt τ' H4 fun b H5 =>
   if b=true then te τ' H5 fun v H6=>H6 D=some (.lst ys)/\ys.length<sizeLine/\N (ys++[v]) τ' (upd H6 D (.lst (ys++[v])))
   else N ys τ' H5))
  (fin:∀τ H' s',Inv Y P τ H' s'->QD H'->R (.ok .next) s')
  (I0:Inv Y P τ0 H4 s4) (t0:tn 0 s4.heap) (n0:∀b∈fp,H4 b=none) (w0:W 0 m0 [] τ0 H4) :
  codeAny (model Y.prog Y.w) Y.A (.compLoop (.ListComp elt [⟨tg,iter,ifs,0⟩] scope pos) 0 (.ref it) (.ref D) Y.env) R s4:=by
 have nx:∀{α:Type} {t:Sem α} {Q:α->Shared->Prop} {s:Shared},wpAny (model Y.prog Y.w) Y.A t Q Y.xe s->wpAny (model Y.prog Y.w) Y.A t Q (fun _ _=>False) s:=fun h=>qAx h (fun _ _ q=>q) hx;refine comp_loop (fun n s'=>∃i ys τ H',Inv Y P τ H' s'/\tn i s'.heap/\(∀b∈fp,H' b=none)/\W i n ys τ H') ?_ m0 ⟨0,[],τ0,H4,I0,t0,n0,w0⟩;rintro n s5 ⟨i,ys,τ,H5,I5,st5,fr5,w5⟩;rcases turn i n ys τ H5 w5 with ⟨stop,q⟩| ⟨go,N,hN,step⟩
 ·refine thn (T.done Y rfl rfl rfl hc i P s5 τ H5 _ I5 (stat fr5) st5 stop) fun r s6 ⟨hr,I6⟩=>?_;subst hr;exact fin τ H5 s6 I6 q
 ·refine thn (T.item Y rfl rfl rfl hc i P s5 τ H5 _ I5 (stat fr5) st5 go) fun r s6 ⟨u,hr,h6⟩=>?_;subst hr;refine thn h6 fun _ s7 ⟨x,H7,I7,r7,y7,st7,fr7⟩=>?_;have I7':=I7.pinned (stat fr7) (T.obj _ _ st7);refine nx (thn (hg _ s7 τ H7 x u _ I7' r7 (step x H7 y7)) fun _ s8 ⟨τ8,H8,I8,q8⟩=>?_);refine nx (thn (ht _ s8 τ8 H8 _ I8 q8) fun ok s9 ⟨H9,I9,q9⟩=>?_)
  have again:∀{ys':List V} {H':Hp} {s':Shared},Inv Y (P++pinsAt fp s7.heap) τ8 H' s'->(∃m',m'<n/\W (i+1) m' ys' τ8 H')->∃m,m<n/\∃i ys τ H',Inv Y P τ H' s'/\tn i s'.heap/\(∀b∈fp,H' b=none)/\W i m ys τ H':=fun {ys' H' s'} I' ⟨m',hm,w'⟩=>by
   refine ⟨m',hm,i+1,ys',τ8,H',I'.unpinned,T.keep _ _ _ st7 fun b hb o e=>(I'.pin (b,o) (qAr _ (qAr _ (zEk hb e)))).1,fun b hb=>?_,w'⟩;obtain ⟨o,e,d⟩:=T.obj _ _ st7 b hb;exact (I'.pin (b,o) (qAr _ (qAr _ (zEk hb e)))).2.1
  cases ok with
  | false =>
   rw [qAB qAk] at q9 ⊢;exact again I9 (hN _ _ _ q9)
  | true =>
   rw [qAC rfl] at q9 ⊢;refine nx (thn (he _ s9 τ8 H9 _ I9 q9) fun y s10 ⟨v,H10,I10,r10,hD,hz,w10⟩=>?_);refine nx (thn (zCs (X:=Y) _ s10 τ8 H10 (.ref D) [v] (.ref D) [y] (fun _ H'=>H'=upd H10 D (.lst (ys++[v]))) I10 rfl (.cons r10 .nil) ⟨D,ys,v,rfl,rfl,hD,hz,rfl⟩) fun _ s11 ⟨z,H11,I11,_,e11⟩=>?_);subst e11;exact again I11 (hN _ _ _ w10)
theorem run_comp {pos p1:Pos} {N:List Str} {ix:List (Option Nat)} {pins:List (Addr×Obj)} {s:Shared} {σ:St} {H:Hp} {Q:VK} {use:Option (Value->Sem Unit)}
  {Z:Value->Shared->Prop}
  (hc:X.calm=true) (B:BlkSc X scope) (Dr:Draws X scope N ix) (hi:PI X tg iter wi)
  (hg:∀C s₀ H₀ ex,PG (X.block scope C s₀ H₀ ex N) tg g) (ht:∀C s₀ H₀ ex,PTs (X.block scope C s₀ H₀ ex N) ifs tt) (he:∀C s₀ H₀ ex,PE (X.block scope C s₀ H₀ ex N) elt te)
  (hs:∀x,foldedSetIterable iter X.env x=pure x)
  (I:Inv X pins σ H s) (h:tComp wi ix g tt te σ H Q)
  (fin:∀(D C:Addr) (H':Hp) (s':Shared) (m:Str->Option Value),Inv X pins σ H' s'->Q (.ref D) H'->s'.heap.Ns C m->(∀h',Heap.SameBut C s'.heap h'->Inv X pins σ H' {s' with heap:=h'})->C≠X.env.locals->(∀x c,X.env.cells.lookup x=some c->c≠C)->H' C=none ->
   (∀p∈X.pn++pins,p.1≠C)->X.s₀.heap.objs.size<=C->compPost (model X.prog X.w) X.A X.xe use Z (.ref D) C (.ok .next) s') :
  wpAny (model X.prog X.w) X.A (comprehension (.ListComp elt [⟨tg,iter,ifs,0⟩] scope pos) scope X.env p1 (newList []) false (eval iter X.env) use) Z X.xe s:=by
 have hfree:∀x∈scope.names,x.2= .free->∃c,X.env.cells.lookup x.1=some c:=fun x hx e=>I.ok.has _ (B.free x hx e);refine wpAny_comprehension_free (use:=use) rfl hs (zJi hfree) B.kind B.locs ?_;refine thn (hi pins s σ H _ I h) fun v s1 h1=>thn h1 fun itv s2 h2=>?_;obtain ⟨it,fp,tn,J,H2,e,I2,T,st2,f2,R⟩:=h2;subst e;have hDf:H2 s2.heap.objs.size=none:=I2.hok.fresh (qAF _);obtain ⟨W,⟨m0,w0⟩,turn⟩:=R _ hDf;refine qBt ?_ (by show (0:Nat)<=sizeLine;exact qAg _);have I3:Inv X pins σ (upd H2 s2.heap.objs.size (.lst [])) {s2 with heap:=s2.heap.push {cls:=.type "list",data:=.seq ([]:List Value).toArray}}:=I2.lnew (t':=s2.toks) (ys:=[]) (its:=[]) .nil (qAg _);generalize hD:s2.heap.objs.size=D at *
 have fpo:∀b∈fp,∃o,s2.heap.get? b=some o:=fun b hb=>let ⟨o,q,_⟩:=T.obj _ _ st2 b hb;⟨o,q⟩
 have fpD:∀b∈fp,b≠D:=fun b hb=>by
  obtain ⟨o,q⟩:=fpo b hb;rw [<-hD];exact qAT (qAK q)
 have f3:∀b∈fp,FpOk X pins (upd H2 D (.lst [])) b:=fun b hb=>⟨by rw [upd_ne (fpD b hb)];exact (f2 b hb).1,(f2 b hb).2⟩;generalize hs3:({s2 with heap:=s2.heap.push {cls:=.type "list",data:=.seq ([]:List Value).toArray}}:Shared)=s3 at I3 ⊢;have k23:∀b o,s2.heap.get? b=some o->s3.heap.get? b=some o:=fun b o q=>by rw [<-hs3];exact qAI _ q
 have fpo3:∀b∈fp,∃o,s3.heap.get? b=some o:=fun b hb=>let ⟨o,q⟩:=fpo b hb;⟨o,k23 b o q⟩;have st3:tn 0 s3.heap:=T.keep _ _ _ st2 fun b hb o q=>k23 b o q;refine zE5 ?_;have k34:∀b o,s3.heap.get? b=some o->(pushCells (s3.heap.push {cls:=.type "dict",data:=.dict #[]}) scope.names).get? b=some o:=fun b o q=>pushCells_keeps _ _ b o (qAI _ q);have hns4:(pushCells (s3.heap.push {cls:=.type "dict",data:=.dict #[]}) scope.names).Ns s3.heap.objs.size (fun _=>none):=(Heap.Ns.new s3.heap (.type "dict")).keeps (pushCells_keeps _ _)
 have hcl4:∀x c,(cellsFrom (s3.heap.objs.size+1) scope.names (clOf X.env scope.names [])).lookup x=some c->∃v,(pushCells (s3.heap.push {cls:=.type "dict",data:=.dict #[]}) scope.names).IsCell c v:=fun x c e=>by
  refine zC7 (h:=s3.heap.push {cls:=.type "dict",data:=.dict #[]}) (acc:=clOf X.env scope.names []) (fun y d hy=>?_) (by rw [qBB];exact e);obtain ⟨v,o,ho,hd⟩:=I3.cell y d (zEm (fun y d z=>by simp at z) hy);exact ⟨v,o,qAI _ ho,hd⟩
 have IB:=I3.blockStart (tk:=s3.toks) B Dr f3 fpo3 hns4 k34 hcl4;generalize hh4:pushCells (s3.heap.push {cls:=.type "dict",data:=.dict #[]}) scope.names=h4 at *
 generalize hC:s3.heap.objs.size=C at *
 have hCX:X.s₀.heap.objs.size<=C:=by rw [<-hC];exact I3.sz
 have CL:C≠X.env.locals:=by rw [<-hC];exact qA8 I3.lt
 have Cc:∀x c,X.env.cells.lookup x=some c->c≠C:=fun x c q=>by
  obtain ⟨v,o,ho,_⟩:=I3.cell x c q;rw [<-hC];exact qAT (qAK ho)
 have Cp:∀p∈X.pn++pins,p.1≠C:=fun p hp=>by
  rw [<-hC];exact qAT (qAK (I3.pin p hp).1)
 have fpC:∀b∈fp,b≠C:=fun b hb=>by
  obtain ⟨o,q⟩:=fpo3 b hb;rw [<-hC];exact qAT (qAK q)
 have stat:∀{H':Hp},(∀b∈fp,H' b=none)->∀b∈fp,FpOk (X.block scope C s3 (upd H2 D (.lst [])) fp N) (X.pn++pins) H' b:=fun {H'} hn b hb=>by
  obtain ⟨_,q1,q2,q3,q4,q5⟩:=f2 b hb;exact ⟨hn b hb,fpC b hb,I3.nostk q1 q2,.inl hb,fun x c e=>(zCe e).elim (fun z=>q4 x c (zEm (fun y d z=>by simp at z) z)) (fun z=>by obtain ⟨o,q⟩:=fpo3 b hb;have:=qAK q;rw [hC] at this;exact qA8 (qAn (qCE this) z.1)),fun p hp=>q5 p (by simpa [Cx.block] using hp)⟩
 have st4:tn 0 h4:=T.keep _ _ _ st3 fun b hb o q=>k34 b o q;have n4:∀b∈fp,(upd H2 D (.lst [])) b=none:=fun b hb=>(f3 b hb).1
 have loop:=block_loop (Y:=X.block scope C s3 (upd H2 D (.lst [])) fp N) (iter:=iter) (pos:=pos) (scope:=scope) (D:=D) (R:=compPost (model X.prog X.w) X.A X.xe use Z (.ref D) C) hc (fun _ _ z=>z) (hg C s3 _ fp) (ht C s3 _ fp) (he C s3 _ fp) T stat turn
  (fun τ H' s' I' q=>by
   have I5:Inv X pins σ H' s':=I3.call' (ch:=fp) I'.os I'.base I'.hok I'.bare fun b hb=>by
    obtain ⟨_,q1,q2,q3,q4,q5⟩:=f2 b hb;exact ⟨q3,q1,q4,q5⟩
   obtain ⟨m,hn,_⟩:=I'.loc;have hC0:H' C=none:=I'.free;exact fin D C H' s' m I5 q hn (fun h'' hs''=>I5.turned (t':=s'.toks) (fun b o hb e=>hs''.extBut b o hb e) hC0 CL (.inr hCX) Cc Cp) CL Cc hC0 Cp hCX) IB st4 n4 w0
 exact codeAny_compStart_list loop (T.self _ 0 _ _ _ st4 loop)
theorem zBl {N:List Str} {ix:List (Option Nat)} (hc:X.calm=true) (B:BlkSc X scope) (Dr:Draws X scope N ix) (hi:PI X tg iter wi)
  (hg:∀C s₀ H₀ ex,PG (X.block scope C s₀ H₀ ex N) tg g) (ht:∀C s₀ H₀ ex,PTs (X.block scope C s₀ H₀ ex N) ifs tt) (he:∀C s₀ H₀ ex,PE (X.block scope C s₀ H₀ ex N) elt te)
  (hs:∀x,foldedSetIterable iter X.env x=pure x:=by intro _;rfl):PE X (.ListComp elt [⟨tg,iter,ifs,0⟩] scope pos) (tComp wi ix g tt te):=by
 intro pins s σ H Q I h;rw [eval_ListComp];exact run_comp (use:=none) hc B Dr hi hg ht he hs I h fun D C H' s' m I' q hn k _ _ _ _ _=>⟨m,hn,fun h' hs'=>⟨.ref D,H',k h' hs',rfl,q⟩⟩
theorem zD5 {spos py:Pos} {N:List Str} {ix:List (Option Nat)} {i:Nat} {y:Str} (hc:X.calm=true) (B:BlkSc X scope) (Dr:Draws X scope N ix) (hi:PI X tg iter wi)
  (hg:∀C s₀ H₀ ex,PG (X.block scope C s₀ H₀ ex N) tg g) (ht:∀C s₀ H₀ ex,PTs (X.block scope C s₀ H₀ ex N) ifs tt) (he:∀C s₀ H₀ ex,PE (X.block scope C s₀ H₀ ex N) elt te)
  (hN:X.N.Nodup) (hy:X.N[i]?=some y) (hl:X.env.scope.names.lookup y=some .local)
  (hsw:swapsWith (.ListComp elt [⟨tg,iter,ifs,0⟩] scope pos) (some (.Name y py)) spos.line X.env=pure true:=by rfl)
  (hs:∀x,foldedSetIterable iter X.env x=pure x:=by intro _;rfl):PS X (.Assign [.Name y py] (.ListComp elt [⟨tg,iter,ifs,0⟩] scope pos) spos) (tAsg (tComp wi ix g tt te) (gName i)):=by
 intro pins s σ H Dn I h;rw [exec_Assign_Name_used _ _ _ _ hsw];refine qAA (qCQ (qAA ?_));show wpAny _ X.A (do let _<-comprehension (.ListComp elt [⟨tg,iter,ifs,0⟩] scope pos) scope X.env _ (newList []) false (eval iter X.env) (some (assign (.Name y py) X.env))) _ _ s;refine qAA (thn (run_comp (use:=some (assign (.Name y py) X.env)) (Z:=fun _ s'=>SP X pins Dn .next s') hc B Dr hi hg ht he hs I h fun D C H' s' m I' q hn k CL Cc C0 Cp CX=>?_) fun _ s' hq=>qAE (qAE hq));show wpAny _ _ (assign (.Name y py) X.env (.ref D)) _ _ s';refine wpAny_assign_Name (store_ok2 I' hN hy (.inl hl) (v:=.ref D) rfl (fun s'' I'' ⟨a,sb,ha⟩=>?_) (.inr hl))
 have aC:C≠a:=by
  rcases ha with z| z
  ·rw [z];exact CL
  ·exact (Cc _ _ z).symm
 exact ⟨m,hn.sameBut sb aC,fun h' hs'=>⟨_,H',I''.turned (t':=s''.toks) (fun b o hb e=>hs'.extBut b o hb e) C0 CL (.inr CX) Cc Cp,q⟩⟩
theorem comp_by {J:It} {ix:List (Option Nat)} {Q:VK} {σ:St} {H1:Hp} {D:Addr} (xs:List V) (Pv:Nat->List V->St->Hp->Prop) (h0:Pv 0 [] (zB8 σ ix) (upd H1 D (.lst [])))
  (hJ:∀i ys τ H,Pv i ys τ H->(∀x,xs[i]?=some x->J.go i H/\∀y H',J.yld i H y H'->H'=H/\y=x)/\(i=xs.length->J.stop i H))
  (hs:∀i x ys τ H,xs[i]?=some x->Pv i ys τ H->g x τ H fun τ' H4=>tt τ' H4 fun b H5=>if b=true then te τ' H5 fun v H6=>H6 D=some (.lst ys)/\ys.length<sizeLine/\Pv (i+1) (ys++[v]) τ' (upd H6 D (.lst (ys++[v]))) else Pv (i+1) ys τ' H5)
  (hd:∀ys τ H,Pv xs.length ys τ H->Q (.ref D) H) :
  ∃W:Nat->Nat->List V->St->Hp->Prop,(∃m,W 0 m [] (zB8 σ ix) (upd H1 D (.lst [])))/\∀i m ys τ H2,W i m ys τ H2 ->
   (J.stop i H2/\Q (.ref D) H2)\/(J.go i H2/\∃N:List V->St->Hp->Prop,(∀ys' τ' H',N ys' τ' H'->∃m',m'<m/\W (i+1) m' ys' τ' H')/\∀x H3,J.yld i H2 x H3->g x τ H3 fun τ' H4=>tt τ' H4 fun b H5 =>
    if b=true then te τ' H5 fun v H6=>H6 D=some (.lst ys)/\ys.length<sizeLine/\N (ys++[v]) τ' (upd H6 D (.lst (ys++[v])))
    else N ys τ' H5):=by
 refine ⟨fun i m ys τ H=>m=xs.length - i/\i<=xs.length/\Pv i ys τ H,⟨xs.length,by simp,qAg _,h0⟩,?_⟩;rintro i m ys τ H ⟨rfl,hi,p⟩;obtain ⟨j1,j2⟩:=hJ i ys τ H p
 by_cases hlt:i<xs.length
 ·have hx:xs[i]?=some xs[i]:=by simp [hlt]
  obtain ⟨go,yl⟩:=j1 _ hx;refine .inr ⟨go,Pv (i+1),fun ys' τ' H' p'=>⟨xs.length - (i+1),by lia,rfl,hlt,p'⟩,fun y H' yd=>?_⟩;obtain ⟨e1,e2⟩:=yl y H' yd;subst e1 e2;exact hs i _ ys τ _ hx p
 ·have e:i=xs.length:=by lia
  subst e;exact .inl ⟨j2 rfl,hd ys τ H p⟩
def blkOk (scope sc:Scope):Bool:=(scope.kind== .function)&&(scope.names.all (fun y=>scope.names.all fun z=>y.2 != .cell||z.2 != .free||y.1 != z.1)&&scope.names.all (fun y=>y.2 != .cell||scope.names.lookup y.1==some .cell))&&scope.names.all (fun y=>y.2 != .free||sc.names.lookup y.1==some .cell||sc.names.lookup y.1==some .free)&&scope.names.all (fun y=>y.2 != .local||scope.names.lookup y.1==some .local)
theorem zBe {scope sc:Scope} (hsc:X.env.scope=sc) (h:blkOk scope sc=true):BlkSc X scope:=by
 unfold blkOk at h;simp only [qBh,qBj,Bool.or_eq_true] at h;obtain ⟨⟨⟨h1,h2,h5⟩,h3⟩,h4⟩:=h;refine ⟨by simpa using h1,fun y hy z hz e1 e2=>?_,fun y hy e=>?_,fun y hy e=>?_,fun y hy e=>?_⟩
 ·rcases h2 y hy z hz with (q| q)| q
  ·rw [e1] at q;simp at q
  ·rw [e2] at q;simp at q
  ·simpa using q
 ·rcases h5 y hy with q| q
  ·rw [e] at q;simp at q
  ·simpa using q
 ·have q:=h3 y hy;show X.env.scope.names.lookup y.1=some .cell\/X.env.scope.names.lookup y.1=some .free;rw [hsc];rcases q with (q| q)| q
  ·rw [e] at q;simp at q
  ·exact .inl (by simpa using q)
  ·exact .inr (by simpa using q)
 ·have q:=h4 y hy;rcases q with q| q
  ·rw [e] at q;simp at q
  ·simpa using q
def relS (scope sc:Scope):Scope:={scope with names:=scope.names.map fun (n,k)=>if (k== .free&&sc.kind== .function&&sc.names.lookup n==some .cell) then (n,.cell) else (n,k)}
theorem blk_in {e0:Env} {outer scope sc:Scope} (hX:X.env.scope=relabel outer e0) (h0:e0.scope=sc) (h:blkOk scope (relS outer sc)=true):BlkSc X scope :=
 zBe (sc:=relS outer sc) (by rw [hX];subst h0;rfl) h
def Its (z:Str):It:=⟨fun i _=>i<z.cps.size,fun i H x H'=>H'=H/\∃c,z.cps[i]?=some c/\x= .str ⟨#[c]⟩,fun i _=>z.cps.size<=i⟩
theorem turn_str {P:Program} {w:World} {K:PySem.W.Frag} (it:Addr) (z:Str) (t:Tok) (ty:String) (hty:ty= "str_ascii_iterator" \/ty= "str_iterator"):Turn P w K tg (Its z) [it] it (fun i h=>h.IsStrIter it ty z t i) where
 mem:=by simp
 obj:=fun i h st b hb=>by
  have e:b=it:=by simpa using hb
  subst e;obtain ⟨o,e,c,d⟩:=st;exact ⟨o,e,fun v z=>by rw [d] at z;cases z⟩
 keep:=fun i h h' st k=>by
  obtain ⟨o,e,c,d⟩:=st;exact ⟨o,k it (by simp) o e,c,d⟩
 item:=by
  intro X hP hw hK hc i pins s σ H E I hf st hg;subst hP hw hK;obtain ⟨f0,f1,f2,f3,f4,f5⟩:=hf it (by simp);have hlt:i<z.cps.size:=hg;have hx:z.cps[i]?=some z.cps[i]:=by simp [hlt]
  have fin:∀h':Heap,h'.IsStrIter it ty z t (i+1)->Heap.SameBut it s.heap h'->∃u,some (Value.str ⟨#[z.cps[i]]⟩ s.toks)=some u /\
    wpAny (model X.prog X.w) X.A (letOwnedTupleGo tg (.ref it) u) (fun _ s2=>∃x H',Inv X pins σ H' s2/\RelV x u/\(Its z).yld i H x H'/\s2.heap.IsStrIter it ty z t (i+1)/\∀b∈[it],H' b=none) E {s with heap:=h',toks:=s.toks+1}:=fun h' st' sb=>by
   have I1:Inv X pins σ H {s with heap:=h',toks:=s.toks+1}:=I.turned (t':=s.toks+1) (fun b o hb e=>(sb.2 b hb).trans e) f0 f1 f3 f4 f5;obtain ⟨o,e,c,d⟩:=id st';exact ⟨_,rfl,go_of (s:={s with heap:=h',toks:=s.toks+1}) e c d (by rcases hty with rfl| rfl<;>decide) ⟨.str ⟨#[z.cps[i]]⟩,H,I1,⟨_,rfl⟩,⟨rfl,_,hx,rfl⟩,st',fun b hb=>(hf b hb).1⟩⟩
  rcases hty with rfl| rfl
  ·exact wpAny_pyNext_ascii_item st hx fin
  ·exact wpAny_pyNext_wide_item st hx fin
 done:=by
  intro X hP hw hK hc i pins s σ H E I hf st hg;subst hP hw hK;obtain ⟨f0,f1,f2,f3,f4,f5⟩:=hf it (by simp);have hle:z.cps.size<=i:=hg;have hx:z.cps[i]?=none:=by simp [hle]
  have fin:∀h':Heap,Heap.ExtBut it s.heap h'->(none:Option Value)=none/\Inv X pins σ H {s with heap:=h'}:=fun h' eb=>⟨rfl,I.turned (t':=s.toks) (fun b o hb e=>eb b o hb e) f0 f1 f3 f4 f5⟩;rcases hty with rfl| rfl
  ·exact wpAny_pyNext_ascii_end (I.ok.hd hc) st hx fin
  ·exact wpAny_pyNext_wide_end (I.ok.hd hc) st hx fin
 self:=fun _ _ _ _ _ st h=>by
  rcases hty with rfl| rfl
  ·exact wpAny_pyIter_striter_ascii st h
  ·exact wpAny_pyIter_striter_wide st h
def iStr (tl:TE):TI:=fun σ H R=>tl σ H fun x H1=>∃z,x= .str z/\R (Its z) H1
theorem pi_str {l:Expr} {tl:TE} (hl:PE X l tl):PI X tg l (iStr tl):=by
 intro pins s σ H R I h;refine thn (hl pins s σ H _ I h) fun v s1 ⟨x,H1,I1,r1,q1⟩=>?_;obtain ⟨z,e,q⟩:=q1;subst e;obtain ⟨t,rfl⟩:=r1
 have fin:∀(ty:String),(ty= "str_ascii_iterator" \/ty= "str_iterator")->PIE X pins σ tg R (.ref s1.heap.objs.size) {s1 with heap:=s1.heap.push {cls:=.type ty,data:=.fields #[.str z t,.int 0 0]}}:=fun ty hty =>
  ⟨s1.heap.objs.size,[s1.heap.objs.size],_,_,H1,rfl,I1.kept (t':=s1.toks) fun b o e=>qAI _ e,turn_str _ z t ty hty,⟨_,qAb _ rfl,rfl,rfl⟩,fun b hb=>by
   have e:b=s1.heap.objs.size:=by simpa using hb
   subst e;exact I1.fpOk (qAF _) (I1.hok.fresh (qAF _)),q⟩
 cases ha:z.cps.all (·<128)
 ·exact wpAny_pyIter_wide ha (fin _ (.inr rfl))
 ·exact wpAny_pyIter_ascii ha (fin _ (.inl rfl))
theorem bls_get {bs:List Bool} {its:List Value} (r:Vals (bs.map V.bl) its) {i:Nat} {v:Value} (h:its[i]?=some v):v= .bool (bs.getD i false)/\i<bs.length:=by
 have hl:=r.length;rw [qAD] at hl;have hi:i<its.length:=(qAh.mp h).1;have hb:i<bs.length:=by lia
 have e:(bs.map V.bl)[i]?=some (V.bl bs[i]):=by simp [hb]
 obtain ⟨u,hu,ru⟩:=r.get e;rw [h] at hu
 cases hu
 refine ⟨?_,hb⟩;have:v= .bool bs[i]:=ru;rw [this,qBG];simp [hb]
theorem all_range (bs:List Bool):(List.range bs.length).all (fun i=>bs.getD i false)=bs.all id:=by
 rw [qBc];simp only [qBj,qA4];constructor
 ·intro h x hx;obtain ⟨i,hi,rfl⟩:=qA7.mp hx;have:=h i hi;simpa [qBG,hi] using this
 ·intro h i hi;have:=h bs[i] (qCZ hi);simpa [qBG,hi] using this
theorem any_range (bs:List Bool):(List.range bs.length).any (fun i=>bs.getD i false)=bs.any id:=by
 rw [qBc];simp only [qCv,qA4];constructor
 ·rintro ⟨i,hi,h⟩;exact ⟨bs[i],qCZ hi,by simpa [qBG,hi] using h⟩
 ·rintro ⟨x,hx,h⟩;obtain ⟨i,hi,rfl⟩:=qA7.mp hx;exact ⟨i,hi,by simpa [qBG,hi] using h⟩
theorem zGj (X:Cx) (hc:X.calm=true):zCu X (.builtin "all") (fun xs H Q=>∃(p:Addr) (bs:List Bool),xs=[.ref p]/\SqL X.K H p (bs.map V.bl)/\Q (.bl (bs.all id)) H):=by
 intro pins s σ H xs us Q I rv h;obtain ⟨p,bs,rfl,hq,q⟩:=h;obtain ⟨u,rfl,ru⟩:=rv.one
 cases ru
 obtain ⟨its,r,pl,hz⟩:=I.list hq;have hl:=r.length;rw [qAD] at hl;refine call_all_walk (qB8 pl.isList ?_);have hp:p<s.heap.objs.size:=by obtain ⟨o,n,e,_⟩:=pl;exact qAK e
 have I1:Inv X pins σ H {s with heap:=s.heap.push {cls:=.type "list_iterator",data:=.fields #[.ref p,.int 0 0]}}:=I.kept (t':=s.toks) fun b o e=>qAI _ e;refine ⟨s.heap.objs.size,_,_,_,_,_,fun i=>bs.getD i false,rfl,Walks.list (A:=X.A.in1) (show X.A.in1.handled=none from I.ok.hd hc) s.heap.objs.size p (qAT hp) its.toArray,⟨⟨_,qAb _ rfl,rfl,rfl⟩,pl.isList.at fun o e=>qAI _ e⟩,?_,fun h' tk hk=>?_⟩
 ·intro i v s' E' Q' hv hq';obtain ⟨rfl,_⟩:=bls_get r (by simpa using hv);exact qA5 hq'
 ·have e:(List.range its.toArray.size).all (fun i=>bs.getD i false)=bs.all id:=by
   rw [qAP,<-hl];exact all_range bs
  refine ⟨.bl (bs.all id),H,?_,by rw [e];rfl,q⟩;obtain ⟨f0,f1,f2,f3,f4,f5⟩:=I.fpOk (b:=s.heap.objs.size) (qAF _) (I.hok.fresh (qAF _));exact I1.turned (t':=tk) (fun b o hb e=>hk b o (by simpa using hb) e) f0 f1 f3 f4 f5
theorem call_any (X:Cx) (hc:X.calm=true):zCu X (.builtin "any") (fun xs H Q=>∃(p:Addr) (bs:List Bool),xs=[.ref p]/\SqL X.K H p (bs.map V.bl)/\Q (.bl (bs.any id)) H):=by
 intro pins s σ H xs us Q I rv h;obtain ⟨p,bs,rfl,hq,q⟩:=h;obtain ⟨u,rfl,ru⟩:=rv.one
 cases ru
 obtain ⟨its,r,pl,hz⟩:=I.list hq;have hl:=r.length;rw [qAD] at hl;refine call_any_walk (qB8 pl.isList ?_);have hp:p<s.heap.objs.size:=by obtain ⟨o,n,e,_⟩:=pl;exact qAK e
 have I1:Inv X pins σ H {s with heap:=s.heap.push {cls:=.type "list_iterator",data:=.fields #[.ref p,.int 0 0]}}:=I.kept (t':=s.toks) fun b o e=>qAI _ e;refine ⟨s.heap.objs.size,_,_,_,_,_,fun i=>bs.getD i false,rfl,Walks.list (A:=X.A.in1) (show X.A.in1.handled=none from I.ok.hd hc) s.heap.objs.size p (qAT hp) its.toArray,⟨⟨_,qAb _ rfl,rfl,rfl⟩,pl.isList.at fun o e=>qAI _ e⟩,?_,fun h' tk hk=>?_⟩
 ·intro i v s' E' Q' hv hq';obtain ⟨rfl,_⟩:=bls_get r (by simpa using hv);exact qA5 hq'
 ·have e:(List.range its.toArray.size).any (fun i=>bs.getD i false)=bs.any id:=by
   rw [qAP,<-hl];exact any_range bs
  refine ⟨.bl (bs.any id),H,?_,by rw [e];rfl,q⟩;obtain ⟨f0,f1,f2,f3,f4,f5⟩:=I.fpOk (b:=s.heap.objs.size) (qAF _) (I.hok.fresh (qAF _));exact I1.turned (t':=tk) (fun b o hb e=>hk b o (by simpa using hb) e) f0 f1 f3 f4 f5
theorem zA7 :zCu X (.builtin "isinstance") (fun xs H Q=>∃x n t b,xs=[x,.ty n]/\TyOf X.K H x t/\PySem.W.kitOne X.K t (.type n)=some b/\Q (.bl b) H):=by
 intro pins s σ H xs us Q I rv h;obtain ⟨x,n,t,b,rfl,ty,e,q⟩:=h;obtain ⟨u,c,rfl,rx,rc⟩:=rv.two
 cases (show c=Value.type n from rc)
 exact isinst_ok I rx ty e fun tk=>⟨.bl b,H,I.tok tk,rfl,q⟩
theorem op_le_str :OpR X (compareOp .LtE) (fun x y H Q=>∃i j,x= .str i/\y= .str j/\Q (.bl (!(decide (j.cps.toList<i.cps.toList)))) H):=by
 intro pins s σ H x y v u Q I rx ry h;obtain ⟨i,j,rfl,rfl,q⟩:=h;obtain ⟨t,rfl⟩:=rx;obtain ⟨t',rfl⟩:=ry;exact PySem.P.le_str ⟨.bl _,H,I,rfl,q⟩
theorem zH0:∀{ts:List Str} {us:List Value},Vals (ts.map V.str) us->StrsAre us ts
 | [],_,.nil=>.nil
 | t::ts,_,.cons r rr=>by
  obtain ⟨tk,rfl⟩:=r;exact .cons _ _ (zH0 rr)
def rJoin (K:PySem.W.Frag):V->List V->Hp->VK->Prop:=fun x vs H Q=>∃sep p ts,x= .str sep/\vs=[.ref p]/\SqL K H p (ts.map V.str)/\(ts.map (·.length)).sum+ts.length*sep.length<=16777216/\Q (.str (Txt.join sep ts)) H
theorem mt_join :MtR X "str.join" (rJoin X.K):=by
 intro pins s σ H x vs v us Q I rx rv h;obtain ⟨sep,p,ts,rfl,rfl,hq,hz,q⟩:=h;obtain ⟨t,rfl⟩:=rx;obtain ⟨u,rfl,ru⟩:=rv.one
 cases ru
 obtain ⟨its,r,pl,_⟩:=I.list hq;exact PyProof.Rows.join_list pl.isList (by simpa using zH0 r) hz fun t' k=>⟨.str _,H,I.tok k,⟨_,rfl⟩,q⟩
theorem zE6:∀(k:Nat) (ts:List Str),Vals (ts.map V.str) (strsFrom k ts)
 | _,[]=>.nil
 | k,t::ts=>.cons ⟨k,rfl⟩ (zE6 (k+1) ts)
def rSplit:V->List V->Hp->VK->Prop:=fun x vs H Q=>∃z sep,x= .str z/\vs=[.str sep]/\1<=sep.length/\z.length<=1000000/\∀l,H l=none->Q (.ref l) (upd H l (.lst ((Txt.split z sep).map V.str)))
theorem mt_split :MtR X "str.split" rSplit:=by
 intro pins s σ H x vs v us Q I rx rv h;obtain ⟨z,sep,rfl,rfl,h1,hz,q⟩:=h;obtain ⟨t,rfl⟩:=rx;obtain ⟨u,rfl,ru⟩:=rv.one;obtain ⟨t',rfl⟩:=ru;have hs:sizeLine=16777216:=qAO;have hle:=PyProof.Rows.split_le z sep;have hy:(sep.length==0)=false:=by simp;lia
 have key:∀{its:List Value} {tk:Nat},Vals ((Txt.split z sep).map V.str) its->EP X pins σ Q (.ref s.heap.objs.size) {s with heap:=s.heap.push {cls:=.type "list",data:=.seq its.toArray},toks:=tk}:=fun {its tk} r =>
  ⟨.ref s.heap.objs.size,_,I.lnew (t':=tk) r (by rw [qAD,hs];lia),rfl,q _ (I.hok.fresh (qAF _))⟩
 cases e1:(decide (z.length<sep.length)||decide (Builtin.Str.strKind z<Builtin.Str.strKind sep))
 ·cases hf:(Builtin.Str.occurrences z sep 0 z.length (z.length+1)).isEmpty
  ·have e:Txt.split z sep=Builtin.Str.partsBetween z (Builtin.Str.occurrences z sep 0 z.length (z.length+1)) sep.length:=(qAB (ne_true_of_eq_false e1)).trans (qAB (ne_true_of_eq_false hf));refine qA6 F.slot_str_split (qBg _ _ _) F.entry_str_split (F.args_str_split_2 _ _) (meets_str_split_sep z sep t t' e1 hy hf (by lia) (by rw [<-e,hs];lia)) ?_;rw [<-e];exact key (zE6 _ _)
  ·have e:Txt.split z sep=[z]:=(qAB (ne_true_of_eq_false e1)).trans (qAC hf);refine qA6 F.slot_str_split (qBg _ _ _) F.entry_str_split (F.args_str_split_2 _ _) (meets_str_split_not_found z sep t t' e1 hy hf) ?_;rw [e] at key;exact key (its:=[.str z t]) (tk:=s.toks) (.cons ⟨t,rfl⟩ .nil)
 ·have e:Txt.split z sep=[z]:=qAC e1;refine qA6 F.slot_str_split (qBg _ _ _) F.entry_str_split (F.args_str_split_2 _ _) (meets_str_split_cannot_occur z sep t t' e1) ?_;rw [e] at key;exact key (its:=[.str z t]) (tk:=s.toks) (.cons ⟨t,rfl⟩ .nil)
inductive Alike (K:PySem.W.Frag) (H:Hp):Nat->V->V->Prop
 | flat {n:Nat} {x:V} (fx:zDs x=true):Alike K H n x x
 | same {n:Nat} {a:Addr}:Alike K H n (.ref a) (.ref a)
 | lists {n:Nat} {a b:Addr} {xs ys:List V} (hx:SqL K H a xs) (hy:SqL K H b ys) (hl:xs.length=ys.length) (he:∀(i:Nat) (x y:V),xs[i]?=some x->ys[i]?=some y->Alike K H n x y):Alike K H (n+1) (.ref a) (.ref b)
 | tups {n:Nat} {a b:Addr} {xs ys:List V} (hx:SqT K H a xs) (hy:SqT K H b ys) (hl:xs.length=ys.length) (he:∀(i:Nat) (x y:V),xs[i]?=some x->ys[i]?=some y->Alike K H n x y):Alike K H (n+1) (.ref a) (.ref b)
theorem eqV_refl {x:V} (h:zDs x=true):eqV x x=true:=by
 cases x<;>simp [eqV]<;>simp [zDs] at h
section
variable {X:Cx} {pins:List (Addr×Obj)} {σ:St} {H:Hp} {s:Shared}
theorem zGl (n:Nat):(List.range n).all (fun _=>true)=true:=by simp
theorem alike_at (I:Inv X pins σ H s) {n:Nat} {x y:V} (h:Alike X.K H n x y):∀{u v:Value} {A:Around},RelV x u->RelV y v->A.units+n<cLine->SeqAt.EqAt A s u v true:=by
 induction h with
 | flat fx =>
  intro u v A ru rv _;have q:=eqAt_V (A:=A) (s:=s) ru rv fx fx
  rwa [eqV_refl fx] at q
 | same =>
  intro u v A ru rv _
  cases ru
  cases rv
  exact qCW _
 | @lists n a b xs ys hx hy hl he ih =>
  intro u v A ru rv hu
  cases ru
  cases rv
  by_cases ab:a=b
  ·subst ab;exact qCW _
  ·obtain ⟨its,r,pl,hz⟩:=I.list hx;obtain ⟨its2,r2,pl2,hz2⟩:=I.list hy;have e1:=r.length;have e2:=r2.length
   have q:=SeqAt.RcAt.lists (A:=A) (s:=s) (e:=fun _=>true) pl.isList pl2.isList (by rw [qAP,qAP];lia) (by lia) (fun j h1 h2=>by
    rw [qAP] at h1 h2;have hjx:xs[j]?=some (xs[j]'(by lia)):=by simp
    have hjy:ys[j]?=some (ys[j]'(by lia)):=by simp
    obtain ⟨u1,q1,ru1⟩:=r.get hjx;obtain ⟨v1,q2,rv1⟩:=r2.get hjy
    have e3:its.toArray[j]=u1:=by
     have:its[j]?=some its[j]:=by simp
     rw [this] at q1;simpa using q1
    have e4:its2.toArray[j]=v1:=by
     have:its2[j]?=some its2[j]:=by simp
     rw [this] at q2;simpa using q2
    rw [e3,e4];exact ih j _ _ hjx hjy ru1 rv1 (by show A.units+1+n<cLine;lia))
   rw [zGl] at q;exact SeqAt.EqAt.of_refs ab q
 | @tups n a b xs ys hx hy hl he ih =>
  intro u v A ru rv hu
  cases ru
  cases rv
  by_cases ab:a=b
  ·subst ab;exact qCW _
  ·obtain ⟨its,r,pl,hz⟩:=I.tuple hx;obtain ⟨its2,r2,pl2,hz2⟩:=I.tuple hy;have e1:=r.length;have e2:=r2.length
   have q:=SeqAt.RcAt.tuples (A:=A) (s:=s) (e:=fun _=>true) (show s.heap.IsTuple a its.toArray from pl) (show s.heap.IsTuple b its2.toArray from pl2) (by lia) (fun j h1 h2=>by
    rw [qAP] at h1 h2;have hjx:xs[j]?=some (xs[j]'(by lia)):=by simp
    have hjy:ys[j]?=some (ys[j]'(by lia)):=by simp
    obtain ⟨u1,q1,ru1⟩:=r.get hjx;obtain ⟨v1,q2,rv1⟩:=r2.get hjy
    have e3:its.toArray[j]=u1:=by
     have:its[j]?=some its[j]:=by simp
     rw [this] at q1;simpa using q1
    have e4:its2.toArray[j]=v1:=by
     have:its2[j]?=some its2[j]:=by simp
     rw [this] at q2;simpa using q2
    rw [e3,e4];exact ih j _ _ hjx hjy ru1 rv1 (by show A.units+1+n<cLine;lia))
   rw [zGl,Bool.true_and,qAP,qAP,<-e1,<-e2,hl,beq_self_eq_true] at q;exact SeqAt.EqAt.of_refs ab q
theorem alike_items (I:Inv X pins σ H s) {n:Nat} {xs ys:List V} {its its2:List Value} {A:Around} (r:Vals xs its) (r2:Vals ys its2) (he:∀(i:Nat) (x y:V),xs[i]?=some x->ys[i]?=some y->Alike X.K H n x y) (hu:A.units+n<cLine) :
  ∀j (h1:j<its.toArray.size) (h2:j<its2.toArray.size),SeqAt.EqAt A s its.toArray[j] its2.toArray[j] true:=fun j h1 h2=>by
 have e1:=r.length;have e2:=r2.length;rw [qAP] at h1 h2;have hjx:xs[j]?=some (xs[j]'(by lia)):=by simp
 have hjy:ys[j]?=some (ys[j]'(by lia)):=by simp
 obtain ⟨u1,q1,ru1⟩:=r.get hjx;obtain ⟨v1,q2,rv1⟩:=r2.get hjy
 have e3:its.toArray[j]=u1:=by
  have:its[j]?=some its[j]:=by simp
  rw [this] at q1;simpa using q1
 have e4:its2.toArray[j]=v1:=by
  have:its2[j]?=some its2[j]:=by simp
  rw [this] at q2;simpa using q2
 rw [e3,e4];exact alike_at I (he j _ _ hjx hjy) ru1 rv1 hu
end
def rAlike (K:PySem.W.Frag) (n:Nat) (b:Bool):R2:=fun x y H Q=>∃a c xs ys,x= .ref a/\y= .ref c/\SqL K H a xs/\SqL K H c ys/\xs.length=ys.length/\(∀(i:Nat) (x y:V),xs[i]?=some x->ys[i]?=some y->Alike K H n x y)/\Q (.bl b) H
def rUnlen (K:PySem.W.Frag) (b:Bool):R2:=fun x y H Q=>∃a c xs ys,x= .ref a/\y= .ref c/\SqL K H a xs/\SqL K H c ys/\xs.length≠ys.length/\Q (.bl b) H
section
variable {X:Cx}
theorem op_neA {n:Nat} (hu:X.A.units+1+n<cLine):OpR X (compareOp .NotEq) (rAlike X.K n false):=by
 intro pins s σ H x y v u Q I rx ry h;obtain ⟨a,c,xs,ys,rfl,rfl,hx,hy,hl,he,q⟩:=h
 cases rx
 cases ry
 obtain ⟨its,r,pl,hz⟩:=I.list hx;obtain ⟨its2,r2,pl2,hz2⟩:=I.list hy;have e1:=r.length;have e2:=r2.length;refine SeqAt.RcNeAt.lists (e:=fun _=>true) pl.isList pl2.isList (by rw [qAP,qAP];lia) (by lia) (alike_items I r r2 he (by show X.A.units+1+n<cLine;lia)) X.prog X.w X.xe _ ?_;rw [zGl];exact ⟨.bl false,H,I,rfl,q⟩
theorem OpR.either {f:Value->Value->Sem Value} {r r':R2} (h:OpR X f r) (h':OpR X f r'):OpR X f (fun x y H Q=>r x y H Q\/r' x y H Q):=by
 intro pins s σ H x y v u Q I rx ry q;rcases q with q| q
 ·exact h pins s σ H x y v u Q I rx ry q
 ·exact h' pins s σ H x y v u Q I rx ry q
end
end L2
namespace SM
open PySem PySem.StrLaws PySem.Builtin PySem.Builtin.Str
variable {x sep:Str}{c d:Nat}
def glue (S:List Nat):List (List Nat)->List Nat
 | []=>[]
 | [p]=>p
 | p::q::r=>p++S++glue S (q::r)
theorem glue_cons (S p:List Nat) (q:List Nat) (r:List (List Nat)):glue S (p::q::r)=p++S++glue S (q::r):=rfl
structure Own (S:List Nat) (c d:Nat):Prop where
 at_:S[d]?=some c
 one:∀j,S[j]?=some c->j=d
theorem not_at {k:Nat} (O:Own sep.cps.toList c d) (h:x.cps.toList[k+d]?≠some c):¬At x sep x.length k:=by
 intro ⟨h1,h2⟩;rw [subAt_eq] at h2;have h3:(x.cps.toList.drop k).take sep.length=sep.cps.toList:=by simpa using h2
 apply h;have hd:d<sep.cps.toList.length:=(qAh.mp O.at_).1
 have e:(x.cps.toList.drop k)[d]?=some c:=by
  rw [<-qCr (j:=sep.length) (by simpa [Str.length] using hd),h3];exact O.at_
 rw [qCw] at e;exact e
theorem at_of {P R:List Nat} (h:x.cps.toList=P++(sep.cps.toList++R)):At x sep x.length P.length:=by
 have hl:x.length=P.length+(sep.length+R.length):=by
  have:=qAa List.length h;simpa [Str.length] using this
 refine ⟨by lia,?_⟩;rw [subAt_eq,h,List.drop_left];have e:sep.length=sep.cps.toList.length:=by simp [Str.length]
 rw [e,List.take_left];simp
theorem zJf {A B:List Nat} {j:Nat} (h:(A++B)[j]?=some c):(A[j]?=some c)\/(A.length<=j/\B[j - A.length]?=some c):=by
 by_cases hj:j<A.length
 ·rw [qBf hj] at h;exact .inl h
 ·rw [qBe (by lia)] at h;exact .inr ⟨by lia,h⟩
theorem zH4 {A:List Nat} {j:Nat} (h:A[j]?=some c):c∈A:=qAL h
theorem chain_of (O:Own sep.cps.toList c d):∀(parts:List (List Nat)) (P:List Nat),parts≠[]->(∀p∈parts,c∉p)->x.cps.toList=P++glue sep.cps.toList parts ->
  ∃cuts f,ChainG x sep x.length P.length cuts f/\(∀k,f<=k->¬At x sep x.length k)/\partsFrom x sep.length P.length cuts=parts.map fun p=>(⟨p.toArray⟩:Str)
 | [],_,h,_,_=>absurd rfl h
 | [p],P,_,hp,e=>by
  have e:x.cps.toList=P++p:=e
  have hl:x.length=P.length+p.length:=by
   have:=qAa List.length e;simpa [Str.length] using this
  refine ⟨[],P.length,rfl,fun k hk=>not_at O fun z=>?_,?_⟩
  ·rw [e] at z;rcases zJf z with z| ⟨_,z⟩
   ·have:=(qAh.mp z).1;lia
   ·exact hp p (by simp) (zH4 z)
  ·show [strSub x P.length x.length]=[(⟨p.toArray⟩:Str)];congr 1;apply Str.ext';apply Array.toList_inj.mp;rw [strSub_toList,e,List.drop_left];show p.take _=p;exact qBk (by lia)
 | p::q::r,P,_,hp,e=>by
  have e:x.cps.toList=P++(p++sep.cps.toList++glue sep.cps.toList (q::r)):=e;have e2:x.cps.toList=(P++p)++(sep.cps.toList++glue sep.cps.toList (q::r)):=by rw [e];simp [qBT]
  have e3:x.cps.toList=(P++p++sep.cps.toList)++glue sep.cps.toList (q::r):=by rw [e];simp [qBT]
  obtain ⟨cuts,f,h1,h2,h3⟩:=chain_of O (q::r) (P++p++sep.cps.toList) (by simp) (fun y hy=>hp y (qAU _ hy)) e3;have hA:At x sep x.length (P++p).length:=at_of e2;have hlen:(P++p++sep.cps.toList).length=P.length+p.length+sep.length:=by simp [Str.length];lia
  have hPp:(P++p).length=P.length+p.length:=by simp
  rw [hlen] at h1 h3;rw [hPp] at hA;refine ⟨(P.length+p.length)::cuts,f,⟨by lia,hA,fun k hk hk2=>not_at O fun z=>?_,h1⟩,h2,?_⟩
  ·rw [e] at z;rcases zJf z with z| ⟨_,z⟩
   ·have:=(qAh.mp z).1;lia
   ·rw [qBT] at z;rcases zJf z with z| ⟨h5,z⟩
    ·exact hp p (by simp) (zH4 z)
    ·have hd:d<sep.cps.toList.length:=(qAh.mp O.at_).1;rcases zJf z with z| ⟨h6,_⟩
     ·have:=O.one _ z;lia
     ·lia
  ·show strSub x P.length (P.length+p.length)::partsFrom x sep.length (P.length+p.length+sep.length) cuts=_;rw [h3];show _=(⟨p.toArray⟩:Str)::_;congr 1;apply Str.ext';apply Array.toList_inj.mp;rw [strSub_toList,e,List.drop_left];have e4:P.length+p.length - P.length=p.length:=by lia
   rw [e4,qBT,List.take_left]
theorem chain_one (hw:1<=sep.length):∀{a f f':Nat} {cuts cuts':List Nat},ChainG x sep x.length a cuts f->(∀k,f<=k->¬At x sep x.length k)->ChainG x sep x.length a cuts' f'->(∀k,f'<=k->¬At x sep x.length k)->cuts=cuts'
 | a,f,f',[],[],_,_,_,_=>rfl
 | a,f,f',[],d::r',h,hn,h',hn'=>by
  have e:f=a:=h;subst e;exact absurd h'.2.1 (hn d h'.1)
 | a,f,f',c::r,[],h,hn,h',hn'=>by
  have e:f'=a:=h';subst e;exact absurd h.2.1 (hn' c h.1)
 | a,f,f',c::r,d::r',h,hn,h',hn'=>by
  have e:c=d:=by
   rcases Nat.lt_trichotomy c d with z| z| z
   ·exact absurd h.2.1 (h'.2.2.1 c h.1 z)
   ·exact z
   ·exact absurd h'.2.1 (h.2.2.1 d h'.1 z)
  subst e;rw [chain_one hw h.2.2.2 hn h'.2.2.2 hn']
theorem split_glue {x sep:Str} (O:Own sep.cps.toList c d) {parts:List (List Nat)} (h0:parts≠[]) (hp:∀p∈parts,c∉p) (e:x.cps.toList=glue sep.cps.toList parts) (hk:strKind sep=1) :
  Txt.split x sep=parts.map fun p=>(⟨p.toArray⟩:Str):=by
 have hd:d<sep.cps.toList.length:=(qAh.mp O.at_).1
 have hw:1<=sep.length:=by
  have:sep.length=sep.cps.toList.length:=by simp [Str.length]
  lia
 obtain ⟨cuts,f,h1,h2,h3⟩:=chain_of O parts [] h0 hp (by simpa using e);obtain ⟨f',g1,g2⟩:=occ_tight x sep hw;have ec:occurrences x sep 0 x.length (x.length+1)=cuts:=chain_one hw g1 g2 h1 h2
 have one:cuts=[]->[x]=parts.map fun p=>(⟨p.toArray⟩:Str):=fun z=>by
  subst z;rw [<-h3];show [x]=[strSub x 0 x.length];rw [sub_whole]
 unfold Txt.split;split
 ·rename_i hc;refine one ?_;rw [Bool.or_eq_true,qBH,qBH] at hc;rcases hc with hc| hc
  ·cases cuts with
   | nil=>rfl
   | cons a r=>have:=h1.2.1.1;lia
  ·rw [hk] at hc;unfold PySem.Builtin.Str.strKind at hc;split at hc
   ·lia
   ·split at hc<;>lia
 ·split
  ·rename_i he;rw [ec] at he;exact one (List.isEmpty_iff.mp he)
  ·rw [ec,partsBetween_eq];exact h3
theorem glued_toList (sep:Str):∀parts:List Str,(glued sep parts).cps.toList=glue sep.cps.toList (parts.map fun p=>p.cps.toList)
 | []=>rfl
 | [p]=>rfl
 | p::q::r=>by
  have ih:=glued_toList sep (q::r);rw [glued_eq_join] at ih ⊢;show (p++sep++Str.join sep (q::r)).cps.toList=_;simp only [qCa,qCF];rw [ih];rfl
theorem split_glued (O:Own sep.cps.toList c d) {parts:List Str} (h0:parts≠[]) (hp:∀p∈parts,c∉p.cps.toList) (hk:strKind sep=1):Txt.split (glued sep parts) sep=parts:=by
 have h:=split_glue (x:=glued sep parts) O (parts:=parts.map fun p=>p.cps.toList) (by simpa using h0) (by
  intro p hm;obtain ⟨q,hq,rfl⟩:=qAJ.mp hm;exact hp q hq) (glued_toList sep parts) hk
 rw [h,qA1]
 conv=>rhs;rw [<-List.map_id parts]
 exact qCx fun p _=>by
  show (⟨p.cps.toList.toArray⟩:Str)=p;simp
end SM
namespace L2
open PySem PySem.Spec PyProof.Rows
variable {M:List Addr}{H H1 H':Hp}{a D:Addr}{σ:St}{ix:List (Option Nat)}{g:TG}{tt:TT}{te:TE}{QD:Hp->Prop}
structure Cal (P:Program) (w:World) (K:PySem.W.Frag) (mg:Str->Option Value) (base:Heap) (x:Str) (k:Nat) (ps:List Str) (sp:Sp):Prop where
 to:∃(f:Addr) (fd:FuncData),mg x=some (.ref f)/\PySem.W.keepIn K (.ref f)=true/\zC9 K fd ps []/\FnOk P w K mg base CX0 k f fd ps sp
theorem zAf {X:Cx} {x:Str} {k:Nat} {ps:List Str} {sp:Sp} {e:Expr} {es:List Expr} {p pos:Pos} {t:TA} (C:Cal X.prog X.w X.K X.mg X.base x k ps sp) (hr:Room k X.A) (hg:Gl X x) (ha:PA X (e::es) t)
  (hdb:(x==("__debug__" : Str))=false:=by decide) (he:starEach (e::es) X.env=(false,eval e X.env)::starEach es X.env:=by rfl) (hpl:(backTo pos (starEach es X.env)).any (·.1)=false:=by rfl) :
  PE X (.Call (.Name x p) (e::es) [] pos) (tCall sp [] E0 t):=by
 obtain ⟨f,fd,h1,h2,h3,h4⟩:=C.to;exact pe_call h4 hr hg h1 h2 h3 .nil pass0 ha hdb he hpl
theorem bo_max:bootBuiltins "max" = some (.builtin "max"):=by decide +kernel
theorem bo_min:bootBuiltins "min" = some (.builtin "min"):=by decide +kernel
theorem bo_all:bootBuiltins "all" = some (.builtin "all"):=by decide +kernel
theorem bo_any:bootBuiltins "any" = some (.builtin "any"):=by decide +kernel
theorem zAo:bootBuiltins "isinstance" = some (.builtin "isinstance"):=by decide +kernel
theorem bo_sorted:bootBuiltins "sorted" = some (.builtin "sorted"):=by decide +kernel
theorem zBq:bootBuiltins "len" = some (.builtin "len"):=by decide +kernel
theorem zIb:bootBuiltins "int" = some (.type "int"):=by decide +kernel
theorem bo_str:bootBuiltins "str" = some (.type "str"):=by decide +kernel
theorem zBi:bootBuiltins "list" = some (.type "list"):=by decide +kernel
theorem zGk:bootBuiltins "tuple" = some (.type "tuple"):=by decide +kernel
theorem bo_set:bootBuiltins "set" = some (.type "set"):=by decide +kernel
theorem bo_bool:bootBuiltins "bool" = some (.type "bool"):=by decide +kernel
theorem zHk:bootBuiltins "reversed" = some (.type "reversed"):=by decide +kernel
def Fre (H:Hp) (l:Addr):Prop:=H l=none
def Kp (M:List Addr) (H H':Hp):Prop:=∀b o,H b=some o->b∉M->H' b=some o
theorem Kp.refl :Kp M H H:=fun _ _ h _=>h
theorem Kp.trans {H2:Hp} (a:Kp M H H1) (b:Kp M H1 H2):Kp M H H2:=fun c o h n=>b c o (a c o h n) n
theorem Kp.weak {M':List Addr} (k:Kp M H H') (s:∀b,b∈M->b∈M'):Kp M' H H':=fun b o h n=>k b o h fun z=>n (s b z)
theorem Kp.new {M:List Addr} {l:Addr} {o:HO} (k:Kp M H H') (f:Fre H l):Kp M H (upd H' l o):=fun b u h n=>by
 rw [upd_ne (zAg h f)];exact k b u h n
theorem Kp.put {M:List Addr} {l:Addr} {o:HO} (k:Kp M H H') (f:l∈M):Kp M H (upd H' l o):=fun b u h n=>by
 rw [upd_ne (by intro e;subst e;exact n f)];exact k b u h n
theorem Kp.fre {l:Addr} (k:Kp M H H') (f:Fre H' l) (n:l∉M):Fre H l:=by
 unfold Fre
 cases q:H l with
 | none=>rfl
 | some o =>
  have:=k l o q n;unfold Fre at f;rw [f] at this;cases this
theorem Kp.at0 (k:Kp [] H H'):Same H H':=fun b o h=>k b o h (by simp)
theorem Kp.seq {K:PySem.W.Frag} {xs:List V} (e:Kp [] H H') (h:SqL K H a xs):SqL K H' a xs:=e.at0.seq h
theorem ne_fre {b:Addr} {o:HO} (f:Fre H b) (h:H a=some o):a≠b:=zAg h f
theorem nm1 {b:Addr} (h:a≠b):a∉[b]:=by simpa using h
theorem nm2 {b c:Addr} (h:a≠b) (h':a≠c):a∉[b,c]:=by simp;exact ⟨h,h'⟩
theorem zCa {α:Type} {xs:List α} {i:Int} {v:α} (h0:0<=i) (h:xs[i.toNat]?=some v):atI xs i=some v:=by
 have hl:i.toNat<xs.length:=(qAh.mp h).1;unfold atI ixN;rw [qAC h0,qAC (by lia)];exact h
theorem hu2 {A:Around} {k n:Nat} (hr:Room k A) (h:n<=60:=by decide):A.units+1+n<cLine:=by
 have:=hr.units;lia
theorem hu0 {A:Around} {k:Nat} (hr:Room k A):A.units<cLine:=by
 have:=hr.units;lia
theorem op_neL {X:Cx} {k:Nat} (hr:Room k X.A):OpR X (compareOp .NotEq) (rAlike X.K 8 false):=op_neA (hu2 hr)
theorem zC2 {K:PySem.W.Frag} {t:Value} (h:(t==t)=true:=by rfl):PySem.W.kitOne K t t=some true:=by
 unfold PySem.W.kitOne;rw [qAC h]
theorem app_empty (x:Str):x++Str.empty=x:=Str.append_right_empty (by rfl)
theorem empty_app (x:Str):Str.empty++x=x:=Str.append_left_empty (by rfl)
theorem zHl (x y z:Str):x++y++z=x++(y++z):=by
 apply Str.ext';simp [qCa,Array.append_assoc]
theorem join_len (sep:Str) (xs:List Str):(Txt.join sep xs).length<=(xs.map (·.length)).sum+xs.length*sep.length:=by
 show (Builtin.Str.glued sep xs).length<=_;rw [qDF];exact StrLaws.join_length_le sep xs
theorem sum_le {α:Type} (f:α->Nat) (m:Nat):∀{xs:List α},(∀x∈xs,f x<=m)->(xs.map f).sum<=xs.length*m
 | [],_=>by simp
 | x::r,h=>by
  have h1:=h x qAV;have h2:=sum_le f m (xs:=r) fun y hy=>h y (qAU _ hy);simp only [qAi,List.sum_cons,qAe];rw [Nat.succ_mul];lia
theorem seq_mid {t u:TS} {D:Ends} (Mid:St->Hp->Prop) (h1:∀N:St->Hp->Prop,(∀σ H,Mid σ H->N σ H)->t {D with nx:=N} σ H) (h2:∀σ H,Mid σ H->u D σ H):tSeq t u D σ H:=h1 (u D) h2
theorem if_mid {tb:TS} {D:Ends} {b:Bool} (Mid:St->Hp->Prop) (h1:∀N:St->Hp->Prop,(∀σ H,Mid σ H->N σ H)->if b=true then tb {D with nx:=N} σ H else N σ H) (h2:∀σ H,Mid σ H->D.nx σ H) :
  if b=true then tb D σ H else tNext D σ H:=h1 D.nx h2
theorem zB6 {K:PySem.W.Frag} {tt:TT} (xs:List V) (Pv:Nat->List V->St->Hp->Prop) (h0:Pv 0 [] (zB8 σ ix) (upd H1 D (.lst [])))
  (hl:∀i ys τ H,Pv i ys τ H->SqL K H a xs)
  (hs:∀i x ys τ H,xs[i]?=some x->Pv i ys τ H->g x τ H fun τ' H4=>tt τ' H4 fun b H5=>if b=true then te τ' H5 fun v H6=>H6 D=some (.lst ys)/\ys.length<sizeLine/\Pv (i+1) (ys++[v]) τ' (upd H6 D (.lst (ys++[v]))) else Pv (i+1) ys τ' H5)
  (hd:∀ys τ H,Pv xs.length ys τ H->QD H) :
  ∃W:Nat->Nat->List V->St->Hp->Prop,(∃m,W 0 m [] (zB8 σ ix) (upd H1 D (.lst [])))/\∀i m ys τ H2,W i m ys τ H2 ->
   ((Itl K a).stop i H2/\QD H2)\/((Itl K a).go i H2/\∃N:List V->St->Hp->Prop,(∀ys' τ' H',N ys' τ' H'->∃m',m'<m/\W (i+1) m' ys' τ' H')/\∀x H3,(Itl K a).yld i H2 x H3->g x τ H3 fun τ' H4=>tt τ' H4 fun b H5 =>
    if b=true then te τ' H5 fun v H6=>H6 D=some (.lst ys)/\ys.length<sizeLine/\N (ys++[v]) τ' (upd H6 D (.lst (ys++[v])))
    else N ys τ' H5):=by
 refine comp_by (Q:=fun _ H=>QD H) xs Pv h0 (fun i ys τ H p=>⟨fun x hx=>⟨⟨xs,x,hl i ys τ H p,hx⟩,fun y H' yl=>?_⟩,fun e=>⟨xs,hl i ys τ H p,by lia⟩⟩) hs hd;obtain ⟨e,z⟩:=yl;subst e;have:=z xs (hl i ys τ _ p);rw [hx] at this;exact ⟨rfl,(qAd this).symm⟩
theorem comp_tup {K:PySem.W.Frag} {tt:TT} (xs:List V) (Pv:Nat->List V->St->Hp->Prop) (h0:Pv 0 [] (zB8 σ ix) (upd H1 D (.lst [])))
  (hl:∀i ys τ H,Pv i ys τ H->SqT K H a xs)
  (hs:∀i x ys τ H,xs[i]?=some x->Pv i ys τ H->g x τ H fun τ' H4=>tt τ' H4 fun b H5=>if b=true then te τ' H5 fun v H6=>H6 D=some (.lst ys)/\ys.length<sizeLine/\Pv (i+1) (ys++[v]) τ' (upd H6 D (.lst (ys++[v]))) else Pv (i+1) ys τ' H5)
  (hd:∀ys τ H,Pv xs.length ys τ H->QD H) :
  ∃W:Nat->Nat->List V->St->Hp->Prop,(∃m,W 0 m [] (zB8 σ ix) (upd H1 D (.lst [])))/\∀i m ys τ H2,W i m ys τ H2 ->
   ((Itt K a).stop i H2/\QD H2)\/((Itt K a).go i H2/\∃N:List V->St->Hp->Prop,(∀ys' τ' H',N ys' τ' H'->∃m',m'<m/\W (i+1) m' ys' τ' H')/\∀x H3,(Itt K a).yld i H2 x H3->g x τ H3 fun τ' H4=>tt τ' H4 fun b H5 =>
    if b=true then te τ' H5 fun v H6=>H6 D=some (.lst ys)/\ys.length<sizeLine/\N (ys++[v]) τ' (upd H6 D (.lst (ys++[v])))
    else N ys τ' H5):=by
 refine comp_by (Q:=fun _ H=>QD H) xs Pv h0 (fun i ys τ H p=>⟨fun x hx=>⟨⟨xs,x,hl i ys τ H p,hx⟩,fun y H' yl=>?_⟩,fun e=>⟨xs,hl i ys τ H p,by lia⟩⟩) hs hd;obtain ⟨e,z⟩:=yl;subst e;have:=z xs (hl i ys τ _ p);rw [hx] at this;exact ⟨rfl,(qAd this).symm⟩
theorem comp_range {lo:Int} {n:Nat} {tt:TT} (Pv:Nat->List V->St->Hp->Prop) (h0:Pv 0 [] (zB8 σ ix) (upd H1 D (.lst [])))
  (hs:∀i ys τ H,i<n->Pv i ys τ H->g (.int (lo+i)) τ H fun τ' H4=>tt τ' H4 fun b H5=>if b=true then te τ' H5 fun v H6=>H6 D=some (.lst ys)/\ys.length<sizeLine/\Pv (i+1) (ys++[v]) τ' (upd H6 D (.lst (ys++[v]))) else Pv (i+1) ys τ' H5)
  (hd:∀ys τ H,Pv n ys τ H->QD H) :
  ∃W:Nat->Nat->List V->St->Hp->Prop,(∃m,W 0 m [] (zB8 σ ix) (upd H1 D (.lst [])))/\∀i m ys τ H2,W i m ys τ H2 ->
   ((Itr lo n).stop i H2/\QD H2)\/((Itr lo n).go i H2/\∃N:List V->St->Hp->Prop,(∀ys' τ' H',N ys' τ' H'->∃m',m'<m/\W (i+1) m' ys' τ' H')/\∀x H3,(Itr lo n).yld i H2 x H3->g x τ H3 fun τ' H4=>tt τ' H4 fun b H5 =>
    if b=true then te τ' H5 fun v H6=>H6 D=some (.lst ys)/\ys.length<sizeLine/\N (ys++[v]) τ' (upd H6 D (.lst (ys++[v])))
    else N ys τ' H5):=by
 refine ⟨fun i m ys τ H=>m=n - i/\i<=n/\Pv i ys τ H,⟨n,by simp,qAg _,h0⟩,?_⟩;rintro i m ys τ H ⟨rfl,hi,p⟩
 by_cases hlt:i<n
 ·refine .inr ⟨hlt,Pv (i+1),fun ys' τ' H' p'=>⟨n - (i+1),by lia,rfl,hlt,p'⟩,fun y H' yd=>?_⟩;obtain ⟨e1,e2⟩:=yd;subst e1 e2;exact hs i ys τ _ hlt p
 ·have e:i=n:=by lia
  subst e;exact .inl ⟨qAF _,hd ys τ H p⟩
theorem comp_str {z:Str} {tt:TT} (Pv:Nat->List V->St->Hp->Prop) (h0:Pv 0 [] (zB8 σ ix) (upd H1 D (.lst [])))
  (hs:∀i c ys τ H,z.cps.toList[i]?=some c->Pv i ys τ H->g (.str ⟨#[c]⟩) τ H fun τ' H4=>tt τ' H4 fun b H5=>if b=true then te τ' H5 fun v H6=>H6 D=some (.lst ys)/\ys.length<sizeLine/\Pv (i+1) (ys++[v]) τ' (upd H6 D (.lst (ys++[v]))) else Pv (i+1) ys τ' H5)
  (hd:∀ys τ H,Pv z.length ys τ H->QD H) :
  ∃W:Nat->Nat->List V->St->Hp->Prop,(∃m,W 0 m [] (zB8 σ ix) (upd H1 D (.lst [])))/\∀i m ys τ H2,W i m ys τ H2 ->
   ((Its z).stop i H2/\QD H2)\/((Its z).go i H2/\∃N:List V->St->Hp->Prop,(∀ys' τ' H',N ys' τ' H'->∃m',m'<m/\W (i+1) m' ys' τ' H')/\∀x H3,(Its z).yld i H2 x H3->g x τ H3 fun τ' H4=>tt τ' H4 fun b H5 =>
    if b=true then te τ' H5 fun v H6=>H6 D=some (.lst ys)/\ys.length<sizeLine/\N (ys++[v]) τ' (upd H6 D (.lst (ys++[v])))
    else N ys τ' H5):=by
 refine ⟨fun i m ys τ H=>m=z.length - i/\i<=z.length/\Pv i ys τ H,⟨z.length,by simp,qAg _,h0⟩,?_⟩;rintro i m ys τ H ⟨rfl,hi,p⟩
 by_cases hlt:i<z.length
 ·refine .inr ⟨hlt,Pv (i+1),fun ys' τ' H' p'=>⟨z.length - (i+1),by lia,rfl,hlt,p'⟩,fun y H' yd=>?_⟩;obtain ⟨e1,c,e2,e3⟩:=yd;subst e1 e3;exact hs i c ys τ _ (by simpa using e2) p
 ·have e:i=z.length:=by lia
  subst e;exact .inl ⟨qAF _,hd ys τ H p⟩
theorem zA5 {K:PySem.W.Frag} (xs:List V) (Pv:Nat->List V->St->Hp->Prop) (h0:Pv 0 [] (zB8 σ ix) (upd H1 D (.lst [])))
  (hl:∀i ys τ H,Pv i ys τ H->SqL K H a xs)
  (hs:∀i x ys τ H,xs[i]?=some x->Pv i ys τ H->g x τ H fun τ' H4=>te τ' H4 fun v H6=>H6 D=some (.lst ys)/\ys.length<sizeLine/\Pv (i+1) (ys++[v]) τ' (upd H6 D (.lst (ys++[v]))))
  (hd:∀ys τ H,Pv xs.length ys τ H->QD H) :
  ∃W:Nat->Nat->List V->St->Hp->Prop,(∃m,W 0 m [] (zB8 σ ix) (upd H1 D (.lst [])))/\∀i m ys τ H2,W i m ys τ H2 ->
   ((Itl K a).stop i H2/\QD H2)\/((Itl K a).go i H2/\∃N:List V->St->Hp->Prop,(∀ys' τ' H',N ys' τ' H'->∃m',m'<m/\W (i+1) m' ys' τ' H')/\∀x H3,(Itl K a).yld i H2 x H3->g x τ H3 fun τ' H4=>zIf τ' H4 fun b H5 =>
    if b=true then te τ' H5 fun v H6=>H6 D=some (.lst ys)/\ys.length<sizeLine/\N (ys++[v]) τ' (upd H6 D (.lst (ys++[v])))
    else N ys τ' H5):=zB6 (tt:=zIf) xs Pv h0 hl hs hd
theorem comp_tup0 {K:PySem.W.Frag} (xs:List V) (Pv:Nat->List V->St->Hp->Prop) (h0:Pv 0 [] (zB8 σ ix) (upd H1 D (.lst [])))
  (hl:∀i ys τ H,Pv i ys τ H->SqT K H a xs)
  (hs:∀i x ys τ H,xs[i]?=some x->Pv i ys τ H->g x τ H fun τ' H4=>te τ' H4 fun v H6=>H6 D=some (.lst ys)/\ys.length<sizeLine/\Pv (i+1) (ys++[v]) τ' (upd H6 D (.lst (ys++[v]))))
  (hd:∀ys τ H,Pv xs.length ys τ H->QD H) :
  ∃W:Nat->Nat->List V->St->Hp->Prop,(∃m,W 0 m [] (zB8 σ ix) (upd H1 D (.lst [])))/\∀i m ys τ H2,W i m ys τ H2 ->
   ((Itt K a).stop i H2/\QD H2)\/((Itt K a).go i H2/\∃N:List V->St->Hp->Prop,(∀ys' τ' H',N ys' τ' H'->∃m',m'<m/\W (i+1) m' ys' τ' H')/\∀x H3,(Itt K a).yld i H2 x H3->g x τ H3 fun τ' H4=>zIf τ' H4 fun b H5 =>
    if b=true then te τ' H5 fun v H6=>H6 D=some (.lst ys)/\ys.length<sizeLine/\N (ys++[v]) τ' (upd H6 D (.lst (ys++[v])))
    else N ys τ' H5):=comp_tup (tt:=zIf) xs Pv h0 hl hs hd
theorem comp_range0 {lo:Int} {n:Nat} (Pv:Nat->List V->St->Hp->Prop) (h0:Pv 0 [] (zB8 σ ix) (upd H1 D (.lst [])))
  (hs:∀i ys τ H,i<n->Pv i ys τ H->g (.int (lo+i)) τ H fun τ' H4=>te τ' H4 fun v H6=>H6 D=some (.lst ys)/\ys.length<sizeLine/\Pv (i+1) (ys++[v]) τ' (upd H6 D (.lst (ys++[v]))))
  (hd:∀ys τ H,Pv n ys τ H->QD H) :
  ∃W:Nat->Nat->List V->St->Hp->Prop,(∃m,W 0 m [] (zB8 σ ix) (upd H1 D (.lst [])))/\∀i m ys τ H2,W i m ys τ H2 ->
   ((Itr lo n).stop i H2/\QD H2)\/((Itr lo n).go i H2/\∃N:List V->St->Hp->Prop,(∀ys' τ' H',N ys' τ' H'->∃m',m'<m/\W (i+1) m' ys' τ' H')/\∀x H3,(Itr lo n).yld i H2 x H3->g x τ H3 fun τ' H4=>zIf τ' H4 fun b H5 =>
    if b=true then te τ' H5 fun v H6=>H6 D=some (.lst ys)/\ys.length<sizeLine/\N (ys++[v]) τ' (upd H6 D (.lst (ys++[v])))
    else N ys τ' H5):=comp_range (tt:=zIf) Pv h0 hs hd
theorem comp_str0 {z:Str} (Pv:Nat->List V->St->Hp->Prop) (h0:Pv 0 [] (zB8 σ ix) (upd H1 D (.lst [])))
  (hs:∀i c ys τ H,z.cps.toList[i]?=some c->Pv i ys τ H->g (.str ⟨#[c]⟩) τ H fun τ' H4=>te τ' H4 fun v H6=>H6 D=some (.lst ys)/\ys.length<sizeLine/\Pv (i+1) (ys++[v]) τ' (upd H6 D (.lst (ys++[v]))))
  (hd:∀ys τ H,Pv z.length ys τ H->QD H) :
  ∃W:Nat->Nat->List V->St->Hp->Prop,(∃m,W 0 m [] (zB8 σ ix) (upd H1 D (.lst [])))/\∀i m ys τ H2,W i m ys τ H2 ->
   ((Its z).stop i H2/\QD H2)\/((Its z).go i H2/\∃N:List V->St->Hp->Prop,(∀ys' τ' H',N ys' τ' H'->∃m',m'<m/\W (i+1) m' ys' τ' H')/\∀x H3,(Its z).yld i H2 x H3->g x τ H3 fun τ' H4=>zIf τ' H4 fun b H5 =>
    if b=true then te τ' H5 fun v H6=>H6 D=some (.lst ys)/\ys.length<sizeLine/\N (ys++[v]) τ' (upd H6 D (.lst (ys++[v])))
    else N ys τ' H5):=comp_str (tt:=zIf) Pv h0 hs hd
section
variable {X:Cx} {K:PySem.W.Frag}
theorem zFi (hK:X.K=K:=by rfl):IxR X (rIxL K):=by subst hK;exact zAx
theorem zFm (hK:X.K=K:=by rfl):zCu X (.type "list") (fun xs H Q=>∃p ys,xs=[.ref p]/\(SqL K H p ys\/SqT K H p ys)/\∀l,H l=none->Q (.ref l) (upd H l (.lst ys))):=by subst hK;exact zAy
theorem zDr (hK:X.K=K:=by rfl):OpR X (compareOp .NotIn) (rIn K true):=by subst hK;exact zC1
theorem call_anyK (hc:X.calm=true) (hK:X.K=K:=by rfl):zCu X (.builtin "any") (fun xs H Q=>∃(p:Addr) (bs:List Bool),xs=[.ref p]/\SqL K H p (bs.map V.bl)/\Q (.bl (bs.any id)) H):=by subst hK;exact call_any X hc
end
theorem Kp.drop {H2:Hp} {p:Addr} (k1:Kp [] H H1) (f:Fre H p) (k2:Kp [p] H1 H2):Kp [] H H2:=fun b o h _=>k2 b o (k1 b o h (by simp)) (nm1 (ne_fre f h))
end L2
namespace Tim
open PySem PyProof.Rows
variable {i:Nat}{st:SortSt}
def gal:Bool->Keyed->Array Keyed->Nat->Nat->Nat->StateT SortSt Sem (Option Nat):=sortPriv% PySem.Builtin.gallop
def mLo:Array Keyed->Array Keyed->StateT SortSt Sem (Array Keyed):=sortPriv% PySem.Builtin.mergeLo
def mHi:Array Keyed->Array Keyed->StateT SortSt Sem (Array Keyed):=sortPriv% PySem.Builtin.mergeHi
def kk (κ:KeyKind) (p:Keyed):κ.α:=(κ.keyOf p.1).getD κ.dflt
def Has (κ:KeyKind) (p:Keyed):Prop:=∃a,κ.keyOf p.1=some a
theorem Has.key {κ:KeyKind} {p:Keyed} (h:Has κ p):κ.keyOf p.1=some (kk κ p):=by
 obtain ⟨a,e⟩:=h;unfold kk;rw [e];rfl
theorem KK_at {κ:KeyKind} {xs:Array Keyed} {p:Keyed} (h:xs[i]?=some p):KK κ xs i=kk κ p:=by
 unfold KK kk;rw [h]
def CmpOk (prog:Program) (w:World) (A:Around) (s:Shared) (kd:SortKind) (κ:KeyKind):Prop :=
 ∀(E:Value->Shared->Prop) (x y:Value) (a b:κ.α) (Q:Bool->Shared->Prop),κ.keyOf x=some a->κ.keyOf y=some b->Q (κ.blt a b) s->wpAny (model prog w) A (keyLt' kd x y) Q E s
section
variable {prog:Program} {w:World} {A:Around} {E:Value->Shared->Prop} {s:Shared} {kd:SortKind} {κ:KeyKind}
theorem w_lt {x y:Keyed} {Q:Option Bool->SortSt->Prop} (C:CmpOk prog w A s kd κ) (hk:kindOf st=kd) (hx:Has κ x) (hy:Has κ y) (h:Q (some (κ.blt (kk κ x) (kk κ y))) st):wpS (model prog w) A E s (lt' x y) Q st:=by
 rw [lt'_eq];refine qAG (qBI ?_);rw [hk];exact qAG (qBl (qCb (C _ x.1 y.1 _ _ _ hx.key hy.key ⟨rfl,qAH h⟩)))
theorem zBj {arr:Array Keyed} {p:Keyed} {Q:Keyed->SortSt->Prop} (e:arr[i]?=some p) (h:Q p st):wpS (model prog w) A E s (elem' arr i) Q st:=by
 rw [elem'_eq,e];exact qAH h
theorem w_ltAt {j:Nat} {Q:Option Bool->SortSt->Prop} (C:CmpOk prog w A s kd κ) (hk:kindOf st=kd) (hi:∃p,(arrOf st)[i]?=some p/\Has κ p) (hj:∃p,(arrOf st)[j]?=some p/\Has κ p)
  (h:Q (some (κ.blt (KK κ (arrOf st) i) (KK κ (arrOf st) j))) st):wpS (model prog w) A E s (ltAt' i j) Q st:=by
 obtain ⟨p,e1,h1⟩:=hi;obtain ⟨q,e2,h2⟩:=hj;rw [KK_at e1,KK_at e2] at h;rw [ltAt'_eq];exact qAG (qBI (qAG (zBj e1 (qAG (zBj e2 (w_lt C hk h1 h2 h))))))
def byd (left:Bool) (key:Keyed) (arr:Array Keyed) (base i:Nat):StateT SortSt Sem (Option Bool):=do
 let x<-elem' arr (base+i)
 if left=true then lt' x key else (do let r<-lt' key x;pure (r.map fun b=>!b))
theorem w_byd {left:Bool} {key:Keyed} {arr:Array Keyed} {base:Nat} {Q:Option Bool->SortSt->Prop} (C:CmpOk prog w A s kd κ) (hk:kindOf st=kd) (hkey:Has κ key) (hi:∃p,arr[base+i]?=some p/\Has κ p)
  (h:Q (some (if left=true then κ.blt (KK κ arr (base+i)) (kk κ key) else !κ.blt (kk κ key) (KK κ arr (base+i)))) st):wpS (model prog w) A E s (byd left key arr base i) Q st:=by
 obtain ⟨p,e,hp⟩:=hi;rw [KK_at e] at h;refine qAG (zBj e ?_)
 cases left with
 | true=>exact w_lt C hk hp hkey h
 | false=>exact qAG (w_lt C hk hkey hp (qAH h))
end
end Tim
namespace ST
open PySem PySem.SetTable
variable {xs:Array Nat}{i j mask N:Nat}{α:Type}{hs:List Int}{b:Addr}
abbrev Rise (l:List Nat):Prop:=l.Pairwise (·<·)
theorem zEi (hr:Rise xs.toList) {k:Nat} {x y:Nat} (hik:i<k) (ex:xs[i]?=some x) (ey:xs[k]?=some y):x<y:=by
 rw [<-qAl] at ex ey;obtain ⟨hi,rfl⟩:=qAh.mp ex;obtain ⟨hk,rfl⟩:=qAh.mp ey;exact List.pairwise_iff_getElem.mp hr i k hi hk hik
structure Bel (xs:Array Nat) (j r:Nat):Prop where
 le:r<=xs.size
 lo:∀i x,i<r->xs[i]?=some x->x<j
 hi:∀i x,r<=i->xs[i]?=some x->j<=x
theorem zJl (hr:Rise xs.toList) :∀(fuel lo hi:Nat),hi - lo<=fuel->lo<=hi->hi<=xs.size->(∀i x,i<lo->xs[i]?=some x->x<j)->(∀i x,hi<=i->xs[i]?=some x->j<=x)->Bel xs j (below.go xs j fuel lo hi)
 | 0,lo,hi,h1,h2,h3,h4,h5=>by
  have e:lo=hi:=by lia
  subst e;exact ⟨h3,h4,h5⟩
 | fuel+1,lo,hi,h1,h2,h3,h4,h5=>by
  unfold below.go
  by_cases c:lo<hi
  ·rw [qAC c];have hm:(lo+hi) / 2<xs.size:=by lia
   have em:xs[(lo+hi) / 2]?=some xs[(lo+hi) / 2]:=by simp
   have eD:xs.getD ((lo+hi) / 2) j=xs[(lo+hi) / 2]:=by simp [Array.getD,hm]
   show Bel xs j (if xs.getD ((lo+hi) / 2) j<j then _ else _);rw [eD]
   by_cases d:xs[(lo+hi) / 2]<j
   ·rw [qAC d];refine zJl hr fuel _ hi (by lia) (by lia) h3 (fun i x hi' ex=>?_) h5
    by_cases q:i=(lo+hi) / 2
    ·subst q;rw [em] at ex;cases ex;exact d
    ·have:=zEi hr (show i<(lo+hi) / 2 by lia) ex em;lia
   ·rw [qAB d];refine zJl hr fuel lo _ (by lia) (by lia) (by lia) h4 (fun i x hi' ex=>?_)
    by_cases q:i=(lo+hi) / 2
    ·subst q;rw [em] at ex;cases ex;lia
    ·have:=zEi hr (show (lo+hi) / 2<i by lia) em ex;lia
  ·rw [qAB c];have e:lo=hi:=by lia
   subst e;exact ⟨h3,h4,h5⟩
theorem zEo (hr:Rise xs.toList) (j:Nat):Bel xs j (below xs j) :=
 zJl hr xs.size 0 xs.size (by lia) (by lia) (qAF _) (fun i x h=>by lia) (fun i x h e=>by
  have:=(qBm.mp e).1;lia)
theorem Bel.at (hr:Rise xs.toList) {r:Nat} (B:Bel xs j r) (e:xs[i]?=some j):r=i:=by
 rcases Nat.lt_trichotomy r i with z| z| z
 ·have hi:i<xs.size:=(qBm.mp e).1;have er:xs[r]?=some (xs[r]'(by lia)):=by simp
  have h1:=B.hi r _ (qAF _) er;have h2:=zEi hr z er e;lia
 ·exact z
 ·have:=B.lo i j z e;lia
def Tb (mask:Nat):SetTable:={mask:=mask,place:=#[],dummies:=#[],finger:=0,led:=false,moves:=0,plain:=false}
def pr (mask:Nat) (h:Int):Nat->Probe
 | 0=>(Tb mask).probeStart h
 | n+1=>(Tb mask).advance (pr mask h n)
def rs (mask:Nat) (h:Int):Nat->Nat×Nat
 | 0=>(bits h % (mask+1),bits h)
 | r+1=>leap mask (rs mask h r).1 (rs mask h r).2
def stt (mask:Nat) (h:Int):Nat->Nat
 | 0=>0
 | r+1=>stt mask h r+(runEnd mask (rs mask h r).1 - (rs mask h r).1+1)
theorem rs_le (mask:Nat) (h:Int):∀r,(rs mask h r).1<=mask
 | 0=>Nat.le_of_lt_succ (Nat.mod_lt _ (Nat.succ_pos _))
 | r+1=>Nat.le_of_lt_succ (Nat.mod_lt _ (Nat.succ_pos _))
theorem run_le (mask i:Nat) (hi:i<=mask):i<=runEnd mask i/\runEnd mask i<=mask/\runEnd mask i - i<=9:=by
 unfold runEnd;split<;>lia
theorem stt_le (mask:Nat) (h:Int):∀r,stt mask h r<=10*r
 | 0=>qAF _
 | r+1=>by
  have h1:=stt_le mask h r;have h2:=(run_le mask _ (rs_le mask h r)).2.2;show stt mask h r+(runEnd mask (rs mask h r).1 - (rs mask h r).1+1)<=_;lia
theorem adv_more (mask:Nat) (p:Probe) (h:p.more>0):(Tb mask).advance p={p with j:=p.j+1,more:=p.more - 1}:=by
 unfold advance;rw [qAC h]
theorem adv_leap (mask:Nat) (p:Probe) (h:p.more=0):(Tb mask).advance p={p with j:=(leap mask p.i p.perturb).1,more:=runEnd mask (leap mask p.i p.perturb).1 - (leap mask p.i p.perturb).1,i:=(leap mask p.i p.perturb).1,perturb:=(leap mask p.i p.perturb).2}:=by
 unfold advance;rw [qAB (by lia)];rfl
theorem zFb (mask:Nat) (h:Int):∀(r k:Nat),k<=runEnd mask (rs mask h r).1 - (rs mask h r).1 ->
  pr mask h (stt mask h r+k)={j:=(rs mask h r).1+k,more:=runEnd mask (rs mask h r).1 - (rs mask h r).1 - k,i:=(rs mask h r).1,perturb:=(rs mask h r).2,dummy:=none}
 | 0,0,_=>rfl
 | r+1,0,_=>by
  have ih:=zFb mask h r (runEnd mask (rs mask h r).1 - (rs mask h r).1) (qAF _);show pr mask h (stt mask h r+(runEnd mask (rs mask h r).1 - (rs mask h r).1)+1)=_;show (Tb mask).advance (pr mask h (stt mask h r+(runEnd mask (rs mask h r).1 - (rs mask h r).1)))=_;rw [ih,adv_leap _ _ (by simp)];rfl
 | r,k+1,hk=>by
  have ih:=zFb mask h r k (by lia);show (Tb mask).advance (pr mask h (stt mask h r+k))=_;rw [ih,adv_more _ _ (by show _ - k>0;lia)];simp only [Probe.mk.injEq];exact ⟨by lia,by lia,trivial,trivial,trivial⟩
theorem pr_at (mask:Nat) (h:Int) (n:Nat):∃r k,n=stt mask h r+k/\k<=runEnd mask (rs mask h r).1 - (rs mask h r).1:=by
 induction n with
 | zero=>exact ⟨0,0,rfl,qAg _⟩
 | succ n ih =>
  obtain ⟨r,k,e,hk⟩:=ih
  by_cases c:k<runEnd mask (rs mask h r).1 - (rs mask h r).1
  ·exact ⟨r,k+1,by lia,c⟩
  ·refine ⟨r+1,0,?_,qAg _⟩;show n+1=stt mask h r+(runEnd mask (rs mask h r).1 - (rs mask h r).1+1)+0;lia
theorem pr_le (mask:Nat) (h:Int) (n:Nat):(pr mask h n).j<=mask:=by
 obtain ⟨r,k,e,hk⟩:=pr_at mask h n;rw [e,zFb mask h r k hk];have:=run_le mask _ (rs_le mask h r);show (rs mask h r).1+k<=mask;lia
theorem pr_dummy (mask:Nat) (h:Int) (n:Nat):(pr mask h n).dummy=none:=by
 obtain ⟨r,k,e,hk⟩:=pr_at mask h n;rw [e,zFb mask h r k hk]
theorem bits_lt (h:Int):bits h<2^64:=by
 unfold bits;have h1:=qCG h (show (2^64:Int)≠0 by decide);have h2:=qCH h (show (0:Int)<2^64 by decide);lia
theorem rs_pert (mask:Nat) (h:Int):∀r,(rs mask h r).2=bits h / 32^r
 | 0=>by simp [rs]
 | r+1=>by
  show (rs mask h r).2 / 32=_;rw [rs_pert mask h r,Nat.div_div_eq_div_mul,Nat.pow_succ]
theorem rs_pert0 (mask:Nat) (h:Int) (r:Nat) (hr:13<=r):(rs mask h r).2=0:=by
 rw [rs_pert];have h1:=bits_lt h;have h2:32^13<=32^r:=Nat.pow_le_pow_right (by decide) hr;have h3:(2:Nat)^64<32^13:=by decide
 exact Nat.div_eq_of_lt (by lia)
def f5 (mask i:Nat):Nat:=(i*5+1) % (mask+1)
def it5 (mask:Nat):Nat->Nat->Nat
 | 0,i=>i
 | n+1,i=>it5 mask n (f5 mask i)
theorem zHe (mask:Nat):∀(a b i:Nat),it5 mask (a+b) i=it5 mask b (it5 mask a i)
 | 0,b,i=>by rw [Nat.zero_add];rfl
 | a+1,b,i=>by
  rw [show a+1+b=(a+b)+1 by lia];show it5 mask (a+b) (f5 mask i)=it5 mask b (it5 mask a (f5 mask i));exact zHe mask a b _
theorem rs_it5 (mask:Nat) (h:Int) (n:Nat):(rs mask h (13+n)).1=it5 mask n (rs mask h 13).1:=by
 induction n with
 | zero=>rfl
 | succ n ih =>
  show (leap mask (rs mask h (13+n)).1 (rs mask h (13+n)).2).1=_;rw [rs_pert0 mask h (13+n) (by lia),ih,show n+1=n+1 from rfl,zHe mask n 1];show ((it5 mask n _)*5+1+0 / 32) % (mask+1)=f5 mask (it5 mask n _);unfold f5;simp
def Msk (mask:Nat):Prop:=mask=7\/mask=31\/mask=127\/mask=511
def orb (mask:Nat):Nat->Nat->List Nat
 | 0,_=>[]
 | n+1,i=>i::orb mask n (f5 mask i)
theorem orb_mem (mask:Nat):∀(n i s:Nat),s∈orb mask n i->∃a,a<n/\it5 mask a i=s
 | 0,i,s,h=>by simp [orb] at h
 | n+1,i,s,h=>by
  rcases qAS.mp h with z| z
  ·exact ⟨0,by lia,z.symm⟩
  ·obtain ⟨a,ha,e⟩:=orb_mem mask n (f5 mask i) s z;exact ⟨a+1,by lia,e⟩
theorem orb_all (hm:Msk mask):(List.range (mask+1)).all (fun s=>(orb mask (mask+1) 0).contains s)=true/\it5 mask (mask+1) 0=0:=by
 rcases hm with rfl| rfl| rfl| rfl
 ·exact ⟨by decide +kernel,by decide +kernel⟩
 ·exact ⟨by decide +kernel,by decide +kernel⟩
 ·exact ⟨by decide +kernel,by decide +kernel⟩
 ·exact ⟨by decide +kernel,by decide +kernel⟩
theorem cyc (hm:Msk mask) (i s:Nat) (hi:i<=mask) (hs:s<=mask):∃r,r<=mask/\it5 mask r i=s:=by
 obtain ⟨h1,h2⟩:=orb_all hm
 have get:∀x,x<=mask->∃a,a<mask+1/\it5 mask a 0=x:=fun x hx=>by
  have:=qBj.mp h1 x (qA4.mpr (by lia));exact orb_mem mask (mask+1) 0 x (by simpa using this)
 obtain ⟨a,ha,ea⟩:=get i hi;obtain ⟨b,hb,eb⟩:=get s hs
 by_cases c:a<=b
 ·refine ⟨b - a,by lia,?_⟩;rw [<-ea,<-zHe,show a+(b - a)=b by lia,eb]
 ·refine ⟨mask+1 - a+b,by lia,?_⟩;rw [<-ea,<-zHe,show a+(mask+1 - a+b)=mask+1+b by lia,zHe,h2,eb]
theorem pr_all (hm:Msk mask) (h:Int) (s:Nat) (hs:s<=mask):∃r,r<=13+mask/\(rs mask h r).1=s:=by
 obtain ⟨r,hr,e⟩:=cyc hm (rs mask h 13).1 s (rs_le mask h 13) hs;exact ⟨13+r,by lia,by rw [rs_it5,e]⟩
theorem free_slot {L:List Nat} (hL:L.length<=mask):∃s,s<=mask/\s∉L:=by
 apply qBO;intro h
 have sub:∀s,s∈List.range (mask+1)->s∈L:=fun s hs=>by
  apply qBO;intro q;exact h ⟨s,by have:=qA4.mp hs;lia,q⟩
 have:=(List.nodup_range (n:=mask+1)).length_le_of_subset sub;rw [List.length_range] at this;lia
theorem pr_free (hm:Msk mask) (h:Int) {L:List Nat} (hL:L.length<=mask):∃n,n<10*turns mask/\(pr mask h n).j∉L:=by
 obtain ⟨s,hs,q⟩:=free_slot hL;obtain ⟨r,hr,e⟩:=pr_all hm h s hs;refine ⟨stt mask h r,?_,?_⟩
 ·have:=stt_le mask h r;unfold turns;lia
 ·have:=zFb mask h r 0 (qAg _);rw [qCy] at this;rw [this];show (rs mask h r).1+0∉L;rw [qCy,e];exact q
theorem zIa (hm:Msk mask) (h:Int) {L:List Nat} (hL:L.length<=mask):∃n,n<10*turns mask/\(pr mask h n).j∉L/\∀m,m<n->(pr mask h m).j∈L:=by
 obtain ⟨n,hn,q⟩:=pr_free hm h hL
 induction n using Nat.strongRecOn with
 | _ n ih =>
  by_cases c:∃m,m<n/\(pr mask h m).j∉L
  ·obtain ⟨m,hm',qm⟩:=c;exact ih m hm' (by lia) qm
  ·refine ⟨n,hn,q,fun m hmn=>?_⟩;apply qBO;intro z;exact c ⟨m,hmn,z⟩
structure TOk (t:SetTable) (hs:List Int):Prop where
 m:Msk t.mask
 d:t.dummies=#[]
 r:Rise t.place.toList
 l:∀j∈t.place.toList,j<=t.mask
 n:t.place.size=hs.length
 f:t.place.size<=t.mask
 reach:∀(i j:Nat) (h:Int),t.place[i]?=some j->hs[i]?=some h->∃n,(pr t.mask h n).j=j/\∀m,m<n->(pr t.mask h m).j∈t.place.toList
theorem fresh_ok (fi mo:Nat) (led:Bool):TOk (SetTable.fresh fi mo led) [] :=
 ⟨.inl rfl,rfl,List.Pairwise.nil,(fun j h=>absurd (show j∈([]:List Nat) from h) (by simp)),rfl,qAg _,(fun i j h _ e=>by simp at e)⟩
theorem has_nil (j:Nat):has #[] j=false:=by
 unfold SetTable.has;simp
section
variable {t:SetTable} {hs:List Int}
theorem slot_live (T:TOk t hs) (e:t.place[i]?=some j):t.slot j= .live i:=by
 have b:=(zEo T.r j).at T.r e;unfold slot;rw [b];show (if (t.place[i]?==some j)=true then _ else _)=_;rw [e];simp
theorem slot_empty (T:TOk t hs) (h:j∉t.place.toList):t.slot j= .empty:=by
 unfold slot
 have e:(t.place[below t.place j]?==some j)=false:=by
  rw [qAw];intro z;exact h (qAL (i:=below t.place j) (by rw [qAl];exact z))
 simp only [e,T.d,has_nil];simp
theorem mem_at (h:j∈xs.toList):∃i:Nat,xs[i]?=some j:=by
 obtain ⟨i,hi,e⟩:=qA7.mp h;exact ⟨i,by rw [<-qAl];exact qAh.mpr ⟨hi,e⟩⟩
def Oth (t:SetTable) (hashAt:Nat->Int) (h:Int) (m:Nat):Prop:=∃i:Nat,t.place[i]?=some (pr t.mask h m).j/\hashAt i≠h
theorem adv_pr (t:SetTable) (h:Int) (n:Nat):t.advance (pr t.mask h n)=pr t.mask h (n+1):=rfl
theorem go_ok (T:TOk t hs) (hashAt:Nat->Int) (h:Int) (hN:(pr t.mask h N).j∉t.place.toList) (hb:∀m,m<N->(pr t.mask h m).j∈t.place.toList):∀(d n fuel:Nat),N=n+d->d<fuel ->
  (probe.go t hashAt h fuel (pr t.mask h n)=some (.empty (pr t.mask h N).j none)/\∀m,n<=m->m<N->Oth t hashAt h m) \/
  ∃m i,n<=m/\m<N/\t.place[i]?=some (pr t.mask h m).j/\hashAt i=h/\probe.go t hashAt h fuel (pr t.mask h n)=some (.candidate (pr t.mask h m).j i (pr t.mask h (m+1)))/\∀m',n<=m'->m'<m->Oth t hashAt h m'
 | 0,n,fuel+1,e,_=>by
  have e:N=n:=by lia
  subst e;left;refine ⟨?_,fun m h1 h2=>by lia⟩;unfold probe.go;rw [slot_empty T hN];show some (Met.empty _ (pr t.mask h N).dummy)=_;rw [pr_dummy]
 | d+1,n,fuel+1,e,hf=>by
  obtain ⟨i,ei⟩:=mem_at (hb n (by lia));unfold probe.go;rw [slot_live T ei]
  by_cases c:hashAt i=h
  ·right;refine ⟨n,i,qAF _,by lia,ei,c,?_,fun m' h1 h2=>by lia⟩;show (if (hashAt i==h)=true then _ else _)=_;rw [qAC (by simpa using c),adv_pr]
  ·have q:(if (hashAt i==h)=true then some (Met.candidate (pr t.mask h n).j i (t.advance (pr t.mask h n))) else probe.go t hashAt h fuel (t.advance (pr t.mask h n)))=probe.go t hashAt h fuel (pr t.mask h (n+1)):=by
    rw [qAB (by simpa using c),adv_pr]
   rcases go_ok T hashAt h hN hb d (n+1) fuel (by lia) (by lia) with ⟨z1,z2⟩| ⟨m,i',z1,z2,z3,z4,z5,z6⟩
   ·left;refine ⟨q.trans z1,fun m h1 h2=>?_⟩
    by_cases cm:m=n
    ·subst cm;exact ⟨i,ei,c⟩
    ·exact z2 m (by lia) h2
   ·right;refine ⟨m,i',by lia,z2,z3,z4,q.trans z5,fun m' h1 h2=>?_⟩
    by_cases cm:m'=n
    ·subst cm;exact ⟨i,ei,c⟩
    ·exact z6 m' (by lia) h2
 | _,_,0,_,h=>by lia
theorem zJd (xs:Array α) (p:Nat) (x:α) (hp:p<=xs.size):(insertAt xs p x).toList=xs.toList.take p++x::xs.toList.drop p:=by
 unfold insertAt;rw [qCF,qCc,qBu,qBu,List.extract_eq_drop_take,List.extract_eq_drop_take];rw [qBk (l:=xs.toList.drop p) (by simp)];simp
theorem ins_rise (hr:Rise xs.toList) (hj:j∉xs.toList):Rise (insertAt xs (below xs j) j).toList:=by
 have B:=zEo hr j;rw [zJd _ _ _ B.le];refine List.pairwise_append.mpr ⟨hr.sublist (List.take_sublist _ _),List.pairwise_cons.mpr ⟨fun y hy=>?_,hr.sublist (List.drop_sublist _ _)⟩,fun x hx y hy=>?_⟩
 ·obtain ⟨i,hi,rfl⟩:=qA7.mp hy;rw [qBM] at hi
  have e:xs[below xs j+i]?=some (xs.toList.drop (below xs j))[i]:=by
   rw [<-qAl,<-qCw];simp
  have h1:=B.hi _ _ (qCd _ i) e;have h2:(xs.toList.drop (below xs j))[i]≠j:=fun z=>hj (z▸qBv hy);lia
 ·have hxj:x<j:=by
   obtain ⟨i,hi,rfl⟩:=qA7.mp hx;rw [qAX] at hi
   have e:xs[i]?=some (xs.toList.take (below xs j))[i]:=by
    rw [<-qAl,<-qCr (show i<below xs j by lia)];exact qAp _
   exact B.lo i _ (by lia) e
  rcases qAS.mp hy with z| z
  ·rw [z];exact hxj
  ·obtain ⟨i,hi,rfl⟩:=qA7.mp z;rw [qBM] at hi
   have e:xs[below xs j+i]?=some (xs.toList.drop (below xs j))[i]:=by
    rw [<-qAl,<-qCw];simp
   have h1:=B.hi _ _ (qCd _ i) e;lia
theorem zFw {β:Type} {L:List α} {M:List β} (hl:L.length=M.length) {p:Nat} (hp:p<=L.length) {x:α} {y:β} {u:α} {v:β} (h1:(L.take p++x::L.drop p)[i]?=some u) (h2:(M.take p++y::M.drop p)[i]?=some v) :
  (u=x/\v=y)\/∃i':Nat,L[i']?=some u/\M[i']?=some v:=by
 have l1:(L.take p).length=p:=by rw [qAX];lia
 have l2:(M.take p).length=p:=by rw [qAX];lia
 by_cases c:i<p
 ·rw [qBf (by lia),qCr c] at h1 h2;exact .inr ⟨i,h1,h2⟩
 ·rw [qBe (by lia)] at h1 h2;rw [l1] at h1;rw [l2] at h2
  cases e:i - p with
  | zero =>
   rw [e] at h1 h2;exact .inl ⟨(by simpa using h1.symm),(by simpa using h2.symm)⟩
  | succ k =>
   rw [e] at h1 h2;rw [qCe,qCw] at h1 h2;exact .inr ⟨p+k,h1,h2⟩
theorem put_ok (T:TOk t hs) (h:Int) (hN:(pr t.mask h N).j∉t.place.toList) (hb:∀m,m<N->(pr t.mask h m).j∈t.place.toList) (hf:t.place.size+1<=t.mask) :
  TOk (t.put (pr t.mask h N).j).1 (hs.take (t.put (pr t.mask h N).j).2++h::hs.drop (t.put (pr t.mask h N).j).2):=by
 have B:=zEo T.r (pr t.mask h N).j;have ep:(t.put (pr t.mask h N).j).2=below t.place (pr t.mask h N).j:=rfl;have el:(t.put (pr t.mask h N).j).1.place=insertAt t.place (below t.place (pr t.mask h N).j) (pr t.mask h N).j:=rfl;have em:(t.put (pr t.mask h N).j).1.mask=t.mask:=rfl;have tl:=zJd t.place (below t.place (pr t.mask h N).j) (pr t.mask h N).j B.le
 have mem:∀j,j∈t.place.toList->j∈(insertAt t.place (below t.place (pr t.mask h N).j) (pr t.mask h N).j).toList:=fun j hj=>by
  rw [tl];have:j∈t.place.toList.take (below t.place (pr t.mask h N).j)++t.place.toList.drop (below t.place (pr t.mask h N).j):=by rw [qCI];exact hj
  rcases qAN.mp this with z| z
  ·exact qAq _ z
  ·exact qAr _ (qAU _ z)
 have sz:(insertAt t.place (below t.place (pr t.mask h N).j) (pr t.mask h N).j).size=t.place.size+1:=by
  have:=qAa List.length tl;simp only [qBb,qAj,qAe,qAX,qBM] at this;have:=B.le;lia
 refine ⟨T.m,?_,ins_rise T.r hN,fun j hj=>?_,?_,?_,fun i j h' e1 e2=>?_⟩
 ·show (if has t.dummies (pr t.mask h N).j then _ else t.dummies)=#[];rw [T.d,has_nil];rfl
 ·rw [em];rw [el,tl] at hj;rcases qAN.mp hj with z| z
  ·exact T.l j (qBw z)
  ·rcases qAS.mp z with z| z
   ·rw [z];exact pr_le _ _ _
   ·exact T.l j (qBv z)
 ·rw [el,sz,ep,qAj,qAe,qAX,qBM];have:=B.le;have:=T.n;lia
 ·rw [el,sz];exact hf
 ·rw [em];rw [el,<-qAl,tl] at e1;rw [ep] at e2;rw [el];rcases zFw (L:=t.place.toList) (M:=hs) (by simpa using T.n) (by simpa using B.le) e1 e2 with ⟨z1,z2⟩| ⟨i',z1,z2⟩
  ·subst z1 z2;exact ⟨N,rfl,fun m hm=>mem _ (hb m hm)⟩
  ·obtain ⟨n,q1,q2⟩:=T.reach i' j h' (by rw [<-qAl];exact z1) z2;exact ⟨n,q1,fun m hm=>mem _ (q2 m hm)⟩
end
structure Ow (mask:Nat) (hs:List Int) (owner:Array (Option Nat)) (sl:List Nat):Prop where
 z:owner.size=mask+1
 n:sl.length=hs.length
 nd:sl.Nodup
 l:∀j∈sl,j<=mask
 a:∀(k j:Nat),sl[k]?=some j->owner[j]?=some (some k)
 e:∀j,j<=mask->j∉sl->owner[j]?=some none
 reach:∀(k j:Nat) (h:Int),sl[k]?=some j->hs[k]?=some h->∃n,(pr mask h n).j=j/\∀m,m<n->(pr mask h m).j∈sl
theorem zI8 {owner:Array (Option Nat)} {sl:List Nat} (O:Ow mask hs owner sl) (hj:j<=mask):((owner.getD j (some 0)).isNone=true)↔j∉sl:=by
 have hz:j<owner.size:=by rw [O.z];lia
 have eD:owner.getD j (some 0)=owner[j]:=by simp [Array.getD,hz]
 rw [eD];constructor
 ·intro h q;obtain ⟨k,hk,e⟩:=qA7.mp q;have:=O.a k j (qAh.mpr ⟨hk,e⟩);rw [qDG hz] at this;rw [qAd this] at h;simp at h
 ·intro q;have:=O.e j hj q;rw [qDG hz] at this;rw [qAd this];rfl
theorem free_go {owner:Array (Option Nat)} {sl:List Nat} (hm:Msk mask) (O:Ow mask hs owner sl) (hl:sl.length<=mask) (h:Int) (hN:(pr mask h N).j∉sl) (hb:∀m,m<N->(pr mask h m).j∈sl) {R:Nat} (hR:(rs mask h R).1∉sl) :
  ∀(fuel r:Nat),stt mask h r<=N->R<r+fuel->layClean.free mask owner fuel (rs mask h r).1 (rs mask h r).2=some (pr mask h N).j
 | 0,r,h1,h2=>by
  exfalso
  have key:∀d,stt mask h R<=stt mask h (R+d)/\(0<d->stt mask h R<stt mask h (R+d)):=by
   intro d
   induction d with
   | zero=>exact ⟨qAF _,fun z=>by lia⟩
   | succ d ih =>
    have e:stt mask h (R+(d+1))=stt mask h (R+d)+(runEnd mask (rs mask h (R+d)).1 - (rs mask h (R+d)).1+1):=rfl;exact ⟨by lia,fun _=>by lia⟩
  obtain ⟨d,rfl⟩:∃d,r=R+d:=⟨r - R,by lia⟩;have hd:0<d:=by lia
  have:=(key d).2 hd;have q:=hb (stt mask h R) (by lia);have e:=zFb mask h R 0 (qAg _);rw [qCy] at e;rw [e] at q;exact hR (by simpa using q)
 | fuel+1,r,h1,h2=>by
  have rl:=run_le mask _ (rs_le mask h r);unfold layClean.free
  cases q:(List.range (runEnd mask (rs mask h r).1+1 - (rs mask h r).1)).find? fun k=>(owner.getD ((rs mask h r).1+k) (some 0)).isNone with
  | some k =>
   have q1:=List.find?_some q;have q2:=qDH q;rw [qA4] at q2;have q1:((owner.getD ((rs mask h r).1+k) (some 0)).isNone)=true:=q1;rw [zI8 O (by lia)] at q1;have e:=zFb mask h r k (by lia);have hk:(pr mask h (stt mask h r+k)).j=(rs mask h r).1+k:=by rw [e]
   have c1:¬stt mask h r+k<N:=fun z=>q1 (hk▸hb _ z)
   have c2:¬N<stt mask h r+k:=fun z=>by
    obtain ⟨d,hd⟩:∃d,N=stt mask h r+d:=⟨N - stt mask h r,by lia⟩;have hdk:d<k:=by lia
    rw [List.find?_eq_some_iff_append] at q;obtain ⟨_,as,bs,e1,e2⟩:=q
    have la:as.length=k:=by
     have:=qAa (fun l=>l[as.length]?) e1;simp at this
     by_cases cc:as.length<runEnd mask (rs mask h r).1+1 - (rs mask h r).1
     ·rw [List.getElem?_range cc] at this;exact qAd this
     ·rw [qDI (by simp;lia)] at this
      cases this
    have mem:d∈as:=by
     have hd':(List.range (runEnd mask (rs mask h r).1+1 - (rs mask h r).1))[d]?=some d:=List.getElem?_range (by lia);rw [e1,qBf (by lia)] at hd';exact qAL hd'
    have z1:=e2 d mem;have ed:=zFb mask h r d (by lia);have hjd:(pr mask h N).j=(rs mask h r).1+d:=by rw [hd,ed]
    have z2:((owner.getD ((rs mask h r).1+d) (some 0)).isNone)=true:=(zI8 O (by lia)).mpr (hjd▸hN);rw [z2] at z1;simp at z1
   have eN:N=stt mask h r+k:=by lia
   show some ((rs mask h r).1+k)=_;rw [eN,hk]
  | none =>
   have q1:=qBn.mp q;refine free_go hm O hl h hN hb hR fuel (r+1) ?_ (by lia);show stt mask h r+(runEnd mask (rs mask h r).1 - (rs mask h r).1+1)<=N;apply qBO;intro c;obtain ⟨d,hd⟩:∃d,N=stt mask h r+d:=⟨N - stt mask h r,by lia⟩;have ed:=zFb mask h r d (by lia);have hjd:(pr mask h N).j=(rs mask h r).1+d:=by rw [hd,ed]
   have z1:=q1 d (qA4.mpr (by lia));have z2:((owner.getD ((rs mask h r).1+d) (some 0)).isNone)=true:=(zI8 O (by lia)).mpr (hjd▸hN);exact z1 z2
theorem free_ok {owner:Array (Option Nat)} {sl:List Nat} (hm:Msk mask) (O:Ow mask hs owner sl) (hl:sl.length<=mask) (h:Int) :
  ∃N,(pr mask h N).j∉sl/\(∀m,m<N->(pr mask h m).j∈sl)/\layClean.free mask owner (turns mask) (bits h % (mask+1)) (bits h)=some (pr mask h N).j:=by
 obtain ⟨N,_,hN,hb⟩:=zIa hm h hl;obtain ⟨s,hs',q⟩:=free_slot hl;obtain ⟨R,hR,e⟩:=pr_all hm h s hs';exact ⟨N,hN,hb,free_go hm O hl h hN hb (R:=R) (by rw [e];exact q) (turns mask) 0 (qAg _) (by unfold turns;lia)⟩
theorem Ow.more {owner:Array (Option Nat)} {sl:List Nat} (O:Ow mask hs owner sl) (h:Int) (hN:(pr mask h N).j∉sl) (hb:∀m,m<N->(pr mask h m).j∈sl) :
  Ow mask (hs++[h]) (owner.setIfInBounds (pr mask h N).j (some hs.length)) (sl++[(pr mask h N).j]):=by
 have hj:=pr_le mask h N;have hz:(pr mask h N).j<owner.size:=by rw [O.z];lia
 have one:∀{k j:Nat},(sl++[(pr mask h N).j])[k]?=some j->(k<sl.length/\sl[k]?=some j)\/(k=sl.length/\j=(pr mask h N).j):=fun {k j} e=>by
  by_cases c:k<sl.length
  ·rw [qBf c] at e;exact .inl ⟨c,e⟩
  ·rw [qBe (by lia)] at e
   have hk:k=sl.length:=by
    have:=(qAh.mp e).1;simp at this;lia
   subst hk;exact .inr ⟨rfl,by simpa using e.symm⟩
 refine ⟨by rw [qDJ];exact O.z,by simp [O.n],?_,fun j hj'=>?_,fun k j e=>?_,fun j hj1 hj2=>?_,fun k j h' e1 e2=>?_⟩
 ·refine qCf.mpr ⟨O.nd,qBD.mpr ⟨by simp,qBP⟩,fun a ha b hb'=>?_⟩;have:b=(pr mask h N).j:=by simpa using hb'
  subst this;intro z;subst z;exact hN ha
 ·rcases qAN.mp hj' with z| z
  ·exact O.l j z
  ·have:j=(pr mask h N).j:=by simpa using z
   rw [this];exact hj
 ·rcases one e with ⟨_,z⟩| ⟨z1,z2⟩
  ·have hne:j≠(pr mask h N).j:=fun q=>hN (q▸qAL z);rw [Array.getElem?_setIfInBounds_ne (qAm hne)];exact O.a k j z
  ·subst z1 z2;rw [Array.getElem?_setIfInBounds_self_of_lt hz,O.n]
 ·have h1:j∉sl:=fun q=>hj2 (qAq _ q);have h2:j≠(pr mask h N).j:=fun q=>hj2 (qAr _ (by simp [q]));rw [Array.getElem?_setIfInBounds_ne (qAm h2)];exact O.e j hj1 h1
 ·rcases one e1 with ⟨c,z⟩| ⟨z1,z2⟩
  ·rw [qBf (by rw [<-O.n];exact c)] at e2;obtain ⟨n,q1,q2⟩:=O.reach k j h' z e2;exact ⟨n,q1,fun m hm=>qAq _ (q2 m hm)⟩
  ·subst z1 z2;rw [qBe (by rw [O.n];exact qAF _),O.n] at e2;have:h'=h:=by simpa using e2.symm
   subst this;exact ⟨N,rfl,fun m hm=>qAq _ (hb m hm)⟩
theorem lay_ok (hm:Msk mask) (hs:List Int) (hl:hs.length<=mask):∃owner sl,Ow mask hs owner sl/\layClean mask hs.toArray=some owner:=by
 have key:∀(rest done:List Int) (owner:Array (Option Nat)) (sl:List Nat),Ow mask done owner sl->done.length+rest.length<=mask ->
   ∃owner' sl',Ow mask (done++rest) owner' sl'/\rest.foldl (fun (acc:Option (Array (Option Nat)×Nat)) h=>do
    let (owner,k)<-acc
    let j<-layClean.free mask owner (turns mask) (bits h % (mask+1)) (bits h)
    pure (owner.setIfInBounds j (some k),k+1)) (some (owner,done.length))=some (owner',(done++rest).length):=by
  intro rest
  induction rest with
  | nil=>intro done owner sl O _;exact ⟨owner,sl,by rw [qBK];exact O,by rw [qBK];rfl⟩
  | cons h rest ih =>
   intro done owner sl O hl;rw [qAe] at hl;obtain ⟨N,hN,hb,ef⟩:=free_ok hm O (by rw [O.n];lia) h;have O2:=O.more h hN hb;obtain ⟨o',s',O3,e3⟩:=ih (done++[h]) _ _ O2 (by rw [qAj];simp;lia);refine ⟨o',s',by simpa using O3,?_⟩;rw [qBU]
   have e4:(do
    let (owner,k)<-(some (owner,done.length):Option (Array (Option Nat)×Nat))
    let j<-layClean.free mask owner (turns mask) (bits h % (mask+1)) (bits h)
    pure (owner.setIfInBounds j (some k),k+1))=some (owner.setIfInBounds (pr mask h N).j (some done.length),(done++[h]).length):=by
    show (do
     let j<-layClean.free mask owner (turns mask) (bits h % (mask+1)) (bits h)
     pure (owner.setIfInBounds j (some done.length),done.length+1))=_
    rw [ef];simp
   rw [e4,e3];simp
 have O0:Ow mask [] (Array.replicate (mask+1) none) []:=⟨Array.size_replicate,rfl,qBP,(fun j h=>absurd h qBQ),(fun k j e=>by rw [List.getElem?_nil] at e;cases e),(fun j hj _=>by rw [Array.getElem?_replicate,qAC (by lia)]),(fun k j h e=>by rw [List.getElem?_nil] at e;cases e)⟩;obtain ⟨o,sl,O,e⟩:=key hs [] _ _ O0 (by simpa using hl);refine ⟨o,sl,by simpa using O,?_⟩;unfold layClean;rw [List.foldl_toArray];have e':=e;simp only [List.nil_append,qBV] at e';show Option.map _ (hs.foldl _ (some (Array.replicate (mask+1) none,0)))=_;rw [e'];rfl
theorem laid_ok (hm:Msk mask) (hs:List Int) (hl:hs.length<=mask) (fi mo:Nat) (led plain:Bool):∃t order,laid mask fi mo led plain hs.toArray=some (t,order)/\t.mask=mask/\t.led=led/\t.plain=plain/\order.toList.Perm (List.range hs.length) /\
  TOk t (order.toList.map fun k=>hs.getD k 0):=by
 obtain ⟨owner,sl,O,e⟩:=lay_ok hm hs hl
 have hg:∀j,j<=mask->owner.getD j none=(owner[j]?).getD none:=fun j hj=>by
  have hz:j<owner.size:=by rw [O.z];lia
  simp [Array.getD,hz]
 have el:∀j,j<=mask->((owner.getD j none).map (j,·)=none↔j∉sl):=fun j hj=>by
  rw [hg j hj];constructor
  ·intro q z;obtain ⟨k,hk,ek⟩:=qA7.mp z;rw [O.a k j (qAh.mpr ⟨hk,ek⟩)] at q
   cases q
  ·intro q;rw [O.e j hj q];rfl
 have es:∀j k,j<=mask->((owner.getD j none).map (j,·)=some (j,k)↔sl[k]?=some j):=fun j k hj=>by
  rw [hg j hj];constructor
  ·intro q
   by_cases c:j∈sl
   ·obtain ⟨k',hk,ek⟩:=qA7.mp c;have ek':=qAh.mpr ⟨hk,ek⟩;rw [O.a k' j ek'] at q;have q:some (j,k')=some (j,k):=q;injection q with q;injection q with _ q;rw [<-q];exact ek'
   ·rw [O.e j hj c] at q;cases q
  ·intro q;rw [O.a k j q];rfl
 generalize hlive:(List.range (mask+1)).filterMap (fun j=>(owner.getD j none).map (j,·))=live
 have mem:∀p,p∈live↔sl[p.2]?=some p.1:=fun p=>by
  rw [<-hlive,List.mem_filterMap];constructor
  ·rintro ⟨j,hj,q⟩;have hj':j<=mask:=by have:=qA4.mp hj;lia
   have:p.1=j:=by
    cases h:owner.getD j none with
    | none=>rw [h] at q;cases q
    | some k=>rw [h] at q;have q:some (j,k)=some p:=q;injection q with q;rw [<-q]
   subst this;exact (es p.1 p.2 hj').mp q
  ·intro q;have hj:p.1<=mask:=O.l _ (qAL q);exact ⟨p.1,qA4.mpr (by lia),(es p.1 p.2 hj).mpr q⟩
 have rise:Rise (live.map (·.1)):=by
  have h1:(List.range (mask+1)).Pairwise (·<·):=List.pairwise_lt_range;rw [<-hlive,List.map_filterMap];refine List.Pairwise.filterMap _ (fun a b hab x hx y hy=>?_) h1
  cases ha:owner.getD a none with
  | none=>rw [ha] at hx;cases hx
  | some k =>
   rw [ha] at hx;have hx:some a=some x:=hx
   cases hb:owner.getD b none with
   | none=>rw [hb] at hy;cases hy
   | some k' =>
    rw [hb] at hy;have hy:some b=some y:=hy;injection hx with hx;injection hy with hy;lia
 have nd2:(live.map (·.2)).Nodup:=by
  have hr:live.Pairwise (fun a b=>a.1<b.1):=List.pairwise_map.mp rise;refine List.pairwise_map.mpr (hr.imp_of_mem fun {a b} ha hb hab q=>?_);have h1:=(mem a).mp ha;have h2:=(mem b).mp hb;rw [q] at h1;rw [h1] at h2;have:=qAd h2;lia
 have perm:(live.map (·.2)).Perm (List.range hs.length):=by
  refine (List.perm_ext_iff_of_nodup nd2 List.nodup_range).mpr fun k=>?_;rw [qA4,qAJ];constructor
  ·rintro ⟨p,hp,rfl⟩;have:=(qAh.mp ((mem p).mp hp)).1;rw [O.n] at this;exact this
  ·intro hk;have hk':k<sl.length:=by rw [O.n];exact hk
   exact ⟨(sl[k],k),(mem _).mpr (by simp),rfl⟩
 have pmem:∀j,j∈live.map (·.1)↔j∈sl:=fun j=>by
  rw [qAJ];constructor
  ·rintro ⟨p,hp,rfl⟩;exact qAL ((mem p).mp hp)
  ·intro q;obtain ⟨k,hk,ek⟩:=qA7.mp q;exact ⟨(j,k),(mem _).mpr (qAh.mpr ⟨hk,ek⟩),rfl⟩
 have llen:live.length=hs.length:=by
  have:=perm.length_eq;simpa using this
 refine ⟨{mask,place:=(live.map (·.1)).toArray,dummies:=#[],finger:=fi,led,moves:=mo,plain},(live.map (·.2)).toArray,?_,rfl,rfl,rfl,by simpa using perm,?_⟩
 ·unfold laid;rw [e];show some (_,_)=some (_,_);rw [hlive]
 ·refine ⟨hm,rfl,by simpa using rise,fun j hj=>?_,by simp [llen],by simp [llen];exact hl,fun i j h e1 e2=>?_⟩
  ·exact O.l j ((pmem j).mp (by simpa using hj))
  ·have e1:(live.map (·.1))[i]?=some j:=by simpa using e1
   have e2:((live.map (·.2)).map fun k=>hs.getD k 0)[i]?=some h:=by simpa using e2
   cases q:live[i]? with
   | none=>rw [qAY,q] at e1;cases e1
   | some p =>
    rw [qAY,q] at e1;rw [qAY,qAY,q] at e2;have e1:p.1=j:=by simpa using e1
    have e2:hs.getD p.2 0=h:=by simpa using e2
    have hp:=(mem p).mp (qAL q);rw [e1] at hp;have hk:p.2<hs.length:=by rw [<-O.n];exact (qAh.mp hp).1
    have hh:hs[p.2]?=some h:=by
     rw [<-e2,qBG];simp [hk]
    obtain ⟨n,q1,q2⟩:=O.reach p.2 j h hp hh
    exact ⟨n,q1,fun m hm=>by
     have:=(pmem _).mpr (q2 m hm);simpa using this⟩
section
variable {prog:Program} {w:World} {K:Type} [DecidableEq K] {knd:KeyKind prog w K} {A:Around} {E:Value->Shared->Prop} {s:Shared}
theorem byv_noref {v:Value} (h:carriedByValue v=true):∀a,v≠.ref a:=by
 intro a e;subst e;simp [carriedByValue] at h
theorem cls_byv (n:Nat) {v:Value} (h:carriedByValue v=true):ofAClassStatement n v=pure false:=by
 cases v with
 | ref a=>exact absurd rfl (byv_noref h a)
 | _=>cases n<;>(unfold ofAClassStatement;rfl)
theorem w_cls {k:List K} {Q:Bool->Shared->Prop} (hk:IsTupleKey knd s.heap k b) (h:Q false s):wpAny (model prog w) A (ofAClassStatement 8 (.ref b)) Q E s:=by
 have hT:=hk.typeIs;obtain ⟨o,items,n,ho,_,hd,hi⟩:=hk;unfold ofAClassStatement;refine qAA (qCg hT ?_);show wpAny _ _ (if ("tuple" == "tuple")=true then _ else _) _ _ _;rw [qAC (by decide)];refine qAA (qAE ?_);show wpAny _ _ (if (!true)=true then _ else _) _ _ _;rw [qAB (by decide)];show wpAny _ _ (seqItems? (.ref b) >>= _) _ _ _;refine qAA ?_;show wpAny _ _ (load b >>= _) _ _ _;refine qAA (qCR ho ?_);rw [hd];refine qAE ?_;dsimp only;refine qAA ?_;show wpAny _ _ (forIn items _ _) _ _ s;rw [<-Array.forIn_toList];refine wpAny_forIn_list _ (fun rest r s'=>r.1=none/\s'=s/\∀v∈rest,carriedByValue v=true) _ ?_ ?_ _ _ ⟨rfl,rfl,hi.byValue⟩
 ·rintro v rest r s' ⟨hr,rfl,hall⟩;refine qAA (qAy (cls_byv _ (hall v qAV)) ?_);rw [qAB (by decide)];exact qAE ⟨rfl,rfl,fun u hu'=>hall u (qAU _ hu')⟩
 ·rintro ⟨r1,r2⟩ s' ⟨hr,rfl,_⟩;have hr:r1=none:=hr;subst hr;exact qAE h
theorem w_seen {k:List K} {stored:List Value} {Q:Bool->Shared->Prop} (hk:IsTupleKey knd s.heap k b) (hs:∀v∈stored,∃k' b',v= .ref b'/\IsTupleKey knd s.heap k' b') (h:Q false s):wpAny (model prog w) A (searchCouldBeSeen (.ref b) stored) Q E s:=by
 unfold searchCouldBeSeen;refine qAA ?_;refine wpAny_forIn_list _ (fun rest r s'=>r.1=none/\s'=s/\∀v∈rest,∃k' b',v= .ref b'/\IsTupleKey knd s.heap k' b') _ ?_ ?_ _ _ ⟨rfl,rfl,hs⟩
 ·rintro v rest r s' ⟨hr,rfl,hall⟩;obtain ⟨k',b',rfl,hk'⟩:=hall v qAV;have hall':∀u∈rest,∃k' b',u= .ref b'/\IsTupleKey knd s'.heap k' b':=fun u hu'=>hall u (qAU _ hu');dsimp only
  by_cases c:((b==b')||(carriedByValue (.ref b)&&carriedByValue (.ref b')))=true
  ·rw [qAC c];exact qAE ⟨rfl,rfl,hall'⟩
  ·rw [qAB c];refine qAA (wpAny_eqIsQuiet_tuple hk ?_);rw [qAB (by decide)];refine qAA (wpAny_eqIsQuiet_tuple hk' ?_);rw [qAB (by decide)];refine qAA (w_cls hk ?_);rw [qAB (by decide)];refine qAA (w_cls hk' ?_);rw [qAB (by decide)];exact qAE ⟨rfl,rfl,hall'⟩
 ·rintro ⟨r1,r2⟩ s' ⟨hr,rfl,_⟩;have hr:r1=none:=hr;subst hr;exact qAE h
theorem hbv_byv (n:Nat) {v:Value} (h:carriedByValue v=true):∃c,hashByValue n v=pure c:=by
 cases v with
 | ref a=>exact absurd rfl (byv_noref h a)
 | _=>cases n<;>(unfold hashByValue;exact ⟨_,rfl⟩)
theorem w_hbv {k:List K} {Q:Bool->Shared->Prop} (hk:IsTupleKey knd s.heap k b) (h:∀c,Q c s):wpAny (model prog w) A (hashByValue 8 (.ref b)) Q E s:=by
 have hT:=hk.typeIs;obtain ⟨o,items,n,ho,_,hd,hi⟩:=hk;unfold hashByValue;refine qAA (qCD hT F.slot_tuple_hash.lookup ?_);show wpAny _ _ (seqItems? (.ref b) >>= _) _ _ _;refine qAA ?_;show wpAny _ _ (load b >>= _) _ _ _;refine qAA (qCR ho ?_);rw [hd];refine qAE ?_;dsimp only;refine qAA ?_;show wpAny _ _ (forIn items _ _) _ _ s;rw [<-Array.forIn_toList];refine wpAny_forIn_list _ (fun rest r s'=>s'=s/\∀v∈rest,carriedByValue v=true) _ ?_ ?_ _ _ ⟨rfl,hi.byValue⟩
 ·rintro v rest r s' ⟨rfl,hall⟩;obtain ⟨c,ec⟩:=hbv_byv 7 (hall v qAV);rw [ec];refine qAA (qAE ?_);split
  ·exact qAE (qAE (h _))
  ·exact qAE ⟨rfl,fun u hu'=>hall u (qAU _ hu')⟩
 ·rintro ⟨r1,r2⟩ s' ⟨rfl,_⟩
  cases r1 with
  | none=>exact qAE (h _)
  | some c=>exact qAE (h _)
end
section
variable {prog:Program} {w:World} {K:Type} [DecidableEq K] {knd:KeyKind prog w K} {A:Around} {E:Value->Shared->Prop} {s:Shared}
def en (knd:KeyKind prog w K) (p:List K×Addr):Int×Value:=(tupleKeyHash knd p.1,.ref p.2)
def byt (w:World):Bool:=w.params.followText "set-order"
structure SetX (knd:KeyKind prog w K) (h:Heap) (a:Addr) (xs:List (List K×Addr)) (o:Obj) (es:Array (Int×Value)) (ep:Nat) (t:SetTable):Prop where
 ho:h.get? a=some o
 ex:o.ExactSet
 hd:o.data= .set es ep t
 el:es.toList=xs.map (en knd)
 ok:TOk t (xs.map fun p=>tupleKeyHash knd p.1)
 room:xs.length*5<t.mask*3
 nd:(xs.map (·.1)).Nodup
 ky:∀p∈xs,IsTupleKey knd h p.1 p.2
 ld:t.led= !byt w
section
variable {a:Addr} {xs:List (List K×Addr)} {o:Obj} {es:Array (Int×Value)} {ep:Nat} {t:SetTable}
theorem SetX.at (X:SetX knd s.heap a xs o es ep t) (i:Nat):es[i]?=(xs[i]?).map (en knd):=by
 rw [<-qAl,X.el,qAY]
theorem SetX.size (X:SetX knd s.heap a xs o es ep t):es.size=xs.length:=by
 have:=qAa List.length X.el;simpa using this
theorem SetX.fits (X:SetX knd s.heap a xs o es ep t):t.fits es.size=true:=by
 unfold SetTable.fits;have h1:t.place.size=es.size:=by rw [X.ok.n,X.size];simp
 have h2:t.fill<=t.mask:=by
  unfold fill;rw [X.ok.d];exact X.ok.f
 rw [h1];simp [h2]
theorem SetX.state (X:SetX knd s.heap a xs o es ep t) {Q:(Array (Int×Value)×Nat×SetTable)->Shared->Prop} (h:Q (es,ep,t) s):wpAny (model prog w) A (setState a) Q E s:=wpAny_setState_of X.ho X.hd X.fits h
theorem msk_odd {m:Nat} (h:Msk m):(m % 2==0)=false:=by
 rcases h with rfl| rfl| rfl| rfl<;>decide
theorem SetX.has (X:SetX knd s.heap a xs o es ep t) (e:t.place[i]?=some j):∃p,xs[i]?=some p:=by
 have h1:i<t.place.size:=(qBm.mp e).1;have h2:=X.ok.n;rw [qAD] at h2;exact ⟨xs[i]'(by lia),by simp⟩
theorem split_seen {c:Bool} {m:Sem Bool} {u:String} {jp:Unit->Sem α} {Q:α->Shared->Prop} (hm:∀f:Bool->Sem α,wpAny (model prog w) A (f false) Q E s->wpAny (model prog w) A (m >>= f) Q E s) (h:wpAny (model prog w) A (jp ()) Q E s) :
  wpAny (model prog w) A (if c=true then (m >>= fun l=>if l=true then (unsupported u >>= jp) else jp ()) else jp ()) Q E s:=by
 by_cases z:c=true
 ·rw [qAC z];exact hm _ h
 ·rw [qAB z];exact h
theorem w_search (hu:A.units<cLine) (X:SetX knd s.heap a xs o es ep t) {k:List K} (hk:IsTupleKey knd s.heap k b) (hN:(pr t.mask (tupleKeyHash knd k) N).j∉t.place.toList) (hb:∀m,m<N->(pr t.mask (tupleKeyHash knd k) m).j∈t.place.toList) (hNf:N<10*turns t.mask)
  {Q:SetFound->Shared->Prop} (h1:k∈xs.map (·.1)->Q (.there none) s) (h2:k∉xs.map (·.1)->Q (.free (pr t.mask (tupleKeyHash knd k) N).j false) s) :
  ∀(d n fuel:Nat) (stand:Option Probe),N=n+d->d<fuel->stand.getD (t.probeStart (tupleKeyHash knd k))=pr t.mask (tupleKeyHash knd k) n ->
   (∀m,m<n->∃(i:Nat) (p:List K×Addr),t.place[i]?=some (pr t.mask (tupleKeyHash knd k) m).j/\xs[i]?=some p/\p.1≠k)->wpAny (model prog w) A (setSearchFrom a (.ref b) (tupleKeyHash knd k) true fuel stand) Q E s:=by
 intro d
 induction d using Nat.strongRecOn with
 | _ d ih =>
  intro n fuel stand e hf hst hseen;obtain ⟨fuel,rfl⟩:∃f,fuel=f+1:=⟨fuel - 1,by lia⟩;unfold setSearchFrom;refine qAA (X.state ?_);show wpAny _ _ (if (t.mask % 2==0)=true then _ else _) _ _ _;rw [msk_odd X.ok.m,qAB (by decide)]
  have oth:∀m,Oth t (fun i=>(es[i]?.map (·.1)).getD 0) (tupleKeyHash knd k) m->∃(i:Nat) (p:List K×Addr),t.place[i]?=some (pr t.mask (tupleKeyHash knd k) m).j/\xs[i]?=some p/\p.1≠k:=fun m ⟨i,ei,hi⟩=>by
   obtain ⟨p,ep'⟩:=X.has ei;refine ⟨i,p,ei,ep',fun z=>hi ?_⟩;show (es[i]?.map (·.1)).getD 0=_;rw [X.at i,ep',<-z];rfl
  rw [hst];rcases go_ok X.ok (fun i=>(es[i]?.map (·.1)).getD 0) (tupleKeyHash knd k) hN hb d n (10*turns t.mask) e (by lia) with ⟨z1,z2⟩| ⟨m,i,z1,z2,z3,z4,z5,z6⟩
  ·have z1:t.probe (fun i=>(es[i]?.map (·.1)).getD 0) (tupleKeyHash knd k) (pr t.mask (tupleKeyHash knd k) n)=some (.empty (pr t.mask (tupleKeyHash knd k) N).j none):=z1
   erw [z1]
   refine qAE (h2 fun hm=>?_);obtain ⟨p,hp,rfl⟩:=qAJ.mp hm;obtain ⟨i,hi,ei⟩:=qA7.mp hp;have exi:xs[i]?=some p:=qAh.mpr ⟨hi,ei⟩;have hpl:i<t.place.size:=by rw [X.ok.n,qAD];exact hi
   have epl:t.place[i]?=some t.place[i]:=by simp
   obtain ⟨q,q1,q2⟩:=X.ok.reach i t.place[i] (tupleKeyHash knd p.1) epl (by rw [qAY,exi];rfl)
   have hqN:q<N:=by
    apply qBO;intro c
    by_cases cq:q=N
    ·subst cq;exact hN (by rw [q1];exact qAL (i:=i) (by rw [qAl];exact epl))
    ·exact hN (q2 N (by lia))
   have:∃(i':Nat) (p':List K×Addr),t.place[i']?=some (pr t.mask (tupleKeyHash knd p.1) q).j/\xs[i']?=some p'/\p'.1≠p.1:=by
    by_cases c:q<n
    ·exact hseen q c
    ·exact oth q (z2 q (by lia) hqN)
   obtain ⟨i',p',w1,w2,w3⟩:=this;rw [q1] at w1
   have:i'=i:=by
    rcases Nat.lt_trichotomy i' i with z| z| z
    ·have:=zEi X.ok.r z w1 epl;lia
    ·exact z
    ·have:=zEi X.ok.r z epl w1;lia
   subst this;rw [exi] at w2
   cases w2
   exact w3 rfl
  ·have z5:t.probe (fun i=>(es[i]?.map (·.1)).getD 0) (tupleKeyHash knd k) (pr t.mask (tupleKeyHash knd k) n)=some (.candidate (pr t.mask (tupleKeyHash knd k) m).j i (pr t.mask (tupleKeyHash knd k) (m+1))):=z5
   erw [z5]
   obtain ⟨p,exi⟩:=X.has z3;have hp:=X.ky p (qAL exi);have eei:es[i]?=some (tupleKeyHash knd p.1,.ref p.2):=by rw [X.at i,exi];rfl
   refine split_seen (fun f hf=>qAA (w_seen hk ?_ hf)) ?_
   ·intro v hv;obtain ⟨q,hq,rfl⟩:=qAJ.mp hv
    have hq:q∈es.toList:=by
     have:=(Array.mem_filter.mp (qDC.mp hq)).1;exact qDC.mpr this
    rw [X.el] at hq;obtain ⟨p',hp',rfl⟩:=qAJ.mp hq;exact ⟨p'.1,p'.2,rfl,X.ky p' hp'⟩
   dsimp only;rw [eei];dsimp only;refine qAA (qA0 (wpAny_eqBool_tuple hu hp hk ?_));refine qAA (X.state ?_);dsimp only
   by_cases c:p.1=k
   ·rw [qAC (by simp [c])];exact qAE (h1 (qAJ.mpr ⟨p,qAL exi,c⟩))
   ·rw [qAB (by simp [c])];have esm:t.sameMemory t.moves t.mask=some true:=by unfold SetTable.sameMemory;simp
    rw [esm];dsimp only;rw [qAC rfl,slot_live X.ok z3];dsimp only;rw [eei];dsimp only;refine qAA (wpAny_isSame_ref_self ?_);rw [qAC rfl];refine qAA (qAE ?_);dsimp only;rw [qAB (by simp [c])];refine ih (N - (m+1)) (by lia) (m+1) fuel (some _) (by lia) (by lia) rfl ?_;intro q hq
    by_cases cq:q<n
    ·exact hseen q cq
    by_cases cm:q=m
    ·subst cm;exact ⟨i,p,z3,exi,c⟩
    ·exact oth q (z6 q (by lia) (by lia))
end
end
section
variable {prog:Program} {w:World} {K:Type} [DecidableEq K] {knd:KeyKind prog w K} {A:Around} {E:Value->Shared->Prop} {s:Shared}
variable {a:Addr} {xs:List (List K×Addr)} {o:Obj} {es:Array (Int×Value)} {ep:Nat} {t:SetTable}
theorem key_but {h h':Heap} {k:List K} (x:IsTupleKey knd h k b) (ho:h.get? a=some o) (hd:o.data= .set es ep t) (hs:Heap.SameBut a h h'):IsTupleKey knd h' k b:=by
 obtain ⟨o1,its,n,p1,p2,p3,p4⟩:=x;refine ⟨o1,its,n,(hs.2 b fun z=>?_).trans p1,p2,p3,p4⟩;subst z;have:=qAd (p1.symm.trans ho);subst this;rw [hd] at p3;exact nomatch p3
theorem put_get {h:Heap} (ho:h.get? a=some o) (hd:o.data= .set es ep t) (es':Array (Int×Value)) (t':SetTable):(h.update a (Obj.putSet es' t')).get? a=some {o with data:=.set es' (ep+1) t'}:=by
 have:=qBE (Obj.putSet es' t') ho (by rw [putSet_of es' t' hd];rfl)
 rwa [putSet_of es' t' hd] at this
theorem put_X {h:Heap} (ho:h.get? a=some o) (ex:o.ExactSet) (hd:o.data= .set es ep t) {es':Array (Int×Value)} {t':SetTable} {ys:List (List K×Addr)} (e1:es'.toList=ys.map (en knd)) (e2:TOk t' (ys.map fun p=>tupleKeyHash knd p.1)) (e3:ys.length*5<t'.mask*3) (e4:(ys.map (·.1)).Nodup) (e5:∀p∈ys,IsTupleKey knd h p.1 p.2) (e6:t'.led= !byt w) :
  SetX knd (h.update a (Obj.putSet es' t')) a ys {o with data:=.set es' (ep+1) t'} es' (ep+1) t' :=
 ⟨put_get ho hd es' t',ex,rfl,e1,e2,e3,e4,fun p hp=>key_but (e5 p hp) ho hd (qAs h a _),e6⟩
theorem not_scan (b:Addr) (es:Array (Int×Value)):byScan (.ref b) es=false:=by
 unfold byScan;rfl
theorem grow_mask {m n:Nat} (hm:Msk m) (h0:n*5<m*3) (h1:m*3<=(n+1)*5) (hc:n+1<=306):Msk (sizeAbove (grown (n+1)) - 1)/\n+1<=sizeAbove (grown (n+1)) - 1/\(n+1)*5<(sizeAbove (grown (n+1)) - 1)*3/\sizeAbove (grown (n+1))<=512:=by
 rcases hm with rfl| rfl| rfl| rfl
 ·obtain rfl:n=4:=by lia
  refine ⟨by unfold Msk;decide +kernel,by decide +kernel,by decide +kernel,by decide +kernel⟩
 ·obtain rfl:n=18:=by lia
  refine ⟨by unfold Msk;decide +kernel,by decide +kernel,by decide +kernel,by decide +kernel⟩
 ·obtain rfl:n=76:=by lia
  refine ⟨by unfold Msk;decide +kernel,by decide +kernel,by decide +kernel,by decide +kernel⟩
 ·lia
theorem getD_hash (ys:List (List K×Addr)) (order:List Nat) (hp:order.Perm (List.range ys.length)):(order.filterMap (ys[·]?)).map (fun p=>tupleKeyHash knd p.1)=order.map (fun k=>(ys.map fun p=>tupleKeyHash knd p.1).getD k 0):=by
 have hall:∀k∈order,k<ys.length:=fun k hk=>qA4.mp (hp.mem_iff.mp hk);clear hp
 induction order with
 | nil=>rfl
 | cons k ks ih =>
  have hk:=hall k qAV;have e:ys[k]?=some ys[k]:=by simp [hk]
  rw [qB7,e];show tupleKeyHash knd ys[k].1::_=_::_;rw [ih (fun q hq=>hall q (qAU _ hq))];congr 1;show _=(List.map (fun p=>tupleKeyHash knd p.fst) ys).getD k 0;rw [qBG,qAY,e];rfl
theorem range_get (ys:List α):(List.range ys.length).filterMap (ys[·]?)=ys:=by
 induction ys with
 | nil=>rfl
 | cons y ys ih =>
  rw [qAe,List.range_succ_eq_map,qB7];show y::_=_;rw [List.filterMap_map];congr 1
theorem perm_get (ys:List α) {order:List Nat} (hp:order.Perm (List.range ys.length)):(order.filterMap (ys[·]?)).Perm ys:=by
 have:=hp.filterMap (ys[·]?)
 rwa [range_get] at this
theorem w_relay {s:Shared} {m n:Nat} (ho:s.heap.get? a=some o) (ex:o.ExactSet) (hd:o.data= .set es ep t) (e1:es.toList=xs.map (en knd)) (e2:TOk t (xs.map fun p=>tupleKeyHash knd p.1)) (hn:xs.length=n+1) (h0:n*5<t.mask*3) (h1:t.mask*3<=(n+1)*5) (hc:n+1<=306)
  (e4:(xs.map (·.1)).Nodup) (e5:∀p∈xs,IsTupleKey knd s.heap p.1 p.2) (e6:t.led= !byt w) {Q:Unit->Shared->Prop} (h:∀h' ys o' es' ep' t',Heap.SameBut a s.heap h'->ys.Perm xs->SetX knd h' a ys o' es' ep' t'->Q () {s with heap:=h'}) :
  wpAny (model prog w) A (setRelay a (grown (n+1))) Q E s:=by
 obtain ⟨g1,g2,g3,g4⟩:=grow_mask e2.m h0 h1 hc;have ez:es.size=xs.length:=by have:=qAa List.length e1;simpa using this
 have hfit:t.fits es.size=true:=by
  unfold SetTable.fits;have z1:t.place.size=es.size:=by rw [e2.n,ez];simp
  have z2:t.fill<=t.mask:=by unfold fill;rw [e2.d];exact e2.f
  rw [z1];simp [z2]
 unfold setRelay;refine qAA (wpAny_setState_of ho hd hfit ?_);dsimp only;have hsl:sizeAbove (grown (n+1))<=sizeLine:=qAc g4 (by decide +kernel);rw [qAB (qCh.mpr hsl)];obtain ⟨t',order,l1,l2,l3,l4,l5,l6⟩:=laid_ok g1 (xs.map fun p=>tupleKeyHash knd p.1) (by rw [qAD];lia) t.finger (t.movedTo (sizeAbove (grown (n+1)) - 1)) t.led t.plain
 have lr:t.relaid (es.map (·.1)) (grown (n+1))=some (t',order):=by
  unfold relaid
  have:es.map (·.1)=(xs.map fun p=>tupleKeyHash knd p.1).toArray:=by
   apply Array.ext';rw [Array.toList_map,e1,qA1];rfl
  rw [this];exact l1
 rw [lr];rw [qAD] at l5;have lp:=perm_get xs l5
 have el':(order.filterMap (es[·]?)).toList=(order.toList.filterMap (xs[·]?)).map (en knd):=by
  rw [Array.toList_filterMap,List.map_filterMap];congr 1;funext k;rw [<-qAl,e1,qAY]
 have ez':(order.filterMap (es[·]?)).size=es.size:=by
  rw [<-qBb,el',qAD,lp.length_eq,ez]
 refine qAA ?_;show wpAny _ _ (if ((order.filterMap (es[·]?)).size != es.size)=true then _ else _) _ _ _;rw [qAB (by rw [ez'];simp)];refine qAE ?_;dsimp only;refine wpAny_storeSet_of ho hd ?_ (by rw [ez',ez,hn];exact qAc hc (by decide +kernel));refine h _ _ _ _ _ _ (qAs _ a _) lp (put_X ho ex hd el' ?_ ?_ ?_ (fun p hp=>e5 p (lp.mem_iff.mp hp)) (l3.trans e6))
 ·rw [getD_hash xs order.toList l5];exact l6
 ·rw [lp.length_eq,hn,l2];exact g3
 ·exact (lp.map (·.1)).nodup_iff.mpr e4
theorem ins_perm (L:List α) (p:Nat) (x:α):(L.take p++x::L.drop p).Perm (x::L):=by
 have h1:(L.take p++x::L.drop p).Perm (x::(L.take p++L.drop p)):=List.perm_middle
 rwa [qCI] at h1
theorem plain_off {t:SetTable} (T:TOk t hs) (c:Bool):TOk (if c=true then t else {t with plain:=false}) hs/\(if c=true then t else {t with plain:=false}).mask=t.mask/\(if c=true then t else {t with plain:=false}).tooFull=t.tooFull/\(if c=true then t else {t with plain:=false}).led=t.led:=by
 cases c
 ·exact ⟨⟨T.m,T.d,T.r,T.l,T.n,T.f,T.reach⟩,rfl,rfl,rfl⟩
 ·exact ⟨T,rfl,rfl,rfl⟩
theorem w_add (hu:A.units<cLine) (X:SetX knd s.heap a xs o es ep t) {k:List K} (hk:IsTupleKey knd s.heap k b) (hc:xs.length+1<=306) {Q:Bool->Shared->Prop} (h1:k∈xs.map (·.1)->Q false s)
  (h2:k∉xs.map (·.1)->∀h' ys o' es' ep' t',Heap.SameBut a s.heap h'->ys.Perm ((k,b)::xs)->SetX knd h' a ys o' es' ep' t'->Q true {s with heap:=h'}) :
  wpAny (model prog w) A (setAddHashed a (.ref b) (tupleKeyHash knd k)) Q E s:=by
 unfold setAddHashed setAddHashedIn;refine qA0 (qAA (X.state ?_));dsimp only;rw [not_scan,qAB (by decide)]
 have hpl:t.place.toList.length=xs.length:=by
  have:=X.ok.n;rw [qAD] at this;simpa using this
 have hroom:=X.room;obtain ⟨N,hNf,hN,hb⟩:=zIa X.ok.m (tupleKeyHash knd k) (L:=t.place.toList) (by rw [hpl];lia)
 have hT:10*turns t.mask<100000:=by
  rcases X.ok.m with z| z| z| z<;>rw [z]<;>decide +kernel
 unfold setSearch;refine qAA (w_search hu X hk hN hb hNf ?_ ?_ N 0 100000 none (by lia) (by lia) rfl (fun m hm=>absurd hm (qCi m)))
 ·intro z;exact qAE (h1 z)
 ·intro z;dsimp only;refine qAA (X.state ?_);dsimp only
  have hf1:t.place.size+1<=t.mask:=by
   have:t.place.size=xs.length:=by simpa using hpl
   rcases X.ok.m with z| z| z| z<;>lia
  have T1:=put_ok X.ok (tupleKeyHash knd k) hN hb hf1;have em:(t.put (pr t.mask (tupleKeyHash knd k) N).j).1.mask=t.mask:=rfl;have ed:(t.put (pr t.mask (tupleKeyHash knd k) N).j).1.led=t.led:=rfl;have B:=(zEo X.ok.r (pr t.mask (tupleKeyHash knd k) N).j).le;have ep2:(t.put (pr t.mask (tupleKeyHash knd k) N).j).2=below t.place (pr t.mask (tupleKeyHash knd k) N).j:=rfl
  have fin:∀c:Bool,wpAny (model prog w) A (do
    storeSet a (SetTable.insertAt es (t.put (pr t.mask (tupleKeyHash knd k) N).j).2 (tupleKeyHash knd k,.ref b)) (if c=true then (t.put (pr t.mask (tupleKeyHash knd k) N).j).1 else {(t.put (pr t.mask (tupleKeyHash knd k) N).j).1 with plain:=false})
    if (!false&&(if c=true then (t.put (pr t.mask (tupleKeyHash knd k) N).j).1 else {(t.put (pr t.mask (tupleKeyHash knd k) N).j).1 with plain:=false}).tooFull)=true then do
     setRelay a (SetTable.grown (es.size+1))
     pure true
    else pure true) Q E s:=by
   intro c;generalize hp:(t.put (pr t.mask (tupleKeyHash knd k) N).j).2=p at *
   generalize ht:(t.put (pr t.mask (tupleKeyHash knd k) N).j).1=t1 at *
   have hple:p<=es.size:=by
    rw [X.size,ep2];have:t.place.size=xs.length:=by simpa using hpl
    lia
   obtain ⟨T2,m2,f2,d2⟩:=plain_off T1 c;generalize ht2:(if c=true then t1 else {t1 with plain:=false})=t2 at *
   have el:(SetTable.insertAt es p (tupleKeyHash knd k,Value.ref b)).toList=(xs.take p++(k,b)::xs.drop p).map (en knd):=by
    rw [zJd es p _ hple,X.el,qAM,qAi,qCJ,qCj];rfl
   have ip:=ins_perm xs p (k,b)
   have eT:(xs.map fun p=>tupleKeyHash knd p.1).take p++tupleKeyHash knd k::(xs.map fun p=>tupleKeyHash knd p.1).drop p=(xs.take p++(k,b)::xs.drop p).map fun p=>tupleKeyHash knd p.1:=by
    rw [qAM,qAi,qCJ,qCj]
   rw [eT] at T2;have len:(xs.take p++(k,b)::xs.drop p).length=xs.length+1:=by rw [ip.length_eq];rfl
   have nd:((xs.take p++(k,b)::xs.drop p).map (·.1)).Nodup:=by
    refine (ip.map (·.1)).nodup_iff.mpr ?_;exact qBD.mpr ⟨z,X.nd⟩
   have ky:∀q∈xs.take p++(k,b)::xs.drop p,IsTupleKey knd s.heap q.1 q.2:=fun q hq=>by
    rcases qAS.mp (ip.mem_iff.mp hq) with y| y
    ·subst y;exact hk
    ·exact X.ky q y
   have sz:(SetTable.insertAt es p (tupleKeyHash knd k,Value.ref b)).size=xs.length+1:=by
    have:=qAa List.length el;rw [qAD,len] at this;simpa using this
   refine qAA (wpAny_storeSet_of X.ho X.hd ?_ (by rw [sz];exact qAc hc (by decide +kernel)))
   have fl:t2.tooFull=decide (t.mask*3<=(xs.length+1)*5):=by
    unfold tooFull fill;rw [T2.d,T2.n,qAD,len,m2,em];rfl
   by_cases cf:t.mask*3<=(xs.length+1)*5
   ·rw [qAC (by rw [fl];simp [cf])];rw [X.size];refine qAA ?_;refine w_relay (m:=0) (o:={o with data:=.set (insertAt es p (tupleKeyHash knd k,Value.ref b)) (ep+1) t2}) (put_get X.ho X.hd _ _) X.ex rfl el T2 len ?_ ?_ hc nd ?_ (d2.trans (ed.trans X.ld)) ?_
    ·rw [m2,em];exact hroom
    ·rw [m2,em];exact cf
    ·intro q hq;exact key_but (ky q hq) X.ho X.hd (qAs _ a _)
    ·intro h' ys o' es' ep' t' q1 q2 q3;exact qAE (h2 z h' ys o' es' ep' t' ((qAs _ a _).trans q1) (q2.trans ip) q3)
   ·rw [qAB (by rw [fl];simp [cf])];refine qAE (h2 z _ _ _ _ _ _ (qAs _ a _) ip (put_X X.ho X.ex X.hd el T2 ?_ nd ky (d2.trans (ed.trans X.ld))));rw [len,m2,em];lia
  by_cases cp:(t.put (pr t.mask (tupleKeyHash knd k) N).j).1.plain=true
  ·rw [qAC cp];exact qAA (w_hbv hk fin)
  ·rw [qAB cp];exact qAA (qAE (fin true))
end
end ST
namespace ST
open PySem PySem.SetTable PyProof.Rows
variable {h:Heap}{α:Type}
section
variable {prog:Program} {w:World} {K:Type} [DecidableEq K] {knd:KeyKind prog w K} {A:Around} {E:Value->Shared->Prop} {s:Shared}
variable {a:Addr} {xs:List (List K×Addr)} {o:Obj} {es:Array (Int×Value)} {ep:Nat} {t:SetTable}
theorem key_kept {h':Heap} {k:List K} {b:Addr} (x:IsTupleKey knd h k b) (e:∀o,h.get? b=some o->h'.get? b=some o):IsTupleKey knd h' k b :=
 let ⟨o,its,n,p1,r⟩:=x;⟨o,its,n,e o p1,r⟩
theorem SetX.kept {h h':Heap} (X:SetX knd h a xs o es ep t) (e:∀b o,(b=a\/∃p∈xs,p.2=b)->h.get? b=some o->h'.get? b=some o):SetX knd h' a xs o es ep t :=
 ⟨e a o (.inl rfl) X.ho,X.ex,X.hd,X.el,X.ok,X.room,X.nd,fun p hp=>key_kept (X.ky p hp) fun o q=>e _ o (.inr ⟨p,hp,rfl⟩) q,X.ld⟩
def Got (knd:KeyKind prog w K) (h:Heap) (a:Addr) (ks:List (List K×Addr)):Prop :=
 ∃xs o es ep t,SetX knd h a xs o es ep t/\(∀p∈xs,p∈ks)/\(∀p∈ks,p.1∈xs.map (·.1))/\xs.length<=ks.length
theorem Got.kept {h h':Heap} {ks:List (List K×Addr)} (g:Got knd h a ks) (e:∀b o,(b=a\/∃p∈ks,p.2=b)->h.get? b=some o->h'.get? b=some o):Got knd h' a ks:=by
 obtain ⟨xs,o,es,ep,t,X,g1,g2,g3⟩:=g;exact ⟨xs,o,es,ep,t,X.kept fun b o hb=>e b o (hb.imp id fun ⟨p,hp,q⟩=>⟨p,g1 p hp,q⟩),g1,g2,g3⟩
theorem Got.fresh {a:Addr} (ho:h.get? a=some {cls:=.type "set",dict:=none,data:=.set #[] 0 (.fresh 0 0 (!byt w))}):Got knd h a [] :=
 ⟨[],_,_,_,_,⟨ho,⟨rfl,rfl,rfl⟩,rfl,rfl,fresh_ok 0 0 _,(show 0*5<7*3 by decide),qBP,(fun p hp=>nomatch hp),rfl⟩,(fun p hp=>nomatch hp),(fun p hp=>nomatch hp),qAF _⟩
theorem w_more {ks:List (List K×Addr)} {k:List K} {b:Addr} (hu:A.units<cLine) (g:Got knd s.heap a ks) (hk:IsTupleKey knd s.heap k b) (hc:ks.length+1<=306) {Q:Bool->Shared->Prop}
  (h:∀c h',Heap.SameBut a s.heap h'->Got knd h' a (ks++[(k,b)])->Q c {s with heap:=h',toks:=s.toks+(k.length+1)}):wpAny (model prog w) A (setAdd a (.ref b)) Q E s:=by
 obtain ⟨xs,o,es,ep,t,X,g1,g2,g3⟩:=g;unfold setAdd;refine qA0 (qAA (wpAny_pyHash_tuple hu hk ?_));refine w_add (s:={s with toks:=s.toks+(k.length+1)}) hu X hk (by lia) (fun z=>?_) fun z h' ys o' es' ep' t' q1 q2 q3=>?_
 ·refine h false s.heap (Heap.SameBut.refl a s.heap) ⟨xs,o,es,ep,t,X,fun p hp=>qAq _ (g1 p hp),fun p hp=>?_,by rw [qAj];exact Nat.le_succ_of_le g3⟩;rcases qAN.mp hp with y| y
  ·exact g2 p y
  ·rw [qAQ.mp y];exact z
 ·refine h true h' q1 ⟨ys,o',es',ep',t',q3,fun p hp=>?_,fun p hp=>?_,?_⟩
  ·rcases qAS.mp (q2.mem_iff.mp hp) with y| y
   ·rw [y];exact qAr _ (qAQ.mpr rfl)
   ·exact qAq _ (g1 p y)
  ·have m:=(q2.map (·.1)).mem_iff (a:=p.1);refine m.mpr ?_;rcases qAN.mp hp with y| y
   ·exact qAU _ (g2 p y)
   ·rw [qAQ.mp y];exact qAV
  ·rw [q2.length_eq,qAj];exact Nat.succ_le_succ g3
end
section
variable {prog:Program} {w:World} {K:Type} [DecidableEq K] {knd:KeyKind prog w K} {A:Around} {R:Result->Shared->Prop} {I:Addr} {fp wr:List Addr} {G:Array GenState->Array GenState->Prop} {P:Nat->Value->Prop} {St:Nat->Shared->Prop}
theorem c_fill {ks:List (List K×Addr)} (hu:A.in1.units<cLine) (W:WalksS prog w A.in1 I fp wr G ks.length P St) (a:Addr) (haf:a∉fp) (hP:∀i v,P i v->∃p,ks[i]?=some p/\v= .ref p.2) (hka:∀p∈ks,p.2≠a/\p.2∉wr) (hc:ks.length<=306) :
  ∀(k i:Nat) (s:Shared),ks.length=i+k->St i s->Got knd s.heap a (ks.take i)->(∀p∈ks,IsTupleKey knd s.heap p.1 p.2) ->
   (∀s',Moved (a::wr) G s s'->Got knd s'.heap a ks->R (.ok (.ret .none)) s')->codeAny (model prog w) A (.builtin "set.update.loop" ⟨[.ref a,.ref I],[]⟩) R s:=by
 have haw:a∉wr:=fun z=>haf (W.sub a z);intro k
 induction k with
 | zero =>
  intro i s e st g ky hR;have e:i=ks.length:=by lia
  subst e;rw [qAf] at g;refine qBX PyProof.Rows.F.entry_set_update_loop ?_;rw [qBx qDK _];change wpAny _ A.in1 (pyNext (Value.ref I) >>= _) _ _ s;refine qAA (W.done s _ _ st fun s1 mv=>?_);refine qAE (hR s1 (mv.mono fun b hb=>qAU a hb) (g.kept fun b o hb q=>mv.heap b o ?_ q));rcases hb with rfl| ⟨p,hp,rfl⟩
  ·exact haw
  ·exact (hka p hp).2
 | succ k ih =>
  intro i s e st g ky hR;have hi:i<ks.length:=by lia
  refine qBX PyProof.Rows.F.entry_set_update_loop ?_;rw [qBx qDK _];change wpAny _ A.in1 (pyNext (Value.ref I) >>= _) _ _ s;refine qAA (W.item i s _ _ hi st fun v s1 pv st1 mv=>?_);obtain ⟨p,ep,rfl⟩:=hP i v pv;have pm:p∈ks:=qAL ep
  have up:∀b o,(b=a\/∃q∈ks,q.2=b)->s.heap.get? b=some o->s1.heap.get? b=some o:=fun b o hb q=>mv.heap b o (by
   rcases hb with rfl| ⟨p,hp,rfl⟩
   ·exact haw
   ·exact (hka p hp).2) q
  have g1:=g.kept (h':=s1.heap) fun b o hb=>up b o (hb.imp id fun ⟨q,hq,z⟩=>⟨q,qBw hq,z⟩);have ky1:∀q∈ks,IsTupleKey knd s1.heap q.1 q.2:=fun q hq=>key_kept (ky q hq) fun o=>up _ o (.inr ⟨q,hq,rfl⟩);change wpAny _ A.in1 (holding [Value.ref p.2] (setAdd a (.ref p.2)) >>= _) _ _ s1;refine qAA (qA0 (w_more (knd:=knd) hu g1 (ky1 p pm) (by rw [qAX];lia) fun c h' sb g2=>?_))
  have et:ks.take i++[(p.1,p.2)]=ks.take (i+1):=by
   rw [qCz,ep];rfl
  rw [et] at g2
  have st2:=W.frame (i+1) s1 h' (s1.toks+(p.1.length+1)) st1 (qCd _ _) fun b hb o q=>by
   rw [sb.2 b fun z=>haf (z▸hb)];exact q
  refine qAE ⟨qBy qDK _,ih (i+1) _ (by lia) st2 g2 (fun q hq=>key_kept (ky1 q hq) fun o z=>(sb.2 _ (hka q hq).1).trans z) fun s2 mv2 g3=>hR s2 ?_ g3⟩;refine Moved.trans W.gtrans ((mv.mono fun b hb=>qAU a hb).then_heap (qCd _ _) fun b o hb z=>?_) mv2;exact (sb.2 b fun y=>hb (y▸qAV)).trans z
end
section
variable {prog:Program} {w:World} {K:Type} [DecidableEq K] {knd:KeyKind prog w K} {A:Around} {E:Value->Shared->Prop} {s:Shared}
def set0 (w:World):Obj:={cls:=.type "set",dict:=none,data:=.set #[] 0 (.fresh 0 0 (!byt w))}
theorem c_new (v:Value) {Q:Value->Shared->Prop} (h:Q (.ref s.heap.objs.size) {s with heap:=s.heap.push (set0 w)}):codeAny (model prog w) A (.call (.builtin "set.__new__") ⟨[.type "set",v],[]⟩) (wants Q E) s:=by
 refine qC0 ?_;change wpAny _ A.in1 (checkBuiltinCall "set.__new__" ⟨[.type "set",v],[]⟩ >>= fun _=>again (.builtin "set.__new__" ⟨[.type "set",v],[]⟩)) _ _ s;refine qAA (qAy (F.newCall_set_1 v) (qAE ⟨qBy F.plain_set_new _,qBX F.entry_set_new ?_⟩));rw [qBx F.plain_set_new _];unfold Builtin.«set.__new__» Builtin.Frozenset.newClass;have q:=sub_set_self;obtain ⟨hp,g,d,tk,os⟩:=s;dsimp only
 wp_walk
 refine qBR (qAE ?_);dsimp only;simp only [newObj];refine qAA (wpAny_alloc (qAE (qAE ?_)));exact h
theorem w_setBy {l:Addr} {its:Array Value} {Z:Heap->Prop} {Q:Value->Shared->Prop} (hh:A.handled=none) (hl:s.heap.IsList l its)
  (fill:∀(A1:Around) (R:Result->Shared->Prop) (s3:Shared) (fp:List Addr) (G:Array GenState->Array GenState->Prop) (St:Nat->Shared->Prop),A1.in1.units<=A.units+3->WalksS prog w A1.in1 (s.heap.objs.size+1) fp [s.heap.objs.size+1] G its.size (fun i v=>its[i]?=some v) St->s.heap.objs.size∉fp ->
   s3.heap.get? s.heap.objs.size=some (set0 w)->(∀b o,s.heap.get? b=some o->s3.heap.get? b=some o)->St 0 s3->(∀s',Moved [s.heap.objs.size,s.heap.objs.size+1] G s3 s'->Z s'.heap->R (.ok (.ret .none)) s') ->
   codeAny (model prog w) A1 (.builtin "set.update.loop" ⟨[.ref s.heap.objs.size,.ref (s.heap.objs.size+1)],[]⟩) R s3)
  (h:∀(h':Heap) (tk:Nat),s.toks<=tk->Z h'->(∀b o,s.heap.get? b=some o->h'.get? b=some o)->Q (.ref s.heap.objs.size) {s with heap:=h',toks:=tk}) :
  wpAny (model prog w) A (call (.type "set") [.ref l]) Q E s:=by
 obtain ⟨c,tl,hmro⟩:=qBo.mro;have k1:=qBo.made;have k2:=qBo.sub;refine qCU (qC0 ?_);change wpAny _ _ (callAny (.type "set") _) _ _ _;refine qAE ⟨Code.quiet_builtin _ (by decide +kernel),qBX F.entry_type_call ?_⟩;rw [Around.under_plain (weight_type_call_type "set" [.ref l] []) rfl];have k3:=qBo.notType;have k4:=qBo.canCreate;have k5:=F.typeCall_set_1 (.ref l)
 repeat (any_goals (first| assumption| wp_step))
 have hne:∀b o,s.heap.get? b=some o->b≠s.heap.objs.size:=fun b o q=>qAT (qAK q);refine qBd (c_new (w:=w) (.ref l) (E:=E) (Q:=fun ob s1=>ob= .ref s.heap.objs.size/\s1={s with heap:=s.heap.push (set0 w)}) ⟨rfl,rfl⟩) fun r s1 hr=>?_
 cases r with
 | error e=>exact hr
 | ok fl =>
  cases fl with
  | ret ob =>
   obtain ⟨rfl,rfl⟩:=hr;have hS:(s.heap.push (set0 w)).get? s.heap.objs.size=some (set0 w):=qAb _ rfl;have hT:Shared.TypeIs {s with heap:=s.heap.push (set0 w)} (.ref s.heap.objs.size) "set" := ⟨_,hS,rfl⟩;have k6:=qBo.init.lookup;have k7:=qBo.init.bind (.ref s.heap.objs.size)
   repeat (any_goals (first| assumption| wp_step))
   refine qBd (qC1 (R:=wants (fun r s2=>r= .none/\∃h' tk,s2={s with heap:=h',toks:=tk}/\s.toks<=tk/\Z h'/\(∀b o,s.heap.get? b=some o->h'.get? b=some o)) E) qBo.init.plain F.entry_set_init (check_set_init_1 hT ?_)) fun r2 s2 hr2=>?_
   ·obtain ⟨ol,hol,hcl,nl,hdl⟩:=hl;obtain ⟨o1,o2,o3,o4⟩:=ol;simp only at hcl hdl;subst hcl hdl;have hol1:(s.heap.push (set0 w)).get? l=some {cls:=.type "list",dict:=o2,data:=.seq its nl,slots:=o4}:=qAI _ hol;have k8:=F.sub_list_set;have k9:=F.sub_list_frozenset;have k10:(Value.type "list" == Value.type "dict")=false:=by decide
    have hl1:(s.heap.push (set0 w)).IsList l its:=⟨_,hol1,rfl,nl,rfl⟩;unfold Builtin.«set.__init__» noKeywords Builtin.Frozenset.updateFrom;generalize hPI:pyIter=PI
    wp_walk
    subst hPI;refine qB8 hl1 ?_;refine qAA (wpAny_runValue ?_);have esz:(s.heap.push (set0 w)).objs.size=s.heap.objs.size+1:=qBB _ _;have hls:l<s.heap.objs.size:=qAK hol;have W:=(Walks.list (prog:=prog) (w:=w) (A:=A.in1.in1.in1) (by simpa using hh) (s.heap.push (set0 w)).objs.size l (by rw [esz];exact qAT (qCE hls)) its).toS;rw [esz] at W;rw [esz];refine fill A.in1.in1 _ _ _ _ _ (by show A.units+1+1+1<=A.units+3;lia) W ?_ (qAI _ hS) (fun b o q=>qAI _ (qAI _ q)) ⟨⟨_,by rw [<-esz];exact qAb _ rfl,rfl,rfl⟩,hl1.push _⟩ ?_
    ·simp only [qAS,qBQ,qBp,not_or];exact ⟨qAT (qCT _),qA8 hls⟩
    ·intro s1 mv g;obtain ⟨h1,g1,d1,tk1,os1⟩:=s1;have e1:g1=s.gens:=mv.gens;have e2:d1=s.drawn:=mv.drawn;have e3:os1=s.os:=mv.os;subst e1 e2 e3;show wpAny _ _ _ _ _ _;refine qAE (qAE ⟨rfl,h1,tk1,rfl,mv.toks,g,fun b o q=>?_⟩);have:=qAK q
     exact mv.heap b o (by
      simp only [qAS,qBQ,qBp,not_or];exact ⟨qAT this,qAT (qCE this)⟩) (qAI _ (qAI _ q))
   ·cases r2 with
    | error e=>exact hr2
    | ok f2 =>
     cases f2 with
     | ret r =>
      obtain ⟨rfl,h',tk,rfl,q1,q2,q3⟩:=hr2
      repeat (any_goals (first| assumption| wp_step))
      exact h _ _ q1 q2 q3
     | _=>exact hr2.elim
  | _=>exact hr.elim
theorem w_mkset {l:Addr} {its:Array Value} {ks:List (List K×Addr)} {Q:Value->Shared->Prop} (hh:A.handled=none) (hu:A.units+8<cLine) (hl:s.heap.IsList l its) (ei:its.toList=ks.map fun p=>.ref p.2) (ky:∀p∈ks,IsTupleKey knd s.heap p.1 p.2) (hc:ks.length<=306)
  (h:∀(h':Heap) (tk:Nat),s.toks<=tk->Got knd h' s.heap.objs.size ks->(∀b o,s.heap.get? b=some o->h'.get? b=some o)->Q (.ref s.heap.objs.size) {s with heap:=h',toks:=tk}) :
  wpAny (model prog w) A (call (.type "set") [.ref l]) Q E s:=by
 refine w_setBy hh hl (fun A1 R s3 fp G St hv W hf hS kp st hR=>?_) h
 have ez:its.size=ks.length:=by
  have:=qAa List.length ei;simpa using this
 rw [ez] at W;refine c_fill (knd:=knd) (by lia) W s.heap.objs.size hf (fun i v hv=>?_) (fun p hp=>?_) hc ks.length 0 _ (by lia) st (Got.fresh hS) (fun p hp=>key_kept (ky p hp) fun o q=>kp _ o q) hR
 ·have:its.toList[i]?=some v:=by rw [qAl];exact hv
  rw [ei,qAY] at this
  cases hk:ks[i]? with
  | none=>rw [hk] at this;exact nomatch this
  | some p=>rw [hk] at this;exact ⟨p,rfl,(qAd this).symm⟩
 ·obtain ⟨o,_,_,ho,_⟩:=ky p hp;have:=qAK ho;simp only [qAS,qBQ,qBp];exact ⟨qAT this,qAT (qCE this)⟩
end
theorem zEt:Slot "set_iterator" "__next__" "set_iterator.__next__" :=
 .of (owner:= "set_iterator") (n:= "__next__") (by rw [qBz,qB0];kernel_rfl) (by decide +kernel) (by decide +kernel) (by decide +kernel) (by first| exact .inl (by decide +kernel)| exact .inr (by decide +kernel)) (by rw [qC2];kernel_rfl)
theorem sl_self:Slot "set_iterator" "__iter__" "set_iterator.__iter__" :=
 .of (owner:= "set_iterator") (n:= "__iter__") (by rw [qBz,qB0];kernel_rfl) (by decide +kernel) (by decide +kernel) (by decide +kernel) (by first| exact .inl (by decide +kernel)| exact .inr (by decide +kernel)) (by rw [qC2];kernel_rfl)
theorem en_next:entryFor table "set_iterator.__next__" = some Builtin.«set_iterator.__next__»:=entryFor_of_fast (by kernel_rfl)
theorem en_self:entryFor table "set_iterator.__iter__" = some Builtin.«dict_keyiterator.__iter__»:=entryFor_alias (id':= "dict_keyiterator.__iter__") (by kernel_rfl) rfl (by decide +kernel) (by kernel_rfl)
theorem en_iter:entryFor table "set.__iter__" = some Builtin.«frozenset.__iter__»:=entryFor_alias (id':= "frozenset.__iter__") (by kernel_rfl) rfl (by decide +kernel) (by kernel_rfl)
theorem ar_next (a:Value):argsOk "set_iterator.__next__" ⟨[a],[]⟩:=by unfold argsOk;kernel_rfl
theorem ar_self (a:Value):argsOk "set_iterator.__iter__" ⟨[a],[]⟩:=by unfold argsOk;kernel_rfl
theorem zC3 {M:Model} {A:Around} {E:Value->Shared->Prop} {s:Shared} {c:Prop} [Decidable c] {x y:Sem α} {Q:α->Shared->Prop} (hc:¬c) (h:wpAny M A y Q E s):wpAny M A (if c then x else y) Q E s:=by rw [qAB hc];exact h
theorem zE3 {M:Model} {A:Around} {E:Value->Shared->Prop} {s:Shared} {c:Prop} [Decidable c] {x y:Sem α} {Q:α->Shared->Prop} (hc:c) (h:wpAny M A x Q E s):wpAny M A (if c then x else y) Q E s:=by rw [qAC hc];exact h
theorem zFz :∀{L:List α} {i:Nat} {x:α},L[i]?=some x->(x::L.eraseIdx i).Perm L
 | [],i,x,h=>by simp at h
 | y::r,0,x,h=>by
  have:y=x:=qAd h;subst this;exact qC3 _
 | y::r,i+1,x,h=>by
  rw [qCe] at h;exact (List.Perm.swap y x _).trans (List.Perm.cons y (zFz h))
theorem pick_go (next:Nat->Nat):∀(fuel k:Nat) (left:List α) (out:Array α),left.length<=fuel->(pickOrder.go next fuel k left out).toList.Perm (out.toList++left)
 | 0,k,left,out,h=>by
  have:left=[]:=qCk.mp (Nat.le_zero.mp h);subst this;unfold pickOrder.go;rw [qBK]
 | fuel+1,k,left,out,h=>by
  unfold pickOrder.go
  cases e:left[next k % left.length]? with
  | none =>
   have:left=[]:=by
    cases left with
    | nil=>rfl
    | cons x r =>
     have:=qDL.mp e;have h2:=Nat.mod_lt (next k) (show 0<(x::r).length from Nat.succ_pos _);exact absurd h2 (qCh.mpr this)
   subst this;dsimp only;rw [qBK]
  | some x =>
   dsimp only;have p:=zFz e;have hl:=p.length_eq;rw [qAe] at hl;refine (pick_go next fuel (k+1) _ _ (by lia)).trans ?_;rw [qCc,qBT];exact List.Perm.append_left _ p
theorem pick_perm (next:Nat->Nat) (xs:Array α):(pickOrder next xs).toList.Perm xs.toList:=by
 have:=pick_go next xs.size 0 xs.toList #[] (by simp);show (pickOrder.go next xs.size 0 xs.toList #[]).toList.Perm _;simpa using this
section
variable {prog:Program} {w:World} {K:Type} [DecidableEq K] {knd:KeyKind prog w K} {A:Around} {E:Value->Shared->Prop}
theorem w_choose {s:Shared} {src:Source} {n:Nat} (hn:n≠0) {Q:Nat->Shared->Prop} (h:∀i d,i<n->Q i {s with drawn:=d}):wpAny (model prog w) A (choose src n) Q E s:=fun _ _ _=>⟨hn,h _ _ (Nat.mod_lt _ (Nat.pos_of_ne_zero hn))⟩
theorem w_draw :∀(n:Nat) (L:List α) (s:Shared) (Q:List α->Shared->Prop),L.length=n->(∀M d,M.Perm L->Q M {s with drawn:=d})->wpAny (model prog w) A (drawOrder n L) Q E s
 | 0,L,s,Q,hl,h=>by
  have:L=[]:=qCk.mp hl;subst this;unfold drawOrder;exact qAE (h [] s.drawn (qC3 _))
 | n+1,[],s,Q,hl,h=>nomatch hl
 | n+1,x::r,s,Q,hl,h=>by
  unfold drawOrder;refine qAA (w_choose (by rw [hl];exact Nat.succ_ne_zero n) fun i d hi=>?_);obtain ⟨y,ey⟩:∃y,(x::r)[i]?=some y:=⟨(x::r)[i],qAp hi⟩;rw [ey];dsimp only;have p:=zFz ey;have hl2:=p.length_eq;rw [qAe] at hl2;refine qAA (w_draw n _ _ _ (by lia) fun M d' hM=>qAE ?_);exact h (y::M) d' ((List.Perm.cons y hM).trans p)
end
def dr (es:Array (Int×Value)) (t:SetTable):Bool:=!t.plain&&decide (es.size>1)
def ItM (w:World) (h:Heap) (a:Addr) (es:Array (Int×Value)) (ep:Nat) (t:SetTable) (ord:List Value) (i:Nat) (first:Value):Prop :=
 (byt w=true/\(∃j:Nat,first= .int j 0)/\ord=(pickOrder (w.params.setOrder a ep) es).toList.map (·.2)) \/
 (byt w=false/\∃(T:Addr) (oT:Obj) (c:Nat) (pl:List Nat),first= .ref T/\h.get? T=some oT/\oT.data= .seq (pl.map fun (p:Nat)=>Value.int p 0).toArray c/\pl.Perm (List.range es.size)/\ord=pl.filterMap fun p=>(es[p]?).map (·.2)) \/
 (byt w=false/\dr es t=false/\∃slot:Nat,first= .int slot 0/\below t.place slot=i/\ord=es.toList.map (·.2))
structure ItS (w:World) (h:Heap) (I a:Addr) (es:Array (Int×Value)) (ep:Nat) (t:SetTable) (ord:List Value) (i:Nat) (o:Obj) (first:Value):Prop where
 ho:h.get? I=some o
 hc:o.cls= .type "set_iterator"
 hd:o.data= .fields #[first,.int i 0,.ref a,.int es.size 0,.int ep 0]
 hm:ItM w h a es ep t ord i first
section
variable {prog:Program} {w:World} {K:Type} [DecidableEq K] {knd:KeyKind prog w K} {A:Around} {E:Value->Shared->Prop} {s:Shared}
variable {a I:Addr} {xs:List (List K×Addr)} {o oI:Obj} {es:Array (Int×Value)} {ep i:Nat} {t:SetTable} {ord:List Value} {first:Value}
theorem below_zero (hr:Rise t.place.toList):below t.place 0=0:=by
 have B:=zEo hr 0;rcases Nat.eq_zero_or_pos (below t.place 0) with z| z
 ·exact z
 ·have hs:0<t.place.size:=qAn z B.le;have e:t.place[0]?=some t.place[0]:=by simp [hs]
  exact absurd (B.lo 0 _ z e) (qCi _)
theorem below_next (hr:Rise t.place.toList) {i j:Nat} (e:t.place[i]?=some j):below t.place (j+1)=i+1:=by
 have B:=zEo hr (j+1);have hi:i<t.place.size:=(qBm.mp e).1;have h1:i<below t.place (j+1):=Nat.lt_of_not_le fun z=>by have:=B.hi i j z e;lia
 rcases Nat.lt_or_ge (i+1) (below t.place (j+1)) with z| z
 ·have hs:i+1<t.place.size:=qAn z B.le;have e2:t.place[i+1]?=some t.place[i+1]:=by simp [hs]
  have q1:=B.lo (i+1) _ z e2;have q2:=zEi hr (qCT i) e e2;lia
 ·lia
theorem ItM.perm (m:ItM w h a es ep t ord i first):ord.Perm (es.toList.map (·.2)):=by
 rcases m with ⟨_,_,rfl⟩| ⟨_,T,oT,c,pl,_,_,_,hp,rfl⟩| ⟨_,_,slot,_,_,rfl⟩
 ·exact (pick_perm _ es).map _
 ·have:=hp.filterMap fun p=>(es[p]?).map (·.2);refine this.trans (List.Perm.of_eq ?_);rw [<-List.map_filterMap];congr 1;have:=range_get es.toList;rw [qBb] at this;simpa using this
 ·exact qC3 _
theorem ItM.len (m:ItM w h a es ep t ord i first):ord.length=es.size:=by
 rw [m.perm.length_eq];simp
theorem ItS.typeIs (it:ItS w s.heap I a es ep t ord i oI first):s.TypeIs (.ref I) "set_iterator" := ⟨_,it.ho,it.hc⟩
theorem fm_at {pl:List Nat} (hp:pl.Perm (List.range es.size)) (i:Nat):(pl.filterMap fun p=>(es[p]?).map (·.2))[i]?=(pl[i]?).bind fun p=>(es[p]?).map (·.2):=by
 have hall:∀k∈pl,k<es.size:=fun k hk=>qA4.mp (hp.mem_iff.mp hk);clear hp
 induction pl generalizing i with
 | nil=>simp
 | cons k ks ih =>
  have hk:=hall k qAV;have e:es[k]?=some es[k]:=by simp [hk]
  have ih':=fun i=>ih i fun q hq=>hall q (qAU _ hq);rw [qB7,e]
  cases i with
  | zero=>simp [e]
  | succ i =>
   show (_::_)[i+1]?=_;rw [qCe,ih' i,qCe]
theorem w_item (X:SetX knd s.heap a xs o es ep t) (it:ItS w s.heap I a es ep t ord i oI first) (hne:I≠a) {v:Value} (hv:ord[i]?=some v) {Q:Option Value->Shared->Prop}
  (h:∀h' o' f',Heap.SameBut I s.heap h'->ItS w h' I a es ep t ord (i+1) o' f'->(∀T,f'= .ref T->first= .ref T)->Q (some v) {s with heap:=h'}):wpAny (model prog w) A (pyNext (.ref I)) Q E s:=by
 unfold pyNext;refine qAA (qCb (qC4 (name:=Str.ofString "__next__") it.typeIs zEt (qBY zEt it.typeIs en_next ?_ (ar_next _))));unfold Builtin.«set_iterator.__next__»;refine qAA (m:=slotArgs "__next__" 0 _) (qAE ?_);refine qAA (wpAny_fieldsOf it.ho it.hd ?_);dsimp only;refine qAA (wpAny_setEntries_of X.ho X.hd X.fits ?_);refine zC3 (by simp) ?_;rcases it.hm with ⟨m1,⟨j,rfl⟩,m3⟩| ⟨m1,T,oT,c,pl,rfl,m3,m4,m5,m6⟩| ⟨m1,m2,slot,rfl,m4,m5⟩
 ·dsimp only;refine qAA ?_;unfold setNext;refine qAA (X.state ?_);dsimp only;refine qAA (qAA (qBR (qAE ?_)));refine zE3 m1 ?_;refine zC3 (by simp) ?_;refine qAA ?_;unfold setWalk;refine qAA (X.state ?_);dsimp only;refine qAA (qAA (qBR (qAE ?_)));refine zE3 m1 ?_;refine qAA (qBR (qAE (qAE ?_)))
  have e1:(pickOrder (w.params.setOrder a ep) es)[i]?.map (·.2)=some v:=by
   rw [m3,qAY] at hv;rw [<-qAl];exact hv
  obtain ⟨q,q1,q2⟩:=qBW.mp e1;subst q2;have e2:(pickOrder ((model prog w).w.params.setOrder a ep) es)[(i:Int).toNat]?=some q:=q1
  erw [e2]
  show wpAny _ _ (setField (.ref I) 0 (rawInt _) >>= _) _ _ _;refine qAA (qBZ it.ho it.hd (by simp) ?_);have g1:=qBE (Obj.mapFields (·.setIfInBounds 0 (rawInt (j:Int).toNat))) it.ho (qCK (qAv it.hd _));refine qAA (qBZ g1 (qAv it.hd _) (by simp) ?_);refine qAE ⟨_,rfl,qAE (h _ _ _ ((qAs ..).trans (qAs ..)) ⟨qBE _ g1 (qCK (qAv (qAv it.hd _) _)),?_,?_,.inl ⟨m1,⟨j,rfl⟩,m3⟩⟩ (fun T z=>nomatch z))⟩
  ·rw [qCl,qCl];exact it.hc
  ·rw [qAv (qAv it.hd _)];simp [rawInt]
 ·dsimp only
  have hTI:T≠I:=fun z=>by
   subst z;have:=qAd (m3.symm.trans it.ho);subst this;rw [it.hd] at m4;exact nomatch m4
  refine qAA (m:=seqItems? (.ref T)) (wpAny_seqItems m3 m4 ?_);dsimp only;rw [m6,fm_at m5] at hv;obtain ⟨p,p1,p2⟩:=Option.bind_eq_some_iff.mp hv;obtain ⟨q,q1,q2⟩:=qBW.mp p2;subst q2
  have e1:(pl.map fun (p:Nat)=>Value.int p 0).toArray[(i:Int).toNat]?=some (.int p 0):=by
   simp [p1]
  rw [e1];dsimp only;refine qAA ?_;unfold setNextDrawn;refine qAA (X.state ?_);dsimp only;refine zC3 (by simp) ?_;have e2:es[(p:Int).toNat]?=some q:=q1;rw [e2];refine qAE ?_;refine qAA (qBZ it.ho it.hd (by simp) ?_);refine qAE ⟨_,rfl,qAE (h _ _ _ (qAs ..) ⟨qBE _ it.ho (qCK (qAv it.hd _)),(qCl ..).trans it.hc,?_,.inr (.inl ⟨m1,T,oT,c,pl,rfl,?_,m4,m5,m6⟩)⟩ (fun T z=>z))⟩
  ·rw [qAv it.hd];simp [rawInt]
  ·exact ((qAs s.heap I _).2 T hTI).trans m3
 ·dsimp only;refine qAA ?_;unfold setNext;refine qAA (X.state ?_);dsimp only;refine qAA (qAA (qBR (qAE ?_)));refine zC3 (by show¬(byt w=true);rw [m1];decide) ?_;refine zC3 (show¬(dr es t=true) by rw [m2];decide) ?_;refine qAA (zC3 (show¬((!t.led&& !es.isEmpty)=true) by rw [X.ld,m1];simp) (qAE ?_))
  have hl:i<es.size:=by
   rw [<-it.hm.len];exact (qAh.mp hv).1
  have hl2:i<t.place.size:=by
   rw [X.ok.n,qAD,<-X.size];exact hl
  have e1:es[i]?=some es[i]:=by simp [hl]
  have e2:t.place[i]?=some t.place[i]:=by simp [hl2]
  have e3:es[i].2=v:=by
   rw [m5,qAY,qAl,e1] at hv;exact qAd hv
  have e4:below t.place (slot:Int).toNat=i:=m4;rw [e4,e1,e2];refine qAE ?_;show wpAny _ _ (setField (.ref I) 0 (rawInt _) >>= _) _ _ _;refine qAA (qBZ it.ho it.hd (by simp) ?_);have g1:=qBE (Obj.mapFields (·.setIfInBounds 0 (rawInt ((t.place[i]+1:Nat):Int)))) it.ho (qCK (qAv it.hd _));refine qAA (qBZ g1 (qAv it.hd _) (by simp) ?_);subst e3;refine qAE ⟨_,rfl,qAE (h _ _ _ ((qAs ..).trans (qAs ..)) ⟨qBE _ g1 (qCK (qAv (qAv it.hd _) _)),?_,?_,.inr (.inr ⟨m1,m2,t.place[i]+1,rfl,below_next X.ok.r e2,m5⟩)⟩ (fun T z=>nomatch z))⟩
  ·rw [qCl,qCl];exact it.hc
  ·rw [qAv (qAv it.hd _)];simp [rawInt]
theorem w_stop {s:Shared} {Q:Option Value->Shared->Prop} (hh:A.handled=none) (h:∀h',(∀b o,s.heap.get? b=some o->h'.get? b=some o)->Q none {s with heap:=h'}) :
  wpAny (model prog w) A.in1 (newExc (.type "StopIteration") [] >>= fun e=>(raiseNew e:Sem Fin)) (fun fin s'=>∃r,fin= .done (.ret r)/\wpAny (model prog w) A (pure (some r)) Q E s')
   (fun e s'=>wpAny (model prog w) A (isInstance e (.type "StopIteration") >>= fun b=>if b=true then pure none else throw e) Q E s') s:=by
 refine qAA ?_;simp only [newExc,newTuple];refine qAA (qBt ?_ (by size_fits));refine qAA (m:=firstArgMember _ _) (qAy (a:=Value.none) (by first| rfl| (simp only [firstArgMember];rfl)) ?_);refine qBt ?_ (by size_fits);simp only [raiseNew];refine qAA (wpAny_handled ?_);rw [show A.in1.handled=none from hh];refine qAA (qAE (wpAny_throw ?_));refine qAA (qCL (T:= "StopIteration") (b:=true) ⟨_,qAb _ rfl,rfl⟩ isSubtype_stop ?_);exact qAE (h _ fun b o q=>qAI _ (qAI _ q))
theorem w_done (hh:A.handled=none) (X:SetX knd s.heap a xs o es ep t) (it:ItS w s.heap I a es ep t ord i oI first) (hv:ord[i]?=none) {Q:Option Value->Shared->Prop}
  (h:∀h',(∀b o,b≠I->s.heap.get? b=some o->h'.get? b=some o)->Q none {s with heap:=h'}):wpAny (model prog w) A (pyNext (.ref I)) Q E s:=by
 unfold pyNext;refine qAA (qCb (qC4 (name:=Str.ofString "__next__") it.typeIs zEt (qBY zEt it.typeIs en_next ?_ (ar_next _))));unfold Builtin.«set_iterator.__next__»;refine qAA (m:=slotArgs "__next__" 0 _) (qAE ?_);refine qAA (wpAny_fieldsOf it.ho it.hd ?_);dsimp only;refine qAA (wpAny_setEntries_of X.ho X.hd X.fits ?_);refine zC3 (by simp) ?_;have up:∀h1,Heap.SameBut I s.heap h1->∀h',(∀b o,h1.get? b=some o->h'.get? b=some o)->Q none {s with heap:=h'}:=fun h1 sb h' q=>h h' fun b o hb z=>q b o ((sb.2 b hb).trans z);rcases it.hm with ⟨m1,⟨j,rfl⟩,m3⟩| ⟨m1,T,oT,c,pl,rfl,m3,m4,m5,m6⟩| ⟨m1,m2,slot,rfl,m4,m5⟩
 ·dsimp only;refine qAA ?_;unfold setNext;refine qAA (X.state ?_);dsimp only;refine qAA (qAA (qBR (qAE ?_)));refine zE3 m1 ?_;refine zC3 (by simp) ?_;refine qAA ?_;unfold setWalk;refine qAA (X.state ?_);dsimp only;refine qAA (qAA (qBR (qAE ?_)));refine zE3 m1 ?_;refine qAA (qBR (qAE (qAE ?_)))
  have e1:(pickOrder (w.params.setOrder a ep) es)[i]?.map (·.2)=none:=by
   rw [m3,qAY] at hv;rw [<-qAl];exact hv
  have e2:(pickOrder ((model prog w).w.params.setOrder a ep) es)[(i:Int).toNat]?=none:=qDM.mp e1
  erw [e2]
  show wpAny _ _ (setField (.ref I) 2 Value.none >>= _) _ _ _;refine qAA (qBZ it.ho it.hd (by simp) ?_);refine w_stop hh ?_;exact up _ (qAs ..)
 ·dsimp only;refine qAA (m:=seqItems? (.ref T)) (wpAny_seqItems m3 m4 ?_);dsimp only
  have e1:(pl.map fun (p:Nat)=>Value.int p 0).toArray[(i:Int).toNat]?=none:=by
   have h1:ord.length<=i:=qDL.mp hv;rw [it.hm.len] at h1;have h2:=m5.length_eq;rw [List.length_range] at h2;simp only [Int.toNat_natCast,List.getElem?_toArray,qAY,qDM,qDL];lia
  rw [e1];dsimp only;refine qAA (qBZ it.ho it.hd (by simp) ?_);have g1:=qBE (Obj.mapFields (·.setIfInBounds 0 (rawInt 0))) it.ho (qCK (qAv it.hd _));refine qAA (qBZ g1 (qAv it.hd _) (by simp) ?_);refine w_stop hh ?_;exact up _ ((qAs ..).trans (qAs ..))
 ·dsimp only;refine qAA ?_;unfold setNext;refine qAA (X.state ?_);dsimp only;refine qAA (qAA (qBR (qAE ?_)));refine zC3 (by show¬(byt w=true);rw [m1];decide) ?_;refine zC3 (show¬(dr es t=true) by rw [m2];decide) ?_;refine qAA (zC3 (show¬((!t.led&& !es.isEmpty)=true) by rw [X.ld,m1];simp) (qAE ?_))
  have e1:es[i]?=none:=by
   rw [m5,qAY,qAl] at hv;exact qDM.mp hv
  have e4:below t.place (slot:Int).toNat=i:=m4;rw [e4,e1];refine qAE ?_;show wpAny _ _ (setField (.ref I) 2 Value.none >>= _) _ _ _;refine qAA (qBZ it.ho it.hd (by simp) ?_);refine w_stop hh ?_;exact up _ (qAs ..)
theorem w_self (it:ItS w s.heap I a es ep t ord i oI first) {Q:Value->Shared->Prop} (h:Q (.ref I) s):wpAny (model prog w) A (pyIter (.ref I)) Q E s:=by
 refine wpAny_pyIter_slot it.typeIs sl_self (qBY sl_self it.typeIs en_self ?_ (ar_self _));show wpAny _ _ (ret (.ref I)) _ _ s;exact qAE ⟨_,rfl, "set_iterator",_,it.typeIs,zEt.lookup,h⟩
theorem SetX.typeIs (X:SetX knd s.heap a xs o es ep t):s.TypeIs (.ref a) "set" := ⟨_,X.ho,X.ex.1⟩
theorem w_iter (X:SetX knd s.heap a xs o es ep t) (hn:xs.length<=306) {Q:Value->Shared->Prop}
  (h:∀I h' d ord oI first,(∀b o,s.heap.get? b=some o->h'.get? b=some o)->s.heap.objs.size<=I->ItS w h' I a es ep t ord 0 oI first->(∀T,first= .ref T->s.heap.objs.size<=T)->Q (.ref I) {s with heap:=h',drawn:=d}):wpAny (model prog w) A (pyIter (.ref a)) Q E s:=by
 refine wpAny_pyIter_slot X.typeIs F.slot_set_iter (qBY F.slot_set_iter X.typeIs en_iter ?_ (F.args_set_iter_1 _));unfold Builtin.«frozenset.__iter__» Builtin.Frozenset.slot0;refine qAA (qAA (m:=slotArgs "__iter__" 0 _) (qAE (qAE ?_)));dsimp only;unfold Builtin.Frozenset.sizeOf;refine qAA (qAA (wpAny_setEntries_of X.ho X.hd X.fits (qAE ?_)));unfold setDrawn;refine qAA (qAA (X.state (qAA (qAA (qBR (qAE (qAE ?_)))))));have hsz:es.size<=306:=by rw [X.size];exact hn
 by_cases c:(!byt w&&dr es t)=true
 ·refine zE3 c ?_;have c1:byt w=false:=by cases z:byt w<;>simp [z] at c ⊢
  refine qAA (w_draw es.size (List.range es.size) s _ (by simp) fun pl d hp=>?_);have hpl:pl.length=es.size:=by rw [hp.length_eq];simp
  refine qAA (wpAny_newTuple ?_ (by rw [qAD,hpl];exact qAc hsz (by decide +kernel)));refine qAA (wpAny_setEpoch_of (qAI _ X.ho) X.hd X.fits ?_);refine qAA (qBt (qAE ⟨_,rfl, "set_iterator",_,⟨_,qAb _ rfl,rfl⟩,zEt.lookup,?_⟩));refine h _ _ d (pl.filterMap fun p=>(es[p]?).map (·.2)) _ (.ref s.heap.objs.size) (fun b o q=>qAI _ (qAI _ q)) ?_ ⟨qAb _ rfl,rfl,rfl,.inr (.inl ⟨c1,_,_,_,pl,rfl,qAI _ (qAb _ rfl),rfl,hp,rfl⟩)⟩ (fun T z=>by cases z;exact qAF _);show s.heap.objs.size<=(s.heap.push _).objs.size;rw [qBB];exact qBL _
 ·refine zC3 c ?_;refine qAA (qAE ?_);refine qAA (wpAny_setEpoch_of X.ho X.hd X.fits ?_);refine qAA (qBt (qAE ⟨_,rfl, "set_iterator",_,⟨_,qAb _ rfl,rfl⟩,zEt.lookup,?_⟩))
  cases z:byt w with
  | true =>
   exact h _ _ s.drawn ((pickOrder (w.params.setOrder a ep) es).toList.map (·.2)) _ (.int 0 0) (fun b o q=>qAI _ q) (qAF _) ⟨qAb _ rfl,rfl,rfl,.inl ⟨z,⟨0,rfl⟩,rfl⟩⟩ (fun T z=>nomatch z)
  | false =>
   have c2:dr es t=false:=by rw [z] at c;simpa using c
   exact h _ _ s.drawn (es.toList.map (·.2)) _ (.int 0 0) (fun b o q=>qAI _ q) (qAF _) ⟨qAb _ rfl,rfl,rfl,.inr (.inr ⟨z,c2,0,rfl,below_zero X.ok.r,rfl⟩)⟩ (fun T z=>nomatch z)
end
theorem len_set:typeLookup (.type "set") "__len__" = pure (some (.builtin "set.__len__")):=by rw [qBz,qB0];kernel_rfl
section
variable {prog:Program} {w:World} {K:Type} [DecidableEq K] {knd:KeyKind prog w K} {A:Around} {E:Value->Shared->Prop} {s:Shared}
variable {a I:Addr} {xs:List (List K×Addr)} {o oI:Obj} {es:Array (Int×Value)} {ep i:Nat} {t:SetTable} {ord:List Value} {first:Value}
def WSt (knd:KeyKind prog w K) (a I:Addr) (xs:List (List K×Addr)) (o:Obj) (es:Array (Int×Value)) (ep:Nat) (t:SetTable) (ord:List Value) (Ts:List Addr) (i:Nat) (s:Shared):Prop :=
 ∃oI first,SetX knd s.heap a xs o es ep t/\ItS w s.heap I a es ep t ord i oI first/\∀T,first= .ref T->T∈Ts
theorem w_walks (hh:A.handled=none) (a I:Addr) (hne:I≠a) (xs:List (List K×Addr)) (hx:∀p∈xs,p.2≠I) (o:Obj) (es:Array (Int×Value)) (ep:Nat) (t:SetTable) (ord:List Value) (Ts:List Addr) (hT:I∉Ts) :
  WalksS prog w A I (I::a::(xs.map (·.2)++Ts)) [I] (fun a b=>b=a) ord.length (fun i v=>ord[i]?=some v) (WSt knd a I xs o es ep t ord Ts) where
 sub:=fun b hb=>by rw [qAQ.mp hb];exact qAV
 grefl:=fun _=>rfl
 gtrans:=fun _ _ _ x y=>y.trans x
 frame:=fun i s h' tk ⟨oI,first,X,it,hf⟩ _ hk=>by
  refine ⟨oI,first,X.kept fun b o hb q=>hk b ?_ o q,⟨hk I qAV _ it.ho,it.hc,it.hd,?_⟩,hf⟩
  ·rcases hb with rfl| ⟨p,hp,rfl⟩
   ·exact qAU _ qAV
   ·exact qAU _ (qAU _ (qAq _ (qAJ.mpr ⟨p,hp,rfl⟩)))
  ·rcases it.hm with m| ⟨m1,T,oT,c,pl,m2,m3,m4⟩| m
   ·exact .inl m
   ·exact .inr (.inl ⟨m1,T,oT,c,pl,m2,hk T (qAU _ (qAU _ (qAr _ (hf T m2)))) _ m3,m4⟩)
   ·exact .inr (.inr m)
 item:=fun i s Q E hi ⟨oI,first,X,it,hf⟩ hQ=>by
  refine w_item X it hne (v:=ord[i]) (by simp [hi]) fun h' o' f' sb it' hf'=>hQ _ _ (by simp [hi]) ⟨o',f',X.kept fun b o hb q=>?_,it',fun T z=>hf T (hf' T z)⟩ ⟨fun b o hb q=>(sb.2 b fun z=>hb (z▸qAV)).trans q,rfl,rfl,rfl,qAF _⟩;rcases hb with rfl| ⟨p,hp,rfl⟩
  ·exact (sb.2 _ (qAm hne)).trans q
  ·exact (sb.2 _ (hx p hp)).trans q
 done:=fun s Q E ⟨oI,first,X,it,hf⟩ hQ=>w_done hh X it (by simp) fun h' q=>hQ _ ⟨fun b o hb=>q b o fun z=>hb (z▸qAV),rfl,rfl,rfl,qAF _⟩
 self:=fun i s Q E ⟨oI,first,X,it,hf⟩ hQ=>w_self it hQ
theorem items_ord {acc:Array Value} (h:ItemsOf (fun i v=>ord[i]?=some v) acc ord.length):acc.toList=ord:=by
 refine List.ext_getElem? fun i=>?_;rw [qAl]
 cases e:acc[i]? with
 | some v=>exact (h.2 i v e).symm
 | none =>
  have:=Array.getElem?_eq_none_iff.mp e;rw [h.1] at this;exact (qDI this).symm
theorem w_collect (hh:A.handled=none) (X:SetX knd s.heap a xs o es ep t) (hn:xs.length<=306) {Q:List Value->Shared->Prop}
  (h:∀s' vs,vs.Perm (xs.map fun p=>.ref p.2)->(∀b o,s.heap.get? b=some o->s'.heap.get? b=some o)->s'.gens=s.gens->s'.os=s.os->s.toks<=s'.toks->Q vs s'):wpAny (model prog w) A (collect (.ref a)) Q E s:=by
 unfold collect;refine qAA (wpAny_runValue (qBX F.entry_proto_collect ?_));rw [qBx F.plain_proto_collect _];change wpAny _ A.in1 (newList [] >>= fun l=>again (.builtin "list.__iadd__" ⟨[l,Value.ref a],[]⟩)) _ _ s;refine qAA (qBt ?_);refine qAE ⟨qBy F.plain_list_iadd _,qBX F.entry_list_iadd ?_⟩;rw [qBx F.plain_list_iadd _];generalize hL:s.heap.objs.size=L;have hS1:(s.heap.push {cls:=.type "list",data:=.seq ([]:List Value).toArray}).get? L=some {cls:=.type "list",data:=.seq ([]:List Value).toArray}:=by rw [<-hL];exact qAb _ rfl
 generalize hH1:s.heap.push {cls:=.type "list",data:=.seq ([]:List Value).toArray}=H1 at hS1 ⊢;have up1:∀b o,s.heap.get? b=some o->H1.get? b=some o:=fun b o q=>by rw [<-hH1];exact qAI _ q
 have sz1:H1.objs.size=L+1:=by rw [<-hH1,qBB,hL]
 have below:∀b o,s.heap.get? b=some o->b<L:=fun b o q=>by rw [<-hL];exact qAK q
 have X1:SetX knd H1 a xs o es ep t:=X.kept fun b o _ q=>up1 b o q;have haL:a≠L:=qAT (below a _ X.ho);change wpAny _ A.in1 (Builtin.List.listExtendWith (Value.ref L) (.ref a) (.ref L)) _ _ _;unfold Builtin.List.listExtendWith;refine qAA (qCg (T:= "set") ⟨_,X1.ho,X1.ex.1⟩ ?_);have n1:Builtin.List.listSameRef (.ref L) (.ref a)=false:=by simp [Builtin.List.listSameRef,qAm haL]
 refine zC3 (by rw [n1];decide) ?_;refine qAA (w_iter (s:={s with heap:=H1}) X1 hn fun I h2 d ord oI first up2 hI it hf=>?_);have hI:L+1<=I:=by rw [<-sz1];exact hI
 have X2:SetX knd h2 a xs o es ep t:=X1.kept fun b o _ q=>up2 b o q;refine qAA (qA0 ?_);unfold Builtin.List.listLengthHint;have T2:Shared.TypeIs {s with heap:=h2,drawn:=d} (.ref a) "set" := ⟨_,X2.ho,X2.ex.1⟩;refine qAA (qCD T2 len_set ?_);generalize hid:("set.__len__" : String)=id0;dsimp only;rw [show splitId id0=some ("set", "__len__") from by subst hid;decide +kernel];subst hid;dsimp only;refine qAA (qCL (b:=true) T2 sub_set_self ?_);refine zC3 (by decide) ?_;refine zE3 (by decide +kernel) ?_;refine qAA (qCg T2 ?_);refine qAE ?_;refine zE3 (by decide +kernel) ?_;refine qAA (qA9 ?_);have hS2:=up2 L _ hS1;refine qAA ?_;change wpAny _ A.in1 (updateSeq L (·.push Value.none) >>= fun _=>updateSeq L (·.pop)) _ _ _;refine qAA (wpAny_updateSeq hS2 rfl ?_);have hS3:=qBE (Obj.mapSeq (·.push Value.none)) hS2 rfl;refine wpAny_updateSeq hS3 rfl ?_;have hS4:=qBE (Obj.mapSeq (·.pop)) hS3 rfl;dsimp only;have sb:Heap.SameBut L h2 ((h2.update L (Obj.mapSeq (·.push Value.none))).update L (Obj.mapSeq (·.pop))):=(qAs ..).trans (qAs ..);generalize hH4:(h2.update L (Obj.mapSeq (·.push Value.none))).update L (Obj.mapSeq (·.pop))=H4 at hS4 sb ⊢
 have hIa:I≠a:=fun z=>by
  have:=below a _ X.ho;rw [<-z] at this;exact absurd this (qCh.mpr (Nat.le_of_succ_le hI))
 have hxI:∀p∈xs,p.2≠I:=fun p hp z=>by
  obtain ⟨ob,_,_,q,_⟩:=X.ky p hp;have:=below _ _ q;rw [z] at this;exact absurd this (qCh.mpr (Nat.le_of_succ_le hI))
 obtain ⟨Ts,hTs,hT1⟩:∃Ts:List Addr,(∀T,first= .ref T->T∈Ts)/\∀T∈Ts,first= .ref T:=by
  cases first with
  | ref T=>exact ⟨[T],fun T' z=>by cases z;exact qAQ.mpr rfl,fun T' z=>by rw [qAQ.mp z]⟩
  | _=>exact ⟨[],(fun T z=>nomatch z),(fun T z=>nomatch z)⟩
 have hTge:∀T∈Ts,L+1<=T:=fun T hT=>by rw [<-sz1];exact hf T (hT1 T hT)
 have hTI:I∉Ts:=fun z=>by
  rcases it.hm with ⟨_,⟨j,e⟩,_⟩| ⟨_,T,oT,c,pl,e,m3,m4,_⟩| ⟨_,_,j,e,_⟩
  ·have:=(hT1 _ z).symm.trans e;exact nomatch this
  ·have:=(hT1 _ z).symm.trans e
   cases this
   have:=qAd (m3.symm.trans it.ho);subst this;rw [it.hd] at m4;exact nomatch m4
  ·have:=(hT1 _ z).symm.trans e;exact nomatch this
 have W:=w_walks (prog:=prog) (w:=w) (knd:=knd) (A:=A.in1) hh a I hIa xs hxI o es ep t ord Ts hTI
 have hLf:L∉I::a::(xs.map (·.2)++Ts):=fun z=>by
  rcases qAS.mp z with z| z
  ·rw [<-z] at hI;exact absurd hI (Nat.not_succ_le_self L)
  rcases qAS.mp z with z| z
  ·exact haL z.symm
  rcases qAN.mp z with z| z
  ·obtain ⟨p,hp,e⟩:=qAJ.mp z;obtain ⟨ob,_,_,q,_⟩:=X.ky p hp;have:=below _ _ q;rw [e] at this;exact qBS _ this
  ·exact absurd (hTge _ z) (Nat.not_succ_le_self L)
 have hol:ord.length<=sizeLine:=by
  rw [it.hm.len,X.size];exact qAc hn (by decide +kernel)
 have st2:WSt knd a I xs o es ep t ord Ts 0 {s with heap:=h2,drawn:=d}:=⟨oI,first,X2,it,hTs⟩;have st4:=W.frame 0 _ H4 s.toks st2 (qAF _) fun b hb ob q=>(sb.2 b fun z=>hLf (z▸hb)).trans q;refine qAE ⟨qBy F.plain_extend_loop _,codeAny_extend_loopS W hol L hLf _ ord.length 0 _ _ _ rfl (qAg _) st4 hS4 (ItemsOf.nil _) fun s' acc c' mv hS' hacc=>?_⟩;change wpAny _ A (load L >>= _) _ _ s';refine qAA (qCR hS' ?_);refine qAE (h s' acc.toList ?_ (fun b ob q=>?_) mv.gens mv.os mv.toks)
 ·rw [items_ord hacc];refine it.hm.perm.trans (List.Perm.of_eq ?_);rw [X.el,qA1];rfl
 ·have hb:=below b ob q;refine mv.heap b ob ?_ ((sb.2 b (qAT hb)).trans (up2 b ob (up1 b ob q)));intro z;rcases qAS.mp z with z| z
  ·exact qAT hb z
  ·rw [qAQ.mp z] at hb;exact absurd hb (qCh.mpr (Nat.le_of_succ_le hI))
end
end ST
namespace ST
open PySem PyProof.Rows PySem.W
abbrev sg (x:Str):List Nat:=x.cps.toList
theorem sg_inj {x y:Str} (h:sg x=sg y):x=y:=by
 cases x;cases y
 exact qAa Str.mk (Array.toList_inj.mp h)
def tlt:List Str->List Str->Bool
 | [],[]=>false
 | [],_::_=>true
 | _::_,[]=>false
 | x::r,y::q=>if x=y then tlt r q else decide (sg x<sg y)
theorem sg_tri (x y:Str):sg x<sg y\/x=y\/sg y<sg x:=by
 by_cases h1:sg x<sg y
 ·exact .inl h1
 by_cases h2:sg y<sg x
 ·exact .inr (.inr h2)
 ·exact .inr (.inl (sg_inj (List.le_antisymm (List.not_lt.mp h2) (List.not_lt.mp h1))))
theorem tlt_irr:∀a,tlt a a=false
 | []=>rfl
 | x::r=>by unfold tlt;rw [qAC rfl];exact tlt_irr r
theorem zGo:∀a b c,tlt a b=true->tlt b c=true->tlt a c=true
 | [],[],c,h1,h2=>h2
 | [],_::_,[],h1,h2=>by simp [tlt] at h2
 | [],_::_,_::_,h1,h2=>rfl
 | _::_,[],c,h1,h2=>by simp [tlt] at h1
 | x::r,y::q,[],h1,h2=>by simp [tlt] at h2
 | x::r,y::q,z::p,h1,h2=>by
  unfold tlt at h1 h2 ⊢
  by_cases e1:x=y
  ·subst e1;rw [qAC rfl] at h1
   by_cases e2:x=z
   ·subst e2;rw [qAC rfl] at h2 ⊢;exact zGo r q p h1 h2
   ·rw [qAB e2] at h2 ⊢;exact h2
  ·rw [qAB e1] at h1
   by_cases e2:y=z
   ·subst e2;rw [qAB e1];exact h1
   ·rw [qAB e2] at h2;have q1:=qAo h1;have q2:=qAo h2;have q3:=List.lt_trans q1 q2;rw [qAB fun e=>by subst e;exact List.lt_irrefl _ q3];exact qAR q3
theorem tlt_tot:∀a b,tlt a b=false->tlt b a=false->a=b
 | [],[],_,_=>rfl
 | [],_::_,h,_=>by simp [tlt] at h
 | _::_,[],_,h=>by simp [tlt] at h
 | x::r,y::q,h1,h2=>by
  unfold tlt at h1 h2
  by_cases e:x=y
  ·subst e;rw [qAC rfl] at h1 h2;rw [tlt_tot r q h1 h2]
  ·rw [qAB e] at h1;rw [qAB (qAm e)] at h2;rcases sg_tri x y with z| z| z
   ·exact absurd z (of_decide_eq_false h1)
   ·exact absurd z e
   ·exact absurd z (of_decide_eq_false h2)
theorem tlt_neg (a b c:List Str) (h:tlt a c=true):tlt a b=true\/tlt b c=true:=by
 cases h1:tlt a b with
 | true=>exact .inl rfl
 | false =>
  right
  cases h2:tlt b a with
  | true=>exact zGo b a c h2 h
  | false=>rw [<-tlt_tot a b h1 h2];exact h
@[reducible] def tupK (f:Addr->Option (List Str)):PyProof.Rows.KeyKind where
 α:=List Str
 blt:=tlt
 irrefl:=tlt_irr
 trans:=zGo
 negTrans:=tlt_neg
 total:=tlt_tot
 keyOf v:=match v with| .ref b=>f b| _=>none
 dflt:=[]
section
variable {prog:Program} {w:World} {A:Around} {E:Value->Shared->Prop} {s:Shared}
theorem zFv {ks:List Str} {vs:List Value} (h:ItemsAre (PySem.strKind prog w) ks vs):StrsAre vs ks:=by
 induction h with
 | nil=>exact .nil
 | @cons k v ks vs h1 _ ih =>
  obtain ⟨t,rfl⟩:=Value.isStrOf_shape h1;exact .cons k t ih
theorem kat_strs {b fin:Bool} {Q:Bool->Shared->Prop}:∀{xs ys:List Value} {ax ay:List Str},StrsAre xs ax->StrsAre ys ay->∀i,fin=decide (xs.length<ys.length)->Q (tlt ax ay) s->KatLex prog w A b fin Q (xs.zip ys) i s
 | _,_,_,_,.nil,.nil,i,e,h=>by subst e;exact kat_nil h
 | _,_,_,_,.nil,.cons y t hy,i,e,h=>by subst e;exact kat_nil h
 | _,_,_,_,.cons x t hx,.nil,i,e,h=>by subst e;exact kat_nil h
 | _,_,_,_,.cons x t hx,.cons y u hy,i,e,h=>by
  rw [List.zip_cons_cons];refine kat_cons (wpAny_eqBool_str ?_);unfold tlt at h
  by_cases c:x=y
  ·rw [qAC c] at h;rw [qAR c];refine kat_yes (kat_strs hx hy (i+1) ?_ h);rw [e];simp
  ·rw [qAB c] at h;rw [qAW c];refine kat_no ?_
   cases z:(b&&i==0) with
   | true=>exact oneLt_str h
   | false=>exact kat_one _ _ (lt_str h)
theorem tup_cmp (f:Addr->Option (List Str)) (hf:∀b k,f b=some k->IsTupleKey (PySem.strKind prog w) s.heap k b) (b:Bool):Tim.CmpOk prog w A s (tuples' b) (tupK f):=by
 intro E x y a c Q hx hy h
 cases x<;>simp only [reduceCtorEq] at hx
 cases y<;>simp only [reduceCtorEq] at hy
 obtain ⟨ox,ix,nx,x1,_,x2,x3⟩:=hf _ _ hx;obtain ⟨oy,iy,ny,y1,_,y2,y3⟩:=hf _ _ hy;exact kat_lt x1 x2 y1 y2 (kat_strs (zFv x3) (zFv y3) 0 (by simp) h)
end
theorem zIl {vs:List Value} {xs:Array Keyed} (hp:xs.Perm (pairsOf vs)):(xs.map (·.2)).toList.Perm vs:=by
 have hl:xs.toList.Perm (vs.zip vs):=by rw [<-pairsOf_toList];exact qC5.mp hp
 have:=hl.map (·.2);rw [List.map_snd_zip (qAF _)] at this
 rwa [Array.toList_map]
section
variable {prog:Program} {w:World} {A:Around} {E:Value->Shared->Prop} {s:Shared}
structure Sortable (prog:Program) (w:World) (A:Around) (κ:PyProof.Rows.KeyKind) (kd:SortKind) (vs:List Value) (s:Shared):Prop where
 cmp:Tim.CmpOk prog w A s kd κ
 kind:2<=vs.length->∀(E:Value->Shared->Prop) (Q:SortKind->Shared->Prop),Q kd s->wpAny (model prog w) A (keyKind' vs.toArray) Q E s
 has:∀v∈vs,∃k,κ.keyOf v=some k
theorem srt_heap {h:Heap} {a:Addr} {vs:List Value} {n:Nat} {out:Array Value} (ho:h.get? a=some (seqObj "list" vs.toArray n)):(∃c,(sortedHeap h a vs out).get? a=some (seqObj "list" out c))/\∀b o,b≠a->h.get? b=some o->(sortedHeap h a vs out).get? b=some o:=by
 have ha:a<h.objs.size:=qAK ho;have h1:(h.update a (Obj.mapSeq fun _=>#[])).get? a=some (seqObj "list" #[] _):=get?_update_seq ho fun _=>#[];have h2:=qAI (seqObj "list" #[] 0) (qAI (seqObj "tuple" vs.toArray 0) h1);refine ⟨⟨_,get?_update_seq h2 fun _=>out⟩,fun b o hb q=>?_⟩;unfold sortedHeap;rw [qCB _ _ (qAm hb)];refine qAI _ (qAI _ ?_);rw [qCB _ _ (qAm hb)];exact q
end
section
variable {prog:Program} {w:World} {A:Around} {E:Value->Shared->Prop} {s:Shared}
abbrev Up (h h':Heap):Prop:=∀b o,h.get? b=some o->h'.get? b=some o
end
section
variable {prog:Program} {w:World} {A:Around} {E:Value->Shared->Prop} {s:Shared}
theorem tups_sortable {ks:List (List Str×Addr)} {vs:List Value} (hv:vs.Perm (ks.map fun p=>.ref p.2)) (ky:∀p∈ks,IsTupleKey (PySem.strKind prog w) s.heap p.1 p.2) (hne:∀p∈ks,p.1≠[]) :
  Sortable prog w A (tupK fun b=>(ks.find? fun p=>p.2==b).map (·.1)) (tuples' true) vs s:=by
 have look:∀p∈ks,∃q∈ks,(ks.find? fun p'=>p'.2==p.2)=some q/\q.2=p.2:=fun p hp=>by
  cases e:ks.find? fun p'=>p'.2==p.2 with
  | none=>exact absurd (qBn.mp e p hp) (by simp)
  | some q=>exact ⟨q,qDH e,rfl,by simpa using List.find?_some e⟩
 refine ⟨tup_cmp _ (fun b k e=>?_) true,fun h2 E Q h=>?_,fun v hvm=>?_⟩
 ·obtain ⟨p,p1,p2⟩:=qBW.mp e;have p3:p.2=b:=by simpa using List.find?_some p1
  rw [<-p2,<-p3];exact ky p (qDH p1)
 ·have go:∀(us:List Value),(∀u∈us,∃p∈ks,u= .ref p.2)->∃fs:List Value,KatTups s.heap us fs/\fs.length=us.length/\∀f∈fs,∃x t,f= .str x t:=by
   intro us
   induction us with
   | nil=>intro _;exact ⟨[],.nil,rfl,(fun f hf=>nomatch hf)⟩
   | cons u us ih =>
    intro hu;obtain ⟨fs,t1,t2,t3⟩:=ih fun u hu'=>hu u (qAU _ hu');obtain ⟨p,hp,rfl⟩:=hu u qAV;obtain ⟨ob,its,n,q1,q2,q3,q4⟩:=ky p hp;have q5:=zFv q4;have q6:=hne p hp;generalize hk:p.1=k at q5 q6;generalize hl:its.toList=l at q5
    cases q5 with
    | nil=>exact absurd rfl q6
    | cons x t r =>
     refine ⟨.str x t::fs,.cons q1 q2 q3 ?_ t1,by simp [t2],fun f hf=>?_⟩
     ·rw [<-qAl,hl];rfl
     ·rcases qAS.mp hf with z| z
      ·exact ⟨x,t,z⟩
      ·exact t3 f z
  obtain ⟨fs,t1,t2,t3⟩:=go vs fun u hu=>by
   obtain ⟨p,hp,e⟩:=qAJ.mp (hv.mem_iff.mp hu);exact ⟨p,hp,e.symm⟩
  refine kat_kind (T:=.type "str") t1 (by lia) (fun f hf=>?_) (by decide) h;obtain ⟨x,t,rfl⟩:=t3 f hf;exact .now
 ·obtain ⟨p,hp,rfl⟩:=qAJ.mp (hv.mem_iff.mp hvm);obtain ⟨q,hq,e,_⟩:=look p hp;exact ⟨q.1,by show Option.map _ _=_;rw [e];rfl⟩
end
end ST
namespace L2
open PySem PySem.Spec PyProof.Rows
def TSt (P:Program) (w:World) (a:Addr) (xs:List (List Str×Addr)):HO :=
 .ext fun h=>∃o es ep t,h.get? a=some o/\o.ExactSet/\o.data= .set es ep t/\es.toList=xs.map (ST.en (PySem.strKind P w))/\ST.TOk t (xs.map fun p=>tupleKeyHash (PySem.strKind P w) p.1)/\xs.length*5<t.mask*3/\(xs.map (·.1)).Nodup/\t.led= !ST.byt w
def RowT (K:PySem.W.Frag) (H:Hp) (p:List Str×Addr):Prop:=SqT K H p.2 (p.1.map V.str)
section
variable {X:Cx} {pins:List (Addr×Obj)} {σ:St} {H:Hp} {s:Shared}
theorem zHz {prog:Program} {w:World}:∀{ks:List Str} {its:List Value},Vals (ks.map V.str) its->ItemsAre (PySem.strKind prog w) ks its
 | [],_,.nil=>.nil
 | k::ks,_,.cons ⟨t,e⟩ r=>by
  subst e;exact .cons (by show Value.isStrOf k (.str k t)=true;simp [Value.isStrOf]) (zHz r)
theorem Inv.rowT (I:Inv X pins σ H s) {p:List Str×Addr} (h:RowT X.K H p):IsTupleKey (PySem.strKind X.prog X.w) s.heap p.1 p.2:=by
 obtain ⟨its,r,⟨o,ho,hc,n,hd⟩,_⟩:=I.tuple h;exact ⟨o,its.toArray,n,ho,hc,hd,by simpa using zHz r⟩
theorem vals_refs:∀{ks:List (List Str×Addr)} {its:List Value},Vals (ks.map fun p=>V.ref p.2) its->its=ks.map fun p=>Value.ref p.2
 | [],_,.nil=>rfl
 | k::ks,_,.cons e r=>by
  have e:_=Value.ref k.2:=e;subst e;rw [vals_refs r];rfl
theorem refs_vals:∀(ks:List (List Str×Addr)),Vals (ks.map fun p=>V.ref p.2) (ks.map fun p=>Value.ref p.2)
 | []=>.nil
 | k::ks=>.cons rfl (refs_vals ks)
theorem got_ok {h:Heap} {H:Hp} {a:Addr} {xs:List (List Str×Addr)} {o:Obj} {es:Array (Int×Value)} {ep:Nat} {t:SetTable} (Z:ST.SetX (PySem.strKind X.prog X.w) h a xs o es ep t):zBb X.prog X.w H h a (TSt X.prog X.w a xs) :=
 ⟨⟨o,es,ep,t,Z.ho,Z.ex,Z.hd,Z.el,Z.ok,Z.room,Z.nd,Z.ld⟩,⟨o,Z.ho⟩,fun h1 h2 ⟨o,es,ep,t,q,r⟩ k=>⟨o,es,ep,t,k o q,r⟩⟩
theorem call_setT {k:Nat} (hr:Room k X.A):zCu X (.type "set") (fun xs H Q=>∃(l:Addr) (ks:List (List Str×Addr)),xs=[.ref l]/\SqL X.K H l (ks.map fun p=>V.ref p.2)/\(∀p∈ks,RowT X.K H p)/\ks.length<=306 /\
  ∀a ys,H a=none->(∀p∈ys,p∈ks)->(∀p∈ks,p.1∈ys.map (·.1))->(ys.map (·.1)).Nodup->ys.length<=ks.length->Q (.ref a) (upd H a (TSt X.prog X.w a ys))):=by
 intro pins s σ H xs us Q I r h;obtain ⟨l,ks,rfl,hl,hk,hc,q⟩:=h;obtain ⟨u,rfl,rx⟩:=vals1 r
 cases rx
 obtain ⟨its,r',pl,hz⟩:=I.list hl;have ei:=vals_refs r';refine ST.w_mkset (knd:=PySem.strKind X.prog X.w) (ks:=ks) hr.hd (by have:=hr.un;lia) pl.isList (by rw [ei]) (fun p hp=>I.rowT (hk p hp)) hc fun h' tk _ g kp=>?_;obtain ⟨ys,o,es,ep,t,Z,g1,g2,g3⟩:=g;exact ⟨.ref s.heap.objs.size,_,I.laid (t':=tk) kp (qAF _) (got_ok Z),rfl,q _ ys (I.hok.fresh (qAF _)) g1 g2 Z.nd g3⟩
theorem perm_back {α β:Type} (f:α->β):∀{vs:List β} {ks:List α},vs.Perm (ks.map f)->∃zs:List α,zs.Perm ks/\vs=zs.map f:=by
 intro vs ks h;generalize hm:ks.map f=ms at h
 induction h generalizing ks with
 | nil=>exact ⟨[],by rw [List.map_eq_nil_iff.mp hm],rfl⟩
 | @cons x l₁ l₂ _ ih =>
  cases ks with
  | nil=>exact nomatch hm
  | cons k ks =>
   rw [qAi] at hm;obtain ⟨e1,e2⟩:=List.cons.inj hm;obtain ⟨zs,p,e⟩:=ih e2;exact ⟨k::zs,.cons k p,by rw [qAi,<-e,e1]⟩
 | swap x y l =>
  match ks,hm with
  | a::b::ks,hm =>
   simp only [qAi,List.cons.injEq] at hm;obtain ⟨e1,e2,e3⟩:=hm;exact ⟨b::a::ks,.swap a b ks,by simp [e1,e2,e3]⟩
 | trans _ _ ih1 ih2 =>
  obtain ⟨zs,p,e⟩:=ih2 hm;obtain ⟨zs',p',e'⟩:=ih1 e.symm;exact ⟨zs',p'.trans p,e'⟩
end
end L2
namespace ST
section
open PySem PyProof.Rows
variable {prog:Program} {w:World} {A:Around} {s:Shared}
end
end ST
namespace L2
open PySem PySem.Spec PyProof.Rows
variable {l a:Addr}{H:Hp}
section
variable {X:Cx}
def rInsert:V->List V->Hp->VK->Prop:=fun x vs H Q=>∃l xs i y,x= .ref l/\vs=[.int i,y]/\H l=some (.lst xs)/\xs.length<sizeLine/\0<=i/\i<=xs.length/\Q .non (upd H l (.lst (xs.take i.toNat++y::xs.drop i.toNat)))
theorem zDe:MtM X "list.insert" rInsert:=by
 intro pins s σ H x vs v us Q I rx rv h;obtain ⟨l,xs,i,y,rfl,rfl,hH,hz,h0,h1,q⟩:=h
 cases rx
 obtain ⟨u1,u,rfl,r1,ru⟩:=rv.two;obtain ⟨t,rfl⟩:=r1;obtain ⟨z,its,n,r,hl,e⟩:=I.lstM hH;have hsl:sizeLine<2^62:=by decide +kernel
 have hfit:¬(!Builtin.List.listFitsIndex i)=true:=by
  unfold Builtin.List.listFitsIndex;have a1:-(2^63:Int)<=i:=by lia
  have a2:i<2^63:=by lia
  rw [qAR a1,qAR a2];decide
 refine qA6 F.slot_list_insert ⟨_,e,rfl⟩ F.entry_list_insert (F.args_list_insert_3 _ _ _) (PySem.AutoListH.list_insert_list_int_val_1 l its.toArray n i t u hfit (by rw [qAP];lia)) ⟨e,?_⟩;refine ⟨.non,_,I.lset (its':=its.take i.toNat++u::its.drop i.toNat) hH e ?_ ((r.take _).append (.cons ru (r.drop _))) ?_,rfl,q⟩
 ·have hk:(if i<0 then (i+((its.toArray.size:Nat):Int)).toNat else min i.toNat its.toArray.size)=i.toNat:=by
   rw [qAB (by lia),qAP];lia
  show (its.toArray.extract 0 _).push u++its.toArray.extract _=_;rw [hk];apply Array.ext';rw [qCF,qCc,qBu,qBu,qBT];simp [List.extract_eq_drop_take,qBk]
 ·rw [qAj,qAe,qAX,qBM];lia
def mrg (kvs more:List (Key×V)):List (Key×V):=more.foldl (fun acc p=>putK acc p.1 p.2) kvs
theorem KV.mrg {kvs:List (Key×V)} {vs:List (Key×Value)} (r:KV kvs vs):∀{more:List (Key×V)} {ms:List (Key×Value)},KV more ms->KV (mrg kvs more) (merged vs ms):=by
 intro more ms r2;unfold L2.mrg merged;unfold KV at r2
 induction r2 generalizing kvs vs with
 | nil=>exact r
 | @cons p q l₁ l₂ h _ ih =>
  rw [qBU,qBU,h.1];exact ih (r.put q.1 h.2)
theorem mrg_len (kvs more:List (Key×V)):(mrg kvs more).length<=kvs.length+more.length:=by
 unfold mrg
 induction more generalizing kvs with
 | nil=>exact qAF _
 | cons p r ih =>
  rw [qBU,qAe];have h1:=ih (putK kvs p.1 p.2);have h2:=zE2 kvs p.1 p.2;lia
def rDUpd:V->List V->Hp->VK->Prop:=fun x vs H Q=>∃a b kvs more,x= .ref a/\vs=[.ref b]/\H a=some (.dK kvs)/\H b=some (.dK more)/\a≠b/\kvs.length+more.length<=sizeLine/\Q .non (upd H a (.dK (mrg kvs more)))
theorem mt_dupd:MtR X "dict.update" rDUpd:=by
 intro pins s σ H x vs v us Q I rx rv h;obtain ⟨a,b,kvs,more,rfl,rfl,hA,hB,hne,hz,q⟩:=h
 cases rx
 obtain ⟨u,rfl,ru⟩:=rv.one
 cases ru
 obtain ⟨_,a2,vs1,a3,a4⟩:=I.hok a _ hA;obtain ⟨_,b2,vs2,b3,b4⟩:=I.hok b _ hB;have l1:kvs.length=vs1.length:=qB5 a3;have l2:more.length=vs2.length:=qB5 b3;refine call_meetsIn F.slot_dict_update a4.typeIs F.entry_dict_update (F.args_dict_update_2 _ _) (meets_dict_update (zBd X.prog X.w) a b hne b2) ⟨vs1,vs2,a4,b4,by lia,fun h' d1 d2 sb=>?_⟩;have new:zBb X.prog X.w (upd H a (.dK (mrg kvs more))) h' a (.dK (mrg kvs more)):=⟨qAc (mrg_len kvs more) hz,a2,_,a3.mrg b3,d1⟩;refine ⟨.non,_,I.write (x:=a) (e:=a) (t':=s.toks) (by rw [hA];exact trivial) (.inl rfl) (fun c o hc z=>(sb.2 c hc).trans z) ?_ new,rfl,q⟩;obtain ⟨o,_,_,e,_⟩:=d1;exact ⟨o,e⟩
end
section
variable {X:Cx}
theorem op_neU (hu:X.A.units<cLine):OpR X (compareOp .NotEq) (rUnlen X.K true):=by
 intro pins s σ H x y v u Q I rx ry h;obtain ⟨a,c,xs,ys,rfl,rfl,hx,hy,hl,q⟩:=h
 cases rx
 cases ry
 obtain ⟨its,r,pl,hz⟩:=I.list hx;obtain ⟨its2,r2,pl2,hz2⟩:=I.list hy;have e1:=r.length;have e2:=r2.length;exact SeqAt.RcNeAt.lists_lengths pl.isList pl2.isList (by rw [qAP,qAP];simp;lia) hu X.prog X.w X.xe _ ⟨.bl true,H,I,rfl,q⟩
end
theorem zEy {X:Cx} {k:Nat} (hr:Room k X.A):OpR X (compareOp .NotEq) (fun x y H Q=>rAlike X.K 8 false x y H Q\/rUnlen X.K true x y H Q):=(op_neA (hu2 hr)).either (op_neU (hu0 hr))
section
variable {P:Program} {w:World} {A:Around} {E:Value->Shared->Prop} {s:Shared}
theorem enum_step {e it:Addr} {c:Int} {i:Nat} {ys:Array Value} {x old:Value} {Q:Value->Shared->Prop} (he:IsEnum s.heap e it c old) (hi:s.heap.IsListIter it l i) (hl:s.heap.IsList l ys) (hx:ys[i]?=some x) (ne:e≠it)
  (q:∀k,IsEnumOut k e it (c+1) x s.heap.objs.size->k.IsListIter it l (i+1)->k.get? s.heap.objs.size=some {cls:=.type "tuple",data:=.seq #[.int c s.toks,x]}->k.objs.size=s.heap.objs.size+1 ->
   (∀b o,b≠e->b≠it->s.heap.get? b=some o->k.get? b=some o)->Q (.ref s.heap.objs.size) {s with heap:=k,toks:=s.toks+1}) :
  wpAny (model P w) A (Builtin.«enumerate.__next__» ⟨[.ref e],[]⟩) (fun r s'=>∃v,r= .done (.ret v)/\Q v s') E s:=by
 obtain ⟨h0,g,d,tk,os⟩:=s;have esz:e<h0.objs.size:=qAK he;show wpAny _ _ (field (Value.ref e) 2 >>= _) _ _ ⟨h0,g,d,tk,os⟩;refine qAA (qBa he rfl (x:=Value.ref it) rfl ?_);refine qAA (wpAny_nextOf_list_item hi hl hx fun k1 i1 b1=>?_);have b1:Heap.SameBut it h0 k1:=b1;have e1:IsEnum k1 e it c old:=(b1.2 e ne).trans he;show wpAny _ _ (field (Value.ref e) 3 >>= _) _ _ ⟨k1,g,d,tk,os⟩;refine qAA (qBa (s:=⟨k1,g,d,tk,os⟩) e1 rfl (x:=rawInt c) rfl ?_);show wpAny _ _ (field (Value.ref e) 4 >>= _) _ _ ⟨k1,g,d,tk,os⟩;refine qAA (qBa (s:=⟨k1,g,d,tk,os⟩) e1 rfl (x:=Value.none) rfl ?_);show wpAny _ _ (mkInt c >>= _) _ _ ⟨k1,g,d,tk,os⟩;refine qAA (wpAny_mkInt ?_);show wpAny _ _ (setField (Value.ref e) 3 (rawInt (c+1)) >>= _) _ _ ⟨k1,g,d,tk+1,os⟩;refine qAA (qCm (s:=⟨k1,g,d,tk+1,os⟩) e1 (by simp) fun k2 e2 b2=>?_);have b2:Heap.SameBut e k1 k2:=b2;have e2:IsEnum k2 e it (c+1) old:=e2;show wpAny _ _ (setField (Value.ref e) 4 Value.none >>= _) _ _ ⟨k2,g,d,tk+1,os⟩;refine qAA (qCm (s:=⟨k2,g,d,tk+1,os⟩) e2 (by simp) fun k3 e3 b3=>?_);have b3:Heap.SameBut e k2 k3:=b3;have e3:IsEnum k3 e it (c+1) old:=e3;show wpAny _ _ (newTuple [Value.int c tk,x] >>= _) _ _ ⟨k3,g,d,tk+1,os⟩;refine qAA (wpAny_newTuple ?_);have z3:k3.objs.size=h0.objs.size:=b3.1.trans (b2.1.trans b1.1);have i3:k3.IsListIter it l (i+1):=(i1.extBut b2.extBut ne.symm).extBut b3.extBut ne.symm;have t4:(k3.push {cls:=.type "tuple",data:=.seq #[Value.int c tk,x]}).get? h0.objs.size=some {cls:=.type "tuple",data:=.seq #[Value.int c tk,x]}:=by rw [<-z3];exact qAb _ rfl
 have z4:(k3.push {cls:=.type "tuple",data:=.seq #[Value.int c tk,x]}).objs.size=h0.objs.size+1:=by rw [qBB,z3]
 have o4:∀b o,b≠e->b≠it->h0.get? b=some o->(k3.push {cls:=.type "tuple",data:=.seq #[Value.int c tk,x]}).get? b=some o:=fun b o n1 n2 y=>qAI _ (b3.extBut b o n1 (b2.extBut b o n1 (b1.extBut b o n2 y)));have i4:(k3.push {cls:=.type "tuple",data:=.seq #[Value.int c tk,x]}).IsListIter it l (i+1):=i3.at fun o y=>qAI _ y;have e4:IsEnum (k3.push {cls:=.type "tuple",data:=.seq #[Value.int c tk,x]}) e it (c+1) old:=qAI _ e3;show wpAny _ _ (Builtin.SmallTypes.ownedTupleIsFree (.ref e) >>= _) _ _ ⟨k3.push {cls:=.type "tuple",data:=.seq #[Value.int c tk,x]},g,d,tk+1,os⟩;have z3':(Shared.heap ⟨k3,g,d,tk+1,os⟩).objs.size=h0.objs.size:=z3;rw [z3'];generalize k3.push {cls:=.type "tuple",data:=.seq #[Value.int c tk,x]}=k4 at t4 z4 o4 i4 e4 ⊢;refine qAA ?_;unfold Builtin.SmallTypes.ownedTupleIsFree;refine qAA (qBa e4 rfl (x:=Value.none) rfl (qAE ?_));simp only [qBN];refine qAA (qA9 ?_);refine qAA (qBa (s:=⟨k4,g,d,tk+1,os⟩) e4 rfl (x:=old) rfl ?_);refine qAA (qCm (s:=⟨k4,g,d,tk+1,os⟩) e4 (by simp) fun k5 e5 b5=>?_);have b5:Heap.SameBut e k4 k5:=b5;have e5:IsEnum k5 e it (c+1) x:=e5;refine qAA ?_;unfold Builtin.SmallTypes.ownedTupleHandOut;refine qAA (qCm (s:=⟨k5,g,d,tk+1,os⟩) e5 (by simp) fun k6 e6 b6=>?_);have b6:Heap.SameBut e k5 k6:=b6;have e6:IsEnumOut k6 e it (c+1) x h0.objs.size:=e6;refine qCm (s:=⟨k6,g,d,tk+1,os⟩) e6 (by simp) fun k7 e7 b7=>?_;have b7:Heap.SameBut e k6 k7:=b7;have e7:IsEnumOut k7 e it (c+1) x h0.objs.size:=e7;have on:∀b o,b≠e->k4.get? b=some o->k7.get? b=some o:=fun b o n y=>b7.extBut b o n (b6.extBut b o n (b5.extBut b o n y));refine qAA (wpAny_letGo (qAE ⟨_,rfl,q k7 e7 (i4.at fun o y=>on it o ne.symm y) (on _ _ (qA8 esz) t4) (by rw [b7.1,b6.1,b5.1,z4]) fun b o n1 n2 y=>on b o n1 (o4 b o n1 n2 y)⟩))
theorem enum_next {e it:Addr} {c:Int} {i:Nat} {ys:Array Value} {x old:Value} {Q:Option Value->Shared->Prop} (he:IsEnum s.heap e it c old) (hi:s.heap.IsListIter it l i) (hl:s.heap.IsList l ys) (hx:ys[i]?=some x) (ne:e≠it)
  (q:∀k,IsEnumOut k e it (c+1) x s.heap.objs.size->k.IsListIter it l (i+1)->k.get? s.heap.objs.size=some {cls:=.type "tuple",data:=.seq #[.int c s.toks,x]}->k.objs.size=s.heap.objs.size+1 ->
   (∀b o,b≠e->b≠it->s.heap.get? b=some o->k.get? b=some o)->Q (some (.ref s.heap.objs.size)) {s with heap:=k,toks:=s.toks+1}):wpAny (model P w) A (pyNext (.ref e)) Q E s:=by
 have ty:s.TypeIs (.ref e) "enumerate" := ⟨_,he,rfl⟩;unfold pyNext;refine qAA (qCb (qC4 (name:=Str.ofString "__next__") ty qC6 ?_));exact qBY qC6 ty F.entry_enumerate_next (enum_step he hi hl hx ne fun k a b c d y=>qAE (q k a b c d y)) (F.args_enumerate_next_1 _)
theorem enum_end {e it:Addr} {c:Int} {i:Nat} {ys:Array Value} {old:Value} {Q:Option Value->Shared->Prop} (hh:A.handled=none) (he:IsEnum s.heap e it c old) (hi:s.heap.IsListIter it l i) (hl:s.heap.IsList l ys) (hx:ys[i]?=none)
  (q:∀k,Heap.ExtBut it s.heap k->Q none {s with heap:=k}):wpAny (model P w) A (pyNext (.ref e)) Q E s:=by
 have ty:s.TypeIs (.ref e) "enumerate" := ⟨_,he,rfl⟩;unfold pyNext;refine qAA (qCb (qC4 (name:=Str.ofString "__next__") ty qC6 ?_));refine qBY qC6 ty F.entry_enumerate_next ?_ (F.args_enumerate_next_1 _);show wpAny _ _ (field (Value.ref e) 2 >>= _) _ _ s;refine qAA (qBa he rfl (x:=Value.ref it) rfl ?_);refine qAA (wpAny_nextOf_list_end hh hi hl hx fun k y b ⟨o,ho,hc⟩=>?_);exact qAA (qCL (T:= "StopIteration") (b:=true) ⟨o,ho,hc⟩ isSubtype_stop (qAE (q _ b)))
end
def Ite (K:PySem.W.Frag) (a:Addr) (lo:Int):It :=
 ⟨fun i H=>∃xs x,SqL K H a xs/\xs[i]?=some x,fun i H v H'=>∃t x,v= .ref t/\H t=none/\H'=upd H t (.tup [.int (lo+i),x])/\∀xs,SqL K H a xs->xs[i]?=some x,fun i H=>∃xs,SqL K H a xs/\xs.length<=i⟩
theorem un_laid {fs ex:List Addr} {h h':Heap} {o:HO} (k:∀b u,b∉ex->h.get? b=some u->h'.get? b=some u) (hp:h.objs.size<=a) (hn:H a=none):Un fs ex H (upd H a o) h h' where
 keep:=fun b u q _ _ hx=>k b u hx q
 slot:=fun b u q _ _ hx=>⟨u.slots,k b u hx q⟩
 free:=fun b u q n _=>by rw [upd_ne (qAT (qAn (qAK q) hp))];exact n
 there:=fun b u q hx=>⟨u,k b u hx q⟩
 tups:=fun b xs q=>by rw [upd_ne (zAg q hn)];exact q
 frzs:=fun b u xs q=>by rw [upd_ne (zAg q hn)];exact q
 tbls:=fun b ps q=>⟨#[],by rw [upd_ne (zAg q hn),q];simp⟩
theorem hok_laid {P:Program} {w:World} {h h':Heap} {ex:List Addr} {o:HO} (x:HOk P w H h) (k:∀b u,b∉ex->h.get? b=some u->h'.get? b=some u) (hex:∀b∈ex,H b=none) (hp:h.objs.size<=a) (new:zBb P w (upd H a o) h' a o):HOk P w (upd H a o) h':=fun b u e=>by
 have hn:=x.fresh hp
 by_cases hb:b=a
 ·subst hb;rw [upd_same] at e;cases e;exact new
 ·rw [upd_ne hb] at e;refine (x b u e).stay (fun c v hc q=>k c v (fun z=>?_) q) (fun c q=>by rw [upd_ne (zAg q hn)];exact q) fun c xs q=>by rw [upd_ne (zAg q hn)];exact q
  have hz:=hex c z;rcases hc with y| y
  ·rw [y,e] at hz;cases hz
  ·rw [y] at hz;cases hz
theorem turn_enum {P:Program} {w:World} {K:PySem.W.Frag} {elts:List Expr} {kk:Nat} {tp:Pos} (a e it:Addr) (lo:Int) (ne:e≠it):Turn P w K (.Tuple elts kk tp) (Ite K a lo) [e,it] e (fun i h=>∃old,IsEnum h e it (lo+(i:Nat)) old/\h.IsListIter it a i) where
 mem:=by simp
 obj:=fun i h st b hb=>by
  obtain ⟨old,s1,o,s2,s3,s4⟩:=st;have cs:b=e\/b=it:=by simpa using hb
  rcases cs with z| z
  ·rw [z];exact ⟨_,s1,fun v y=>by cases y⟩
  ·rw [z];exact ⟨o,s2,fun v y=>by rw [s4] at y;cases y⟩
 keep:=fun i h h' ⟨old,s1,s2⟩ k=>⟨old,k e (by simp) _ s1,s2.at fun o y=>k it (by simp) o y⟩
 item:=by
  intro X hP hw hK hc i pins s σ H E I hf st hg;subst hP hw hK;obtain ⟨xs,x,hq,hx⟩:=hg;obtain ⟨old,s1,s2⟩:=st;obtain ⟨its,rv,p,hz⟩:=I.list hq;obtain ⟨u,hu,ru⟩:=rv.get hx;refine enum_next s1 s2 p.isList (x:=u) (by simpa using hu) ne fun k eo i1 t1 z1 o1=>?_;refine ⟨_,rfl,wpAny_letOwnedTupleGo_enum eo fun k2 e2 b2=>?_⟩;have b2:Heap.SameBut e k k2:=b2;have esz:e<s.heap.objs.size:=qAK s1;have t2:k2.get? s.heap.objs.size=some {cls:=.type "tuple",data:=.seq #[.int (lo+(i:Nat)) s.toks,u]}:=b2.extBut _ _ (qA8 esz) t1;have on:∀b o,b∉[e,it]->s.heap.get? b=some o->k2.get? b=some o:=fun b o nb y=>b2.extBut b o (fun z=>nb (by simp [z])) (o1 b o (fun z=>nb (by simp [z])) (fun z=>nb (by simp [z])) y);have hn:∀b∈[e,it],H b=none:=fun b hb=>(hf b hb).1;have new:zBb X.prog X.w (upd H s.heap.objs.size (.tup [.int (lo+(i:Nat)),x])) k2 s.heap.objs.size (.tup [.int (lo+(i:Nat)),x]):=⟨by show (2:Nat)<=sizeLine;decide,[.int (lo+(i:Nat)) s.toks,u],.cons ⟨_,rfl⟩ (.cons ru .nil),⟨_,t2,rfl,_,rfl⟩⟩
  have I2:Inv X pins σ (upd H s.heap.objs.size (.tup [.int (lo+(i:Nat)),x])) {s with heap:=k2,toks:=s.toks+1}:=I.call' (ch:=[e,it]) rfl (un_laid on (qAF _) (I.hok.fresh (qAF _))) (hok_laid I.hok on hn (qAF _) new) I.bare fun b hb=>by
   obtain ⟨_,f1,_,f3,f4,f5⟩:=hf b hb;exact ⟨f3,f1,f4,f5⟩
  refine ⟨.ref s.heap.objs.size,_,I2,rfl,⟨_,x,rfl,I.hok.fresh (qAF _),rfl,fun ys hy=>by rw [I.list_inj hy hq];exact hx⟩,⟨u,?_,i1.extBut b2.extBut ne.symm⟩,fun b hb=>?_⟩
  ·have e2:IsEnum k2 e it (lo+(i:Nat)+1) u:=e2;show IsEnum k2 e it (lo+((i+1:Nat):Int)) u;rw [show lo+((i+1:Nat):Int)=lo+(i:Nat)+1 by lia];exact e2
  ·have hb':=hn b hb
   have:b≠s.heap.objs.size:=by
    have cs:b=e\/b=it:=by simpa using hb
    rcases cs with z| z
    ·rw [z];exact qAT esz
    ·obtain ⟨o,y,_⟩:=s2;rw [z];exact qAT (qAK y)
   rw [upd_ne this];exact hb'
 done:=by
  intro X hP hw hK hc i pins s σ H E I hf st hg;subst hP hw hK;obtain ⟨xs,hq,hx⟩:=hg;obtain ⟨old,s1,s2⟩:=st;obtain ⟨its,rv,p,hz⟩:=I.list hq;obtain ⟨f0,f1,f2,f3,f4,f5⟩:=hf it (by simp);have hl:=rv.length;exact enum_end (I.ok.hd hc) s1 s2 p.isList (by simp;lia) fun h' eb=>⟨rfl,I.turned (t':=s.toks) (fun b o hb y=>eb b o hb y) f0 f1 f3 f4 f5⟩
 self:=fun _ _ _ _ _ ⟨_,st,_⟩ h=>wpAny_pyIter_enum st h
section
variable {X:Cx} {elts:List Expr} {kk:Nat} {tp:Pos}
theorem boot_enum:bootBuiltins "enumerate" = some (.type "enumerate"):=by decide +kernel
theorem enum_it {pins:List (Addr×Obj)} {σ:St} {s:Shared} {R:It->Hp->Prop} {E:Value->Shared->Prop} {lo:Int} {h':Heap} {tk:Nat} (I:Inv X pins σ H s) (he:IsEnum h' (s.heap.objs.size+1) s.heap.objs.size lo .none) (hi:h'.IsListIter s.heap.objs.size a 0)
  (k:∀b o,s.heap.get? b=some o->h'.get? b=some o) (q:R (Ite X.K a lo) H) :
  wpAny (model X.prog X.w) X.A (pyIter (.ref (s.heap.objs.size+1))) (PIE X pins σ (.Tuple elts kk tp) R) E {s with heap:=h',toks:=tk}:=by
 refine wpAny_pyIter_enum he ?_;refine ⟨s.heap.objs.size+1,[s.heap.objs.size+1,s.heap.objs.size],_,_,H,rfl,I.kept (t':=tk) k,turn_enum a (s.heap.objs.size+1) s.heap.objs.size lo (Nat.succ_ne_self _),⟨.none,by simpa using he,hi⟩,fun b hb=>?_,q⟩;have cs:b=s.heap.objs.size+1\/b=s.heap.objs.size:=by simpa using hb
 rcases cs with e| e
 ·subst e;exact I.fpOk (by lia) (I.hok.fresh (by lia))
 ·subst e;exact I.fpOk (qAF _) (I.hok.fresh (qAF _))
theorem ite_any {α:Type} {M:Model} {A:Around} {c:Prop} [Decidable c] {x y:Sem α} {Q:α->Shared->Prop} {E:Value->Shared->Prop} {s:Shared} (h1:wpAny M A x Q E s) (h2:wpAny M A y Q E s):wpAny M A (if c then x else y) Q E s:=by
 split
 ·exact h1
 ·exact h2
open AutoSeq1 (wpAny_loadPart') in
theorem zJb (l:Addr) (items:Array Value) (n:Nat) (dct:Option Addr) (sl:Array (Option Value)) (j:Int) (t:Tok) (hj:Builtin.SmallTypes.fitsIndex j=true) :
  Meets (Builtin.«enumerate.__new__» ⟨[.type "enumerate",.ref l],[(Str.ofString "start",.int j t)]⟩) (fun _ R s=>s.heap.get? l=some ⟨.type "list",dct,.seq items n,sl⟩ /\
   R (.ok (.ret (.ref (s.heap.push {cls:=.type "list_iterator",data:=.fields #[.ref l,.int 0 0]}).objs.size)))
    {s with heap:=(s.heap.push {cls:=.type "list_iterator",data:=.fields #[.ref l,.int 0 0]}).push {cls:=.type "enumerate",data:=.fields #[.none,.bool false,.ref s.heap.objs.size,rawInt j,.none,.none]}}) :=
 .of_wp fun prog w A R s h=>by
  obtain ⟨h0,g,d,tk,os⟩:=s;obtain ⟨hl,h⟩:=h;have hsub:=sub_enumerate;have hL:Heap.IsList (Shared.heap ⟨h0,g,d,tk,os⟩) l items:=⟨_,hl,rfl,n,rfl⟩
  wp_walk using wpAny_loadPart' hl
  refine wpAny_stack_any fun st=>qAE ?_;refine ite_any ?_ ?_
  all_goals
   refine qAA (qAy (a:=(.ref l,some (.int j t))) (by with_unfolding_all rfl) ?_)
   wp_walk using wpAny_loadPart' hl,qB8 hL
   exact ⟨_,rfl,h⟩
theorem oinit_kw {T mk:String} {me:Value} {rest:List Value} {kw:List (Str×Value)} (look:typeLookup (.type T) "__init__" = pure (some (.builtin "object.__init__"))) (made:Bind.madeBy (.type T)=pure (some mk)) (other:(some mk != some "object.__new__")=true) :
  Meets (Builtin.«object.__init__» ⟨me::rest,kw⟩) (fun _ R s=>s.TypeIs me T/\R (.ok (.ret .none)) s):=by
 refine Meets.of_wp fun prog w A R s ⟨ty,q⟩=>?_;show wpAny _ _ (if (!rest.isEmpty|| !kw.isEmpty)=true then _ else _) _ _ s;refine ite_any ?_ (qAE ⟨_,rfl,q⟩)
 repeat (any_goals (first| assumption| wp_step))
 exact ⟨_,rfl,q⟩
section
variable {P:Program} {w:World} {A:Around} {E:Value->Shared->Prop} {s:Shared}
theorem typed_kw {T mk:String} {B:Builtin} {xs:List Value} {kw:List (Str×Value)} {S:PySem.Spec} {Q:Value->Shared->Prop} (ft:TypeCalled T mk "object.__init__") (other:(some mk != some "object.__new__")=true)
  (c1:checkTypeCall T ⟨xs,kw⟩=pure ()) (c2:checkBuiltinCall mk ⟨.type T::xs,kw⟩=pure ()) (c3:∀o,argsOk "object.__init__" ⟨o::xs,kw⟩) (en:entryFor table mk=some B) (g:Meets (B ⟨.type T::xs,kw⟩) S)
  (h:S A.in1 (wants (fun o s1=>s1.TypeIs o T/\Q o s1) E) s):wpAny (model P w) A (call (.type T) xs kw) Q E s:=by
 obtain ⟨c,tl,mro⟩:=ft.mro;have m1:=ft.made;have m2:=ft.sub;have m3:=ft.notType;have m4:=ft.canCreate;refine qCU (qC0 ?_);show wpAny _ _ (callAny (.type T) _) _ _ _;refine qAE ⟨Code.quiet_builtin _ (by decide +kernel),qBX F.entry_type_call ?_⟩;rw [Around.under_plain (weight_type_call_type T xs kw) (units_type_call_type T xs kw)]
 repeat (any_goals (first| assumption| wp_step))
 refine qBd (qC1 ft.plain en (qAy c2 (g P w A.in1 _ s h))) fun r s1 hr=>?_
 cases r with
 | error e=>exact hr
 | ok f1 =>
  cases f1 with
  | next=>exact hr.elim
  | brk=>exact hr.elim
  | cont=>exact hr.elim
  | ret o =>
   obtain ⟨ty,q⟩:=hr;have l1:=ft.init.lookup;have l2:=ft.init.bind o
   repeat (any_goals (first| assumption| wp_step))
   have io:=oinit_kw (me:=o) (rest:=xs) (kw:=kw) ft.init.lookup ft.made other P w A.in1 (wants (fun r s2=>r= .none/\Q o s2) E) s1 ⟨ty,rfl,q⟩;refine qBd (qC1 ft.init.plain F.entry_object_init (ft.init.check _ _ _ _ _ _ _ _ ty (c3 o) io)) fun r2 s2 hr2=>?_
   cases r2 with
   | error e=>exact hr2
   | ok f2 =>
    cases f2 with
    | next=>exact hr2.elim
    | brk=>exact hr2.elim
    | cont=>exact hr2.elim
    | ret v =>
     obtain ⟨z,q2⟩:=hr2;subst z
     repeat (any_goals (first| assumption| wp_step))
theorem tw_kw {pos:Pos} {T:String} {first:List Value} {args:List (Bool×Sem Value)} {kws:List (Option Str×Sem Value)} {Q:Value->Shared->Prop} {M:Model} (h1:args.any (·.1)=false) (h2:kws.any (·.1.isNone)=false)
  (h:wpAny M A (evalArgs (.type T) true args kws) (fun a s1=>wpAny M A (call (.type T) (first++a.pos) a.kw) Q E s1) E s):wpAny M A (callWith pos (.type T) first args kws) Q E s:=by
 unfold callWith;refine qAA (qA0 (thn h fun a s1 h1'=>qAA (qCQ ?_)));simp only [h1,h2,Bool.or_false];exact qAA (qAE (qAA (thn h1' fun r s2 hr=>qAA (qA0 (wpAny_point (qAE hr))))))
theorem call_enum_kw {items:Array Value} {j:Int} {t:Tok} {Q:Value->Shared->Prop} (hj:Builtin.SmallTypes.fitsIndex j=true) (hL:s.heap.IsList l items)
  (h:∀h',IsEnum h' (s.heap.objs.size+1) s.heap.objs.size j .none->h'.IsListIter s.heap.objs.size l 0->(∀b o,s.heap.get? b=some o->h'.get? b=some o)->Q (.ref (s.heap.objs.size+1)) {s with heap:=h'}) :
  wpAny (model P w) A (call (.type "enumerate") [.ref l] [(Str.ofString "start",.int j t)]) Q E s:=by
 obtain ⟨⟨c,dct,dt,sl⟩,hl,hc,n,hd⟩:=hL;have hc:c= .type "list" := hc;have hd:dt= .seq items n:=hd;subst hc hd;refine typed_kw F.called_enumerate (by decide) (by kernel_rfl) (by kernel_rfl) (fun o=>by kernel_rfl) F.entry_enumerate_new (zJb l items n dct sl j t hj) ⟨hl,?_⟩;have z:(s.heap.push {cls:=.type "list_iterator",data:=.fields #[.ref l,.int 0 0]}).objs.size=s.heap.objs.size+1:=qBB ..;show _/\_;rw [z];generalize hk:(s.heap.push {cls:=.type "list_iterator",data:=.fields #[.ref l,.int 0 0]})=k at z;have k0:k.IsListIter s.heap.objs.size l 0:=by rw [<-hk];exact ⟨_,qAb _ rfl,rfl,rfl⟩
 have ko:∀b o,s.heap.get? b=some o->k.get? b=some o:=fun b o x=>by rw [<-hk];exact qAI _ x
 have he:IsEnum (k.push {cls:=.type "enumerate",data:=.fields #[.none,.bool false,.ref s.heap.objs.size,rawInt j,.none,.none]}) (s.heap.objs.size+1) s.heap.objs.size j .none:=by
  rw [<-z];exact qAb _ rfl
 exact ⟨⟨_,he,rfl⟩,h _ he (k0.at fun o x=>qAI _ x) fun b o x=>qAI _ (ko b o x)⟩
end
def iEnumS (K:PySem.W.Frag) (j:Int) (ta:TA):TI:=fun σ H R=>ta σ H fun vs H1=>∃a,vs=[.ref a]/\(∃xs,SqL K H1 a xs)/\R (Ite K a j) H1
theorem pi_enumS {a:Expr} {ta:TA} {p pos kp ip:Pos} {j:Int} {jj:Nat} (hg:Gl X "enumerate") (hm:X.mg "enumerate" = none) (ha:PA X [a] ta) (hj:Builtin.SmallTypes.fitsIndex j=true:=by rfl) (hs:starEach [a] X.env=[(false,eval a X.env)]:=by rfl) :
  PI X (.Tuple elts kk tp) (.Call (.Name "enumerate" p) [a] [⟨some (Str.ofString "start"),.Constant (.int j) jj ip,kp⟩] pos) (iEnumS X.K j ta):=by
 intro pins s σ H R I h;refine qCV (zF5 I hg hm boot_enum ?_);refine tw_kw (by rw [hs];rfl) rfl ?_;have ha':=ha pos pins s σ H _ I h;have e0:backTo pos (starEach [a] X.env)=(false,eval a X.env)::[]:=by rw [hs];rfl
 rw [e0] at ha' ⊢;refine evalArgs_kwB rfl (thn ha' fun us s1 ⟨vs,H1,I1,r1,q1⟩=>?_);refine thn (pk_cons zAh pk_nil pos pins s1 σ H1 (fun zs H2=>zs=[.int j]/\H2=H1) I1 ⟨rfl,rfl⟩) fun ws s2 ⟨zs,H2,I2,rz,ez,eh⟩=>?_;subst ez eh;obtain ⟨a,e,⟨xs,hq⟩,q⟩:=q1;subst e;obtain ⟨u,rfl,ru⟩:=r1.one
 cases ru
 obtain ⟨w1,rfl,rw1⟩:=rz.one;obtain ⟨t,rfl⟩:=rw1;obtain ⟨its,r,pl,hz⟩:=I2.list hq;exact call_enum_kw hj pl.isList fun h' e1 e2 e4=>enum_it (tk:=s2.toks) I2 e1 e2 e4 q
theorem for_enum {K:PySem.W.Frag} {lo:Int} {xs:List V} {g:TG} {tb:TS} {D:Ends} {σ:St} (Pv:Nat->St->Hp->Prop) (h0:Pv 0 σ H) (hl:∀i σ H,i<=xs.length->Pv i σ H->SqL K H a xs)
  (hs:∀i x σ H t,xs[i]?=some x->Pv i σ H->H t=none->g (.ref t) σ (upd H t (.tup [.int (lo+i),x])) fun σ2 H2=>tb {D with nx:=Pv (i+1),ct:=Pv (i+1),bk:=D.nx} σ2 H2) (hd:∀σ H,Pv xs.length σ H->D.nx σ H) :
  ∃W:Nat->Nat->St->Hp->Prop,(∃m,W 0 m σ H)/\∀i m σ H,W i m σ H ->
   ((Ite K a lo).stop i H/\D.nx σ H)\/((Ite K a lo).go i H/\∃N:St->Hp->Prop,(∀σ' H',N σ' H'->∃m',m'<m/\W (i+1) m' σ' H')/\∀x H',(Ite K a lo).yld i H x H'->g x σ H' fun σ2 H2=>tb {D with nx:=N,ct:=N,bk:=D.nx} σ2 H2):=by
 refine ⟨fun i m σ H=>m=xs.length - i/\i<=xs.length/\Pv i σ H,⟨xs.length,by simp,qAg _,h0⟩,?_⟩;rintro i m σ H ⟨rfl,hi,p⟩;have q:=hl i σ H hi p
 by_cases hlt:i<xs.length
 ·refine .inr ⟨⟨xs,xs[i],q,by simp [hlt]⟩,Pv (i+1),fun σ' H' p'=>⟨xs.length - (i+1),by lia,rfl,hlt,p'⟩,fun v H' y=>?_⟩;obtain ⟨t,x,rfl,hn,rfl,y⟩:=y;exact hs i x σ H t (y xs q) p hn
 ·have e:i=xs.length:=by lia
  subst e;exact .inl ⟨⟨xs,q,qAF _⟩,hd σ H p⟩
end
open AutoSeq1 (wpAny_loadPart')
section
variable {X:Cx}
theorem call_dict1:zCu X (.type "dict") (fun xs H Q=>∃a kvs,xs=[.ref a]/\Rd H a (.dK kvs)/\∀p,H p=none->Q (.ref p) (upd H p (.dK kvs))):=by
 intro pins s σ H xs us Q I rv h;obtain ⟨a,kvs,rfl,e,q⟩:=h;obtain ⟨u,rfl,ru⟩:=rv.one
 cases ru
 exact d_copyOf I e fun p s' hp I'=>⟨.ref p,_,I',rfl,q p hp⟩
end
end L2
namespace L2
open PySem PySem.Spec PyProof.Rows PySem.W PySem.Builtin PySem.Builtin.ObjectAttr PySem.Builtin.Getset_descriptor
end L2
namespace L2
open PySem PySem.Spec PyProof.Rows
theorem cut_to (xs:List V) {b:Int} (h:0<=b):cutV xs none (some b)=xs.take b.toNat:=by
 obtain ⟨k,rfl⟩:∃k:Nat,b=k:=⟨b.toNat,by lia⟩;unfold cutV;rw [HT.sIx_nat,HT.sIx_none,List.drop_zero,Nat.sub_zero];show xs.take (min k xs.length)=xs.take k;rw [List.take_eq_take_min (i:=k)]
theorem cut_from (xs:List V) {b:Int} (h:0<=b):cutV xs (some b) none=xs.drop b.toNat:=by
 obtain ⟨k,rfl⟩:∃k:Nat,b=k:=⟨b.toNat,by lia⟩;unfold cutV;rw [HT.sIx_nat,HT.sIx_none];show (xs.drop (min k xs.length)).take (xs.length - min k xs.length)=xs.drop k;rw [qBk (by rw [qBM];lia)]
 by_cases z:k<=xs.length
 ·rw [Nat.min_eq_left z]
 ·rw [Nat.min_eq_right (by lia),qB1 (by lia),qB1 (by lia)]
open AutoSeq1 (wpAny_loadPart')
theorem dict_eq_str (a:Addr) (oa:Obj) (ca:oa.cls= .type "dict") (b:Str) (u:Tok) :
  Meets (Builtin.«dict.__eq__» ⟨[.ref a,.str b u],[]⟩) (fun _ R s=>s.heap.get? a=some oa/\R (.ok (.ret .notImplemented)) s) :=
 .of_wp fun P w A R s ⟨ha,q⟩=>by
  have ta:s.TypeIs (.ref a) "dict" := ⟨_,ha,ca⟩;unfold Builtin.«dict.__eq__»;show wpAny _ _ (Builtin.Dict.dictSlotArgs "__eq__" ⟨[.ref a,.str b u],[]⟩ >>= _) _ _ s;unfold Builtin.Dict.dictSlotArgs;refine qAA (qAA (qDN ta ?_));show wpAny _ _ (pure ((Value.ref a,[Value.str b u]):Value×List Value) >>= _) _ _ s;refine qAA (qAE (qAE ?_));refine qAA (qCL (qBg s b u) F.sub_str_dict ?_);rw [qAC (by simp)];exact qAA (qA9 (qAE ⟨_,rfl,q⟩))
theorem str_eq_dict (b:Str) (u:Tok) (l:Addr) (oa:Obj) (es:Array DictEntry) (ep:Nat) (da:oa.data= .dict es ep) :
  Meets (Builtin.«str.__eq__» ⟨[.str b u,.ref l],[]⟩) (fun _ R s=>s.heap.get? l=some oa/\R (.ok (.ret .notImplemented)) s):=by
 obtain ⟨c,dd,data,sl⟩:=oa;simp only at da;subst da;exact .of_wp fun prog w A R s h=>by obtain ⟨hp,g,d,tk,os⟩:=s;obtain ⟨hl,h⟩:=h;wp_walk using wpAny_loadPart' hl,qCR hl;exact ⟨_,rfl,h⟩
def ThingOk (H:Hp) (v:V):Prop:=(∃x,v= .str x)\/v= .non\/(∃b,v= .bl b)\/(∃i,v= .int i)\/∃a,v= .ref a/\((∃xs,H a=some (.lst xs))\/(∃xs,H a=some (.tup xs))\/∃kvs,H a=some (.dK kvs))
def notStar:Expr->Bool
 | .Starred ..=>false
 | _=>true
theorem star_cons {e:Expr} {es:List Expr} {env:Env} (h:notStar e=true):starEach (e::es) env=(false,eval e env)::starEach es env:=by
 cases e<;>first| rfl| cases h
section
variable {X:Cx}
theorem op_fdivB:OpR X (binaryOp .FloorDiv) (rI (fun _ j=>0<j/\j<10^100) fun i j=>.int (i / j)):=opI fun i j _ _ _ _ _ hc q=>by
 have h1:(0:Int)<j:=hc.1;have h2:j<10^100:=hc.2;refine floordiv_int (by lia) (by rw [Int.fdiv_eq_ediv_of_nonneg i (by lia)];exact q) (.inl (PyProof.noPylong_of_log2 ?_));have hj:j.natAbs≠0:=by lia
 rw [Nat.log2_lt hj];have:j.natAbs<10^100:=by lia
 exact qAn this (by decide +kernel)
def tFmt (c:Str) (t1 t2:TE):TE:=fun σ H Q=>t1 σ H fun x H1=>∃a:Str,x= .str a/\a.length<=1000000/\t2 σ H1 fun y H2=>∃b:Str,y= .str b/\b.length<=1000000/\Q (.str (a++c++b)) H2
theorem pe_fmt {e1 e2:Expr} {t1 t2:TE} {c:Str} {j:Nat} {p1 p2 p3 pos:Pos} (h1:PE X e1 t1) (h2:PE X e2 t2) (hc:c.length<=100:=by decide):PE X (.JoinedStr [.FormattedValue e1 (-1) none p1,.Constant (.str c) j p2,.FormattedValue e2 (-1) none p3] pos) (tFmt c t1 t2):=by
 intro pins s σ H Q I h;refine JoinedStr_many (joinParts_cons (FormattedValue_plain (thn (h1 pins s σ H _ I h) fun v s1 ⟨x,H1,I1,r1,q1⟩=>?_)));obtain ⟨a,rfl,ha,q1⟩:=q1;obtain ⟨t,rfl⟩:=r1;have hs:=qAO
 have ea:(Str.empty++a)=a:=by
  exact empty_app a
 refine formatField_str (fun t' tk=>?_) (by lia);refine ⟨by rw [ea];lia,?_⟩;rw [ea];refine joinParts_cons (Calls.Constant_str ⟨?_,?_⟩)
 ·rw [strLen_append];lia
 refine joinParts_cons (FormattedValue_plain (thn (h2 pins _ σ H1 _ (I1.tok _) q1) fun v s2 ⟨y,H2,I2,r2,q2⟩=>?_));obtain ⟨b,rfl,hb,q2⟩:=q2;obtain ⟨t2,rfl⟩:=r2;refine formatField_str (fun t' tk=>?_) (by lia);have hz:(a++c++b).length<=sizeLine:=by rw [strLen_append,strLen_append];lia
 exact ⟨hz,joinParts_nil ⟨.str _,H2,I2.tok _,⟨_,rfl⟩,q2⟩ hz⟩
def Itr3 (lo c:Int) (n:Nat):It:=⟨fun i _=>i<n,fun i H x H'=>H'=H/\x= .int (lo+i*c),fun i _=>n<=i⟩
theorem zGn {P:Program} {w:World} {K:PySem.W.Frag} {tg:Expr} (it:Addr) (lo c:Int) (n:Nat):Turn P w K tg (Itr3 lo c n) [it] it (fun i h=>IsRangeIter h it (lo+(i:Nat)*c) ((n:Int) - (i:Nat)) c) where
 mem:=by simp
 obj:=fun i h st b hb=>by
  have e:b=it:=by simpa using hb
  subst e
  exact ⟨_,st,fun v z=>by
   have z':Data.fields _=Data.cell v:=z
   cases z'⟩
 keep:=fun i h h' st k=>k it (by simp) _ st
 item:=by
  intro X hP hw hK hc i pins s σ H E I hf st hg;subst hP hw hK;obtain ⟨f0,f1,f2,f3,f4,f5⟩:=hf it (by simp);have W:=Walks.range (prog:=X.prog) (w:=X.w) (I.ok.hd hc) it lo c n;refine W.item i s _ _ hg st fun v h' tk hv st' kk=>?_;obtain ⟨t,rfl⟩:=hv;have I1:Inv X pins σ H {s with heap:=h',toks:=tk}:=I.turned (fun b o hb e=>kk b o (by simpa using hb) e) f0 f1 f3 f4 f5;exact ⟨_,rfl,go_of (s:={s with heap:=h',toks:=tk}) (n:= "range_iterator") st' rfl rfl (by decide) ⟨.int (lo+i*c),H,I1,⟨t,rfl⟩,⟨rfl,rfl⟩,st',fun b hb=>(hf b hb).1⟩⟩
 done:=by
  intro X hP hw hK hc i pins s σ H E I hf st hg;subst hP hw hK;obtain ⟨f0,f1,f2,f3,f4,f5⟩:=hf it (by simp);exact wpAny_pyNext_range_end (I.ok.hd hc) st (by have:n<=i:=hg;lia) fun h' eb=>⟨rfl,I.turned (t':=s.toks) (fun b o hb e=>eb b o hb e) f0 f1 f3 f4 f5⟩
 self:=fun _ _ _ _ _ st h=>qDB st h
def iRng3 (ta:TA):TI:=fun σ H R=>ta σ H fun vs H1=>∃(i j c:Int) (n:Nat),vs=[.int i,.int j,.int c]/\(0<c/\c<1000)/\Builtin.Range.small i j c=true/\Builtin.Range.rangeSize i j c=n/\R (Itr3 i c n) H1
theorem pi_range3 {tg a b c:Expr} {ta:TA} {p pos:Pos} (hg:Gl X "range") (hm:X.mg "range" = none) (ha:PA X [a,b,c] ta) (hs:starEach [a,b,c] X.env=[(false,eval a X.env),(false,eval b X.env),(false,eval c X.env)]:=by rfl) (hs2:starEach [b,c] X.env=[(false,eval b X.env),(false,eval c X.env)]:=by rfl) :
  PI X tg (.Call (.Name "range" p) [a,b,c] [] pos) (iRng3 ta):=by
 intro pins s σ H R I h;refine Call_ (zF5 I hg hm boot_range (qCS (thn (ha pos pins s σ H _ I h) fun us s1 ⟨vs,H1,I1,r1,q1⟩=>?_) (by rw [hs,hs2]) (by rw [hs2];rfl)));obtain ⟨i,j,c,n,e,⟨c0,c1⟩,hsm,hn,q⟩:=q1;subst e
 cases r1 with
 | cons r rr =>
  cases rr with
  | cons r' rr =>
   cases rr with
   | cons r'' rr =>
    cases rr
    obtain ⟨t,rfl⟩:=r;obtain ⟨u,rfl⟩:=r';obtain ⟨v,rfl⟩:=r'';refine call_range_3 (by lia) ?_ (.inl (PyProof.noPylong_small (by lia)));refine wpAny_pyIter_range (IsRange.new ..) hsm ?_;have I2:Inv X pins σ H1 {s1 with heap:=s1.heap.push {cls:=.type "range",data:=.fields #[.int i t,.int j u,.int c v]},toks:=s1.toks}:=I1.kept fun b o e=>qAI _ e
    refine ⟨(s1.heap.push {cls:=.type "range",data:=.fields #[.int i t,.int j u,.int c v]}).objs.size,[(s1.heap.push {cls:=.type "range",data:=.fields #[.int i t,.int j u,.int c v]}).objs.size],_,_,H1,rfl,
     I2.kept (t':=s1.toks) fun b o e=>qAI _ e,zGn _ i c n,?_,fun b hb=>?_,q⟩
    ·have e1:i+((0:Nat):Int)*c=i:=by simp
     have e2:((n:Nat):Int) - ((0:Nat):Int)=Builtin.Range.rangeSize i j c:=by rw [hn];simp
     show IsRangeIter _ _ (i+((0:Nat):Int)*c) (((n:Nat):Int) - ((0:Nat):Int)) c;rw [e1,e2];exact qAb _ rfl
    ·have e:b=(s1.heap.push {cls:=.type "range",data:=.fields #[.int i t,.int j u,.int c v]}).objs.size:=by simpa using hb
     subst e;exact I2.fpOk (qAF _) (I2.hok.fresh (qAF _))
theorem zH9 {lo c:Int} {n:Nat} {g:TG} {tb:TS} {D:Ends} {σ:St} {H:Hp} (Pv:Nat->St->Hp->Prop) (h0:Pv 0 σ H)
  (hs:∀i σ H,i<n->Pv i σ H->g (.int (lo+i*c)) σ H fun σ2 H2=>tb {D with nx:=Pv (i+1),ct:=Pv (i+1),bk:=D.nx} σ2 H2) (hd:∀σ H,Pv n σ H->D.nx σ H) :
  ∃W:Nat->Nat->St->Hp->Prop,(∃m,W 0 m σ H)/\∀i m σ H,W i m σ H ->
   ((Itr3 lo c n).stop i H/\D.nx σ H)\/((Itr3 lo c n).go i H/\∃N:St->Hp->Prop,(∀σ' H',N σ' H'->∃m',m'<m/\W (i+1) m' σ' H')/\∀x H',(Itr3 lo c n).yld i H x H'->g x σ H' fun σ2 H2=>tb {D with nx:=N,ct:=N,bk:=D.nx} σ2 H2):=by
 refine ⟨fun i m σ H=>m=n - i/\i<=n/\Pv i σ H,⟨n,by simp,qAg _,h0⟩,?_⟩;rintro i m σ H ⟨rfl,hi,p⟩
 by_cases hlt:i<n
 ·refine .inr ⟨hlt,Pv (i+1),fun σ' H' p'=>⟨n - (i+1),by lia,rfl,hlt,p'⟩,fun x H' y=>?_⟩;obtain ⟨rfl,rfl⟩:=y;exact hs i σ _ hlt p
 ·have e:i=n:=by lia
  subst e;exact .inl ⟨qAF _,hd σ H p⟩
theorem small_by {j c:Int} (hj:0<=j) (hj':j<1000) (hc:0<c) (hc':c<1000):Builtin.Range.small 0 j c=true/\∃n:Nat,Builtin.Range.rangeSize 0 j c=n/\n<=1000/\∀i:Nat,i<n->(i:Int)*c<j:=by
 have h0:0<=(j - 0 - 1) / c\/j=0:=by
  by_cases z:j=0
  ·exact .inr z
  ·exact .inl (Int.ediv_nonneg (by lia) (by lia))
 have h1:(j - 0 - 1) / c<=999:=Int.le_trans (Int.ediv_le_ediv hc (show j - 0 - 1<=999 by lia)) (Int.ediv_le_self _ (by decide));constructor
 ·unfold Builtin.Range.small Builtin.Range.rangeSize;simp only [Builtin.Range.rangeFitsLong,qBh,Bool.or_eq_true,qBH,qB9,hc,qBN];split<;>lia
 ·unfold Builtin.Range.rangeSize;rw [qAC hc]
  by_cases z:0<j
  ·rw [qAC z];have h0:0<=(j - 0 - 1) / c:=Int.ediv_nonneg (by lia) (by lia)
   have hm:∀i:Int,i<=(j - 0 - 1) / c->i*c<j:=fun i hi=>by
    have:=(Int.le_ediv_iff_mul_le hc).mp hi;lia
   generalize (j - 0 - 1) / c=e at h0 h1 hm ⊢;exact ⟨(e+1).toNat,by lia,by lia,fun i hi=>hm i (by lia)⟩
  ·rw [qAB z];exact ⟨0,rfl,by decide,fun i hi=>by lia⟩
end
end L2
local macro_rules| `(tactic| walk_at "lc")=>`(tactic| first| exact Or.inl rfl| exact Or.inr rfl)
local macro_rules| `(tactic| walk_at "nm")=>`(tactic| first| assumption| exact qBQ| (refine L2.nm1 ?_;walk_at "ne")| (refine L2.nm2 ?_ ?_<;>walk_at "ne")| (refine L2.nm3 ?_ ?_ ?_<;>walk_at "ne"))
local macro_rules| `(tactic| walk_at "lk")=>`(tactic| first| assumption| exact L2.upd_same| (refine (L2.upd_ne ?_).trans ?_;walk_at "ne";walk_at "lk")| (refine L2.Kp.look (by assumption) ?_ ?_;walk_at "lk";walk_at "nm"))
local macro_rules| `(tactic| walk_at "ne")=>`(tactic| first| assumption| (refine qAm ?_;assumption)| (refine L2.ne_fre (by assumption) ?_;walk_at "lk")| (refine qAm (L2.ne_fre (by assumption) ?_);walk_at "lk"))
local macro_rules| `(tactic| walk_at "bd")=>`(tactic| first| decide| lia| (dsimp only;first| decide| lia))
local macro_rules| `(tactic| walk_at "ml")=>`(tactic| first| exact Or.inr ⟨by decide,by decide⟩| exact Or.inl ⟨by lia,by lia⟩| exact Or.inr ⟨by lia,by lia⟩)
local macro_rules| `(tactic| walk_at "ln")=>`(tactic| first| decide| (have hsz:=PySem.sizeLine_eq;simp only [qAe,qBV,qAD,qAj] at *;lia))
local macro_rules| `(tactic| walk_at "ix")=>`(tactic| first| rfl| assumption| (refine L2.atI_natc ?_;assumption))
local macro_rules| `(tactic| walk_at "vs")=>`(tactic| first| exact Or.inl rfl| exact Or.inr (Or.inl rfl)| exact Or.inr (Or.inr rfl))
local macro_rules| `(tactic| walk_at "vk")=>`(tactic| first| exact Or.inl rfl| exact Or.inr rfl)
local macro_rules| `(tactic| walk_at "vf")=>`(tactic| first| decide +kernel| (simp only [qAS];decide))
namespace My
open PySem L2
variable {P:Program}{w:World}{K:PySem.W.Frag}{mg:Str->Option Value}{base:Heap}{C:Addr}
variable {H H':Hp}{f:Addr}{fd:FuncData}{ns:List Str}{α:Type}{i:Nat}{y:Str}
section
variable {X:Cx} {scope sc:Scope} {C:Addr} {s₀:Shared} {H₀:Hp} {ex:List Addr} {N P:List Str} {i:Nat} {x:Str} {e:Expr} {te:TE} {pos pos':Pos} {ix:List (Option Nat)}
theorem psS (hN:X.N.Nodup) (he:PE X e te) (hi:X.N[i]?=some x:=by rfl) (hx:Loc X.env.scope x:=by walk_at "lc") (hs:swapsWith e (some (.Name x pos')) pos.line X.env=pure false:=by rfl) (hf:X.fn x=true\/X.env.scope.names.lookup x=some .local:=by first| exact .inl rfl| exact .inr rfl| assumption):PS X (.Assign [.Name x pos'] e pos) (tAsg te (gName i)):=ps_set hN hi hx he hs hf
theorem pgN (hN:X.N.Nodup) (hi:X.N[i]?=some x:=by rfl) (hx:Loc X.env.scope x:=by walk_at "lc") (hf:X.fn x=true\/X.env.scope.names.lookup x=some .local:=by first| exact .inl rfl| exact .inr rfl| assumption):PG X (.Name x pos) (gName i):=pg_name hN hi hx hf
theorem pgB (hi:(X.block scope C s₀ H₀ ex N).N[i]?=some x:=by rfl) (hN:N.Nodup:=by decide +kernel) (hx:Loc (X.block scope C s₀ H₀ ex N).env.scope x:=by walk_at "lc") (hf:(X.block scope C s₀ H₀ ex N).fn x=true\/(X.block scope C s₀ H₀ ex N).env.scope.names.lookup x=some .local:=by first| exact .inl rfl| exact .inr rfl| assumption):PG (X.block scope C s₀ H₀ ex N) (.Name x pos) (gName i):=pg_name hN hi hx hf
theorem dtk (hN:X.N[i]?=some x) (D:Draws X scope N ix) (hv:Vis X.env.scope x:=by walk_at "vs") (hk:(relabel scope X.env).names.lookup x=some .cell\/(relabel scope X.env).names.lookup x=some .free:=by walk_at "vk") (hf:(x,NameKind.free)∈scope.names:=by walk_at "vf"):Draws X scope (x::N) (some i::ix):=.tk hN hv hk hf D
theorem fnS (a:sc.kind= .function:=by rfl) (b:sc.isCoroutine=false:=by rfl) (c:sc.isGenerator=false:=by rfl) (d:N.Nodup:=by decide +kernel) (e:N.take P.length=P:=by rfl) (f:∀x∈P,sc.names.lookup x=some .local\/sc.names.lookup x=some .cell:=by decide +kernel) (g:∀y∈sc.names,y.2≠.free:=by decide +kernel):FnScope N P sc:=⟨a,b,c,d,e,f,g⟩
end
def top (i:Nat):Stmt:=PySem.Challenge.pw_levelbench_k21_faults_told.main.body.getD i (.Pass ⟨0,0,0,0⟩)
structure Txt (K:PySem.W.Frag) (mg:Str->Option Value):Prop where
 z_len:mg "len" = none
 z_max:mg "max" = none
 z_range:mg "range" = none
 z_int:mg "int" = none
 z_str:mg "str" = none
 z_list:mg "list" = none
 z_all:mg "all" = none
 z_min:mg "min" = none
 z_dict:mg "dict" = none
 z_bool:mg "bool" = none
 z_abs:mg "abs" = none
 z_reversed:mg "reversed" = none
 z_enumerate:mg "enumerate" = none
 z_any:mg "any" = none
 z_isinstance:mg "isinstance" = none
 z_sorted:mg "sorted" = none
 z_set:mg "set" = none
 z_tuple:mg "tuple" = none
 c_MOST_JOBS:∃t,mg "MOST_JOBS" = some (.int 20 t)
 c_LONGEST_NAME:∃t,mg "LONGEST_NAME" = some (.int 8 t)
section
def zBa (H:Hp) (p:Addr):Prop:=∃a b:Int,H p=some (.lst [.int a,.int b])/\0<=a/\0<=b/\b<2147483629
theorem zBa.kp {M:List Addr} {p:Addr} (h:zBa H p) (k:Kp M H H') (n:p∉M):zBa H' p:=by
 obtain ⟨a,b,e,r⟩:=h;exact ⟨a,b,k p _ e n,r⟩
def zEq:Sp:=fun vs H Q _=>∃(p:Addr) (m:Int),vs=[.ref p,.int m]/\zBa H p/\1<=m/\m<10^100/\∀(d:Int) (H':Hp),0<=d->d<m->zBa H' p->Kp [p] H H'->Q (.int d) H'
abbrev s_take:Stmt:=top 42
theorem sc_take:FnScope ["_law_purse_here", "_law_many", "_law_digit"] ["_law_purse_here", "_law_many"] (zAe s_take):=fnS
theorem ok_take (F:Fun K "_law_take" "_law_take" s_take f fd):FnOk P w K mg base CX0 1 f fd ["_law_purse_here", "_law_many"] zEq:=by
 refine F.ok sc_take (fun vs H Q E h=>?_) (fun cdv A outer s H vs Q E hr h=>?_)
 ·obtain ⟨p,m,rfl,_⟩:=h;rfl
 ·obtain ⟨p,m,rfl,⟨a,b,hp,ha,hb,hb'⟩,hm,hm',k⟩:=h
  refine ⟨_,(zAc (zA0 (zAn op_gt (zBg zAx (pv 0) zAh (fun _ _=>rfl)) zAh (zAr _))
    (zAc (psS (i:=2) sc_take.nd (zAv zG3 (zBg zAx (pv 0) zAh (fun _ _=>rfl)) (pv 1)))
    (zAc (ps_asg (zAv op_fdivB (zBg zAx (pv 0) zAh (fun _ _=>rfl)) (pv 1)) (pg_sub (pv 0) zAh set_list))
    (zAd (zAm (pv 2)))))
    zAk)
   (zAc (ps_asg (zAv zG3 (zAv zBn (zAv zFd (zBg zAx (pv 0) zAh (fun _ _=>rfl)) zAh) zAh) zAh) (pg_sub (pv 0) zAh set_list))
   (zAd (zAm (zAv zG3 (zAv op_fdiv (zAv zG3 (zAv zFd (zBg zAx (pv 0) zAh (fun _ _=>rfl)) (zBg zAx (pv 0) zAh (fun _ _=>rfl))) zAh) zAh) (pv 1)))))),?_⟩
  refine ⟨_,rfl,_,_,_,_,rfl,rfl,SqL.of (by walk_at "lk"),(by walk_at "ix"),_,_,rfl,rfl,_,rfl,?_⟩;refine ite2 (fun c=>?_) (fun c=>?_)
  ·have c':0<a:=by simpa using c
   refine ⟨_,rfl,_,_,_,_,rfl,rfl,SqL.of (by walk_at "lk"),(by walk_at "ix"),_,rfl,_,_,rfl,rfl,(by walk_at "bd"),?_⟩;refine ⟨_,rfl,_,_,_,_,rfl,rfl,SqL.of (by walk_at "lk"),(by walk_at "ix"),_,rfl,_,_,rfl,rfl,⟨by walk_at "bd",hm'⟩,_,rfl,_,_,_,_,rfl,rfl,(by walk_at "lk"),(by walk_at "ix"),?_⟩;refine ⟨_,rfl,?_⟩;refine k _ _ (qCG _ (by lia)) (qCH _ (by lia)) ⟨a / m,b,upd_same,Int.ediv_nonneg ha (by lia),hb,hb'⟩ (Kp.put Kp.refl (by simp))
  ·refine ⟨_,rfl,_,_,_,_,rfl,rfl,SqL.of (by walk_at "lk"),(by walk_at "ix"),_,_,rfl,rfl,(by walk_at "ml"),_,_,rfl,rfl,_,_,rfl,rfl,(by walk_at "bd"),_,rfl,_,_,_,_,rfl,rfl,(by walk_at "lk"),(by walk_at "ix"),?_⟩;have h1:=qCG (b*39373+7919) (show (2147483629:Int)≠0 by decide);have h2:=qCH (b*39373+7919) (show (0:Int)<2147483629 by decide);refine ⟨_,rfl,_,_,_,_,rfl,rfl,SqL.of (by walk_at "lk"),(by walk_at "ix"),_,rfl,_,_,_,_,rfl,rfl,SqL.of (by walk_at "lk"),(by walk_at "ix"),_,_,rfl,rfl,(by walk_at "ml"),_,_,rfl,rfl,(by walk_at "bd"),_,_,rfl,rfl,⟨by walk_at "bd",by walk_at "bd"⟩,_,rfl,_,_,rfl,rfl,(by walk_at "bd"),?_⟩;refine k _ _ (qCG _ (by lia)) (qCH _ (by lia)) ⟨a,_,upd_same,ha,h1,h2⟩ (Kp.put Kp.refl (by simp))
def spPurse:Sp:=fun vs H Q _=>∃(c k:Int),vs=[.int c,.int k]/\-(2^31)<k/\k<2^31/\∀(p:Addr) (H':Hp),Fre H p->zBa H' p->Kp [] H H'->Q (.ref p) H'
abbrev s_purse:Stmt:=top 41
theorem sc_purse:FnScope ["_law_cell_here", "_law_k", "_law_number"] ["_law_cell_here", "_law_k"] (zAe s_purse):=fnS
theorem ok_purse (F:Fun K "_law_purse" "_law_purse" s_purse f fd) (T:Txt K mg):FnOk P w K mg base CX0 1 f fd ["_law_cell_here", "_law_k"] spPurse:=by
 refine F.ok sc_purse (fun vs H Q E h=>?_) (fun cdv A outer s H vs Q E hr h=>?_)
 ·obtain ⟨p,m,rfl,_⟩:=h;rfl
 ·obtain ⟨c,n,rfl,hn,hn',k⟩:=h
  refine ⟨_,(zAc (psS (i:=2) sc_purse.nd (zAv zG3 (zAv zBn (zAv zBn (zAv zFd (zAv zG3 (pv 0) zAh) zAh) (zAv zFd (zAv zFd (pv 1) (pv 1)) zAh)) zAh) zAh))
   (zAd (zAm (zA6 (zAa (zAj (call_max2 rfl) (by rfl) T.z_max bo_max (zAa zAh (zAa (zAv zFc (pv 0) (zAv op_pow zAh zAh)) zAb))) (zAa (zAv zG3 (zAv zFd (pv 2) (pv 2)) zAh) zAb)))))),?_⟩
  refine ⟨_,rfl,_,_,rfl,rfl,(by walk_at "bd"),_,_,rfl,rfl,(by walk_at "ml"),_,rfl,_,rfl,_,_,rfl,rfl,(by walk_at "ml"),_,_,rfl,rfl,(by walk_at "ml"),_,_,rfl,rfl,_,_,rfl,rfl,_,_,rfl,rfl,(by walk_at "bd"),?_⟩;generalize c % 2147483629*48271+n*n*69623+11=y;have h1:=qCG y (show (2147483647:Int)≠0 by decide);have h2:=qCH y (show (0:Int)<2147483647 by decide);refine ⟨_,rfl,_,_,rfl,rfl,⟨by decide,by decide,by decide⟩,_,_,rfl,rfl,_,_,rfl,_,rfl,_,rfl,_,_,rfl,rfl,(by walk_at "ml"),_,_,rfl,rfl,(by walk_at "bd"),(by walk_at "ln"),fun p hp=>?_⟩;refine k p _ hp ⟨_,_,upd_same,?_,qCG _ (by decide),qCH _ (by decide)⟩ (Kp.new Kp.refl hp);split<;>lia
def spCell (K:PySem.W.Frag):Sp:=fun vs H Q _=>∃(a:Addr) (ns:List Int) (k:Int),vs=[.ref a,.int k]/\SqL K H a (ns.map V.int)/\0<=k/\∀c:Int,Q (.int c) H
abbrev s_cell:Stmt:=top 46
theorem sc_cell:FnScope ["_law_script", "_law_k"] ["_law_script", "_law_k"] (zAe s_cell):=fnS
theorem ok_cell (F:Fun K "_law_cell" "_law_cell" s_cell f fd) (T:Txt K mg):FnOk P w K mg base CX0 1 f fd ["_law_script", "_law_k"] (spCell K):=by
 refine F.ok sc_cell (fun vs H Q E h=>?_) (fun cdv A outer s H vs Q E hr h=>?_)
 ·obtain ⟨p,m,n,rfl,_⟩:=h;rfl
 ·obtain ⟨a,ns,n,rfl,hS,hn,k⟩:=h;refine ⟨_,(zAd (zAm (pe_ifExp (zAn op_lt (pv 1) (zAj zAl (by rfl) T.z_len zBq (zAa (pv 0) zAb)) (zAr _)) (zBg zAx (pv 0) (pv 1) (fun _ _=>rfl)) zAh))),?_⟩;refine ⟨_,rfl,_,rfl,_,_,rfl,.inl hS,_,_,rfl,rfl,_,rfl,?_⟩;refine ite2 (fun c=>?_) (fun c=>?_)
  ·have c':n<ns.length:=by simpa using c
   have hx:(ns.map V.int)[n.toNat]?=some (V.int (ns[n.toNat]'(by lia))):=by simp
   refine ⟨_,rfl,_,rfl,_,_,_,_,rfl,rfl,hS,zCa hn hx,k _⟩
  ·exact k _
end
def zB9 (s:Str):Prop:=1<=s.length/\s.length<=8/\∀c∈s.cps.toList,97<=c/\c<=122
def WordS (n:Nat) (s:Str):Prop:=s.length=n/\∀c∈s.cps.toList,97<=c/\c<=122
theorem zJc (a b:Str):(a++b).length=a.length+b.length:=by
 show (a++b).cps.size=_;rw [qCa,Array.size_append];rfl
theorem WordS.more {n:Nat} {s:Str} (h:WordS n s) {c:Nat} (h1:97<=c) (h2:c<=122):WordS (n+1) (s++⟨#[c]⟩):=by
 refine ⟨by rw [zJc,h.1];rfl,fun x hx=>?_⟩;rw [qCa,qCF] at hx;rcases qAN.mp hx with z| z
 ·exact h.2 x z
 ·have:x=c:=by simpa using z
  lia
def zEa:Str:= "abcdefghijklmnopqrstuvwxyz"
theorem zD9:zEa.cps.toList=(List.range 26).map (97+·):=by decide +kernel
theorem letters_at {d:Int} (h0:0<=d) (h1:d<26):atI zEa.cps.toList d=some (97+d.toNat):=by
 refine zCa h0 ?_;have:d.toNat<26:=by lia
 rw [zD9,qAY,List.getElem?_range this];rfl
theorem zEz (a c:Nat):(!(decide (([c]:List Nat)<[a])))=decide (a<=c):=by
 have:(([c]:List Nat)<[a])↔c<a:=by
  constructor
  ·intro h
   cases h with
   | rel h=>exact h
   | cons h=>cases h
  ·intro h;exact List.Lex.rel h
 by_cases h:c<a
 ·rw [qAR (this.mpr h),qAW (by lia)];rfl
 ·rw [qAW (fun z=>h (this.mp z)),qAR (by lia)];rfl
section
def zI9 (s:Str):Bool:=decide (1<=s.length)&&decide (s.length<=8)&&s.cps.toList.all fun c=>decide (97<=c)&&decide (c<=122)
theorem nameB_iff (s:Str):zI9 s=true↔zB9 s:=by
 unfold zI9 zB9;simp only [qBh,qBH,qBj];exact ⟨fun ⟨⟨a,b⟩,c⟩=>⟨a,b,c⟩,fun ⟨a,b,c⟩=>⟨⟨a,b⟩,c⟩⟩
def zIk:Sp:=fun vs H Q _=>∃(x:Str),vs=[.str x]/\x.length<=1000000/\∀H',Kp [] H H'->Q (.bl (zI9 x)) H'
abbrev zE9:Stmt:=top 14
theorem sc_is_name:FnScope ["thing"] ["thing"] (zAe zE9):=fnS
theorem ok_is_name (F:Fun K "is_name" "is_name" zE9 f fd) (T:Txt K mg):FnOk P w K mg base CX0 1 f fd ["thing"] zIk:=by
 refine F.ok sc_is_name (fun vs H Q E h=>?_) (fun cdv A outer s H vs Q E hr h=>?_)
 ·obtain ⟨x,rfl,_⟩:=h;rfl
 ·obtain ⟨x,rfl,hx,k⟩:=h;obtain ⟨tL,hL⟩:=T.c_LONGEST_NAME
  refine ⟨_,(zAc (zA0 (PW.pt (pw_or (zDw (zBp (zAj zA7 (by rfl) T.z_isinstance zAo (zAa (pv 0) (zAa (zBm (by rfl) T.z_str bo_str (v:=.ty "str") rfl) zAb))))) (pw_or1 (zDw (pt_chain op_le op_le zAh (zAj call_len_str (by rfl) T.z_len zBq (zAa (pv 0) zAb)) (pe_glob rfl hL (v:=.int 8) ⟨_,rfl⟩))))))
    (zAd (zAm pe_bl))
    zAk)
   (zAd (zAm (zAj (zGj _ rfl) (by rfl) T.z_all bo_all (zAa (zBl rfl (zBe (sc:=zAe zE9) rfl (by decide +kernel)) (Draws.own (x:= "sign") Draws.nil) (pi_str (pv 0)) (fun _ _ _ _=>(pgB (i:=0))) (fun _ _ _ _=>zBr) (fun _ _ _ _=>(pe_chain op_le_str op_le_str zA4 (pv 0) zA4))) zAb))))),?_⟩
  refine ⟨_,rfl,_,_,_,_,rfl,TyOf.str x,zC2,_,rfl,iteF ?_⟩;refine ⟨_,rfl,_,rfl,?_,_,_,rfl,rfl,_,rfl,?_⟩
  ·rw [qAO];lia
  refine ite2 (fun c=>?_) (fun c=>?_)
  ·have c1:1<=x.length:=by
    have:=qAo c;lia
   refine ⟨_,_,rfl,rfl,_,rfl,?_⟩;refine ite2 (fun c=>?_) (fun c=>?_)
   ·-- too long
    have c2:¬(x.length<=8):=fun z=>by
     have:decide ((x.length:Int)<=8)=true:=qAR (by lia);rw [this] at c;cases c
    have e:zI9 x=false:=by
     unfold zI9;rw [qAW c2];simp
    rw [<-e];exact k H Kp.refl
   ·have c2:x.length<=8:=by
     by_cases z:(x.length:Int)<=8
     ·lia
     ·rw [qAW z] at c;exact absurd rfl c
    refine ⟨_,rfl,_,rfl,fun D hD=>comp_str0 (z:=x) (fun i ys τ H'=>(∃o0,τ=[o0])/\ys=((x.cps.toList.take i).map fun c=>V.bl (decide (97<=c)&&decide (c<=122)))/\H'=upd H D (.lst ys)) ⟨⟨_,rfl⟩,rfl,rfl⟩ ?_ ?_⟩
    ·rintro i c ys τ H' hc ⟨⟨o0,rfl⟩,rfl,rfl⟩;have ei:x.cps.toList.take (i+1)=x.cps.toList.take i++[c]:=by rw [qCz,hc];rfl
     have hi:i<x.cps.toList.length:=(qAh.mp hc).1;have hlen:x.cps.toList.length=x.length:=by simp [Str.length]
     have fin:∀b:Bool,b=(decide (97<=c)&&decide (c<=122))->(upd H D (.lst ((x.cps.toList.take i).map fun c=>V.bl (decide (97<=c)&&decide (c<=122))))) D=some (.lst ((x.cps.toList.take i).map fun c=>V.bl (decide (97<=c)&&decide (c<=122))))/\((x.cps.toList.take i).map fun c=>V.bl (decide (97<=c)&&decide (c<=122))).length<sizeLine /\
       ((∃o0,([some (V.str ⟨#[c]⟩)]:St)=[o0])/\((x.cps.toList.take i).map fun c=>V.bl (decide (97<=c)&&decide (c<=122)))++[V.bl b]=((x.cps.toList.take (i+1)).map fun c=>V.bl (decide (97<=c)&&decide (c<=122))) /\
       upd (upd H D (.lst ((x.cps.toList.take i).map fun c=>V.bl (decide (97<=c)&&decide (c<=122))))) D (.lst (((x.cps.toList.take i).map fun c=>V.bl (decide (97<=c)&&decide (c<=122)))++[V.bl b]))=upd H D (.lst (((x.cps.toList.take i).map fun c=>V.bl (decide (97<=c)&&decide (c<=122)))++[V.bl b]))):=fun b hb=>by
      refine ⟨upd_same,?_,⟨_,rfl⟩,?_,zCc⟩
      ·rw [qAD,qAX,qAO];lia
      ·rw [ei,qAM,hb];rfl
     refine ⟨_,rfl,_,_,rfl,rfl,_,rfl,?_⟩;refine ite2 (fun c1=>?_) (fun c1=>?_)
     ·refine ⟨_,_,rfl,rfl,fin _ ?_⟩;have c1:(!(decide (([c]:List Nat)<[97])))=true:=c1;rw [zEz] at c1;show (!(decide (([122]:List Nat)<[c])))=_;rw [zEz,c1];rfl
     ·refine fin _ ?_;have c1:¬(!(decide (([c]:List Nat)<[97])))=true:=c1;rw [zEz] at c1;rw [Bool.not_eq_true] at c1;rw [c1];rfl
    ·rintro ys τ H' ⟨⟨o0,rfl⟩,rfl,rfl⟩;have hlen:x.cps.toList.take x.length=x.cps.toList:=qBk (by simp [Str.length]);refine ⟨D,x.cps.toList.map (fun c=>decide (97<=c)&&decide (c<=122)),rfl,SqL.of ?_,?_⟩
     ·rw [upd_same,hlen,qA1];rfl
     ·have e:((x.cps.toList.map (fun c=>decide (97<=c)&&decide (c<=122))).all id)=zI9 x:=by
       unfold zI9;rw [qAR c1,qAR c2,qCn];rfl
      rw [e];exact k _ (Kp.new Kp.refl hD)
  ·-- empty
   have c1:¬(1<=x.length):=fun z=>c (qAR (by lia));refine ⟨_,rfl,?_⟩;refine iteT ?_
   have e:zI9 x=false:=by
    unfold zI9;rw [qAW c1];simp
   rw [<-e];exact k H Kp.refl
end
abbrev Txs (H:Hp) (l:Addr) (ns:List Str):Prop:=H l=some (.lst (ns.map V.str))
structure Ords (H:Hp) (l:Addr) (qs:List (List Str×Addr)):Prop where
 top:H l=some (.lst (qs.map fun q=>V.ref q.2))
 row:∀q∈qs,H q.2=some (.tup (q.1.map V.str))
 two:∀q∈qs,∃a b,q.1=[a,b]
theorem zC6 (x:Str) (ns:List Str):inV (.str x) (ns.map V.str)=decide (x∈ns):=by
 unfold inV
 induction ns with
 | nil=>rfl
 | cons n r ih =>
  rw [qAi,qCC,ih];show ((n==x)||_)=_
  by_cases e:n=x
  ·subst e;simp
  ·have e':¬x=n:=fun z=>e z.symm;rw [qAw.mpr e];simp [e']
theorem zBt (ns:List Str):(ns.map V.str).all zDs=true:=by simp [zDs]
section
def spIsOneOf:Sp:=fun vs H Q _=>∃(x:Str) (l:Addr) (ns:List Str),vs=[.str x,.ref l]/\Txs H l ns/\Q (.bl (decide (x∈ns))) H
abbrev zDl:Stmt:=top 15
theorem zF3:FnScope ["thing", "names"] ["thing", "names"] (zAe zDl):=fnS
theorem ok_is_one_of (F:Fun K "is_one_of" "is_one_of" zDl f fd) (T:Txt K mg):FnOk P w K mg base CX0 1 f fd ["thing", "names"] spIsOneOf:=by
 refine F.ok zF3 (fun vs H Q E h=>?_) (fun cdv A outer s H vs Q E hr h=>?_)
 ·obtain ⟨x,l,ns,rfl,_⟩:=h;rfl
 ·obtain ⟨x,l,ns,rfl,hl,k⟩:=h;refine ⟨_,(zAd (zAm (pe_and (zAj zA7 (by rfl) T.z_isinstance zAo (zAa (pv 0) (zAa (zBm (by rfl) T.z_str bo_str (v:=.ty "str") rfl) zAb))) (pe_one (zCg zCr (pv 0) (pv 1) (by rfl)))))),?_⟩;refine ⟨_,rfl,_,_,_,_,rfl,TyOf.str x,zC2,_,rfl,iteT ?_⟩;refine ⟨_,rfl,_,rfl,_,_,rfl,.inl (SqL.of hl),rfl,zBt ns,?_⟩;rw [zC6];exact k
def zFp:Sp:=fun vs H Q _=>∃(x:Str) (l:Addr) (ns:List Str),vs=[.ref l,.str x]/\Txs H l ns/\x∈ns/\Q .non H
abbrev zEw:Stmt:=top 28
theorem sc_check_job:FnScope ["names", "thing"] ["names", "thing"] (zAe zEw):=fnS
theorem ok_check_job (F:Fun K "check_job" "check_job" zEw f fd) (T:Txt K mg) (C_is_one_of:Cal P w K mg base "is_one_of" 1 ["thing", "names"] spIsOneOf):FnOk P w K mg base CX0 2 f fd ["names", "thing"] zFp:=by
 refine F.ok sc_check_job (fun vs H Q E h=>?_) (fun cdv A outer s H vs Q E hr h=>?_)
 ·obtain ⟨x,l,ns,rfl,_⟩:=h;rfl
 ·obtain ⟨x,l,ns,rfl,hl,hx,k⟩:=h;have HR_is_one_of:=hr
  refine ⟨_,(zAd (zA0 (zDw (zBp (zAf C_is_one_of HR_is_one_of rfl (zAa (pv 1) (zAa (pv 0) zAb)))))
    (zAd zBu)
    zAk)),?_⟩
  refine ⟨_,rfl,_,rfl,x,l,ns,rfl,hl,?_⟩;rw [qAR hx];exact ⟨_,rfl,iteF k⟩
end
abbrev dT1 (ns:List Str) (g:Str->V):List (Key×V):=ns.map fun n=>(Sum.inr n,g n)
theorem zCb (g:Str->V) (x:Str):∀ns:List Str,valV (dT1 ns g) (.inr x)=if x∈ns then some (g x) else none
 | []=>rfl
 | n::r=>by
  by_cases e:n=x
  ·subst e;have h1:valV (dT1 (n::r) g) (.inr n)=some (g n):=zGa rfl;rw [h1];simp
  ·have h1:valV (dT1 (n::r) g) (.inr x)=valV (dT1 r g) (.inr x):=zGb fun z=>e (Sum.inr.inj z);rw [h1,zCb g x r];have e':¬x=n:=fun z=>e z.symm;simp [e']
theorem zEx {g:Str->V} {x:Str} (v:V) (h:x∉ns):putK (dT1 ns g) (.inr x) v=dT1 ns g++[(.inr x,v)]:=putK_new v (by rw [zCb];simp [h])
theorem zAi {xs:List α} {x:α} (h:xs[i]?=some x):xs.take (i+1)=xs.take i++[x]:=by rw [qCz,h];rfl
theorem zA1 {v:V} (h:(ns.map V.str)[i]?=some v):∃n,ns[i]?=some n/\v= .str n:=by
 rw [qAY] at h;obtain ⟨n,e,r⟩:=qBW.mp h;exact ⟨n,e,r.symm⟩
theorem zFe {xs:List α} (h:xs.Nodup) {x:α} (e:xs[i]?=some x):x∉xs.take i:=fun z=>by
 obtain ⟨hi,rfl⟩:=qAh.mp e;obtain ⟨j,hj,e2⟩:=qA7.mp z;rw [qAX] at hj;rw [List.getElem_take] at e2;have:=(List.getElem_inj h).mp e2;lia
section
def zF2:Sp:=fun vs H Q _=>∃(l:Addr) (ns:List Str),vs=[.ref l]/\Txs H l ns/\ns.length<=20/\(∀n∈ns,zB9 n)/\ns.Nodup/\∀H',Kp [] H H'->Q .non H'
abbrev zDn:Stmt:=top 26
theorem zCd:FnScope ["names", "thing", "seen", "name"] ["names"] (zAe zDn):=fnS
theorem zHs (F:Fun K "check_names" "check_names" zDn f fd) (T:Txt K mg) (C_is_name:Cal P w K mg base "is_name" 1 ["thing"] zIk):FnOk P w K mg base CX0 2 f fd ["names"] zF2:=by
 refine F.ok zCd (fun vs H Q E h=>?_) (fun cdv A outer s H vs Q E hr h=>?_)
 ·obtain ⟨l,ns,rfl,_⟩:=h;rfl
 ·obtain ⟨l,ns,rfl,hl,hn,hN,hD,k⟩:=h;have HR_is_name:=hr;have hu:=zFj hr;obtain ⟨tM,hM⟩:=T.c_MOST_JOBS
  refine ⟨_,(zAc (zA0 (zAn op_gt (zAj zAl (by rfl) T.z_len zBq (zAa (pv 0) zAb)) (pe_glob rfl hM (v:=.int 20) ⟨_,rfl⟩) (zAr _))
    (zAd zBu)
    zAk)
   (zAc (zAz qAZ rfl (zAp (pv 0)) (pgN (i:=1) zCd.nd)
    (zAd (zA0 (zDw (zBp (zAf C_is_name HR_is_name rfl (zAa (pv 1) zAb))))
     (zAd zBu)
     zAk)))
   (zAc (psS (i:=2) zCd.nd zCj)
   (zAd (zAz qAZ rfl (zAp (pv 0)) (pgN (i:=3) zCd.nd)
    (zAc (zA0 (zGy (zG2 hu (pv 3) (pv 2)))
     (zAd zBu)
     zAk)
    (zAd (zDq hu (pv 2) (pv 3) pe_bl rfl)))))))),?_⟩
  refine ⟨_,rfl,_,_,rfl,.inl (SqL.of hl),_,_,rfl,rfl,_,rfl,?_⟩;rw [qAW (by rw [qAD];lia)];refine iteF ?_;refine ⟨_,rfl,_,rfl,⟨_,SqL.of hl⟩,zAu (fun i σ H2=>(∃o1 o2 o3:Option V,σ=[some (.ref l),o1,o2,o3])/\Kp [] H H2) ⟨⟨_,_,_,rfl⟩,Kp.refl⟩ (fun i σ H2 _ ⟨_,k2⟩=>SqL.of (k2 l _ hl (by simp))) ?_ ?_⟩
  ·rintro i v σ H2 hv ⟨⟨o1,o2,o3,rfl⟩,k2⟩;obtain ⟨n,en,rfl⟩:=zA1 hv;have nn:=hN n (qAL en);refine ⟨_,rfl,n,rfl,by have:=nn.2.1;lia,fun H3 k3=>?_⟩;rw [(nameB_iff n).mpr nn];exact ⟨_,rfl,iteF ⟨⟨_,_,_,rfl⟩,k2.trans k3⟩⟩
  ·rintro σ H2 ⟨⟨o1,o2,o3,rfl⟩,k2⟩;have hl2:Txs H2 l ns:=k2 l _ hl (by simp);refine fun d hd=>?_;have fd:Fre H2 d:=hd;have fdH:Fre H d:=k2.fre fd (by simp);refine ⟨_,rfl,_,rfl,⟨_,SqL.of ((Kp.new (M:=[]) Kp.refl fd) l _ hl2 (by simp))⟩,zAu (fun i σ H3=>(∃o1 o3:Option V,σ=[some (.ref l),o1,some (.ref d),o3])/\Kp [] H H3/\H3 d=some (.dK (dT1 (ns.take i) fun _=>.bl true))) ⟨⟨_,_,rfl⟩,Kp.new k2 fdH,upd_same⟩ (fun i σ H3 _ ⟨_,k3,_⟩=>SqL.of (k3 l _ hl (by simp))) ?_ ?_⟩
   ·rintro i v σ H3 hv ⟨⟨o1,o3,rfl⟩,k3,h3⟩;obtain ⟨n,en,rfl⟩:=zA1 hv;have ni:=zFe hD en;refine ⟨_,rfl,_,rfl,_,_,rfl,DGet.k (k:=Sum.inr n) h3,_,rfl,?_⟩;rw [zCb,qAB ni];refine iteF ?_;refine ⟨_,rfl,_,rfl,_,_,rfl,DPut.k (k:=Sum.inr n) h3 ?_,?_⟩
    ·rw [qAD,qAX,qAO];lia
    ·refine ⟨⟨_,_,rfl⟩,Kp.new k3 fdH,?_⟩;rw [upd_same,zEx _ ni,zAi en];unfold dT1;rw [qAM];rfl
   ·rintro σ H3 ⟨⟨o1,o3,rfl⟩,k3,h3⟩;exact k H3 k3
end
theorem zGw {qs:List (List Str×Addr)} {v:V} (h:(qs.map fun q=>V.ref q.2)[i]?=some v):∃q,qs[i]?=some q/\v= .ref q.2:=by
 rw [qAY] at h;obtain ⟨n,e,r⟩:=qBW.mp h;exact ⟨n,e,r.symm⟩
theorem Ords.kp {M:List Addr} {l:Addr} {qs:List (List Str×Addr)} (o:Ords H l qs) (k:Kp M H H') (h1:l∉M) (h2:∀q∈qs,q.2∉M):Ords H' l qs:=⟨k l _ o.top h1,fun q hq=>k _ _ (o.row q hq) (h2 q hq),o.two⟩
section
def zF1:Sp:=fun vs H Q _=>∃(l m:Addr) (ns:List Str) (qs:List (List Str×Addr)),vs=[.ref l,.ref m]/\Txs H l ns/\Ords H m qs/\(∀q∈qs,∀x∈q.1,x∈ns)/\Q .non H
abbrev zDm:Stmt:=top 27
theorem zC4:FnScope ["names", "orders", "order", "part"] ["names", "orders"] (zAe zDm):=fnS
theorem zHr (F:Fun K "check_parts" "check_parts" zDm f fd) (T:Txt K mg) (C_check_job:Cal P w K mg base "check_job" 2 ["names", "thing"] zFp):FnOk P w K mg base CX0 3 f fd ["names", "orders"] zF1:=by
 refine F.ok zC4 (fun vs H Q E h=>?_) (fun cdv A outer s H vs Q E hr h=>?_)
 ·obtain ⟨l,m,ns,qs,rfl,_⟩:=h;rfl
 ·obtain ⟨l,m,ns,qs,rfl,hl,hm,hq,k⟩:=h;have HR_check_job:=hr
  refine ⟨_,(zAd (zAz qAZ rfl (zAp (pv 1)) (pgN (i:=2) zC4.nd)
    (zAd (zAz qAZ rfl (pi_tup (pv 2)) (pgN (i:=3) zC4.nd)
     (zAd (zA2 (zAf C_check_job HR_check_job rfl (zAa (pv 0) (zAa (pv 3) zAb))))))))),?_⟩
  refine ⟨_,rfl,_,rfl,⟨_,SqL.of hm.top⟩,zAu (fun i σ H2=>(∃o2 o3:Option V,σ=[some (.ref l),some (.ref m),o2,o3])/\H2=H) ⟨⟨_,_,rfl⟩,rfl⟩ (fun i σ H2 _ ⟨_,e⟩=>by subst e;exact SqL.of hm.top) ?_ ?_⟩
  ·rintro i v σ H2 hv ⟨⟨o2,o3,rfl⟩,rfl⟩;obtain ⟨q,eq,rfl⟩:=zGw hv;have mq:=qAL eq;refine ⟨_,rfl,_,rfl,⟨_,.inl (.inl (hm.row q mq))⟩,for_tup (fun j σ H3=>(∃o3:Option V,σ=[some (.ref l),some (.ref m),some (.ref q.2),o3])/\H3=H2) ⟨⟨_,rfl⟩,rfl⟩ (fun j σ H3 _ ⟨_,e⟩=>by subst e;exact .inl (.inl (hm.row q mq))) ?_ ?_⟩
   ·rintro j v σ H3 hv ⟨⟨o3,rfl⟩,rfl⟩;obtain ⟨x,ex,rfl⟩:=zA1 hv;exact ⟨_,rfl,_,rfl,x,l,ns,rfl,hl,hq q mq x (qAL ex),⟨_,rfl⟩,rfl⟩
   ·rintro σ H3 ⟨⟨o3,rfl⟩,rfl⟩;exact ⟨⟨_,_,rfl⟩,rfl⟩
  ·rintro σ H2 ⟨⟨o2,o3,rfl⟩,rfl⟩;exact k
end
def fst (q:List Str×Addr):Str:=q.1.getD 0 Str.empty
def snd (q:List Str×Addr):Str:=q.1.getD 1 Str.empty
def told (qs:List (List Str×Addr)) (n:Str):List Str:=(qs.filter fun q=>decide (snd q=n)).map fst
theorem told_snoc (qs:List (List Str×Addr)) (q:List Str×Addr) (n:Str):told (qs++[q]) n=if snd q=n then told qs n++[fst q] else told qs n:=by
 unfold told;rw [qB2]
 by_cases e:snd q=n
 ·rw [qAC e];simp [e]
 ·rw [qAB e];simp [e]
theorem told_len (qs:List (List Str×Addr)) (n:Str):(told qs n).length<=qs.length:=by
 unfold told;rw [qAD];exact qBJ _ _
structure DL (H0 H:Hp) (d:Addr) (ns:List Str) (la:Str->Addr) (f:Str->List Str):Prop where
 top:H d=some (.dK (dT1 ns fun n=>.ref (la n)))
 row:∀n∈ns,Txs H (la n) (f n)
 ne:∀n∈ns,la n≠d
 inj:∀n∈ns,∀m∈ns,la n=la m->n=m
 fr:Fre H0 d
 frs:∀n∈ns,Fre H0 (la n)
theorem zHj {g g':Str->V} (h:∀n∈ns,g n=g' n):dT1 ns g=dT1 ns g':=qCx fun n hn=>by rw [h n hn]
section
def zGq:Sp:=fun vs H Q _=>∃(l m:Addr) (ns:List Str) (qs:List (List Str×Addr)),vs=[.ref l,.ref m]/\Txs H l ns/\Ords H m qs/\ns.Nodup/\ns.length<=20/\qs.length<=4096/\(∀q∈qs,∀x∈q.1,x∈ns) /\
 ∀d la H',DL H H' d ns la (told qs)->Kp [] H H'->Q (.ref d) H'
abbrev zD1:Stmt:=top 29
theorem zBz:FnScope ["names", "orders", "told", "name", "one", "other"] ["names", "orders"] (zAe zD1):=fnS
theorem zI3 (F:Fun K "told_ahead" "told_ahead" zD1 f fd):FnOk P w K mg base CX0 1 f fd ["names", "orders"] zGq:=by
 refine F.ok zBz (fun vs H Q E h=>?_) (fun cdv A outer s H vs Q E hr h=>?_)
 ·obtain ⟨l,m,ns,qs,rfl,_⟩:=h;rfl
 ·obtain ⟨l,m,ns,qs,rfl,hl,hm,hN,hn,hz,hq,k⟩:=h;have hu:=zFj hr
  refine ⟨_,(zAc (psS (i:=2) zBz.nd zCj)
   (zAc (zAz qAZ rfl (zAp (pv 0)) (pgN (i:=3) zBz.nd)
    (zAd (zDq hu (pv 2) (pv 3) (zA6 zAb) rfl)))
   (zAc (zAz qAZ rfl (zAp (pv 1)) (zG0 rfl (zAt (pgN (i:=4) zBz.nd) (zAt (pgN (i:=5) zBz.nd) zCf)))
    (zAd (zA2 (zC5 qAt qCM qCN zCs (zCq hu (pv 2) (pv 5) (fun _ _=>rfl)) (zAa (pv 4) zAb)))))
   (zAd (zAm (pv 2)))))),?_⟩
  refine fun d hd=>?_;have fd:Fre H d:=hd
  refine ⟨_,rfl,_,rfl,⟨_,SqL.of ((Kp.new (M:=[]) Kp.refl fd) l _ hl (by simp))⟩,zAu (fun i σ H2=>(∃o3 o4 o5:Option V,σ=[some (.ref l),some (.ref m),some (.ref d),o3,o4,o5])/\Kp [] H H2/\∃la,DL H H2 d (ns.take i) la fun _=>[])
   ⟨⟨_,_,_,rfl⟩,Kp.new Kp.refl fd,fun _=>0,upd_same,(fun n h=>nomatch h),(fun n h=>nomatch h),(fun n h=>nomatch h),fd,(fun n h=>nomatch h)⟩ (fun i σ H2 _ ⟨_,k2,_⟩=>SqL.of (k2 l _ hl (by simp))) ?_ ?_⟩
  ·rintro i v σ H2 hv ⟨⟨o3,o4,o5,rfl⟩,k2,la,D⟩;obtain ⟨n,en,rfl⟩:=zA1 hv;have ni:=zFe hN en;refine ⟨(by walk_at "ln"),fun b hb=>?_⟩;have fb:Fre H2 b:=hb;have ndb:d≠b:=ne_fre fb D.top;have fbH:Fre H b:=k2.fre fb (by simp);refine ⟨_,rfl,_,rfl,_,_,rfl,DPut.k (k:=Sum.inr n) ((upd_ne ndb).trans D.top) ?_,?_⟩
   ·rw [qAD,qAX,qAO];lia
   ·have nlb:∀x∈ns.take i,la x≠b:=fun x hx=>ne_fre fb (D.row x hx);refine ⟨⟨_,_,_,rfl⟩,Kp.new (Kp.new k2 fbH) fd,fun x=>if x=n then b else la x,?_,fun x hx=>?_,fun x hx=>?_,fun x hx y hy e=>?_,fd,fun x hx=>?_⟩
    ·rw [upd_same,zEx _ ni,zAi en];have:dT1 (ns.take i) (fun n=>V.ref (la n))=dT1 (ns.take i) (fun x=>V.ref (if x=n then b else la x)):=zHj fun x hx=>by rw [qAB fun (z:x=n)=>ni (z▸hx)]
     rw [this];unfold dT1;rw [qAM];simp
    ·rw [zAi en] at hx
     by_cases z:x=n
     ·rw [qAC z];exact (upd_ne ndb.symm).trans upd_same
     ·rw [qAB z]
      have hx':x∈ns.take i:=by
       rcases qAN.mp hx with y| y
       ·exact y
       ·exact absurd (qAQ.mp y) z
      exact (upd_ne (D.ne x hx')).trans ((upd_ne (nlb x hx')).trans (D.row x hx'))
    ·rw [zAi en] at hx
     by_cases z:x=n
     ·rw [qAC z];exact ndb.symm
     ·rw [qAB z];rcases qAN.mp hx with y| y
      ·exact D.ne x y
      ·exact absurd (qAQ.mp y) z
    ·rw [zAi en] at hx hy
     have mem:∀x,x∈ns.take i++[n]->x≠n->x∈ns.take i:=fun x hx z=>by
      rcases qAN.mp hx with y| y
      ·exact y
      ·exact absurd (qAQ.mp y) z
     by_cases z:x=n
     ·by_cases z':y=n
      ·rw [z,z']
      ·rw [qAC z,qAB z'] at e;exact absurd e.symm (nlb y (mem y hy z'))
     ·by_cases z':y=n
      ·rw [qAB z,qAC z'] at e;exact absurd e (nlb x (mem x hx z))
      ·rw [qAB z,qAB z'] at e;exact D.inj x (mem x hx z) y (mem y hy z') e
    ·rw [zAi en] at hx
     by_cases z:x=n
     ·rw [qAC z];exact fbH
     ·rw [qAB z];rcases qAN.mp hx with y| y
      ·exact D.frs x y
      ·exact absurd (qAQ.mp y) z
  ·rintro σ H2 ⟨⟨o3,o4,o5,rfl⟩,k2,la,D⟩;have eN:ns.take (ns.map V.str).length=ns:=by rw [qAD,qAf]
   rw [eN] at D
   refine ⟨_,rfl,_,rfl,⟨_,SqL.of (k2 m _ hm.top (by simp))⟩,zAu (fun i σ H3=>(∃o3 o4 o5:Option V,σ=[some (.ref l),some (.ref m),some (.ref d),o3,o4,o5])/\Kp [] H H3/\DL H H3 d ns la (told (qs.take i)))
    ⟨⟨_,_,_,rfl⟩,k2,D⟩ (fun i σ H3 _ ⟨_,k3,_⟩=>SqL.of (k3 m _ hm.top (by simp))) ?_ ?_⟩
   ·rintro i v σ H3 hv ⟨⟨o3,o4,o5,rfl⟩,k3,D⟩;obtain ⟨q,eq,rfl⟩:=zGw hv;have mq:=qAL eq;obtain ⟨a,b,eab⟩:=hm.two q mq
    have hrow:H3 q.2=some (.tup [.str a,.str b]):=by
     have:=k3 q.2 _ (hm.row q mq) (by simp);rw [eab] at this;exact this
    have hb:b∈ns:=hq q mq b (by rw [eab];simp);have esnd:snd q=b:=by unfold snd;rw [eab];rfl
    have efst:fst q=a:=by unfold fst;rw [eab];rfl
    refine ⟨_,_,rfl,.inl (.inl hrow),rfl,_,_,rfl,_,_,rfl,rfl,?_⟩;refine ⟨_,rfl,_,rfl,_,.ref (la b),rfl,?_,.inl ⟨rfl,_,SqL.of (D.row b hb)⟩,_,rfl,_,_,_,rfl,rfl,D.row b hb,?_,?_⟩
    ·have:=DGet.k (k:=Sum.inr b) D.top;rw [zCb,qAC hb] at this;exact this
    ·have:=told_len (qs.take i) b;rw [qAX] at this;rw [qAD,qAO];lia
    ·refine ⟨⟨_,_,_,rfl⟩,Kp.new k3 (D.frs b hb),?_⟩;rw [zAi eq];refine ⟨(upd_ne (D.ne b hb).symm).trans D.top,fun x hx=>?_,D.ne,D.inj,D.fr,D.frs⟩;show upd H3 (la b) _ (la x)=some (.lst ((told (qs.take i++[q]) x).map V.str));rw [told_snoc,esnd,efst]
     by_cases z:b=x
     ·subst z;rw [qAC rfl,upd_same,qAM];rfl
     ·rw [qAB z,upd_ne fun y=>z (D.inj b hb x hx y.symm)];exact D.row x hx
   ·rintro σ H3 ⟨⟨o3,o4,o5,rfl⟩,k3,D⟩;have eQ:qs.take (qs.map fun q=>V.ref q.2).length=qs:=by rw [qAD,qAf]
    rw [eQ] at D;exact ⟨_,rfl,k d la H3 D k3⟩
end
def addA (A:List Str) (x:Str):List Str:=if x∈A then A else A++[x]
theorem mem_addA {A:List Str} {x:Str}:y∈addA A x↔y∈A\/y=x:=by
 unfold addA
 by_cases h:x∈A
 ·rw [qAC h];exact ⟨.inl,fun z=>z.elim id fun e=>e▸h⟩
 ·rw [qAB h];simp
theorem zH3 {A:List Str} {x:Str} (h:A.Nodup):(addA A x).Nodup:=by
 unfold addA
 by_cases hx:x∈A
 ·rw [qAC hx];exact h
 ·rw [qAB hx];refine qCf.mpr ⟨h,by simp,fun a ha b hb=>?_⟩;rw [qAQ.mp hb];rintro rfl;exact hx ha
theorem zDf :∀(B A:List Str),y∈B.foldl addA A↔y∈A\/y∈B
 | [],A=>by simp
 | b::B,A=>by
  rw [qBU,zDf B (addA A b),mem_addA,qAS,or_assoc]
theorem zE0:∀(B A:List Str),A.Nodup->(B.foldl addA A).Nodup
 | [],A,h=>h
 | b::B,A,h=>zE0 B _ (zH3 h)
def zB7 (S:Str->List Str) (ms:List Str):List Str:=ms.foldl (fun A m=>(S m).foldl addA (addA A m)) []
theorem joinA_snoc (S:Str->List Str) (ms:List Str) (m:Str):zB7 S (ms++[m])=(S m).foldl addA (addA (zB7 S ms) m):=by unfold zB7;rw [List.foldl_append];rfl
theorem zH5 {S:Str->List Str} :∀(ms A:List Str),y∈ms.foldl (fun A m=>(S m).foldl addA (addA A m)) A↔y∈A\/y∈ms\/∃m∈ms,y∈S m
 | [],A=>by simp
 | m::ms,A=>by
  rw [qBU,zH5 ms,zDf,mem_addA];constructor
  ·rintro (((h| h)| h)| h| ⟨q,h1,h2⟩)
   ·exact .inl h
   ·exact .inr (.inl (h▸qAV))
   ·exact .inr (.inr ⟨m,qAV,h⟩)
   ·exact .inr (.inl (qAU _ h))
   ·exact .inr (.inr ⟨q,qAU _ h1,h2⟩)
  ·rintro (h| h| ⟨q,h1,h2⟩)
   ·exact .inl (.inl (.inl h))
   ·rcases qAS.mp h with e| e
    ·exact .inl (.inl (.inr e))
    ·exact .inr (.inl e)
   ·rcases qAS.mp h1 with e| e
    ·exact .inl (.inr (e▸h2))
    ·exact .inr (.inr ⟨q,e,h2⟩)
theorem zG7 {S:Str->List Str} {ms:List Str} :y∈zB7 S ms↔y∈ms\/∃m∈ms,y∈S m:=by
 unfold zB7;rw [zH5];simp
theorem zF4 {S:Str->List Str}:∀(ms A:List Str),A.Nodup->(ms.foldl (fun A m=>(S m).foldl addA (addA A m)) A).Nodup
 | [],A,h=>h
 | m::ms,A,h=>zF4 ms _ (zE0 _ _ (zH3 h))
theorem zG4 (S:Str->List Str) (ms:List Str):(zB7 S ms).Nodup:=zF4 ms [] qBP
theorem zDy:∀{A B:List Str},A.Nodup->(∀x∈A,x∈B)->A.length<=B.length
 | [],B,_,_=>qAg _
 | a::A,B,h,hs=>by
  obtain ⟨h1,h2⟩:=qBD.mp h;have hb:=hs a qAV;have:=zDy (B:=B.erase a) h2 fun x hx=>(List.mem_erase_of_ne fun e=>h1 (by rw [<-e];exact hx)).mpr (hs x (qAU _ hx));rw [List.length_erase_of_mem hb] at this;have:=List.length_pos_of_mem hb;rw [qAe];lia
abbrev SetD (H:Hp) (e:Addr) (A:List Str):Prop:=H e=some (.dK (dT1 A fun _=>.bl true))
theorem zIw (A:List Str) (x:Str):putK (dT1 A fun _=>.bl true) (.inr x) (.bl true)=dT1 (addA A x) fun _=>.bl true:=by
 unfold addA
 by_cases h:x∈A
 ·rw [qAC h];unfold putK;rw [zGc,zCb,qAC h];refine (qAC (by rfl)).trans ?_;unfold dT1;rw [qA1];refine qCx fun y _=>?_;show (if (Sum.inr y:Key)=Sum.inr x then ((Sum.inr y:Key),V.bl true) else (Sum.inr y,V.bl true))=_;split<;>rfl
 ·rw [qAB h,zEx _ h];unfold dT1;rw [qAM];rfl
theorem mrg_set:∀(B A:List Str),mrg (dT1 A fun _=>.bl true) (dT1 B fun _=>.bl true)=dT1 (B.foldl addA A) fun _=>.bl true
 | [],A=>rfl
 | b::B,A=>by
  show mrg (putK (dT1 A fun _=>.bl true) (.inr b) (.bl true)) (dT1 B fun _=>.bl true)=_;rw [zIw,mrg_set B];rfl
section
def spHasAll:Sp:=fun vs H Q _=>∃(d l:Addr) (kvs:List (Key×V)) (ms:List Str),vs=[.ref d,.ref l]/\H d=some (.dK kvs)/\Txs H l ms/\ms.length<=4096/\∀H',Kp [] H H'->Q (.bl (ms.all fun m=>(valV kvs (.inr m)).isSome)) H'
abbrev zFa:Stmt:=top 30
theorem sc_has_all:FnScope ["done", "names"] ["done", "names"] (zAe zFa):=fnS
theorem ok_has_all (F:Fun K "has_all" "has_all" zFa f fd) (T:Txt K mg):FnOk P w K mg base CX0 1 f fd ["done", "names"] spHasAll:=by
 refine F.ok sc_has_all (fun vs H Q E h=>?_) (fun cdv A outer s H vs Q E hr h=>?_)
 ·obtain ⟨d,l,kvs,ms,rfl,_⟩:=h;rfl
 ·obtain ⟨d,l,kvs,ms,rfl,hd,hl,hz,k⟩:=h;have hu:=zFj hr;refine ⟨_,(zAd (zAm (zAj (zGj _ rfl) (by rfl) T.z_all bo_all (zAa (zBl rfl (zBe (sc:=zAe zFa) rfl (by decide +kernel)) (Draws.own (x:= "name") (dtk (i:=0) rfl Draws.nil)) (zAp (pv 1)) (fun _ _ _ _=>(pgB (i:=0))) (fun _ _ _ _=>zBr) (fun _ _ _ _=>(pe_cmp (zG2 hu (pv 0) (pv 1))))) zAb)))),?_⟩;refine ⟨_,rfl,_,rfl,⟨_,SqL.of hl⟩,fun D hD=>zA5 (ms.map V.str) (fun i ys τ H'=>(∃o0,τ=[o0,some (.ref d)])/\ys=((ms.take i).map fun m=>V.bl (valV kvs (.inr m)).isSome)/\H'=upd H D (.lst ys)) ⟨⟨_,rfl⟩,rfl,rfl⟩ (fun i ys τ H' ⟨_,_,e⟩=>by subst e;exact SqL.of ((upd_ne (ne_fre (show Fre H D from hD) hl)).trans hl)) ?_ ?_⟩
  ·rintro i v ys τ H' hv ⟨⟨o0,rfl⟩,rfl,rfl⟩;obtain ⟨m,em,rfl⟩:=zA1 hv;refine ⟨_,rfl,_,rfl,_,_,rfl,DGet.k (k:=Sum.inr m) ((upd_ne (ne_fre (show Fre H D from hD) hd)).trans hd),upd_same,?_,⟨_,rfl⟩,?_,zCc⟩
   ·rw [qAD,qAX,qAO];lia
   ·rw [zAi em,qAM];rfl
  ·rintro ys τ H' ⟨_,rfl,rfl⟩;have eM:ms.take (ms.map V.str).length=ms:=by rw [qAD,qAf]
   refine ⟨D,ms.map fun m=>(valV kvs (.inr m)).isSome,rfl,SqL.of ?_,?_⟩
   ·rw [upd_same,eM,qA1];rfl
   ·rw [qCn];exact k _ (Kp.new Kp.refl hD)
def spJoined:Sp:=fun vs H Q _=>∃(l d:Addr) (ms D0 ns:List Str) (fa:Str->Addr) (S:Str->List Str),vs=[.ref l,.ref d]/\Txs H l ms/\H d=some (.dK (dT1 D0 fun n=>.ref (fa n)))/\(∀m∈ms,m∈D0/\m∈ns/\SetD H (fa m) (S m)/\∀x∈S m,x∈ns)/\ns.length<=20/\(∀m∈ms,(S m).length<=20) /\
 ∀e H',Fre H e->SetD H' e (zB7 S ms)->Kp [] H H'->Q (.ref e) H'
abbrev zIv:Stmt:=top 32
theorem zGt:FnScope ["near", "far", "found", "name"] ["near", "far"] (zAe zIv):=fnS
theorem ok_joined (F:Fun K "joined" "joined" zIv f fd):FnOk P w K mg base CX0 1 f fd ["near", "far"] spJoined:=by
 refine F.ok zGt (fun vs H Q E h=>?_) (fun cdv A outer s H vs Q E hr h=>?_)
 ·obtain ⟨l,d,ms,D0,ns,fa,S,rfl,_⟩:=h;rfl
 ·obtain ⟨l,d,ms,D0,ns,fa,S,rfl,hl,hd,hm,hn,hS,k⟩:=h;have hu:=zFj hr
  refine ⟨_,(zAc (psS (i:=2) zGt.nd zCj)
   (zAc (zAz qAZ rfl (zAp (pv 0)) (pgN (i:=3) zGt.nd)
    (zAc (zDq hu (pv 2) (pv 3) pe_bl rfl)
    (zAd (zA2 (zC5 PySem.F.plainAttrs_dict PySem.F.slot_dict_update PySem.F.type_dict_update mt_dupd (pv 2) (zAa (zCq hu (pv 1) (pv 3) (fun _ _=>rfl)) zAb))))))
   (zAd (zAm (pv 2))))),?_⟩
  refine fun e he=>?_;have fe:Fre H e:=he
  have hsub:∀i x,x∈zB7 S (ms.take i)->x∈ns:=fun i x hx=>by
   rcases zG7.mp hx with z| ⟨m,z,z'⟩
   ·exact (hm x (qBw z)).2.1
   ·exact (hm m (qBw z)).2.2.2 x z'
  have hlen:∀i,(zB7 S (ms.take i)).length<=20:=fun i=>qAc (zDy (zG4 S _) (hsub i)) hn
  refine ⟨_,rfl,_,rfl,⟨_,SqL.of ((Kp.new (M:=[]) Kp.refl fe) l _ hl (by simp))⟩,zAu (fun i σ H2=>(∃o3:Option V,σ=[some (.ref l),some (.ref d),some (.ref e),o3])/\Kp [] H H2/\SetD H2 e (zB7 S (ms.take i)))
   ⟨⟨_,rfl⟩,Kp.new Kp.refl fe,upd_same⟩ (fun i σ H2 _ ⟨_,k2,_⟩=>SqL.of (k2 l _ hl (by simp))) ?_ ?_⟩
  ·rintro i v σ H2 hv ⟨⟨o3,rfl⟩,k2,h2⟩;obtain ⟨m,em,rfl⟩:=zA1 hv;obtain ⟨m1,m2,m3,m4⟩:=hm m (qAL em);have l2:=hlen i;refine ⟨_,rfl,_,rfl,_,_,rfl,DPut.k (k:=Sum.inr m) h2 (by rw [qAD,qAO];lia),?_⟩;rw [zIw];have k3:Kp [] H (upd H2 e (.dK (dT1 (addA (zB7 S (ms.take i)) m) fun _=>.bl true))):=Kp.new k2 fe;have nfa:fa m≠e:=ne_fre fe m3;refine ⟨_,rfl,.inr (.inr (.inl ⟨rfl,.inl ⟨_,upd_same⟩⟩)),_,rfl,_,rfl,_,.ref (fa m),rfl,?_,_,fa m,_,_,rfl,rfl,upd_same,k3 _ _ m3 (by simp),nfa.symm,?_,?_⟩
   ·have:=DGet.k (k:=Sum.inr m) (k3 d _ hd (by simp));rw [zCb,qAC m1] at this;exact this
   ·have:=hS m (qAL em);rw [qAD,qAD,qAO]
    have:(addA (zB7 S (ms.take i)) m).length<=(zB7 S (ms.take i)).length+1:=by
     unfold addA;split
     ·lia
     ·rw [qAj];exact qAF _
    lia
   ·rw [mrg_set];refine ⟨⟨_,rfl⟩,Kp.new k3 fe,?_⟩;rw [zAi em,joinA_snoc];exact upd_same
  ·rintro σ H2 ⟨⟨o3,rfl⟩,k2,h2⟩;have eM:ms.take (ms.map V.str).length=ms:=by rw [qAD,qAf]
   rw [eM] at h2;exact ⟨_,rfl,k e H2 fe h2 k2⟩
end
structure Fp (H0 H:Hp) (e:Addr) (ns D:List Str) (fa:Str->Addr) (S f:Str->List Str):Prop where
 top:H e=some (.dK (dT1 D fun n=>.ref (fa n)))
 nd:D.Nodup
 sub:∀n∈D,n∈ns
 row:∀n∈D,SetD H (fa n) (S n)
 snd:∀n∈D,(S n).Nodup
 sns:∀n∈D,∀x∈S n,x∈ns
 mem:∀n∈D,∀x,x∈S n↔x∈f n\/∃m∈f n,x∈S m
 cl:∀n∈D,∀x∈f n,x∈D
 ne:∀n∈D,fa n≠e
 fr:Fre H0 e
 frs:∀n∈D,Fre H0 (fa n)
theorem Fp.kp {H0:Hp} {e:Addr} {D:List Str} {fa:Str->Addr} {S f:Str->List Str} (F:Fp H0 H e ns D fa S f) (k:Kp [] H H'):Fp H0 H' e ns D fa S f :=
 ⟨k e _ F.top (by simp),F.nd,F.sub,fun n hn=>k _ _ (F.row n hn) (by simp),F.snd,F.sns,F.mem,F.cl,F.ne,F.fr,F.frs⟩
theorem Fp.more {H0:Hp} {e b:Addr} {D:List Str} {fa:Str->Addr} {S f:Str->List Str} {n:Str} (F:Fp H0 H e ns D fa S f) (hn:n∈ns) (hD:n∉D) (hf:∀x∈f n,x∈D) (hs:∀x∈f n,x∈ns) (hb:SetD H b (zB7 S (f n))) (nb:b≠e) (fb:Fre H0 b) :
  Fp H0 (upd H e (.dK (putK (dT1 D fun n=>.ref (fa n)) (.inr n) (.ref b)))) e ns (D++[n]) (fun x=>if x=n then b else fa x) (fun x=>if x=n then zB7 S (f n) else S x) f:=by
 have hx:∀x∈D,¬x=n:=fun x h z=>hD (z▸h)
 have cs:∀x,x∈D++[n]->x∈D\/x=n:=fun x h=>by
  rcases qAN.mp h with z| z
  ·exact .inl z
  ·exact .inr (qAQ.mp z)
 have eqS:∀{x},x∈D->(if x=n then zB7 S (f n) else S x)=S x:=fun {x} h=>qAB (hx x h);have eqn:(if n=n then zB7 S (f n) else S n)=zB7 S (f n):=qAC rfl;refine ⟨?_,?_,fun x h=>?_,fun x h=>?_,fun x h=>?_,fun x h y hy=>?_,fun x h y=>?_,fun x h y hy=>?_,fun x h=>?_,F.fr,fun x h=>?_⟩
 ·rw [upd_same,zEx _ hD];have:dT1 D (fun n=>V.ref (fa n))=dT1 D (fun x=>V.ref (if x=n then b else fa x)):=zHj fun x h=>by rw [qAB (hx x h)]
  rw [this];unfold dT1;rw [qAM];simp
 ·refine qCf.mpr ⟨F.nd,by simp,fun a ha c hc=>?_⟩;rw [qAQ.mp hc];exact hx a ha
 ·rcases cs x h with z| z
  ·exact F.sub x z
  ·rw [z];exact hn
 ·rcases cs x h with z| z
  ·show upd H e _ (if x=n then b else fa x)=some (.dK (dT1 (if x=n then zB7 S (f n) else S x) fun _=>.bl true));rw [qAB (hx x z),qAB (hx x z),upd_ne (F.ne x z)];exact F.row x z
  ·subst z;show upd H e _ (if x=x then b else fa x)=some (.dK (dT1 (if x=x then zB7 S (f x) else S x) fun _=>.bl true));rw [qAC rfl,qAC rfl,upd_ne nb];exact hb
 ·rcases cs x h with z| z
  ·show (if x=n then zB7 S (f n) else S x).Nodup;rw [eqS z];exact F.snd x z
  ·subst z;show (if x=x then zB7 S (f x) else S x).Nodup;rw [qAC rfl];exact zG4 _ _
 ·rcases cs x h with z| z
  ·have hy:y∈(if x=n then zB7 S (f n) else S x):=hy;rw [eqS z] at hy;exact F.sns x z y hy
  ·subst z;have hy:y∈(if x=x then zB7 S (f x) else S x):=hy;rw [qAC rfl] at hy;rcases zG7.mp hy with q| ⟨m,q1,q2⟩
   ·exact hs y q
   ·exact F.sns m (hf m q1) y q2
 ·rcases cs x h with z| z
  ·show y∈(if x=n then zB7 S (f n) else S x)↔y∈f x\/∃m∈f x,y∈(if m=n then zB7 S (f n) else S m);rw [eqS z,F.mem x z y];constructor
   ·rintro (q| ⟨m,q1,q2⟩)
    ·exact .inl q
    ·exact .inr ⟨m,q1,by rw [eqS (F.cl x z m q1)];exact q2⟩
   ·rintro (q| ⟨m,q1,q2⟩)
    ·exact .inl q
    ·rw [eqS (F.cl x z m q1)] at q2;exact .inr ⟨m,q1,q2⟩
  ·subst z;show y∈(if x=x then zB7 S (f x) else S x)↔y∈f x\/∃m∈f x,y∈(if m=x then zB7 S (f x) else S m);rw [qAC rfl,zG7];constructor
   ·rintro (q| ⟨m,q1,q2⟩)
    ·exact .inl q
    ·exact .inr ⟨m,q1,by rw [eqS (hf m q1)];exact q2⟩
   ·rintro (q| ⟨m,q1,q2⟩)
    ·exact .inl q
    ·rw [eqS (hf m q1)] at q2;exact .inr ⟨m,q1,q2⟩
 ·rcases cs x h with z| z
  ·exact qAq _ (F.cl x z y hy)
  ·subst z;exact qAq _ (hf y hy)
 ·rcases cs x h with z| z
  ·show (if x=n then b else fa x)≠e;rw [qAB (hx x z)];exact F.ne x z
  ·subst z;show (if x=x then b else fa x)≠e;rw [qAC rfl];exact nb
 ·rcases cs x h with z| z
  ·show Fre H0 (if x=n then b else fa x);rw [qAB (hx x z)];exact F.frs x z
  ·subst z;show Fre H0 (if x=x then b else fa x);rw [qAC rfl];exact fb
theorem zHb (r:Str->Nat):∀(L:List Str),L≠[]->∃n∈L,∀m∈L,r n<=r m
 | [],h=>absurd rfl h
 | [x],_=>⟨x,by simp,fun m hm=>by rw [qAQ.mp hm];exact qAF _⟩
 | x::y::L,_=>by
  obtain ⟨n,hn,h⟩:=zHb r (y::L) (by simp)
  by_cases c:r x<=r n
  ·refine ⟨x,qAV,fun m hm=>?_⟩;rcases qAS.mp hm with z| z
   ·rw [z];exact qAF _
   ·exact qAc c (h m z)
  ·refine ⟨n,qAU _ hn,fun m hm=>?_⟩;rcases qAS.mp hm with z| z
   ·rw [z];lia
   ·exact h m z
theorem zHi {p:α->Bool} {x:α}:∀{L:List α},x∈L->p x=false->(L.filter p).length<L.length
 | a::L,h,hp=>by
  rcases qAS.mp h with z| z
  ·subst z;rw [qBA,qAB (by rw [hp];decide),qAe];exact Nat.lt_succ_of_le (qBJ _ _)
  ·have:=zHi z hp;rw [qBA,qAe];split
   ·rw [qAe];lia
   ·lia
theorem zFx (D:List Str) (g:Str->V) (x:Str):(valV (dT1 D g) (.inr x)).isSome=decide (x∈D):=by
 rw [zCb]
 by_cases h:x∈D
 ·rw [qAC h,qAR h];rfl
 ·rw [qAB h,qAW h];rfl
section
def zH2:Sp:=fun vs H Q _=>∃(l d:Addr) (ns:List Str) (la:Str->Addr) (f:Str->List Str) (r:Str->Nat),vs=[.ref l,.ref d]/\Txs H l ns/\ns.Nodup/\ns.length<=20/\H d=some (.dK (dT1 ns fun n=>.ref (la n)))/\(∀n∈ns,Txs H (la n) (f n)/\(f n).length<=4096/\∀x∈f n,x∈ns/\r x<r n) /\
 ∀e D fa S H',Fp H H' e ns D fa S f->(∀n∈ns,n∈D)->Kp [] H H'->Q (.ref e) H'
abbrev zCp:Stmt:=top 31
theorem zBy:FnScope ["names", "told", "far", "left", "free", "name"] ["names", "told"] (zAe zCp):=fnS
def leftN (σ:St) (H:Hp):Nat:=match (σ[3]?:Option (Option V)) with
 | some (some (.ref a))=>match H a with
  | some (.lst xs)=>xs.length
  | _=>0
 | _=>0
theorem ok_all_ahead (F:Fun K "all_ahead" "all_ahead" zCp f fd) (T:Txt K mg) (C_has_all:Cal P w K mg base "has_all" 1 ["done", "names"] spHasAll) (C_joined:Cal P w K mg base "joined" 1 ["near", "far"] spJoined):FnOk P w K mg base CX0 2 f fd ["names", "told"] zH2:=by
 refine F.ok zBy (fun vs H Q E h=>?_) (fun cdv A outer s H vs Q E hr h=>?_)
 ·obtain ⟨l,d,ns,la,f,r,rfl,_⟩:=h;rfl
 ·obtain ⟨l,d,ns,la,f,r,rfl,hl,hN,hn,hd,hf,k⟩:=h;have hu:=zFj hr;have HR_has_all:=hr;have HR_joined:=hr
  refine ⟨_,(zAc (psS (i:=2) zBy.nd zCj)
   (zAc (psS (i:=3) zBy.nd (zAq zAy (by rfl) T.z_list zBi (zAa (pv 0) zAb)))
   (zAc (zIx qAZ (pt_truth (pv 3) (fun _=>rfl))
    (zAc (zD5 (i:=4) rfl (zBe (sc:=zAe zCp) rfl (by decide +kernel)) (Draws.own (x:= "name") (dtk (i:=2) rfl (dtk (i:=1) rfl Draws.nil))) (zAp (pv 3)) (fun _ _ _ _=>(pgB (i:=0))) (fun _ _ _ _=>(zDp (zBp (zAf C_has_all HR_has_all rfl (zAa (pv 1) (zAa (zCq hu (pv 2) (pv 0) (fun _ _=>rfl)) zAb)))))) (fun _ _ _ _=>(pv 0)) zBy.nd rfl rfl)
    (zAc (zA0 (zDw (pt_truth (pv 4) (fun _=>rfl)))
     (zAd zBu)
     zAk)
    (zAc (zAz qAZ rfl (zAp (pv 4)) (pgN (i:=5) zBy.nd)
     (zAd (zDq hu (pv 2) (pv 5) (zAf C_joined HR_joined rfl (zAa (zCq hu (pv 1) (pv 5) (fun _ _=>rfl)) (zAa (pv 2) zAb))) rfl)))
    (zAd (zD5 (i:=3) rfl (zBe (sc:=zAe zCp) rfl (by decide +kernel)) (Draws.own (x:= "name") (dtk (i:=2) rfl Draws.nil)) (zAp (pv 3)) (fun _ _ _ _=>(pgB (i:=0))) (fun _ _ _ _=>(zDp (zGy (zG1 hu (pv 0) (pv 1))))) (fun _ _ _ _=>(pv 0)) zBy.nd rfl rfl))))))
   (zAd (zAm (pv 2)))))),?_⟩
  refine fun e he=>?_;have fe:Fre H e:=he;refine ⟨_,rfl,_,_,rfl,.inl (SqL.of ((Kp.new (M:=[]) Kp.refl fe) l _ hl (by simp))),fun lf hlf=>?_⟩;have k0:Kp [] H (upd H e (.dK [])):=Kp.new Kp.refl fe;have flf:Fre H lf:=k0.fre hlf (by simp);have nel:e≠lf:=ne_fre (show Fre (upd H e (.dK [])) lf from hlf) upd_same;show tWhile (fun σ H Q=>tVar 3 σ H fun x H'=>∃k,TruV K x H' k/\Q k H') _ _ _ _
  refine zId (fun σ H2=>∃(lf:Addr) (D:List Str) (fa:Str->Addr) (S:Str->List Str) (o4 o5:Option V),σ=[some (.ref l),some (.ref d),some (.ref e),some (.ref lf),o4,o5]/\Kp [] H H2/\Fp H H2 e ns D fa S f/\Txs H2 lf (ns.filter fun n=>decide (n∉D))) leftN
   ⟨lf,[],fun _=>0,fun _=>[],none,none,rfl,Kp.new k0 flf,⟨(upd_ne nel).trans upd_same,qBP,(fun n h=>nomatch h),(fun n h=>nomatch h),(fun n h=>nomatch h),(fun n h=>nomatch h),(fun n h=>nomatch h),(fun n h=>nomatch h),(fun n h=>nomatch h),fe,(fun n h=>nomatch h)⟩,by
    have ef:(ns.filter fun n=>decide (n∉([]:List Str)))=ns:=by simp
    show upd _ lf _ lf=some (.lst ((ns.filter fun n=>decide (n∉([]:List Str))).map V.str));rw [ef];exact upd_same⟩ ?_ (fun σ H Q Q' hq hc=>by
    obtain ⟨x,e,b,t,q⟩:=hc;exact ⟨x,e,b,t,hq _ _ q⟩)
  rintro σ H2 ⟨lf,D,fa,S,o4,o5,rfl,k2,FP,hlf⟩;refine ⟨_,rfl,_,.inl ⟨_,SqL.of hlf,rfl⟩,?_⟩;have hLs:∀n,n∈(ns.filter fun n=>decide (n∉D))↔n∈ns/\n∉D:=fun n=>by simp [qA3]
  have hLl:(ns.filter fun n=>decide (n∉D)).length<=20:=qAc (qBJ _ _) hn;generalize hL:(ns.filter fun n=>decide (n∉D))=L at *
  refine ite2 (fun c=>?_) (fun c=>?_)
  ·have cL:L≠[]:=fun z=>by rw [z] at c;simp at c
   refine ⟨_,rfl,_,rfl,⟨_,SqL.of hlf⟩,fun B hB=>zB6 (L.map V.str) (fun i ys τ H3=>(∃o0,τ=[o0,some (.ref e),some (.ref d)])/\ys=((L.take i).filter fun n=>(f n).all fun m=>decide (m∈D)).map V.str/\Kp [] H2 H3/\H3 B=some (.lst ys))
    ⟨⟨_,rfl⟩,rfl,Kp.new Kp.refl hB,upd_same⟩ (fun i ys τ H3 ⟨_,_,k3,_⟩=>SqL.of (k3 lf _ hlf (by simp))) ?_ ?_⟩
   ·rintro i v ys τ H3 hv ⟨⟨o0,rfl⟩,rfl,k3,h3⟩;obtain ⟨n,en,rfl⟩:=zA1 hv;have mn:=(hLs n).mp (qAL en);obtain ⟨n1,n2,n3⟩:=hf n mn.1;have k23:=k2.trans k3;refine ⟨_,rfl,_,rfl,_,rfl,_,.ref (la n),rfl,?_,e,la n,_,f n,rfl,k3 e _ FP.top (by simp),k23 _ _ n1 (by simp),n2,fun H4 k4=>?_⟩
    ·have:=DGet.k (k:=Sum.inr n) (k23 d _ hd (by simp));rw [zCb,qAC mn.1] at this;exact this
    have eall:((f n).all fun m=>(valV (dT1 D fun n=>V.ref (fa n)) (.inr m)).isSome)=(f n).all fun m=>decide (m∈D):=by
     congr 1;funext m;exact zFx D _ m
    rw [eall];have h4:=k4 B _ h3 (by simp);have et:=zAi en;refine ⟨_,rfl,ite2 (fun c=>?_) (fun c=>?_)⟩
    ·refine ⟨_,rfl,h4,?_,⟨_,rfl⟩,?_,Kp.new (k3.trans k4) hB,upd_same⟩
     ·rw [qAD,qAO];have h1:=qBJ (fun n=>(f n).all fun m=>decide (m∈D)) (L.take i);rw [qAX] at h1;lia
     ·rw [et,qB2,qAM];have:[n].filter (fun n=>(f n).all fun m=>decide (m∈D))=[n]:=by rw [qBA,qAC c];rfl
      rw [this];rfl
    ·refine ⟨⟨_,rfl⟩,?_,k3.trans k4,?_⟩
     ·rw [et,qB2];have:[n].filter (fun n=>(f n).all fun m=>decide (m∈D))=[]:=by rw [qBA,qAB c];rfl
      rw [this,qBK]
     ·exact h4
   ·rintro ys τ H3 ⟨_,rfl,k3,h3⟩;have eT:L.take (L.map V.str).length=L:=by rw [qAD,qAf]
    rw [eT] at h3;have hFr:∀n,n∈(L.filter fun n=>(f n).all fun m=>decide (m∈D))↔n∈L/\∀m∈f n,m∈D:=fun n=>by simp [qA3]
    have hFl:(L.filter fun n=>(f n).all fun m=>decide (m∈D)).length<=20:=qAc (qBJ _ _) hLl
    have hFn:(L.filter fun n=>(f n).all fun m=>decide (m∈D)).Nodup:=by
     have:L.Nodup:=by rw [<-hL];exact hN.sublist List.filter_sublist
     exact this.sublist List.filter_sublist
    have hF0:(L.filter fun n=>(f n).all fun m=>decide (m∈D))≠[]:=by
     obtain ⟨n,n1,n2⟩:=zHb r L cL;refine List.ne_nil_of_mem ((hFr n).mpr ⟨n1,fun m hm=>?_⟩);have mn:=(hLs n).mp n1;obtain ⟨q1,q2⟩:=(hf n mn.1).2.2 m hm;apply qBO;intro z;have:=n2 m ((hLs m).mpr ⟨q1,z⟩);lia
    generalize hFE:(L.filter fun n=>(f n).all fun m=>decide (m∈D))=FR at *
    have k23:=k2.trans k3;refine ⟨_,rfl,_,.inl ⟨_,SqL.of h3,rfl⟩,?_⟩
    have e0:(!(FR.map V.str).isEmpty)=true:=by
     cases FR with
     | nil=>exact absurd rfl hF0
     | cons _ _=>rfl
    rw [e0];refine iteF ?_
    refine ⟨_,rfl,_,rfl,⟨_,SqL.of h3⟩,zAu (fun i σ H4=>∃(fa:Str->Addr) (S:Str->List Str) (o5:Option V),σ=[some (.ref l),some (.ref d),some (.ref e),some (.ref lf),some (.ref B),o5]/\Kp [] H H4/\Fp H H4 e ns (D++FR.take i) fa S f/\Txs H4 lf L/\Txs H4 B FR)
     ⟨fa,S,_,rfl,k23,by rw [List.take_zero,qBK];exact FP.kp k3,k3 lf _ hlf (by simp),h3⟩ (fun i σ H4 _ ⟨_,_,_,_,_,_,_,h⟩=>SqL.of h) ?_ ?_⟩
    ·rintro i v σ H4 hv ⟨fa4,S4,o5',rfl,k4,F4,hlf4,hB4⟩;obtain ⟨n,en,rfl⟩:=zA1 hv;have mF:=(hFr n).mp (qAL en);have mn:=(hLs n).mp mF.1;obtain ⟨n1,n2,n3⟩:=hf n mn.1
     have nD:n∉D++FR.take i:=fun z=>by
      rcases qAN.mp z with y| y
      ·exact mn.2 y
      ·exact zFe hFn en y
     have fD:∀x∈f n,x∈D++FR.take i:=fun x hx=>qAq _ (mF.2 x hx);refine ⟨_,rfl,_,rfl,_,.ref (la n),rfl,?_,_,rfl,la n,e,f n,D++FR.take i,ns,fa4,S4,rfl,k4 _ _ n1 (by simp),F4.top,fun m hm=>⟨fD m hm,(n3 m hm).1,F4.row m (fD m hm),F4.sns m (fD m hm)⟩,hn,fun m hm=>qAc (zDy (F4.snd m (fD m hm)) (F4.sns m (fD m hm))) hn,fun b H5 fb hb k5=>?_⟩
     ·have:=DGet.k (k:=Sum.inr n) (k4 d _ hd (by simp));rw [zCb,qAC mn.1] at this;exact this
     have F5:=F4.kp k5;have fbH:Fre H b:=k4.fre fb (by simp);refine ⟨_,rfl,_,rfl,_,_,rfl,DPut.k (k:=Sum.inr n) F5.top ?_,?_⟩
     ·have:=zDy F5.nd F5.sub;rw [qAD,qAO];lia
     ·have FM:=F5.more mn.1 nD fD (fun x hx=>(n3 x hx).1) hb (qAm (ne_fre fb F4.top)) fbH;rw [qBT,<-zAi en] at FM;exact ⟨_,_,_,rfl,Kp.new (k4.trans k5) fe,FM,(upd_ne (zBw hlf4 F4.top (fun z=>nomatch z))).trans (k5 lf _ hlf4 (by simp)),(upd_ne (zBw hB4 F4.top (fun z=>nomatch z))).trans (k5 B _ hB4 (by simp))⟩
    ·rintro σ H4 ⟨fa4,S4,o5',rfl,k4,F4,hlf4,hB4⟩;have eF:FR.take (FR.map V.str).length=FR:=by rw [qAD,qAf]
     rw [eF] at F4
     refine ⟨_,rfl,_,rfl,⟨_,SqL.of hlf4⟩,fun G hG=>zB6 (L.map V.str) (fun i ys τ H5=>(∃o0,τ=[o0,some (.ref e)])/\ys=((L.take i).filter fun n=>decide (n∉D++FR)).map V.str/\H5=upd H4 G (.lst ys))
      ⟨⟨_,rfl⟩,rfl,rfl⟩ (fun i ys τ H5 ⟨_,_,z⟩=>by subst z;exact SqL.of ((upd_ne (ne_fre (show Fre H4 G from hG) hlf4)).trans hlf4)) ?_ ?_⟩
     ·rintro i v ys τ H5 hv ⟨⟨o0,rfl⟩,rfl,rfl⟩;obtain ⟨n,en,rfl⟩:=zA1 hv;refine ⟨_,rfl,_,rfl,_,_,rfl,DGet.k (k:=Sum.inr n) ((upd_ne (ne_fre (show Fre H4 G from hG) F4.top)).trans F4.top),_,rfl,?_⟩;rw [zFx];have et:=zAi en;refine ite2 (fun c=>?_) (fun c=>?_)
      ·have c':n∉D++FR:=fun z=>by rw [qAR z] at c;exact nomatch c
       refine ⟨_,rfl,upd_same,?_,⟨_,rfl⟩,?_,zCc⟩
       ·rw [qAD,qAO];have h1:=qBJ (fun n=>decide (n∉D++FR)) (L.take i);rw [qAX] at h1;lia
       ·rw [et,qB2,qAM];have:[n].filter (fun n=>decide (n∉D++FR))=[n]:=by rw [qBA,qAC (qAR c')];rfl
        rw [this];rfl
      ·have c':n∈D++FR:=by
        apply qBO;intro z;rw [qAW z] at c;exact c rfl
       have e2:(L.take (i+1)).filter (fun n=>decide (n∉D++FR))=(L.take i).filter (fun n=>decide (n∉D++FR)):=by
        rw [et,qB2];have:[n].filter (fun n=>decide (n∉D++FR))=[]:=by rw [qBA,qAB (by rw [qAW (fun z=>z c')];decide)];rfl
        rw [this,qBK]
       refine ⟨⟨_,rfl⟩,?_,?_⟩
       ·rw [e2]
       ·rfl
     ·rintro ys τ H5 ⟨_,rfl,rfl⟩;have eT:L.take (L.map V.str).length=L:=by rw [qAD,qAf]
      rw [eT];have nGe:e≠G:=ne_fre (show Fre H4 G from hG) F4.top
      have eFF:(L.filter fun n=>decide (n∉D++FR))=ns.filter fun n=>decide (n∉D++FR):=by
       rw [<-hL,List.filter_filter];refine List.filter_congr fun n _=>?_
       by_cases z:n∈D
       ·have:n∈D++FR:=qAq _ z;rw [qAW (fun y=>y this)];rfl
       ·rw [qAR z,Bool.and_true]
      refine ⟨⟨G,D++FR,fa4,S4,_,_,rfl,Kp.new k4 (k4.fre (show Fre H4 G from hG) (by simp)),F4.kp (Kp.new Kp.refl hG),?_⟩,?_⟩
      ·rw [<-eFF];exact upd_same
      ·have m1:leftN [some (V.ref l),some (.ref d),some (.ref e),some (.ref lf),o4,o5] H2=L.length:=by
        show (match H2 lf with| some (.lst xs)=>xs.length| _=>0)=_;rw [hlf];simp
       have m2:∀o4 o5,leftN [some (V.ref l),some (.ref d),some (.ref e),some (.ref G),o4,o5] (upd H4 G (.lst ((L.filter fun n=>decide (n∉D++FR)).map V.str)))=(L.filter fun n=>decide (n∉D++FR)).length:=fun o4 o5=>by
        show (match upd H4 G (.lst ((L.filter fun n=>decide (n∉D++FR)).map V.str)) G with| some (.lst xs)=>xs.length| _=>0)=_;rw [upd_same];simp
       rw [m1];refine qCt (qBr (m2 _ _)) ?_;obtain ⟨n,hnF⟩:=List.exists_mem_of_ne_nil FR hF0;have hnL:=((hFr n).mp hnF).1;exact zHi hnL (qAW fun z=>z (qAr _ hnF))
  ·have cL:L=[]:=by
    cases L with
    | nil=>rfl
    | cons _ _=>exact absurd rfl c
   refine ⟨_,rfl,k e D fa S H2 FP (fun n hn'=>?_) k2⟩;apply qBO;intro z;have:=(hLs n).mpr ⟨hn',z⟩;rw [cL] at this;exact nomatch this
end
def jf (r p e:Addr):List (Str×V):=putF "above" (.ref e) (putF "pairs" (.ref p) (putF "row" (.ref r) []))
theorem jf_row (r p e:Addr):(jf r p e).lookup ("row" : Str)=some (.ref r):=by
 unfold jf;rw [zAw,qAB (by decide +kernel),zAw,qAB (by decide +kernel),zAw,qAC rfl]
theorem jf_pairs (r p e:Addr):(jf r p e).lookup ("pairs" : Str)=some (.ref p):=by
 unfold jf;rw [zAw,qAB (by decide +kernel),zAw,qAC rfl]
theorem jf_above (r p e:Addr):(jf r p e).lookup ("above" : Str)=some (.ref e):=by
 unfold jf;rw [zAw,qAC rfl]
theorem jf_no (r p e:Addr) {m:Str} (h1:¬m= "above") (h2:¬m= "pairs") (h3:¬m= "row"):(jf r p e).lookup m=none:=by
 unfold jf;rw [zAw,qAB h1,zAw,qAB h2,zAw,qAB h3];rfl
structure JC (K:PySem.W.Frag) (mg:Str->Option Value) (C:Addr):Prop where
 cl:Cls K C
 n_row:zFn K C "row"
 n_pairs:zFn K C "pairs"
 n_above:zFn K C "above"
 mgC:mg "Jobs" = some (.ref C)
structure JR where
 dx:Addr
 r:Addr
 p:Addr
 e:Addr
 ns:List Str
 zs:List (List Str×Addr)
 D:List Str
 fa:Str->Addr
 S:Str->List Str
structure JobsAt (C:Addr) (H:Hp) (j:Addr) (J:JR):Prop where
 ob:H j=some (.ins C J.dx (jf J.r J.p J.e))
 row:Txs H J.r J.ns
 prs:Ords H J.p J.zs
 abv:H J.e=some (.dK (dT1 J.D fun n=>.ref (J.fa n)))
 all:∀n∈J.ns,n∈J.D
 sets:∀n∈J.D,SetD H (J.fa n) (J.S n)
 few:J.ns.length<=20
 zfew:J.zs.length<=306
 nd:J.ns.Nodup
 zin:∀q∈J.zs,∀x∈q.1,x∈J.ns
 mem:∀n∈J.ns,∀x,x∈J.S n↔x∈told J.zs n\/∃m∈told J.zs n,x∈J.S m
theorem JobsAt.kp {M:List Addr} {C:Addr} {j:Addr} {J:JR} (A:JobsAt C H j J) (k:Kp M H H') (h:∀a o,H a=some o->a∈M->a≠j/\a≠J.r/\a≠J.p/\a≠J.e/\(∀q∈J.zs,a≠q.2)/\∀n∈J.D,a≠J.fa n):JobsAt C H' j J where
 ob:=k _ _ A.ob fun z=>(h _ _ A.ob z).1 rfl
 row:=k _ _ A.row fun z=>(h _ _ A.row z).2.1 rfl
 prs:=⟨k _ _ A.prs.top fun z=>(h _ _ A.prs.top z).2.2.1 rfl,fun q hq=>k _ _ (A.prs.row q hq) fun z=>(h _ _ (A.prs.row q hq) z).2.2.2.2.1 q hq rfl,A.prs.two⟩
 abv:=k _ _ A.abv fun z=>(h _ _ A.abv z).2.2.2.1 rfl
 all:=A.all
 sets:=fun n hn=>k _ _ (A.sets n hn) fun z=>(h _ _ (A.sets n hn) z).2.2.2.2.2 n hn rfl
 few:=A.few
 zfew:=A.zfew
 nd:=A.nd
 zin:=A.zin
 mem:=A.mem
theorem JobsAt.kp0 {C:Addr} {j:Addr} {J:JR} (A:JobsAt C H j J) (k:Kp [] H H'):JobsAt C H' j J:=A.kp k fun _ _ _ z=>nomatch z
section
def zIj (C:Addr):Sp:=fun vs H Q _=>∃(j:Addr) (J:JR),vs=[.ref j]/\JobsAt C H j J/\∀l H',Fre H l->Txs H' l J.ns->Kp [] H H'->Q (.ref l) H'
abbrev zD4:Stmt:=zHg (top 34) 1
theorem zIq:FnScope ["self"] ["self"] (zAe zD4):=fnS
theorem zI6 (F:Fun K "names" "Jobs.names" zD4 f fd) (T:Txt K mg) (U:JC K mg C):FnOk P w K mg base CX0 1 f fd ["self"] (zIj C):=by
 refine F.ok zIq (fun vs H Q E h=>?_) (fun cdv A outer s H vs Q E hr h=>?_)
 ·obtain ⟨j,J,rfl,_⟩:=h;rfl
 ·obtain ⟨j,J,rfl,A0,k⟩:=h;refine ⟨_,(zAd (zAm (zAq zAy (by rfl) T.z_list zBi (zAa (zEr (pv 0) rfl) zAb)))),?_⟩;refine ⟨_,rfl,_,_,_,_,_,rfl,A0.ob,U.cl,U.n_row,jf_row _ _ _,_,_,rfl,.inl (SqL.of A0.row),fun l hl=>?_⟩;exact k l _ hl upd_same (Kp.new Kp.refl hl)
def spOrders (C:Addr):Sp:=fun vs H Q _=>∃(j:Addr) (J:JR),vs=[.ref j]/\JobsAt C H j J/\∀l H',Fre H l->Ords H' l J.zs->Kp [] H H'->Q (.ref l) H'
abbrev zDo:Stmt:=zHg (top 34) 2
theorem zHq:FnScope ["self"] ["self"] (zAe zDo):=fnS
theorem zHu (F:Fun K "orders" "Jobs.orders" zDo f fd) (T:Txt K mg) (U:JC K mg C):FnOk P w K mg base CX0 1 f fd ["self"] (spOrders C):=by
 refine F.ok zHq (fun vs H Q E h=>?_) (fun cdv A outer s H vs Q E hr h=>?_)
 ·obtain ⟨j,J,rfl,_⟩:=h;rfl
 ·obtain ⟨j,J,rfl,A0,k⟩:=h;refine ⟨_,(zAd (zAm (zAq zAy (by rfl) T.z_list zBi (zAa (zEr (pv 0) rfl) zAb)))),?_⟩;refine ⟨_,rfl,_,_,_,_,_,rfl,A0.ob,U.cl,U.n_pairs,jf_pairs _ _ _,_,_,rfl,.inl (SqL.of A0.prs.top),fun l hl=>?_⟩;exact k l _ hl ⟨upd_same,fun q hq=>(Kp.new (M:=[]) Kp.refl hl) _ _ (A0.prs.row q hq) (by simp),A0.prs.two⟩ (Kp.new Kp.refl hl)
theorem abv_get {j:Addr} {J:JR} (A:JobsAt C H j J) (hy:y∈J.ns):DGet H J.e (.str y) (some (.ref (J.fa y))):=by
 have:=DGet.k (k:=Sum.inr y) A.abv;rw [zCb,qAC (A.all y hy)] at this;exact this
theorem zIo {e:Addr} {B:List Str} (h:SetD H e B) (x:Str):∃o,DGet H e (.str x) o/\o.isSome=decide (x∈B):=⟨_,DGet.k (k:=Sum.inr x) h,zFx B _ x⟩
end
section
theorem pe_fldK {X:Cx} {K:PySem.W.Frag} {e:Expr} {f:Str} {pos:Pos} {ta:TE} (he:PE X e ta) (hb:attributeBase e f X.env (eval e X.env)=eval e X.env) (hK:X.K=K:=by rfl):PE X (.Attribute e f pos) (tFld K ta f):=by
 subst hK;exact zEr he hb
theorem zDt {p:α->Bool} {xs:List α} {x:α} (e:xs[i]?=some x) (h:p x=true):(xs.take (i+1)).filter p=(xs.take i).filter p++[x]:=by
 rw [zAi e,qB2,qBA,qAC h];rfl
theorem zEb {p:α->Bool} {xs:List α} {x:α} (e:xs[i]?=some x) (h:¬p x=true):(xs.take (i+1)).filter p=(xs.take i).filter p:=by
 rw [zAi e,qB2,qBA,qAB h];simp
theorem zEl {p:α->Bool} {xs:List α} (h:xs.length<=4096):(((xs.take i).filter p)).length<sizeLine:=by
 have h1:=qBJ p (xs.take i);rw [qAX] at h1;rw [qAO];lia
def spAhead (C:Addr):Sp:=fun vs H Q _=>∃(j:Addr) (J:JR) (x:Str),vs=[.ref j,.str x]/\JobsAt C H j J/\x∈J.ns/\∀l H',Fre H l->Txs H' l (J.ns.filter fun n=>decide (n∈J.S x))->Kp [] H H'->Q (.ref l) H'
abbrev zCz:Stmt:=zHg (top 34) 5
theorem zIr:FnScope ["self", "name"] ["self", "name"] (zAe zCz):=fnS
theorem zI7 (F:Fun K "ahead" "Jobs.ahead" zCz f fd) (T:Txt K mg) (U:JC K mg C) (C_check_job:Cal P w K mg base "check_job" 2 ["names", "thing"] zFp):FnOk P w K mg base CX0 3 f fd ["self", "name"] (spAhead C):=by
 refine F.ok zIr (fun vs H Q E h=>?_) (fun cdv A outer s H vs Q E hr h=>?_)
 ·obtain ⟨j,J,x,rfl,_⟩:=h;rfl
 ·obtain ⟨j,J,x,rfl,A0,hx,k⟩:=h;have HR_check_job:=hr;have hu:=zFj hr
  refine ⟨_,(zAc (zA2 (zAf C_check_job HR_check_job rfl (zAa (zEr (pv 0) rfl) (zAa (pv 1) zAb))))
   (zAd (zAm (zBl rfl (zBe (sc:=zAe zCz) rfl (by decide +kernel)) (Draws.own (x:= "other") (dtk (i:=1) rfl (dtk (i:=0) rfl Draws.nil))) (zAp (zEr (pv 0) rfl)) (fun _ _ _ _=>(pgB (i:=0))) (fun _ _ _ _=>(zDp (zGy (zG2 hu (pv 0) (zCq hu (pe_fldK (K:=K) (pv 2) rfl) (pv 1) (fun _ _=>rfl)))))) (fun _ _ _ _=>(pv 0)))))),?_⟩
  refine ⟨_,rfl,_,_,_,_,_,rfl,A0.ob,U.cl,U.n_row,jf_row _ _ _,_,rfl,x,_,_,rfl,A0.row,hx,?_⟩
  refine ⟨_,rfl,_,_,_,_,_,rfl,A0.ob,U.cl,U.n_row,jf_row _ _ _,_,rfl,⟨_,SqL.of A0.row⟩,fun B hB=>zB6 (J.ns.map V.str) (fun i ys τ H3=>(∃o0,τ=[o0,some (.str x),some (.ref j)])/\ys=((J.ns.take i).filter fun n=>decide (n∈J.S x)).map V.str/\H3=upd H B (.lst ys))
   ⟨⟨_,rfl⟩,rfl,rfl⟩ (fun i ys τ H3 ⟨_,_,z⟩=>by subst z;exact SqL.of ((Kp.new (M:=[]) Kp.refl hB) _ _ A0.row (by simp))) ?_ ?_⟩
  ·rintro i v ys τ H3 hv ⟨⟨o0,rfl⟩,rfl,rfl⟩;obtain ⟨n,en,rfl⟩:=zA1 hv;have A3:=A0.kp0 (Kp.new (l:=B) (o:=.lst (((J.ns.take i).filter fun n=>decide (n∈J.S x)).map V.str)) Kp.refl hB);obtain ⟨o,g1,g2⟩:=zIo (A3.sets x (A3.all x hx)) n;refine ⟨_,rfl,_,rfl,_,_,_,_,_,rfl,A3.ob,U.cl,U.n_above,jf_above _ _ _,_,rfl,_,_,rfl,abv_get A3 hx,_,o,rfl,g1,_,rfl,?_⟩;rw [g2];refine ite2 (fun c=>?_) (fun c=>?_)
   ·refine ⟨_,rfl,upd_same,?_,⟨_,rfl⟩,?_,zCc⟩
    ·rw [qAD];exact zEl (by have:=A0.few;lia)
    ·rw [zDt en c,qAM];rfl
   ·refine ⟨⟨_,rfl⟩,?_,?_⟩
    ·rw [zEb en c]
    ·rfl
  ·rintro ys τ H3 ⟨_,rfl,rfl⟩;have eT:J.ns.take (J.ns.map V.str).length=J.ns:=by rw [qAD,qAf]
   rw [eT];exact k B _ hB upd_same (Kp.new Kp.refl hB)
end
end My
namespace TimP
open PySem PyProof.Rows Tim
variable {i n lo nrem:Nat}{x:Keyed}{st:SortSt}{α:Type}
theorem perm_ct {l m:List Keyed} (h:∀p:Keyed->Bool,l.countP p=m.countP p):l.Perm m:=by
 letI:DecidableEq Keyed:=fun a b=>Classical.propDecidable (a=b)
 exact List.perm_iff_count.mpr fun x=>h (·==x)
theorem cd {a:Array Keyed} {j:Nat} (h:i<=j) (p:Keyed->Bool):(a.extract i j).toList.countP p+(a.toList.drop j).countP p=(a.toList.drop i).countP p:=by
 have e:a.toList.drop j=(a.toList.drop i).drop (j - i):=by rw [List.drop_drop];congr 1;lia
 rw [qBu,List.extract_eq_drop_take,e,<-qB3,qCI]
theorem ck {a:Array Keyed} {j:Nat} (h:i<=j) (p:Keyed->Bool):(a.extract i j).toList.countP p+(a.toList.take i).countP p=(a.toList.take j).countP p:=by
 have h1:=cd (a:=a) h p;have h2:=qAa (List.countP p) (qCI i a.toList);have h3:=qAa (List.countP p) (qCI j a.toList);rw [qB3] at h2 h3;lia
theorem zI1 {a:Array Keyed} (e:a[i]?=some x):(a.extract i (i+1)).toList=[x]:=by
 have hi:=(qBm.mp e).1;have hx:=(qBm.mp e).2;rw [qBu,List.extract_eq_drop_take,Nat.add_sub_cancel_left,List.drop_eq_getElem_cons (by simpa using hi)];simp [hx]
theorem all0 (a:Array Keyed) (p:Keyed->Bool):(a.toList.drop a.size).countP p=0:=by rw [qB1 (by simp)];rfl
theorem zDx (a b:Array Keyed) (p:Keyed->Bool):(a++b).toList.countP p=a.toList.countP p+b.toList.countP p:=by rw [qCF,qB3]
theorem zJh (a:Array Keyed) (x:Keyed) (p:Keyed->Bool):(a.push x).toList.countP p=a.toList.countP p+[x].countP p:=by rw [qCc,qB3]
theorem ct_rev (a:Array Keyed) (p:Keyed->Bool):a.reverse.toList.countP p=a.toList.countP p:=by rw [Array.toList_reverse,List.countP_reverse]
section
variable {a b out:Array Keyed} {ia ib:Nat}
structure MI (a b out:Array Keyed) (ia ib:Nat):Prop where
 la:ia<=a.size
 lb:ib<=b.size
 ct:∀p,out.toList.countP p+(a.toList.drop ia).countP p+(b.toList.drop ib).countP p=a.toList.countP p+b.toList.countP p
def Fn (a b r:Array Keyed):Prop:=∀p,r.toList.countP p=a.toList.countP p+b.toList.countP p
theorem MI.tAs (M:MI a b out ia ib) (k:Nat) (h:ia+k<=a.size):MI a b (out++a.extract ia (ia+k)) (ia+k) ib:=⟨h,M.lb,fun p=>by
 have h1:=M.ct p;have h2:=cd (a:=a) (show ia<=ia+k by lia) p;rw [zDx];lia⟩
theorem MI.tBs (M:MI a b out ia ib) (k:Nat) (h:ib+k<=b.size):MI a b (out++b.extract ib (ib+k)) ia (ib+k):=⟨M.la,h,fun p=>by
 have h1:=M.ct p;have h2:=cd (a:=b) (show ib<=ib+k by lia) p;rw [zDx];lia⟩
theorem MI.tA (M:MI a b out ia ib) (e:a[ia]?=some x):MI a b (out.push x) (ia+1) ib:=⟨(qBm.mp e).1,M.lb,fun p=>by
 have h1:=M.ct p;have h2:=cd (a:=a) (show ia<=ia+1 by lia) p;rw [zI1 e] at h2;rw [zJh];lia⟩
theorem MI.tB (M:MI a b out ia ib) (e:b[ib]?=some x):MI a b (out.push x) ia (ib+1):=⟨M.la,(qBm.mp e).1,fun p=>by
 have h1:=M.ct p;have h2:=cd (a:=b) (show ib<=ib+1 by lia) p;rw [zI1 e] at h2;rw [zJh];lia⟩
theorem MI.f1 (M:MI a b out ia ib):Fn a b (out++a.extract ia a.size++b.extract ib b.size):=fun p=>by
 have h1:=M.ct p;have h2:=cd (a:=a) M.la p;have h3:=cd (a:=b) M.lb p;rw [all0] at h2 h3;rw [zDx,zDx];lia
theorem MI.f2 (M:MI a b out ia ib):Fn a b (out++b.extract ib b.size++a.extract ia a.size):=fun p=>by
 have h1:=M.f1 p;rw [zDx,zDx] at h1 ⊢;lia
structure MH (a b out:Array Keyed) (ia ib:Nat):Prop where
 la:ia<=a.size
 lb:ib<=b.size
 ct:∀p,out.toList.countP p+(a.toList.take ia).countP p+(b.toList.take ib).countP p=a.toList.countP p+b.toList.countP p
theorem MH.tAs (M:MH a b out ia ib) (k:Nat) (h:k<=ia):MH a b (out++(a.extract k ia).reverse) k ib:=⟨by have:=M.la;lia,M.lb,fun p=>by
 have h1:=M.ct p;have h2:=ck (a:=a) h p;rw [zDx,ct_rev];lia⟩
theorem MH.tBs (M:MH a b out ia ib) (k:Nat) (h:k<=ib):MH a b (out++(b.extract k ib).reverse) ia k:=⟨M.la,by have:=M.lb;lia,fun p=>by
 have h1:=M.ct p;have h2:=ck (a:=b) h p;rw [zDx,ct_rev];lia⟩
theorem MH.tA (M:MH a b out (ia+1) ib) (e:a[ia]?=some x):MH a b (out.push x) ia ib:=⟨by have:=M.la;lia,M.lb,fun p=>by
 have h1:=M.ct p;have h2:=ck (a:=a) (show ia<=ia+1 by lia) p;rw [zI1 e] at h2;rw [zJh];lia⟩
theorem MH.tB (M:MH a b out ia (ib+1)) (e:b[ib]?=some x):MH a b (out.push x) ia ib:=⟨M.la,by have:=M.lb;lia,fun p=>by
 have h1:=M.ct p;have h2:=ck (a:=b) (show ib<=ib+1 by lia) p;rw [zI1 e] at h2;rw [zJh];lia⟩
theorem MH.f1 (M:MH a b out ia ib):Fn a b (a.extract 0 ia++b.extract 0 ib++out.reverse):=fun p=>by
 have h1:=M.ct p;have h2:=ck (a:=a) (qAg ia) p;have h3:=ck (a:=b) (qAg ib) p;rw [List.take_zero,List.countP_nil] at h2 h3;rw [zDx,zDx,ct_rev];lia
theorem MH.f2 (M:MH a b out ia ib):Fn a b (b.extract 0 ib++a.extract 0 ia++out.reverse):=fun p=>by
 have h1:=M.f1 p;rw [zDx,zDx] at h1 ⊢;lia
end
structure Like (st st':SortSt):Prop where
 kd:kindOf st'=kindOf st
 ar:arrOf st'=arrOf st
 pn:pendingOf st'=pendingOf st
 fl:failedOf st'=failedOf st
theorem Like.refl (st:SortSt):Like st st:=⟨rfl,rfl,rfl,rfl⟩
theorem Like.trans {a b c:SortSt} (h:Like a b) (k:Like b c):Like a c:=⟨k.kd.trans h.kd,k.ar.trans h.ar,k.pn.trans h.pn,k.fl.trans h.fl⟩
section
variable {prog:Program} {w:World} {A:Around} {E:Value->Shared->Prop} {s:Shared} {kd:SortKind} {κ:KeyKind} {a b:Array Keyed}
theorem zB3 {a:Array Keyed} (ha:∀x∈a.toList,Has κ x) (hi:i<a.size):∃p,a[i]?=some p/\Has κ p :=
 ⟨a[i],by simp,ha _ (by simp)⟩
theorem w_gal {left:Bool} {key:Keyed} {arr:Array Keyed} {base hint:Nat} {Q:Option Nat->SortSt->Prop} (C:CmpOk prog w A s kd κ) (hk:kindOf st=kd) (hkey:Has κ key)
  (hin:∀i,i<n->∃q,arr[base+i]?=some q/\Has κ q) (hh:hint<n) (h:∀k,k<=n->Q (some k) st):wpS (model prog w) A E s (gal left key arr base n hint) Q st:=by
 have ask:∀(i:Nat) {R:Option Bool->SortSt->Prop},i<n->(∀c,R (some c) st)->wpS (model prog w) A E s (byd left key arr base i) R st:=fun i R hi hR=>w_byd C hk hkey (hin i hi) (hR _)
 have bin:∀(l r:Nat),l<=r->r<=n->∀(F:Nat->Option (Option Nat)×Nat×Nat->StateT SortSt Sem (ForInStep (Option (Option Nat)×Nat×Nat))),
   (∀x l r,F x (none,l,r)=(if l>=r then pure (ForInStep.done (none,l,r)) else do
    let c<-byd left key arr base (l+(r - l) / 2)
    match c with
    | some more=>if more=true then pure (ForInStep.yield (none,l+(r - l) / 2+1,r)) else pure (ForInStep.yield (none,l,l+(r - l) / 2))
    | _=>pure (ForInStep.done (some none,l,r))))->∀G:Option (Option Nat)×Nat×Nat->StateT SortSt Sem (Option Nat),(∀l r,G (none,l,r)=pure (some r)) ->
   wpS (model prog w) A E s (forIn [:n] ((none,l,r):Option (Option Nat)×Nat×Nat) F >>= G) Q st:=by
  intro l r hlr hrn F hF G hG
  refine qAG (qAz (qAu (I:=fun x c st'=>st'=st/\∃l r,c=(none,l,r)/\l<=r/\r<=n/\r - l<=n - x)
   (Q:=fun c st'=>st'=st/\∃l r,c=(none,l,r)/\r<=n) ?step ?fin ⟨rfl,l,r,rfl,hlr,hrn,by lia⟩) ?post)
  case fin =>
   rintro c st' ⟨rfl,l,r,rfl,h1,h2,h3⟩;exact ⟨rfl,l,r,rfl,h2⟩
  case post =>
   rintro c st' ⟨rfl,l,r,rfl,h1⟩;rw [hG];exact qAH (h r h1)
  case step =>
   rintro x c st' _ hx ⟨rfl,l,r,rfl,h1,h2,h3⟩;rw [hF x l r]
   by_cases hge:l>=r
   ·rw [qAC hge];exact qAH ⟨rfl,l,r,rfl,h2⟩
   ·rw [qAB hge];refine qAG (ask _ (by lia) fun c=>?_);show wpS _ _ _ _ (if c=true then _ else _) _ _;split
    ·exact qAH ⟨rfl,_,_,rfl,by lia,h2,by lia⟩
    ·exact qAH ⟨rfl,_,_,rfl,by lia,by lia,by lia⟩
 refine qAG (ask hint hh fun c0=>?_);show wpS _ _ _ _ (if c0=true then _ else _) _ _;split
 ·refine qAG (qAz (qAu (I:=fun x c st'=>st'=st/\∃l o,c=(none,l,o)/\l<o/\hint+l<n)
   (Q:=fun c st'=>st'=st/\∃l o,c=(none,l,o)/\l<o/\hint+l<n) ?step (fun c st' h=>h) ⟨rfl,0,1,rfl,by lia,by lia⟩) ?post)
  case step =>
   rintro x c st' _ hx ⟨rfl,l,o,rfl,h1,h2⟩;dsimp only
   by_cases ho:o>=n - hint
   ·rw [qAC ho];exact qAH ⟨rfl,l,o,rfl,h1,h2⟩
   ·rw [qAB ho];refine qAG (ask (hint+o) (by lia) fun c=>?_);show wpS _ _ _ _ (if (!c)=true then _ else _) _ _;split
    ·exact qAH ⟨rfl,l,o,rfl,h1,h2⟩
    ·exact qAH ⟨rfl,o,2*o+1,rfl,by lia,by lia⟩
  case post =>
   rintro c st' ⟨rfl,l,o,rfl,h1,h2⟩;exact bin (hint+l+1) (hint+min o (n - hint)) (by lia) (by lia) _ (fun x l r=>rfl) _ (fun l r=>rfl)
 ·refine qAG (qAz (qAu (I:=fun x c st'=>st'=st/\∃l o,c=(none,l,o)/\l<o/\l<=hint)
   (Q:=fun c st'=>st'=st/\∃l o,c=(none,l,o)/\l<o/\l<=hint) ?step (fun c st' h=>h) ⟨rfl,0,1,rfl,by lia,by lia⟩) ?post)
  case step =>
   rintro x c st' _ hx ⟨rfl,l,o,rfl,h1,h2⟩;dsimp only
   by_cases ho:o>=hint+1
   ·rw [qAC ho];exact qAH ⟨rfl,l,o,rfl,h1,h2⟩
   ·rw [qAB ho];refine qAG (ask (hint - o) (by lia) fun c=>?_);show wpS _ _ _ _ (if c=true then _ else _) _ _;split
    ·exact qAH ⟨rfl,l,o,rfl,h1,h2⟩
    ·exact qAH ⟨rfl,o,2*o+1,rfl,by lia,by lia⟩
  case post =>
   rintro c st' ⟨rfl,l,o,rfl,h1,h2⟩;exact bin (hint+1 - min o (hint+1)) (hint - l) (by lia) (by lia) _ (fun x l r=>rfl) _ (fun l r=>rfl)
abbrev Cell:=Option (Array Keyed)×Array Keyed×Nat×Nat×Nat×Nat×Nat
def tA (a b o:Array Keyed) (i j g p q:Nat):StateT SortSt Sem (ForInStep Cell):=do
 let x<-elem' a i
 if (i+1+1==a.size)=true then pure (.done (some (o.push x++b.extract j b.size++a.extract (i+1) a.size),o.push x,i+1,j,g,p,q))
 else if (decide (p<7)&&decide (q<7))=true then pure (.done (none,o.push x,i+1,j,g,p,q))
 else pure (.yield (none,o.push x,i+1,j,g,p,q))
def tB (a b o:Array Keyed) (i j g p q:Nat):StateT SortSt Sem (ForInStep Cell):=do
 let y<-elem' b j
 if (j+1==b.size)=true then pure (.done (some (o.push y++a.extract i a.size++b.extract (j+1) b.size),o.push y,i,j+1,g,p,q))
 else do
  let x<-elem' a i
  let r<-gal true x b (j+1) (b.size - (j+1)) 0
  match r with
  | some k =>
   if k>0 then
    if (j+1+k==b.size)=true then pure (.done (some (o.push y++b.extract (j+1) (j+1+k)++a.extract i a.size++b.extract (j+1+k) b.size),o.push y++b.extract (j+1) (j+1+k),i,j+1+k,g,p,k))
    else tA a b (o.push y++b.extract (j+1) (j+1+k)) i (j+1+k) g p k
   else tA a b (o.push y) i (j+1) g p k
  | _=>pure (.done (some (o.push y++a.extract i a.size++b.extract (j+1) b.size),o.push y,i,j+1,g,p,q))
def tT (a b o:Array Keyed) (i j g p q:Nat):StateT SortSt Sem (ForInStep Cell):=do
 let y<-elem' b j
 let r<-gal false y a i (a.size - i) 0
 match r with
 | some k =>
  if k>0 then
   if (i+k+1==a.size)=true then pure (.done (some (o++a.extract i (i+k)++b.extract j b.size++a.extract (i+k) a.size),o++a.extract i (i+k),i+k,j,g,k,q))
   else if (i+k==a.size)=true then pure (.done (some (o++a.extract i (i+k)++a.extract (i+k) a.size++b.extract j b.size),o++a.extract i (i+k),i+k,j,g,k,q))
   else tB a b (o++a.extract i (i+k)) (i+k) j g k q
  else tB a b o i j g k q
 | _=>pure (.done (some (o++a.extract i a.size++b.extract j b.size),o,i,j,g,p,q))
theorem zAs {m:Nat} (h:¬(m==n)=true):m≠n:=by simpa using h
def TO (a b:Array Keyed) (m:Nat) (st3:SortSt) (R:ForInStep Cell->SortSt->Prop):Prop :=
 (∀r o i j g p q,Fn a b r->R (.done (some r,o,i,j,g,p,q)) st3)/\(∀o i j g p q,MI a b o i j->i+1<a.size->j<b.size->m<=i+j->R (.done (none,o,i,j,g,p,q)) st3/\R (.yield (none,o,i,j,g,p,q)) st3)
section
variable {st3:SortSt} {o:Array Keyed} {i j g p q m:Nat} {R:ForInStep Cell->SortSt->Prop}
theorem w_tA (ha:∀x∈a.toList,Has κ x) (M:MI a b o i j) (hi:i+1<a.size) (hj:j<b.size) (hm:m<=i+j) (hR:TO a b m st3 R):wpS (model prog w) A E s (tA a b o i j g p q) R st3:=by
 obtain ⟨x,ex,_⟩:=zB3 ha (show i<a.size by lia);have M2:=M.tA ex;refine qAG (zBj ex ?_)
 by_cases d1:(i+1+1==a.size)=true
 ·rw [qAC d1];exact qAH (hR.1 _ _ _ _ _ _ _ M2.f2)
 ·have:=zAs d1;rw [qAB d1];have q:=hR.2 _ _ _ g p q M2 (by lia) hj (by lia);split
  ·exact qAH q.1
  ·exact qAH q.2
theorem w_tB (C:CmpOk prog w A s kd κ) (hk:kindOf st3=kd) (ha:∀x∈a.toList,Has κ x) (hb:∀x∈b.toList,Has κ x) (M:MI a b o i j) (hi:i+1<a.size) (hj:j<b.size) (hm:m<=i+j) (hR:TO a b m st3 R) :
  wpS (model prog w) A E s (tB a b o i j g p q) R st3:=by
 obtain ⟨y,ey,hyy⟩:=zB3 hb hj;obtain ⟨x,ex,hxx⟩:=zB3 ha (show i<a.size by lia);have M2:=M.tB ey;refine qAG (zBj ey ?_)
 by_cases d1:(j+1==b.size)=true
 ·rw [qAC d1];exact qAH (hR.1 _ _ _ _ _ _ _ M2.f1)
 ·have:=zAs d1;rw [qAB d1];refine qAG (zBj ex (qAG (w_gal C hk hxx (fun i hi=>zB3 hb (by lia)) (by lia) fun k k1=>?_)));have M3:=M2.tBs k (by lia);show wpS _ _ _ _ (if k>0 then _ else _) _ _
  by_cases hk0:k>0
  ·rw [qAC hk0]
   by_cases d2:(j+1+k==b.size)=true
   ·rw [qAC d2];exact qAH (hR.1 _ _ _ _ _ _ _ M3.f1)
   ·have:=zAs d2;rw [qAB d2];exact w_tA ha M3 hi (by lia) (by lia) hR
  ·rw [qAB hk0];exact w_tA ha M2 hi (by lia) (by lia) hR
theorem w_tT (C:CmpOk prog w A s kd κ) (hk:kindOf st3=kd) (ha:∀x∈a.toList,Has κ x) (hb:∀x∈b.toList,Has κ x) (M:MI a b o i j) (hi:i+1<a.size) (hj:j<b.size) (hm:m<=i+j) (hR:TO a b m st3 R):wpS (model prog w) A E s (tT a b o i j g p q) R st3:=by
 obtain ⟨y,ey,hyy⟩:=zB3 hb hj;refine qAG (zBj ey (qAG (w_gal C hk hyy (fun i hi=>zB3 ha (by lia)) (by lia) fun k k1=>?_)));have M3:=M.tAs k (by lia);show wpS _ _ _ _ (if k>0 then _ else _) _ _
 by_cases hk0:k>0
 ·rw [qAC hk0]
  by_cases d1:(i+k+1==a.size)=true
  ·rw [qAC d1];exact qAH (hR.1 _ _ _ _ _ _ _ M3.f2)
  ·rw [qAB d1]
   by_cases d2:(i+k==a.size)=true
   ·rw [qAC d2];exact qAH (hR.1 _ _ _ _ _ _ _ M3.f1)
   ·have:=zAs d1;have:=zAs d2;rw [qAB d2];exact w_tB C hk ha hb M3 (by lia) hj (by lia) hR
 ·rw [qAB hk0];exact w_tB C hk ha hb M hi hj hm hR
end
theorem w_mLo {Q:Array Keyed->SortSt->Prop} (C:CmpOk prog w A s kd κ) (hk:kindOf st=kd) (ha:∀x∈a.toList,Has κ x) (hb:∀x∈b.toList,Has κ x) (na:1<=a.size) (nb:1<=b.size)
  (h:∀r st',Like st st'->Fn a b r->Q r st'):wpS (model prog w) A E s (mLo a b) Q st:=by
 refine qAG (qBl (qA9 ⟨rfl,?_⟩));obtain ⟨y0,ey,hy⟩:=zB3 hb (show 0<b.size by lia);refine qAG (zBj ey ?_);have M0:MI a b #[] 0 0:=⟨by lia,by lia,fun p=>by simp⟩;have M1:MI a b #[y0] 0 1:=M0.tB ey;show wpS _ _ _ _ (if (1==b.size)=true then _ else _) _ _
 by_cases c1:(1==b.size)=true
 ·rw [qAC c1];exact qAH (h _ _ (Like.refl _) M1.f1)
 rw [qAB c1];show wpS _ _ _ _ (if (0+1==a.size)=true then _ else _) _ _
 by_cases c2:(0+1==a.size)=true
 ·rw [qAC c2];exact qAH (h _ _ (Like.refl _) M1.f2)
 rw [qAB c2];have:=zAs c1;have:=zAs c2;refine qAG (qBI ?_)
 refine qAG (qAz (qAu (I:=fun x c st'=>Like st st'/\∃out ia ib g,c=(none,out,ia,ib,g)/\MI a b out ia ib/\ia+1<a.size/\ib<b.size/\x+1<=ia+ib)
  (Q:=fun c st'=>Like st st'/\∃r out ia ib g,c=(some r,out,ia,ib,g)/\Fn a b r) ?step ?fin ⟨Like.refl _,_,_,_,_,rfl,M1,by lia,by lia,by lia⟩) ?post)
 case fin =>
  rintro c st' ⟨_,out,ia,ib,g,rfl,M,h1,h2,h3⟩;lia
 case post =>
  rintro c st' ⟨L,r,out,ia,ib,g,rfl,F⟩;exact qAH (h r st' L F)
 case step =>
  rintro x c st1 _ hx1 ⟨L1,out0,ia0,ib0,g0,rfl,M,u1,u2,u3⟩;have hk1:kindOf st1=kd:=L1.kd.trans hk;dsimp only
  refine qAG (qAz (qAu (I:=fun x c st'=>st'=st1/\∃out ia ib p q,c=(none,out,ia,ib,p,q)/\MI a b out ia ib/\ia+1<a.size/\ib<b.size/\ia0+ib0+x<=ia+ib)
   (Q:=fun c st'=>st'=st1/\((∃r out ia ib p q,c=(some r,out,ia,ib,p,q)/\Fn a b r)\/∃out ia ib p q,c=(none,out,ia,ib,p,q)/\MI a b out ia ib/\ia+1<a.size/\ib<b.size/\ia0+ib0+1<=ia+ib)) ?step1 ?fin1
   ⟨rfl,_,_,_,_,_,rfl,M,u1,u2,by lia⟩) ?post1)
  case fin1 =>
   rintro c st' ⟨rfl,out,ia,ib,p,q,rfl,M',v1,v2,v3⟩;exact ⟨rfl,.inr ⟨out,ia,ib,p,q,rfl,M',v1,v2,by lia⟩⟩
  case step1 =>
   rintro x2 c st' _ hx2 ⟨rfl,out,ia,ib,p,q,rfl,M',v1,v2,v3⟩;obtain ⟨yb,eb,hyb⟩:=zB3 hb v2;obtain ⟨xa,ea,hxa⟩:=zB3 ha (show ia<a.size by lia);dsimp only;refine qAG (zBj eb (qAG (zBj ea (qAG (w_lt C hk1 hyb hxa ?_)))));generalize κ.blt (kk κ yb) (kk κ xa)=c;show wpS _ _ _ _ (if c=true then _ else _) _ _
   by_cases e:c=true
   ·rw [qAC e];refine qAG (zBj eb ?_);have M2:=M'.tB eb
    by_cases d1:(ib+1==b.size)=true
    ·rw [qAC d1];exact qAH ⟨rfl,.inl ⟨_,_,_,_,_,_,rfl,M2.f1⟩⟩
    ·have:=zAs d1;rw [qAB d1]
     by_cases d2:q+1>=g0
     ·rw [qAC d2];exact qAH ⟨rfl,.inr ⟨_,_,_,_,_,rfl,M2,v1,by lia,by lia⟩⟩
     ·rw [qAB d2];exact qAH ⟨rfl,_,_,_,_,_,rfl,M2,v1,by lia,by lia⟩
   ·rw [qAB e];refine qAG (zBj ea ?_);have M2:=M'.tA ea
    by_cases d1:(ia+1+1==a.size)=true
    ·rw [qAC d1];exact qAH ⟨rfl,.inl ⟨_,_,_,_,_,_,rfl,M2.f2⟩⟩
    ·have:=zAs d1;rw [qAB d1]
     by_cases d2:p+1>=g0
     ·rw [qAC d2];exact qAH ⟨rfl,.inr ⟨_,_,_,_,_,rfl,M2,by lia,v2,by lia⟩⟩
     ·rw [qAB d2];exact qAH ⟨rfl,_,_,_,_,_,rfl,M2,by lia,v2,by lia⟩
  case post1 =>
   rintro c st' ⟨rfl,⟨r,out,ia,ib,p,q,rfl,F⟩| ⟨out,ia,ib,p,q,rfl,M',v1,v2,v3⟩⟩
   ·exact qAH ⟨L1,_,_,_,_,_,rfl,F⟩
   ·dsimp only;refine qAG (qBl (qA9 ⟨rfl,?_⟩))
    refine qAG (qAz (qAu (I:=fun x c st'=>Like st st'/\∃out ia ib g p q,c=(none,out,ia,ib,g,p,q)/\MI a b out ia ib/\ia+1<a.size/\ib<b.size/\ia0+ib0+1<=ia+ib)
     (Q:=fun c st'=>Like st st'/\((∃r out ia ib g p q,c=(some r,out,ia,ib,g,p,q)/\Fn a b r)\/∃out ia ib g p q,c=(none,out,ia,ib,g,p,q)/\MI a b out ia ib/\ia+1<a.size/\ib<b.size/\ia0+ib0+1<=ia+ib)) ?step2 ?fin2
     ⟨L1,_,_,_,_,_,_,rfl,M',v1,v2,v3⟩) ?post2)
    case fin2 =>
     rintro c st' ⟨L,out,ia,ib,g,p,q,rfl,M',v⟩;exact ⟨L,.inr ⟨_,_,_,_,_,_,rfl,M',v⟩⟩
    case post2 =>
     rintro c st' ⟨L,⟨r,out,ia,ib,g,p,q,rfl,F⟩| ⟨out,ia,ib,g,p,q,rfl,M',v1,v2,v3⟩⟩
     ·exact qAH ⟨L,_,_,_,_,_,rfl,F⟩
     ·dsimp only;refine qAG (qA2 (qAH ⟨L.trans ⟨rfl,rfl,rfl,rfl⟩,_,_,_,_,rfl,M',v1,v2,by lia⟩))
    case step2 =>
     rintro x3 c st2 _ hx3 ⟨L2,out,ia,ib,g,p,q,rfl,M2,w1,w2,w3⟩;dsimp only
     have run:∀(g':Nat) (R:ForInStep Cell->SortSt->Prop),(∀L3:Like st (SortSt.mk' (kindOf st2) (arrOf st2) (pendingOf st2) g' (failedOf st2)),TO a b (ia0+ib0+1) (SortSt.mk' (kindOf st2) (arrOf st2) (pendingOf st2) g' (failedOf st2)) R)->wpS (model prog w) A E s (tT a b out ia ib g' p q) R (SortSt.mk' (kindOf st2) (arrOf st2) (pendingOf st2) g' (failedOf st2)):=fun g' R hR=>by
      have L3:Like st (SortSt.mk' (kindOf st2) (arrOf st2) (pendingOf st2) g' (failedOf st2)):=L2.trans ⟨rfl,rfl,rfl,rfl⟩;exact w_tT C (L3.kd.trans hk) ha hb M2 w1 w2 w3 (hR L3)
     by_cases d0:g>1
     ·rw [qAC d0];exact qAG (qA2 (run (g - 1) _ fun L3=>⟨fun r o i j g p q F=>⟨L3,.inl ⟨_,_,_,_,_,_,_,rfl,F⟩⟩,fun o i j g p q M' h1 h2 h3=>⟨⟨L3,.inr ⟨_,_,_,_,_,_,rfl,M',h1,h2,h3⟩⟩,⟨L3,_,_,_,_,_,_,rfl,M',h1,h2,h3⟩⟩⟩))
     ·rw [qAB d0];exact qAG (qA2 (run g _ fun L3=>⟨fun r o i j g p q F=>⟨L3,.inl ⟨_,_,_,_,_,_,_,rfl,F⟩⟩,fun o i j g p q M' h1 h2 h3=>⟨⟨L3,.inr ⟨_,_,_,_,_,_,rfl,M',h1,h2,h3⟩⟩,⟨L3,_,_,_,_,_,_,rfl,M',h1,h2,h3⟩⟩⟩))
abbrev CellH:=Option (Array Keyed)×Nat×Nat×Array Keyed×Nat×Nat×Nat
def uA (a b o:Array Keyed) (i j g p q:Nat):StateT SortSt Sem (ForInStep CellH):=do
 let x<-elem' a (i - 1)
 if (i - 1==0)=true then pure (.done (some (a.extract 0 (i - 1)++b.extract 0 j++(o.push x).reverse),i - 1,j,o.push x,g,p,q))
 else if (decide (p<7)&&decide (q<7))=true then pure (.done (none,i - 1,j,o.push x,g,p,q))
 else pure (.yield (none,i - 1,j,o.push x,g,p,q))
def uB (a b o:Array Keyed) (i j g p q:Nat):StateT SortSt Sem (ForInStep CellH):=do
 let y<-elem' b (j - 1)
 if (j - 1==1)=true then pure (.done (some (b.extract 0 (j - 1)++a.extract 0 i++(o.push y).reverse),i,j - 1,o.push y,g,p,q))
 else do
  let x<-elem' a (i - 1)
  let r<-gal true x b 0 (j - 1) (j - 1 - 1)
  match r with
  | some k =>
   if j - 1 - k>0 then
    if (k==1)=true then pure (.done (some (b.extract 0 k++a.extract 0 i++(o.push y++(b.extract k (j - 1)).reverse).reverse),i,k,o.push y++(b.extract k (j - 1)).reverse,g,p,j - 1 - k))
    else if (k==0)=true then pure (.done (some (a.extract 0 i++b.extract 0 k++(o.push y++(b.extract k (j - 1)).reverse).reverse),i,k,o.push y++(b.extract k (j - 1)).reverse,g,p,j - 1 - k))
    else uA a b (o.push y++(b.extract k (j - 1)).reverse) i k g p (j - 1 - k)
   else uA a b (o.push y) i (j - 1) g p (j - 1 - k)
  | _=>pure (.done (some (a.extract 0 i++b.extract 0 (j - 1)++(o.push y).reverse),i,j - 1,o.push y,g,p,q))
def uT (a b o:Array Keyed) (i j g p q:Nat):StateT SortSt Sem (ForInStep CellH):=do
 let y<-elem' b (j - 1)
 let r<-gal false y a 0 i (i - 1)
 match r with
 | some k =>
  if i - k>0 then
   if (k==0)=true then pure (.done (some (a.extract 0 k++b.extract 0 j++(o++(a.extract k i).reverse).reverse),k,j,o++(a.extract k i).reverse,g,i - k,q))
   else uB a b (o++(a.extract k i).reverse) k j g (i - k) q
  else uB a b o i j g (i - k) q
 | _=>pure (.done (some (a.extract 0 i++b.extract 0 j++o.reverse),i,j,o,g,p,q))
def TH (a b:Array Keyed) (m:Nat) (st3:SortSt) (R:ForInStep CellH->SortSt->Prop):Prop :=
 (∀r o i j g p q,Fn a b r->R (.done (some r,i,j,o,g,p,q)) st3)/\(∀o i j g p q,MH a b o i j->1<=i->1<j->i+j<=m->R (.done (none,i,j,o,g,p,q)) st3/\R (.yield (none,i,j,o,g,p,q)) st3)
section
variable {st3:SortSt} {o:Array Keyed} {i j g p q m:Nat} {R:ForInStep CellH->SortSt->Prop}
theorem w_uA (ha:∀x∈a.toList,Has κ x) (M:MH a b o i j) (hi:1<=i) (hj:1<j) (hm:i+j<=m+1) (hR:TH a b m st3 R):wpS (model prog w) A E s (uA a b o i j g p q) R st3:=by
 have hla:=M.la;obtain ⟨n,rfl⟩:∃n,i=n+1:=⟨i - 1,by lia⟩;obtain ⟨x,ex,_⟩:=zB3 ha (show n<a.size by lia);have M2:=M.tA ex;refine qAG (zBj ex ?_);show wpS _ _ _ _ (if (n==0)=true then _ else _) _ _
 by_cases d1:(n==0)=true
 ·rw [qAC d1];exact qAH (hR.1 _ _ _ _ _ _ _ M2.f1)
 ·have:=zAs d1;rw [qAB d1];have q:=hR.2 _ _ _ g p q M2 (by lia) hj (by lia);split
  ·exact qAH q.1
  ·exact qAH q.2
theorem w_uB (C:CmpOk prog w A s kd κ) (hk:kindOf st3=kd) (ha:∀x∈a.toList,Has κ x) (hb:∀x∈b.toList,Has κ x) (M:MH a b o i j) (hi:1<=i) (hj:1<j) (hm:i+j<=m+1) (hR:TH a b m st3 R) :
  wpS (model prog w) A E s (uB a b o i j g p q) R st3:=by
 have hla:=M.la;have hlb:=M.lb;obtain ⟨n,rfl⟩:∃n,j=n+1:=⟨j - 1,by lia⟩;obtain ⟨y,ey,hyy⟩:=zB3 hb (show n<b.size by lia);obtain ⟨x,ex,hxx⟩:=zB3 ha (show i - 1<a.size by lia);have M2:=M.tB ey;refine qAG (zBj ey ?_);show wpS _ _ _ _ (if (n==1)=true then _ else _) _ _
 by_cases d1:(n==1)=true
 ·rw [qAC d1];exact qAH (hR.1 _ _ _ _ _ _ _ M2.f2)
 ·have:=zAs d1;rw [qAB d1];refine qAG (zBj ex (qAG (w_gal C hk hxx (fun i hi=>zB3 hb (show 0+i<b.size by have:i<n:=hi;lia)) (show n - 1<n by lia) fun k k1=>?_)));have k1:k<=n:=k1;have M3:=M2.tBs k k1;show wpS _ _ _ _ (if n - k>0 then _ else _) _ _
  by_cases hk0:n - k>0
  ·rw [qAC hk0]
   by_cases d2:(k==1)=true
   ·rw [qAC d2];exact qAH (hR.1 _ _ _ _ _ _ _ M3.f2)
   ·rw [qAB d2]
    by_cases d3:(k==0)=true
    ·rw [qAC d3];exact qAH (hR.1 _ _ _ _ _ _ _ M3.f1)
    ·have:=zAs d2;have:=zAs d3;rw [qAB d3];exact w_uA ha M3 hi (by lia) (by lia) hR
  ·rw [qAB hk0];exact w_uA ha M2 hi (by lia) (show i+n<=m+1 by lia) hR
theorem w_uT (C:CmpOk prog w A s kd κ) (hk:kindOf st3=kd) (ha:∀x∈a.toList,Has κ x) (hb:∀x∈b.toList,Has κ x) (M:MH a b o i j) (hi:1<=i) (hj:1<j) (hm:i+j<=m+1) (hR:TH a b m st3 R):wpS (model prog w) A E s (uT a b o i j g p q) R st3:=by
 have hla:=M.la;have hlb:=M.lb;obtain ⟨y,ey,hyy⟩:=zB3 hb (show j - 1<b.size by lia);refine qAG (zBj ey (qAG (w_gal C hk hyy (fun u hi=>zB3 ha (show 0+u<a.size by have:u<i:=hi;lia)) (show i - 1<i by lia) fun k k1=>?_)));have k1:k<=i:=k1;have M3:=M.tAs k k1;show wpS _ _ _ _ (if i - k>0 then _ else _) _ _
 by_cases hk0:i - k>0
 ·rw [qAC hk0]
  by_cases d1:(k==0)=true
  ·rw [qAC d1];exact qAH (hR.1 _ _ _ _ _ _ _ M3.f1)
  ·have:=zAs d1;rw [qAB d1];exact w_uB C hk ha hb M3 (by lia) hj (by lia) hR
 ·rw [qAB hk0];exact w_uB C hk ha hb M hi hj hm hR
end
theorem w_mHi {Q:Array Keyed->SortSt->Prop} (C:CmpOk prog w A s kd κ) (hk:kindOf st=kd) (ha:∀x∈a.toList,Has κ x) (hb:∀x∈b.toList,Has κ x) (na:1<=a.size) (nb:1<=b.size)
  (h:∀r st',Like st st'->Fn a b r->Q r st'):wpS (model prog w) A E s (mHi a b) Q st:=by
 refine qAG (qBl (qA9 ⟨rfl,?_⟩));obtain ⟨n,hn⟩:∃n,a.size=n+1:=⟨a.size - 1,by lia⟩;obtain ⟨x0,ex,hx⟩:=zB3 ha (show n<a.size by lia);have en:a.size - 1=n:=by lia
 refine qAG (zBj (p:=x0) (by rw [en];exact ex) ?_);have M0:MH a b #[] (n+1) b.size:=⟨by lia,by lia,fun p=>by rw [<-hn,qBk (show a.toList.length<=a.size by simp),qBk (show b.toList.length<=b.size by simp)];simp⟩;have M1:MH a b #[x0] n b.size:=M0.tA ex;rw [<-en] at M1;show wpS _ _ _ _ (if (a.size - 1==0)=true then _ else _) _ _
 by_cases c1:(a.size - 1==0)=true
 ·rw [qAC c1];exact qAH (h _ _ (Like.refl _) M1.f1)
 rw [qAB c1]
 by_cases c2:(b.size==1)=true
 ·rw [qAC c2];exact qAH (h _ _ (Like.refl _) M1.f2)
 rw [qAB c2];have:=zAs c1;have:=zAs c2;refine qAG (qBI ?_)
 refine qAG (qAz (qAu (I:=fun x c st'=>Like st st'/\∃out i j g,c=(none,i,j,out,g)/\MH a b out i j/\1<=i/\1<j/\i+j+x<=a.size+b.size)
  (Q:=fun c st'=>Like st st'/\∃r out i j g,c=(some r,i,j,out,g)/\Fn a b r) ?step ?fin ⟨Like.refl _,_,_,_,_,rfl,M1,by lia,by lia,by lia⟩) ?post)
 case fin =>
  rintro c st' ⟨_,out,i,j,g,rfl,M,h1,h2,h3⟩;lia
 case post =>
  rintro c st' ⟨L,r,out,i,j,g,rfl,F⟩;exact qAH (h r st' L F)
 case step =>
  rintro x c st1 _ hx1 ⟨L1,out0,i0,j0,g0,rfl,M,u1,u2,u3⟩;have hk1:kindOf st1=kd:=L1.kd.trans hk;dsimp only
  refine qAG (qAz (qAu (I:=fun x c st'=>st'=st1/\∃out i j p q,c=(none,i,j,out,p,q)/\MH a b out i j/\1<=i/\1<j/\i+j+x<=i0+j0)
   (Q:=fun c st'=>st'=st1/\((∃r out i j p q,c=(some r,i,j,out,p,q)/\Fn a b r)\/∃out i j p q,c=(none,i,j,out,p,q)/\MH a b out i j/\1<=i/\1<j/\i+j+1<=i0+j0)) ?step1 ?fin1
   ⟨rfl,_,_,_,_,_,rfl,M,u1,u2,by lia⟩) ?post1)
  case fin1 =>
   rintro c st' ⟨rfl,out,i,j,p,q,rfl,M',v1,v2,v3⟩;exact ⟨rfl,.inr ⟨out,i,j,p,q,rfl,M',v1,v2,by lia⟩⟩
  case step1 =>
   rintro x2 c st' _ hx2 ⟨rfl,out,i,j,p,q,rfl,M',v1,v2,v3⟩;have hla:=M'.la;have hlb:=M'.lb;obtain ⟨n,rfl⟩:∃n,i=n+1:=⟨i - 1,by lia⟩;obtain ⟨m,rfl⟩:∃m,j=m+1:=⟨j - 1,by lia⟩;obtain ⟨yb,eb,hyb⟩:=zB3 hb (show m<b.size by lia);obtain ⟨xa,ea,hxa⟩:=zB3 ha (show n<a.size by lia);dsimp only;refine qAG (zBj eb (qAG (zBj ea (qAG (w_lt C hk1 hyb hxa ?_)))));generalize κ.blt (kk κ yb) (kk κ xa)=c;show wpS _ _ _ _ (if c=true then _ else _) _ _
   by_cases e:c=true
   ·rw [qAC e];refine qAG (zBj ea ?_);have M2:=M'.tA ea;show wpS _ _ _ _ (if (n==0)=true then _ else _) _ _
    by_cases d1:(n==0)=true
    ·rw [qAC d1];exact qAH ⟨rfl,.inl ⟨_,_,_,_,_,_,rfl,M2.f1⟩⟩
    ·have:=zAs d1;rw [qAB d1]
     by_cases d2:p+1>=g0
     ·rw [qAC d2];exact qAH ⟨rfl,.inr ⟨_,_,_,_,_,rfl,M2,by lia,v2,by lia⟩⟩
     ·rw [qAB d2];exact qAH ⟨rfl,_,_,_,_,_,rfl,M2,by lia,v2,by lia⟩
   ·rw [qAB e];refine qAG (zBj eb ?_);have M2:=M'.tB eb;show wpS _ _ _ _ (if (m==1)=true then _ else _) _ _
    by_cases d1:(m==1)=true
    ·rw [qAC d1];exact qAH ⟨rfl,.inl ⟨_,_,_,_,_,_,rfl,M2.f2⟩⟩
    ·have:=zAs d1;rw [qAB d1]
     by_cases d2:q+1>=g0
     ·rw [qAC d2];exact qAH ⟨rfl,.inr ⟨_,_,_,_,_,rfl,M2,v1,by lia,by lia⟩⟩
     ·rw [qAB d2];exact qAH ⟨rfl,_,_,_,_,_,rfl,M2,v1,by lia,by lia⟩
  case post1 =>
   rintro c st' ⟨rfl,⟨r,out,i,j,p,q,rfl,F⟩| ⟨out,i,j,p,q,rfl,M',v1,v2,v3⟩⟩
   ·exact qAH ⟨L1,_,_,_,_,_,rfl,F⟩
   ·dsimp only;refine qAG (qBl (qA9 ⟨rfl,?_⟩))
    refine qAG (qAz (qAu (I:=fun x c st'=>Like st st'/\∃out i j g p q,c=(none,i,j,out,g,p,q)/\MH a b out i j/\1<=i/\1<j/\i+j+1<=i0+j0)
     (Q:=fun c st'=>Like st st'/\((∃r out i j g p q,c=(some r,i,j,out,g,p,q)/\Fn a b r)\/∃out i j g p q,c=(none,i,j,out,g,p,q)/\MH a b out i j/\1<=i/\1<j/\i+j+1<=i0+j0)) ?step2 ?fin2
     ⟨L1,_,_,_,_,_,_,rfl,M',v1,v2,v3⟩) ?post2)
    case fin2 =>
     rintro c st' ⟨L,out,i,j,g,p,q,rfl,M',v⟩;exact ⟨L,.inr ⟨_,_,_,_,_,_,rfl,M',v⟩⟩
    case post2 =>
     rintro c st' ⟨L,⟨r,out,i,j,g,p,q,rfl,F⟩| ⟨out,i,j,g,p,q,rfl,M',v1,v2,v3⟩⟩
     ·exact qAH ⟨L,_,_,_,_,_,rfl,F⟩
     ·dsimp only;refine qAG (qA2 (qAH ⟨L.trans ⟨rfl,rfl,rfl,rfl⟩,_,_,_,_,rfl,M',v1,v2,by lia⟩))
    case step2 =>
     rintro x3 c st2 _ hx3 ⟨L2,out,i,j,g,p,q,rfl,M2,w1,w2,w3⟩;dsimp only
     have run:∀(g':Nat) (R:ForInStep CellH->SortSt->Prop),(∀L3:Like st (SortSt.mk' (kindOf st2) (arrOf st2) (pendingOf st2) g' (failedOf st2)),TH a b (i0+j0 - 1) (SortSt.mk' (kindOf st2) (arrOf st2) (pendingOf st2) g' (failedOf st2)) R)->wpS (model prog w) A E s (uT a b out i j g' p q) R (SortSt.mk' (kindOf st2) (arrOf st2) (pendingOf st2) g' (failedOf st2)):=fun g' R hR=>by
      have L3:Like st (SortSt.mk' (kindOf st2) (arrOf st2) (pendingOf st2) g' (failedOf st2)):=L2.trans ⟨rfl,rfl,rfl,rfl⟩;exact w_uT C (L3.kd.trans hk) ha hb M2 w1 w2 (by lia) (hR L3)
     by_cases d0:g>1
     ·rw [qAC d0];exact qAG (qA2 (run (g - 1) _ fun L3=>⟨fun r o i j g p q F=>⟨L3,.inl ⟨_,_,_,_,_,_,_,rfl,F⟩⟩,fun o i j g p q M' h1 h2 h3=>⟨⟨L3,.inr ⟨_,_,_,_,_,_,rfl,M',h1,h2,by lia⟩⟩,⟨L3,_,_,_,_,_,_,rfl,M',h1,h2,by lia⟩⟩⟩))
     ·rw [qAB d0];exact qAG (qA2 (run g _ fun L3=>⟨fun r o i j g p q F=>⟨L3,.inl ⟨_,_,_,_,_,_,_,rfl,F⟩⟩,fun o i j g p q M' h1 h2 h3=>⟨⟨L3,.inr ⟨_,_,_,_,_,_,rfl,M',h1,h2,by lia⟩⟩,⟨L3,_,_,_,_,_,_,rfl,M',h1,h2,by lia⟩⟩⟩))
end
section
variable {prog:Program} {w:World} {A:Around} {E:Value->Shared->Prop} {s:Shared} {kd:SortKind} {κ:KeyKind}
structure Fr (st st':SortSt):Prop where
 kd:kindOf st'=kindOf st
 pn:pendingOf st'=pendingOf st
 fl:failedOf st'=failedOf st
 perm:(arrOf st').Perm (arrOf st)
theorem Fr.refl (st:SortSt):Fr st st:=⟨rfl,rfl,rfl,Array.Perm.refl _⟩
theorem Fr.trans {a b c:SortSt} (h:Fr a b) (k:Fr b c):Fr a c:=⟨k.kd.trans h.kd,k.pn.trans h.pn,k.fl.trans h.fl,k.perm.trans h.perm⟩
theorem Fr.size {a b:SortSt} (h:Fr a b):(arrOf b).size=(arrOf a).size:=h.perm.size_eq
theorem Fr.rev (st:SortSt) (i j k:Nat):Fr st (setArr st (mirror (arrOf st) i j k)):=⟨rfl,rfl,rfl,mirror_perm _ _ _ _⟩
def All (κ:KeyKind) (st:SortSt):Prop:=∀x∈(arrOf st).toList,Has κ x
theorem All.fr {a b:SortSt} (h:All κ a) (f:Fr a b):All κ b:=fun x hx=>h x ((qC5.mp f.perm).mem_iff.mp hx)
theorem All.at (h:All κ st) (hi:i<(arrOf st).size):∃p,(arrOf st)[i]?=some p/\Has κ p:=zB3 h hi
theorem w_ask {j:Nat} {Q:Option Bool->SortSt->Prop} (C:CmpOk prog w A s kd κ) (hk:kindOf st=kd) (al:All κ st) (hi:i<(arrOf st).size) (hj:j<(arrOf st).size) (h:∀c,Q (some c) st):wpS (model prog w) A E s (ltAt' i j) Q st:=w_ltAt C hk (al.at hi) (al.at hj) (h _)
theorem w_asc {n0:Nat} {Q:α->SortSt->Prop} (C:CmpOk prog w A s kd κ) (hk:kindOf st=kd) (al:All κ st) (hn:lo+nrem<=(arrOf st).size) (h1:1<=n0) (h2:n0<=nrem)
  (F:Nat->Option (Option Nat)×Nat->StateT SortSt Sem (ForInStep (Option (Option Nat)×Nat))) (hF:∀x n,F x (none,n)=(do
   let c<-ltAt' (lo+n) (lo+n - 1)
   match c with
   | some c=>if c=true then pure (ForInStep.done (none,n)) else pure (ForInStep.yield (none,n+1))
   | _=>pure (ForInStep.done (some none,n)))) (G:Option (Option Nat)×Nat->StateT SortSt Sem α)
  (hG:∀n,n0<=n->n<=nrem->wpS (model prog w) A E s (G (none,n)) Q st) :
  wpS (model prog w) A E s (forIn [n0:nrem] ((none,n0):Option (Option Nat)×Nat) F >>= G) Q st:=by
 refine qAG (qAu (I:=fun x c st'=>st'=st/\c=(none,x)/\x<=nrem) ?step ?fin ⟨rfl,rfl,h2⟩)
 case fin =>
  rintro c st' ⟨rfl,rfl,h3⟩;rw [show max n0 nrem=nrem by lia];exact hG nrem h2 (qAF _)
 case step =>
  rintro x c st' hx1 hx2 ⟨rfl,rfl,h3⟩;rw [hF];refine qAG (w_ask C hk al (by lia) (by lia) fun c=>?_);show wpS _ _ _ _ (if c=true then _ else _) _ _;split
  ·exact qAH (hG x hx1 h3)
  ·exact qAH ⟨rfl,rfl,by lia⟩
theorem w_tail {Q:Option Nat->SortSt->Prop} (C:CmpOk prog w A s kd κ) (hk:kindOf st=kd) (al:All κ st) (hn:lo+nrem<=(arrOf st).size) (h1:1<=n) (h2:n<=nrem)
  (F:Nat->Option (Option Nat)×Nat->StateT SortSt Sem (ForInStep (Option (Option Nat)×Nat))) (hF:∀x n,F x (none,n)=(do
   let c<-ltAt' (lo+n) (lo+n - 1)
   match c with
   | some c=>if c=true then pure (ForInStep.done (none,n)) else pure (ForInStep.yield (none,n+1))
   | _=>pure (ForInStep.done (some none,n)))) (G:Option (Option Nat)×Nat->StateT SortSt Sem (Option Nat)) (hG:∀n,G (none,n)=pure (some n))
  (h:∀m st',Fr st st'->1<=m->m<=nrem->Q (some m) st') :
  wpS (model prog w) A E s (reverseSlice' lo (lo+n) >>= fun _=>forIn [n:nrem] ((none,n):Option (Option Nat)×Nat) F >>= G) Q st:=by
 have f:=Fr.rev st lo (lo+n) ((lo+n - lo) / 2);refine qAG (qCo ?_);refine w_asc C (f.kd.trans hk) (al.fr f) (by rw [f.size];exact hn) h1 h2 F hF G fun m m1 m2=>?_;rw [hG];exact qAH (h m _ f (by lia) m2)
theorem w_desc {n0:Nat} {Q:α->SortSt->Prop} (C:CmpOk prog w A s kd κ) (hk:kindOf st=kd) (al:All κ st) (hn:lo+nrem<=(arrOf st).size) (h1:1<=n0) (h2:n0<=nrem)
  (F:Nat->Option (Option Nat)×Nat×Nat->StateT SortSt Sem (ForInStep (Option (Option Nat)×Nat×Nat))) (hF:∀x n q,F x (none,n,q)=(ltAt' (lo+n) (lo+n - 1) >>= fun c=>match c with
   | some c=>(if c=true then (if q>0 then (reverseSlice' (lo+n - (q+1)) (lo+n) >>= fun _=>pure (ForInStep.yield (none,n+1,0))) else pure (ForInStep.yield (none,n+1,0)))
    else (ltAt' (lo+n - 1) (lo+n) >>= fun d=>match d with
     | some d=>(if d=true then pure (ForInStep.done (none,n,q)) else pure (ForInStep.yield (none,n+1,q+1)))
     | _=>pure (ForInStep.done (some none,n,q))))
   | _=>pure (ForInStep.done (some none,n,q)))) (G:Option (Option Nat)×Nat×Nat->StateT SortSt Sem α)
  (hG:∀n q st',Fr st st'->n0<=n->n<=nrem->wpS (model prog w) A E s (G (none,n,q)) Q st') :
  wpS (model prog w) A E s (forIn [n0:nrem] ((none,n0,0):Option (Option Nat)×Nat×Nat) F >>= G) Q st:=by
 refine qAG (qAu (I:=fun x c st'=>Fr st st'/\∃q,c=(none,x,q)/\x<=nrem) ?step ?fin ⟨Fr.refl _,0,rfl,h2⟩)
 case fin =>
  rintro c st' ⟨f,q,rfl,h3⟩;rw [show max n0 nrem=nrem by lia];exact hG nrem q st' f h2 (qAF _)
 case step =>
  rintro x c st' hx1 hx2 ⟨f,q,rfl,h3⟩;have hz:(arrOf st').size=(arrOf st).size:=f.size;have al':=al.fr f;have hk':=f.kd.trans hk;rw [hF];refine qAG (w_ask C hk' al' (by lia) (by lia) fun c=>?_);show wpS _ _ _ _ (if c=true then _ else _) _ _
  by_cases e:c=true
  ·rw [qAC e]
   by_cases hq:q>0
   ·rw [qAC hq];exact qAG (qCo (qAH ⟨f.trans (Fr.rev _ _ _ _),0,rfl,by lia⟩))
   ·rw [qAB hq];exact qAH ⟨f,0,rfl,by lia⟩
  ·rw [qAB e];refine qAG (w_ask C hk' al' (by lia) (by lia) fun d=>?_);show wpS _ _ _ _ (if d=true then _ else _) _ _
   by_cases e2:d=true
   ·rw [qAC e2];exact qAH (hG x q st' f hx1 h3)
   ·rw [qAB e2];exact qAH ⟨f,q+1,rfl,by lia⟩
theorem w_count {Q:Option Nat->SortSt->Prop} (C:CmpOk prog w A s kd κ) (hk:kindOf st=kd) (al:All κ st) (hn:lo+nrem<=(arrOf st).size) (h1:1<=nrem)
  (h:∀m st',Fr st st'->1<=m->m<=nrem->Q (some m) st'):wpS (model prog w) A E s (countRun' lo nrem) Q st:=by
 refine w_asc C hk al hn (qAF 1) h1 _ (fun x n=>rfl) _ fun n n1 n2=>?_;show wpS _ _ _ _ (if (n==nrem)=true then _ else _) _ _
 by_cases c:(n==nrem)=true
 ·rw [qAC c];exact qAH (h n st (Fr.refl _) n1 n2)
 rw [qAB c];have c':=zAs c;show wpS _ _ _ _ (if n>1 then _ else _) _ _
 by_cases g:n>1
 ·rw [qAC g];refine qAG (w_ask C hk al (by lia) (by lia) fun c=>?_);show wpS _ _ _ _ (if c=true then _ else _) _ _
  by_cases e:c=true
  ·rw [qAC e];exact qAH (h n st (Fr.refl _) n1 n2)
  ·rw [qAB e];have f1:=Fr.rev st lo (lo+n) ((lo+n - lo) / 2);refine qAG (qCo ?_);refine qAG (qBl (qA9 ⟨rfl,?_⟩));refine w_desc C (f1.kd.trans hk) (al.fr f1) (by rw [f1.size];exact hn) (by lia) (by lia) _ (fun x n q=>rfl) _ fun m q st2 f2 m1 m2=>?_;have f2:=f1.trans f2;show wpS _ _ _ _ (if q>0 then _ else _) _ _
   by_cases hq:q>0
   ·rw [qAC hq];have f3:=f2.trans (Fr.rev st2 (lo+m - (q+1)) (lo+m) ((lo+m - (lo+m - (q+1))) / 2));refine qAG (qCo ?_);exact w_tail C (f3.kd.trans hk) (al.fr f3) (by rw [f3.size];exact hn) (by lia) m2 _ (fun x n=>rfl) _ (fun n=>rfl) fun m' st' f'=>h m' st' (f3.trans f')
   ·rw [qAB hq];exact w_tail C (f2.kd.trans hk) (al.fr f2) (by rw [f2.size];exact hn) (by lia) m2 _ (fun x n=>rfl) _ (fun n=>rfl) fun m' st' f'=>h m' st' (f2.trans f')
 ·rw [qAB g];have en:n=1:=by lia
  subst en;refine qAG (qBl (qA9 ⟨rfl,?_⟩));refine w_desc C hk al hn (by lia) (by lia) _ (fun x n q=>rfl) _ fun m q st2 f2 m1 m2=>?_;show wpS _ _ _ _ (if q>0 then _ else _) _ _
  by_cases hq:q>0
  ·rw [qAC hq];have f3:=f2.trans (Fr.rev st2 (lo+m - (q+1)) (lo+m) ((lo+m - (lo+m - (q+1))) / 2));refine qAG (qCo ?_);exact w_tail C (f3.kd.trans hk) (al.fr f3) (by rw [f3.size];exact hn) (by lia) m2 _ (fun x n=>rfl) _ (fun n=>rfl) fun m' st' f'=>h m' st' (f3.trans f')
  ·rw [qAB hq];exact w_tail C (f2.kd.trans hk) (al.fr f2) (by rw [f2.size];exact hn) (by lia) m2 _ (fun x n=>rfl) _ (fun n=>rfl) fun m' st' f'=>h m' st' (f2.trans f')
theorem w_ins {ok:Nat} {Q:Bool->SortSt->Prop} (C:CmpOk prog w A s kd κ) (hk:kindOf st=kd) (al:All κ st) (hn:lo+n<=(arrOf st).size)
  (h:∀st',Fr st st'->Q true st'):wpS (model prog w) A E s (binarySort' lo n ok) Q st:=by
 refine qAG (qAz (qAu (I:=fun k c st'=>c=(none,())/\Fr st st') (Q:=fun c st'=>c=(none,())/\Fr st st') ?step (fun c st' h=>h) ⟨rfl,Fr.refl _⟩) ?post)
 case post =>
  rintro c st' ⟨rfl,f⟩;exact qAH (h st' f)
 case step =>
  rintro k c st' hk1 hk2 ⟨rfl,f⟩;have hz:(arrOf st').size=(arrOf st).size:=f.size
  refine qAG (qAz (qAu (I:=fun x c st2=>st2=st'/\∃l r,c=(none,l,r)/\l<=r/\r<=k)
   (Q:=fun c st2=>st2=st'/\∃l r,c=(none,l,r)/\l<=r/\r<=k) ?s2 (fun c st' h=>h) ⟨rfl,0,k,rfl,by lia,by lia⟩) ?p2)
  case s2 =>
   rintro x c st2 _ hx ⟨rfl,l,r,rfl,a1,a2⟩;dsimp only
   by_cases g:l>=r
   ·rw [qAC g];exact qAH ⟨rfl,l,r,rfl,a1,a2⟩
   ·rw [qAB g];refine qAG (w_ask C (f.kd.trans hk) (al.fr f) (by lia) (by lia) fun c=>?_);show wpS _ _ _ _ (if c=true then _ else _) _ _;split
    ·exact qAH ⟨rfl,l,(l+r) / 2,rfl,by lia,by lia⟩
    ·exact qAH ⟨rfl,(l+r) / 2+1,r,rfl,by lia,by lia⟩
  case p2 =>
   rintro c st2 ⟨rfl,l,r,rfl,a1,a2⟩;show wpS _ _ _ _ (moveDown' (lo+k) (lo+l) >>= fun _=>pure (ForInStep.yield (none,()))) _ _;rw [moveDown'_eq];exact qAG (qA2 (qAH ⟨rfl,f.trans ⟨rfl,rfl,rfl,bubble_perm _ _ _⟩⟩))
theorem w_set {M:Model} {σ:Type} {st st':σ} {Q:PUnit->σ->Prop} (h:Q ⟨⟩ st'):wpS M A E s (set st':StateT σ Sem PUnit) Q st:=by
 unfold wpS;rw [StateT.run_set];exact qAE ⟨rfl,h⟩
theorem splice:∀(m:List Keyed) (arr:Array Keyed) (sa k:Nat),sa+k+m.length<=arr.size ->
  ((m.zipIdx k).foldl (fun a x=>match x with| (p,j)=>a.setIfInBounds (sa+j) p) arr).toList=arr.toList.take (sa+k)++m++arr.toList.drop (sa+k+m.length)
 | [],arr,sa,k,_=>by simp
 | p::r,arr,sa,k,h=>by
  rw [qAe] at h;have hk:sa+k<arr.size:=by lia
  rw [List.zipIdx_cons,qBU];show ((r.zipIdx (k+1)).foldl _ (arr.setIfInBounds (sa+k) p)).toList=_;rw [splice r (arr.setIfInBounds (sa+k) p) sa (k+1) (by rw [qDJ];lia)];have e:(arr.setIfInBounds (sa+k) p).toList=arr.toList.set (sa+k) p:=by simp
  have hl:sa+k<arr.toList.length:=by simpa using hk
  rw [e,show sa+(k+1)=sa+k+1 by lia,qAe,show sa+k+(r.length+1)=sa+k+1+r.length by lia]
  have e1:(arr.toList.set (sa+k) p).take (sa+k+1)=arr.toList.take (sa+k)++[p]:=by
   rw [qCz,qDA hl,List.take_set_of_le (qAF _)];rfl
  have e2:(arr.toList.set (sa+k) p).drop (sa+k+1+r.length)=arr.toList.drop (sa+k+1+r.length):=List.drop_set_of_lt (by lia);rw [e1,e2];simp
theorem zJe {a:Array Keyed} (h:∀x∈a.toList,Has κ x) (i j:Nat):∀x∈(a.extract i j).toList,Has κ x:=fun x hx=>by
 rw [qBu,List.extract_eq_drop_take] at hx;exact h x (qBv (qBw hx))
theorem w_mergeAt {sa na pw nb pw2:Nat} {Q:Bool->SortSt->Prop} (C:CmpOk prog w A s kd κ) (hk:kindOf st=kd) (al:All κ st) (hp1:(pendingOf st)[i]?=some (sa,na,pw)) (hp2:(pendingOf st)[i+1]?=some (sa+na,nb,pw2))
  (h1:1<=na) (h2:1<=nb) (hz:sa+na+nb<=(arrOf st).size) (hfl:failedOf st=none)
  (h:∀st',kindOf st'=kindOf st->failedOf st'=none->pendingOf st'=((pendingOf st).setIfInBounds i (sa,na+nb,pw)).eraseIdxIfInBounds (i+1)->(arrOf st').Perm (arrOf st)->Q true st'):wpS (model prog w) A E s (mergeAt' i) Q st:=by
 obtain ⟨st1,e1⟩:∃st1:SortSt,st1=setPending st (((pendingOf st).setIfInBounds i (sa,na+nb,pw)).eraseIdxIfInBounds (i+1)):=⟨_,rfl⟩;have ka:kindOf st1=kindOf st:=by rw [e1]
 have fa:failedOf st1=failedOf st:=by rw [e1]
 have pa:pendingOf st1=((pendingOf st).setIfInBounds i (sa,na+nb,pw)).eraseIdxIfInBounds (i+1):=by rw [e1]
 have aa:arrOf st1=arrOf st:=by rw [e1]
 have plain:Q true st1:=h st1 ka (fa.trans hfl) pa (by rw [aa]);refine qAG (qBI ?_);show wpS _ _ _ _ (match ((pendingOf st)[i]?,(pendingOf st)[i+1]?) with| _=>_) _ _;rw [hp1,hp2];refine qAG (w_set ?_);show wpS _ _ _ _ _ _ (setPending st (((pendingOf st).setIfInBounds i (sa,na+nb,pw)).eraseIdxIfInBounds (i+1)));rw [<-e1];obtain ⟨y0,ey0,hy0⟩:=al.at (show sa+na<(arrOf st).size by lia);refine qAG (zBj ey0 ?_);refine qAG (w_gal C (ka.trans hk) hy0 (fun j hj=>al.at (by lia)) (show 0<na by lia) fun k hkn=>?_);show wpS _ _ _ _ (if (na - k==0)=true then _ else _) _ _
 by_cases c1:(na - k==0)=true
 ·rw [qAC c1];exact qAH plain
 rw [qAB c1];have c1:=zAs c1;obtain ⟨z,ez,hz'⟩:=al.at (show sa+k+(na - k) - 1<(arrOf st).size by lia);refine qAG (zBj ez ?_);refine qAG (w_gal C (ka.trans hk) hz' (fun j hj=>al.at (by lia)) (show nb - 1<nb by lia) fun m hmn=>?_);show wpS _ _ _ _ (if (m==0)=true then _ else _) _ _
 by_cases c2:(m==0)=true
 ·rw [qAC c2];exact qAH plain
 rw [qAB c2];have c2:=zAs c2;have zX:((arrOf st).extract (sa+k) (sa+na)).size=na - k:=by simp;lia
 have zY:((arrOf st).extract (sa+na) (sa+na+m)).size=m:=by simp;lia
 have fin:∀(r:Array Keyed) (st2:SortSt),Like st1 st2->Fn ((arrOf st).extract (sa+k) (sa+na)) ((arrOf st).extract (sa+na) (sa+na+m)) r ->
   wpS (model prog w) A E s (modify (fun s:SortSt=>SortSt.mk' (kindOf s) (r.toList.zipIdx.foldl (fun a x=>match x with| (p,j)=>a.setIfInBounds (sa+k+j) p) (arrOf s)) (pendingOf s) (gallopOf s) (failedOf s)) >>= fun _=>(get:StateT SortSt Sem SortSt) >>= fun s=>pure (failedOf s).isNone) Q st2:=fun r st2 L F=>by
  have ar2:arrOf st2=arrOf st:=L.ar.trans aa;have fl2:failedOf st2=none:=L.fl.trans (fa.trans hfl)
  have lr:r.toList.length=na - k+m:=by
   have:=F fun _=>true;simp only [List.countP_true,qBb,zX,zY] at this;simpa using this
  have sp:=splice r.toList (arrOf st2) (sa+k) 0 (by rw [ar2];lia);rw [ar2,qCy,lr] at sp;refine qAG (qA2 (qAG (qBI ?_)));have e3:(failedOf st2).isNone=true:=by rw [fl2];rfl
  show wpS _ _ _ _ (pure (failedOf st2).isNone) _ _;rw [e3,ar2];generalize hR:(r.toList.zipIdx.foldl (fun a x=>match x with| (p,j)=>a.setIfInBounds (sa+k+j) p) (arrOf st))=R at sp;refine qAH (h _ (L.kd.trans ka) fl2 (L.pn.trans pa) ?_);show R.Perm (arrOf st);refine qC5.mpr (perm_ct fun p=>?_);have h1:=F p;have h2:=cd (a:=arrOf st) (show sa+k<=sa+na by lia) p;have h3:=cd (a:=arrOf st) (show sa+na<=sa+na+m by lia) p;have h4:=qAa (List.countP p) (qCI (sa+k) (arrOf st).toList);rw [qB3] at h4;rw [sp,qB3,qB3,show sa+k+(na - k+m)=sa+na+m by lia];lia
 show wpS _ _ _ _ (if na - k<=m then _ else _) _ _
 by_cases c3:na - k<=m
 ·rw [qAC c3];exact qAG (w_mLo (a:=(arrOf st).extract (sa+k) (sa+na)) (b:=(arrOf st).extract (sa+na) (sa+na+m)) C (ka.trans hk) (zJe al _ _) (zJe al _ _) (by rw [zX];lia) (by rw [zY];lia) fun r st2 L F=>fin r st2 L F)
 ·rw [qAB c3];exact qAG (w_mHi (a:=(arrOf st).extract (sa+k) (sa+na)) (b:=(arrOf st).extract (sa+na) (sa+na+m)) C (ka.trans hk) (zJe al _ _) (zJe al _ _) (by rw [zX];lia) (by rw [zY];lia) fun r st2 L F=>fin r st2 L F)
end
def Ch:List (Nat×Nat×Nat)->Nat->Nat->Prop
 | [],s,e=>s=e
 | (a,n,_)::r,s,e=>a=s/\1<=n/\Ch r (s+n) e
theorem Ch.app {P Q:List (Nat×Nat×Nat)}:∀{s e:Nat},Ch (P++Q) s e↔∃m,Ch P s m/\Ch Q m e:=by
 induction P with
 | nil=>intro s e;exact ⟨fun h=>⟨s,rfl,h⟩,fun ⟨m,h1,h2⟩=>by have h1:s=m:=h1;rw [h1];exact h2⟩
 | cons x P ih =>
  obtain ⟨a,n,q⟩:=x;intro s e;constructor
  ·rintro ⟨h1,h2,h3⟩;obtain ⟨m,k1,k2⟩:=ih.mp h3;exact ⟨m,⟨h1,h2,k1⟩,k2⟩
  ·rintro ⟨m,⟨h1,h2,h3⟩,h4⟩;exact ⟨h1,h2,ih.mpr ⟨m,h3,h4⟩⟩
theorem Ch.bnd:∀{P:List (Nat×Nat×Nat)} {s e:Nat},Ch P s e->s+P.length<=e
 | [],s,e,h=>qBr h
 | (a,n,t)::r,s,e,h=>by
  have:=Ch.bnd h.2.2;have:=h.2.1;rw [qAe];lia
theorem set_erase (P:List α) (x y v:α) (T:List α):((P++x::y::T).set P.length v).eraseIdx (P.length+1)=P++v::T:=by
 induction P with
 | nil=>rfl
 | cons p P ih =>
  show p::((P++x::y::T).set P.length v).eraseIdx (P.length+1)=p::(P++v::T);rw [ih]
theorem two_at :∀{L:List α} {i:Nat},i+1<L.length->∃P x y T,L=P++x::y::T/\P.length=i
 | [],i,h=>by simp at h
 | [_],i,h=>by simp at h
 | a::b::L,0,_=>⟨[],a,b,L,rfl,rfl⟩
 | a::b::L,i+1,h=>by
  obtain ⟨P,x,y,T,e,l⟩:=two_at (L:=b::L) (i:=i) (by simp at h ⊢;lia);exact ⟨a::P,x,y,T,by rw [e];rfl,by simp [l]⟩
theorem ch_map:∀{L L':List (Nat×Nat×Nat)} {s e:Nat},L'.map (fun q=>(q.1,q.2.1))=L.map (fun q=>(q.1,q.2.1))->Ch L s e->Ch L' s e
 | [],[],_,_,_,h=>h
 | [],_::_,_,_,h,_=>by simp at h
 | _::_,[],_,_,h,_=>by simp at h
 | (a,n,t)::r,(b,m,u)::r',s,e,h,c=>by
  simp at h;obtain ⟨⟨h1,h2⟩,h3⟩:=h;obtain ⟨c1,c2,c3⟩:=c;subst h1;subst h2;exact ⟨c1,c2,ch_map (by simpa using h3) c3⟩
theorem mod_map {f:Nat×Nat×Nat->Nat×Nat×Nat} (hf:∀q,(f q).1=q.1/\(f q).2.1=q.2.1) (p:Array (Nat×Nat×Nat)) (i:Nat):(p.modify i f).toList.map (fun q=>(q.1,q.2.1))=p.toList.map (fun q=>(q.1,q.2.1)):=by
 apply List.ext_getElem?;intro k;rw [qAY,qAY,qAl,qAl,Array.getElem?_modify];split
 ·cases h:p[k]? with
  | none=>rfl
  | some q =>
   have:=hf q;simp [this.1,this.2]
 ·rfl
section
variable {prog:Program} {w:World} {A:Around} {E:Value->Shared->Prop} {s:Shared} {kd:SortKind} {κ:KeyKind} {a₀:Array Keyed}
structure Rn (kd:SortKind) (a₀:Array Keyed) (lo:Nat) (st:SortSt):Prop where
 kd:kindOf st=kd
 fl:failedOf st=none
 perm:(arrOf st).Perm a₀
 ch:Ch (pendingOf st).toList 0 lo
theorem Rn.all (R:Rn kd a₀ lo st) (h:∀x∈a₀.toList,Has κ x):All κ st:=fun x hx=>h x ((qC5.mp R.perm).mem_iff.mp hx)
theorem w_merge {Q:Bool->SortSt->Prop} (C:CmpOk prog w A s kd κ) (ha:∀x∈a₀.toList,Has κ x) (R:Rn kd a₀ lo st) (hl:lo<=a₀.size) (hi:i+1<(pendingOf st).size)
  (h:∀st',Rn kd a₀ lo st'->(pendingOf st').size+1=(pendingOf st).size->Q true st'):wpS (model prog w) A E s (mergeAt' i) Q st:=by
 obtain ⟨P,⟨sa,na,pw⟩,⟨sb,nb,pw2⟩,T,e,l⟩:=two_at (L:=(pendingOf st).toList) (i:=i) (by simpa using hi);have hz:(arrOf st).size=a₀.size:=R.perm.size_eq;have ch:=R.ch;rw [e] at ch;obtain ⟨m,c1,d1,d2,d3,d4,d5⟩:=Ch.app.mp ch;subst d1;subst d3;have b2:=d5.bnd
 have e1:(pendingOf st)[i]?=some (sa,na,pw):=by
  rw [<-qAl,e,<-l];simp
 have e2:(pendingOf st)[i+1]?=some (sa+na,nb,pw2):=by
  rw [<-qAl,e,<-l,qBe (by lia)];simp
 refine w_mergeAt C R.kd (R.all ha) e1 e2 d2 d4 (by lia) R.fl fun st' k1 k2 k3 k4=>?_
 have ep:(pendingOf st').toList=P++(sa,na+nb,pw)::T:=by
  have hb:i+1<((pendingOf st).setIfInBounds i (sa,na+nb,pw)).size:=by rw [qDJ];exact hi
  rw [k3,Array.eraseIdxIfInBounds,dif_pos hb,Array.toList_eraseIdx,Array.toList_setIfInBounds,e,<-l];exact set_erase P _ _ _ T
 refine h st' ⟨k1.trans R.kd,k2,k4.trans R.perm,?_⟩ ?_
 ·rw [ep];refine Ch.app.mpr ⟨sa,c1,rfl,by lia,?_⟩;rw [show sa+(na+nb)=sa+na+nb by lia];exact d5
 ·have h1:=qAa List.length ep;have h2:=qAa List.length e;simp at h1 h2;lia
theorem Rn.modify (R:Rn kd a₀ lo st) {f:Nat×Nat×Nat->Nat×Nat×Nat} (hf:∀q,(f q).1=q.1/\(f q).2.1=q.2.1) (i:Nat):Rn kd a₀ lo (setPending st ((pendingOf st).modify i f)):=⟨R.kd,R.fl,R.perm,ch_map (mod_map hf (pendingOf st) i) R.ch⟩
theorem ite_less (c:Prop) [Decidable c] (a:Nat):(if c then a - 1 else a)<=a:=by split<;>lia
theorem w_sort {Q:Unit->SortSt->Prop} (C:CmpOk prog w A s kd κ) (ha:∀x∈a₀.toList,Has κ x) (hk:kindOf st=kd) (hf:failedOf st=none) (hp:(arrOf st).Perm a₀) (hpn:pendingOf st=#[]) (h1:1<=a₀.size)
  (h:∀st',failedOf st'=none->(arrOf st').Perm a₀->Q () st'):wpS (model prog w) A E s sortRuns' Q st:=by
 have hz0:(arrOf st).size=a₀.size:=hp.size_eq;have hz0p:(arrOf st).size=a₀.size:=hz0;unfold arrOf at hz0p;refine qAG (qBI ?_);have R0:Rn kd a₀ 0 st:=⟨hk,hf,hp,by rw [hpn];rfl⟩;refine qAG (qAz (qAu (I:=fun x c st'=>∃lo,c=(none,lo)/\Rn kd a₀ lo st'/\lo<=a₀.size/\(x<=lo\/lo=a₀.size)) (Q:=fun c st'=>∃lo,c=(none,lo)/\Rn kd a₀ a₀.size st') ?step ?fin ⟨0,rfl,R0,by lia,.inl (by lia)⟩) ?post)
 case fin =>
  rintro c st' ⟨lo,rfl,R,l1,l2⟩
  have:lo=a₀.size:=by
   have:max 0 (arrOf st).size=a₀.size:=by lia
   rcases l2 with z| z
   ·lia
   ·exact z
  subst this;exact ⟨_,rfl,R⟩
 case step =>
  rintro x c st1 _ hx ⟨lo,rfl,R,l1,l2⟩;show wpS _ _ _ _ (if lo>=(arrOf st).size then _ else _) _ _
  by_cases g:lo>=(arrOf st).size
  ·rw [qAC g];have:lo=a₀.size:=by lia
   subst this;exact qAH ⟨_,rfl,R⟩
  rw [qAB g];have hz1:(arrOf st1).size=a₀.size:=R.perm.size_eq;refine qAG (w_count C R.kd (R.all ha) (by rw [hz0,hz1];lia) (by lia) fun m st2 f2 m1 m2=>?_);have keepR:∀{st':SortSt},Fr st1 st'->Rn kd a₀ lo st':=fun {st'} f=>⟨f.kd.trans R.kd,f.fl.trans R.fl,f.perm.trans R.perm,by rw [f.pn];exact R.ch⟩
  have push:∀{n:Nat} {st4:SortSt},1<=n->Rn kd a₀ lo st4->Rn kd a₀ (lo+n) (setPending st4 ((pendingOf st4).push (lo,n,0))):=fun {n st4} n1 R4=>by
   refine ⟨R4.kd,R4.fl,R4.perm,?_⟩;show Ch ((pendingOf st4).push (lo,n,0)).toList 0 (lo+n);rw [qCc];exact Ch.app.mpr ⟨lo,R4.ch,rfl,n1,rfl⟩
  have loop:∀(st4:SortSt) (pw:Nat),Rn kd a₀ lo st4->∀(R:ForInStep (Option Unit×Unit)->SortSt->Prop),(∀st',Rn kd a₀ lo st'->R (.done (none,())) st'/\R (.yield (none,())) st') ->
    wpS (model prog w) A E s ((get:StateT SortSt Sem SortSt) >>= fun v=>match (if (pendingOf v).size>1 then (pendingOf v)[(pendingOf v).size - 2]? else none) with
       | some (_,_,older)=>(if older<=pw then pure (ForInStep.done (none,())) else (mergeAt' ((pendingOf v).size - 2) >>= fun b=>if (!b)=true then pure (ForInStep.done (some (),())) else pure (ForInStep.yield (none,()))))
       | _=>pure (ForInStep.done (none,()))) R st4:=by
   intro st4 pw R4 Rr hR;refine qAG (qBI ?_)
   by_cases c1:(pendingOf st4).size>1
   ·rw [qAC c1];rcases ho:(pendingOf st4)[(pendingOf st4).size - 2]? with _| ⟨o1,o2,o3⟩
    ·exact qAH (hR st4 R4).1
    ·show wpS _ _ _ _ (if o3<=pw then _ else _) _ _
     by_cases c2:o3<=pw
     ·rw [qAC c2];exact qAH (hR st4 R4).1
     ·rw [qAB c2];exact qAG (w_merge C ha R4 l1 (by lia) fun st5 R5 _=>qAH (hR st5 R5).2)
   ·rw [qAB c1];exact qAH (hR st4 R4).1
  have ends:∀{n:Nat} {st5:SortSt},1<=n->Rn kd a₀ (lo+n) st5->lo+n<=a₀.size->∃l,((none,lo+n):Option Unit×Nat)=(none,l)/\Rn kd a₀ l st5/\l<=a₀.size/\(x+1<=l\/l=a₀.size):=fun {n st5} n1 R5 n2=>⟨_,rfl,R5,n2,.inl (by lia)⟩
  by_cases c1:m<minRun' (arrOf st).size (arrOf st).size 0
  ·refine (show wpS _ _ _ _ (if m<minRun' (arrOf st).size (arrOf st).size 0 then _ else _) _ _ from ?_);rw [qAC c1];refine qAG (qBl (qA9 ⟨rfl,?_⟩));refine qAG (w_ins (n:=min ((arrOf st).size - lo) (minRun' (arrOf st).size (arrOf st).size 0)) C (f2.kd.trans R.kd) ((R.all ha).fr f2) (by rw [f2.size,hz1];lia) fun st3 f3=>?_);show wpS _ _ _ _ (if false=true then _ else _) _ _;rw [qAB (by decide)];have R3:=keepR (f2.trans f3);have n1:1<=min ((arrOf st).size - lo) (minRun' (arrOf st).size (arrOf st).size 0):=by lia
   have n2:lo+min ((arrOf st).size - lo) (minRun' (arrOf st).size (arrOf st).size 0)<=a₀.size:=by lia
   refine qAG (qBI ?_);rcases hb:(pendingOf st3).back? with _| ⟨s1,q1,t1⟩
   ·exact qAG (qA2 (qAH (ends n1 (push n1 R3) n2)))
   ·refine qAG (qAz (qAu (I:=fun y c st'=>c=(none,())/\Rn kd a₀ lo st') (Q:=fun c st'=>c=(none,())/\Rn kd a₀ lo st') ?s2 (fun c st' h=>h) ⟨rfl,R3⟩) ?p2)
    case p2 =>
     rintro c st4 ⟨rfl,R4⟩;exact qAG (qA2 (qAG (qA2 (qAH (ends n1 (push n1 (R4.modify (f:=fun x=>match x with| (t,len,_)=>(t,len,power' (arrOf st).size (2*s1+q1) (2*s1+q1+q1+min ((arrOf st).size - lo) (minRun' (arrOf st).size (arrOf st).size 0)) (arrOf st).size)) (fun q=>⟨rfl,rfl⟩) ((pendingOf st4).size - 1))) n2)))))
    case s2 =>
     rintro y c st4 _ hy ⟨rfl,R4⟩;exact loop st4 _ R4 _ fun st' R'=>⟨⟨rfl,R'⟩,⟨rfl,R'⟩⟩
  ·refine (show wpS _ _ _ _ (if m<minRun' (arrOf st).size (arrOf st).size 0 then _ else _) _ _ from ?_);rw [qAB c1];have R3:=keepR f2;have n2:lo+m<=a₀.size:=by lia
   refine qAG (qBI ?_);rcases hb:(pendingOf st2).back? with _| ⟨s1,q1,t1⟩
   ·exact qAG (qA2 (qAH (ends m1 (push m1 R3) n2)))
   ·refine qAG (qAz (qAu (I:=fun y c st'=>c=(none,())/\Rn kd a₀ lo st') (Q:=fun c st'=>c=(none,())/\Rn kd a₀ lo st') ?s2 (fun c st' h=>h) ⟨rfl,R3⟩) ?p2)
    case p2 =>
     rintro c st4 ⟨rfl,R4⟩;exact qAG (qA2 (qAG (qA2 (qAH (ends m1 (push m1 (R4.modify (f:=fun x=>match x with| (t,len,_)=>(t,len,power' (arrOf st).size (2*s1+q1) (2*s1+q1+q1+m) (arrOf st).size)) (fun q=>⟨rfl,rfl⟩) ((pendingOf st4).size - 1))) n2)))))
    case s2 =>
     rintro y c st4 _ hy ⟨rfl,R4⟩;exact loop st4 _ R4 _ fun st' R'=>⟨⟨rfl,R'⟩,⟨rfl,R'⟩⟩
 case post =>
  rintro c st1 ⟨lo,rfl,R⟩;refine qAG (qAz (qAu (I:=fun x c st'=>c=(none,())/\Rn kd a₀ a₀.size st') (Q:=fun c st'=>c=(none,())/\Rn kd a₀ a₀.size st') ?s3 (fun c st' h=>h) ⟨rfl,R⟩) ?p3)
  case p3 =>
   rintro c st' ⟨rfl,R'⟩;exact qAH (h st' R'.fl R'.perm)
  case s3 =>
   rintro y c st2 _ hy ⟨rfl,R2⟩;refine qAG (qBI ?_);show wpS _ _ _ _ (if (pendingOf st2).size<=1 then _ else _) _ _
   by_cases c1:(pendingOf st2).size<=1
   ·rw [qAC c1];exact qAH ⟨rfl,R2⟩
   ·rw [qAB c1];refine qAG (w_merge C ha R2 (qAF _) ?_ fun st5 R5 _=>qAH ⟨rfl,R5⟩);exact qCt (Nat.add_le_add_right (ite_less _ _) 1) (show (pendingOf st2).size - 2+1<(pendingOf st2).size by lia)
end
end TimP
namespace ST
open PySem PyProof.Rows PySem.W
section
variable {prog:Program} {w:World} {A:Around} {E:Value->Shared->Prop} {s:Shared}
theorem w_lsortP {κ:PyProof.Rows.KeyKind} {kd:SortKind} {a:Addr} {vs:List Value} {n:Nat} {P:Fin->Shared->Prop} (ho:s.heap.get? a=some (seqObj "list" vs.toArray n)) (hz:vs.length<=4096)
  (hS:∀h',(∀b o,b≠a->s.heap.get? b=some o->h'.get? b=some o)->Sortable prog w A κ kd vs {s with heap:=h'})
  (h:∀out:Array Value,out.toList.Perm vs->P (.done (.ret .none)) {s with heap:=sortedHeap s.heap a vs out}) :
  wpAny (model prog w) A (Builtin.«list.sort» ⟨[.ref a],[]⟩) P E s:=by
 rw [list_sort_plain];have hsl:(4096:Nat)<=sizeLine:=by decide +kernel
 have ha:a<s.heap.objs.size:=qAK ho;have hsz:vs.toArray.size=vs.length:=by simp
 refine qAA (listItems_at ho rfl ?_);refine qAA (listUpdate_at ho rfl ?_ (by lia) (qAg _));have h1:(s.heap.update a (Obj.mapSeq fun _=>#[])).get? a=some (seqObj "list" #[] _):=get?_update_seq ho fun _=>#[];refine qAA (seqEpoch_at h1 rfl ?_);refine qAA (wpAny_newTuple ?_ (by show vs.toArray.toList.length<=_;simp;lia));refine qAA (wpAny_newList ?_ (qAg _));refine qA0 ?_;have h6:=qAI (seqObj "list" #[] 0) (qAI (seqObj "tuple" vs.toArray 0) h1);change wpAny (model prog w) A _ P E {s with heap:=((s.heap.update a (Obj.mapSeq fun _=>#[])).push (seqObj "tuple" vs.toArray 0)).push (seqObj "list" #[] 0)};dsimp only
 have S6:=hS (((s.heap.update a (Obj.mapSeq fun _=>#[])).push (seqObj "tuple" vs.toArray 0)).push (seqObj "list" #[] 0)) fun b o hb q=>by
  refine qAI _ (qAI _ ?_);rw [qCB _ _ (qAm hb)];exact q
 by_cases c:vs.toArray.size<2
 ·rw [qAC c,qAC c];refine qAA (qAE ?_);rw [StateT.run_pure];refine qAA (qAE ?_);dsimp only;refine qAA (seqEpoch_at h6 rfl ?_);refine qAA (listUpdate_at h6 rfl ?_ (qAg _) (by rw [Array.size_map];show (pairsOf vs).size<=_;rw [pairsOf_size];lia));simp only [bne_self_eq_false,qC7,qBs];have e:(arrOf (SortSt.mk' general' (vs.toArray.zip vs.toArray) #[] 7 none)).Perm (pairsOf vs):=Array.Perm.refl _;exact qAE (h _ (zIl e))
 ·rw [qAB c,qAB c];refine qAA (S6.kind (by lia) _ _ ?_)
  have W:=TimP.w_sort (E:=E) (a₀:=pairsOf vs) (st:=SortSt.mk' kd (vs.toArray.zip vs.toArray) #[] 7 none) (Q:=fun _ st'=>failedOf st'=none/\(arrOf st').Perm (pairsOf vs)) S6.cmp (fun p hp=>by
   rw [pairsOf_toList] at hp;exact S6.has _ (mem_zip_self hp).2) rfl rfl (Array.Perm.refl _) rfl (by rw [pairsOf_size];lia) fun st' q1 q2=>⟨q1,q2⟩
  refine qAA (qAx W ?_ fun _ _ e=>e);rintro ⟨⟨⟩,st'⟩ s' ⟨rfl,q1,q2⟩;dsimp only;refine qAA (seqEpoch_at h6 rfl ?_);have zz:=(zIl q2).length_eq;refine qAA (listUpdate_at h6 rfl ?_ (qAg _) (by simp at zz ⊢;lia));rw [q1];simp only [bne_self_eq_false,qC7,qBs];exact qAE (h _ (zIl q2))
theorem w_sortedCP {κ:PyProof.Rows.KeyKind} {kd:SortKind} {v:Value} {Q:Value->Shared->Prop} {J:List Value->Shared->Prop} (hc:wpAny (model prog w) A.in1 (collect v) J E s)
  (hJ:∀vs s1,J vs s1->vs.length<=4096/\(∀h',Up s1.heap h'->Sortable prog w A.in1.in1 κ kd vs {s1 with heap:=h'}) /\
   ∀(out:List Value) c h',out.Perm vs->h'.get? s1.heap.objs.size=some (seqObj "list" out.toArray c)->Up s1.heap h'->Q (.ref s1.heap.objs.size) {s1 with heap:=h'}) :
  wpAny (model prog w) A (call (.builtin "sorted") [v]) Q E s:=by
 refine Calls.call_function_entry kind_sorted plain_sorted entry_sorted (args_sorted1 _) ?_;unfold Builtin.«sorted»;refine qAA (m:=checkCount "sorted" 1 1 _) (qAE ?_);refine qAA (qAx hc (fun vs s1 j=>?_) fun _ _ x=>x);obtain ⟨j1,j2,j3⟩:=hJ vs s1 j;have hsl:(4096:Nat)<=sizeLine:=by decide +kernel
 refine qAA (wpAny_newList ?_ (by lia));have hD:(s1.heap.push (seqObj "list" vs.toArray 0)).get? s1.heap.objs.size=some (seqObj "list" vs.toArray 0):=qAb _ rfl;change wpAny _ _ _ _ _ {s1 with heap:=s1.heap.push (seqObj "list" vs.toArray 0)};have ne:∀b o,s1.heap.get? b=some o->b≠s1.heap.objs.size:=fun b o q=>qAT (qAK q);refine qAA (qA0 (qBY slot_list_sort ⟨_,hD,rfl⟩ entry_list_sort ?body (args_list_sort _)))
 case body =>
  refine w_lsortP (s:={s1 with heap:=s1.heap.push (seqObj "list" vs.toArray 0)}) hD j1 (fun h' q=>j2 h' fun b o e=>q b o (ne b o e) (qAI _ e)) fun out p1=>?_;obtain ⟨⟨c,g1⟩,g2⟩:=srt_heap (out:=out) hD;refine ⟨_,rfl,qAE ⟨_,rfl,j3 out.toList c _ p1 (by simpa using g1) fun b o e=>g2 b o (ne b o e) (qAI _ e)⟩⟩
end
end ST
namespace L2
open PySem PySem.Spec PyProof.Rows
section
variable {X:Cx} {pins:List (Addr×Obj)} {s:Shared} {σ:St} {H:Hp}
theorem zHw {k:Nat} (hr:Room k X.A):zCu X (.builtin "sorted") (fun xs H Q=>∃(a:Addr) (ys:List (List Str×Addr)),xs=[.ref a]/\H a=some (TSt X.prog X.w a ys)/\(∀p∈ys,RowT X.K H p)/\(∀p∈ys,p.1≠[])/\ys.length<=306 /\
  ∀(b:Addr) (zs:List (List Str×Addr)),H b=none->zs.Perm ys->Q (.ref b) (upd H b (.lst (zs.map fun p=>V.ref p.2)))):=by
 intro pins s σ H xs us Q I r h;obtain ⟨a,ys,rfl,ha,hk,hne,hc,q⟩:=h;obtain ⟨u,rfl,rx⟩:=vals1 r
 cases rx
 obtain ⟨⟨o,es,ep,t,z1,z2,z3,z4,z5,z6,z7,z8⟩,_⟩:=I.hok a _ ha;have Z:ST.SetX (PySem.strKind X.prog X.w) s.heap a ys o es ep t:=⟨z1,z2,z3,z4,z5,z6,z7,fun p hp=>I.rowT (hk p hp),z8⟩
 refine ST.w_sortedCP (kd:=tuples' true) (κ:=ST.tupK fun b=>(ys.find? fun p=>p.2==b).map (·.1))
  (J:=fun vs s1=>vs.Perm (ys.map fun p=>Value.ref p.2)/\(∀b o,s.heap.get? b=some o->s1.heap.get? b=some o)/\s1.gens=s.gens/\s1.os=s.os)
  (ST.w_collect (A:=X.A.in1) hr.hd Z hc fun s' vs v1 v2 v3 v4 _=>⟨v1,v2,v3,v4⟩) fun vs s1 ⟨v1,v2,v3,v4⟩=>?_
 have hvl:vs.length=ys.length:=by rw [v1.length_eq,qAD]
 refine ⟨by lia,fun h' up=>ST.tups_sortable v1 (fun p hp=>ST.key_kept (I.rowT (hk p hp)) fun o e=>up _ o (v2 _ o e)) hne,fun out c h' p1 p3 up=>?_⟩;obtain ⟨zs,e1,e2⟩:=perm_back _ (p1.trans v1);subst e2;have I1:Inv X pins σ H s1:=I.call' (ch:=[]) v4 (Un.kept v2) (I.hok.kept v2) (by rw [v3];exact I.bare) (fun _ z=>nomatch z)
 have hz:(zs.map fun p=>V.ref p.2).length<=sizeLine:=by
  rw [qAD,e1.length_eq];exact qAc hc (by decide +kernel)
 exact ⟨.ref s1.heap.objs.size,_,I1.laid (t':=s1.toks) up (qAF _) (show zBb X.prog X.w _ h' _ (.lst (zs.map fun p=>V.ref p.2)) from ⟨hz,_,c,refs_vals zs,p3⟩),rfl,q _ zs (I1.hok.fresh (qAF _)) e1⟩
end
end L2
namespace My
open PySem L2
variable {P:Program}{w:World}{K:PySem.W.Frag}{mg:Str->Option Value}{base:Heap}{C:Addr}
variable {X:Cx}{n x a b:Str}{pos:Pos}{qs:List (List Str×Addr)}{f l C d:Addr}{fd:FuncData}{H H' H0:Hp}{α:Type}{ns:List Str}{sp:Sp}{r:Str->Nat}
theorem zGf (f:Str) (v:V):∀fs:List (Str×V),(putF f v fs).length<=fs.length+1
 | []=>qAF _
 | (g,x)::r=>by
  unfold putF;split
  ·exact qBL _
  ·have:=zGf f v r;simp only [qAe];lia
theorem call_setTP {P:Program} {w:World} {K:PySem.W.Frag} {k:Nat} (hr:Room k X.A) (hP:X.prog=P:=by rfl) (hw:X.w=w:=by rfl) (hK:X.K=K:=by rfl):zCu X (.type "set") (fun xs H Q=>∃(l:Addr) (ks:List (List Str×Addr)),xs=[.ref l]/\SqL K H l (ks.map fun p=>V.ref p.2)/\(∀p∈ks,RowT K H p)/\ks.length<=306 /\
  ∀a ys,H a=none->(∀p∈ys,p∈ks)->(∀p∈ks,p.1∈ys.map (·.1))->(ys.map (·.1)).Nodup->ys.length<=ks.length->Q (.ref a) (upd H a (TSt P w a ys))):=by
 subst hP hw hK;exact call_setT hr
theorem zHx {P:Program} {w:World} {K:PySem.W.Frag} {k:Nat} (hr:Room k X.A) (hP:X.prog=P:=by rfl) (hw:X.w=w:=by rfl) (hK:X.K=K:=by rfl):zCu X (.builtin "sorted") (fun xs H Q=>∃(a:Addr) (ys:List (List Str×Addr)),xs=[.ref a]/\H a=some (TSt P w a ys)/\(∀p∈ys,RowT K H p)/\(∀p∈ys,p.1≠[])/\ys.length<=306 /\
  ∀(b:Addr) (zs:List (List Str×Addr)),H b=none->zs.Perm ys->Q (.ref b) (upd H b (.lst (zs.map fun p=>V.ref p.2)))):=by
 subst hP hw hK;exact zHw hr
theorem zFu {K:PySem.W.Frag} {es:List Expr} {k:Nat} {t:TGs} {n:Nat} (hc:X.calm=true) (h:PGs X es t)
  (hn:(assignEach es X.env).length=n:=by rfl) (hst:(assignEach es X.env).findIdx? (·.1)=none:=by rfl) (hK:X.K=K:=by rfl):PG X (.Tuple es k pos) (gTup K n t):=by
 subst hK;exact zG0 hc h hn hst
theorem zJa :x∈told qs n↔∃q∈qs,snd q=n/\fst q=x:=by
 unfold told;simp only [qAJ,qA3,qBH];exact ⟨fun ⟨q,⟨a,b⟩,c⟩=>⟨q,a,b,c⟩,fun ⟨q,a,b,c⟩=>⟨q,⟨a,b⟩,c⟩⟩
theorem fst_of {q q':List Str×Addr} (h:q.1=q'.1):fst q=fst q'/\snd q=snd q':=by unfold fst snd;rw [h];exact ⟨rfl,rfl⟩
section
structure Good (ns:List Str) (qs:List (List Str×Addr)) (r:Str->Nat):Prop where
 nm:∀n∈ns,zB9 n
 nd:ns.Nodup
 few:ns.length<=20
 qfew:qs.length<=306
 qin:∀q∈qs,∀x∈q.1,x∈ns
 rk:∀q∈qs,r (fst q)<r (snd q)
structure JNew (H:Hp) (J:JR):Prop where
 r:Fre H J.r
 p:Fre H J.p
 e:Fre H J.e
 z:∀q∈J.zs,Fre H q.2
 s:∀n∈J.D,Fre H (J.fa n)
def spInit (C:Addr):Sp:=fun vs H Q _=>∃(x dx l m:Addr) (ns:List Str) (qs:List (List Str×Addr)) (r:Str->Nat),vs=[.ref x,.ref l,.ref m]/\H x=some (.ins C dx [])/\Txs H l ns/\Ords H m qs/\Good ns qs r /\
 ∀J H',JobsAt C H' x J->JNew H J->J.ns=ns->(∀k,k∈J.zs.map (·.1)↔k∈qs.map (·.1))->Kp [x] H H'->Q .non H'
abbrev zB1:Stmt:=zHg (top 34) 0
theorem zF8:FnScope ["self", "names", "orders"] ["self", "names", "orders"] (zAe zB1):=fnS
theorem ok_Jobs_init (F:Fun K "__init__" "Jobs.__init__" zB1 f fd) (T:Txt K mg) (U:JC K mg C) (C_check_names:Cal P w K mg base "check_names" 2 ["names"] zF2) (C_check_parts:Cal P w K mg base "check_parts" 3 ["names", "orders"] zF1)
  (C_all_ahead:Cal P w K mg base "all_ahead" 2 ["names", "told"] zH2) (C_told_ahead:Cal P w K mg base "told_ahead" 1 ["names", "orders"] zGq):FnOk P w K mg base CX0 4 f fd ["self", "names", "orders"] (spInit C):=by
 refine F.ok zF8 (fun vs H Q E h=>?_) (fun cdv A outer s H vs Q E hr h=>?_)
 ·obtain ⟨x,dx,l,m,ns,qs,r,rfl,_⟩:=h;rfl
 ·obtain ⟨x,dx,l,m,ns,qs,r,rfl,hx,hl,hm,G,k⟩:=h;have HR_check_parts:=hr;have HR_check_names:=hr.mono (j:=2) (by decide);have HR_all_ahead:=hr.mono (j:=2) (by decide);have HR_told_ahead:=hr.mono (j:=1) (by decide)
  refine ⟨_,(zAc (zA2 (zAf C_check_names HR_check_names rfl (zAa (pv 1) zAb)))
   (zAc (zA2 (zAf C_check_parts HR_check_parts rfl (zAa (pv 1) (zAa (pv 2) zAb))))
   (zAc (ps_fld (pv 0) (zAq zAy (by rfl) T.z_list zBi (zAa (pv 1) zAb)) rfl)
   (zAc (ps_fld (pv 0) (zAj (zHx (P:=P) (w:=w) (K:=K) HR_told_ahead) (by rfl) T.z_sorted bo_sorted (zAa (zAq (call_setTP (P:=P) (w:=w) (K:=K) HR_told_ahead) (by rfl) T.z_set bo_set (zAa (zBl rfl (zBe (sc:=zAe zB1) rfl (by decide +kernel)) (Draws.own (x:= "one") (Draws.own (x:= "other") Draws.nil)) (zAp (pv 2)) (fun _ _ _ _=>(zFu (K:=K) (n:=2) rfl (zAt (pgB (i:=0)) (zAt (pgB (i:=1)) zCf)))) (fun _ _ _ _=>zBr) (fun _ _ _ _=>(zA9 (zAa (pv 0) (zAa (pv 1) zAb))))) zAb)) zAb)) rfl)
   (zAd (ps_fld (pv 0) (zAf C_all_ahead HR_all_ahead rfl (zAa (zEr (pv 0) rfl) (zAa (zAf C_told_ahead HR_told_ahead rfl (zAa (zEr (pv 0) rfl) (zAa (zEr (pv 0) rfl) zAb))) zAb))) rfl)))))),?_⟩
  refine ⟨_,rfl,l,ns,rfl,hl,G.few,G.nm,G.nd,fun H1 k1=>?_⟩;have hm1:=hm.kp k1 (by simp) (by simp);refine ⟨_,rfl,_,rfl,l,m,ns,qs,rfl,k1 l _ hl (by simp),hm1,G.qin,?_⟩;have hx1:=k1 x _ hx (by simp);refine ⟨_,rfl,_,_,rfl,.inl (SqL.of (k1 l _ hl (by simp))),fun r1 hr1=>?_⟩;have nxr:x≠r1:=ne_fre hr1 hx1;refine ⟨_,rfl,_,_,_,_,rfl,(upd_ne nxr).trans hx1,U.cl,U.n_row,(by decide),?_⟩
  have hm2:∀o1 o2,Ords (upd (upd H1 r1 o1) x o2) m qs:=fun o1 o2 =>
   ⟨(upd_ne (zBw hm1.top hx1 (fun z=>nomatch z))).trans ((upd_ne (ne_fre hr1 hm1.top)).trans hm1.top),fun q hq=>(upd_ne (zBw (hm1.row q hq) hx1 (fun z=>nomatch z))).trans ((upd_ne (ne_fre hr1 (hm1.row q hq))).trans (hm1.row q hq)),hm1.two⟩
  have hrow2:∀o2,Txs (upd (upd H1 r1 (.lst (ns.map V.str))) x o2) r1 ns:=fun o2=>(upd_ne nxr.symm).trans upd_same;have k2:∀o1 o2,Kp [x] H (upd (upd H1 r1 o1) x o2):=fun o1 o2=>Kp.put (Kp.new (k1.weak (by simp)) (k1.fre hr1 (by simp))) (by simp);have hx2:∀o1 o2,(upd (upd H1 r1 o1) x o2) x=some o2:=fun o1 o2=>upd_same;have hm2:=hm2 (.lst (ns.map V.str)) (.ins C dx (putF "row" (.ref r1) []));have hrow2:=hrow2 (.ins C dx (putF "row" (.ref r1) []));have k2:=k2 (.lst (ns.map V.str)) (.ins C dx (putF "row" (.ref r1) []));have hx2:=hx2 (.lst (ns.map V.str)) (.ins C dx (putF "row" (.ref r1) []));generalize hH2:upd (upd H1 r1 (.lst (ns.map V.str))) x (.ins C dx (putF "row" (.ref r1) []))=H2 at hm2 hrow2 k2 hx2 ⊢
  refine ⟨_,rfl,_,rfl,⟨_,SqL.of hm2.top⟩,fun B hB=>zA5 (qs.map fun q=>V.ref q.2) (fun i ys τ H3=>∃ks:List (List Str×Addr),(∃o0 o1,τ=[o0,o1])/\ys=(ks.map fun q=>V.ref q.2)/\ks.map (·.1)=(qs.take i).map (·.1)/\(∀q∈ks,H3 q.2=some (.tup (q.1.map V.str)))/\(∀q∈ks,Fre H2 q.2)/\Kp [] H2 H3/\H3 B=some (.lst ys))
   ⟨[],⟨_,_,rfl⟩,rfl,rfl,(fun q h=>nomatch h),(fun q h=>nomatch h),Kp.new Kp.refl hB,upd_same⟩ (fun i ys τ H3 ⟨_,_,_,_,_,_,k3,_⟩=>SqL.of (k3 m _ hm2.top (by simp))) ?_ ?_⟩
  ·rintro i v ys τ H3 hv ⟨ks,⟨o0,o1,rfl⟩,rfl,ek,hk,fk,k3,h3⟩;obtain ⟨q,eq,rfl⟩:=zGw hv;have mq:=qAL eq;obtain ⟨a,b,eab⟩:=hm2.two q mq
   have hrow:H3 q.2=some (.tup [.str a,.str b]):=by
    have:=k3 q.2 _ (hm2.row q mq) (by simp);rw [eab] at this;exact this
   refine ⟨_,_,rfl,.inl (.inl hrow),rfl,_,_,rfl,_,_,rfl,rfl,?_⟩;have hlen:ks.length=(qs.take i).length:=by have:=qAa List.length ek;simpa using this
   refine ⟨_,rfl,_,rfl,(by walk_at "ln"),fun t ht=>?_⟩;have ft:Fre H3 t:=ht;have nBt:B≠t:=ne_fre ft h3;refine ⟨(upd_ne nBt).trans h3,?_,ks++[([a,b],t)],⟨_,_,rfl⟩,?_,?_,fun q' hq'=>?_,fun q' hq'=>?_,?_,?_⟩
   ·rw [qAD,hlen,qAX,qAO];have:=G.qfew;lia
   ·rw [qAM];rfl
   ·rw [qAM,ek,zAi eq,qAM,qAi,qAi,eab]
   ·rcases qAN.mp hq' with z| z
    ·exact (upd_ne (zBw (hk q' z) h3 (fun y=>nomatch y))).trans ((upd_ne (ne_fre ft (hk q' z))).trans (hk q' z))
    ·rw [qAQ.mp z];exact (upd_ne nBt.symm).trans upd_same
   ·rcases qAN.mp hq' with z| z
    ·exact fk q' z
    ·rw [qAQ.mp z];exact k3.fre ft (by simp)
   ·exact Kp.new (Kp.new k3 (k3.fre ft (by simp))) hB
   ·exact upd_same
  ·rintro ys τ H3 ⟨ks,_,rfl,ek,hk,fk,k3,h3⟩;have eT:qs.take (qs.map fun q=>V.ref q.2).length=qs:=by rw [qAD,qAf]
   rw [eT] at ek;have hlen:ks.length=qs.length:=by have:=qAa List.length ek;simpa using this
   have ktwo:∀q∈ks,∃a b,q.1=[a,b]:=fun q hq=>by
    have:q.1∈ks.map (·.1):=qAJ.mpr ⟨q,hq,rfl⟩;rw [ek] at this;obtain ⟨q',hq',e⟩:=qAJ.mp this;rw [<-e];exact hm2.two q' hq'
   refine ⟨B,ks,rfl,SqL.of h3,fun q hq=>.inl (.inl (hk q hq)),by rw [hlen];exact G.qfew,fun sa yk hsa y1 y2 y3 y4=>?_⟩;have fsa:Fre H3 sa:=hsa;refine ⟨sa,yk,rfl,upd_same,fun q hq=>.inl (.inl ((upd_ne (ne_fre fsa (hk q (y1 q hq)))).trans (hk q (y1 q hq)))),fun q hq=>?_,by have:=G.qfew;lia,fun p zs hp z1=>?_⟩
   ·obtain ⟨a,b,e⟩:=ktwo q (y1 q hq);rw [e];simp
   have fp:Fre (upd H3 sa (TSt P w sa yk)) p:=hp;have zk:∀q∈zs,q∈ks:=fun q hq=>y1 q (z1.mem_iff.mp hq)
   have zq:∀q∈zs,∃q'∈qs,q'.1=q.1:=fun q hq=>by
    have:q.1∈ks.map (·.1):=qAJ.mpr ⟨q,zk q hq,rfl⟩;rw [ek] at this;exact qAJ.mp this
   have zin:∀q∈zs,∀x∈q.1,x∈ns:=fun q hq x hx=>by
    obtain ⟨q',h1,h2⟩:=zq q hq;exact G.qin q' h1 x (by rw [h2];exact hx)
   have zrk:∀q∈zs,r (fst q)<r (snd q):=fun q hq=>by
    obtain ⟨q',h1,h2⟩:=zq q hq;obtain ⟨e1,e2⟩:=fst_of h2;rw [<-e1,<-e2];exact G.rk q' h1
   have zlen:zs.length<=306:=by rw [z1.length_eq];have:=G.qfew;lia
   have zset:∀k,k∈zs.map (·.1)↔k∈qs.map (·.1):=fun k=>by
    rw [<-ek,(z1.map (·.1)).mem_iff]
    exact ⟨fun h=>by
     obtain ⟨q,h1,h2⟩:=qAJ.mp h;exact qAJ.mpr ⟨q,y1 q h1,h2⟩,fun h=>by
     obtain ⟨q,h1,h2⟩:=qAJ.mp h;rw [<-h2];exact y2 q h1⟩
   have k4:Kp [] H2 (upd (upd H3 sa (TSt P w sa yk)) p (.lst (zs.map fun q=>V.ref q.2))):=by
    have h1:Kp [] H2 (upd H3 sa (TSt P w sa yk)):=Kp.new k3 (k3.fre fsa (by simp));exact Kp.new h1 (h1.fre fp (by simp))
   have hzs4:Ords (upd (upd H3 sa (TSt P w sa yk)) p (.lst (zs.map fun q=>V.ref q.2))) p zs:=⟨upd_same,fun q hq=>by
    have h1:upd H3 sa (TSt P w sa yk) q.2=some (.tup (q.1.map V.str)):=(upd_ne (ne_fre fsa (hk q (zk q hq)))).trans (hk q (zk q hq));exact (upd_ne (ne_fre fp h1)).trans h1,fun q hq=>ktwo q (zk q hq)⟩
   generalize hH4:upd (upd H3 sa (TSt P w sa yk)) p (.lst (zs.map fun q=>V.ref q.2))=H4 at k4 hzs4 ⊢;have hx4:=k4 x _ hx2 (by simp);refine ⟨_,rfl,_,_,_,_,rfl,hx4,U.cl,U.n_pairs,(by have:=zGf "row" (V.ref r1) [];simp only [qBV] at this;lia),?_⟩;have hx5:(upd H4 x (.ins C dx (putF "pairs" (.ref p) (putF "row" (.ref r1) [])))) x=some (.ins C dx (putF "pairs" (.ref p) (putF "row" (.ref r1) []))):=upd_same;have hrow5:Txs (upd H4 x (.ins C dx (putF "pairs" (.ref p) (putF "row" (.ref r1) [])))) r1 ns:=(upd_ne nxr.symm).trans (k4 r1 _ hrow2 (by simp));have hzs5:Ords (upd H4 x (.ins C dx (putF "pairs" (.ref p) (putF "row" (.ref r1) [])))) p zs:=⟨(upd_ne (zBw hzs4.top hx4 (fun z=>nomatch z))).trans hzs4.top,fun q hq=>(upd_ne (zBw (hzs4.row q hq) hx4 (fun z=>nomatch z))).trans (hzs4.row q hq),hzs4.two⟩;have k5:Kp [x] H (upd H4 x (.ins C dx (putF "pairs" (.ref p) (putF "row" (.ref r1) [])))):=Kp.put (k2.trans (k4.weak (by simp))) (by simp);generalize hH5:upd H4 x (.ins C dx (putF "pairs" (.ref p) (putF "row" (.ref r1) [])))=H5 at hx5 hrow5 hzs5 k5 ⊢
   have e_row:(putF "pairs" (.ref p) (putF "row" (.ref r1) [])).lookup ("row" : Str)=some (.ref r1):=by
    rw [zAw,qAB (by decide +kernel),zAw,qAC rfl]
   have e_prs:(putF "pairs" (.ref p) (putF "row" (.ref r1) [])).lookup ("pairs" : Str)=some (.ref p):=by
    rw [zAw,qAC rfl]
   refine ⟨_,rfl,_,_,_,_,_,rfl,hx5,U.cl,U.n_row,e_row,_,rfl,_,_,_,_,_,rfl,hx5,U.cl,U.n_row,e_row,_,rfl,_,_,_,_,_,rfl,hx5,U.cl,U.n_pairs,e_prs,r1,p,ns,zs,rfl,hrow5,hzs5,G.nd,G.few,by lia,zin,fun d la H6 DD k6=>?_⟩;refine ⟨r1,d,ns,la,told zs,r,rfl,k6 r1 _ hrow5 (by simp),G.nd,G.few,DD.top,fun n hn=>⟨DD.row n hn,qAc (told_len zs n) (by lia),fun y hy=>?_⟩,fun e D fa S H7 FF all k7=>?_⟩
   ·obtain ⟨q,h1,h2,h3⟩:=zJa.mp hy;obtain ⟨a,b,eab⟩:=hzs5.two q h1;refine ⟨?_,by rw [<-h2,<-h3];exact zrk q h1⟩;rw [<-h3];refine zin q h1 _ ?_;unfold fst;rw [eab];simp
   have k57:Kp [] H5 H7:=k6.trans k7;have hx7:=k57 x _ hx5 (by simp);refine ⟨_,rfl,_,_,_,_,rfl,hx7,U.cl,U.n_above,?_,?_⟩
   ·have h1:=zGf "row" (V.ref r1) [];have h2:=zGf "pairs" (V.ref p) (putF "row" (V.ref r1) []);simp only [qBV] at h1;lia
   have f2H:∀a,Fre H2 a->Fre H a:=fun a ha=>k2.fre ha (nm1 fun z=>by
    subst z;have:H2 a=some _:=hx2;unfold Fre at ha;rw [ha] at this;exact nomatch this)
   have k3p:Kp [] H2 (upd H3 sa (TSt P w sa yk)):=Kp.new k3 (k3.fre fsa (by simp));have fpx:Fre H2 p:=k3p.fre fp (by simp)
   have f52:∀a,Fre H5 a->Fre H2 a:=fun a ha=>by
    have h1:Fre H4 a:=by
     have nax:a≠x:=fun z=>by
      subst z;unfold Fre at ha;rw [ha] at hx5;exact nomatch hx5
     have:H5 a=H4 a:=by rw [<-hH5];exact upd_ne nax
     unfold Fre at ha ⊢;rw [<-this];exact ha
    exact k4.fre h1 (by simp)
   have fex:Fre H2 e:=f52 e (k6.fre FF.fr (by simp));have ffx:∀n∈D,Fre H2 (fa n):=fun n hn=>f52 _ (k6.fre (FF.frs n hn) (by simp));refine k ⟨dx,r1,p,e,ns,zs,D,fa,S⟩ _ ⟨upd_same,?_,⟨?_,fun q hq=>?_,hzs5.two⟩,?_,all,fun n hn=>?_,G.few,zlen,G.nd,zin,fun n hn y=>FF.mem n (all n hn) y⟩ ⟨k1.fre hr1 (by simp),f2H p fpx,f2H e fex,fun q hq=>f2H q.2 (fk q (zk q hq)),fun n hn=>f2H _ (ffx n hn)⟩ rfl zset (Kp.put (k5.trans (k57.weak (by simp))) (by simp))
   ·exact (upd_ne nxr.symm).trans (k57 r1 _ hrow5 (by simp))
   ·have h1:=k57 p _ hzs5.top (by simp);exact (upd_ne (zBw h1 hx7 (fun z=>nomatch z))).trans h1
   ·have h1:=k57 _ _ (hzs5.row q hq) (by simp);exact (upd_ne (zBw h1 hx7 (fun z=>nomatch z))).trans h1
   ·exact (upd_ne (zBw FF.top hx7 (fun z=>nomatch z))).trans FF.top
   ·exact (upd_ne (zBw (FF.row n hn) hx7 (fun z=>nomatch z))).trans (FF.row n hn)
end
def zBv:List Str:=zEa.cps.toList.map fun c=>⟨#[c]⟩
theorem zEu:zBv.length=26:=by
 unfold zBv;rw [zD9];simp
theorem singles_nd:zBv.Nodup:=by decide +kernel
theorem single_ok (h:x∈zBv):zB9 x:=by
 unfold zBv at h;rw [zD9] at h;obtain ⟨c,hc,rfl⟩:=qAJ.mp h;obtain ⟨i,hi,rfl⟩:=qAJ.mp hc;have:=qA4.mp hi;refine ⟨qAF 1,by show 1<=8;decide,fun d hd=>?_⟩;have:d=97+i:=by simpa using hd
 lia
theorem some_single {found:List Str} (h:found.length<=20):(zBv.filter fun x=>decide (x∉found))≠[]:=fun z=>by
 have:zBv.length<=found.length:=zDy singles_nd fun x hx=>by
  apply qBO;intro y;have:x∈zBv.filter fun x=>decide (x∉found):=qA3.mpr ⟨hx,qAR y⟩;rw [z] at this;exact nomatch this
 rw [zEu] at this;lia
section
def spLNames:Sp:=fun vs H Q _=>∃(p:Addr) (m:Int),vs=[.ref p,.int m]/\zBa H p/\0<=m/\m<=20/\∀(l:Addr) (ns:List Str) (H':Hp),Fre H l->Txs H' l ns->ns.length=m.toNat->ns.Nodup->(∀n∈ns,zB9 n)->zBa H' p->Kp [p] H H'->Q (.ref l) H'
abbrev zIt:Stmt:=top 43
theorem zCx:FnScope ["_law_purse_here", "_law_many", "_law_letters", "_law_found", "_law_k", "_law_word", "_law_j"] ["_law_purse_here", "_law_many"] (zAe zIt):=fnS
theorem ok_names (F:Fun K "_law_names" "_law_names" zIt f fd) (T:Txt K mg) (C_take:Cal P w K mg base "_law_take" 1 ["_law_purse_here", "_law_many"] zEq):FnOk P w K mg base CX0 2 f fd ["_law_purse_here", "_law_many"] spLNames:=by
 refine F.ok zCx (fun vs H Q E h=>?_) (fun cdv A outer s H vs Q E hr h=>?_)
 ·obtain ⟨p,m,rfl,_⟩:=h;rfl
 ·obtain ⟨p,m,rfl,hP,h0,h1,k⟩:=h;have HR_take:=hr
  refine ⟨_,(zAc (psS (i:=2) zCx.nd zA4)
   (zAc (psS (i:=3) zCx.nd (zA6 zAb))
   (zAc (zAz qAZ rfl (zB2 rfl T.z_range (zAa (pv 1) zAb)) (pgN (i:=4) zCx.nd)
    (zAc (psS (i:=5) zCx.nd zA4)
    (zAc (zAz qAZ rfl (zB2 rfl T.z_range (zAa (zAv zBn zAh (zAv zFd (zAf C_take HR_take rfl (zAa (pv 0) (zAa zAh zAb))) (zAf C_take HR_take rfl (zAa (pv 0) (zAa zAh zAb))))) zAb)) (pgN (i:=6) zCx.nd)
     (zAd (psS (i:=5) zCx.nd (zAv op_add_str (pv 5) (zBg ix_str (pv 2) (zAf C_take HR_take rfl (zAa (pv 0) (zAa zAh zAb))) (fun _ _=>rfl))))))
    (zAc (zA0 (zAn zCr (pv 5) (pv 3) (by rfl))
     (zAd (psS (i:=5) zCx.nd (zBg zAx (zBl rfl (zBe (sc:=zAe zIt) rfl (by decide +kernel)) (Draws.own (x:= "_law_letter") (dtk (i:=3) rfl Draws.nil)) (pi_str (pv 2)) (fun _ _ _ _=>(pgB (i:=0))) (fun _ _ _ _=>(zDp (zAn (zDr (K:=K)) (pv 0) (pv 1) (by rfl)))) (fun _ _ _ _=>(pv 0))) zAh (fun _ _=>rfl))))
     zAk)
    (zAd (zA2 (zC5 qAt qCM qCN zCs (pv 3) (zAa (pv 5) zAb))))))))
   (zAd (zAm (pv 3)))))),?_⟩
  refine ⟨(by walk_at "ln"),fun l hl=>?_⟩;have fl:Fre H l:=hl;have npl:p≠l:=by obtain ⟨a,b,e,_⟩:=hP;exact ne_fre fl e
  have hP1:zBa (upd H l (.lst [])) p:=hP.kp (M:=[]) (Kp.new Kp.refl fl) (by simp)
  refine ⟨_,rfl,_,rfl,by lia,by lia,zB4 (lo:=0) (n:=m.toNat) (fun i σ H2=>∃(o4 o5 o6:Option V) (ws:List Str),σ=[some (.ref p),some (.int m),some (.str zEa),some (.ref l),o4,o5,o6]/\zBa H2 p/\Kp [p] H H2/\Txs H2 l ws/\ws.length=i/\ws.Nodup/\∀s∈ws,zB9 s)
   ⟨none,none,none,[],rfl,hP1,Kp.new Kp.refl fl,upd_same,rfl,qBP,fun s h=>nomatch h⟩ ?_ ?_⟩
  ·rintro i σ H2 hi ⟨o4,o5,o6,ws,rfl,P2,K2,R2,e2,n2,q2⟩;refine ⟨_,rfl,p,2,rfl,P2,by decide,by decide,fun d1 H3 a0 a1 P3 K3=>?_⟩;refine ⟨_,rfl,p,8,rfl,P3,by decide,by decide,fun d2 H4 b0 b1 P4 K4=>?_⟩;have hm0:0<=d1*d2:=Int.mul_nonneg a0 b0
   have hm1:d1*d2<=7:=by
    have:d1*d2<=1*7:=Int.mul_le_mul (by lia) (by lia) b0 (by decide);lia
   have K24:Kp [p] H2 H4:=K3.trans K4
   refine ⟨_,_,rfl,rfl,(by walk_at "ml"),_,_,rfl,rfl,_,rfl,by lia,by lia,zB4 (lo:=0) (n:=(1+d1*d2).toNat) (fun n σ H7=>∃(o4 o6:Option V) (x:Str),σ=[some (.ref p),some (.int m),some (.str zEa),some (.ref l),o4,some (.str x),o6]/\zBa H7 p/\Kp [p] H2 H7/\WordS n x)
    ⟨_,_,_,rfl,P4,K24,rfl,(fun c h=>absurd (show c∈([]:List Nat) from h) (by simp))⟩ ?_ ?_⟩
   ·rintro n σ H7 hn ⟨o4,o6,x,rfl,P8,K7,W⟩;refine ⟨_,rfl,_,rfl,_,rfl,p,26,rfl,P8,by decide,by decide,fun d4 H8 e0 e1 P9 K8=>?_⟩;refine ⟨_,_,_,rfl,rfl,by decide,letters_at e0 e1,_,_,rfl,rfl,?_,?_⟩
    ·rw [W.1];show n+1<=sizeLine;rw [qAO];lia
    ·exact ⟨_,_,_,rfl,P9,K7.trans K8,W.more (by lia) (by lia)⟩
   ·rintro σ H7 ⟨o4,o6,x,rfl,P8,K7,W⟩;have h7:Txs H7 l ws:=K7 l _ R2 (nm1 npl.symm);have NX:zB9 x:=⟨by have:=W.1;lia,by have:=W.1;lia,W.2⟩;refine ⟨_,rfl,_,rfl,_,_,rfl,.inl (SqL.of h7),rfl,zBt ws,_,rfl,?_⟩;rw [qAB (by decide),zC6];refine if_mid (fun σ H8=>∃(y:Str),σ=[some (.ref p),some (.int m),some (.str zEa),some (.ref l),o4,some (.str y),o6]/\Kp [] H7 H8/\zB9 y/\y∉ws) (fun N hN=>ite2 (fun c=>?_) (fun c=>?_)) ?_
    ·-- _law_word=[..][0]
     refine ⟨_,rfl,_,rfl,fun B hB=>comp_str (z:=zEa) (fun i ys τ H8=>(∃o0,τ=[o0,some (.ref l)])/\ys=((zBv.take i).filter fun x=>decide (x∉ws)).map V.str/\H8=upd H7 B (.lst ys)) ⟨⟨_,rfl⟩,rfl,rfl⟩ ?_ ?_⟩
     ·rintro i c ys τ H8 hc ⟨⟨o0,rfl⟩,rfl,rfl⟩;have en:zBv[i]?=some ⟨#[c]⟩:=by unfold zBv;rw [qAY,hc];rfl
      refine ⟨_,rfl,_,rfl,_,_,rfl,.inl (SqL.of ((upd_ne (ne_fre (show Fre H7 B from hB) h7)).trans h7)),rfl,zBt ws,_,rfl,?_⟩;rw [qAC rfl,zC6]
      have ed:(!decide ((⟨#[c]⟩:Str)∈ws))=decide ((⟨#[c]⟩:Str)∉ws):=by
       by_cases z:(⟨#[c]⟩:Str)∈ws
       ·simp [z]
       ·simp [z]
      rw [ed];refine ite2 (fun c=>?_) (fun c=>?_)
      ·refine ⟨_,rfl,upd_same,?_,⟨_,rfl⟩,?_,zCc⟩
       ·rw [qAD];exact zEl (by rw [zEu];decide)
       ·rw [zDt (p:=fun x=>decide (x∉ws)) en c,qAM];rfl
      ·refine ⟨⟨_,rfl⟩,?_,?_⟩
       ·rw [zEb (p:=fun x=>decide (x∉ws)) en c]
       ·rfl
     ·rintro ys τ H8 ⟨_,rfl,rfl⟩;have eT:zBv.take zEa.length=zBv:=qBk (by rw [zEu];decide);rw [eT];have hne:=some_single (found:=ws) (by lia)
      have hmm:∀y,y∈(zBv.filter fun x=>decide (x∉ws))->zB9 y/\y∉ws:=fun y hy=>by
       have:=qA3.mp hy;exact ⟨single_ok this.1,qAo this.2⟩
      generalize (zBv.filter fun x=>decide (x∉ws))=L at hne hmm
      obtain ⟨y,r,rfl⟩:∃y r,L=y::r:=by
       cases L with
       | nil=>exact absurd rfl hne
       | cons y r=>exact ⟨y,r,rfl⟩
      refine ⟨_,_,_,.str y,rfl,rfl,SqL.of upd_same,zCa (by decide) rfl,?_⟩;exact hN _ _ ⟨y,rfl,Kp.new Kp.refl hB,(hmm y qAV).1,(hmm y qAV).2⟩
    ·exact hN _ _ ⟨x,rfl,Kp.refl,NX,fun z=>c (qAR z)⟩
    ·rintro σ H8 ⟨y,rfl,K8,NY,ny⟩;have h8:Txs H8 l ws:=K8 l _ h7 (by simp);refine ⟨_,rfl,.inl ⟨rfl,_,SqL.of h8⟩,_,rfl,_,_,_,rfl,rfl,h8,?_,?_⟩
     ·rw [qAO,qAD];lia
     ·refine ⟨_,_,_,ws++[y],rfl,(P8.kp K8 (by simp)).kp (M:=[l]) (Kp.put Kp.refl (by simp)) (nm1 npl),Kp.new (K2.trans (K7.trans (K8.weak (by simp)))) fl,?_,by simp [e2],?_,fun s hs=>?_⟩
      ·show upd H8 l _ l=some (.lst ((ws++[y]).map V.str));rw [upd_same,qAM];rfl
      ·refine qCf.mpr ⟨n2,by simp,fun a ha b hb=>?_⟩;rw [qAQ.mp hb];rintro rfl;exact ny ha
      ·rcases qAN.mp hs with z| z
       ·exact q2 s z
       ·rw [qAQ.mp z];exact NY
  ·rintro σ H2 ⟨o4,o5,o6,ws,rfl,P2,K2,R2,e2,n2,q2⟩;exact ⟨_,rfl,k l ws H2 fl R2 e2 n2 q2 P2 K2⟩
end
structure ITs (H:Hp) (l:Addr) (ts:List ((Int×Int)×Addr)):Prop where
 top:H l=some (.lst (ts.map fun t=>V.ref t.2))
 row:∀t∈ts,H t.2=some (.tup [.int t.1.1,.int t.1.2])
theorem ITs.kp {M:List Addr} {ts:List ((Int×Int)×Addr)} (I:ITs H l ts) (k:Kp M H H') (h1:l∉M) (h2:∀t∈ts,t.2∉M):ITs H' l ts:=⟨k l _ I.top h1,fun t ht=>k _ _ (I.row t ht) (h2 t ht)⟩
theorem ITs.more {t:Addr} {a b:Int} {ts:List ((Int×Int)×Addr)} (I:ITs H l ts) (ht:H t=some (.tup [.int a,.int b])):ITs (upd H l (.lst (ts.map (fun t=>V.ref t.2)++[.ref t]))) l (ts++[((a,b),t)]):=by
 refine ⟨by rw [upd_same,qAM];rfl,fun q hq=>?_⟩;rcases qAN.mp hq with z| z
 ·exact (upd_ne (zBw (I.row q z) I.top (fun y=>nomatch y))).trans (I.row q z)
 ·rw [qAQ.mp z];exact (upd_ne (zBw ht I.top (fun y=>nomatch y))).trans ht
theorem ITs.same {ts:List ((Int×Int)×Addr)} (I:ITs H l ts):ITs (upd H l (.lst (ts.map (fun t=>V.ref t.2)++[]))) l ts:=by
 rw [qBK];exact ⟨upd_same,fun q z=>(upd_ne (zBw (I.row q z) I.top (fun y=>nomatch y))).trans (I.row q z)⟩
theorem tri_step (i:Nat):i*(i+1)+2*(i+1)=(i+1)*(i+2):=by
 rw [<-Nat.add_mul,Nat.mul_comm]
theorem inV12 (w:Int):inV (.int w) [.int 1,.int 2]=(decide (w=1)||decide (w=2)):=by
 show ((1==w)||((2==w)||false))=_
 by_cases h1:w=1
 ·subst h1;rfl
 ·by_cases h2:w=2
  ·subst h2;rfl
  ·rw [qAW h1,qAW h2,qAw.mpr (qAm h1),qAw.mpr (qAm h2)];rfl
def zC8 (m:Int) (ts:List ((Int×Int)×Addr)):Prop:=∀t∈ts,0<=t.1.1/\t.1.1<t.1.2/\t.1.2<m
theorem zC8.more {m a b:Int} {t:Addr} {ts:List ((Int×Int)×Addr)} (h:zC8 m ts) (h1:0<=a) (h2:a<b) (h3:b<m):zC8 m (ts++[((a,b),t)]):=fun q hq=>by
 rcases qAN.mp hq with z| z
 ·exact h q z
 ·rw [qAQ.mp z];exact ⟨h1,h2,h3⟩
section
def spLPairs:Sp:=fun vs H Q _=>∃(p:Addr) (m way thin:Int),vs=[.ref p,.int m,.int way,.int thin]/\zBa H p/\0<=m/\m<=20/\2<=thin/\thin<=12/\∀(l:Addr) (ts:List ((Int×Int)×Addr)) (H':Hp),Fre H l->ITs H' l ts->(∀t∈ts,Fre H t.2)->ts.length<=190->zC8 m ts->zBa H' p->Kp [p] H H'->Q (.ref l) H'
abbrev s_pairs:Stmt:=top 44
theorem zCw:FnScope ["_law_purse_here", "_law_many", "_law_way", "_law_thin", "_law_pairs_here", "_law_j", "_law_far", "_law_i", "_law_near"] ["_law_purse_here", "_law_many", "_law_way", "_law_thin"] (zAe s_pairs):=fnS
theorem ok_pairs (F:Fun K "_law_pairs" "_law_pairs" s_pairs f fd) (T:Txt K mg) (C_take:Cal P w K mg base "_law_take" 1 ["_law_purse_here", "_law_many"] zEq):FnOk P w K mg base CX0 2 f fd ["_law_purse_here", "_law_many", "_law_way", "_law_thin"] spLPairs:=by
 refine F.ok zCw (fun vs H Q E h=>?_) (fun cdv A outer s H vs Q E hr h=>?_)
 ·obtain ⟨p,m,way,thin,rfl,_⟩:=h;rfl
 ·obtain ⟨p,m,way,thin,rfl,hP,h0,h1,t0,t1,k⟩:=h;have HR_take:=hr
  refine ⟨_,(zAc (psS (i:=4) zCw.nd (zA6 zAb))
   (zAc (zAz qAZ rfl (pi_range2 rfl T.z_range (zAa zAh (zAa (pv 1) zAb))) (pgN (i:=5) zCw.nd)
    (zAc (psS (i:=6) zCw.nd zAh)
    (zAc (zA0 (zAn zDd (pv 2) zAh (zAr _))
     (zAc (psS (i:=6) zCw.nd (zAf C_take HR_take rfl (zAa (pv 0) (zAa (zAv zBn (zAv zFc (pv 1) (pv 5)) zAh) zAb))))
     (zAd (zA2 (zC5 qAt qDO qDP zG6 (pv 4) (zAa (zAv op_rep (zA6 (zAa (zA9 (zAa (zAv zFc (pv 5) zAh) (zAa (zAv zBn (zAv zFc (pv 5) zAh) (pv 6)) zAb))) zAb)) (zAq zEe (by rfl) T.z_int zIb (zAa (zCg op_gt (pv 6) zAh (zAr _)) zAb))) zAb)))))
     zAk)
    (zAc (zA0 (zAn zDd (pv 2) zAh (zAr _))
     (zAc (psS (i:=6) zCw.nd (zAf C_take HR_take rfl (zAa (pv 0) (zAa (zAv zBn (pv 5) zAh) zAb))))
     (zAd (zA2 (zC5 qAt qDO qDP zG6 (pv 4) (zAa (zAv op_rep (zA6 (zAa (zA9 (zAa (zAv zFc (pv 5) (pv 6)) (zAa (pv 5) zAb))) zAb)) (zAq zEe (by rfl) T.z_int zIb (zAa (zCg op_gt (pv 6) zAh (zAr _)) zAb))) zAb)))))
     zAk)
    (zAd (zAz qAZ rfl (zB2 rfl T.z_range (zAa (zAv zFd (pv 5) (zAq zEe (by rfl) T.z_int zIb (zAa (zCg zC1 (pv 2) (zA6 (zAa zAh (zAa zAh zAb))) (by rfl)) zAb))) zAb)) (pgN (i:=7) zCw.nd)
     (zAc (psS (i:=8) zCw.nd (pe_or (zCg op_ne (pv 2) zAh (zAr _)) (pe_one (zCg zDd (zAv zBn (zAv op_fdiv (pv 7) (pv 3)) zAh) (zAv op_fdiv (pv 5) (pv 3)) (zAr _)))))
     (zAd (zA0 (PW.pt (pw_and (zBp (pv 8)) (zGx (zAn zDd (zCg zDd (zAf C_take HR_take rfl (zAa (pv 0) (zAa (pv 3) zAb))) zAh (zAr _)) (zCg op_ne (pv 2) zAh (zAr _)) (zAr _)))))
      (zAd (zA2 (zC5 qAt qCM qCN zCs (pv 4) (zAa (zA9 (zAa (pv 7) (zAa (pv 5) zAb))) zAb))))
      zAk)))))))))
   (zAd (zAm (pv 4))))),?_⟩
  refine ⟨(by walk_at "ln"),fun l hl=>?_⟩;have fl:Fre H l:=hl;have npl:p≠l:=by obtain ⟨a,b,e,_⟩:=hP;exact ne_fre fl e
  have hP1:zBa (upd H l (.lst [])) p:=hP.kp (M:=[]) (Kp.new Kp.refl fl) (by simp)
  refine ⟨_,rfl,_,_,rfl,?_,zB4 (lo:=1) (n:=(m - 1).toNat) (fun i σ H2=>∃(o5 o6 o7 o8:Option V) (ts:List ((Int×Int)×Addr)),σ=[some (.ref p),some (.int m),some (.int way),some (.int thin),some (.ref l),o5,o6,o7,o8]/\zBa H2 p/\Kp [p] H H2/\ITs H2 l ts/\(∀t∈ts,Fre H t.2)/\ts.length*2<=i*(i+1)/\zC8 m ts)
   ⟨none,none,none,none,[],rfl,hP1,Kp.new Kp.refl fl,⟨upd_same,(fun t h=>nomatch h)⟩,(fun t h=>nomatch h),qAg _,(fun t h=>nomatch h)⟩ ?_ ?_⟩
  ·exact ⟨by decide,by decide,by lia,by lia⟩
  ·rintro i σ H2 hi ⟨o5,o6,o7,o8,ts,rfl,P2,K2,R2,f2,e2,q2⟩;have hi19:i<=18:=by lia
   refine ⟨_,rfl,rfl,_,rfl,if_mid (fun σ H3=>∃(v6:Int) (ts1:List ((Int×Int)×Addr)),σ=[some (.ref p),some (.int m),some (.int way),some (.int thin),some (.ref l),some (.int (1+(i:Int))),some (.int v6),o7,o8]/\zBa H3 p/\Kp [p] H H3/\ITs H3 l ts1/\(∀t∈ts1,Fre H t.2)/\ts1.length<=ts.length+(if way=1 then 1 else 0)/\zC8 m ts1) (fun N hN=>ite2 (fun c=>?_) (fun c=>?_)) ?_⟩
   ·have cw:way=1:=by simpa using c
    refine ⟨_,rfl,_,rfl,_,rfl,_,_,rfl,rfl,_,_,rfl,rfl,p,m - (1+(i:Int))+1,rfl,P2,by lia,by lia,fun d H3 d0 d1 P3 K3=>?_⟩;have K23:=K2.trans K3;have R3:ITs H3 l ts:=R2.kp K3 (nm1 npl.symm) fun t ht=>nm1 (by obtain ⟨a,b,e,_⟩:=hP;exact (ne_fre (f2 t ht) e).symm);refine ⟨_,rfl,.inl ⟨rfl,_,SqL.of R3.top⟩,_,rfl,_,_,rfl,rfl,_,rfl,_,_,rfl,rfl,_,rfl,_,_,rfl,rfl,(by walk_at "ln"),fun t ht=>?_⟩;have ft:Fre H3 t:=ht;refine ⟨(by walk_at "ln"),fun q hq=>?_⟩;have fq:Fre (upd H3 t _) q:=hq;have ntq:t≠q:=ne_fre fq upd_same;refine ⟨_,rfl,_,_,rfl,rfl,.inr ⟨_,rfl,?_⟩⟩;have nlt:l≠t:=ne_fre ft R3.top;have h4:∀o,(upd H3 t o) l=some (.lst (ts.map fun t=>V.ref t.2)):=fun o=>(upd_ne nlt).trans R3.top;have nlq:l≠q:=ne_fre fq (h4 _)
    have fin:∀(b:Bool) (r:Addr),b=decide (0<d)->(upd (upd H3 t (.tup [.int (1+(i:Int) - 1),.int (1+(i:Int) - 1+d)])) q (.lst [.ref t])) r=none ->
      ∃ts1:List ((Int×Int)×Addr),zBa (upd (upd (upd (upd H3 t (.tup [.int (1+(i:Int) - 1),.int (1+(i:Int) - 1+d)])) q (.lst [.ref t])) r (.lst (List.replicate (if b=true then (1:Int) else 0).toNat [V.ref t]).flatten)) l (.lst (ts.map (fun t=>V.ref t.2)++(List.replicate (if b=true then (1:Int) else 0).toNat [V.ref t]).flatten))) p /\
       Kp [p] H (upd (upd (upd (upd H3 t (.tup [.int (1+(i:Int) - 1),.int (1+(i:Int) - 1+d)])) q (.lst [.ref t])) r (.lst (List.replicate (if b=true then (1:Int) else 0).toNat [V.ref t]).flatten)) l (.lst (ts.map (fun t=>V.ref t.2)++(List.replicate (if b=true then (1:Int) else 0).toNat [V.ref t]).flatten))) /\
       ITs (upd (upd (upd (upd H3 t (.tup [.int (1+(i:Int) - 1),.int (1+(i:Int) - 1+d)])) q (.lst [.ref t])) r (.lst (List.replicate (if b=true then (1:Int) else 0).toNat [V.ref t]).flatten)) l (.lst (ts.map (fun t=>V.ref t.2)++(List.replicate (if b=true then (1:Int) else 0).toNat [V.ref t]).flatten))) l ts1 /\
       (∀t∈ts1,Fre H t.2)/\ts1.length<=ts.length+1/\zC8 m ts1:=fun b r hb hr'=>by
     have fr:Fre (upd (upd H3 t (.tup [.int (1+(i:Int) - 1),.int (1+(i:Int) - 1+d)])) q (.lst [.ref t])) r:=hr'
     have kA:Kp [] H3 (upd (upd (upd H3 t (.tup [.int (1+(i:Int) - 1),.int (1+(i:Int) - 1+d)])) q (.lst [.ref t])) r (.lst (List.replicate (if b=true then (1:Int) else 0).toNat [V.ref t]).flatten)):=by
      have a1:Kp [] H3 (upd H3 t (.tup [.int (1+(i:Int) - 1),.int (1+(i:Int) - 1+d)])):=Kp.new Kp.refl ft;have a2:Kp [] H3 (upd (upd H3 t (.tup [.int (1+(i:Int) - 1),.int (1+(i:Int) - 1+d)])) q (.lst [.ref t])):=Kp.new a1 (a1.fre fq (by simp));exact Kp.new a2 (a2.fre fr (by simp))
     have RA:=R3.kp kA (by simp) (by simp)
     have hTt:(upd (upd (upd H3 t (.tup [.int (1+(i:Int) - 1),.int (1+(i:Int) - 1+d)])) q (.lst [.ref t])) r (.lst (List.replicate (if b=true then (1:Int) else 0).toNat [V.ref t]).flatten)) t=some (.tup [.int (1+(i:Int) - 1),.int (1+(i:Int) - 1+d)]):=by
      have b1:(upd (upd H3 t (.tup [.int (1+(i:Int) - 1),.int (1+(i:Int) - 1+d)])) q (.lst [.ref t])) t=some (.tup [.int (1+(i:Int) - 1),.int (1+(i:Int) - 1+d)]):=(upd_ne ntq).trans upd_same;exact (upd_ne (ne_fre fr b1)).trans b1
     have pA:=P3.kp kA (by simp);have kH:Kp [p] H (upd (upd (upd H3 t (.tup [.int (1+(i:Int) - 1),.int (1+(i:Int) - 1+d)])) q (.lst [.ref t])) r (.lst (List.replicate (if b=true then (1:Int) else 0).toNat [V.ref t]).flatten)):=K23.trans (kA.weak (by simp));have ntp:t≠p:=by obtain ⟨a,b,e,_⟩:=P3;exact (ne_fre ft e).symm
     have ftH:Fre H t:=K23.fre ft (nm1 ntp)
     by_cases c2:0<d
     ·have eb:b=true:=by rw [hb];exact qAR c2
      subst eb;refine ⟨ts++[(((1+(i:Int) - 1),(1+(i:Int) - 1+d)),t)],pA.kp (M:=[l]) (Kp.put Kp.refl (by simp)) (nm1 npl),Kp.new kH fl,RA.more hTt,fun u hu=>?_,by rw [qAj];exact qAF _,q2.more (by lia) (by lia) (by lia)⟩;rcases qAN.mp hu with z| z
      ·exact f2 u z
      ·rw [qAQ.mp z];exact ftH
     ·have eb:b=false:=by rw [hb];exact qAW c2
      subst eb;exact ⟨ts,pA.kp (M:=[l]) (Kp.put Kp.refl (by simp)) (nm1 npl),Kp.new kH fl,RA.same,f2,qBL _,q2⟩
    refine ⟨_,_,_,rfl,rfl,upd_same,by split<;>decide,by split<;>decide,?_,fun r hr'=>?_⟩
    ·rw [qAO];show 1*_<=_;split<;>decide
    have hl6:∀o2 o3,(upd (upd (upd H3 t (.tup [.int (1+(i:Int) - 1),.int (1+(i:Int) - 1+d)])) q o2) r o3) l=some (.lst (ts.map fun t=>V.ref t.2))\/l=r:=fun o2 o3=>by
     by_cases z:l=r
     ·exact .inr z
     ·exact .inl ((upd_ne z).trans ((upd_ne nlq).trans (h4 _)))
    have nlr:l≠r:=ne_fre (show Fre _ r from hr') ((upd_ne nlq).trans (h4 _));obtain ⟨ts1,g1,g2,g3,g4,g5,g6⟩:=fin _ r rfl hr';refine ⟨_,_,_,_,rfl,rfl,(upd_ne nlr).trans ((upd_ne nlq).trans (h4 _)),upd_same,?_,hN _ _ ⟨d,ts1,rfl,g1,g2,g3,g4,?_,g6⟩⟩
    ·have hl3:ts.length*2<=19*20:=qAc e2 (Nat.mul_le_mul (by lia) (by lia));rw [qAD,len_rep,qAO];have:(if decide (0<d)=true then (1:Int) else 0).toNat<=1:=by split<;>decide
     simp only [qAe,qBV];lia
    ·rw [qAC cw];exact g5
   ·have cw:¬way=1:=by simpa using c
    exact hN _ _ ⟨0,ts,rfl,P2,K2,R2,f2,qCd _ _,q2⟩
   ·rintro σ H4 ⟨v6,ts1,rfl,P4,K4,R4,f3,e3,q3⟩;have hle:ts.length*2<=19*20:=qAc e2 (Nat.mul_le_mul (by lia) (by lia))
    have hl1:ts1.length<=191:=by
     have:(if way=1 then 1 else 0)<=1:=by split<;>decide
     lia
    refine ⟨_,rfl,rfl,_,rfl,if_mid (fun σ H3=>∃(v6:Int) (ts2:List ((Int×Int)×Addr)),σ=[some (.ref p),some (.int m),some (.int way),some (.int thin),some (.ref l),some (.int (1+(i:Int))),some (.int v6),o7,o8]/\zBa H3 p/\Kp [p] H H3/\ITs H3 l ts2/\(∀t∈ts2,Fre H t.2)/\ts2.length<=ts.length+(if way=1\/way=2 then 1 else 0)/\zC8 m ts2) (fun N hN=>ite2 (fun c=>?_) (fun c=>?_)) ?_⟩
    ·have cw:way=2:=by simpa using c
     refine ⟨_,rfl,_,rfl,_,_,rfl,rfl,p,1+(i:Int)+1,rfl,P4,by lia,by lia,fun d H5 d0 d1 P5 K5=>?_⟩;have K25:=K4.trans K5;have R5:ITs H5 l ts1:=R4.kp K5 (nm1 npl.symm) fun t ht=>nm1 (by obtain ⟨a,b,e,_⟩:=hP;exact (ne_fre (f3 t ht) e).symm);refine ⟨_,rfl,.inl ⟨rfl,_,SqL.of R5.top⟩,_,rfl,_,rfl,_,_,rfl,rfl,_,rfl,(by walk_at "ln"),fun t ht=>?_⟩;have ft:Fre H5 t:=ht;refine ⟨(by walk_at "ln"),fun q hq=>?_⟩;have fq:Fre (upd H5 t _) q:=hq;have ntq:t≠q:=ne_fre fq upd_same;refine ⟨_,rfl,_,_,rfl,rfl,.inr ⟨_,rfl,?_⟩⟩;have nlt:l≠t:=ne_fre ft R5.top;have h4:∀o,(upd H5 t o) l=some (.lst (ts1.map fun t=>V.ref t.2)):=fun o=>(upd_ne nlt).trans R5.top;have nlq:l≠q:=ne_fre fq (h4 _)
     have fin:∀(b:Bool) (r:Addr),b=decide (0<d)->(upd (upd H5 t (.tup [.int (1+(i:Int) - d),.int (1+(i:Int))])) q (.lst [.ref t])) r=none ->
       ∃ts2:List ((Int×Int)×Addr),zBa (upd (upd (upd (upd H5 t (.tup [.int (1+(i:Int) - d),.int (1+(i:Int))])) q (.lst [.ref t])) r (.lst (List.replicate (if b=true then (1:Int) else 0).toNat [V.ref t]).flatten)) l (.lst (ts1.map (fun t=>V.ref t.2)++(List.replicate (if b=true then (1:Int) else 0).toNat [V.ref t]).flatten))) p /\
        Kp [p] H (upd (upd (upd (upd H5 t (.tup [.int (1+(i:Int) - d),.int (1+(i:Int))])) q (.lst [.ref t])) r (.lst (List.replicate (if b=true then (1:Int) else 0).toNat [V.ref t]).flatten)) l (.lst (ts1.map (fun t=>V.ref t.2)++(List.replicate (if b=true then (1:Int) else 0).toNat [V.ref t]).flatten))) /\
        ITs (upd (upd (upd (upd H5 t (.tup [.int (1+(i:Int) - d),.int (1+(i:Int))])) q (.lst [.ref t])) r (.lst (List.replicate (if b=true then (1:Int) else 0).toNat [V.ref t]).flatten)) l (.lst (ts1.map (fun t=>V.ref t.2)++(List.replicate (if b=true then (1:Int) else 0).toNat [V.ref t]).flatten))) l ts2 /\
        (∀t∈ts2,Fre H t.2)/\ts2.length<=ts1.length+1/\zC8 m ts2:=fun b r hb hr'=>by
      have fr:Fre (upd (upd H5 t (.tup [.int (1+(i:Int) - d),.int (1+(i:Int))])) q (.lst [.ref t])) r:=hr'
      have kA:Kp [] H5 (upd (upd (upd H5 t (.tup [.int (1+(i:Int) - d),.int (1+(i:Int))])) q (.lst [.ref t])) r (.lst (List.replicate (if b=true then (1:Int) else 0).toNat [V.ref t]).flatten)):=by
       have a1:Kp [] H5 (upd H5 t (.tup [.int (1+(i:Int) - d),.int (1+(i:Int))])):=Kp.new Kp.refl ft;have a2:Kp [] H5 (upd (upd H5 t (.tup [.int (1+(i:Int) - d),.int (1+(i:Int))])) q (.lst [.ref t])):=Kp.new a1 (a1.fre fq (by simp));exact Kp.new a2 (a2.fre fr (by simp))
      have RA:=R5.kp kA (by simp) (by simp)
      have hTt:(upd (upd (upd H5 t (.tup [.int (1+(i:Int) - d),.int (1+(i:Int))])) q (.lst [.ref t])) r (.lst (List.replicate (if b=true then (1:Int) else 0).toNat [V.ref t]).flatten)) t=some (.tup [.int (1+(i:Int) - d),.int (1+(i:Int))]):=by
       have b1:(upd (upd H5 t (.tup [.int (1+(i:Int) - d),.int (1+(i:Int))])) q (.lst [.ref t])) t=some (.tup [.int (1+(i:Int) - d),.int (1+(i:Int))]):=(upd_ne ntq).trans upd_same;exact (upd_ne (ne_fre fr b1)).trans b1
      have pA:=P5.kp kA (by simp);have kH:Kp [p] H (upd (upd (upd H5 t (.tup [.int (1+(i:Int) - d),.int (1+(i:Int))])) q (.lst [.ref t])) r (.lst (List.replicate (if b=true then (1:Int) else 0).toNat [V.ref t]).flatten)):=K25.trans (kA.weak (by simp));have ntp:t≠p:=by obtain ⟨a,b,e,_⟩:=P5;exact (ne_fre ft e).symm
      have ftH:Fre H t:=K25.fre ft (nm1 ntp)
      by_cases c2:0<d
      ·have eb:b=true:=by rw [hb];exact qAR c2
       subst eb;refine ⟨ts1++[(((1+(i:Int) - d),(1+(i:Int))),t)],pA.kp (M:=[l]) (Kp.put Kp.refl (by simp)) (nm1 npl),Kp.new kH fl,RA.more hTt,fun u hu=>?_,by rw [qAj];exact qAF _,q3.more (by lia) (by lia) (by lia)⟩;rcases qAN.mp hu with z| z
       ·exact f3 u z
       ·rw [qAQ.mp z];exact ftH
      ·have eb:b=false:=by rw [hb];exact qAW c2
       subst eb;exact ⟨ts1,pA.kp (M:=[l]) (Kp.put Kp.refl (by simp)) (nm1 npl),Kp.new kH fl,RA.same,f3,qBL _,q3⟩
     refine ⟨_,_,_,rfl,rfl,upd_same,by split<;>decide,by split<;>decide,?_,fun r hr'=>?_⟩
     ·rw [qAO];show 1*_<=_;split<;>decide
     have hl6:∀o2 o3,(upd (upd (upd H5 t (.tup [.int (1+(i:Int) - d),.int (1+(i:Int))])) q o2) r o3) l=some (.lst (ts1.map fun t=>V.ref t.2))\/l=r:=fun o2 o3=>by
      by_cases z:l=r
      ·exact .inr z
      ·exact .inl ((upd_ne z).trans ((upd_ne nlq).trans (h4 _)))
     have nlr:l≠r:=ne_fre (show Fre _ r from hr') ((upd_ne nlq).trans (h4 _));obtain ⟨ts2,g1,g2,g3,g4,g5,g6⟩:=fin _ r rfl hr';refine ⟨_,_,_,_,rfl,rfl,(upd_ne nlr).trans ((upd_ne nlq).trans (h4 _)),upd_same,?_,hN _ _ ⟨d,ts2,rfl,g1,g2,g3,g4,?_,g6⟩⟩
     ·have hl3:ts1.length<=191:=hl1;rw [qAD,len_rep,qAO];have:(if decide (0<d)=true then (1:Int) else 0).toNat<=1:=by split<;>decide
      simp only [qAe,qBV];lia
     ·rw [qAC (Or.inr cw)];rw [qAB (by lia)] at e3;lia
    ·have cw:¬way=2:=by simpa using c
     refine hN _ _ ⟨v6,ts1,rfl,P4,K4,R4,f3,?_,q3⟩
     by_cases z:way=1
     ·rw [qAC z] at e3;rw [qAC (Or.inl z)];exact e3
     ·rw [qAB z] at e3;lia
    ·rintro σ H5 ⟨v6,ts2,rfl,P5,K5,R5,f4,e4,q4⟩;refine ⟨_,rfl,_,rfl,(by walk_at "ln"),fun b hb=>?_⟩;have fb:Fre H5 b:=hb;refine ⟨_,_,rfl,.inl (SqL.of upd_same),rfl,rfl,.inr ⟨_,rfl,?_⟩⟩;rw [qAC rfl,inV12];have npb:p≠b:=by obtain ⟨x,y,e,_⟩:=P5;exact ne_fre fb e
     have nlb:l≠b:=ne_fre fb R5.top
     have hb2:(if (!(decide (way=1)||decide (way=2)))=true then (1:Int) else 0)=0\/((if (!(decide (way=1)||decide (way=2)))=true then (1:Int) else 0)=1/\¬(way=1\/way=2)):=by
      by_cases z:way=1\/way=2
      ·left
       have:(decide (way=1)||decide (way=2))=true:=by
        rcases z with z| z<;>simp [z]
       rw [this];rfl
      ·right;refine ⟨?_,z⟩
       have:(decide (way=1)||decide (way=2))=false:=by
        rw [qAW fun y=>z (.inl y),qAW fun y=>z (.inr y)];rfl
       rw [this];rfl
     generalize (if (!(decide (way=1)||decide (way=2)))=true then (1:Int) else 0)=nn at hb2 ⊢
     have hnn:(1+(i:Int))*nn=0\/((1+(i:Int))*nn=1+i/\¬(way=1\/way=2)):=by
      rcases hb2 with z| ⟨z,z'⟩
      ·left;rw [z];lia
      ·right;rw [z];exact ⟨by lia,z'⟩
     have hmul:(1+(i:Int))*nn=0\/(1+(i:Int))*nn=1+i:=hnn.imp id And.left;have k5b:Kp [] H5 (upd H5 b (.lst [.int 1,.int 2])):=Kp.new Kp.refl fb
     refine ⟨_,_,rfl,rfl,?_,_,rfl,by lia,by lia,zB4 (lo:=0) (n:=((1+(i:Int))*nn).toNat) (fun a σ H6=>∃(o7 o8:Option V) (ts3:List ((Int×Int)×Addr)),σ=[some (.ref p),some (.int m),some (.int way),some (.int thin),some (.ref l),some (.int (1+(i:Int))),some (.int v6),o7,o8]/\zBa H6 p/\Kp [p] H H6/\ITs H6 l ts3/\(∀t∈ts3,Fre H t.2)/\ts3.length<=ts2.length+a/\zC8 m ts3)
      ⟨_,_,ts2,rfl,P5.kp k5b (by simp),K5.trans (k5b.weak (by simp)),R5.kp k5b (by simp) (by simp),f4,qAF _,q4⟩ ?_ ?_⟩
     ·rcases hb2 with z| ⟨z,_⟩
      ·rw [z];exact Or.inl ⟨by lia,by lia⟩
      ·rw [z];exact Or.inl ⟨by lia,by lia⟩
     ·rintro a σ H6 ha ⟨o7',o8',ts3,rfl,P6,K6,R6,f5,e5,q5⟩;have ha':(a:Int)<1+i:=by lia
      refine seq_mid (fun σ H7=>∃bN:Bool,σ=[some (.ref p),some (.int m),some (.int way),some (.int thin),some (.ref l),some (.int (1+(i:Int))),some (.int v6),some (.int (0+(a:Int))),some (.bl bN)]/\H7=H6) (fun N hN=>?_) ?_
      ·refine ⟨_,rfl,rfl,_,rfl,ite2 (fun c=>?_) (fun c=>?_)⟩
       ·exact hN _ _ ⟨true,rfl,rfl⟩
       ·refine ⟨_,rfl,_,rfl,_,_,rfl,rfl,⟨by lia,by lia⟩,_,_,rfl,rfl,_,rfl,_,rfl,_,_,rfl,rfl,⟨by lia,by lia⟩,rfl,?_⟩;exact hN _ _ ⟨_,rfl,rfl⟩
      ·rintro σ H7 ⟨bN,rfl,rfl⟩;refine ⟨_,rfl,_,rfl,ite2 (fun c=>?_) (fun c=>?_)⟩
       ·refine ⟨_,rfl,_,rfl,p,thin,rfl,P6,by lia,by lia,fun d H8 d0 d1 P8 K8=>?_⟩;have R8:ITs H8 l ts3:=R6.kp K8 (nm1 npl.symm) fun t ht=>nm1 (by obtain ⟨x,y,e,_⟩:=hP;exact (ne_fre (f5 t ht) e).symm);have K68:=K6.trans K8;refine ⟨rfl,_,rfl,rfl,rfl,_,rfl,ite2 (fun c=>?_) (fun c=>?_)⟩
        ·-- _law_pairs_here.append((_law_i,_law_j))
         refine ⟨_,rfl,.inl ⟨rfl,_,SqL.of R8.top⟩,_,rfl,_,rfl,(by walk_at "ln"),fun t ht=>?_⟩;have ft:Fre H8 t:=ht;have nlt:l≠t:=ne_fre ft R8.top;have ntp:t≠p:=by obtain ⟨x,y,e,_⟩:=P8;exact (ne_fre ft e).symm
         have k8:Kp [] H8 (upd H8 t (.tup [.int (0+(a:Int)),.int (1+(i:Int))])):=Kp.new Kp.refl ft;refine ⟨_,_,_,rfl,rfl,(upd_ne nlt).trans R8.top,?_,_,_,ts3++[((0+(a:Int),1+(i:Int)),t)],rfl,(P8.kp k8 (by simp)).kp (M:=[l]) (Kp.put Kp.refl (by simp)) (nm1 npl),Kp.new (K68.trans (k8.weak (by simp))) fl,(R8.kp k8 (by simp) (by simp)).more upd_same,fun u hu=>?_,?_,q5.more (by lia) (by lia) (by lia)⟩
         ·rw [qAD,qAO];have:(if way=1\/way=2 then 1 else 0)<=1:=by split<;>decide
          lia
         ·rcases qAN.mp hu with z| z
          ·exact f5 u z
          ·rw [qAQ.mp z];exact K68.fre ft (nm1 ntp)
         ·rw [qAj];simp only [qAe,qBV];lia
        ·exact ⟨_,_,ts3,rfl,P8,K68,R8,f5,by lia,q5⟩
       ·exact ⟨_,_,ts3,rfl,P6,K6,R6,f5,by lia,q5⟩
     ·rintro σ H6 ⟨o7',o8',ts3,rfl,P6,K6,R6,f5,e5,q5⟩;refine ⟨_,_,_,_,ts3,rfl,P6,K6,R6,f5,?_,q5⟩;have:=tri_step i
      have e6:ts3.length<=ts.length+(i+1):=by
       rcases hnn with z| ⟨z,z'⟩
       ·have:(if way=1\/way=2 then 1 else 0)<=1:=by split<;>decide
        rw [z] at e5;have e5:ts3.length<=ts2.length+0:=e5;lia
       ·rw [qAB z'] at e4;rw [z] at e5;have:(1+(i:Int)).toNat=i+1:=by lia
        lia
      have e7:(i+1)*(i+1+1)=(i+1)*(i+2):=rfl;rw [e7,<-this];lia
  ·rintro σ H2 ⟨o5,o6,o7,o8,ts,rfl,P2,K2,R2,f2,e2,q2⟩;have hle:(m - 1).toNat*((m - 1).toNat+1)<=19*20:=Nat.mul_le_mul (by lia) (by lia);exact ⟨_,rfl,k l ts H2 fl R2 f2 (by lia) q2 P2 K2⟩
end
theorem zHh [BEq α] [LawfulBEq α]:∀{L:List α} {i:Nat} {x:α},L.Nodup->L[i]?=some x->L.idxOf x=i
 | [],i,x,_,h=>by simp at h
 | y::L,0,x,_,h=>by
  have:y=x:=qAd h;subst this;simp
 | y::L,i+1,x,hn,h=>by
  rw [qCe] at h;obtain ⟨h1,h2⟩:=qBD.mp hn;have hne:y≠x:=fun z=>h1 (z▸qAL h);rw [List.idxOf_cons,qAw.mpr hne];show L.idxOf x+1=i+1;rw [zHh h2 h]
theorem map_nodup {β:Type} {f:α->β}:∀{L:List α},L.Nodup->(∀a∈L,∀b∈L,f a=f b->a=b)->(L.map f).Nodup
 | [],_,_=>qBP
 | x::L,h,hi=>by
  obtain ⟨h1,h2⟩:=qBD.mp h;rw [qAi];refine qBD.mpr ⟨fun z=>?_,map_nodup h2 fun a ha b hb=>hi a (qAU _ ha) b (qAU _ hb)⟩;obtain ⟨y,hy,e⟩:=qAJ.mp z;rw [hi y (qAU _ hy) x qAV e] at hy;exact h1 hy
theorem ne_nil_read {K:PySem.W.Frag} {c e:Addr} {xs:List V} {Q:VK} (h1:SqL K H c xs) (h2:SqL K H e []) (h:∀bb:Bool,(bb=true->xs≠[])->Q (.bl bb) H):rAlike K 8 false (.ref c) (.ref e) H Q\/rUnlen K true (.ref c) (.ref e) H Q:=by
 by_cases z:xs=[]
 ·subst z;exact .inl ⟨c,e,_,_,rfl,rfl,h1,h2,rfl,(fun i x y h=>by simp at h),h false (fun z=>nomatch z)⟩
 ·refine .inr ⟨c,e,_,_,rfl,rfl,h1,h2,fun y=>z (qCk.mp y),h true fun _=>z⟩
structure Spots (Is:List Int) (m:Nat):Prop where
 len:Is.length=m
 nd:Is.Nodup
 lt:∀x∈Is,0<=x/\x<m
theorem Spots.put {Is:List Int} {m:Nat} (S:Spots Is m) (d:Nat):Spots (Is.take d++(m:Int)::Is.drop d) (m+1):=by
 have hp:=ST.ins_perm Is d (m:Int);refine ⟨by rw [hp.length_eq,qAe,S.len],hp.nodup_iff.mpr (qBD.mpr ⟨fun z=>?_,S.nd⟩),fun x hx=>?_⟩
 ·have:=(S.lt _ z).2;lia
 ·rcases qAS.mp (hp.mem_iff.mp hx) with z| z
  ·subst z;lia
  ·have:=S.lt x z;lia
def rowOf (ns:List Str) (Is:List Int):List Str:=Is.map fun k=>ns.getD k.toNat Str.empty
theorem rowOf_nd {Is:List Int} (hn:ns.Nodup) (S:Spots Is ns.length):(rowOf ns Is).Nodup:=by
 refine map_nodup S.nd fun a ha b hb e=>?_;have h1:=S.lt a ha;have h2:=S.lt b hb;have e1:ns.getD a.toNat Str.empty=ns[a.toNat]'(by lia):=by rw [qBG,qAp (by lia)];rfl
 have e2:ns.getD b.toNat Str.empty=ns[b.toNat]'(by lia):=by rw [qBG,qAp (by lia)];rfl
 rw [e1,e2] at e;have:=(List.getElem_inj hn).mp e;lia
theorem rowOf_at {Is:List Int} (S:Spots Is ns.length) {i:Int} (h0:0<=i) (h1:i<ns.length):∃s n,Is[i.toNat]?=some s/\0<=s/\ns[s.toNat]?=some n/\(rowOf ns Is)[i.toNat]?=some n:=by
 have hi:i.toNat<Is.length:=by rw [S.len];lia
 have hs:=S.lt Is[i.toNat] (qCZ hi);have hs':Is[i.toNat].toNat<ns.length:=by lia
 refine ⟨Is[i.toNat],ns[Is[i.toNat].toNat],qAp hi,hs.1,qAp hs',?_⟩;unfold rowOf;rw [qAY,qAp hi];show some (ns.getD _ _)=_;rw [qBG,qAp hs'];rfl
theorem ins_map {β:Type} (f:α->β) (L:List α) (d:Nat) (x:α):(L.map f).take d++f x::(L.map f).drop d=(L.take d++x::L.drop d).map f:=by
 rw [qAM,qAi,qCJ,qCj]
theorem it_at {ts:List ((Int×Int)×Addr)} {i:Nat} {v:V} (h:(ts.map fun q=>V.ref q.2)[i]?=some v):∃q,ts[i]?=some q/\v= .ref q.2:=by
 rw [qAY] at h;obtain ⟨n,e,r⟩:=qBW.mp h;exact ⟨n,e,r.symm⟩
section
def spLJobs:Sp:=fun vs H Q _=>∃(p:Addr) (mo:Int),vs=[.ref p,.int mo]/\0<=mo/\mo<=20/\zBa H p/\∀(t l m:Addr) (ns:List Str) (qs:List (List Str×Addr)) (r:Str->Nat) (H':Hp),(ns.length:Int)<=mo->qs.length<=192->H' t=some (.tup [.ref l,.ref m])->Fre H t->Fre H l->Fre H m->(∀q∈qs,Fre H q.2)->Txs H' l ns->Ords H' m qs->Good ns qs r->zBa H' p->Kp [p] H H'->Q (.ref t) H'
abbrev s_jobs:Stmt:=top 45
theorem zDi:FnScope ["_law_purse_here", "_law_most", "_law_many", "_law_names_here", "_law_way", "_law_thin", "_law_pairs_here", "_law_k", "_law_spots"] ["_law_purse_here", "_law_most"] (zAe s_jobs):=fnS
theorem ok_jobs (F:Fun K "_law_jobs" "_law_jobs" s_jobs f fd) (T:Txt K mg) (C_take:Cal P w K mg base "_law_take" 1 ["_law_purse_here", "_law_many"] zEq) (C_names:Cal P w K mg base "_law_names" 2 ["_law_purse_here", "_law_many"] spLNames)
  (C_pairs:Cal P w K mg base "_law_pairs" 2 ["_law_purse_here", "_law_many", "_law_way", "_law_thin"] spLPairs):FnOk P w K mg base CX0 3 f fd ["_law_purse_here", "_law_most"] spLJobs:=by
 refine F.ok zDi (fun vs H Q E h=>?_) (fun cdv A outer s H vs Q E hr h=>?_)
 ·obtain ⟨p,mo,rfl,_⟩:=h;rfl
 ·obtain ⟨p,mo,rfl,mo0,mo1,hP,k⟩:=h;have HR_names:=hr;have HR_pairs:=hr;have HR_take:=hr.mono (j:=1) (by decide)
  refine ⟨_,(zAc (psS (i:=2) zDi.nd (zAf C_take HR_take rfl (zAa (pv 0) (zAa (zAv zBn (pv 1) zAh) zAb))))
   (zAc (psS (i:=3) zDi.nd (zAf C_names HR_names rfl (zAa (pv 0) (zAa (pv 2) zAb))))
   (zAc (psS (i:=4) zDi.nd (zAf C_take HR_take rfl (zAa (pv 0) (zAa zAh zAb))))
   (zAc (psS (i:=5) zDi.nd (zBg zAx (zA6 (zAa zAh (zAa zAh (zAa zAh (zAa zAh (zAa zAh zAb)))))) (zAf C_take HR_take rfl (zAa (pv 0) (zAa zAh zAb))) (fun _ _=>rfl)))
   (zAc (psS (i:=6) zDi.nd (zAf C_pairs HR_pairs rfl (zAa (pv 0) (zAa (pv 2) (zAa (pv 4) (zAa (pv 5) zAb))))))
   (zAc (zAz qAZ rfl (zB2 rfl T.z_range (zAa (zAv zFd (zAq zEe (by rfl) T.z_int zIb (zAa (zCg (zEy HR_take) (pv 6) (zA6 zAb) (zAr _)) zAb)) (zAf C_take HR_take rfl (zAa (pv 0) (zAa zAh zAb)))) zAb)) (pgN (i:=7) zDi.nd)
    (zAd (zA2 (zC5 qAt qCO qCP zDe (pv 6) (zAa (zAf C_take HR_take rfl (zAa (pv 0) (zAa (zAv zBn (zAj zAl (by rfl) T.z_len zBq (zAa (pv 6) zAb)) zAh) zAb))) (zAa (zBg zAx (pv 6) (zAf C_take HR_take rfl (zAa (pv 0) (zAa (zAj zAl (by rfl) T.z_len zBq (zAa (pv 6) zAb)) zAb))) (fun _ _=>rfl)) zAb))))))
   (zAc (psS (i:=8) zDi.nd (zA6 zAb))
   (zAc (zAz qAZ rfl (zB2 rfl T.z_range (zAa (pv 2) zAb)) (pgN (i:=7) zDi.nd)
    (zAd (zA2 (zC5 qAt qCO qCP zDe (pv 8) (zAa (zAf C_take HR_take rfl (zAa (pv 0) (zAa (zAv zBn (pv 7) zAh) zAb))) (zAa (pv 7) zAb))))))
   (zAd (zAm (zA9 (zAa (pv 3) (zAa (zBl rfl (zBe (sc:=zAe s_jobs) rfl (by decide +kernel)) (Draws.own (x:= "_law_i") (Draws.own (x:= "_law_j") (dtk (i:=3) rfl (dtk (i:=8) rfl Draws.nil)))) (zAp (pv 6)) (fun _ _ _ _=>(zFu (K:=K) (n:=2) rfl (zAt (pgB (i:=0)) (zAt (pgB (i:=1)) zCf)))) (fun _ _ _ _=>zBr) (fun _ _ _ _=>(zA9 (zAa (zBg (zFi (K:=K)) (pv 2) (zBg (zFi (K:=K)) (pv 3) (pv 0) (fun _ _=>rfl)) (fun _ _=>rfl)) (zAa (zBg (zFi (K:=K)) (pv 2) (zBg (zFi (K:=K)) (pv 3) (pv 1) (fun _ _=>rfl)) (fun _ _=>rfl)) zAb))))) zAb))))))))))))),?_⟩
  refine ⟨_,rfl,_,rfl,_,_,rfl,rfl,p,mo+1,rfl,hP,by lia,by lia,fun m H1 m0 m1 P1 K1=>?_⟩;refine ⟨_,rfl,_,rfl,p,m,rfl,P1,m0,by lia,fun l ns H2 fl hl en nd nm P2 K2=>?_⟩;have npl:p≠l:=by obtain ⟨a,b,e,_⟩:=P1;exact ne_fre fl e
  refine ⟨_,rfl,p,6,rfl,P2,by decide,by decide,fun way H3 w0 w1 P3 K3=>?_⟩;refine ⟨(by walk_at "ln"),fun b hb=>?_⟩;have fb:Fre H3 b:=hb;have npb:p≠b:=by obtain ⟨x,y,e,_⟩:=P3;exact ne_fre fb e
  refine ⟨_,rfl,p,5,rfl,P3.kp (M:=[]) (Kp.new Kp.refl fb) (by simp),by decide,by decide,fun d H4 d0 d1 P4 K4=>?_⟩
  obtain ⟨th,hth,th2,th12⟩:∃th:Int,([V.int 2,.int 3,.int 4,.int 6,.int 12])[d.toNat]?=some (.int th)/\2<=th/\th<=12:=by
   have:d=0\/d=1\/d=2\/d=3\/d=4:=by lia
   rcases this with rfl| rfl| rfl| rfl| rfl
   ·exact ⟨2,rfl,by decide,by decide⟩
   ·exact ⟨3,rfl,by decide,by decide⟩
   ·exact ⟨4,rfl,by decide,by decide⟩
   ·exact ⟨6,rfl,by decide,by decide⟩
   ·exact ⟨12,rfl,by decide,by decide⟩
  refine ⟨_,_,_,.int th,rfl,rfl,SqL.of (K4 b _ upd_same (nm1 npb.symm)),zCa d0 hth,?_⟩;have K34:Kp [p] H3 H4:=Kp.trans (Kp.new Kp.refl fb) K4;have K14:Kp [p] H1 H4:=K2.trans (K3.trans K34);have hl4:Txs H4 l ns:=(K3.trans K34) l _ hl (nm1 npl.symm);refine ⟨_,rfl,_,rfl,_,rfl,_,rfl,p,m,way,th,rfl,P4,m0,by lia,th2,th12,fun c ts H5 fc I5 ft5 tl5 ok5 P5 K5=>?_⟩;have npc:p≠c:=by obtain ⟨x,y,e,_⟩:=P4;exact ne_fre fc e
  have hl5:Txs H5 l ns:=K5 l _ hl4 (nm1 npl.symm);have nlc:l≠c:=ne_fre fc hl4;have K05:Kp [p] H H5:=K1.trans (K14.trans K5);have fcH:Fre H c:=(K1.trans K14).fre fc (nm1 npc.symm);have flH:Fre H l:=K1.fre fl (nm1 npl.symm);refine ⟨_,rfl,(by walk_at "ln"),fun e he=>?_⟩;have fe:Fre H5 e:=he;have npe:p≠e:=by obtain ⟨x,y,q,_⟩:=P5;exact ne_fre fe q
  have k5e:Kp [] H5 (upd H5 e (.lst [])):=Kp.new Kp.refl fe;have I5e:=I5.kp k5e (by simp) (by simp);refine ne_nil_read (xs:=ts.map fun t=>V.ref t.2) (SqL.of I5e.top) (SqL.of upd_same) fun bb hbb=>?_;refine .inr ⟨bb,rfl,?_⟩;refine ⟨_,rfl,p,3,rfl,P5.kp k5e (by simp),by decide,by decide,fun dd H6 dd0 dd1 P6 K6=>?_⟩;have K56:Kp [p] H5 H6:=Kp.trans (k5e.weak (by simp)) K6;have ntp:∀t∈ts,t.2∉[p]:=fun t ht=>nm1 (by obtain ⟨x,y,q,_⟩:=P4;exact (ne_fre (ft5 t ht) q).symm);have I6:ITs H6 c ts:=I5e.kp K6 (nm1 npc.symm) ntp
  have hmul:(if bb=true then (1:Int) else 0)*dd=0\/((if bb=true then (1:Int) else 0)*dd=dd/\ts≠[]):=by
   cases bb with
   | false=>left;rw [qAB (by decide)];lia
   | true=>right;rw [qAC rfl];exact ⟨by lia,fun z=>hbb rfl (by rw [z];rfl)⟩
  have hml:(if bb=true then (1:Int) else 0)=0\/(if bb=true then (1:Int) else 0)=1:=by cases bb<;>simp
  generalize (if bb=true then (1:Int) else 0)=n01 at hmul hml ⊢
  refine ⟨_,_,rfl,rfl,?_,_,rfl,by rcases hmul with z| ⟨z,_⟩<;>lia,by rcases hmul with z| ⟨z,_⟩<;>lia,zB4 (lo:=0) (n:=(n01*dd).toNat) (fun i σ H7=>∃(o7 o8:Option V) (ts':List ((Int×Int)×Addr)),σ=[some (.ref p),some (.int mo),some (.int m),some (.ref l),some (.int way),some (.int th),some (.ref c),o7,o8]/\zBa H7 p/\Kp [p] H H7/\Txs H7 l ns/\ITs H7 c ts'/\(∀t∈ts',t∈ts)/\ts'.length=ts.length+i)
   ⟨_,_,ts,rfl,P6,K05.trans K56,K56 l _ hl5 (nm1 npl.symm),I6,fun t h=>h,rfl⟩ ?_ ?_⟩
  ·rcases hml with z| z
   ·exact Or.inl ⟨by lia,by lia⟩
   ·exact Or.inl ⟨by lia,by lia⟩
  ·rintro i σ H7 hi ⟨o7,o8,ts',rfl,P7,K7,hl7,I7,s7,e7⟩
   have ne:ts≠[]:=by
    rcases hmul with z| ⟨_,z⟩
    ·rw [z] at hi;exact absurd hi (qCi _)
    ·exact z
   have pos:0<ts'.length:=by
    have:=qCp.mpr ne;lia
   have ntp':∀t∈ts',t.2∉[p]:=fun t ht=>ntp t (s7 t ht);have nlc':l≠c:=nlc;refine ⟨_,rfl,.inl ⟨rfl,_,SqL.of I7.top⟩,_,rfl,_,rfl,_,_,rfl,.inl (SqL.of I7.top),_,_,rfl,rfl,p,_,rfl,P7,?_,?_,fun d1 H8 x0 x1 P8 K8=>?_⟩
   ·lia
   ·rw [qAD];have:i<3:=by rcases hmul with z| ⟨z,_⟩<;>lia
    lia
   have I8:ITs H8 c ts':=I7.kp K8 (nm1 npc.symm) ntp';refine ⟨_,rfl,_,rfl,_,rfl,_,_,rfl,.inl (SqL.of I8.top),p,_,rfl,P8,?_,?_,fun d2 H9 y0 y1 P9 K9=>?_⟩
   ·rw [qAD];lia
   ·rw [qAD];have:i<3:=by rcases hmul with z| ⟨z,_⟩<;>lia
    lia
   have I9:ITs H9 c ts':=I8.kp K9 (nm1 npc.symm) ntp';rw [qAD] at x1 y1;obtain ⟨t,et⟩:∃t,ts'[d2.toNat]?=some t:=⟨ts'[d2.toNat]'(by lia),qAp (by lia)⟩;have evt:(ts'.map fun t=>V.ref t.2)[d2.toNat]?=some (V.ref t.2):=by rw [qAY,et];rfl
   refine ⟨_,_,_,.ref t.2,rfl,rfl,SqL.of I9.top,zCa y0 evt,_,_,_,_,rfl,rfl,I9.top,?_,x0,?_,?_⟩
   ·rw [qAD,qAO];have:i<3:=by rcases hmul with z| ⟨z,_⟩<;>lia
    lia
   ·rw [qAD];lia
   ·have hp:=ST.ins_perm ts' d1.toNat t;refine ⟨_,_,ts'.take d1.toNat++t::ts'.drop d1.toNat,rfl,P9.kp (M:=[c]) (Kp.put Kp.refl (by simp)) (nm1 npc),Kp.new (K7.trans (K8.trans K9)) fcH,(upd_ne nlc).trans ((K8.trans K9) l _ hl7 (nm1 npl.symm)),⟨?_,fun u hu=>?_⟩,fun u hu=>?_,?_⟩
    ·rw [upd_same,ins_map (fun t:(Int×Int)×Addr=>V.ref t.2)]
    ·have hu':u∈ts':=by
      rcases qAS.mp (hp.mem_iff.mp hu) with z| z
      ·rw [z];exact qAL et
      ·exact z
     exact (upd_ne (zBw (I9.row u hu') I9.top (fun y=>nomatch y))).trans (I9.row u hu')
    ·rcases qAS.mp (hp.mem_iff.mp hu) with z| z
     ·rw [z];exact s7 t (qAL et)
     ·exact s7 u z
    ·rw [hp.length_eq,qAe,e7];lia
  ·rintro σ H7 ⟨o7,o8,ts',rfl,P7,K7,hl7,I7,s7,e7⟩;have hts:ts'.length<=192:=by rcases hmul with z| ⟨z,_⟩<;>lia
   refine ⟨(by walk_at "ln"),fun g hg=>?_⟩;have fg:Fre H7 g:=hg;have npg:p≠g:=by obtain ⟨x,y,q,_⟩:=P7;exact ne_fre fg q
   have nlg:l≠g:=ne_fre fg hl7;have ncg:c≠g:=ne_fre fg I7.top;have fgH:Fre H g:=K7.fre fg (nm1 npg.symm);have k7g:Kp [] H7 (upd H7 g (.lst [])):=Kp.new Kp.refl fg;have ntp':∀t∈ts',t.2∉[p]:=fun t ht=>ntp t (s7 t ht)
   refine ⟨_,rfl,_,rfl,by lia,by lia,zB4 (lo:=0) (n:=m.toNat) (fun i σ H8=>∃(o7:Option V) (Is:List Int),σ=[some (.ref p),some (.int mo),some (.int m),some (.ref l),some (.int way),some (.int th),some (.ref c),o7,some (.ref g)]/\zBa H8 p/\Kp [p] H H8/\Txs H8 l ns/\ITs H8 c ts'/\H8 g=some (.lst (Is.map V.int))/\Spots Is i)
    ⟨_,[],rfl,P7.kp k7g (by simp),Kp.new K7 fgH,k7g l _ hl7 (by simp),I7.kp k7g (by simp) (by simp),upd_same,rfl,qBP,(fun x h=>nomatch h)⟩ ?_ ?_⟩
   ·rintro i σ H8 hi ⟨o7,Is,rfl,P8,K8,hl8,I8,hg8,S8⟩;refine ⟨_,rfl,.inl ⟨rfl,_,SqL.of hg8⟩,_,rfl,_,rfl,_,_,rfl,rfl,p,_,rfl,P8,?_,?_,fun d1 H9 x0 x1 P9 K9=>?_⟩
    ·lia
    ·lia
    have hg9:=K9 g _ hg8 (nm1 npg.symm);refine ⟨_,rfl,_,_,_,_,rfl,rfl,hg9,?_,x0,?_,?_⟩
    ·rw [qAD,S8.len,qAO];lia
    ·rw [qAD,S8.len];lia
    ·have e1:(Is.map V.int).take d1.toNat++V.int (0+(i:Int))::(Is.map V.int).drop d1.toNat=(Is.take d1.toNat++(i:Int)::Is.drop d1.toNat).map V.int:=by
      rw [Int.zero_add];exact ins_map V.int Is d1.toNat (i:Int)
     rw [e1];have hl9:=K9 l _ hl8 (nm1 npl.symm);have I9:=I8.kp K9 (nm1 npc.symm) ntp';exact ⟨_,_,rfl,P9.kp (M:=[g]) (Kp.put Kp.refl (by simp)) (nm1 npg),Kp.new (K8.trans K9) fgH,(upd_ne nlg).trans hl9,⟨(upd_ne ncg).trans I9.top,fun u hu=>(upd_ne (zBw (I9.row u hu) hg9 (fun y=>nomatch y))).trans (I9.row u hu)⟩,upd_same,S8.put _⟩
   ·rintro σ H8 ⟨o7,Is,rfl,P8,K8,hl8,I8,hg8,S8⟩;rw [<-en] at S8;have hmn:(ns.length:Int)=m:=by rw [en];lia
    refine ⟨_,rfl,_,rfl,_,rfl,⟨_,SqL.of I8.top⟩,fun B hB=>zA5 (ts'.map fun t=>V.ref t.2) (fun i ys τ H9=>∃ks:List (List Str×Addr),(∃o0 o1,τ=[o0,o1,some (.ref l),some (.ref g)])/\ys=(ks.map fun q=>V.ref q.2)/\ks.length=i/\(∀q∈ks,H9 q.2=some (.tup (q.1.map V.str))/\Fre H q.2/\∃(a b:Str) (x y:Nat),q.1=[a,b]/\x<y/\(rowOf ns Is)[x]?=some a/\(rowOf ns Is)[y]?=some b)/\Kp [] H8 H9/\H9 B=some (.lst ys))
     ⟨[],⟨_,_,rfl⟩,rfl,rfl,(fun q h=>nomatch h),Kp.new Kp.refl hB,upd_same⟩ (fun i ys τ H9 ⟨_,_,_,_,_,k9,_⟩=>SqL.of (k9 c _ I8.top (by simp))) ?_ ?_⟩
    ·rintro i v ys τ H9 hv ⟨ks,⟨o0,o1,rfl⟩,rfl,ek,hk,k9,h9⟩;obtain ⟨t,eq,rfl⟩:=it_at hv;have mt:=qAL eq;have okt:=ok5 t (s7 t mt);have hrow:H9 t.2=some (.tup [.int t.1.1,.int t.1.2]):=k9 t.2 _ (I8.row t mt) (by simp);refine ⟨_,_,rfl,.inl (.inl hrow),rfl,_,_,rfl,_,_,rfl,rfl,?_⟩;obtain ⟨s1,n1,a1,a2,a3,a4⟩:=rowOf_at S8 okt.1 (by lia);obtain ⟨s2,n2,b1,b2,b3,b4⟩:=rowOf_at S8 (i:=t.1.2) (by lia) (by lia);have hl9:=k9 l _ hl8 (by simp);have hg9:=k9 g _ hg8 (by simp);have ai:∀{x:Int} {s:Int},0<=x->Is[x.toNat]?=some s->atI (Is.map V.int) x=some (.int s):=fun h0 h=>zCa h0 (by rw [qAY,h];rfl);have an:∀{x:Int} {n:Str},0<=x->ns[x.toNat]?=some n->atI (ns.map V.str) x=some (.str n):=fun h0 h=>zCa h0 (by rw [qAY,h];rfl);refine ⟨_,rfl,_,rfl,_,rfl,_,_,_,_,rfl,rfl,SqL.of hg9,ai okt.1 a1,_,_,_,_,rfl,rfl,SqL.of hl9,an a2 a3,_,rfl,_,rfl,_,rfl,_,_,_,_,rfl,rfl,SqL.of hg9,ai (by lia) b1,_,_,_,_,rfl,rfl,SqL.of hl9,an b2 b3,(by walk_at "ln"),fun u hu=>?_⟩;have fu:Fre H9 u:=hu;have nBu:B≠u:=ne_fre fu h9;have hu8:Fre H8 u:=k9.fre fu (by simp);have npu:p≠u:=by obtain ⟨x,y,q,_⟩:=P8;exact ne_fre hu8 q
     have fuH:Fre H u:=K8.fre hu8 (nm1 npu.symm);refine ⟨(upd_ne nBu).trans h9,?_,ks++[([n1,n2],u)],⟨_,_,rfl⟩,?_,by rw [qAj,ek];rfl,fun q hq=>?_,Kp.new (Kp.new k9 (k9.fre fu (by simp))) hB,upd_same⟩
     ·have:=(qAh.mp eq).1;rw [qAD,ek,qAO];lia
     ·rw [qAM];rfl
     ·rcases qAN.mp hq with z| z
      ·obtain ⟨z1,z2⟩:=hk q z;exact ⟨(upd_ne (zBw z1 h9 (fun y=>nomatch y))).trans ((upd_ne (ne_fre fu z1)).trans z1),z2⟩
      ·rw [qAQ.mp z];exact ⟨(upd_ne nBu.symm).trans upd_same,fuH,n1,n2,t.1.1.toNat,t.1.2.toNat,rfl,by lia,a4,b4⟩
    ·rintro ys τ H9 ⟨ks,_,rfl,ek,hk,k9,h9⟩;rw [qAD] at ek;refine ⟨(by walk_at "ln"),fun t ht=>?_⟩;have ft:Fre H9 t:=ht;have k10:Kp [] H9 (upd H9 t (.tup [.ref l,.ref B])):=Kp.new Kp.refl ft;have ft8:Fre H8 t:=k9.fre ft (by simp);have npt:p≠t:=by obtain ⟨x,y,q,_⟩:=P8;exact ne_fre ft8 q
     have npB:p≠B:=by obtain ⟨x,y,q,_⟩:=P8;exact ne_fre (show Fre H8 B from hB) q
     have rnd:=rowOf_nd nd S8
     have rin:∀{x:Nat} {a:Str},(rowOf ns Is)[x]?=some a->a∈ns:=fun {x a} h=>by
      obtain ⟨s,hs,e⟩:=qAJ.mp (qAL h);have:=S8.lt s hs;rw [<-e,qBG,qAp (by lia)];exact qCZ _
     refine k t l B ns ks (fun n=>(rowOf ns Is).idxOf n) _ (by rw [en];lia) (by lia) upd_same (K8.fre ft8 (nm1 npt.symm)) flH (K8.fre (show Fre H8 B from hB) (nm1 npB.symm)) (fun q hq=>(hk q hq).2.1) ((k9.trans k10) l _ hl8 (by simp)) ⟨k10 B _ h9 (by simp),fun q hq=>k10 _ _ (hk q hq).1 (by simp),fun q hq=>?_⟩ ⟨nm,nd,by rw [en];lia,by lia,fun q hq x hx=>?_,fun q hq=>?_⟩ (P8.kp (k9.trans k10) (by simp)) (K8.trans ((k9.trans k10).weak (by simp)))
     ·obtain ⟨a,b,x,y,e,_⟩:=(hk q hq).2.2;exact ⟨a,b,e⟩
     ·obtain ⟨a,b,i,j,e,_,h1,h2⟩:=(hk q hq).2.2;rw [e] at hx;rcases qAS.mp hx with z| z
      ·rw [z];exact rin h1
      ·rw [qAQ.mp z];exact rin h2
     ·obtain ⟨a,b,i,j,e,hij,h1,h2⟩:=(hk q hq).2.2;have e1:fst q=a:=by unfold fst;rw [e];rfl
      have e2:snd q=b:=by unfold snd;rw [e];rfl
      rw [e1,e2,zHh rnd h1,zHh rnd h2];exact hij
end
structure Mth (P:Program) (w:World) (K:PySem.W.Frag) (mg:Str->Option Value) (base:Heap) (C:Addr) (m:Str) (k:Nat) (ps:List Str) (sp:Sp):Prop where
 to:∃(f:Addr) (fd:FuncData),Meth K C m f/\zC9 K fd ps []/\FnOk P w K mg base CX0 k f fd ps sp
theorem pe_methC {m:Str} {k:Nat} {ps:List Str} {o e:Expr} {es:List Expr} {apos pos:Pos} {ta:TE} {t:TA} {pl:Sem Bool} (M:Mth X.prog X.w X.K X.mg X.base C m k ps sp) (c:Cls X.K C) (hr:Room k X.A) (he:PE X o ta) (ha:PA X (e::es) t)
  (hst:starEach (e::es) X.env=(false,eval e X.env)::starEach es X.env:=by rfl) (hpl:(backTo pos (starEach es X.env)).any (·.1)=false:=by rfl)
  (ht:eval (.Call (.Attribute o m apos) (e::es) [] pos) X.env=(do
   let ov<-eval o X.env
   standAt apos.atName
   let (f,first)<-holding [ov] (getMethod ov m pl)
   callWith pos f first (backTo pos (starEach (e::es) X.env)) (backToKw pos (keywordEach [] X.env))):=by rfl):PE X (.Call (.Attribute o m apos) (e::es) [] pos) (tMeth C m sp [] E0 ta t):=by
 obtain ⟨f,fd,h1,h2,h3⟩:=M.to;exact pe_meth he c h1 h3 hr h2 .nil pass0 ha hst hpl ht
theorem zD7 {m:Str} {k:Nat} {ps:List Str} {o:Expr} {apos:Pos} {ta:TE} {pl:Sem Bool} (M:Mth X.prog X.w X.K X.mg X.base C m k ps sp) (c:Cls X.K C) (hr:Room k X.A) (he:PE X o ta)
  (ht:eval (.Call (.Attribute o m apos) [] [] pos) X.env=(do
   let ov<-eval o X.env
   standAt apos.atName
   let (f,first)<-holding [ov] (getMethod ov m pl)
   callWith pos f first (backTo pos (starEach [] X.env)) (backToKw pos (keywordEach [] X.env))):=by rfl):PE X (.Call (.Attribute o m apos) [] [] pos) (tMeth C m sp [] E0 ta tNil):=by
 obtain ⟨f,fd,h1,h2,h3⟩:=M.to;exact pe_meth0 he c h1 h3 hr h2 .nil pass0 ht
structure Mkr (P:Program) (w:World) (K:PySem.W.Frag) (mg:Str->Option Value) (base:Heap) (C:Addr) (x:Str) (k:Nat) (ps:List Str) (sp:Sp):Prop where
 to:∃(f:Addr) (fd:FuncData),Mk K C f/\mg x=some (.ref C)/\zC9 K fd ps []/\FnOk P w K mg base CX0 k f fd ps sp
theorem zEj {k:Nat} {ps:List Str} {e:Expr} {es:List Expr} {p:Pos} {t:TA} (M:Mkr X.prog X.w X.K X.mg X.base C x k (("self" : Str)::ps) sp) (hr:Room (k+1) X.A) (hg:Gl X x) (ha:PA X (e::es) t)
  (hdb:(x==("__debug__" : Str))=false:=by decide) (he:starEach (e::es) X.env=(false,eval e X.env)::starEach es X.env:=by rfl) (hpl:(backTo pos (starEach es X.env)).any (·.1)=false:=by rfl):PE X (.Call (.Name x p) (e::es) [] pos) (tMake C sp [] E0 t):=by
 obtain ⟨f,fd,h1,h2,h3,h4⟩:=M.to;exact pe_make h1 h4 hr hg h2 h3 .nil pass0 ha hdb he hpl
def TA (qs:List (List Str×Addr)) (a b:Str):Prop:=∃q∈qs,fst q=a/\snd q=b
inductive Way (qs:List (List Str×Addr)):Str->Str->Prop
 | one {a b:Str}:TA qs a b->Way qs a b
 | more {a b c:Str}:Way qs a b->TA qs b c->Way qs a c
theorem TA.to (two:∀q∈qs,∃a b,q.1=[a,b]) (qin:∀q∈qs,∀x∈q.1,x∈ns) (h:TA qs a b):a∈ns/\b∈ns:=by
 obtain ⟨q,hq,rfl,rfl⟩:=h;obtain ⟨a,b,e⟩:=two q hq;unfold fst snd;rw [e];exact ⟨qin q hq a (by rw [e];simp),qin q hq b (by rw [e];simp)⟩
theorem Way.to (two:∀q∈qs,∃a b,q.1=[a,b]) (qin:∀q∈qs,∀x∈q.1,x∈ns) (h:Way qs a b):a∈ns/\b∈ns:=by
 induction h with
 | one h=>exact h.to two qin
 | more _ h ih=>exact ⟨ih.1,(h.to two qin).2⟩
theorem S_way {j:Addr} {J:JR} (A:JobsAt C H j J) (G:Good J.ns qs r) (hz:∀k,k∈J.zs.map (·.1)↔k∈qs.map (·.1)) (hn:n∈J.ns):x∈J.S n↔Way qs x n:=by
 have tk:∀n x,x∈told J.zs n↔TA qs x n:=fun n x=>by
  rw [zJa];constructor
  ·rintro ⟨q,h1,h2,h3⟩;obtain ⟨q',h4,h5⟩:=qAJ.mp ((hz q.1).mp (qAJ.mpr ⟨q,h1,rfl⟩));obtain ⟨e1,e2⟩:=fst_of h5;exact ⟨q',h4,e1.trans h3,e2.trans h2⟩
  ·rintro ⟨q,h1,h2,h3⟩;obtain ⟨q',h4,h5⟩:=qAJ.mp ((hz q.1).mpr (qAJ.mpr ⟨q,h1,rfl⟩));obtain ⟨e1,e2⟩:=fst_of h5;exact ⟨q',h4,e2.trans h3,e1.trans h2⟩
 have tin:∀n x,TA qs x n->x∈J.ns/\r x<r n:=fun n x h=>by
  have hT:=(tk n x).mpr h;obtain ⟨q,q1,q2,q3⟩:=zJa.mp hT;obtain ⟨a,b,e⟩:=A.prs.two q q1;refine ⟨?_,?_⟩
  ·rw [<-q3];refine A.zin q q1 _ ?_;unfold fst;rw [e];simp
  ·obtain ⟨q',h1,h2,h3⟩:=h;rw [<-h2,<-h3];exact G.rk q' h1
 constructor
 ·have:∀(b:Nat) (n:Str),r n<=b->n∈J.ns->∀x,x∈J.S n->Way qs x n:=by
   intro b
   induction b with
   | zero =>
    intro n hb hn x hx;rcases (A.mem n hn x).mp hx with z| ⟨m,z,_⟩
    ·exact .one ((tk n x).mp z)
    ·have:=(tin n m ((tk n m).mp z)).2;lia
   | succ b ih =>
    intro n hb hn x hx;rcases (A.mem n hn x).mp hx with z| ⟨m,z,z'⟩
    ·exact .one ((tk n x).mp z)
    ·have h1:=tin n m ((tk n m).mp z);exact .more (ih m (by lia) h1.1 x z') ((tk n m).mp z)
  exact this (r n) n (qAF _) hn x
 ·intro w
  induction w with
  | one h=>exact (A.mem _ hn _).mpr (.inl ((tk _ _).mpr h))
  | more _ h ih=>exact (A.mem _ hn _).mpr (.inr ⟨_,(tk _ _).mpr h,ih (tin _ _ h).1⟩)
structure DS (H0 H:Hp) (d:Addr) (ns:List Str) (la:Str->Addr) (L:Str->List Str):Prop where
 top:H d=some (.dK (dT1 ns fun n=>.ref (la n)))
 row:∀n∈ns,SetD H (la n) (L n)
 ne:∀n∈ns,la n≠d
 fr:Fre H0 d
 frs:∀n∈ns,Fre H0 (la n)
theorem ne_nil_is {K:PySem.W.Frag} {c e:Addr} {xs:List V} {Q:VK} (h1:SqL K H c xs) (h2:SqL K H e []) (h:Q (.bl (decide (xs≠[]))) H):rAlike K 8 false (.ref c) (.ref e) H Q\/rUnlen K true (.ref c) (.ref e) H Q:=by
 by_cases z:xs=[]
 ·subst z;exact .inl ⟨c,e,_,_,rfl,rfl,h1,h2,rfl,(fun i x y h=>by simp at h),h⟩
 ·rw [qAR z] at h;exact .inr ⟨c,e,_,_,rfl,rfl,h1,h2,fun y=>z (qCk.mp y),h⟩
def szAt (H:Hp) (a:Addr):Nat:=match H a with
 | some (.lst xs)=>xs.length
 | some (.dK kvs)=>kvs.length
 | _=>0
theorem zIg {a:Addr} {xs:List V} (h:H a=some (.lst xs)):szAt H a=xs.length:=by unfold szAt;rw [h]
theorem szAt_dK {a:Addr} {kvs:List (Key×V)} (h:H a=some (.dK kvs)):szAt H a=kvs.length:=by unfold szAt;rw [h]
theorem dT1_snoc (B:List Str) (x:Str) (g:Str->V):dT1 (B++[x]) g=dT1 B g++[(.inr x,g x)]:=by unfold dT1;rw [qAM];rfl
theorem zE4 (B:List Str) (g:Str->V):(dT1 B g).length=B.length:=by unfold dT1;rw [qAD]
structure DR (H:Hp) (d:Addr) (ns:List Str) (la:Str->Addr) (L:Str->List Str):Prop where
 top:H d=some (.dK (dT1 ns fun n=>.ref (la n)))
 row:∀n∈ns,SetD H (la n) (L n)
theorem DS.rd {la:Str->Addr} {L:Str->List Str} (D:DS H0 H d ns la L):DR H d ns la L:=⟨D.top,D.row⟩
theorem DR.kp0 {la:Str->Addr} {L:Str->List Str} (D:DR H d ns la L) (k:Kp [] H H'):DR H' d ns la L:=⟨k d _ D.top (by simp),fun n hn=>k _ _ (D.row n hn) (by simp)⟩
theorem DR.get {la:Str->Addr} {L:Str->List Str} (D:DR H d ns la L) {y:Str} (hy:y∈ns):DGet H d (.str y) (some (.ref (la y))):=by
 have:=DGet.k (k:=Sum.inr y) D.top;rw [zCb,qAC hy] at this;exact this
def zBh (qs:List (List Str×Addr)) (n:Str):List Str:=(qs.filter fun q=>decide (fst q=n)).map snd
theorem zFg {y:Str}:y∈zBh qs n↔TA qs n y:=by
 unfold zBh TA;simp only [qAJ,qA3,qBH];exact ⟨fun ⟨q,⟨a,b⟩,c⟩=>⟨q,a,b,c⟩,fun ⟨q,a,b,c⟩=>⟨q,⟨a,b⟩,c⟩⟩
theorem zFf (qs:List (List Str×Addr)) (n:Str):(zBh qs n).length<=qs.length:=by
 unfold zBh;rw [qAD];exact qBJ _ _
structure NR (H:Hp) (d:Addr) (ns:List Str) (na:Str->Addr) (f:Str->List Str):Prop where
 top:H d=some (.dK (dT1 ns fun n=>.ref (na n)))
 row:∀n∈ns,Txs H (na n) (f n)
theorem NR.kp {M:List Addr} {na:Str->Addr} {f:Str->List Str} (D:NR H d ns na f) (k:Kp M H H') (h1:d∉M) (h2:∀n∈ns,na n∉M):NR H' d ns na f:=⟨k d _ D.top h1,fun n hn=>k _ _ (D.row n hn) (h2 n hn)⟩
theorem NR.get {na:Str->Addr} {f:Str->List Str} (D:NR H d ns na f) {y:Str} (hy:y∈ns):DGet H d (.str y) (some (.ref (na y))):=by
 have:=DGet.k (k:=Sum.inr y) D.top;rw [zCb,qAC hy] at this;exact this
structure BK (qs:List (List Str×Addr)) (ns:List Str) (n:Str) (B W:List Str):Prop where
 nd:B.Nodup
 sub:∀x∈B,x∈ns
 way:∀x∈B,Way qs n x
 wl:∀x∈W,Way qs n x
 c0:∀y,TA qs n y->y∈B\/y∈W
 cl:∀x∈B,∀y,TA qs x y->y∈B\/y∈W
 cap:W.length+307*(20 - B.length)<=6447
theorem BK.start (h:qs.length<=306):BK qs ns n [] (zBh qs n) :=
 ⟨qBP,(fun x h=>nomatch h),(fun x h=>nomatch h),fun x h=>.one (zFg.mp h),fun y h=>.inr (zFg.mpr h),(fun x h=>nomatch h),by
  have:=zFf qs n;simp only [qBV];lia⟩
theorem BK.old {x0:Str} {B W:List Str} (b:BK qs ns n B (W++[x0])) (h:x0∈B):BK qs ns n B W:=by
 have mv:∀y,(y∈B\/y∈W++[x0])->y∈B\/y∈W:=fun y hy=>by
  rcases hy with z| z
  ·exact .inl z
  ·rcases qAN.mp z with z| z
   ·exact .inr z
   ·rw [qAQ.mp z];exact .inl h
 refine ⟨b.nd,b.sub,b.way,fun x hx=>b.wl x (qAq _ hx),fun y hy=>mv y (b.c0 y hy),fun x hx y hy=>mv y (b.cl x hx y hy),?_⟩;have:=b.cap;rw [qAj,qCY] at this;lia
theorem BK.new {x0:Str} {B W:List Str} (b:BK qs ns n B (W++[x0])) (h:x0∉B) (hx:x0∈ns) (hn:ns.length<=20) (hq:qs.length<=306):BK qs ns n (B++[x0]) (W++zBh qs x0)/\(W++zBh qs x0).length+307*(20 - (B++[x0]).length)<W.length+1+307*(20 - B.length):=by
 have nd:(B++[x0]).Nodup:=qCf.mpr ⟨b.nd,by simp,fun a ha d hd=>by
  rw [qAQ.mp hd];exact fun z=>h (z▸ha)⟩
 have sub:∀x∈B++[x0],x∈ns:=fun x h=>by
  rcases qAN.mp h with z| z
  ·exact b.sub x z
  ·rw [qAQ.mp z];exact hx
 have w0:Way qs n x0:=b.wl x0 (by simp)
 have mv:∀y,(y∈B\/y∈W++[x0])->y∈B++[x0]\/y∈W++zBh qs x0:=fun y hy=>by
  rcases hy with z| z
  ·exact .inl (qAq _ z)
  ·rcases qAN.mp z with z| z
   ·exact .inr (qAq _ z)
   ·exact .inl (qAr _ z)
 have less:(W++zBh qs x0).length+307*(20 - (B++[x0]).length)<W.length+1+307*(20 - B.length):=by
  have h1:=zDy nd sub;have h2:=zFf qs x0;simp only [qAj,qCY] at *
  lia
 refine ⟨⟨nd,sub,fun x hx=>?_,fun x hx=>?_,fun y hy=>mv y (b.c0 y hy),fun x hx y hy=>?_,?_⟩,less⟩
 ·rcases qAN.mp hx with z| z
  ·exact b.way x z
  ·rw [qAQ.mp z];exact w0
 ·rcases qAN.mp hx with z| z
  ·exact b.wl x (qAq _ z)
  ·exact .more w0 (zFg.mp z)
 ·rcases qAN.mp hx with z| z
  ·exact mv y (b.cl x z y hy)
  ·rw [qAQ.mp z] at hy;exact .inr (qAr _ (zFg.mpr hy))
 ·have:=b.cap;rw [qAj,qCY] at this;lia
theorem BK.all {B:List Str} (b:BK qs ns n B []) (x:Str):x∈B↔Way qs n x:=by
 refine ⟨b.way x,fun h=>?_⟩
 induction h with
 | one h=>exact (b.c0 _ h).elim id (fun z=>nomatch z)
 | more _ h ih=>exact (b.cl _ ih _ h).elim id (fun z=>nomatch z)
theorem dT1_more {b:Addr} {la:Str->Addr} (h:n∉ns):dT1 ns (fun n=>V.ref (la n))++[(Sum.inr n,V.ref b)]=dT1 (ns++[n]) (fun x=>V.ref (if x=n then b else la x)):=by
 rw [dT1_snoc,qAC rfl];congr 1;exact zHj fun x hx=>by rw [qAB (show¬x=n from fun z=>h (z▸hx))]
section
def zGr:Sp:=fun vs H Q _=>∃(l m:Addr) (ns:List Str) (qs:List (List Str×Addr)),vs=[.ref l,.ref m]/\Txs H l ns/\Ords H m qs/\ns.Nodup/\ns.length<=20/\qs.length<=306/\(∀q∈qs,∀x∈q.1,x∈ns) /\
 ∀d la L H',DS H H' d ns la L->(∀n∈ns,(L n).Nodup/\∀x,x∈L n↔Way qs n x)->Kp [] H H'->Q (.ref d) H'
abbrev zGe:Stmt:=top 47
theorem zCn:FnScope ["_law_names_here", "_law_orders", "_law_near", "_law_name", "_law_found", "_law_waiting", "_law_here"] ["_law_names_here", "_law_orders"] (zAe zGe):=fnS
theorem ok_behind (F:Fun K "_law_behind" "_law_behind" zGe f fd) (T:Txt K mg):FnOk P w K mg base CX0 1 f fd ["_law_names_here", "_law_orders"] zGr:=by
 refine F.ok zCn (fun vs H Q E h=>?_) (fun cdv A outer s H vs Q E hr h=>?_)
 ·obtain ⟨l,m,ns,qs,rfl,_⟩:=h;rfl
 ·obtain ⟨l,m,ns,qs,rfl,hl,hm,hN,hn,hz,hq,k⟩:=h;have hu:=zFj hr
  refine ⟨_,(zAc (psS (i:=2) zCn.nd zCj)
   (zAc (zAz qAZ rfl (zAp (pv 0)) (pgN (i:=3) zCn.nd)
    (zAd (zDq hu (pv 2) (pv 3) (zBl rfl (zBe (sc:=zAe zGe) rfl (by decide +kernel)) (Draws.own (x:= "_law_one") (Draws.own (x:= "_law_other") (dtk (i:=3) rfl Draws.nil))) (zAp (pv 1)) (fun _ _ _ _=>(zFu (K:=K) (n:=2) rfl (zAt (pgB (i:=0)) (zAt (pgB (i:=1)) zCf)))) (fun _ _ _ _=>(zDp (zAn zDd (pv 0) (pv 2) (zAr _)))) (fun _ _ _ _=>(pv 1))) rfl)))
   (zAc (psS (i:=4) zCn.nd zCj)
   (zAc (zAz qAZ rfl (zAp (pv 0)) (pgN (i:=3) zCn.nd)
    (zAc (zDq hu (pv 4) (pv 3) zCj rfl)
    (zAc (psS (i:=5) zCn.nd (zAq zAy (by rfl) T.z_list zBi (zAa (zCq hu (pv 2) (pv 3) (fun _ _=>rfl)) zAb)))
    (zAd (zIx qAZ (zAn (zEy hr) (pv 5) (zA6 zAb) (zAr _))
     (zAc (psS (i:=6) zCn.nd (pe_bm0 qAt PySem.F.slot_list_pop PySem.F.type_list_pop mt_pop (pv 5)))
     (zAd (zA0 (zGy (zG1 hu (pv 6) (zCq hu (pv 4) (pv 3) (fun _ _=>rfl))))
      (zAc (zDq hu (zCq hu (pv 4) (pv 3) (fun _ _=>rfl)) (pv 6) pe_bl rfl)
      (zAd (zA2 (zC5 qAt qDO qDP zG6 (pv 5) (zAa (zCq hu (pv 2) (pv 6) (fun _ _=>rfl)) zAb)))))
      zAk))))))))
   (zAd (zAm (pv 4))))))),?_⟩
  refine fun d0 hd0=>?_;have fd0:Fre H d0:=hd0
  refine ⟨_,rfl,_,rfl,⟨_,SqL.of ((Kp.new (M:=[]) Kp.refl fd0) l _ hl (by simp))⟩,zAu (fun i σ H2=>(∃o3 o4 o5 o6:Option V,σ=[some (.ref l),some (.ref m),some (.ref d0),o3,o4,o5,o6])/\Kp [] H H2/\∃na,NR H2 d0 (ns.take i) na (zBh qs))
   ⟨⟨_,_,_,_,rfl⟩,Kp.new Kp.refl fd0,fun _=>0,upd_same,(fun n h=>nomatch h)⟩ (fun i σ H2 _ ⟨_,k2,_⟩=>SqL.of (k2 l _ hl (by simp))) ?_ ?_⟩
  ·rintro i v σ H2 hv ⟨⟨o3,o4,o5,o6,rfl⟩,k2,na,N⟩;obtain ⟨n,en,rfl⟩:=zA1 hv;have ni:=zFe hN en;have hm2:=hm.kp k2 (by simp) (by simp)
   refine ⟨_,rfl,_,rfl,⟨_,SqL.of hm2.top⟩,fun B hB=>zB6 (qs.map fun q=>V.ref q.2) (fun i ys τ H3=>(∃o0 o1,τ=[o0,o1,some (.str n)])/\ys=(zBh (qs.take i) n).map V.str/\H3=upd H2 B (.lst ys))
    ⟨⟨_,_,rfl⟩,rfl,rfl⟩ (fun i ys τ H3 ⟨_,_,z⟩=>by subst z;exact SqL.of ((Kp.new (M:=[]) Kp.refl hB) _ _ hm2.top (by simp))) ?_ ?_⟩
   ·rintro i v ys τ H3 hv ⟨⟨o0,o1,rfl⟩,rfl,rfl⟩;obtain ⟨q,eq,rfl⟩:=zGw hv;have mq:=qAL eq;obtain ⟨x,y,exy⟩:=hm.two q mq
    have hrow:(upd H2 B (.lst ((zBh (qs.take i) n).map V.str))) q.2=some (.tup [.str x,.str y]):=by
     have:=(Kp.new (l:=B) (o:=.lst ((zBh (qs.take i) n).map V.str)) (M:=[]) Kp.refl hB) q.2 _ (hm2.row q mq) (by simp);rw [exy] at this;exact this
    have e1:fst q=x:=(by unfold fst;rw [exy];rfl);have e2:snd q=y:=(by unfold snd;rw [exy];rfl);refine ⟨_,_,rfl,.inl (.inl hrow),rfl,_,_,rfl,_,_,rfl,rfl,?_⟩;refine ⟨_,rfl,_,rfl,rfl,_,rfl,ite2 (fun c=>?_) (fun c=>?_)⟩
    ·have c':x=n:=by simpa using c
     refine ⟨_,rfl,upd_same,?_,⟨_,_,rfl⟩,?_,zCc⟩
     ·have:=zFf (qs.take i) n;rw [qAX] at this;rw [qAD,qAO];lia
     ·have:zBh (qs.take (i+1)) n=zBh (qs.take i) n++[y]:=by
       unfold zBh;rw [zDt eq (qAR (e1.trans c')),qAM,qAi,e2];rfl
      rw [this,qAM];rfl
    ·have c':¬x=n:=fun z=>c (by simpa using z);refine ⟨⟨_,_,rfl⟩,?_,?_⟩
     ·have:zBh (qs.take (i+1)) n=zBh (qs.take i) n:=by
       unfold zBh;rw [zEb eq (by rw [e1];simpa using c')]
      rw [this]
     ·rfl
   ·rintro ys τ H3 ⟨_,rfl,rfl⟩;have eT:qs.take (qs.map fun q=>V.ref q.2).length=qs:=by rw [qAD,qAf]
    rw [eT];have fB:Fre H2 B:=hB;have nB:d0≠B:=ne_fre fB N.top;have k3:Kp [] H2 (upd H2 B (.lst ((zBh qs n).map V.str))):=Kp.new Kp.refl fB;have hd3:=k3 d0 _ N.top (by simp);refine ⟨_,rfl,_,rfl,_,_,rfl,DPut.k (k:=Sum.inr n) hd3 ?_,?_⟩
    ·rw [zE4,qAX,qAO];lia
    rw [zEx _ ni,dT1_more ni,<-zAi en];refine ⟨⟨_,_,_,_,rfl⟩,Kp.new (k2.trans k3) fd0,fun x=>if x=n then B else na x,upd_same,fun x hx=>?_⟩;show Txs _ (if x=n then B else na x) (zBh qs x)
    by_cases z:x=n
    ·rw [qAC z,z];exact (upd_ne nB.symm).trans upd_same
    ·rw [qAB z];rw [zAi en] at hx;rcases qAN.mp hx with y| y
     ·have h1:=k3 _ _ (N.row x y) (by simp);exact (upd_ne (zBw h1 hd3 (fun z=>nomatch z))).trans h1
     ·exact absurd (qAQ.mp y) z
  ·rintro σ H1 ⟨⟨o3,o4,o5,o6,rfl⟩,k1,na,N⟩;have eT:ns.take (ns.map V.str).length=ns:=by rw [qAD,qAf]
   rw [eT] at N;refine fun d hd=>?_;have fd1:Fre H1 d:=hd;have fd:Fre H d:=k1.fre fd1 (by simp);have nd0:d0≠d:=ne_fre fd1 N.top;have N1:NR (upd H1 d (.dK [])) d0 ns na (zBh qs):=N.kp (M:=[]) (Kp.new Kp.refl fd1) (by simp) (by simp)
   refine ⟨_,rfl,_,rfl,⟨_,SqL.of ((Kp.new (M:=[]) k1 fd) l _ hl (by simp))⟩,zAu (fun i σ H2=>(∃o3 o5 o6:Option V,σ=[some (.ref l),some (.ref m),some (.ref d0),o3,some (.ref d),o5,o6])/\Kp [] H H2/\Kp [d] H1 H2/\∃la L,DS H H2 d (ns.take i) la L/\∀n∈ns.take i,(L n).Nodup/\∀x,x∈L n↔Way qs n x)
    ⟨⟨_,_,_,rfl⟩,Kp.new k1 fd,Kp.put Kp.refl (by simp),fun _=>0,fun _=>[],⟨upd_same,(fun n h=>nomatch h),(fun n h=>nomatch h),fd,(fun n h=>nomatch h)⟩,(fun n h=>nomatch h)⟩ (fun i σ H2 _ ⟨_,k2,_⟩=>SqL.of (k2 l _ hl (by simp))) ?_ ?_⟩
   ·rintro i0 v σ H2 hv ⟨⟨o3,o5,o6,rfl⟩,k2,q2,la,L,D,hL⟩;obtain ⟨n,en,rfl⟩:=zA1 hv;have mn:=qAL en;have ni:=zFe hN en;have nnd:∀x∈ns,na x≠d:=fun x hx=>ne_fre fd1 (N.row x hx);have N2:NR H2 d0 ns na (zBh qs):=N.kp q2 (nm1 nd0) (fun x hx=>nm1 (nnd x hx));refine fun b hb=>?_;have fb:Fre H2 b:=hb;have ndb:d≠b:=ne_fre fb D.top;have fbH:Fre H b:=k2.fre fb (by simp);refine ⟨_,rfl,_,rfl,_,_,rfl,DPut.k (k:=Sum.inr n) ((upd_ne ndb).trans D.top) ?_,?_⟩
    ·rw [zE4,qAX,qAO];lia
    rw [zEx _ ni,dT1_more ni,<-zAi en];have k3:Kp [] H (upd (upd H2 b (.dK [])) d (.dK (dT1 (ns.take (i0+1)) (fun x=>.ref (if x=n then b else la x))))):=Kp.new (Kp.new k2 fbH) fd;have q3:Kp [d] H2 (upd (upd H2 b (.dK [])) d (.dK (dT1 (ns.take (i0+1)) (fun x=>.ref (if x=n then b else la x))))):=Kp.put (Kp.new Kp.refl fb) (by simp);have hd3:(upd (upd H2 b (.dK [])) d (.dK (dT1 (ns.take (i0+1)) (fun x=>.ref (if x=n then b else la x))))) d=some (.dK (dT1 (ns.take (i0+1)) (fun x=>.ref (if x=n then b else la x)))):=upd_same;have hb3:(upd (upd H2 b (.dK [])) d (.dK (dT1 (ns.take (i0+1)) (fun x=>.ref (if x=n then b else la x))))) b=some (.dK []):=(upd_ne ndb.symm).trans upd_same;generalize upd (upd H2 b (.dK [])) d (.dK (dT1 (ns.take (i0+1)) (fun x=>.ref (if x=n then b else la x))))=H3 at k3 q3 hd3 hb3 ⊢;have N3:NR H3 d0 ns na (zBh qs):=N2.kp q3 (nm1 nd0) (fun x hx=>nm1 (nnd x hx));have hs3:∀x∈ns.take i0,SetD H3 (la x) (L x):=fun x hx=>q3 _ _ (D.row x hx) (nm1 (D.ne x hx));have nlb:∀x∈ns.take i0,la x≠b:=fun x hx=>ne_fre fb (D.row x hx);refine ⟨_,rfl,_,rfl,_,_,rfl,N3.get mn,_,_,rfl,.inl (SqL.of (N3.row n mn)),fun wa hwa=>?_⟩;have fw:Fre H3 wa:=hwa;have k4:Kp [] H3 (upd H3 wa (.lst ((zBh qs n).map V.str))):=Kp.new Kp.refl fw;have hw4:Txs (upd H3 wa (.lst ((zBh qs n).map V.str))) wa (zBh qs n):=upd_same;have nwb:b≠wa:=ne_fre fw hb3;have nwd:d≠wa:=ne_fre fw hd3;have fwH:Fre H wa:=k3.fre fw (by simp);generalize upd H3 wa (.lst ((zBh qs n).map V.str))=H4 at k4 hw4 ⊢;have hb4:SetD H4 b []:=k4 b _ hb3 (by simp);have hd4:=k4 d _ hd3 (by simp);have N4:NR H4 d0 ns na (zBh qs):=N3.kp k4 (by simp) (by simp);have k04:=k3.trans k4;have nab:∀x∈ns,na x∉[b,wa]:=fun x hx=>nm2 (zBw (N3.row x hx) hb3 (fun z=>nomatch z)) (ne_fre fw (N3.row x hx));have n0b:d0∉[b,wa]:=nm2 (ne_fre fb N2.top) (ne_fre fw N3.top)
    have gd:∀{Hx:Hp},Hx d=some (.dK (dT1 (ns.take (i0+1)) (fun x=>.ref (if x=n then b else la x))))->DGet Hx d (.str n) (some (.ref b)):=fun h=>by
     have h1:=DGet.k (k:=Sum.inr n) h;rw [zCb,qAC (by rw [zAi en];simp),qAC rfl] at h1;exact h1
    refine zId (fun σ H5=>(∃o6:Option V,σ=[some (.ref l),some (.ref m),some (.ref d0),some (.str n),some (.ref d),some (.ref wa),o6])/\Kp [b,wa] H4 H5/\∃B W,SetD H5 b B/\Txs H5 wa W/\BK qs ns n B W) (fun _ H5=>307*(20 - szAt H5 b)+szAt H5 wa)
     ⟨⟨_,rfl⟩,Kp.refl,[],zBh qs n,hb4,hw4,BK.start hz⟩ ?_ (fun σ H Q Q' hq hc=>?_)
    ·rintro σ H5 ⟨⟨o6',rfl⟩,k5,B,W,hB,hW,I5⟩;refine ⟨_,rfl,(by walk_at "ln"),fun e he=>?_⟩;have fe:Fre H5 e:=he;have k5e:Kp [] H5 (upd H5 e (.lst [])):=Kp.new Kp.refl fe;have hB6:SetD (upd H5 e (.lst [])) b B:=k5e b _ hB (by simp);have hW6:Txs (upd H5 e (.lst [])) wa W:=k5e wa _ hW (by simp);have hE6:(upd H5 e (.lst [])) e=some (.lst []):=upd_same;have k46:Kp [b,wa] H4 (upd H5 e (.lst [])):=fun c o h z=>k5e c o (k5 c o h z) (by simp);generalize upd H5 e (.lst [])=H6 at k5e hB6 hW6 hE6 k46 ⊢;refine ne_nil_is (SqL.of hW6) (SqL.of hE6) ?_;refine ⟨_,rfl,ite2 (fun c=>?_) (fun c=>?_)⟩
     ·obtain ⟨W0,x0,rfl⟩:∃W0 x0,W=W0++[x0]:=by
       have:W≠[]:=fun z=>by rw [z] at c;exact absurd c (by decide)
       exact ⟨W.dropLast,W.getLast this,(List.dropLast_concat_getLast this).symm⟩
      have eW:(W0++[x0]).map V.str=W0.map V.str++[.str x0]:=by rw [qAM];rfl
      have hW6:H6 wa=some (.lst (W0.map V.str++[.str x0])):=by rw [<-eW];exact hW6
      have cap0:=I5.cap;rw [qAj,qCY] at cap0;have hx0:x0∈ns:=((I5.wl x0 (by simp)).to hm.two hq).2;refine ⟨_,rfl,.inl ⟨rfl,_,SqL.of hW6⟩,_,_,.str x0,rfl,rfl,hW6,(by simp),?_⟩;rw [List.dropLast_concat];have k7:Kp [b,wa] H4 (upd H6 wa (.lst (W0.map V.str))):=Kp.put k46 (by simp);have hW7:Txs (upd H6 wa (.lst (W0.map V.str))) wa W0:=upd_same;have hB7:SetD (upd H6 wa (.lst (W0.map V.str))) b B:=(upd_ne nwb).trans hB6;generalize upd H6 wa (.lst (W0.map V.str))=H7 at k7 hW7 hB7 ⊢;have s3:szAt H5 b=B.length:=by rw [szAt_dK hB,zE4]
      have s4:szAt H5 wa=W0.length+1:=by rw [zIg hW,qAD,qAj];rfl
      obtain ⟨o,g1,g2⟩:=zIo hB7 x0;have hd7:=k7 d _ hd4 (nm2 ndb nwd);refine ⟨_,rfl,_,rfl,_,rfl,_,_,rfl,gd hd7,_,o,rfl,g1,_,rfl,?_⟩;rw [g2];refine ite2 (fun c2=>?_) (fun c2=>?_)
      ·have c2':x0∉B:=by simpa using c2
       obtain ⟨I7,less⟩:=I5.new c2' hx0 hn hz;refine ⟨_,rfl,_,rfl,_,_,rfl,gd hd7,_,rfl,_,_,rfl,DPut.k (k:=Sum.inr x0) hB7 ?_,?_⟩
       ·have:=zDy I5.nd I5.sub;rw [zE4,qAO];lia
       rw [zEx _ c2',<-dT1_snoc B x0 fun _=>.bl true];have hW8:Txs (upd H7 b (.dK (dT1 (B++[x0]) fun _=>.bl true))) wa W0:=(upd_ne nwb.symm).trans hW7;have k8:Kp [b,wa] H4 (upd H7 b (.dK (dT1 (B++[x0]) fun _=>.bl true))):=Kp.put k7 (by simp);have hB8:SetD (upd H7 b (.dK (dT1 (B++[x0]) fun _=>.bl true))) b (B++[x0]):=upd_same;generalize upd H7 b (.dK (dT1 (B++[x0]) fun _=>.bl true))=H8 at k8 hW8 hB8 ⊢;have N8:NR H8 d0 ns na (zBh qs):=N4.kp k8 n0b nab;refine ⟨_,rfl,.inl ⟨rfl,_,SqL.of hW8⟩,_,rfl,_,rfl,_,_,rfl,N8.get hx0,_,_,_,_,rfl,rfl,hW8,N8.row x0 hx0,?_,?_⟩
       ·have:=zFf qs x0;rw [qAD,qAD,qAO];lia
       have hW9:∀Hx:Hp,Txs (upd Hx wa (.lst (W0.map V.str++(zBh qs x0).map V.str))) wa (W0++zBh qs x0):=fun Hx=>by
        show upd _ wa _ wa=some (.lst ((W0++zBh qs x0).map V.str));rw [upd_same,qAM]
       refine ⟨⟨⟨_,rfl⟩,Kp.put k8 (by simp),B++[x0],W0++zBh qs x0,(upd_ne nwb).trans hB8,hW9 _,I7⟩,?_⟩;have s1:∀o,szAt (upd H8 wa o) b=(B++[x0]).length:=fun o=>by rw [szAt_dK ((upd_ne nwb).trans hB8),zE4]
       have s2:szAt (upd H8 wa (.lst (W0.map V.str++(zBh qs x0).map V.str))) wa=(W0++zBh qs x0).length:=by rw [zIg (hW9 H8),qAD]
       show 307*(20 - szAt _ b)+szAt _ wa<307*(20 - szAt H5 b)+szAt H5 wa;rw [s1,s2,s3,s4];lia
      ·have c2':x0∈B:=by simpa using c2
       refine ⟨⟨⟨_,rfl⟩,k7,B,W0,hB7,hW7,I5.old c2'⟩,?_⟩;have s1:szAt H7 b=B.length:=by rw [szAt_dK hB7,zE4]
       have s2:szAt H7 wa=W0.length:=by rw [zIg hW7,qAD]
       show 307*(20 - szAt H7 b)+szAt H7 wa<307*(20 - szAt H5 b)+szAt H5 wa;rw [s1,s2,s3,s4];lia
     ·have eW:W=[]:=by
       cases W with
       | nil=>rfl
       | cons _ _=>exact absurd (qAR (by simp)) c
      subst eW;have k6:Kp [] H H6:=fun c o h _=>k46 c o (k04 c o h (by simp)) (nm2 (ne_fre fbH h) (ne_fre fwH h))
      have q6:Kp [d] H1 H6:=fun c o h z=>by
       have h2:=q2 c o h z;have h3:=q3 c o h2 z;exact k46 c o (k4 c o h3 (by simp)) (nm2 (ne_fre fb h2) (ne_fre fw h3))
      have hd6:=k46 d _ hd4 (nm2 ndb nwd)
      have cs:∀x,x∈ns.take (i0+1)->(x∈ns.take i0/\x≠n)\/x=n:=fun x h=>by
       rw [zAi en] at h;rcases qAN.mp h with z| z
       ·exact .inl ⟨z,fun y=>ni (y▸z)⟩
       ·exact .inr (qAQ.mp z)
      refine ⟨⟨_,_,_,rfl⟩,k6,q6,fun x=>if x=n then b else la x,fun x=>if x=n then B else L x,⟨hd6,fun x hx=>?_,fun x hx=>?_,D.fr,fun x hx=>?_⟩,fun x hx=>?_⟩
      ·show SetD H6 (if x=n then b else la x) (if x=n then B else L x);rcases cs x hx with ⟨z1,z2⟩| z
       ·rw [qAB z2,qAB z2];have h3:=hs3 x z1;exact k46 _ _ (k4 _ _ h3 (by simp)) (nm2 (nlb x z1) (ne_fre fw h3))
       ·rw [qAC z,qAC z];exact hB6
      ·show (if x=n then b else la x)≠d;rcases cs x hx with ⟨z1,z2⟩| z
       ·rw [qAB z2];exact D.ne x z1
       ·rw [qAC z];exact ndb.symm
      ·show Fre H (if x=n then b else la x);rcases cs x hx with ⟨z1,z2⟩| z
       ·rw [qAB z2];exact D.frs x z1
       ·rw [qAC z];exact fbH
      ·show (if x=n then B else L x).Nodup/\∀y,y∈(if x=n then B else L x)↔_;rcases cs x hx with ⟨z1,z2⟩| z
       ·rw [qAB z2];exact hL x z1
       ·rw [qAC z,z];exact ⟨I5.nd,I5.all⟩
    ·obtain ⟨x,e,h1,h2⟩:=hc;refine ⟨x,e,h1,fun l hl=>?_⟩;rcases h2 l hl with ⟨a,c,xs,ys,q1,q2,q3,q4,q5,q6,b,q7,q8⟩| ⟨a,c,xs,ys,q1,q2,q3,q4,q5,b,q7,q8⟩
     ·exact .inl ⟨a,c,xs,ys,q1,q2,q3,q4,q5,q6,b,q7,hq _ _ q8⟩
     ·exact .inr ⟨a,c,xs,ys,q1,q2,q3,q4,q5,b,q7,hq _ _ q8⟩
   ·rintro σ H2 ⟨⟨o3,o5,o6,rfl⟩,k2,q2,la,L,D,hL⟩;rw [eT] at D hL;exact ⟨_,rfl,k d la L H2 D hL k2⟩
end
theorem JNew.back {J:JR} (N:JNew H' J) (k:Kp [] H H'):JNew H J:=⟨k.fre N.r (by simp),k.fre N.p (by simp),k.fre N.e (by simp),fun q hq=>k.fre (N.z q hq) (by simp),fun n hn=>k.fre (N.s n hn) (by simp)⟩
theorem Good.keys {zs:List (List Str×Addr)} (G:Good ns qs r) (hz:∀k,k∈zs.map (·.1)↔k∈qs.map (·.1)) (hl:zs.length<=306):Good ns zs r:=by
 have bk:∀q∈zs,∃q'∈qs,q'.1=q.1:=fun q hq=>qAJ.mp ((hz q.1).mp (qAJ.mpr ⟨q,hq,rfl⟩));refine ⟨G.nm,G.nd,G.few,hl,fun q hq x hx=>?_,fun q hq=>?_⟩
 ·obtain ⟨q',h1,h2⟩:=bk q hq;exact G.qin q' h1 x (by rw [h2];exact hx)
 ·obtain ⟨q',h1,h2⟩:=bk q hq;obtain ⟨e1,e2⟩:=fst_of h2;rw [<-e1,<-e2];exact G.rk q' h1
def topR (r:Str->Nat) (ns:List Str):Nat:=(ns.map r).sum
theorem le_topR (r:Str->Nat):∀{ns:List Str} {x:Str},x∈ns->r x<=topR r ns
 | y::ns,x,h=>by
  unfold topR;rw [qAi,List.sum_cons];rcases qAS.mp h with z| z
  ·rw [z];lia
  ·have:=le_topR r z;unfold topR at this;lia
theorem fst_two {q:List Str×Addr} (e:q.1=[a,b]):fst q=a/\snd q=b:=by unfold fst snd;rw [e];exact ⟨rfl,rfl⟩
theorem Good.rev {ks:List (List Str×Addr)} (G:Good ns qs r) (two:∀q∈qs,∃a b,q.1=[a,b]) (e:ks.map (·.1)=qs.map fun q=>q.1.reverse):Good ns ks fun x=>topR r ns - r x:=by
 have bk:∀k∈ks,∃q∈qs,q.1.reverse=k.1:=fun k hk=>by
  have:k.1∈ks.map (·.1):=qAJ.mpr ⟨k,hk,rfl⟩;rw [e] at this;exact qAJ.mp this
 refine ⟨G.nm,G.nd,G.few,?_,fun k hk x hx=>?_,fun k hk=>?_⟩
 ·have:=qAa List.length e;rw [qAD,qAD] at this;rw [this];exact G.qfew
 ·obtain ⟨q,h1,h2⟩:=bk k hk;rw [<-h2] at hx;exact G.qin q h1 x (qC8.mp hx)
 ·obtain ⟨q,h1,h2⟩:=bk k hk;obtain ⟨a,b,eab⟩:=two q h1;have e1:=fst_two eab;have e2:k.1=[b,a]:=by rw [<-h2,eab];rfl
  have e3:=fst_two e2;have hb:b∈ns:=G.qin q h1 b (by rw [eab];simp);have:=G.rk q h1;rw [e1.1,e1.2] at this;rw [e3.1,e3.2];have:=le_topR r hb;lia
section
def spTurned (C:Addr):Sp:=fun vs H Q _=>∃(j:Addr) (J:JR) (r:Str->Nat),vs=[.ref j]/\JobsAt C H j J/\Good J.ns J.zs r/\∀x J' H',Fre H x->JobsAt C H' x J'->JNew H J'->J'.ns=J.ns->(∀k,k∈J'.zs.map (·.1)↔k∈J.zs.map fun q=>q.1.reverse)->Kp [] H H'->Q (.ref x) H'
abbrev zCi:Stmt:=zHg (top 34) 8
theorem zHp:FnScope ["self"] ["self"] (zAe zCi):=fnS
theorem zHt (F:Fun K "turned" "Jobs.turned" zCi f fd) (T:Txt K mg) (U:JC K mg C) (M_Jobs:Mkr P w K mg base C "Jobs" 4 ["self", "names", "orders"] (spInit C)):FnOk P w K mg base CX0 6 f fd ["self"] (spTurned C):=by
 refine F.ok zHp (fun vs H Q E h=>?_) (fun cdv A outer s H vs Q E hr h=>?_)
 ·obtain ⟨j,J,r,rfl,_⟩:=h;rfl
 ·obtain ⟨j,J,r,rfl,A0,G,k⟩:=h;refine ⟨_,(zAd (zAm (zEj M_Jobs hr rfl (zAa (zEr (pv 0) rfl) (zAa (zBl rfl (zBe (sc:=zAe zCi) rfl (by decide +kernel)) (Draws.own (x:= "one") (Draws.own (x:= "other") Draws.nil)) (zAp (zEr (pv 0) rfl)) (fun _ _ _ _=>(zFu (K:=K) (n:=2) rfl (zAt (pgB (i:=0)) (zAt (pgB (i:=1)) zCf)))) (fun _ _ _ _=>zBr) (fun _ _ _ _=>(zA9 (zAa (pv 1) (zAa (pv 0) zAb))))) zAb))))),?_⟩
  refine ⟨_,rfl,_,_,_,_,_,rfl,A0.ob,U.cl,U.n_row,jf_row _ _ _,_,rfl,_,_,_,_,_,rfl,A0.ob,U.cl,U.n_pairs,jf_pairs _ _ _,_,rfl,⟨_,SqL.of A0.prs.top⟩,fun B hB=>zA5 (J.zs.map fun q=>V.ref q.2) (fun i ys τ H3=>∃ks:List (List Str×Addr),(∃o0 o1,τ=[o0,o1])/\ys=(ks.map fun q=>V.ref q.2)/\ks.map (·.1)=(J.zs.take i).map (fun q=>q.1.reverse)/\(∀q∈ks,H3 q.2=some (.tup (q.1.map V.str)))/\Kp [] H H3/\H3 B=some (.lst ys))
   ⟨[],⟨_,_,rfl⟩,rfl,rfl,(fun q h=>nomatch h),Kp.new Kp.refl hB,upd_same⟩ (fun i ys τ H3 ⟨_,_,_,_,_,k3,_⟩=>SqL.of (k3 _ _ A0.prs.top (by simp))) ?_ ?_⟩
  ·rintro i v ys τ H3 hv ⟨ks,⟨o0,o1,rfl⟩,rfl,ek,hk,k3,h3⟩;obtain ⟨q,eq,rfl⟩:=zGw hv;have mq:=qAL eq;obtain ⟨a,b,eab⟩:=A0.prs.two q mq
   have hrow:H3 q.2=some (.tup [.str a,.str b]):=by
    have:=k3 q.2 _ (A0.prs.row q mq) (by simp);rw [eab] at this;exact this
   refine ⟨_,_,rfl,.inl (.inl hrow),rfl,_,_,rfl,_,_,rfl,rfl,?_⟩;have hlen:ks.length=(J.zs.take i).length:=by have:=qAa List.length ek;simpa using this
   refine ⟨_,rfl,_,rfl,(by walk_at "ln"),fun t ht=>?_⟩;have ft:Fre H3 t:=ht;have nBt:B≠t:=ne_fre ft h3;refine ⟨(upd_ne nBt).trans h3,?_,ks++[([b,a],t)],⟨_,_,rfl⟩,?_,?_,fun q' hq'=>?_,?_,?_⟩
   ·rw [qAD,hlen,qAX,qAO];have:=A0.zfew;lia
   ·rw [qAM];rfl
   ·rw [qAM,ek,zAi eq,qAM,qAi,qAi,eab];rfl
   ·rcases qAN.mp hq' with z| z
    ·exact (upd_ne (zBw (hk q' z) h3 (fun y=>nomatch y))).trans ((upd_ne (ne_fre ft (hk q' z))).trans (hk q' z))
    ·rw [qAQ.mp z];exact (upd_ne nBt.symm).trans upd_same
   ·exact Kp.new (Kp.new k3 (k3.fre ft (by simp))) hB
   ·exact upd_same
  ·rintro ys τ H3 ⟨ks,_,rfl,ek,hk,k3,h3⟩;have eT:J.zs.take (J.zs.map fun q=>V.ref q.2).length=J.zs:=by rw [qAD,qAf]
   rw [eT] at ek
   have ktwo:∀q∈ks,∃a b,q.1=[a,b]:=fun q hq=>by
    have:q.1∈ks.map (·.1):=qAJ.mpr ⟨q,hq,rfl⟩;rw [ek] at this;obtain ⟨q',hq',e⟩:=qAJ.mp this;obtain ⟨a,b,eab⟩:=A0.prs.two q' hq';exact ⟨b,a,by rw [<-e,eab];rfl⟩
   refine fun x dx hx hdx nxd=>?_;have fx:Fre H3 x:=hx;have k4:Kp [] H3 (upd (upd H3 dx (.own x)) x (.ins C dx [])):=Kp.new (Kp.new Kp.refl hdx) fx;have hx4:(upd (upd H3 dx (.own x)) x (.ins C dx [])) x=some (.ins C dx []):=upd_same;generalize upd (upd H3 dx (.own x)) x (.ins C dx [])=H4 at k4 hx4 ⊢;have k04:=k3.trans k4;refine ⟨x,dx,J.r,B,J.ns,ks,_,rfl,hx4,k04 _ _ A0.row (by simp),⟨k4 B _ h3 (by simp),fun q hq=>k4 _ _ (hk q hq) (by simp),ktwo⟩,G.rev A0.prs.two ek,fun J' H5 A5 N5 ens ezs K5=>⟨rfl,?_⟩⟩;refine k x J' H5 (k3.fre fx (by simp)) A5 (N5.back k04) ens (fun q=>?_) (k3.trans (Kp.drop k4 fx K5));rw [ezs q,ek]
end
def ordT (k:List Str):Str:=k.getD 0 Str.empty++ " < " ++ k.getD 1 Str.empty
def txtS (ns:List Str) (ks:List (List Str)):Str:=Txt.join "; " (Txt.join " " ns::ks.map ordT)
theorem zHd (sep p q:Str) (r:List Str):Txt.join sep (p::q::r)=p++sep++Txt.join sep (q::r):=by
 show Builtin.Str.glued sep (p::q::r)=p++sep++Builtin.Str.glued sep (q::r);rw [qDF,qDF];rfl
theorem join_tail:∀(ts:List Str) (h:Str),Txt.join "; " (h::ts)=h++Txt.join "" (ts.map fun t=>("; " : Str)++t)
 | [],h=>(app_empty h).symm
 | [t],h=>by
  rw [zHd];show h++ "; " ++ t=h++(("; " : Str)++t);exact zHl _ _ _
 | t::s::r,h=>by
  rw [zHd,join_tail (s::r) t,qAi,qAi,qAi,zHd,show (("; " : Str)++t++ "")=("; " : Str)++t from app_empty _,zHl,zHl]
theorem zB9.no {s:Str} (h:zB9 s) {c:Nat} (hc:c<97):c∉s.cps.toList:=fun z=>by have:=(h.2.2 c z).1;lia
theorem app_no {c:Nat} (h1:c∉a.cps.toList) (h2:c∉b.cps.toList):c∉(a++b).cps.toList:=by
 rw [qCa,qCF];exact fun z=>(qAN.mp z).elim h1 h2
theorem join_mem {sep:Str} {c:Nat} (hs:c∉sep.cps.toList):∀(xs:List Str),(∀x∈xs,c∉x.cps.toList)->c∉(Txt.join sep xs).cps.toList:=by
 intro xs h;show c∉(Builtin.Str.glued sep xs).cps.toList;rw [SM.glued_toList]
 induction xs with
 | nil=>simp [SM.glue]
 | cons x r ih =>
  cases r with
  | nil=>simpa [SM.glue] using h x qAV
  | cons y r =>
   show c∉x.cps.toList++sep.cps.toList++SM.glue sep.cps.toList ((y::r).map fun p=>p.cps.toList);intro z;rcases qAN.mp z with z| z
   ·rcases qAN.mp z with z| z
    ·exact h x qAV z
    ·exact hs z
   ·exact ih (fun q hq=>h q (qAU _ hq)) z
theorem own_sc:SM.Own ("; " : Str).cps.toList 59 0:=⟨by decide +kernel,fun j h=>by
 have e:("; " : Str).cps.toList=[59,32]:=by decide +kernel
 rw [e] at h
 match j,h with
 | 0,_=>rfl
 | 1,h=>simp at h
 | n+2,h=>simp at h⟩
theorem own_bl:SM.Own (" " : Str).cps.toList 32 0:=⟨by decide +kernel,fun j h=>by
 have e:(" " : Str).cps.toList=[32]:=by decide +kernel
 rw [e] at h
 match j,h with
 | 0,_=>rfl
 | n+1,h=>simp at h⟩
theorem own_lt:SM.Own (" < " : Str).cps.toList 60 1:=⟨by decide +kernel,fun j h=>by
 have e:(" < " : Str).cps.toList=[32,60,32]:=by decide +kernel
 rw [e] at h
 match j,h with
 | 0,h=>simp at h
 | 1,_=>rfl
 | 2,h=>simp at h
 | n+3,h=>simp at h⟩
def Twos (ks:List (List Str)):Prop:=∀k∈ks,∃a b,k=[a,b]/\zB9 a/\zB9 b
theorem split_txt {ks:List (List Str)} (h1:∀n∈ns,zB9 n) (h2:Twos ks):Txt.split (txtS ns ks) "; " = Txt.join " " ns::ks.map ordT :=
 SM.split_glued own_sc (by simp) (fun p hp=>by
  rcases qAS.mp hp with rfl| hp
  ·exact join_mem (by decide +kernel) ns fun x hx=>(h1 x hx).no (by decide)
  ·obtain ⟨k,hk,rfl⟩:=qAJ.mp hp;obtain ⟨a,b,rfl,ha,hb⟩:=h2 k hk;exact app_no (app_no (ha.no (by decide)) (by decide +kernel)) (hb.no (by decide))) (by decide +kernel)
theorem split_names (h0:ns≠[]) (h:∀n∈ns,zB9 n):Txt.split (Txt.join " " ns) " " = ns :=
 SM.split_glued own_bl h0 (fun p hp=>(h p hp).no (by decide)) (by decide +kernel)
theorem split_ord (ha:zB9 a) (hb:zB9 b):Txt.split (ordT [a,b]) " < " = [a,b] :=
 SM.split_glued (parts:=[a,b]) own_lt (by simp) (fun p hp=>by
  rcases qAS.mp hp with rfl| hp
  ·exact ha.no (by decide)
  ·rw [qAQ.mp hp];exact hb.no (by decide)) (by decide +kernel)
theorem ord_len (ha:zB9 a) (hb:zB9 b):(ordT [a,b]).length<=19:=by
 show (a++ " < " ++ b).length<=19;rw [zJc,zJc,show ((" < " : Str)).length=3 by decide];have:=ha.2.1;have:=hb.2.1;lia
theorem zG5 (h:∀n∈ns,zB9 n) (l:ns.length<=20):(Txt.join " " ns).length<=180/\(ns.map (·.length)).sum+ns.length*(" " : Str).length<=180:=by
 have h1:=join_len " " ns;have h2:=sum_le (fun s:Str=>s.length) 8 (xs:=ns) fun s hs=>(h s hs).2.1;have h3:(" " : Str).length=1:=by decide
 rw [h3] at h1 ⊢;constructor<;>lia
theorem txt_len {ks:List (List Str)} (h1:∀n∈ns,zB9 n) (l1:ns.length<=20) (h2:Twos ks) (l2:ks.length<=400):(txtS ns ks).length<=9000/\((Txt.join " " ns::ks.map ordT).map (·.length)).sum+(Txt.join " " ns::ks.map ordT).length*("; " : Str).length<=9000:=by
 have a:=(zG5 h1 l1).1
 have b:=sum_le (fun s:Str=>s.length) 19 (xs:=ks.map ordT) fun s hs=>by
  obtain ⟨k,hk,rfl⟩:=qAJ.mp hs;obtain ⟨a,b,rfl,ha,hb⟩:=h2 k hk;exact ord_len ha hb
 rw [qAD] at b
 have c:((Txt.join " " ns::ks.map ordT).map (·.length)).sum+(Txt.join " " ns::ks.map ordT).length*("; " : Str).length<=9000:=by
  rw [qAi,List.sum_cons,qAe,qAD,show ("; " : Str).length=2 by decide];have b:(List.map (fun s:Str=>s.length) (ks.map ordT)).sum<=ks.length*19:=b;lia
 exact ⟨qAc (join_len "; " _) c,c⟩
theorem txt_none {ks:List (List Str)} (h1:∀n∈ns,zB9 n):txtS ns ks=Str.empty->ns=[]:=fun z=>by
 cases ns with
 | nil=>rfl
 | cons n r =>
  exfalso;have e:(txtS (n::r) ks).length=0:=by rw [z];rfl
  unfold txtS at e;rw [join_tail,zJc] at e;have e2:(Txt.join " " (n::r)).length=0:=by lia
  have h:=(h1 n qAV).1
  have e3:(Txt.join " " (n::r)).cps.toList=[]:=by
   have:(Txt.join " " (n::r)).cps.toList.length=0:=by simpa [Str.length] using e2
   exact qCk.mp this
  have e4:(Builtin.Str.glued " " (n::r)).cps.toList=[]:=e3;rw [SM.glued_toList] at e4
  have hn:n.cps.toList≠[]:=fun y=>by
   have:n.length=0:=by
    have:=qAa List.length y;simpa [Str.length] using this
   lia
  cases r with
  | nil=>exact hn (by simpa [SM.glue] using e4)
  | cons m r =>
   rw [qAi,qAi,SM.glue_cons] at e4;exact hn (List.append_eq_nil_iff.mp (List.append_eq_nil_iff.mp e4).1).1
section
theorem ordq {q:List Str×Addr} (e:q.1=[a,b]):ordT q.1=a++ " < " ++ b:=by rw [e];rfl
def spJText (C:Addr):Sp:=fun vs H Q _=>∃(j:Addr) (J:JR),vs=[.ref j]/\JobsAt C H j J/\(∀n∈J.ns,zB9 n)/\∀H',Kp [] H H'->Q (.str (txtS J.ns (J.zs.map (·.1)))) H'
theorem JobsAt.twos {j:Addr} {J:JR} (A:JobsAt C H j J) (h:∀n∈J.ns,zB9 n):Twos (J.zs.map (·.1)):=fun k hk=>by
 obtain ⟨q,hq,rfl⟩:=qAJ.mp hk;obtain ⟨a,b,e⟩:=A.prs.two q hq;exact ⟨a,b,e,h a (A.zin q hq a (by rw [e];simp)),h b (A.zin q hq b (by rw [e];simp))⟩
abbrev zEv:Stmt:=top 36
theorem zCy:FnScope ["jobs", "parts", "one", "other"] ["jobs"] (zAe zEv):=fnS
theorem ok_jobs_text (F:Fun K "jobs_text" "jobs_text" zEv f fd) (U:JC K mg C) (M_names:Mth P w K mg base C "names" 1 ["self"] (zIj C)) (M_orders:Mth P w K mg base C "orders" 1 ["self"] (spOrders C)):FnOk P w K mg base CX0 2 f fd ["jobs"] (spJText C):=by
 refine F.ok zCy (fun vs H Q E h=>?_) (fun cdv A outer s H vs Q E hr h=>?_)
 ·obtain ⟨j,J,rfl,_⟩:=h;rfl
 ·obtain ⟨j,J,rfl,A0,nm,k⟩:=h
  refine ⟨_,(zAc (psS (i:=1) zCy.nd (zA6 (zAa (zC5 qC9 PySem.F.slot_str_join PySem.F.type_str_join mt_join zA4 (zAa (zD7 M_names U.cl hr (pv 0)) zAb)) zAb)))
   (zAc (zAz qAZ rfl (zAp (zD7 M_orders U.cl hr (pv 0))) (zG0 rfl (zAt (pgN (i:=2) zCy.nd) (zAt (pgN (i:=3) zCy.nd) zCf)))
    (zAd (zA2 (zC5 qAt qCM qCN zCs (pv 1) (zAa (pe_fmt (pv 2) (pv 3)) zAb)))))
   (zAd (zAm (zC5 qC9 PySem.F.slot_str_join PySem.F.type_str_join mt_join zA4 (zAa (pv 1) zAb)))))),?_⟩
  have nl:=zG5 nm A0.few;have tw:=A0.twos nm;have tl:=txt_len nm A0.few tw (by rw [qAD];have:=A0.zfew;lia);refine ⟨rfl,_,rfl,j,J.dx,_,rfl,A0.ob,jf_no _ _ _ (by decide +kernel) (by decide +kernel) (by decide +kernel),j,J,rfl,A0,fun l H1 fl hl k1=>?_⟩;refine ⟨_,l,J.ns,rfl,rfl,SqL.of hl,by lia,(by walk_at "ln"),fun p hp=>?_⟩;have k2:Kp [] H (upd H1 p (.lst [.str (Txt.join " " J.ns)])):=Kp.new k1 (k1.fre hp (by simp));have fp:Fre H p:=k1.fre hp (by simp);have A2:=A0.kp0 k2;have hp2:upd H1 p (.lst [.str (Txt.join " " J.ns)]) p=some (.lst [.str (Txt.join " " J.ns)]):=upd_same;generalize upd H1 p (.lst [.str (Txt.join " " J.ns)])=H2 at k2 A2 hp2;refine ⟨_,rfl,j,J.dx,_,rfl,A2.ob,jf_no _ _ _ (by decide +kernel) (by decide +kernel) (by decide +kernel),j,J,rfl,A2,fun o H3 fo ho k3=>?_⟩;have npo:p≠o:=ne_fre fo hp2;refine ⟨_,rfl,⟨_,SqL.of ho.top⟩,zAu (fun i σ H4=>(∃o2 o3:Option V,σ=[some (.ref j),some (.ref p),o2,o3])/\Kp [p] H3 H4/\H4 p=some (.lst ((Txt.join " " J.ns::((J.zs.take i).map fun q=>ordT q.1)).map V.str))) ⟨⟨_,_,rfl⟩,Kp.refl,k3 _ _ hp2 (by simp)⟩ (fun i σ H4 _ ⟨_,k4,_⟩=>SqL.of (k4 _ _ ho.top (nm1 npo.symm))) ?_ ?_⟩
  ·rintro i v σ H4 hv ⟨⟨o2,o3,rfl⟩,k4,h4⟩;obtain ⟨q,eq,rfl⟩:=zGw hv;have mq:=qAL eq;obtain ⟨a,b,eab,ha,hb⟩:=tw q.1 (qAJ.mpr ⟨q,mq,rfl⟩)
   have hrow:H4 q.2=some (.tup [.str a,.str b]):=by
    have e:=ho.row q mq;rw [eab] at e;exact k4 _ _ e (nm1 (zBw e (k3 _ _ hp2 (by simp)) fun z=>nomatch z))
   refine ⟨_,_,rfl,.inl (.inl hrow),rfl,_,_,rfl,_,_,rfl,rfl,?_⟩;refine ⟨_,rfl,.inl ⟨rfl,_,SqL.of h4⟩,_,rfl,a,rfl,by have:=ha.2.1;lia,_,rfl,b,rfl,by have:=hb.2.1;lia,_,_,_,rfl,rfl,h4,?_,⟨_,_,rfl⟩,Kp.put k4 (by simp),?_⟩
   ·rw [qAD,qAe,qAD,qAX,qAO];have:=A0.zfew;lia
   ·rw [upd_same,zAi eq,qAM,<-List.cons_append,qAM];show _=some (HO.lst (_++[V.str (ordT q.1)]));rw [ordq eab]
  ·rintro σ H4 ⟨⟨o2,o3,rfl⟩,k4,h4⟩;rw [qAD,qAf] at h4;have e:(J.zs.map fun q=>ordT q.1)=(J.zs.map (·.1)).map ordT:=by rw [qA1];rfl
   rw [e] at h4;refine ⟨rfl,_,rfl,_,p,_,rfl,rfl,SqL.of h4,by lia,?_⟩;exact k H4 fun b o hb _=>k4 b o ((k2.trans k3) b o hb (by simp)) (nm1 (zAg hb fp))
def zIi:Sp:=fun vs H Q _=>∃(x sep:Str) (ns:List Str),vs=[.str x,.str sep]/\Txt.split x sep=ns/\1<=sep.length/\x.length<=1000000/\(∀n∈ns,zB9 n)/\∀l H',Fre H l->Txs H' l ns->Kp [] H H'->Q (.ref l) H'
abbrev zD3:Stmt:=top 38
theorem zDh:FnScope ["part", "between", "words", "word"] ["part", "between"] (zAe zD3):=fnS
theorem zI5 (F:Fun K "read_names" "read_names" zD3 f fd) (C_is_name:Cal P w K mg base "is_name" 1 ["thing"] zIk):FnOk P w K mg base CX0 2 f fd ["part", "between"] zIi:=by
 refine F.ok zDh (fun vs H Q E h=>?_) (fun cdv A outer s H vs Q E hr h=>?_)
 ·obtain ⟨x,sep,ns,rfl,_⟩:=h;rfl
 ·obtain ⟨x,sep,ns,rfl,es,h1,hx,nm,k⟩:=h
  refine ⟨_,(zAc (psS (i:=2) zDh.nd (zC5 qC9 PySem.F.slot_str_split PySem.F.type_str_split mt_split (pv 0) (zAa (pv 1) zAb)))
   (zAc (zAz qAZ rfl (zAp (pv 2)) (pgN (i:=3) zDh.nd)
    (zAd (zA0 (zDw (zBp (zAf C_is_name hr rfl (zAa (pv 3) zAb))))
     (zAd zBu)
     zAk)))
   (zAd (zAm (pv 2))))),?_⟩
  refine ⟨_,rfl,rfl,_,rfl,_,_,rfl,rfl,h1,hx,fun l hl=>?_⟩;rw [es];have k1:Kp [] H (upd H l (.lst (ns.map V.str))):=Kp.new Kp.refl hl;have h2:upd H l (.lst (ns.map V.str)) l=some (.lst (ns.map V.str)):=upd_same;generalize upd H l (.lst (ns.map V.str))=H1 at k1 h2;refine ⟨_,rfl,_,rfl,⟨_,SqL.of h2⟩,zAu (fun i σ H4=>(∃o3:Option V,σ=[some (.str x),some (.str sep),some (.ref l),o3])/\Kp [] H1 H4) ⟨⟨_,rfl⟩,Kp.refl⟩ (fun i σ H4 _ ⟨_,e⟩=>SqL.of (e _ _ h2 (by simp))) ?_ ?_⟩
  ·rintro i v σ H4 hv ⟨⟨o3,rfl⟩,k4⟩;obtain ⟨n,en,rfl⟩:=zA1 hv;have hn:=nm n (qAL en);refine ⟨_,rfl,n,rfl,by have:=hn.2.1;lia,fun H5 k5=>⟨_,rfl,?_⟩⟩;rw [(nameB_iff n).mpr hn];exact iteF ⟨⟨_,rfl⟩,k4.trans k5⟩
  ·rintro σ H4 ⟨⟨o3,rfl⟩,k4⟩;exact ⟨_,rfl,k l H4 hl (k4 _ _ h2 (by simp)) (k1.trans k4)⟩
def spROrder:Sp:=fun vs H Q _=>∃(a b:Str),vs=[.str (ordT [a,b])]/\zB9 a/\zB9 b/\∀t H',Fre H t->H' t=some (.tup [.str a,.str b])->Kp [] H H'->Q (.ref t) H'
abbrev zD2:Stmt:=top 39
theorem zE7:FnScope ["part", "words"] ["part"] (zAe zD2):=fnS
theorem zI4 (F:Fun K "read_order" "read_order" zD2 f fd) (T:Txt K mg) (C_read_names:Cal P w K mg base "read_names" 2 ["part", "between"] zIi):FnOk P w K mg base CX0 3 f fd ["part"] spROrder:=by
 refine F.ok zE7 (fun vs H Q E h=>?_) (fun cdv A outer s H vs Q E hr h=>?_)
 ·obtain ⟨a,b,rfl,_⟩:=h;rfl
 ·obtain ⟨a,b,rfl,ha,hb,k⟩:=h
  refine ⟨_,(zAc (psS (i:=1) zE7.nd (zAf C_read_names hr rfl (zAa (pv 0) (zAa zA4 zAb))))
   (zAc (zA0 (zAn op_ne (zAj zAl (by rfl) T.z_len zBq (zAa (pv 1) zAb)) zAh (zAr _))
    (zAd zBu)
    zAk)
   (zAd (zAm (zA9 (zAa (zBg zAx (pv 1) zAh (fun _ _=>rfl)) (zAa (zBg zAx (pv 1) zAh (fun _ _=>rfl)) zAb))))))),?_⟩
  refine ⟨_,rfl,_,_,[a,b],rfl,split_ord ha hb,by decide,by have:=ord_len ha hb;lia,fun n hn=>?_,fun l H1 fl hl k1=>?_⟩
  ·rcases qAS.mp hn with rfl| hn
   ·exact ha
   ·rw [qAQ.mp hn];exact hb
  refine ⟨_,rfl,l,_,rfl,.inl (SqL.of hl),rfl,_,rfl,iteF ?_⟩;refine ⟨_,rfl,_,_,_,_,rfl,rfl,SqL.of hl,rfl,_,rfl,_,_,_,_,rfl,rfl,SqL.of hl,rfl,(by walk_at "ln"),fun t ht=>?_⟩;exact k t _ (k1.fre ht (by simp)) upd_same (Kp.new k1 (k1.fre ht (by simp)))
end
theorem Good.twos (G:Good ns qs r) (h:∀q∈qs,∃a b,q.1=[a,b]):Twos (qs.map (·.1)):=fun k hk=>by
 obtain ⟨q,hq,rfl⟩:=qAJ.mp hk;obtain ⟨a,b,e⟩:=h q hq;exact ⟨a,b,e,G.nm a (G.qin q hq a (by rw [e];simp)),G.nm b (G.qin q hq b (by rw [e];simp))⟩
section
def spRJobs (C:Addr):Sp:=fun vs H Q _=>∃(ns:List Str) (qs:List (List Str×Addr)) (r:Str->Nat),vs=[.str (txtS ns (qs.map (·.1)))]/\Good ns qs r/\(∀q∈qs,∃a b,q.1=[a,b]) /\
 ∀x J H',JobsAt C H' x J->J.ns=ns->(∀k,k∈J.zs.map (·.1)↔k∈qs.map (·.1))->Kp [] H H'->Q (.ref x) H'
abbrev zDk:Stmt:=top 37
theorem zCv:FnScope ["text", "parts", "names", "orders"] ["text"] (zAe zDk):=fnS
theorem ok_read_jobs (F:Fun K "read_jobs" "read_jobs" zDk f fd) (T:Txt K mg) (C_read_names:Cal P w K mg base "read_names" 2 ["part", "between"] zIi) (C_read_order:Cal P w K mg base "read_order" 3 ["part"] spROrder) (M_Jobs:Mkr P w K mg base C "Jobs" 4 ["self", "names", "orders"] (spInit C)):FnOk P w K mg base CX0 6 f fd ["text"] (spRJobs C):=by
 refine F.ok zCv (fun vs H Q E h=>?_) (fun cdv A outer s H vs Q E hr h=>?_)
 ·obtain ⟨ns,qs,r,rfl,_⟩:=h;rfl
 ·obtain ⟨ns,qs,r,rfl,G,two,k⟩:=h;have hr2:=hr.mono (j:=2) (by decide);have hr3:=hr.mono (j:=3) (by decide)
  refine ⟨_,(zAc (zA0 (zDw (zBp (zAj zA7 (by rfl) T.z_isinstance zAo (zAa (pv 0) (zAa (zBm (by rfl) T.z_str bo_str (v:=.ty "str") rfl) zAb)))))
    (zAd zBu)
    zAk)
   (zAc (zA0 (zAn zDd (pv 0) zA4 (zAr _))
    (zAd (zAm (zEj M_Jobs hr rfl (zAa (zA6 zAb) (zAa (zA6 zAb) zAb)))))
    zAk)
   (zAc (psS (i:=1) zCv.nd (zC5 qC9 PySem.F.slot_str_split PySem.F.type_str_split mt_split (pv 0) (zAa zA4 zAb)))
   (zAc (psS (i:=2) zCv.nd (zAf C_read_names hr2 rfl (zAa (zBg zAx (pv 1) zAh (fun _ _=>rfl)) (zAa zA4 zAb))))
   (zAc (zD5 (i:=3) rfl (zBe (sc:=zAe zDk) rfl (by decide +kernel)) (Draws.own (x:= "part") Draws.nil) (zAp (zGh zIn (pv 1) (zIy zAh) zIz)) (fun _ _ _ _=>(pgB (i:=0))) (fun _ _ _ _=>zBr) (fun _ _ _ _=>(zAf C_read_order hr3 rfl (zAa (pv 0) zAb))) zCv.nd rfl rfl)
   (zAd (zAm (zEj M_Jobs hr rfl (zAa (pv 2) (zAa (pv 3) zAb)))))))))),?_⟩
  have tw:=G.twos two;have tl:=txt_len G.nm G.few tw (by rw [qAD];have:=G.qfew;lia)
  have noq:ns=[]->qs=[]:=fun z=>by
   cases qs with
   | nil=>rfl
   | cons q _ =>
    obtain ⟨a,b,e⟩:=two q qAV;have:=G.qin q qAV a (by rw [e];simp);rw [z] at this;cases this
  refine ⟨_,rfl,_,_,_,_,rfl,TyOf.str _,zC2,_,rfl,iteF ?_⟩;refine ⟨_,rfl,rfl,_,rfl,ite2 (fun c=>?_) (fun c=>?_)⟩
  ·have e:txtS ns (qs.map (·.1))=Str.empty:=V.str.inj (qAo c);have n0:=txt_none G.nm e;have q0:=noq n0;subst n0;subst q0;refine ⟨(by walk_at "ln"),fun l1 g1=>⟨(by walk_at "ln"),fun l2 g2=>fun x dx hx hdx ne=>?_⟩⟩;have k1:Kp [] H (upd H l1 (.lst [])):=Kp.new Kp.refl g1;have h1:upd H l1 (.lst []) l1=some (.lst []):=upd_same;generalize upd H l1 (.lst [])=H1 at *
   have k2:Kp [] H1 (upd H1 l2 (.lst [])):=Kp.new Kp.refl g2;have h2:upd H1 l2 (.lst []) l2=some (.lst []):=upd_same;generalize upd H1 l2 (.lst [])=H2 at *
   have k3:Kp [] H2 (upd (upd H2 dx (.own x)) x (.ins C dx [])):=Kp.new (Kp.new Kp.refl hdx) hx;have fx:Fre H x:=(k1.trans k2).fre hx (by simp);refine ⟨x,dx,l1,l2,[],[],r,rfl,upd_same,(k2.trans k3) _ _ h1 (by simp),⟨k3 _ _ h2 (by simp),(fun q h=>nomatch h),(fun q h=>nomatch h)⟩,G,fun J H9 A9 _ en hz K9=>⟨rfl,k x J H9 A9 en hz fun b o hb _=>K9 b o ((k1.trans (k2.trans k3)) b o hb (by simp)) (nm1 (zAg hb fx))⟩⟩
  have n0:ns≠[]:=fun z=>by
   subst z;have q0:=noq rfl;subst q0;exact c (qAR rfl)
  refine ⟨_,rfl,rfl,_,_,rfl,rfl,(by decide),by lia,fun l1 g1=>?_⟩;rw [split_txt G.nm tw];have k1:Kp [] H (upd H l1 (.lst ((Txt.join " " ns::(qs.map (·.1)).map ordT).map V.str))):=Kp.new Kp.refl g1;have h1:upd H l1 (.lst ((Txt.join " " ns::(qs.map (·.1)).map ordT).map V.str)) l1=some (.lst ((Txt.join " " ns::(qs.map (·.1)).map ordT).map V.str)):=upd_same;generalize upd H l1 (.lst ((Txt.join " " ns::(qs.map (·.1)).map ordT).map V.str))=H1 at k1 h1;refine ⟨_,rfl,_,_,_,_,rfl,rfl,SqL.of h1,zCa (by decide) rfl,_,_,ns,rfl,split_names n0 G.nm,by decide,by have:=(zG5 G.nm G.few).1;lia,G.nm,fun l2 H2 g2 h2 k2=>?_⟩;refine ⟨_,rfl,_,rfl,_,_,rfl,SqL.of (k2 _ _ h1 (by simp)),fun l3 g3=>?_⟩;rw [cut_from _ (by decide)];have k3:Kp [] H2 (upd H2 l3 (.lst ((qs.map fun q=>ordT q.1).map V.str))):=Kp.new Kp.refl g3;have h3:upd H2 l3 (.lst ((qs.map fun q=>ordT q.1).map V.str)) l3=some (.lst ((qs.map fun q=>ordT q.1).map V.str)):=upd_same
  have ed:List.drop (1:Int).toNat ((Txt.join " " ns::(qs.map (·.1)).map ordT).map V.str)=(qs.map fun q=>ordT q.1).map V.str:=by
   show ((qs.map (·.1)).map ordT).map V.str=_;rw [qA1 (l:=qs)];rfl
  rw [ed];generalize upd H2 l3 (.lst ((qs.map fun q=>ordT q.1).map V.str))=H3 at k3 h3
  refine ⟨_,rfl,⟨_,SqL.of h3⟩,fun D hD=>zA5 ((qs.map fun q=>ordT q.1).map V.str) (fun i ys τ H4=>∃ks:List (List Str×Addr),(∃o0,τ=[o0])/\ys=(ks.map fun q=>V.ref q.2)/\ks.map (·.1)=(qs.take i).map (·.1)/\(∀q∈ks,H4 q.2=some (.tup (q.1.map V.str)))/\Kp [] H3 H4/\H4 D=some (.lst ys))
   ⟨[],⟨_,rfl⟩,rfl,rfl,(fun q h=>nomatch h),Kp.new Kp.refl hD,upd_same⟩ (fun i ys τ H4 ⟨_,_,_,_,_,k4,_⟩=>SqL.of (k4 _ _ h3 (by simp))) ?_ ?_⟩
  ·rintro i v ys τ H4 hv ⟨ks,⟨o0,rfl⟩,rfl,ek,hk,k4,h4⟩;obtain ⟨n,en,rfl⟩:=zA1 hv
   obtain ⟨q,eq,rfl⟩:∃q,qs[i]?=some q/\ordT q.1=n:=by
    rw [qAY] at en
    cases e:qs[i]? with
    | none=>rw [e] at en;cases en
    | some q=>rw [e] at en;exact ⟨q,rfl,by simpa using en⟩
   have mq:=qAL eq;obtain ⟨a,b,eab,ha,hb⟩:=tw q.1 (qAJ.mpr ⟨q,mq,rfl⟩);have hlen:ks.length=(qs.take i).length:=by have:=qAa List.length ek;simpa using this
   refine ⟨_,rfl,a,b,by rw [<-eab];rfl,ha,hb,fun t H5 ft ht k5=>?_⟩;have h5:=k5 _ _ h4 (by simp);have nDt:D≠t:=ne_fre ft h4;have nt:∀b o,H4 b=some o->b≠t:=fun b o h=>ne_fre ft h;refine ⟨h5,?_,ks++[([a,b],t)],⟨_,rfl⟩,?_,?_,fun q' hq'=>?_,?_,upd_same⟩
   ·rw [qAD,hlen,qAX,qAO];have:=G.qfew;lia
   ·rw [qAM];rfl
   ·rw [qAM,ek,zAi eq,qAM];show _++[[a,b]]=_++[q.1];rw [eab]
   ·rcases qAN.mp hq' with z| z
    ·exact (upd_ne (zBw (k5 _ _ (hk q' z) (by simp)) h5 fun y=>nomatch y)).trans (k5 _ _ (hk q' z) (by simp))
    ·rw [qAQ.mp z];exact (upd_ne nDt.symm).trans ht
   ·exact fun b o hb nm=>(upd_ne (zAg hb hD)).trans ((k4.trans k5) b o hb nm)
  ·rintro ys τ H4 ⟨ks,⟨o0,rfl⟩,rfl,ek,hk,k4,h4⟩;rw [qAD,qAD,qAf] at ek;have lk:ks.length<=306:=by have:=qAa List.length ek;have:=G.qfew;simp at *;lia
   have hz:∀k,k∈ks.map (·.1)↔k∈qs.map (·.1):=fun k=>by rw [ek]
   refine ⟨_,rfl,_,rfl,fun x dx hx hdx ne=>?_⟩;have k5:Kp [] H4 (upd (upd H4 dx (.own x)) x (.ins C dx [])):=Kp.new (Kp.new Kp.refl hdx) hx;have kk:Kp [] H H4:=k1.trans (k2.trans (k3.trans k4));have fx:Fre H x:=kk.fre hx (by simp);refine ⟨x,dx,l2,D,ns,ks,r,rfl,upd_same,(k3.trans (k4.trans k5)) _ _ h2 (by simp),⟨k5 _ _ h4 (by simp),fun q hq=>k5 _ _ (hk q hq) (by simp),fun q hq=>?_⟩,G.keys hz lk,fun J H9 A9 _ en hz9 K9=>⟨rfl,k x J H9 A9 en (fun z=>by rw [hz9 z,hz z]) fun b o hb _=>K9 b o ((kk.trans k5) b o hb (by simp)) (nm1 (zAg hb fx))⟩⟩;obtain ⟨q',h6,h7⟩:=qAJ.mp ((hz q.1).mp (qAJ.mpr ⟨q,hq,rfl⟩));obtain ⟨a,b,e⟩:=two q' h6;exact ⟨a,b,by rw [<-h7];exact e⟩
end
theorem zJk:bootBuiltins "dict" = some (.type "dict"):=by decide +kernel
theorem kit_ib {K:PySem.W.Frag}:PySem.W.kitOne K (.type "int") (.type "bool")=some false:=by rfl
section
def spWhole:Sp:=fun vs H Q _=>∃n:Int,vs=[.int n]/\Q (.bl true) H
abbrev zFs:Stmt:=top 13
theorem sc_is_whole:FnScope ["thing"] ["thing"] (zAe zFs):=fnS
theorem ok_is_whole (F:Fun K "is_whole" "is_whole" zFs f fd) (T:Txt K mg):FnOk P w K mg base CX0 1 f fd ["thing"] spWhole:=by
 refine F.ok sc_is_whole (fun vs H Q E h=>?_) (fun cdv A outer s H vs Q E hr h=>?_)
 ·obtain ⟨n,rfl,_⟩:=h;rfl
 ·obtain ⟨n,rfl,k⟩:=h;refine ⟨_,(zAd (zAm (pe_and (zAj zA7 (by rfl) T.z_isinstance zAo (zAa (pv 0) (zAa (zBm (by rfl) T.z_int zIb (v:=.ty "int") rfl) zAb))) (pe_one (pe_not (zAj zA7 (by rfl) T.z_isinstance zAo (zAa (pv 0) (zAa (zBm (by rfl) T.z_bool bo_bool (v:=.ty "bool") rfl) zAb)))))))),?_⟩;exact ⟨_,rfl,_,_,_,_,rfl,TyOf.int n,zC2,_,rfl,iteT ⟨_,rfl,_,_,_,_,rfl,TyOf.int n,kit_ib,_,rfl,k⟩⟩
def spBench:Sp:=fun vs H Q _=>∃b:Int,vs=[.int b]/\1<=b/\Q .non H
abbrev zCo:Stmt:=top 16
theorem zF7:FnScope ["benches"] ["benches"] (zAe zCo):=fnS
theorem zF9 (F:Fun K "check_benches" "check_benches" zCo f fd) (C_is_whole:Cal P w K mg base "is_whole" 1 ["thing"] spWhole):FnOk P w K mg base CX0 2 f fd ["benches"] spBench:=by
 refine F.ok zF7 (fun vs H Q E h=>?_) (fun cdv A outer s H vs Q E hr h=>?_)
 ·obtain ⟨n,rfl,_⟩:=h;rfl
 ·obtain ⟨n,rfl,h1,k⟩:=h
  refine ⟨_,(zAd (zA0 (PW.pt (pw_or (zDw (zBp (zAf C_is_whole hr rfl (zAa (pv 0) zAb)))) (pw_or1 (zAn op_lt (pv 0) zAh (zAr _)))))
    (zAd zBu)
    zAk)),?_⟩
  refine ⟨_,rfl,n,rfl,_,rfl,iteF ⟨_,rfl,_,_,rfl,rfl,_,rfl,?_⟩⟩;rw [qAW (by lia)];exact iteF k
def rdyB (J:JR) (A:List Str) (n:Str):Bool:=(J.ns.filter fun m=>decide (m∈J.S n)).all fun m=>decide (m∈A)
def spReady (C:Addr):Sp:=fun vs H Q _=>∃(j d:Addr) (J:JR) (A:List Str) (n:Str),vs=[.ref j,.ref d,.str n]/\JobsAt C H j J/\SetD H d A/\n∈J.ns/\∀H',Kp [] H H'->Q (.bl (rdyB J A n)) H'
abbrev zEg:Stmt:=top 21
theorem sc_is_ready:FnScope ["jobs", "earlier", "name"] ["jobs", "earlier", "name"] (zAe zEg):=fnS
theorem ok_is_ready (F:Fun K "is_ready" "is_ready" zEg f fd) (T:Txt K mg) (U:JC K mg C) (M_ahead:Mth P w K mg base C "ahead" 3 ["self", "name"] (spAhead C)):FnOk P w K mg base CX0 4 f fd ["jobs", "earlier", "name"] (spReady C):=by
 refine F.ok sc_is_ready (fun vs H Q E h=>?_) (fun cdv A outer s H vs Q E hr h=>?_)
 ·obtain ⟨j,d,J,A,n,rfl,_⟩:=h;rfl
 ·obtain ⟨j,d,J,D0,n,rfl,A0,hd,hn,k⟩:=h;have hu:=zFj hr;refine ⟨_,(zAd (zAm (zAj (zGj _ rfl) (by rfl) T.z_all bo_all (zAa (zBl rfl (zBe (sc:=zAe zEg) rfl (by decide +kernel)) (Draws.own (x:= "one") (dtk (i:=1) rfl Draws.nil)) (zAp (pe_methC M_ahead U.cl hr (pv 0) (zAa (pv 2) zAb))) (fun _ _ _ _=>(pgB (i:=0))) (fun _ _ _ _=>zBr) (fun _ _ _ _=>(pe_cmp (zG2 hu (pv 0) (pv 1))))) zAb)))),?_⟩;refine ⟨_,rfl,j,J.dx,_,rfl,A0.ob,jf_no _ _ _ (by decide +kernel) (by decide +kernel) (by decide +kernel),_,rfl,j,J,n,rfl,A0,hn,fun a H1 fa h1 k1=>?_⟩;have hd1:=k1 d _ hd (by simp);have hml:(J.ns.filter fun m=>decide (m∈J.S n)).length<=20:=qAc (qBJ _ _) A0.few;have ek:rdyB J D0 n=(J.ns.filter fun m=>decide (m∈J.S n)).all fun m=>decide (m∈D0):=rfl;rw [ek] at k;generalize (J.ns.filter fun m=>decide (m∈J.S n))=ms at h1 hml k;refine ⟨_,rfl,⟨_,SqL.of h1⟩,fun B hB=>zA5 (ms.map V.str) (fun i ys τ H'=>(∃o0,τ=[o0,some (.ref d)])/\ys=((ms.take i).map fun m=>V.bl (decide (m∈D0)))/\H'=upd H1 B (.lst ys)) ⟨⟨_,rfl⟩,rfl,rfl⟩ (fun i ys τ H' ⟨_,_,e⟩=>by subst e;exact SqL.of ((upd_ne (ne_fre (show Fre H1 B from hB) h1)).trans h1)) ?_ ?_⟩
  ·rintro i v ys τ H' hv ⟨⟨o0,rfl⟩,rfl,rfl⟩;obtain ⟨m,em,rfl⟩:=zA1 hv;refine ⟨_,rfl,_,rfl,_,_,rfl,DGet.k (k:=Sum.inr m) ((upd_ne (ne_fre (show Fre H1 B from hB) hd1)).trans hd1),upd_same,?_,⟨_,rfl⟩,?_,zCc⟩
   ·rw [qAD,qAX,qAO];lia
   ·rw [zAi em,qAM,zFx];rfl
  ·rintro ys τ H' ⟨_,rfl,rfl⟩;have eM:ms.take (ms.map V.str).length=ms:=by rw [qAD,qAf]
   refine ⟨B,ms.map fun m=>decide (m∈D0),rfl,SqL.of ?_,?_⟩
   ·rw [upd_same,eM,qA1];rfl
   ·rw [qCn];exact k _ (Kp.new k1 (k1.fre hB (by simp)))
theorem zHa:∀(B A:List Str),(B.foldl addA A).length<=A.length+B.length
 | [],A=>by simp
 | b::B,A=>by
  have h1:=zHa B (addA A b)
  have h2:(addA A b).length<=A.length+1:=by
   unfold addA;split
   ·lia
   ·simp
  rw [qBU,qAe];lia
def spPTake:Sp:=fun vs H Q _=>∃(d l:Addr) (A ws:List Str),vs=[.ref d,.ref l]/\SetD H d A/\Txs H l ws/\A.length+ws.length<=4096/\∀H',SetD H' d (ws.foldl addA A)->Kp [d] H H'->Q .non H'
abbrev s_ptake:Stmt:=top 22
theorem sc_ptake:FnScope ["taken", "row", "name"] ["taken", "row"] (zAe s_ptake):=fnS
theorem ok_ptake (F:Fun K "take" "take" s_ptake f fd):FnOk P w K mg base CX0 1 f fd ["taken", "row"] spPTake:=by
 refine F.ok sc_ptake (fun vs H Q E h=>?_) (fun cdv A outer s H vs Q E hr h=>?_)
 ·obtain ⟨d,l,A,ws,rfl,_⟩:=h;rfl
 ·obtain ⟨d,l,D0,ws,rfl,hd,hl,hz,k⟩:=h;have hu:=zFj hr
  have ndl:l≠d:=fun z=>by
   have h2:H d=some (.lst (ws.map V.str)):=by rw [<-z];exact hl
   rw [show H d=_ from hd] at h2
   cases h2
  refine ⟨_,(zAd (zAz qAZ rfl (zAp (pv 1)) (pgN (i:=2) sc_ptake.nd)
    (zAd (zDq hu (pv 0) (pv 2) pe_bl rfl)))),?_⟩
  refine ⟨_,rfl,_,rfl,⟨_,SqL.of hl⟩,zAu (xs:=ws.map V.str) (fun i σ H2=>(∃o2,σ=[some (.ref d),some (.ref l),o2])/\SetD H2 d ((ws.take i).foldl addA D0)/\Kp [d] H H2) ⟨⟨_,rfl⟩,hd,Kp.refl⟩ (fun i σ H2 _ ⟨_,_,k2⟩=>SqL.of (k2 l _ hl (nm1 ndl))) ?_ ?_⟩
  ·rintro i v σ H2 hv ⟨⟨o2,rfl⟩,h2,k2⟩;obtain ⟨m,em,rfl⟩:=zA1 hv;have hlf:=zHa (ws.take i) D0;rw [qAX] at hlf;refine ⟨_,rfl,_,rfl,_,_,rfl,DPut.k (k:=Sum.inr m) h2 (by rw [qAD,qAO];lia),?_⟩;refine ⟨⟨_,rfl⟩,?_,Kp.put k2 (by simp)⟩;rw [zIw,zAi em,List.foldl_append];exact upd_same
  ·rintro σ H2 ⟨_,h2,k2⟩;rw [qAD,qAf] at h2;exact k H2 h2 k2
end
structure RowsAt (H0 H:Hp) (l:Addr) (as:List Addr) (rs:List (List Str)):Prop where
 top:H l=some (.lst (as.map V.ref))
 len:as.length=rs.length
 row:∀(i:Nat) (a:Addr) (r:List Str),as[i]?=some a->rs[i]?=some r->H a=some (.lst (r.map V.str))
 ne:∀a∈as,a≠l
 fr:Fre H0 l
 frs:∀a∈as,Fre H0 a
theorem RowsAt.kp {M:List Addr} {as:List Addr} {rs:List (List Str)} (R:RowsAt H0 H l as rs) (k:Kp M H H') (h1:l∉M) (h2:∀a∈as,a∉M):RowsAt H0 H' l as rs :=
 ⟨k l _ R.top h1,R.len,fun i a r e1 e2=>k a _ (R.row i a r e1 e2) (h2 a (qAL e1)),R.ne,R.fr,R.frs⟩
theorem RowsAt.nil (h:H l=some (.lst [])) (f:Fre H0 l):RowsAt H0 H l [] [] :=
 ⟨h,rfl,(fun i a r e=>by simp at e),(fun a h=>by simp at h),f,(fun a h=>by simp at h)⟩
theorem RowsAt.more {b:Addr} {as:List Addr} {rs:List (List Str)} {r:List Str} (R:RowsAt H0 H l as rs) (hb:H b=some (.lst (r.map V.str))) (n:b≠l) (f:Fre H0 b):RowsAt H0 (upd H l (.lst (as.map V.ref++[.ref b]))) l (as++[b]) (rs++[r]):=by
 refine ⟨by rw [upd_same];simp,by simp [R.len],fun i a q e1 e2=>?_,fun a h=>?_,R.fr,fun a h=>?_⟩
 ·by_cases hi:i<as.length
  ·rw [qBf hi] at e1;rw [qBf (by rw [<-R.len];exact hi)] at e2;rw [upd_ne (R.ne a (qAL e1))];exact R.row i a q e1 e2
  ·rw [qBe (by lia)] at e1;rw [qBe (by rw [<-R.len];lia)] at e2;have hl:=R.len
   have h0:i - as.length=0:=by
    have:=(qAh.mp e1).1;simp at this;lia
   rw [h0] at e1;rw [<-hl,h0] at e2;have e1:b=a:=by simpa using e1
   have e2:r=q:=by simpa using e2
   subst e1 e2;rw [upd_ne n];exact hb
 ·rcases qAN.mp h with z| z
  ·exact R.ne a z
  ·have:a=b:=by simpa using z
   subst this;exact n
 ·rcases qAN.mp h with z| z
  ·exact R.frs a z
  ·have:a=b:=by simpa using z
   subst this;exact f
def lenAt (i:Nat) (σ:St) (H:Hp):Nat:=match (σ[i]?:Option (Option V)) with
 | some (some (.ref a))=>match H a with
  | some (.lst xs)=>xs.length
  | _=>0
 | _=>0
section
def spLRow:Sp:=fun vs H Q _=>∃(p l:Addr) (ns:List Str),vs=[.ref p,.ref l]/\zBa H p/\Txs H l ns/\ns.length<=20/\∀(a:Addr) (ws:List Str) (H':Hp),Fre H a->Txs H' a ws->ws.Perm ns->zBa H' p->Kp [p] H H'->Q (.ref a) H'
abbrev s_row:Stmt:=top 50
theorem sc_row:FnScope ["_law_purse_here", "_law_names_here", "_law_row_here", "_law_name"] ["_law_purse_here", "_law_names_here"] (zAe s_row):=fnS
theorem zGg {p a:Addr} {xs:List Str} (h:zBa H p) (e:Txs H a xs):a≠p:=fun z=>by
 obtain ⟨x,y,e',_⟩:=h;have e:H a=some (.lst (xs.map V.str)):=e;rw [z,e'] at e;injection e with e;injection e with e
 cases xs with
 | nil=>simp at e
 | cons x xs=>injection e with e _;cases e
theorem ok_row (F:Fun K "_law_row" "_law_row" s_row f fd) (T:Txt K mg) (C_take:Cal P w K mg base "_law_take" 1 ["_law_purse_here", "_law_many"] zEq):FnOk P w K mg base CX0 2 f fd ["_law_purse_here", "_law_names_here"] spLRow:=by
 refine F.ok sc_row (fun vs H Q E h=>?_) (fun cdv A outer s H vs Q E hr h=>?_)
 ·obtain ⟨p,l,ns,rfl,_⟩:=h;rfl
 ·obtain ⟨p,l,ns,rfl,hP,hl,hn,k⟩:=h;have HR_take:=hr
  refine ⟨_,(zAc (psS (i:=2) sc_row.nd (zA6 zAb))
   (zAc (zAz qAZ rfl (zAp (pv 1)) (pgN (i:=3) sc_row.nd)
    (zAd (zA2 (zC5 qAt qCO qCP zDe (pv 2) (zAa (zAf C_take HR_take rfl (zAa (pv 0) (zAa (zAv zBn (zAj zAl (by rfl) T.z_len zBq (zAa (pv 2) zAb)) zAh) zAb))) (zAa (pv 3) zAb))))))
   (zAd (zAm (pv 2))))),?_⟩
  refine ⟨(by walk_at "ln"),fun a ha=>?_⟩;have fa:Fre H a:=ha;have nla:l≠a:=ne_fre fa hl;have npa:p≠a:=by obtain ⟨x,y,e,_⟩:=hP;exact ne_fre fa e
  have nlp:=zGg hP hl
  refine ⟨_,rfl,_,rfl,⟨_,SqL.of ((upd_ne nla).trans hl)⟩,zAu (xs:=ns.map V.str) (fun i σ H2=>(∃o3,σ=[some (.ref p),some (.ref l),some (.ref a),o3])/\zBa H2 p/\Kp [p] H H2/\∃ws,Txs H2 a ws/\ws.Perm (ns.take i))
   ⟨⟨_,rfl⟩,hP.kp (M:=[]) (Kp.new Kp.refl fa) (by simp),Kp.new Kp.refl fa,[],upd_same,qC3 _⟩ (fun i σ H2 _ ⟨_,_,k2,_⟩=>SqL.of (k2 l _ hl (nm1 nlp))) ?_ ?_⟩
  ·rintro i v σ H2 hv ⟨⟨o3,rfl⟩,P2,k2,ws,h2,pm⟩;obtain ⟨n,en,rfl⟩:=zA1 hv;have hi:i<ns.length:=(qAh.mp en).1;have hwl:ws.length<=20:=by rw [pm.length_eq,qAX];lia
   refine ⟨_,rfl,.inl ⟨rfl,_,SqL.of h2⟩,_,rfl,_,rfl,_,_,rfl,.inl (SqL.of h2),_,_,rfl,rfl,p,_,rfl,P2,by lia,by rw [qAD];lia,fun d H3 d0 d1 P3 k3=>?_⟩;rw [qAD] at d1;have h3:=k3 a _ h2 (nm1 npa.symm);refine ⟨_,rfl,_,_,_,_,rfl,rfl,h3,?_,d0,?_,?_⟩
   ·rw [qAD,qAO];lia
   ·rw [qAD];lia
   ·refine ⟨⟨_,rfl⟩,P3.kp (M:=[a]) (Kp.put Kp.refl (by simp)) (nm1 npa),Kp.new (k2.trans k3) fa,ws.take d.toNat++n::ws.drop d.toNat,?_,?_⟩
    ·show upd _ _ _ _=some (.lst ((ws.take d.toNat++n::ws.drop d.toNat).map V.str));rw [upd_same,ins_map V.str]
    ·rw [zAi en];exact (ST.ins_perm ws d.toNat n).trans ((List.Perm.cons n pm).trans (List.perm_append_comm (l₁:=[n])))
  ·rintro σ H2 ⟨⟨o3,rfl⟩,P2,k2,ws,h2,pm⟩;rw [qAD,qAf] at pm;exact ⟨_,rfl,k a ws H2 fa h2 pm P2 k2⟩
end
theorem pi_listK {K:PySem.W.Frag} {tg l:Expr} {tl:TE} (hl:PE X l tl) (hK:X.K=K:=by rfl):PI X tg l (iList K tl):=by subst hK;exact zAp hl
def freeB (Lb:Str->List Str) (L:List Str) (n:Str):Bool:=!(L.any fun o=>decide (n∈Lb o))
def zCl (Lb:Str->List Str) (b:Nat) (L:List Str):List Str:=(L.filter (freeB Lb L)).take b
def zHv (Lb:Str->List Str) (b:Nat) (L:List Str):List Str:=L.filter fun n=>decide (n∉zCl Lb b L)
def lawB (Lb:Str->List Str) (b:Nat):Nat->List Str->List (List Str)
 | 0,_=>[]
 | f+1,L=>if L=[] then [] else zCl Lb b L::lawB Lb b f (zHv Lb b L)
theorem lawB_nil (Lb:Str->List Str) (b f:Nat):lawB Lb b f []=[]:=by
 cases f with
 | zero=>rfl
 | succ f=>exact qAC rfl
theorem turnW_sub {Lb:Str->List Str} {b:Nat} {L:List Str} (h:n∈zCl Lb b L):n∈L:=(qA3.mp (qBw h)).1
theorem turnW_some {Lb:Str->List Str} {b:Nat} {L:List Str} (hr:∀o∈L,∀n∈L,n∈Lb o->r o<r n) (hb:1<=b) (h:L≠[]):zCl Lb b L≠[]:=by
 obtain ⟨n,n1,n2⟩:=zHb r L h
 have hf:freeB Lb L n=true:=by
  unfold freeB;rw [Bool.not_eq_true',Bool.eq_false_iff];intro z;obtain ⟨o,ho,z⟩:=qCv.mp z;have h1:=hr o ho n n1 (qAo z);have h2:=n2 o ho;lia
 have hn:n∈L.filter (freeB Lb L):=qA3.mpr ⟨n1,hf⟩;unfold zCl
 cases e:L.filter (freeB Lb L) with
 | nil=>rw [e] at hn;cases hn
 | cons x xs =>
  cases b with
  | zero=>lia
  | succ b=>simp
theorem nextW_less {Lb:Str->List Str} {b:Nat} {L:List Str} (hr:∀o∈L,∀n∈L,n∈Lb o->r o<r n) (hb:1<=b) (h:L≠[]):(zHv Lb b L).length<L.length:=by
 cases e:zCl Lb b L with
 | nil=>exact absurd e (turnW_some hr hb h)
 | cons x xs =>
  have hx:x∈zCl Lb b L:=by rw [e];exact qAV
  exact zHi (turnW_sub hx) (qAW fun z=>z hx)
theorem atI_last (xs:List α) (x:α):atI (xs++[x]) (-1)=some x:=by
 unfold atI ixN;have e:((-1:Int)+((xs.length:Int)+1)).toNat=xs.length:=by lia
 have e1:(1:Int)<=(xs.length:Int)+1:=by lia
 simp [e,e1]
section
def spLListed:Sp:=fun vs H Q _=>∃(l d m:Addr) (b:Int) (ns ws:List Str) (la:Str->Addr) (Lb:Str->List Str) (r:Str->Nat),vs=[.ref l,.ref d,.int b,.ref m]/\DR H d ns la Lb/\Txs H m ws/\(∀n∈ws,n∈ns)/\ws.length<=20/\1<=b/\(∀o∈ws,∀n∈ws,n∈Lb o->r o<r n) /\
 ∀(pl:Addr) (as:List Addr) (H':Hp),RowsAt H H' pl as (lawB Lb b.toNat ws.length ws)->Kp [] H H'->Q (.ref pl) H'
abbrev zDc:Stmt:=top 49
theorem zDa:FnScope ["_law_names_here", "_law_behind_here", "_law_benches_here", "_law_row_here", "_law_plan_here", "_law_left", "_law_free"] ["_law_names_here", "_law_behind_here", "_law_benches_here", "_law_row_here"] (zAe zDc):=fnS
theorem ok_llisted (F:Fun K "_law_listed" "_law_listed" zDc f fd) (T:Txt K mg):FnOk P w K mg base CX0 1 f fd ["_law_names_here", "_law_behind_here", "_law_benches_here", "_law_row_here"] spLListed:=by
 refine F.ok zDa (fun vs H Q E h=>?_) (fun cdv A outer s H vs Q E hr h=>?_)
 ·obtain ⟨l,d,m,b,ns,ws,la,Lb,r,rfl,_⟩:=h;rfl
 ·obtain ⟨l,d,m,b,ns,ws,la,Lb,r,rfl,DD,hm,hin,hwl,hb,hrk,k⟩:=h;have hu:=zFj hr
  refine ⟨_,(zAc (psS (i:=4) zDa.nd (zA6 zAb))
   (zAc (psS (i:=5) zDa.nd (zAq zAy (by rfl) T.z_list zBi (zAa (pv 3) zAb)))
   (zAc (zIx qAZ (zAn (zEy hr) (pv 5) (zA6 zAb) (zAr _))
    (zAc (zD5 (i:=6) rfl (zBe (sc:=zAe zDc) rfl (by decide +kernel)) (Draws.own (x:= "_law_name") (dtk (i:=5) rfl (dtk (i:=1) rfl Draws.nil))) (zAp (pv 5)) (fun _ _ _ _=>(pgB (i:=0))) (fun _ _ _ _=>(zDp (zDw (zBp (zAj (call_anyK (K:=K) rfl) (by rfl) T.z_any bo_any (zAa (zBl rfl (blk_in (sc:=zAe zDc) rfl rfl (by decide +kernel)) (Draws.own (x:= "_law_one") (dtk (i:=0) rfl (dtk (i:=2) rfl Draws.nil))) (pi_listK (K:=K) (pv 1)) (fun _ _ _ _=>(pgB (i:=0))) (fun _ _ _ _=>zBr) (fun _ _ _ _=>(pe_cmp (zG2 hu (pv 1) (zCq hu (pv 2) (pv 0) (fun _ _=>rfl)))))) zAb)))))) (fun _ _ _ _=>(pv 0)) zDa.nd rfl rfl)
    (zAc (zA2 (zC5 qAt qCM qCN zCs (pv 4) (zAa (zGh zIn (pv 6) zIz (zIy (pv 2))) zAb)))
    (zAd (psS (i:=5) zDa.nd (zBl rfl (zBe (sc:=zAe zDc) rfl (by decide +kernel)) (Draws.own (x:= "_law_name") (dtk (i:=4) rfl Draws.nil)) (zAp (pv 5)) (fun _ _ _ _=>(pgB (i:=0))) (fun _ _ _ _=>(zDp (zAn (zDr (K:=K)) (pv 0) (zBg (zFi (K:=K)) (pv 1) (pe_un un_neg zAh) (fun _ _=>rfl)) (by rfl)))) (fun _ _ _ _=>(pv 0)))))))) 
   (zAd (zAm (pv 4)))))),?_⟩
  refine ⟨(by walk_at "ln"),fun pl hpl=>?_⟩;have fpl:Fre H pl:=hpl;have k0:Kp [] H (upd H pl (.lst [])):=Kp.new Kp.refl fpl;refine ⟨_,rfl,_,_,rfl,.inl (SqL.of (k0 m _ hm (by simp))),fun lf hlf=>?_⟩;have flf:=(show Fre _ lf from hlf);have npl:pl≠lf:=ne_fre flf upd_same
  refine zId (fun σ H3=>∃(lf:Addr) (L:List Str) (as:List Addr) (rs:List (List Str)) (f:Nat) (o6:Option V),σ=[some (.ref l),some (.ref d),some (.int b),some (.ref m),some (.ref pl),some (.ref lf),o6]/\Kp [] H H3/\Txs H3 lf L/\lf≠pl/\RowsAt H H3 pl as rs/\(∀n∈L,n∈ws)/\L.length<=f/\rs.length+f<=20/\rs++lawB Lb b.toNat f L=lawB Lb b.toNat ws.length ws) (lenAt 5)
   ⟨lf,ws,[],[],ws.length,none,rfl,Kp.trans k0 (Kp.new Kp.refl flf),upd_same,npl.symm,RowsAt.nil ((upd_ne npl).trans upd_same) fpl,fun n hn=>hn,qAF _,by simpa using hwl,rfl⟩ ?_ (fun σ H Q Q' hq hc=>by
    obtain ⟨x,e,z,hc⟩:=hc;refine ⟨x,e,z,fun p hp=>?_⟩;rcases hc p hp with ⟨a,c,xs,ys,e1,e2,e3,e4,e5,e6,c',e7,q⟩| ⟨a,c,xs,ys,e1,e2,e3,e4,e5,c',e7,q⟩
    ·exact .inl ⟨a,c,xs,ys,e1,e2,e3,e4,e5,e6,c',e7,hq _ _ q⟩
    ·exact .inr ⟨a,c,xs,ys,e1,e2,e3,e4,e5,c',e7,hq _ _ q⟩)
  rintro σ H3 ⟨lf,L,as,rs,f,o6,rfl,kh,hL,nlp,R,hLw,hf,hrf,el⟩;have hLl:L.length<=20:=by lia
  refine ⟨_,rfl,(by walk_at "ln"),fun q hq=>?_⟩;have fq:Fre H3 q:=hq;have kq:Kp [] H3 (upd H3 q (.lst [])):=Kp.new Kp.refl fq;have hLq:=kq lf _ hL (by simp)
  by_cases cL:L=[]
  ·subst cL;refine .inl ⟨_,_,_,_,rfl,rfl,SqL.of hLq,SqL.of upd_same,rfl,(fun i x y h=>by simp at h),_,rfl,iteF ?_⟩;rw [lawB_nil,qBK] at el;subst el;exact ⟨_,rfl,k pl as _ (R.kp kq (by simp) (fun _ _=>by simp)) (kh.trans kq)⟩
  refine .inr ⟨_,_,_,_,rfl,rfl,SqL.of hLq,SqL.of upd_same,by simpa using cL,_,rfl,iteT ?_⟩;have khq:=kh.trans kq;have Rq:=R.kp kq (by simp) (fun _ _=>by simp);generalize upd H3 q (.lst [])=H4 at kq hLq khq Rq ⊢;have D4:=DD.kp0 khq;have hrL:∀o∈L,∀n∈L,n∈Lb o->r o<r n:=fun o ho n hn=>hrk o (hLw o ho) n (hLw n hn)
  refine ⟨_,rfl,_,rfl,⟨_,SqL.of hLq⟩,fun b2 hb2=>zB6 (L.map V.str) (fun i ys τ H5=>(∃o0,τ=[o0,some (.ref lf),some (.ref d)])/\ys=((L.take i).filter (freeB Lb L)).map V.str/\Kp [] H4 H5/\H5 b2=some (.lst ys))
   ⟨⟨_,rfl⟩,rfl,Kp.new Kp.refl hb2,upd_same⟩ (fun i ys τ H5 ⟨_,_,k5,_⟩=>SqL.of (k5 lf _ hLq (by simp))) ?_ ?_⟩
  ·rintro i v ys τ H5 hv ⟨⟨o0,rfl⟩,rfl,k5,h5⟩;obtain ⟨n,en,rfl⟩:=zA1 hv;have D5:=D4.kp0 k5;have hL5:=k5 lf _ hLq (by simp)
   refine ⟨_,rfl,_,rfl,⟨_,SqL.of hL5⟩,fun B hB=>zA5 (L.map V.str) (fun i ys τ H6=>(∃o0,τ=[o0,some (.str n),some (.ref d)])/\ys=((L.take i).map fun o=>V.bl (decide (n∈Lb o)))/\H6=upd H5 B (.lst ys))
    ⟨⟨_,rfl⟩,rfl,rfl⟩ (fun i ys τ H6 ⟨_,_,z⟩=>by subst z;exact SqL.of ((Kp.new (M:=[]) Kp.refl hB) _ _ hL5 (by simp))) ?_ ?_⟩
   ·rintro i v ys τ H6 hv ⟨⟨o0,rfl⟩,rfl,rfl⟩;obtain ⟨o,eo,rfl⟩:=zA1 hv;have mo:=hin o (hLw o (qAL eo));have D6:=D5.kp0 (Kp.new (l:=B) (o:=.lst ((L.take i).map fun o=>V.bl (decide (n∈Lb o)))) Kp.refl hB);obtain ⟨g,g1,g2⟩:=zIo (D6.row o mo) n;refine ⟨_,rfl,_,rfl,_,rfl,_,_,rfl,D6.get mo,_,g,rfl,g1,?_⟩;rw [g2];refine ⟨upd_same,?_,⟨_,rfl⟩,?_,zCc⟩
    ·rw [qAD,qAX,qAO];lia
    ·rw [zAi eo,qAM];rfl
   ·rintro ys τ H6 ⟨_,rfl,rfl⟩;have eT2:L.take (L.map V.str).length=L:=by rw [qAD,qAf]
    rw [eT2];refine ⟨B,L.map fun o=>decide (n∈Lb o),rfl,SqL.of ?_,?_⟩
    ·rw [upd_same,qA1];rfl
    have e:((L.map fun o=>decide (n∈Lb o)).any id)=L.any fun o=>decide (n∈Lb o):=by rw [List.any_map];rfl
    rw [e];have k6:Kp [] H5 (upd H5 B (.lst (L.map fun o=>V.bl (decide (n∈Lb o))))):=Kp.new Kp.refl hB;have h6:=k6 b2 _ h5 (by simp);refine ⟨_,rfl,?_⟩;show (if freeB Lb L n=true then _ else _);refine ite2 (fun c=>?_) (fun c=>?_)
    ·refine ⟨_,rfl,h6,?_,⟨_,rfl⟩,?_,Kp.new (k5.trans k6) hb2,upd_same⟩
     ·rw [qAD];exact zEl (by lia)
     ·rw [zDt en c,qAM];rfl
    ·refine ⟨⟨_,rfl⟩,?_,k5.trans k6,h6⟩;rw [zEb en c]
  ·rintro ys τ H5 ⟨_,rfl,k5,h5⟩;have eT:L.take (L.map V.str).length=L:=by rw [qAD,qAf]
   rw [eT] at h5;have R5:=Rq.kp k5 (by simp) (fun _ _=>by simp);refine ⟨_,rfl,.inl ⟨rfl,_,SqL.of R5.top⟩,_,rfl,_,rfl,_,rfl,_,_,rfl,SqL.of h5,fun tn htn=>?_⟩;have ftn:Fre H5 tn:=htn
   have ecut:cutV ((L.filter (freeB Lb L)).map V.str) none (some b)=(zCl Lb b.toNat L).map V.str:=by
    rw [cut_to _ (by lia),<-qCJ];rfl
   rw [ecut];have k6:Kp [] H5 (upd H5 tn (.lst ((zCl Lb b.toNat L).map V.str))):=Kp.new Kp.refl ftn;have e6:upd H5 tn (.lst ((zCl Lb b.toNat L).map V.str)) tn=some (.lst ((zCl Lb b.toNat L).map V.str)):=upd_same;have ntp:tn≠pl:=(ne_fre ftn R5.top).symm;have ftn0:Fre H tn:=(khq.trans k5).fre ftn (by simp);generalize upd H5 tn (.lst ((zCl Lb b.toNat L).map V.str))=H6 at k6 e6 ⊢;have R6:=R5.kp k6 (by simp) (fun _ _=>by simp);refine ⟨_,_,_,rfl,rfl,R6.top,?_,?_⟩
   ·rw [qAD,R6.len,qAO];lia
   have R7:=R6.more e6 ntp ftn0;have k7:Kp [] H (upd H6 pl (.lst (as.map V.ref++[.ref tn]))):=Kp.new (khq.trans (k5.trans k6)) fpl;have hL7:Txs (upd H6 pl (.lst (as.map V.ref++[.ref tn]))) lf L:=(upd_ne nlp).trans ((k5.trans k6) lf _ hLq (by simp));have e7:(upd H6 pl (.lst (as.map V.ref++[.ref tn]))) tn=some (.lst ((zCl Lb b.toNat L).map V.str)):=(upd_ne ntp).trans e6;have t7:(upd H6 pl (.lst (as.map V.ref++[.ref tn]))) pl=some (.lst (as.map V.ref++[.ref tn])):=upd_same;generalize upd H6 pl (.lst (as.map V.ref++[.ref tn]))=H7 at k7 hL7 e7 R7 t7 ⊢
   refine ⟨_,rfl,_,rfl,⟨_,SqL.of hL7⟩,fun B2 hB2=>zB6 (L.map V.str) (fun i ys τ H8=>(∃o0,τ=[o0,some (.ref pl)])/\ys=((L.take i).filter fun n=>decide (n∉zCl Lb b.toNat L)).map V.str/\H8=upd H7 B2 (.lst ys))
    ⟨⟨_,rfl⟩,rfl,rfl⟩ (fun i ys τ H8 ⟨_,_,e⟩=>by subst e;exact SqL.of ((upd_ne (ne_fre (show Fre H7 B2 from hB2) hL7)).trans hL7)) ?_ ?_⟩
   ·rintro i y ys τ H8 hy ⟨⟨o0,rfl⟩,rfl,rfl⟩;obtain ⟨n,en,rfl⟩:=zA1 hy;have f2:Fre H7 B2:=hB2;refine ⟨_,rfl,_,rfl,_,rfl,_,_,_,_,rfl,rfl,SqL.of ((upd_ne (ne_fre f2 t7)).trans t7),atI_last _ _,_,_,rfl,.inl (SqL.of ((upd_ne (ne_fre f2 e7)).trans e7)),rfl,zBt _,_,rfl,?_⟩;rw [qAC rfl,zC6]
    have ed:(!decide (n∈zCl Lb b.toNat L))=decide (n∉zCl Lb b.toNat L):=by
     by_cases z:n∈zCl Lb b.toNat L<;>simp [z]
    rw [ed];refine ite2 (fun c=>?_) (fun c=>?_)
    ·refine ⟨_,rfl,upd_same,?_,⟨_,rfl⟩,?_,zCc⟩
     ·rw [qAD];exact zEl (by lia)
     ·rw [zDt (p:=fun n=>decide (n∉zCl Lb b.toNat L)) en c,qAM];rfl
    ·refine ⟨⟨_,rfl⟩,?_,rfl⟩;rw [zEb (p:=fun n=>decide (n∉zCl Lb b.toNat L)) en c]
   ·rintro ys τ H8 ⟨_,rfl,rfl⟩;rw [eT];have fB2:Fre H7 B2:=hB2;have k8:Kp [] H7 (upd H7 B2 (.lst ((zHv Lb b.toNat L).map V.str))):=Kp.new Kp.refl fB2;have hless:=nextW_less hrL (b:=b.toNat) (by lia) cL
    obtain ⟨f',rfl⟩:∃f',f=f'+1:=⟨f - 1,by
     have:1<=L.length:=qCp.mpr cL;lia⟩
    refine ⟨⟨B2,zHv Lb b.toNat L,as++[tn],rs++[zCl Lb b.toNat L],f',_,rfl,k7.trans k8,upd_same,(ne_fre fB2 t7).symm,R7.kp k8 (by simp) (fun _ _=>by simp),fun n hn=>hLw n (qA3.mp hn).1,by lia,by simp;lia,?_⟩,?_⟩
    ·rw [<-el];show _=rs++(if L=[] then [] else _);rw [qAB cL,qBT];rfl
    ·have e1:lenAt 5 [some (V.ref l),some (.ref d),some (.int b),some (.ref m),some (.ref pl),some (V.ref B2),some (.ref b2)] (upd H7 B2 (.lst ((zHv Lb b.toNat L).map V.str)))=(zHv Lb b.toNat L).length:=by
      show (match (upd H7 B2 (.lst ((zHv Lb b.toNat L).map V.str))) B2 with| some (.lst xs)=>xs.length| _=>0)=_;rw [upd_same];simp
     have e2:lenAt 5 [some (V.ref l),some (.ref d),some (.int b),some (.ref m),some (.ref pl),some (V.ref lf),o6] H3=L.length:=by
      show (match H3 lf with| some (.lst xs)=>xs.length| _=>0)=_;rw [hL];simp
     show lenAt 5 [some (V.ref l),some (.ref d),some (.int b),some (.ref m),some (.ref pl),some (V.ref B2),some (.ref b2)] _<lenAt 5 [some (V.ref l),some (.ref d),some (.int b),some (.ref m),some (.ref pl),some (V.ref lf),o6] H3;rw [e2];exact qCt (qBr e1) hless
end
section
def zH1:Sp:=fun vs H Q _=>∃p:Addr,vs=[.ref p]/\zBa H p/\∀(b:Int) (H':Hp),1<=b->zBa H' p->Kp [p] H H'->Q (.int b) H'
abbrev zGv:Stmt:=top 48
theorem sc_benches:FnScope ["_law_purse_here"] ["_law_purse_here"] (zAe zGv):=fnS
theorem ok_benches (F:Fun K "_law_benches" "_law_benches" zGv f fd) (C_take:Cal P w K mg base "_law_take" 1 ["_law_purse_here", "_law_many"] zEq):FnOk P w K mg base CX0 2 f fd ["_law_purse_here"] zH1:=by
 refine F.ok sc_benches (fun vs H Q E h=>?_) (fun cdv A outer s H vs Q E hr h=>?_)
 ·obtain ⟨p,rfl,_⟩:=h;rfl
 ·obtain ⟨p,rfl,hP,k⟩:=h
  refine ⟨_,(zAc (zA0 (zAn zDd (zAf C_take hr rfl (zAa (pv 0) (zAa zAh zAb))) zAh (zAr _))
    (zAd (zAm (zAv zBn zAh (zAf C_take hr rfl (zAa (pv 0) (zAa (zAv zFc (zAv op_pow zAh zAh) zAh) zAb))))))
    zAk)
   (zAd (zAm (zAv zBn zAh (zAf C_take hr rfl (zAa (pv 0) (zAa zAh zAb))))))),?_⟩
  refine ⟨_,rfl,p,8,rfl,hP,by decide,by decide +kernel,fun d1 H1 x0 x1 P1 K1=>?_⟩;refine ⟨rfl,_,rfl,ite2 (fun c=>?_) (fun c=>?_)⟩
  ·refine ⟨_,rfl,_,_,rfl,rfl,⟨by decide,by decide,by decide⟩,_,_,rfl,rfl,p,_,rfl,P1,by decide +kernel,by decide +kernel,fun d2 H2 y0 y1 P2 K2=>?_⟩;exact ⟨_,_,rfl,rfl,k _ H2 (by lia) P2 (K1.trans K2)⟩
  ·refine ⟨_,rfl,p,4,rfl,P1,by decide,by decide +kernel,fun d2 H2 y0 y1 P2 K2=>?_⟩;exact ⟨_,_,rfl,rfl,k _ H2 (by lia) P2 (K1.trans K2)⟩
end
end My
namespace ST
open PySem L2 PySem.SetTable PyProof.Rows
end ST
namespace L2
open PySem PySem.Spec PyProof.Rows PySem.W
def del (H:Hp) (a:Addr):Hp:=fun b=>if b=a then none else H b
theorem del_same {H:Hp} {a:Addr}:del H a a=none:=qAC rfl
theorem zF6 {H:Hp} {a b:Addr} (h:b≠a):del H a b=H b:=qAB h
theorem del_some {H:Hp} {a b:Addr} {o:HO} (h:del H a b=some o):b≠a/\H b=some o:=by
 by_cases z:b=a
 ·rw [z,del_same] at h;cases h
 ·exact ⟨z,by rw [zF6 z] at h;exact h⟩
end L2
namespace L2
open PySem PySem.Spec PyProof.Rows PySem.W PySem.Builtin PySem.Builtin.ObjectAttr
end L2
namespace L2
open PySem PySem.Spec PyProof.Rows
section
variable {prog:Program} {w:World} {A:Around} {E:Value->Shared->Prop} {s:Shared}
theorem rv_len:typeLookup (.type "list_reverseiterator") "__len__" = pure none:=by rw [qBz,qB0];kernel_rfl
theorem rv_hint:typeLookup (.type "list_reverseiterator") "__length_hint__" = pure (some (.builtin "list_reverseiterator.__length_hint__")):=by rw [qBz,qB0];kernel_rfl
theorem hint_rev {r l:Addr} {i:Int} {Q:Bool->Shared->Prop} (hr:s.heap.IsRevIter r l i) (h:Q false s):wpAny (model prog w) A (Builtin.List.listLengthHint (.ref r)) Q E s:=by
 unfold Builtin.List.listLengthHint;refine qAA (qCD hr.typeIs rv_len ?_);refine qB4 (fun hab=>absurd hab (by decide +kernel)) (fun _=>?_);refine qB4 (fun hab=>absurd hab (by decide)) (fun _=>?_);refine qAA (qCD hr.typeIs rv_hint ?_);generalize hid:("list_reverseiterator.__length_hint__" : String)=id0
 wp_delta
 rw [show splitId id0=some ("list_reverseiterator", "__length_hint__") from by subst hid;decide +kernel];subst hid;refine qAA (qCL (T:= "list_reverseiterator") (b:=true) hr.typeIs (by rw [qC2];kernel_rfl) ?_);refine qB4 (fun hab=>absurd hab (by decide)) (fun _=>?_);refine qB4 (fun _=>?_) (fun hab=>absurd (by decide +kernel) hab);refine qB4 (fun hab=>absurd hab (by decide +kernel)) (fun _=>?_);exact qAE h
theorem rev_items {its acc:Array Value} (h:ItemsOf (fun i v=>its[its.size - 1 - i]?=some v) acc its.size):acc.toList=its.toList.reverse:=by
 refine List.ext_getElem? fun i=>?_;rw [qAl]
 by_cases hi:i<its.size
 ·have e:acc[i]?=some (acc[i]'(by rw [h.1];exact hi)):=qDG (by rw [h.1];exact hi);rw [e,<-h.2 i _ e,List.getElem?_reverse (by simpa using hi)];simp
 ·rw [Array.getElem?_eq_none (by rw [h.1];lia),qDI (by simp;lia)]
theorem list_rev {r l:Addr} {its:Array Value} {Q:Value->Shared->Prop} (hh:A.handled=none) (hr:s.heap.IsRevIter r l ((its.size:Int) - 1)) (hl:s.heap.IsList l its) (ne:l≠r) (hz:its.size<=sizeLine)
  (q:∀h' tk acc c,(∀b o,b≠r->s.heap.get? b=some o->h'.get? b=some o)->h'.get? s.heap.objs.size=some {cls:=.type "list",dict:=none,data:=.seq acc c,slots:=#[]}->acc.toList=its.toList.reverse->Q (.ref s.heap.objs.size) {s with heap:=h',toks:=tk}) :
  wpAny (model prog w) A (call (.type "list") [.ref r]) Q E s:=by
 obtain ⟨h0,g,dd,tk,os⟩:=s;have lr:r<h0.objs.size:=by obtain ⟨o,y,_⟩:=hr;exact qAK y
 have ll:l<h0.objs.size:=by obtain ⟨o,y,_⟩:=hl;exact qAK y
 refine callType_codes (Q₁:=fun obj s₁=>obj= .ref h0.objs.size/\s₁=⟨h0.push {cls:=.type "list",data:=.seq #[]},g,dd,tk,os⟩) F.called_list (F.typeCall_list_1 _) F.entry_list_init (code_list_new _ ⟨rfl,rfl⟩) fun obj s1 h1=>?_;obtain ⟨rfl,rfl⟩:=h1;have hS:(h0.push {cls:=.type "list",data:=.seq #[]}).get? h0.objs.size=some {cls:=.type "list",data:=.seq #[]}:=qAb _ rfl;refine ⟨⟨_,hS,rfl⟩,F.args_list_init_2 _ _,?_⟩;show wpAny _ A.in1.in1 (do let old<-Builtin.List.listItems (.ref h0.objs.size);Builtin.List.listUpdate (.ref h0.objs.size) (fun _=>#[]);letGo old.toList.reverse;Builtin.List.listExtendWith (.ref h0.objs.size) (.ref r) .none) _ _ _;refine qAA ?_;unfold Builtin.List.listItems;refine qAA (wpAny_seqItems hS rfl (qAE ?_));show wpAny _ A.in1.in1 (updateSeq h0.objs.size (fun _=>#[]) >>= fun _=>letGo (#[]:Array Value).toList.reverse >>= fun _=>Builtin.List.listExtendWith (.ref h0.objs.size) (.ref r) .none) _ _ _;refine qAA (wpAny_updateSeq hS rfl ?_);have S1:=qBE (Obj.mapSeq (fun _=>(#[]:Array Value))) hS rfl;have o1:∀b o,h0.get? b=some o->((h0.push {cls:=.type "list",data:=.seq #[]}).update h0.objs.size (Obj.mapSeq (fun _=>(#[]:Array Value)))).get? b=some o:=fun b o y=>(qCB _ _ (qA8 (qAK y))).trans (qAI _ y);generalize (h0.push {cls:=.type "list",data:=.seq #[]}).update h0.objs.size (Obj.mapSeq (fun _=>(#[]:Array Value)))=h1 at S1 o1 ⊢;refine qAA (wpAny_letGo ?_);have hr1:h1.IsRevIter r l ((its.size:Int) - 1):=Heap.IsRevIter.at hr fun o y=>o1 _ _ y;have hl1:h1.IsList l its:=hl.at fun o y=>o1 _ _ y;unfold Builtin.List.listExtendWith;refine qAA (qCg (T:= "list_reverseiterator") (s:=⟨h1,g,dd,tk,os⟩) hr1.typeIs ?_);have d1:Builtin.List.listSameRef (.ref h0.objs.size) (.ref r)=false:=qAw.mpr (qA8 lr);have d2:(Value.type "list_reverseiterator" == Value.type "list")=false:=by decide
 have d3:(Value.type "list_reverseiterator" == Value.type "tuple")=false:=by decide
 simp only [d1,d2,d3,Bool.or_false,qC7,qBs];refine qAA (wpAny_pyIter_revIter (s:=⟨h1,g,dd,tk,os⟩) hr1 (qAA (qA0 (hint_rev (s:=⟨h1,g,dd,tk,os⟩) hr1 ?_))));refine qB4 (fun hab=>absurd hab (by decide +kernel)) fun _=>qAE ⟨qBy F.plain_extend_loop _,?_⟩;have W:=(Walks.listRev (prog:=prog) (w:=w) (A:=A.in1.in1) hh r l ne its).toS;refine codeAny_extend_loopS W hz h0.objs.size ?_ .none its.size 0 ⟨h1,g,dd,tk,os⟩ #[] _ rfl (qAg _) ⟨qAg _,by simpa using hr1,hl1⟩ S1 (ItemsOf.nil _) fun s' acc c mv hS' it=>?_
 ·simp only [qAS,qBQ,qBp,not_or];exact ⟨qA8 lr,qA8 ll⟩
 ·rw [Moved.eq_with mv];refine ⟨rfl,q s'.heap s'.toks acc c (fun b o hb e=>mv.heap b o ?_ (o1 b o e)) hS' (rev_items it)⟩;simp only [qAS,qBQ,qBp,not_or];exact ⟨qAT (qAK e),hb⟩
end
def rvN (n0:Nat) (r l:Addr) (n:Nat):HO:=.ext fun h=>h.IsRevIter r l ((n:Int) - 1)/\n0<=r
theorem vals_rev:∀{xs:List V} {us:List Value},Vals xs us->Vals xs.reverse us.reverse
 | _,_,.nil=>.nil
 | _,_,.cons r t=>by rw [List.reverse_cons,List.reverse_cons];exact (vals_rev t).append (.cons r .nil)
section
variable {X:Cx}
theorem zHy:zCu X (.type "reversed") (fun xs H Q=>∃l ys,xs=[.ref l]/\H l=some (.lst ys)/\∀r,H r=none->Q (.ref r) (upd H r (rvN X.s₀.heap.objs.size r l ys.length))):=by
 intro pins s σ H xs us Q I rv h;obtain ⟨l,ys,rfl,e,q⟩:=h;obtain ⟨u,rfl,ru⟩:=rv.one
 cases ru
 obtain ⟨z,its,n,rel,hl⟩:zBb X.prog X.w H s.heap l (.lst ys):=I.hok l _ e;have len:=rel.length;refine call_reversed_list (items:=its.toArray) ⟨_,hl,rfl,n,rfl⟩ ?_;have ge:(s.heap.push (revObj l ((its.toArray.size:Int) - 1))).IsRevIter s.heap.objs.size l ((ys.length:Int) - 1):=⟨_,qAb _ rfl,rfl,by rw [qAP,<-len];rfl⟩;refine ⟨.ref s.heap.objs.size,_,I.laid (o:=rvN X.s₀.heap.objs.size s.heap.objs.size l ys.length) (t':=s.toks) (fun b o z=>qAI _ z) (qAF _) ?_,rfl,q _ (I.hok.fresh (qAF _))⟩;exact ⟨⟨ge,I.sz⟩,⟨_,qAb _ rfl⟩,fun h1 h2 x y=>⟨x.1.at y,x.2⟩⟩
theorem call_listRv (hc:X.calm=true):zCu X (.type "list") (fun xs H Q=>∃r l ys,xs=[.ref r]/\H r=some (rvN X.s₀.heap.objs.size r l ys.length)/\H l=some (.lst ys)/\∀p,H p=none->Q (.ref p) (upd (del H r) p (.lst ys.reverse))):=by
 intro pins s σ H xs us Q I rv h;obtain ⟨r,l,ys,rfl,er,e,q⟩:=h;obtain ⟨u,rfl,ru⟩:=rv.one
 cases ru
 obtain ⟨⟨hr,n0⟩,_,_⟩:zBb X.prog X.w H s.heap r (rvN X.s₀.heap.objs.size r l ys.length):=I.hok r _ er;obtain ⟨z,its,n,rel,hl⟩:zBb X.prog X.w H s.heap l (.lst ys):=I.hok l _ e;have len:=rel.length;have ne:l≠r:=zBw e er fun z=>nomatch z;refine list_rev (its:=its.toArray) (I.ok.hd hc) (by rw [qAP,<-len];exact hr) ⟨_,hl,rfl,n,rfl⟩ ne (by rw [qAP];lia) fun h' tk acc c kp ge ea=>?_;have fr:H s.heap.objs.size=none:=I.hok.fresh (qAF _);refine ⟨.ref s.heap.objs.size,_,?_,rfl,q _ fr⟩;have rs:r≠s.heap.objs.size:=zAg er fr;refine I.call' (s':={s with heap:=h',toks:=tk}) (ch:=[r]) rfl ⟨fun b o z m _ nr=>kp b o (fun y=>nr (by rw [y];simp)) z,fun b o z m _ nr=>⟨o.slots,kp b o (fun y=>nr (by rw [y];simp)) z⟩,fun b o z m nr=>?_,fun b o z nr=>⟨o,kp b o (fun y=>nr (by rw [y];simp)) z⟩,fun b xs z=>?_,fun b o u z=>?_,fun b ps z=>⟨#[],?_⟩⟩ (fun b o z=>?_) I.bare (fun b hb=>?_)
 ·rw [upd_ne (qAT (qAK z)),zF6 (fun y=>nr (by rw [y];simp))];exact m
 ·rw [upd_ne (zAg z fr),zF6 (zBw z er fun y=>nomatch y)];exact z
 ·rw [upd_ne (zAg z fr),zF6 (zBw z er fun y=>nomatch y)];exact z
 ·rw [Array.append_empty,upd_ne (zAg z fr),zF6 (zBw z er fun y=>nomatch y)];exact z
 ·by_cases hb:b=s.heap.objs.size
  ·subst hb;rw [upd_same] at z;cases z;refine ⟨by rw [List.length_reverse];exact ‹ys.length<=sizeLine›,acc.toList,c,?_,by simpa using ge⟩;rw [ea];exact vals_rev rel
  ·rw [upd_ne hb] at z;obtain ⟨br,z⟩:=del_some z;refine (I.hok b o z).stay (fun d v hd y=>kp d v ?_ y) (fun d y=>?_) fun d xs y=>?_
   ·rcases hd with rfl| hd
    ·exact br
    ·exact zBw hd er fun y=>nomatch y
   ·rw [upd_ne (zAg y fr),zF6 (zBw y er fun y=>nomatch y)];exact y
   ·rw [upd_ne (zAg y fr),zF6 (zBw y er fun y=>nomatch y)];exact y
 ·rw [qAQ.mp hb];refine ⟨.inr n0,fun y=>?_,fun x c y w=>?_,fun p hp y=>?_⟩
  ·rw [y,I.free] at er;cases er
  ·rw [<-w,I.freeC x c y] at er;cases er
  ·rw [<-y,(I.pin p hp).2.1] at er;cases er
end
end L2
namespace My
open PySem L2
theorem kp_rev {H:Hp} {r p:Addr} {o o':HO} (hr:H r=none) (hp:upd H r o p=none):Kp [] H (upd (del (upd H r o) r) p o')/\upd (del (upd H r o) r) p o' p=some o':=⟨fun c x hc _=>by
 have n1:c≠r:=zAg hc hr;have e:upd H r o c=some x:=by rw [upd_ne n1];exact hc
 rw [upd_ne (zAg e hp),zF6 n1];exact e,upd_same⟩
section
variable {P:Program} {w:World} {K:PySem.W.Frag} {mg:Str->Option Value} {base:Heap} {C:Addr}
def spMade (C:Addr):Sp:=fun vs H Q _=>∃(way:Int) (l m:Addr) (ns:List Str) (qs:List (List Str×Addr)) (r:Str->Nat),vs=[.int way,.ref l,.ref m]/\Txs H l ns/\Ords H m qs/\Good ns qs r/\∀x J H',JobsAt C H' x J->J.ns=ns->(∀k,k∈J.zs.map (·.1)↔k∈qs.map (·.1))->Kp [] H H'->Q (.ref x) H'
abbrev s_made:Stmt:=top 57
theorem sc_made:FnScope ["_law_way", "_law_names_here", "_law_orders"] ["_law_way", "_law_names_here", "_law_orders"] (zAe s_made):=fnS
theorem ok_made {f:Addr} {fd:FuncData} (F:Fun K "_law_made" "_law_made" s_made f fd) (T:Txt K mg) (U:JC K mg C) (C_jobs_text:Cal P w K mg base "jobs_text" 2 ["jobs"] (spJText C)) (C_read_jobs:Cal P w K mg base "read_jobs" 6 ["text"] (spRJobs C)) (M_Jobs:Mkr P w K mg base C "Jobs" 4 ["self", "names", "orders"] (spInit C)) (M_turned:Mth P w K mg base C "turned" 6 ["self"] (spTurned C)):FnOk P w K mg base CX0 7 f fd ["_law_way", "_law_names_here", "_law_orders"] (spMade C):=by
 refine F.ok sc_made (fun vs H Q E h=>?_) (fun cdv A outer s H vs Q E hr h=>?_)
 ·obtain ⟨way,l,m,ns,qs,r,rfl,_⟩:=h;rfl
 ·obtain ⟨way,l,m,ns,qs,r,rfl,hl,hm,G,k⟩:=h;have hr2:=hr.mono (j:=2) (by decide);have hr5:=hr.mono (j:=5) (by decide);have HR_read_jobs:Room 6 _:=hr
  refine ⟨_,(zAc (zA0 (zAn zDd (pv 0) zAh (zAr _))
    (zAd (zAm (zAf C_read_jobs HR_read_jobs rfl (zAa (zAf C_jobs_text hr2 rfl (zAa (zEj M_Jobs hr5 rfl (zAa (zAq zAy (by rfl) T.z_list zBi (zAa (pv 1) zAb)) (zAa (zAq zAy (by rfl) T.z_list zBi (zAa (pv 2) zAb)) zAb))) zAb)) zAb))))
    zAk)
   (zAc (zA0 (zAn zDd (pv 0) zAh (zAr _))
    (zAd (zAm (zD7 M_turned U.cl HR_read_jobs (zEj M_Jobs hr5 rfl (zAa (zAq zAy (by rfl) T.z_list zBi (zAa (pv 1) zAb)) (zAa (zBl rfl (zBe (sc:=zAe s_made) rfl (by decide +kernel)) (Draws.own (x:= "_law_one") (Draws.own (x:= "_law_other") Draws.nil)) (zAp (pv 2)) (fun _ _ _ _=>(zFu (K:=K) (n:=2) rfl (zAt (pgB (i:=0)) (zAt (pgB (i:=1)) zCf)))) (fun _ _ _ _=>zBr) (fun _ _ _ _=>(zA9 (zAa (pv 1) (zAa (pv 0) zAb))))) zAb))))))
    zAk)
   (zAd (zAm (zEj M_Jobs hr5 rfl (zAa (zAq zAy (by rfl) T.z_list zBi (zAa (pv 1) zAb)) (zAa (zAq zAy (by rfl) T.z_list zBi (zAa (pv 2) zAb)) zAb))))))),?_⟩
  refine ⟨_,rfl,rfl,_,rfl,ite2 (fun c=>?_) (fun c=>?_)⟩
  ·refine ⟨_,rfl,_,_,rfl,.inl (SqL.of hl),fun a1 ha1=>?_⟩;have fa1:Fre H a1:=ha1;have k7:Kp [] H (upd H a1 (.lst (ns.map V.str))):=Kp.new Kp.refl fa1;have h17:upd H a1 (.lst (ns.map V.str)) a1=some (.lst (ns.map V.str)):=upd_same;generalize upd H a1 (.lst (ns.map V.str))=H7 at k7 h17;have hm7:=hm.kp k7 (by simp) (by simp);refine ⟨_,rfl,_,_,rfl,.inl (SqL.of hm7.top),fun a2 ha2=>?_⟩;have k8:Kp [] H7 (upd H7 a2 (.lst (qs.map fun q=>V.ref q.2))):=Kp.new Kp.refl ha2;have h28:upd H7 a2 (.lst (qs.map fun q=>V.ref q.2)) a2=some (.lst (qs.map fun q=>V.ref q.2)):=upd_same;generalize upd H7 a2 (.lst (qs.map fun q=>V.ref q.2))=H8 at k8 h28;have hm8:=hm7.kp k8 (by simp) (by simp);refine fun x dx hx hdx nxd=>?_;have k9:Kp [] H8 (upd (upd H8 dx (.own x)) x (.ins C dx [])):=Kp.new (Kp.new Kp.refl hdx) hx;have hx9:(upd (upd H8 dx (.own x)) x (.ins C dx [])) x=some (.ins C dx []):=upd_same;generalize upd (upd H8 dx (.own x)) x (.ins C dx [])=H9 at k9 hx9;refine ⟨x,dx,a1,a2,ns,qs,r,rfl,hx9,(k8.trans k9) a1 _ h17 (by simp),⟨k9 a2 _ h28 (by simp),fun q hq=>k9 _ _ (hm8.row q hq) (by simp),hm8.two⟩,G,fun J H10 A10 N10 ens ezs K10=>⟨rfl,?_⟩⟩;have k10:Kp [] H H10:=(k7.trans k8).trans (Kp.drop k9 hx K10);refine ⟨x,J,rfl,A10,by rw [ens];exact G.nm,fun H11 k11=>?_⟩;have GJ:Good J.ns J.zs r:=by rw [ens];exact G.keys ezs A10.zfew
   refine ⟨J.ns,J.zs,r,rfl,GJ,A10.prs.two,fun y J' H12 A12 en hz k12=>?_⟩;exact k y J' H12 A12 (by rw [en,ens]) (fun q=>by rw [hz q,ezs q]) (k10.trans (k11.trans k12))
  refine ⟨_,rfl,rfl,_,rfl,ite2 (fun c=>?_) (fun c=>?_)⟩
  ·refine ⟨_,rfl,_,_,rfl,.inl (SqL.of hl),fun a1 ha1=>?_⟩;have fa1:Fre H a1:=ha1;have k7:Kp [] H (upd H a1 (.lst (ns.map V.str))):=Kp.new Kp.refl fa1;have h17:upd H a1 (.lst (ns.map V.str)) a1=some (.lst (ns.map V.str)):=upd_same;generalize upd H a1 (.lst (ns.map V.str))=H7 at k7 h17;have hm7:=hm.kp k7 (by simp) (by simp)
   refine ⟨_,rfl,_,rfl,⟨_,SqL.of hm7.top⟩,fun B hB=>zA5 (qs.map fun q=>V.ref q.2) (fun i ys τ H3=>∃ks:List (List Str×Addr),(∃o0 o1,τ=[o0,o1])/\ys=(ks.map fun q=>V.ref q.2)/\ks.map (·.1)=(qs.take i).map (fun q=>q.1.reverse)/\(∀q∈ks,H3 q.2=some (.tup (q.1.map V.str)))/\Kp [] H7 H3/\H3 B=some (.lst ys))
    ⟨[],⟨_,_,rfl⟩,rfl,rfl,(fun q h=>nomatch h),Kp.new Kp.refl hB,upd_same⟩ (fun i ys τ H3 ⟨_,_,_,_,_,k3,_⟩=>SqL.of (k3 _ _ hm7.top (by simp))) ?_ ?_⟩
   ·rintro i v ys τ H3 hv ⟨ks,⟨o0,o1,rfl⟩,rfl,ek,hk,k3,h3⟩;obtain ⟨q,eq,rfl⟩:=zGw hv;have mq:=qAL eq;obtain ⟨a,b,eab⟩:=hm.two q mq
    have hrow:H3 q.2=some (.tup [.str a,.str b]):=by
     have:=k3 q.2 _ (hm7.row q mq) (by simp);rw [eab] at this;exact this
    refine ⟨_,_,rfl,.inl (.inl hrow),rfl,_,_,rfl,_,_,rfl,rfl,?_⟩;have hlen:ks.length=(qs.take i).length:=by have:=qAa List.length ek;simpa using this
    refine ⟨_,rfl,_,rfl,(by walk_at "ln"),fun t ht=>?_⟩;have ft:Fre H3 t:=ht;have nBt:B≠t:=ne_fre ft h3;refine ⟨(upd_ne nBt).trans h3,?_,ks++[([b,a],t)],⟨_,_,rfl⟩,?_,?_,fun q' hq'=>?_,?_,?_⟩
    ·rw [qAD,hlen,qAX,qAO];have:=G.qfew;lia
    ·rw [qAM];rfl
    ·rw [qAM,ek,zAi eq,qAM,qAi,qAi,eab];rfl
    ·rcases qAN.mp hq' with z| z
     ·exact (upd_ne (zBw (hk q' z) h3 (fun y=>nomatch y))).trans ((upd_ne (ne_fre ft (hk q' z))).trans (hk q' z))
     ·rw [qAQ.mp z];exact (upd_ne nBt.symm).trans upd_same
    ·exact Kp.new (Kp.new k3 (k3.fre ft (by simp))) hB
    ·exact upd_same
   ·rintro ys τ H3 ⟨ks,_,rfl,ek,hk,k3,h3⟩;have eT:qs.take (qs.map fun q=>V.ref q.2).length=qs:=by rw [qAD,qAf]
    rw [eT] at ek
    have ktwo:∀q∈ks,∃a b,q.1=[a,b]:=fun q hq=>by
     have:q.1∈ks.map (·.1):=qAJ.mpr ⟨q,hq,rfl⟩;rw [ek] at this;obtain ⟨q',hq',e⟩:=qAJ.mp this;obtain ⟨a,b,eab⟩:=hm.two q' hq';exact ⟨b,a,by rw [<-e,eab];rfl⟩
    refine fun x dx hx hdx nxd=>?_;have k4:Kp [] H3 (upd (upd H3 dx (.own x)) x (.ins C dx [])):=Kp.new (Kp.new Kp.refl hdx) hx;have hx4:(upd (upd H3 dx (.own x)) x (.ins C dx [])) x=some (.ins C dx []):=upd_same;generalize upd (upd H3 dx (.own x)) x (.ins C dx [])=H4 at k4 hx4;have GR:=G.rev hm.two ek;refine ⟨x,dx,a1,B,ns,ks,_,rfl,hx4,(k3.trans k4) _ _ h17 (by simp),⟨k4 B _ h3 (by simp),fun q hq=>k4 _ _ (hk q hq) (by simp),ktwo⟩,GR,fun J H5 A5 N5 ens ezs K5=>⟨rfl,?_⟩⟩;have k5:Kp [] H H5:=(k7.trans k3).trans (Kp.drop k4 hx K5);have GJ:=GR.keys ezs A5.zfew;rw [<-ens] at GJ;refine ⟨x,J.dx,_,rfl,A5.ob,jf_no _ _ _ (by decide +kernel) (by decide +kernel) (by decide +kernel),x,J,_,rfl,A5,GJ,fun y J' H6 fy A6 N6 en hz k6=>?_⟩;refine k y J' H6 A6 (by rw [en,ens]) (fun q=>?_) (k5.trans k6);rw [hz q];constructor
    ·intro h;obtain ⟨p,hp,rfl⟩:=qAJ.mp h;have h2:=(ezs p.1).mp (qAJ.mpr ⟨p,hp,rfl⟩);rw [ek] at h2;obtain ⟨p',hp',e⟩:=qAJ.mp h2;rw [<-e,List.reverse_reverse];exact qAJ.mpr ⟨p',hp',rfl⟩
    ·intro h;obtain ⟨p,hp,rfl⟩:=qAJ.mp h;have h2:p.1.reverse∈ks.map (·.1):=by rw [ek];exact qAJ.mpr ⟨p,hp,rfl⟩
     obtain ⟨p',hp',e⟩:=qAJ.mp ((ezs _).mpr h2);exact qAJ.mpr ⟨p',hp',by rw [e,List.reverse_reverse]⟩
  ·refine ⟨_,rfl,_,_,rfl,.inl (SqL.of hl),fun a1 ha1=>?_⟩;have fa1:Fre H a1:=ha1;have k7:Kp [] H (upd H a1 (.lst (ns.map V.str))):=Kp.new Kp.refl fa1;have h17:upd H a1 (.lst (ns.map V.str)) a1=some (.lst (ns.map V.str)):=upd_same;generalize upd H a1 (.lst (ns.map V.str))=H7 at k7 h17;have hm7:=hm.kp k7 (by simp) (by simp);refine ⟨_,rfl,_,_,rfl,.inl (SqL.of hm7.top),fun a2 ha2=>?_⟩;have k8:Kp [] H7 (upd H7 a2 (.lst (qs.map fun q=>V.ref q.2))):=Kp.new Kp.refl ha2;have h28:upd H7 a2 (.lst (qs.map fun q=>V.ref q.2)) a2=some (.lst (qs.map fun q=>V.ref q.2)):=upd_same;generalize upd H7 a2 (.lst (qs.map fun q=>V.ref q.2))=H8 at k8 h28;have hm8:=hm7.kp k8 (by simp) (by simp);refine fun x dx hx hdx nxd=>?_;have k9:Kp [] H8 (upd (upd H8 dx (.own x)) x (.ins C dx [])):=Kp.new (Kp.new Kp.refl hdx) hx;have hx9:(upd (upd H8 dx (.own x)) x (.ins C dx [])) x=some (.ins C dx []):=upd_same;generalize upd (upd H8 dx (.own x)) x (.ins C dx [])=H9 at k9 hx9;refine ⟨x,dx,a1,a2,ns,qs,r,rfl,hx9,(k8.trans k9) a1 _ h17 (by simp),⟨k9 a2 _ h28 (by simp),fun q hq=>k9 _ _ (hm8.row q hq) (by simp),hm8.two⟩,G,fun J H10 A10 N10 ens ezs K10=>⟨rfl,?_⟩⟩;exact k x J H10 A10 ens ezs ((k7.trans k8).trans (Kp.drop k9 hx K10))
end
end My
namespace RV
open PySem
section
variable {P:Program} {w:World} {A:Around} {E:Value->Shared->Prop} {s:Shared}
theorem e_loop:entryFor table "dict.update.loop" = some Builtin.«dict.update.loop»:=entryFor_of_tree (by kernel_rfl)
theorem p_loop:plainId "dict.update.loop" = true:=by decide +kernel
end
end RV
namespace L2
open PySem PySem.Spec PyProof.Rows
section
variable {X:Cx}
theorem rel_key {P:Program} {w:World} {k:Key} {u:Value} (h:(zBd P w).is k u=true):RelV (kV k) u:=by
 rcases zA8 (show keyIs k u=true from h) with ⟨i,t,rfl,rfl⟩| ⟨x,t,rfl,rfl⟩
 ·exact ⟨t,rfl⟩
 ·exact ⟨t,rfl⟩
theorem kv_at:∀{kvs:List (Key×V)} {vs:List (Key×Value)} {j:Nat} {k:Key} {v:V},KV kvs vs->kvs[j]?=some (k,v)->∃u,vs[j]?=some (k,u)/\RelV v u
 | _,_,j,_,_,.nil,h=>by simp at h
 | _,_,0,k,v,.cons (a:=a) (b:=b) r _,h=>by
  have e:a=(k,v):=by simpa using h
  subst e;exact ⟨b.2,by simp;exact Prod.ext r.1.symm rfl,r.2⟩
 | _,_,j+1,k,v,.cons r rr,h=>by
  obtain ⟨u,h1,h2⟩:=kv_at rr (show _=some (k,v) by simpa using h);exact ⟨u,by simpa using h1,h2⟩
end
section
variable {X:Cx} {pins:List (Addr×Obj)} {σ:St} {H:Hp} {s:Shared} {a:Addr} {u o':HO}
theorem Inv.retell (I:Inv X pins σ H s) (e:H a=some u) (nt:∀xs,u≠.tup xs) (no:∀x,u≠.own x) (nb:∀ps,u≠.tbl ps) (nf:∀o v,X.H₀ a≠some (.frz o v)) (new:zBb X.prog X.w (upd H a o') s.heap a o'):Inv X pins σ (upd H a o') s:=by
 have ne:∀b,H b=none->b≠a:=fun b h z=>by rw [z,e] at h;cases h
 refine ⟨I.ok,I.os,I.bare,⟨I.base.keep,I.base.slot,fun b o q n x=>?_,I.base.there,fun b xs q=>?_,fun b o v q=>?_,fun b ps q=>?_⟩,I.loc,I.cell,?_,fun x c h=>?_,fun p hp=>?_,fun b o q=>?_,I.len⟩
 ·have:=I.base.free b o q n x;rw [upd_ne (ne b this)];exact this
 ·have:=I.base.tups b xs q;rw [upd_ne (fun z=>by rw [z,e] at this;exact nt xs (qAd this))];exact this
 ·have:=I.base.frzs b o v q;rw [upd_ne (fun z=>nf o v (by rw [<-z];exact q))];exact this
 ·obtain ⟨more,this⟩:=I.base.tbls b ps q;exact ⟨more,by rw [upd_ne (fun z=>by rw [z,e] at this;exact nb _ (qAd this))];exact this⟩
 ·rw [upd_ne (ne _ I.free)];exact I.free
 ·rw [upd_ne (ne _ (I.freeC x c h))];exact I.freeC x c h
 ·obtain ⟨h1,h2,h3⟩:=I.pin p hp;exact ⟨h1,by rw [upd_ne (ne _ h2)];exact h2,h3⟩
 ·by_cases z:b=a
  ·subst z;rw [upd_same] at q;cases q;exact new
  ·rw [upd_ne z] at q;refine (I.hok b o q).stay (fun c v _ y=>y) (fun c y=>?_) fun c xs y=>?_
   ·rw [upd_ne (fun z=>by rw [z,e] at y;exact no _ (qAd y))];exact y
   ·rw [upd_ne (fun z=>by rw [z,e] at y;exact nt _ (qAd y))];exact y
end
def thawE (D:Ends) (a:Addr) (o:Obj) (kvs:List (Key×V)):Ends where
 nx:=fun σ H=>H a=some (.frz o (.dK kvs))/\D.nx σ (upd H a (.dK kvs))
 rt:=fun v H=>H a=some (.frz o (.dK kvs))/\D.rt v (upd H a (.dK kvs))
 bk:=fun σ H=>H a=some (.frz o (.dK kvs))/\D.bk σ (upd H a (.dK kvs))
 ct:=fun σ H=>H a=some (.frz o (.dK kvs))/\D.ct σ (upd H a (.dK kvs))
section
variable {X:Cx}
theorem Inv.thaw {pins:List (Addr×Obj)} {σ:St} {H:Hp} {s:Shared} {a:Addr} {o:Obj} {kvs:List (Key×V)} (I:Inv X pins σ H s) (e:H a=some (.frz o (.dK kvs))) (nf:∀o v,X.H₀ a≠some (.frz o v)):Inv X pins σ (upd H a (.dK kvs)) s:=by
 obtain ⟨_,z⟩:zBb X.prog X.w H s.heap a (.frz o (.dK kvs)):=I.hok a _ e;exact I.retell e (fun _ h=>nomatch h) (fun _ h=>nomatch h) (fun _ h=>nomatch h) nf z
theorem ps_frz {st:Stmt} {t:TS} (h:PS X st t):PS X st (fun D σ H=>∃a kvs,H a=some (.dK kvs)/\∀o,t (thawE D a o kvs) σ (upd H a (.frz o (.dK kvs)))):=by
 intro pins s σ H D I ⟨a,kvs,e,q⟩;have ok:zBb X.prog X.w H s.heap a (.dK kvs):=I.hok a _ e;obtain ⟨_,_,_,_,o,_,_,ho,_⟩:=id ok
 have nf:∀o v,X.H₀ a≠some (.frz o v):=fun o v z=>by
  have:=I.base.frzs a o v z;rw [e] at this;cases this
 have I1:Inv X pins σ (upd H a (.frz o (.dK kvs))) s:=I.retell e (fun _ h=>nomatch h) (fun _ h=>nomatch h) (fun _ h=>nomatch h) nf ⟨ho,ok⟩;refine thn (h pins s σ _ _ I1 (q o)) fun f s' r=>?_
 cases f with
 | next=>obtain ⟨σ',H',I',e',d'⟩:=r;exact ⟨σ',_,I'.thaw e' nf,d'⟩
 | brk=>obtain ⟨σ',H',I',e',d'⟩:=r;exact ⟨σ',_,I'.thaw e' nf,d'⟩
 | cont=>obtain ⟨σ',H',I',e',d'⟩:=r;exact ⟨σ',_,I'.thaw e' nf,d'⟩
 | ret u=>obtain ⟨v,σ',H',I',rv,e',d'⟩:=r;exact ⟨v,σ',_,I'.thaw e' nf,rv,d'⟩
end
end L2
namespace RV
open PySem
theorem e_itemIter:entryFor table "dict_itemiterator.__iter__" = some Builtin.«dict_keyiterator.__iter__» :=
 entryFor_alias (id':= "dict_keyiterator.__iter__") (by kernel_rfl) (by decide +kernel) (by decide +kernel) (by kernel_rfl)
end RV
namespace L2
open PySem PySem.Spec PyProof.Rows
def Itm (a:Addr) (o:Obj) (kvs:List (Key×V)):It :=
 ⟨fun i H=>H a=some (.frz o (.dK kvs))/\i<kvs.length,fun i H v H'=>∃t k x,v= .ref t/\H t=none/\kvs[i]?=some (k,x)/\H'=upd H t (.tup [kV k,x]),fun i H=>H a=some (.frz o (.dK kvs))/\kvs.length<=i⟩
theorem frz_at {X:Cx} {pins:List (Addr×Obj)} {σ:St} {H:Hp} {s:Shared} {a:Addr} {o:Obj} {kvs:List (Key×V)} (I:Inv X pins σ H s) (e:H a=some (.frz o (.dK kvs))) :
  ∃vs es ep,KV kvs vs/\o.data= .dict es ep/\es.size=kvs.length/\s.heap.DictAt (zBd X.prog X.w) a vs ep/\(a==sysModules)=false/\kvs.length<=sizeLine/\s.heap.get? a=some o/\o.ExactDict:=by
 obtain ⟨ho,z,hd,vs,rel,o1,es,ep,y1,y2,y3,y4,y5,y6⟩:zBb X.prog X.w H s.heap a (.frz o (.dK kvs)):=I.hok a _ e;rw [ho] at y1
 cases y1
 have l1:=y5.length;have l2:=rel.length;exact ⟨vs,es,ep,rel,y3,by simp only [qBb] at l1;lia,⟨o,es,ho,y2,y3,y4,y5,y6⟩,hd,z,ho,y2⟩
theorem turn_items {P:Program} {w:World} {K:PySem.W.Frag} {elts:List Expr} {kk:Nat} {tp:Pos} (a it:Addr) (o:Obj) (es:Array DictEntry) (ep:Nat) (kvs:List (Key×V)) (hd:o.data= .dict es ep) (sz:es.size=kvs.length):Turn P w K (.Tuple elts kk tp) (Itm a o kvs) [it] it (fun i h=>∃ok ov,IsItemIter h it a i kvs.length ep ok ov) where
 mem:=by simp
 obj:=fun i h ⟨ok,ov,st⟩ b hb=>by
  have:b=it:=by simpa using hb
  subst this;exact ⟨_,st,fun v y=>by cases y⟩
 keep:=fun i h h' ⟨ok,ov,st⟩ k=>⟨ok,ov,k it (by simp) _ st⟩
 item:=by
  intro X hP hw hK hc i pins s σ H E I hf st hg;subst hP hw hK;obtain ⟨e,hi⟩:=hg;obtain ⟨ok,ov,st⟩:=st;obtain ⟨vs,es',ep',rel,hd',_,da,_,_,ho,_⟩:=frz_at I e;have ee:ep'=ep:=by rw [hd] at hd';cases hd';rfl
  subst ee;have len:=rel.length;have ek:kvs[i]?=some (kvs[i].1,kvs[i].2):=qAp hi;obtain ⟨v,ev,rv⟩:=kv_at rel ek;rw [len] at st;refine wpAny_pyNext_items_item st da ev fun key h1 hk eo t1 z1 o1=>?_;refine ⟨_,rfl,wpAny_letOwnedTupleGo_items eo fun h2 e2 b2=>?_⟩;have b2:Heap.SameBut it h1 h2:=b2;have ilt:it<s.heap.objs.size:=qAK st;have t2:h2.get? s.heap.objs.size=some {cls:=.type "tuple",data:=.seq #[key,v]}:=b2.extBut _ _ (qA8 ilt) t1;have on:∀b u,b∉[it]->s.heap.get? b=some u->h2.get? b=some u:=fun b u nb y=>b2.extBut b u (fun z=>nb (by simp [z])) (o1 b u (fun z=>nb (by simp [z])) y);have hn:∀b∈[it],H b=none:=fun b hb=>(hf b hb).1;have new:zBb X.prog X.w (upd H s.heap.objs.size (.tup [kV kvs[i].1,kvs[i].2])) h2 s.heap.objs.size (.tup [kV kvs[i].1,kvs[i].2]):=⟨by show (2:Nat)<=sizeLine;decide,[key,v],.cons (rel_key hk) (.cons rv .nil),⟨_,t2,rfl,_,rfl⟩⟩
  have I2:Inv X pins σ (upd H s.heap.objs.size (.tup [kV kvs[i].1,kvs[i].2])) {s with heap:=h2}:=I.call' (ch:=[it]) rfl (un_laid on (qAF _) (I.hok.fresh (qAF _))) (hok_laid I.hok on hn (qAF _) new) I.bare fun b hb=>by
   obtain ⟨_,f1,_,f3,f4,f5⟩:=hf b hb;exact ⟨f3,f1,f4,f5⟩
  rw [<-len] at e2;refine ⟨.ref s.heap.objs.size,_,I2,rfl,⟨_,_,_,rfl,I.hok.fresh (qAF _),ek,rfl⟩,⟨_,_,e2⟩,fun b hb=>?_⟩;have hb':=hn b hb;have:b=it:=by simpa using hb
  rw [upd_ne (by rw [this];exact qAT ilt)];exact hb'
 done:=by
  intro X hP hw hK hc i pins s σ H E I hf st hg;subst hP hw hK;obtain ⟨e,hi⟩:=hg;obtain ⟨ok,ov,st⟩:=st;obtain ⟨vs,es',ep',rel,hd',_,da,_,_,ho,_⟩:=frz_at I e;have ee:ep'=ep:=by rw [hd] at hd';cases hd';rfl
  subst ee;have len:=rel.length;rw [len] at st;obtain ⟨f0,f1,f2,f3,f4,f5⟩:=hf it (by simp);exact wpAny_pyNext_items_end (I.ok.hd hc) st da (by simp;lia) fun h' eb=>⟨rfl,I.turned (t':=s.toks) (fun b o hb y=>eb b o hb y) f0 f1 f3 f4 f5⟩
 self:=fun A i s Q E ⟨ok,ov,st⟩ h=>by
  have ty:s.TypeIs (.ref it) "dict_itemiterator" := ⟨_,st,rfl⟩;refine wpAny_pyIter_slot ty PySem.F.slot_dict_itemiterator_iter (qBY PySem.F.slot_dict_itemiterator_iter ty RV.e_itemIter ?_ (PySem.F.args_dict_itemiterator_iter_1 _));exact qAA (qAE (qAE ⟨_,rfl, "dict_itemiterator",_,ty,PySem.F.slot_dict_itemiterator_next.lookup,h⟩))
section
variable {X:Cx} {elts:List Expr} {kk:Nat} {tp:Pos}
theorem pi_items {o:Expr} {to:TE} {apos cpos:Pos} (ho:PE X o to) (hbase:attributeBase o "items" X.env (eval o X.env)=eval o X.env:=by rfl) (hline:(apos.endLine==cpos.line)=true:=by rfl) :
  PI X (.Tuple elts kk tp) (.Call (.Attribute o "items" apos) [] [] cpos) (fun σ H R=>to σ H fun x H1=>∃a ob kvs,x= .ref a/\H1 a=some (.frz ob (.dK kvs))/\R (Itm a ob kvs) H1):=by
 intro pins s σ H R I h;refine wpAny_Call_method0_late hbase hline (thn (ho pins s σ H _ I h) fun v s1 ⟨x,H1,I1,r1,a,ob,kvs,ex,e,q⟩=>?_);subst ex
 cases r1
 obtain ⟨vs,es,ep,rel,hd,sz,da,nsys,z,hget,exd⟩:=frz_at I1 e;have ty:s1.TypeIs (.ref a) "dict" := ⟨_,hget,exd.1⟩;have len:=rel.length;refine ⟨"dict", "dict.items",PySem.F.plainAttrs_dict,qDQ,PySem.F.type_dict_items,ty,(fun b y=>by cases y;exact ⟨ob,hget,exd.2.1⟩),qDE rfl (PySem.evalArgs_none ?_)⟩;obtain ⟨o2,es2,y1,y2,y3,y4,y5,y6⟩:=id da;refine qCU (qC1 qDQ.plain PySem.F.entry_dict_items (qDQ.check _ _ _ _ _ _ _ _ ty (PySem.F.args_dict_items_1 _) (meets_dict_items (zBd X.prog X.w) a nsys X.A (wants (fun v s1=>wpAny (model X.prog X.w) X.A (pyIter v) (PIE X pins σ (.Tuple elts kk tp) R) X.xe s1) X.xe) s1 ⟨⟨vs,o2,es2,ep,y1,y2,y3,y4,y5,y6⟩,?_⟩)));show wpAny _ _ (pyIter _) _ _ _;have hv:(s1.heap.push {cls:=.type "dict_items",data:=.fields #[.ref a]}).IsItemsView s1.heap.objs.size a:=⟨_,qAb _ rfl,rfl,rfl⟩;have da':(s1.heap.push {cls:=.type "dict_items",data:=.fields #[.ref a]}).DictAt (zBd X.prog X.w) a vs ep:=⟨o2,es2,qAI _ y1,y2,y3,y4,y5,y6⟩;refine wpAny_pyIter_items (s:={s1 with heap:=s1.heap.push {cls:=.type "dict_items",data:=.fields #[.ref a]}}) hv da' ?_;have k1:∀b u,s1.heap.get? b=some u->((s1.heap.push {cls:=.type "dict_items",data:=.fields #[.ref a]}).push {cls:=.type "dict_itemiterator",data:=.fields #[.none,.bool false,.ref a,.int 0 0,.int vs.length 0,.int ep 0,.none,.none]}).get? b=some u:=fun b u y=>qAI _ (qAI _ y);refine ⟨_,[(s1.heap.push {cls:=.type "dict_items",data:=.fields #[.ref a]}).objs.size],_,_,H1,rfl,I1.kept (t':=s1.toks) k1,turn_items a _ ob es ep kvs hd sz,⟨_,_,by rw [len];exact qAb _ rfl⟩,fun b hb=>?_,q⟩;have:b=(s1.heap.push {cls:=.type "dict_items",data:=.fields #[.ref a]}).objs.size:=by simpa using hb
 subst this;have ge:s1.heap.objs.size<=(s1.heap.push {cls:=.type "dict_items",data:=.fields #[.ref a]}).objs.size:=by rw [qBB];exact qBL _
 exact I1.fpOk ge (I1.hok.fresh ge)
end
end L2
namespace ST
open PySem PyProof.Rows PySem.W
end ST
namespace L2
open PySem PySem.Spec PyProof.Rows
end L2
namespace RV
open PySem
theorem l_noga:typeLookup (.type "list") "__getattr__" = pure none:=by rw [qBz,qB0];kernel_rfl
theorem l_nokeys:typeLookup (.type "list") "keys" = pure none:=by rw [qBz,qB0];kernel_rfl
abbrev IsLst (h:Heap) (l:Addr) (ys:Array Value) (n:Nat):Prop:=h.get? l=some {cls:=.type "list",dict:=none,data:=.seq ys n,slots:=#[]}
theorem lmiss_m (l:Addr) (ys:Array Value) (n:Nat) (u:Tok) :
  Meets (Builtin.«object.__getattribute__» ⟨[.ref l,.str "keys" u],[]⟩) (fun A R s=>IsLst s.heap l ys n/\raisesAttr (.ref l) "keys" A R s) :=
 Meets.of_wp fun P w A R s hs=>by
  obtain ⟨h0,g,d,tk,os⟩:=s;obtain ⟨hx,hs⟩:=hs;have hx:h0.get? l=some {cls:=.type "list",dict:=none,data:=.seq ys n,slots:=#[]}:=hx;have ty:Shared.TypeIs ⟨h0,g,d,tk,os⟩ (.ref l) "list" := ⟨_,hx,rfl⟩;have nk:=l_nokeys;unfold Builtin.«object.__getattribute__»
  repeat (any_goals (first| assumption| wp_step))
  exact wpAny_raiseAttrError hs.1 hs.2 (attrMsg_fits (by decide +kernel) (by decide +kernel))
section
variable {P:Program} {w:World} {A:Around} {E:Value->Shared->Prop} {s:Shared}
theorem lmiss_keys {l:Addr} {ys:Array Value} {n:Nat} {Q:Option Value->Shared->Prop} (hh:A.handled=none) (hr:IsLst s.heap l ys n) (q:∀k tk,(∀b o,s.heap.get? b=some o->k.get? b=some o)->Q none {s with heap:=k,toks:=tk}) :
  wpAny (model P w) A (getAttr? (.ref l) "keys") Q E s:=by
 obtain ⟨h0,g,d,tk,os⟩:=s;have hr:h0.get? l=some {cls:=.type "list",dict:=none,data:=.seq ys n,slots:=#[]}:=hr;have ty:∀t,Shared.TypeIs ⟨h0,g,d,t,os⟩ (.ref l) "list" := fun _=>⟨_,hr,rfl⟩;have f1:=sub_AttributeError;have f3:=qDR.lookup;have f4:=qDR.bind (.ref l);have f5:=l_noga;unfold getAttr? getAttrBy? getAttrBy
 repeat (any_goals (first| assumption| exact ty _| ((with_reducible show wpAny _ _ (call (Value.builtin "list.__getattribute__") _ _) _ _ _);refine qA6 qDR (ty _) am_entry_list_getattribute (F.args_list_getattribute_2 _ _) (lmiss_m l ys n _) ⟨hr,hh,fun h' tk' e hx'=>?_⟩)| wp_step))
 obtain ⟨t',u',he⟩:=hx'.there;show wpAny _ _ (getattributeRaised _ _ _ _ _ _ _) _ _ _;unfold getattributeRaised
 repeat (any_goals (first| assumption| wp_step))
 exact q _ _ hx'.keeps
end
end RV
namespace L2
open PySem PySem.Spec PyProof.Rows
theorem eq_str_dict {A:Around} {s:Shared} {l:Addr} {oa:Obj} {es:Array DictEntry} {ep:Nat} (b:Str) (u:Tok) (hl:s.heap.get? l=some oa) (ca:oa.cls= .type "dict") (da:oa.data= .dict es ep) (hu:A.units<cLine):SeqAt.EqAt A s (.str b u) (.ref l) false:=fun prog w E Q h=>by
 have rc:SeqAt.RcAt A s (.str b u) (.ref l) false:=fun prog w E Q h=>SeqAt.rc_eq_decline_or (k:=false) (qBg s b u) ⟨_,hl,ca⟩ (by decide) F.sub_dict_str F.slot_str_eq F.slot_dict_eq_refl
  (fun _ hq=>qA6 F.slot_str_eq (qBg s b u) F.entry_str_eq (F.args_str_eq_2 _ _) (str_eq_dict b u l oa es ep da) ⟨hl,hq⟩)
  (fun _ hq=>qA6 F.slot_dict_eq_refl ⟨_,hl,ca⟩ F.entry_dict_eq (F.args_dict_eq_2 _ _) (dict_eq_str l oa ca b u) ⟨hl,hq⟩)
  (fun _ hq=>qAy (show isSame (.str b u) (.ref l)=pure false from rfl) hq) (.inr hu) h
 unfold eqBool;exact qA0 (qB4 (fun z=>absurd (eq_of_beq z) nofun) fun _=>qAA (rc prog w E _ (qA5 h)))
def zCh (v:V) (ns:List Str):Bool:=match v with
 | .str x=>decide (x∈ns)
 | _=>false
section
variable {X:Cx}
theorem flatSs (ns:List Str):(ns.map V.str).all zDs=true:=by rw [qCn,qBj];exact fun _ _=>rfl
theorem inV_one (v:V) (h:zDs v=true) (ns:List Str):inV v (ns.map V.str)=zCh v ns:=by
 unfold inV;rw [List.any_map]
 have e:∀y:Str,((fun y=>eqV y v)∘V.str) y=decide (v= .str y):=fun y=>by
  show eqV (.str y) v=_
  cases v with
  | str x =>
   rw [show eqV (.str y) (.str x)=decide (y=x) from rfl,qBc,qBH,qBH];exact ⟨fun z=>by rw [z],fun z=>(V.str.inj z).symm⟩
  | _=>first| rfl| simp [eqV]| exact absurd h (by simp [zDs])
 rw [show ((fun y=>eqV y v)∘V.str)=(fun y=>decide (v= .str y)) from funext e]
 cases v with
 | str x =>
  show _=decide (x∈ns);rw [qBc,qCv,qBH];constructor
  ·rintro ⟨y,hy,q⟩;rw [V.str.inj (qAo q)];exact hy
  ·exact fun q=>⟨x,q,qAR rfl⟩
 | _ =>
  refine Bool.eq_false_iff.mpr fun q=>?_;obtain ⟨y,_,z⟩:=qCv.mp q
  cases qAo z
theorem ref_eq {pins:List (Addr×Obj)} {σ:St} {H:Hp} {s:Shared} (I:Inv X pins σ H s) {a:Addr} (t:(∃xs,H a=some (.lst xs))\/(∃xs,H a=some (.tup xs))\/∃kvs,H a=some (.dK kvs)) (z:Str) (tk:Tok) {A:Around} (hu:A.units<cLine):SeqAt.EqAt A s (.str z tk) (.ref a) false:=by
 rcases t with ⟨xs,t⟩| ⟨xs,t⟩| ⟨kvs,t⟩
 ·obtain ⟨its,r,pl,hz⟩:=I.list (SqL.of t);exact SeqAt.EqAt.str_list z tk pl.isList hu
 ·obtain ⟨its,r,pl,hz⟩:=I.tuple (SqT.of t);exact SeqAt.EqAt.str_tuple z tk (show s.heap.IsTuple a its.toArray from pl) hu
 ·obtain ⟨z1,n1,vs,r1,o1,es,ep,g1,c1,d1,k1,p1,nd1⟩:=dk_rd I.hok (show Rd H a (.dK kvs) from .inl t);exact eq_str_dict z tk g1 c1.1 d1 hu
def rInT (K:PySem.W.Frag) (neg:Bool):R2:=fun x y H Q=>∃p ns,y= .ref p/\SqL K H p (ns.map V.str)/\ThingOk H x/\Q (.bl (if neg then !zCh x ns else zCh x ns)) H
theorem ThingOk.two {H:Hp} {v:V} (t:ThingOk H v):zDs v=true\/∃a,v= .ref a/\((∃xs,H a=some (.lst xs))\/(∃xs,H a=some (.tup xs))\/∃kvs,H a=some (.dK kvs)):=by
 rcases t with ⟨x,rfl⟩| rfl| ⟨b,rfl⟩| ⟨i,rfl⟩| ⟨a,rfl,t⟩
 ·exact .inl rfl
 ·exact .inl rfl
 ·exact .inl rfl
 ·exact .inl rfl
 ·exact .inr ⟨a,rfl,t⟩
theorem zIe {u:Value}:∀{ns:List Str} {its:List Value},Vals (ns.map V.str) its->u∈its->∃z tk,u= .str z tk
 | [],_,.nil,h=>nomatch h
 | n::ns,_,.cons r t,h=>by
  rcases qAS.mp h with rfl| h
  ·obtain ⟨tk,rfl⟩:=r;exact ⟨n,tk,rfl⟩
  ·exact zIe t h
theorem op_inT (hu:X.A.units+1<cLine):OpR X (compareOp .In) (rInT X.K false):=by
 intro pins s σ H x y v u Q I rx ry h;obtain ⟨p,ns,rfl,hq,t,q⟩:=h;rcases t.two with f| ⟨a,rfl,t2⟩
 ·exact zCr pins s σ H x _ v u Q I rx ry ⟨p,_,rfl,.inl hq,f,flatSs ns,by rw [inV_one x f];exact q⟩
 ·cases rx
  cases ry
  obtain ⟨its,r,pl,hz⟩:=I.list hq;refine SeqAt.in_listAt (fun _=>false) pl.isList (fun w hw=>?_) ⟨.bl false,H,I,?_,q⟩
  ·obtain ⟨z,tk,rfl⟩:=zIe r (by simpa using hw);exact ref_eq I t2 z tk (by show X.A.units+1<cLine;exact hu)
  ·rw [show its.toArray.any (fun _=>false)=false by simp];rfl
theorem op_notInT (hu:X.A.units+1<cLine):OpR X (compareOp .NotIn) (rInT X.K true):=by
 intro pins s σ H x y v u Q I rx ry h;obtain ⟨p,ns,rfl,hq,t,q⟩:=h;rcases t.two with f| ⟨a,rfl,t2⟩
 ·exact zC1 pins s σ H x _ v u Q I rx ry ⟨p,_,rfl,.inl hq,f,flatSs ns,by rw [inV_one x f];exact q⟩
 ·cases rx
  cases ry
  obtain ⟨its,r,pl,hz⟩:=I.list hq;refine SeqAt.notIn_listAt (fun _=>false) pl.isList (fun w hw=>?_) ⟨.bl true,H,I,?_,q⟩
  ·obtain ⟨z,tk,rfl⟩:=zIe r (by simpa using hw);exact ref_eq I t2 z tk (by show X.A.units+1<cLine;exact hu)
  ·rw [show its.toArray.any (fun _=>false)=false by simp];rfl
end
theorem comp_items0 {a:Addr} {o:Obj} {ix:List (Option Nat)} {g:TG} {tt:TT} {te:TE} {QD:Hp->Prop} {σ:St} {H1:Hp} {D:Addr} (hl:(upd H1 D (.lst [])) a=some (.frz o (.dK []))) (hd:QD (upd H1 D (.lst []))) :
  ∃W:Nat->Nat->List V->St->Hp->Prop,(∃m,W 0 m [] (zB8 σ ix) (upd H1 D (.lst [])))/\∀i m ys τ H2,W i m ys τ H2 ->
   ((Itm a o []).stop i H2/\QD H2)\/((Itm a o []).go i H2/\∃N:List V->St->Hp->Prop,(∀ys' τ' H',N ys' τ' H'->∃m',m'<m/\W (i+1) m' ys' τ' H')/\∀x H3,(Itm a o []).yld i H2 x H3->g x τ H3 fun τ' H4=>tt τ' H4 fun b H5 =>
    if b=true then te τ' H5 fun v H6=>H6 D=some (.lst ys)/\ys.length<sizeLine/\N (ys++[v]) τ' (upd H6 D (.lst (ys++[v])))
    else N ys τ' H5) :=
 ⟨fun i m ys τ H=>H=upd H1 D (.lst []),⟨0,rfl⟩,fun i m ys τ H h=>by subst h;exact .inl ⟨⟨hl,qAg _⟩,hd⟩⟩
end L2
namespace RV2
open PySem
variable {n:Nat}{r:Addr}{t u v:Tok}
theorem s_rr:Slot "range" "__reversed__" "range.__reversed__" := F.slot_range_reversed
theorem sub_ri:isSubtype (.type "range_iterator") (.type "reversed")=pure false:=by rw [qC2];kernel_rfl
theorem fits (h:n<=1000):(Builtin.Range.rangeFitsLong 0&&Builtin.Range.rangeFitsLong n&&Builtin.Range.rangeFitsLong 1&&Builtin.Range.rangeFitsLong (-1)&&Builtin.Range.rangeFitsLong (0 - 1)&&Builtin.Range.rangeFitsLong n)=true:=by
 have e:Builtin.Range.rangeFitsLong (n:Int)=true:=by
  unfold Builtin.Range.rangeFitsLong;rw [qBh,qBH,qBH];constructor<;>lia
 rw [e];decide
theorem size1 (n:Nat):Builtin.Range.rangeSize 0 n 1=n:=by
 unfold Builtin.Range.rangeSize;rw [qAC (by decide)]
 by_cases c:(0:Int)<n
 ·rw [qAC c];lia
 ·rw [qAB c];lia
theorem asI (i:Int) (t:Tok):asInt? (.int i t)=pure (some i):=rfl
section
variable {P:Program} {w:World} {A:Around} {E:Value->Shared->Prop} {s:Shared}
def rio (n:Nat):Obj:={cls:=.type "range_iterator",data:=.fields #[rawInt ((n:Int) - 1),rawInt n,rawInt (-1)]}
theorem rr_parts {a b c:Int} {Q:Int×Int×Int->Shared->Prop} (hr:s.heap.get? r=some {cls:=.type "range",data:=.fields #[.int a t,.int b u,.int c v]}) (q:Q (a,b,c) s):wpAny (model P w) A (Builtin.Range.rangeFields (.ref r)) Q E s:=by
 unfold Builtin.Range.rangeFields;refine qAA (qBa hr rfl (x:=.int a t) rfl ?_);refine qAA (qAy (asI a t) ?_);refine qAA (qBa hr rfl (x:=.int b u) rfl ?_);refine qAA (qAy (asI b u) ?_);refine qAA (qBa hr rfl (x:=.int c v) rfl ?_);exact qAA (qAy (asI c v) (qAE q))
theorem rr_call {Q:Value->Shared->Prop} (hr:s.heap.get? r=some {cls:=.type "range",data:=.fields #[.int 0 t,.int n u,.int 1 v]}) (hn:n<=1000)
  (q:Q (.ref s.heap.objs.size) {s with heap:=s.heap.push (rio n)}):wpAny (model P w) A (call (.builtin "range.__reversed__") [.ref r]) Q E s:=by
 have ty:s.TypeIs (.ref r) "range" := ⟨_,hr,rfl⟩;refine qBY s_rr ty F.entry_range_reversed ?_ (F.args_range_reversed_1 _);unfold Builtin.«range.__reversed__»;refine qAA (qAy (a:=Value.ref r) rfl ?_);refine qAA (rr_parts hr ?_);simp only [size1,fits hn,Bool.not_true,qC7,qBs,qBN];have e:(0:Int)+((n:Int) - 1)*1=(n:Int) - 1:=by lia
 rw [e];exact qAA (qBt (qAE ⟨_,rfl,q⟩))
theorem rr_code {Q:Value->Shared->Prop} (hr:s.heap.get? r=some {cls:=.type "range",data:=.fields #[.int 0 t,.int n u,.int 1 v]}) (hn:n<=1000)
  (q:Q (.ref s.heap.objs.size) {s with heap:=s.heap.push (rio n)}):codeAny (model P w) A (.call (.builtin "reversed.__new__") ⟨[.type "reversed",.ref r],[]⟩) (wants Q E) s:=by
 have ty:s.TypeIs (.ref r) "range" := ⟨_,hr,rfl⟩;have f1:=s_rr.lookup;have f2:=s_rr.bind (.ref r);refine qC0 (show wpAny _ A.in1 (do checkBuiltinCall "reversed.__new__" ⟨[.type "reversed",.ref r],[]⟩;again (.builtin "reversed.__new__" ⟨[.type "reversed",.ref r],[]⟩)) _ _ s from ?_);refine qAA (qAy (F.newCall_reversed_1 _) (qAE ⟨qBy F.plain_reversed_new _,qBX F.entry_reversed_new ?_⟩));rw [qBx F.plain_reversed_new _];unfold Builtin.«reversed.__new__»;refine qAA (qAy (newClass_reversed _) ?_)
 try dsimp only
 refine qAA (qAy (a:=()) (by first| rfl| kernel_rfl) (qAA (qAy (a:=()) (by first| rfl| kernel_rfl) ?_)))
 try dsimp only
 refine qAA (qCD ty f1 ?_)
 try dsimp only
 refine qAA (qAy f2 ?_)
 try dsimp only
 have nn:¬((Value.builtin "range.__reversed__" == Value.none)=true):=qAk
 first| rw [qAB nn]| (show wpAny _ _ (if (Value.builtin "range.__reversed__" == Value.none)=true then _ else _) _ _ _;rw [qAB nn])
 refine qAA (qA9 (qAA (m:=runValue (.call (.builtin "range.__reversed__") ⟨[.ref r],[]⟩)) (show wpAny _ _ (call (.builtin "range.__reversed__") [.ref r]) _ _ _ from rr_call hr hn ?_)))
 first| exact qAE q| exact qAA (qAE (qAE q))
theorem rr_new {Q:Value->Shared->Prop} (hr:s.heap.get? r=some {cls:=.type "range",data:=.fields #[.int 0 t,.int n u,.int 1 v]}) (hn:n<=1000)
  (q:Q (.ref s.heap.objs.size) {s with heap:=s.heap.push (rio n)}):wpAny (model P w) A (call (.type "reversed") [.ref r]) Q E s:=by
 refine callType_other (U:= "range_iterator") (Q₁:=fun v s1=>v= .ref s.heap.objs.size/\s1={s with heap:=s.heap.push (rio n)}) (by decide +kernel) F.create_reversed ⟨_,_,F.mro_reversed⟩ F.made_reversed sub_ri (F.typeCall_reversed_1 _) (rr_code hr hn ⟨rfl,rfl⟩) ?_;rintro v s1 ⟨rfl,rfl⟩;exact ⟨⟨_,qAb _ rfl,rfl⟩,q⟩
end
end RV2
namespace L2
open PySem PySem.Spec PyProof.Rows
section
variable {X:Cx}
theorem call_range1:zCu X (.type "range") (fun xs H Q=>∃j:Int,xs=[.int j]/\∀p,H p=none->Q (.ref p) (upd H p (.rng 0 j))):=by
 intro pins s σ H xs us Q I rv h;obtain ⟨j,rfl,q⟩:=h;obtain ⟨u1,rfl,t1,rfl⟩:=rv.one;refine call_range_1 ⟨.ref s.heap.objs.size,_,I.laid (t':=s.toks+1+1) (fun b o e=>qAI _ e) (qAF _) ?_,rfl,q _ (I.hok.fresh (qAF _))⟩;exact ⟨s.toks,t1,s.toks+1,qAb _ rfl⟩
theorem pi_revR {tg e:Expr} {ta:TA} {p pos:Pos} (hg:Gl X "reversed") (hm:X.mg "reversed" = none) (hb:bootBuiltins "reversed" = some (.type "reversed")) (ha:PA X [e] ta) (hs:starEach [e] X.env=[(false,eval e X.env)]:=by rfl) :
  PI X tg (.Call (.Name "reversed" p) [e] [] pos) (fun σ H R=>ta σ H fun vs H1=>∃(r:Addr) (n:Nat),vs=[.ref r]/\H1 r=some (.rng 0 n)/\n<=1000/\R (Itr3 ((n:Int) - 1) (-1) n) H1):=by
 intro pins s σ H R I h;refine Call_ (zF5 I hg hm hb (qCS (thn (ha pos pins s σ H _ I h) fun us s1 ⟨vs,H1,I1,r1,q1⟩=>?_) hs rfl));obtain ⟨r,n,rfl,er,hn,q⟩:=q1;obtain ⟨u,rfl,ru⟩:=r1.one
 cases ru
 obtain ⟨t,u,v,g⟩:zBb X.prog X.w H1 s1.heap r (.rng 0 n):=I1.hok r _ er;refine RV2.rr_new g hn ?_
 have st:IsRangeIter (s1.heap.push (RV2.rio n)) s1.heap.objs.size ((n:Int) - 1+((0:Nat):Int)*(-1)) ((n:Int) - ((0:Nat):Int)) (-1):=by
  rw [show (n:Int) - 1+((0:Nat):Int)*(-1)=(n:Int) - 1 by lia,show (n:Int) - ((0:Nat):Int)=n by lia];exact qAb _ rfl
 refine qDB (s:={s1 with heap:=s1.heap.push (RV2.rio n)}) st ?_;refine ⟨s1.heap.objs.size,[s1.heap.objs.size],_,_,H1,rfl,I1.kept (t':=s1.toks) fun b o e=>qAI _ e,zGn _ ((n:Int) - 1) (-1) n,st,fun b hb=>?_,q⟩;have e:b=s1.heap.objs.size:=by simpa using hb
 subst e;exact I1.fpOk (qAF _) (I1.hok.fresh (qAF _))
end
section
variable {P:Program} {w:World} {K:PySem.W.Frag} {mg:Str->Option Value} {base:Heap}
structure FunD (K:PySem.W.Frag) (x qual:Str) (st:Stmt) (f:Addr) (fd:FuncData) (T:Addr) (its:Array Value):Prop where
 ex:∃(oc:Value) (od:Option Addr) (kV doc pm:Value) (an:Option Addr) (cdv ct:Value) (osl:Array (Option Value)),
  fd=PySem.W.fnOf x qual (zB5 st) (zBs st) (zAe st) (.ref T) kV doc pm an cdv ct/\K.lookup f=some ⟨oc,od,.func fd,osl⟩/\PySem.W.codeIn K cdv qual=true
 tp:∃(o:Obj) (n:Nat),K.lookup T=some o/\o.data= .seq its n
 kp:PySem.W.keepIn K (.ref f)=true
theorem FunD.ok {x qual:Str} {st:Stmt} {f:Addr} {fd:FuncData} {T:Addr} {its:Array Value} {N ps:List Str} {k:Nat} {sp:Sp} (F:FunD K x qual st f fd T its) (S:FnScope N ps (zAe st)) (len:∀vs H Q E,sp vs H Q E->vs.length=ps.length)
  (hbody:∀(cdv:Value) (A:Around) (outer:List Env) (s:Shared) (H:Hp) (vs:List V) (Q:VK) (E:XK),Room k (A.deeper (envOfC qual (zAe st) s.heap.objs.size f cdv))->sp vs H Q E ->
   ∃t,PSs (cxOf CX0 P w K mg base N qual (zAe st) f cdv A outer s H E).nox (zBs st) t/\t {nx:=fun _ H'=>Q .non H',rt:=Q} (start N vs) H):FnOk P w K mg base CX0 (k+1) f fd ps sp:=by
 obtain ⟨oc,od,kV,doc,pm,an,cdv,ct,osl,rfl,lk,hcd⟩:=F.ex;refine fn_of lk hcd S len fun A outer s H vs Q E hr hsp=>?_;obtain ⟨t,h,q⟩:=hbody cdv A outer s H vs Q E hr hsp;exact ⟨t,h.nox,q⟩
theorem FunD.binds {x qual:Str} {st:Stmt} {f:Addr} {fd:FuncData} {T:Addr} {its:Array Value} {ps:List Str} {ds:List Value} (F:FunD K x qual st f fd T its)
  (h:∀(kV doc pm:Value) (an:Option Addr) (cdv ct:Value) (us:List Value),(us++ds).length=ps.length->∃k:Option (Array Value)->Sem (List (Str×Value)),bindArgs (PySem.W.fnOf x qual (zB5 st) (zBs st) (zAe st) (.ref T) kV doc pm an cdv ct) ⟨us,[]⟩=(seqItems? (.ref T) >>= k)/\k (some its)=pure (ps.zip (us++ds))):zC9 K fd ps ds:=by
 obtain ⟨oc,od,kV,doc,pm,an,cdv,ct,osl,rfl,lk,hcd⟩:=F.ex;obtain ⟨o,n,h1,h2⟩:=F.tp;intro s us kin hl;obtain ⟨k,e1,e2⟩:=h kV doc pm an cdv ct us hl;exact BindsTo.of_defaults (T:=T) rfl (kin _ _ h1) h2 e1 e2
structure CalD (P:Program) (w:World) (K:PySem.W.Frag) (mg:Str->Option Value) (base:Heap) (x:Str) (k:Nat) (ps:List Str) (dvs:List V) (sp:Sp):Prop where
 to:∃(f:Addr) (fd:FuncData) (ds:List Value),mg x=some (.ref f)/\PySem.W.keepIn K (.ref f)=true/\zC9 K fd ps ds/\Vals dvs ds/\FnOk P w K mg base CX0 k f fd ps sp
end
theorem zGi {X:Cx} {x:Str} {k:Nat} {ps:List Str} {dvs:List V} {sp:Sp} {e:Expr} {es:List Expr} {p pos:Pos} {t:TA} (C:CalD X.prog X.w X.K X.mg X.base x k ps dvs sp) (hr:Room k X.A) (hg:Gl X x) (ha:PA X (e::es) t)
  (hdb:(x==("__debug__" : Str))=false:=by decide) (he:starEach (e::es) X.env=(false,eval e X.env)::starEach es X.env:=by rfl) (hpl:(backTo pos (starEach es X.env)).any (·.1)=false:=by rfl) :
  PE X (.Call (.Name x p) (e::es) [] pos) (tCall sp dvs E0 t):=by
 obtain ⟨f,fd,ds,h1,h2,h3,h5,h4⟩:=C.to;exact pe_call h4 hr hg h1 h2 h3 h5 pass0 ha hdb he hpl
section
variable {P:Program} {w:World} {A:Around} {E:Value->Shared->Prop} {s:Shared} {a b:Addr} {oa ob:Obj} {es fs:Array DictEntry} {ep fp:Nat}
theorem same0 {nm:String} {Q:Bool->Shared->Prop} (na:(a==sysModules)=false) (nb:(b==sysModules)=false) (ha:s.heap.get? a=some oa) (da:oa.data= .dict es ep) (hb:s.heap.get? b=some ob) (db:ob.data= .dict fs fp)
  (z1:es.size=0) (z2:fs.size=0) (q:Q true s):wpAny (model P w) A (Builtin.Dict.samePairs nm a b) Q E s:=by
 unfold Builtin.Dict.samePairs Builtin.Dict.showsAll;rw [qAB (by rw [na];exact qAk)];refine qAA (qAE ?_);rw [qAB (by rw [nb];exact qAk)];refine qAA (qAE (qAA (wpAny_dictEntries ha da (qAA (wpAny_dictEntries hb db ?_)))));rw [qAB (by simp [z1,z2])];refine qAA (wpAny_dictEpoch ha da (qAA ?_));rw [Std.Legacy.Range.forIn_eq_forIn_range',z1];exact qAE (qAE q)
theorem eq0M (z1:es.size=0) (z2:fs.size=0) (na:(a==sysModules)=false) (nb:(b==sysModules)=false) (ca:oa.cls= .type "dict") (cb:ob.cls= .type "dict") (da:oa.data= .dict es ep) (db:ob.data= .dict fs fp) :
  Meets (Builtin.«dict.__eq__» ⟨[.ref a,.ref b],[]⟩) (fun A R s=>s.heap.get? a=some oa/\s.heap.get? b=some ob/\R (.ok (.ret (.bool true))) s) :=
 .of_wp fun P w A R s ⟨ha,hb,q⟩=>by
  have ta:s.TypeIs (.ref a) "dict" := ⟨_,ha,ca⟩;have tb:s.TypeIs (.ref b) "dict" := ⟨_,hb,cb⟩;unfold Builtin.«dict.__eq__»;show wpAny _ _ (Builtin.Dict.dictSlotArgs "__eq__" ⟨[.ref a,.ref b],[]⟩ >>= _) _ _ s;unfold Builtin.Dict.dictSlotArgs;refine qAA (qAA (qDN ta ?_));show wpAny _ _ (pure ((Value.ref a,[Value.ref b]):Value×List Value) >>= _) _ _ s;refine qAA (qAE (qAE ?_));refine qAA (qCL tb isSubtype_dict_dict ?_);rw [qAB (by simp)];show wpAny _ _ (pure a >>= _) _ _ s;refine qAA (qAE ?_);show wpAny _ _ (pure b >>= _) _ _ s;refine qAA (qAE (qAA (same0 na nb ha da hb db z1 z2 ?_)));exact qAE ⟨_,rfl,q⟩
end
def AlE (K:PySem.W.Frag) (H:Hp) (n:Nat) (x y:V):Prop:=Alike K H n x y\/∃a b,x= .ref a/\y= .ref b/\H a=some (.dK [])/\H b=some (.dK [])
section
variable {X:Cx} {pins:List (Addr×Obj)} {σ:St} {H:Hp} {s:Shared} {n:Nat} {A:Around}
theorem ale_at (I:Inv X pins σ H s) {x y:V} (h:AlE X.K H n x y) {u v:Value} (ru:RelV x u) (rv:RelV y v) (hu:A.units+1+n<cLine):SeqAt.EqAt A s u v true:=by
 rcases h with h| ⟨a,b,rfl,rfl,e1,e2⟩
 ·exact alike_at I h ru rv (by lia)
 ·cases ru
  cases rv
  by_cases ab:a=b
  ·subst ab;exact qCW _
  ·obtain ⟨_,n1,vs,r1,o1,es,ep,g1,c1,d1,k1,p1,nd1⟩:=dk_of I.hok e1;obtain ⟨_,n2,ws,r2,o2,fs,fp,g2,c2,d2,k2,p2,nd2⟩:=dk_of I.hok e2;have l1:=p1.length;have l2:=p2.length;have l3:=r1.length;have l4:=r2.length;simp only [qBb] at l1 l2;have z1:es.size=0:=l1.trans l3.symm;have z2:fs.size=0:=l2.trans l4.symm;exact SeqAt.EqAt.of_refs ab fun P w E Q q=>richCompare_meets_room (op:=.Eq) ⟨_,g1,c1.1⟩ ⟨_,g2,c2.1⟩ F.slot_dict_eq F.entry_dict_eq (F.args_dict_eq_2 _ _) (eq0M z1 z2 n1 n2 c1.1 c2.1 d1 d2) ⟨g1,g2,show Value.bool true≠Value.notImplemented/\Q (.bool true) s from ⟨(fun z=>nomatch z),q⟩⟩ (by lia)
def rAlE (K:PySem.W.Frag) (n:Nat) (b:Bool):R2:=fun x y H Q=>∃a c xs ys,x= .ref a/\y= .ref c/\SqT K H a xs/\SqT K H c ys/\xs.length=ys.length/\(∀(i:Nat) (x y:V),xs[i]?=some x->ys[i]?=some y->AlE K H n x y)/\Q (.bl b) H
theorem op_neE (hu:X.A.units+2+n<cLine):OpR X (compareOp .NotEq) (rAlE X.K n false):=by
 intro pins s σ H x y v u Q I rx ry h;obtain ⟨a,c,xs,ys,rfl,rfl,hx,hy,hl,he,q⟩:=h
 cases rx
 cases ry
 obtain ⟨its,r,pl,hz⟩:=I.tuple hx;obtain ⟨its2,r2,pl2,hz2⟩:=I.tuple hy;have e1:=r.length;have e2:=r2.length;refine SeqAt.RcNeAt.tuples (e:=fun _=>true) (show s.heap.IsTuple a its.toArray from pl) (show s.heap.IsTuple c its2.toArray from pl2) (by lia) (fun j h1 h2=>?_) X.prog X.w X.xe _ ?_
 ·rw [qAP] at h1 h2;have hjx:xs[j]?=some (xs[j]'(by lia)):=by simp
  have hjy:ys[j]?=some (ys[j]'(by lia)):=by simp
  obtain ⟨u1,q1,ru1⟩:=r.get hjx;obtain ⟨v1,q2,rv1⟩:=r2.get hjy
  have e3:its.toArray[j]=u1:=by
   have:its[j]?=some its[j]:=by simp
   rw [this] at q1;simpa using q1
  have e4:its2.toArray[j]=v1:=by
   have:its2[j]?=some its2[j]:=by simp
   rw [this] at q2;simpa using q2
  rw [e3,e4];exact ale_at I (he j _ _ hjx hjy) ru1 rv1 (by show X.A.units+1+1+n<cLine;lia)
 ·rw [zGl,Bool.true_and,qAP,qAP,<-e1,<-e2,hl,beq_self_eq_true];exact ⟨.bl false,H,I,rfl,q⟩
end
end L2
namespace RV
open PySem
section
variable {P:Program} {w:World} {A:Around} {E:Value->Shared->Prop} {s:Shared}
theorem dict_l0 {K:Type} [DecidableEq K] {knd:KeyKind P w K} {l:Addr} {n:Nat} {Q:Value->Shared->Prop} (hh:A.handled=none) (hr:IsLst s.heap l #[] n)
  (q:∀k tk,(∀b o,s.heap.get? b=some o->k.get? b=some o)->k.DictOf knd s.heap.objs.size []->Q (.ref s.heap.objs.size) {s with heap:=k,toks:=tk}):wpAny (model P w) A (call (.type "dict") [.ref l]) Q E s:=by
 refine callType_codes (Q₁:=fun obj s₁=>obj= .ref s.heap.objs.size/\s₁={s with heap:=s.heap.push {cls:=.type "dict",data:=.dict #[]}}) F.kt_called_dict (F.kt_typeCall_dict_1 _) F.entry_dict_init (kt_code_dict_new _ ⟨rfl,rfl⟩) fun obj s1 h1=>?_;obtain ⟨rfl,rfl⟩:=h1;have hnew:(s.heap.push {cls:=.type "dict",data:=.dict #[]}).DictOf knd s.heap.objs.size []:=Heap.DictOf.new s.heap;refine ⟨hnew.typeIs,F.args_dict_init_2 _ _,?_⟩;unfold Builtin.«dict.__init__»;refine qAA ?_;unfold Builtin.Dict.selfAndRest;refine qAA (qDN hnew.typeIs ?_);show wpAny _ _ (pure (s.heap.objs.size,[Value.ref l])) _ _ _;refine qAE ?_;show wpAny _ _ (Builtin.Dict.updateFrom "dict.__init__" s.heap.objs.size (.ref l) [] .none) _ _ _;unfold Builtin.Dict.updateFrom;have hr1:IsLst (s.heap.push {cls:=.type "dict",data:=.dict #[]}) l #[] n:=qAI _ hr;refine qAA (qCg (T:= "list") ⟨_,hr1,rfl⟩ ?_);rw [qAC (by decide)];refine qAA (lmiss_keys (A:=A.in1.in1) hh hr1 fun k tk hk=>?_);have hk:∀b o,(s.heap.push {cls:=.type "dict",data:=.dict #[]}).get? b=some o->k.get? b=some o:=hk;simp only [Option.isNone_none,qBN];refine qAA (qA9 ?_);have hl2:k.IsList l #[]:=⟨_,hk _ _ hr1,rfl,n,rfl⟩;refine qAA (qB8 (s:={s with heap:=k,toks:=tk}) hl2 ?_);have up:∀b o,s.heap.get? b=some o->k.get? b=some o:=fun b o y=>hk b o (qAI _ y);have hd2:k.DictOf knd s.heap.objs.size []:=hnew.at fun o y=>hk _ o y
 have dlt:s.heap.objs.size<k.objs.size:=by
  obtain ⟨o,es,ep,y,_⟩:=hd2;exact qAK y
 have kp:∀b o,k.get? b=some o->(k.push {cls:=.type "list_iterator",data:=.fields #[.ref l,.int 0 0]}).get? b=some o:=fun b o y=>qAI _ y;refine qAE ⟨qBy p_loop _,qBX e_loop ?_⟩;rw [qBx p_loop _];unfold Builtin.«dict.update.loop»;refine qAA (wpAny_pyNext_list_end (A:=A.in1.in1) hh (⟨_,qAb _ rfl,rfl,rfl⟩:Heap.IsListIter _ k.objs.size l 0) (hl2.at fun o y=>kp l o y) (by simp) fun k2 h2=>?_);refine qAA (qAE (qAE ?_));exact ⟨rfl,q k2 _ (fun b o y=>h2 b o (qAT (qAn (qAK y) (qB6 dlt))) (kp b o (up b o y))) (hd2.at fun o y=>h2 _ o (qAT dlt) (kp _ o y))⟩
end
end RV
namespace L2
open PySem PySem.Spec PyProof.Rows
theorem call_dictE {X:Cx} (hc:X.calm=true):zCu X (.type "dict") (fun xs H Q=>∃l:Addr,xs=[.ref l]/\H l=some (.lst [])/\∀p,H p=none->Q (.ref p) (upd H p (.dK []))):=by
 intro pins s σ H xs us Q I rv h;obtain ⟨l,rfl,el,q⟩:=h;obtain ⟨u,rfl,ru⟩:=rv.one
 cases ru
 obtain ⟨z,its,n,rel,hl⟩:zBb X.prog X.w H s.heap l (.lst []):=I.hok l _ el
 cases rel
 refine RV.dict_l0 (knd:=zBd X.prog X.w) (l:=l) (I.ok.hd hc) hl fun k tk ko kd=>?_;exact ⟨.ref s.heap.objs.size,_,I.laid (t':=tk) ko (qAF _) (dk_new (qAg _) (qAw.mpr (qAm (qAT I.big))) .nil kd),rfl,q _ (I.hok.fresh (qAF _))⟩
end L2
namespace My
open PySem L2
variable {P:Program}{w:World}{K:PySem.W.Frag}{mg:Str->Option Value}{base:Heap}{C:Addr}
variable {H H':Hp}{v u:V}{K:PySem.W.Frag}{n i:Nat}{X:Cx}{f l:Addr}{fd:FuncData}{D:List Str}{J:JR}{xs:List V}
theorem bo_range:bootBuiltins "range" = some (.type "range"):=by decide +kernel
def Fl (v:V):Prop:=(∃x:Str,v= .str x)\/v= .non\/(∃b,v= .bl b)\/∃i,v= .int i
def ThR (H:Hp) (a:Addr):Prop:=(∃z:List Str,z.length<=1/\H a=some (.lst (z.map V.str)))\/(∃z:List Str,z.length<=1/\H a=some (.tup (z.map V.str)))\/H a=some (.dK [])
def Th (H:Hp) (v:V):Prop:=Fl v\/∃a,v= .ref a/\ThR H a
theorem ThR.kp {M:List Addr} {a:Addr} (h:ThR H a) (k:Kp M H H') (n:a∉M):ThR H' a:=by
 rcases h with ⟨z,l,h⟩| ⟨z,l,h⟩| h
 ·exact .inl ⟨z,l,k _ _ h n⟩
 ·exact .inr (.inl ⟨z,l,k _ _ h n⟩)
 ·exact .inr (.inr (k _ _ h n))
theorem Th.kp0 (h:Th H v) (k:Kp [] H H'):Th H' v:=by
 rcases h with h| ⟨a,e,h⟩
 ·exact .inl h
 ·exact .inr ⟨a,e,h.kp k (by simp)⟩
theorem Fl.flat (h:Fl v):zDs v=true:=by
 rcases h with ⟨x,rfl⟩| rfl| ⟨b,rfl⟩| ⟨i,rfl⟩<;>rfl
theorem Th.ok (h:Th H v):ThingOk H v:=by
 rcases h with (h| h| h| h)| ⟨a,e,⟨z,_,h⟩| ⟨z,_,h⟩| h⟩
 ·exact .inl h
 ·exact .inr (.inl h)
 ·exact .inr (.inr (.inl h))
 ·exact .inr (.inr (.inr (.inl h)))
 ·exact .inr (.inr (.inr (.inr ⟨a,e,.inl ⟨_,h⟩⟩)))
 ·exact .inr (.inr (.inr (.inr ⟨a,e,.inr (.inl ⟨_,h⟩)⟩)))
 ·exact .inr (.inr (.inr (.inr ⟨a,e,.inr (.inr ⟨_,h⟩)⟩)))
def zEs (H:Hp) (v u:V):Prop:=(Th H v/\u=v)\/∃(a b:Addr),v= .ref a/\u= .ref b/\((∃z:List Str,H a=some (.lst (z.map V.str))/\H b=some (.lst (z.map V.str)))\/(∃z:List Str,H a=some (.tup (z.map V.str))/\H b=some (.tup (z.map V.str)))\/(H a=some (.dK [])/\H b=some (.dK [])))
theorem zEs.kp0 (h:zEs H v u) (k:Kp [] H H'):zEs H' v u:=by
 rcases h with ⟨h,e⟩| ⟨a,b,h1,h2,⟨z,h3,h4⟩| ⟨z,h3,h4⟩| ⟨h3,h4⟩⟩
 ·exact .inl ⟨h.kp0 k,e⟩
 ·exact .inr ⟨a,b,h1,h2,.inl ⟨z,k _ _ h3 (by simp),k _ _ h4 (by simp)⟩⟩
 ·exact .inr ⟨a,b,h1,h2,.inr (.inl ⟨z,k _ _ h3 (by simp),k _ _ h4 (by simp)⟩)⟩
 ·exact .inr ⟨a,b,h1,h2,.inr (.inr ⟨k _ _ h3 (by simp),k _ _ h4 (by simp)⟩)⟩
theorem strs_al {z:List Str}:∀(i:Nat) (x y:V),(z.map V.str)[i]?=some x->(z.map V.str)[i]?=some y->Alike K H n x y:=fun i x y e1 e2=>by
 rw [e1] at e2
 cases e2
 obtain ⟨n,_,rfl⟩:=zA1 e1;exact .flat rfl
theorem Th.alike (h:Th H v):Alike K H n v v:=by
 rcases h with h| ⟨a,rfl,h⟩
 ·exact .flat h.flat
 ·exact .same
theorem zEs.ald (h:zEs H v u):AlE K H (n+1) u v:=by
 rcases h with ⟨h,rfl⟩| ⟨a,b,rfl,rfl,⟨z,h3,h4⟩| ⟨z,h3,h4⟩| ⟨h3,h4⟩⟩
 ·exact .inl h.alike
 ·exact .inl (.lists (SqL.of h4) (SqL.of h3) rfl strs_al)
 ·exact .inl (.tups (SqT.of h4) (SqT.of h3) rfl strs_al)
 ·exact .inr ⟨b,a,rfl,rfl,h4,h3⟩
theorem _root_.L2.ThingOk.ty {K:PySem.W.Frag} {H:Hp} (h:ThingOk H v):(∃x,v= .str x)\/(∃t,TyOf K H v t/\PySem.W.kitOne K t (.type "str")=some false/\∀ns,zCh v ns=false):=by
 rcases h with h| rfl| ⟨b,rfl⟩| ⟨i,rfl⟩| ⟨a,rfl,h⟩
 ·exact .inl h
 ·exact .inr ⟨_,TyOf.non,rfl,fun _=>rfl⟩
 ·exact .inr ⟨_,TyOf.bl b,rfl,fun _=>rfl⟩
 ·exact .inr ⟨_,TyOf.int i,rfl,fun _=>rfl⟩
 ·rcases h with ⟨xs,h⟩| ⟨xs,h⟩| ⟨xs,h⟩
  ·exact .inr ⟨_,TyOf.lst h,rfl,fun _=>rfl⟩
  ·exact .inr ⟨_,TyOf.tup h,rfl,fun _=>rfl⟩
  ·exact .inr ⟨_,TyOf.dK h,rfl,fun _=>rfl⟩
theorem zGm {ns:List Str}:∀{xs:List V},(∀v∈xs,zCh v ns=true)->∃ws:List Str,xs=ws.map V.str/\∀x∈ws,x∈ns
 | [],_=>⟨[],rfl,fun _ h=>nomatch h⟩
 | v::xs,h=>by
  obtain ⟨ws,e,q⟩:=zGm fun u hu=>h u (qAU _ hu);have h1:=h v qAV
  cases v with
  | str x =>
   have hx:=qAo (show decide (x∈ns)=true from h1)
   exact ⟨x::ws,by rw [e];rfl,fun y hy=>by
    rcases qAS.mp hy with rfl| z
    ·exact hx
    ·exact q y z⟩
  | _=>cases h1
theorem Fl.ty {K:PySem.W.Frag} {H:Hp} (h:Fl v):∃t,TyOf K H v t/\PySem.W.kitOne K t (.type "list")=some false/\PySem.W.kitOne K t (.type "tuple")=some false/\PySem.W.kitOne K t (.type "dict")=some false:=by
 rcases h with ⟨x,rfl⟩| rfl| ⟨b,rfl⟩| ⟨i,rfl⟩
 ·exact ⟨_,TyOf.str x,rfl,rfl,rfl⟩
 ·exact ⟨_,TyOf.non,rfl,rfl,rfl⟩
 ·exact ⟨_,TyOf.bl b,rfl,rfl,rfl⟩
 ·exact ⟨_,TyOf.int i,rfl,rfl,rfl⟩
def tFrz (t:TS):TS:=fun D σ H=>∃a kvs,H a=some (.dK kvs)/\∀o,t (thawE D a o kvs) σ (upd H a (.frz o (.dK kvs)))
theorem ps_frzN {st:Stmt} {t:TS} (h:PS X st t):PS X st (tFrz t):=ps_frz h
section
def spOneT:Sp:=fun vs H Q _=>∃(v:V) (l:Addr) (ns:List Str),vs=[v,.ref l]/\ThingOk H v/\Txs H l ns/\Q (.bl (zCh v ns)) H
theorem ok_oneT (F:Fun K "is_one_of" "is_one_of" zDl f fd) (T:Txt K mg):FnOk P w K mg base CX0 1 f fd ["thing", "names"] spOneT:=by
 refine F.ok zF3 (fun vs H Q E h=>?_) (fun cdv A outer s H vs Q E hr h=>?_)
 ·obtain ⟨v,l,ns,rfl,_⟩:=h;rfl
 ·obtain ⟨v,l,ns,rfl,hv,hl,k⟩:=h;refine ⟨_,(zAd (zAm (pe_and (zAj zA7 (by rfl) T.z_isinstance zAo (zAa (pv 0) (zAa (zBm (by rfl) T.z_str bo_str (v:=.ty "str") rfl) zAb))) (pe_one (zCg zCr (pv 0) (pv 1) (by rfl)))))),?_⟩;rcases hv.ty (K:=K) with ⟨x,rfl⟩| ⟨t,ty,kt,e⟩
  ·refine ⟨_,rfl,_,_,_,_,rfl,TyOf.str x,zC2,_,rfl,iteT ?_⟩;refine ⟨_,rfl,_,rfl,_,_,rfl,.inl (SqL.of hl),rfl,zBt ns,?_⟩;rw [qAB (by decide),zC6];exact k
  ·refine ⟨_,rfl,_,_,_,_,rfl,ty,kt,_,rfl,iteF ?_⟩;rw [e] at k;exact k
abbrev zBf:Stmt:=top 17
theorem zCm:FnScope ["thing", "depth", "pairs"] ["thing", "depth"] (zAe zBf):=fnS
def zFo:Sp:=fun vs H Q _=>∃(v:V) (d:Int),vs=[v,.int d]/\0<d/\Fl v/\Q v H
theorem ok_copyF {D:Addr} {its:Array Value} (F:FunD K "own_copy" "own_copy" zBf f fd D its) (T:Txt K mg):FnOk P w K mg base CX0 1 f fd ["thing", "depth"] zFo:=by
 refine F.ok zCm (fun vs H Q E h=>?_) (fun cdv A outer s H vs Q E hr h=>?_)
 ·obtain ⟨v,d,rfl,_⟩:=h;rfl
 ·obtain ⟨v,d,rfl,hd,fl,k⟩:=h
  refine ⟨_,(zAc (zA0 (zAn zDd (pv 1) zAh (zAr _)) zBc zAk)
   (zAc (zA0 (zBp (zAj zA7 (by rfl) T.z_isinstance zAo (zAa (pv 0) (zAa (zBm (by rfl) T.z_list zBi (v:=.ty "list") rfl) zAb)))) zBc zAk)
   (zAc (zA0 (zBp (zAj zA7 (by rfl) T.z_isinstance zAo (zAa (pv 0) (zAa (zBm (by rfl) T.z_tuple zGk (v:=.ty "tuple") rfl) zAb)))) zBc zAk)
   (zAc (zA0 (zBp (zAj zA7 (by rfl) T.z_isinstance zAo (zAa (pv 0) (zAa (zBm (by rfl) T.z_dict zJk (v:=.ty "dict") rfl) zAb)))) zBc zAk)
   (zAd (zAm (pv 0))))))),?_⟩
  obtain ⟨t,ty,k1,k2,k3⟩:=fl.ty (K:=K) (H:=H);refine ⟨_,rfl,rfl,_,rfl,?_⟩;rw [qAW (fun z=>by cases z;lia)];refine iteF ?_;refine ⟨_,rfl,_,_,_,_,rfl,ty,k1,_,rfl,iteF ?_⟩;refine ⟨_,rfl,_,_,_,_,rfl,ty,k2,_,rfl,iteF ?_⟩;refine ⟨_,rfl,_,_,_,_,rfl,ty,k3,_,rfl,iteF ?_⟩;exact ⟨_,rfl,k⟩
def spCopyL:Sp:=fun vs H Q _=>∃(a:Addr) (z:List Str),vs=[.ref a,.int 12]/\z.length<=1/\H a=some (.lst (z.map V.str))/\∀b H',Kp [] H H'->H' b=some (.lst (z.map V.str))->Q (.ref b) H'
theorem ok_copyL {D:Addr} {its:Array Value} (F:FunD K "own_copy" "own_copy" zBf f fd D its) (T:Txt K mg) (C_own_copy:CalD P w K mg base "own_copy" 1 ["thing", "depth"] [] zFo):FnOk P w K mg base CX0 2 f fd ["thing", "depth"] spCopyL:=by
 refine F.ok zCm (fun vs H Q E h=>?_) (fun cdv A outer s H vs Q E hr h=>?_)
 ·obtain ⟨a,z,rfl,_⟩:=h;rfl
 ·obtain ⟨a,z,rfl,hz,ha,k⟩:=h
  refine ⟨_,(zAc (zA0 (zAn zDd (pv 1) zAh (zAr _)) zBc zAk)
   (zAc (zA0 (zBp (zAj zA7 (by rfl) T.z_isinstance zAo (zAa (pv 0) (zAa (zBm (by rfl) T.z_list zBi (v:=.ty "list") rfl) zAb))))
    (zAd (zAm (zBl rfl (zBe (sc:=zAe zBf) rfl (by decide +kernel)) (Draws.own (x:= "part") (dtk (i:=1) rfl Draws.nil)) (zAp (pv 0)) (fun _ _ _ _=>(pgB (i:=0))) (fun _ _ _ _=>zBr) (fun _ _ _ _=>(zGi C_own_copy hr rfl (zAa (pv 0) (zAa (zAv zFc (pv 1) zAh) zAb)))))))
    zAk)
   zBc)),?_⟩
  refine ⟨_,rfl,rfl,_,rfl,?_⟩;rw [qAW (fun z=>by cases z)];refine iteF ?_;refine ⟨_,rfl,_,_,_,_,rfl,TyOf.lst ha,zC2,_,rfl,iteT ?_⟩;refine ⟨_,rfl,_,rfl,⟨_,SqL.of ha⟩,fun D hD=>zA5 (z.map V.str) (fun i ys τ H'=>(∃o0,τ=[o0,some (.int 12)])/\ys=(z.take i).map V.str/\H'=upd H D (.lst ys)) ⟨⟨_,rfl⟩,rfl,rfl⟩ (fun i ys τ H' ⟨_,_,e⟩=>by subst e;exact SqL.of ((upd_ne (ne_fre (show Fre H D from hD) ha)).trans ha)) ?_ ?_⟩
  ·rintro i v ys τ H' hv ⟨⟨o0,rfl⟩,rfl,rfl⟩;obtain ⟨x,ex,rfl⟩:=zA1 hv;refine ⟨_,rfl,_,rfl,_,_,rfl,rfl,_,_,rfl,by decide,.inl ⟨x,rfl⟩,upd_same,by rw [qAD,qAX,qAO];lia,⟨_,rfl⟩,?_,zCc⟩;rw [zAi ex,qAM];rfl
  ·rintro ys τ H' ⟨_,rfl,rfl⟩;have eT:z.take (z.map V.str).length=z:=by rw [qAD,qAf]
   rw [eT];exact k _ _ (Kp.new Kp.refl hD) upd_same
def spCopyT:Sp:=fun vs H Q _=>∃(a:Addr) (z:List Str),vs=[.ref a,.int 12]/\z.length<=1/\H a=some (.tup (z.map V.str))/\∀b H',Kp [] H H'->H' b=some (.tup (z.map V.str))->Q (.ref b) H'
theorem ok_copyT {D:Addr} {its:Array Value} (F:FunD K "own_copy" "own_copy" zBf f fd D its) (T:Txt K mg) (C_own_copy:CalD P w K mg base "own_copy" 1 ["thing", "depth"] [] zFo):FnOk P w K mg base CX0 2 f fd ["thing", "depth"] spCopyT:=by
 refine F.ok zCm (fun vs H Q E h=>?_) (fun cdv A outer s H vs Q E hr h=>?_)
 ·obtain ⟨a,z,rfl,_⟩:=h;rfl
 ·obtain ⟨a,z,rfl,hz,ha,k⟩:=h
  refine ⟨_,(zAc (zA0 (zAn zDd (pv 1) zAh (zAr _)) zBc zAk)
   (zAc (zA0 (zBp (zAj zA7 (by rfl) T.z_isinstance zAo (zAa (pv 0) (zAa (zBm (by rfl) T.z_list zBi (v:=.ty "list") rfl) zAb)))) zBc zAk)
   (zAc (zA0 (zBp (zAj zA7 (by rfl) T.z_isinstance zAo (zAa (pv 0) (zAa (zBm (by rfl) T.z_tuple zGk (v:=.ty "tuple") rfl) zAb))))
    (zAd (zAm (zAq zJj (by rfl) T.z_tuple zGk (zAa (zBl rfl (zBe (sc:=zAe zBf) rfl (by decide +kernel)) (Draws.own (x:= "part") (dtk (i:=1) rfl Draws.nil)) (pi_tup (pv 0)) (fun _ _ _ _=>(pgB (i:=0))) (fun _ _ _ _=>zBr) (fun _ _ _ _=>(zGi C_own_copy hr rfl (zAa (pv 0) (zAa (zAv zFc (pv 1) zAh) zAb))))) zAb))))
    zAk)
   zBc))),?_⟩
  refine ⟨_,rfl,rfl,_,rfl,?_⟩;rw [qAW (fun z=>by cases z)];refine iteF ?_;refine ⟨_,rfl,_,_,_,_,rfl,TyOf.tup ha,rfl,_,rfl,iteF ?_⟩;refine ⟨_,rfl,_,_,_,_,rfl,TyOf.tup ha,zC2,_,rfl,iteT ?_⟩;refine ⟨_,rfl,_,rfl,⟨_,.inl (.inl ha)⟩,fun D hD=>comp_tup0 (z.map V.str) (fun i ys τ H'=>(∃o0,τ=[o0,some (.int 12)])/\ys=(z.take i).map V.str/\H'=upd H D (.lst ys)) ⟨⟨_,rfl⟩,rfl,rfl⟩ (fun i ys τ H' ⟨_,_,e⟩=>by subst e;exact .inl (.inl ((upd_ne (ne_fre (show Fre H D from hD) ha)).trans ha))) ?_ ?_⟩
  ·rintro i v ys τ H' hv ⟨⟨o0,rfl⟩,rfl,rfl⟩;obtain ⟨x,ex,rfl⟩:=zA1 hv;refine ⟨_,rfl,_,rfl,_,_,rfl,rfl,_,_,rfl,by decide,.inl ⟨x,rfl⟩,upd_same,by rw [qAD,qAX,qAO];lia,⟨_,rfl⟩,?_,zCc⟩;rw [zAi ex,qAM];rfl
  ·rintro ys τ H' ⟨_,rfl,rfl⟩;have eT:z.take (z.map V.str).length=z:=by rw [qAD,qAf]
   rw [eT];refine ⟨D,z.map V.str,rfl,.inl ⟨SqL.of upd_same,fun l hl=>?_⟩⟩;have k0:Kp [] H (upd H D (.lst (z.map V.str))):=Kp.new Kp.refl hD;exact k _ _ (Kp.new k0 (k0.fre (show Fre (upd H D (.lst (z.map V.str))) l from hl) (by simp))) upd_same
def spCopyD:Sp:=fun vs H Q _=>∃a:Addr,vs=[.ref a,.int 12]/\H a=some (.dK [])/\∀b H',Kp [] H H'->H' b=some (.dK [])->Q (.ref b) H'
theorem ok_copyD {D:Addr} {its:Array Value} (F:FunD K "own_copy" "own_copy" zBf f fd D its) (T:Txt K mg) (C_own_copy:CalD P w K mg base "own_copy" 1 ["thing", "depth"] [] zFo):FnOk P w K mg base CX0 2 f fd ["thing", "depth"] spCopyD:=by
 refine F.ok zCm (fun vs H Q E h=>?_) (fun cdv A outer s H vs Q E hr h=>?_)
 ·obtain ⟨a,rfl,_⟩:=h;rfl
 ·obtain ⟨a,rfl,ha,k⟩:=h
  refine ⟨_,(zAc (zA0 (zAn zDd (pv 1) zAh (zAr _)) zBc zAk)
   (zAc (zA0 (zBp (zAj zA7 (by rfl) T.z_isinstance zAo (zAa (pv 0) (zAa (zBm (by rfl) T.z_list zBi (v:=.ty "list") rfl) zAb)))) zBc zAk)
   (zAc (zA0 (zBp (zAj zA7 (by rfl) T.z_isinstance zAo (zAa (pv 0) (zAa (zBm (by rfl) T.z_tuple zGk (v:=.ty "tuple") rfl) zAb)))) zBc zAk)
   (zAc (zA0 (zBp (zAj zA7 (by rfl) T.z_isinstance zAo (zAa (pv 0) (zAa (zBm (by rfl) T.z_dict zJk (v:=.ty "dict") rfl) zAb))))
    (zAc (ps_frzN (zD5 (i:=2) rfl (zBe (sc:=zAe zBf) rfl (by decide +kernel)) (Draws.own (x:= "key") (Draws.own (x:= "value") (dtk (i:=1) rfl Draws.nil))) (pi_items (pv 0)) (fun _ _ _ _=>(zFu (K:=K) (n:=2) rfl (zAt (pgB (i:=0)) (zAt (pgB (i:=1)) zCf)))) (fun _ _ _ _=>zBr) (fun _ _ _ _=>(zA9 (zAa (pv 0) (zAa (zGi C_own_copy hr rfl (zAa (pv 1) (zAa (zAv zFc (pv 2) zAh) zAb))) zAb)))) zCm.nd rfl rfl))
    (zAd (zAm (zAq (call_dictE rfl) (by rfl) T.z_dict zJk (zAa (pv 2) zAb)))))
    zAk)
   zBc)))),?_⟩
  refine ⟨_,rfl,rfl,_,rfl,?_⟩;rw [qAW (fun z=>by cases z)];refine iteF ?_;refine ⟨_,rfl,_,_,_,_,rfl,TyOf.dK ha,rfl,_,rfl,iteF ?_⟩;refine ⟨_,rfl,_,_,_,_,rfl,TyOf.dK ha,rfl,_,rfl,iteF ?_⟩;refine ⟨_,rfl,_,_,_,_,rfl,TyOf.dK ha,zC2,_,rfl,iteT ?_⟩;refine ⟨a,[],ha,fun o=>?_⟩;have ff:upd H a (.frz o (.dK [])) a=some (.frz o (.dK [])):=upd_same;refine ⟨_,rfl,a,o,[],rfl,ff,fun B hB=>comp_items0 ?_ ?_⟩
  ·exact (upd_ne (zAg ff hB)).trans ff
  have nBa:B≠a:=(zAg ff hB).symm
  have fB:Fre H B:=by
   have:upd H a (.frz o (.dK [])) B=none:=hB
   rwa [upd_ne nBa] at this
  refine ⟨(upd_ne nBa.symm).trans ff,?_⟩
  have eH:upd (upd (upd H a (.frz o (.dK []))) B (.lst [])) a (.dK [])=upd H B (.lst []):=by
   funext c
   by_cases c1:c=a
   ·subst c1;rw [upd_same,upd_ne nBa.symm];exact ha.symm
   ·rw [upd_ne c1]
    by_cases c2:c=B
    ·subst c2;rw [upd_same,upd_same]
    ·rw [upd_ne c2,upd_ne c1,upd_ne c2]
  rw [eH];have k1:Kp [] H (upd H B (.lst [])):=Kp.new Kp.refl fB;refine ⟨_,rfl,B,rfl,upd_same,fun p hp=>?_⟩;exact k p _ (Kp.new k1 (k1.fre hp (by simp))) upd_same
def spCopy:Sp:=fun vs H Q _=>∃v:V,vs=[v,.int 12]/\Th H v/\∀u H',Kp [] H H'->zEs H' v u->Q u H'
theorem ok_copy (h1:FnOk P w K mg base CX0 1 f fd ["thing", "depth"] zFo) (h2:FnOk P w K mg base CX0 2 f fd ["thing", "depth"] spCopyL) (h3:FnOk P w K mg base CX0 2 f fd ["thing", "depth"] spCopyT) (h4:FnOk P w K mg base CX0 2 f fd ["thing", "depth"] spCopyD):FnOk P w K mg base CX0 2 f fd ["thing", "depth"] spCopy:=by
 refine ⟨fun vs H Q E h=>?_,fun A outer s H args us vs Q E hr e0 hb r h=>?_⟩
 ·obtain ⟨v,rfl,_⟩:=h;rfl
 ·obtain ⟨v,rfl,o,k⟩:=h;rcases o with o| ⟨a,rfl,⟨z,hz,ha⟩| ⟨z,hz,ha⟩| ha⟩
  ·exact h1.run A outer s H args us _ Q E (hr.mono (by decide)) e0 hb r ⟨v,12,rfl,by decide,o,k v H Kp.refl (.inl ⟨.inl o,rfl⟩)⟩
  ·exact h2.run A outer s H args us _ Q E hr e0 hb r ⟨a,z,rfl,hz,ha,fun b H' k1 hb=>k _ H' k1 (.inr ⟨a,b,rfl,rfl,.inl ⟨z,k1 _ _ ha (by simp),hb⟩⟩)⟩
  ·exact h3.run A outer s H args us _ Q E hr e0 hb r ⟨a,z,rfl,hz,ha,fun b H' k1 hb=>k _ H' k1 (.inr ⟨a,b,rfl,rfl,.inr (.inl ⟨z,k1 _ _ ha (by simp),hb⟩)⟩)⟩
  ·exact h4.run A outer s H args us _ Q E hr e0 hb r ⟨a,rfl,ha,fun b H' k1 hb=>k _ H' k1 (.inr ⟨a,b,rfl,rfl,.inr (.inr ⟨k1 _ _ ha (by simp),hb⟩)⟩)⟩
end
theorem zFy {α:Type} {p:α->Bool} {v:α}:∀{xs:List α} {i:Nat},xs[i]?=some v->p v=true->(∀u∈xs.take i,p u=false)->xs.find? p=some v
 | [],i,h,_,_=>by simp at h
 | x::xs,0,h,hp,_=>by
  have e:x=v:=by simpa using h
  subst e;rw [qBi,hp]
 | x::xs,i+1,h,hp,hb=>by
  rw [qBi,hb x (by rw [List.take_succ_cons];exact qAV)];exact zFy (by simpa using h) hp fun u hu=>hb u (by rw [List.take_succ_cons];exact qAU _ hu)
def zCt (D:List Str):List Str->List Str->Option Str
 | _,[]=>none
 | p,n::r=>if n∈D\/n∈p then some n else zCt D (p++[n]) r
theorem zJm {n:Str}:∀{r p:List Str} {i:Nat},r[i]?=some n->(n∈D\/n∈p++r.take i)->(∀j m,j<i->r[j]?=some m->¬(m∈D\/m∈p++r.take j))->zCt D p r=some n
 | [],p,i,h,_,_=>by simp at h
 | x::r,p,0,h,hp,_=>by
  have e:x=n:=by simpa using h
  subst e;have hp:x∈D\/x∈p:=by simpa using hp
  exact qAC hp
 | x::r,p,i+1,h,hp,hb=>by
  have nx:¬(x∈D\/x∈p):=by
   have:=hb 0 x (by lia) rfl;simpa using this
  show (if x∈D\/x∈p then some x else zCt D (p++[x]) r)=_;rw [qAB nx];refine zJm (i:=i) (by simpa using h) (by simpa using hp) fun j m hj hm=>?_;have:=hb (j+1) m (by lia) (by simpa using hm);simpa using this
theorem zF0 :∀{r p:List Str},(∀j m,r[j]?=some m->¬(m∈D\/m∈p++r.take j))->zCt D p r=none
 | [],_,_=>rfl
 | x::r,p,hb=>by
  have nx:¬(x∈D\/x∈p):=by
   have:=hb 0 x rfl;simpa using this
  show (if x∈D\/x∈p then some x else zCt D (p++[x]) r)=_;rw [qAB nx];refine zF0 fun j m hm=>?_;have:=hb (j+1) m (by simpa using hm);simpa using this
theorem zHn {A:List Str} (h:∀x,x∈A↔x∈D):∀(r p:List Str),zCt A p r=zCt D p r
 | [],_=>rfl
 | x::r,p=>by
  show (if x∈A\/x∈p then some x else zCt A (p++[x]) r)=(if x∈D\/x∈p then some x else zCt D (p++[x]) r);rw [zHn h r]
  by_cases c:x∈A\/x∈p
  ·rw [qAC c,qAC (by rw [<-h x];exact c)]
  ·rw [qAB c,qAB (by rw [<-h x];exact c)]
def zEp (xs:List V):List Str:=xs.filterMap fun v=>match v with
 | .str x=>some x
 | _=>none
theorem zCk:∀r:List Str,zEp (r.map V.str)=r
 | []=>rfl
 | x::r=>by
  show x::zEp (r.map V.str)=_;rw [zCk r]
theorem rdy_congr {A:List Str} (h:∀x,x∈A↔x∈D) (n:Str):rdyB J A n=rdyB J D n:=by
 unfold rdyB;congr 1;funext m;exact decide_eq_decide.mpr (h m)
abbrev sv (k:Str) (v:V):Option (Str×V):=some (k,v)
def tf0 (J:JR) (D:List Str) (xs:List V):Option (Str×V) :=
 match xs.find? fun v=>!zCh v J.ns with
 | some v=>sv "stranger" (v)
 | none=>match zCt D [] (zEp xs) with
  | some n=>sv "again" (.str n)
  | none=>match (zEp xs).find? fun n=>!rdyB J D n with
   | some n=>sv "early" (.str n)
   | none=>none
def wideF (b:Int) (xs:List V):Option (Str×V):=if (xs.length:Int)>b then sv "wide" (.int xs.length) else none
def zBk (J:JR) (b:Int) (D:List Str) (xs:List V):Option (Str×V):=(tf0 J D xs).or (wideF b xs)
theorem tf_congr {A:List Str} (h:∀x,x∈A↔x∈D) (xs:List V):tf0 J A xs=tf0 J D xs:=by
 unfold tf0;rw [zHn h,show (fun n=>!rdyB J A n)=fun n=>!rdyB J D n from funext fun n=>by rw [rdy_congr h n]]
theorem tfault_congr {b:Int} {A:List Str} (h:∀x,x∈A↔x∈D) (xs:List V):zBk J b A xs=zBk J b D xs:=by unfold zBk;rw [tf_congr h]
theorem tf_str (e:xs[i]?=some v) (h:zCh v J.ns=false) (hb:∀u∈xs.take i,zCh u J.ns=true):tf0 J D xs=sv "stranger" (v):=by
 unfold tf0;rw [zFy e (by rw [h];rfl) fun u hu=>by rw [hb u hu];rfl]
theorem no_str (hb:∀u∈xs,zCh u J.ns=true):(xs.find? fun v=>!zCh v J.ns)=none:=qBn.mpr fun u hu=>by rw [hb u hu];simp
theorem ones {r:List Str} (h:∀n∈r,n∈J.ns):∀u∈r.map V.str,zCh u J.ns=true:=fun u hu=>by
 obtain ⟨n,hn,rfl⟩:=qAJ.mp hu;exact qAR (h n hn)
theorem tf_again {r:List Str} {n:Str} (h:∀n∈r,n∈J.ns) (ha:zCt D [] r=some n):tf0 J D (r.map V.str)=sv "again" (.str n):=by
 unfold tf0;rw [no_str (ones h),zCk,ha]
theorem tf_early {r:List Str} {n:Str} (h:∀n∈r,n∈J.ns) (ha:zCt D [] r=none) (he:(r.find? fun n=>!rdyB J D n)=some n):tf0 J D (r.map V.str)=sv "early" (.str n):=by
 unfold tf0;rw [no_str (ones h),zCk,ha,he]
theorem tf_none {r:List Str} (h:∀n∈r,n∈J.ns) (ha:zCt D [] r=none) (he:(r.find? fun n=>!rdyB J D n)=none):tf0 J D (r.map V.str)=none:=by
 unfold tf0;rw [no_str (ones h),zCk,ha,he]
inductive FR where
 | non
 | miss (n:Str)
 | three (k:Str) (i:Int) (v:V)
def zEc (J:JR) (b:Int):Int->List Str->List (List V)->FR
 | _,D,[]=>match J.ns.find? fun n=>decide (n∉D) with
  | some n=>.miss n
  | none=>.non
 | k,D,xs::rs=>match zBk J b D xs with
  | some p=>.three p.1 k p.2
  | none=>zEc J b (k+1) (D++zEp xs) rs
def FAt (H:Hp):FR->V->Prop
 | .non,w=>w= .non
 | .miss n,w=>∃t,w= .ref t/\H t=some (.tup [.str "missing",.str n])
 | .three k i v,w=>∃t u,w= .ref t/\H t=some (.tup [.str k,.int i,u])/\zEs H v u
def TAt (H:Hp):Option (Str×V)->V->Prop
 | none,w=>w= .non
 | some p,w=>∃t u,w= .ref t/\H t=some (.tup [.str p.1,u])/\zEs H p.2 u
structure PlR (H:Hp) (l:Addr) (ps:List (Addr×List V)):Prop where
 top:H l=some (.lst (ps.map fun p=>V.ref p.1))
 row:∀p∈ps,H p.1=some (.lst p.2)
 th:∀p∈ps,∀v∈p.2,Th H v
 few:ps.length<=100
 each:∀p∈ps,p.2.length<=100
theorem PlR.kp0 {ps:List (Addr×List V)} (R:PlR H l ps) (k:Kp [] H H'):PlR H' l ps:=⟨k _ _ R.top (by simp),fun p hp=>k _ _ (R.row p hp) (by simp),fun p hp v hv=>(R.th p hp v hv).kp0 k,R.few,R.each⟩
theorem zFt {ps:List (Addr×List V)} (h:(ps.map fun p=>V.ref p.1)[i]?=some v):∃p,ps[i]?=some p/\v= .ref p.1:=by
 rw [qAY] at h;obtain ⟨p,e,r⟩:=qBW.mp h;exact ⟨p,e,r.symm⟩
theorem zJg {α:Type} {xs:List α} {x:α} (h:xs[i]?=some x):xs.drop i=x::xs.drop (i+1):=by
 obtain ⟨hi,rfl⟩:=qAh.mp h;exact List.drop_eq_getElem_cons hi
section
def zGp (C:Addr):Sp:=fun vs H Q _=>∃(j d l:Addr) (J:JR) (b:Int) (A:List Str) (xs:List V),vs=[.ref j,.int b,.ref d,.ref l]/\JobsAt C H j J/\SetD H d A/\A.length<=1000/\H l=some (.lst xs)/\xs.length<=1000/\(∀v∈xs,Th H v)/\∀w H',Kp [] H H'->TAt H' (zBk J b A xs) w->Q w H'
abbrev zD0:Stmt:=top 20
theorem zBo:FnScope ["jobs", "benches", "earlier", "row", "names", "thing", "stood", "name"] ["jobs", "benches", "earlier", "row"] (zAe zD0):=fnS
theorem zI2 (F:Fun K "turn_fault" "turn_fault" zD0 f fd) (T:Txt K mg) (U:JC K mg C) (M_names:Mth P w K mg base C "names" 1 ["self"] (zIj C)) (C_one:Cal P w K mg base "is_one_of" 1 ["thing", "names"] spOneT) (C_own_copy:CalD P w K mg base "own_copy" 2 ["thing", "depth"] [.int 12] spCopy) (C_is_ready:Cal P w K mg base "is_ready" 4 ["jobs", "earlier", "name"] (spReady C)):FnOk P w K mg base CX0 5 f fd ["jobs", "benches", "earlier", "row"] (zGp C):=by
 refine F.ok zBo (fun vs H Q E h=>?_) (fun cdv A outer s H vs Q E hr h=>?_)
 ·obtain ⟨j,d,l,J,b,A,r,rfl,_⟩:=h;rfl
 ·obtain ⟨j,d,l,J,b,D0,xs,rfl,A0,hd,hD,hl,hxl,ht,k⟩:=h;have hu:=zFj hr;have hr1:=hr.mono (j:=1) (by decide);have hr2:=hr.mono (j:=2) (by decide);have HR_is_ready:Room 4 _:=hr
  refine ⟨_,(zAc (psS (i:=4) zBo.nd (zD7 M_names U.cl hr1 (pv 0)))
   (zAc (zAz qAZ rfl (zAp (pv 3)) (pgN (i:=5) zBo.nd)
    (zAd (zA0 (zDw (zBp (zAf C_one hr1 rfl (zAa (pv 5) (zAa (pv 4) zAb)))))
     (zAd (zAm (zA9 (zAa zA4 (zAa (zGi C_own_copy hr2 rfl (zAa (pv 5) zAb)) zAb)))))
     zAk)))
   (zAc (psS (i:=6) zBo.nd (zAq call_dict1 (by rfl) T.z_dict zJk (zAa (pv 2) zAb)))
   (zAc (zAz qAZ rfl (zAp (pv 3)) (pgN (i:=7) zBo.nd)
    (zAc (zA0 (zGy (zG2 hu (pv 7) (pv 6)))
     (zAd (zAm (zA9 (zAa zA4 (zAa (pv 7) zAb)))))
     zAk)
    (zAd (zDq hu (pv 6) (pv 7) pe_bl rfl))))
   (zAc (zAz qAZ rfl (zAp (pv 3)) (pgN (i:=7) zBo.nd)
    (zAd (zA0 (zDw (zBp (zAf C_is_ready HR_is_ready rfl (zAa (pv 0) (zAa (pv 2) (zAa (pv 7) zAb))))))
     (zAd (zAm (zA9 (zAa zA4 (zAa (pv 7) zAb)))))
     zAk)))
   (zAc (zA0 (zAn op_gt (zAj zAl (by rfl) T.z_len zBq (zAa (pv 3) zAb)) (pv 1) (zAr _))
    (zAd (zAm (zA9 (zAa zA4 (zAa (zAj zAl (by rfl) T.z_len zBq (zAa (pv 3) zAb)) zAb)))))
    zAk)
   (zAd (zAm zD6)))))))),?_⟩
  refine ⟨_,rfl,j,J.dx,_,rfl,A0.ob,jf_no _ _ _ (by decide +kernel) (by decide +kernel) (by decide +kernel),j,J,rfl,A0,fun nl H1 fn h1 k1=>?_⟩
  have fin:∀(H2:Hp) (a:Str) (u v:V) (t:Addr),Kp [] H H2->H2 t=none->zEs H2 v u->zBk J b D0 xs=sv a v->Q (.ref t) (upd H2 t (.tup [.str a,u])):=fun H2 a u v t k2 ft c e=>by
   have kt:Kp [] H2 (upd H2 t (.tup [.str a,u])):=Kp.new Kp.refl ft;refine k _ _ (k2.trans kt) ?_;rw [e];exact ⟨t,u,rfl,upd_same,c.kp0 kt⟩
  have tx:∀(H2:Hp) (n:Str),zEs H2 (.str n) (.str n):=fun H2 n=>.inl ⟨.inl (.inl ⟨n,rfl⟩),rfl⟩;refine ⟨_,rfl,_,rfl,⟨_,SqL.of (k1 l _ hl (by simp))⟩,zAu (xs:=xs) (fun i σ H2=>(∃o5 o6 o7,σ=[some (.ref j),some (.int b),some (.ref d),some (.ref l),some (.ref nl),o5,o6,o7])/\H2=H1/\∀u∈xs.take i,zCh u J.ns=true) ⟨⟨_,_,_,rfl⟩,rfl,(fun u h=>nomatch h)⟩ (fun i σ H2 _ ⟨_,e,_⟩=>by subst e;exact SqL.of (k1 l _ hl (by simp))) ?_ ?_⟩
  ·rintro i v σ H2 hv ⟨⟨o5,o6,o7,rfl⟩,rfl,hb⟩;have tv:=(ht v (qAL hv)).kp0 k1;refine ⟨_,rfl,_,rfl,v,nl,J.ns,rfl,tv.ok,h1,_,rfl,?_⟩
   cases e:zCh v J.ns with
   | true =>
    refine iteF ⟨⟨_,_,_,rfl⟩,rfl,fun u hu=>?_⟩;rw [zAi hv] at hu;rcases qAN.mp hu with z| z
    ·exact hb u z
    ·rw [qAQ.mp z];exact e
   | false =>
    refine iteT ?_;refine ⟨_,rfl,v,rfl,tv,fun u H3 k3 c=>⟨(by walk_at "ln"),fun t ft=>?_⟩⟩;exact fin H3 "stranger" u v t (k1.trans k3) ft c (by unfold zBk;rw [tf_str hv e hb];rfl)
  rintro σ H2 ⟨⟨o5,o6,o7,rfl⟩,rfl,hone⟩;rw [qAf] at hone;obtain ⟨r,rfl,hr'⟩:=zGm hone;rw [qAD] at hxl;refine ⟨_,rfl,d,_,rfl,.inl (k1 d _ hd (by simp)),fun st hst=>?_⟩;have fst':Fre H2 st:=hst;have fst0:Fre H st:=k1.fre fst' (by simp);have nls:l≠st:=ne_fre fst0 hl;have nds:d≠st:=ne_fre fst0 hd;have k2:Kp [] H (upd H2 st (.dK (dT1 D0 fun _=>.bl true))):=Kp.trans k1 (Kp.new Kp.refl fst');refine ⟨_,rfl,_,rfl,⟨_,SqL.of (k2 l _ hl (by simp))⟩,zAu (xs:=r.map V.str) (fun i σ H3=>(∃o5 o7,σ=[some (.ref j),some (.int b),some (.ref d),some (.ref l),some (.ref nl),o5,some (.ref st),o7])/\Kp [] H H3/\SetD H3 st ((r.take i).foldl addA D0)/\∀j m,j<i->r[j]?=some m->¬(m∈D0\/m∈[]++r.take j)) ⟨⟨_,_,rfl⟩,k2,upd_same,fun j m h=>absurd h (qCi _)⟩ (fun i σ H3 _ ⟨_,k3,_⟩=>SqL.of (k3 l _ hl (by simp))) ?_ ?_⟩
  ·rintro i v σ H3 hv ⟨⟨o5,o7,rfl⟩,k3,h3,hb⟩;obtain ⟨n,en,rfl⟩:=zA1 hv;refine ⟨_,rfl,_,rfl,_,_,rfl,DGet.k (k:=Sum.inr n) h3,_,rfl,?_⟩;rw [zFx]
   by_cases c:n∈(r.take i).foldl addA D0
   ·rw [qAR c];refine iteT ⟨_,rfl,(by walk_at "ln"),fun t ft=>?_⟩;have c':n∈D0\/n∈[]++r.take i:=by simpa using (zDf _ _).mp c
    exact fin H3 "again" _ _ t k3 ft (tx _ _) (by unfold zBk;rw [tf_again hr' (zJm en c' hb)];rfl)
   ·rw [qAW c];refine iteF ?_;have hlf:=zHa (r.take i) D0;rw [qAX] at hlf;refine ⟨_,rfl,_,rfl,_,_,rfl,DPut.k (k:=Sum.inr n) h3 (by rw [zE4,qAO];lia),?_⟩;refine ⟨⟨_,_,rfl⟩,Kp.new k3 fst0,?_,fun j m hj hm=>?_⟩
    ·rw [zIw,zAi en,List.foldl_append];exact upd_same
    ·rcases Nat.lt_succ_iff_lt_or_eq.mp hj with q| q
     ·exact hb j m q hm
     ·subst q;rw [en] at hm
      cases hm
      intro z;exact c ((zDf _ _).mpr (by simpa using z))
  rintro σ H3 ⟨⟨o5,o7,rfl⟩,k3,h3,hb⟩;have hag:zCt D0 [] r=none:=zF0 fun j m hm=>hb j m (by rw [qAD];exact (qAh.mp hm).1) hm;refine ⟨_,rfl,_,rfl,⟨_,SqL.of (k3 l _ hl (by simp))⟩,zAu (xs:=r.map V.str) (fun i σ H4=>(∃o5 o7,σ=[some (.ref j),some (.int b),some (.ref d),some (.ref l),some (.ref nl),o5,some (.ref st),o7])/\Kp [] H H4/\∀m∈r.take i,rdyB J D0 m=true) ⟨⟨_,_,rfl⟩,k3,(fun m h=>nomatch h)⟩ (fun i σ H4 _ ⟨_,k4,_⟩=>SqL.of (k4 l _ hl (by simp))) ?_ ?_⟩
  ·rintro i v σ H4 hv ⟨⟨o5,o7,rfl⟩,k4,hrd⟩;obtain ⟨n,en,rfl⟩:=zA1 hv;have hn:=qAL en;refine ⟨_,rfl,_,rfl,_,rfl,j,d,J,D0,n,rfl,A0.kp0 k4,k4 d _ hd (by simp),hr' n hn,fun H5 k5=>⟨_,rfl,?_⟩⟩
   cases e:rdyB J D0 n with
   | true =>
    refine iteF ⟨⟨_,_,rfl⟩,k4.trans k5,fun m hm=>?_⟩;rw [zAi en] at hm;rcases qAN.mp hm with z| z
    ·exact hrd m z
    ·rw [qAQ.mp z];exact e
   | false =>
    refine iteT ⟨_,rfl,(by walk_at "ln"),fun t ft=>?_⟩;exact fin H5 "early" _ _ t (k4.trans k5) ft (tx _ _) (by unfold zBk;rw [tf_early hr' hag (zFy en (by rw [e];rfl) fun m hm=>by rw [hrd m hm];rfl)];rfl)
  rintro σ H4 ⟨⟨o5,o7,rfl⟩,k4,hrd⟩;rw [qAD,qAf] at hrd;have t0:tf0 J D0 (r.map V.str)=none:=tf_none hr' hag (qBn.mpr fun m hm=>by rw [hrd m hm];simp);refine ⟨_,rfl,_,_,rfl,.inl (SqL.of (k4 l _ hl (by simp))),_,rfl,_,_,rfl,rfl,_,rfl,?_⟩;refine ite2 (fun c=>?_) (fun c=>?_)
  ·refine ⟨_,rfl,_,_,rfl,.inl (SqL.of (k4 l _ hl (by simp))),(by walk_at "ln"),fun t ft=>?_⟩;refine fin H4 "wide" _ _ t k4 ft (.inl ⟨.inl (.inr (.inr (.inr ⟨_,rfl⟩))),rfl⟩) ?_;unfold zBk wideF;rw [t0,qAC (qAo c)];rfl
  ·refine k _ H4 k4 ?_;unfold zBk wideF;rw [t0,qAB (fun z=>c (qAR z))];rfl
end
theorem tf_all (h:tf0 J D xs=none):∃r:List Str,xs=r.map V.str/\∀n∈r,n∈J.ns:=by
 refine zGm fun v hv=>?_
 cases e:zCh v J.ns with
 | true=>rfl
 | false =>
  exfalso;unfold tf0 at h
  cases c:xs.find? fun v=>!zCh v J.ns with
  | some u=>rw [c] at h;cases h
  | none =>
   have:=qBn.mp c v hv;rw [e] at this;exact this rfl
theorem tfault_none {b:Int} (h:zBk J b D xs=none):tf0 J D xs=none:=by
 unfold zBk at h
 cases c:tf0 J D xs with
 | none=>rfl
 | some p=>rw [c] at h;cases h
def tOf (n:Str):Int->List (List Str)->V
 | _,[]=>.non
 | k,r::rs=>if n∈r then .int k else tOf n (k+1) rs
structure PlS (H:Hp) (l:Addr) (ps:List (Addr×List Str)):Prop where
 top:H l=some (.lst (ps.map fun p=>V.ref p.1))
 row:∀p∈ps,H p.1=some (.lst (p.2.map V.str))
 few:ps.length<=100
theorem PlS.kp0 {ps:List (Addr×List Str)} (R:PlS H l ps) (k:Kp [] H H'):PlS H' l ps:=⟨k _ _ R.top (by simp),fun p hp=>k _ _ (R.row p hp) (by simp),R.few⟩
theorem srow_at {ps:List (Addr×List Str)} (h:(ps.map fun p=>V.ref p.1)[i]?=some v):∃p,ps[i]?=some p/\v= .ref p.1:=by
 rw [qAY] at h;obtain ⟨p,e,r⟩:=qBW.mp h;exact ⟨p,e,r.symm⟩
section
def spFault (C:Addr):Sp:=fun vs H Q _=>∃(j m:Addr) (b:Int) (J:JR) (ps:List (Addr×List V)),vs=[.ref j,.int b,.ref m]/\JobsAt C H j J/\1<=b/\PlR H m ps/\∀w H',Kp [] H H'->FAt H' (zEc J b 1 [] (ps.map (·.2))) w->Q w H'
abbrev s_fault:Stmt:=top 19
theorem zEf:FnScope ["jobs", "benches", "plan", "earlier", "number", "row", "found", "name"] ["jobs", "benches", "plan"] (zAe s_fault):=fnS
theorem ok_fault (F:Fun K "fault" "fault" s_fault f fd) (T:Txt K mg) (U:JC K mg C) (M_names:Mth P w K mg base C "names" 1 ["self"] (zIj C)) (C_check_benches:Cal P w K mg base "check_benches" 2 ["benches"] spBench) (C_turn_fault:Cal P w K mg base "turn_fault" 5 ["jobs", "benches", "earlier", "row"] (zGp C)) (C_take:Cal P w K mg base "take" 1 ["taken", "row"] spPTake):FnOk P w K mg base CX0 6 f fd ["jobs", "benches", "plan"] (spFault C):=by
 refine F.ok zEf (fun vs H Q E h=>?_) (fun cdv A outer s H vs Q E hr h=>?_)
 ·obtain ⟨j,m,b,J,ps,rfl,_⟩:=h;rfl
 ·obtain ⟨j,m,b,J,ps,rfl,A0,hb,R,k⟩:=h;have hu:=zFj hr;have hr1:=hr.mono (j:=1) (by decide);have hr2:=hr.mono (j:=2) (by decide);have HR_turn_fault:Room 5 _:=hr
  refine ⟨_,(zAc (zA2 (zAf C_check_benches hr2 rfl (zAa (pv 1) zAb)))
   (zAc (psS (i:=3) zEf.nd zCj)
   (zAc (zAz qAZ rfl (pi_enumS rfl T.z_enumerate (zAa (pv 2) zAb)) (zG0 rfl (zAt (pgN (i:=4) zEf.nd) (zAt (pgN (i:=5) zEf.nd) zCf)))
    (zAc (psS (i:=6) zEf.nd (zAf C_turn_fault HR_turn_fault rfl (zAa (pv 0) (zAa (pv 1) (zAa (pv 3) (zAa (pv 5) zAb))))))
    (zAc (zA0 (zAn zI0 (pv 6) zD6 (zAr _))
     (zAd (zAm (zA9 (zAa (zBg ix_tup (pv 6) zAh (fun _ _=>rfl)) (zAa (pv 4) (zAa (zBg ix_tup (pv 6) zAh (fun _ _=>rfl)) zAb))))))
     zAk)
    (zAd (zA2 (zAf C_take hr1 rfl (zAa (pv 3) (zAa (pv 5) zAb))))))))
   (zAc (zAz qAZ rfl (zAp (zD7 M_names U.cl hr1 (pv 0))) (pgN (i:=7) zEf.nd)
    (zAd (zA0 (zGy (zG1 hu (pv 7) (pv 3)))
     (zAd (zAm (zA9 (zAa zA4 (zAa (pv 7) zAb)))))
     zAk)))
   (zAd (zAm zD6)))))),?_⟩
  refine ⟨_,rfl,b,rfl,hb,?_⟩;refine fun e he=>?_;have fe:Fre H e:=he;have k1:Kp [] H (upd H e (.dK [])):=Kp.new Kp.refl fe;refine ⟨_,rfl,_,rfl,⟨_,SqL.of (k1 m _ R.top (by simp))⟩,for_enum (lo:=1) (xs:=ps.map fun p=>V.ref p.1) (fun i σ H2=>∃(D A:List Str),(∃o4 o5 o6 o7,σ=[some (.ref j),some (.int b),some (.ref m),some (.ref e),o4,o5,o6,o7])/\Kp [] H H2/\SetD H2 e A/\A.Nodup/\(∀x∈A,x∈J.ns)/\(∀x,x∈A↔x∈D)/\zEc J b 1 [] (ps.map (·.2))=zEc J b (1+(i:Int)) D ((ps.map (·.2)).drop i)) ⟨[],[],⟨_,_,_,_,rfl⟩,k1,upd_same,qBP,(fun x h=>nomatch h),fun x=>Iff.rfl,rfl⟩ (fun i σ H2 _ ⟨_,_,_,k2,_⟩=>SqL.of (k2 m _ R.top (by simp))) ?_ ?_⟩
  ·rintro i v σ H2 t hv ⟨D,A1,⟨o4,o5,o6,o7,rfl⟩,k2,h2,nd,sub,mem,ef⟩ ht;have ft:Fre H2 t:=ht;obtain ⟨p,ep,rfl⟩:=zFt hv;have mp:=qAL ep;have kt:Kp [] H2 (upd H2 t (.tup [.int (1+(i:Int)),.ref p.1])):=Kp.new Kp.refl ft;refine ⟨_,_,rfl,.inl (.inl upd_same),rfl,_,_,rfl,_,_,rfl,rfl,?_⟩;have h3:=kt e _ h2 (by simp);generalize upd H2 t (.tup [.int (1+(i:Int)),.ref p.1])=H3 at kt h3 ⊢;have k3:=k2.trans kt;have R3:=R.kp0 k3;have hAl:A1.length<=20:=qAc (zDy nd sub) A0.few;have hpl:=R.each p mp;refine ⟨_,rfl,_,rfl,_,rfl,_,rfl,j,e,p.1,J,b,A1,p.2,rfl,A0.kp0 k3,h3,by lia,R3.row p mp,by lia,R3.th p mp,fun u H4 k4 hu4=>?_⟩;rw [tfault_congr mem] at hu4;have k34:=k3.trans k4;have e2:(ps.map (·.2))[i]?=some p.2:=by rw [qAY,ep];rfl
   rw [zJg e2] at ef
   cases c:zBk J b D p.2 with
   | none =>
    rw [c] at hu4;have hu4:u= .non:=hu4;subst hu4;refine ⟨_,rfl,rfl,_,rfl,iteF ?_⟩;obtain ⟨r,er,hr'⟩:=tf_all (tfault_none c);have hrow:=k34 p.1 _ (R.row p mp) (by simp);rw [er] at hrow;rw [er,qAD] at hpl;refine ⟨_,rfl,_,rfl,e,p.1,A1,r,rfl,k4 e _ h3 (by simp),hrow,by lia,fun H5 h5 k5=>?_⟩;refine ⟨D++r,r.foldl addA A1,⟨_,_,_,_,rfl⟩,Kp.drop k34 fe k5,h5,zE0 _ _ nd,fun x hx=>?_,fun x=>?_,?_⟩
    ·rcases (zDf _ _).mp hx with z| z
     ·exact sub x z
     ·exact hr' x z
    ·rw [zDf,qAN,mem x]
    ·rw [ef];show (match zBk J b D p.2 with| some q=>FR.three q.1 (1+(i:Int)) q.2| none=>zEc J b (1+(i:Int)+1) (D++zEp p.2) _)=_;rw [c,er,zCk,show (1+(i:Int)+1)=1+((i+1:Nat):Int) by lia]
   | some q =>
    rw [c] at hu4;obtain ⟨t2,u2,rfl,ht2,cp⟩:=hu4;refine ⟨_,rfl,rfl,_,rfl,iteT ?_⟩;refine ⟨_,rfl,_,_,_,_,rfl,rfl,SqT.of ht2,rfl,_,rfl,_,rfl,_,_,_,_,rfl,rfl,SqT.of ht2,rfl,(by walk_at "ln"),fun t3 ft3=>?_⟩;have k5:Kp [] H4 (upd H4 t3 (.tup [.str q.1,.int (1+(i:Int)),u2])):=Kp.new Kp.refl ft3;refine k _ _ (k34.trans k5) ?_;rw [ef];show FAt _ (match zBk J b D p.2 with| some q=>FR.three q.1 (1+(i:Int)) q.2| none=>zEc J b (1+(i:Int)+1) (D++zEp p.2) _) _;rw [c];exact ⟨t3,u2,rfl,upd_same,cp.kp0 k5⟩
  rintro σ H2 ⟨D,A1,⟨o4,o5,o6,o7,rfl⟩,k2,h2,nd,sub,mem,ef⟩;rw [qAD,qB1 (by rw [qAD];exact qAF _)] at ef;refine ⟨_,rfl,j,J.dx,_,rfl,(A0.kp0 k2).ob,jf_no _ _ _ (by decide +kernel) (by decide +kernel) (by decide +kernel),j,J,rfl,A0.kp0 k2,fun nl H3 fn h3 k3=>?_⟩;have k23:=k2.trans k3;have he3:=k3 e _ h2 (by simp);refine ⟨_,rfl,⟨_,SqL.of h3⟩,zAu (xs:=J.ns.map V.str) (fun i σ H4=>(∃o4 o5 o6 o7,σ=[some (.ref j),some (.int b),some (.ref m),some (.ref e),o4,o5,o6,o7])/\H4=H3/\∀x∈J.ns.take i,x∈D) ⟨⟨_,_,_,_,rfl⟩,rfl,(fun x h=>nomatch h)⟩ (fun i σ H4 _ ⟨_,e,_⟩=>by subst e;exact SqL.of h3) ?_ ?_⟩
  ·rintro i v σ H4 hv ⟨⟨o4,o5,o6,o7,rfl⟩,rfl,hin⟩;obtain ⟨n,en,rfl⟩:=zA1 hv;refine ⟨_,rfl,_,rfl,_,_,rfl,DGet.k (k:=Sum.inr n) he3,_,rfl,?_⟩;rw [zFx]
   by_cases c:n∈A1
   ·rw [qAR c];refine iteF ⟨⟨_,_,_,_,rfl⟩,rfl,fun x hx=>?_⟩;rw [zAi en] at hx;rcases qAN.mp hx with z| z
    ·exact hin x z
    ·rw [qAQ.mp z];exact (mem n).mp c
   ·rw [qAW c];refine iteT ⟨_,rfl,(by walk_at "ln"),fun t ft=>?_⟩;refine k _ _ (k23.trans (Kp.new Kp.refl ft)) ?_;rw [ef];show FAt _ (match J.ns.find? fun n=>decide (n∉D) with| some n=>FR.miss n| none=>FR.non) _;rw [zFy (p:=fun n=>decide (n∉D)) en (qAR fun z=>c ((mem n).mpr z)) fun x hx=>qAW fun z=>z (hin x hx)];exact ⟨t,rfl,upd_same⟩
  ·rintro σ H4 ⟨⟨o4,o5,o6,o7,rfl⟩,rfl,hin⟩;rw [qAD,qAf] at hin;refine k _ _ k23 ?_;rw [ef];show FAt _ (match J.ns.find? fun n=>decide (n∉D) with| some n=>FR.miss n| none=>FR.non) _;rw [qBn.mpr fun x hx=>by simp [hin x hx]];rfl
def zIh:Sp:=fun vs H Q _=>∃(m:Addr) (n:Str) (ps:List (Addr×List Str)),vs=[.ref m,.str n]/\PlS H m ps/\∀H',Kp [] H H'->Q (tOf n 1 (ps.map (·.2))) H'
abbrev zGu:Stmt:=top 23
theorem zFq:FnScope ["plan", "name", "number", "row"] ["plan", "name"] (zAe zGu):=fnS
theorem ok_turn_of (F:Fun K "turn_of" "turn_of" zGu f fd) (T:Txt K mg):FnOk P w K mg base CX0 1 f fd ["plan", "name"] zIh:=by
 refine F.ok zFq (fun vs H Q E h=>?_) (fun cdv A outer s H vs Q E hr h=>?_)
 ·obtain ⟨m,n,ps,rfl,_⟩:=h;rfl
 ·obtain ⟨m,n,ps,rfl,R,k⟩:=h
  refine ⟨_,(zAc (zAz qAZ rfl (pi_enumS rfl T.z_enumerate (zAa (pv 0) zAb)) (zG0 rfl (zAt (pgN (i:=2) zFq.nd) (zAt (pgN (i:=3) zFq.nd) zCf)))
    (zAd (zA0 (zAn zCr (pv 1) (pv 3) (by rfl))
     (zAd (zAm (pv 2)))
     zAk)))
   (zAd (zAm zD6))),?_⟩
  refine ⟨_,rfl,_,rfl,⟨_,SqL.of R.top⟩,for_enum (lo:=1) (xs:=ps.map fun p=>V.ref p.1) (fun i σ H2=>(∃o2 o3,σ=[some (.ref m),some (.str n),o2,o3])/\Kp [] H H2/\tOf n 1 (ps.map (·.2))=tOf n (1+(i:Int)) ((ps.map (·.2)).drop i)) ⟨⟨_,_,rfl⟩,Kp.refl,rfl⟩ (fun i σ H2 _ ⟨_,k2,_⟩=>SqL.of (k2 m _ R.top (by simp))) ?_ ?_⟩
  ·rintro i v σ H2 t hv ⟨⟨o2,o3,rfl⟩,k2,ef⟩ ht;have ft:Fre H2 t:=ht;obtain ⟨p,ep,rfl⟩:=srow_at hv;have mp:=qAL ep;have kt:Kp [] H2 (upd H2 t (.tup [.int (1+(i:Int)),.ref p.1])):=Kp.new Kp.refl ft;refine ⟨_,_,rfl,.inl (.inl upd_same),rfl,_,_,rfl,_,_,rfl,rfl,?_⟩;have k3:=k2.trans kt;generalize upd H2 t (.tup [.int (1+(i:Int)),.ref p.1])=H3 at k3;have e2:(ps.map (·.2))[i]?=some p.2:=by rw [qAY,ep];rfl
   rw [zJg e2] at ef;refine ⟨_,rfl,_,rfl,_,_,rfl,.inl (SqL.of ((R.kp0 k3).row p mp)),rfl,zBt p.2,_,rfl,?_⟩;rw [qAB (by decide),zC6];have ef':tOf n 1 (ps.map (·.2))=if n∈p.2 then .int (1+(i:Int)) else tOf n (1+(i:Int)+1) ((ps.map (·.2)).drop (i+1)):=ef;refine ite2 (fun c=>?_) (fun c=>?_)
   ·rw [qAC (qAo c)] at ef';refine ⟨_,rfl,?_⟩;rw [<-ef'];exact k H3 k3
   ·rw [qAB (fun z=>c (qAR z)),show (1+(i:Int)+1)=1+((i+1:Nat):Int) by lia] at ef';exact ⟨⟨_,_,rfl⟩,k3,ef'⟩
  ·rintro σ H2 ⟨⟨o2,o3,rfl⟩,k2,ef⟩;rw [qAD,qB1 (by rw [qAD];exact qAF _)] at ef;have:=k H2 k2;rw [ef] at this;exact this
end
def LTAt (H:Hp) (k:Int):Option (Str×V)->V->Prop
 | none,w=>w= .non
 | some p,w=>∃t,w= .ref t/\H t=some (.tup [.str p.1,.int k,p.2])
def notD (ns:List Str) (L:Str->List Str) (D:List Str) (n o:Str):Bool:=decide (n∈L o)&&decide (o∉D)
theorem rdy_law {L:Str->List Str} (hLS:∀n∈J.ns,∀x∈J.ns,x∈L n↔n∈J.S x) {n:Str} (hn:n∈J.ns):(J.ns.filter (notD J.ns L D n)=[])↔rdyB J D n=true:=by
 unfold rdyB;rw [List.filter_eq_nil_iff,qBj];constructor
 ·intro h m hm;obtain ⟨m1,m2⟩:=qA3.mp hm;refine qAR ?_;refine qBO fun z=>h m m1 ?_;unfold notD;rw [qAR ((hLS m m1 n hn).mpr (qAo m2)),qAR z];rfl
 ·intro h o ho z;unfold notD at z;rw [qBh] at z;exact qAo z.2 (qAo (h o (qA3.mpr ⟨ho,qAR ((hLS o ho n hn).mp (qAo z.1))⟩)))
section
def spLTF:Sp:=fun vs H Q _=>∃(l d dn m:Addr) (i:Int) (J:JR) (la:Str->Addr) (L:Str->List Str) (D:List Str) (xs:List V),vs=[.ref l,.ref d,.ref dn,.int i,.ref m]/\Txs H l J.ns/\DR H d J.ns la L/\(∀n∈J.ns,∀x∈J.ns,x∈L n↔n∈J.S x)/\J.ns.length<=20/\Txs H dn D/\D.length<=20000/\H m=some (.lst xs)/\xs.length<=100/\(∀v∈xs,Th H v)/\∀w H',Kp [] H H'->LTAt H' i (tf0 J D xs) w->Q w H'
abbrev s_ltf:Stmt:=top 53
theorem sc_ltf:FnScope ["_law_names_here", "_law_behind_here", "_law_done", "_law_number", "_law_turn", "_law_thing", "_law_k", "_law_name"] ["_law_names_here", "_law_behind_here", "_law_done", "_law_number", "_law_turn"] (zAe s_ltf):=fnS
theorem ok_ltf (F:Fun K "_law_turn_fault" "_law_turn_fault" s_ltf f fd) (T:Txt K mg):FnOk P w K mg base CX0 1 f fd ["_law_names_here", "_law_behind_here", "_law_done", "_law_number", "_law_turn"] spLTF:=by
 refine F.ok sc_ltf (fun vs H Q E h=>?_) (fun cdv A outer s H vs Q E hr h=>?_)
 ·obtain ⟨l,d,dn,m,i,J,la,L,D,xs,rfl,_⟩:=h;rfl
 ·obtain ⟨l,d,dn,m,i0,J,la,L,D,xs,rfl,hl,DD,hLS,len,hdn,hDl,hm,hxl,ht,k⟩:=h;have hu:=zFj hr
  refine ⟨_,(zAc (zAz qAZ rfl (zAp (pv 4)) (pgN (i:=5) sc_ltf.nd)
    (zAd (zA0 (zAn (op_notInT hu) (pv 5) (pv 0) (by rfl))
     (zAd (zAm (zA9 (zAa zA4 (zAa (pv 3) (zAa (pv 5) zAb))))))
     zAk)))
   (zAc (zAz qAZ rfl (zB2 rfl T.z_range (zAa (zAj zAl (by rfl) T.z_len zBq (zAa (pv 4) zAb)) zAb)) (pgN (i:=6) sc_ltf.nd)
    (zAd (zA0 (zAn zCr (zBg zAx (pv 4) (pv 6) (fun _ _=>rfl)) (zAv op_cat (pv 2) (zGh zIn (pv 4) zIz (zIy (pv 6)))) (by rfl))
     (zAd (zAm (zA9 (zAa zA4 (zAa (pv 3) (zAa (zBg zAx (pv 4) (pv 6) (fun _ _=>rfl)) zAb))))))
     zAk)))
   (zAc (zAz qAZ rfl (zAp (pv 4)) (pgN (i:=7) sc_ltf.nd)
    (zAd (zA0 (zAn (zEy hr) (zBl rfl (zBe (sc:=zAe s_ltf) rfl (by decide +kernel)) (Draws.own (x:= "_law_one") (dtk (i:=7) rfl (dtk (i:=2) rfl (dtk (i:=1) rfl Draws.nil)))) (zAp (pv 0)) (fun _ _ _ _=>(pgB (i:=0))) (fun _ _ _ _=>(zDp (PW.pt (pw_and (zGy (zG2 hu (pv 1) (zCq hu (pv 3) (pv 0) (fun _ _=>rfl)))) (zGx (zAn (zDr (K:=K)) (pv 0) (pv 2) (by rfl))))))) (fun _ _ _ _=>(pv 0))) (zA6 zAb) (zAr _))
     (zAd (zAm (zA9 (zAa zA4 (zAa (pv 3) (zAa (pv 7) zAb))))))
     zAk)))
   (zAd (zAm zD6))))),?_⟩
  have fin:∀(H2:Hp) (a:Str) (v:V) (t:Addr),Kp [] H H2->H2 t=none->tf0 J D xs=sv a v->Q (.ref t) (upd H2 t (.tup [.str a,.int i0,v])):=fun H2 a v t k2 ft e=>by
   refine k _ _ (k2.trans (Kp.new Kp.refl ft)) ?_;rw [e];exact ⟨t,rfl,upd_same⟩
  refine ⟨_,rfl,_,rfl,⟨_,SqL.of hm⟩,zAu (xs:=xs) (fun i σ H2=>(∃o5 o6 o7,σ=[some (.ref l),some (.ref d),some (.ref dn),some (.int i0),some (.ref m),o5,o6,o7])/\H2=H/\∀u∈xs.take i,zCh u J.ns=true) ⟨⟨_,_,_,rfl⟩,rfl,(fun u h=>nomatch h)⟩ (fun i σ H2 _ ⟨_,e,_⟩=>by subst e;exact SqL.of hm) ?_ ?_⟩
  ·rintro i v σ H2 hv ⟨⟨o5,o6,o7,rfl⟩,rfl,hb⟩;have tv:=ht v (qAL hv);refine ⟨_,rfl,_,rfl,l,J.ns,rfl,SqL.of hl,tv.ok,_,rfl,?_⟩;rw [qAC rfl]
   cases e:zCh v J.ns with
   | true =>
    refine iteF ⟨⟨_,_,_,rfl⟩,rfl,fun u hu=>?_⟩;rw [zAi hv] at hu;rcases qAN.mp hu with z| z
    ·exact hb u z
    ·rw [qAQ.mp z];exact e
   | false =>
    refine iteT ⟨_,rfl,_,rfl,(by walk_at "ln"),fun t ft=>?_⟩;exact fin _ "stranger" v t Kp.refl ft (tf_str hv e hb)
  rintro σ H2 ⟨⟨o5,o6,o7,rfl⟩,rfl,hone⟩;rw [qAf] at hone;obtain ⟨r,rfl,hr'⟩:=zGm hone;rw [qAD] at hxl;refine ⟨_,rfl,_,_,rfl,.inl (SqL.of hm),_,rfl,?_⟩;rw [qAD];refine ⟨by lia,by lia,?_⟩;refine zB4 (lo:=0) (n:=r.length) (fun i σ H3=>(∃o5 o6 o7,σ=[some (.ref l),some (.ref d),some (.ref dn),some (.int i0),some (.ref m),o5,o6,o7])/\Kp [] H2 H3/\∀j n,j<i->r[j]?=some n->¬(n∈D\/n∈[]++r.take j)) ⟨⟨_,_,_,rfl⟩,Kp.refl,fun j n h=>absurd h (qCi _)⟩ ?_ ?_
  ·rintro i σ H3 hi ⟨⟨o5,o6,o7,rfl⟩,k3,hb⟩;have ei:r[i]?=some r[i]:=qAp hi
   have em:(r.map V.str)[((0:Int)+(i:Int)).toNat]?=some (.str r[i]):=by
    rw [show ((0:Int)+(i:Int)).toNat=i by lia,qAY,ei];rfl
   have hm3:=k3 m _ hm (by simp);refine ⟨_,rfl,_,rfl,_,_,_,_,rfl,rfl,SqL.of hm3,zCa (by lia) em,_,rfl,_,rfl,_,rfl,_,rfl,_,_,rfl,SqL.of hm3,fun a1 f1=>?_⟩;rw [cut_to _ (by lia),show ((0:Int)+(i:Int)).toNat=i by lia,<-qCJ];have k4:Kp [] H3 (upd H3 a1 (.lst ((r.take i).map V.str))):=Kp.new Kp.refl f1;have h4:upd H3 a1 (.lst ((r.take i).map V.str)) a1=some (.lst ((r.take i).map V.str)):=upd_same;generalize upd H3 a1 (.lst ((r.take i).map V.str))=H4 at k4 h4;have hs:=qAO;refine ⟨_,_,_,_,rfl,rfl,(k3.trans k4) dn _ hdn (by simp),h4,by rw [qAD,qAD,qAX];lia,fun a2 f2=>?_⟩;have k5:Kp [] H4 (upd H4 a2 (.lst (D.map V.str++(r.take i).map V.str))):=Kp.new Kp.refl f2;have h5:upd H4 a2 (.lst (D.map V.str++(r.take i).map V.str)) a2=some (.lst ((D++r.take i).map V.str)):=by rw [upd_same,qAM]
   generalize upd H4 a2 (.lst (D.map V.str++(r.take i).map V.str))=H5 at k5 h5;have k35:=k3.trans (k4.trans k5);refine ⟨_,_,rfl,.inl (SqL.of h5),rfl,zBt _,_,rfl,?_⟩;rw [qAB (by decide),zC6];refine ite2 (fun c=>?_) (fun c=>?_)
   ·have c:=qAo c;refine ⟨_,rfl,_,rfl,_,rfl,_,_,_,_,rfl,rfl,SqL.of (k35 m _ hm (by simp)),zCa (by lia) em,(by walk_at "ln"),fun t ft=>?_⟩;exact fin _ "again" _ t k35 ft (tf_again hr' (zJm ei (by simpa using c) hb))
   ·refine ⟨⟨_,_,_,rfl⟩,k35,fun j n hj hn=>?_⟩;rcases Nat.lt_succ_iff_lt_or_eq.mp hj with q| q
    ·exact hb j n q hn
    ·subst q;rw [ei] at hn
     cases hn
     intro z;exact c (qAR (by simpa using z))
  rintro σ H3 ⟨⟨o5,o6,o7,rfl⟩,k3,hb⟩;have hag:zCt D [] r=none:=zF0 fun j n hn=>hb j n (qAh.mp hn).1 hn;refine ⟨_,rfl,_,rfl,⟨_,SqL.of (k3 m _ hm (by simp))⟩,zAu (xs:=r.map V.str) (fun i σ H4=>(∃o5 o6 o7,σ=[some (.ref l),some (.ref d),some (.ref dn),some (.int i0),some (.ref m),o5,o6,o7])/\Kp [] H2 H4/\∀n∈r.take i,rdyB J D n=true) ⟨⟨_,_,_,rfl⟩,k3,(fun n h=>nomatch h)⟩ (fun i σ H4 _ ⟨_,k4,_⟩=>SqL.of (k4 m _ hm (by simp))) ?_ ?_⟩
  ·rintro i v σ H4 hv ⟨⟨o5,o6,o7,rfl⟩,k4,hrd⟩;obtain ⟨n,en,rfl⟩:=zA1 hv;have hn:=hr' n (qAL en);have D4:=DD.kp0 k4;have hl4:=k4 l _ hl (by simp);refine ⟨_,rfl,_,rfl,⟨_,SqL.of hl4⟩,fun B hB=>zB6 (J.ns.map V.str) (fun q ys τ H5=>(∃o0,τ=[o0,some (.str n),some (.ref dn),some (.ref d)])/\ys=((J.ns.take q).filter (notD J.ns L D n)).map V.str/\H5=upd H4 B (.lst ys)) ⟨⟨_,rfl⟩,rfl,rfl⟩ (fun q ys τ H5 ⟨_,_,z⟩=>by subst z;exact SqL.of ((Kp.new (M:=[]) Kp.refl hB) _ _ hl4 (by simp))) ?_ ?_⟩
   ·rintro q v ys τ H5 hv ⟨⟨o0,rfl⟩,rfl,rfl⟩;obtain ⟨o,eo,rfl⟩:=zA1 hv;have mo:=qAL eo;have kB:Kp [] H4 (upd H4 B (.lst (((J.ns.take q).filter (notD J.ns L D n)).map V.str))):=Kp.new Kp.refl hB;have D5:=D4.kp0 kB;obtain ⟨g,g1,g2⟩:=zIo (D5.row o mo) n;refine ⟨_,rfl,_,rfl,_,rfl,_,_,rfl,D5.get mo,_,g,rfl,g1,_,rfl,?_⟩;rw [g2]
    by_cases c1:n∈L o
    ·rw [qAR c1];refine iteT ?_;refine ⟨_,rfl,_,rfl,_,_,rfl,.inl (SqL.of ((k4.trans kB) dn _ hdn (by simp))),rfl,zBt _,_,rfl,?_⟩;rw [qAC rfl,zC6]
     by_cases c2:o∈D
     ·rw [qAR c2];refine iteF ⟨⟨_,rfl⟩,?_,rfl⟩;rw [zEb eo (by unfold notD;simp [c2])]
     ·rw [qAW c2];refine iteT ⟨_,rfl,upd_same,by rw [qAD];exact zEl (by lia),⟨_,rfl⟩,?_,zCc⟩;rw [zDt (p:=notD J.ns L D n) eo (by unfold notD;simp [c1,c2]),qAM];rfl
    ·rw [qAW c1];refine iteF (iteF ⟨⟨_,rfl⟩,?_,rfl⟩);rw [zEb eo (by unfold notD;simp [c1])]
   ·rintro ys τ H5 ⟨_,rfl,rfl⟩;have eT:J.ns.take (J.ns.map V.str).length=J.ns:=by rw [qAD,qAf]
    rw [eT];have kB:Kp [] H4 (upd H4 B (.lst ((J.ns.filter (notD J.ns L D n)).map V.str))):=Kp.new Kp.refl hB;have h5:upd H4 B (.lst ((J.ns.filter (notD J.ns L D n)).map V.str)) B=some (.lst ((J.ns.filter (notD J.ns L D n)).map V.str)):=upd_same;generalize upd H4 B (.lst ((J.ns.filter (notD J.ns L D n)).map V.str))=H5 at kB h5;refine ⟨(by walk_at "ln"),fun q hq=>?_⟩;have kq:Kp [] H5 (upd H5 q (.lst [])):=Kp.new Kp.refl hq;have h6:=kq B _ h5 (by simp);have k46:=k4.trans (kB.trans kq)
    by_cases c:J.ns.filter (notD J.ns L D n)=[]
    ·rw [c] at h6;refine .inl ⟨_,_,_,_,rfl,rfl,SqL.of h6,SqL.of upd_same,rfl,(fun i x y h=>by simp at h),_,rfl,iteF ?_⟩;refine ⟨⟨_,_,_,rfl⟩,k46,fun x hx=>?_⟩;rw [zAi en] at hx;rcases qAN.mp hx with z| z
     ·exact hrd x z
     ·rw [qAQ.mp z];exact (rdy_law hLS hn).mp c
    ·refine .inr ⟨_,_,_,_,rfl,rfl,SqL.of h6,SqL.of upd_same,by simpa using c,_,rfl,iteT ?_⟩;refine ⟨_,rfl,_,rfl,(by walk_at "ln"),fun t ft=>?_⟩;have e:rdyB J D n=false:=Bool.eq_false_iff.mpr fun z=>c ((rdy_law hLS hn).mpr z);exact fin _ "early" _ t k46 ft (tf_early hr' hag (zFy en (by rw [e];rfl) fun x hx=>by rw [hrd x hx];rfl))
  rintro σ H4 ⟨⟨o5,o6,o7,rfl⟩,k4,hrd⟩;rw [qAD,qAf] at hrd;refine k _ H4 k4 ?_;rw [tf_none hr' hag (qBn.mpr fun x hx=>by rw [hrd x hx];simp)];rfl
end
def FAtL (H:Hp):FR->V->Prop
 | .non,w=>w= .non
 | .miss n,w=>∃t,w= .ref t/\H t=some (.tup [.str "missing",.str n])
 | .three k i v,w=>∃t,w= .ref t/\H t=some (.tup [.str k,.int i,v])
section
def spLFault:Sp:=fun vs H Q _=>∃(l d m:Addr) (b:Int) (J:JR) (la:Str->Addr) (L:Str->List Str) (ps:List (Addr×List V)),vs=[.ref l,.ref d,.int b,.ref m]/\Txs H l J.ns/\DR H d J.ns la L/\(∀n∈J.ns,∀x∈J.ns,x∈L n↔n∈J.S x)/\J.ns.length<=20/\PlR H m ps/\∀w H',Kp [] H H'->FAtL H' (zEc J b 1 [] (ps.map (·.2))) w->Q w H'
abbrev zIu:Stmt:=top 54
theorem zDb:FnScope ["_law_names_here", "_law_behind_here", "_law_benches_here", "_law_plan_here", "_law_done", "_law_k", "_law_found", "_law_name"] ["_law_names_here", "_law_behind_here", "_law_benches_here", "_law_plan_here"] (zAe zIu):=fnS
theorem ok_lfault (F:Fun K "_law_fault" "_law_fault" zIu f fd) (T:Txt K mg) (C_ltf:Cal P w K mg base "_law_turn_fault" 1 ["_law_names_here", "_law_behind_here", "_law_done", "_law_number", "_law_turn"] spLTF):FnOk P w K mg base CX0 2 f fd ["_law_names_here", "_law_behind_here", "_law_benches_here", "_law_plan_here"] spLFault:=by
 refine F.ok zDb (fun vs H Q E h=>?_) (fun cdv A outer s H vs Q E hr h=>?_)
 ·obtain ⟨l,d,m,b,J,la,L,ps,rfl,_⟩:=h;rfl
 ·obtain ⟨l,d,m,b,J,la,L,ps,rfl,hl,DD,hLS,len,R,k⟩:=h
  refine ⟨_,(zAc (psS (i:=4) zDb.nd (zA6 zAb))
   (zAc (zAz qAZ rfl (zB2 rfl T.z_range (zAa (zAj zAl (by rfl) T.z_len zBq (zAa (pv 3) zAb)) zAb)) (pgN (i:=5) zDb.nd)
    (zAc (psS (i:=6) zDb.nd (zAf C_ltf hr rfl (zAa (pv 0) (zAa (pv 1) (zAa (pv 4) (zAa (zAv zBn (pv 5) zAh) (zAa (zBg zAx (pv 3) (pv 5) (fun _ _=>rfl)) zAb)))))))
    (zAc (zA0 (zAn zI0 (pv 6) zD6 (zAr _))
     (zAd (zAm (pv 6)))
     zAk)
    (zAc (zA0 (zAn op_gt (zAj zAl (by rfl) T.z_len zBq (zAa (zBg zAx (pv 3) (pv 5) (fun _ _=>rfl)) zAb)) (pv 2) (zAr _))
     (zAd (zAm (zA9 (zAa zA4 (zAa (zAv zBn (pv 5) zAh) (zAa (zAj zAl (by rfl) T.z_len zBq (zAa (zBg zAx (pv 3) (pv 5) (fun _ _=>rfl)) zAb)) zAb))))))
     zAk)
    (zAd (psS (i:=4) zDb.nd (zAv op_cat (pv 4) (zBg zAx (pv 3) (pv 5) (fun _ _=>rfl)))))))))
   (zAc (zAz qAZ rfl (zAp (pv 0)) (pgN (i:=7) zDb.nd)
    (zAd (zA0 (zAn zC1 (pv 7) (pv 4) (by rfl))
     (zAd (zAm (zA9 (zAa zA4 (zAa (pv 7) zAb)))))
     zAk)))
   (zAd (zAm zD6))))),?_⟩
  refine ⟨(by walk_at "ln"),fun e he=>?_⟩;have k1:Kp [] H (upd H e (.lst [])):=Kp.new Kp.refl he;have e1:upd H e (.lst []) e=some (.lst (([]:List Str).map V.str)):=upd_same;generalize upd H e (.lst [])=H1 at k1 e1;have hfew:=R.few;refine ⟨_,rfl,_,_,rfl,.inl (SqL.of (k1 m _ R.top (by simp))),_,rfl,?_⟩;rw [qAD];refine ⟨by lia,by lia,?_⟩;refine zB4 (lo:=0) (n:=ps.length) (fun i σ H2=>∃(D:List Str) (e:Addr),(∃o5 o6 o7,σ=[some (.ref l),some (.ref d),some (.int b),some (.ref m),some (.ref e),o5,o6,o7])/\Kp [] H H2/\Txs H2 e D/\D.length<=100*i/\zEc J b 1 [] (ps.map (·.2))=zEc J b (1+(i:Int)) D ((ps.map (·.2)).drop i)) ⟨[],e,⟨_,_,_,rfl⟩,k1,e1,by simp,rfl⟩ ?_ ?_
  ·rintro i σ H2 hi ⟨D,e,⟨o5,o6,o7,rfl⟩,k2,h2,hDl,ef⟩;have ep:ps[i]?=some ps[i]:=qAp hi;generalize hp:ps[i]=p at ep;have mp:=qAL ep
   have em:(ps.map fun p=>V.ref p.1)[((0:Int)+(i:Int)).toNat]?=some (.ref p.1):=by
    rw [show ((0:Int)+(i:Int)).toNat=i by lia,qAY,ep];rfl
   have R2:=R.kp0 k2;have hpl:=R.each p mp;have e2:(ps.map (·.2))[i]?=some p.2:=by rw [qAY,ep];rfl
   rw [zJg e2] at ef;have ef':zEc J b 1 [] (ps.map (·.2))=match zBk J b D p.2 with| some q=>FR.three q.1 (1+(i:Int)) q.2| none=>zEc J b (1+(i:Int)+1) (D++zEp p.2) ((ps.map (·.2)).drop (i+1)):=ef
   have ek:((0:Int)+(i:Int))+1=1+(i:Int):=by lia
   refine ⟨_,rfl,_,rfl,_,rfl,_,rfl,_,_,rfl,rfl,_,rfl,_,rfl,_,_,_,_,rfl,rfl,SqL.of R2.top,zCa (by lia) em,l,d,e,p.1,_,J,la,L,D,p.2,rfl,k2 l _ hl (by simp),DD.kp0 k2,hLS,len,h2,by lia,R2.row p mp,hpl,R2.th p mp,fun u H3 k3 hu3=>?_⟩;rw [ek] at hu3;have k23:=k2.trans k3;have R3:=R2.kp0 k3
   cases c:tf0 J D p.2 with
   | some q =>
    rw [c] at hu3;obtain ⟨t,rfl,h3⟩:=hu3;refine ⟨_,rfl,rfl,_,rfl,iteT ⟨_,rfl,k _ _ k23 ?_⟩⟩;rw [ef',show zBk J b D p.2=some q by unfold zBk;rw [c];rfl];exact ⟨t,rfl,h3⟩
   | none =>
    rw [c] at hu3;have hu3:u= .non:=hu3;subst hu3;refine ⟨_,rfl,rfl,_,rfl,iteF ?_⟩;obtain ⟨r,er,hr'⟩:=tf_all c;have hrow:=R3.row p mp;refine ⟨_,rfl,_,rfl,_,_,_,_,rfl,rfl,SqL.of R3.top,zCa (by lia) em,_,_,rfl,.inl (SqL.of hrow),_,rfl,_,_,rfl,rfl,_,rfl,?_⟩;refine ite2 (fun c2=>?_) (fun c2=>?_)
    ·refine ⟨_,rfl,_,_,rfl,rfl,_,rfl,_,rfl,_,_,_,_,rfl,rfl,SqL.of R3.top,zCa (by lia) em,_,_,rfl,.inl (SqL.of hrow),(by walk_at "ln"),fun t ft=>?_⟩;refine k _ _ (k23.trans (Kp.new Kp.refl ft)) ?_;rw [ef',show zBk J b D p.2=sv "wide" (.int p.2.length) by unfold zBk wideF;rw [c,qAC (qAo c2)];rfl];refine ⟨t,rfl,?_⟩;rw [upd_same];show some (HO.tup [V.str "wide",V.int ((0:Int)+(i:Int)+1),V.int (p.2.length:Int)])=_;rw [ek]
    ·rw [show zBk J b D p.2=none by unfold zBk wideF;rw [c,qAB (fun z=>c2 (qAR z))];rfl,er,zCk,show (1+(i:Int)+1)=1+((i+1:Nat):Int) by lia] at ef';rw [er] at hrow;rw [er,qAD] at hpl;have hs:=qAO;refine ⟨_,rfl,_,rfl,_,rfl,_,_,_,_,rfl,rfl,SqL.of R3.top,zCa (by lia) em,_,_,_,_,rfl,rfl,k3 e _ h2 (by simp),hrow,by rw [qAD,qAD];lia,fun a ha=>?_⟩;refine ⟨D++r,a,⟨_,_,_,rfl⟩,k23.trans (Kp.new Kp.refl ha),?_,by rw [qAj];lia,ef'⟩;show upd _ _ _ _=some (.lst ((D++r).map V.str));rw [upd_same,qAM]
  rintro σ H2 ⟨D,e,⟨o5,o6,o7,rfl⟩,k2,h2,hDl,ef⟩;rw [qB1 (by rw [qAD];exact qAF _)] at ef;refine ⟨_,rfl,_,rfl,⟨_,SqL.of (k2 l _ hl (by simp))⟩,zAu (xs:=J.ns.map V.str) (fun i σ H4=>(∃o5 o6 o7,σ=[some (.ref l),some (.ref d),some (.int b),some (.ref m),some (.ref e),o5,o6,o7])/\H4=H2/\∀x∈J.ns.take i,x∈D) ⟨⟨_,_,_,rfl⟩,rfl,(fun x h=>nomatch h)⟩ (fun i σ H4 _ ⟨_,e,_⟩=>by subst e;exact SqL.of (k2 l _ hl (by simp))) ?_ ?_⟩
  ·rintro i v σ H4 hv ⟨⟨o5,o6,o7,rfl⟩,rfl,hin⟩;obtain ⟨n,en,rfl⟩:=zA1 hv;refine ⟨_,rfl,_,rfl,_,_,rfl,.inl (SqL.of h2),rfl,zBt _,_,rfl,?_⟩;rw [qAC rfl,zC6]
   by_cases c:n∈D
   ·rw [qAR c];refine iteF ⟨⟨_,_,_,rfl⟩,rfl,fun x hx=>?_⟩;rw [zAi en] at hx;rcases qAN.mp hx with z| z
    ·exact hin x z
    ·rw [qAQ.mp z];exact c
   ·rw [qAW c];refine iteT ⟨_,rfl,(by walk_at "ln"),fun t ft=>?_⟩;refine k _ _ (k2.trans (Kp.new Kp.refl ft)) ?_;rw [ef];show FAtL _ (match J.ns.find? fun n=>decide (n∉D) with| some n=>FR.miss n| none=>FR.non) _;rw [zFy (p:=fun n=>decide (n∉D)) en (qAR c) fun x hx=>qAW fun z=>z (hin x hx)];exact ⟨t,rfl,upd_same⟩
  ·rintro σ H4 ⟨⟨o5,o6,o7,rfl⟩,rfl,hin⟩;rw [qAD,qAf] at hin;refine k _ _ k2 ?_;rw [ef];show FAtL _ (match J.ns.find? fun n=>decide (n∉D) with| some n=>FR.miss n| none=>FR.non) _;rw [qBn.mpr fun x hx=>by simp [hin x hx]];rfl
def spTRight:Sp:=fun vs H Q _=>∃(m:Addr) (n:Str) (ps:List (Addr×List Str)),vs=[.ref m,.str n]/\PlS H m ps/\∀H',Kp [] H H'->Q (.bl true) H'
abbrev zIs:Stmt:=top 56
theorem zDz:FnScope ["_law_plan_here", "_law_name", "_law_due", "_law_k", "_law_found"] ["_law_plan_here", "_law_name"] (zAe zIs):=fnS
theorem zGd (n:Str):∀(k:Int) (rs:List (List Str)),tOf n k rs= .non\/∃i,tOf n k rs= .int i
 | _,[]=>.inl rfl
 | k,r::rs=>by
  show (if n∈r then V.int k else tOf n (k+1) rs)=_\/∃i,(if n∈r then V.int k else tOf n (k+1) rs)=_
  by_cases c:n∈r
  ·rw [qAC c];exact .inr ⟨k,rfl⟩
  ·rw [qAB c];exact zGd n (k+1) rs
theorem ok_tright (F:Fun K "_law_turn_right" "_law_turn_right" zIs f fd) (T:Txt K mg) (C_turn_of:Cal P w K mg base "turn_of" 1 ["plan", "name"] zIh):FnOk P w K mg base CX0 2 f fd ["_law_plan_here", "_law_name"] spTRight:=by
 refine F.ok zDz (fun vs H Q E h=>?_) (fun cdv A outer s H vs Q E hr h=>?_)
 ·obtain ⟨m,n,ps,rfl,_⟩:=h;rfl
 ·obtain ⟨m,n,ps,rfl,R,k⟩:=h
  refine ⟨_,(zAc (psS (i:=2) zDz.nd zD6)
   (zAc (zAz qAZ rfl (pi_revR rfl T.z_reversed zHk (zAa (zAq call_range1 (by rfl) T.z_range bo_range (zAa (zAj zAl (by rfl) T.z_len zBq (zAa (pv 0) zAb)) zAb)) zAb)) (pgN (i:=3) zDz.nd)
    (zAd (zA0 (zAn zCr (pv 1) (zBg zAx (pv 0) (pv 3) (fun _ _=>rfl)) (by rfl))
     (zAd (psS (i:=2) zDz.nd (zAv zBn (pv 3) zAh)))
     zAk)))
   (zAc (psS (i:=4) zDz.nd (zAf C_turn_of hr rfl (zAa (pv 0) (zAa (pv 1) zAb))))
   (zAd (zAm (pe_and (zCg zDd (pv 4) (pv 2) (zAr _)) (pe_one (pe_not (zAj zA7 (by rfl) T.z_isinstance zAo (zAa (pv 4) (zAa (zBm (by rfl) T.z_bool bo_bool (v:=.ty "bool") rfl) zAb))))))))))),?_⟩
  have hfew:=R.few;refine ⟨_,rfl,_,_,rfl,.inl (SqL.of R.top),_,rfl,fun rg hrg=>?_⟩;rw [qAD];have k1:Kp [] H (upd H rg (.rng 0 (ps.length:Int))):=Kp.new Kp.refl hrg;refine ⟨rg,ps.length,rfl,upd_same,by lia,?_⟩;generalize upd H rg (.rng 0 (ps.length:Int))=H1 at k1
  refine zH9 (fun i σ H2=>(∃o3 o4,σ=[some (.ref m),some (.str n),some (tOf n ((ps.length:Int) - i+1) ((ps.map (·.2)).drop (ps.length - i))),o3,o4])/\H2=H1) ⟨⟨none,none,by
   have e:(ps.map (·.2)).drop (ps.length - 0)=[]:=qB1 (by rw [qAD];lia);rw [e];rfl⟩,rfl⟩ ?_ ?_
  ·rintro i σ H2 hi ⟨⟨o3,o4,rfl⟩,rfl⟩;have ei:ps.length - (i+1)<ps.length:=by lia
   have ep:ps[ps.length - (i+1)]?=some ps[ps.length - (i+1)]:=qAp ei;generalize hp:ps[ps.length - (i+1)]=p at ep;have mp:=qAL ep;have R2:=R.kp0 k1;have en:((ps.length:Int) - 1+(i:Int)*(-1)).toNat=ps.length - (i+1):=by lia
   have em:(ps.map fun p=>V.ref p.1)[((ps.length:Int) - 1+(i:Int)*(-1)).toNat]?=some (.ref p.1):=by
    rw [en,qAY,ep];rfl
   have e2:(ps.map (·.2))[ps.length - (i+1)]?=some p.2:=by rw [qAY,ep];rfl
   have ed:(ps.map (·.2)).drop (ps.length - (i+1))=p.2::(ps.map (·.2)).drop (ps.length - i):=by
    rw [zJg e2,show ps.length - (i+1)+1=ps.length - i by lia]
   have et:tOf n ((ps.length:Int) - ((i+1:Nat):Int)+1) ((ps.map (·.2)).drop (ps.length - (i+1)))=if n∈p.2 then .int ((ps.length:Int) - 1+(i:Int)*(-1)+1) else tOf n ((ps.length:Int) - i+1) ((ps.map (·.2)).drop (ps.length - i)):=by
    rw [ed];show (if n∈p.2 then V.int _ else tOf n _ _)=_;rw [show (ps.length:Int) - ((i+1:Nat):Int)+1=(ps.length:Int) - 1+(i:Int)*(-1)+1 by lia,show (ps.length:Int) - 1+(i:Int)*(-1)+1+1=(ps.length:Int) - i+1 by lia]
   refine ⟨_,rfl,_,rfl,_,rfl,_,_,_,_,rfl,rfl,SqL.of R2.top,zCa (by lia) em,_,_,rfl,.inl (SqL.of (R2.row p mp)),rfl,zBt _,_,rfl,?_⟩;rw [qAB (by decide),zC6];refine ite2 (fun c=>?_) (fun c=>?_)
   ·rw [qAC (qAo c)] at et;refine ⟨_,rfl,_,_,rfl,rfl,⟨some (.int ((ps.length:Int) - 1+(i:Int)*(-1))),o4,?_⟩,rfl⟩;rw [et];rfl
   ·rw [qAB (fun z=>c (qAR z))] at et;refine ⟨⟨some (.int ((ps.length:Int) - 1+(i:Int)*(-1))),o4,?_⟩,rfl⟩;rw [et];rfl
  ·rintro σ H2 ⟨⟨o3,o4,rfl⟩,rfl⟩
   have e:tOf n ((ps.length:Int) - (ps.length:Nat)+1) ((ps.map (·.2)).drop (ps.length - ps.length))=tOf n 1 (ps.map (·.2)):=by
    rw [show (ps.length:Int) - (ps.length:Nat)+1=1 by lia,Nat.sub_self];rfl
   rw [e];refine ⟨_,rfl,_,rfl,m,n,ps,rfl,R.kp0 k1,fun H3 k3=>?_⟩
   have ty:∃t,TyOf K H3 (tOf n 1 (ps.map (·.2))) t/\PySem.W.kitOne K t (.type "bool")=some false:=by
    rcases zGd n 1 (ps.map (·.2)) with z| ⟨i,z⟩
    ·rw [z];exact ⟨_,TyOf.non,rfl⟩
    ·rw [z];exact ⟨_,TyOf.int i,rfl⟩
   have fl:zDs (tOf n 1 (ps.map (·.2)))=true:=by
    rcases zGd n 1 (ps.map (·.2)) with z| ⟨i,z⟩<;>rw [z]<;>rfl
   obtain ⟨t,ty,kt⟩:=ty;refine ⟨_,rfl,_,rfl,?_⟩;refine ⟨by first| exact fl| (rcases zGd n 1 (ps.map (·.2)) with z| ⟨i,z⟩<;>rw [z]<;>rfl),_,rfl,?_⟩;rw [qAR rfl];refine iteT ?_;exact ⟨_,rfl,_,_,_,_,rfl,ty,kt,_,rfl,k _ (k1.trans k3)⟩
end
theorem nxp_mid {t u:TS} {D:Ends} {r:V->Hp->Prop} {b c:St->Hp->Prop} {σ:St} (Mid:St->Hp->Prop) (h1:∀N:St->Hp->Prop,(∀σ H,Mid σ H->N σ H)->t {D with nx:=N} σ H) (h2:∀σ H,Mid σ H->u D σ H):Ends.nx {nx:=tSeq t u D,rt:=r,bk:=b,ct:=c} σ H:=seq_mid Mid h1 h2
structure PlB (H:Hp) (l:Addr) (Z T:List Addr) (ps:List (Addr×List V)) (N:Nat):Prop where
 top:H l=some (.lst (ps.map fun p=>V.ref p.1))
 row:∀p∈ps,H p.1=some (.lst p.2)
 nl:∀p∈ps,p.1≠l
 nz:∀p∈ps,p.1∉Z
 lz:l∉Z
 tz:∀b∈T,b∈Z
 th:∀p∈ps,∀v∈p.2,Fl v\/∃b∈T,v= .ref b
 od:∀b∈T,ThR H b
 few:ps.length<=N
 each:∀p∈ps,p.2.length<=N
section
variable {H H':Hp} {l:Addr} {Z T:List Addr} {ps:List (Addr×List V)} {N:Nat}
theorem PlB.kp {M:List Addr} (B:PlB H l Z T ps N) (k:Kp M H H') (h1:l∉M) (h2:∀p∈ps,p.1∉M) (h3:∀b∈T,b∉M):PlB H' l Z T ps N :=
 ⟨k _ _ B.top h1,fun p hp=>k _ _ (B.row p hp) (h2 p hp),B.nl,B.nz,B.lz,B.tz,B.th,fun b hb=>(B.od b hb).kp k (h3 b hb),B.few,B.each⟩
theorem PlB.kp0 (B:PlB H l Z T ps N) (k:Kp [] H H'):PlB H' l Z T ps N:=B.kp k (by simp) (fun _ _=>by simp) (fun _ _=>by simp)
theorem PlB.rd (B:PlB H l Z T ps N) (h:N<=100):PlR H l ps:=⟨B.top,B.row,fun p hp v hv=>by
 rcases B.th p hp v hv with z| ⟨b,hb,e⟩
 ·exact .inl z
 ·exact .inr ⟨b,e,B.od b hb⟩,qAc B.few h,fun p hp=>qAc (B.each p hp) h⟩
theorem PlB.up {N':Nat} (B:PlB H l Z T ps N) (h:N<=N'):PlB H l Z T ps N':=⟨B.top,B.row,B.nl,B.nz,B.lz,B.tz,B.th,B.od,qAc B.few h,fun p hp=>qAc (B.each p hp) h⟩
def setR (a:Addr) (ys:List V) (ps:List (Addr×List V)):List (Addr×List V):=ps.map fun p=>if p.1=a then (a,ys) else p
theorem zDg {a:Addr} {ys:List V} {q:Addr×List V} (h:q∈setR a ys ps):(q=(a,ys)/\∃p∈ps,p.1=a)\/(q∈ps/\q.1≠a):=by
 obtain ⟨p,hp,rfl⟩:=qAJ.mp h
 by_cases c:p.1=a
 ·rw [qAC c];exact .inl ⟨rfl,p,hp,c⟩
 ·rw [qAB c];exact .inr ⟨hp,c⟩
theorem setR_fst (a:Addr) (ys:List V):(setR a ys ps).map (fun p=>V.ref p.1)=ps.map fun p=>V.ref p.1:=by
 unfold setR;rw [qA1];refine qCx fun p _=>?_;show V.ref (if p.1=a then (a,ys) else p).1=_
 by_cases c:p.1=a
 ·rw [qAC c,c]
 ·rw [qAB c]
theorem PlB.set (B:PlB H l Z T ps N) {a:Addr} {ys:List V} (ha:∃p∈ps,p.1=a) (hy:∀v∈ys,Fl v\/∃b∈T,v= .ref b) (hl:ys.length<=N):PlB (upd H a (.lst ys)) l Z T (setR a ys ps) N:=by
 obtain ⟨p0,m0,e0⟩:=ha;have nla:l≠a:=fun z=>B.nl p0 m0 (by rw [e0,z]);have naz:a∉Z:=by rw [<-e0];exact B.nz p0 m0
 refine ⟨?_,fun q hq=>?_,fun q hq=>?_,fun q hq=>?_,B.lz,B.tz,fun q hq=>?_,fun b hb=>?_,?_,fun q hq=>?_⟩
 ·rw [upd_ne nla,setR_fst];exact B.top
 ·rcases zDg hq with ⟨rfl,_⟩| ⟨h1,h2⟩
  ·exact upd_same
  ·rw [upd_ne h2];exact B.row q h1
 ·rcases zDg hq with ⟨rfl,_⟩| ⟨h1,h2⟩
  ·exact nla.symm
  ·exact B.nl q h1
 ·rcases zDg hq with ⟨rfl,_⟩| ⟨h1,h2⟩
  ·exact naz
  ·exact B.nz q h1
 ·rcases zDg hq with ⟨rfl,_⟩| ⟨h1,h2⟩
  ·exact hy
  ·exact B.th q h1
 ·exact (B.od b hb).kp (Kp.put (M:=[a]) Kp.refl (by simp)) (nm1 fun z=>naz (by rw [<-z];exact B.tz b hb))
 ·unfold setR;rw [qAD];exact B.few
 ·rcases zDg hq with ⟨rfl,_⟩| ⟨h1,h2⟩
  ·exact hl
  ·exact B.each q h1
theorem zE1 {α:Type} {ps:List α} {x q:α} (h:q∈ps.take n++x::ps.drop n):q=x\/q∈ps:=by
 rcases qAN.mp h with z| z
 ·exact .inr (qBw z)
 ·rcases qAS.mp z with y| y
  ·exact .inl y
  ·exact .inr (qBv y)
theorem PlB.ins (B:PlB H l Z T ps N) {b:Addr} (n:Nat) (hb:H b=none) (hz:b∉Z):PlB (upd (upd H b (.lst [])) l (.lst ((ps.map fun p=>V.ref p.1).take n++V.ref b::(ps.map fun p=>V.ref p.1).drop n))) l Z T (ps.take n++(b,[])::ps.drop n) (N+1):=by
 have nlb:l≠b:=zAg B.top hb;refine ⟨?_,fun q hq=>?_,fun q hq=>?_,fun q hq=>?_,B.lz,B.tz,fun q hq=>?_,fun c hc=>?_,?_,fun q hq=>?_⟩
 ·rw [upd_same,qAM,qAi,qCJ,qCj]
 ·rcases zE1 hq with rfl| h
  ·rw [upd_ne nlb.symm];exact upd_same
  ·rw [upd_ne (B.nl q h),upd_ne (zAg (B.row q h) hb)];exact B.row q h
 ·rcases zE1 hq with rfl| h
  ·exact nlb.symm
  ·exact B.nl q h
 ·rcases zE1 hq with rfl| h
  ·exact hz
  ·exact B.nz q h
 ·rcases zE1 hq with rfl| h
  ·exact fun v hv=>nomatch hv
  ·exact B.th q h
 ·refine (B.od c hc).kp (M:=[b,l]) (Kp.put (Kp.put Kp.refl (by simp)) (by simp)) fun z=>?_;rcases qAS.mp z with y| y
  ·exact hz (by rw [<-y];exact B.tz c hc)
  ·exact B.lz (by rw [<-qAQ.mp y];exact B.tz c hc)
 ·have:=B.few;simp only [qAj,qAX,qAe,qBM];lia
 ·rcases zE1 hq with rfl| h
  ·exact qAg _
  ·exact Nat.le_succ_of_le (B.each q h)
end
theorem pat {ps:List (Addr×List V)} {i:Int} (h0:0<=i) (h1:i<ps.length):∃p,p∈ps/\atI (ps.map fun p=>V.ref p.1) i=some (.ref p.1):=by
 have hi:i.toNat<ps.length:=by lia
 refine ⟨ps[i.toNat],qCZ hi,zCa h0 ?_⟩;rw [qAY,qAp hi];rfl
theorem mem_insV {x:V} (h:v∈xs.take n++x::xs.drop n):v=x\/v∈xs:=zE1 h
theorem len_ins {x:V}:(xs.take n++x::xs.drop n).length=xs.length+1:=by
 simp only [qAj,qAX,qAe,qBM];lia
section
def spAny:Sp:=fun vs H Q _=>∃(p l:Addr) (ns:List Str),vs=[.ref p,.ref l]/\zBa H p/\Txs H l ns/\ns.length<=20/\∀(a:Addr) (ps:List (Addr×List V)) (H':Hp),PlB H' a [] [] ps 20->a≠p->(∀q∈ps,q.1≠p)->zBa H' p->Kp [p] H H'->Q (.ref a) H'
abbrev zEh:Stmt:=top 51
theorem zDj:FnScope ["_law_purse_here", "_law_names_here", "_law_plan_here", "_law_name", "_law_turn"] ["_law_purse_here", "_law_names_here"] (zAe zEh):=fnS
theorem ok_any_plan (F:Fun K "_law_any_plan" "_law_any_plan" zEh f fd) (T:Txt K mg) (C_take:Cal P w K mg base "_law_take" 1 ["_law_purse_here", "_law_many"] zEq):FnOk P w K mg base CX0 2 f fd ["_law_purse_here", "_law_names_here"] spAny:=by
 refine F.ok zDj (fun vs H Q E h=>?_) (fun cdv A outer s H vs Q E hr h=>?_)
 ·obtain ⟨p,l,ns,rfl,_⟩:=h;rfl
 ·obtain ⟨p,l,ns,rfl,hP,hl,hn,k⟩:=h
  refine ⟨_,(zAc (zD5 (i:=2) rfl (zBe (sc:=zAe zEh) rfl (by decide +kernel)) (Draws.own (x:= "_law_k") Draws.nil) (zB2 rfl T.z_range (zAa (zAf C_take hr rfl (zAa (pv 0) (zAa zAh zAb))) zAb)) (fun _ _ _ _=>(pgB (i:=0))) (fun _ _ _ _=>zBr) (fun _ _ _ _=>(zA6 zAb)) zDj.nd rfl rfl)
   (zAc (zAz qAZ rfl (zAp (zAv op_rep (pv 1) (zAq zEe (by rfl) T.z_int zIb (zAa (zCg (zEy hr) (pv 2) (zA6 zAb) (zAr _)) zAb)))) (pgN (i:=3) zDj.nd)
    (zAc (psS (i:=4) zDj.nd (zBg zAx (pv 2) (zAf C_take hr rfl (zAa (pv 0) (zAa (zAj zAl (by rfl) T.z_len zBq (zAa (pv 2) zAb)) zAb))) (fun _ _=>rfl)))
    (zAd (zA2 (zC5 qAt qCO qCP zDe (pv 4) (zAa (zAf C_take hr rfl (zAa (pv 0) (zAa (zAv zBn (zAj zAl (by rfl) T.z_len zBq (zAa (pv 4) zAb)) zAh) zAb))) (zAa (pv 3) zAb)))))))
   (zAd (zAm (pv 2))))),?_⟩
  have nlp:=zGg hP hl;have dp:∃o,H p=some o:=by obtain ⟨x,y,e,_⟩:=hP;exact ⟨_,e⟩
  obtain ⟨op,dp⟩:=dp;refine ⟨_,rfl,p,9,rfl,hP,by decide,by decide +kernel,fun d H1 d0 d1 P1 k1=>?_⟩;refine ⟨_,rfl,by lia,by lia,fun B hB=>comp_range0 (lo:=0) (n:=d.toNat) (fun i ys τ H2=>∃ps:List (Addr×List V),ys=ps.map (fun q=>V.ref q.1)/\(∃o0,τ=[o0])/\H2 B=some (.lst ys)/\ps.length=i/\(∀q∈ps,H2 q.1=some (.lst [])/\q.2=[]/\q.1≠B/\Fre H1 q.1)/\Kp [] H1 H2) ⟨[],rfl,⟨_,rfl⟩,upd_same,rfl,(fun q h=>nomatch h),Kp.new Kp.refl hB⟩ ?_ ?_⟩
  ·rintro i ys τ H2 hi ⟨ps,rfl,⟨o0,rfl⟩,hB2,hpl,hq,k2⟩;refine ⟨(by walk_at "ln"),fun a ha=>?_⟩;have nBa:B≠a:=zAg hB2 ha;refine ⟨(upd_ne nBa).trans hB2,by rw [qAD,qAO];lia,ps++[(a,[])],by rw [qAM];rfl,⟨_,rfl⟩,upd_same,by rw [qAj,hpl];rfl,fun q hq'=>?_,?_⟩
   ·rcases qAN.mp hq' with z| z
    ·obtain ⟨h1,h2,h3,h4⟩:=hq q z;exact ⟨by rw [upd_ne h3,upd_ne (zAg h1 ha)];exact h1,h2,h3,h4⟩
    ·rw [qAQ.mp z];exact ⟨by rw [upd_ne nBa.symm];exact upd_same,rfl,nBa.symm,k2.fre ha (by simp)⟩
   ·exact Kp.new (Kp.new k2 (k2.fre ha (by simp))) hB
  ·rintro ys τ H2 ⟨ps,rfl,_,hB2,hpl,hq,k2⟩;have hd:ps.length<=8:=by lia
   have fB1:Fre H1 B:=hB;have npB:B≠p:=by obtain ⟨x,y,e,_⟩:=P1;exact (ne_fre fB1 e).symm
   have k02:Kp [p] H H2:=k1.trans (k2.weak (by simp));have fH:∀a,Fre H1 a->Fre H a:=fun a fa=>k1.fre fa (nm1 (by obtain ⟨x,y,e,_⟩:=P1;exact (ne_fre fa e).symm));have P2:=P1.kp k2 (by simp);have B2:PlB H2 B [] [] ps 20:=⟨hB2,fun q h=>by rw [(hq q h).2.1];exact (hq q h).1,fun q h=>(hq q h).2.2.1,(fun _ _=>by simp),by simp,(fun _ h=>nomatch h),(fun q h v hv=>by rw [(hq q h).2.1] at hv;cases hv),(fun _ h=>nomatch h),by lia,fun q h=>by rw [(hq q h).2.1];exact qAg _⟩;refine ⟨_,rfl,_,rfl,(by walk_at "ln"),fun z hz=>?_⟩;have kz:Kp [] H2 (upd H2 z (.lst [])):=Kp.new Kp.refl hz;have hl2:=k02 l _ hl (nm1 nlp);have hlz:=kz l _ hl2 (by simp);have hs:=qAO
   by_cases c:ps=[]
   ·subst c;refine .inl ⟨_,_,_,_,rfl,rfl,SqL.of (kz B _ hB2 (by simp)),SqL.of upd_same,rfl,(fun i x y h=>by simp at h),.inr ⟨_,rfl,l,_,_,rfl,rfl,hlz,by decide,by decide,by show _*0<=_;lia,fun r hr'=>?_⟩⟩;have er:(List.replicate (if false=true then (1:Int) else 0).toNat (ns.map V.str)).flatten=[]:=rfl;rw [er];have kr:Kp [] (upd H2 z (.lst [])) (upd (upd H2 z (.lst [])) r (.lst [])):=Kp.new Kp.refl hr';have hrr:upd (upd H2 z (.lst [])) r (.lst []) r=some (.lst []):=upd_same;refine ⟨_,rfl,⟨_,SqL.of hrr⟩,zAu (xs:=[]) (fun i σ H3=>(∃o3 o4,σ=[some (.ref p),some (.ref l),some (.ref B),o3,o4])/\H3=_) ⟨⟨_,_,rfl⟩,rfl⟩ (fun i σ H3 _ ⟨_,e⟩=>by subst e;exact SqL.of hrr) (fun i v σ H3 hv=>by simp at hv) ?_⟩;rintro σ H3 ⟨⟨o3,o4,rfl⟩,rfl⟩;exact ⟨_,rfl,k B [] _ (B2.kp0 (kz.trans kr)) npB (fun _ h=>nomatch h) (P2.kp (kz.trans kr) (by simp)) (k02.trans ((kz.trans kr).weak (by simp)))⟩
   ·refine .inr ⟨_,_,_,_,rfl,rfl,SqL.of (kz B _ hB2 (by simp)),SqL.of upd_same,by simpa using c,.inr ⟨_,rfl,l,_,_,rfl,rfl,hlz,by decide,by decide,by rw [qAD];show _*1<=_;lia,fun r hr'=>?_⟩⟩
    have er:(List.replicate (if true=true then (1:Int) else 0).toNat (ns.map V.str)).flatten=ns.map V.str:=by
     show (List.replicate 1 (ns.map V.str)).flatten=_;simp
    rw [er];have kr:Kp [] (upd H2 z (.lst [])) (upd (upd H2 z (.lst [])) r (.lst (ns.map V.str))):=Kp.new Kp.refl hr';have hrr:upd (upd H2 z (.lst [])) r (.lst (ns.map V.str)) r=some (.lst (ns.map V.str)):=upd_same;have frr:Fre H2 r:=kz.fre hr' (by simp);have k2r:Kp [] H2 (upd (upd H2 z (.lst [])) r (.lst (ns.map V.str))):=kz.trans kr;generalize upd (upd H2 z (.lst [])) r (.lst (ns.map V.str))=H3 at k2r hrr;have nrp:r≠p:=by obtain ⟨x,y,e,_⟩:=P2;exact (ne_fre frr e).symm
    have k03:Kp [p] H H3:=k02.trans (k2r.weak (by simp));have fHr:Fre H r:=fH r (k2.fre frr (by simp));refine ⟨_,rfl,⟨_,SqL.of hrr⟩,zAu (xs:=ns.map V.str) (fun i σ H4=>∃ps':List (Addr×List V),(∃o3 o4,σ=[some (.ref p),some (.ref l),some (.ref B),o3,o4])/\PlB H4 B [] [] ps' 20/\ps'.length=ps.length/\(∀q∈ps',q.2.length<=i/\Fre H q.1/\q.1≠r)/\H4 r=some (.lst (ns.map V.str))/\zBa H4 p/\Kp [p] H H4) ⟨ps,⟨_,_,rfl⟩,B2.kp0 k2r,rfl,fun q h=>⟨by rw [(hq q h).2.1];exact qAF _,fH _ (hq q h).2.2.2,zAg (hq q h).1 frr⟩,hrr,P2.kp k2r (by simp),k03⟩ (fun i σ H4 _ ⟨_,_,_,_,_,h4,_⟩=>SqL.of h4) ?_ ?_⟩
    ·rintro i v σ H4 hv ⟨ps',⟨o3,o4,rfl⟩,B4,el,hq4,hr4,P4,k4⟩;obtain ⟨n,en,rfl⟩:=zA1 hv;have hi:i<ns.length:=(qAh.mp en).1;have npos:0<ps.length:=qCp.mpr c;refine ⟨_,rfl,_,rfl,_,rfl,_,_,rfl,.inl (SqL.of B4.top),p,_,rfl,P4,by rw [qAD,el];lia,by rw [qAD,el];exact Int.lt_of_le_of_lt (show ((ps.length:Nat):Int)<=8 by lia) (by decide +kernel),fun e H5 e0 e1 P5 k5=>?_⟩;rw [qAD,el] at e1;have nq5:∀q∈ps',q.1∉[p]:=fun q h=>nm1 (zAg dp (hq4 q h).2.1).symm;have nB5:B∉[p]:=nm1 npB;have B5:=B4.kp k5 nB5 nq5 (fun _ h=>nomatch h);obtain ⟨q,mq,eq⟩:=pat (ps:=ps') e0 (by rw [el];exact e1);obtain ⟨ql,qf,qr⟩:=hq4 q mq;have hrow:=B5.row q mq;refine ⟨_,_,_,_,rfl,rfl,SqL.of B5.top,eq,?_⟩;refine ⟨_,rfl,.inl ⟨rfl,_,SqL.of hrow⟩,_,rfl,_,rfl,_,_,rfl,.inl (SqL.of hrow),_,_,rfl,rfl,p,_,rfl,P5,by lia,Int.lt_of_le_of_lt (show ((q.2.length:Nat):Int)+1<=30 by lia) (by decide +kernel),fun g H6 g0 g1 P6 k6=>?_⟩;have B6:=B5.kp k6 nB5 nq5 (fun _ h=>nomatch h);have hrow6:=B6.row q mq;refine ⟨_,rfl,_,_,_,_,rfl,rfl,hrow6,by lia,g0,by lia,?_⟩
     have B7:=B6.set (a:=q.1) (ys:=q.2.take g.toNat++V.str n::q.2.drop g.toNat) ⟨q,mq,rfl⟩ (fun v hv=>by
      rcases mem_insV hv with rfl| h
      ·exact .inl (.inl ⟨n,rfl⟩)
      ·exact B6.th q mq v h) (by rw [len_ins];lia)
     have npq:p≠q.1:=zAg dp qf;refine ⟨_,⟨_,_,rfl⟩,B7,?_,fun q' hq'=>?_,?_,P6.kp (M:=[q.1]) (Kp.put Kp.refl (by simp)) (nm1 npq),Kp.new (k4.trans (k5.trans k6)) qf⟩
     ·unfold setR;rw [qAD];exact el
     ·rcases zDg hq' with ⟨rfl,_⟩| ⟨h1,h2⟩
      ·exact ⟨by rw [len_ins];lia,qf,qr⟩
      ·obtain ⟨a1,a2,a3⟩:=hq4 q' h1;exact ⟨by lia,a2,a3⟩
     ·rw [upd_ne (qAm qr)];exact (k5.trans k6) r _ hr4 (nm1 nrp)
    ·rintro σ H4 ⟨ps',⟨o3,o4,rfl⟩,B4,_,hq4,_,P4,k4⟩;exact ⟨_,rfl,k B ps' H4 B4 npB (fun q h=>(zAg dp (hq4 q h).2.1).symm) P4 k4⟩
end
structure PAI (X:Cx) (es:List Expr) (t:L2.TA):Prop where
 to:PA X es t
theorem pai_nil :PAI X [] tNil:=⟨zAb⟩
theorem zD8 {e:Expr} {es:List Expr} {te:TE} {t:L2.TA} (ha:PE X e te) (hr:PAI X es t) (hs:notStar e=true:=by rfl):PAI X (e::es) (tCons te t):=⟨zAa ha hr.to (star_cons hs)⟩
theorem pe_lstI {X:Cx} {es:List Expr} {t:L2.TA} {pos:Pos} (h:PAI X es t):PE X (.List es pos) (tLst t):=zA6 h.to
def oddL (l1 l2 l3 l4:Addr):List V:=[.non,.int 7,.bl true,.str "",.str "a b",.str "A",.str "zzzzzzzzz",.ref l1,.ref l2,.ref l3,.ref l4,.str "no"]
def OkV (T:List Addr) (v:V):Prop:=Fl v\/∃b∈T,v= .ref b
theorem odd_pick {l1 l2 l3 l4:Addr} {e:Int} (d0:0<=e) (d1:e<12):∃v,atI (oddL l1 l2 l3 l4) e=some v/\OkV [l1,l2,l3,l4] v:=by
 have:e=0\/e=1\/e=2\/e=3\/e=4\/e=5\/e=6\/e=7\/e=8\/e=9\/e=10\/e=11:=by lia
 rcases this with rfl| rfl| rfl| rfl| rfl| rfl| rfl| rfl| rfl| rfl| rfl| rfl
 ·exact ⟨_,rfl,.inl (.inr (.inl rfl))⟩
 ·exact ⟨_,rfl,.inl (.inr (.inr (.inr ⟨_,rfl⟩)))⟩
 ·exact ⟨_,rfl,.inl (.inr (.inr (.inl ⟨_,rfl⟩)))⟩
 ·exact ⟨_,rfl,.inl (.inl ⟨_,rfl⟩)⟩
 ·exact ⟨_,rfl,.inl (.inl ⟨_,rfl⟩)⟩
 ·exact ⟨_,rfl,.inl (.inl ⟨_,rfl⟩)⟩
 ·exact ⟨_,rfl,.inl (.inl ⟨_,rfl⟩)⟩
 ·exact ⟨_,rfl,.inr ⟨l1,by simp,rfl⟩⟩
 ·exact ⟨_,rfl,.inr ⟨l2,by simp,rfl⟩⟩
 ·exact ⟨_,rfl,.inr ⟨l3,by simp,rfl⟩⟩
 ·exact ⟨_,rfl,.inr ⟨l4,by simp,rfl⟩⟩
 ·exact ⟨_,rfl,.inl (.inl ⟨_,rfl⟩)⟩
theorem seqI {g:Int} (h0:0<=g) (h1:g<n):seqIndex? g n=some g.toNat:=by
 unfold seqIndex?;simp only [show¬g<0 by lia,qBs,h0,h1,decide_true,Bool.and_self,qBN]
structure SpI (H H2:Hp) (p a o:Addr) (T:List Addr) (os:List V) (ps:List (Addr×List V)) (N:Nat):Prop where
 B:PlB H2 a (o::T) T ps N
 ho:H2 o=some (.lst os)
 fr:∀q∈ps,Fre H q.1
 fa:Fre H a
 fz:∀b∈o::T,Fre H b
 pu:zBa H2 p
 kp:Kp [p] H H2
section
variable {H H2 H3:Hp} {p a o:Addr} {T:List Addr} {os:List V} {ps:List (Addr×List V)} {N:Nat}
theorem SpI.take {op:HO} (S:SpI H H2 p a o T os ps N) (dp:H p=some op) (k:Kp [p] H2 H3) (P3:zBa H3 p):SpI H H3 p a o T os ps N:=by
 have n:∀b,Fre H b->b∉[p]:=fun b fb=>nm1 (zAg dp fb).symm;exact ⟨S.B.kp k (n _ S.fa) (fun q hq=>n _ (S.fr q hq)) (fun b hb=>n _ (S.fz b (qAU _ hb))),k _ _ S.ho (n _ (S.fz o qAV)),S.fr,S.fa,S.fz,P3,S.kp.trans k⟩
theorem SpI.up {N':Nat} (S:SpI H H2 p a o T os ps N) (h:N<=N'):SpI H H2 p a o T os ps N':=⟨S.B.up h,S.ho,S.fr,S.fa,S.fz,S.pu,S.kp⟩
theorem both {G S:Hp->Prop} {R:Prop} (hE:∀H,S H->G H) (main:(∀H,S H->G H)->R):R:=main hE
theorem SpI.kp0 (S:SpI H H2 p a o T os ps N) (k:Kp [] H2 H3):SpI H H3 p a o T os ps N :=
 ⟨S.B.kp0 k,k _ _ S.ho (by simp),S.fr,S.fa,S.fz,S.pu.kp k (by simp),S.kp.trans (k.weak (by simp))⟩
theorem SpI.set {op:HO} (S:SpI H H2 p a o T os ps N) (dp:H p=some op) {q:Addr×List V} {ys:List V} (mq:q∈ps) (hy:∀v∈ys,OkV T v) (hl:ys.length<=N):SpI H (upd H2 q.1 (.lst ys)) p a o T os (setR q.1 ys ps) N:=by
 have fq:=S.fr q mq;refine ⟨S.B.set ⟨q,mq,rfl⟩ hy hl,?_,fun x hx=>?_,S.fa,S.fz,S.pu.kp (M:=[q.1]) (Kp.put Kp.refl (by simp)) (nm1 (zAg dp fq)),Kp.new S.kp fq⟩
 ·rw [upd_ne (fun z=>S.B.nz q mq (by rw [<-z];exact qAV))];exact S.ho
 ·rcases zDg hx with ⟨rfl,_⟩| ⟨h1,_⟩
  ·exact fq
  ·exact S.fr x h1
theorem SpI.ins {op:HO} (S:SpI H H2 p a o T os ps N) (dp:H p=some op) {b:Addr} (n:Nat) (hb:H2 b=none):SpI H (upd (upd H2 b (.lst [])) a (.lst ((ps.map fun q=>V.ref q.1).take n++V.ref b::(ps.map fun q=>V.ref q.1).drop n))) p a o T os (ps.take n++(b,[])::ps.drop n) (N+1):=by
 have hz:b∉o::T:=fun z=>by
  rcases qAS.mp z with y| y
  ·exact zAg S.ho hb y.symm
  ·rcases S.B.od b y with ⟨_,_,e⟩| ⟨_,_,e⟩| e<;>(rw [hb] at e;cases e)
 have npb:b≠p:=by obtain ⟨x,y,e,_⟩:=S.pu;exact (zAg e hb).symm
 have fb:Fre H b:=S.kp.fre hb (nm1 npb);have k1:Kp [] H2 (upd H2 b (.lst [])):=Kp.new Kp.refl hb;have nao:o≠a:=fun z=>S.B.lz (by rw [<-z];exact qAV);refine ⟨S.B.ins n hb hz,?_,fun x hx=>?_,S.fa,S.fz,(S.pu.kp k1 (by simp)).kp (M:=[a]) (Kp.put Kp.refl (by simp)) (nm1 (zAg dp S.fa)),Kp.new (Kp.new S.kp fb) S.fa⟩
 ·rw [upd_ne nao];exact k1 _ _ S.ho (by simp)
 ·rcases zE1 hx with rfl| h
  ·exact fb
  ·exact S.fr x h
end
section
def spSpoiled:Sp:=fun vs H Q _=>∃(p l m:Addr) (ns:List Str) (ps:List (Addr×List V)),vs=[.ref p,.ref l,.ref m]/\zBa H p/\Txs H l ns/\ns.length<=20/\PlB H m [] [] ps 20/\∀(a:Addr) (qs:List (Addr×List V)) (H':Hp),PlR H' a qs->a≠p->(∀q∈qs,q.1≠p)->zBa H' p->Kp [p] H H'->Q (.ref a) H'
abbrev zE8:Stmt:=top 52
theorem zBx:FnScope ["_law_purse_here", "_law_names_here", "_law_plan_here", "_law_odd", "_law_k", "_law_way", "_law_at", "_law_thing"] ["_law_purse_here", "_law_names_here", "_law_plan_here"] (zAe zE8):=fnS
theorem ok_spoiled (F:Fun K "_law_spoiled" "_law_spoiled" zE8 f fd) (T:Txt K mg) (C_take:Cal P w K mg base "_law_take" 1 ["_law_purse_here", "_law_many"] zEq):FnOk P w K mg base CX0 2 f fd ["_law_purse_here", "_law_names_here", "_law_plan_here"] spSpoiled:=by
 refine F.ok zBx (fun vs H Q E h=>?_) (fun cdv A outer s H vs Q E hr h=>?_)
 ·obtain ⟨p,l,m,ns,ps,rfl,_⟩:=h;rfl
 ·obtain ⟨p,l,m,ns,ps,rfl,hP,hl,hn,B0,k⟩:=h
  refine ⟨_,(@zAc _ _ _ _ _ (by exact (zD5 (i:=2) rfl (zBe (sc:=zAe zE8) rfl (by decide +kernel)) (Draws.own (x:= "_law_turn") Draws.nil) (zAp (pv 2)) (fun _ _ _ _=>(pgB (i:=0))) (fun _ _ _ _=>zBr) (fun _ _ _ _=>(zAq (zFm (K:=K)) (by rfl) T.z_list zBi (zAa (pv 0) zAb))) zBx.nd rfl rfl))
   (@zAc _ _ _ _ _ (@ps_set _ _ 3 _ _ _ _ (by exact zBx.nd) (by rfl) (by walk_at "lc") (@pe_lstI _ _ _ _ (zD8 zD6 (zD8 zAh (zD8 pe_bl (zD8 zA4 (zD8 zA4 (zD8 zA4 (zD8 zA4 (zD8 (by exact (zA9 zAb)) (zD8 (by exact (zA6 (zAa zA4 zAb))) (zD8 (by exact (zA9 (zAa zA4 zAb))) (zD8 (by exact zCj) (zD8 zA4 pai_nil))))))))))))) (by rfl) (by first| exact Or.inl rfl| exact Or.inr rfl))
   (@zAc _ _ _ _ _ (by exact (zAz qAZ rfl (zB2 rfl T.z_range (zAa (zAf C_take hr rfl (zAa (pv 0) (zAa zAh zAb))) zAb)) (pgN (i:=4) zBx.nd)
    (zAc (psS (i:=5) zBx.nd (zAf C_take hr rfl (zAa (pv 0) (zAa zAh zAb))))
    (zAc (psS (i:=6) zBx.nd (zAf C_take hr rfl (zAa (pv 0) (zAa (zAv zBn (zAj zAl (by rfl) T.z_len zBq (zAa (pv 2) zAb)) zAh) zAb))))
    (zAd (zA0 (PW.pt (pw_or (zAn zDd (pv 6) (zAj zAl (by rfl) T.z_len zBq (zAa (pv 2) zAb)) (zAr _)) (pw_or1 (zAn zDd (pv 5) zAh (zAr _)))))
     (zAd (zA2 (zC5 qAt qCO qCP zDe (pv 2) (zAa (pv 6) (zAa (zA6 zAb) zAb)))))
     (zAd (zA0 (PW.pt (pw_and (zAn zDd (pv 5) zAh (zAr _)) (zGx (zAn (zEy hr) (zBg zAx (pv 2) (pv 6) (fun _ _=>rfl)) (zA6 zAb) (zAr _)))))
      (zAd (zA2 (zC5 qAt PySem.F.slot_list_pop PySem.F.type_list_pop mt_popAt (zBg zAx (pv 2) (pv 6) (fun _ _=>rfl)) (zAa (zAf C_take hr rfl (zAa (pv 0) (zAa (zAj zAl (by rfl) T.z_len zBq (zAa (zBg zAx (pv 2) (pv 6) (fun _ _=>rfl)) zAb)) zAb))) zAb))))
      (zAc (psS (i:=7) zBx.nd (zBg zAx (pv 3) (zAf C_take hr rfl (zAa (pv 0) (zAa zAh zAb))) (fun _ _=>rfl)))
      (zAc (zA0 (PW.pt (pw_and (zAn (zEy hr) (pv 1) (zA6 zAb) (zAr _)) (zGx (zAn op_ne (pv 5) zAh (zAr _)))))
       (zAd (psS (i:=7) zBx.nd (zBg zAx (pv 1) (zAf C_take hr rfl (zAa (pv 0) (zAa (zAj zAl (by rfl) T.z_len zBq (zAa (pv 1) zAb)) zAb))) (fun _ _=>rfl))))
       zAk)
      (zAd (zA2 (zC5 qAt qCO qCP zDe (zBg zAx (pv 2) (pv 6) (fun _ _=>rfl)) (zAa (zAf C_take hr rfl (zAa (pv 0) (zAa (zAv zBn (zAj zAl (by rfl) T.z_len zBq (zAa (zBg zAx (pv 2) (pv 6) (fun _ _=>rfl)) zAb)) zAh) zAb))) (zAa (pv 7) zAb)))))))))))))))
   (by exact (zAd (zAm (pv 2))))))),?_⟩
  have nlp:=zGg hP hl;obtain ⟨op,dp⟩:∃o,H p=some o:=by obtain ⟨x,y,e,_⟩:=hP;exact ⟨_,e⟩
  refine ⟨_,rfl,_,rfl,⟨_,SqL.of B0.top⟩,fun a ha=>zA5 (ps.map fun q=>V.ref q.1) (fun i ys τ H2=>∃qs:List (Addr×List V),ys=qs.map (fun q=>V.ref q.1)/\(∃o0,τ=[o0])/\H2 a=some (.lst ys)/\qs.map (·.2)=(ps.take i).map (·.2)/\(∀q∈qs,H2 q.1=some (.lst q.2)/\q.1≠a/\Fre H q.1)/\Kp [] H H2) ⟨[],rfl,⟨_,rfl⟩,upd_same,rfl,(fun q h=>nomatch h),Kp.new Kp.refl ha⟩ (fun i ys τ H2 ⟨_,_,_,_,_,_,k2⟩=>SqL.of (k2 _ _ B0.top (by simp))) ?_ ?_⟩
  ·rintro i v ys τ H2 hv ⟨qs,rfl,⟨o0,rfl⟩,ha2,eq,hq,k2⟩;obtain ⟨q,e,rfl⟩:=zFt hv;have mq:=qAL e;have el:qs.length=(ps.take i).length:=by have:=qAa List.length eq;simpa using this
   refine ⟨_,rfl,_,_,rfl,.inl (SqL.of (k2 _ _ (B0.row q mq) (by simp))),fun c hc=>?_⟩;have nac:a≠c:=zAg ha2 hc;have hs:=qAO;have:=B0.few;refine ⟨(upd_ne nac).trans ha2,by rw [qAD,el,qAX];lia,qs++[(c,q.2)],by rw [qAM];rfl,⟨_,rfl⟩,upd_same,?_,fun x hx=>?_,?_⟩
   ·rw [qAM,eq,zAi e,qAM];rfl
   ·rcases qAN.mp hx with z| z
    ·obtain ⟨h1,h2,h3⟩:=hq x z;exact ⟨by rw [upd_ne h2,upd_ne (zAg h1 hc)];exact h1,h2,h3⟩
    ·rw [qAQ.mp z];exact ⟨by rw [upd_ne nac.symm];exact upd_same,nac.symm,k2.fre hc (by simp)⟩
   ·exact Kp.new (Kp.new k2 (k2.fre hc (by simp))) ha
  rintro ys τ H2 ⟨qs,rfl,_,ha2,eq,hq,k2⟩;have eT:ps.take (ps.map fun q=>V.ref q.1).length=ps:=by rw [qAD,qAf]
  rw [eT] at eq;have el:qs.length=ps.length:=by have:=qAa List.length eq;simpa using this
  have bk:∀q∈qs,∃q'∈ps,q'.2=q.2:=fun q h=>by
   have:q.2∈ps.map (·.2):=by rw [<-eq];exact qAJ.mpr ⟨q,h,rfl⟩
   exact qAJ.mp this
  refine ⟨(by walk_at "ln"),fun l1 g1=>⟨(by walk_at "ln"),fun l2 g2=>⟨(by walk_at "ln"),fun l3 g3=>fun l4 g4=>⟨(by walk_at "ln"),fun o go=>?_⟩⟩⟩⟩;have a1:Fre H2 l1:=g1;have a2:Fre (upd H2 l1 (.tup [])) l2:=g2;have a3:Fre (upd (upd H2 l1 (.tup [])) l2 (.lst [.str "a"])) l3:=g3;have a4:Fre (upd (upd (upd H2 l1 (.tup [])) l2 (.lst [.str "a"])) l3 (.tup [.str "a"])) l4:=g4;have ao:Fre (upd (upd (upd (upd H2 l1 (.tup [])) l2 (.lst [.str "a"])) l3 (.tup [.str "a"])) l4 (.dK [])) o:=go;have b1:=upd_same (H:=H2) (a:=l1) (o:=.tup []);have b2:=upd_same (H:=upd H2 l1 (.tup [])) (a:=l2) (o:=.lst [.str "a"]);have b3:=upd_same (H:=upd (upd H2 l1 (.tup [])) l2 (.lst [.str "a"])) (a:=l3) (o:=.tup [.str "a"]);have b4:=upd_same (H:=upd (upd (upd H2 l1 (.tup [])) l2 (.lst [.str "a"])) l3 (.tup [.str "a"])) (a:=l4) (o:=.dK []);have b5:=upd_same (H:=upd (upd (upd (upd H2 l1 (.tup [])) l2 (.lst [.str "a"])) l3 (.tup [.str "a"])) l4 (.dK [])) (a:=o) (o:=.lst (oddL l1 l2 l3 l4));have c1:Kp [] _ _:=Kp.new (o:=.tup []) Kp.refl a1;have c2:Kp [] _ _:=Kp.new (o:=.lst [.str "a"]) Kp.refl a2;have c3:Kp [] _ _:=Kp.new (o:=.tup [.str "a"]) Kp.refl a3;have c4:Kp [] _ _:=Kp.new (o:=.dK []) Kp.refl a4;have c5:Kp [] _ _:=Kp.new (o:=.lst (oddL l1 l2 l3 l4)) Kp.refl ao;have w1:=(c2.trans (c3.trans (c4.trans c5))) _ _ b1 (by simp);have w2:=(c3.trans (c4.trans c5)) _ _ b2 (by simp);have w3:=(c4.trans c5) _ _ b3 (by simp);have w4:=c5 _ _ b4 (by simp);have k23:=c1.trans (c2.trans (c3.trans (c4.trans c5)));have f2:Fre H2 l2:=c1.fre a2 (by simp);have f3:Fre H2 l3:=(c1.trans c2).fre a3 (by simp);have f4:Fre H2 l4:=(c1.trans (c2.trans c3)).fre a4 (by simp);have fo:Fre H2 o:=(c1.trans (c2.trans (c3.trans c4))).fre ao (by simp)
  have fz2:∀b∈[o,l1,l2,l3,l4],Fre H2 b:=fun b hb=>by
   simp only [qAS,qBQ,qBp] at hb;rcases hb with rfl| rfl| rfl| rfl| rfl
   ·exact fo
   ·exact a1
   ·exact f2
   ·exact f3
   ·exact f4
  have th0:∀q∈qs,∀v∈q.2,Fl v\/∃b∈[l1,l2,l3,l4],v= .ref b:=fun q h v hv=>by
   obtain ⟨q',m',e'⟩:=bk q h;rw [<-e'] at hv;rcases B0.th q' m' v hv with z| ⟨b,hb,_⟩
   ·exact .inl z
   ·cases hb
  have ea0:∀q∈qs,q.2.length<=20:=fun q h=>by
   obtain ⟨q',m',e'⟩:=bk q h;rw [<-e'];exact B0.each q' m'
  have od0:∀b∈[l1,l2,l3,l4],ThR _ b:=fun b hb=>by
   simp only [qAS,qBQ,qBp] at hb;rcases hb with rfl| rfl| rfl| rfl
   ·exact .inr (.inl ⟨[],by simp,w1⟩)
   ·exact .inl ⟨["a"],by simp,w2⟩
   ·exact .inr (.inl ⟨["a"],by simp,w3⟩)
   ·exact .inr (.inr w4)
  have S0:SpI H _ p a o [l1,l2,l3,l4] (oddL l1 l2 l3 l4) qs 20:=⟨⟨k23 _ _ ha2 (by simp),(fun q h=>k23 _ _ (hq q h).1 (by simp)),(fun q h=>(hq q h).2.1),(fun q h z=>zAg (hq q h).1 (fz2 _ z) rfl),(fun z=>zAg ha2 (fz2 _ z) rfl),(fun b hb=>qAU _ hb),th0,od0,(by rw [el];exact B0.few),ea0⟩,b5,(fun q h=>(hq q h).2.2),ha,(fun b hb=>k2.fre (fz2 b hb) (by simp)),hP.kp (k2.trans k23) (by simp),(k2.trans k23).weak (by simp)⟩;clear od0 w1 w2 w3 w4 k23 b1 b2 b3 b4 b5 c1 c2 c3 c4 c5;show tSeq _ _ _ _ (upd (upd (upd (upd (upd H2 l1 (.tup [])) l2 (.lst [.str "a"])) l3 (.tup [.str "a"])) l4 (.dK [])) o (.lst (oddL l1 l2 l3 l4)));generalize upd (upd (upd (upd (upd H2 l1 (.tup [])) l2 (.lst [.str "a"])) l3 (.tup [.str "a"])) l4 (.dK [])) o (.lst (oddL l1 l2 l3 l4))=H3 at S0;have big:∀n:Int,n<=1000->n<10^100:=fun n h=>Int.lt_of_le_of_lt h (by decide +kernel);have hs:=qAO;refine ⟨_,rfl,p,3,rfl,S0.pu,by decide,by decide +kernel,fun d H4 d0 d1 P4 k4=>?_⟩;have S4:=S0.take dp k4 P4;refine ⟨_,rfl,by lia,by lia,zB4 (lo:=0) (n:=d.toNat) (fun i σ H5=>∃qs',(∃o4 o5 o6 o7,σ=[some (.ref p),some (.ref l),some (.ref a),some (.ref o),o4,o5,o6,o7])/\SpI H H5 p a o [l1,l2,l3,l4] (oddL l1 l2 l3 l4) qs' (20+i)) ⟨qs,⟨_,_,_,_,rfl⟩,S4⟩ ?_ ?_⟩
  ·rintro i σ H5 hi ⟨qs',⟨o4,o5,o6,o7,rfl⟩,S5⟩;refine ⟨_,rfl,p,5,rfl,S5.pu,by decide,by decide +kernel,fun wy H6 y0 y1 P6 k6=>?_⟩;have S6:=S5.take dp k6 P6;have hf:=S6.B.few;refine ⟨_,rfl,_,rfl,_,_,rfl,.inl (SqL.of S6.B.top),_,_,rfl,rfl,p,_,rfl,P6,by lia,by rw [qAD];exact big _ (by lia),fun at' H7 t0 t1 P7 k7=>?_⟩;rw [qAD] at t1;have S7:=S6.take dp k7 P7;refine ⟨_,rfl,_,rfl,_,_,rfl,.inl (SqL.of S7.B.top),rfl,_,rfl,?_⟩;rw [qAD];refine ite2 (fun c=>?_) (fun c=>?_)
   ·refine ⟨_,rfl,.inl ⟨rfl,_,SqL.of S7.B.top⟩,_,rfl,(by walk_at "ln"),fun b hb=>?_⟩;refine ⟨_,_,_,_,rfl,rfl,(upd_ne (zAg S7.B.top hb)).trans S7.B.top,by rw [qAD];lia,t0,by rw [qAD];lia,?_⟩;exact ⟨_,⟨_,_,_,_,rfl⟩,S7.ins dp at'.toNat hb⟩
   have cn:at'≠(qs'.length:Int):=fun z=>c (by rw [z];exact qAR rfl);refine ⟨_,rfl,rfl,_,rfl,?_⟩;refine ite2 (fun c=>?_) (fun c=>?_)
   ·refine ⟨_,rfl,.inl ⟨rfl,_,SqL.of S7.B.top⟩,_,rfl,(by walk_at "ln"),fun b hb=>?_⟩;refine ⟨_,_,_,_,rfl,rfl,(upd_ne (zAg S7.B.top hb)).trans S7.B.top,by rw [qAD];lia,t0,by rw [qAD];lia,?_⟩;exact ⟨_,⟨_,_,_,_,rfl⟩,S7.ins dp at'.toNat hb⟩
   obtain ⟨q,mq,eq⟩:=pat (ps:=qs') t0 (by lia);have qe:=S7.B.each q mq;apply both (S:=fun H8=>SpI H H8 p a o [l1,l2,l3,l4] (oddL l1 l2 l3 l4) qs' (20+i))
   case main =>
    intro hE;refine ⟨_,rfl,rfl,_,rfl,?_⟩;refine ite2 (fun c2=>?_) (fun c2=>?_)
    ·refine ⟨_,rfl,_,rfl,_,_,_,_,rfl,rfl,SqL.of S7.B.top,eq,(by walk_at "ln"),fun z hz=>?_⟩;have S8:=S7.kp0 (Kp.new (l:=z) (o:=.lst []) Kp.refl hz);have hz8:upd H7 z (.lst []) z=some (.lst []):=upd_same;generalize upd H7 z (.lst [])=H8 at S8 hz8;have hrow8:=S8.B.row q mq
     by_cases c3:q.2=[]
     ·rw [c3] at hrow8;refine .inl ⟨_,_,_,_,rfl,rfl,SqL.of hrow8,SqL.of hz8,rfl,(fun i x y h=>by simp at h),_,rfl,iteF ?_⟩;exact hE H8 S8
     ·refine .inr ⟨_,_,_,_,rfl,rfl,SqL.of hrow8,SqL.of hz8,by simpa using c3,_,rfl,iteT ?_⟩;have pos:0<q.2.length:=qCp.mpr c3;refine ⟨_,rfl,_,rfl,_,_,_,_,rfl,rfl,SqL.of S8.B.top,eq,.inl ⟨rfl,_,SqL.of hrow8⟩,_,rfl,_,rfl,_,rfl,_,_,_,_,rfl,rfl,SqL.of S8.B.top,eq,_,_,rfl,.inl (SqL.of hrow8),p,_,rfl,S8.pu,by lia,big _ (by lia),fun g H9 g0 g1 P9 k9=>?_⟩;have S9:=S8.take dp k9 P9;have gl:g.toNat<q.2.length:=by lia
      refine ⟨_,_,_,g.toNat,q.2[g.toNat],rfl,rfl,S9.B.row q mq,by lia,by lia,seqI g0 g1,qAp gl,?_⟩;exact ⟨_,⟨_,_,_,_,rfl⟩,(S9.up (qBL _)).set dp mq (fun v hv=>S9.B.th q mq v (List.mem_of_mem_eraseIdx hv)) (qAc (List.length_eraseIdx_le _ _) (by lia))⟩
    ·exact hE H7 S7
   case hE =>
    intro H8 S8;refine ⟨_,rfl,_,rfl,p,12,rfl,S8.pu,by decide,by decide +kernel,fun g H9 g0 g1 P9 k9=>?_⟩;have S9:=S8.take dp k9 P9;obtain ⟨v,ev,okv⟩:=odd_pick (l1:=l1) (l2:=l2) (l3:=l3) (l4:=l4) g0 g1;refine ⟨_,_,_,_,rfl,rfl,SqL.of S9.ho,ev,?_⟩;refine nxp_mid (fun σ H'=>∃v,σ=[some (.ref p),some (.ref l),some (.ref a),some (.ref o),some (.int (0+(i:Int))),some (.int wy),some (.int at'),some v]/\OkV [l1,l2,l3,l4] v/\SpI H H' p a o [l1,l2,l3,l4] (oddL l1 l2 l3 l4) qs' (20+i)) (fun N hN=>?_) ?_
    ·refine ⟨_,rfl,(by walk_at "ln"),fun z hz=>?_⟩;have S10:=S9.kp0 (Kp.new (l:=z) (o:=.lst []) Kp.refl hz);have hz8:upd H9 z (.lst []) z=some (.lst []):=upd_same;generalize upd H9 z (.lst [])=H10 at S10 hz8;have hl10:=S10.kp l _ hl (nm1 nlp)
     by_cases c4:ns=[]
     ·rw [c4] at hl10;refine .inl ⟨_,_,_,_,rfl,rfl,SqL.of hl10,SqL.of hz8,rfl,(fun i x y h=>by simp at h),_,rfl,iteF (iteF ?_)⟩;exact hN _ _ ⟨v,rfl,okv,S10⟩
     ·refine .inr ⟨_,_,_,_,rfl,rfl,SqL.of hl10,SqL.of hz8,by simpa using c4,_,rfl,iteT ?_⟩;have pos:0<ns.length:=qCp.mpr c4;refine ⟨_,rfl,rfl,_,rfl,ite2 (fun c5=>?_) (fun c5=>?_)⟩
      ·refine ⟨_,rfl,_,rfl,_,rfl,_,_,rfl,.inl (SqL.of hl10),p,_,rfl,S10.pu,by rw [qAD];lia,by rw [qAD];exact big _ (by lia),fun g2 H11 h0 h1 P11 k11=>?_⟩;rw [qAD] at h1;have S11:=S10.take dp k11 P11;have gl:g2.toNat<ns.length:=by lia
       have en:(ns.map V.str)[g2.toNat]?=some (.str ns[g2.toNat]):=by rw [qAY,qAp gl];rfl
       exact ⟨_,_,_,_,rfl,rfl,SqL.of (S11.kp l _ hl (nm1 nlp)),zCa h0 en,hN _ _ ⟨.str ns[g2.toNat],rfl,.inl (.inl ⟨_,rfl⟩),S11⟩⟩
      ·exact hN _ _ ⟨v,rfl,okv,S10⟩
    ·rintro σ H' ⟨v,rfl,okv,S10⟩;have hrow:=S10.B.row q mq;refine ⟨_,rfl,_,rfl,_,_,_,_,rfl,rfl,SqL.of S10.B.top,eq,.inl ⟨rfl,_,SqL.of hrow⟩,_,rfl,_,rfl,_,rfl,_,_,_,_,rfl,rfl,SqL.of S10.B.top,eq,_,_,rfl,.inl (SqL.of hrow),_,_,rfl,rfl,p,_,rfl,S10.pu,by lia,big _ (by lia),fun g3 H12 i0 i1 P12 k12=>?_⟩;have S12:=S10.take dp k12 P12;refine ⟨_,rfl,_,_,_,_,rfl,rfl,S12.B.row q mq,by lia,i0,by lia,?_⟩
     exact ⟨_,⟨_,_,_,_,rfl⟩,(S12.up (qBL _)).set dp mq (fun x hx=>by
      rcases mem_insV hx with rfl| h
      ·exact okv
      ·exact S12.B.th q mq x h) (by rw [len_ins];lia)⟩
  ·rintro σ H5 ⟨qs',⟨o4,o5,o6,o7,rfl⟩,S5⟩;exact ⟨_,rfl,k a qs' H5 (S5.B.rd (by lia)) (zAg dp S5.fa).symm (fun q h=>(zAg dp (S5.fr q h)).symm) S5.pu S5.kp⟩
end
theorem DR.kpP {d p:Addr} {ns:List Str} {la:Str->Addr} {L:Str->List Str} (D:DR H d ns la L) (k:Kp [p] H H') (hp:zBa H p):DR H' d ns la L:=by
 obtain ⟨x,y,e,_⟩:=hp;refine ⟨k _ _ D.top (nm1 fun z=>?_),fun n hn=>k _ _ (D.row n hn) (nm1 fun z=>?_)⟩
 ·have:=D.top;rw [z,e] at this;cases this
 ·have:H (la n)=_:=D.row n hn;rw [z,e] at this;cases this
theorem lawB_rows (Lb:Str->List Str) (b:Nat):∀(f:Nat) (L:List Str),(lawB Lb b f L).length<=f/\∀r∈lawB Lb b f L,r.length<=L.length
 | 0,_=>⟨qAF _,fun r h=>nomatch h⟩
 | f+1,L=>by
  show (if L=[] then [] else zCl Lb b L::lawB Lb b f (zHv Lb b L)).length<=_/\∀r∈(if L=[] then [] else zCl Lb b L::lawB Lb b f (zHv Lb b L)),_
  by_cases c:L=[]
  ·rw [qAC c];exact ⟨by simp,fun r h=>nomatch h⟩
  ·rw [qAB c];obtain ⟨h1,h2⟩:=lawB_rows Lb b f (zHv Lb b L);refine ⟨by simp;lia,fun r hr=>?_⟩;rcases qAS.mp hr with z| z
   ·subst z;unfold zCl;rw [qAX];exact qAc (Nat.min_le_right _ _) (qBJ _ _)
   ·exact qAc (h2 r z) (qBJ _ _)
theorem zIc {as:List Addr} {rs:List (List Str)} {q:Addr×List Str} (h:q∈as.zip rs):∃i:Nat,as[i]?=some q.1/\rs[i]?=some q.2:=by
 obtain ⟨i,hi,rfl⟩:=qA7.mp h;rw [List.length_zip] at hi;refine ⟨i,?_,?_⟩
 ·rw [List.getElem_zip,qAp (by lia)]
 ·rw [List.getElem_zip,qAp (by lia)]
theorem RowsAt.plb {H0:Hp} {as:List Addr} {rs:List (List Str)} (R:RowsAt H0 H l as rs) (h1:rs.length<=20) (h2:∀r∈rs,r.length<=20):PlB H l [] [] ((as.zip rs).map fun q=>(q.1,q.2.map V.str)) 20:=by
 have el:(as.zip rs).map (fun q=>V.ref q.1)=as.map V.ref:=by
  rw [show (fun q:Addr×List Str=>V.ref q.1)=V.ref∘Prod.fst from rfl,<-qA1,List.map_fst_zip (qBr R.len)]
 refine ⟨?_,fun q hq=>?_,fun q hq=>?_,(fun _ _=>by simp),by simp,(fun _ h=>nomatch h),fun q hq v hv=>?_,(fun _ h=>nomatch h),?_,fun q hq=>?_⟩
 ·rw [qA1,R.top];exact qAa (fun x=>some (HO.lst x)) el.symm
 ·obtain ⟨q',m',rfl⟩:=qAJ.mp hq;obtain ⟨i,e1,e2⟩:=zIc m';exact R.row i _ _ e1 e2
 ·obtain ⟨q',m',rfl⟩:=qAJ.mp hq;obtain ⟨i,e1,e2⟩:=zIc m';exact R.ne _ (qAL e1)
 ·obtain ⟨q',m',rfl⟩:=qAJ.mp hq;obtain ⟨x,_,rfl⟩:=qAJ.mp hv;exact .inl (.inl ⟨x,rfl⟩)
 ·rw [qAD,List.length_zip];lia
 ·obtain ⟨q',m',rfl⟩:=qAJ.mp hq;obtain ⟨i,e1,e2⟩:=zIc m';rw [qAD];exact h2 _ (qAL e2)
section
def spPlan:Sp:=fun vs H Q _=>∃(p l d:Addr) (b:Int) (ns:List Str) (la:Str->Addr) (L:Str->List Str) (r:Str->Nat),vs=[.ref p,.ref l,.ref d,.int b]/\zBa H p/\Txs H l ns/\ns.length<=20/\DR H d ns la L/\1<=b/\(∀o∈ns,∀n∈ns,n∈L o->r o<r n)/\∀(a:Addr) (qs:List (Addr×List V)) (H':Hp),PlR H' a qs->a≠p->(∀q∈qs,q.1≠p)->zBa H' p->Kp [p] H H'->Q (.ref a) H'
abbrev s_plan:Stmt:=top 55
theorem zIp:FnScope ["_law_purse_here", "_law_names_here", "_law_behind_here", "_law_benches_here", "_law_plan_here"] ["_law_purse_here", "_law_names_here", "_law_behind_here", "_law_benches_here"] (zAe s_plan):=fnS
theorem ok_plan (F:Fun K "_law_plan" "_law_plan" s_plan f fd) (C_take:Cal P w K mg base "_law_take" 1 ["_law_purse_here", "_law_many"] zEq) (C_llisted:Cal P w K mg base "_law_listed" 1 ["_law_names_here", "_law_behind_here", "_law_benches_here", "_law_row_here"] spLListed) (C_row:Cal P w K mg base "_law_row" 2 ["_law_purse_here", "_law_names_here"] spLRow) (C_any:Cal P w K mg base "_law_any_plan" 2 ["_law_purse_here", "_law_names_here"] spAny) (C_spoiled:Cal P w K mg base "_law_spoiled" 2 ["_law_purse_here", "_law_names_here", "_law_plan_here"] spSpoiled):FnOk P w K mg base CX0 3 f fd ["_law_purse_here", "_law_names_here", "_law_behind_here", "_law_benches_here"] spPlan:=by
 refine F.ok zIp (fun vs H Q E h=>?_) (fun cdv A outer s H vs Q E hr h=>?_)
 ·obtain ⟨p,l,d,b,ns,la,L,r,rfl,_⟩:=h;rfl
 ·obtain ⟨p,l,d,b,ns,la,L,r,rfl,hP,hl,hn,D0,hb,hrk,k⟩:=h;have hr1:=hr.mono (j:=1) (by decide);have HR2:Room 2 _:=hr
  refine ⟨_,(zAc (zA0 (zAn zDd (zAf C_take hr1 rfl (zAa (pv 0) (zAa zAh zAb))) zAh (zAr _))
    (zAd (psS (i:=4) zIp.nd (zAf C_llisted hr1 rfl (zAa (pv 1) (zAa (pv 2) (zAa (pv 3) (zAa (zAf C_row HR2 rfl (zAa (pv 0) (zAa (pv 1) zAb))) zAb)))))))
    (zAd (psS (i:=4) zIp.nd (zAf C_any HR2 rfl (zAa (pv 0) (zAa (pv 1) zAb))))))
   (zAc (zA0 (zAn zDd (zAf C_take hr1 rfl (zAa (pv 0) (zAa zAh zAb))) zAh (zAr _))
    (zAd (psS (i:=4) zIp.nd (zAf C_spoiled HR2 rfl (zAa (pv 0) (zAa (pv 1) (zAa (pv 4) zAb))))))
    zAk)
   (zAd (zAm (pv 4))))),?_⟩
  have nlp:=zGg hP hl;refine seq_mid (fun σ H'=>∃(a:Addr) (ps:List (Addr×List V)),σ=[some (.ref p),some (.ref l),some (.ref d),some (.int b),some (.ref a)]/\PlB H' a [] [] ps 20/\a≠p/\(∀q∈ps,q.1≠p)/\zBa H' p/\Kp [p] H H') (fun N hN=>?_) ?_
  ·refine ⟨_,rfl,p,2,rfl,hP,by decide,by decide +kernel,fun d1 H1 x0 x1 P1 K1=>?_⟩;refine ⟨rfl,_,rfl,ite2 (fun c=>?_) (fun c=>?_)⟩
   ·refine ⟨_,rfl,_,rfl,_,rfl,_,rfl,_,rfl,p,l,ns,rfl,P1,K1 l _ hl (nm1 nlp),hn,fun u ws H2 fu hu2 pm P2 K2=>?_⟩;have K12:=K1.trans K2;have hwl:ws.length<=20:=by rw [pm.length_eq];exact hn
    refine ⟨l,d,u,b,ns,ws,la,L,r,rfl,(D0.kpP K1 hP).kpP K2 P1,hu2,fun n h=>pm.mem_iff.mp h,hwl,hb,fun o ho n hn' z=>hrk o (pm.mem_iff.mp ho) n (pm.mem_iff.mp hn') z,fun pl as H3 R3 k3=>?_⟩;obtain ⟨h1,h2⟩:=lawB_rows L b.toNat ws.length ws;obtain ⟨op,dp⟩:∃o,H2 p=some o:=by obtain ⟨x,y,e,_⟩:=P2;exact ⟨_,e⟩
    exact hN _ _ ⟨pl,_,rfl,R3.plb (by lia) (fun r hr=>qAc (h2 r hr) hwl),(zAg dp R3.fr).symm,fun q hq=>by
     obtain ⟨q',m',rfl⟩:=qAJ.mp hq;obtain ⟨i,e1,_⟩:=zIc m';exact (zAg dp (R3.frs _ (qAL e1))).symm,P2.kp k3 (by simp),K12.trans (k3.weak (by simp))⟩
   ·refine ⟨_,rfl,_,rfl,p,l,ns,rfl,P1,K1 l _ hl (nm1 nlp),hn,fun a ps H2 B2 na nq P2 K2=>?_⟩;exact hN _ _ ⟨a,ps,rfl,B2,na,nq,P2,K1.trans K2⟩
  ·rintro σ H1 ⟨a,ps,rfl,B1,na,nq,P1,K1⟩;refine ⟨_,rfl,p,2,rfl,P1,by decide,by decide +kernel,fun d1 H2 x0 x1 P2 K2=>?_⟩;have B2:PlB H2 a [] [] ps 20:=B1.kp K2 (nm1 na) (fun q hq=>nm1 (nq q hq)) (fun _ h=>nomatch h);refine ⟨rfl,_,rfl,ite2 (fun c=>?_) (fun c=>?_)⟩
   ·refine ⟨_,rfl,_,rfl,_,rfl,p,l,a,ns,ps,rfl,P2,(K1.trans K2) l _ hl (nm1 nlp),hn,B2,fun a' qs H3 R3 n1 n2 P3 K3=>?_⟩;exact ⟨_,rfl,k a' qs H3 R3 n1 n2 P3 (K1.trans (K2.trans K3))⟩
   ·exact ⟨_,rfl,k a ps H2 (B2.rd (by decide)) na nq P2 (K1.trans K2)⟩
end
theorem op_inTK {K:PySem.W.Frag} (hu:X.A.units+1<cLine) (hK:X.K=K:=by rfl):OpR X (compareOp .In) (rInT K false):=by subst hK;exact op_inT hu
theorem op_neTN {k:Nat} (hr:Room k X.A):OpR X (compareOp .NotEq) (fun x y H Q=>rAlE X.K 8 false x y H Q\/rNe x y H Q):=(op_neE (n:=8) (by have:=hu2 (n:=9) hr;lia)).either op_ne
abbrev zzq:List Str:=["zz", "q"]
theorem way_rank {ns:List Str} {qs:List (List Str×Addr)} {r:Str->Nat} (G:Good ns qs r) {a b:Str} (h:Way qs a b):r a<r b:=by
 have one:∀{a b:Str},TA qs a b->r a<r b:=fun {a b} h=>by
  obtain ⟨q,h1,h2,h3⟩:=h;have:=G.rk q h1;rw [h2,h3] at this;exact this
 induction h with
 | one h=>exact one h
 | more _ h ih=>exact Nat.lt_trans ih (one h)
theorem PlR.kpP {p:Addr} {ps:List (Addr×List V)} (R:PlR H l ps) (k:Kp [p] H H') (hp:zBa H p) (h1:l≠p) (h2:∀q∈ps,q.1≠p):PlR H' l ps:=by
 obtain ⟨x,y,e,_⟩:=hp;refine ⟨k _ _ R.top (nm1 h1),fun q hq=>k _ _ (R.row q hq) (nm1 (h2 q hq)),fun q hq v hv=>?_,R.few,R.each⟩;rcases R.th q hq v hv with z| ⟨a,rfl,h⟩
 ·exact .inl z
 ·refine .inr ⟨a,rfl,h.kp k (nm1 fun z=>?_)⟩;subst z;rcases h with ⟨z,hz,h⟩| ⟨z,hz,h⟩| h
  ·rw [e] at h;injection h with h;injection h with h;have:=qAa List.length h;rw [qAD] at this;simp at this;lia
  ·rw [e] at h;cases h
  ·rw [e] at h;cases h
def zGz (ns:List Str) (xs:List V):List Str:=(zEp xs).filter fun n=>decide (n∈ns)
theorem plain_map (ns:List Str):∀xs:List V,(xs.filter fun v=>zCh v ns)=(zGz ns xs).map V.str
 | []=>rfl
 | v::xs=>by
  have ih:=plain_map ns xs;unfold zGz at ih ⊢
  cases v with
  | str x =>
   show (V.str x::xs).filter _=((x::zEp xs).filter _).map V.str
   by_cases c:x∈ns
   ·rw [qBA,qAC (show zCh (.str x) ns=true from qAR c),qBA,qAC (qAR c),ih];rfl
   ·rw [qBA,qAB (show¬zCh (.str x) ns=true from fun z=>c (qAo z)),qBA,qAB (fun z=>c (qAo z)),ih]
  | _=>exact (List.filter_cons_of_neg (by intro z;cases z)).trans ih
theorem FAt.ne {K:PySem.W.Frag} {f:FR} (h1:FAt H f u) (h2:FAtL H f v):(u= .non/\v= .non)\/(∃a c xs ys,u= .ref a/\v= .ref c/\SqT K H a xs/\SqT K H c ys/\xs.length=ys.length/\(∀(i:Nat) (x y:V),xs[i]?=some x->ys[i]?=some y->AlE K H 8 x y)/\∃z,xs[1]?=some z/\((∃i,z= .int i)\/∃s,z= .str s)):=by
 cases f with
 | non=>exact .inl ⟨h1,h2⟩
 | miss n =>
  obtain ⟨t,rfl,e1⟩:=h1;obtain ⟨t',rfl,e2⟩:=h2;refine .inr ⟨t,t',_,_,rfl,rfl,SqT.of e1,SqT.of e2,rfl,fun i x y hx hy=>?_,_,rfl,.inr ⟨_,rfl⟩⟩;rw [hx] at hy;cases hy
  match i,hx with
  | 0,hx=>cases hx;exact .inl (.flat rfl)
  | 1,hx=>cases hx;exact .inl (.flat rfl)
  | i+2,hx=>simp at hx
 | three k j w =>
  obtain ⟨t,u,rfl,e1,c⟩:=h1;obtain ⟨t',rfl,e2⟩:=h2;refine .inr ⟨t,t',_,_,rfl,rfl,SqT.of e1,SqT.of e2,rfl,fun i x y hx hy=>?_,_,rfl,.inl ⟨_,rfl⟩⟩
  match i,hx,hy with
  | 0,hx,hy=>cases hx;cases hy;exact .inl (.flat rfl)
  | 1,hx,hy=>cases hx;cases hy;exact .inl (.flat rfl)
  | 2,hx,hy=>cases hx;cases hy;exact c.ald
  | i+3,hx,_=>simp at hx
theorem FAtL.kp0 {f:FR} {w:V} (h:FAtL H f w) (k:Kp [] H H'):FAtL H' f w:=by
 cases f with
 | non=>exact h
 | miss n=>obtain ⟨t,e,h⟩:=h;exact ⟨t,e,k _ _ h (by simp)⟩
 | three a i v=>obtain ⟨t,e,h⟩:=h;exact ⟨t,e,k _ _ h (by simp)⟩
theorem zH6 {ps ks:List (Addr×List V)} (R:PlR H l ps) (hk:∀q∈ks,H q.1=some (.lst q.2)) (e:ks.map (·.2)=ps.map (·.2)) (i:Nat) (x y:V) (hx:(ps.map fun p=>V.ref p.1)[i]?=some x) (hy:(ks.map fun p=>V.ref p.1)[i]?=some y):Alike K H 8 x y:=by
 obtain ⟨p,ep,rfl⟩:=zFt hx;obtain ⟨q,eq,rfl⟩:=zFt hy;have h1:(ps.map (·.2))[i]?=some p.2:=by rw [qAY,ep];rfl
 have h2:(ks.map (·.2))[i]?=some q.2:=by rw [qAY,eq];rfl
 rw [e,h1] at h2;have h2:p.2=q.2:=qAd h2;have mp:=qAL ep;refine .lists (SqL.of (R.row p mp)) (SqL.of (hk q (qAL eq))) (by rw [h2]) fun j u v hu hv=>?_;rw [<-h2,hu] at hv
 cases hv
 exact (R.th p mp u (qAL hu)).alike
section
def spRight (C:Addr):Sp:=fun vs H Q _=>∃(l m pl:Addr) (b way:Int) (ns:List Str) (qs:List (List Str×Addr)) (r:Str->Nat) (ps:List (Addr×List V)),vs=[.ref l,.ref m,.int b,.ref pl,.int way]/\Txs H l ns/\Ords H m qs/\Good ns qs r/\1<=b/\PlR H pl ps/\∀H',Kp [] H H'->Q (.bl true) H'
abbrev zFr:Stmt:=top 58
theorem zB0:FnScope ["_law_names_here", "_law_orders", "_law_benches_here", "_law_plan_here", "_law_way", "_law_jobs_here", "_law_behind_here", "_law_kept", "_law_back", "_law_many", "_law_some", "_law_due", "_law_found", "_law_plain", "_law_turn"] ["_law_names_here", "_law_orders", "_law_benches_here", "_law_plan_here", "_law_way"] (zAe zFr):=fnS
theorem ok_right (F:Fun K "_law_right" "_law_right" zFr f fd) (T:Txt K mg) (C_made:Cal P w K mg base "_law_made" 7 ["_law_way", "_law_names_here", "_law_orders"] (spMade C)) (C_behind:Cal P w K mg base "_law_behind" 1 ["_law_names_here", "_law_orders"] zGr) (C_lfault:Cal P w K mg base "_law_fault" 2 ["_law_names_here", "_law_behind_here", "_law_benches_here", "_law_plan_here"] spLFault) (C_fault:Cal P w K mg base "fault" 6 ["jobs", "benches", "plan"] (spFault C)) (C_turn_of:Cal P w K mg base "turn_of" 1 ["plan", "name"] zIh) (C_tright:Cal P w K mg base "_law_turn_right" 2 ["_law_plan_here", "_law_name"] spTRight):FnOk P w K mg base CX0 8 f fd ["_law_names_here", "_law_orders", "_law_benches_here", "_law_plan_here", "_law_way"] (spRight C):=by
 refine F.ok zB0 (fun vs H Q E h=>?_) (fun cdv A outer s H vs Q E hr h=>?_)
 ·obtain ⟨l,m,pl,b,way,ns,qs,r,ps,rfl,_⟩:=h;rfl
 ·obtain ⟨l,m,pl,b,way,ns,qs,r,ps,rfl,hl,hm,G,hb,R,k⟩:=h;have hu:=zFj hr;have hr1:=hr.mono (j:=1) (by decide);have hr2:=hr.mono (j:=2) (by decide);have hr6:=hr.mono (j:=6) (by decide);have HR7:Room 7 _:=hr
  refine ⟨_,(zAc (psS (i:=5) zB0.nd (zAf C_made HR7 rfl (zAa (pv 4) (zAa (pv 0) (zAa (pv 1) zAb)))))
   (zAc (psS (i:=6) zB0.nd (zAf C_behind hr1 rfl (zAa (pv 0) (zAa (pv 1) zAb))))
   (zAc (zD5 (i:=7) rfl (zBe (sc:=zAe zFr) rfl (by decide +kernel)) (Draws.own (x:= "_law_turn") Draws.nil) (zAp (pv 3)) (fun _ _ _ _=>(pgB (i:=0))) (fun _ _ _ _=>zBr) (fun _ _ _ _=>(zAq (zFm (K:=K)) (by rfl) T.z_list zBi (zAa (pv 0) zAb))) zB0.nd rfl rfl)
   (zAc (psS (i:=8) zB0.nd (zAq (call_listRv rfl) (by rfl) T.z_list zBi (zAa (zAq zHy (by rfl) T.z_reversed zHk (zAa (pv 3) zAb)) zAb)))
   (zAc (zAz qAZ rfl (zAp (@pe_lstI _ _ _ _ (zD8 (by exact (zA9 (zAa (pv 2) (zAa (pv 3) zAb)))) (zD8 (by exact (zA9 (zAa zAh (zAa (pv 3) zAb)))) (zD8 (by exact (zA9 (zAa (pv 2) (zAa (pv 8) zAb)))) (zD8 (by exact (zA9 (zAa (zAv zBn (pv 2) zAh) (zAa (zGh zIn (pv 3) (zIy zAh) zIz) zAb)))) (zD8 (by exact (zA9 (zAa (pv 2) (zAa (pv 3) zAb)))) pai_nil))))))) (zG0 rfl (zAt (pgN (i:=9) zB0.nd) (zAt (pgN (i:=10) zB0.nd) zCf)))
    (zAc (psS (i:=11) zB0.nd (zAf C_lfault hr2 rfl (zAa (pv 0) (zAa (pv 6) (zAa (pv 9) (zAa (pv 10) zAb))))))
    (zAc (psS (i:=12) zB0.nd (zAf C_fault hr6 rfl (zAa (pv 5) (zAa (pv 9) (zAa (pv 10) zAb)))))
    (zAd (zA0 (PW.pt (pw_or (zAn (op_neTN hr1) (pv 12) (pv 11) (zAr _)) (pw_or (zAn (op_neL hr1) (pv 3) (pv 7) (zAr _)) (pw_or1 (PW.pt (pw_and (zAn zI0 (pv 11) zD6 (zAr _)) (zGx (zBp (zAj zA7 (by rfl) T.z_isinstance zAo (zAa (zBg ix_tup (pv 12) zAh (fun _ _=>rfl)) (zAa (zBm (by rfl) T.z_bool bo_bool (v:=.ty "bool") rfl) zAb)))))))))))
     (zAd zBu)
     zAk)))))
   (zAc (zA0 (zAn zI0 (zAf C_turn_of hr1 rfl (zAa (zA6 zAb) (zAa zA4 zAb))) zD6 (zAr _))
    (zAd zBu)
    zAk)
   (zAc (psS (i:=13) zB0.nd (zA6 zAb))
   (zAc (zAz qAZ rfl (zAp (pv 3)) (pgN (i:=14) zB0.nd)
    (zAd (zA2 (zC5 qAt qCM qCN zCs (pv 13) (zAa (zBl rfl (zBe (sc:=zAe zFr) rfl (by decide +kernel)) (Draws.own (x:= "_law_thing") (dtk (i:=0) rfl Draws.nil)) (zAp (pv 14)) (fun _ _ _ _=>(pgB (i:=0))) (fun _ _ _ _=>(zDp (zAn (op_inTK (K:=K) hu) (pv 0) (pv 1) (by rfl)))) (fun _ _ _ _=>(pv 0))) zAb)))))
   (zAd (zAm (zAj (zGj _ rfl) (by rfl) T.z_all bo_all (zAa (zBl rfl (zBe (sc:=zAe zFr) rfl (by decide +kernel)) (Draws.own (x:= "_law_name") (dtk (i:=13) rfl Draws.nil)) (zAp (zAv op_cat (pv 0) (zA6 (zAa zA4 (zAa zA4 zAb))))) (fun _ _ _ _=>(pgB (i:=0))) (fun _ _ _ _=>zBr) (fun _ _ _ _=>(zAf C_tright hr2 rfl (zAa (pv 1) (zAa (pv 0) zAb))))) zAb)))))))))))),?_⟩
  have hs:=qAO;have hfew:=R.few;refine ⟨_,rfl,_,rfl,_,rfl,way,l,m,ns,qs,r,rfl,hl,hm,G,fun x J H1 A1 ens ezs k1=>?_⟩;subst ens;refine ⟨_,rfl,_,rfl,l,m,J.ns,qs,rfl,k1 l _ hl (by simp),hm.kp k1 (by simp) (by simp),G.nd,G.few,G.qfew,G.qin,fun d la L H2 D2 hL k2=>?_⟩;have hLS:∀n∈J.ns,∀x∈J.ns,x∈L n↔n∈J.S x:=fun n hn x hx=>by rw [(hL n hn).2 x,S_way A1 G ezs hx]
  have k02:=k1.trans k2;have R2:=R.kp0 k02;have A2:=A1.kp0 k2;have D2':=D2.rd;refine ⟨_,rfl,_,rfl,⟨_,SqL.of R2.top⟩,fun kp hkp=>zA5 (ps.map fun q=>V.ref q.1) (fun i ys τ H3=>∃ks:List (Addr×List V),ys=ks.map (fun q=>V.ref q.1)/\(∃o0,τ=[o0])/\H3 kp=some (.lst ys)/\ks.map (·.2)=(ps.take i).map (·.2)/\(∀q∈ks,H3 q.1=some (.lst q.2)/\q.1≠kp)/\Kp [] H2 H3) ⟨[],rfl,⟨_,rfl⟩,upd_same,rfl,(fun q h=>nomatch h),Kp.new Kp.refl hkp⟩ (fun i ys τ H3 ⟨_,_,_,_,_,_,k3⟩=>SqL.of (k3 _ _ R2.top (by simp))) ?_ ?_⟩
  ·rintro i v ys τ H3 hv ⟨ks,rfl,⟨o0,rfl⟩,h3,eq,hq,k3⟩;obtain ⟨q,e,rfl⟩:=zFt hv;have mq:=qAL e;have el:ks.length=(ps.take i).length:=by have:=qAa List.length eq;simpa using this
   refine ⟨_,rfl,_,_,rfl,.inl (SqL.of (k3 _ _ (R2.row q mq) (by simp))),fun c hc=>?_⟩;have nac:kp≠c:=zAg h3 hc;refine ⟨(upd_ne nac).trans h3,by rw [qAD,el,qAX];lia,ks++[(c,q.2)],by rw [qAM];rfl,⟨_,rfl⟩,upd_same,?_,fun y hy=>?_,?_⟩
   ·rw [qAM,eq,zAi e,qAM];rfl
   ·rcases qAN.mp hy with z| z
    ·obtain ⟨h1,h2⟩:=hq y z;exact ⟨by rw [upd_ne h2,upd_ne (zAg h1 hc)];exact h1,h2⟩
    ·rw [qAQ.mp z];exact ⟨by rw [upd_ne nac.symm];exact upd_same,nac.symm⟩
   ·exact Kp.new (Kp.new k3 (k3.fre hc (by simp))) hkp
  rintro ys τ H3 ⟨ks,rfl,_,h3,eq,hq,k3⟩;rw [qAD,qAf] at eq;have R3:=R2.kp0 k3;refine ⟨_,rfl,pl,_,rfl,R3.top,fun rv hrv=>⟨rv,pl,_,rfl,upd_same,(upd_ne (zAg R3.top hrv)).trans R3.top,fun bk hbk=>?_⟩⟩;obtain ⟨k4,h4⟩:=kp_rev hrv hbk (o':=.lst (ps.map fun p=>V.ref p.1).reverse);generalize upd (del (upd H3 rv _) rv) bk (.lst (ps.map fun p=>V.ref p.1).reverse)=H4 at k4 h4 ⊢;have R4:=R3.kp0 k4;have Rb:PlR H4 bk ps.reverse:=⟨by rw [h4,List.map_reverse],fun p hp=>R4.row p (qC8.mp hp),fun p hp=>R4.th p (qC8.mp hp),by rw [List.length_reverse];exact R.few,fun p hp=>R4.each p (qC8.mp hp)⟩;refine ⟨_,rfl,_,rfl,(by walk_at "ln"),fun t1 f1=>?_⟩;have c1:Kp [] H4 (upd H4 t1 (.tup [.int b,.ref pl])):=Kp.new Kp.refl f1;have e1:upd H4 t1 (.tup [.int b,.ref pl]) t1=some (.tup [.int b,.ref pl]):=upd_same;generalize upd H4 t1 (.tup [.int b,.ref pl])=H5 at c1 e1 ⊢;refine ⟨_,rfl,(by walk_at "ln"),fun t2 f2=>?_⟩;have c2:Kp [] H5 (upd H5 t2 (.tup [.int 1,.ref pl])):=Kp.new Kp.refl f2;have e2:upd H5 t2 (.tup [.int 1,.ref pl]) t2=some (.tup [.int 1,.ref pl]):=upd_same;generalize upd H5 t2 (.tup [.int 1,.ref pl])=H6 at c2 e2 ⊢;refine ⟨_,rfl,_,rfl,(by walk_at "ln"),fun t3 f3=>?_⟩;have c3:Kp [] H6 (upd H6 t3 (.tup [.int b,.ref bk])):=Kp.new Kp.refl f3;have e3:upd H6 t3 (.tup [.int b,.ref bk]) t3=some (.tup [.int b,.ref bk]):=upd_same;generalize upd H6 t3 (.tup [.int b,.ref bk])=H7 at c3 e3 ⊢;have R7:=R4.kp0 (c1.trans (c2.trans c3));refine ⟨_,rfl,_,_,rfl,rfl,_,rfl,_,rfl,_,_,rfl,SqL.of R7.top,fun sl fsl=>?_⟩;rw [cut_from _ (by decide)];have c4:Kp [] H7 (upd H7 sl (.lst ((ps.map fun p=>V.ref p.1).drop (1:Int).toNat))):=Kp.new Kp.refl fsl;have e4:upd H7 sl (.lst ((ps.map fun p=>V.ref p.1).drop (1:Int).toNat)) sl=some (.lst ((ps.map fun p=>V.ref p.1).drop (1:Int).toNat)):=upd_same;generalize upd H7 sl (.lst ((ps.map fun p=>V.ref p.1).drop (1:Int).toNat))=H8 at c4 e4 ⊢;refine ⟨(by walk_at "ln"),fun t4 f4=>?_⟩;have c5:Kp [] H8 (upd H8 t4 (.tup [.int (b+1),.ref sl])):=Kp.new Kp.refl f4;have e5:upd H8 t4 (.tup [.int (b+1),.ref sl]) t4=some (.tup [.int (b+1),.ref sl]):=upd_same;generalize upd H8 t4 (.tup [.int (b+1),.ref sl])=H9 at c5 e5 ⊢;refine ⟨_,rfl,_,rfl,(by walk_at "ln"),fun t5 f5=>?_⟩;have c6:Kp [] H9 (upd H9 t5 (.tup [.int b,.ref pl])):=Kp.new Kp.refl f5;have e6:upd H9 t5 (.tup [.int b,.ref pl]) t5=some (.tup [.int b,.ref pl]):=upd_same;generalize upd H9 t5 (.tup [.int b,.ref pl])=H10 at c6 e6 ⊢;refine ⟨(by walk_at "ln"),fun LL fLL=>?_⟩;have c7:Kp [] H10 (upd H10 LL (.lst [.ref t1,.ref t2,.ref t3,.ref t4,.ref t5])):=Kp.new Kp.refl fLL;have e7:upd H10 LL (.lst [.ref t1,.ref t2,.ref t3,.ref t4,.ref t5]) LL=some (.lst [.ref t1,.ref t2,.ref t3,.ref t4,.ref t5]):=upd_same
  have Rs:PlR H8 sl (ps.drop 1):=by
   have R8:=R7.kp0 c4;refine ⟨by rw [e4,qCj];rfl,fun p hp=>R8.row p (qBv hp),fun p hp=>R8.th p (qBv hp),?_,fun p hp=>R8.each p (qBv hp)⟩;rw [qBM];lia
  have five:∀v∈[V.ref t1,.ref t2,.ref t3,.ref t4,.ref t5],∃(t:Addr) (bi:Int) (mi:Addr) (psi:List (Addr×List V)),v= .ref t/\(upd H10 LL (.lst [.ref t1,.ref t2,.ref t3,.ref t4,.ref t5])) t=some (.tup [.int bi,.ref mi])/\1<=bi/\PlR (upd H10 LL (.lst [.ref t1,.ref t2,.ref t3,.ref t4,.ref t5])) mi psi:=fun v hv=>by
   have g7:=c4.trans (c5.trans (c6.trans c7));simp only [qAS,qBQ,qBp] at hv;rcases hv with rfl| rfl| rfl| rfl| rfl
   ·exact ⟨t1,b,pl,ps,rfl,(c2.trans (c3.trans g7)) _ _ e1 (by simp),hb,R7.kp0 g7⟩
   ·exact ⟨t2,1,pl,ps,rfl,(c3.trans g7) _ _ e2 (by simp),by decide,R7.kp0 g7⟩
   ·exact ⟨t3,b,bk,ps.reverse,rfl,g7 _ _ e3 (by simp),hb,Rb.kp0 (c1.trans (c2.trans (c3.trans g7)))⟩
   ·exact ⟨t4,b+1,sl,ps.drop 1,rfl,(c6.trans c7) _ _ e5 (by simp),by lia,Rs.kp0 (c5.trans (c6.trans c7))⟩
   ·exact ⟨t5,b,pl,ps,rfl,c7 _ _ e6 (by simp),hb,R7.kp0 g7⟩
  have k11:Kp [] H3 (upd H10 LL (.lst [.ref t1,.ref t2,.ref t3,.ref t4,.ref t5])):=k4.trans ((c1.trans (c2.trans c3)).trans (c4.trans (c5.trans (c6.trans c7))));generalize upd H10 LL (.lst [.ref t1,.ref t2,.ref t3,.ref t4,.ref t5])=H11 at c7 e7 five k11 ⊢;have k211:Kp [] H2 H11:=k3.trans k11;have k011:Kp [] H H11:=k02.trans k211;refine ⟨_,rfl,⟨_,SqL.of e7⟩,zAu (xs:=[.ref t1,.ref t2,.ref t3,.ref t4,.ref t5]) (fun i σ H12=>(∃o9 o10 o11 o12 o13 o14,σ=[some (.ref l),some (.ref m),some (.int b),some (.ref pl),some (.int way),some (.ref x),some (.ref d),some (.ref kp),some (.ref bk),o9,o10,o11,o12,o13,o14])/\Kp [] H11 H12) ⟨⟨_,_,_,_,_,_,rfl⟩,Kp.refl⟩ (fun i σ H12 _ ⟨_,k12⟩=>SqL.of (k12 LL _ e7 (by simp))) ?_ ?_⟩
  ·rintro i v σ H12 hv ⟨⟨o9,o10,o11,o12,o13,o14,rfl⟩,k12⟩;obtain ⟨t,bi,mi,psi,rfl,ht,hbi,Ri⟩:=five v (qAL hv);refine ⟨_,_,rfl,.inl (.inl (k12 t _ ht (by simp))),rfl,_,_,rfl,_,_,rfl,rfl,?_⟩;have k212:=k211.trans k12;refine ⟨_,rfl,_,rfl,_,rfl,_,rfl,l,d,mi,bi,J,la,L,psi,rfl,(k02.trans k212) l _ hl (by simp),D2'.kp0 k212,hLS,G.few,Ri.kp0 k12,fun w1 H13 k13 F1=>?_⟩;have k213:=k212.trans k13;refine ⟨_,rfl,_,rfl,_,rfl,x,mi,bi,J,psi,rfl,A2.kp0 k213,hbi,Ri.kp0 (k12.trans k13),fun w2 H14 k14 F2=>?_⟩;have k1114:=k12.trans (k13.trans k14);have R14:=R.kp0 (k011.trans k1114);have hk14:∀q∈ks,H14 q.1=some (.lst q.2):=fun q h=>(k11.trans k1114) _ _ (hq q h).1 (by simp);have h14:=(k11.trans k1114) kp _ h3 (by simp)
   have el:(ps.map fun p=>V.ref p.1).length=(ks.map fun p=>V.ref p.1).length:=by
    have:=qAa List.length eq;simp only [qAD] at this ⊢;exact this.symm
   rcases FAt.ne (K:=K) F2 (F1.kp0 k14) with ⟨rfl,rfl⟩| ⟨a,c,xs,ys,rfl,rfl,s1,s2,sl',al,z,ez,tz⟩
   ·refine ⟨_,rfl,_,rfl,.inr ⟨rfl,_,rfl,?_⟩⟩;rw [show (!decide (V.non=V.non))=false by simp];refine iteF ?_;refine ⟨_,rfl,_,rfl,_,_,_,_,rfl,rfl,SqL.of R14.top,SqL.of h14,el,zH6 R14 hk14 eq,_,rfl,iteF ?_⟩;refine ⟨_,rfl,rfl,_,rfl,iteF (iteF ?_)⟩;exact ⟨⟨_,_,_,_,_,_,rfl⟩,k1114⟩
   ·refine ⟨_,rfl,_,rfl,.inl ⟨a,c,xs,ys,rfl,rfl,s1,s2,sl',al,_,rfl,iteF ?_⟩⟩;refine ⟨_,rfl,_,rfl,_,_,_,_,rfl,rfl,SqL.of R14.top,SqL.of h14,el,zH6 R14 hk14 eq,_,rfl,iteF ?_⟩;refine ⟨_,rfl,rfl,_,rfl,iteT ?_⟩
    have tt:∃t,TyOf K H14 z t/\PySem.W.kitOne K t (.type "bool")=some false:=by
     rcases tz with ⟨i,rfl⟩| ⟨i,rfl⟩
     ·exact ⟨_,TyOf.int i,rfl⟩
     ·exact ⟨_,TyOf.str i,rfl⟩
    obtain ⟨tt,ty,kt⟩:=tt;refine ⟨_,rfl,_,_,_,_,rfl,rfl,s1,zCa (by decide) ez,_,_,_,_,rfl,ty,kt,_,rfl,iteF ?_⟩;exact ⟨⟨_,_,_,_,_,_,rfl⟩,k1114⟩
  rintro σ H12 ⟨⟨o9,o10,o11,o12,o13,o14,rfl⟩,k12⟩;have k012:=k011.trans k12;refine ⟨(by walk_at "ln"),fun e he=>?_⟩;have kE:Kp [] H12 (upd H12 e (.lst [])):=Kp.new Kp.refl he;refine ⟨e, "zz",[],rfl,⟨upd_same,(fun q h=>nomatch h),by simp⟩,fun H13 k13=>?_⟩;refine ⟨rfl,_,rfl,iteF ?_⟩;have k013:=k012.trans (kE.trans k13);have R13:=R.kp0 k013;refine ⟨(by walk_at "ln"),fun pn hpn=>?_⟩;have kn:Kp [] H13 (upd H13 pn (.lst [])):=Kp.new Kp.refl hpn;have fpn:Fre H13 pn:=hpn;refine ⟨_,rfl,_,rfl,⟨_,SqL.of (kn _ _ R13.top (by simp))⟩,zAu (xs:=ps.map fun p=>V.ref p.1) (fun i σ H14=>∃pss:List (Addr×List Str),(∃o9 o10 o11 o12 o14,σ=[some (.ref l),some (.ref m),some (.int b),some (.ref pl),some (.int way),some (.ref x),some (.ref d),some (.ref kp),some (.ref bk),o9,o10,o11,o12,some (.ref pn),o14])/\H14 pn=some (.lst (pss.map fun q=>V.ref q.1))/\pss.length=i/\(∀q∈pss,H14 q.1=some (.lst (q.2.map V.str))/\q.1≠pn)/\Kp [] H13 H14) ⟨[],⟨_,_,_,_,_,rfl⟩,upd_same,rfl,(fun q h=>nomatch h),kn⟩ (fun i σ H14 _ ⟨_,_,_,_,_,k14⟩=>SqL.of (k14 _ _ R13.top (by simp))) ?_ ?_⟩
  ·rintro i v σ H14 hv ⟨pss,⟨o9,o10,o11,o12,o14,rfl⟩,h14,hpl,hps,k14⟩;obtain ⟨q,eq',rfl⟩:=zFt hv;have mq:=qAL eq';have hi:i<ps.length:=(qAh.mp eq').1;have R14:=R13.kp0 k14;have hrow:=R14.row q mq;have hql:=R.each q mq;refine ⟨_,rfl,.inl ⟨rfl,_,SqL.of h14⟩,_,rfl,_,rfl,⟨_,SqL.of hrow⟩,fun B hB=>zB6 q.2 (fun j ys τ H15=>(∃o0,τ=[o0,some (.ref l)])/\ys=(q.2.take j).filter (fun v=>zCh v J.ns)/\H15=upd H14 B (.lst ys)) ⟨⟨_,rfl⟩,rfl,rfl⟩ (fun j ys τ H15 ⟨_,_,z⟩=>by subst z;exact SqL.of ((Kp.new (M:=[]) Kp.refl hB) _ _ hrow (by simp))) ?_ ?_⟩
   ·rintro j v ys τ H15 hv ⟨⟨o0,rfl⟩,rfl,rfl⟩;have kB:Kp [] H14 (upd H14 B (.lst ((q.2.take j).filter fun v=>zCh v J.ns))):=Kp.new Kp.refl hB;refine ⟨_,rfl,_,rfl,l,J.ns,rfl,SqL.of ((k013.trans (k14.trans kB)) l _ hl (by simp)),((R14.th q mq v (qAL hv)).kp0 kB).ok,_,rfl,?_⟩;rw [qAB (by decide)];refine ite2 (fun c=>?_) (fun c=>?_)
    ·refine ⟨_,rfl,upd_same,zEl (by lia),⟨_,rfl⟩,?_,zCc⟩;rw [zDt (p:=fun v=>zCh v J.ns) hv c]
    ·refine ⟨⟨_,rfl⟩,?_,rfl⟩;rw [zEb (p:=fun v=>zCh v J.ns) hv c]
   ·rintro ys τ H15 ⟨_,rfl,rfl⟩;rw [qAf,plain_map];have kB:Kp [] H14 (upd H14 B (.lst ((zGz J.ns q.2).map V.str))):=Kp.new Kp.refl hB;have hB15:upd H14 B (.lst ((zGz J.ns q.2).map V.str)) B=some (.lst ((zGz J.ns q.2).map V.str)):=upd_same;have nBp:B≠pn:=(zAg h14 hB).symm;have nBq:∀y∈pss,y.1≠B:=fun y hy=>zAg (hps y hy).1 hB;generalize upd H14 B (.lst ((zGz J.ns q.2).map V.str))=H15 at kB hB15;refine ⟨_,_,_,rfl,rfl,kB _ _ h14 (by simp),by rw [qAD];lia,?_⟩;refine ⟨pss++[(B,zGz J.ns q.2)],⟨_,_,_,_,_,rfl⟩,by rw [upd_same,qAM];rfl,by rw [qAj,hpl];rfl,fun y hy=>?_,Kp.new (k14.trans kB) fpn⟩;rcases qAN.mp hy with z| z
    ·exact ⟨by rw [upd_ne (hps y z).2];exact kB _ _ (hps y z).1 (by simp),(hps y z).2⟩
    ·rw [qAQ.mp z];exact ⟨by rw [upd_ne nBp];exact hB15,nBp⟩
  rintro σ H14 ⟨pss,⟨o9,o10,o11,o12,o14,rfl⟩,h14,hpl,hps,k14⟩;rw [qAD] at hpl;have PS:PlS H14 pn pss:=⟨h14,fun q h=>(hps q h).1,by lia⟩;have k014:=k013.trans k14;have gf:=G.few;refine ⟨_,rfl,(by walk_at "ln"),fun z1 hz1=>?_⟩;have d1:Kp [] H14 (upd H14 z1 (.lst [.str "zz",.str "q"])):=Kp.new Kp.refl hz1;have hd1:upd H14 z1 (.lst [.str "zz",.str "q"]) z1=some (.lst [.str "zz",.str "q"]):=upd_same;generalize upd H14 z1 (.lst [.str "zz",.str "q"])=H15 at d1 hd1;refine ⟨_,_,_,_,rfl,rfl,(k014.trans d1) l _ hl (by simp),hd1,by rw [qAD];show _+2<=_;lia,fun z2 hz2=>?_⟩;have d2:Kp [] H15 (upd H15 z2 (.lst (J.ns.map V.str++[.str "zz",.str "q"]))):=Kp.new Kp.refl hz2;have hd2:upd H15 z2 (.lst (J.ns.map V.str++[.str "zz",.str "q"])) z2=some (.lst ((J.ns++zzq).map V.str)):=by rw [upd_same,qAM];rfl
  generalize upd H15 z2 (.lst (J.ns.map V.str++[.str "zz",.str "q"]))=H16 at d2 hd2;have PS16:=PS.kp0 (d1.trans d2);have al:(J.ns++zzq).length<=22:=by rw [qAj];show _+2<=_;lia
  generalize J.ns++zzq=ws at hd2 al;refine ⟨_,rfl,⟨_,SqL.of hd2⟩,fun B hB=>zA5 (ws.map V.str) (fun j ys τ H17=>(∃o0,τ=[o0,some (.ref pn)])/\ys=((ws.take j).map fun _=>V.bl true)/\Kp [] H16 H17/\H17 B=some (.lst ys)) ⟨⟨_,rfl⟩,rfl,Kp.new Kp.refl hB,upd_same⟩ (fun j ys τ H17 ⟨_,_,k17,_⟩=>SqL.of (k17 _ _ hd2 (by simp))) ?_ ?_⟩
  ·rintro j v ys τ H17 hv ⟨⟨o0,rfl⟩,rfl,k17,h17⟩;obtain ⟨n,en,rfl⟩:=zA1 hv;refine ⟨_,rfl,_,rfl,pn,n,pss,rfl,PS16.kp0 k17,fun H18 k18=>?_⟩;refine ⟨k18 _ _ h17 (by simp),by rw [qAD,qAX];lia,⟨_,rfl⟩,?_,?_,upd_same⟩
   ·rw [zAi en,qAM];rfl
   ·exact Kp.new (k17.trans k18) hB
  ·rintro ys τ H17 ⟨_,rfl,k17,h17⟩;rw [qAD,qAf] at h17;refine ⟨B,ws.map fun _=>true,rfl,SqL.of ?_,?_⟩
   ·rw [h17,qA1];rfl
   have:((ws.map fun _=>true).all id)=true:=by rw [qCn,qBj];exact fun _ _=>rfl
   rw [this];exact k _ (k014.trans (d1.trans (d2.trans k17)))
def spLaw (K:PySem.W.Frag):Sp:=fun vs H Q _=>∃(a:Addr) (ns:List Int),vs=[.ref a]/\SqL K H a (ns.map V.int)/\ns.length<=63/\∀H',Q (.bl true) H'
abbrev s_law:Stmt:=top 59
theorem zGs:FnScope ["_law_script", "_law_k", "_law_names_here", "_law_orders", "_law_purse_here", "_law_benches_here", "_law_plan_here"] ["_law_script"] (zAe s_law):=fnS
theorem ok_law (F:Fun K "law" "law" s_law f fd) (T:Txt K mg) (C_cell:Cal P w K mg base "_law_cell" 1 ["_law_script", "_law_k"] (spCell K)) (C_purse:Cal P w K mg base "_law_purse" 1 ["_law_cell_here", "_law_k"] spPurse)
  (C_take:Cal P w K mg base "_law_take" 1 ["_law_purse_here", "_law_many"] zEq) (C_jobs:Cal P w K mg base "_law_jobs" 3 ["_law_purse_here", "_law_most"] spLJobs) (C_benches:Cal P w K mg base "_law_benches" 2 ["_law_purse_here"] zH1) (C_plan:Cal P w K mg base "_law_plan" 3 ["_law_purse_here", "_law_names_here", "_law_behind_here", "_law_benches_here"] spPlan) (C_behind:Cal P w K mg base "_law_behind" 1 ["_law_names_here", "_law_orders"] zGr)
  (C_right:Cal P w K mg base "_law_right" 8 ["_law_names_here", "_law_orders", "_law_benches_here", "_law_plan_here", "_law_way"] (spRight C)):FnOk P w K mg base CX0 9 f fd ["_law_script"] (spLaw K):=by
 refine F.ok zGs (fun vs H Q E h=>?_) (fun cdv A outer s H vs Q E hr h=>?_)
 ·obtain ⟨a,ns,rfl,_⟩:=h;rfl
 ·obtain ⟨sc,is,rfl,hS,hlen,k⟩:=h;have hr1:=hr.mono (j:=1) (by decide);have hr2:=hr.mono (j:=2) (by decide);have hr3:=hr.mono (j:=3) (by decide);have HR8:Room 8 _:=hr
  refine ⟨_,(zAc (zAz qAZ rfl (pi_range3 rfl T.z_range (zAa zAh (zAa (zAj (call_max2 rfl) (by rfl) T.z_max bo_max (zAa zAh (zAa (zAj (call_min2 rfl) (by rfl) T.z_min bo_min (zAa (zAj zAl (by rfl) T.z_len zBq (zAa (pv 0) zAb)) (zAa zAh zAb))) zAb))) (zAa zAh zAb)))) (pgN (i:=1) zGs.nd)
    (zAc (ps_asg (zAf C_jobs hr3 rfl (zAa (zAf C_purse hr1 rfl (zAa (zAf C_cell hr1 rfl (zAa (pv 0) (zAa (pv 1) zAb))) (zAa zAh zAb))) (zAa zAh zAb))) (zG0 rfl (zAt (pgN (i:=2) zGs.nd) (zAt (pgN (i:=3) zGs.nd) zCf))))
    (zAc (psS (i:=4) zGs.nd (zAf C_purse hr1 rfl (zAa (zAf C_cell hr1 rfl (zAa (pv 0) (zAa (zAv zBn (pv 1) zAh) zAb))) (zAa zAh zAb))))
    (zAc (psS (i:=5) zGs.nd (zAf C_benches hr2 rfl (zAa (zAf C_purse hr1 rfl (zAa (zAf C_cell hr1 rfl (zAa (pv 0) (zAa (zAv zBn (pv 1) zAh) zAb))) (zAa zAh zAb))) zAb)))
    (zAc (psS (i:=6) zGs.nd (zAf C_plan hr3 rfl (zAa (pv 4) (zAa (pv 2) (zAa (zAf C_behind hr1 rfl (zAa (pv 2) (zAa (pv 3) zAb))) (zAa (pv 5) zAb))))))
    (zAd (zA0 (zDw (zBp (zAf C_right HR8 rfl (zAa (pv 2) (zAa (pv 3) (zAa (pv 5) (zAa (pv 6) (zAa (zAf C_take hr1 rfl (zAa (pv 4) (zAa zAh zAb))) zAb))))))))
     (zAd zBu)
     zAk)))))))
   (zAd (zAm pe_bl))),?_⟩
  obtain ⟨j,ej,j0,j1⟩:∃j:Int,(if (if (18:Int)<(is.map V.int).length then (18:Int) else (is.map V.int).length)>1 then (if (18:Int)<(is.map V.int).length then (18:Int) else (is.map V.int).length) else (1:Int))=j/\0<=j/\j<1000:=⟨_,rfl,by split<;>split<;>lia,by rw [qAD];split<;>split<;>lia⟩;obtain ⟨sm,n,hn,_,_⟩:=small_by (c:=3) j0 j1 (by decide) (by decide);refine ⟨_,rfl,_,_,rfl,.inl hS,_,_,rfl,_,_,rfl,0,_,3,n,rfl,⟨by decide,by decide⟩,by rw [ej];exact sm,by rw [ej];exact hn,?_⟩;refine zH9 (fun i σ H2=>(∃o1 o2 o3 o4 o5 o6:Option V,σ=[some (.ref sc),o1,o2,o3,o4,o5,o6])/\Kp [] H H2) ⟨⟨_,_,_,_,_,_,rfl⟩,Kp.refl⟩ ?_ ?_
  ·rintro i σ H2 hi ⟨⟨o1,o2,o3,o4,o5,o6,rfl⟩,k2⟩;refine ⟨_,rfl,_,rfl,sc,is,_,rfl,k2.seq hS,by lia,fun c=>?_⟩;refine ⟨c,1,rfl,by decide,by decide,fun p H3 fp P3 k3=>?_⟩;refine ⟨p,20,rfl,by decide,by decide,P3,fun t l m ns qs r H4 _ _ ht ft fl fm fq hl hm G P4 K4=>?_⟩;have k4:Kp [] H2 H4:=Kp.drop k3 fp K4;refine ⟨_,_,rfl,.inl (.inl ht),rfl,_,_,rfl,_,_,rfl,rfl,?_⟩;refine ⟨_,rfl,_,rfl,_,_,rfl,rfl,sc,is,_,rfl,(k2.trans k4).seq hS,by lia,fun c2=>?_⟩;refine ⟨c2,3,rfl,by decide,by decide,fun p2 H5 fp2 P5 k5=>?_⟩;refine ⟨_,rfl,_,rfl,_,_,rfl,rfl,sc,is,_,rfl,(k2.trans (k4.trans k5)).seq hS,by lia,fun c3=>?_⟩;refine ⟨c3,2,rfl,by decide,by decide,fun p3 H6 fp3 P6 k6=>?_⟩;refine ⟨p3,rfl,P6,fun b H7 hb P7 K7=>?_⟩;have k57:Kp [] H5 H7:=Kp.drop k6 fp3 K7;have k47:=k5.trans k57;have P57:=P5.kp k57 (by simp);refine ⟨_,rfl,_,rfl,_,rfl,_,rfl,l,m,ns,qs,rfl,k47 l _ hl (by simp),hm.kp k47 (by simp) (by simp),G.nd,G.few,G.qfew,G.qin,fun d la L H8 D8 hL k8=>?_⟩;have k48:=k47.trans k8;have P8:=P57.kp k8 (by simp);have hrk:∀o∈ns,∀n∈ns,n∈L o->r o<r n:=fun o ho n hn z=>way_rank G (((hL o ho).2 n).mp z);refine ⟨_,rfl,p2,l,d,b,ns,la,L,r,rfl,P8,k48 l _ hl (by simp),G.few,D8.rd,hb,hrk,fun pl ps H9 R9 n1 n2 P9 K9=>?_⟩;have fp24:Fre H4 p2:=fp2;have k49:Kp [] H4 H9:=Kp.drop k48 fp24 K9;refine ⟨_,rfl,_,rfl,_,rfl,_,rfl,_,rfl,p2,3,rfl,P9,by decide,by decide +kernel,fun wy H10 w0 w1 P10 K10=>?_⟩;have k410:Kp [] H4 H10:=Kp.drop k49 fp24 K10;have R10:PlR H10 pl ps:=R9.kpP K10 P9 n1 n2;refine ⟨l,m,pl,b,wy,ns,qs,r,ps,rfl,k410 l _ hl (by simp),hm.kp k410 (by simp) (by simp),G,hb,R10,fun H11 k11=>⟨_,rfl,iteF ?_⟩⟩;exact ⟨⟨_,_,_,_,_,_,rfl⟩,k2.trans (k4.trans (k410.trans k11))⟩
  ·rintro σ H2 ⟨_,k2⟩;exact k H2
end
def Hd (K:PySem.W.Frag) (x q:Str) (st:Stmt) (f:Addr):Prop:=∃oc od kV dc pm an cd ct sl,K.lookup f=some ⟨oc,od,.func (PySem.W.fnOf x q (zB5 st) (zBs st) (zAe st) .none kV dc pm an cd ct),sl⟩/\PySem.W.codeIn K cd q=true/\PySem.W.keepIn K (.ref f)=true
def Dft (K:PySem.W.Frag) (x:Str) (st:Stmt) (f:Addr):Prop:=PySem.W.nsIn K mainGlobals x=some (some (.ref f))/\Hd K x x st f
def nnB (K:PySem.W.Frag) (x:Str):Bool:=match PySem.W.nsIn K mainGlobals x with
 | some none=>true
 | _=>false
theorem nnB_of {x:Str} {h:Heap} {mg:Str->Option Value} (X:K.In h) (G:h.Ns mainGlobals mg) {xs:List Str} (a:xs.all (nnB K)=true) (m:x∈xs):mg x=none:=by
 have e:=qBj.mp a x m;unfold nnB at e;split at e
 ·rename_i e2;exact PySem.W.mg_none_of X G e2
 ·cases e
theorem Hd.to {x q:Str} {st:Stmt} (t:Hd K x q st f):∃fd,Fun K x q st f fd:=by
 obtain ⟨_,_,_,_,_,_,_,_,_,l,c,k⟩:=t;exact ⟨_,fun_mk l c k⟩
section
variable {K:PySem.W.Frag} {x q a b c d g:Str} {st:Stmt} {f:Addr} {fd:FuncData} (F:Fun K x q st f fd)
include F
theorem _root_.L2.Fun.b1 (h:∀(kV doc pm:Value) (an:Option Addr) (cdv ct u:Value),bindArgs (PySem.W.fnOf x q (zB5 st) (zBs st) (zAe st) .none kV doc pm an cdv ct) ⟨[u],[]⟩=pure [(a,u)]:=by intros;rfl):zC9 K fd [a] []:=F.binds fun kV doc pm an cdv ct us hl=>match us,hl with| [u],_=>h kV doc pm an cdv ct u
theorem _root_.L2.Fun.b2 (h:∀(kV doc pm:Value) (an:Option Addr) (cdv ct u v:Value),bindArgs (PySem.W.fnOf x q (zB5 st) (zBs st) (zAe st) .none kV doc pm an cdv ct) ⟨[u,v],[]⟩=pure [(a,u),(b,v)]:=by intros;rfl):zC9 K fd [a,b] []:=F.binds fun kV doc pm an cdv ct us hl=>match us,hl with| [u,v],_=>h kV doc pm an cdv ct u v
theorem _root_.L2.Fun.b3 (h:∀(kV doc pm:Value) (an:Option Addr) (cdv ct u v w:Value),bindArgs (PySem.W.fnOf x q (zB5 st) (zBs st) (zAe st) .none kV doc pm an cdv ct) ⟨[u,v,w],[]⟩=pure [(a,u),(b,v),(c,w)]:=by intros;rfl):zC9 K fd [a,b,c] []:=F.binds fun kV doc pm an cdv ct us hl=>match us,hl with| [u,v,w],_=>h kV doc pm an cdv ct u v w
theorem _root_.L2.Fun.b4 (h:∀(kV doc pm:Value) (an:Option Addr) (cdv ct u v w z:Value),bindArgs (PySem.W.fnOf x q (zB5 st) (zBs st) (zAe st) .none kV doc pm an cdv ct) ⟨[u,v,w,z],[]⟩=pure [(a,u),(b,v),(c,w),(d,z)]:=by intros;rfl):zC9 K fd [a,b,c,d] []:=F.binds fun kV doc pm an cdv ct us hl=>match us,hl with| [u,v,w,z],_=>h kV doc pm an cdv ct u v w z
theorem _root_.L2.Fun.b5 (h:∀(kV doc pm:Value) (an:Option Addr) (cdv ct u v w z y:Value),bindArgs (PySem.W.fnOf x q (zB5 st) (zBs st) (zAe st) .none kV doc pm an cdv ct) ⟨[u,v,w,z,y],[]⟩=pure [(a,u),(b,v),(c,w),(d,z),(g,y)]:=by intros;rfl):zC9 K fd [a,b,c,d,g] []:=F.binds fun kV doc pm an cdv ct us hl=>match us,hl with| [u,v,w,z,y],_=>h kV doc pm an cdv ct u v w z y
end
section
variable {K:PySem.W.Frag} {mg:Str->Option Value} {x q:Str} {st:Stmt} {f:Addr} {fd:FuncData} {ps:List Str} {sp:Sp} {k:Nat} (P:Program) (w:World) (base:Heap)
theorem cal (g:mg x=some (.ref f)) (F:Fun K x q st f fd) (b:zC9 K fd ps []) (h:FnOk P w K mg base CX0 k f fd ps sp):Cal P w K mg base x k ps sp:=⟨f,fd,g,F.kp,b,h⟩
def Dfm (K:PySem.W.Frag) (C:Addr) (m q:Str) (st:Stmt) (f:Addr):Prop:=PySem.W.findIn K (.ref C) m=some (some (.ref f))/\PySem.W.isFn K (.ref f)=true/\Hd K m q st f
theorem mth {C:Addr} {m:Str} (t:Dfm K C m q st f) (F:Fun K m q st f fd) (b:zC9 K fd ps []) (h:FnOk P w K mg base CX0 k f fd ps sp):Mth P w K mg base C m k ps sp:=⟨f,fd,⟨t.1,t.2.1,F.kp⟩,b,h⟩
end
def DftD (K:PySem.W.Frag) (x:Str) (st:Stmt) (f:Addr) (dv:Int):Prop:=∃T t,PySem.W.nsIn K mainGlobals x=some (some (.ref f))/\(∃oc od kV dc pm an cd ct sl,K.lookup f=some ⟨oc,od,.func (PySem.W.fnOf x x (zB5 st) (zBs st) (zAe st) (.ref T) kV dc pm an cd ct),sl⟩/\PySem.W.codeIn K cd x=true/\PySem.W.keepIn K (.ref f)=true)/\∃To Td Tn Ts,K.lookup T=some ⟨To,Td,.seq #[.int dv t] Tn,Ts⟩
theorem all_mk {l:PySem.W.OpenLaw} {w:World} {h:Heap} {mg:Str->Option Value} {fa:Addr} (X:K.In h) (G:h.Ns mainGlobals mg) (hfa:mg "law" = some (.ref fa)) {C f0 f1 f2 f3 f4 f5 f6 f7 f8 f9 f10 f11 f12 f13 f14 f15 f16 f17 f18 f19 f20 f21 f22 f23 f24 f25 f26 f27 f28 f29 f30 f31 f32 f33 f34 f35 f36 f37 f38 f39 f40 f41 f42 f43 f44:Addr} {t_LONGEST_NAME t_MOST_JOBS:Tok}
  (aC:PySem.W.nsIn K mainGlobals "Jobs" = some (some (.ref C)))
  (l0:Dft K "_law_take" s_take f0)
  (l1:Dft K "_law_purse" s_purse f1)
  (l2:Dft K "_law_cell" s_cell f2)
  (l3:Dft K "is_name" zE9 f3)
  (l4:Dft K "is_one_of" zDl f4)
  (l5:Dft K "check_job" zEw f5)
  (l6:Dft K "check_names" zDn f6)
  (l7:Dft K "check_parts" zDm f7)
  (l8:Dft K "told_ahead" zD1 f8)
  (l9:Dft K "has_all" zFa f9)
  (l10:Dft K "joined" zIv f10)
  (l11:Dft K "all_ahead" zCp f11)
  (l12:Dfm K C "__init__" "Jobs.__init__" zB1 f12)
  (l13:Dfm K C "names" "Jobs.names" zD4 f13)
  (l14:Dfm K C "orders" "Jobs.orders" zDo f14)
  (l15:Dfm K C "ahead" "Jobs.ahead" zCz f15)
  (l16:Dfm K C "turned" "Jobs.turned" zCi f16)
  (l17:Dft K "is_whole" zFs f17)
  (l18:Dft K "check_benches" zCo f18)
  (l19:Dft K "is_ready" zEg f19)
  (l20:Dft K "take" s_ptake f20)
  (l21:DftD K "own_copy" zBf f21 12)
  (l22:Dft K "turn_fault" zD0 f22)
  (l23:Dft K "fault" s_fault f23)
  (l24:Dft K "turn_of" zGu f24)
  (l25:Dft K "jobs_text" zEv f25)
  (l26:Dft K "read_names" zD3 f26)
  (l27:Dft K "read_order" zD2 f27)
  (l28:Dft K "read_jobs" zDk f28)
  (l29:Dft K "_law_names" zIt f29)
  (l30:Dft K "_law_pairs" s_pairs f30)
  (l31:Dft K "_law_jobs" s_jobs f31)
  (l32:Dft K "_law_behind" zGe f32)
  (l33:Dft K "_law_benches" zGv f33)
  (l34:Dft K "_law_row" s_row f34)
  (l35:Dft K "_law_listed" zDc f35)
  (l36:Dft K "_law_any_plan" zEh f36)
  (l37:Dft K "_law_spoiled" zE8 f37)
  (l38:Dft K "_law_turn_fault" s_ltf f38)
  (l39:Dft K "_law_fault" zIu f39)
  (l40:Dft K "_law_plan" s_plan f40)
  (l41:Dft K "_law_turn_right" zIs f41)
  (l42:Dft K "_law_made" s_made f42)
  (l43:Dft K "_law_right" zFr f43)
  (l44:Dft K "law" s_law f44)
  (pg:PySem.W.plainGet K C Str.empty=true)
  (hd:PySem.W.hasDictIn K C=true)
  (po:PySem.W.plainOver K C=true)
  (sa:PySem.W.findIn K (.ref C) "__setattr__" = some (some (.builtin "object.__setattr__")))
  (mk:PySem.W.makesIn K C=true)
  (kc:PySem.W.keepIn K (.ref C)=true)
  (n_row:PySem.W.findIn K (.ref C) "row" = some none)
  (n_pairs:PySem.W.findIn K (.ref C) "pairs" = some none)
  (n_above:PySem.W.findIn K (.ref C) "above" = some none)
  (zz:List.all (α:=Str) ["len", "max", "range", "int", "str", "list", "all", "min", "dict", "bool", "abs", "reversed", "enumerate", "any", "isinstance", "sorted", "set", "tuple"] (nnB K)=true)
  (e_LONGEST_NAME:PySem.W.nsIn K mainGlobals "LONGEST_NAME" = some (some (.int 8 t_LONGEST_NAME)))
  (e_MOST_JOBS:PySem.W.nsIn K mainGlobals "MOST_JOBS" = some (some (.int 20 t_MOST_JOBS)))
  :∃fd:FuncData,(∀(s:Shared) (v:Value),BindsTo s fd ⟨[v],[]⟩ [("_law_script",v)])/\∀base:Heap,K.In base->base.Ns mainGlobals mg->FnOk l.prog w K mg base CX0 9 fa fd ["_law_script"] (spLaw K):=by
 have z:∀x,x∈_->mg x=none:=fun x m=>nnB_of X G zz m;have m:=fun (x:Str) (v:Value) (e:PySem.W.nsIn K mainGlobals x=some (some v))=>PySem.W.mg_of X G e;obtain ⟨a,_,_,kV,dc,pm,an,cd,ct,_,u,v,k⟩:=l44
 cases hfa.symm.trans (m _ _ a)
 have T:Txt K mg:={z_len:=z _ (by decide),z_max:=z _ (by decide),z_range:=z _ (by decide),z_int:=z _ (by decide),z_str:=z _ (by decide),z_list:=z _ (by decide),z_all:=z _ (by decide),z_min:=z _ (by decide),z_dict:=z _ (by decide),z_bool:=z _ (by decide),z_abs:=z _ (by decide),z_reversed:=z _ (by decide),z_enumerate:=z _ (by decide),z_any:=z _ (by decide),z_isinstance:=z _ (by decide),z_sorted:=z _ (by decide),z_set:=z _ (by decide),z_tuple:=z _ (by decide),c_LONGEST_NAME:=⟨_,m _ _ e_LONGEST_NAME⟩,c_MOST_JOBS:=⟨_,m _ _ e_MOST_JOBS⟩};have U:JC K mg C:=⟨⟨pg,hd,po,sa⟩,n_row,n_pairs,n_above,m _ _ aC⟩;obtain ⟨_,F0⟩:=l0.2.to;obtain ⟨_,F1⟩:=l1.2.to;obtain ⟨_,F2⟩:=l2.2.to;obtain ⟨_,F3⟩:=l3.2.to;obtain ⟨_,F4⟩:=l4.2.to;obtain ⟨_,F5⟩:=l5.2.to;obtain ⟨_,F6⟩:=l6.2.to;obtain ⟨_,F7⟩:=l7.2.to;obtain ⟨_,F8⟩:=l8.2.to;obtain ⟨_,F9⟩:=l9.2.to;obtain ⟨_,F10⟩:=l10.2.to;obtain ⟨_,F11⟩:=l11.2.to;obtain ⟨_,F12⟩:=l12.2.2.to;obtain ⟨_,F13⟩:=l13.2.2.to;obtain ⟨_,F14⟩:=l14.2.2.to;obtain ⟨_,F15⟩:=l15.2.2.to;obtain ⟨_,F16⟩:=l16.2.2.to;obtain ⟨_,F17⟩:=l17.2.to;obtain ⟨_,F18⟩:=l18.2.to;obtain ⟨_,F19⟩:=l19.2.to;obtain ⟨_,F20⟩:=l20.2.to;obtain ⟨T21,t21,a21,⟨_,_,_,_,_,_,_,_,_,u21,v21,k21⟩,_,_,_,_,d21⟩:=l21;have F21:FunD K "own_copy" "own_copy" zBf f21 _ T21 #[.int 12 t21]:=⟨⟨_,_,_,_,_,_,_,_,_,rfl,u21,v21⟩,⟨_,_,d21,rfl⟩,k21⟩;have b21:=F21.binds (ps:=["thing", "depth"]) (ds:=[]) fun _ _ _ _ _ _ us hl=>match us,hl with| [_,_],_=>⟨_,rfl,rfl⟩
 have bd21:=F21.binds (ps:=["thing", "depth"]) (ds:=[.int 12 t21]) fun _ _ _ _ _ _ us hl=>match us,(show us.length=1 by simpa using hl) with| [_],_=>⟨_,rfl,rfl⟩
 obtain ⟨_,F22⟩:=l22.2.to;obtain ⟨_,F23⟩:=l23.2.to;obtain ⟨_,F24⟩:=l24.2.to;obtain ⟨_,F25⟩:=l25.2.to;obtain ⟨_,F26⟩:=l26.2.to;obtain ⟨_,F27⟩:=l27.2.to;obtain ⟨_,F28⟩:=l28.2.to;obtain ⟨_,F29⟩:=l29.2.to;obtain ⟨_,F30⟩:=l30.2.to;obtain ⟨_,F31⟩:=l31.2.to;obtain ⟨_,F32⟩:=l32.2.to;obtain ⟨_,F33⟩:=l33.2.to;obtain ⟨_,F34⟩:=l34.2.to;obtain ⟨_,F35⟩:=l35.2.to;obtain ⟨_,F36⟩:=l36.2.to;obtain ⟨_,F37⟩:=l37.2.to;obtain ⟨_,F38⟩:=l38.2.to;obtain ⟨_,F39⟩:=l39.2.to;obtain ⟨_,F40⟩:=l40.2.to;obtain ⟨_,F41⟩:=l41.2.to;obtain ⟨_,F42⟩:=l42.2.to;obtain ⟨_,F43⟩:=l43.2.to;have F44:=fun_mk (st:=s_law) u v k;refine ⟨PySem.W.fnOf "law" "law" (zB5 s_law) (zBs s_law) (zAe s_law) .none kV dc pm an cd ct,fun s v=>.of_eq rfl,fun B _ _=>?_⟩;have C_take:=cal l.prog w B (m _ _ l0.1) F0 F0.b2 (ok_take F0);have C_purse:=cal l.prog w B (m _ _ l1.1) F1 F1.b2 (ok_purse F1 T);have C_cell:=cal l.prog w B (m _ _ l2.1) F2 F2.b2 (ok_cell F2 T);have C_is_name:=cal l.prog w B (m _ _ l3.1) F3 F3.b1 (ok_is_name F3 T);have C_is_one_of:=cal l.prog w B (m _ _ l4.1) F4 F4.b2 (ok_is_one_of F4 T);have C_oneT:=cal l.prog w B (m _ _ l4.1) F4 F4.b2 (ok_oneT F4 T);have C_check_job:=cal l.prog w B (m _ _ l5.1) F5 F5.b2 (ok_check_job F5 T C_is_one_of);have C_check_names:=cal l.prog w B (m _ _ l6.1) F6 F6.b1 (zHs F6 T C_is_name);have C_check_parts:=cal l.prog w B (m _ _ l7.1) F7 F7.b2 (zHr F7 T C_check_job);have C_told_ahead:=cal l.prog w B (m _ _ l8.1) F8 F8.b2 (zI3 F8);have C_has_all:=cal l.prog w B (m _ _ l9.1) F9 F9.b2 (ok_has_all F9 T);have C_joined:=cal l.prog w B (m _ _ l10.1) F10 F10.b2 (ok_joined F10);have C_all_ahead:=cal l.prog w B (m _ _ l11.1) F11 F11.b2 (ok_all_ahead F11 T C_has_all C_joined);have M_Jobs:Mkr l.prog w K mg B C "Jobs" 4 ["self", "names", "orders"] (spInit C):=⟨f12,_,⟨mk,l12.1,l12.2.1,kc⟩,m _ _ aC,F12.b3,(ok_Jobs_init F12 T U C_check_names C_check_parts C_all_ahead C_told_ahead)⟩;have M_names:=mth l.prog w B l13 F13 F13.b1 (zI6 F13 T U);have M_orders:=mth l.prog w B l14 F14 F14.b1 (zHu F14 T U);have M_ahead:=mth l.prog w B l15 F15 F15.b2 (zI7 F15 T U C_check_job);have M_turned:=mth l.prog w B l16 F16 F16.b1 (zHt F16 T U M_Jobs);have C_is_whole:=cal l.prog w B (m _ _ l17.1) F17 F17.b1 (ok_is_whole F17 T);have C_check_benches:=cal l.prog w B (m _ _ l18.1) F18 F18.b1 (zF9 F18 C_is_whole);have C_is_ready:=cal l.prog w B (m _ _ l19.1) F19 F19.b3 (ok_is_ready F19 T U M_ahead);have C_ptake:=cal l.prog w B (m _ _ l20.1) F20 F20.b2 (ok_ptake F20);have C_own_copyF:CalD l.prog w K mg B "own_copy" 1 ["thing", "depth"] [] zFo:=⟨f21,_,[],m _ _ a21,k21,b21,.nil,(ok_copyF F21 T)⟩;have C_own_copy:CalD l.prog w K mg B "own_copy" 2 ["thing", "depth"] [.int 12] spCopy:=⟨f21,_,[.int 12 t21],m _ _ a21,k21,bd21,.cons ⟨_,rfl⟩ .nil,(ok_copy (ok_copyF F21 T) (ok_copyL F21 T C_own_copyF) (ok_copyT F21 T C_own_copyF) (ok_copyD F21 T C_own_copyF))⟩;have C_turn_fault:=cal l.prog w B (m _ _ l22.1) F22 F22.b4 (zI2 F22 T U M_names C_oneT C_own_copy C_is_ready);have C_fault:=cal l.prog w B (m _ _ l23.1) F23 F23.b3 (ok_fault F23 T U M_names C_check_benches C_turn_fault C_ptake);have C_turn_of:=cal l.prog w B (m _ _ l24.1) F24 F24.b2 (ok_turn_of F24 T);have C_jobs_text:=cal l.prog w B (m _ _ l25.1) F25 F25.b1 (ok_jobs_text F25 U M_names M_orders);have C_read_names:=cal l.prog w B (m _ _ l26.1) F26 F26.b2 (zI5 F26 C_is_name);have C_read_order:=cal l.prog w B (m _ _ l27.1) F27 F27.b1 (zI4 F27 T C_read_names);have C_read_jobs:=cal l.prog w B (m _ _ l28.1) F28 F28.b1 (ok_read_jobs F28 T C_read_names C_read_order M_Jobs);have C_lnames:=cal l.prog w B (m _ _ l29.1) F29 F29.b2 (ok_names F29 T C_take);have C_pairs:=cal l.prog w B (m _ _ l30.1) F30 F30.b4 (ok_pairs F30 T C_take);have C_jobs:=cal l.prog w B (m _ _ l31.1) F31 F31.b2 (ok_jobs F31 T C_take C_lnames C_pairs);have C_lbehind:=cal l.prog w B (m _ _ l32.1) F32 F32.b2 (ok_behind F32 T);have C_benches:=cal l.prog w B (m _ _ l33.1) F33 F33.b1 (ok_benches F33 C_take);have C_row:=cal l.prog w B (m _ _ l34.1) F34 F34.b2 (ok_row F34 T C_take);have C_llisted:=cal l.prog w B (m _ _ l35.1) F35 F35.b4 (ok_llisted F35 T);have C_any:=cal l.prog w B (m _ _ l36.1) F36 F36.b2 (ok_any_plan F36 T C_take);have C_spoiled:=cal l.prog w B (m _ _ l37.1) F37 F37.b3 (ok_spoiled F37 T C_take);have C_ltf:=cal l.prog w B (m _ _ l38.1) F38 F38.b5 (ok_ltf F38 T);have C_lfault:=cal l.prog w B (m _ _ l39.1) F39 F39.b4 (ok_lfault F39 T C_ltf);have C_plan:=cal l.prog w B (m _ _ l40.1) F40 F40.b4 (ok_plan F40 C_take C_llisted C_row C_any C_spoiled);have C_tright:=cal l.prog w B (m _ _ l41.1) F41 F41.b2 (ok_tright F41 T C_turn_of);have C_made:=cal l.prog w B (m _ _ l42.1) F42 F42.b3 (ok_made F42 T U C_jobs_text C_read_jobs M_Jobs M_turned);have C_right:=cal l.prog w B (m _ _ l43.1) F43 F43.b5 (ok_right F43 T C_made C_lbehind C_lfault C_fault C_turn_of C_tright);exact ok_law F44 T C_cell C_purse C_take C_jobs C_benches C_plan C_lbehind C_right
theorem walk {l:PySem.W.OpenLaw} {q:Program} {loose:List Str} {XP:(Str->Option Value)->Heap->Prop} {YP:World->Heap->Prop} {d:DefRec} {K:Params->PySem.W.Frag} (hn:l.most=some 63) (hdf:d.params.defaults=[])
  (hY:∀(w:World) (h:Heap),YP w h->(K w.params).In h)
  (F:∀(w:World) (mg:Str->Option Value) (fa:Addr) (h:Heap),(K w.params).In h->h.Ns mainGlobals mg->mg d.name=some (.ref fa) ->
   ∃fd:FuncData,(∀(s:Shared) (u:Value),BindsTo s fd ⟨[u],[]⟩ [("_law_script",u)])/\∀base:Heap,(K w.params).In base->base.Ns mainGlobals mg->FnOk l.prog w (K w.params) mg base CX0 9 fa fd ["_law_script"] (spLaw (K w.params))) :
  PySem.W.WalkO q loose XP YP l.row.toRowW d [] (fun f vs=>PySem.call f vs) :=
 L2.walk_of (n:=63) (k:=9) (x:= "_law_script") (CX:=fun _=>CX0) (sp:=fun w=>spLaw (K w.params)) hn (by decide) hdf ⟨rfl,by decide,by decide,rfl⟩ hY F (fun _ _ a ns hl _ hS=>⟨a,ns,rfl,hS,hl,fun _=>rfl⟩) fun _ _ _ _ _ z=>z
end My
namespace PySem.W.Fast
def tw12370031825054042932:Nat:=0
def tw3714379102860666732:Nat:=0
def tw17730898689795892536:Nat:=0
def tw2438807757440303930:Nat:=0
def tw7637609373015014417:Nat:=0
def tw11102761822509893757:Nat:=0
def tw13197180198207204339:Nat:=0
def tw11405358480448674549:Nat:=0
def tw11049794095004064702:Nat:=0
def tw763310962957469310:Nat:=0
def tw16864158859088241690:Nat:=0
def tw8842839282655405804:Nat:=0
def tw9261432319155107528:Nat:=0
def tw14979620114975694803:Nat:=0
def tw13451313025941127130:Nat:=0
def tw10935312913286636618:Nat:=0
def tw15229951916716564710:Nat:=0
def tw7099714854326062838:Nat:=0
def tw12089140903664646285:Nat:=0
def tw17216147622161316981:Nat:=0
def tw15616289193045420879:Nat:=0
def tw1633636453518086035:Nat:=0
def tw632178154082088526:Nat:=0
def tw11319462136080119704:Nat:=0
def tw17711206100984260700:Nat:=0
def tw14153722690158910674:Nat:=0
def tw9576913090592185000:Nat:=0
def tw13878595957131042832:Nat:=0
def tw8378691182024884739:Nat:=0
def tw16199452948478530975:Nat:=0
def tw7532289844683088080:Nat:=0
def tw11542607410820212061:Nat:=0
def tw3961708334522667724:Nat:=0
def tw17249164063395105158:Nat:=0
def tw4976512948903503970:Nat:=0
def tw18374706893439666488:Nat:=0
def tw3997667472773124233:Nat:=0
def tw16921611147805888257:Nat:=0
def tw7741186554735332628:Nat:=0
def tw10492861283237868183:Nat:=0
def tw18384682767975315111:Nat:=0
def tw1669891151091333473:Nat:=0
def tw10672332634615239923:Nat:=0
def tw16362561076103327968:Nat:=0
def tw3801525889362719538:Nat:=0
def tw16100588780980232791:Nat:=0
def tw930487924417621500:Nat:=0
def tw6459352484453164488:Nat:=0
def tw14512939528662902071:Nat:=0
def tw17787654875977994433:Nat:=0
def tw816604466913685246:Nat:=0
def tw3727896340086581628:Nat:=0
def tw9352446839275665589:Nat:=0
def tw2022846736078995328:Nat:=0
def tw15686389891891757568:Nat:=0
def tw16839398418565807928:Nat:=0
def tw14409990173990504493:Nat:=0
def tw16823368741376963081:Nat:=0
def tw17765786459374840671:Nat:=0
def tw3395512851615564124:Nat:=0
def tw10345589100480993638:Nat:=0
def tw9185721131369397241:Nat:=0
def tw14095457232553243056:Nat:=0
def tw11913167639467720906:Nat:=0
def tw10169504981027325448:Nat:=0
def tw13796006517991803326:Nat:=0
def tw16483164082191576151:Nat:=0
def tw12636409229712868606:Nat:=0
def tw13214617503641551981:Nat:=0
def tw13141127377296196402:Nat:=0
def tw12471329658061546783:Nat:=0
def tw3453186046603901402:Nat:=0
def tw1093441331632813743:Nat:=0
def tw8460818852676163449:Nat:=0
def tw1826084593362270161:Nat:=0
def tw12781995456249626050:Nat:=0
def tw6058483670205447891:Nat:=0
def tw253429557706155123:Nat:=0
def tw14599930143012711465:Nat:=0
def tw13646132184607038657:Nat:=0
def tw5047100480016513362:Nat:=0
def tw3156346655070881549:Nat:=0
def tw5075232122848000461:Nat:=0
def tw7640190251404176775:Nat:=0
def tw9524801135515006393:Nat:=0
def tw14174407668281996444:Nat:=0
def tw18276807853668170358:Nat:=0
def tw15046938084728259308:Nat:=0
def tw2064751725214953581:Nat:=0
def tw16246417610480390808:Nat:=0
def tw5450573145854694317:Nat:=0
def tw16348382821639763948:Nat:=0
def tw10440297006155661378:Nat:=0
def tw15968828195067630258:Nat:=0
def tw15545708869828324936:Nat:=0
def tw16753564444679496234:Nat:=0
def tw6812935688915000289:Nat:=0
def tw10487050268132496513:Nat:=0
def tw6252666200132764006:Nat:=0
def tw17637876791470450664:Nat:=0
def tw2873187604809048413:Nat:=0
def tw1620809390959951012:Nat:=0
def tw2646340186299363309:Nat:=0
def tw9616456429004599649:Nat:=0
def tw574187376215399038:Nat:=0
def tw5463280041632580947:Nat:=0
def tw3597306556203836121:Nat:=0
def tw6480561394882861825:Nat:=0
def tw15742874897976297100:Nat:=0
def tw8109797580720076743:Nat:=0
def tw2525694537883466198:Nat:=0
def tw6982489958180867143:Nat:=0
def tw399058560545156758:Nat:=0
def tw5372074370950475684:Nat:=0
def tw17377870556729500213:Nat:=0
def tw12617405886515130827:Nat:=0
def tw2143478685788986229:Nat:=0
def tw18405138606454003792:Nat:=0
def tw9042303629766619271:Nat:=0
def tw16195535610962470561:Nat:=0
def tw13584749059901075240:Nat:=0
def tw12628649019620078146:Nat:=0
def tw1833182058683434850:Nat:=0
def tw13693467929722907801:Nat:=0
def tw4523173561021847845:Nat:=0
def tw6696759139094373638:Nat:=0
def tw13490894061401750264:Nat:=0
def tw13574834523726896943:Nat:=0
def tw12595194824786541916:Nat:=0
def tw9799036428359438271:Nat:=0
def tw13246549261477732494:Nat:=0
def tw14086244570207279986:Nat:=0
def tw6524531280836406507:Nat:=0
def tw5377691037484285924:Nat:=0
def tw5956800893203794759:Nat:=0
def tw11359267773567693708:Nat:=0
def tw8691321703619653946:Nat:=0
def tw11903052740612232836:Nat:=0
def tw4670637309889749496:Nat:=0
def tw6448839702853541150:Nat:=0
def tw17629062229890082971:Nat:=0
def tw569752369825990208:Nat:=0
def tw1303372884662751048:Nat:=0
def tw18232961262918942265:Nat:=0
def tw12042139418958525104:Nat:=0
def tw12441009474204148242:Nat:=0
def tw17439901322846901535:Nat:=0
def tw704776061769288407:Nat:=0
def tw11678784748387893913:Nat:=0
def tw7547852000318908679:Nat:=0
def tw13950226133683002898:Nat:=0
def tw13836540011249844532:Nat:=0
def tw5950250233666659322:Nat:=0
def tw1629120412892966453:Nat:=0
def tw11272693192282157102:Nat:=0
def tw3333676698623716920:Nat:=0
def tw1186691445138868055:Nat:=0
def tw2518819832488595209:Nat:=0
def tw3434942630993212606:Nat:=0
def tw14051241105535081220:Nat:=0
def tw1849429413819910711:Nat:=0
def tw2394707428054878806:Nat:=0
def tw10474118635502987897:Nat:=0
def tw10262468092328539309:Nat:=0
def tw8634385356332304261:Nat:=0
def tw2734449721569488420:Nat:=0
def tw5130309634426019179:Nat:=0
def tw5203739433245458803:Nat:=0
def tw14784671085931192665:Nat:=0
def tw4283220468883284521:Nat:=0
def tw5899501042585709766:Nat:=0
def tw13336304906919897346:Nat:=0
def tw4922186077056330786:Nat:=0
def tw9708981268808748796:Nat:=0
def tw17274188350748138463:Nat:=0
def tw11839259204767492285:Nat:=0
def tw4571920295399819445:Nat:=0
def tw13956399226261609508:Nat:=0
def tw660391708454353417:Nat:=0
def tw6451456300195624784:Nat:=0
def tw11734210336000981552:Nat:=0
def tw6376641578622104027:Nat:=0
def tw11264836665091651695:Nat:=0
def tw14052401373768465065:Nat:=0
def tw10538342110106608831:Nat:=0
def tw13772907116810159183:Nat:=0
def tw16404621537207948873:Nat:=0
def tw9550499795538844345:Nat:=0
def tw15464620253758007474:Nat:=0
def tw3388979868712444964:Nat:=0
end PySem.W.Fast
open PySem PySem.W PyProof.Rows
set_option maxRecDepth 100000 in
set_option maxHeartbeats 0 in
theorem PySem.Challenge.cw_levelbench_k21_faults_told_holds : PySem.Challenge.rw_levelbench_k21_faults_told.Holds := by
 w_on;o_law;k_head;(case hw=>w_witness2)
 k_fill
 refine My.walk (l:=PySem.Challenge.rw_levelbench_k21_faults_told) rfl rfl (fun w h Y=>PySem.W.kIn_of Y) ?F
 case F =>
  intro w mg fa h KX G hmg;refine' My.all_mk KX G hmg ?h0 ?h1 ?h2 ?h3 ?h4 ?h5 ?h6 ?h7 ?h8 ?h9 ?h10 ?h11 ?h12 ?h13 ?h14 ?h15 ?h16 ?h17 ?h18 ?h19 ?h20 ?h21 ?h22 ?h23 ?h24 ?h25 ?h26 ?h27 ?h28 ?h29 ?h30 ?h31 ?h32 ?h33 ?h34 ?h35 ?h36 ?h37 ?h38 ?h39 ?h40 ?h41 ?h42 ?h43 ?h44 ?h45 ?h46 ?h47 ?h48 ?h49 ?h50 ?h51 ?h52 ?h53 ?h54 ?h55 ?h56 ?h57
  all_goals try first| k_is| exact ⟨by k_is,_,_,_,_,_,_,_,_,_,by k_is,by k_is,by k_is⟩| exact ⟨by k_is,by k_is,_,_,_,_,_,_,_,_,_,by k_is,by k_is,by k_is⟩| exact ⟨_,_,by k_is,⟨_,_,_,_,_,_,_,_,_,by k_is,by k_is,by k_is⟩,_,_,_,_,by k_is⟩| kernel_rfl
