import PyProof.Rows.All
import Wide.All
import OpenK.AllK
import Wide.FinOn
import Lean
import PyProof.EqAt
import PyProof.EqKinds
import PyProof.TupleCall
import PyProof.StrLawsTight
import PyProof.FitsReplace
import KE.KSortTup
import PyProof.TupleKey
import PyProof.SetKind
import PyProof.IsRules
import PyProof.Rows.SetFrom
import PyProof.CollectWalk
import PyProof.DictUpdate
import PyProof.AutoListH
import PyProof.SeqI3
import PyProof.EnumStmt
import PyProof.EnumMake
import PyProof.Rows.CallKwBuiltin
import PyProof.NeKinds
import PyProof.StationsW
import PyProof.ExcClass3
import PyProof.PassesOwn
import OpenK.KOwn
import PyProof.RulesAs
import PyProof.RulesDel
import KE.KIsAll
import PyProof.ExcArgsOwn
import PyProof.StrLawsIn
import PyProof.Rows.Range3
import PyProof.Rows.FStr
import PyProof.DictItems
import PyProof.AttrMissHeap
import PyProof.ListCopy
import KE.KDictOf
import KE.KDictSum
import PyProof.Rows.SortRev
import PyProof.Rows.IntMath
import PyProof.Rows.TupDisplay
import PyProof.ZipIter
import PySem.Challenge.RW_levelbench_k86_few_refused
set_option Elab.async false
set_option linter.all false
set_option maxRecDepth 100000
def qAA:=@PySem.wpAny_bind
def qAB:=@if_neg
def qAC:=@if_pos
def qAD:=@PySem.wpAny_pure
def qAE:=@List.length_map
def qAF:=@PyProof.Rows.wpS_bind
def qAG:=@Nat.le_refl
def qAH:=@PyProof.Rows.wpS_pure
def qAI:=@PySem.Heap.lt_size
def qAJ:=@PySem.Heap.get?_push_of_some
def qAK:=@List.mem_map
def qAL:=@List.mem_singleton
def qAM:=@List.map_append
def qAN:=@Nat.ne_of_lt
def qAO:=@List.mem_cons
def qAP:=@List.mem_cons_of_mem
def qAQ:=@List.size_toArray
def qAR:=@decide_eq_true
def qAS:=@List.mem_append
def qAT:=@decide_eq_false
def qAU:=@List.mem_cons_self
def qAV:=@PySem.sizeLine_eq
def qAW:=@Nat.le_trans
def qAX:=@List.getElem?_map
def qAY:=@List.mem_of_getElem?
def qAZ:=@List.length_cons
def qAa:=@List.length_append
def qAb:=@Option.some.inj
def qAc:=@List.getElem?_eq_some_iff
def qAd:=@Bool.false_ne_true
def qAe:=@PySem.Heap.get?_push_size
def qAf:=@Nat.zero_le
def qAg:=@congrArg
def qAh:=@Ne.symm
def qAi:=@Nat.lt_of_lt_of_le
def qAj:=@List.length_take
def qAk:=@List.mem_append_left
def qAl:=@List.mem_append_right
def qAm:=@Array.getElem?_toList
def qAn:=@PySem.PassesOwn.never
def qAo:=@PySem.Heap.SameBut.update
def qAp:=@List.map_cons
def qAq:=@List.map_map
def qAr:=@PySem.Obj.data_mapFields
def qAs:=@List.mem_filter
def qAt:=@PySem.wpAny_mono
def qAu:=@List.take_length
def qAv:=@PySem.wpAny_holding
def qAw:=@PySem.wpAny_field
def qAx:=@PyProof.Rows.wpS_forRange
def qAy:=@Nat.lt_irrefl
def qAz:=@Nat.ne_of_gt
def qA0:=@List.append_nil
def qA1:=@List.nodup_cons
def qA2:=@PySem.wpAny_setField
def qA3:=@List.length_filter_le
def qA4:=@PyProof.Rows.wpS_mono
def qA5:=@PySem.wpAny_newObj_type
def qA6:=@PyProof.Rows.wpS_modify
def qA7:=@beq_eq_false_iff_ne
def qA8:=@PySem.W.kia_one
def qA9:=@PySem.Heap.get?_update_self
def qBA:=@Option.map_eq_some_iff
def qBB:=@List.nodup_nil
def qBC:=@Classical.byContradiction
def qBD:=@PySem.wpAny_call_entry
def qBE:=@List.filter_cons
def qBF:=@List.mem_range
def qBG:=@PySem.Heap.size_push
def qBH:=@Array.getElem?_eq_some_iff
def qBI:=@PySem.wpAny_truthy_bool
def qBJ:=@beq_iff_eq
def qBK:=@List.lookup_cons
def qBL:=@List.mem_iff_getElem
def qBM:=@PyProof.Rows.wpS_get
def qBN:=@List.getElem?_eq_getElem
def qBO:=@PySem.wpAny_rule
def qBP:=@List.filter_append
def qBQ:=@if_true
def qBR:=@Bool.and_eq_true
def qBS:=@Int.emod_nonneg
def qBT:=@PySem.wpAny_askSetting
def qBU:=@PySem.Obj.isFreed_of_fields
def qBV:=@PySem.codeAny_mono
def qBW:=@if_false
def qBX:=@List.foldl_cons
def qBY:=@List.length_nil
def qBZ:=@List.getD_eq_getElem?_getD
def qBa:=@PySem.wpAny_attempt
def qBb:=@List.take_of_length_le
def qBc:=@of_decide_eq_true
def qBd:=@PySem.F.plainAttrs_list
def qBe:=@List.filterMap_cons
def qBf:=@Nat.le_succ
def qBg:=@PySem.Heap.get?_update_other
def qBh:=@Nat.lt_succ_of_lt
def qBi:=@PyProof.Rows.wpS_lift
def qBj:=@Int.emod_lt_of_pos
def qBk:=@PySem.codeAny_builtin
def qBl:=@PySem.F.called_set
def qBm:=@PySem.wpAny_setField_rec
def qBn:=@PySem.Paired.length
def qBo:=@Array.length_toList
def qBp:=@PySem.wpAny_passesOwn
def qBq:=@List.length_singleton
def qBr:=@List.all_eq_true
def qBs:=@Array.toList_extract
def qBt:=@List.nodup_append
def qBu:=@PySem.wpAny_callSpecial?_slot
def qBv:=@PySem.Obj.cls_mapFields
def qBw:=@List.map_congr_left
def qBx:=@List.countP_append
def qBy:=@PySem.wpAny_call
def qBz:=@PySem.wpAny_Call_Name_kw
def qB0:=@PySem.mem_of_lookup
def qB1:=@List.length_drop
def qB2:=@List.any_cons
def qB3:=@PySem.call_meets
def qB4:=@List.find?_cons
def qB5:=@List.take_append_drop
def qB6:=@Nat.not_lt
def qB7:=@PySem.wpAny_seqItems
def qB8:=@List.foldl_append
def qB9:=@PySem.wpAny_ite_split
def qCA:=@Nat.le_of_lt
def qCB:=@List.getElem?_set_self
def qCC:=@PySem.wpAny_execs_nil
def qCD:=@PySem.wpAny_load
def qCE:=@Bool.eq_iff_iff
def qCF:=@Nat.le_of_eq
def qCG:=@Nat.lt_succ_self
def qCH:=@PySem.W.callWith_K
def qCI:=@List.getElem?_append_right
def qCJ:=@List.getElem?_append_left
def qCK:=@List.replicate_succ
def qCL:=@PySem.tupleKind_room_in1
def qCM:=@Nat.pow_le_pow_right
def qCN:=@Array.toList_push
def qCO:=@Nat.le_add_right
def qCP:=@List.getElem?_cons_succ
def qCQ:=@List.mem_of_mem_take
def qCR:=@List.not_mem_nil
def qCS:=@PySem.wpAny_of_eq
def qCT:=@PySem.Around.under_plainId
def qCU:=@PySem.wpAny_isInstance
def qCV:=@Int.toNat_natCast
def qCW:=@of_decide_eq_false
def qCX:=@Bool.false_eq_true
def qCY:=@PyProof.Rows.wpS_reverse
def qCZ:=@PySem.F.slot_dict_itemiterator_next
def qCa:=@Prod.mk.inj
def qCb:=@PySem.wpAny_standAt
def qCc:=@PyProof.Rows.callWith_type1
def qCd:=@List.of_mem_zip
def qCe:=@PySem.W.cellsFrom_some
def qCf:=@PySem.SeqAt.EqAt.same
def qCg:=@PySem.Calls.callWith_builtin
def qCh:=@List.flatten_cons
def qCi:=@List.append_assoc
def qCj:=@Option.map_some
def qCk:=@PySem.wpAny_specialOf
def qCl:=@PySem.pushCells_keeps
def qCm:=@Nat.add_zero
def qCn:=@Array.toList_append
def qCo:=@List.map_take
def qCp:=@List.map_drop
def qCq:=@List.take_succ
def qCr:=@PySem.plainId_quiet
def qCs:=@PySem.wpAny_fieldsOf
def qCt:=@PySem.isSubtype_stop
def qCu:=@PySem.wpAny_pyIter_slot
def qCv:=@Array.perm_iff_toList_perm
def qCw:=@PySem.wpAny_typeNameOfWhole_itemiter
def qCx:=@PySem.wpAny_typeNameOf_itemiter
def qCy:=@List.getElem?_set_ne
def qCz:=@Array.mem_toList_iff
def qC0:=@Option.isSome_iff_exists
def qC1:=@List.getElem?_take_of_lt
def qC2:=@PySem.Calls.evalArgs_plain
def qC3:=@PySem.F.slot_dict_get
def qC4:=@PySem.F.plainAttrs_dict
def qC5:=@List.mem_of_mem_drop
def qC6:=@List.mem_of_find?_eq_some
def qC7:=@Array.size_setIfInBounds
def qC8:=@Array.getElem?_setIfInBounds_ne
def qC9:=@Array.getElem?_setIfInBounds_self_of_lt
def qDA:=@PyProof.Rows.F.plain_set_update_loop
def qDB:=@PySem.codeAny_call_builtin
def qDC:=@PySem.builtinLookup_eq_fast
def qDD:=@List.length_eq_zero_iff
def qDE:=@List.getElem?_eq_none_iff
def qDF:=@Option.map_eq_none_iff
def qDG:=@PySem.F.slot_list_append
def qDH:=@PySem.F.type_list_append
def qDI:=@PySem.F.slot_list_extend
def qDJ:=@PySem.F.type_list_extend
def qDK:=@PySem.wpAny_isOneOf_itemiter
namespace L2
open PySem PySem.Spec PyProof.Rows
variable {us:List Value}{x:Str}{u:Value}{a b C:Addr}{P:Program}{w:World}{h base:Heap}{t' i:Nat}{e tg:Expr}{A:Around}{s:Shared}{pos:Pos}{pins:List (Addr×Obj)}{op:CmpOp}{K:PySem.W.Frag}
abbrev Key:=Sum Int Str
def keyIs:Key->Value->Bool
 | .inl k,v=>Value.isInt k v
 | .inr x,v=>Value.isStrOf x v
def keyH (w:World):Key->Int
 | .inl k=>hashInt k
 | .inr x=>hashStr w x
theorem zA4:∀{k:Key} {v:Value},keyIs k v=true->(∃i t,k=Sum.inl i/\v=Value.int i t)\/(∃x t,k=Sum.inr x/\v=Value.str x t)
 | .inl i,v,h=>by
  obtain ⟨t,e⟩:=Value.isInt_shape (k:=i) (v:=v) h;exact .inl ⟨i,t,rfl,e⟩
 | .inr x,v,h=>by
  obtain ⟨t,e⟩:=Value.isStrOf_shape (x:=x) (v:=v) h;exact .inr ⟨x,t,rfl,e⟩
theorem keyIs_int (i:Int) (t:Tok):keyIs (.inl i) (.int i t)=true:=by simp [keyIs,Value.isInt]
theorem keyIs_str (x:Str) (t:Tok):keyIs (.inr x) (.str x t)=true:=by simp [keyIs,Value.isStrOf]
theorem key_ll (a b:Int):decide ((Sum.inl a:Key)=Sum.inl b)=(a==b):=by
 by_cases e:a=b
 ·subst e;simp
 ·have h:¬(Sum.inl a:Key)=Sum.inl b:=fun q=>e (Sum.inl.inj q);rw [qAT h];exact (qA7.mpr e).symm
theorem key_rr (a b:Str):decide ((Sum.inr a:Key)=Sum.inr b)=decide (a=b):=by
 by_cases e:a=b
 ·subst e;simp
 ·have h:¬(Sum.inr a:Key)=Sum.inr b:=fun q=>e (Sum.inr.inj q);rw [qAT h,qAT e]
theorem key_lr (a:Int) (b:Str):decide ((Sum.inl a:Key)=Sum.inr b)=false:=qAT (fun q=>nomatch q)
theorem key_rl (a:Str) (b:Int):decide ((Sum.inr a:Key)=Sum.inl b)=false:=qAT (fun q=>nomatch q)
def zA1 (prog:Program) (w:World):PySem.KeyKind prog w Key where
 is:=keyIs
 hash:=keyH w
 inj:=fun v a b ha hb=>by
  rcases zA4 ha with ⟨i,t,rfl,rfl⟩| ⟨x,t,rfl,rfl⟩
  ·rcases zA4 hb with ⟨j,u,rfl,e⟩| ⟨y,u,rfl,e⟩
   ·injection e with e1 _;rw [e1]
   ·exact nomatch e
  ·rcases zA4 hb with ⟨j,u,rfl,e⟩| ⟨y,u,rfl,e⟩
   ·exact nomatch e
   ·injection e with e1 _;rw [e1]
 byValue:=fun k v h=>by
  rcases zA4 h with ⟨i,t,rfl,rfl⟩| ⟨x,t,rfl,rfl⟩<;>rfl
 pyHash:=fun hv h=>by
  rcases zA4 hv with ⟨i,t,rfl,rfl⟩| ⟨x,t,rfl,rfl⟩
  ·exact wpAny_pyHash_int h
  ·exact wpAny_pyHash_str h
 eqBool:=fun hu hv h=>by
  rcases zA4 hu with ⟨i,t,rfl,rfl⟩| ⟨x,t,rfl,rfl⟩
  ·rcases zA4 hv with ⟨j,u,rfl,rfl⟩| ⟨y,u,rfl,rfl⟩
   ·rw [key_ll] at h;exact wpAny_eqBool_int h
   ·rw [key_lr] at h;exact SeqAt.EqAt.int_str i t y u _ _ _ _ h
  ·rcases zA4 hv with ⟨j,u,rfl,rfl⟩| ⟨y,u,rfl,rfl⟩
   ·rw [key_rl] at h;exact SeqAt.EqAt.str_int x t j u _ _ _ _ h
   ·rw [key_rr] at h;exact wpAny_eqBool_str h
 «strs»:=fun k x t v h=>by
  rcases zA4 h with ⟨i,u,rfl,e⟩| ⟨y,u,rfl,e⟩
  ·exact nomatch e
  ·injection e with e1 _;subst e1
   cases v<;>rfl
theorem mixKind_int (prog:Program) (w:World) (i:Int) (t:Tok):(zA1 prog w).is (.inl i) (.int i t)=true:=keyIs_int i t
theorem mixKind_str (prog:Program) (w:World) (x:Str) (t:Tok):(zA1 prog w).is (.inr x) (.str x t)=true:=keyIs_str x t
inductive V where
 | non| bl (b:Bool)| int (i:Int)| str (x:Str)| byt (b:Array UInt8)| flt (b:UInt64)| ref (a:Addr)| ty (n:String)
 deriving DecidableEq
variable {xs:List V}{v y:V}
def RelV:V->Value->Prop
 | .non,u=>u=Value.none
 | .bl b,u=>u=Value.bool b
 | .int i,u=>∃t,u=Value.int i t
 | .str x,u=>∃t,u=Value.str x t
 | .byt b,u=>∃t,u=Value.bytes b t
 | .flt b,u=>∃t,u=Value.float b t
 | .ref a,u=>u=Value.ref a
 | .ty n,u=>u=Value.type n
abbrev Vals:List V->List Value->Prop:=Paired RelV
theorem Vals.length (r:Vals xs us):xs.length=us.length:=qBn r
theorem Vals.get:∀{xs:List V} {us:List Value} {i:Nat} {x:V},Vals xs us->xs[i]?=some x->∃u,us[i]?=some u/\RelV x u
 | _,_,_,_,.nil,e=>by simp at e
 | _,_,0,_,.cons r _,e=>by simp at e;subst e;exact ⟨_,rfl,r⟩
 | _,_,i+1,x,.cons _ t,e=>by
  obtain ⟨u,h1,h2⟩:=Vals.get (i:=i) (x:=x) t (by simpa using e);exact ⟨u,by simpa using h1,h2⟩
theorem Vals.set {x:V} (r:RelV x u):∀{xs:List V} {us:List Value} (i:Nat),Vals xs us->Vals (xs.set i x) (us.set i u)
 | _,_,_,.nil=>.nil
 | _,_,0,.cons _ t=>.cons r t
 | _,_,i+1,.cons q t=>.cons q (Vals.set r i t)
theorem Vals.append:∀{xs ys:List V} {us ws:List Value},Vals xs us->Vals ys ws->Vals (xs++ys) (us++ws)
 | _,_,_,_,.nil,s=>s
 | _,_,_,_,.cons r t,s=>.cons r (Vals.append t s)
theorem Vals.take:∀{xs:List V} {us:List Value} (n:Nat),Vals xs us->Vals (xs.take n) (us.take n)
 | _,_,0,_=>.nil
 | _,_,_+1,.nil=>.nil
 | _,_,n+1,.cons r t=>.cons r (Vals.take n t)
theorem Vals.drop:∀{xs:List V} {us:List Value} (n:Nat),Vals xs us->Vals (xs.drop n) (us.drop n)
 | _,_,0,r=>r
 | _,_,_+1,.nil=>.nil
 | _,_,n+1,.cons _ t=>Vals.drop n t
def RelO:Option V->Option Value->Prop
 | some v,some u=>RelV v u
 | none,none=>True
 | _,_=>False
def KV {κ:Type}:List (κ×V)->List (κ×Value)->Prop:=Paired fun (p:κ×V) (q:κ×Value)=>p.1=q.1/\RelV p.2 q.2
def kV:Key->V
 | .inl i=>.int i
 | .inr x=>.str x
inductive HO where
 | lst (xs:List V)
 | tup (xs:List V)
 | dK (kvs:List (Key×V))| dT (kvs:List (List Key×V))
 | set (S:Int->Bool) (n:Nat)
 | ins (C dx:Addr) (fs:List (Str×V))
 | own (x:Addr)
 | xd (fs:List (Str×V))
 | met (f x:Addr)
 | rng (lo hi:Int)
 | frz (o:Obj) (u:HO)
 | tbl (ps:Array Value)
 | ext (φ:Heap->Prop)
variable {o:HO}
abbrev Hp:=Addr->Option HO
variable {H:Hp}
def upd (H:Hp) (a:Addr) (o:HO):Hp:=fun b=>if b=a then some o else H b
theorem upd_same :upd H a o a=some o:=by unfold upd;rw [qAC rfl]
theorem upd_ne (h:b≠a):upd H a o b=H b:=by unfold upd;rw [qAB h]
theorem zC2 {u:HO}:upd (upd H a o) a u=upd H a u:=by
 funext b;unfold upd;split<;>rfl
theorem zBq {u:HO} (h:H a=some o) (h':H b=some u) (d:o≠u):a≠b:=by
 intro e;subst e;rw [h] at h';exact d (qAb h')
theorem zAh (h:H a=some o) (h':H b=none):a≠b:=by
 intro e;subst e;rw [h] at h';cases h'
section
variable (P:Program) (w:World)
def zA0 (H:Hp) (h:Heap) (a:Addr):HO->Prop
 | .lst xs=>xs.length<=sizeLine/\∃(its:List Value) (n:Nat),Vals xs its/\h.get? a=some {cls:=.type "list",data:=.seq its.toArray n}
 | .tup xs=>xs.length<=sizeLine/\∃its:List Value,Vals xs its/\IsTup h a its.toArray
 | .dK kvs=>kvs.length<=sizeLine/\(a==sysModules)=false/\∃vs,KV kvs vs/\h.DictOf (zA1 P w) a vs
 | .dT kvs=>kvs.length<=sizeLine/\(a==sysModules)=false/\∃xs:List (List Key×Addr×Value),
   Paired (fun (p:List Key×V) (q:List Key×Addr×Value)=>p.1=q.1/\H q.2.1=some (.tup (p.1.map kV))/\RelV p.2 q.2.2) kvs xs /\
   ∃o es ep,h.get? a=some o/\o.ExactDict/\o.data= .dict es ep/\es.toList=xs.map (entryOfKey (tupleKind (zA1 P w)))/\(xs.map (·.1)).Nodup
 | .set S n=>h.SetOf (intKind P w) a S n
 | .ins C dx fs=>H dx=some (.own a)/\fs.length<=1000/\dx≠a/\h.get? a=some (PySem.W.instObj C dx) /\
   ∃mA,h.Ns1 dx mA/\(∀f,RelO (fs.lookup f) (mA f))/\PySem.Within mA (fs.map (·.1))
 | .own _=>∃o,h.get? a=some o
 | .xd fs=>∃mA,h.Ns1 a mA/\∀f,RelO (fs.lookup f) (mA f)
 | .rng lo hi=>∃t u v,h.get? a=some {cls:=.type "range",data:=.fields #[.int lo t,.int hi u,.int 1 v]}
 | .frz o u=>h.get? a=some o/\zA0 H h a u
 | .tbl ps=>h.get? a=some {cls:=.none,data:=.fields ps}
 | .met f x=>h.get? a=some (PySem.W.methodObj (.ref f) (.ref x))
 | .ext φ=>φ h/\(∃o,h.get? a=some o)/\∀h1 h2:Heap,φ h1->(∀o,h1.get? a=some o->h2.get? a=some o)->φ h2
def HOk (H:Hp) (h:Heap):Prop:=∀a o,H a=some o->zA0 P w H h a o
end
section
variable {P:Program} {w:World} {H H':Hp} {h h':Heap} {a:Addr} {o:HO}
theorem zA0.lt (x:zA0 P w H h a o):a<h.objs.size:=by
 cases o with
 | lst xs=>obtain ⟨_,_,_,_,e⟩:=x;exact qAI e
 | tup xs=>obtain ⟨_,_,_,p⟩:=x;exact p.lt
 | dK kvs=>obtain ⟨_,_,_,_,o,_,_,e,_⟩:=x;exact qAI e
 | dT kvs=>obtain ⟨_,_,_,_,o,_,_,e,_⟩:=x;exact qAI e
 | set S n=>obtain ⟨o,_,_,_,e,_⟩:=x;exact qAI e
 | ins C dx fs=>obtain ⟨_,_,_,e,_⟩:=x;exact qAI e
 | own y=>obtain ⟨_,e⟩:=x;exact qAI e
 | xd fs=>obtain ⟨_,⟨_,_,_,e,_⟩,_⟩:=x;exact qAI e
 | rng lo hi=>obtain ⟨_,_,_,e⟩:=x;exact qAI e
 | frz ob u=>obtain ⟨e,_⟩:=x;exact qAI e
 | tbl ps=>exact qAI (show h.get? a=some _ from x)
 | met f y=>exact qAI (show h.get? a=some _ from x)
 | ext φ=>obtain ⟨_,⟨_,e⟩,_⟩:=x;exact qAI e
theorem Paired.mapP {α β:Type} {F G:α->β->Prop}:∀{l₁:List α} {l₂:List β},Paired F l₁ l₂->(∀a b,F a b->G a b)->Paired G l₁ l₂
 | _,_,.nil,_=>.nil
 | _,_,.cons r t,f=>.cons (f _ _ r) (Paired.mapP t f)
theorem zA0.stay (x:zA0 P w H h a o) (k:∀b u,(b=a\/H b=some (.own a))->h.get? b=some u->h'.get? b=some u)
  (ho:∀b,H b=some (.own a)->H' b=some (.own a)) (ht:∀b xs,H b=some (.tup xs)->H' b=some (.tup xs)):zA0 P w H' h' a o:=by
 induction o with
 | lst xs=>obtain ⟨z,its,n,r,e⟩:=x;exact ⟨z,its,n,r,k _ _ (.inl rfl) e⟩
 | tup xs=>obtain ⟨z,its,r,ob,e,c⟩:=x;exact ⟨z,its,r,ob,k _ _ (.inl rfl) e,c⟩
 | dK kvs=>obtain ⟨z,y,vs,r,ob,es,ep,e,c⟩:=x;exact ⟨z,y,vs,r,ob,es,ep,k _ _ (.inl rfl) e,c⟩
 | dT kvs =>
  obtain ⟨z,y,xs,r,ob,es,ep,e,c⟩:=x;exact ⟨z,y,xs,Paired.mapP r fun p q z=>⟨z.1,ht _ _ z.2.1,z.2.2⟩,ob,es,ep,k _ _ (.inl rfl) e,c⟩
 | set S n=>obtain ⟨ob,es,ep,t,e,c⟩:=x;exact ⟨ob,es,ep,t,k _ _ (.inl rfl) e,c⟩
 | ins C dx fs =>
  obtain ⟨d,z,ne,e,mA,⟨od,es,ep,e2,c⟩,r⟩:=x;exact ⟨ho _ d,z,ne,k _ _ (.inl rfl) e,mA,⟨od,es,ep,k _ _ (.inr d) e2,c⟩,r⟩
 | own y=>obtain ⟨ob,e⟩:=x;exact ⟨ob,k _ _ (.inl rfl) e⟩
 | xd fs=>obtain ⟨mA,⟨od,es,ep,e,c⟩,r⟩:=x;exact ⟨mA,⟨od,es,ep,k _ _ (.inl rfl) e,c⟩,r⟩
 | rng lo hi=>obtain ⟨t,u,v,e⟩:=x;exact ⟨t,u,v,k _ _ (.inl rfl) e⟩
 | frz ob u ih=>obtain ⟨e,q⟩:=x;exact ⟨k _ _ (.inl rfl) e,ih q⟩
 | tbl ps =>
  have e:h.get? a=some {cls:=.none,data:=.fields ps}:=x;show h'.get? a=some {cls:=.none,data:=.fields ps};exact k a _ (.inl rfl) e
 | met f y =>
  have e:h.get? a=some (PySem.W.methodObj (.ref f) (.ref y)):=x;show h'.get? a=some (PySem.W.methodObj (.ref f) (.ref y));exact k a _ (.inl rfl) e
 | ext φ=>obtain ⟨p,⟨o,e⟩,st⟩:=x;exact ⟨st _ _ p fun o q=>k _ _ (.inl rfl) q,⟨o,k _ _ (.inl rfl) e⟩,st⟩
theorem HOk.lt (x:HOk P w H h) (e:H a=some o):a<h.objs.size:=(x a o e).lt
theorem HOk.fresh (x:HOk P w H h) (e:h.objs.size<=a):H a=none:=by
 cases q:H a with
 | none=>rfl
 | some u=>exact absurd (qAi (x.lt q) e) (qAy _)
theorem HOk.kept (x:HOk P w H h) (k:∀b u,h.get? b=some u->h'.get? b=some u):HOk P w H h':=fun a o e =>
 (x a o e).stay (fun b u _ q=>k b u q) (fun _ q=>q) fun _ _ q=>q
theorem HOk.laid (x:HOk P w H h) (k:∀b u,h.get? b=some u->h'.get? b=some u) (hp:h.objs.size<=a) (new:zA0 P w (upd H a o) h' a o):HOk P w (upd H a o) h':=fun b u e=>by
 have hn:=x.fresh hp
 by_cases hb:b=a
 ·subst hb;rw [upd_same] at e;cases e;exact new
 ·rw [upd_ne hb] at e;exact (x b u e).stay (fun c v _ q=>k c v q) (fun c q=>by rw [upd_ne (zAh q hn)];exact q) fun c xs q=>by rw [upd_ne (zAh q hn)];exact q
end
def Rd (H:Hp) (a:Addr) (u:HO):Prop:=H a=some u\/∃o,H a=some (.frz o u)
theorem Rd.ok {u:HO} (r:Rd H a u) (x:HOk P w H h):zA0 P w H h a u:=by
 rcases r with r| ⟨o,r⟩
 ·exact x a u r
 ·obtain ⟨_,q⟩:=x a _ r;exact q
def Mut:Option HO->Prop
 | some (.lst _)=>True
 | some (.dK _)=>True
 | some (.dT _)=>True
 | some (.set _ _)=>True
 | some (.ins _ _ _)=>True
 | some (.ext _)=>True
 | _=>False
section
variable {P:Program} {w:World} {H:Hp} {h h':Heap} {x e:Addr} {o':HO}
theorem HOk.write (ok:HOk P w H h) (mu:Mut (H x)) (he:e=x\/H e=some (.own x)) (k:∀b u,b≠e->h.get? b=some u->h'.get? b=some u) (heo:∃u,h'.get? e=some u)
  (new:zA0 P w (upd H x o') h' x o'):HOk P w (upd H x o') h':=fun b u q=>by
 have nown:∀c y,H c=some (.own y)->c≠x:=fun c y r z=>by subst z;rw [r] at mu;exact mu
 have ntup:∀c xs,H c=some (.tup xs)->c≠x:=fun c xs r z=>by subst z;rw [r] at mu;exact mu
 by_cases hb:b=x
 ·subst hb;rw [upd_same] at q;cases q;exact new
 ·rw [upd_ne hb] at q
  by_cases hbe:b=e
  ·have q':H b=some (.own x):=by
    rcases he with z| z
    ·exact absurd (hbe.trans z) hb
    ·rw [hbe];exact z
   rw [q] at q';cases q';obtain ⟨v,hv⟩:=heo;exact ⟨v,by rw [hbe];exact hv⟩
  ·refine (ok b u q).stay (fun c v hc r=>k c v ?_ r) (fun c r=>by rw [upd_ne (nown c b r)];exact r) fun c xs r=>by rw [upd_ne (ntup c xs r)];exact r
   rcases hc with rfl| hc
   ·exact hbe
   ·rintro rfl;rcases he with z| z
    ·exact nown c b hc z
    ·rw [hc] at z;cases z;exact hb rfl
end
structure Un (fs ex:List Addr) (H H':Hp) (h h':Heap):Prop where
 keep:∀b o,h.get? b=some o->H b=none->b∉fs->b∉ex->h'.get? b=some o
 slot:∀b o,h.get? b=some o->H b=none->b∈fs->b∉ex->∃sl,h'.get? b=some {o with slots:=sl}
 free:∀b o,h.get? b=some o->H b=none->b∉ex->H' b=none
 there:∀b o,h.get? b=some o->b∉ex->∃o',h'.get? b=some o'
 tups:∀b xs,H b=some (.tup xs)->H' b=some (.tup xs)
 frzs:∀b o u,H b=some (.frz o u)->H' b=some (.frz o u)
 tbls:∀b ps,H b=some (.tbl ps)->∃more,H' b=some (.tbl (ps++more))
section
variable {fs fs' ex ex':List Addr} {H H1 H2:Hp} {h h1 h2 h':Heap} {a x e:Addr} {o:HO}
theorem Un.any (u:Un fs ex H H1 h h1) {ob:Obj} (q:h.get? b=some ob) (n:H b=none) (hx:b∉ex):∃sl,h1.get? b=some {ob with slots:=sl}:=by
 by_cases hb:b∈fs
 ·exact u.slot b ob q n hb hx
 ·exact ⟨ob.slots,u.keep b ob q n hb hx⟩
theorem Un.kept (k:∀b u,h.get? b=some u->h'.get? b=some u):Un fs ex H H h h' :=
 ⟨fun b ob q _ _ _=>k b ob q,fun b ob q _ _ _=>⟨ob.slots,k b ob q⟩,fun _ _ _ n _=>n,fun b ob q _=>⟨ob,k b ob q⟩,fun _ _ q=>q,fun _ _ _ q=>q,fun _ ps q=>⟨#[],by rw [q];simp⟩⟩
theorem Un.refl:Un fs ex H H h h:=Un.kept fun _ _ q=>q
theorem Un.laid (k:∀b u,h.get? b=some u->h'.get? b=some u) (hp:h.objs.size<=a) (hn:H a=none):Un fs ex H (upd H a o) h h' where
 keep:=fun b u q _ _ _=>k b u q
 slot:=fun b u q _ _ _=>⟨u.slots,k b u q⟩
 free:=fun b u q n _=>by rw [upd_ne (qAN (qAi (qAI q) hp))];exact n
 there:=fun b u q _=>⟨u,k b u q⟩
 tups:=fun b xs q=>by rw [upd_ne (zAh q hn)];exact q
 frzs:=fun b u xs q=>by rw [upd_ne (zAh q hn)];exact q
 tbls:=fun b ps q=>⟨#[],by rw [upd_ne (zAh q hn),q];simp⟩
theorem Un.write (mu:Mut (H x)) (he:e=x\/H e=some (.own x)) (k:∀b u,b≠e->h.get? b=some u->h'.get? b=some u) (heo:∃u,h'.get? e=some u):Un fs ex H (upd H x o) h h':=by
 have hx:∀b,H b=none->b≠x:=fun b n z=>by subst z;rw [n] at mu;exact mu
 have hb:∀b,H b=none->b≠e:=fun b n z=>by
  subst z;rcases he with r| r
  ·exact hx b n r
  ·rw [n] at r;cases r
 have hm:∀b u,H b=some u->¬Mut (some u)->b≠x:=fun b u q nm z=>by subst z;rw [q] at mu;exact nm mu
 refine ⟨fun b u q n _ _=>k b u (hb b n) q,fun b u q n _ _=>⟨u.slots,k b u (hb b n) q⟩,fun b u q n _=>by rw [upd_ne (hx b n)];exact n,fun b u q _=>?_,
  fun b xs q=>by rw [upd_ne (hm b _ q fun z=>z)];exact q,fun b u xs q=>by rw [upd_ne (hm b _ q fun z=>z)];exact q,fun b ps q=>⟨#[],by rw [upd_ne (hm b _ q fun z=>z),q];simp⟩⟩
 by_cases hbe:b=e
 ·subst hbe;exact heo
 ·exact ⟨u,k b u hbe q⟩
end
def trk (h:Heap) (H:Hp):List Addr:=(List.range h.objs.size).filter fun a=>(H a).isSome
def hidT (h:Heap) (H:Hp):Heap:=PySem.W.hideAll h (trk h H)
theorem hidT_size (h:Heap) (H:Hp):(hidT h H).objs.size=h.objs.size:=PySem.W.hideAll_size _ _
theorem hidT_get {o:Obj} (e:h.get? b=some o) (n:H b=none):(hidT h H).get? b=some o :=
 PySem.W.hideAll_get _ e fun hm=>by
  have q:(H b).isSome=true:=(qAs.mp hm).2;rw [n] at q;simp at q
theorem of_hidT {o:Obj} (e:(hidT h H).get? b=some o):h.get? b=some o/\H b=none:=by
 have e':h.get? b=some o:=PySem.W.of_hideAll (trk h H) e;refine ⟨e',?_⟩
 cases q:H b with
 | none=>rfl
 | some x =>
  have hm:b∈trk h H:=qAs.mpr ⟨qBF.mpr (qAI e'),by simp [q]⟩;have z:(hidT h H).get? b=none:=PySem.W.hideAll_none (trk h H) hm;rw [z] at e;cases e
structure Mod (K:PySem.W.Frag) (mg:Str->Option Value) (base:Heap):Prop where
 kin:K.In base
 glob:base.Ns mainGlobals mg
 blt:∃mb,base.Ns builtinsNs mb/\∀x:Str,x≠ "__name__" ->mb x=bootBuiltins x
 nolimit:base.NoLimit
structure Cx where
 prog:Program
 w:World
 K:PySem.W.Frag
 mg:Str->Option Value
 base:Heap
 A:Around
 N:List Str
 s₀:Shared
 H₀:Hp
 env:Env
 outer:List Env
 stack:List Env
 ex:List Addr
 fn:Str->Bool
 calm:Bool
 pn:List (Addr×Obj)
 xe:Value->Shared->Prop
variable {X:Cx}
def frs (l:List Env):List Addr:=l.filterMap (·.frame)
abbrev Cx.fs (X:Cx):List Addr:=frs X.outer
def Vis (sc:Scope) (x:Str):Prop:=sc.names.lookup x=some .local\/sc.names.lookup x=some .cell\/sc.names.lookup x=some .free
def Loc (sc:Scope) (x:Str):Prop:=sc.names.lookup x=some .local\/sc.names.lookup x=some .cell
def Look (env:Env) (h:Heap) (m:Str->Option Value) (x:Str) (u:Value):Prop :=
 (env.kindOf x=some .local/\m x=some u)\/((env.kindOf x=some .cell\/env.kindOf x=some .free)/\∃c,env.cells.lookup x=some c/\h.IsCell c (some u))
structure Cx.Ok (X:Cx):Prop where
 mod:Mod X.K X.mg X.base
 kind:X.env.scope.kind= .function
 glob:X.env.globals=mainGlobals
 blt:X.env.builtins=builtinsNs
 above:X.s₀.heap.objs.size<=X.env.locals
 inj:∀x y c,X.env.cells.lookup x=some c->X.env.cells.lookup y=some c->x=y
 has:∀x,(X.env.kindOf x=some .cell\/X.env.kindOf x=some .free)->∃c,X.env.cells.lookup x=some c
 cab:∀x c,X.fn x=true->X.env.cells.lookup x=some c->X.s₀.heap.objs.size<=c
 hd:X.calm=true->X.A.handled=none
 frames:X.A.frames=some X.stack
 stk:X.stack=X.outer\/(X.stack=X.env::X.outer/\X.env.frame=some X.env.locals)
 exf:∀b∈X.ex,b≠X.env.locals/\∀x c,X.env.cells.lookup x=some c->c≠b
 bs:∀b o,X.base.get? b=some o->X.s₀.heap.get? b=some o/\X.H₀ b=none
 bsz:X.base.objs.size<=X.s₀.heap.objs.size
 noex:∀b o,X.base.get? b=some o->b∉X.ex
 exfs:∀b∈X.ex,b∉X.fs
 funs:X.s₀.heap.FunFrames X.base X.outer
 frf:∀b∈X.fs,X.H₀ b=none
structure Inv (X:Cx) (pins:List (Addr×Obj)) (σ:List (Option V)) (H:Hp) (s:Shared):Prop where
 ok:X.Ok
 os:s.os=X.s₀.os
 bare:AllBare s.gens
 base:Un X.fs X.ex X.H₀ H X.s₀.heap s.heap
 loc:∃m,s.heap.Ns X.env.locals m/\∀(i:Nat) (x:Str) (v:V),X.N[i]?=some x->σ[i]?=some (some v)->Vis X.env.scope x->∃u,RelV v u/\Look X.env s.heap m x u
 cell:∀x c,X.env.cells.lookup x=some c->∃v,s.heap.IsCell c v
 free:H X.env.locals=none
 freeC:∀x c,X.env.cells.lookup x=some c->H c=none
 pin:∀p∈X.pn++pins,s.heap.get? p.1=some p.2/\H p.1=none/\p.1≠X.env.locals/\p.1∉X.fs/\∀v,p.2.data≠.cell v
 hok:HOk X.prog X.w H s.heap
 len:σ.length=X.N.length
section
variable {X:Cx} {pins:List (Addr×Obj)} {σ:List (Option V)} {H H':Hp} {s:Shared} {h':Heap}
theorem Cx.Ok.nofr (ok:X.Ok) {o:Obj} (e:X.base.get? b=some o):b∉X.fs:=fun hb=>by
 have:=(ok.funs.mem hb).1;rw [e] at this;cases this
theorem Inv.bs (I:Inv X pins σ H s):∀b o,X.base.get? b=some o->s.heap.get? b=some o/\H b=none:=fun b o e =>
 ⟨I.base.keep b o (I.ok.bs b o e).1 (I.ok.bs b o e).2 (I.ok.nofr e) (I.ok.noex b o e),I.base.free b o (I.ok.bs b o e).1 (I.ok.bs b o e).2 (I.ok.noex b o e)⟩
theorem Inv.bk (I:Inv X pins σ H s):∀b o,X.base.get? b=some o->s.heap.get? b=some o:=fun b o e=>(I.bs b o e).1
theorem Inv.mod (I:Inv X pins σ H s):Mod X.K X.mg X.base:=I.ok.mod
theorem Inv.kIn (I:Inv X pins σ H s):X.K.In s.heap:=I.ok.mod.kin.keeps I.bk
theorem Inv.lt (I:Inv X pins σ H s):X.env.locals<s.heap.objs.size:=let ⟨_,hn,_⟩:=I.loc;hn.lt
theorem Inv.sz (I:Inv X pins σ H s):X.s₀.heap.objs.size<=s.heap.objs.size:=qAW I.ok.above (qCA I.lt)
theorem Inv.nofs (I:Inv X pins σ H s) (h:s.heap.objs.size<=a):a∉X.fs:=fun hb=>by
 obtain ⟨_,o,ho,_⟩:=I.ok.funs.mem hb;exact absurd (qAi (qAI ho) (qAW I.sz h)) (qAy _)
theorem Inv.cne (I:Inv X pins σ H s):∀x c,X.env.cells.lookup x=some c->c≠X.env.locals:=fun x c e z=>by
 obtain ⟨v,o,ho,hd⟩:=I.cell x c e;obtain ⟨m,⟨o',es,ep,ho',hd',_⟩,_⟩:=I.loc;rw [z,ho'] at ho;cases ho;rw [hd'] at hd;cases hd
theorem Inv.funs (I:Inv X pins σ H s):s.heap.FunFrames X.base X.outer:=by
 have all:∀(l:List Env),(∀b∈frs l,b∈X.fs)->X.s₀.heap.FunFrames X.base l->s.heap.FunFrames X.base l:=by
  intro l
  induction l with
  | nil=>intro _ _;trivial
  | cons env r ih =>
   intro hs hl;obtain ⟨hk,⟨L,o,hf,hn,ho,hd⟩,hr⟩:=hl;have hL:L∈X.fs:=hs L (by unfold frs;rw [qBe,hf];exact qAU);obtain ⟨sl,e⟩:=I.base.slot L o ho (I.ok.frf L hL) hL fun z=>I.ok.exfs L z hL;exact ⟨hk,⟨L,_,hf,hn,e,hd⟩,ih (fun b hb=>hs b (by unfold frs;rw [qBe,hf];exact qAP _ hb)) hr⟩
 exact all X.outer (fun _ hb=>hb) I.ok.funs
theorem Inv.stack (I:Inv X pins σ H s):s.heap.FunFrames X.base X.stack:=by
 rcases I.ok.stk with e| ⟨e,hf⟩
 ·rw [e];exact I.funs
 ·rw [e];obtain ⟨m,hn,_⟩:=I.loc;refine .cons (by rw [I.ok.kind];decide) hf hn ?_ I.funs;exact Heap.get?_none_of_le (qAW I.ok.bsz I.ok.above)
theorem Inv.stkSub (I:Inv X pins σ H s):∀b∈frs X.stack,b∈X.env.locals::X.fs:=fun b hb=>by
 rcases I.ok.stk with e| ⟨e,hf⟩
 ·rw [e] at hb;exact qAP _ hb
 ·rw [e] at hb;unfold frs at hb;rw [qBe,hf] at hb;exact hb
theorem Inv.stkFree (I:Inv X pins σ H s):∀b∈frs X.stack,H b=none:=fun b hb=>by
 rcases qAO.mp (I.stkSub b hb) with e| hb
 ·rw [e];exact I.free
 ·obtain ⟨_,o,ho,_⟩:=I.ok.funs.mem hb;exact I.base.free b o ho (I.ok.frf b hb) fun z=>I.ok.exfs b z hb
theorem Inv.step {g':Array GenState} {t':Nat} {d':Drawn} {ch:List Addr} (I:Inv X pins σ H s)
  (hch:∀b∈ch,(b∈X.ex\/X.s₀.heap.objs.size<=b)/\b≠X.env.locals/\(∀x c,X.env.cells.lookup x=some c->c≠b)/\∀p∈X.pn++pins,p.1≠b)
  (keep:∀b o,b≠X.env.locals->b∉X.fs->b∉ch->s.heap.get? b=some o->H b=none->h'.get? b=some o)
  (slot:∀b o,b≠X.env.locals->b∈X.fs->b∉ch->s.heap.get? b=some o->H b=none->∃sl,h'.get? b=some {o with slots:=sl}) (free:∀b o,b∉ch->s.heap.get? b=some o->H b=none->H' b=none)
  (there:∀b o,b∉ch->s.heap.get? b=some o->∃o',h'.get? b=some o')
  (tups:∀b xs,H b=some (.tup xs)->H' b=some (.tup xs)) (frzs:∀b o u,H b=some (.frz o u)->H' b=some (.frz o u)) (tbls:∀b ps,H b=some (.tbl ps)->∃more,H' b=some (.tbl (ps++more)))
  (ns:∀m,s.heap.Ns X.env.locals m->h'.Ns X.env.locals m) (hok:HOk X.prog X.w H' h') (hg:AllBare g') :
  Inv X pins σ H' {s with heap:=h',gens:=g',drawn:=d',toks:=t'}:=by
 have neL:∀b o,X.s₀.heap.get? b=some o->b≠X.env.locals:=fun b o e=>qAN (qAi (qAI e) I.ok.above)
 have neC:∀b o,X.s₀.heap.get? b=some o->b∉X.ex->b∉ch:=fun b o e hx hb=>by
  rcases (hch b hb).1 with z| z
  ·exact hx z
  ·exact absurd (qAi (qAI e) z) (qAy _)
 have cellK:∀x c,X.env.cells.lookup x=some c->∀v,s.heap.IsCell c v->h'.IsCell c v:=fun x c e v ⟨o,ho,hd⟩=>by
  have nch:c∉ch:=fun z=>(hch c z).2.2.1 x c e rfl
  by_cases hc:c∈X.fs
  ·obtain ⟨sl,q⟩:=slot c o (I.cne x c e) hc nch ho (I.freeC x c e);exact ⟨_,q,hd⟩
  ·exact ⟨o,keep c o (I.cne x c e) hc nch ho (I.freeC x c e),hd⟩
 refine ⟨I.ok,I.os,hg,⟨fun b o e n hb hx=>?_,fun b o e n hb hx=>?_,fun b o e n hx=>?_,fun b o e hx=>?_,fun b xs e=>tups b xs (I.base.tups b xs e),fun b o xs e=>frzs b o xs (I.base.frzs b o xs e),fun b ps e=>?_⟩,?_,fun x c e=>?_,?_,fun x c e=>?_,fun p hp=>?_,hok,I.len⟩
 ·exact keep b o (neL b o e) hb (neC b o e hx) (I.base.keep b o e n hb hx) (I.base.free b o e n hx)
 ·obtain ⟨sl,e1⟩:=I.base.slot b o e n hb hx;obtain ⟨sl',e2⟩:=slot b _ (neL b o e) hb (neC b o e hx) e1 (I.base.free b o e n hx);exact ⟨sl',e2⟩
 ·obtain ⟨o',e1⟩:=I.base.there b o e hx;exact free b o' (neC b o e hx) e1 (I.base.free b o e n hx)
 ·obtain ⟨o',e1⟩:=I.base.there b o e hx;exact there b o' (neC b o e hx) e1
 ·obtain ⟨m1,e1⟩:=I.base.tbls b ps e;obtain ⟨m2,e2⟩:=tbls b _ e1;exact ⟨m1++m2,by rw [e2,Array.append_assoc]⟩
 ·obtain ⟨m,hn,hl⟩:=I.loc;refine ⟨m,ns m hn,fun i x v e1 e2 e3=>?_⟩;obtain ⟨u,r,l⟩:=hl i x v e1 e2 e3;refine ⟨u,r,?_⟩;rcases l with l| ⟨k,c,e,z⟩
  ·exact .inl l
  ·exact .inr ⟨k,c,e,cellK x c e _ z⟩
 ·obtain ⟨v,z⟩:=I.cell x c e;exact ⟨v,cellK x c e v z⟩
 ·obtain ⟨m,⟨o,_,_,ho,_⟩,_⟩:=I.loc;exact free _ o (fun z=>(hch _ z).2.1 rfl) ho I.free
 ·obtain ⟨v,o,ho,hd⟩:=I.cell x c e;exact free c o (fun z=>(hch c z).2.2.1 x c e rfl) ho (I.freeC x c e)
 ·obtain ⟨e,n,ne,nf,d⟩:=I.pin p hp;have nch:p.1∉ch:=fun z=>(hch p.1 z).2.2.2 p hp rfl;exact ⟨keep p.1 p.2 ne nf nch e n,free p.1 p.2 nch e n,ne,nf,d⟩
theorem Inv.un {t':Nat} (I:Inv X pins σ H s) (u:Un X.fs [] H H' s.heap h') (hok:HOk X.prog X.w H' h'):Inv X pins σ H' {s with heap:=h',toks:=t'}:=by
 obtain ⟨m,⟨o,es,ep,ho,r⟩,_⟩:=id I.loc;obtain ⟨sl,hL⟩:=u.any ho I.free (by simp)
 exact I.step (g':=s.gens) (d':=s.drawn) (ch:=[]) (fun _ z=>nomatch z) (fun b o _ hb _ e n=>u.keep b o e n hb (by simp)) (fun b o _ hb _ e n=>u.slot b o e n hb (by simp)) (fun b o _ e n=>u.free b o e n (by simp)) (fun b o _ e=>u.there b o e (by simp)) u.tups u.frzs u.tbls (fun m' hm=>by
  obtain ⟨o',es',ep',ho',r'⟩:=hm;rw [ho] at ho';cases ho';exact ⟨_,es',ep',hL,r'⟩) hok I.bare
theorem Inv.call {g':Array GenState} {t':Nat} {d':Drawn} {ch:List Addr} (I:Inv X pins σ H s) (u:Un (frs X.stack) ch H H' s.heap h') (hok:HOk X.prog X.w H' h') (hg:AllBare g')
  (hch:∀b∈ch,(b∈X.ex\/X.s₀.heap.objs.size<=b)/\b≠X.env.locals/\(∀x c,X.env.cells.lookup x=some c->c≠b)/\∀p∈X.pn++pins,p.1≠b) :
  Inv X pins σ H' {s with heap:=h',gens:=g',drawn:=d',toks:=t'}:=by
 obtain ⟨m,⟨o,es,ep,ho,r⟩,_⟩:=id I.loc;obtain ⟨sl,hL⟩:=u.any ho I.free fun z=>(hch _ z).2.1 rfl
 exact I.step (ch:=ch) hch (fun b o hL hb hc e n=>u.keep b o e n (fun z=>(qAO.mp (I.stkSub b z)).elim hL hb) hc) (fun b o _ _ hc e n=>u.any e n hc) (fun b o hc e n=>u.free b o e n hc) (fun b o hc e=>u.there b o e hc) u.tups u.frzs u.tbls (fun m' hm=>by
  obtain ⟨o',es',ep',ho',r'⟩:=hm;rw [ho] at ho';cases ho';exact ⟨_,es',ep',hL,r'⟩) hok hg
theorem Inv.turned {t':Nat} {it:Addr} (I:Inv X pins σ H s) (k:∀b o,b≠it->s.heap.get? b=some o->h'.get? b=some o) (hn:H it=none) (hL:it≠X.env.locals)
  (h1:it∈X.ex\/X.s₀.heap.objs.size<=it) (h2:∀x c,X.env.cells.lookup x=some c->c≠it) (h3:∀p∈X.pn++pins,p.1≠it):Inv X pins σ H {s with heap:=h',toks:=t'}:=by
 have nit:∀b u,H b=some u->b≠it:=fun b u e z=>by rw [z,hn] at e;cases e
 refine I.step (g':=s.gens) (d':=s.drawn) (ch:=[it]) (fun b hb=>?_) (fun b o _ _ hc e _=>k b o (fun z=>hc (by simp [z])) e) (fun b o _ _ hc e _=>⟨o.slots,k b o (fun z=>hc (by simp [z])) e⟩) (fun _ _ _ _ n=>n)
  (fun b o hc e=>⟨o,k b o (fun z=>hc (by simp [z])) e⟩) (fun _ _ e=>e) (fun _ _ _ e=>e) (fun b ps e=>⟨#[],by rw [e];simp⟩) (fun m hm=>?_) (fun b u e=>?_) I.bare
 ·have e:b=it:=by simpa using hb
  subst e;exact ⟨h1,hL,h2,h3⟩
 ·obtain ⟨o,es,ep,ho,r⟩:=hm;exact ⟨o,es,ep,k _ o (qAh hL) ho,r⟩
 ·refine (I.hok b u e).stay (fun c v hc q=>k c v ?_ q) (fun _ q=>q) fun _ _ q=>q;rcases hc with z| z
  ·rw [z];exact nit b u e
  ·exact nit c _ z
theorem Inv.tok (I:Inv X pins σ H s) (t:Nat):Inv X pins σ H {s with toks:=t}:=I.un (h':=s.heap) (t':=t) Un.refl I.hok
theorem Inv.kept {t':Nat} (I:Inv X pins σ H s) (k:∀b u,s.heap.get? b=some u->h'.get? b=some u):Inv X pins σ H {s with heap:=h',toks:=t'}:=I.un (Un.kept k) (I.hok.kept k)
theorem Inv.laid {a:Addr} {o:HO} {t':Nat} (I:Inv X pins σ H s) (k:∀b u,s.heap.get? b=some u->h'.get? b=some u) (hp:s.heap.objs.size<=a) (new:zA0 X.prog X.w (upd H a o) h' a o) :
  Inv X pins σ (upd H a o) {s with heap:=h',toks:=t'}:=I.un (Un.laid k hp (I.hok.fresh hp)) (I.hok.laid k hp new)
theorem Inv.write {x e:Addr} {t':Nat} (I:Inv X pins σ H s) (mu:Mut (H x)) (he:e=x\/H e=some (.own x)) (k:∀b u,b≠e->s.heap.get? b=some u->h'.get? b=some u) (heo:∃u,h'.get? e=some u)
  (new:zA0 X.prog X.w (upd H x o) h' x o):Inv X pins σ (upd H x o) {s with heap:=h',toks:=t'}:=I.un (Un.write mu he k heo) (I.hok.write mu he k heo new)
theorem Inv.pins_of {pins':List (Addr×Obj)} (I:Inv X pins σ H s) (h:∀p∈pins',s.heap.get? p.1=some p.2/\H p.1=none/\p.1≠X.env.locals/\p.1∉X.fs/\∀v,p.2.data≠.cell v):Inv X pins' σ H s :=
 ⟨I.ok,I.os,I.bare,I.base,I.loc,I.cell,I.free,I.freeC,fun p hp=>(qAS.mp hp).elim (fun z=>I.pin p (qAk _ z)) (h p),I.hok,I.len⟩
theorem zIi {N:List Str} (hN:N.Nodup) {j:Nat} (a:N[i]?=some x) (b:N[j]?=some x):i=j:=by
 obtain ⟨h1,e1⟩:=qAc.mp a;obtain ⟨h2,e2⟩:=qAc.mp b;exact (List.getElem_inj hN).mp (e1.trans e2.symm)
theorem store_ok2 {M:Model} {E:Value->Shared->Prop} {Q:Unit->Shared->Prop} (I:Inv X pins σ H s) (hN:X.N.Nodup) (hi:X.N[i]?=some x) (hx:Loc X.env.scope x) (r:RelV v u)
  (h:∀s',Inv X pins (σ.set i (some v)) H s'->(∃a,Heap.SameBut a s.heap s'.heap/\(a=X.env.locals\/X.env.cells.lookup x=some a))->Q () s') (hf:X.fn x=true\/X.env.scope.names.lookup x=some .local:=by first| exact .inl rfl| exact .inr rfl| assumption):wpAny M A (storeName X.env x u) Q E s:=by
 obtain ⟨m,hn,hl⟩:=id I.loc;have hcls:(X.env.scope.kind== .class||(X.env.scope.kind== .module&&X.env.locals != X.env.globals))=false:=by rw [I.ok.kind];rfl
 have hiσ:i<σ.length:=by rw [I.len];exact (qAc.mp hi).1
 have cne:=I.cne
 have tracked:∀{a:Addr} {h':Heap},(∃o,s.heap.get? a=some o/\H a=none)->Heap.SameBut a s.heap h'->HOk X.prog X.w H h':=fun {a h'} ha hs b ob e=>by
  obtain ⟨_,_,hfree⟩:=ha;refine (I.hok b ob e).stay (fun c w' hc q=>(hs.2 c ?_).trans q) (fun _ q=>q) fun _ _ q=>q;rintro rfl;rcases hc with rfl| hc
  ·rw [hfree] at e;cases e
  ·rw [hfree] at hc;cases hc
 rcases hx with hk| hk
 ·refine wpAny_storeName_local hk hn (fun h' hn' hs=>?_) hcls;obtain ⟨oL,_,_,hoL,_⟩:=id hn;refine h _ ⟨I.ok,I.os,I.bare,⟨fun b o e n hb hx=>?_,fun b o e n hb hx=>?_,I.base.free,fun b o e hx=>?_,I.base.tups,I.base.frzs,I.base.tbls⟩,⟨_,hn',fun j y v' e1 e2 e3=>?_⟩,fun y c e=>?_,I.free,I.freeC,fun p hp=>?_,tracked ⟨oL,hoL,I.free⟩ hs,by simpa using I.len⟩ ⟨_,hs,.inl rfl⟩
  ·exact (hs.2 b (qAN (qAi (qAI e) I.ok.above))).trans (I.base.keep b o e n hb hx)
  ·obtain ⟨sl,e1⟩:=I.base.slot b o e n hb hx;exact ⟨sl,(hs.2 b (qAN (qAi (qAI e) I.ok.above))).trans e1⟩
  ·obtain ⟨o',e1⟩:=I.base.there b o e hx;exact ⟨o',(hs.2 b (qAN (qAi (qAI e) I.ok.above))).trans e1⟩
  ·by_cases hj:j=i
   ·subst hj;rw [hi] at e1;cases e1;rw [qCB hiσ] at e2
    cases e2
    exact ⟨u,r,.inl ⟨hk,by simp⟩⟩
   ·rw [qCy (qAh hj)] at e2;obtain ⟨u',r',q⟩:=hl j y v' e1 e2 e3;refine ⟨u',r',?_⟩;rcases q with ⟨k,e⟩| ⟨k,c,e,z⟩
    ·refine .inl ⟨k,?_⟩;have:y≠x:=fun e=>hj (zIi hN e1 (e▸hi));simp [this,e]
    ·exact .inr ⟨k,c,e,z.sameBut hs (cne y c e)⟩
  ·obtain ⟨w',z⟩:=I.cell y c e;exact ⟨w',z.sameBut hs (cne y c e)⟩
  ·obtain ⟨e,n,ne,nf,d⟩:=I.pin p hp;exact ⟨(hs.2 p.1 ne).trans e,n,ne,nf,d⟩
 ·have hfn:X.fn x=true:=by
   rcases hf with z| z
   ·exact z
   ·rw [z] at hk;cases hk
  obtain ⟨c,hc⟩:=I.ok.has x (.inl hk);obtain ⟨w',z⟩:=I.cell x c hc;refine wpAny_storeName_cell I.ok.kind hk hc z (fun h' hc' hs=>?_);obtain ⟨oc,hoc,hocd⟩:=id z;refine h {s with heap:=h'} ⟨I.ok,I.os,I.bare,⟨fun b o e n hb hx=>?_,fun b o e n hb hx=>?_,I.base.free,fun b o e hx=>?_,I.base.tups,I.base.frzs,I.base.tbls⟩,⟨m,hn.sameBut hs (qAh (cne x c hc)),fun j y v' e1 e2 e3=>?_⟩,fun y c' e=>?_,I.free,I.freeC,fun p hp=>?_,tracked ⟨oc,hoc,I.freeC x c hc⟩ hs,by simpa using I.len⟩ ⟨c,hs,.inr hc⟩
  ·exact (hs.2 b (qAN (qAi (qAI e) (I.ok.cab x c hfn hc)))).trans (I.base.keep b o e n hb hx)
  ·obtain ⟨sl,e1⟩:=I.base.slot b o e n hb hx;exact ⟨sl,(hs.2 b (qAN (qAi (qAI e) (I.ok.cab x c hfn hc)))).trans e1⟩
  ·obtain ⟨o',e1⟩:=I.base.there b o e hx;exact ⟨o',(hs.2 b (qAN (qAi (qAI e) (I.ok.cab x c hfn hc)))).trans e1⟩
  ·by_cases hj:j=i
   ·subst hj;rw [hi] at e1;cases e1;rw [qCB hiσ] at e2
    cases e2
    exact ⟨u,r,.inr ⟨.inl hk,c,hc,hc'⟩⟩
   ·rw [qCy (qAh hj)] at e2;obtain ⟨u',r',q⟩:=hl j y v' e1 e2 e3;refine ⟨u',r',?_⟩;rcases q with q| ⟨k,c',e,z'⟩
    ·exact .inl q
    ·refine .inr ⟨k,c',e,z'.sameBut hs ?_⟩;rintro rfl;exact hj (zIi hN e1 (I.ok.inj _ _ _ e hc▸hi))
  ·by_cases hcc:c'=c
   ·subst hcc;exact ⟨_,hc'⟩
   ·obtain ⟨w2,z2⟩:=I.cell y c' e;exact ⟨w2,z2.sameBut hs hcc⟩
  ·obtain ⟨e,n,ne,nf,d⟩:=I.pin p hp;refine ⟨(hs.2 p.1 ?_).trans e,n,ne,nf,d⟩;intro q;rw [q,hoc] at e;have q':oc=p.2:=qAb e;exact d w' (by rw [<-q'];exact hocd)
theorem zFz {M:Model} {E:Value->Shared->Prop} {v:V} {u:Value} {Q:Unit->Shared->Prop} (I:Inv X pins σ H s) (hN:X.N.Nodup) (hi:X.N[i]?=some x) (hx:Loc X.env.scope x) (r:RelV v u)
  (h:∀s',Inv X pins (σ.set i (some v)) H s'->Q () s') (hf:X.fn x=true\/X.env.scope.names.lookup x=some .local:=by first| exact .inl rfl| exact .inr rfl| assumption):wpAny M A (storeName X.env x u) Q E s :=
 store_ok2 I hN hi hx r (fun s' I' _=>h s' I') hf
theorem Inv.call' {s':Shared} {ch:List Addr} (I:Inv X pins σ H s) (ho:s'.os=s.os) (u:Un (frs X.stack) ch H H' s.heap s'.heap) (hok:HOk X.prog X.w H' s'.heap) (hg:AllBare s'.gens)
  (hch:∀b∈ch,(b∈X.ex\/X.s₀.heap.objs.size<=b)/\b≠X.env.locals/\(∀x c,X.env.cells.lookup x=some c->c≠b)/\∀p∈X.pn++pins,p.1≠b):Inv X pins σ H' s':=by
 obtain ⟨h',g',d',t',o'⟩:=s';have e:o'=s.os:=ho;subst e;exact I.call (g':=g') (t':=t') (d':=d') u hok hg hch
end
abbrev XK:=Value->Option Addr->Hp->Prop
abbrev St:=List (Option V)
variable {σ:St}
abbrev VK:=V->Hp->Prop
abbrev TE:=St->Hp->VK->Prop
abbrev TT:=St->Hp->(Bool->Hp->Prop)->Prop
abbrev TA:=St->Hp->(List V->Hp->Prop)->Prop
structure Ends where
 nx:St->Hp->Prop
 rt:VK
 bk:St->Hp->Prop:=fun _ _=>False
 ct:St->Hp->Prop:=fun _ _=>False
variable {D:Ends}
abbrev TS:=Ends->St->Hp->Prop
def EP (X:Cx) (pins:List (Addr×Obj)) (σ:St) (Q:VK) (u:Value) (s':Shared):Prop:=∃v H',Inv X pins σ H' s'/\RelV v u/\Q v H'
def TP (X:Cx) (pins:List (Addr×Obj)) (σ:St) (Q:Bool->Hp->Prop) (b:Bool) (s':Shared):Prop:=∃H',Inv X pins σ H' s'/\Q b H'
def AP (X:Cx) (pins:List (Addr×Obj)) (σ:St) (Q:List V->Hp->Prop) (us:List Value) (s':Shared):Prop:=∃vs H',Inv X pins σ H' s'/\Vals vs us/\Q vs H'
def SP (X:Cx) (pins:List (Addr×Obj)) (D:Ends) (f:Flow) (s':Shared):Prop :=
 match f with
 | .next=>∃σ' H',Inv X pins σ' H' s'/\D.nx σ' H'
 | .brk=>∃σ' H',Inv X pins σ' H' s'/\D.bk σ' H'
 | .cont=>∃σ' H',Inv X pins σ' H' s'/\D.ct σ' H'
 | .ret u=>∃v σ' H',Inv X pins σ' H' s'/\RelV v u/\D.rt v H'
def PE (X:Cx) (e:Expr) (t:TE):Prop :=
 ∀(pins:List (Addr×Obj)) (s:Shared) (σ:St) (H:Hp) (Q:VK),Inv X pins σ H s->t σ H Q->wpAny (model X.prog X.w) X.A (eval e X.env) (EP X pins σ Q) X.xe s
def PT (X:Cx) (e:Expr) (t:TT):Prop :=
 ∀(pins:List (Addr×Obj)) (s:Shared) (σ:St) (H:Hp) (Q:Bool->Hp->Prop),Inv X pins σ H s->t σ H Q->wpAny (model X.prog X.w) X.A (isTrue e X.env (eval e X.env)) (TP X pins σ Q) X.xe s
def PW (X:Cx) (e:Expr) (t:TT):Prop :=
 ∀(whole:Sem Value) (pins:List (Addr×Obj)) (s:Shared) (σ:St) (H:Hp) (Q:Bool->Hp->Prop),Inv X pins σ H s->t σ H Q->wpAny (model X.prog X.w) X.A (isTrue e X.env whole) (TP X pins σ Q) X.xe s
theorem PW.pt {t:TT} (h:PW X e t):PT X e t:=h _
def PA (X:Cx) (es:List Expr) (t:TA):Prop :=
 ∀(pos:Pos) (pins:List (Addr×Obj)) (s:Shared) (σ:St) (H:Hp) (Q:List V->Hp->Prop),Inv X pins σ H s->t σ H Q->wpAny (model X.prog X.w) X.A (spliced (backTo pos (starEach es X.env))) (AP X pins σ Q) X.xe s
def PS (X:Cx) (st:Stmt) (t:TS):Prop :=
 ∀(pins:List (Addr×Obj)) (s:Shared) (σ:St) (H:Hp) (D:Ends),Inv X pins σ H s->t D σ H->wpAny (model X.prog X.w) X.A (exec st X.env) (SP X pins D) X.xe s
def PSs (X:Cx) (st:List Stmt) (t:TS):Prop :=
 ∀(pins:List (Addr×Obj)) (s:Shared) (σ:St) (H:Hp) (D:Ends),Inv X pins σ H s->t D σ H->wpAny (model X.prog X.w) X.A (execs st X.env) (SP X pins D) X.xe s
theorem thn {α:Type} {t:Sem α} {Q Q':α->Shared->Prop} {M:Model} {E:Value->Shared->Prop} (h:wpAny M A t Q E s) (hQ:∀a s,Q a s->Q' a s):wpAny M A t Q' E s:=qAt h hQ fun _ _ x=>x
section
variable {X:Cx}
def tVar (i:Nat):TE:=fun σ H Q=>∃v,σ[i]?=some (some v)/\Q v H
def tC (v:V):TE:=fun _ H Q=>Q v H
theorem pe_var (hN:X.N[i]?=some x) (hv:Vis X.env.scope x) (hd:(x==("__debug__" : Str))=false:=by decide) (hcd:(x==("__classdict__" : Str))=false:=by decide):PE X (.Name x pos) (tVar i):=by
 intro pins s σ H Q I h;obtain ⟨v,e,h⟩:=h;obtain ⟨m,hn,hl⟩:=I.loc;obtain ⟨u,r,l⟩:=hl i x v hN e hv;have fin:EP X pins σ Q u s:=⟨v,H,I,r,h⟩;rcases l with ⟨hk,hm⟩| ⟨hk,c,hc,hcell⟩
 ·exact wpAny_Name (wpAny_loadName_local I.ok.kind hk hn hm fin) hd
 ·rcases hk with hk| hk
  ·exact wpAny_Name (wpAny_loadName_cell I.ok.kind hk hc hcell fin) hd
  ·exact wpAny_Name (wpAny_loadName_free I.ok.kind hk hc hcell fin hcd) hd
theorem zAf {i j pos}:PE X (.Constant (.int i) j pos) (tC (.int i)):=fun _ _ _ H _ I h=>wpAny_Constant_int ⟨.int i,H,I.tok _,⟨_,rfl⟩,h⟩
theorem pe_bl {b j pos}:PE X (.Constant (.bool b) j pos) (tC (.bl b)):=fun _ _ _ H _ I h=>Constant_bool ⟨.bl b,H,I,rfl,h⟩
theorem pe_non {j pos}:PE X (.Constant .none j pos) (tC .non):=fun _ _ _ H _ I h=>Constant_none ⟨.non,H,I,rfl,h⟩
theorem zBc {x j pos}:PE X (.Constant (.str x) j pos) (tC (.str x)):=fun _ _ _ H _ I h=>Calls.Constant_str ⟨.str x,H,I.tok _,⟨_,rfl⟩,h⟩
def Gl (X:Cx) (x:Str):Prop:=X.env.kindOf x=some .globalImplicit
theorem zEj {E:Value->Shared->Prop} {Q:Value->Shared->Prop} (I:Inv X pins σ H s) (hg:Gl X x) (hm:X.mg x=some u) (h:Q u s)
  (hd:(x==("__debug__" : Str))=false:=by decide):wpAny (model X.prog X.w) X.A (eval (.Name x pos) X.env) Q E s :=
 Calls.Name_function_global I.ok.kind hg (Calls.loadGlobal_global (by rw [I.ok.glob];exact I.mod.glob.keeps I.bk) hm h) hd
theorem zHn {E:Value->Shared->Prop} {Q:Value->Shared->Prop} (I:Inv X pins σ H s) (hg:Gl X x) (hm:X.mg x=none) (hv:bootBuiltins x=some u) (h:Q u s)
  (hn:x≠ "__name__" := by decide) (hd:(x==("__debug__" : Str))=false:=by decide):wpAny (model X.prog X.w) X.A (eval (.Name x pos) X.env) Q E s:=by
 obtain ⟨mb,h1,h2⟩:=I.mod.blt;exact Calls.Name_function_global I.ok.kind hg (Calls.loadGlobal_builtin (by rw [I.ok.glob];exact I.mod.glob.keeps I.bk) hm (by rw [I.ok.blt];exact h1.keeps I.bk) ((h2 x hn).trans hv) h) hd
theorem zAx (hg:Gl X x) (hm:X.mg x=some u) (r:RelV v u) (hd:(x==("__debug__" : Str))=false:=by decide):PE X (.Name x pos) (tC v) :=
 fun _ _ _ H _ I h=>zEj I hg hm ⟨v,H,I,r,h⟩ hd
theorem zDd (hg:Gl X x) (hm:X.mg x=none) (hv:bootBuiltins x=some u) (r:RelV v u) (hn:x≠ "__name__" := by decide) (hd:(x==("__debug__" : Str))=false:=by decide):PE X (.Name x pos) (tC v) :=
 fun _ _ _ H _ I h=>zHn I hg hm hv ⟨v,H,I,r,h⟩ hn hd
variable {a b:Expr} {ta tb:TE} {pos:Pos}
def PC (X:Cx) (op:CmpOp) (a b:Expr) (t:TE):Prop :=
 ∀(pins:List (Addr×Obj)) (s:Shared) (σ:St) (H:Hp) (Q:VK),Inv X pins σ H s->t σ H Q ->
  wpAny (model X.prog X.w) X.A (eval a X.env) (fun v s₁=>wpAny (model X.prog X.w) X.A (eval b X.env) (fun u s₂=>wpAny (model X.prog X.w) X.A (compareOp op v u) (EP X pins σ Q) X.xe s₂) X.xe s₁) X.xe s
def tB (t:TE):TT:=fun σ H Q=>t σ H fun x H1=>∃c,x= .bl c/\Q c H1
theorem pe_cmp {t:TE} (h:PC X op a b t) (h1:behindInMarks op b=false:=by first| exact nobehind _ (by decide) (by decide)| rfl):PE X (.Compare a [op] [b] pos) t:=fun pins s σ H Q I hw=>wpAny_Compare1 (h pins s σ H Q I hw) h1
theorem pt_cmp {t:TE} (h:PC X op a b t) (h1:behindInMarks op b=false:=by first| exact nobehind _ (by decide) (by decide)| rfl):PT X (.Compare a [op] [b] pos) (tB t):=by
 intro pins s σ H Q I hw;refine wpAny_isTrue_Compare1 (thn (h pins s σ H _ I hw) fun v s1 h1=>thn h1 fun u s2 h2=>thn h2 fun c s3 ⟨x,H1,I1,r1,q1⟩=>?_) h1;obtain ⟨d,rfl,q⟩:=q1
 cases r1
 exact qBI ⟨H1,I1,q⟩
theorem zCm {t:TE} (h:PE X e t) (he:∀whole,isTrue e X.env whole=(do let v<-whole;standAt e.pos;holding [v] (truthy v)):=by intro _;rfl):PT X e (tB t):=by
 intro pins s σ H Q I hw;refine isTrue_plain (thn (h pins s σ H _ I hw) fun v s1 ⟨x,H1,I1,r1,q1⟩=>?_) (he _);obtain ⟨d,rfl,q⟩:=q1
 cases r1
 exact qBI ⟨H1,I1,q⟩
variable {tA tB':TT} {rest:List Expr}
def tAnd (t u:TT):TT:=fun σ H Q=>t σ H fun c H1=>if c=true then u σ H1 Q else Q false H1
def tOr (t u:TT):TT:=fun σ H Q=>t σ H fun c H1=>if c=true then Q true H1 else u σ H1 Q
def tNot (t:TT):TT:=fun σ H Q=>t σ H fun c H1=>Q (!c) H1
theorem pw_and1 (ha:PT X a tA):PW X (.BoolOp .And [a] pos) tA:=by
 intro wh pins s σ H Q I h;refine isTrue_and (thn (ha pins s σ H Q I h) fun c s1 e=>?_)
 cases c with
 | true=>exact isTrue_and_nil e
 | false=>exact e
theorem zEv (ha:PT X a tA):PW X (.BoolOp .Or [a] pos) tA:=by
 intro wh pins s σ H Q I h;refine isTrue_or (thn (ha pins s σ H Q I h) fun c s1 e=>?_)
 cases c with
 | false=>exact isTrue_or_nil e
 | true=>exact e
theorem pw_and (ha:PT X a tA) (hb:PW X (.BoolOp .And (b::rest) pos) tB'):PW X (.BoolOp .And (a::b::rest) pos) (tAnd tA tB'):=by
 intro wh pins s σ H Q I h;refine isTrue_and (thn (ha pins s σ H _ I h) fun c s1 ⟨H1,I1,q1⟩=>?_)
 cases c with
 | true=>exact hb wh pins s1 σ H1 Q I1 q1
 | false=>exact ⟨H1,I1,q1⟩
theorem zG3 (ha:PT X a tA) (hb:PW X (.BoolOp .Or (b::rest) pos) tB'):PW X (.BoolOp .Or (a::b::rest) pos) (tOr tA tB'):=by
 intro wh pins s σ H Q I h;refine isTrue_or (thn (ha pins s σ H _ I h) fun c s1 ⟨H1,I1,q1⟩=>?_)
 cases c with
 | true=>exact ⟨H1,I1,q1⟩
 | false=>exact hb wh pins s1 σ H1 Q I1 q1
theorem zDk (ha:PT X a tA):PT X (.UnaryOp .Not a pos) (tNot tA):=by
 intro pins s σ H Q I h;exact isTrue_not (ha pins s σ H (fun c H1=>Q (!c) H1) I h)
def tAndV (ta tb:TE):TE:=fun σ H Q=>ta σ H fun x H1=>∃c,x= .bl c/\if c=true then tb σ H1 Q else Q (.bl false) H1
def tOrV (ta tb:TE):TE:=fun σ H Q=>ta σ H fun x H1=>∃c,x= .bl c/\if c=true then Q (.bl true) H1 else tb σ H1 Q
def tNotV (ta:TE):TE:=fun σ H Q=>ta σ H fun x H1=>∃c,x= .bl c/\Q (.bl (!c)) H1
theorem zHj {op} {t:TE} (h:PE X a t):PE X (.BoolOp op [a] pos) t:=fun pins s σ H Q I hw=>BoolOp_one (h pins s σ H Q I hw)
theorem pe_and (ha:PE X a ta) (hb:PE X (.BoolOp .And (b::rest) pos) tb):PE X (.BoolOp .And (a::b::rest) pos) (tAndV ta tb):=by
 intro pins s σ H Q I h;refine BoolOp_and (thn (ha pins s σ H _ I h) fun v s1 ⟨x,H1,I1,r1,q1⟩=>?_);obtain ⟨c,rfl,q1⟩:=q1
 cases r1
 refine qBI ?_
 cases c with
 | true=>exact hb pins s1 σ H1 Q I1 q1
 | false=>exact ⟨.bl false,H1,I1,rfl,q1⟩
theorem pe_or (ha:PE X a ta) (hb:PE X (.BoolOp .Or (b::rest) pos) tb):PE X (.BoolOp .Or (a::b::rest) pos) (tOrV ta tb):=by
 intro pins s σ H Q I h;refine BoolOp_or (thn (ha pins s σ H _ I h) fun v s1 ⟨x,H1,I1,r1,q1⟩=>?_);obtain ⟨c,rfl,q1⟩:=q1
 cases r1
 refine qBI ?_
 cases c with
 | false=>exact hb pins s1 σ H1 Q I1 q1
 | true=>exact ⟨.bl true,H1,I1,rfl,q1⟩
theorem pe_not (ha:PE X a ta):PE X (.UnaryOp .Not a pos) (tNotV ta):=by
 intro pins s σ H Q I h;refine UnaryOp_ (thn (ha pins s σ H _ I h) fun v s1 ⟨x,H1,I1,r1,q1⟩=>?_);obtain ⟨c,rfl,q1⟩:=q1
 cases r1
 exact not_of (qBI ⟨.bl (!c),H1,I1,rfl,q1⟩)
def tIf (t:TT) (ta tb:TE):TE:=fun σ H Q=>t σ H fun c H1=>if c=true then ta σ H1 Q else tb σ H1 Q
theorem pe_ifExp {c:Expr} (hc:PT X c tA) (ha:PE X a ta) (hb:PE X b tb):PE X (.IfExp c a b pos) (tIf tA ta tb):=by
 intro pins s σ H Q I h;refine wpAny_IfExp (thn (hc pins s σ H _ I h) fun d s1 ⟨H1,I1,q1⟩=>?_)
 cases d with
 | true=>exact ha pins s1 σ H1 Q I1 q1
 | false=>exact hb pins s1 σ H1 Q I1 q1
end
def SqL (K:PySem.W.Frag) (H:Hp) (a:Addr) (xs:List V):Prop :=
 Rd H a (.lst xs) \/
  ∃(o:Obj) (its:Array Value) (n:Nat),K.lookup a=some o/\o.cls= .type "list" /\o.dict=none/\o.data= .seq its n/\its.size<=sizeLine/\Vals xs its.toList
def SqT (K:PySem.W.Frag) (H:Hp) (a:Addr) (xs:List V):Prop :=
 Rd H a (.tup xs) \/
  ∃(o:Obj) (its:Array Value) (n:Nat),K.lookup a=some o/\o.cls= .type "tuple" /\o.data= .seq its n/\its.size<=sizeLine/\Vals xs its.toList
def absV:Value->Option V
 | .none=>some .non
 | .bool b=>some (.bl b)
 | .int i _=>some (.int i)
 | .str x _=>some (.str x)
 | .bytes b _=>some (.byt b)
 | .float b _=>some (.flt b)
 | .ref a=>some (.ref a)
 | .type n=>some (.ty n)
 | _=>none
theorem RelV.abs {x:V} (r:RelV x u):absV u=some x:=by
 cases x with
 | non=>cases r;rfl
 | bl _=>cases r;rfl
 | int _=>obtain ⟨t,rfl⟩:=r;rfl
 | str _=>obtain ⟨t,rfl⟩:=r;rfl
 | byt _=>obtain ⟨t,rfl⟩:=r;rfl
 | flt _=>obtain ⟨t,rfl⟩:=r;rfl
 | ref _=>cases r;rfl
 | ty _=>cases r;rfl
theorem RelV.inj {x:V} (r:RelV x u) (q:RelV y u):x=y:=qAb (r.abs.symm.trans q.abs)
theorem Vals.inj:∀{xs ys:List V} {us:List Value},Vals xs us->Vals ys us->xs=ys
 | _,_,_,.nil,.nil=>rfl
 | _,_,_,.cons r t,.cons r' t'=>by rw [r.inj r',Vals.inj t t']
section
variable {X:Cx} {pins:List (Addr×Obj)} {σ:St} {H:Hp} {s:Shared} {a:Addr} {xs ys:List V}
theorem SqL.of (h:H a=some (.lst xs)):SqL K H a xs:=.inl (.inl h)
theorem SqT.of (h:H a=some (.tup xs)):SqT K H a xs:=.inl (.inl h)
theorem Inv.list (I:Inv X pins σ H s) (h:SqL X.K H a xs):∃its:List Value,Vals xs its/\PlainL s.heap a its.toArray/\xs.length<=sizeLine:=by
 rcases h with h| ⟨o,its,n,hk,hc,hd,hs,hz,r⟩
 ·obtain ⟨z,its,n,r,e⟩:=h.ok I.hok;exact ⟨its,r,⟨_,n,e,rfl,rfl,rfl⟩,z⟩
 ·refine ⟨its.toList,r,⟨o,n,I.kIn a o hk,hc,hd,by simpa using hs⟩,?_⟩;have e:=r.length;simp only [qBo] at e;lia
theorem Inv.tuple (I:Inv X pins σ H s) (h:SqT X.K H a xs):∃its:List Value,Vals xs its/\IsTup s.heap a its.toArray/\xs.length<=sizeLine:=by
 rcases h with h| ⟨o,its,n,hk,hc,hs,hz,r⟩
 ·obtain ⟨z,its,r,p⟩:=h.ok I.hok;exact ⟨its,r,p,z⟩
 ·refine ⟨its.toList,r,⟨o,I.kIn a o hk,hc,n,by simpa using hs⟩,?_⟩;have e:=r.length;simp only [qBo] at e;lia
theorem Inv.list_inj (I:Inv X pins σ H s) (h:SqL X.K H a xs) (h':SqL X.K H a ys):xs=ys:=by
 obtain ⟨its,r,⟨o,n,e,_,_,d⟩,_⟩:=I.list h;obtain ⟨its',r',⟨o',n',e',_,_,d'⟩,_⟩:=I.list h';rw [e] at e';cases e';rw [d] at d';injection d' with d1 _;have:its=its':=by simpa using qAg Array.toList d1
 subst this;exact r.inj r'
theorem Inv.tuple_inj (I:Inv X pins σ H s) (h:SqT X.K H a xs) (h':SqT X.K H a ys):xs=ys:=by
 obtain ⟨its,r,⟨o,e,_,n,d⟩,_⟩:=I.tuple h;obtain ⟨its',r',⟨o',e',_,n',d'⟩,_⟩:=I.tuple h';rw [e] at e';cases e';rw [d] at d';injection d' with d1 _;have:its=its':=by simpa using qAg Array.toList d1
 subst this;exact r.inj r'
end
abbrev Cx.wish (X:Cx) (E:Value->Shared->Prop):Cx:={X with xe:=E}
abbrev Cx.nox (X:Cx):Cx:=X.wish fun _ _=>False
theorem Cx.Ok.wish (ok:X.Ok) (E:Value->Shared->Prop):(X.wish E).Ok :=
 ⟨ok.mod,ok.kind,ok.glob,ok.blt,ok.above,ok.inj,ok.has,ok.cab,ok.hd,ok.frames,ok.stk,ok.exf,ok.bs,ok.bsz,ok.noex,ok.exfs,ok.funs,ok.frf⟩
theorem Cx.Ok.unwish {E:Value->Shared->Prop} (ok:(X.wish E).Ok):X.Ok :=
 ⟨ok.mod,ok.kind,ok.glob,ok.blt,ok.above,ok.inj,ok.has,ok.cab,ok.hd,ok.frames,ok.stk,ok.exf,ok.bs,ok.bsz,ok.noex,ok.exfs,ok.funs,ok.frf⟩
section
variable {X:Cx} {pins:List (Addr×Obj)} {σ:St} {H:Hp} {s:Shared} {E:Value->Shared->Prop}
theorem Inv.wish (I:Inv X pins σ H s) (E:Value->Shared->Prop):Inv (X.wish E) pins σ H s:=⟨I.ok.wish E,I.os,I.bare,I.base,I.loc,I.cell,I.free,I.freeC,I.pin,I.hok,I.len⟩
theorem Inv.unwish (I:Inv (X.wish E) pins σ H s):Inv X pins σ H s:=⟨I.ok.unwish,I.os,I.bare,I.base,I.loc,I.cell,I.free,I.freeC,I.pin,I.hok,I.len⟩
theorem SP.unwish {f:Flow} {s':Shared} (h:SP (X.wish E) pins D f s'):SP X pins D f s':=by
 cases f with
 | next=>obtain ⟨σ',H',I,q⟩:=h;exact ⟨σ',H',I.unwish,q⟩
 | brk=>obtain ⟨σ',H',I,q⟩:=h;exact ⟨σ',H',I.unwish,q⟩
 | cont=>obtain ⟨σ',H',I,q⟩:=h;exact ⟨σ',H',I.unwish,q⟩
 | ret u=>obtain ⟨v,σ',H',I,r,q⟩:=h;exact ⟨v,σ',H',I.unwish,r,q⟩
theorem PSs.nox {st:List Stmt} {t:TS} (h:PSs X.nox st t):PSs X st t:=fun pins s σ H D I hw =>
 qAt (h pins s σ H D (I.wish _) hw) (fun _ _ q=>q.unwish) fun _ _ z=>False.elim z
end
section
variable {X:Cx} {st:Stmt} {rest:List Stmt} {t u:TS} {e:Expr} {te:TE} {pos:Pos}
def tNext:TS:=fun D σ H=>D.nx σ H
def tSeq (t u:TS):TS:=fun D σ H=>t {D with nx:=u D} σ H
theorem zAz:PSs X [] tNext:=fun _ _ σ H _ I h=>qCC ⟨σ,H,I,h⟩
theorem zAc (h1:PS X st t) (h2:PSs X rest u):PSs X (st::rest) (tSeq t u):=by
 intro pins s σ H D I h;refine wpAny_execs_cons (thn (h1 pins s σ H {D with nx:=u D} I h) fun f s1 q=>?_)
 cases f with
 | next =>
  obtain ⟨σ',H',I',q⟩:=q;exact h2 pins s1 σ' H' D I' q
 | ret v=>exact q
 | brk=>exact q
 | cont=>exact q
theorem zAd (h1:PS X st t):PSs X [st] t:=by
 intro pins s σ H D I h;refine wpAny_execs_cons (thn (h1 pins s σ H D I h) fun f s1 q=>?_)
 cases f with
 | next=>exact qCC q
 | ret v=>exact q
 | brk=>exact q
 | cont=>exact q
theorem Inv.quiet (I:Inv X pins σ H s):interactive X.env=false:=by simp [interactive,I.ok.kind]
def tDrop (te:TE):TS:=fun D σ H=>te σ H fun _ H1=>D.nx σ H1
theorem zAq (he:PE X e te) (hs:swapsWith e none pos.line X.env=pure false:=by rfl):PS X (.Expr e pos) (tDrop te):=by
 intro pins s σ H D I h;exact wpAny_Expr_any (thn (he pins s σ H _ I h) fun v s1 ⟨x,H1,I1,r1,q1⟩=>⟨σ,H1,I1,q1⟩) I.quiet hs
def tRet (te:TE):TS:=fun D σ H=>te σ H D.rt
theorem zAs (he:PE X e te):PS X (.Return (some e) pos) (tRet te):=by
 intro pins s σ H D I h;exact wpAny_Return_some (thn (he pins s σ H _ I h) fun v s1 ⟨x,H1,I1,r1,q1⟩=>⟨x,σ,H1,I1,r1,q1⟩)
def tIfS (c:TT) (t u:TS):TS:=fun D σ H=>c σ H fun b H1=>if b=true then t D σ H1 else u D σ H1
theorem zCe {c:Expr} {a b:List Stmt} {tc:TT} (hc:PT X c tc) (ha:PSs X a t) (hb:PSs X b u):PS X (.If c a b pos) (tIfS tc t u):=by
 intro pins s σ H D I h;refine wpAny_If (thn (hc pins s σ H _ I h) fun d s1 ⟨H1,I1,q1⟩=>?_)
 cases d with
 | true=>exact ha pins s1 σ H1 D I1 q1
 | false=>exact hb pins s1 σ H1 D I1 q1
def tNever:TS:=fun _ _ _=>False
theorem zBn:PS X st tNever:=fun _ _ _ _ _ _ h=>h.elim
theorem pss_never {sts:List Stmt}:PSs X sts tNever:=fun _ _ _ _ _ _ h=>h.elim
end
abbrev TG:=V->St->Hp->(St->Hp->Prop)->Prop
variable {g:TG}
abbrev TGs:=List V->St->Hp->(St->Hp->Prop)->Prop
def PG (X:Cx) (target:Expr) (t:TG):Prop :=
 ∀(pins:List (Addr×Obj)) (s:Shared) (σ:St) (H:Hp) (v:V) (u:Value) (Q:St->Hp->Prop),Inv X pins σ H s->RelV v u->t v σ H Q ->
  wpAny (model X.prog X.w) X.A (assign target X.env u) (fun _ s'=>∃σ' H',Inv X pins σ' H' s'/\Q σ' H') X.xe s
def PGs (X:Cx) (ts:List Expr) (t:TGs):Prop :=
 ∀(pins:List (Addr×Obj)) (s:Shared) (σ:St) (H:Hp) (vs:List V) (us:List Value) (Q:St->Hp->Prop),Inv X pins σ H s->Vals vs us->t vs σ H Q ->
  wpAny (model X.prog X.w) X.A (assignInOrder ((assignEach ts X.env).map (·.2)) us) (fun _ s'=>∃σ' H',Inv X pins σ' H' s'/\Q σ' H') X.xe s
abbrev TSet:=V->V->V->Hp->(Hp->Prop)->Prop
def PSet (X:Cx) (t:TSet):Prop :=
 ∀(pins:List (Addr×Obj)) (s:Shared) (σ:St) (H:Hp) (o i v:V) (ov iv u:Value) (Q:Hp->Prop),Inv X pins σ H s->RelV o ov->RelV i iv->RelV v u->t o i v H Q ->
  wpAny (model X.prog X.w) X.A (setItem ov iv u) (fun _ s'=>∃H',Inv X pins σ H' s'/\Q H') X.xe s
section
variable {X:Cx} {pos:Pos}
def gName (i:Nat):TG:=fun v σ H Q=>Q (σ.set i (some v)) H
theorem pg_name (hN:X.N.Nodup) (hi:X.N[i]?=some x) (hx:Loc X.env.scope x) (hf:X.fn x=true\/X.env.scope.names.lookup x=some .local:=by first| exact .inl rfl| exact .inr rfl| assumption):PG X (.Name x pos) (gName i):=by
 intro pins s σ H v u Q I r h;exact wpAny_assign_Name (zFz I hN hi hx r (fun s' I'=>⟨_,H,I',h⟩) hf)
def gNil:TGs:=fun vs σ H Q=>vs=[]/\Q σ H
def gCons (t:TG) (u:TGs):TGs:=fun vs σ H Q=>∃v r,vs=v::r/\t v σ H fun σ' H'=>u r σ' H' Q
theorem zCu:PGs X [] gNil:=by
 intro pins s σ H vs us Q I r h;obtain ⟨e,h⟩:=h;subst e
 cases r
 exact assignInOrder_nil ⟨σ,H,I,h⟩
theorem zAp {es:List Expr} {t:TG} {u:TGs} (h1:PG X e t) (h2:PGs X es u)
  (hs:(assignEach (e::es) X.env).map (·.2)=assign e X.env::(assignEach es X.env).map (·.2):=by rfl):PGs X (e::es) (gCons t u):=by
 intro pins s σ H vs us Q I r h;obtain ⟨v,vr,e1,h⟩:=h;subst e1
 cases r with
 | cons r rr =>
  rw [hs];refine assignInOrder_cons (thn (h1 pins s σ H _ _ _ I r h) fun _ s1 ⟨σ1,H1,I1,q1⟩=>?_);exact h2 pins s1 σ1 H1 _ _ Q I1 rr q1
def gTup (K:PySem.W.Frag) (n:Nat) (t:TGs):TG:=fun v σ H Q=>∃a xs,v= .ref a/\SqT K H a xs/\xs.length=n/\t xs σ H Q
theorem zGe {es:List Expr} {k:Nat} {t:TGs} {n:Nat} (hc:X.calm=true) (h:PGs X es t)
  (hn:(assignEach es X.env).length=n:=by rfl) (hst:(assignEach es X.env).findIdx? (·.1)=none:=by rfl):PG X (.Tuple es k pos) (gTup X.K n t):=by
 intro pins s σ H v u Q I r hw;obtain ⟨a,xs,e1,hq,hl,hw⟩:=hw;subst e1
 cases r
 obtain ⟨its,rv,ht,hz⟩:=I.tuple hq;refine assign_Tuple_tuple (I.ok.hd hc) ht (by simp [hn,<-hl,rv.length]) hst fun h' hx=>?_;have I1:Inv X pins σ H {s with heap:=h'}:=I.kept (t':=s.toks) fun b o e=>hx b o (qAN (qAI e)) e;exact h pins _ σ H xs _ Q I1 (by simpa using rv) hw
def gSub (to ti:TE) (t:TSet):TG:=fun v σ H Q=>to σ H fun o H1=>ti σ H1 fun i H2=>t o i v H2 fun H3=>Q σ H3
theorem pg_sub {o i:Expr} {to ti:TE} {t:TSet} (ho:PE X o to) (hi:PE X i ti) (hs:PSet X t)
  (ha:∀v,assign (.Subscript o i pos) X.env v=(do
   let ov<-holding [v] (eval o X.env)
   let iv<-holding [v,ov] (eval i X.env)
   standAt pos
   holding [v,ov,iv] (setItem ov iv v)
   release [v,ov,iv] []):=by intro _;rfl):PG X (.Subscript o i pos) (gSub to ti t):=by
 intro pins s σ H v u Q I r h;rw [ha];refine qAA (qAv (thn (ho pins s σ H _ I h) fun ov s1 ⟨x,H1,I1,r1,q1⟩=>?_));refine qAA (qAv (thn (hi pins s1 σ H1 _ I1 q1) fun iv s2 ⟨y,H2,I2,r2,q2⟩=>?_));refine qAA (qCb (qAA (qAv (thn (hs pins s2 σ H2 x y v ov iv u _ I2 r1 r2 r q2) fun _ s3 ⟨H3,I3,q3⟩=>?_))));exact wpAny_release ⟨σ,H3,I3,q3⟩
def tAsg (te:TE) (g:TG):TS:=fun D σ H=>te σ H fun x H1=>g x σ H1 D.nx
theorem ps_asg {te:TE} (he:PE X e te) (hg:PG X tg g) (hs:swapsWithSole [tg] e pos.line X.env=pure false:=by rfl) (hw:swappedStores [tg] e X.env=pure none:=by rfl)
  (h1:(assignEach [tg] X.env).map (·.2)=[assign tg X.env]:=by rfl):PS X (.Assign [tg] e pos) (tAsg te g):=by
 intro pins s σ H D I h;refine wpAny_Assign_stores (thn (he pins s σ H _ I h) fun v s1 ⟨x,H1,I1,r1,q1⟩=>?_) hs hw;rw [h1];exact thn (hg pins s1 σ H1 x v _ I1 r1 q1) fun _ s2 q=>q
theorem ps_set {te:TE} {pos':Pos} (hN:X.N.Nodup) (hi:X.N[i]?=some x) (hx:Loc X.env.scope x) (he:PE X e te) (hs:swapsWith e (some (.Name x pos')) pos.line X.env=pure false:=by rfl) (hf:X.fn x=true\/X.env.scope.names.lookup x=some .local:=by first| exact .inl rfl| exact .inr rfl| assumption) :
  PS X (.Assign [.Name x pos'] e pos) (tAsg te (gName i)):=by
 intro pins s σ H D I h;refine wpAny_Assign_Name (thn (he pins s σ H _ I h) fun v s1 ⟨y,H1,I1,r1,q1⟩=>?_) hs;exact zFz I1 hN hi hx r1 (fun s2 I2=>⟨_,H1,I2,q1⟩) hf
end
section
variable {X:Cx} {pos:Pos}
def tWhile (c:TT) (tb:TS):TS:=fun D σ H=>∃W:Nat->St->Hp->Prop,(∃m,W m σ H)/\∀m σ H,W m σ H ->
 c σ H fun b H1=>if b=true then∃N:St->Hp->Prop,(∀σ' H',N σ' H'->∃m',m'<m/\W m' σ' H')/\tb {D with nx:=N,ct:=N,bk:=D.nx} σ H1 else D.nx σ H1
theorem zH8 {c:Expr} {body:List Stmt} {tc:TT} {tb:TS} (hp:PassesOwn (model X.prog X.w) X.A X.env X.xe) (hc:PT X c tc) (hb:PSs X body tb):PS X (.While c body [] pos) (tWhile tc tb):=by
 intro pins s σ H D I h;obtain ⟨W,⟨m0,w0⟩,turn⟩:=h;refine wpAny_While (codeAny_whileLoop (fun n s'=>∃σ' H',Inv X pins σ' H' s'/\W n σ' H') ?_ m0 ⟨σ,H,I,w0⟩);rintro n s1 ⟨σ1,H1,I1,w1⟩;refine qBp hp (thn (hc pins s1 σ1 H1 _ I1 (turn n σ1 H1 w1)) fun b s2 ⟨H2,I2,q2⟩=>?_)
 cases b with
 | true =>
  obtain ⟨N,hN,q2⟩:=q2;rw [qAC rfl];refine qBp hp (thn (hb pins s2 σ1 H2 _ I2 q2) fun f s3 q3=>?_)
  cases f with
  | next =>
   obtain ⟨σ3,H3,I3,n3⟩:=q3;obtain ⟨m',hm,w3⟩:=hN σ3 H3 n3;exact ⟨m',hm,σ3,H3,I3,w3⟩
  | cont =>
   obtain ⟨σ3,H3,I3,n3⟩:=q3;obtain ⟨m',hm,w3⟩:=hN σ3 H3 n3;exact ⟨m',hm,σ3,H3,I3,w3⟩
  | brk=>exact q3
  | ret v=>exact q3
 | false =>
  rw [qAB qAd];exact qCC ⟨σ1,H2,I2,q2⟩
end
structure It where
 go:Nat->Hp->Prop
 yld:Nat->Hp->V->Hp->Prop
 stop:Nat->Hp->Prop
def FpOk (X:Cx) (pins:List (Addr×Obj)) (H:Hp) (b:Addr):Prop :=
 H b=none/\b≠X.env.locals/\b∉X.fs/\(b∈X.ex\/X.s₀.heap.objs.size<=b)/\(∀x c,X.env.cells.lookup x=some c->c≠b)/\∀p∈X.pn++pins,p.1≠b
theorem Inv.fpOk {H':Hp} {b:Addr} (I:Inv X pins σ H s) (hb:s.heap.objs.size<=b) (hn:H' b=none):FpOk X pins H' b:=by
 refine ⟨hn,qAz (qAi I.lt hb),I.nofs hb,.inr (qAW I.sz hb),fun x c e z=>?_,fun p hp z=>?_⟩
 ·obtain ⟨v,q⟩:=I.cell x c e;exact absurd (qAi q.lt (by rw [z];exact hb)) (qAy _)
 ·exact absurd (qAi (qAI (I.pin p hp).1) (by rw [z];exact hb)) (qAy _)
structure Turn (P:Program) (w:World) (K:PySem.W.Frag) (tg:Expr) (J:It) (fp:List Addr) (it:Addr) (tn:Nat->Heap->Prop):Prop where
 mem:it∈fp
 obj:∀i h,tn i h->∀b∈fp,∃o,h.get? b=some o/\∀v,o.data≠.cell v
 keep:∀i h h',tn i h->(∀b∈fp,∀o,h.get? b=some o->h'.get? b=some o)->tn i h'
 item:∀(X:Cx),X.prog=P->X.w=w->X.K=K->X.calm=true->∀(i:Nat) (pins:List (Addr×Obj)) (s:Shared) (σ:St) (H:Hp) (E:Value->Shared->Prop),Inv X pins σ H s->(∀b∈fp,FpOk X pins H b)->tn i s.heap->J.go i H ->
  wpAny (model P w) X.A (pyNext (.ref it)) (fun r s1=>∃u,r=some u /\
   wpAny (model P w) X.A (letOwnedTupleGo tg (.ref it) u) (fun _ s2=>∃x H',Inv X pins σ H' s2/\RelV x u/\J.yld i H x H'/\tn (i+1) s2.heap/\∀b∈fp,H' b=none) E s1) E s
 done:∀(X:Cx),X.prog=P->X.w=w->X.K=K->X.calm=true->∀(i:Nat) (pins:List (Addr×Obj)) (s:Shared) (σ:St) (H:Hp) (E:Value->Shared->Prop),Inv X pins σ H s->(∀b∈fp,FpOk X pins H b)->tn i s.heap->J.stop i H ->
  wpAny (model P w) X.A (pyNext (.ref it)) (fun r s1=>r=none/\Inv X pins σ H s1) E s
 self:∀(A:Around) (i:Nat) (s:Shared) (Q:Value->Shared->Prop) (E:Value->Shared->Prop),tn i s.heap->Q (.ref it) s->wpAny (model P w) A (pyIter (.ref it)) Q E s
abbrev TI:=St->Hp->(It->Hp->Prop)->Prop
def PIE (X:Cx) (pins:List (Addr×Obj)) (σ:St) (tg:Expr) (R:It->Hp->Prop) (itv:Value) (s2:Shared):Prop :=
 ∃(it:Addr) (fp:List Addr) (tn:Nat->Heap->Prop) (J:It) (H':Hp),itv= .ref it/\Inv X pins σ H' s2/\Turn X.prog X.w X.K tg J fp it tn/\tn 0 s2.heap/\(∀b∈fp,FpOk X pins H' b)/\R J H'
def PI (X:Cx) (tg iter:Expr) (wi:TI):Prop :=
 ∀(pins:List (Addr×Obj)) (s:Shared) (σ:St) (H:Hp) (R:It->Hp->Prop),Inv X pins σ H s->wi σ H R ->
  wpAny (model X.prog X.w) X.A (eval iter X.env) (fun v s1=>wpAny (model X.prog X.w) X.A (pyIter v) (PIE X pins σ tg R) X.xe s1) X.xe s
theorem go_of {M:Model} {E:Value->Shared->Prop} {s:Shared} {it:Addr} {o:Obj} {n:String} {vs:Array Value} {Q:Unit->Shared->Prop} (ho:s.heap.get? it=some o) (hc:o.cls= .type n) (hd:o.data= .fields vs)
  (hn:["enumerate", "zip", "dict_itemiterator", "dict_reverseitemiterator", "odict_iterator", "itertools.zip_longest", "itertools.pairwise"].contains n=false) (hQ:Q () s):wpAny M A (letOwnedTupleGo tg (.ref it) u) Q E s:=by
 unfold letOwnedTupleGo
 cases tg<;>first
  | exact qAD hQ
  | (cases u<;>first
    | exact qAD hQ
    | (refine qAA (qCD ho ?_)
       rw [hc,hd];show wpAny M A (if (["enumerate", "zip", "dict_itemiterator", "dict_reverseitemiterator", "odict_iterator", "itertools.zip_longest", "itertools.pairwise"].contains n&&vs[0]?==some (rawInt _))=true then _ else _) Q E s;rw [qAB (by intro h;rw [hn,Bool.false_and] at h;cases h)];exact qAD hQ))
def Itl (K:PySem.W.Frag) (a:Addr):It :=
 ⟨fun i H=>∃xs x,SqL K H a xs/\xs[i]?=some x,fun i H x H'=>H'=H/\∀xs,SqL K H a xs->xs[i]?=some x,fun i H=>∃xs,SqL K H a xs/\xs.length<=i⟩
def Itt (K:PySem.W.Frag) (a:Addr):It :=
 ⟨fun i H=>∃xs x,SqT K H a xs/\xs[i]?=some x,fun i H x H'=>H'=H/\∀xs,SqT K H a xs->xs[i]?=some x,fun i H=>∃xs,SqT K H a xs/\xs.length<=i⟩
def Itr (lo:Int) (n:Nat):It:=⟨fun i _=>i<n,fun i H x H'=>H'=H/\x= .int (lo+i),fun i _=>n<=i⟩
theorem turn_list (a it:Addr):Turn P w K tg (Itl K a) [it] it (fun i h=>h.IsListIter it a i) where
 mem:=by simp
 obj:=fun i h st b hb=>by
  have e:b=it:=by simpa using hb
  subst e;obtain ⟨o,e,c,d⟩:=st;exact ⟨o,e,fun v z=>by rw [d] at z;cases z⟩
 keep:=fun i h h' st k=>st.at fun o e=>k it (by simp) o e
 item:=by
  intro X hP hw hK hc i pins s σ H E I hf st hg;subst hP hw hK;obtain ⟨xs,x,hq,hx⟩:=hg;obtain ⟨its,rv,p,hz⟩:=I.list hq;obtain ⟨u,hu,ru⟩:=rv.get hx;obtain ⟨f0,f1,f2,f3,f4,f5⟩:=hf it (by simp);refine wpAny_pyNext_list_item st p.isList (x:=u) (by simpa using hu) fun h' st' sb=>?_;have I1:Inv X pins σ H {s with heap:=h'}:=I.turned (t':=s.toks) (fun b o hb e=>(sb.2 b hb).trans e) f0 f1 f3 f4 f5;obtain ⟨o,e,c,d⟩:=id st';exact ⟨u,rfl,go_of (s:={s with heap:=h'}) e c d (by decide) ⟨x,H,I1,ru,⟨rfl,fun ys hy=>by rw [I.list_inj hy hq];exact hx⟩,st',fun b hb=>(hf b hb).1⟩⟩
 done:=by
  intro X hP hw hK hc i pins s σ H E I hf st hg;subst hP hw hK;obtain ⟨xs,hq,hx⟩:=hg;obtain ⟨its,rv,p,hz⟩:=I.list hq;obtain ⟨f0,f1,f2,f3,f4,f5⟩:=hf it (by simp);have hl:=rv.length;exact wpAny_pyNext_list_end (I.ok.hd hc) st p.isList (by simp;lia) fun h' eb=>⟨rfl,I.turned (t':=s.toks) (fun b o hb e=>eb b o hb e) f0 f1 f3 f4 f5⟩
 self:=fun _ _ _ _ _ st h=>wpAny_pyIter_listiter st h
theorem turn_tuple (a it:Addr):Turn P w K tg (Itt K a) [it] it (fun i h=>h.IsTupleIter it a i) where
 mem:=by simp
 obj:=fun i h st b hb=>by
  have e:b=it:=by simpa using hb
  subst e;obtain ⟨o,e,c,d⟩:=st;exact ⟨o,e,fun v z=>by rw [d] at z;cases z⟩
 keep:=fun i h h' st k=>st.at fun o e=>k it (by simp) o e
 item:=by
  intro X hP hw hK hc i pins s σ H E I hf st hg;subst hP hw hK;obtain ⟨xs,x,hq,hx⟩:=hg;obtain ⟨its,rv,p,hz⟩:=I.tuple hq;obtain ⟨u,hu,ru⟩:=rv.get hx;obtain ⟨f0,f1,f2,f3,f4,f5⟩:=hf it (by simp);refine wpAny_pyNext_tuple_item st (show s.heap.IsTuple a its.toArray from p) (x:=u) (by simpa using hu) fun h' st' sb=>?_;have I1:Inv X pins σ H {s with heap:=h'}:=I.turned (t':=s.toks) (fun b o hb e=>(sb.2 b hb).trans e) f0 f1 f3 f4 f5;obtain ⟨o,e,c,d⟩:=id st';exact ⟨u,rfl,go_of (s:={s with heap:=h'}) e c d (by decide) ⟨x,H,I1,ru,⟨rfl,fun ys hy=>by rw [I.tuple_inj hy hq];exact hx⟩,st',fun b hb=>(hf b hb).1⟩⟩
 done:=by
  intro X hP hw hK hc i pins s σ H E I hf st hg;subst hP hw hK;obtain ⟨xs,hq,hx⟩:=hg;obtain ⟨its,rv,p,hz⟩:=I.tuple hq;obtain ⟨f0,f1,f2,f3,f4,f5⟩:=hf it (by simp);have hl:=rv.length;exact wpAny_pyNext_tuple_end (I.ok.hd hc) st (show s.heap.IsTuple a its.toArray from p) (by simp;lia) fun h' eb=>⟨rfl,I.turned (t':=s.toks) (fun b o hb e=>eb b o hb e) f0 f1 f3 f4 f5⟩
 self:=fun _ _ _ _ _ st h=>wpAny_pyIter_tupleiter st h
theorem turn_range (it:Addr) (lo:Int) (n:Nat):Turn P w K tg (Itr lo n) [it] it (fun i h=>IsRangeIter h it (lo+(i:Nat)*1) ((n:Int) - (i:Nat)) 1) where
 mem:=by simp
 obj:=fun i h st b hb=>by
  have e:b=it:=by simpa using hb
  subst e
  exact ⟨_,st,fun v z=>by
   have z':Data.fields _=Data.cell v:=z
   cases z'⟩
 keep:=fun i h h' st k=>k it (by simp) _ st
 item:=by
  intro X hP hw hK hc i pins s σ H E I hf st hg;subst hP hw hK;obtain ⟨f0,f1,f2,f3,f4,f5⟩:=hf it (by simp);have W:=Walks.range (prog:=X.prog) (w:=X.w) (I.ok.hd hc) it lo 1 n;refine W.item i s _ _ hg st fun v h' tk hv st' kk=>?_;obtain ⟨t,rfl⟩:=hv;have I1:Inv X pins σ H {s with heap:=h',toks:=tk}:=I.turned (fun b o hb e=>kk b o (by simpa using hb) e) f0 f1 f3 f4 f5;refine ⟨_,rfl,go_of (s:={s with heap:=h',toks:=tk}) (n:= "range_iterator") st' rfl rfl (by decide) ⟨.int (lo+i),H,I1,⟨t,?_⟩,⟨rfl,rfl⟩,st',fun b hb=>(hf b hb).1⟩⟩;rw [Int.mul_one]
 done:=by
  intro X hP hw hK hc i pins s σ H E I hf st hg;subst hP hw hK;obtain ⟨f0,f1,f2,f3,f4,f5⟩:=hf it (by simp);exact wpAny_pyNext_range_end (I.ok.hd hc) st (by have:n<=i:=hg;lia) fun h' eb=>⟨rfl,I.turned (t':=s.toks) (fun b o hb e=>eb b o hb e) f0 f1 f3 f4 f5⟩
 self:=fun _ _ _ _ _ st h=>wpAny_pyIter_rangeiter st h
section
variable {X:Cx} {tg:Expr}
def iList (K:PySem.W.Frag) (tl:TE):TI:=fun σ H R=>tl σ H fun x H1=>∃a,x= .ref a/\(∃xs,SqL K H1 a xs)/\R (Itl K a) H1
def iTup (K:PySem.W.Frag) (tl:TE):TI:=fun σ H R=>tl σ H fun x H1=>∃a,x= .ref a/\(∃xs,SqT K H1 a xs)/\R (Itt K a) H1
theorem zAv {l:Expr} {tl:TE} (hl:PE X l tl):PI X tg l (iList X.K tl):=by
 intro pins s σ H R I h;refine thn (hl pins s σ H _ I h) fun v s1 ⟨x,H1,I1,r1,q1⟩=>?_;obtain ⟨a,e,⟨xs,hq⟩,q⟩:=q1;subst e
 cases r1
 obtain ⟨its,rv,p,hz⟩:=I1.list hq;refine wpAny_pyIter_list p.isList ?_;refine ⟨s1.heap.objs.size,[s1.heap.objs.size],_,_,H1,rfl,I1.kept (t':=s1.toks) fun b o e=>qAJ _ e,turn_list a _,⟨_,qAe _ rfl,rfl,rfl⟩,fun b hb=>?_,q⟩;have e:b=s1.heap.objs.size:=by simpa using hb
 subst e;exact I1.fpOk (qAG _) (I1.hok.fresh (qAG _))
theorem pi_tup {l:Expr} {tl:TE} (hl:PE X l tl):PI X tg l (iTup X.K tl):=by
 intro pins s σ H R I h;refine thn (hl pins s σ H _ I h) fun v s1 ⟨x,H1,I1,r1,q1⟩=>?_;obtain ⟨a,e,⟨xs,hq⟩,q⟩:=q1;subst e
 cases r1
 obtain ⟨its,rv,p,hz⟩:=I1.tuple hq;refine wpAny_pyIter_tuple (show s1.heap.IsTuple a its.toArray from p) ?_;refine ⟨s1.heap.objs.size,[s1.heap.objs.size],_,_,H1,rfl,I1.kept (t':=s1.toks) fun b o e=>qAJ _ e,turn_tuple a _,⟨_,qAe _ rfl,rfl,rfl⟩,fun b hb=>?_,q⟩;have e:b=s1.heap.objs.size:=by simpa using hb
 subst e;exact I1.fpOk (qAG _) (I1.hok.fresh (qAG _))
theorem range_it {R:It->Hp->Prop} {E:Value->Shared->Prop} {lo hi:Int} {t u v:Tok} {tk:Nat} (I:Inv X pins σ H s) (h1:-(2^62)<=lo) (h2:lo<2^62) (h3:-(2^62)<=hi) (h4:hi<2^62)
  (q:R (Itr lo (hi - lo).toNat) H):wpAny (model X.prog X.w) X.A (pyIter (.ref s.heap.objs.size)) (PIE X pins σ tg R) E {s with heap:=s.heap.push {cls:=.type "range",data:=.fields #[.int lo t,.int hi u,.int 1 v]},toks:=tk}:=by
 refine wpAny_pyIter_range (IsRange.new ..) (small_one h1 h2 h3 h4) ?_;have I1:Inv X pins σ H {s with heap:=s.heap.push {cls:=.type "range",data:=.fields #[.int lo t,.int hi u,.int 1 v]},toks:=tk}:=I.kept fun b o e=>qAJ _ e
 refine ⟨(s.heap.push {cls:=.type "range",data:=.fields #[.int lo t,.int hi u,.int 1 v]}).objs.size,[(s.heap.push {cls:=.type "range",data:=.fields #[.int lo t,.int hi u,.int 1 v]}).objs.size],_,_,H,rfl,
  I1.kept (t':=tk) fun b o e=>qAJ _ e,turn_range _ lo (hi - lo).toNat,?_,fun b hb=>?_,q⟩
 ·have e1:lo+((0:Nat):Int)*1=lo:=by simp
  have e2:(((hi - lo).toNat:Nat):Int) - ((0:Nat):Int)=Builtin.Range.rangeSize lo hi 1:=by rw [rangeSize_one];split<;>lia
  show IsRangeIter _ _ (lo+((0:Nat):Int)*1) ((((hi - lo).toNat:Nat):Int) - ((0:Nat):Int)) 1;rw [e1,e2];exact qAe _ rfl
 ·have e:b=(s.heap.push {cls:=.type "range",data:=.fields #[.int lo t,.int hi u,.int 1 v]}).objs.size:=by simpa using hb
  subst e;exact I1.fpOk (qAG _) (I1.hok.fresh (qAG _))
def iRng1 (ta:TA):TI:=fun σ H R=>ta σ H fun vs H1=>∃j:Int,vs=[.int j]/\-(2^62)<=j/\j<2^62/\R (Itr 0 j.toNat) H1
def iRng2 (ta:TA):TI:=fun σ H R=>ta σ H fun vs H1=>∃i j:Int,vs=[.int i,.int j]/\(-(2^62)<=i/\i<2^62/\-(2^62)<=j/\j<2^62)/\R (Itr i (j - i).toNat) H1
theorem zCz {a:Expr} {ta:TA} {p:Pos} (hg:Gl X "range") (hm:X.mg "range" = none) (ha:PA X [a] ta) (hs:starEach [a] X.env=[(false,eval a X.env)]:=by rfl):PI X tg (.Call (.Name "range" p) [a] [] pos) (iRng1 ta):=by
 intro pins s σ H R I h;refine Call_ (zHn I hg hm boot_range (qCc (thn (ha pos pins s σ H _ I h) fun us s1 ⟨vs,H1,I1,r1,q1⟩=>?_) hs rfl));obtain ⟨j,e,q1,q2,q⟩:=q1;subst e
 cases r1 with
 | cons r rr =>
  cases rr
  obtain ⟨t,rfl⟩:=r;exact call_range_1 (range_it I1 (by lia) (by lia) q1 q2 (by simpa using q))
theorem pi_range2 {a b:Expr} {ta:TA} {p pos:Pos} (hg:Gl X "range") (hm:X.mg "range" = none) (ha:PA X [a,b] ta) (hs:starEach [a,b] X.env=[(false,eval a X.env),(false,eval b X.env)]:=by rfl) (hs2:starEach [b] X.env=[(false,eval b X.env)]:=by rfl) :
  PI X tg (.Call (.Name "range" p) [a,b] [] pos) (iRng2 ta):=by
 intro pins s σ H R I h;refine Call_ (zHn I hg hm boot_range (qCc (thn (ha pos pins s σ H _ I h) fun us s1 ⟨vs,H1,I1,r1,q1⟩=>?_) (by rw [hs,hs2]) (by rw [hs2];rfl)));obtain ⟨i,j,e,⟨q1,q2,q3,q4⟩,q⟩:=q1;subst e
 cases r1 with
 | cons r rr =>
  cases rr with
  | cons r' rr =>
   cases rr
   obtain ⟨t,rfl⟩:=r;obtain ⟨t',rfl⟩:=r';exact call_range_2 (range_it I1 q1 q2 q3 q4 q)
def tFor (wi:TI) (g:TG) (tb:TS):TS:=fun D σ H=>wi σ H fun J H1=>∃W:Nat->Nat->St->Hp->Prop,(∃m,W 0 m σ H1)/\∀i m σ H,W i m σ H ->
 (J.stop i H/\D.nx σ H)\/(J.go i H/\∃N:St->Hp->Prop,(∀σ' H',N σ' H'->∃m',m'<m/\W (i+1) m' σ' H')/\∀x H',J.yld i H x H'->g x σ H' fun σ2 H2=>tb {D with nx:=N,ct:=N,bk:=D.nx} σ2 H2)
def zHi (fp:List Addr) (h:Heap):List (Addr×Obj):=fp.filterMap fun b=>(h.get? b).map fun o=>(b,o)
theorem zBz {fp:List Addr} {o:Obj} (hb:b∈fp) (e:h.get? b=some o):(b,o)∈zHi fp h:=List.mem_filterMap.mpr ⟨b,hb,by rw [e];rfl⟩
theorem of_pinsAt {fp:List Addr} {p:Addr×Obj} (hp:p∈zHi fp h):p.1∈fp/\h.get? p.1=some p.2:=by
 obtain ⟨b,hb,e⟩:=List.mem_filterMap.mp hp
 cases q:h.get? b with
 | none=>rw [q] at e;cases e
 | some o =>
  rw [q] at e;have e':(b,o)=p:=qAb e;subst e';exact ⟨hb,q⟩
theorem Inv.pinned {fp:List Addr} (I:Inv X pins σ H s) (hf:∀b∈fp,FpOk X pins H b) (ho:∀b∈fp,∃o,s.heap.get? b=some o/\∀v,o.data≠.cell v):Inv X (pins++zHi fp s.heap) σ H s :=
 I.pins_of fun p hp=>(qAS.mp hp).elim (fun z=>I.pin p (qAl _ z)) fun z=>by
  obtain ⟨hb,e⟩:=of_pinsAt z;obtain ⟨f0,f1,f2,_⟩:=hf p.1 hb;obtain ⟨o,e',d⟩:=ho p.1 hb;rw [e] at e';cases e';exact ⟨e,f0,f1,f2,d⟩
theorem Inv.unpinned {pl:List (Addr×Obj)} (I:Inv X (pins++pl) σ H s):Inv X pins σ H s:=I.pins_of fun p hp=>I.pin p (qAl _ (qAk _ hp))
theorem zBb {iter:Expr} {body:List Stmt} {wi:TI} {tb:TS} (hp:PassesOwn (model X.prog X.w) X.A X.env X.xe) (hc:X.calm=true) (hi:PI X tg iter wi) (hg:PG X tg g) (hb:PSs X body tb)
  (hs:∀x,foldedSetIterable iter X.env x=pure x:=by intro _;rfl):PS X (.For tg iter body [] pos) (tFor wi g tb):=by
 intro pins s σ H D I h;refine wpAny_For (thn (hi pins s σ H _ I h) fun v s1 h1=>thn h1 fun itv s2 h2=>?_) hs;obtain ⟨it,fp,tn,J,H2,e,I2,T,st2,f2,W,⟨m0,w0⟩,turn⟩:=h2;subst e;have stat:∀{H':Hp},(∀b∈fp,H' b=none)->∀b∈fp,FpOk X pins H' b:=fun hn b hb=>⟨hn b hb,(f2 b hb).2⟩;refine codeAny_forLoop_any (fun n s'=>∃i σ' H',Inv X pins σ' H' s'/\tn i s'.heap/\(∀b∈fp,H' b=none)/\W i n σ' H') ?_ m0 ⟨0,σ,H2,I2,st2,fun b hb=>(f2 b hb).1,w0⟩;rintro n s3 ⟨i,σ3,H3,I3,st3,fr3,w3⟩;rcases turn i n σ3 H3 w3 with ⟨stop,qn⟩| ⟨go,N,hN,step⟩
 ·refine qBp hp (thn (T.done X rfl rfl rfl hc i pins s3 σ3 H3 X.xe I3 (stat fr3) st3 stop) fun r s4 ⟨hr,I4⟩=>?_);subst hr;exact qCC ⟨σ3,H3,I4,qn⟩
 ·refine qBp hp (thn (T.item X rfl rfl rfl hc i pins s3 σ3 H3 X.xe I3 (stat fr3) st3 go) fun r s4 ⟨u,hr,h4⟩=>?_);subst hr;refine qBp hp (thn h4 fun _ s5 ⟨x,H5,I5,r5,y5,st5,fr5⟩=>?_);have I5':=I5.pinned (stat fr5) (T.obj _ _ st5);refine qBp hp (thn (hg _ s5 σ3 H5 x u _ I5' r5 (step x H5 y5)) fun _ s6 ⟨σ6,H6,I6,q6⟩=>?_);refine qBp hp (thn (hb _ s6 σ6 H6 _ I6 q6) fun f s7 q7=>?_)
  have again:∀{σ7:St} {H7:Hp},Inv X (pins++zHi fp s5.heap) σ7 H7 s7->N σ7 H7->∃m,m<n/\∃i σ' H',Inv X pins σ' H' s7/\tn i s7.heap/\(∀b∈fp,H' b=none)/\W i m σ' H':=fun {σ7 H7} I7 n7=>by
   obtain ⟨m',hm,w7⟩:=hN σ7 H7 n7;refine ⟨m',hm,i+1,σ7,H7,I7.unpinned,T.keep _ _ _ st5 fun b hb o e=>(I7.pin (b,o) (qAl _ (qAl _ (zBz hb e)))).1,fun b hb=>?_,w7⟩;obtain ⟨o,e,d⟩:=T.obj _ _ st5 b hb;exact (I7.pin (b,o) (qAl _ (qAl _ (zBz hb e)))).2.1
  cases f with
  | next=>obtain ⟨σ7,H7,I7,n7⟩:=q7;exact again I7 n7
  | cont=>obtain ⟨σ7,H7,I7,n7⟩:=q7;exact again I7 n7
  | brk=>obtain ⟨σ7,H7,I7,q7⟩:=q7;exact ⟨σ7,H7,I7.unpinned,q7⟩
  | ret v=>obtain ⟨x7,σ7,H7,I7,r7,q7⟩:=q7;exact ⟨x7,σ7,H7,I7.unpinned,r7,q7⟩
end
theorem zBp {xs:List V} {tb:TS} (Pv:Nat->St->Hp->Prop) (h0:Pv 0 σ H) (hl:∀i σ H,i<=xs.length->Pv i σ H->SqL K H a xs)
  (hs:∀i x σ H,xs[i]?=some x->Pv i σ H->g x σ H fun σ2 H2=>tb {D with nx:=Pv (i+1),ct:=Pv (i+1),bk:=D.nx} σ2 H2) (hd:∀σ H,Pv xs.length σ H->D.nx σ H) :
  ∃W:Nat->Nat->St->Hp->Prop,(∃m,W 0 m σ H)/\∀i m σ H,W i m σ H ->
   ((Itl K a).stop i H/\D.nx σ H)\/((Itl K a).go i H/\∃N:St->Hp->Prop,(∀σ' H',N σ' H'->∃m',m'<m/\W (i+1) m' σ' H')/\∀x H',(Itl K a).yld i H x H'->g x σ H' fun σ2 H2=>tb {D with nx:=N,ct:=N,bk:=D.nx} σ2 H2):=by
 refine ⟨fun i m σ H=>m=xs.length - i/\i<=xs.length/\Pv i σ H,⟨xs.length,by simp,qAf _,h0⟩,?_⟩;rintro i m σ H ⟨rfl,hi,p⟩;have q:=hl i σ H hi p
 by_cases hlt:i<xs.length
 ·refine .inr ⟨⟨xs,xs[i],q,by simp [hlt]⟩,Pv (i+1),fun σ' H' p'=>⟨xs.length - (i+1),by lia,rfl,hlt,p'⟩,fun x H' y=>?_⟩;obtain ⟨e,y⟩:=y;subst e;exact hs i x σ _ (y xs q) p
 ·have e:i=xs.length:=by lia
  subst e;exact .inl ⟨⟨xs,q,qAG _⟩,hd σ H p⟩
theorem for_tup {tb:TS} (Pv:Nat->St->Hp->Prop) (h0:Pv 0 σ H) (hl:∀i σ H,i<=xs.length->Pv i σ H->SqT K H a xs)
  (hs:∀i x σ H,xs[i]?=some x->Pv i σ H->g x σ H fun σ2 H2=>tb {D with nx:=Pv (i+1),ct:=Pv (i+1),bk:=D.nx} σ2 H2) (hd:∀σ H,Pv xs.length σ H->D.nx σ H) :
  ∃W:Nat->Nat->St->Hp->Prop,(∃m,W 0 m σ H)/\∀i m σ H,W i m σ H ->
   ((Itt K a).stop i H/\D.nx σ H)\/((Itt K a).go i H/\∃N:St->Hp->Prop,(∀σ' H',N σ' H'->∃m',m'<m/\W (i+1) m' σ' H')/\∀x H',(Itt K a).yld i H x H'->g x σ H' fun σ2 H2=>tb {D with nx:=N,ct:=N,bk:=D.nx} σ2 H2):=by
 refine ⟨fun i m σ H=>m=xs.length - i/\i<=xs.length/\Pv i σ H,⟨xs.length,by simp,qAf _,h0⟩,?_⟩;rintro i m σ H ⟨rfl,hi,p⟩;have q:=hl i σ H hi p
 by_cases hlt:i<xs.length
 ·refine .inr ⟨⟨xs,xs[i],q,by simp [hlt]⟩,Pv (i+1),fun σ' H' p'=>⟨xs.length - (i+1),by lia,rfl,hlt,p'⟩,fun x H' y=>?_⟩;obtain ⟨e,y⟩:=y;subst e;exact hs i x σ _ (y xs q) p
 ·have e:i=xs.length:=by lia
  subst e;exact .inl ⟨⟨xs,q,qAG _⟩,hd σ H p⟩
theorem zB7 {lo:Int} {n:Nat} {tb:TS} (Pv:Nat->St->Hp->Prop) (h0:Pv 0 σ H)
  (hs:∀i σ H,i<n->Pv i σ H->g (.int (lo+i)) σ H fun σ2 H2=>tb {D with nx:=Pv (i+1),ct:=Pv (i+1),bk:=D.nx} σ2 H2) (hd:∀σ H,Pv n σ H->D.nx σ H) :
  ∃W:Nat->Nat->St->Hp->Prop,(∃m,W 0 m σ H)/\∀i m σ H,W i m σ H ->
   ((Itr lo n).stop i H/\D.nx σ H)\/((Itr lo n).go i H/\∃N:St->Hp->Prop,(∀σ' H',N σ' H'->∃m',m'<m/\W (i+1) m' σ' H')/\∀x H',(Itr lo n).yld i H x H'->g x σ H' fun σ2 H2=>tb {D with nx:=N,ct:=N,bk:=D.nx} σ2 H2):=by
 refine ⟨fun i m σ H=>m=n - i/\i<=n/\Pv i σ H,⟨n,by simp,qAf _,h0⟩,?_⟩;rintro i m σ H ⟨rfl,hi,p⟩
 by_cases hlt:i<n
 ·refine .inr ⟨hlt,Pv (i+1),fun σ' H' p'=>⟨n - (i+1),by lia,rfl,hlt,p'⟩,fun x H' y=>?_⟩;obtain ⟨e,y⟩:=y;subst e y;exact hs i σ _ hlt p
 ·have e:i=n:=by lia
  subst e;exact .inl ⟨qAG _,hd σ H p⟩
theorem while_by {c:TT} {tb:TS} (Pv:St->Hp->Prop) (μ:St->Hp->Nat) (h0:Pv σ H)
  (hs:∀σ H,Pv σ H->c σ H fun b H1=>if b=true then tb {D with nx:=fun σ' H'=>Pv σ' H'/\μ σ' H'<μ σ H,ct:=fun σ' H'=>Pv σ' H'/\μ σ' H'<μ σ H,bk:=D.nx} σ H1 else D.nx σ H1)
  (mono:∀σ H Q Q',(∀b H1,Q b H1->Q' b H1)->c σ H Q->c σ H Q'):tWhile c tb D σ H:=by
 refine ⟨fun m σ H=>m=μ σ H/\Pv σ H,⟨_,rfl,h0⟩,?_⟩;rintro m σ H ⟨rfl,p⟩;refine mono σ H _ _ (fun b H1 q=>?_) (hs σ H p)
 cases b with
 | true=>exact ⟨_,fun σ' H' ⟨p',l⟩=>⟨_,l,rfl,p'⟩,q⟩
 | false=>exact q
abbrev R2:=V->V->Hp->VK->Prop
variable {r:R2}
def OpR (X:Cx) (f:Value->Value->Sem Value) (r:R2):Prop :=
 ∀(pins:List (Addr×Obj)) (s:Shared) (σ:St) (H:Hp) (x y:V) (v u:Value) (Q:VK),Inv X pins σ H s->RelV x v->RelV y u->r x y H Q ->
  wpAny (model X.prog X.w) X.A (f v u) (EP X pins σ Q) X.xe s
def UnR (X:Cx) (f:Value->Sem Value) (r:V->Hp->VK->Prop):Prop :=
 ∀(pins:List (Addr×Obj)) (s:Shared) (σ:St) (H:Hp) (x:V) (v:Value) (Q:VK),Inv X pins σ H s->RelV x v->r x H Q ->
  wpAny (model X.prog X.w) X.A (f v) (EP X pins σ Q) X.xe s
def zCc (X:Cx) (f:Value) (r:List V->Hp->VK->Prop):Prop :=
 ∀(pins:List (Addr×Obj)) (s:Shared) (σ:St) (H:Hp) (xs:List V) (us:List Value) (Q:VK),Inv X pins σ H s->Vals xs us->r xs H Q ->
  wpAny (model X.prog X.w) X.A (call f us) (EP X pins σ Q) X.xe s
def TruR (X:Cx) (r:V->Hp->(Bool->Hp->Prop)->Prop):Prop :=
 ∀(pins:List (Addr×Obj)) (s:Shared) (σ:St) (H:Hp) (x:V) (v:Value) (Q:Bool->Hp->Prop),Inv X pins σ H s->RelV x v->r x H Q ->
  wpAny (model X.prog X.w) X.A (truthy v) (TP X pins σ Q) X.xe s
def tOp (r:R2) (ta tb:TE):TE:=fun σ H Q=>ta σ H fun x H1=>tb σ H1 fun y H2=>r x y H2 Q
def tUn (r:V->Hp->VK->Prop) (ta:TE):TE:=fun σ H Q=>ta σ H fun x H1=>r x H1 Q
def rI (C:Int->Int->Prop) (g:Int->Int->V):R2:=fun x y H Q=>∃i j,x= .int i/\y= .int j/\C i j/\Q (g i j) H
def rI0 (g:Int->Int->V):R2:=fun x y H Q=>∃i j,x= .int i/\y= .int j/\Q (g i j) H
def rU (g:Int->V):V->Hp->VK->Prop:=fun x H Q=>∃i,x= .int i/\Q (g i) H
section
variable {X:Cx} {a b c:Expr} {ta tb tc:TE} {pos:Pos}
theorem binT (ha:PE X a ta) (hb:PE X b tb) {R:V->V->Hp->Prop} (I:Inv X pins σ H s)
  (h:ta σ H fun x H1=>tb σ H1 fun y H2=>R x y H2) {Q:Value->Shared->Prop} {f:Value->Value->Sem Value}
  (hf:∀v u s2 x y H2,Inv X pins σ H2 s2->RelV x v->RelV y u->R x y H2->wpAny (model X.prog X.w) X.A (f v u) Q X.xe s2) :
  wpAny (model X.prog X.w) X.A (eval a X.env) (fun v s₁=>wpAny (model X.prog X.w) X.A (eval b X.env) (fun u s₂=>wpAny (model X.prog X.w) X.A (f v u) Q X.xe s₂) X.xe s₁) X.xe s:=by
 refine thn (ha pins s σ H _ I h) fun v s1 ⟨x,H1,I1,r1,q1⟩=>?_;refine thn (hb pins s1 σ H1 _ I1 q1) fun u s2 ⟨y,H2,I2,r2,q2⟩=>?_;exact hf v u s2 x y H2 I2 r1 r2 q2
theorem zAm {op:Operator} (ho:OpR X (binaryOp op) r) (ha:PE X a ta) (hb:PE X b tb):PE X (.BinOp a op b pos) (tOp r ta tb):=by
 intro pins s σ H Q I h;exact wpAny_BinOp (binT ha hb I h fun v u s2 x y H2 I2 rx ry q=>ho pins s2 σ H2 x y v u Q I2 rx ry q)
theorem pe_un {op:UnaryOp} {r:V->Hp->VK->Prop} (ho:UnR X (unaryOp op) r) (ha:PE X a ta):PE X (.UnaryOp op a pos) (tUn r ta):=by
 intro pins s σ H Q I h;exact UnaryOp_ (thn (ha pins s σ H _ I h) fun v s1 ⟨x,H1,I1,r1,q1⟩=>ho pins s1 σ H1 x v Q I1 r1 q1)
theorem opI {f:Value->Value->Sem Value} {C:Int->Int->Prop} {g:Int->Int->Int}
  (rule:∀(i j:Int) (t u:Tok) (s:Shared) (Q:Value->Shared->Prop) (E:Value->Shared->Prop),C i j->Q (.int (g i j) s.toks) {s with toks:=s.toks+1}->wpAny (model X.prog X.w) X.A (f (.int i t) (.int j u)) Q E s) :
  OpR X f (rI C fun i j=>.int (g i j)):=by
 intro pins s σ H x y v u Q I rx ry h;obtain ⟨i,j,rfl,rfl,hc,q⟩:=h;obtain ⟨t,rfl⟩:=rx;obtain ⟨t',rfl⟩:=ry;exact rule i j t t' s _ _ hc ⟨.int (g i j),H,I.tok _,⟨_,rfl⟩,q⟩
theorem opI0 {f:Value->Value->Sem Value} {g:Int->Int->Int}
  (rule:∀(i j:Int) (t u:Tok) (s:Shared) (Q:Value->Shared->Prop) (E:Value->Shared->Prop),Q (.int (g i j) s.toks) {s with toks:=s.toks+1}->wpAny (model X.prog X.w) X.A (f (.int i t) (.int j u)) Q E s) :
  OpR X f (rI0 fun i j=>.int (g i j)):=by
 intro pins s σ H x y v u Q I rx ry h;obtain ⟨i,j,rfl,rfl,q⟩:=h;obtain ⟨t,rfl⟩:=rx;obtain ⟨t',rfl⟩:=ry;exact rule i j t t' s _ _ ⟨.int (g i j),H,I.tok _,⟨_,rfl⟩,q⟩
theorem opB0 {f:Value->Value->Sem Value} {g:Int->Int->Bool}
  (rule:∀(i j:Int) (t u:Tok) (s:Shared) (Q:Value->Shared->Prop) (E:Value->Shared->Prop),Q (.bool (g i j)) s->wpAny (model X.prog X.w) X.A (f (.int i t) (.int j u)) Q E s) :
  OpR X f (rI0 fun i j=>.bl (g i j)):=by
 intro pins s σ H x y v u Q I rx ry h;obtain ⟨i,j,rfl,rfl,q⟩:=h;obtain ⟨t,rfl⟩:=rx;obtain ⟨t',rfl⟩:=ry;exact rule i j t t' s _ _ ⟨.bl (g i j),H,I,rfl,q⟩
def CDiv (i j:Int):Prop:=0<j/\j<1073741824
def CPow (i j:Int):Prop:=0<=j/\j<=1000000/\i.natAbs<2^64
def CMul (i j:Int):Prop:=(-(2^64)<i/\i<2^64)\/(-(2^64)<j/\j<2^64)
theorem CMul.ok {i j:Int} (h:CMul i j):IntMulOk i j:=by
 rcases h with ⟨h1,h2⟩| ⟨h1,h2⟩
 ·exact .of_left (intBits_le_64 h1 h2)
 ·exact .of_right (intBits_le_64 h1 h2)
theorem zCo:OpR X (binaryOp .Add) (rI0 fun i j=>.int (i+j)):=opI0 fun _ _ _ _ _ _ _ q=>add_int q
theorem zGh:OpR X (binaryOp .Sub) (rI0 fun i j=>.int (i - j)):=opI0 fun _ _ _ _ _ _ _ q=>sub_int q
theorem zE0:OpR X (binaryOp .Mult) (rI CMul fun i j=>.int (i*j)):=opI fun _ _ _ _ _ _ _ hc q=>mul_int q hc.ok
theorem zEg:OpR X (binaryOp .FloorDiv) (rI CDiv fun i j=>.int (i / j)):=opI fun i j _ _ _ _ _ hc q=>by
 have h1:(0:Int)<j:=hc.1;have h2:j<1073741824:=hc.2;exact floordiv_int (by lia) (by rw [Int.fdiv_eq_ediv_of_nonneg i (by lia)];exact q) (.inl (PyProof.noPylong_small (by lia)))
theorem zDl:OpR X (binaryOp .Mod) (rI (fun _ j=>0<j) fun i j=>.int (i % j)):=opI fun i j _ _ _ _ _ hc q=>by
 have h1:(0:Int)<j:=hc;exact mod_int' (by lia) (by rw [Int.fmod_eq_emod_of_nonneg i (by lia)];exact q)
theorem op_pow:OpR X (binaryOp .Pow) (rI CPow fun i j=>.int (i^j.toNat)):=opI fun _ _ _ _ _ _ _ hc q=>pow_int_small hc.1 hc.2.1 hc.2.2 q
theorem unI {f:Value->Sem Value} {g:Int->Int}
  (rule:∀(i:Int) (t:Tok) (s:Shared) (Q:Value->Shared->Prop) (E:Value->Shared->Prop),Q (.int (g i) s.toks) {s with toks:=s.toks+1}->wpAny (model X.prog X.w) X.A (f (.int i t)) Q E s) :
  UnR X f (rU fun i=>.int (g i)):=by
 intro pins s σ H x v Q I rx h;obtain ⟨i,rfl,q⟩:=h;obtain ⟨t,rfl⟩:=rx;exact rule i t s _ _ ⟨.int (g i),H,I.tok _,⟨_,rfl⟩,q⟩
theorem un_neg:UnR X (unaryOp .USub) (rU fun i=>.int (-i)):=unI fun _ _ _ _ _ q=>neg_int q
end
def scal:V->V->Bool
 | .non,.non=>true| .non,.int _=>true| .int _,.non=>true| .non,.bl _=>true| .bl _,.non=>true| .non,.str _=>true| .str _,.non=>true
 | .int _,.int _=>true| .bl _,.bl _=>true| .str _,.str _=>true| .byt _,.byt _=>true
 | .int _,.str _=>true| .str _,.int _=>true| .bl _,.str _=>true| .str _,.bl _=>true
 | _,_=>false
def rEq:R2:=fun x y H Q=>scal x y=true/\Q (.bl (decide (x=y))) H
def rNe:R2:=fun x y H Q=>scal x y=true/\Q (.bl (!decide (x=y))) H
theorem dec_int {i j:Int}:decide (V.int i=V.int j)=(i==j):=by
 rw [qCE];simp
theorem dec_bl {i j:Bool}:decide (V.bl i=V.bl j)=(i==j):=by
 rw [qCE];simp
theorem dec_str {i j:Str}:decide (V.str i=V.str j)=(i==j):=by
 rw [qCE];simp
theorem dec_byt {i j:Array UInt8}:decide (V.byt i=V.byt j)=(i.toList==j.toList):=by
 rw [qCE]
 cases i
 cases j
 simp
section
variable {X:Cx} {a b c:Expr} {ta tb tc:TE} {pos:Pos}
theorem zAw {Q:VK} {k k':Bool} (I:Inv X pins σ H s) (q:Q (.bl k) H) (e:k=k'):EP X pins σ Q (.bool k') s:=by
 subst e;exact ⟨.bl k,H,I,rfl,q⟩
theorem op_eq:OpR X (compareOp .Eq) rEq:=by
 intro pins s σ H x y v u Q I rx ry h;obtain ⟨hs,q⟩:=h
 cases x with
 | non =>
  cases rx
  cases y with
  | non=>cases ry;exact PySem.EqNone.eq_none_none (zAw I q (by simp))
  | bl j=>cases ry;exact PySem.EqNone.eq_none_bool (zAw I q (by simp))
  | int j=>obtain ⟨t',rfl⟩:=ry;exact PySem.EqNone.eq_none_int (zAw I q (by simp))
  | str j=>obtain ⟨t',rfl⟩:=ry;exact PySem.EqNone.eq_none_str (zAw I q (by simp))
  | _=>exact absurd (show false=true from hs) qAd
 | bl i =>
  cases rx
  cases y with
  | non=>cases ry;exact PySem.EqNone.eq_bool_none (zAw I q (by simp))
  | bl j=>cases ry;exact eq_bool (zAw I q dec_bl)
  | str j=>obtain ⟨t',rfl⟩:=ry;exact PySem.EqMixed.eq_bool_str (zAw I q (by simp))
  | _=>exact absurd (show false=true from hs) qAd
 | int i =>
  obtain ⟨t,rfl⟩:=rx
  cases y with
  | non=>cases ry;exact PySem.EqNone.eq_int_none (zAw I q (by simp))
  | int j=>obtain ⟨t',rfl⟩:=ry;exact eq_int (zAw I q dec_int)
  | str j=>obtain ⟨t',rfl⟩:=ry;exact PySem.EqMixed.eq_int_str (zAw I q (by simp))
  | _=>exact absurd (show false=true from hs) qAd
 | str i =>
  obtain ⟨t,rfl⟩:=rx
  cases y with
  | non=>cases ry;exact PySem.EqNone.eq_str_none (zAw I q (by simp))
  | bl j=>cases ry;exact PySem.EqMixed.eq_str_bool (zAw I q (by simp))
  | int j=>obtain ⟨t',rfl⟩:=ry;exact PySem.EqMixed.eq_str_int (zAw I q (by simp))
  | str j=>obtain ⟨t',rfl⟩:=ry;exact eq_str (zAw I q dec_str)
  | _=>exact absurd (show false=true from hs) qAd
 | byt i =>
  obtain ⟨t,rfl⟩:=rx
  cases y with
  | byt j=>obtain ⟨t',rfl⟩:=ry;exact PySem.W.eq_bytes (zAw I q dec_byt)
  | _=>exact absurd (show false=true from hs) qAd
 | _=>cases y<;>exact absurd (show false=true from hs) qAd
theorem op_ne:OpR X (compareOp .NotEq) rNe:=by
 intro pins s σ H x y v u Q I rx ry h;obtain ⟨hs,q⟩:=h
 cases x with
 | non =>
  cases rx
  cases y with
  | non=>cases ry;exact PySem.EqNone.ne_none_none (zAw I q (by simp))
  | bl j=>cases ry;exact PySem.EqNone.ne_none_bool (zAw I q (by simp))
  | int j=>obtain ⟨t',rfl⟩:=ry;exact PySem.EqNone.ne_none_int (zAw I q (by simp))
  | str j=>obtain ⟨t',rfl⟩:=ry;exact PySem.EqNone.ne_none_str (zAw I q (by simp))
  | _=>exact absurd (show false=true from hs) qAd
 | bl i =>
  cases rx
  cases y with
  | non=>cases ry;exact PySem.EqNone.ne_bool_none (zAw I q (by simp))
  | bl j=>cases ry;exact ne_bool (zAw I q (qAg not dec_bl))
  | str j=>obtain ⟨t',rfl⟩:=ry;exact PySem.EqMixed.ne_bool_str (zAw I q (by simp))
  | _=>exact absurd (show false=true from hs) qAd
 | int i =>
  obtain ⟨t,rfl⟩:=rx
  cases y with
  | non=>cases ry;exact PySem.EqNone.ne_int_none (zAw I q (by simp))
  | int j=>obtain ⟨t',rfl⟩:=ry;exact ne_int (zAw I q (qAg not dec_int))
  | str j=>obtain ⟨t',rfl⟩:=ry;exact PySem.EqMixed.ne_int_str (zAw I q (by simp))
  | _=>exact absurd (show false=true from hs) qAd
 | str i =>
  obtain ⟨t,rfl⟩:=rx
  cases y with
  | non=>cases ry;exact PySem.EqNone.ne_str_none (zAw I q (by simp))
  | bl j=>cases ry;exact PySem.EqMixed.ne_str_bool (zAw I q (by simp))
  | int j=>obtain ⟨t',rfl⟩:=ry;exact PySem.EqMixed.ne_str_int (zAw I q (by simp))
  | str j=>obtain ⟨t',rfl⟩:=ry;exact ne_str (zAw I q (qAg not dec_str))
  | _=>exact absurd (show false=true from hs) qAd
 | byt i =>
  obtain ⟨t,rfl⟩:=rx
  cases y with
  | byt j=>obtain ⟨t',rfl⟩:=ry;exact PySem.W.ne_bytes (zAw I q (qAg not dec_byt))
  | _=>exact absurd (show false=true from hs) qAd
 | _=>cases y<;>exact absurd (show false=true from hs) qAd
theorem op_lt:OpR X (compareOp .Lt) (rI0 fun i j=>.bl (decide (i<j))):=opB0 fun _ _ _ _ _ _ _ q=>lt_int q
theorem op_le:OpR X (compareOp .LtE) (rI0 fun i j=>.bl (decide (i<=j))):=opB0 fun _ _ _ _ _ _ _ q=>le_int q
theorem op_gt:OpR X (compareOp .Gt) (rI0 fun i j=>.bl (decide (j<i))):=opB0 fun _ _ _ _ _ _ _ q=>gt_int q
theorem zA7 (b:Expr) (h:op≠.In:=by decide) (h2:op≠.NotIn:=by decide):behindInMarks op b=false:=by
 have e1:(op==CmpOp.In)=false:=by cases op<;>first| rfl| exact absurd rfl h
 have e2:(op==CmpOp.NotIn)=false:=by cases op<;>first| rfl| exact absurd rfl h2
 cases b<;>simp [behindInMarks,e1,e2]
theorem zB4 (ho:OpR X (compareOp op) r) (ha:PE X a ta) (hb:PE X b tb) (hm:behindInMarks op b=false):PE X (.Compare a [op] [b] pos) (tOp r ta tb):=by
 intro pins s σ H Q I h;exact wpAny_Compare1 (binT ha hb I h fun v u s2 x y H2 I2 rx ry q=>ho pins s2 σ H2 x y v u Q I2 rx ry q) hm
def tTest (t:TE):TT:=fun σ H Q=>t σ H fun x H'=>∃k,x= .bl k/\Q k H'
theorem zAy (ho:OpR X (compareOp op) r) (ha:PE X a ta) (hb:PE X b tb) (hm:behindInMarks op b=false):PT X (.Compare a [op] [b] pos) (tTest (tOp r ta tb)):=by
 intro pins s σ H Q I h
 refine wpAny_isTrue_Compare1 (thn (ha pins s σ H _ I h) fun v s1 ⟨x,H1,I1,r1,q1⟩=>thn (hb pins s1 σ H1 _ I1 q1) fun u s2 ⟨y,H2,I2,r2,q2⟩ =>
  thn (ho pins s2 σ H2 x y v u _ I2 r1 r2 q2) fun c s3 ⟨z,H3,I3,r3,k,e,q3⟩=>?_) hm
 subst e
 cases r3
 exact qBI ⟨H3,I3,q3⟩
def tChain (r r':R2) (ta tb tc:TE):TE:=fun σ H Q=>ta σ H fun x H1=>tb σ H1 fun y H2=>r x y H2 fun z H3=>∃k,z= .bl k /\
 (if k=true then tc σ H3 fun w' H4=>r' y w' H4 Q else Q (.bl false) H3)
theorem pe_chain {op':CmpOp} {r':R2} (ho:OpR X (compareOp op) r) (ho':OpR X (compareOp op') r') (ha:PE X a ta) (hb:PE X b tb) (hc:PE X c tc)
  (hm:lastMarks [op,op'] [b,c]=false:=by with_unfolding_all rfl):PE X (.Compare a [op,op'] [b,c] pos) (tChain r r' ta tb tc):=by
 intro pins s σ H Q I h
 refine Compare_chain (thn (ha pins s σ H _ I h) fun v s1 ⟨x,H1,I1,r1,q1⟩=>chain_link (thn (hb pins s1 σ H1 _ I1 q1) fun u s2 ⟨y,H2,I2,r2,q2⟩ =>
  thn (ho pins s2 σ H2 x y v u _ I2 r1 r2 q2) fun d s3 ⟨z,H3,I3,r3,k,e,q3⟩=>?_)) hm
 subst e
 cases r3
 refine qBI ?_
 cases k with
 | false=>exact ite_ff ⟨.bl false,H3,I3,rfl,q3⟩
 | true=>exact ite_tt (chain_last (thn (hc pins s3 σ H3 _ I3 q3) fun w' s4 ⟨z',H4,I4,r4,q4⟩=>ho' pins s4 σ H4 y z' u w' Q I4 r2 r4 q4))
theorem zH7 {op':CmpOp} {r':R2} (ho:OpR X (compareOp op) r) (ho':OpR X (compareOp op') r') (ha:PE X a ta) (hb:PE X b tb) (hc:PE X c tc)
  (hm:lastMarks [op,op'] [b,c]=false:=by with_unfolding_all rfl):PT X (.Compare a [op,op'] [b,c] pos) (tTest (tChain r r' ta tb tc)):=by
 intro pins s σ H Q I h
 refine isTrue_chain (thn (ha pins s σ H _ I h) fun v s1 ⟨x,H1,I1,r1,q1⟩=>test_link (thn (hb pins s1 σ H1 _ I1 q1) fun u s2 ⟨y,H2,I2,r2,q2⟩ =>
  thn (ho pins s2 σ H2 x y v u _ I2 r1 r2 q2) fun d s3 ⟨z,H3,I3,r3,k,e,q3⟩=>?_)) hm
 subst e
 cases r3
 refine qBI ?_
 cases k with
 | false =>
  obtain ⟨k',e',q'⟩:=q3
  cases e'
  exact ite_ff ⟨H3,I3,q'⟩
 | true =>
  refine ite_tt (test_last (thn (hc pins s3 σ H3 _ I3 q3) fun w' s4 ⟨z',H4,I4,r4,q4⟩=>thn (ho' pins s4 σ H4 y z' u w' _ I4 r2 r4 q4) fun d' s5 ⟨z2,H5,I5,r5,k2,e2,q5⟩=>?_));subst e2
  cases r5
  exact qBI ⟨H5,I5,q5⟩
def TruV (K:PySem.W.Frag) (x:V) (H:Hp) (k:Bool):Prop :=
 match x with
 | .non=>k=false
 | .bl b=>k=b
 | .int i=>k=(i != 0)
 | .str y=>y.length<=sizeLine/\k=((y.length:Int) != 0)
 | .byt y=>y.size<=sizeLine/\k=((y.size:Int) != 0)
 | .ref p=>(∃xs,SqL K H p xs/\k= !xs.isEmpty)\/(∃xs,SqT K H p xs/\k= !xs.isEmpty)\/∃kvs,H p=some (.dK kvs)/\k= !kvs.isEmpty
 | _=>False
theorem isEmpty_kv {κ:Type} {kvs:List (κ×V)} {vs:List (κ×Value)} (r:KV kvs vs):(!vs.isEmpty)= !kvs.isEmpty:=by
 cases r<;>rfl
theorem zHo {its:List Value} (r:Vals xs its):(!its.toArray.isEmpty)= !xs.isEmpty:=by
 cases r<;>simp
theorem zHm:(sizeLine:Nat)<2^63:=by rw [qAV];decide
theorem tru_ok:TruR X (fun x H Q=>∃k,TruV X.K x H k/\Q k H):=by
 intro pins s σ H x v Q I rx h;obtain ⟨k,e,q⟩:=h;have hl:=zHm;have hs:sizeLine=16777216:=qAV
 cases x with
 | non =>
  cases rx
  have e':k=false:=e;subst e';exact truthy_none ⟨H,I,q⟩
 | bl b =>
  cases rx
  have e':k=b:=e;subst e';exact qBI ⟨H,I,q⟩
 | int i =>
  obtain ⟨t,rfl⟩:=rx;have e':k=(i != 0):=e;subst e';exact PySem.P.truthy_int ⟨H,I,q⟩
 | str y =>
  obtain ⟨t,rfl⟩:=rx;obtain ⟨hy,e'⟩:y.length<=sizeLine/\k=((y.length:Int) != 0):=e;subst e';exact PySem.P.truthy_str (by lia) ⟨H,I.tok _,q⟩
 | byt y =>
  obtain ⟨t,rfl⟩:=rx;obtain ⟨hy,e'⟩:y.size<=sizeLine/\k=((y.size:Int) != 0):=e;subst e';exact PySem.W.truthy_bytes (by lia) ⟨H,I.tok _,q⟩
 | ref p =>
  cases rx
  have e':(∃xs,SqL X.K H p xs/\k= !xs.isEmpty)\/(∃xs,SqT X.K H p xs/\k= !xs.isEmpty)\/∃kvs,H p=some (.dK kvs)/\k= !kvs.isEmpty:=e;rcases e' with ⟨xs,hx,e'⟩| ⟨xs,hx,e'⟩| ⟨kvs,hx,e'⟩
  ·subst e';obtain ⟨its,r,pl,hz⟩:=I.list hx;have hlen:=r.length;exact wpAny_truthy_list pl.isList (by simp only [qAQ];lia) ⟨H,I.tok _,by rw [zHo r];exact q⟩
  ·subst e';obtain ⟨its,r,pl,hz⟩:=I.tuple hx;have hlen:=r.length;exact truthy_tuple pl (by simp only [qAQ];lia) ⟨H,I.tok _,by rw [zHo r];exact q⟩
  ·subst e';obtain ⟨hz,hS,vs,r,m⟩:kvs.length<=sizeLine/\(p==sysModules)=false/\∃vs,KV kvs vs/\s.heap.DictOf (zA1 X.prog X.w) p vs:=I.hok p _ hx;have hlen:kvs.length=vs.length:=qBn r;exact wpAny_truthy_dict hS m (by lia) ⟨H,I.tok _,by rw [isEmpty_kv r];exact q⟩
 | _=>exact (show False from e).elim
theorem zH6 (ha:PE X a ta) (he:∀whole,isTrue a X.env whole=(do let v<-whole;standAt a.pos;holding [v] (truthy v))) :
  PT X a (fun σ H Q=>ta σ H fun x H'=>∃k,TruV X.K x H' k/\Q k H'):=by
 intro pins s σ H Q I h;exact isTrue_plain (thn (ha pins s σ H _ I h) fun v s1 ⟨x,H1,I1,r1,q1⟩=>tru_ok pins s1 σ H1 x v Q I1 r1 q1) (he _)
theorem op_add_str:OpR X (binaryOp .Add) (fun x y H Q=>∃i j,x= .str i/\y= .str j/\i.length+j.length<=sizeLine/\Q (.str (i++j)) H):=by
 intro pins s σ H x y v u Q I rx ry h;obtain ⟨i,j,rfl,rfl,hz,q⟩:=h;obtain ⟨t,rfl⟩:=rx;obtain ⟨t',rfl⟩:=ry;exact add_str (fun t' tk=>⟨.str (i++j),H,I.tok _,⟨_,rfl⟩,q⟩) hz
theorem zHt {x:V} (r:Vals [x] us):∃u,us=[u]/\RelV x u:=by
 cases r with
 | cons r1 r2=>cases r2;exact ⟨_,rfl,r1⟩
theorem vals2 {x:V} (r:Vals [x,y] us):∃u w',us=[u,w']/\RelV x u/\RelV y w':=by
 cases r with
 | cons r1 r2 =>
  cases r2 with
  | cons r3 r4=>cases r4;exact ⟨_,_,rfl,r1,r3⟩
theorem call_abs:zCc X (.builtin "abs") (fun xs H Q=>∃i,xs=[.int i]/\Q (.int (if i<0 then -i else i)) H):=by
 intro pins s σ H xs us Q I r h;obtain ⟨i,rfl,q⟩:=h;obtain ⟨u,rfl,t,rfl⟩:=zHt r;exact call_abs_int fun u tk=>⟨.int (if i<0 then -i else i),H,I.tok _,⟨_,rfl⟩,q⟩
theorem call_max2 (hc:X.calm=true):zCc X (.builtin "max") (fun xs H Q=>∃i j,xs=[.int i,.int j]/\Q (.int (if j>i then j else i)) H):=by
 intro pins s σ H xs us Q I r h;obtain ⟨i,j,rfl,q⟩:=h;obtain ⟨u,w',rfl,⟨t,rfl⟩,⟨t',rfl⟩⟩:=vals2 r;refine max_two_ints (I.ok.hd hc) fun h' tk k=>⟨_,H,I.kept k,?_,q⟩
 by_cases hj:j>i
 ·rw [qAC hj,qAC hj];exact ⟨_,rfl⟩
 ·rw [qAB hj,qAB hj];exact ⟨_,rfl⟩
theorem zC1:zCc X (.type "int") (fun xs H Q=>(∃i,xs=[.int i]/\Q (.int i) H)\/∃k,xs=[.bl k]/\Q (.int (if k then 1 else 0)) H):=by
 intro pins s σ H xs us Q I r h;rcases h with ⟨i,rfl,q⟩| ⟨k,rfl,q⟩
 ·obtain ⟨u,rfl,t,rfl⟩:=zHt r;exact call_int_int ⟨.int i,H,I,⟨_,rfl⟩,q⟩
 ·obtain ⟨u,rfl,r1⟩:=zHt r
  cases r1
  exact call_int_bool ⟨.int (if k then 1 else 0),H,I.tok _,⟨_,rfl⟩,q⟩
end
structure ObjM (h:Heap) (x dx C:Addr) (mA:Str->Option Value):Prop where
 obj:h.get? x=some (PySem.W.instObj C dx)
 ns:h.Ns1 dx mA
 ne:dx≠x
theorem lookIn_ns {dx:Addr} {mA:Str->Option Value} (n:h.Ns1 dx mA):∃od,h.get? dx=some od/\∀name,PySem.W.lookIn name od=some (mA name):=by
 obtain ⟨o,es,ep,ho,hd,hk,_,hm⟩:=n;refine ⟨o,ho,fun name=>?_⟩;have e:=hm name;unfold nsFind findBy at e;rw [<-Array.find?_toList] at e;unfold PySem.W.lookIn;rw [hd];dsimp only;split
 ·rename_i y q;rw [q] at e;exact qAg some e
 ·rename_i q;rw [q] at e
  have a:es.toList.any (·.refKey)=false:=by
   rw [List.any_eq_false];intro y hy;obtain ⟨z,t,hkey⟩:=hk y (qCz.mp hy);simp [DictEntry.refKey,hkey]
  have a':¬es.toList.any (·.refKey)=true:=by rw [a];exact qAd
  rw [qAB a'];exact qAg some e
theorem ObjM.look {x dx:Addr} {mA:Str->Option Value} (I:ObjM h x dx C mA):∃od,PySem.W.InstAt h x (PySem.W.instObj C dx) C (some od)/\∀name,PySem.W.lookIn name od=some (mA name) :=
 let ⟨od,ho,hl⟩:=lookIn_ns I.ns
 ⟨od,⟨I.obj,rfl,rfl,ho⟩,hl⟩
section
variable {prog:Program} {w:World} {A:Around} {E:Value->Shared->Prop} {s:Shared} {K:PySem.W.Frag} {x dx C f:Addr} {mA:Str->Option Value} {name:Str} {v:Value}
theorem get_map {expr:Bool} {Q:Value->Shared->Prop} (X:K.In s.heap) (I:ObjM s.heap x dx C mA) (hg:PySem.W.plainGet K C name=true) (hh:PySem.W.hasDictIn K C=true)
  (ha:PySem.W.findIn K (.ref C) name=some none) (hv:mA name=some v) (hv':PySem.W.handedIn v=true) (h:Q v {s with toks:=s.toks+1}) :
  wpAny (model prog w) A (getAttr (.ref x) name expr) Q E s:=by
 obtain ⟨od,J,hl⟩:=I.look;exact PySem.W.get_value X J (PySem.W.plainGet_of hg).1 (PySem.W.findObj_own hh ha rfl (by rw [hl,hv])) hv' h
theorem get_meth {pl:Sem Bool} {Q:Value×List Value->Shared->Prop} (X:K.In s.heap) (I:ObjM s.heap x dx C mA) (hg:PySem.W.plainGet K C name=true)
  (hf:PySem.W.findIn K (.ref C) name=some (some (.ref f))) (ht:PySem.W.isFn K (.ref f)=true) (hv:mA name=none) (h:Q (.ref f,[.ref x]) s) :
  wpAny (model prog w) A (getMethod (.ref x) name pl) Q E s:=by
 obtain ⟨od,J,hl⟩:=I.look;exact PySem.W.method_fn X J (PySem.W.plainGet_of hg).1 (PySem.W.plainGet_of hg).2 hf (qBJ.mp ht) (by show (PySem.W.lookIn name od).map (·.isSome)=some false;rw [hl,hv];rfl) h
theorem set_map {ns:List Str} {Q:Unit->Shared->Prop} (X:K.In s.heap) (I:ObjM s.heap x dx C mA)
  (hs:PySem.W.findIn K (.ref C) "__setattr__" = some (some (.builtin "object.__setattr__"))) (hp:PySem.W.plainOver K C=true) (ht:PySem.W.takerIn K C name=some none) (hh:PySem.W.hasDictIn K C=true)
  (hw:PySem.Within mA ns) (hsz:ns.length<=sizeLine)
  (h:∀h',ObjM h' x dx C (fun y=>if y=name then some v else mA y)->Heap.SameBut dx s.heap h'->Q () {s with heap:=h',toks:=s.toks+2}) :
  wpAny (model prog w) A (setAttr (.ref x) name v) Q E s:=by
 obtain ⟨od,J,hl⟩:=I.look;refine PySem.W.set_plain X J hs (PySem.W.osa_open (s:={s with toks:=s.toks+1}) (r:=none) X J hp ht fun b=>?_);obtain ⟨cd,hc,hd'⟩:=PySem.W.any_some hh;have hx:s.heap.get? x=some ⟨.ref C,some dx,.plain,#[]⟩:=I.obj;refine qAA (qAD (qAA (qAA (wpAny_loadPart hx (qAA (PySem.W.Looks.here (s:={s with toks:=s.toks+1}) (PySem.W.looks_clsIn X hc) ?_))))));rw [hd'];refine qAD (a:=some dx) (qAA (qAD (qAA ?_)));refine wpAny_nsSet1 (s:={s with toks:=s.toks+1}) I.ns fun h' hn2 hs2=>?_;obtain ⟨oD,esD,epD,hoD,hdD,hcD⟩:=hn2.count (PySem.Within.cons name v hw);refine qAA (wpAny_lookBehind hoD (by rw [hdD];exact pastItsLine_dict (qAW hcD (by rw [qAZ];lia))) ?_);exact qAD (h _ ⟨(hs2.2 _ (qAh I.ne)).trans I.obj,hn2,I.ne⟩ hs2)
theorem make_map {R:Result->Shared->Prop} {vs:List Value} {kw:List (Str×Value)} (X:K.In s.heap) (hm:PySem.W.makesIn K C=true)
  (hi:PySem.W.findIn K (.ref C) "__init__" = some (some (.ref f))) (hf:PySem.W.typeIn K (.ref f)=some (.type "function"))
  (h:codeAny (model prog w) (A.under (.builtin "type.__call__" ⟨.ref C::vs,kw⟩)) (.call (.ref f) ⟨.ref (s.heap.objs.size+1)::vs,kw⟩) (PySem.W.InitBack (s.heap.objs.size+1) R)
   {s with heap:=(s.heap.push PySem.W.emptyDict).push (PySem.W.instObj C s.heap.objs.size)}) :
  codeAny (model prog w) A (.call (.ref C) ⟨vs,kw⟩) R s:=by
 obtain ⟨hh,g,d,t,os⟩:=s;exact PySem.W.make_core (PySem.W.makes_of X hm) (PySem.W.looks_findIn X hi) (fun self=>PySem.W.bind_fn X self hf) (.inl rfl) h
end
def putF (f:Str) (v:V):List (Str×V)->List (Str×V)
 | []=>[(f,v)]
 | (g,x)::r=>if g=f then (g,v)::r else (g,x)::putF f v r
theorem zAr (f g:Str) (v:V):∀fs:List (Str×V),(putF f v fs).lookup g=if g=f then some v else fs.lookup g
 | []=>by
  show List.lookup g [(f,v)]=_
  by_cases h:g=f
  ·have hb:(g==f)=true:=qBJ.mpr h;simp only [List.lookup,hb,qAC h]
  ·have hb:(g==f)=false:=qA7.mpr h;simp only [List.lookup,hb,qAB h]
 | (k,x)::r=>by
  have ih:=zAr f g v r;rw [show putF f v ((k,x)::r)=(if k=f then (k,v)::r else (k,x)::putF f v r) from rfl]
  by_cases hk:k=f
  ·rw [qAC hk]
   by_cases h:g=k
   ·have hb:(g==k)=true:=qBJ.mpr h;simp only [List.lookup,hb,qAC (h.trans hk)]
   ·have hb:(g==k)=false:=qA7.mpr h;simp only [List.lookup,hb,qAB (fun e:g=f=>h (e.trans hk.symm))]
  ·rw [qAB hk]
   by_cases h:g=k
   ·have hb:(g==k)=true:=qBJ.mpr h;simp only [List.lookup,hb,qAB (fun e:g=f=>hk (h.symm.trans e))]
   ·have hb:(g==k)=false:=qA7.mpr h;simp only [List.lookup,hb];exact ih
theorem zGp (f:Str) (v:V):∀fs:List (Str×V),f∈(putF f v fs).map (·.1)/\∀g,g∈fs.map (·.1)->g∈(putF f v fs).map (·.1)
 | []=>⟨by simp [putF],fun g h=>by simp at h⟩
 | (k,x)::r=>by
  obtain ⟨i1,i2⟩:=zGp f v r;rw [show putF f v ((k,x)::r)=(if k=f then (k,v)::r else (k,x)::putF f v r) from rfl]
  by_cases hk:k=f
  ·rw [qAC hk];subst hk;exact ⟨by simp,fun g h=>by simpa using h⟩
  ·rw [qAB hk];refine ⟨?_,fun g h=>?_⟩
   ·rw [qAp];exact qAP _ i1
   ·rw [qAp] at h ⊢;rcases qAO.mp h with e| e
    ·exact qAO.mpr (.inl e)
    ·exact qAP _ (i2 g e)
theorem zGn (f:Str) (v:V):∀fs:List (Str×V),(putF f v fs).length<=fs.length+1
 | []=>by simp [putF]
 | (k,x)::r=>by
  have ih:=zGn f v r;rw [show putF f v ((k,x)::r)=(if k=f then (k,v)::r else (k,x)::putF f v r) from rfl]
  by_cases hk:k=f
  ·rw [qAC hk,qAZ,qAZ];lia
  ·rw [qAB hk,qAZ,qAZ];lia
theorem RelO.some_of {v:V} {o:Option Value} (r:RelO (some v) o):∃u,o=some u/\RelV v u:=by
 cases o with
 | none=>exact (show False from r).elim
 | some u=>exact ⟨u,rfl,r⟩
theorem RelO.none_of {o:Option Value} (r:RelO none o):o=none:=by
 cases o with
 | none=>rfl
 | some u=>exact (show False from r).elim
theorem handed_of (r:RelV v u):PySem.W.handedIn u=true:=by
 cases v with
 | non=>cases (show u=Value.none from r);rfl
 | bl b=>cases (show u=Value.bool b from r);rfl
 | int i=>obtain ⟨t,e⟩:=(show∃t,u=Value.int i t from r);cases e;rfl
 | str x=>obtain ⟨t,e⟩:=(show∃t,u=Value.str x t from r);cases e;rfl
 | byt b=>obtain ⟨t,e⟩:=(show∃t,u=Value.bytes b t from r);cases e;rfl
 | flt b=>obtain ⟨t,e⟩:=(show∃t,u=Value.float b t from r);cases e;rfl
 | ref a=>cases (show u=Value.ref a from r);rfl
 | ty n=>cases (show u=Value.type n from r);rfl
section
variable {P:Program} {w:World} {H H':Hp} {h h':Heap} {a C dx:Addr} {fs fs':List (Str×V)}
theorem zFn (hok:HOk P w H h) (e:H a=some (.ins C dx fs)):∃mA,ObjM h a dx C mA/\(∀f,RelO (fs.lookup f) (mA f))/\PySem.Within mA (fs.map (·.1))/\fs.length<=1000/\H dx=some (.own a):=by
 obtain ⟨d,z,ne,ob,mA,n,r,q⟩:=(show zA0 P w H h a (.ins C dx fs) from hok a _ e);exact ⟨mA,⟨ob,n,ne⟩,r,q,z,d⟩
end
structure Cls (K:PySem.W.Frag) (C:Addr):Prop where
 pg:PySem.W.plainGet K C Str.empty=true
 hd:PySem.W.hasDictIn K C=true
 po:PySem.W.plainOver K C=true
 sa:PySem.W.findIn K (.ref C) "__setattr__" = some (some (.builtin "object.__setattr__"))
theorem Cls.get (c:Cls K C) (f:Str):PySem.W.plainGet K C f=true:=c.pg
def zFe (K:PySem.W.Frag) (C:Addr) (f:Str):Prop:=PySem.W.findIn K (.ref C) f=some none
theorem zFe.taker {f:Str} (n:zFe K C f):PySem.W.takerIn K C f=some none:=by
 unfold PySem.W.takerIn;rw [show PySem.W.findIn K (.ref C) f=some none from n];rfl
structure Meth (K:PySem.W.Frag) (C:Addr) (m:Str) (f:Addr):Prop where
 at_:PySem.W.findIn K (.ref C) m=some (some (.ref f))
 fn:PySem.W.isFn K (.ref f)=true
 kp:PySem.W.keepIn K (.ref f)=true
section
variable {X:Cx} {pins:List (Addr×Obj)} {σ:St} {H:Hp} {s:Shared} {a C dx:Addr} {fs:List (Str×V)} {f:Str} {v:V} {A:Around} {E:Value->Shared->Prop}
theorem getattr_ok {b:Bool} {Q:Value->Shared->Prop} (I:Inv X pins σ H s) (e:H a=some (.ins C dx fs)) (c:Cls X.K C) (n:zFe X.K C f) (l:fs.lookup f=some v)
  (h:∀u s',Inv X pins σ H s'->RelV v u->Q u s'):wpAny (model X.prog X.w) A (getAttr (.ref a) f b) Q E s:=by
 obtain ⟨mA,O,r,_,_,_⟩:=zFn I.hok e;obtain ⟨u,hu,ru⟩:=RelO.some_of (v:=v) (o:=mA f) (by rw [<-l];exact r f);exact get_map I.kIn O (c.get f) c.hd n hu (handed_of ru) (h u _ (I.tok _) ru)
theorem zHp {m:Str} {g:Addr} {pl:Sem Bool} {Q:Value×List Value->Shared->Prop} (I:Inv X pins σ H s) (e:H a=some (.ins C dx fs)) (c:Cls X.K C) (k:Meth X.K C m g) (l:fs.lookup m=none)
  (h:Q (.ref g,[.ref a]) s):wpAny (model X.prog X.w) A (getMethod (.ref a) m pl) Q E s:=by
 obtain ⟨mA,O,r,_,_,_⟩:=zFn I.hok e;have hn:mA m=none:=RelO.none_of (by rw [<-l];exact r m);exact get_meth I.kIn O (c.get m) k.at_ k.fn hn h
theorem setattr_ok {Q:Unit->Shared->Prop} (I:Inv X pins σ H s) (e:H a=some (.ins C dx fs)) (c:Cls X.K C) (n:zFe X.K C f) (hl:fs.length<1000) (ry:RelV y u)
  (h:∀s',Inv X pins σ (upd H a (.ins C dx (putF f y fs))) s'->Q () s'):wpAny (model X.prog X.w) A (setAttr (.ref a) f u) Q E s:=by
 obtain ⟨mA,O,r,wi,_,ho⟩:=zFn I.hok e;have hz:(fs.map (·.1)).length<=sizeLine:=by rw [qAE,qAV];lia
 refine set_map I.kIn O c.sa c.po n.taker c.hd wi hz fun h' O' sb=>h _ ?_;have hd:∃o,h'.get? dx=some o:=let ⟨o,_,_,e',_⟩:=O'.ns;⟨o,e'⟩;refine I.write (x:=a) (e:=dx) (by rw [e];exact True.intro) (.inr ho) (fun b q hb z=>(sb.2 b hb).trans z) hd ?_;refine ⟨by rw [upd_ne O.ne];exact ho,?_,O.ne,O'.obj,_,O'.ns,fun g=>?_,fun g hg=>?_⟩
 ·have:=zGn f y fs;lia
 ·show RelO ((putF f y fs).lookup g) (if g=f then some u else mA g);rw [zAr]
  by_cases q:g=f
  ·rw [qAC q,qAC q];exact ry
  ·rw [qAB q,qAB q];exact r g
 ·by_cases q:g=f
  ·rw [q];exact (zGp f y fs).1
  ·refine (zGp f y fs).2 g (wi g fun z=>hg ?_);show (if g=f then some u else mA g)=none;rw [qAB q];exact z
theorem Inv.made (I:Inv X pins σ H s):Inv X pins σ (upd (upd H s.heap.objs.size (.own (s.heap.objs.size+1))) (s.heap.objs.size+1) (.ins C s.heap.objs.size []))
  {s with heap:=(s.heap.push PySem.W.emptyDict).push (PySem.W.instObj C s.heap.objs.size)}:=by
 have e1:(s.heap.push PySem.W.emptyDict).get? s.heap.objs.size=some PySem.W.emptyDict:=qAe s.heap rfl
 have e2:((s.heap.push PySem.W.emptyDict).push (PySem.W.instObj C s.heap.objs.size)).get? (s.heap.objs.size+1)=some (PySem.W.instObj C s.heap.objs.size):=by
  have:=qAe (s.heap.push PySem.W.emptyDict) (o:=PySem.W.instObj C s.heap.objs.size) rfl
  rwa [qBG] at this
 have e3:(s.heap.push PySem.W.emptyDict).Ns s.heap.objs.size (fun _=>none):=⟨PySem.W.emptyDict,#[],_,e1,rfl,(fun e he=>absurd he (by simp)),fun _=>rfl⟩;have I1:=I.laid (a:=s.heap.objs.size) (o:=.own (s.heap.objs.size+1)) (h':=s.heap.push PySem.W.emptyDict) (t':=s.toks) (fun b u q=>qAJ _ q) (qAG _) ⟨_,e1⟩;refine I1.laid (a:=s.heap.objs.size+1) (o:=.ins C s.heap.objs.size []) (t':=s.toks) (fun b u q=>qAJ _ q) (qCF (qBG _ _)) ?_;have ne:s.heap.objs.size≠s.heap.objs.size+1:=qAN (qCG _);refine ⟨by rw [upd_ne ne,upd_same],qAf _,ne,e2,fun _=>none,(Heap.Ns1.of_empty e3).at fun o q=>qAJ _ q,fun _=>True.intro,fun y hy=>absurd rfl hy⟩
theorem attr_of {prog:Program} {env:Env} {f:Str} {Q:Value->Shared->Prop} (hb:attributeBase e f env (eval e env)=eval e env)
  (h:wpAny (model prog w) A (eval e env) (fun o s₁=>wpAny (model prog w) A (getAttr o f true) Q E s₁) E s):wpAny (model prog w) A (eval (.Attribute e f pos) env) Q E s :=
 Attribute_any_ h (by rw [arm_eval_Attribute,hb])
end
def tFld (K:PySem.W.Frag) (ta:TE) (f:Str):TE:=fun σ H Q=>ta σ H fun x H1=>∃a C dx fs v,x= .ref a/\H1 a=some (.ins C dx fs)/\Cls K C/\zFe K C f/\fs.lookup f=some v/\Q v H1
def sFld (K:PySem.W.Frag) (ta tv:TE) (f:Str):TS:=fun D σ H=>tv σ H fun y H1=>ta σ H1 fun x H2=>∃a C dx fs,x= .ref a/\H2 a=some (.ins C dx fs)/\Cls K C/\zFe K C f/\fs.length<1000 /\
 D.nx σ (upd H2 a (.ins C dx (putF f y fs)))
section
variable {X:Cx} {o e value:Expr} {f:Str} {pos pos' tpos:Pos} {ta tv:TE}
theorem zGf (he:PE X e ta) (hb:attributeBase e f X.env (eval e X.env)=eval e X.env):PE X (.Attribute e f pos) (tFld X.K ta f):=by
 intro pins s σ H Q I h;refine attr_of hb (thn (he pins s σ H _ I h) fun u s1 ⟨x,H1,I1,rx,a,C,dx,fs,v,ex,ea,c,n,l,q⟩=>?_);subst ex;obtain rfl:u=Value.ref a:=rx;exact getattr_ok I1 ea c n l fun u' s2 I2 ru=>⟨v,H1,I2,ru,q⟩
theorem ps_fld (ha:PE X o ta) (hv:PE X value tv) (hs:swapsWith value (some (.Attribute o f pos')) pos.line X.env=pure false):PS X (.Assign [.Attribute o f pos'] value pos) (sFld X.K ta tv f):=by
 intro pins s σ H D I h;refine plainObj_wpAny_Assign_Attribute (thn (hv pins s σ H _ I h) fun u s1 ⟨y,H1,I1,ry,q⟩=>thn (ha pins s1 σ H1 _ I1 q) fun ov s2 ⟨x,H2,I2,rx,a,C,dx,fs,ex,ea,c,n,l,q2⟩=>?_) hs;subst ex;obtain rfl:ov=Value.ref a:=rx;exact setattr_ok I2 ea c n l ry fun s3 I3=>⟨σ,_,I3,q2⟩
end
section
variable {X:Cx} {pins:List (Addr×Obj)} {σ:St} {H:Hp} {s:Shared} {A:Around} {E:Value->Shared->Prop} {Q:Value->Shared->Prop} {c:Value} {b:Bool}
inductive TyOf (K:PySem.W.Frag) (H:Hp):V->Value->Prop where
 | non:TyOf K H .non (.type "NoneType")
 | bl (x:Bool):TyOf K H (.bl x) (.type "bool")
 | int (i:Int):TyOf K H (.int i) (.type "int")
 | str (x:Str):TyOf K H (.str x) (.type "str")
 | flt (x:UInt64):TyOf K H (.flt x) (.type "float")
 | lst {a:Addr} {xs:List V} (e:H a=some (.lst xs)):TyOf K H (.ref a) (.type "list")
 | frz {a:Addr} {o:Obj} {xs:List V} (e:H a=some (.frz o (.lst xs))):TyOf K H (.ref a) (.type "list")
 | tup {a:Addr} {xs:List V} (e:H a=some (.tup xs)):TyOf K H (.ref a) (.type "tuple")
 | dK {a:Addr} {kvs:List (Key×V)} (e:H a=some (.dK kvs)):TyOf K H (.ref a) (.type "dict")
 | dT {a:Addr} {kvs:List (List Key×V)} (e:H a=some (.dT kvs)):TyOf K H (.ref a) (.type "dict")
 | ins {a C dx:Addr} {fs:List (Str×V)} (e:H a=some (.ins C dx fs)) (cl:Cls K C) (ha:PySem.W.findIn K (.ref C) "__class__" = some (some (.builtin "object.__class__")))
   (hn:PySem.W.specialIn K (.builtin "object.__class__") "__get__" = some (some (.builtin "getset_descriptor.__get__"))) (htk:PySem.W.takesIn K (.builtin "object.__class__")=some true)
   (hm:PySem.W.mroIn K C (.type "object")=some true):TyOf K H (.ref a) (.ref C)
theorem isinst_ok {x:V} {t:Value} (I:Inv X pins σ H s) (rx:RelV x u) (ty:TyOf X.K H x t) (e:PySem.W.kitOne X.K t c=some b) (h:∀tk,Q (.bool b) {s with toks:=tk}) :
  wpAny (model X.prog X.w) A (call (.builtin "isinstance") [u,c]) Q E s:=by
 cases ty with
 | non=>cases (show u=Value.none from rx);exact qA8 PySem.W.kitx_none I.kIn True.intro e (fun z=>nomatch z) h
 | bl y=>cases (show u=Value.bool y from rx);exact qA8 PySem.W.kitx_bool I.kIn True.intro e (fun z=>nomatch z) h
 | int i=>obtain ⟨t,q⟩:=(show∃t,u=Value.int i t from rx);cases q;exact qA8 PySem.W.kitx_int I.kIn True.intro e (fun z=>nomatch z) h
 | str y=>obtain ⟨t,q⟩:=(show∃t,u=Value.str y t from rx);cases q;exact qA8 PySem.W.kitx_str I.kIn True.intro e (fun z=>nomatch z) h
 | flt y=>obtain ⟨t,q⟩:=(show∃t,u=Value.float y t from rx);cases q;exact qA8 PySem.W.kitx_float I.kIn True.intro e (fun z=>nomatch z) h
 | @lst a xs ea =>
  cases (show u=Value.ref a from rx)
  obtain ⟨_,_,n,_,h1⟩:=(show zA0 X.prog X.w H s.heap a (.lst xs) from I.hok a _ ea);exact qA8 PySem.W.kitx_list I.kIn ⟨_,h1,rfl⟩ e (fun z=>nomatch z) h
 | @frz a ob xs ea =>
  cases (show u=Value.ref a from rx)
  obtain ⟨_,_,_,n,_,h1⟩:=(show zA0 X.prog X.w H s.heap a (.frz ob (.lst xs)) from I.hok a _ ea);exact qA8 PySem.W.kitx_list I.kIn ⟨_,h1,rfl⟩ e (fun z=>nomatch z) h
 | @tup a xs ea =>
  cases (show u=Value.ref a from rx)
  obtain ⟨_,_,_,p⟩:=(show zA0 X.prog X.w H s.heap a (.tup xs) from I.hok a _ ea);obtain ⟨o,h1,h2,_⟩:=p;exact qA8 PySem.W.kitx_tuple I.kIn ⟨o,h1,h2⟩ e (fun z=>nomatch z) h
 | @dK a kvs ea =>
  cases (show u=Value.ref a from rx)
  obtain ⟨_,_,vs,_,p⟩:=(show zA0 X.prog X.w H s.heap a (.dK kvs) from I.hok a _ ea);obtain ⟨o,es,ep,h1,h2,_⟩:=p;exact qA8 PySem.W.kitx_dict I.kIn ⟨o,h1,h2.1⟩ e (fun z=>nomatch z) h
 | @dT a kvs ea =>
  cases (show u=Value.ref a from rx)
  obtain ⟨_,_,xs,_,o,es,ep,h1,h2,_⟩:=(show zA0 X.prog X.w H s.heap a (.dT kvs) from I.hok a _ ea);exact qA8 PySem.W.kitx_dict I.kIn ⟨o,h1,h2.1⟩ e (fun z=>nomatch z) h
 | @ins a C dx fs ea cl ha hn htk hm =>
  cases (show u=Value.ref a from rx)
  obtain ⟨mA,O,_⟩:=zFn I.hok ea;obtain ⟨od,J,_⟩:=O.look;exact qA8 (PySem.W.kitx_own (cl.get _) cl.hd ha hn htk hm) I.kIn J e (fun z=>nomatch z) h
end
structure Room (k:Nat) (A:Around):Prop where
 hd:A.handled=none
 dp:A.depth+3*k+5<recursionLimit
 un:A.units+16*k+200<cLine
 gd:A.guards=some []
theorem Room.mono {j k:Nat} (r:Room k A) (h:j<=k):Room j A:=⟨r.hd,by have:=r.dp;lia,by have:=r.un;lia,r.gd⟩
theorem Room.deeper {k:Nat} (r:Room (k+1) A) (env:Env):Room k (A.deeper env) :=
 ⟨r.hd,by have:=r.dp;show A.depth+1+3*k+5<_;lia,by have:=r.un;show A.units+3+16*k+200<_;lia,r.gd⟩
theorem make_depth {kw:List (Str×Value)}:(A.under (.builtin "type.__call__" ⟨.ref C::us,kw⟩)).depth=A.depth+1:=by
 first| rfl| simp [Around.under,Code.weight,Code.isCreation,Code.isGuard,Code.isCaller,Code.frames,Code.isFrame,guardIds]
theorem make_units {kw:List (Str×Value)}:(A.under (.builtin "type.__call__" ⟨.ref C::us,kw⟩)).units=A.units+1:=by
 first| rfl| simp [Around.under,Code.cUnits,Code.frames,Code.isFrame]
theorem Room.make {k:Nat} (r:Room (k+1) A) (C:Addr) (us:List Value) (kw:List (Str×Value)):Room k (A.under (.builtin "type.__call__" ⟨.ref C::us,kw⟩)) :=
 ⟨r.hd,by have:=r.dp;rw [make_depth];lia,by have:=r.un;rw [make_units];lia,(by unfold Around.under;dsimp only;rw [r.gd];rfl)⟩
theorem Room.depth {k:Nat} (r:Room k A):A.depth<recursionLimit:=by have:=r.dp;lia
theorem Room.units {k:Nat} (r:Room k A):A.units+64<cLine:=by have:=r.un;lia
def tNil:TA:=fun _ H Q=>Q [] H
def tCons (ta:TE) (tr:TA):TA:=fun σ H Q=>ta σ H fun x H1=>tr σ H1 fun xs H2=>Q (x::xs) H2
section
variable {X:Cx} {e:Expr} {es:List Expr} {te:TE} {t:TA} {pos:Pos}
theorem zAb:PA X [] tNil:=fun _ _ _ _ H Q I h=>Calls.spliced_nil ⟨[],H,I,.nil,h⟩
theorem zAa (ha:PE X e te) (hr:PA X es t) (hs:starEach (e::es) X.env=(false,eval e X.env)::starEach es X.env:=by rfl):PA X (e::es) (tCons te t):=by
 intro pos pins s σ H Q I h;rw [hs];show wpAny _ _ (spliced ((false,eval e X.env)::backTo pos (starEach es X.env))) _ _ s;refine Calls.spliced_cons (thn (ha pins s σ H _ I h) fun u s1 ⟨x,H1,I1,r1,q1⟩=>?_);exact thn (hr pos pins s1 σ H1 _ I1 q1) fun us s2 ⟨xs,H2,I2,r2,q2⟩=>⟨x::xs,H2,I2,.cons r1 r2,q2⟩
def tTup (t:TA):TE:=fun σ H Q=>t σ H fun xs H1=>xs.length<=sizeLine/\∀p,H1 p=none->Q (.ref p) (upd H1 p (.tup xs))
def tLst (t:TA):TE:=fun σ H Q=>t σ H fun xs H1=>xs.length<=sizeLine/\∀p,H1 p=none->Q (.ref p) (upd H1 p (.lst xs))
theorem zCn {x1} (h:PA X es t):PE X (.Tuple es x1 pos) (tTup t):=by
 intro pins s σ H Q I hq;refine wpAny_Tuple_spliced (thn (h pos pins s σ H _ I hq) fun us s1 ⟨xs,H1,I1,r,z,q⟩=>⟨by rw [<-r.length];exact z,?_⟩);have hf:H1 s1.heap.objs.size=none:=I1.hok.fresh (qAG _);refine ⟨.ref s1.heap.objs.size,upd H1 s1.heap.objs.size (.tup xs),I1.laid (t':=s1.toks) (fun b u e=>qAJ _ e) (qAG _) ?_,rfl,q _ hf⟩;exact ⟨z,us,r,⟨_,qAe _ rfl,rfl,_,rfl⟩⟩
theorem zA6 (h:PA X es t):PE X (.List es pos) (tLst t):=by
 intro pins s σ H Q I hq;refine wpAny_List_spliced (thn (h pos pins s σ H _ I hq) fun us s1 ⟨xs,H1,I1,r,z,q⟩=>⟨by rw [<-r.length];exact z,?_⟩);have hf:H1 s1.heap.objs.size=none:=I1.hok.fresh (qAG _);refine ⟨.ref s1.heap.objs.size,upd H1 s1.heap.objs.size (.lst xs),I1.laid (t':=s1.toks) (fun b u e=>qAJ _ e) (qAG _) ?_,rfl,q _ hf⟩;exact ⟨z,us,0,r,qAe _ rfl⟩
end
abbrev Sp:=List V->Hp->VK->XK->Prop
abbrev CXT:=List Env->Hp->Shared->XK->Value->Shared->Prop
structure Env0 (P:Program) (w:World) (K:PySem.W.Frag) (mg:Str->Option Value) (base:Heap) (A:Around) (outer:List Env) (s:Shared) (H:Hp):Prop where
 frames:A.frames=some outer
 mod:Mod K mg base
 bs:∀b o,base.get? b=some o->s.heap.get? b=some o/\H b=none
 bsz:base.objs.size<=s.heap.objs.size
 funs:s.heap.FunFrames base outer
 frf:∀b∈frs outer,H b=none
 hok:HOk P w H s.heap
 bare:AllBare s.gens
def CE (outer:List Env) (P:Program) (w:World) (H:Hp) (s:Shared) (Q:VK) (u:Value) (s':Shared):Prop :=
 ∃v H',s'.os=s.os/\AllBare s'.gens/\Un (frs outer) [] H H' s.heap s'.heap/\HOk P w H' s'.heap/\RelV v u/\Q v H'
def CR (CX:CXT) (outer:List Env) (P:Program) (w:World) (H:Hp) (s:Shared) (Q:VK) (E:XK) (r:Result) (s':Shared):Prop :=
 match r with
 | .ok (.ret u)=>CE outer P w H s Q u s'
 | .ok _=>False
 | .error e=>CX outer H s E e s'
structure FnOk (P:Program) (w:World) (K:PySem.W.Frag) (mg:Str->Option Value) (base:Heap) (CX:CXT) (k:Nat) (f:Addr) (fd:FuncData) (ps:List Str) (sp:Sp):Prop where
 len:∀vs H Q E,sp vs H Q E->vs.length=ps.length
 run:∀(A:Around) (outer:List Env) (s:Shared) (H:Hp) (args:Args) (us:List Value) (vs:List V) (Q:VK) (E:XK),Room k A->Env0 P w K mg base A outer s H->BindsTo s fd args (ps.zip us)->Vals vs us->sp vs H Q E ->
  codeAny (model P w) A (.call (.ref f) args) (CR CX outer P w H s Q E) s
theorem Env0.make {mg:Str->Option Value} {outer:List Env} (e:Env0 P w K mg base A outer s H) (C:Addr) (us:List Value) (kw:List (Str×Value)) :
  Env0 P w K mg base (A.under (.builtin "type.__call__" ⟨.ref C::us,kw⟩)) outer s H:=⟨by first| exact e.frames| (simpa [Around.under,Code.envs,Code.isFrame,pushEnvs] using e.frames),e.mod,e.bs,e.bsz,e.funs,e.frf,e.hok,e.bare⟩
section
variable {X:Cx} {pins:List (Addr×Obj)} {σ:St} {H:Hp} {s s':Shared}
theorem Inv.env0 (I:Inv X pins σ H s):Env0 X.prog X.w X.K X.mg X.base X.A X.stack s H :=
 ⟨I.ok.frames,I.ok.mod,I.bs,qAW I.ok.bsz I.sz,I.stack,I.stkFree,I.hok,I.bare⟩
theorem Inv.after {Q:VK} (I:Inv X pins σ H s) (h:CE X.stack X.prog X.w H s Q u s'):EP X pins σ Q u s':=by
 obtain ⟨v,H',os,bare,un,hok,r,q⟩:=h;obtain ⟨hh,g,d,t,os'⟩:=s';obtain rfl:os'=s.os:=os;exact ⟨v,H',I.call (h':=hh) (g':=g) (d':=d) (t':=t) (ch:=[]) un hok bare (fun b z=>absurd z (by simp)),r,q⟩
end
def tCall (sp:Sp) (dvs:List V) (E:XK) (t:TA):TE:=fun σ H Q=>t σ H fun vs H1=>sp (vs++dvs) H1 Q E
def tMeth (C:Addr) (m:Str) (sp:Sp) (dvs:List V) (E:XK) (ta:TE) (t:TA):TE:=fun σ H Q=>ta σ H fun x H1=>∃a dx fs,x= .ref a/\H1 a=some (.ins C dx fs)/\fs.lookup m=none /\
 t σ H1 fun vs H2=>sp (x::(vs++dvs)) H2 Q E
def tMake (C:Addr) (sp:Sp) (dvs:List V) (E:XK) (t:TA):TE:=fun σ H Q=>t σ H fun vs H1=>∀x dx,H1 x=none->H1 dx=none->dx≠x ->
 sp (.ref x::(vs++dvs)) (upd (upd H1 dx (.own x)) x (.ins C dx [])) (fun v H2=>v= .non/\Q (.ref x) H2) E
def zCd (K:PySem.W.Frag) (fd:FuncData) (ps:List Str) (ds:List Value):Prop :=
 ∀(s:Shared) (us:List Value),K.In s.heap->(us++ds).length=ps.length->BindsTo s fd ⟨us,[]⟩ (ps.zip (us++ds))
theorem zCd.all {fd:FuncData} {ps:List Str} (h:∀us:List Value,us.length=ps.length->bindArgs fd ⟨us,[]⟩=pure (ps.zip us)):zCd K fd ps []:=fun s us _ hl=>by
 rw [qA0] at hl ⊢;exact .of_eq (h us hl)
def zG1 (CX:CXT) (X:Cx) (E:XK):Prop:=∀(pins:List (Addr×Obj)) (σ:St) (H:Hp) (s:Shared) (e:Value) (s':Shared),Inv X pins σ H s->CX X.stack H s E e s'->X.xe e s'
section
variable {X:Cx} {CX:CXT} {k:Nat} {f C:Addr} {fd:FuncData} {ps:List Str} {sp:Sp} {dvs:List V} {ds:List Value} {E:XK} {x m:Str} {p pos apos:Pos} {e o:Expr} {es:List Expr} {ta:TE} {t:TA}
theorem run_fn {Q:VK} {us:List Value} {vs:List V} (F:FnOk X.prog X.w X.K X.mg X.base CX k f fd ps sp) (hr:Room k X.A) (hb:zCd X.K fd ps ds) (hd:Vals dvs ds) (hx:zG1 CX X E)
  (I:Inv X pins σ H s) (r:Vals vs us) (h:sp (vs++dvs) H Q E):wpAny (model X.prog X.w) X.A (call (.ref f) us) (EP X pins σ Q) X.xe s:=by
 have r2:Vals (vs++dvs) (us++ds):=r.append hd;have hl:(us++ds).length=ps.length:=by rw [<-r2.length];exact F.len _ _ _ _ h
 refine qBy (qBV (F.run X.A X.stack s H ⟨us,[]⟩ (us++ds) (vs++dvs) Q E hr I.env0 (hb s us I.kIn hl) r2 h) fun r s' hq=>?_)
 cases r with
 | error e=>exact hx pins σ H s e s' I hq
 | ok fl =>
  cases fl with
  | ret u=>exact I.after hq
  | next=>exact False.elim hq
  | brk=>exact False.elim hq
  | cont=>exact False.elim hq
theorem pe_call (F:FnOk X.prog X.w X.K X.mg X.base CX k f fd ps sp) (hr:Room k X.A) (hg:Gl X x) (hm:X.mg x=some (.ref f)) (hk:PySem.W.keepIn X.K (.ref f)=true) (hb:zCd X.K fd ps ds) (hd:Vals dvs ds) (hx:zG1 CX X E)
  (ha:PA X (e::es) t) (hdb:(x==("__debug__" : Str))=false:=by decide) (he:starEach (e::es) X.env=(false,eval e X.env)::starEach es X.env:=by rfl) (hpl:(backTo pos (starEach es X.env)).any (·.1)=false:=by rfl) :
  PE X (.Call (.Name x p) (e::es) [] pos) (tCall sp dvs E t):=by
 intro pins s σ H Q I h;refine qBz (zEj I hg hm ?_ hdb);refine qCH (h₀:=X.base) I.ok.mod.kin hk (thn (ha pos pins s σ H _ I h) fun us s1 ⟨vs,H1,I1,r,q⟩=>⟨I1.kIn,?_⟩) he hpl;exact run_fn F hr hb hd hx I1 r q
theorem pe_meth {pl:Sem Bool} (he:PE X o ta) (c:Cls X.K C) (hm:Meth X.K C m f) (F:FnOk X.prog X.w X.K X.mg X.base CX k f fd ps sp) (hr:Room k X.A) (hb:zCd X.K fd ps ds) (hd:Vals dvs ds) (hx:zG1 CX X E) (ha:PA X (e::es) t)
  (hst:starEach (e::es) X.env=(false,eval e X.env)::starEach es X.env:=by rfl) (hpl:(backTo pos (starEach es X.env)).any (·.1)=false:=by rfl)
  (ht:eval (.Call (.Attribute o m apos) (e::es) [] pos) X.env=(do
   let ov<-eval o X.env
   standAt apos.atName
   let (f,first)<-holding [ov] (getMethod ov m pl)
   callWith pos f first (backTo pos (starEach (e::es) X.env)) (backToKw pos (keywordEach [] X.env))):=by rfl) :
  PE X (.Call (.Attribute o m apos) (e::es) [] pos) (tMeth C m sp dvs E ta t):=by
 intro pins s σ H Q I h;refine PySem.W.methodCall_KW (pl:=pl) (thn (he pins s σ H _ I h) fun u s1 ⟨x,H1,I1,rx,a,dx,fs,ex,ea,l,q⟩=>?_) ht;subst ex;obtain rfl:u=Value.ref a:=rx;refine zHp I1 ea c hm l ?_;refine qCH (first:=[.ref a]) (h₀:=X.base) I.ok.mod.kin hm.kp (thn (ha pos pins s1 σ H1 _ I1 q) fun us s2 ⟨vs,H2,I2,r,q2⟩=>⟨I2.kIn,?_⟩) hst hpl;exact run_fn (us:=.ref a::us) (vs:=.ref a::vs) F hr hb hd hx I2 (.cons rfl r) q2
theorem pe_meth0 {pl:Sem Bool} (he:PE X o ta) (c:Cls X.K C) (hm:Meth X.K C m f) (F:FnOk X.prog X.w X.K X.mg X.base CX k f fd ps sp) (hr:Room k X.A) (hb:zCd X.K fd ps ds) (hd:Vals dvs ds) (hx:zG1 CX X E)
  (ht:eval (.Call (.Attribute o m apos) [] [] pos) X.env=(do
   let ov<-eval o X.env
   standAt apos.atName
   let (f,first)<-holding [ov] (getMethod ov m pl)
   callWith pos f first (backTo pos (starEach [] X.env)) (backToKw pos (keywordEach [] X.env))):=by rfl) :
  PE X (.Call (.Attribute o m apos) [] [] pos) (tMeth C m sp dvs E ta tNil):=by
 intro pins s σ H Q I h;refine PySem.W.methodCall_KW (pl:=pl) (thn (he pins s σ H _ I h) fun u s1 ⟨x,H1,I1,rx,a,dx,fs,ex,ea,l,q⟩=>?_) ht;subst ex;obtain rfl:u=Value.ref a:=rx;refine zHp I1 ea c hm l ?_;exact PySem.W.callWith_K0 (first:=[.ref a]) I1.kIn hm.kp (run_fn (us:=[.ref a]) (vs:=[.ref a]) F hr hb hd hx I1 (.cons rfl .nil) q)
structure Mk (K:PySem.W.Frag) (C f:Addr):Prop where
 makes:PySem.W.makesIn K C=true
 init:PySem.W.findIn K (.ref C) "__init__" = some (some (.ref f))
 fn:PySem.W.isFn K (.ref f)=true
 kp:PySem.W.keepIn K (.ref C)=true
theorem run_make {Q:VK} {vs:List V} (M:Mk X.K C f) (F:FnOk X.prog X.w X.K X.mg X.base CX k f fd ps sp) (hr:Room (k+1) X.A) (hb:zCd X.K fd ps ds) (hd:Vals dvs ds)
  (hx:zG1 CX X E) (I:Inv X pins σ H s) (r:Vals vs us)
  (h:∀x dx,H x=none->H dx=none->dx≠x->sp (.ref x::(vs++dvs)) (upd (upd H dx (.own x)) x (.ins C dx [])) (fun v H2=>v= .non/\Q (.ref x) H2) E) :
  wpAny (model X.prog X.w) X.A (call (.ref C) us) (EP X pins σ Q) X.xe s:=by
 have hq:=h (s.heap.objs.size+1) s.heap.objs.size (I.hok.fresh (qBf _)) (I.hok.fresh (qAG _)) (qAN (qCG _));have I2:=Inv.made (C:=C) I;have r2:Vals (V.ref (s.heap.objs.size+1)::(vs++dvs)) (Value.ref (s.heap.objs.size+1)::(us++ds)):=.cons rfl (r.append hd)
 have hl:(Value.ref (s.heap.objs.size+1)::us++ds).length=ps.length:=by
  have e:=r2.length;rw [F.len _ _ _ _ hq] at e;exact e.symm
 refine qBy (make_map (f:=f) I.kIn M.makes M.init (qBJ.mp M.fn) (qBV (F.run _ X.stack _ _ ⟨Value.ref (s.heap.objs.size+1)::us,[]⟩ (Value.ref (s.heap.objs.size+1)::(us++ds)) _ _ E (hr.make C us [])
  (I2.env0.make C us []) (hb _ (Value.ref (s.heap.objs.size+1)::us) I2.kIn hl) r2 hq) fun r s' hq'=>?_))
 cases r with
 | error e=>exact hx pins σ _ _ e s' I2 hq'
 | ok fl =>
  cases fl with
  | ret u =>
   obtain ⟨v,H',I3,rv,ev,q3⟩:=I2.after hq';subst ev;exact ⟨rv,⟨V.ref (s.heap.objs.size+1),H',I3,rfl,q3⟩⟩
  | next=>exact False.elim hq'
  | brk=>exact False.elim hq'
  | cont=>exact False.elim hq'
theorem pe_make (M:Mk X.K C f) (F:FnOk X.prog X.w X.K X.mg X.base CX k f fd ps sp) (hr:Room (k+1) X.A) (hg:Gl X x) (hm:X.mg x=some (.ref C)) (hb:zCd X.K fd ps ds) (hd:Vals dvs ds) (hx:zG1 CX X E)
  (ha:PA X (e::es) t) (hdb:(x==("__debug__" : Str))=false:=by decide) (he:starEach (e::es) X.env=(false,eval e X.env)::starEach es X.env:=by rfl) (hpl:(backTo pos (starEach es X.env)).any (·.1)=false:=by rfl) :
  PE X (.Call (.Name x p) (e::es) [] pos) (tMake C sp dvs E t):=by
 intro pins s σ H Q I h;refine qBz (zEj I hg hm ?_ hdb);refine qCH (h₀:=X.base) I.ok.mod.kin M.kp (thn (ha pos pins s σ H _ I h) fun us s1 ⟨vs,H1,I1,r,q⟩=>⟨I1.kIn,?_⟩) he hpl;exact run_make M F hr hb hd hx I1 r q
end
section
variable {X:Cx} {CX:CXT} {k:Nat} {f C:Addr} {fd:FuncData} {ps ks:List Str} {sp:Sp} {E:XK} {x m:Str} {p pos apos kpos:Pos} {e o:Expr} {es:List Expr} {kws:List Keyword} {te ta:TE} {t tk:TA} {nm:Option Str}
variable {g:List Value->List Value->List Value} {gV:List V->List V->List V}
end
structure FnScope (N P:List Str) (sc:Scope):Prop where
 kind:sc.kind= .function
 co:sc.isCoroutine=false
 gen:sc.isGenerator=false
 nd:N.Nodup
 pre:N.take P.length=P
 par:∀x∈P,sc.names.lookup x=some .local\/sc.names.lookup x=some .cell
 nofree:∀y∈sc.names,y.2≠.free
theorem bindL_out {kindOf:Str->Option NameKind} :∀{binds:List (Str×Value)} {m:Str->Option Value},(∀v,(x,v)∉binds)->bindL kindOf binds m x=m x
 | [],_,_=>rfl
 | (n,v)::r,m,h=>by
  unfold bindL;rw [bindL_out fun w hw=>h w (qAP _ hw)];split
  ·have:x≠n:=by rintro rfl;exact h v qAU
   simp [this]
  ·rfl
theorem bindC_out {kindOf:Str->Option NameKind} :∀{binds:List (Str×Value)} {m:Str->Option Value},(∀v,(x,v)∉binds)->bindC kindOf binds m x=m x
 | [],_,_=>rfl
 | (n,v)::r,m,h=>by
  unfold bindC;rw [bindC_out fun w hw=>h w (qAP _ hw)];split
  ·rfl
  ·have:x≠n:=by rintro rfl;exact h v qAU
   simp [this]
theorem bindL_get {kindOf:Str->Option NameKind} {v:Value}:∀{P:List Str} {vs:List Value} {i:Nat} {m:Str->Option Value},P.Nodup->P[i]?=some x->vs[i]?=some v->kindOf x=some .local ->
  bindL kindOf (P.zip vs) m x=some v
 | [],_,_,_,_,h,_,_=>by simp at h
 | _::_,[],_,_,_,_,h,_=>by simp at h
 | p::P,w::vs,0,m,nd,h1,h2,hk=>by
  simp at h1 h2;subst h1;subst h2;show bindL kindOf ((p,w)::P.zip vs) m p=_;unfold bindL;rw [bindL_out fun v hv=>(qA1.mp nd).1 (qCd hv).1,qAC hk];simp
 | p::P,w::vs,i+1,m,nd,h1,h2,hk=>by
  show bindL kindOf ((p,w)::P.zip vs) m x=_;unfold bindL;exact bindL_get (i:=i) (qA1.mp nd).2 (by simpa using h1) (by simpa using h2) hk
theorem bindC_get {kindOf:Str->Option NameKind} {v:Value}:∀{P:List Str} {vs:List Value} {i:Nat} {m:Str->Option Value},P.Nodup->P[i]?=some x->vs[i]?=some v->kindOf x≠some .local ->
  bindC kindOf (P.zip vs) m x=some v
 | [],_,_,_,_,h,_,_=>by simp at h
 | _::_,[],_,_,_,_,h,_=>by simp at h
 | p::P,w::vs,0,m,nd,h1,h2,hk=>by
  simp at h1 h2;subst h1;subst h2;show bindC kindOf ((p,w)::P.zip vs) m p=_;unfold bindC;rw [bindC_out fun v hv=>(qA1.mp nd).1 (qCd hv).1,qAB hk];simp
 | p::P,w::vs,i+1,m,nd,h1,h2,hk=>by
  show bindC kindOf ((p,w)::P.zip vs) m x=_;unfold bindC;exact bindC_get (i:=i) (qA1.mp nd).2 (by simpa using h1) (by simpa using h2) hk
def start (N:List Str) (vs:List V):St:=vs.map some++List.replicate (N.length - vs.length) none
def cxOf (CX:CXT) (P:Program) (w:World) (K:PySem.W.Frag) (mg:Str->Option Value) (base:Heap) (N:List Str) (qual:Str) (scope:Scope) (f:Addr) (cd:Value) (A:Around) (outer:List Env) (s:Shared) (H:Hp) (E:XK):Cx where
 prog:=P
 w:=w
 K:=K
 mg:=mg
 base:=base
 A:=A.deeper (envOfC qual scope s.heap.objs.size f cd)
 N:=N
 s₀:=s
 H₀:=H
 env:=envOfC qual scope s.heap.objs.size f cd
 outer:=outer
 stack:=envOfC qual scope s.heap.objs.size f cd::outer
 ex:=[]
 calm:=true
 fn:=fun _=>true
 pn:=[]
 xe:=fun e s'=>wpAny (model P w) (A.deeper (envOfC qual scope s.heap.objs.size f cd)) (leaving (envOfC qual scope s.heap.objs.size f cd) e) (fun _ s''=>CX outer H s E e s'') (fun e' s''=>CX outer H s E e' s'') s'
theorem cell_has {sc:Scope} {n:Nat} (h:sc.names.lookup x=some .cell):∃c,(cellsFrom n sc.names []).lookup x=some c:=by
 have q:=qCe sc.names n [] (.inl h);exact qC0.mp q
theorem inv_start {CX:CXT} {mg:Str->Option Value} {N ps:List Str} {qual:Str} {scope:Scope} {f:Addr} {cd:Value} {A:Around} {outer:List Env} {s1:Shared} {E:XK} {vs:List V}
  (S:FnScope N ps scope) (hd:A.handled=none) (e0:Env0 P w K mg base A outer s H) (hl:vs.length=ps.length) (r:Vals vs us)
  (x:InCallC s s.heap.objs.size (bindL (envOfC qual scope s.heap.objs.size f cd).kindOf (ps.zip us) fun _=>none) (cellsFrom (s.heap.objs.size+1) scope.names []) (bindC (envOfC qual scope s.heap.objs.size f cd).kindOf (ps.zip us) fun _=>none) s1) :
  Inv (cxOf CX P w K mg base N qual scope f cd A outer s H E) [] (start N vs) H s1:=by
 have hpl:ps.length<=N.length:=by have:=qAg List.length S.pre;rw [qAj] at this;lia
 obtain ⟨h1,tk,rfl,hk⟩:=x.done;have noA:∀b:Addr,b∉(cxOf CX P w K mg base N qual scope f cd A outer s H E).ex:=fun b z=>absurd (show b∈([]:List Addr) from z) (by simp)
 refine ⟨⟨e0.mod,S.kind,rfl,rfl,qAG _,fun y z c h1 h2=>?_,fun y hy=>?_,fun y c _ h=>?_,fun _=>hd,Around.frames_deeper e0.frames,.inr ⟨rfl,rfl⟩,fun b z=>absurd z (noA b),e0.bs,e0.bsz,fun b _ _=>noA b,fun b z=>absurd z (noA b),e0.funs,e0.frf⟩,
  rfl,e0.bare,Un.kept hk,⟨_,x.toInCall.ns,fun i y v h1 h2 h3=>?_⟩,fun y c h=>⟨_,x.cell y c h⟩,e0.hok.fresh (qAG _),fun y c h=>?_,fun p hp=>absurd (show p∈([]:List (Addr×Obj)) from hp) (by simp),e0.hok.kept hk,?_⟩
 ·exact name_of_addr x.apart (qB0 h1) (qB0 h2)
 ·have hy:scope.names.lookup y=some .cell\/scope.names.lookup y=some .free:=hy;rcases hy with hy| hy
  ·exact cell_has hy
  ·exact absurd rfl (S.nofree _ (qB0 hy))
 ·exact qCA (x.above y c (qB0 h))
 ·have hi:i<vs.length:=by
   unfold start at h2
   by_cases hi:i<vs.length
   ·exact hi
   ·rw [qCI (by simpa using hi)] at h2;rw [List.getElem?_replicate] at h2;split at h2<;>cases h2
  have ha:vs[i]?=some v:=by
   unfold start at h2;rw [qCJ (by simpa using hi),qAX] at h2
   cases e:vs[i]? with
   | none=>rw [e] at h2;cases h2
   | some a=>rw [e] at h2;cases h2;rfl
  obtain ⟨u,hu,rv⟩:=r.get ha
  have hp:ps[i]?=some y:=by
   rw [<-S.pre,qC1 (by lia)];exact h1
  have ndP:ps.Nodup:=by rw [<-S.pre];exact S.nd.sublist (List.take_sublist _ _)
  refine ⟨u,rv,?_⟩;rcases S.par y (qAY hp) with k| k
  ·exact .inl ⟨k,bindL_get ndP hp hu k⟩
  ·obtain ⟨c,e⟩:=cell_has (n:=s.heap.objs.size+1) k;refine .inr ⟨.inl k,c,e,?_⟩;have q:=x.cell y c e;rw [bindC_get ndP hp hu (by show scope.names.lookup y≠_;rw [k];decide)] at q;exact q
 ·exact e0.hok.fresh (qCA (x.above y c (qB0 h)))
 ·unfold start;show _=N.length;rw [qAa,qAE,List.length_replicate];lia
theorem fn_of {CX:CXT} {mg:Str->Option Value} {k:Nat} {f:Addr} {name qual:Str} {params:Arguments} {body:List Stmt} {scope:Scope} {dV kV doc pm cdv ct oc:Value} {an od:Option Addr}
  {osl:Array (Option Value)} {N ps:List Str} {sp:Sp} (lk:K.lookup f=some ⟨oc,od,.func (PySem.W.fnOf name qual params body scope dV kV doc pm an cdv ct),osl⟩) (hcd:PySem.W.codeIn K cdv qual=true) (S:FnScope N ps scope)
  (len:∀vs H Q E,sp vs H Q E->vs.length=ps.length)
  (hbody:∀(A:Around) (outer:List Env) (s:Shared) (H:Hp) (vs:List V) (Q:VK) (E:XK),Room k (A.deeper (envOfC qual scope s.heap.objs.size f cdv))->sp vs H Q E ->
   ∃t,PSs (cxOf CX P w K mg base N qual scope f cdv A outer s H E) body t/\t {nx:=fun _ H'=>Q .non H',rt:=Q} (start N vs) H) :
  FnOk P w K mg base CX (k+1) f (PySem.W.fnOf name qual params body scope dV kV doc pm an cdv ct) ps sp:=by
 refine ⟨len,fun A outer s H args us vs Q E hr e0 hb r hsp=>?_⟩;have hl:=len _ _ _ _ hsp;have KX:K.In s.heap:=e0.mod.kin.keeps fun b o e=>(e0.bs b o e).1;have lim:s.heap.NoLimit:=e0.mod.nolimit.keeps fun b o e=>(e0.bs b o e).1
 have hkind:∀y∈ps.zip us,scope.names.lookup y.1=some .local\/(scope.names.lookup y.1=some .cell/\((cellsFrom (s.heap.objs.size+1) scope.names []).lookup y.1).isSome=true):=fun ⟨n,v⟩ hy=>by
  rcases S.par n (qCd hy).1 with q| q
  ·exact .inl q
  ·exact .inr ⟨q,qCe _ _ _ (.inl q)⟩
 refine codeAny_call_function hr.depth (KX _ _ lk) rfl S.co S.gen rfl (PySem.W.codeRec_of KX hcd) (hb _ _ _ _ ?_);refine wpAny_newFunctionEnv_cells S.kind hkind fun env he s1 x=>?_;subst he;refine ⟨lim.keeps x.toInCall.keep,codeAny_func ?_⟩;obtain ⟨t,ht,hq⟩:=hbody A outer s H vs Q E (hr.deeper _) hsp;have I:Inv (cxOf CX P w K mg base N qual scope f cdv A outer s H E) [] (start N vs) H s1:=inv_start S hr.hd e0 hl r x;refine qAt (ht [] s1 (start N vs) H _ I hq) (fun fl s' hs=>?_) fun e s' hs=>hs
 have fin:∀{σ':St} {H':Hp} {v:V} {u:Value},Inv (cxOf CX P w K mg base N qual scope f cdv A outer s H E) [] σ' H' s'->RelV v u->Q v H'->CE outer P w H s Q u s' :=
  fun {σ' H' v u} J rv q=>⟨v,H',J.os,J.bare,J.base,J.hok,rv,q⟩
 cases fl with
 | ret u =>
  obtain ⟨v,σ',H',J,rv,q⟩:=hs;exact fin J rv q
 | next =>
  obtain ⟨σ',H',J,q⟩:=hs;exact fin (v:=V.non) (u:=Value.none) J rfl q
 | brk =>
  obtain ⟨_,_,_,q⟩:=hs;exact False.elim q
 | cont =>
  obtain ⟨_,_,_,q⟩:=hs;exact False.elim q
section
variable {X:Cx} {x:Str} {p pos:Pos} {e:Expr} {es:List Expr} {t:TA} {id T:String} {r:List V->Hp->VK->Prop}
def tCB (r:List V->Hp->VK->Prop) (t:TA):TE:=fun σ H Q=>t σ H fun vs H1=>r vs H1 Q
theorem zAk (hc:zCc X (.builtin id) r) (hg:Gl X x) (hm:X.mg x=none) (hv:bootBuiltins x=some (.builtin id)) (ha:PA X (e::es) t) (hn:x≠ "__name__" := by decide) (hdb:(x==("__debug__" : Str))=false:=by decide)
  (he:starEach (e::es) X.env=(false,eval e X.env)::starEach es X.env:=by rfl) (hpl:(backTo pos (starEach es X.env)).any (·.1)=false:=by rfl):PE X (.Call (.Name x p) (e::es) [] pos) (tCB r t):=by
 intro pins s σ H Q I h;refine qBz (zHn I hg hm hv ?_ hn hdb);exact PyProof.Rows.callWith_builtin1 (thn (ha pos pins s σ H _ I h) fun us s1 ⟨vs,H1,I1,r1,q1⟩=>hc pins s1 σ H1 vs us Q I1 r1 q1) he hpl
theorem zAt (hc:zCc X (.type T) r) (hg:Gl X x) (hm:X.mg x=none) (hv:bootBuiltins x=some (.type T)) (ha:PA X (e::es) t) (hn:x≠ "__name__" := by decide) (hdb:(x==("__debug__" : Str))=false:=by decide)
  (he:starEach (e::es) X.env=(false,eval e X.env)::starEach es X.env:=by rfl) (hpl:(backTo pos (starEach es X.env)).any (·.1)=false:=by rfl):PE X (.Call (.Name x p) (e::es) [] pos) (tCB r t):=by
 intro pins s σ H Q I h;refine qBz (zHn I hg hm hv ?_ hn hdb);exact qCc (thn (ha pos pins s σ H _ I h) fun us s1 ⟨vs,H1,I1,r1,q1⟩=>hc pins s1 σ H1 vs us Q I1 r1 q1) he hpl
end
end L2
namespace HT
open PySem PyProof.Rows
section
open PySem.SeqAt
open PySem.AutoSeq1 (wpAny_loadPart')
open PySem.MeetsSeq PySem.MeetsSeq2 PySem.MeetsSeq3
end
section
variable {prog:Program} {w:World} {A:Around} {E:Value->Shared->Prop} {s:Shared}
def sIx (n d:Nat):Option Int->Nat
 | none=>d
 | some v=>if v<0 then (v+(n:Int)).toNat else min v.toNat n
end
end HT
namespace L2
open PySem PySem.Spec PyProof.Rows
variable {α:Type}{n:Nat}{x:V}
abbrev TO:=St->Hp->(Option Int->Hp->Prop)->Prop
def PO (X:Cx) (e:Option Expr) (t:TO):Prop :=
 ∀(pins:List (Addr×Obj)) (s:Shared) (σ:St) (H:Hp) (Q:Option Int->Hp->Prop),Inv X pins σ H s->t σ H Q ->
  wpAny (model X.prog X.w) X.A (evalPart e X.env) (fun u s'=>∃o H',Inv X pins σ H' s'/\IsPart u o/\Q o H') X.xe s
def tPart (t:TE):TO:=fun σ H Q=>t σ H fun x H1=>∃i,x= .int i/\Q (some i) H1
section
variable {X:Cx} {e:Expr} {te:TE} {lo hi:Option Expr} {tl th:TO} {pos p2:Pos}
theorem po_some (h:PE X e te):PO X (some e) (tPart te):=by
 intro pins s σ H Q I hw;rw [evalPart_some];refine thn (h pins s σ H _ I hw) fun u s1 ⟨x,H1,I1,r1,q1⟩=>?_;obtain ⟨i,rfl,q⟩:=q1;obtain ⟨t,rfl⟩:=r1;exact ⟨some i,H1,I1,.int i t,q⟩
def SlR (X:Cx) (r:V->Option Int->Option Int->Hp->VK->Prop):Prop :=
 ∀(pins:List (Addr×Obj)) (s:Shared) (σ:St) (H:Hp) (x:V) (v vl vu:Value) (lo hi:Option Int) (sl:Addr) (Q:VK),Inv X pins σ H s->RelV x v->s.heap.IsSliceOf sl vl vu .none->IsPart vl lo->IsPart vu hi->r x lo hi H Q ->
  ∃T id,typeLookup (.type T) "__getitem__" = pure (some (.builtin id))/\s.TypeIs v T/\wpAny (model X.prog X.w) X.A (getItem v (.ref sl)) (EP X pins σ Q) X.xe s
def tSl (r:V->Option Int->Option Int->Hp->VK->Prop) (te:TE) (tl th:TO):TE:=fun σ H Q=>te σ H fun x H1=>tl σ H1 fun l H2=>th σ H2 fun u H3=>r x l u H3 Q
theorem pe_slice {r:V->Option Int->Option Int->Hp->VK->Prop} (hr:SlR X r) (he:PE X e te) (hl:PO X lo tl) (hu:PO X hi th):PE X (.Subscript e (.Slice lo hi none p2) pos) (tSl r te tl th):=by
 intro pins s σ H Q I h;refine Subscript_ (thn (he pins s σ H _ I h) fun v s1 ⟨x,H1,I1,r1,q1⟩=>?_);refine wpAny_Slice (thn (hl pins s1 σ H1 _ I1 q1) fun vl s2 ⟨l,H2,I2,pl,q2⟩=>thn (hu pins s2 σ H2 _ I2 q2) fun vu s3 ⟨u,H3,I3,pu,q3⟩=>?_);rw [evalPart_none];refine qAD ?_;have I4:Inv X pins σ H3 {s3 with heap:=s3.heap.push {cls:=.type "slice",data:=.fields #[vl,vu,.none]}}:=I3.kept (t':=s3.toks) fun b ob q=>qAJ _ q;obtain ⟨T,id,hT,ht,hg⟩:=hr pins {s3 with heap:=s3.heap.push {cls:=.type "slice",data:=.fields #[vl,vu,.none]}} σ H3 x v vl vu l u s3.heap.objs.size Q I4 r1 (Heap.IsSliceOf.new ..) pl pu q3;show wpAny (model X.prog X.w) X.A (subscriptTail e (.Slice lo hi none p2) v (.ref s3.heap.objs.size)) (EP X pins σ Q) X.xe {s3 with heap:=s3.heap.push {cls:=.type "slice",data:=.fields #[vl,vu,.none]}};exact tail_any (ops:=[.ref s3.heap.objs.size,v]) ht hT hg (by with_unfolding_all rfl)
def cutV (xs:List V) (lo hi:Option Int):List V:=(xs.drop (HT.sIx xs.length 0 lo)).take (HT.sIx xs.length xs.length hi - HT.sIx xs.length 0 lo)
theorem zGx (xs:List V) (lo hi:Option Int):(cutV xs lo hi).length<=xs.length:=by
 unfold cutV;rw [qAj,qB1];lia
end
def ixN (n:Nat) (i:Int):Option Nat:=if 0<=i then (if i<n then some i.toNat else none) else if -(n:Int)<=i then some (i+n).toNat else none
def atI (xs:List α) (i:Int):Option α:=(ixN xs.length i).bind fun j=>xs[j]?
theorem ixN_seq {i:Int} {j:Nat} (h:ixN n i=some j):seqIndex? i n=some j/\j<n/\-(n:Int)<=i/\i<n:=by
 unfold ixN at h
 by_cases h0:0<=i
 ·rw [qAC h0] at h
  by_cases h1:i<n
  ·rw [qAC h1] at h;have e:i.toNat=j:=qAb h;exact ⟨by rw [seqIndex_of h0 h1,e],by lia,by lia,h1⟩
  ·rw [qAB h1] at h;cases h
 ·rw [qAB h0] at h
  by_cases h1:-(n:Int)<=i
  ·rw [qAC h1] at h;have e:(i+n).toNat=j:=qAb h;exact ⟨by rw [seqIndex_neg (by lia) h1,e],by lia,h1,by lia⟩
  ·rw [qAB h1] at h;cases h
theorem atI_get {xs:List α} {i:Int} {v:α} (h:atI xs i=some v):∃j,seqIndex? i xs.length=some j/\xs[j]?=some v/\j<xs.length/\-(xs.length:Int)<=i/\i<xs.length:=by
 unfold atI at h
 cases e:ixN xs.length i with
 | none=>rw [e] at h;cases h
 | some j =>
  rw [e] at h;obtain ⟨h1,h2,h3,h4⟩:=ixN_seq e;exact ⟨j,h1,h,h2,h3,h4⟩
def PlainIx (b:Expr):Prop:=∀o i,subscripted b false o i=operate [o,i] (getItem o i)
def IxR (X:Cx) (r:R2):Prop :=
 ∀(value slice:Expr) (pins:List (Addr×Obj)) (s:Shared) (σ:St) (H:Hp) (x y:V) (v u:Value) (Q:VK),Inv X pins σ H s->RelV x v->RelV y u->r x y H Q ->
  subscripted slice false v u=operate [v,u] (getItem v u)->wpAny (model X.prog X.w) X.A (subscriptTail value slice v u) (EP X pins σ Q) X.xe s
def MtR (X:Cx) (id:String) (r:V->List V->Hp->VK->Prop):Prop :=
 ∀(pins:List (Addr×Obj)) (s:Shared) (σ:St) (H:Hp) (x:V) (xs:List V) (v:Value) (us:List Value) (Q:VK),Inv X pins σ H s->RelV x v->Vals xs us->r x xs H Q ->
  wpAny (model X.prog X.w) X.A (call (.builtin id) (v::us)) (EP X pins σ Q) X.xe s
section
variable {X:Cx} {a b:Expr} {ta tb:TE} {pos:Pos}
theorem zDa {r:R2} (hr:IxR X r) (ha:PE X a ta) (hb:PE X b tb) (hs:PlainIx b):PE X (.Subscript a b pos) (tOp r ta tb):=by
 intro pins s σ H Q I h;exact Subscript_ (binT ha hb I h fun v u s2 x y H2 I2 rx ry q=>hr a b pins s2 σ H2 x y v u Q I2 rx ry q (hs _ _))
def rIxL (K:PySem.W.Frag):R2:=fun x y H Q=>∃p xs i v,x= .ref p/\y= .int i/\SqL K H p xs/\atI xs i=some v/\Q v H
def rIxS:R2:=fun x y H Q=>∃z i c,x= .str z/\y= .int i/\z.length<=sizeLine/\atI z.cps.toList i=some c/\Q (.str ⟨#[c]⟩) H
theorem zBf:IxR X (rIxL X.K):=by
 intro value slice pins s σ H x y v u Q I rx ry h hs;obtain ⟨p,xs,i,z,rfl,rfl,hq,he,q⟩:=h
 cases rx
 obtain ⟨t,rfl⟩:=ry;obtain ⟨its,r,pl,hz⟩:=I.list hq;obtain ⟨j,h1,h2,h3,h4,h5⟩:=atI_get he;obtain ⟨w,ew,rw'⟩:=r.get h2;have hl:=r.length;have hn:=zHm;have fin:EP X pins σ Q w s:=⟨z,H,I,rw',q⟩
 by_cases h0:0<=i
 ·have hj:i.toNat=j:=by
   rw [seqIndex_of h0 h5] at h1;exact qAb h1
  exact item_listR pl.isList h0 (by lia) (by rw [hj];simpa using ew) fin hs
 ·have hj:(i+(its.toArray.size:Int)).toNat=j:=by
   rw [seqIndex_neg (by lia) h4] at h1;rw [qAQ,<-hl];exact qAb h1
  exact subscriptTail_builtinR (x:=w) pl.isList.typeIs slot_list_getitem.lookup
   (wpAny_getItem_list_neg (Q:=fun r s'=>r=w/\EP X pins σ Q r s') pl.isList (by lia) (by rw [qAQ]<;>lia) (by lia) (by rw [hj];simpa using ew) ⟨rfl,fin⟩) hs
theorem ix_str:IxR X rIxS:=by
 intro value slice pins s σ H x y v u Q I rx ry h hs;obtain ⟨z,i,c,rfl,rfl,hz,he,q⟩:=h;obtain ⟨t,rfl⟩:=rx;obtain ⟨t',rfl⟩:=ry;obtain ⟨j,h1,h2,h3,h4,h5⟩:=atI_get he;have hl:z.cps.toList.length=z.length:=by simp [Str.length]
 rw [hl] at h1 h4 h5;have hn:=zHm
 exact tail_any (typeIs_str s z t) slot_str_getitem.lookup (getItem_str (c:=c) (by
  have e1:decide (i< -(2^63:Int))=false:=qAT (by lia);have e2:decide (i>=2^63)=false:=qAT (by lia);rw [e1,e2,Bool.or_false]) (by rw [h1];simpa using h2) ⟨.str ⟨#[c]⟩,H,I.tok _,⟨_,rfl⟩,q⟩) hs
theorem mapSeq_set (its:List Value) (n j:Nat) (u:Value):Obj.mapSeq (·.setIfInBounds j u) {cls:=.type "list",data:=.seq its.toArray n}={cls:=.type "list",data:=.seq (its.set j u).toArray n}:=by
 simp [Obj.mapSeq]
theorem Inv.lst {pins:List (Addr×Obj)} {σ:St} {H:Hp} {s:Shared} {p:Addr} {xs:List V} (I:Inv X pins σ H s) (h:H p=some (.lst xs)) :
  ∃(its:List Value) (n:Nat),Vals xs its/\s.heap.get? p=some {cls:=.type "list",data:=.seq its.toArray n}/\xs.length<=sizeLine:=by
 obtain ⟨z,its,n,r,e⟩:=I.hok p _ h;exact ⟨its,n,r,e,z⟩
theorem Inv.lstUpd {pins:List (Addr×Obj)} {σ:St} {H:Hp} {s:Shared} {p:Addr} {xs ys:List V} {its its':List Value} {n':Nat} {f:Obj->Obj} (I:Inv X pins σ H s) (h:H p=some (.lst xs))
  (ho:s.heap.get? p=some {cls:=.type "list",data:=.seq its.toArray n}) (hf:f {cls:=.type "list",data:=.seq its.toArray n}={cls:=.type "list",data:=.seq its'.toArray n'}) (r:Vals ys its') (hz:ys.length<=sizeLine) (t:Nat) :
  Inv X pins σ (upd H p (.lst ys)) {s with heap:=s.heap.update p f,toks:=t}:=by
 have e:(s.heap.update p f).get? p=some {cls:=.type "list",data:=.seq its'.toArray n'}:=by
  rw [qA9 f ho (by rw [hf]<;>rfl),hf]
 refine I.write (x:=p) (e:=p) (by rw [h];trivial) (.inl rfl) (fun b u hb q=>(qBg _ _ (qAh hb)).trans q) ⟨_,e⟩ ?_;exact ⟨hz,its',n',r,e⟩
def rSetL:V->V->V->Hp->(Hp->Prop)->Prop:=fun o i v H Q=>∃p xs k j,o= .ref p/\i= .int k/\H p=some (.lst xs)/\ixN xs.length k=some j/\Q (upd H p (.lst (xs.set j v)))
theorem set_list:PSet X rSetL:=by
 intro pins s σ H o i v ov iv u Q I ro ri rv h;obtain ⟨p,xs,k,j,rfl,rfl,hp,hj,q⟩:=h
 cases ro
 obtain ⟨t,rfl⟩:=ri;obtain ⟨its,n,r,ho,hz⟩:=I.lst hp;obtain ⟨h1,h2,h3,h4⟩:=ixN_seq hj;have hl:=r.length;have hn:=zHm
 have I':Inv X pins σ (upd H p (.lst (xs.set j v))) {s with heap:=s.heap.update p (Obj.mapSeq (·.setIfInBounds j u))} :=
  I.lstUpd hp ho (mapSeq_set its n j u) (r.set rv j) (by rw [List.length_set];exact hz) s.toks
 by_cases h0:0<=k
 ·have hk:k.toNat=j:=by
   rw [seqIndex_of h0 h4] at h1;exact qAb h1
  exact PySem.W.ki_setAt ho h0 (by lia) (by rw [qAQ,<-hl];exact h4) (by rw [hk];exact ⟨_,I',q⟩)
 ·have hk:(k+(its.toArray.size:Int)).toNat=j:=by
   rw [seqIndex_neg (by lia) h3] at h1;rw [qAQ,<-hl];exact qAb h1
  exact PySem.W.ki_setBack ho (by lia) (by rw [qAQ,<-hl];exact h3) (by lia) (by rw [hk];exact ⟨_,I',q⟩)
theorem slice_bounds (lo hi:Option Int) (n:Nat):(sliceBounds lo hi none n).1=((HT.sIx n 0 lo:Nat):Int)/\(sliceBounds lo hi none n).2.1=((HT.sIx n n hi:Nat):Int)/\(sliceBounds lo hi none n).2.2=1:=by
 refine ⟨?_,?_,rfl⟩
 ·cases lo with
  | none=>simp [sliceBounds,HT.sIx]
  | some i =>
   simp only [sliceBounds,HT.sIx,Option.getD_none,show (1:Int)>0 by decide,qBQ]
   by_cases h:i<0
   ·simp only [h,qBQ]<;>lia
   ·simp only [h,qBW]<;>lia
 ·cases hi with
  | none=>simp [sliceBounds,HT.sIx]
  | some i =>
   simp only [sliceBounds,HT.sIx,Option.getD_none,show (1:Int)>0 by decide,qBQ]
   by_cases h:i<0
   ·simp only [h,qBQ]<;>lia
   ·simp only [h,qBW]<;>lia
theorem zH0 (its:List Value) (lo hi:Option Int):slicePick its.toArray lo hi none=((its.drop (HT.sIx its.length 0 lo)).take (HT.sIx its.length its.length hi - HT.sIx its.length 0 lo)).toArray:=by
 obtain ⟨h1,h2,h3⟩:=slice_bounds lo hi its.toArray.size;unfold slicePick;rw [h1,h2,h3];simp only [sliceRange_one,pick_run,qAQ]<;>rfl
def rSlL (K:PySem.W.Frag):V->Option Int->Option Int->Hp->VK->Prop:=fun x lo hi H Q=>∃a xs,x= .ref a/\SqL K H a xs/\∀p,H p=none->Q (.ref p) (upd H p (.lst (cutV xs lo hi)))
theorem sl_list:SlR X (rSlL X.K):=by
 intro pins s σ H x v vl vu lo hi sl Q I rx hs pl pu h;obtain ⟨a,xs,rfl,hx,q⟩:=h
 cases rx
 obtain ⟨its,r,ht,hz⟩:=I.list hx;have hlen:=r.length;refine ⟨"list",_,slot_list_getitem.lookup,ht.isList.typeIs,?_⟩;refine wpAny_getItem_list_slice ht.isList hs pl pu .none (by simp) ?_ (by rw [qAQ]<;>lia);rw [zH0,<-hlen];refine ⟨.ref s.heap.objs.size,_,I.laid (t':=s.toks) (o:=.lst (cutV xs lo hi)) (fun b ob q=>qAJ _ q) (qAG _) ?_,rfl,q _ (I.hok.fresh (qAG _))⟩;exact ⟨qAW (zGx xs lo hi) hz,_,0,(r.drop (HT.sIx xs.length 0 lo)).take (HT.sIx xs.length xs.length hi - HT.sIx xs.length 0 lo),qAe _ rfl⟩
def zFo:V->Bool
 | .non=>true
 | .bl _=>true
 | .int _=>true
 | .str _=>true
 | _=>false
def eqV:V->V->Bool
 | .non,.non=>true
 | .bl a,.bl b=>a==b
 | .bl a,.int b=>(if a then 1 else 0)==b
 | .int a,.bl b=>a==(if b then 1 else 0)
 | .int a,.int b=>a==b
 | .str a,.str b=>a==b
 | _,_=>false
theorem eqAt_V {A:Around} {s:Shared} {y:V} {u v:Value} (ry:RelV y u) (rx:RelV x v) (fy:zFo y=true) (fx:zFo x=true):SeqAt.EqAt A s u v (eqV y x):=by
 cases y with
 | non =>
  cases ry
  cases x with
  | non=>cases rx;exact qCf _
  | bl b=>cases rx;exact SeqAt.EqAt.none_bool b
  | int b=>obtain ⟨t,rfl⟩:=rx;exact SeqAt.EqAt.none_int b t
  | str b=>obtain ⟨t,rfl⟩:=rx;exact SeqAt.EqAt.none_str b t
  | _=>exact absurd (show false=true from fx) qAd
 | bl a =>
  cases ry
  cases x with
  | non=>cases rx;exact SeqAt.EqAt.bool_none a
  | bl b=>cases rx;exact SeqAt.EqAt.bool_bool a b
  | int b=>obtain ⟨t,rfl⟩:=rx;exact SeqAt.EqAt.bool_int a b t
  | str b=>obtain ⟨t,rfl⟩:=rx;exact SeqAt.EqAt.bool_str a b t
  | _=>exact absurd (show false=true from fx) qAd
 | int a =>
  obtain ⟨t',rfl⟩:=ry
  cases x with
  | non=>cases rx;exact SeqAt.EqAt.int_none a t'
  | bl b=>cases rx;exact SeqAt.EqAt.int_bool a t' b
  | int b=>obtain ⟨t,rfl⟩:=rx;exact SeqAt.EqAt.int_int a t' b t
  | str b=>obtain ⟨t,rfl⟩:=rx;exact SeqAt.EqAt.int_str a t' b t
  | _=>exact absurd (show false=true from fx) qAd
 | str a =>
  obtain ⟨t',rfl⟩:=ry
  cases x with
  | non=>cases rx;exact SeqAt.EqAt.str_none a t'
  | bl b=>cases rx;exact SeqAt.EqAt.str_bool a t' b
  | int b=>obtain ⟨t,rfl⟩:=rx;exact SeqAt.EqAt.str_int a t' b t
  | str b=>obtain ⟨t,rfl⟩:=rx;exact SeqAt.EqAt.str_str a t' b t
  | _=>exact absurd (show false=true from fx) qAd
 | _=>exact absurd (show false=true from fy) qAd
def eqU (x:V) (u:Value):Bool:=match u with
 | .none=>eqV .non x
 | .bool b=>eqV (.bl b) x
 | .int i _=>eqV (.int i) x
 | .str z _=>eqV (.str z) x
 | _=>false
theorem eqU_of {y:V} {u:Value} (r:RelV y u) (f:zFo y=true):eqU x u=eqV y x:=by
 cases y with
 | non=>cases r;rfl
 | bl b=>cases r;rfl
 | int i=>obtain ⟨t,rfl⟩:=r;rfl
 | str z=>obtain ⟨t,rfl⟩:=r;rfl
 | _=>exact absurd (show false=true from f) qAd
theorem zG0 :∀{xs:List V} {us:List Value},Vals xs us->xs.all zFo=true->us.any (eqU x)=xs.any fun y=>eqV y x
 | _,_,.nil,_=>rfl
 | y::xs,u::us,.cons r t,f=>by
  rw [List.all_cons,qBR] at f;rw [qB2,qB2,eqU_of r f.1,zG0 t f.2]
theorem zE3 {A:Around} {s:Shared} {v:Value} (rx:RelV x v) (fx:zFo x=true):∀{xs:List V} {us:List Value},Vals xs us->xs.all zFo=true->∀u∈us,SeqAt.EqAt A s u v (eqU x u)
 | _,_,.nil,_=>fun u hu=>by cases hu
 | y::xs,u::us,.cons r t,f=>fun u' hu=>by
  rw [List.all_cons,qBR] at f;rcases qAO.mp hu with rfl| hu
  ·rw [eqU_of r f.1];exact eqAt_V r rx f.1 fx
  ·exact zE3 rx fx t f.2 u' hu
def inV (x:V) (xs:List V):Bool:=xs.any fun y=>eqV y x
def rIn (K:PySem.W.Frag) (neg:Bool):R2:=fun x y H Q=>∃p xs,y= .ref p/\(SqL K H p xs\/SqT K H p xs)/\zFo x=true/\xs.all zFo=true/\Q (.bl (if neg then !inV x xs else inV x xs)) H
theorem zGi:OpR X (compareOp .In) (rIn X.K false):=by
 intro pins s σ H x y v u Q I rx ry h;obtain ⟨p,xs,rfl,hq,fx,fs,q⟩:=h
 cases ry
 rcases hq with hq| hq
 ·obtain ⟨its,r,pl,hz⟩:=I.list hq;refine SeqAt.in_listAt (eqU x) pl.isList (fun w hw=>zE3 rx fx r fs w (by simpa using hw)) ⟨.bl _,H,I,rfl,?_⟩;rw [show its.toArray.any (eqU x)=its.any (eqU x) by simp,zG0 r fs];exact q
 ·obtain ⟨its,r,pl,hz⟩:=I.tuple hq;refine SeqAt.in_tupleAt (eqU x) pl (fun w hw=>zE3 rx fx r fs w (by simpa using hw)) ⟨.bl _,H,I,rfl,?_⟩;rw [show its.toArray.any (eqU x)=its.any (eqU x) by simp,zG0 r fs];exact q
theorem zFu:OpR X (compareOp .NotIn) (rIn X.K true):=by
 intro pins s σ H x y v u Q I rx ry h;obtain ⟨p,xs,rfl,hq,fx,fs,q⟩:=h
 cases ry
 rcases hq with hq| hq
 ·obtain ⟨its,r,pl,hz⟩:=I.list hq;refine SeqAt.notIn_listAt (eqU x) pl.isList (fun w hw=>zE3 rx fx r fs w (by simpa using hw)) ⟨.bl _,H,I,rfl,?_⟩;rw [show its.toArray.any (eqU x)=its.any (eqU x) by simp,zG0 r fs];exact q
 ·obtain ⟨its,r,pl,hz⟩:=I.tuple hq;refine SeqAt.notIn_tupleAt (eqU x) pl (fun w hw=>zE3 rx fx r fs w (by simpa using hw)) ⟨.bl _,H,I,rfl,?_⟩;rw [show its.toArray.any (eqU x)=its.any (eqU x) by simp,zG0 r fs];exact q
theorem zA2:zCc X (.builtin "len") (fun xs H Q=>∃p ys,xs=[.ref p]/\(SqL X.K H p ys\/SqT X.K H p ys)/\Q (.int ys.length) H):=by
 intro pins s σ H xs us Q I r h;obtain ⟨p,ys,rfl,hq,q⟩:=h;obtain ⟨u,rfl,rx⟩:=zHt r
 cases rx
 have hn:=zHm;rcases hq with hq| hq
 ·obtain ⟨its,r',pl,hz⟩:=I.list hq;have hlen:=r'.length;exact Calls.call_len_list pl.isList (by simp only [qAQ]<;>lia) ⟨.int ys.length,H,I.tok _,⟨s.toks+1,by rw [qAQ,hlen]⟩,q⟩
 ·obtain ⟨its,r',pl,hz⟩:=I.tuple hq;have hlen:=r'.length;exact len_tuple pl (by simp only [qAQ]<;>lia) ⟨.int ys.length,H,I.tok _,⟨s.toks+1,by rw [qAQ,hlen]⟩,q⟩
theorem call_len_str:zCc X (.builtin "len") (fun xs H Q=>∃z,xs=[.str z]/\z.length<=sizeLine/\Q (.int z.length) H):=by
 intro pins s σ H xs us Q I r h;obtain ⟨z,rfl,hz,q⟩:=h;obtain ⟨u,rfl,t,rfl⟩:=zHt r;have hn:=zHm;exact len_str (by lia) ⟨.int z.length,H,I.tok _,⟨_,rfl⟩,q⟩
theorem zBv:zCc X (.type "list") (fun xs H Q=>∃p ys,xs=[.ref p]/\(SqL X.K H p ys\/SqT X.K H p ys)/\∀l,H l=none->Q (.ref l) (upd H l (.lst ys))):=by
 intro pins s σ H xs us Q I r h;obtain ⟨p,ys,rfl,hq,q⟩:=h;obtain ⟨u,rfl,rx⟩:=zHt r
 cases rx
 have fin:∀(its:List Value),Vals ys its->ys.length<=sizeLine->∀(h':Heap) (c':Nat),(∀b o',s.heap.get? b=some o'->h'.get? b=some o') ->
   h'.get? s.heap.objs.size=some {cls:=.type "list",dict:=none,data:=.seq its.toArray c',slots:=#[]}->EP X pins σ Q (.ref s.heap.objs.size) {s with heap:=h'}:=fun its r' hz h' c' kp e =>
  ⟨.ref s.heap.objs.size,_,I.laid (t':=s.toks) kp (qAG _) (show zA0 X.prog X.w _ h' _ (.lst ys) from ⟨hz,its,c',r',e⟩),rfl,q _ (I.hok.fresh (qAG _))⟩
 rcases hq with hq| hq
 ·obtain ⟨its,r',pl,hz⟩:=I.list hq;have hlen:=r'.length;obtain ⟨o,ho,hc,n,hd⟩:=pl.isList;exact call_list_seq p (.inl rfl) ho hc hd (fun h' c' kp e=>fin its r' hz h' c' kp e) (by simp only [qAQ]<;>lia)
 ·obtain ⟨its,r',pl,hz⟩:=I.tuple hq;have hlen:=r'.length;obtain ⟨o,ho,hc,n,hd⟩:=pl;exact call_list_seq p (.inr rfl) ho hc hd (fun h' c' kp e=>fin its r' hz h' c' kp e) (by simp only [qAQ]<;>lia)
theorem zBw:zCc X (.type "tuple") (fun xs H Q=>∃p ys,xs=[.ref p]/\((SqL X.K H p ys/\∀l,H l=none->Q (.ref l) (upd H l (.tup ys)))\/(SqT X.K H p ys/\Q (.ref p) H))):=by
 intro pins s σ H xs us Q I r h;obtain ⟨p,ys,rfl,h⟩:=h;obtain ⟨u,rfl,rx⟩:=zHt r
 cases rx
 rcases h with ⟨hq,q⟩| ⟨hq,q⟩
 ·obtain ⟨its,r',pl,hz⟩:=I.list hq;have hlen:=r'.length;refine call_tuple_list pl.isList (fun h' kp=>?_) (by simp only [qAQ]<;>lia);have I1:Inv X pins σ H {s with heap:=h'}:=I.kept (t':=s.toks) kp
  have I2:Inv X pins σ (upd H h'.objs.size (.tup ys)) {s with heap:=h'.push {cls:=.type "tuple",data:=.seq its.toArray}} :=
   I1.laid (t':=s.toks) (fun b o e=>qAJ _ e) (qAG _) (show zA0 X.prog X.w _ _ _ (.tup ys) from ⟨hz,its,r',IsTup.new _ _⟩)
  exact ⟨.ref h'.objs.size,_,I2,rfl,q _ (I1.hok.fresh (qAG _))⟩
 ·obtain ⟨its,r',pl,hz⟩:=I.tuple hq;exact call_tuple_same pl ⟨.ref p,H,I,rfl,q⟩
def tyV (K:PySem.W.Frag) (T:String) (x:V) (H:Hp):Prop:=match x with
 | .str _=>T= "str"
 | .int _=>T= "int"
 | .ref p=>(T= "list" /\∃xs,SqL K H p xs)\/(T= "tuple" /\∃o,K.lookup p=some o/\o.cls= .type "tuple" /\o.dict=none) \/
   (T= "dict" /\((∃kvs,H p=some (.dK kvs))\/∃kvs,H p=some (.dT kvs)))\/(T= "set" /\∃S n,H p=some (.set S n))
 | _=>False
theorem tyV_is {pins:List (Addr×Obj)} {σ:St} {H:Hp} {s:Shared} {T:String} {v:Value} (I:Inv X pins σ H s) (r:RelV x v) (ty:tyV X.K T x H) :
  s.TypeIs v T/\∀a,v= .ref a->∃ob,s.heap.get? a=some ob/\ob.dict=none:=by
 cases x with
 | str z =>
  obtain ⟨t,rfl⟩:=r
  cases (show T= "str" from ty)
  exact ⟨typeIs_str s z t,fun _ e=>nomatch e⟩
 | int i =>
  obtain ⟨t,rfl⟩:=r
  cases (show T= "int" from ty)
  exact ⟨typeIs_int s i t,fun _ e=>nomatch e⟩
 | ref p =>
  cases r
  rcases ty with ⟨rfl,xs,hq⟩| ⟨rfl,o,hk,hc,hd⟩| ⟨rfl,hk⟩| ⟨rfl,S,n,hk⟩
  ·obtain ⟨its,_,pl,_⟩:=I.list hq;refine ⟨pl.isList.typeIs,fun a e=>?_⟩
   cases e
   obtain ⟨o,n,e,c,hd,_⟩:=pl;exact ⟨o,e,hd⟩
  ·refine ⟨⟨o,I.kIn p o hk,hc⟩,fun a e=>?_⟩
   cases e
   exact ⟨o,I.kIn _ o hk,hd⟩
  ·have z:∃o,s.heap.get? p=some o/\o.ExactDict:=by
    rcases hk with ⟨kvs,hk⟩| ⟨kvs,hk⟩
    ·obtain ⟨_,_,_,_,o,_,_,e,ex,_⟩:=I.hok p _ hk;exact ⟨o,e,ex⟩
    ·obtain ⟨_,_,_,_,o,_,_,e,ex,_⟩:=I.hok p _ hk;exact ⟨o,e,ex⟩
   obtain ⟨o,e,ex⟩:=z;refine ⟨⟨o,e,ex.1⟩,fun a e2=>?_⟩
   cases e2
   exact ⟨o,e,ex.2.1⟩
  ·obtain ⟨o,_,_,_,e,ex,_⟩:=I.hok p _ hk;refine ⟨⟨o,e,ex.1⟩,fun a e2=>?_⟩
   cases e2
   exact ⟨o,e,ex.2.1⟩
 | _=>exact False.elim ty
def tBM0 (K:PySem.W.Frag) (T:String) (r:V->List V->Hp->VK->Prop) (to:TE):TE:=fun σ H Q=>to σ H fun x H1=>tyV K T x H1/\r x [] H1 Q
def tBM (K:PySem.W.Frag) (T:String) (r:V->List V->Hp->VK->Prop) (to:TE) (t:TA):TE:=fun σ H Q=>to σ H fun x H1=>tyV K T x H1/\t σ H1 fun xs H2=>r x xs H2 Q
variable {o e:Expr} {es:List Expr} {to:TE} {t:TA} {name:Str} {apos cpos:Pos} {T id:String} {r:V->List V->Hp->VK->Prop}
theorem pe_bm0 (pa:PlainAttrs T) (slot:Slot T name id) (hty:typeOf (.builtin id)=pure (.type "method_descriptor")) (hm:MtR X id r) (ho:PE X o to)
  (hbase:attributeBase o name X.env (eval o X.env)=eval o X.env:=by rfl) (hline:(apos.endLine==cpos.line)=true:=by rfl):PE X (.Call (.Attribute o name apos) [] [] cpos) (tBM0 X.K T r to):=by
 intro pins s σ H Q I h;refine wpAny_Call_method0_late hbase hline (thn (ho pins s σ H _ I h) fun v s1 ⟨x,H1,I1,r1,ty,q1⟩=>?_);obtain ⟨h1,h2⟩:=tyV_is I1 r1 ty;exact ⟨T,id,pa,slot,hty,h1,h2,qCg rfl (PySem.evalArgs_none (hm pins s1 σ H1 x [] v [] Q I1 r1 .nil q1))⟩
theorem zG4 (pa:PlainAttrs T) (slot:Slot T name id) (hty:typeOf (.builtin id)=pure (.type "method_descriptor")) (hm:MtR X id r) (ho:PE X o to) (ha:PA X (e::es) t)
  (hbase:attributeBase o name X.env (eval o X.env)=eval o X.env:=by rfl)
  (hfew:((backTo cpos (starEach (e::es) X.env)).all (fun x=>!x.1)&&(backToKw cpos (keywordEach [] X.env)).all (fun x=>x.1.isSome)
   &&decide ((e::es).length+([]:List Keyword).length+(if ([]:List Keyword).isEmpty then 0 else 1)<30))=true:=by rfl)
  (hline:(apos.endLine==cpos.line)=true:=by rfl) (hs:starEach (e::es) X.env=(false,eval e X.env)::starEach es X.env:=by rfl) (hplain:(backTo cpos (starEach es X.env)).any (·.1)=false:=by rfl) :
  PE X (.Call (.Attribute o name apos) (e::es) [] cpos) (tBM X.K T r to t):=by
 intro pins s σ H Q I h;refine wpAny_Call_method_late hbase hfew hline rfl (thn (ho pins s σ H _ I h) fun v s1 ⟨x,H1,I1,r1,ty,q1⟩=>?_);obtain ⟨h1,h2⟩:=tyV_is I1 r1 ty;refine ⟨T,id,pa,slot,hty,h1,h2,?_⟩;have hA:=ha cpos pins s1 σ H1 _ I1 q1;rw [hs] at hA ⊢;refine qCg (by show (false||(backTo cpos (starEach es X.env)).any (·.1))=false;rw [hplain]<;>rfl) (qC2 ?_);exact thn hA fun us s2 ⟨vs,H2,I2,r2,q2⟩=>hm pins s2 σ H2 x vs v us Q I2 r1 r2 q2
end
def MtM (X:Cx) (id:String) (r:V->List V->Hp->VK->Prop):Prop :=
 ∀(pins:List (Addr×Obj)) (s:Shared) (σ:St) (H:Hp) (x:V) (xs:List V) (v:Value) (us:List Value) (Q:VK),Inv X pins σ H s->RelV x v->Vals xs us->r x xs H Q ->
  wpAny (model X.prog X.w) X.A (call (.builtin id) (v::us)) (EP X pins σ Q) X.xe s
theorem Vals.one:∀{x:V} {us:List Value},Vals [x] us->∃u,us=[u]/\RelV x u
 | _,_,.cons r .nil=>⟨_,rfl,r⟩
theorem Vals.two:∀{x y:V} {us:List Value},Vals [x,y] us->∃u v,us=[u,v]/\RelV x u/\RelV y v
 | _,_,_,.cons r (.cons q .nil)=>⟨_,_,rfl,r,q⟩
theorem Vals.zero:∀{us:List Value},Vals [] us->us=[]
 | _,.nil=>rfl
theorem Vals.dropLast {xs:List V} {us:List Value} (h:Vals xs us):Vals xs.dropLast us.dropLast:=by
 induction h with
 | nil=>exact .nil
 | cons r t ih =>
  cases t with
  | nil=>exact .nil
  | cons q t'=>exact .cons r ih
theorem Vals.rep {xs:List V} {us:List Value} (h:Vals xs us):∀k:Nat,Vals (List.replicate k xs).flatten (List.replicate k us).flatten
 | 0=>.nil
 | k+1=>by
  rw [qCK,qCK,qCh,qCh];exact Vals.append h (Vals.rep h k)
theorem erase_last (l:List α):l.eraseIdx (l.length - 1)=l.dropLast:=by
 induction l with
 | nil=>rfl
 | cons a r ih =>
  cases r with
  | nil=>rfl
  | cons b r =>
   have e:(a::b::r).length - 1=((b::r).length - 1)+1:=by
    have h1:(a::b::r).length=r.length+2:=rfl;have h2:(b::r).length=r.length+1:=rfl;lia
   rw [e,List.eraseIdx_cons_succ,ih]
   all_goals rfl
theorem foldl_rep (its:List Value):∀(k:Nat) (acc:List Value),
  List.foldl (fun x1 x2=>x1++x2) acc.toArray (List.replicate k its.toArray)=(acc++(List.replicate k its).flatten).toArray
 | 0,acc=>by simp
 | k+1,acc=>by
  have e:acc.toArray++its.toArray=(acc++its).toArray:=by simp
  have e2:(acc++its)++(List.replicate k its).flatten=acc++(List.replicate (k+1) its).flatten:=by
   rw [qCK,qCh,qCi]
  rw [<-e2,<-foldl_rep its k (acc++its),<-e,qCK,qBX]
section
variable {X:Cx} {pins:List (Addr×Obj)} {σ:St} {H:Hp} {s:Shared} {l b:Addr} {xs ys zs:List V}
theorem Inv.lset {its its':List Value} {f:Array Value->Array Value} {t':Nat} (I:Inv X pins σ H s) (hH:H l=some (.lst xs))
  (e:s.heap.get? l=some {cls:=.type "list",data:=.seq its.toArray n}) (hf:f its.toArray=its'.toArray) (hv:Vals ys its') (hz:ys.length<=sizeLine) :
  Inv X pins σ (upd H l (.lst ys)) {s with heap:=s.heap.update l (Obj.mapSeq f),toks:=t'}:=by
 have q:=PySem.IsL.update e f;rw [hf] at q;refine I.write (x:=l) (e:=l) (by rw [hH];exact trivial) (.inl rfl) (fun b' u hb hu=>(qBg s.heap (Obj.mapSeq f) (qAh hb)).trans hu) ⟨_,q⟩ ?_;exact ⟨hz,its',_,hv,q⟩
theorem Inv.lnew {its:List Value} {t':Nat} (I:Inv X pins σ H s) (hv:Vals ys its) (hz:ys.length<=sizeLine) :
  Inv X pins σ (upd H s.heap.objs.size (.lst ys)) {s with heap:=s.heap.push {cls:=.type "list",data:=.seq its.toArray},toks:=t'} :=
 I.laid (fun _ _ q=>qAJ _ q) (qAG _) ⟨hz,its,0,hv,qAe _ rfl⟩
theorem Inv.fresh (I:Inv X pins σ H s):H s.heap.objs.size=none:=I.hok.fresh (qAG _)
theorem Inv.lstM (I:Inv X pins σ H s) (hH:H l=some (.lst xs)):xs.length<=sizeLine/\∃(its:List Value) (n:Nat),Vals xs its/\xs.length=its.length/\s.heap.get? l=some {cls:=.type "list",data:=.seq its.toArray n}:=by
 obtain ⟨z,its,n,r,e⟩:=I.hok l _ hH;exact ⟨z,its,n,r,r.length,e⟩
theorem notLongL (h:n<=sizeLine):Builtin.List.listTooLong n=false:=by
 unfold Builtin.List.listTooLong;exact qAT (by lia)
end
section
variable {X:Cx}
def rAppend:V->List V->Hp->VK->Prop:=fun x vs H Q=>∃l xs y,x= .ref l/\vs=[y]/\H l=some (.lst xs)/\xs.length<sizeLine/\Q .non (upd H l (.lst (xs++[y])))
theorem zDu:MtM X "list.append" rAppend:=by
 intro pins s σ H x vs v us Q I rx rv h;obtain ⟨l,xs,y,rfl,rfl,hH,hz,q⟩:=h
 cases rx
 obtain ⟨u,rfl,ru⟩:=rv.one;obtain ⟨z,its,n,r,hl,e⟩:=I.lstM hH;refine qB3 F.slot_list_append ⟨_,e,rfl⟩ F.entry_list_append (F.args_list_append_2 _ _) (PySem.list_append l its.toArray n u (by rw [qAQ];lia)) ⟨e,?_⟩;refine ⟨.non,_,I.lset (its':=its++[u]) hH e (by simp) (r.append (.cons ru .nil)) ?_,rfl,q⟩;rw [qAa,qBq];lia
def rExtend:V->List V->Hp->VK->Prop:=fun x vs H Q=>∃l b xs zs,x= .ref l/\vs=[.ref b]/\H l=some (.lst xs)/\H b=some (.lst zs)/\xs.length+zs.length<=sizeLine/\Q .non (upd H l (.lst (xs++zs)))
theorem zGl:MtM X "list.extend" rExtend:=by
 intro pins s σ H x vs v us Q I rx rv h;obtain ⟨l,b,xs,zs,rfl,rfl,hH,hB,hz,q⟩:=h
 cases rx
 obtain ⟨u,rfl,ru⟩:=rv.one
 cases ru
 obtain ⟨z,its,n,r,hl,e⟩:=I.lstM hH;obtain ⟨z2,its2,n2,r2,hl2,e2⟩:=I.lstM hB;have hsz:its.toArray.size+its2.toArray.size<=sizeLine:=by rw [qAQ,qAQ];lia
 have hlong:¬(!its.toArray.isEmpty&&Builtin.List.listTooLong (its.toArray.size+its2.toArray.size))=true:=by
  rw [notLongL hsz,Bool.and_false];exact qAd
 refine qB3 F.slot_list_extend ⟨_,e,rfl⟩ F.entry_list_extend (F.args_list_extend_2 _ _)
  (AutoSeq1.list_extend_list_list_0 l its.toArray n b its2.toArray n2 hlong (by rw [qAQ];lia) (by lia)) ⟨e,e2,?_⟩
 refine ⟨.non,_,I.lset (its':=its++its2) hH e (by simp) (r.append r2) ?_,rfl,q⟩;rw [qAa];lia
def rPop:V->List V->Hp->VK->Prop:=fun x vs H Q=>∃l xs y,x= .ref l/\vs=[]/\H l=some (.lst xs)/\xs[xs.length - 1]?=some y/\Q y (upd H l (.lst xs.dropLast))
theorem mt_pop:MtM X "list.pop" rPop:=by
 intro pins s σ H x vs v us Q I rx rv h;obtain ⟨l,xs,y,rfl,rfl,hH,hy,q⟩:=h
 cases rx
 have hus:=rv.zero;subst hus;obtain ⟨z,its,n,r,hl,e⟩:=I.lstM hH;obtain ⟨u,hu,ru⟩:=r.get hy
 have hy':its.toArray[its.toArray.size - 1]?=some u:=by
  show its.toArray[its.length - 1]?=some u;rw [<-qAm,<-hl];exact hu
 refine qB3 F.slot_list_pop ⟨_,e,rfl⟩ F.entry_list_pop (F.args_list_pop_1 _) (MeetsSeq.list_pop_last l its.toArray n u hy' (by rw [qAQ];lia)) ⟨e,?_⟩;refine ⟨y,_,I.lset (its':=its.dropLast) hH e ?_ r.dropLast ?_,ru,q⟩
 ·show its.toArray.eraseIdxIfInBounds (its.toArray.size - 1)=its.dropLast.toArray;rw [qAQ,List.eraseIdxIfInBounds_toArray,erase_last]
 ·rw [List.length_dropLast];lia
def rCat:R2:=fun x y H Q=>∃l b xs zs,x= .ref l/\y= .ref b/\H l=some (.lst xs)/\H b=some (.lst zs)/\xs.length+zs.length<=sizeLine/\∀p,H p=none->Q (.ref p) (upd H p (.lst (xs++zs)))
theorem op_cat:OpR X (binaryOp .Add) rCat:=by
 intro pins s σ H x y v u Q I rx ry h;obtain ⟨l,b,xs,zs,rfl,rfl,hH,hB,hz,q⟩:=h
 cases rx
 cases ry
 obtain ⟨z,its,n,r,hl,e⟩:=I.lstM hH;obtain ⟨z2,its2,n2,r2,hl2,e2⟩:=I.lstM hB;refine PySem.P.add_list e e2 ?_ (by rw [qAQ,qAQ];lia);have ea:its.toArray++its2.toArray=(its++its2).toArray:=by simp
 rw [ea];exact ⟨.ref _,_,I.lnew (t':=s.toks) (r.append r2) (by rw [qAa];lia),rfl,q _ I.fresh⟩
def rRep:R2:=fun x y H Q=>∃l k xs,x= .ref l/\y= .int k/\H l=some (.lst xs)/\-(2^63)<=k/\k<2^63/\xs.length*k.toNat<=sizeLine /\
 ∀p,H p=none->Q (.ref p) (upd H p (.lst (List.replicate k.toNat xs).flatten))
theorem len_rep (xs:List α) (k:Nat):(List.replicate k xs).flatten.length=k*xs.length:=by
 induction k with
 | zero=>simp
 | succ k ih=>rw [qCK,qCh,qAa,ih,Nat.succ_mul,Nat.add_comm]
theorem op_rep:OpR X (binaryOp .Mult) rRep:=by
 intro pins s σ H x y v u Q I rx ry h;obtain ⟨l,k,xs,rfl,rfl,hH,h1,h2,hz,q⟩:=h
 cases rx
 obtain ⟨t,rfl⟩:=ry;obtain ⟨z,its,n,r,hl,e⟩:=I.lstM hH;have hlen:its.toArray.size*k.toNat<=sizeLine:=by rw [qAQ,<-hl];exact hz
 have hcap:¬its.toArray.size*k.toNat>(2^63 - 1) / 8:=by
  have:(sizeLine:Nat)<=(2^63 - 1) / 8:=by decide
  lia
 have hfit:¬(!Builtin.List.listFitsIndex k)=true:=by
  rw [fitsIndex_both h1 h2];exact qAd
 have hlong:¬Builtin.List.listTooLong (its.toArray.size*k.toNat)=true:=by
  rw [notLongL hlen];exact qAd
 have hnew:List.foldl (fun x1 x2=>x1++x2) #[] (List.replicate (if its.toArray.isEmpty=true then 0 else k.toNat) its.toArray)=(List.replicate k.toNat its).flatten.toArray:=by
  have f0:∀m:Nat,List.foldl (fun x1 x2=>x1++x2) #[] (List.replicate m its.toArray)=(List.replicate m its).flatten.toArray:=fun m=>by
   have:=foldl_rep its m [];rw [List.nil_append] at this;exact this
  rw [f0]
  cases its with
  | nil=>simp
  | cons a r'=>rw [qAB (by simp)]
 refine wpAny_binaryOp_repeat_ref (T:= "list") (U:= "int") (by decide) ⟨_,e,rfl⟩ (fun s'=>typeIs_int s' k t) noFill_list_mul F.fills_int_mul F.slot_int_rmul repeat_list F.slot_int_index.lookup
  (qB3 F.slot_int_rmul (typeIs_int s k t) F.entry_int_rmul (F.args_int_rmul_2 _ _) (int___rmul___int_list k t l its.toArray n)
   ⟨e,rfl,⟨_,e,rfl⟩,qB3 F.slot_list_mul ⟨_,e,rfl⟩ F.entry_list_mul (F.args_list_mul_2 _ _) (AutoListH.list___mul___list_int_3 l its.toArray n k t hfit hcap hlong) ⟨e,?_⟩⟩)
 rw [hnew];exact ⟨.ref _,_,I.lnew (t':=s.toks) (r.rep k.toNat) (by rw [len_rep,Nat.mul_comm];exact hz),rfl,q _ I.fresh⟩
end
section
variable {prog:Program} {w:World} {A:Around} {E:Value->Shared->Prop} {s:Shared}
set_option maxRecDepth 100000 in
end
end L2
namespace Att
open PySem PySem.W PySem.Calls PyProof.Rows
theorem zGs {P:Params} {h:Heap}:∀(ns:List Int) (vs:List Value),WellAll P h vs (ns.map WData.int)->IntsAre vs ns:=by
 intro ns
 induction ns with
 | nil =>
  intro vs w;rw [List.map_nil] at w
  cases w
  exact .nil
 | cons n ns ih =>
  intro vs w;rw [qAp] at w
  cases w with
  | cons a b =>
   cases a
   exact .cons _ _ (ih _ b)
theorem script_of {l:OpenLaw} {n:Nat} (hn:l.most=some n) {P:Params} {h:Heap} {args:List WData} {vals:List Value}
  (hpre:l.row.toRowW.claim.pre args=true) (hwl:WellAll P h vals args) :
  ∃a vs ns,vals=[Value.ref a]/\args=[WData.list (ns.map WData.int)]/\h.get? a=some {cls:=.type "list",data:=.seq vs.toArray}/\IntsAre vs ns/\ns.length<=n:=by
 have hsh:WShape.hasAll [] args [.list .int]=true:=(pre_splitW hpre).1;have hc:l.pre.holds [] {args:=args}=true:=(pre_splitW hpre).2;obtain ⟨d,r,rfl,h1,h2⟩:=hasAllW_cons hsh;obtain rfl:=hasAllW_nil h2;obtain ⟨xs,rfl,h3⟩:=hasW_list h1;obtain ⟨ns,rfl⟩:=items_int h3
 have hlen:ns.length<=n:=by
  unfold OpenLaw.pre at hc
  have h4:(WTm.not (.lt (.lit (.int (n:Int))) (.len (.arg 0)))).holds [] {args:=[.list (ns.map .int)]}=true:=by
   have h4:=(holds_andW hc).1;rw [hn] at h4;exact h4
  have h5:=condW_of h4 (w_not (w_lt w_lit (w_len_list (w_arg rfl))));rw [qAE] at h5;refine Nat.le_of_not_lt fun q=>?_;have q':(n:Int)<((ns.length:Nat):Int):=by lia
  first
   | (rw [qAR q'] at h5;exact absurd h5 (by decide))
   | (simp at h5;lia)
 cases hwl with
 | cons w1 w2 =>
  cases w2
  cases w1 with
  | list ho hall=>exact ⟨_,_,ns,rfl,rfl,ho,zGs ns _ hall,hlen⟩
theorem post_true (l:OpenLaw) (args:List WData):l.row.toRowW.claim.post args (.bool true) args=true :=
 postW_of (r:=l.row.toRowW) (X:=(true==true))
  (show WShape.has [] (.bool true) .bool=true by first| rfl| decide| simp [WShape.has,WShape.arms,WShape.armsAll])
  (show (WTm.eq .res (.lit (.bool true))).value [] {args:=args,res:=some (.bool true),after:=args}=some (.bool (true==true)) from w_eq_bool (w_res rfl) w_lit) rfl
theorem attach_call {l:OpenLaw} {n:Nat} {q:Program} {loose:List Str} {XP:(Str->Option Value)->Heap->Prop} {YP:World->Heap->Prop} {d:DefRec}
  (hn:l.most=some n) (hdf:d.params.defaults=[])
  (call:∀(w:World) (s₀ s₁:Shared) (mg mb:Str->Option Value) (fa:Addr) (o:Obj) (pm cd doc:Value) (a:Addr) (vs:List Value) (ns:List Int),
   Ground q loose [] XP w s₀ mg mb s₁.heap->YP w s₁.heap ->
   s₁.heap.get? fa=some o->o.data= .func (docDef d.name d.params d.body d.scope pm cd doc)->s₁.heap.CodeRec cd d.name->mg d.name=some (.ref fa) ->
   s₁.heap.get? a=some {cls:=.type "list",data:=.seq vs.toArray}->IntsAre vs ns->ns.length<=n->s₁.gens=#[] ->
   codeAny (model l.prog w) callerA (.call (.ref fa) ⟨[.ref a],[]⟩) (fun r s'=>r= .ok (.ret (.bool true))/\OldK s₁.heap s'.heap/\s'.os=s₁.os/\AllBare s'.gens) s₁) :
  WalkO q loose XP YP l.row.toRowW d [] (fun f vs=>PySem.call f vs):=by
 intro w s₀ s₁ mg mb G Y fa o pm cd doc dV kV ho hd hcd hD hmg hg args vals as hpre hlay hrd hwl hlo;obtain rfl:dV= .none:=Dflts.none hD hdf;obtain rfl:kV= .none:=Dflts.noKw hD;obtain ⟨a,vs,ns,rfl,rfl,hobj,hints,hlen⟩:=script_of hn hpre hwl;refine enter_call (qBV (call w s₀ s₁ mg mb fa o pm cd doc a vs ns G Y ho (fd_plain hd) hcd hmg hobj hints hlen hg) fun r s' hq=>?_);obtain ⟨rfl,h2,h3,h4⟩:=hq;exact ⟨.inl ⟨.bool true,.bool true,[],rfl,fun _=>rfl,.bool true,post_true l _,fun _=>⟨List.Pairwise.nil,fun _ hm=>(nomatch hm)⟩⟩,h2,h3,h4⟩
end Att
namespace L2
open PySem PySem.Spec PyProof.Rows
variable {P:Program}{w:World}{a:Addr}{x qual:Str}{X:Cx}{pos:Pos}{H H':Hp}{kvs:List (List Key×V)}{u:Value}{y:V}
theorem vals_ints:∀{vs:List Value} {ns:List Int},IntsAre vs ns->Vals (ns.map V.int) vs
 | _,_,.nil=>.nil
 | _,_,.cons n t h=>.cons ⟨t,rfl⟩ (vals_ints h)
def Only (H:Hp):Prop:=∀b,H b=none\/∃o xs,H b=some (.frz o (.lst xs))
theorem law_call {P:Program} {w:World} {K:PySem.W.Frag} {mg mb:Str->Option Value} {CX:CXT} {k:Nat} {fa a:Addr} {fd:FuncData} {sp:Sp} {s₁:Shared} {vs:List Value} {ns:List Int}
  (KX:K.In s₁.heap) (hns:s₁.heap.Ns mainGlobals mg) (hb:s₁.heap.Ns builtinsNs mb) (hbb:∀x:Str,x≠ "__name__" ->mb x=bootBuiltins x) (hlim:s₁.heap.NoLimit) (hg:s₁.gens=#[])
  (ha:s₁.heap.get? a=some {cls:=.type "list",data:=.seq vs.toArray}) (hi:IntsAre vs ns) (hl:ns.length<=sizeLine) (hr:Room k callerA)
  (F:∀base:Heap,K.In base->base.Ns mainGlobals mg->FnOk P w K mg base CX k fa fd [x] sp) (hbind:∀(s:Shared) (u:Value),BindsTo s fd ⟨[u],[]⟩ [(x,u)])
  (hsp:∀H:Hp,Only H->SqL K H a (ns.map V.int)->sp [.ref a] H (fun v _=>v= .bl true) fun _ _ _=>False)
  (hCX:∀H e s',CX [] H s₁ (fun _ _ _=>False) e s'->False) :
  codeAny (model P w) callerA (.call (.ref fa) ⟨[.ref a],[]⟩) (fun r s'=>r= .ok (.ret (.bool true))/\OldK s₁.heap s'.heap/\s'.os=s₁.os/\AllBare s'.gens) s₁:=by
 have rv:=vals_ints hi;have lenV:=hi.length
 have core:∀H:Hp,Only H->SqL K H a (ns.map V.int)->HOk P w H s₁.heap->(∀b,H b≠none->b=a)->(H a≠none->K.lookup a=none) ->
   codeAny (model P w) callerA (.call (.ref fa) ⟨[.ref a],[]⟩) (fun r s'=>r= .ok (.ret (.bool true))/\OldK s₁.heap s'.heap/\s'.os=s₁.os/\AllBare s'.gens) s₁:=by
  intro H hO hS hok hA hK;have base_of:∀{b:Addr} {o:Obj},s₁.heap.get? b=some o->H b=none->(hidT s₁.heap H).get? b=some o:=fun e n=>hidT_get e n
  have noA:∀{b:Addr} {o:Obj} {es:Array DictEntry} {ep:Nat},s₁.heap.get? b=some o->o.data= .dict es ep->H b=none:=fun {b o es ep} e d=>by
   cases q:H b with
   | none=>rfl
   | some u =>
    have e':b=a:=hA b (by rw [q];simp);subst e';rw [ha] at e;cases e;have d':Data.seq vs.toArray _=Data.dict es ep:=d
    cases d'
  have nsK:∀{b:Addr} {m:Str->Option Value},s₁.heap.Ns b m->(hidT s₁.heap H).Ns b m:=fun {b m} ⟨o,es,ep,e,d,r⟩=>⟨o,es,ep,base_of e (noA e d),d,r⟩
  have hKb:K.In (hidT s₁.heap H):=fun b o e=>base_of (KX b o e) (by
   cases q:H b with
   | none=>rfl
   | some u =>
    have e':b=a:=hA b (by rw [q];simp);subst e';rw [hK (by rw [q];simp)] at e;cases e)
  have hM:Mod K mg (hidT s₁.heap H):=⟨hKb,nsK hns,⟨mb,nsK hb,hbb⟩,let ⟨mc,h1,h2⟩:=hlim;⟨mc,nsK h1,h2⟩⟩;have e0:Env0 P w K mg (hidT s₁.heap H) callerA [] s₁ H:=⟨rfl,hM,fun b o e=>of_hidT e,qCF (hidT_size _ _),trivial,fun b hb=>absurd (show b∈([]:List Addr) from hb) (by simp),hok,.of_eq hg⟩;refine qBV ((F _ hKb (nsK hns)).run callerA [] s₁ H ⟨[.ref a],[]⟩ [.ref a] [.ref a] _ _ hr e0 (hbind s₁ (.ref a)) (.cons rfl .nil) (hsp H hO hS)) fun r s' h=>?_
  cases r with
  | error e=>exact (hCX H e s' h).elim
  | ok fl =>
   cases fl with
   | next=>exact False.elim h
   | brk=>exact False.elim h
   | cont=>exact False.elim h
   | ret u =>
    obtain ⟨v,H',os,bare,un,hok',r',q⟩:=h;have q':v= .bl true:=q;subst q';obtain rfl:u=Value.bool true:=r';refine ⟨rfl,OldK.of_keep fun b o e=>?_,os,bare⟩
    cases q:H b with
    | none=>exact un.keep b o e q (by intro z;exact absurd (show b∈([]:List Addr) from z) (by simp)) (by simp)
    | some u =>
     rcases hO b with z| ⟨ob,xs,z⟩
     ·rw [q] at z;cases z
     ·have z2:=un.frzs b ob _ z;obtain ⟨e1,_⟩:=hok b _ z;obtain ⟨e2,_⟩:=hok' b _ z2;rw [e] at e1;cases e1;exact e2
 cases hk:K.lookup a with
 | some o =>
  have e:=KX a o hk;rw [ha] at e
  cases e
  refine core (fun _=>none) (fun _=>.inl rfl) (.inr ⟨_,vs.toArray,_,hk,rfl,rfl,rfl,by rw [qAQ,lenV];exact hl,by simpa using rv⟩) (fun b u z=>by have z':(none:Option HO)=some u:=z;cases z') (fun b z=>absurd rfl z) fun z=>absurd rfl z
 | none =>
  refine core (fun b=>if b=a then some (.frz {cls:=.type "list",data:=.seq vs.toArray} (.lst (ns.map V.int))) else none) (fun b=>?_) (.inl (.inr ⟨{cls:=.type "list",data:=.seq vs.toArray},qAC rfl⟩)) (fun b u z=>?_) (fun b z=>?_) fun _=>hk
  ·by_cases hb:b=a
   ·exact .inr ⟨_,_,qAC hb⟩
   ·exact .inl (qAB hb)
  ·by_cases hb:b=a
   ·have z':=(qAC hb).symm.trans z
    cases z'
    subst hb;exact ⟨ha,by rw [qAE];exact hl,vs,_,rv,ha⟩
   ·have z':=(qAB hb).symm.trans z
    cases z'
  ·by_cases hb:b=a
   ·exact hb
   ·exact absurd (qAB hb) z
theorem walk_of {l:PySem.W.OpenLaw} {n k:Nat} {q:Program} {loose:List Str} {XP:(Str->Option Value)->Heap->Prop} {YP:World->Heap->Prop} {d:DefRec} {K:Params->PySem.W.Frag} {CX:World->CXT} {sp:World->Sp} {x:Str}
  (hn:l.most=some n) (hn2:n<=sizeLine) (hdf:d.params.defaults=[]) (hr:Room k callerA)
  (hY:∀(w:World) (h:Heap),YP w h->(K w.params).In h)
  (F:∀(w:World) (mg:Str->Option Value) (fa:Addr) (h:Heap),(K w.params).In h->h.Ns mainGlobals mg->mg d.name=some (.ref fa) ->
   ∃fd:FuncData,(∀(s:Shared) (u:Value),BindsTo s fd ⟨[u],[]⟩ [(x,u)]) /\
    ∀base:Heap,(K w.params).In base->base.Ns mainGlobals mg->FnOk l.prog w (K w.params) mg base (CX w) k fa fd [x] (sp w))
  (hsp:∀(w:World) (H:Hp) (a:Addr) (ns:List Int),ns.length<=n->Only H->SqL (K w.params) H a (ns.map V.int)->sp w [.ref a] H (fun v _=>v= .bl true) fun _ _ _=>False)
  (hCX:∀(w:World) (H:Hp) (s:Shared) (e:Value) (s':Shared),CX w [] H s (fun _ _ _=>False) e s'->False) :
  PySem.W.WalkO q loose XP YP l.row.toRowW d [] (fun f vs=>PySem.call f vs):=by
 refine Att.attach_call hn hdf fun w s₀ s₁ mg mb fa o pm cd doc a vs ns G Y ho hd hcd hmg hobj hints hlen hg=>?_;have KX:=hY w _ Y;obtain ⟨fd,hb,hF⟩:=F w mg fa _ KX G.T.g hmg;exact law_call KX G.T.g G.T.b G.T.builtins G.T.nolimit hg hobj hints (qAW hlen hn2) hr hF hb (fun H hO hS=>hsp w H a ns hlen hO hS) fun H e s'=>hCX w H s₁ e s'
def inClass (s:Stmt) (j:Nat):Stmt:=match s with
 | .ClassDef _ _ _ body _ _ _ _ _ _ _=>body.getD j (.Pass ⟨0,0,0,0⟩)
 | _=>.Pass ⟨0,0,0,0⟩
def zCv (s:Stmt):Arguments:=match s with
 | .FunctionDef _ a _ _ _ _ _ _ _ _=>a
 | _=>{posonlyargs:=[],args:=[],vararg:=none,kwonlyargs:=[],kw_defaults:=[],kwarg:=none,defaults:=[]}
def zBs (s:Stmt):List Stmt:=match s with
 | .FunctionDef _ _ b _ _ _ _ _ _ _=>b
 | _=>[]
def zAe (s:Stmt):Scope:=match s with
 | .FunctionDef _ _ _ _ _ _ sc _ _ _=>sc
 | _=>{kind:=.function,names:=[],isGenerator:=false,isCoroutine:=false}
abbrev CX0:CXT:=fun _ _ _ _ _ _=>False
abbrev E0:XK:=fun _ _ _=>False
theorem pass0 :zG1 CX0 X E0:=fun _ _ _ _ _ _ _ h=>h.elim
structure Fun (K:PySem.W.Frag) (x qual:Str) (st:Stmt) (f:Addr) (fd:FuncData):Prop where
 ex:∃(oc:Value) (od:Option Addr) (kV doc pm:Value) (an:Option Addr) (cdv ct:Value) (osl:Array (Option Value)),
  fd=PySem.W.fnOf x qual (zCv st) (zBs st) (zAe st) .none kV doc pm an cdv ct/\K.lookup f=some ⟨oc,od,.func fd,osl⟩/\PySem.W.codeIn K cdv qual=true
 kp:PySem.W.keepIn K (.ref f)=true
section
variable {P:Program} {w:World} {K:PySem.W.Frag} {mg:Str->Option Value} {base:Heap}
theorem Fun.ok {st:Stmt} {f:Addr} {fd:FuncData} {N ps:List Str} {k:Nat} {sp:Sp} (F:Fun K x qual st f fd) (S:FnScope N ps (zAe st)) (len:∀vs H Q E,sp vs H Q E->vs.length=ps.length)
  (hbody:∀(cdv:Value) (A:Around) (outer:List Env) (s:Shared) (H:Hp) (vs:List V) (Q:VK) (E:XK),Room k (A.deeper (envOfC qual (zAe st) s.heap.objs.size f cdv))->sp vs H Q E ->
   ∃t,PSs (cxOf CX0 P w K mg base N qual (zAe st) f cdv A outer s H E).nox (zBs st) t/\t {nx:=fun _ H'=>Q .non H',rt:=Q} (start N vs) H):FnOk P w K mg base CX0 (k+1) f fd ps sp:=by
 obtain ⟨oc,od,kV,doc,pm,an,cdv,ct,osl,rfl,lk,hcd⟩:=F.ex;refine fn_of lk hcd S len fun A outer s H vs Q E hr hsp=>?_;obtain ⟨t,h,q⟩:=hbody cdv A outer s H vs Q E hr hsp;exact ⟨t,h.nox,q⟩
theorem Fun.binds {st:Stmt} {f:Addr} {fd:FuncData} {ps:List Str} (F:Fun K x qual st f fd)
  (h:∀(kV doc pm:Value) (an:Option Addr) (cdv ct:Value) (us:List Value),us.length=ps.length->bindArgs (PySem.W.fnOf x qual (zCv st) (zBs st) (zAe st) .none kV doc pm an cdv ct) ⟨us,[]⟩=pure (ps.zip us)):zCd K fd ps []:=by
 obtain ⟨oc,od,kV,doc,pm,an,cdv,ct,osl,rfl,lk,hcd⟩:=F.ex;exact .all (h kV doc pm an cdv ct)
theorem fun_mk {st:Stmt} {f:Addr} {oc:Value} {od an:Option Addr} {osl:Array (Option Value)} {kV doc pm cdv ct:Value} (l:K.lookup f=some ⟨oc,od,.func (PySem.W.fnOf x qual (zCv st) (zBs st) (zAe st) .none kV doc pm an cdv ct),osl⟩)
  (c:PySem.W.codeIn K cdv qual=true) (k:PySem.W.keepIn K (.ref f)=true):Fun K x qual st f (PySem.W.fnOf x qual (zCv st) (zBs st) (zAe st) .none kV doc pm an cdv ct):=⟨⟨oc,od,kV,doc,pm,an,cdv,ct,osl,rfl,l,c⟩,k⟩
end
theorem zGu {A:Around} {k:Nat} (hr:Room k A):A.units+1<cLine:=Nat.lt_of_le_of_lt (Nat.add_le_add_left (by decide:1<=64) _) hr.units
section
variable {X:Cx}
theorem pv (i:Nat) {pos:Pos} (hN:X.N[i]?=some x:=by rfl) (hv:Vis X.env.scope x:=by first| exact Or.inl rfl| exact Or.inr (Or.inl rfl)| exact Or.inr (Or.inr rfl)) (hd:(x==("__debug__" : Str))=false:=by decide)
  (hcd:(x==("__classdict__" : Str))=false:=by decide):PE X (.Name x pos) (tVar i):=pe_var hN hv hd hcd
end
theorem iteF {A B:Prop} (h:B):if false=true then A else B:=by
 rw [qAB qAd];exact h
theorem iteT {A B:Prop} (h:A):if true=true then A else B:=by
 rw [qAC rfl];exact h
theorem ite2 {c A B:Prop} [Decidable c] (h1:c->A) (h2:¬c->B):if c then A else B:=by
 by_cases h:c
 ·rw [qAC h];exact h1 h
 ·rw [qAB h];exact h2 h
def Same (H H':Hp):Prop:=∀b o,H b=some o->H' b=some o
theorem Same.seq {K:PySem.W.Frag} {xs:List V} (e:Same H H') (h:SqL K H a xs):SqL K H' a xs:=by
 rcases h with (h| ⟨o,h⟩)| h
 ·exact .inl (.inl (e _ _ h))
 ·exact .inl (.inr ⟨o,e _ _ h⟩)
 ·exact .inr h
section
variable {κ:Type} [DecidableEq κ]
def valV (kvs:List (κ×V)) (k:κ):Option V:=(kvs.find? fun kv=>decide (kv.1=k)).map (·.2)
def putK (kvs:List (κ×V)) (k:κ) (v:V):List (κ×V) :=
 if (kvs.any fun kv=>decide (kv.1=k))=true then kvs.map (fun kv=>if kv.1=k then (kv.1,v) else kv) else kvs++[(k,v)]
theorem zA5 {p:κ×V} {r:List (κ×V)} {k:κ} (e:p.1=k):valV (p::r) k=some p.2:=by simp [valV,qB4,e]
theorem zA3 {p:κ×V} {r:List (κ×V)} {k:κ} (e:¬p.1=k):valV (p::r) k=valV r k:=by simp [valV,qB4,e]
theorem zDy (k:κ):∀kvs:List (κ×V),(kvs.any fun kv=>decide (kv.1=k))=(valV kvs k).isSome
 | []=>rfl
 | p::r=>by
  rw [qB2]
  by_cases e:p.1=k
  ·simp only [zA5 e,qAR e,Bool.true_or,Option.isSome_some]
  ·rw [zA3 e,qAT e,Bool.false_or];exact zDy k r
theorem valV_map (k j:κ) (y:V):∀kvs:List (κ×V),valV (kvs.map fun kv=>if kv.1=k then (kv.1,y) else kv) j=(valV kvs j).map fun x=>if j=k then y else x
 | []=>rfl
 | p::r=>by
  have ih:=valV_map k j y r;rw [qAp]
  by_cases h:p.1=k
  ·rw [qAC h]
   by_cases e:p.1=j
   ·rw [zA5 (p:=(p.1,y)) e,zA5 e,qCj,qAC (e.symm.trans h)]
   ·rw [zA3 (p:=(p.1,y)) e,zA3 e,ih]
  ·rw [qAB h]
   by_cases e:p.1=j
   ·rw [zA5 (p:=p) e,zA5 e,qCj,qAB (fun z=>h (e.trans z))]
   ·rw [zA3 (p:=p) e,zA3 e,ih]
theorem valV_snoc (k j:κ) (y:V):∀kvs:List (κ×V),valV kvs k=none->valV (kvs++[(k,y)]) j=if j=k then some y else valV kvs j
 | [],_=>by
  by_cases e:k=j
  ·rw [qAC e.symm];exact zA5 (p:=(k,y)) e
  ·rw [qAB (fun z=>e z.symm)];exact zA3 (p:=(k,y)) e
 | p::r,hn=>by
  rw [List.cons_append];have hk:¬p.1=k:=fun z=>by rw [zA5 z] at hn;cases hn
  rw [zA3 hk] at hn;have ih:=valV_snoc k j y r hn
  by_cases e:p.1=j
  ·rw [zA5 e,zA5 e,qAB (fun z=>hk (e.trans z))]
  ·rw [zA3 e,zA3 e,ih]
theorem valV_put (kvs:List (κ×V)) (k j:κ) (y:V):valV (putK kvs k y) j=if j=k then some y else valV kvs j:=by
 unfold putK
 by_cases a:(kvs.any fun kv=>decide (kv.1=k))=true
 ·rw [qAC a,valV_map];rw [zDy] at a
  by_cases e:j=k
  ·obtain ⟨x,hx⟩:=qC0.mp a;rw [qAC e,e,hx,qCj,qAC rfl]
  ·rw [qAB e]
   cases valV kvs j with
   | none=>rfl
   | some x=>rw [qCj,qAB e]
 ·rw [qAB a];refine valV_snoc k j y kvs ?_;rw [zDy] at a
  cases q:valV kvs k with
  | none=>rfl
  | some x=>rw [q] at a;exact (a rfl).elim
theorem zB5 (kvs:List (κ×V)) (k:κ) (v:V):(putK kvs k v).length<=kvs.length+1:=by
 unfold putK;split
 ·rw [qAE];lia
 ·rw [qAa,qAZ,qBY];lia
theorem zEw {kvs:List (κ×V)} {k:κ} (v:V) (h:valV kvs k=none):putK kvs k v=kvs++[(k,v)]:=by
 unfold putK;rw [zDy,h];exact qAB (by decide)
theorem RelO.isSome_eq {o:Option V} {u:Option Value} (r:RelO o u):o.isSome=u.isSome:=by
 cases o with
 | none=>cases u with
  | none=>rfl
  | some _=>exact (show False from r).elim
 | some _=>cases u with
  | none=>exact (show False from r).elim
  | some _=>rfl
theorem RelO.getD {o:Option V} {u:Option Value} {d:V} {d':Value} (r:RelO o u) (rd:RelV d d'):RelV (o.getD d) (u.getD d'):=by
 cases o with
 | none=>cases u with
  | none=>exact rd
  | some _=>exact (show False from r).elim
 | some _=>cases u with
  | none=>exact (show False from r).elim
  | some _=>exact r
theorem KV.val {kvs:List (κ×V)} {vs:List (κ×Value)} (r:KV kvs vs) (k:κ):RelO (valV kvs k) (valueAt vs k):=by
 unfold KV at r
 induction r with
 | nil=>exact True.intro
 | @cons p q ps qs h t ih =>
  obtain ⟨h1,h2⟩:=h
  by_cases e:p.1=k
  ·have e':q.1=k:=h1.symm.trans e;have b:valueAt (q::qs) k=some q.2:=by simp [valueAt,qB4,e']
   rw [zA5 e,b];exact h2
  ·have e':¬q.1=k:=fun z=>e (h1.trans z);have b:valueAt (q::qs) k=valueAt qs k:=by simp [valueAt,qB4,e']
   rw [zA3 e,b];exact ih
theorem KV.any {kvs:List (κ×V)} {vs:List (κ×Value)} (r:KV kvs vs) (k:κ):(kvs.any fun kv=>decide (kv.1=k))=vs.any fun kv=>decide (kv.1=k):=by
 unfold KV at r
 induction r with
 | nil=>rfl
 | cons h t ih=>rw [qB2,qB2,ih,h.1]
theorem KV.repl {kvs:List (κ×V)} {vs:List (κ×Value)} (r:KV kvs vs) (k:κ) (ry:RelV y u) :
  KV (kvs.map fun kv=>if kv.1=k then (kv.1,y) else kv) (vs.map fun kv=>if kv.1=k then (kv.1,u) else kv):=by
 unfold KV at r ⊢
 induction r with
 | nil=>exact .nil
 | @cons p q ps qs h t ih =>
  rw [qAp,qAp];refine .cons ?_ ih;obtain ⟨h1,h2⟩:=h
  by_cases e:p.1=k
  ·rw [qAC e,qAC (h1.symm.trans e)];exact ⟨h1,ry⟩
  ·rw [qAB e,qAB (fun z=>e (h1.trans z))];exact ⟨h1,h2⟩
theorem KV.put {kvs:List (κ×V)} {vs:List (κ×Value)} (r:KV kvs vs) (k:κ) (ry:RelV y u):KV (putK kvs k y) (stored vs k u):=by
 unfold putK stored;rw [r.any k]
 by_cases e:(vs.any fun kv=>decide (kv.1=k))=true
 ·rw [qAC e,qAC e];exact r.repl k ry
 ·rw [qAB e,qAB e];exact Paired.snoc r ⟨rfl,ry⟩
theorem KV.length {kvs:List (κ×V)} {vs:List (κ×Value)} (r:KV kvs vs):kvs.length=vs.length:=qBn r
end
theorem kV_is {k:Key} (r:RelV (kV k) u):(zA1 P w).is k u=true:=by
 cases k with
 | inl i=>obtain ⟨t,e⟩:=(show∃t,u=Value.int i t from r);subst e;exact mixKind_int P w i t
 | inr x=>obtain ⟨t,e⟩:=(show∃t,u=Value.str x t from r);subst e;exact mixKind_str P w x t
theorem items_are :∀{ks:List Key} {us:List Value},Vals (ks.map kV) us->ItemsAre (zA1 P w) ks us
 | [],_,r=>by rw [List.map_nil] at r;cases r;exact .nil
 | k::ks,_,r=>by
  rw [qAp] at r
  cases r with
  | cons h t=>exact .cons (kV_is h) (items_are t)
abbrev KT (H:Hp):List (List Key×V)->List (List Key×Addr×Value)->Prop:=Paired fun p q=>p.1=q.1/\H q.2.1=some (.tup (p.1.map kV))/\RelV p.2 q.2.2
theorem KT.val {xs:List (List Key×Addr×Value)} (r:KT H kvs xs) (k:List Key):RelO (valV kvs k) ((atKey xs k).map (·.2)):=by
 induction r with
 | nil=>exact True.intro
 | @cons p q ps qs h t ih =>
  obtain ⟨h1,_,h2⟩:=h
  by_cases e:p.1=k
  ·have e':q.1=k:=h1.symm.trans e;have b:atKey (q::qs) k=some q.2:=by simp [atKey,qB4,e']
   rw [zA5 e,b];exact h2
  ·have e':¬q.1=k:=fun z=>e (h1.trans z);have b:atKey (q::qs) k=atKey qs k:=by simp [atKey,qB4,e']
   rw [zA3 e,b];exact ih
theorem KT.repl {xs:List (List Key×Addr×Value)} (r:KT H kvs xs) (k:List Key) (ry:RelV y u) :
  KT H (kvs.map fun kv=>if kv.1=k then (kv.1,y) else kv) (xs.map (putAt k u)):=by
 induction r with
 | nil=>exact .nil
 | @cons p q ps qs h t ih =>
  rw [qAp,qAp];refine .cons ?_ ih;obtain ⟨h1,h2,h3⟩:=h;unfold putAt
  by_cases e:p.1=k
  ·rw [qAC e,qAC (h1.symm.trans e)];exact ⟨h1,h2,ry⟩
  ·rw [qAB e,qAB (fun z=>e (h1.trans z))];exact ⟨h1,h2,h3⟩
theorem KT.put {xs:List (List Key×Addr×Value)} (r:KT H kvs xs) (k:List Key) {b:Addr} (hb:H b=some (.tup (k.map kV))) (ry:RelV y u) :
  KT H (putK kvs k y) (storedH xs k b u):=by
 have e:(kvs.any fun kv=>decide (kv.1=k))=(atKey xs k).isSome:=by
  rw [zDy,(r.val k).isSome_eq,Option.isSome_map]
 unfold putK storedH;rw [e]
 by_cases q:(atKey xs k).isSome=true
 ·rw [qAC q,qAC q];exact r.repl k ry
 ·rw [qAB q,qAB q];exact Paired.snoc r ⟨rfl,hb,ry⟩
theorem KT.keeps {H H':Hp} {xs:List (List Key×Addr×Value)} (r:KT H kvs xs) (ht:∀b ys,H b=some (.tup ys)->H' b=some (.tup ys)):KT H' kvs xs :=
 Paired.mapP r fun _ _ z=>⟨z.1,ht _ _ z.2.1,z.2.2⟩
section
variable {P:Program} {w:World} {H:Hp} {h:Heap} {a:Addr}
theorem rd_of {u:HO} (ok:HOk P w H h) (e:Rd H a u):zA0 P w H h a u:=e.ok ok
theorem dk_rd {kvs:List (Key×V)} (ok:HOk P w H h) (e:Rd H a (.dK kvs)):kvs.length<=sizeLine/\(a==sysModules)=false/\∃vs,KV kvs vs/\h.DictOf (zA1 P w) a vs :=
 show zA0 P w H h a (.dK kvs) from rd_of ok e
theorem dk_of {kvs:List (Key×V)} (ok:HOk P w H h) (e:H a=some (.dK kvs)):kvs.length<=sizeLine/\(a==sysModules)=false/\∃vs,KV kvs vs/\h.DictOf (zA1 P w) a vs:=dk_rd ok (.inl e)
theorem zGq {ks:List Key} (ok:HOk P w H h) (e:H a=some (.tup (ks.map kV))):(tupleKind (zA1 P w)).is h ks a:=by
 obtain ⟨_,its,r,o,h1,h2,n,h3⟩:=(show zA0 P w H h a (.tup (ks.map kV)) from ok a _ e);exact ⟨o,its.toArray,n,h1,h2,h3,by simpa using items_are r⟩
theorem dt_rd (ok:HOk P w H h) (e:Rd H a (.dT kvs)):kvs.length<=sizeLine/\(a==sysModules)=false /\
  ∃xs,KT H kvs xs/\h.DictOfH (tupleKind (zA1 P w)) a xs:=by
 obtain ⟨z,y,xs,r,o,es,ep,h1,h2,h3,h4,h5⟩:=(show zA0 P w H h a (.dT kvs) from rd_of ok e);refine ⟨z,y,xs,r,o,es,ep,h1,h2,h3,h4,fun x hx=>?_,h5⟩
 have all:∀{l:List (List Key×V)} {m:List (List Key×Addr×Value)},KT H l m->∀x∈m,(tupleKind (zA1 P w)).is h x.1 x.2.1:=by
  intro l m q
  induction q with
  | nil=>intro x hx;exact nomatch hx
  | @cons p q ps qs hq t ih =>
   intro x hx;rcases qAO.mp hx with e| hx
   ·subst e;exact zGq ok (by rw [<-hq.1];exact hq.2.1)
   ·exact ih x hx
 exact all r x hx
theorem dt_of (ok:HOk P w H h) (e:H a=some (.dT kvs)):kvs.length<=sizeLine/\(a==sysModules)=false /\
  ∃xs,KT H kvs xs/\h.DictOfH (tupleKind (zA1 P w)) a xs:=dt_rd ok (.inl e)
end
def DGet (H:Hp) (a:Addr) (y:V) (r:Option V):Prop :=
 (∃kvs k,Rd H a (.dK kvs)/\y=kV k/\r=valV kvs k)\/∃kvs k b,Rd H a (.dT kvs)/\y= .ref b/\H b=some (.tup (k.map kV))/\r=valV kvs k
def DPut (H:Hp) (a:Addr) (y v:V) (H':Hp):Prop :=
 (∃kvs k,H a=some (.dK kvs)/\y=kV k/\kvs.length<sizeLine/\H'=upd H a (.dK (putK kvs k v))) \/
 ∃kvs k b,H a=some (.dT kvs)/\y= .ref b/\H b=some (.tup (k.map kV))/\kvs.length<sizeLine/\H'=upd H a (.dT (putK kvs k v))
theorem DGet.k {kvs:List (Key×V)} {k:Key} (e:H a=some (.dK kvs)):DGet H a (kV k) (valV kvs k):=.inl ⟨kvs,k,.inl e,rfl,rfl⟩
theorem DGet.t {b:Addr} {k:List Key} (e:H a=some (.dT kvs)) (eb:H b=some (.tup (k.map kV))):DGet H a (.ref b) (valV kvs k):=.inr ⟨kvs,k,b,.inl e,rfl,eb,rfl⟩
theorem DPut.k {kvs:List (Key×V)} {k:Key} {v:V} (e:H a=some (.dK kvs)) (hl:kvs.length<sizeLine):DPut H a (kV k) v (upd H a (.dK (putK kvs k v))):=.inl ⟨kvs,k,e,rfl,hl,rfl⟩
theorem DPut.t {b:Addr} {k:List Key} {v:V} (e:H a=some (.dT kvs)) (eb:H b=some (.tup (k.map kV))) (hl:kvs.length<sizeLine) :
  DPut H a (.ref b) v (upd H a (.dT (putK kvs k v))):=.inr ⟨kvs,k,b,e,rfl,eb,hl,rfl⟩
section
variable {X:Cx} {pins:List (Addr×Obj)} {σ:St} {H:Hp} {s:Shared} {a:Addr} {y v:V} {u r:Value} {o:Option V} {A:Around} {E:Value->Shared->Prop}
theorem Inv.big (I:Inv X pins σ H s):sysModules<s.heap.objs.size:=by
 have h:mainGlobals<s.heap.objs.size:=(I.mod.glob.keeps I.bk).lt;exact Nat.lt_trans (by decide) h
theorem d_getItem {Q:Value->Shared->Prop} (hu:A.units+1<cLine) (I:Inv X pins σ H s) (g:DGet H a y (some v)) (ry:RelV y u) (h:∀w' s',Inv X pins σ H s'->RelV v w'->Q w' s') :
  wpAny (model X.prog X.w) A (getItem (.ref a) u) Q E s:=by
 rcases g with ⟨kvs,k,e,ey,l⟩| ⟨kvs,k,b,e,ey,eb,l⟩
 ·subst ey;obtain ⟨z,hd,vs,rel,dd⟩:=dk_rd I.hok e;obtain ⟨w',hw,rw'⟩:=RelO.some_of (v:=v) (o:=valueAt vs k) (by rw [l];exact rel.val k);exact wpAny_getItem_of (kV_is ry) dd.mapOf hw (h w' _ (I.tok _) rw')
 ·subst ey
  cases (show u=Value.ref b from ry)
  obtain ⟨z,hd,xs,rel,dd⟩:=dt_rd I.hok e;obtain ⟨w',hw,rw'⟩:=RelO.some_of (v:=v) (o:=(atKey xs k).map (·.2)) (by rw [l];exact rel.val k);obtain ⟨p,hp,hp2⟩:=qBA.mp hw;refine wpAny_getItem_heap (qCL hu) (zGq I.hok eb) dd hp ?_;rw [hp2];exact h w' _ (I.tok _) rw'
theorem d_in {Q:Value->Shared->Prop} (hu:A.units+1<cLine) (I:Inv X pins σ H s) (g:DGet H a y o) (ry:RelV y u) (h:∀s',Inv X pins σ H s'->Q (.bool o.isSome) s') :
  wpAny (model X.prog X.w) A (compareOp .In u (.ref a)) Q E s:=by
 rcases g with ⟨kvs,k,e,ey,l⟩| ⟨kvs,k,b,e,ey,eb,l⟩
 ·subst ey;obtain ⟨z,hd,vs,rel,dd⟩:=dk_rd I.hok e;refine wpAny_in_of (kV_is ry) hd dd.mapOf ?_;rw [<-(rel.val k).isSome_eq,<-l];exact h _ (I.tok _)
 ·subst ey
  cases (show u=Value.ref b from ry)
  obtain ⟨z,hd,xs,rel,dd⟩:=dt_rd I.hok e;refine wpAny_in_heap (qCL hu) (zGq I.hok eb) hd dd ?_;have q:=(rel.val k).isSome_eq;rw [Option.isSome_map] at q;rw [<-q,<-l];exact h _ (I.tok _)
theorem d_notIn {Q:Value->Shared->Prop} (hu:A.units+1<cLine) (I:Inv X pins σ H s) (g:DGet H a y o) (ry:RelV y u) (h:∀s',Inv X pins σ H s'->Q (.bool (!o.isSome)) s') :
  wpAny (model X.prog X.w) A (compareOp .NotIn u (.ref a)) Q E s:=by
 rcases g with ⟨kvs,k,e,ey,l⟩| ⟨kvs,k,b,e,ey,eb,l⟩
 ·subst ey;obtain ⟨z,hd,vs,rel,dd⟩:=dk_rd I.hok e;refine wpAny_notIn_of (kV_is ry) hd dd.mapOf ?_;rw [<-(rel.val k).isSome_eq,<-l];exact h _ (I.tok _)
 ·subst ey
  cases (show u=Value.ref b from ry)
  obtain ⟨z,hd,xs,rel,dd⟩:=dt_rd I.hok e;refine wpAny_notIn_heap (qCL hu) (zGq I.hok eb) hd dd ?_;have q:=(rel.val k).isSome_eq;rw [Option.isSome_map] at q;rw [<-q,<-l];exact h _ (I.tok _)
theorem d_write {h':Heap} {t':Nat} {ob:HO} (I:Inv X pins σ H s) (mu:Mut (H a)) (hs:Heap.SameBut a s.heap h') (he:∃q,h'.get? a=some q) (new:zA0 X.prog X.w (upd H a ob) h' a ob) :
  Inv X pins σ (upd H a ob) {s with heap:=h',toks:=t'} :=
 I.write (x:=a) (e:=a) mu (.inl rfl) (fun b q hb z=>(hs.2 b hb).trans z) he new
theorem dk_new {h':Heap} {kvs:List (Key×V)} {vs:List (Key×Value)} (z:kvs.length<=sizeLine) (hd:(a==sysModules)=false) (rel:KV kvs vs) (dd:h'.DictOf (zA1 P w) a vs) :
  zA0 P w H' h' a (.dK kvs):=⟨z,hd,vs,rel,dd⟩
theorem d_setItem {Q:Unit->Shared->Prop} (hu:A.units+1<cLine) (I:Inv X pins σ H s) (g:DPut H a y v H') (ry:RelV y u) (rv:RelV v r) (h:∀s',Inv X pins σ H' s'->Q () s') :
  wpAny (model X.prog X.w) A (setItem (.ref a) u r) Q E s:=by
 rcases g with ⟨kvs,k,e,ey,l,eH⟩| ⟨kvs,k,b,e,ey,eb,l,eH⟩
 ·subst ey eH;obtain ⟨z,hd,vs,rel,dd⟩:=dk_of I.hok e;have hz:vs.length<=sizeLine:=by rw [<-rel.length];exact z
  have hl:(putK kvs k v).length<=sizeLine:=by have:=zB5 kvs k v;lia
  refine wpAny_setItem_pairs (hsz:=hz) (kV_is ry) dd fun h' dd' hs=>h _ ?_;have he:∃q,h'.get? a=some q:=let ⟨q,_,_,hq,_⟩:=dd';⟨q,hq⟩;exact d_write I (by rw [e];exact True.intro) hs he (dk_new hl hd (rel.put k rv) dd')
 ·subst ey eH
  cases (show u=Value.ref b from ry)
  obtain ⟨z,hd,xs,rel,dd⟩:=dt_of I.hok e;have hz:xs.length<=sizeLine:=by rw [<-qBn rel];exact z
  have hl:(putK kvs k v).length<=sizeLine:=by have:=zB5 kvs k v;lia
  refine wpAny_setItem_heap (hsz:=hz) (qCL hu) (zGq I.hok eb) dd fun h' dd' hs=>h _ ?_;obtain ⟨q,es,ep,hq,h2,h3,h4,_,h5⟩:=dd';refine d_write I (by rw [e];exact True.intro) hs ⟨q,hq⟩ ⟨hl,hd,_,(rel.put k eb rv).keeps fun c ys ec=>?_,q,es,ep,hq,h2,h3,h4,h5⟩;rw [upd_ne (zBq ec e (fun z=>nomatch z))];exact ec
end
def NoSl (i:Expr):Prop:=∀ov iv,subscripted i false ov iv=operate [ov,iv] (getItem ov iv)
theorem subD_of {prog:Program} {A:Around} {E:Value->Shared->Prop} {s:Shared} {env:Env} {value slice:Expr} {T id:String} {Q:Value->Shared->Prop}
  (hl:typeLookup (.type T) "__getitem__" = pure (some (.builtin id))) (hs:NoSl slice)
  (h:wpAny (model prog w) A (eval value env) (fun o s₁=>wpAny (model prog w) A (eval slice env) (fun i s₂=>s₂.TypeIs o T/\wpAny (model prog w) A (getItem o i) Q E s₂) E s₁) E s) :
  wpAny (model prog w) A (eval (.Subscript value slice pos) env) Q E s:=by
 refine Subscript_ (qAt h (fun o s₁ h₁=>qAt h₁ (fun i s₂ h₂=>?_) fun _ _ x=>x) fun _ _ x=>x);obtain ⟨hT,h₂⟩:=h₂;unfold subscriptTail;refine qAA ?_;rw [getitemInPython_of_ne hT.not_modules];refine qAA (qCk hT hl ?_)
 have fin:wpAny (model prog w) A (subscripted slice false o i) (fun r s₃=>wpAny (model prog w) A (letTemporaryGo value o r >>= fun _=>pure r) Q E s₃) E s₂:=by
  rw [hs o i];exact wpAny_operating (qAt h₂ (fun r s₃ h₃=>qAA (wpAny_letTemporaryGo (qAD h₃))) fun _ _ x=>x)
 first
  | exact qAD (qAA fin)
  | exact qAA (qAD (qAA fin))
  | exact qAA fin
theorem dict_typeIs {pins:List (Addr×Obj)} {σ:St} {s:Shared} {o:Option V} (I:Inv X pins σ H s) (g:DGet H a y o):s.TypeIs (.ref a) "dict" := by
 rcases g with ⟨kvs,k,e,_,_⟩| ⟨kvs,k,b,e,_,_,_⟩
 ·obtain ⟨_,_,vs,_,dd⟩:=dk_rd I.hok e;exact dd.typeIs
 ·obtain ⟨_,_,xs,_,dd⟩:=dt_rd I.hok e;exact dd.typeIs
def tDGet (td ty:TE):TE:=fun σ H Q=>td σ H fun x H1=>ty σ H1 fun y H2=>∃a v,x= .ref a/\DGet H2 a y (some v)/\Q v H2
def tDIn (ty td:TE):TE:=fun σ H Q=>ty σ H fun y H1=>td σ H1 fun x H2=>∃a o,x= .ref a/\DGet H2 a y o/\Q (.bl o.isSome) H2
def tDNotIn (ty td:TE):TE:=fun σ H Q=>ty σ H fun y H1=>td σ H1 fun x H2=>∃a o,x= .ref a/\DGet H2 a y o/\Q (.bl (!o.isSome)) H2
def sDPut (td ty tv:TE):TS:=fun D σ H=>tv σ H fun v H1=>td σ H1 fun x H2=>ty σ H2 fun y H3=>∃a H4,x= .ref a/\DPut H3 a y v H4/\D.nx σ H4
section
variable {X:Cx} {o i e value:Expr} {pos pos' tpos:Pos} {td ty tv:TE}
theorem zDb (hu:X.A.units+1<cLine) (ho:PE X o td) (hi:PE X i ty) (hs:NoSl i):PE X (.Subscript o i pos) (tDGet td ty):=by
 intro pins s σ H Q I h;refine subD_of PySem.F.slot_dict_getitem.lookup hs (thn (ho pins s σ H _ I h) fun u s1 ⟨x,H1,I1,rx,q1⟩=>thn (hi pins s1 σ H1 _ I1 q1) fun iv s2 ⟨y,H2,I2,ry,a,v,ex,g,q2⟩=>?_);subst ex;obtain rfl:u=Value.ref a:=rx;exact ⟨dict_typeIs I2 g,d_getItem hu I2 g ry fun w' s3 I3 rw'=>⟨v,H2,I3,rw',q2⟩⟩
theorem pc_din (hu:X.A.units+1<cLine) (hi:PE X i ty) (ho:PE X o td):PC X .In i o (tDIn ty td):=by
 intro pins s σ H Q I h;refine thn (hi pins s σ H _ I h) fun iv s1 ⟨y,H1,I1,ry,q1⟩=>thn (ho pins s1 σ H1 _ I1 q1) fun u s2 ⟨x,H2,I2,rx,a,ov,ex,g,q2⟩=>?_;subst ex;obtain rfl:u=Value.ref a:=rx;exact d_in hu I2 g ry fun s3 I3=>⟨.bl ov.isSome,H2,I3,rfl,q2⟩
theorem zGg (hu:X.A.units+1<cLine) (hi:PE X i ty) (ho:PE X o td):PC X .NotIn i o (tDNotIn ty td):=by
 intro pins s σ H Q I h;refine thn (hi pins s σ H _ I h) fun iv s1 ⟨y,H1,I1,ry,q1⟩=>thn (ho pins s1 σ H1 _ I1 q1) fun u s2 ⟨x,H2,I2,rx,a,ov,ex,g,q2⟩=>?_;subst ex;obtain rfl:u=Value.ref a:=rx;exact d_notIn hu I2 g ry fun s3 I3=>⟨.bl (!ov.isSome),H2,I3,rfl,q2⟩
theorem zEf (hu:X.A.units+1<cLine) (ho:PE X o td) (hi:PE X i ty) (hv:PE X value tv) (hs:swapsWith value (some (.Subscript o i pos')) pos.line X.env=pure false) :
  PS X (.Assign [.Subscript o i pos'] value pos) (sDPut td ty tv):=by
 intro pins s σ H D I h;refine wpAny_Assign_Subscript (thn (hv pins s σ H _ I h) fun r s1 ⟨v,H1,I1,rv,q1⟩=>thn (ho pins s1 σ H1 _ I1 q1) fun u s2 ⟨x,H2,I2,rx,q2⟩=>thn (hi pins s2 σ H2 _ I2 q2) fun iv s3 ⟨y,H3,I3,ry,a,H4,ex,g,q3⟩=>?_) hs;subst ex;obtain rfl:u=Value.ref a:=rx;exact d_setItem hu I3 g ry rv fun s4 I4=>⟨σ,H4,I4,q3⟩
end
theorem dk_empty (h:Heap) (hb:sysModules<h.objs.size):zA0 P w H (h.push {cls:=.type "dict",data:=.dict #[]}) h.objs.size (.dK []) :=
 ⟨qAf _,qA7.mpr (qAh (qAN hb)),[],.nil,Heap.DictOf.new h⟩
theorem dt_empty (h:Heap) (hb:sysModules<h.objs.size):zA0 P w H (h.push {cls:=.type "dict",data:=.dict #[]}) h.objs.size (.dT []) :=
 ⟨qAf _,qA7.mpr (qAh (qAN hb)),[],.nil,_,#[],0,qAe _ rfl,⟨rfl,rfl,rfl⟩,rfl,rfl,qBB⟩
def tDNewK:TE:=fun _ H Q=>∀p,H p=none->Q (.ref p) (upd H p (.dK []))
def tDNewT:TE:=fun _ H Q=>∀p,H p=none->Q (.ref p) (upd H p (.dT []))
section
variable {X:Cx} {pos:Pos}
theorem zEy:PE X (.Dict [] [] pos) tDNewK:=fun pins s σ H Q I h =>
 wpAny_Dict_empty ⟨.ref s.heap.objs.size,_,I.laid (a:=s.heap.objs.size) (o:=.dK []) (t':=s.toks) (fun _ _ q=>qAJ _ q) (qAG _) (dk_empty s.heap I.big),rfl,h _ (I.hok.fresh (qAG _))⟩
theorem zIa:PE X (.Dict [] [] pos) tDNewT:=fun pins s σ H Q I h =>
 wpAny_Dict_empty ⟨.ref s.heap.objs.size,_,I.laid (a:=s.heap.objs.size) (o:=.dT []) (t':=s.toks) (fun _ _ q=>qAJ _ q) (qAG _) (dt_empty s.heap I.big),rfl,h _ (I.hok.fresh (qAG _))⟩
end
def tPairs:List (TE×TE)->St->Hp->(List (V×V)->Hp->Prop)->Prop
 | [],_,H,Q=>Q [] H
 | (tk,tv)::r,σ,H,Q=>tk σ H fun x H1=>tv σ H1 fun y H2=>tPairs r σ H2 fun ps H3=>Q ((x,y)::ps) H3
abbrev VV:List (V×V)->List (Value×Value)->Prop:=Paired fun p q=>RelV p.1 q.1/\RelV p.2 q.2
def PPs (X:Cx) (pos:Pos) (keys:List (Option Expr)) (values:List Expr) (trs:List (TE×TE)):Prop :=
 ∀(pins:List (Addr×Obj)) (s:Shared) (σ:St) (H:Hp) (Q:List (V×V)->Hp->Prop),Inv X pins σ H s->tPairs trs σ H Q ->
  wpAny (model X.prog X.w) X.A (evalPairs (pairTrees keys values X.env pos)) (fun vs s'=>∃ps H',Inv X pins σ H' s'/\VV ps vs/\Q ps H') X.xe s
theorem pps_nil :PPs X pos [] [] []:=fun pins s σ H Q I h=>pairTrees_nil_walk ⟨[],H,I,.nil,h⟩
theorem pps_cons {k v:Expr} {ks:List (Option Expr)} {vs:List Expr} {tk tv:TE} {trs:List (TE×TE)} (hk:PE X k tk) (hv:PE X v tv) (hr:PPs X pos ks vs trs) :
  PPs X pos (some k::ks) (v::vs) ((tk,tv)::trs):=fun pins s σ H Q I h =>
 pairTrees_cons_walk (thn (hk pins s σ H _ I h) fun u s1 ⟨x,H1,I1,rx,q1⟩=>thn (hv pins s1 σ H1 _ I1 q1) fun w2 s2 ⟨y,H2,I2,ry,q2⟩ =>
  thn (hr pins s2 σ H2 _ I2 q2) fun ws s3 ⟨ps,H3,I3,rel,q3⟩=>⟨(x,y)::ps,H3,I3,.cons ⟨rx,ry⟩ rel,q3⟩)
structure M2 (X:Cx) (o:Expr) (m:Str) (apos:Pos) (e f:Expr) (cpos:Pos):Prop where
 base:attributeBase o m X.env (eval o X.env)=eval o X.env
 few:((backTo cpos (starEach [e,f] X.env)).all (fun x=>!x.1)&&(backToKw cpos (keywordEach [] X.env)).all (fun x=>x.1.isSome)
  &&decide (([e,f]:List Expr).length+([]:List Keyword).length+(if ([]:List Keyword).isEmpty then 0 else 1)<30))=true
 line:(apos.endLine==cpos.line)=true
 trees:backTo cpos (starEach [e,f] X.env)=[(false,eval e X.env),(false,eval f X.env)]
def IsD (H:Hp) (a:Addr):Prop:=(∃kvs,Rd H a (.dK kvs))\/∃kvs,Rd H a (.dT kvs)
theorem isD_at {pins:List (Addr×Obj)} {σ:St} {s:Shared} (I:Inv X pins σ H s) (d:IsD H a) :
  s.TypeIs (.ref a) "dict" /\(∀b,Value.ref a= .ref b->∃ob,s.heap.get? b=some ob/\ob.dict=none)/\(a==sysModules)=false:=by
 rcases d with ⟨kvs,e⟩| ⟨kvs,e⟩
 ·obtain ⟨_,hd,vs,_,dd⟩:=dk_rd I.hok e;refine ⟨dd.typeIs,fun b q=>?_,hd⟩
  cases q
  obtain ⟨ob,_,_,h1,h2,_⟩:=dd;exact ⟨ob,h1,h2.2.1⟩
 ·obtain ⟨_,hd,xs,_,dd⟩:=dt_rd I.hok e;refine ⟨dd.typeIs,fun b q=>?_,hd⟩
  cases q
  obtain ⟨ob,_,_,h1,h2,_⟩:=dd;exact ⟨ob,h1,h2.2.1⟩
section
variable {X:Cx} {pins:List (Addr×Obj)} {σ:St} {H:Hp} {s:Shared} {a:Addr} {y d:V} {u r:Value} {o:Option V} {A:Around} {E:Value->Shared->Prop}
theorem d_get2 {Q:Value->Shared->Prop} (hu:A.units+1<cLine) (I:Inv X pins σ H s) (g:DGet H a y o) (ry:RelV y u) (rd:RelV d r) (h:∀w' s',Inv X pins σ H s'->RelV (o.getD d) w'->Q w' s') :
  wpAny (model X.prog X.w) A (call (.builtin "dict.get") [.ref a,u,r]) Q E s:=by
 rcases g with ⟨kvs,k,e,ey,l⟩| ⟨kvs,k,b,e,ey,eb,l⟩
 ·subst ey;obtain ⟨z,hd,vs,rel,dd⟩:=dk_rd I.hok e;refine call_meetsIn qC3 dd.typeIs PySem.F.entry_dict_get (PySem.F.args_dict_get_3 _ _ _) (meets_dict_get_default (zA1 X.prog X.w) a (kV_is ry) hd r) ⟨_,dd.mapOf,h _ _ (I.tok _) ?_⟩;rw [l];exact (rel.val k).getD rd
 ·subst ey
  cases (show u=Value.ref b from ry)
  obtain ⟨z,hd,xs,rel,dd⟩:=dt_rd I.hok e;refine call_meetsIn qC3 dd.typeIs PySem.F.entry_dict_get (PySem.F.args_dict_get_3 _ _ _) (meetsH_dict_get_default (tupleKind (zA1 X.prog X.w)) a b hd r) ⟨qCL hu,k,xs,zGq I.hok eb,dd,h _ _ (I.tok _) ?_⟩;rw [l];exact (rel.val k).getD rd
end
def tDGet2 (td ty tx:TE):TE:=fun σ H Q=>td σ H fun x H1=>∃a,x= .ref a/\IsD H1 a/\ty σ H1 fun y H2=>tx σ H2 fun z H3=>∃o,DGet H3 a y o/\Q (o.getD z) H3
section
variable {X:Cx} {o e f:Expr} {apos cpos:Pos} {td ty tx:TE}
theorem pe_dget2 (hu:X.A.units+1<cLine) (ho:PE X o td) (he:PE X e ty) (hf:PE X f tx) (m:M2 X o "get" apos e f cpos):PE X (.Call (.Attribute o "get" apos) [e,f] [] cpos) (tDGet2 td ty tx):=by
 intro pins s σ H Q I h;refine wpAny_Call_method m.base m.few m.line qC4 qC3 PySem.F.type_dict_get (thn (ho pins s σ H _ I h) fun u s1 ⟨x,H1,I1,rx,a,ex,d,q1⟩=>?_);subst ex;obtain rfl:u=Value.ref a:=rx;obtain ⟨t1,t2,_⟩:=isD_at I1 d;refine ⟨t1,t2,?_⟩;rw [m.trees]
 refine qCg rfl (qC2 (Calls.spliced_cons (thn (he pins s1 σ H1 _ I1 q1) fun iv s2 ⟨y,H2,I2,ry,q2⟩ =>
  Calls.spliced_cons (thn (hf pins s2 σ H2 _ I2 q2) fun fv s3 ⟨z,H3,I3,rz,ov,g,q3⟩=>Calls.spliced_nil ?_))))
 exact d_get2 hu I3 g ry rz fun w' s4 I4 rw'=>⟨_,H3,I4,rw',q3⟩
end
end L2
set_option maxHeartbeats 4000000
namespace L2
open PySem PySem.Spec PyProof.Rows
variable {env:Env}{scope:Scope}{x:Str}{c:Addr}{X:Cx}{elt iter tg:Expr}{ifs:List Expr}{pos:Pos}{g:TG}{tt:TT}{te:TE}{wi:TI}
def clOf (env:Env):List (Str×NameKind)->List (Str×Addr)->List (Str×Addr)
 | [],cs=>cs
 | (n,k)::r,cs=>if (k==NameKind.free)=true then (match env.cells.lookup n with| some c=>clOf env r ((n,c)::cs)| none=>clOf env r cs) else clOf env r cs
theorem zDx {env:Env}:∀(l:List (Str×NameKind)) (cs:List (Str×Addr)),(∀x∈l,x.2= .free->∃c,env.cells.lookup x.1=some c) ->
  (forIn l cs (fun (x:Str×NameKind) (cs:List (Str×Addr))=>match x with
   | (name,kind)=>if (kind==NameKind.free)=true then (do let c<-cellOf env name;pure (ForInStep.yield ((name,c)::cs))) else pure (ForInStep.yield cs)):Sem (List (Str×Addr)))=pure (clOf env l cs)
 | [],_,_=>rfl
 | (n,k)::r,cs,h=>by
  rw [List.forIn_cons];have hr:∀x∈r,x.2= .free->∃c,env.cells.lookup x.1=some c:=fun x hx=>h x (qAP _ hx)
  by_cases hk:(k==NameKind.free)=true
  ·obtain ⟨c,hc⟩:=h (n,k) qAU (by simpa using hk)
   have e1:clOf env ((n,k)::r) cs=clOf env r ((n,c)::cs):=by
    show (if (k==NameKind.free)=true then _ else _)=_;rw [qAC hk];have hc:env.cells.lookup n=some c:=hc;rw [hc]
   have e2:cellOf env n=pure c:=by
    have hc:env.cells.lookup n=some c:=hc;unfold cellOf;rw [hc]
   rw [e1,<-zDx r ((n,c)::cs) hr];show (if (k==NameKind.free)=true then (do let c<-cellOf env n;pure (ForInStep.yield ((n,c)::cs))) else pure (ForInStep.yield cs)) >>= _=_;rw [qAC hk,e2,pure_bind,pure_bind]
  ·have e1:clOf env ((n,k)::r) cs=clOf env r cs:=by
    show (if (k==NameKind.free)=true then _ else _)=_;rw [qAB hk]
   rw [e1,<-zDx r cs hr];show (if (k==NameKind.free)=true then (do let c<-cellOf env n;pure (ForInStep.yield ((n,c)::cs))) else pure (ForInStep.yield cs)) >>= _=_;rw [qAB hk,pure_bind]
theorem zE6 (h:∀x∈scope.names,x.2= .free->∃c,env.cells.lookup x.1=some c):closureFor scope env=pure (clOf env scope.names []):=by
 unfold closureFor;have e:=zDx (env:=env) scope.names [] h
 first
  | exact e
  | (refine Eq.trans ?_ e;rfl)
  | (rw [bind_pure];exact e)
  | simpa using e
theorem zCq :∀{l:List (Str×NameKind)} {cs:List (Str×Addr)},(∀y d,cs.lookup y=some d->env.cells.lookup y=some d)->(clOf env l cs).lookup x=some c->env.cells.lookup x=some c
 | [],cs,h,e=>h x c e
 | (n,k)::r,cs,h,e=>by
  unfold clOf at e
  by_cases hk:(k==NameKind.free)=true
  ·rw [qAC hk] at e
   cases q:env.cells.lookup n with
   | none=>rw [q] at e;exact zCq h e
   | some d =>
    rw [q] at e;refine zCq (fun y z hy=>?_) e;rw [qBK] at hy
    cases hyn:y==n with
    | true =>
     rw [hyn] at hy;have:y=n:=by simpa using hyn
     subst this;rw [q];exact hy
    | false=>rw [hyn] at hy;exact h y z hy
  ·rw [qAB hk] at e;exact zCq h e
theorem zD3 (hx:env.cells.lookup x=some c):∀{l:List (Str×NameKind)} {cs:List (Str×Addr)},cs.lookup x=some c->(clOf env l cs).lookup x=some c
 | [],_,h=>h
 | (n,k)::r,cs,h=>by
  unfold clOf
  by_cases hk:(k==NameKind.free)=true
  ·rw [qAC hk]
   cases q:env.cells.lookup n with
   | none=>exact zD3 hx h
   | some d =>
    refine zD3 hx ?_;rw [qBK]
    cases hxn:x==n with
    | true =>
     have:x=n:=by simpa using hxn
     subst this;rw [<-q,hx]
    | false=>exact h
  ·rw [qAB hk];exact zD3 hx h
theorem zE8 (hx:env.cells.lookup x=some c):∀{l:List (Str×NameKind)} {cs:List (Str×Addr)},(x,NameKind.free)∈l->(clOf env l cs).lookup x=some c
 | [],_,h=>nomatch h
 | (n,k)::r,cs,h=>by
  unfold clOf;rcases qAO.mp h with e| h
  ·cases e
   rw [qAC (show (NameKind.free==NameKind.free)=true by decide),hx];exact zD3 hx (by rw [qBK];simp)
  ·by_cases hk:(k==NameKind.free)=true
   ·rw [qAC hk]
    cases q:env.cells.lookup n with
    | none=>exact zE8 hx h
    | some d=>exact zE8 hx h
   ·rw [qAB hk];exact zE8 hx h
theorem zDg :∀{l:List (Str×NameKind)} {n:Nat} {acc:List (Str×Addr)},(∀y∈l,y.2= .cell->y.1≠x)->(cellsFrom n l acc).lookup x=acc.lookup x
 | [],_,_,_=>rfl
 | (y,k)::r,n,acc,h=>by
  have hr:∀z∈r,z.2= .cell->z.1≠x:=fun z hz=>h z (qAP _ hz);unfold cellsFrom;split
  ·rename_i hk;rw [zDg hr,qBK]
   have:(x==y)=false:=by
    have:=h (y,k) qAU (by simpa using hk);exact qA7.mpr (fun z=>this z.symm)
   rw [this]
  ·exact zDg hr
theorem zBi :∀{l:List (Str×NameKind)} {n:Nat} {acc:List (Str×Addr)},(cellsFrom n l acc).lookup x=some c->acc.lookup x=some c\/(n<=c/\(x,NameKind.cell)∈l)
 | [],_,_,h=>.inl h
 | (y,k)::r,n,acc,h=>by
  unfold cellsFrom at h;split at h
  ·rename_i hk;have hk':k= .cell:=by simpa using hk
   rcases zBi h with z| ⟨z1,z2⟩
   ·rw [qBK] at z
    cases hx:x==y with
    | true =>
     rw [hx] at z;have e:n=c:=qAb z;have e2:x=y:=by simpa using hx
     subst e2;subst hk';exact .inr ⟨qCF e,qAU⟩
    | false=>rw [hx] at z;exact .inl z
   ·exact .inr ⟨qAW (qBf _) z1,qAP _ z2⟩
  ·rcases zBi h with z| ⟨z1,z2⟩
   ·exact .inl z
   ·exact .inr ⟨z1,qAP _ z2⟩
theorem zDh:∀{l:List (Str×NameKind)} {n:Nat} {acc:List (Str×Addr)},(∀x y c,acc.lookup x=some c->acc.lookup y=some c->x=y)->(∀z d,acc.lookup z=some d->d<n)->∀x y c,(cellsFrom n l acc).lookup x=some c->(cellsFrom n l acc).lookup y=some c->x=y
 | [],_,_,p,_=>p
 | (w,k)::r,n,acc,p,lt=>by
  unfold cellsFrom;split
  ·refine zDh (l:=r) (n:=n+1) (acc:=(w,n)::acc) (fun x y c h1 h2=>?_) (fun z d h=>?_)
   ·rw [qBK] at h1 h2
    cases hx:x==w with
    | true =>
     rw [hx] at h1;have e1:n=c:=qAb h1
     cases hy:y==w with
     | true=>exact (by simpa using hx:x=w).trans (by simpa using hy:y=w).symm
     | false =>
      rw [hy] at h2;have:=lt y c h2;rw [<-e1] at this;exact absurd this (qAy _)
    | false =>
     rw [hx] at h1
     cases hy:y==w with
     | true =>
      rw [hy] at h2;have e2:n=c:=qAb h2;have:=lt x c h1;rw [<-e2] at this;exact absurd this (qAy _)
     | false=>rw [hy] at h2;exact p x y c h1 h2
   ·rw [qBK] at h
    cases hz:z==w with
    | true =>
     rw [hz] at h;have e:n=d:=qAb h;rw [<-e];exact qCG _
    | false =>
     rw [hz] at h;exact qBh (lt z d h)
  ·exact zDh p lt
theorem zBu :∀{l:List (Str×NameKind)} {h:Heap} {acc:List (Str×Addr)},(∀y d,acc.lookup y=some d->∃v,h.IsCell d v)->(cellsFrom h.objs.size l acc).lookup x=some c->∃v,(pushCells h l).IsCell c v
 | [],_,_,hA,e=>hA x c e
 | (y,k)::r,h,acc,hA,e=>by
  unfold cellsFrom at e;unfold pushCells;split at e
  ·rename_i hk;rw [qAC hk];have hs:(h.push {cls:=.type "cell",data:=.cell none}:Heap).objs.size=h.objs.size+1:=qBG ..;rw [<-hs] at e;refine zBu (fun z d hz=>?_) e;rw [qBK] at hz
   cases hzy:z==y with
   | true =>
    rw [hzy] at hz;have e:h.objs.size=d:=qAb hz;subst e;exact ⟨none,_,qAe _ rfl,rfl⟩
   | false =>
    rw [hzy] at hz;obtain ⟨v,o,ho,hd⟩:=hA z d hz;exact ⟨v,o,qAJ _ ho,hd⟩
  ·rename_i hk;rw [qAB hk];exact zBu hA e
theorem zCf {M:Model} {A:Around} {E:Value->Shared->Prop} {s:Shared} {globals:Addr} {cl:List (Str×Addr)} {qual:Str} {outer:Env} {Q:Env->Shared->Prop}
  (h:Q (newEnv scope s.heap.objs.size globals (cellsFrom (s.heap.objs.size+1) scope.names cl) qual none .none (some outer) builtinsNs) {s with heap:=pushCells (s.heap.push {cls:=.type "dict",data:=.dict #[]}) scope.names}) :
  wpAny M A (newFunctionEnv scope globals cl [] qual none .none (some outer)) Q E s:=by
 simp only [newFunctionEnv,Option.isSome_some,qBQ];refine qAA (wpAny_alloc ?_);refine qAA (wpAny_layCells _ (fun name kind cells=>by cases hkc:kind==NameKind.cell<;>simp [hkc]) _ _ _ _ ?_);rw [show ({s with heap:=s.heap.push {cls:=.type "dict",data:=.dict #[]}}:Shared).heap.objs.size=s.heap.objs.size+1 from qBG ..];rw [List.forIn_nil];exact qAA (qAD (qAD h))
theorem zE7 :∀{l:List (Str×NameKind)} {cs:List (Str×Addr)},(∀y∈l,y.2= .free->y.1≠x)->(clOf env l cs).lookup x=cs.lookup x
 | [],_,_=>rfl
 | (n,k)::r,cs,h=>by
  have hr:∀z∈r,z.2= .free->z.1≠x:=fun z hz=>h z (qAP _ hz);unfold clOf
  by_cases hk:(k==NameKind.free)=true
  ·rw [qAC hk];have nx:(x==n)=false:=qA7.mpr fun z=>h (n,k) qAU (by simpa using hk) z.symm
   cases q:env.cells.lookup n with
   | none=>exact zE7 hr
   | some d =>
    rw [show (clOf env r ((n,d)::cs)).lookup x=((n,d)::cs).lookup x from zE7 hr,qBK,nx]
  ·rw [qAB hk];exact zE7 hr
def Cx.block (X:Cx) (scope:Scope) (C:Addr) (s₀:Shared) (H₀:Hp) (ex:List Addr) (N:List Str):Cx where
 prog:=X.prog
 w:=X.w
 K:=X.K
 mg:=X.mg
 base:=X.base
 A:=X.A
 N:=N
 s₀:=s₀
 H₀:=H₀
 env:=compEnvC scope (cellsFrom (C+1) scope.names (clOf X.env scope.names [])) C X.env
 outer:=X.stack
 stack:=X.stack
 ex:=ex
 fn:=fun x=>scope.names.lookup x==some .cell
 calm:=X.calm
 pn:=[]
 xe:=fun _ _=>False
structure BlkSc (X:Cx) (scope:Scope):Prop where
 kind:scope.kind= .function
 apart:∀y∈scope.names,∀z∈scope.names,y.2= .cell->z.2= .free->y.1≠z.1
 owns:∀y∈scope.names,y.2= .cell->scope.names.lookup y.1=some .cell
 free:∀y∈scope.names,y.2= .free->X.env.kindOf y.1=some .cell\/X.env.kindOf y.1=some .free
 locs:∀y∈scope.names,y.2= .local->scope.names.lookup y.1=some .local
theorem zCl {scope:Scope} {k:NameKind}:∀{l:List (Str×NameKind)}, 
  (l.map fun (n,k)=>if (k==NameKind.free&&env.scope.kind== .function&&env.kindOf n==some .cell) then (n,NameKind.cell) else (n,k)).lookup x=some k ->
  k= .cell\/k= .free->∃k',(x,k')∈l/\(k'= .cell\/k'= .free)
 | [],h,_=>by simp at h
 | (n,j)::r,h,hk=>by
  have h:List.lookup x ((if (j==NameKind.free&&env.scope.kind== .function&&env.kindOf n==some .cell)=true then (n,NameKind.cell) else (n,j))::(r.map fun (n,k)=>if (k==NameKind.free&&env.scope.kind== .function&&env.kindOf n==some .cell) then (n,NameKind.cell) else (n,k)))=some k:=h
  by_cases hc:(j==NameKind.free&&env.scope.kind== .function&&env.kindOf n==some .cell)=true
  ·rw [qAC hc,qBK] at h
   have hj:j= .free:=by
    simp only [qBR] at hc;simpa using hc.1.1
   cases hx:x==n with
   | true =>
    have:x=n:=by simpa using hx
    subst this;exact ⟨j,qAU,.inr hj⟩
   | false =>
    rw [hx] at h;obtain ⟨k',m,q⟩:=zCl (scope:=scope) h hk;exact ⟨k',qAP _ m,q⟩
  ·rw [qAB hc,qBK] at h
   cases hx:x==n with
   | true =>
    rw [hx] at h;have e:j=k:=qAb h;have:x=n:=by simpa using hx
    subst this;exact ⟨j,qAU,by rw [e];exact hk⟩
   | false =>
    rw [hx] at h;obtain ⟨k',m,q⟩:=zCl (scope:=scope) h hk;exact ⟨k',qAP _ m,q⟩
inductive Draws (X:Cx) (scope:Scope):List Str->List (Option Nat)->Prop
 | nil:Draws X scope [] []
 | own {x:Str} {N:List Str} {ix:List (Option Nat)}:Draws X scope N ix->Draws X scope (x::N) (Option.none::ix)
 | tk {x:Str} {N:List Str} {ix:List (Option Nat)} {i:Nat} (hN:X.N[i]?=some x) (hv:Vis X.env.scope x) (hk:(relabel scope X.env).names.lookup x=some .cell\/(relabel scope X.env).names.lookup x=some .free) (hf:(x,NameKind.free)∈scope.names) :
   Draws X scope N ix->Draws X scope (x::N) (some i::ix)
def zCw (σ:St) (ix:List (Option Nat)):St:=ix.map fun o=>o.bind fun i=>(σ[i]?).join
theorem Draws.len {N:List Str} {ix:List (Option Nat)} (D:Draws X scope N ix):ix.length=N.length:=by
 induction D with
 | nil=>rfl
 | own _ ih=>simp [ih]
 | tk _ _ _ _ _ ih=>simp [ih]
theorem Draws.get {N:List Str} {ix:List (Option Nat)} {σ:St} (D:Draws X scope N ix):∀(j:Nat) (x:Str) (v:V),N[j]?=some x->(zCw σ ix)[j]?=some (some v) ->
  ∃(i:Nat),X.N[i]?=some x/\σ[i]?=some (some v)/\Vis X.env.scope x/\((relabel scope X.env).names.lookup x=some .cell\/(relabel scope X.env).names.lookup x=some .free)/\(x,NameKind.free)∈scope.names:=by
 induction D with
 | nil=>intro j x v h;simp at h
 | own d ih =>
  intro j x v h1 h2
  cases j with
  | zero=>simp [zCw] at h2
  | succ j=>exact ih j x v (by simpa using h1) (by simpa [zCw] using h2)
 | @tk y N ix i hN hv hk hf d ih =>
  intro j x v h1 h2
  cases j with
  | zero =>
   have e:y=x:=by simpa using h1
   subst e;refine ⟨i,hN,?_,hv,hk,hf⟩;have h2:((σ[i]?).join)=some v:=by simpa [zCw] using h2
   cases q:σ[i]? with
   | none=>rw [q] at h2;cases h2
   | some o=>rw [q] at h2;exact qAg some h2
  | succ j=>exact ih j x v (by simpa using h1) (by simpa [zCw] using h2)
section
variable {X:Cx} {pins:List (Addr×Obj)} {σ:St} {H:Hp} {s:Shared} {scope:Scope} {N:List Str} {ix:List (Option Nat)} {fp:List Addr}
theorem Inv.nostk (I:Inv X pins σ H s) {b:Addr} (h1:b≠X.env.locals) (h2:b∉X.fs):b∉frs X.stack:=fun z=>(qAO.mp (I.stkSub b z)).elim h1 h2
theorem Inv.blockStart {h':Heap} {tk:Nat} {m:Str->Option Value} (I:Inv X pins σ H s) (B:BlkSc X scope) (D:Draws X scope N ix) (hfp:∀b∈fp,FpOk X pins H b) (hfo:∀b∈fp,∃o,s.heap.get? b=some o)
  (hns:h'.Ns s.heap.objs.size m) (hk:∀b o,s.heap.get? b=some o->h'.get? b=some o) (hcl:∀x c,(cellsFrom (s.heap.objs.size+1) scope.names (clOf X.env scope.names [])).lookup x=some c->∃v,h'.IsCell c v) :
  Inv (X.block scope s.heap.objs.size s H fp N) (X.pn++pins) (zCw σ ix) H {s with heap:=h',toks:=tk}:=by
 have sub:∀{x:Str} {c:Addr},(clOf X.env scope.names []).lookup x=some c->X.env.cells.lookup x=some c:=fun {x c} e=>zCq (fun y d z=>by simp at z) e
 have old:∀{x:Str} {c:Addr},(clOf X.env scope.names []).lookup x=some c->c<s.heap.objs.size:=fun {x c} e=>by
  obtain ⟨v,o,ho,_⟩:=I.cell x c (sub e);exact qAI ho
 have two:∀{x:Str} {c:Addr},(cellsFrom (s.heap.objs.size+1) scope.names (clOf X.env scope.names [])).lookup x=some c->X.env.cells.lookup x=some c\/s.heap.objs.size<c:=fun {x c} e=>by
  rcases zBi e with z| ⟨z,_⟩
  ·exact .inl (sub z)
  ·exact .inr z
 have own:∀{x:Str},(x,NameKind.free)∈scope.names->(cellsFrom (s.heap.objs.size+1) scope.names (clOf X.env scope.names [])).lookup x=(clOf X.env scope.names []).lookup x:=fun {x} hx=>zDg fun y hy e=>B.apart y hy _ hx e rfl
 have okB:(X.block scope s.heap.objs.size s H fp N).Ok:=by
  refine ⟨I.ok.mod,B.kind,I.ok.glob,I.ok.blt,qAG _,zDh (fun x y c h1 h2=>I.ok.inj x y c (sub h1) (sub h2)) (fun z d h=>qBh (old h)),fun x hx=>?_,(fun x c z e=>?_),I.ok.hd,I.ok.frames,.inl rfl,fun b hb=>⟨?_,fun x c e=>?_⟩,
   I.bs,qAW I.ok.bsz I.sz,fun b o e hb=>?_,fun b hb=>I.nostk (hfp b hb).2.1 (hfp b hb).2.2.1,I.stack,I.stkFree⟩
  ·have hx':(relabel scope X.env).names.lookup x=some .cell\/(relabel scope X.env).names.lookup x=some .free:=hx
   have key:∃k',(x,k')∈scope.names/\(k'= .cell\/k'= .free):=by
    rcases hx' with e| e
    ·exact zCl (scope:=scope) e (.inl rfl)
    ·exact zCl (scope:=scope) e (.inr rfl)
   obtain ⟨k',m1,q⟩:=key;rcases q with q| q
   ·subst q;exact qC0.mp (qCe _ _ _ (.inl (B.owns _ m1 rfl)))
   ·subst q;obtain ⟨c,hc⟩:=I.ok.has x (B.free _ m1 rfl);exact ⟨c,(own m1).trans (zE8 hc m1)⟩
  ·rcases zBi e with q| ⟨q,_⟩
   ·have z:scope.names.lookup x=some .cell:=by
     have z:(scope.names.lookup x==some NameKind.cell)=true:=z;simpa using z
    have hm:=qB0 z;have:(x,NameKind.free)∈scope.names\/True:=.inr trivial
    exact absurd q (by
     rw [zE7 (fun y hy e1 e2=>B.apart _ hm y hy rfl e1 e2.symm)];intro h;cases h)
   ·exact qCA q
  ·obtain ⟨o,e⟩:=hfo b hb;exact qAN (qAI e)
  ·rcases two e with z| z
   ·exact (hfp b hb).2.2.2.2.1 x c z
   ·obtain ⟨o,e⟩:=hfo b hb;exact qAz (Nat.lt_trans (qAI e) z)
  ·rcases (hfp b hb).2.2.2.1 with z| z
   ·exact I.ok.noex b o e z
   ·exact absurd (qAi (qAI (I.ok.bs b o e).1) z) (qAy _)
 refine ⟨okB,rfl,I.bare,Un.kept hk,⟨m,hns,fun j x v h1 h2 h3=>?_⟩,fun x c e=>?_,I.hok.fresh (qAG _),fun x c e=>(two e).elim (fun z=>I.freeC x c z) (fun z=>I.hok.fresh (qCA z)),fun p hp=>?_,I.hok.kept hk,?_⟩
 ·obtain ⟨i,e1,e2,vis,kd,fr⟩:=D.get j x v h1 h2;obtain ⟨m0,hn0,hl⟩:=I.loc;obtain ⟨u,r,l⟩:=hl i x v e1 e2 vis;refine ⟨u,r,?_⟩;rcases l with ⟨k,_⟩| ⟨_,c,hc,o,ho,hd⟩
  ·rcases B.free _ fr rfl with z| z
   ·have z:X.env.kindOf x=some .cell:=z;rw [k] at z;cases z
   ·have z:X.env.kindOf x=some .free:=z;rw [k] at z;cases z
  ·exact .inr ⟨kd,c,(own fr).trans (zE8 hc fr),o,hk c o ho,hd⟩
 ·exact hcl x c e
 ·have hp':p∈X.pn++pins:=by simpa [Cx.block] using hp
  obtain ⟨e,n,ne,nf,d⟩:=I.pin p hp';exact ⟨hk _ _ e,n,qAN (qAI e),I.nostk ne nf,d⟩
 ·show (zCw σ ix).length=N.length;unfold zCw;rw [qAE];exact D.len
end
def PTs (X:Cx) (ifs:List Expr) (t:TT):Prop :=
 ∀(pins:List (Addr×Obj)) (s:Shared) (σ:St) (H:Hp) (Q:Bool->Hp->Prop),Inv X pins σ H s->t σ H Q ->
  wpAny (model X.prog X.w) X.A (forIn ifs true fun c r=>if r=true then do let ok<-isTrue c X.env (eval c X.env);pure (ForInStep.yield ok) else pure (ForInStep.yield r)) (TP X pins σ Q) X.xe s
def tTrue:TT:=fun _ H Q=>Q true H
theorem zEe :PTs X [] tTrue:=fun _ _ _ H _ I h=>wpAny_tests_nil ⟨H,I,h⟩
theorem zDs {c:Expr} {t:TT} (h:PT X c t):PTs X [c] t:=fun pins s σ H Q I hw=>wpAny_tests_one (h pins s σ H Q I hw)
theorem comp_loop {prog:Program} {w:World} {A:Around} {R:Result->Shared->Prop} {s:Shared} {elt target iter:Expr} {ifs:List Expr} {scope:Scope} {pos:Pos} {it acc:Value} {env:Env} (I:Nat->Shared->Prop)
  (turn:∀n s,I n s->wpAny (model prog w) A (pyNext it) (fun r s₁=>match r with
   | none=>R (.ok .next) s₁
   | some v=>wpAny (model prog w) A (letOwnedTupleGo target it v) (fun _ s₁'=>wpAny (model prog w) A (assign target env v) (fun _ s₂ =>
     wpAny (model prog w) A (forIn ifs true fun c r=>if r=true then do let ok<-isTrue c env (eval c env);pure (ForInStep.yield ok) else pure (ForInStep.yield r)) (fun ok s₃ =>
      if ok=true then wpAny (model prog w) A (eval elt env) (fun x s₄ =>
       wpAny (model prog w) A (call (.builtin "list.append") [acc,x]) (fun _ s₅=>∃m,m<n/\I m s₅) (fun _ _=>False) s₄) (fun _ _=>False) s₃
      else∃m,m<n/\I m s₃) (fun _ _=>False) s₂) (fun _ _=>False) s₁') (fun _ _=>False) s₁) (fun _ _=>False) s)
  (n:Nat) (h:I n s) :
  codeAny (model prog w) A (.compLoop (.ListComp elt [⟨target,iter,ifs,0⟩] scope pos) 0 it acc env) R s:=by
 refine codeAny_loop rfl I (fun n s hI=>?_) n h;show wpAny _ A ((compTurn (.ListComp elt [⟨target,iter,ifs,0⟩] scope pos) 0 it acc env).onRaise (fun x=>do noteFrame x env;theTreesLotGoes x)) _ _ s;refine wpAny_noted ?_;rw [compTurn_list];refine qAA (qCb (qAA (qAt (turn n s hI) (fun r s₁ h₁=>?_) fun _ _ h'=>h'.elim)))
 cases r with
 | none=>exact qAD h₁
 | some v =>
  refine qAA (qAt h₁ (fun _ s₁' h₁'=>?_) fun _ _ h'=>h'.elim);refine qAA (qAt h₁' (fun _ s₂ h₂=>qAA (qAt h₂ (fun ok s₃ h₃=>?_) fun _ _ h'=>h'.elim)) fun _ _ h'=>h'.elim)
  cases ok with
  | false=>exact qAD ⟨rfl,h₃⟩
  | true =>
   exact qAA (qAA (qAt h₃ (fun x s₄ h₄=>qAA (qAt h₄ (fun _ s₅ h₅=>qAD (qAD ⟨rfl,h₅⟩)) fun _ _ h'=>h'.elim)) fun _ _ h'=>h'.elim))
def tComp (wi:TI) (ix:List (Option Nat)) (g:TG) (tt:TT) (te:TE):TE:=fun σ H Q=>wi σ H fun J H1=>∀D,H1 D=none->∃W:Nat->Nat->List V->St->Hp->Prop,
 (∃m,W 0 m [] (zCw σ ix) (upd H1 D (.lst [])))/\∀i m ys τ H2,W i m ys τ H2 ->
  (J.stop i H2/\Q (.ref D) H2)\/(J.go i H2/\∃N:List V->St->Hp->Prop,(∀ys' τ' H',N ys' τ' H'->∃m',m'<m/\W (i+1) m' ys' τ' H')/\∀x H3,J.yld i H2 x H3->g x τ H3 fun τ' H4=>tt τ' H4 fun b H5 =>
   if b=true then te τ' H5 fun v H6=>H6 D=some (.lst ys)/\ys.length<sizeLine/\N (ys++[v]) τ' (upd H6 D (.lst (ys++[v])))
   else N ys τ' H5)
theorem block_loop {Y:Cx} {J:It} {fp:List Addr} {it D:Addr} {tn:Nat->Heap->Prop} {P:List (Addr×Obj)} {W:Nat->Nat->List V->St->Hp->Prop} {m0:Nat}
  {R:Result->Shared->Prop} {QD:Hp->Prop} {s4:Shared} {τ0:St} {H4:Hp}
  (hc:Y.calm=true) (hx:∀e s,Y.xe e s->False) (hg:PG Y tg g) (ht:PTs Y ifs tt) (he:PE Y elt te) (T:Turn Y.prog Y.w Y.K tg J fp it tn)
  (stat:∀{H':Hp},(∀b∈fp,H' b=none)->∀b∈fp,FpOk Y P H' b)
  (turn:∀i m ys τ H2,W i m ys τ H2->(J.stop i H2/\QD H2)\/(J.go i H2/\∃N:List V->St->Hp->Prop,(∀ys' τ' H',N ys' τ' H'->∃m',m'<m/\W (i+1) m' ys' τ' H')/\∀x H3,J.yld i H2 x H3->g x τ H3 fun τ' H4=>tt τ' H4 fun b H5 =>
   if b=true then te τ' H5 fun v H6=>H6 D=some (.lst ys)/\ys.length<sizeLine/\N (ys++[v]) τ' (upd H6 D (.lst (ys++[v])))
   else N ys τ' H5))
  (fin:∀τ H' s',Inv Y P τ H' s'->QD H'->R (.ok .next) s')
  (I0:Inv Y P τ0 H4 s4) (t0:tn 0 s4.heap) (n0:∀b∈fp,H4 b=none) (w0:W 0 m0 [] τ0 H4) :
  codeAny (model Y.prog Y.w) Y.A (.compLoop (.ListComp elt [⟨tg,iter,ifs,0⟩] scope pos) 0 (.ref it) (.ref D) Y.env) R s4:=by
 have nx:∀{α:Type} {t:Sem α} {Q:α->Shared->Prop} {s:Shared},wpAny (model Y.prog Y.w) Y.A t Q Y.xe s->wpAny (model Y.prog Y.w) Y.A t Q (fun _ _=>False) s:=fun h=>qAt h (fun _ _ q=>q) hx;refine comp_loop (fun n s'=>∃i ys τ H',Inv Y P τ H' s'/\tn i s'.heap/\(∀b∈fp,H' b=none)/\W i n ys τ H') ?_ m0 ⟨0,[],τ0,H4,I0,t0,n0,w0⟩;rintro n s5 ⟨i,ys,τ,H5,I5,st5,fr5,w5⟩;rcases turn i n ys τ H5 w5 with ⟨stop,q⟩| ⟨go,N,hN,step⟩
 ·refine thn (T.done Y rfl rfl rfl hc i P s5 τ H5 _ I5 (stat fr5) st5 stop) fun r s6 ⟨hr,I6⟩=>?_;subst hr;exact fin τ H5 s6 I6 q
 ·refine thn (T.item Y rfl rfl rfl hc i P s5 τ H5 _ I5 (stat fr5) st5 go) fun r s6 ⟨u,hr,h6⟩=>?_;subst hr;refine thn h6 fun _ s7 ⟨x,H7,I7,r7,y7,st7,fr7⟩=>?_;have I7':=I7.pinned (stat fr7) (T.obj _ _ st7);refine nx (thn (hg _ s7 τ H7 x u _ I7' r7 (step x H7 y7)) fun _ s8 ⟨τ8,H8,I8,q8⟩=>?_);refine nx (thn (ht _ s8 τ8 H8 _ I8 q8) fun ok s9 ⟨H9,I9,q9⟩=>?_)
  have again:∀{ys':List V} {H':Hp} {s':Shared},Inv Y (P++zHi fp s7.heap) τ8 H' s'->(∃m',m'<n/\W (i+1) m' ys' τ8 H')->∃m,m<n/\∃i ys τ H',Inv Y P τ H' s'/\tn i s'.heap/\(∀b∈fp,H' b=none)/\W i m ys τ H':=fun {ys' H' s'} I' ⟨m',hm,w'⟩=>by
   refine ⟨m',hm,i+1,ys',τ8,H',I'.unpinned,T.keep _ _ _ st7 fun b hb o e=>(I'.pin (b,o) (qAl _ (qAl _ (zBz hb e)))).1,fun b hb=>?_,w'⟩;obtain ⟨o,e,d⟩:=T.obj _ _ st7 b hb;exact (I'.pin (b,o) (qAl _ (qAl _ (zBz hb e)))).2.1
  cases ok with
  | false =>
   rw [qAB qAd] at q9 ⊢;exact again I9 (hN _ _ _ q9)
  | true =>
   rw [qAC rfl] at q9 ⊢;refine nx (thn (he _ s9 τ8 H9 _ I9 q9) fun y s10 ⟨v,H10,I10,r10,hD,hz,w10⟩=>?_);refine nx (thn (zDu (X:=Y) _ s10 τ8 H10 (.ref D) [v] (.ref D) [y] (fun _ H'=>H'=upd H10 D (.lst (ys++[v]))) I10 rfl (.cons r10 .nil) ⟨D,ys,v,rfl,rfl,hD,hz,rfl⟩) fun _ s11 ⟨z,H11,I11,_,e11⟩=>?_);subst e11;exact again I11 (hN _ _ _ w10)
theorem run_comp {pos p1:Pos} {N:List Str} {ix:List (Option Nat)} {pins:List (Addr×Obj)} {s:Shared} {σ:St} {H:Hp} {Q:VK} {use:Option (Value->Sem Unit)}
  {Z:Value->Shared->Prop}
  (hc:X.calm=true) (B:BlkSc X scope) (Dr:Draws X scope N ix) (hi:PI X tg iter wi)
  (hg:∀C s₀ H₀ ex,PG (X.block scope C s₀ H₀ ex N) tg g) (ht:∀C s₀ H₀ ex,PTs (X.block scope C s₀ H₀ ex N) ifs tt) (he:∀C s₀ H₀ ex,PE (X.block scope C s₀ H₀ ex N) elt te)
  (hs:∀x,foldedSetIterable iter X.env x=pure x)
  (I:Inv X pins σ H s) (h:tComp wi ix g tt te σ H Q)
  (fin:∀(D C:Addr) (H':Hp) (s':Shared) (m:Str->Option Value),Inv X pins σ H' s'->Q (.ref D) H'->s'.heap.Ns C m->(∀h',Heap.SameBut C s'.heap h'->Inv X pins σ H' {s' with heap:=h'})->C≠X.env.locals->(∀x c,X.env.cells.lookup x=some c->c≠C)->H' C=none ->
   (∀p∈X.pn++pins,p.1≠C)->X.s₀.heap.objs.size<=C->compPost (model X.prog X.w) X.A X.xe use Z (.ref D) C (.ok .next) s') :
  wpAny (model X.prog X.w) X.A (comprehension (.ListComp elt [⟨tg,iter,ifs,0⟩] scope pos) scope X.env p1 (newList []) false (eval iter X.env) use) Z X.xe s:=by
 have hfree:∀x∈scope.names,x.2= .free->∃c,X.env.cells.lookup x.1=some c:=fun x hx e=>I.ok.has _ (B.free x hx e);refine wpAny_comprehension_free (use:=use) rfl hs (zE6 hfree) B.kind B.locs ?_;refine thn (hi pins s σ H _ I h) fun v s1 h1=>thn h1 fun itv s2 h2=>?_;obtain ⟨it,fp,tn,J,H2,e,I2,T,st2,f2,R⟩:=h2;subst e;have hDf:H2 s2.heap.objs.size=none:=I2.hok.fresh (qAG _);obtain ⟨W,⟨m0,w0⟩,turn⟩:=R _ hDf;refine qA5 ?_ (by show (0:Nat)<=sizeLine;exact qAf _);have I3:Inv X pins σ (upd H2 s2.heap.objs.size (.lst [])) {s2 with heap:=s2.heap.push {cls:=.type "list",data:=.seq ([]:List Value).toArray}}:=I2.lnew (t':=s2.toks) (ys:=[]) (its:=[]) .nil (qAf _);generalize hD:s2.heap.objs.size=D at *
 have fpo:∀b∈fp,∃o,s2.heap.get? b=some o:=fun b hb=>let ⟨o,q,_⟩:=T.obj _ _ st2 b hb;⟨o,q⟩
 have fpD:∀b∈fp,b≠D:=fun b hb=>by
  obtain ⟨o,q⟩:=fpo b hb;rw [<-hD];exact qAN (qAI q)
 have f3:∀b∈fp,FpOk X pins (upd H2 D (.lst [])) b:=fun b hb=>⟨by rw [upd_ne (fpD b hb)];exact (f2 b hb).1,(f2 b hb).2⟩;generalize hs3:({s2 with heap:=s2.heap.push {cls:=.type "list",data:=.seq ([]:List Value).toArray}}:Shared)=s3 at I3 ⊢;have k23:∀b o,s2.heap.get? b=some o->s3.heap.get? b=some o:=fun b o q=>by rw [<-hs3];exact qAJ _ q
 have fpo3:∀b∈fp,∃o,s3.heap.get? b=some o:=fun b hb=>let ⟨o,q⟩:=fpo b hb;⟨o,k23 b o q⟩;have st3:tn 0 s3.heap:=T.keep _ _ _ st2 fun b hb o q=>k23 b o q;refine zCf ?_;have k34:∀b o,s3.heap.get? b=some o->(pushCells (s3.heap.push {cls:=.type "dict",data:=.dict #[]}) scope.names).get? b=some o:=fun b o q=>qCl _ _ b o (qAJ _ q);have hns4:(pushCells (s3.heap.push {cls:=.type "dict",data:=.dict #[]}) scope.names).Ns s3.heap.objs.size (fun _=>none):=(Heap.Ns.new s3.heap (.type "dict")).keeps (qCl _ _)
 have hcl4:∀x c,(cellsFrom (s3.heap.objs.size+1) scope.names (clOf X.env scope.names [])).lookup x=some c->∃v,(pushCells (s3.heap.push {cls:=.type "dict",data:=.dict #[]}) scope.names).IsCell c v:=fun x c e=>by
  refine zBu (h:=s3.heap.push {cls:=.type "dict",data:=.dict #[]}) (acc:=clOf X.env scope.names []) (fun y d hy=>?_) (by rw [qBG];exact e);obtain ⟨v,o,ho,hd⟩:=I3.cell y d (zCq (fun y d z=>by simp at z) hy);exact ⟨v,o,qAJ _ ho,hd⟩
 have IB:=I3.blockStart (tk:=s3.toks) B Dr f3 fpo3 hns4 k34 hcl4;generalize hh4:pushCells (s3.heap.push {cls:=.type "dict",data:=.dict #[]}) scope.names=h4 at *
 generalize hC:s3.heap.objs.size=C at *
 have hCX:X.s₀.heap.objs.size<=C:=by rw [<-hC];exact I3.sz
 have CL:C≠X.env.locals:=by rw [<-hC];exact qAz I3.lt
 have Cc:∀x c,X.env.cells.lookup x=some c->c≠C:=fun x c q=>by
  obtain ⟨v,o,ho,_⟩:=I3.cell x c q;rw [<-hC];exact qAN (qAI ho)
 have Cp:∀p∈X.pn++pins,p.1≠C:=fun p hp=>by
  rw [<-hC];exact qAN (qAI (I3.pin p hp).1)
 have fpC:∀b∈fp,b≠C:=fun b hb=>by
  obtain ⟨o,q⟩:=fpo3 b hb;rw [<-hC];exact qAN (qAI q)
 have stat:∀{H':Hp},(∀b∈fp,H' b=none)->∀b∈fp,FpOk (X.block scope C s3 (upd H2 D (.lst [])) fp N) (X.pn++pins) H' b:=fun {H'} hn b hb=>by
  obtain ⟨_,q1,q2,q3,q4,q5⟩:=f2 b hb;exact ⟨hn b hb,fpC b hb,I3.nostk q1 q2,.inl hb,fun x c e=>(zBi e).elim (fun z=>q4 x c (zCq (fun y d z=>by simp at z) z)) (fun z=>by obtain ⟨o,q⟩:=fpo3 b hb;have:=qAI q;rw [hC] at this;exact qAz (qAi (qBh this) z.1)),fun p hp=>q5 p (by simpa [Cx.block] using hp)⟩
 have st4:tn 0 h4:=T.keep _ _ _ st3 fun b hb o q=>k34 b o q;have n4:∀b∈fp,(upd H2 D (.lst [])) b=none:=fun b hb=>(f3 b hb).1
 have loop:=block_loop (Y:=X.block scope C s3 (upd H2 D (.lst [])) fp N) (iter:=iter) (pos:=pos) (scope:=scope) (D:=D) (R:=compPost (model X.prog X.w) X.A X.xe use Z (.ref D) C) hc (fun _ _ z=>z) (hg C s3 _ fp) (ht C s3 _ fp) (he C s3 _ fp) T stat turn
  (fun τ H' s' I' q=>by
   have I5:Inv X pins σ H' s':=I3.call' (ch:=fp) I'.os I'.base I'.hok I'.bare fun b hb=>by
    obtain ⟨_,q1,q2,q3,q4,q5⟩:=f2 b hb;exact ⟨q3,q1,q4,q5⟩
   obtain ⟨m,hn,_⟩:=I'.loc;have hC0:H' C=none:=I'.free;exact fin D C H' s' m I5 q hn (fun h'' hs''=>I5.turned (t':=s'.toks) (fun b o hb e=>hs''.extBut b o hb e) hC0 CL (.inr hCX) Cc Cp) CL Cc hC0 Cp hCX) IB st4 n4 w0
 exact codeAny_compStart_list loop (T.self _ 0 _ _ _ st4 loop)
theorem zB3 {N:List Str} {ix:List (Option Nat)} (hc:X.calm=true) (B:BlkSc X scope) (Dr:Draws X scope N ix) (hi:PI X tg iter wi)
  (hg:∀C s₀ H₀ ex,PG (X.block scope C s₀ H₀ ex N) tg g) (ht:∀C s₀ H₀ ex,PTs (X.block scope C s₀ H₀ ex N) ifs tt) (he:∀C s₀ H₀ ex,PE (X.block scope C s₀ H₀ ex N) elt te)
  (hs:∀x,foldedSetIterable iter X.env x=pure x:=by intro _;rfl):PE X (.ListComp elt [⟨tg,iter,ifs,0⟩] scope pos) (tComp wi ix g tt te):=by
 intro pins s σ H Q I h;rw [eval_ListComp];exact run_comp (use:=none) hc B Dr hi hg ht he hs I h fun D C H' s' m I' q hn k _ _ _ _ _=>⟨m,hn,fun h' hs'=>⟨.ref D,H',k h' hs',rfl,q⟩⟩
theorem ps_comp {spos py:Pos} {N:List Str} {ix:List (Option Nat)} {i:Nat} {y:Str} (hc:X.calm=true) (B:BlkSc X scope) (Dr:Draws X scope N ix) (hi:PI X tg iter wi)
  (hg:∀C s₀ H₀ ex,PG (X.block scope C s₀ H₀ ex N) tg g) (ht:∀C s₀ H₀ ex,PTs (X.block scope C s₀ H₀ ex N) ifs tt) (he:∀C s₀ H₀ ex,PE (X.block scope C s₀ H₀ ex N) elt te)
  (hN:X.N.Nodup) (hy:X.N[i]?=some y) (hl:X.env.scope.names.lookup y=some .local)
  (hsw:swapsWith (.ListComp elt [⟨tg,iter,ifs,0⟩] scope pos) (some (.Name y py)) spos.line X.env=pure true:=by rfl)
  (hs:∀x,foldedSetIterable iter X.env x=pure x:=by intro _;rfl):PS X (.Assign [.Name y py] (.ListComp elt [⟨tg,iter,ifs,0⟩] scope pos) spos) (tAsg (tComp wi ix g tt te) (gName i)):=by
 intro pins s σ H Dn I h;rw [exec_Assign_Name_used _ _ _ _ hsw];refine qAA (qCb (qAA ?_));show wpAny _ X.A (do let _<-comprehension (.ListComp elt [⟨tg,iter,ifs,0⟩] scope pos) scope X.env _ (newList []) false (eval iter X.env) (some (assign (.Name y py) X.env))) _ _ s;refine qAA (thn (run_comp (use:=some (assign (.Name y py) X.env)) (Z:=fun _ s'=>SP X pins Dn .next s') hc B Dr hi hg ht he hs I h fun D C H' s' m I' q hn k CL Cc C0 Cp CX=>?_) fun _ s' hq=>qAD (qAD hq));show wpAny _ _ (assign (.Name y py) X.env (.ref D)) _ _ s';refine wpAny_assign_Name (store_ok2 I' hN hy (.inl hl) (v:=.ref D) rfl (fun s'' I'' ⟨a,sb,ha⟩=>?_) (.inr hl))
 have aC:C≠a:=by
  rcases ha with z| z
  ·rw [z];exact CL
  ·exact (Cc _ _ z).symm
 exact ⟨m,hn.sameBut sb aC,fun h' hs'=>⟨_,H',I''.turned (t':=s''.toks) (fun b o hb e=>hs'.extBut b o hb e) C0 CL (.inr CX) Cc Cp,q⟩⟩
theorem comp_by {J:It} {ix:List (Option Nat)} {Q:VK} {σ:St} {H1:Hp} {D:Addr} (xs:List V) (Pv:Nat->List V->St->Hp->Prop) (h0:Pv 0 [] (zCw σ ix) (upd H1 D (.lst [])))
  (hJ:∀i ys τ H,Pv i ys τ H->(∀x,xs[i]?=some x->J.go i H/\∀y H',J.yld i H y H'->H'=H/\y=x)/\(i=xs.length->J.stop i H))
  (hs:∀i x ys τ H,xs[i]?=some x->Pv i ys τ H->g x τ H fun τ' H4=>tt τ' H4 fun b H5=>if b=true then te τ' H5 fun v H6=>H6 D=some (.lst ys)/\ys.length<sizeLine/\Pv (i+1) (ys++[v]) τ' (upd H6 D (.lst (ys++[v]))) else Pv (i+1) ys τ' H5)
  (hd:∀ys τ H,Pv xs.length ys τ H->Q (.ref D) H) :
  ∃W:Nat->Nat->List V->St->Hp->Prop,(∃m,W 0 m [] (zCw σ ix) (upd H1 D (.lst [])))/\∀i m ys τ H2,W i m ys τ H2 ->
   (J.stop i H2/\Q (.ref D) H2)\/(J.go i H2/\∃N:List V->St->Hp->Prop,(∀ys' τ' H',N ys' τ' H'->∃m',m'<m/\W (i+1) m' ys' τ' H')/\∀x H3,J.yld i H2 x H3->g x τ H3 fun τ' H4=>tt τ' H4 fun b H5 =>
    if b=true then te τ' H5 fun v H6=>H6 D=some (.lst ys)/\ys.length<sizeLine/\N (ys++[v]) τ' (upd H6 D (.lst (ys++[v])))
    else N ys τ' H5):=by
 refine ⟨fun i m ys τ H=>m=xs.length - i/\i<=xs.length/\Pv i ys τ H,⟨xs.length,by simp,qAf _,h0⟩,?_⟩;rintro i m ys τ H ⟨rfl,hi,p⟩;obtain ⟨j1,j2⟩:=hJ i ys τ H p
 by_cases hlt:i<xs.length
 ·have hx:xs[i]?=some xs[i]:=by simp [hlt]
  obtain ⟨go,yl⟩:=j1 _ hx;refine .inr ⟨go,Pv (i+1),fun ys' τ' H' p'=>⟨xs.length - (i+1),by lia,rfl,hlt,p'⟩,fun y H' yd=>?_⟩;obtain ⟨e1,e2⟩:=yl y H' yd;subst e1 e2;exact hs i _ ys τ _ hx p
 ·have e:i=xs.length:=by lia
  subst e;exact .inl ⟨j2 rfl,hd ys τ H p⟩
def blkOk (scope sc:Scope):Bool:=(scope.kind== .function)&&(scope.names.all (fun y=>scope.names.all fun z=>y.2 != .cell||z.2 != .free||y.1 != z.1)&&scope.names.all (fun y=>y.2 != .cell||scope.names.lookup y.1==some .cell))&&scope.names.all (fun y=>y.2 != .free||sc.names.lookup y.1==some .cell||sc.names.lookup y.1==some .free)&&scope.names.all (fun y=>y.2 != .local||scope.names.lookup y.1==some .local)
theorem zCa {scope sc:Scope} (hsc:X.env.scope=sc) (h:blkOk scope sc=true):BlkSc X scope:=by
 unfold blkOk at h;simp only [qBR,qBr,Bool.or_eq_true] at h;obtain ⟨⟨⟨h1,h2,h5⟩,h3⟩,h4⟩:=h;refine ⟨by simpa using h1,fun y hy z hz e1 e2=>?_,fun y hy e=>?_,fun y hy e=>?_,fun y hy e=>?_⟩
 ·rcases h2 y hy z hz with (q| q)| q
  ·rw [e1] at q;simp at q
  ·rw [e2] at q;simp at q
  ·simpa using q
 ·rcases h5 y hy with q| q
  ·rw [e] at q;simp at q
  ·simpa using q
 ·have q:=h3 y hy;show X.env.scope.names.lookup y.1=some .cell\/X.env.scope.names.lookup y.1=some .free;rw [hsc];rcases q with (q| q)| q
  ·rw [e] at q;simp at q
  ·exact .inl (by simpa using q)
  ·exact .inr (by simpa using q)
 ·have q:=h4 y hy;rcases q with q| q
  ·rw [e] at q;simp at q
  ·simpa using q
def relS (scope sc:Scope):Scope:={scope with names:=scope.names.map fun (n,k)=>if (k== .free&&sc.kind== .function&&sc.names.lookup n==some .cell) then (n,.cell) else (n,k)}
theorem blk_in {e0:Env} {outer scope sc:Scope} (hX:X.env.scope=relabel outer e0) (h0:e0.scope=sc) (h:blkOk scope (relS outer sc)=true):BlkSc X scope :=
 zCa (sc:=relS outer sc) (by rw [hX];subst h0;rfl) h
def Its (z:Str):It:=⟨fun i _=>i<z.cps.size,fun i H x H'=>H'=H/\∃c,z.cps[i]?=some c/\x= .str ⟨#[c]⟩,fun i _=>z.cps.size<=i⟩
theorem turn_str {P:Program} {w:World} {K:PySem.W.Frag} (it:Addr) (z:Str) (t:Tok) (ty:String) (hty:ty= "str_ascii_iterator" \/ty= "str_iterator"):Turn P w K tg (Its z) [it] it (fun i h=>h.IsStrIter it ty z t i) where
 mem:=by simp
 obj:=fun i h st b hb=>by
  have e:b=it:=by simpa using hb
  subst e;obtain ⟨o,e,c,d⟩:=st;exact ⟨o,e,fun v z=>by rw [d] at z;cases z⟩
 keep:=fun i h h' st k=>by
  obtain ⟨o,e,c,d⟩:=st;exact ⟨o,k it (by simp) o e,c,d⟩
 item:=by
  intro X hP hw hK hc i pins s σ H E I hf st hg;subst hP hw hK;obtain ⟨f0,f1,f2,f3,f4,f5⟩:=hf it (by simp);have hlt:i<z.cps.size:=hg;have hx:z.cps[i]?=some z.cps[i]:=by simp [hlt]
  have fin:∀h':Heap,h'.IsStrIter it ty z t (i+1)->Heap.SameBut it s.heap h'->∃u,some (Value.str ⟨#[z.cps[i]]⟩ s.toks)=some u /\
    wpAny (model X.prog X.w) X.A (letOwnedTupleGo tg (.ref it) u) (fun _ s2=>∃x H',Inv X pins σ H' s2/\RelV x u/\(Its z).yld i H x H'/\s2.heap.IsStrIter it ty z t (i+1)/\∀b∈[it],H' b=none) E {s with heap:=h',toks:=s.toks+1}:=fun h' st' sb=>by
   have I1:Inv X pins σ H {s with heap:=h',toks:=s.toks+1}:=I.turned (t':=s.toks+1) (fun b o hb e=>(sb.2 b hb).trans e) f0 f1 f3 f4 f5;obtain ⟨o,e,c,d⟩:=id st';exact ⟨_,rfl,go_of (s:={s with heap:=h',toks:=s.toks+1}) e c d (by rcases hty with rfl| rfl<;>decide) ⟨.str ⟨#[z.cps[i]]⟩,H,I1,⟨_,rfl⟩,⟨rfl,_,hx,rfl⟩,st',fun b hb=>(hf b hb).1⟩⟩
  rcases hty with rfl| rfl
  ·exact wpAny_pyNext_ascii_item st hx fin
  ·exact wpAny_pyNext_wide_item st hx fin
 done:=by
  intro X hP hw hK hc i pins s σ H E I hf st hg;subst hP hw hK;obtain ⟨f0,f1,f2,f3,f4,f5⟩:=hf it (by simp);have hle:z.cps.size<=i:=hg;have hx:z.cps[i]?=none:=by simp [hle]
  have fin:∀h':Heap,Heap.ExtBut it s.heap h'->(none:Option Value)=none/\Inv X pins σ H {s with heap:=h'}:=fun h' eb=>⟨rfl,I.turned (t':=s.toks) (fun b o hb e=>eb b o hb e) f0 f1 f3 f4 f5⟩;rcases hty with rfl| rfl
  ·exact wpAny_pyNext_ascii_end (I.ok.hd hc) st hx fin
  ·exact wpAny_pyNext_wide_end (I.ok.hd hc) st hx fin
 self:=fun _ _ _ _ _ st h=>by
  rcases hty with rfl| rfl
  ·exact wpAny_pyIter_striter_ascii st h
  ·exact wpAny_pyIter_striter_wide st h
def iStr (tl:TE):TI:=fun σ H R=>tl σ H fun x H1=>∃z,x= .str z/\R (Its z) H1
theorem pi_str {l:Expr} {tl:TE} (hl:PE X l tl):PI X tg l (iStr tl):=by
 intro pins s σ H R I h;refine thn (hl pins s σ H _ I h) fun v s1 ⟨x,H1,I1,r1,q1⟩=>?_;obtain ⟨z,e,q⟩:=q1;subst e;obtain ⟨t,rfl⟩:=r1
 have fin:∀(ty:String),(ty= "str_ascii_iterator" \/ty= "str_iterator")->PIE X pins σ tg R (.ref s1.heap.objs.size) {s1 with heap:=s1.heap.push {cls:=.type ty,data:=.fields #[.str z t,.int 0 0]}}:=fun ty hty =>
  ⟨s1.heap.objs.size,[s1.heap.objs.size],_,_,H1,rfl,I1.kept (t':=s1.toks) fun b o e=>qAJ _ e,turn_str _ z t ty hty,⟨_,qAe _ rfl,rfl,rfl⟩,fun b hb=>by
   have e:b=s1.heap.objs.size:=by simpa using hb
   subst e;exact I1.fpOk (qAG _) (I1.hok.fresh (qAG _)),q⟩
 cases ha:z.cps.all (·<128)
 ·exact wpAny_pyIter_wide ha (fin _ (.inr rfl))
 ·exact wpAny_pyIter_ascii ha (fin _ (.inl rfl))
theorem bls_get {bs:List Bool} {its:List Value} (r:Vals (bs.map V.bl) its) {i:Nat} {v:Value} (h:its[i]?=some v):v= .bool (bs.getD i false)/\i<bs.length:=by
 have hl:=r.length;rw [qAE] at hl;have hi:i<its.length:=(qAc.mp h).1;have hb:i<bs.length:=by lia
 have e:(bs.map V.bl)[i]?=some (V.bl bs[i]):=by simp [hb]
 obtain ⟨u,hu,ru⟩:=r.get e;rw [h] at hu
 cases hu
 refine ⟨?_,hb⟩;have:v= .bool bs[i]:=ru;rw [this,qBZ];simp [hb]
theorem all_range (bs:List Bool):(List.range bs.length).all (fun i=>bs.getD i false)=bs.all id:=by
 rw [qCE];simp only [qBr,qBF];constructor
 ·intro h x hx;obtain ⟨i,hi,rfl⟩:=qBL.mp hx;have:=h i hi;simpa [qBZ,hi] using this
 ·intro h i hi;have:=h bs[i] (List.getElem_mem hi);simpa [qBZ,hi] using this
theorem zIy (X:Cx) (hc:X.calm=true):zCc X (.builtin "all") (fun xs H Q=>∃(p:Addr) (bs:List Bool),xs=[.ref p]/\SqL X.K H p (bs.map V.bl)/\Q (.bl (bs.all id)) H):=by
 intro pins s σ H xs us Q I rv h;obtain ⟨p,bs,rfl,hq,q⟩:=h;obtain ⟨u,rfl,ru⟩:=rv.one
 cases ru
 obtain ⟨its,r,pl,hz⟩:=I.list hq;have hl:=r.length;rw [qAE] at hl;refine call_all_walk (wpAny_pyIter_list pl.isList ?_);have hp:p<s.heap.objs.size:=by obtain ⟨o,n,e,_⟩:=pl;exact qAI e
 have I1:Inv X pins σ H {s with heap:=s.heap.push {cls:=.type "list_iterator",data:=.fields #[.ref p,.int 0 0]}}:=I.kept (t':=s.toks) fun b o e=>qAJ _ e;refine ⟨s.heap.objs.size,_,_,_,_,_,fun i=>bs.getD i false,rfl,Walks.list (A:=X.A.in1) (show X.A.in1.handled=none from I.ok.hd hc) s.heap.objs.size p (qAN hp) its.toArray,⟨⟨_,qAe _ rfl,rfl,rfl⟩,pl.isList.at fun o e=>qAJ _ e⟩,?_,fun h' tk hk=>?_⟩
 ·intro i v s' E' Q' hv hq';obtain ⟨rfl,_⟩:=bls_get r (by simpa using hv);exact qBI hq'
 ·have e:(List.range its.toArray.size).all (fun i=>bs.getD i false)=bs.all id:=by
   rw [qAQ,<-hl];exact all_range bs
  refine ⟨.bl (bs.all id),H,?_,by rw [e];rfl,q⟩;obtain ⟨f0,f1,f2,f3,f4,f5⟩:=I.fpOk (b:=s.heap.objs.size) (qAG _) (I.hok.fresh (qAG _));exact I1.turned (t':=tk) (fun b o hb e=>hk b o (by simpa using hb) e) f0 f1 f3 f4 f5
theorem zCr :zCc X (.builtin "isinstance") (fun xs H Q=>∃x n t b,xs=[x,.ty n]/\TyOf X.K H x t/\PySem.W.kitOne X.K t (.type n)=some b/\Q (.bl b) H):=by
 intro pins s σ H xs us Q I rv h;obtain ⟨x,n,t,b,rfl,ty,e,q⟩:=h;obtain ⟨u,c,rfl,rx,rc⟩:=rv.two
 cases (show c=Value.type n from rc)
 exact isinst_ok I rx ty e fun tk=>⟨.bl b,H,I.tok tk,rfl,q⟩
theorem op_le_str :OpR X (compareOp .LtE) (fun x y H Q=>∃i j,x= .str i/\y= .str j/\Q (.bl (!(decide (j.cps.toList<i.cps.toList)))) H):=by
 intro pins s σ H x y v u Q I rx ry h;obtain ⟨i,j,rfl,rfl,q⟩:=h;obtain ⟨t,rfl⟩:=rx;obtain ⟨t',rfl⟩:=ry;exact PySem.P.le_str ⟨.bl _,H,I,rfl,q⟩
theorem zHd:∀{ts:List Str} {us:List Value},Vals (ts.map V.str) us->StrsAre us ts
 | [],_,.nil=>.nil
 | t::ts,_,.cons r rr=>by
  obtain ⟨tk,rfl⟩:=r;exact .cons _ _ (zHd rr)
def rJoin (K:PySem.W.Frag):V->List V->Hp->VK->Prop:=fun x vs H Q=>∃sep p ts,x= .str sep/\vs=[.ref p]/\SqL K H p (ts.map V.str)/\(ts.map (·.length)).sum+ts.length*sep.length<=16777216/\Q (.str (Txt.join sep ts)) H
theorem mt_join :MtR X "str.join" (rJoin X.K):=by
 intro pins s σ H x vs v us Q I rx rv h;obtain ⟨sep,p,ts,rfl,rfl,hq,hz,q⟩:=h;obtain ⟨t,rfl⟩:=rx;obtain ⟨u,rfl,ru⟩:=rv.one
 cases ru
 obtain ⟨its,r,pl,_⟩:=I.list hq;exact PyProof.Rows.join_list pl.isList (by simpa using zHd r) hz fun t' k=>⟨.str _,H,I.tok k,⟨_,rfl⟩,q⟩
inductive Alike (K:PySem.W.Frag) (H:Hp):Nat->V->V->Prop
 | flat {n:Nat} {x:V} (fx:zFo x=true):Alike K H n x x
 | same {n:Nat} {a:Addr}:Alike K H n (.ref a) (.ref a)
 | lists {n:Nat} {a b:Addr} {xs ys:List V} (hx:SqL K H a xs) (hy:SqL K H b ys) (hl:xs.length=ys.length) (he:∀(i:Nat) (x y:V),xs[i]?=some x->ys[i]?=some y->Alike K H n x y):Alike K H (n+1) (.ref a) (.ref b)
 | tups {n:Nat} {a b:Addr} {xs ys:List V} (hx:SqT K H a xs) (hy:SqT K H b ys) (hl:xs.length=ys.length) (he:∀(i:Nat) (x y:V),xs[i]?=some x->ys[i]?=some y->Alike K H n x y):Alike K H (n+1) (.ref a) (.ref b)
theorem eqV_refl {x:V} (h:zFo x=true):eqV x x=true:=by
 cases x<;>simp [eqV]<;>simp [zFo] at h
section
variable {X:Cx} {pins:List (Addr×Obj)} {σ:St} {H:Hp} {s:Shared}
theorem zI0 (n:Nat):(List.range n).all (fun _=>true)=true:=by simp
theorem alike_at (I:Inv X pins σ H s) {n:Nat} {x y:V} (h:Alike X.K H n x y):∀{u v:Value} {A:Around},RelV x u->RelV y v->A.units+n<cLine->SeqAt.EqAt A s u v true:=by
 induction h with
 | flat fx =>
  intro u v A ru rv _;have q:=eqAt_V (A:=A) (s:=s) ru rv fx fx
  rwa [eqV_refl fx] at q
 | same =>
  intro u v A ru rv _
  cases ru
  cases rv
  exact qCf _
 | @lists n a b xs ys hx hy hl he ih =>
  intro u v A ru rv hu
  cases ru
  cases rv
  by_cases ab:a=b
  ·subst ab;exact qCf _
  ·obtain ⟨its,r,pl,hz⟩:=I.list hx;obtain ⟨its2,r2,pl2,hz2⟩:=I.list hy;have e1:=r.length;have e2:=r2.length
   have q:=SeqAt.RcAt.lists (A:=A) (s:=s) (e:=fun _=>true) pl.isList pl2.isList (by rw [qAQ,qAQ];lia) (by lia) (fun j h1 h2=>by
    rw [qAQ] at h1 h2;have hjx:xs[j]?=some (xs[j]'(by lia)):=by simp
    have hjy:ys[j]?=some (ys[j]'(by lia)):=by simp
    obtain ⟨u1,q1,ru1⟩:=r.get hjx;obtain ⟨v1,q2,rv1⟩:=r2.get hjy
    have e3:its.toArray[j]=u1:=by
     have:its[j]?=some its[j]:=by simp
     rw [this] at q1;simpa using q1
    have e4:its2.toArray[j]=v1:=by
     have:its2[j]?=some its2[j]:=by simp
     rw [this] at q2;simpa using q2
    rw [e3,e4];exact ih j _ _ hjx hjy ru1 rv1 (by show A.units+1+n<cLine;lia))
   rw [zI0] at q;exact SeqAt.EqAt.of_refs ab q
 | @tups n a b xs ys hx hy hl he ih =>
  intro u v A ru rv hu
  cases ru
  cases rv
  by_cases ab:a=b
  ·subst ab;exact qCf _
  ·obtain ⟨its,r,pl,hz⟩:=I.tuple hx;obtain ⟨its2,r2,pl2,hz2⟩:=I.tuple hy;have e1:=r.length;have e2:=r2.length
   have q:=SeqAt.RcAt.tuples (A:=A) (s:=s) (e:=fun _=>true) (show s.heap.IsTuple a its.toArray from pl) (show s.heap.IsTuple b its2.toArray from pl2) (by lia) (fun j h1 h2=>by
    rw [qAQ] at h1 h2;have hjx:xs[j]?=some (xs[j]'(by lia)):=by simp
    have hjy:ys[j]?=some (ys[j]'(by lia)):=by simp
    obtain ⟨u1,q1,ru1⟩:=r.get hjx;obtain ⟨v1,q2,rv1⟩:=r2.get hjy
    have e3:its.toArray[j]=u1:=by
     have:its[j]?=some its[j]:=by simp
     rw [this] at q1;simpa using q1
    have e4:its2.toArray[j]=v1:=by
     have:its2[j]?=some its2[j]:=by simp
     rw [this] at q2;simpa using q2
    rw [e3,e4];exact ih j _ _ hjx hjy ru1 rv1 (by show A.units+1+n<cLine;lia))
   rw [zI0,Bool.true_and,qAQ,qAQ,<-e1,<-e2,hl,beq_self_eq_true] at q;exact SeqAt.EqAt.of_refs ab q
theorem alike_items (I:Inv X pins σ H s) {n:Nat} {xs ys:List V} {its its2:List Value} {A:Around} (r:Vals xs its) (r2:Vals ys its2) (he:∀(i:Nat) (x y:V),xs[i]?=some x->ys[i]?=some y->Alike X.K H n x y) (hu:A.units+n<cLine) :
  ∀j (h1:j<its.toArray.size) (h2:j<its2.toArray.size),SeqAt.EqAt A s its.toArray[j] its2.toArray[j] true:=fun j h1 h2=>by
 have e1:=r.length;have e2:=r2.length;rw [qAQ] at h1 h2;have hjx:xs[j]?=some (xs[j]'(by lia)):=by simp
 have hjy:ys[j]?=some (ys[j]'(by lia)):=by simp
 obtain ⟨u1,q1,ru1⟩:=r.get hjx;obtain ⟨v1,q2,rv1⟩:=r2.get hjy
 have e3:its.toArray[j]=u1:=by
  have:its[j]?=some its[j]:=by simp
  rw [this] at q1;simpa using q1
 have e4:its2.toArray[j]=v1:=by
  have:its2[j]?=some its2[j]:=by simp
  rw [this] at q2;simpa using q2
 rw [e3,e4];exact alike_at I (he j _ _ hjx hjy) ru1 rv1 hu
end
def rAlike (K:PySem.W.Frag) (n:Nat) (b:Bool):R2:=fun x y H Q=>∃a c xs ys,x= .ref a/\y= .ref c/\SqL K H a xs/\SqL K H c ys/\xs.length=ys.length/\(∀(i:Nat) (x y:V),xs[i]?=some x->ys[i]?=some y->Alike K H n x y)/\Q (.bl b) H
def rUnlen (K:PySem.W.Frag) (b:Bool):R2:=fun x y H Q=>∃a c xs ys,x= .ref a/\y= .ref c/\SqL K H a xs/\SqL K H c ys/\xs.length≠ys.length/\Q (.bl b) H
section
variable {X:Cx}
theorem op_neA {n:Nat} (hu:X.A.units+1+n<cLine):OpR X (compareOp .NotEq) (rAlike X.K n false):=by
 intro pins s σ H x y v u Q I rx ry h;obtain ⟨a,c,xs,ys,rfl,rfl,hx,hy,hl,he,q⟩:=h
 cases rx
 cases ry
 obtain ⟨its,r,pl,hz⟩:=I.list hx;obtain ⟨its2,r2,pl2,hz2⟩:=I.list hy;have e1:=r.length;have e2:=r2.length;refine SeqAt.RcNeAt.lists (e:=fun _=>true) pl.isList pl2.isList (by rw [qAQ,qAQ];lia) (by lia) (alike_items I r r2 he (by show X.A.units+1+n<cLine;lia)) X.prog X.w X.xe _ ?_;rw [zI0];exact ⟨.bl false,H,I,rfl,q⟩
theorem OpR.either {f:Value->Value->Sem Value} {r r':R2} (h:OpR X f r) (h':OpR X f r'):OpR X f (fun x y H Q=>r x y H Q\/r' x y H Q):=by
 intro pins s σ H x y v u Q I rx ry q;rcases q with q| q
 ·exact h pins s σ H x y v u Q I rx ry q
 ·exact h' pins s σ H x y v u Q I rx ry q
end
end L2
namespace SM
open PySem PySem.StrLaws PySem.Builtin PySem.Builtin.Str
end SM
namespace L2
open PySem PySem.Spec PyProof.Rows
variable {M:List Addr}{H H1 H':Hp}{a D:Addr}{σ:St}{g:TG}{te:TE}
structure Cal (P:Program) (w:World) (K:PySem.W.Frag) (mg:Str->Option Value) (base:Heap) (x:Str) (k:Nat) (ps:List Str) (sp:Sp):Prop where
 to:∃(f:Addr) (fd:FuncData),mg x=some (.ref f)/\PySem.W.keepIn K (.ref f)=true/\zCd K fd ps []/\FnOk P w K mg base CX0 k f fd ps sp
theorem zAg {X:Cx} {x:Str} {k:Nat} {ps:List Str} {sp:Sp} {e:Expr} {es:List Expr} {p pos:Pos} {t:TA} (C:Cal X.prog X.w X.K X.mg X.base x k ps sp) (hr:Room k X.A) (hg:Gl X x) (ha:PA X (e::es) t)
  (hdb:(x==("__debug__" : Str))=false:=by decide) (he:starEach (e::es) X.env=(false,eval e X.env)::starEach es X.env:=by rfl) (hpl:(backTo pos (starEach es X.env)).any (·.1)=false:=by rfl) :
  PE X (.Call (.Name x p) (e::es) [] pos) (tCall sp [] E0 t):=by
 obtain ⟨f,fd,h1,h2,h3,h4⟩:=C.to;exact pe_call h4 hr hg h1 h2 h3 .nil pass0 ha hdb he hpl
theorem bo_max:bootBuiltins "max" = some (.builtin "max"):=by decide +kernel
theorem bo_all:bootBuiltins "all" = some (.builtin "all"):=by decide +kernel
theorem zAi:bootBuiltins "isinstance" = some (.builtin "isinstance"):=by decide +kernel
theorem bo_sorted:bootBuiltins "sorted" = some (.builtin "sorted"):=by decide +kernel
theorem bo_abs:bootBuiltins "abs" = some (.builtin "abs"):=by decide +kernel
theorem zFa:bootBuiltins "len" = some (.builtin "len"):=by decide +kernel
theorem zFb:bootBuiltins "int" = some (.type "int"):=by decide +kernel
theorem bo_str:bootBuiltins "str" = some (.type "str"):=by decide +kernel
theorem zGy:bootBuiltins "list" = some (.type "list"):=by decide +kernel
theorem zF4:bootBuiltins "tuple" = some (.type "tuple"):=by decide +kernel
theorem bo_set:bootBuiltins "set" = some (.type "set"):=by decide +kernel
theorem bo_bool:bootBuiltins "bool" = some (.type "bool"):=by decide +kernel
def Fre (H:Hp) (l:Addr):Prop:=H l=none
def Kp (M:List Addr) (H H':Hp):Prop:=∀b o,H b=some o->b∉M->H' b=some o
theorem Kp.refl :Kp M H H:=fun _ _ h _=>h
theorem Kp.trans {H2:Hp} (a:Kp M H H1) (b:Kp M H1 H2):Kp M H H2:=fun c o h n=>b c o (a c o h n) n
theorem Kp.weak {M':List Addr} (k:Kp M H H') (s:∀b,b∈M->b∈M'):Kp M' H H':=fun b o h n=>k b o h fun z=>n (s b z)
theorem Kp.new {M:List Addr} {l:Addr} {o:HO} (k:Kp M H H') (f:Fre H l):Kp M H (upd H' l o):=fun b u h n=>by
 rw [upd_ne (zAh h f)];exact k b u h n
theorem Kp.put {l:Addr} {o:HO} (k:Kp M H H') (f:l∈M):Kp M H (upd H' l o):=fun b u h n=>by
 rw [upd_ne (by intro e;subst e;exact n f)];exact k b u h n
theorem Kp.fre {l:Addr} (k:Kp M H H') (f:Fre H' l) (n:l∉M):Fre H l:=by
 unfold Fre
 cases q:H l with
 | none=>rfl
 | some o =>
  have:=k l o q n;unfold Fre at f;rw [f] at this;cases this
theorem Kp.at0 (k:Kp [] H H'):Same H H':=fun b o h=>k b o h (by simp)
theorem Kp.seq {K:PySem.W.Frag} {xs:List V} (e:Kp [] H H') (h:SqL K H a xs):SqL K H' a xs:=e.at0.seq h
theorem ne_fre {b:Addr} {o:HO} (f:Fre H b) (h:H a=some o):a≠b:=zAh h f
theorem nm1 {b:Addr} (h:a≠b):a∉[b]:=by simpa using h
theorem nm2 {b c:Addr} (h:a≠b) (h':a≠c):a∉[b,c]:=by simp;exact ⟨h,h'⟩
theorem zGz {α:Type} {xs:List α} {i:Int} {v:α} (h0:0<=i) (h:xs[i.toNat]?=some v):atI xs i=some v:=by
 have hl:i.toNat<xs.length:=(qAc.mp h).1;unfold atI ixN;rw [qAC h0,qAC (by lia)];exact h
theorem hu2 {A:Around} {k n:Nat} (hr:Room k A) (h:n<=60:=by decide):A.units+1+n<cLine:=by
 have:=hr.units;lia
theorem hu0 {A:Around} {k:Nat} (hr:Room k A):A.units<cLine:=by
 have:=hr.units;lia
theorem zDf {K:PySem.W.Frag} {t:Value} (h:(t==t)=true:=by rfl):PySem.W.kitOne K t t=some true:=by
 unfold PySem.W.kitOne;rw [qAC h]
theorem seq_mid {t u:TS} {D:Ends} (Mid:St->Hp->Prop) (h1:∀N:St->Hp->Prop,(∀σ H,Mid σ H->N σ H)->t {D with nx:=N} σ H) (h2:∀σ H,Mid σ H->u D σ H):tSeq t u D σ H:=h1 (u D) h2
theorem if_mid {tb:TS} {D:Ends} {b:Bool} (Mid:St->Hp->Prop) (h1:∀N:St->Hp->Prop,(∀σ H,Mid σ H->N σ H)->if b=true then tb {D with nx:=N} σ H else N σ H) (h2:∀σ H,Mid σ H->D.nx σ H) :
  if b=true then tb D σ H else tNext D σ H:=h1 D.nx h2
theorem zB9 {K:PySem.W.Frag} {ix:List (Option Nat)} {tt:TT} {QD:Hp->Prop} (xs:List V) (Pv:Nat->List V->St->Hp->Prop) (h0:Pv 0 [] (zCw σ ix) (upd H1 D (.lst [])))
  (hl:∀i ys τ H,Pv i ys τ H->SqL K H a xs)
  (hs:∀i x ys τ H,xs[i]?=some x->Pv i ys τ H->g x τ H fun τ' H4=>tt τ' H4 fun b H5=>if b=true then te τ' H5 fun v H6=>H6 D=some (.lst ys)/\ys.length<sizeLine/\Pv (i+1) (ys++[v]) τ' (upd H6 D (.lst (ys++[v]))) else Pv (i+1) ys τ' H5)
  (hd:∀ys τ H,Pv xs.length ys τ H->QD H) :
  ∃W:Nat->Nat->List V->St->Hp->Prop,(∃m,W 0 m [] (zCw σ ix) (upd H1 D (.lst [])))/\∀i m ys τ H2,W i m ys τ H2 ->
   ((Itl K a).stop i H2/\QD H2)\/((Itl K a).go i H2/\∃N:List V->St->Hp->Prop,(∀ys' τ' H',N ys' τ' H'->∃m',m'<m/\W (i+1) m' ys' τ' H')/\∀x H3,(Itl K a).yld i H2 x H3->g x τ H3 fun τ' H4=>tt τ' H4 fun b H5 =>
    if b=true then te τ' H5 fun v H6=>H6 D=some (.lst ys)/\ys.length<sizeLine/\N (ys++[v]) τ' (upd H6 D (.lst (ys++[v])))
    else N ys τ' H5):=by
 refine comp_by (Q:=fun _ H=>QD H) xs Pv h0 (fun i ys τ H p=>⟨fun x hx=>⟨⟨xs,x,hl i ys τ H p,hx⟩,fun y H' yl=>?_⟩,fun e=>⟨xs,hl i ys τ H p,by lia⟩⟩) hs hd;obtain ⟨e,z⟩:=yl;subst e;have:=z xs (hl i ys τ _ p);rw [hx] at this;exact ⟨rfl,(qAb this).symm⟩
theorem comp_str {z:Str} {ix:List (Option Nat)} {tt:TT} {QD:Hp->Prop} (Pv:Nat->List V->St->Hp->Prop) (h0:Pv 0 [] (zCw σ ix) (upd H1 D (.lst [])))
  (hs:∀i c ys τ H,z.cps.toList[i]?=some c->Pv i ys τ H->g (.str ⟨#[c]⟩) τ H fun τ' H4=>tt τ' H4 fun b H5=>if b=true then te τ' H5 fun v H6=>H6 D=some (.lst ys)/\ys.length<sizeLine/\Pv (i+1) (ys++[v]) τ' (upd H6 D (.lst (ys++[v]))) else Pv (i+1) ys τ' H5)
  (hd:∀ys τ H,Pv z.length ys τ H->QD H) :
  ∃W:Nat->Nat->List V->St->Hp->Prop,(∃m,W 0 m [] (zCw σ ix) (upd H1 D (.lst [])))/\∀i m ys τ H2,W i m ys τ H2 ->
   ((Its z).stop i H2/\QD H2)\/((Its z).go i H2/\∃N:List V->St->Hp->Prop,(∀ys' τ' H',N ys' τ' H'->∃m',m'<m/\W (i+1) m' ys' τ' H')/\∀x H3,(Its z).yld i H2 x H3->g x τ H3 fun τ' H4=>tt τ' H4 fun b H5 =>
    if b=true then te τ' H5 fun v H6=>H6 D=some (.lst ys)/\ys.length<sizeLine/\N (ys++[v]) τ' (upd H6 D (.lst (ys++[v])))
    else N ys τ' H5):=by
 refine ⟨fun i m ys τ H=>m=z.length - i/\i<=z.length/\Pv i ys τ H,⟨z.length,by simp,qAf _,h0⟩,?_⟩;rintro i m ys τ H ⟨rfl,hi,p⟩
 by_cases hlt:i<z.length
 ·refine .inr ⟨hlt,Pv (i+1),fun ys' τ' H' p'=>⟨z.length - (i+1),by lia,rfl,hlt,p'⟩,fun y H' yd=>?_⟩;obtain ⟨e1,c,e2,e3⟩:=yd;subst e1 e3;exact hs i c ys τ _ (by simpa using e2) p
 ·have e:i=z.length:=by lia
  subst e;exact .inl ⟨qAG _,hd ys τ H p⟩
theorem zB0 {K:PySem.W.Frag} {ix:List (Option Nat)} {QD:Hp->Prop} (xs:List V) (Pv:Nat->List V->St->Hp->Prop) (h0:Pv 0 [] (zCw σ ix) (upd H1 D (.lst [])))
  (hl:∀i ys τ H,Pv i ys τ H->SqL K H a xs)
  (hs:∀i x ys τ H,xs[i]?=some x->Pv i ys τ H->g x τ H fun τ' H4=>te τ' H4 fun v H6=>H6 D=some (.lst ys)/\ys.length<sizeLine/\Pv (i+1) (ys++[v]) τ' (upd H6 D (.lst (ys++[v]))))
  (hd:∀ys τ H,Pv xs.length ys τ H->QD H) :
  ∃W:Nat->Nat->List V->St->Hp->Prop,(∃m,W 0 m [] (zCw σ ix) (upd H1 D (.lst [])))/\∀i m ys τ H2,W i m ys τ H2 ->
   ((Itl K a).stop i H2/\QD H2)\/((Itl K a).go i H2/\∃N:List V->St->Hp->Prop,(∀ys' τ' H',N ys' τ' H'->∃m',m'<m/\W (i+1) m' ys' τ' H')/\∀x H3,(Itl K a).yld i H2 x H3->g x τ H3 fun τ' H4=>tTrue τ' H4 fun b H5 =>
    if b=true then te τ' H5 fun v H6=>H6 D=some (.lst ys)/\ys.length<sizeLine/\N (ys++[v]) τ' (upd H6 D (.lst (ys++[v])))
    else N ys τ' H5):=zB9 (tt:=tTrue) xs Pv h0 hl hs hd
theorem comp_str0 {z:Str} {ix:List (Option Nat)} {QD:Hp->Prop} (Pv:Nat->List V->St->Hp->Prop) (h0:Pv 0 [] (zCw σ ix) (upd H1 D (.lst [])))
  (hs:∀i c ys τ H,z.cps.toList[i]?=some c->Pv i ys τ H->g (.str ⟨#[c]⟩) τ H fun τ' H4=>te τ' H4 fun v H6=>H6 D=some (.lst ys)/\ys.length<sizeLine/\Pv (i+1) (ys++[v]) τ' (upd H6 D (.lst (ys++[v]))))
  (hd:∀ys τ H,Pv z.length ys τ H->QD H) :
  ∃W:Nat->Nat->List V->St->Hp->Prop,(∃m,W 0 m [] (zCw σ ix) (upd H1 D (.lst [])))/\∀i m ys τ H2,W i m ys τ H2 ->
   ((Its z).stop i H2/\QD H2)\/((Its z).go i H2/\∃N:List V->St->Hp->Prop,(∀ys' τ' H',N ys' τ' H'->∃m',m'<m/\W (i+1) m' ys' τ' H')/\∀x H3,(Its z).yld i H2 x H3->g x τ H3 fun τ' H4=>tTrue τ' H4 fun b H5 =>
    if b=true then te τ' H5 fun v H6=>H6 D=some (.lst ys)/\ys.length<sizeLine/\N (ys++[v]) τ' (upd H6 D (.lst (ys++[v])))
    else N ys τ' H5):=comp_str (tt:=tTrue) Pv h0 hs hd
section
variable {X:Cx} {K:PySem.W.Frag}
theorem zF2 (hK:X.K=K:=by rfl):IxR X (rIxL K):=by subst hK;exact zBf
theorem zIx (hK:X.K=K:=by rfl):zCc X (.builtin "len") (fun xs H Q=>∃p ys,xs=[.ref p]/\(SqL K H p ys\/SqT K H p ys)/\Q (.int ys.length) H):=by subst hK;exact zA2
theorem zFl (hK:X.K=K:=by rfl):OpR X (compareOp .In) (rIn K false):=by subst hK;exact zGi
theorem zEz (hK:X.K=K:=by rfl):OpR X (compareOp .NotIn) (rIn K true):=by subst hK;exact zFu
end
theorem Kp.drop {H2:Hp} {p:Addr} (k1:Kp [] H H1) (f:Fre H p) (k2:Kp [p] H1 H2):Kp [] H H2:=fun b o h _=>k2 b o (k1 b o h (by simp)) (nm1 (ne_fre f h))
end L2
namespace Tim
open PySem PyProof.Rows
variable {i:Nat}{st:SortSt}
def gal:Bool->Keyed->Array Keyed->Nat->Nat->Nat->StateT SortSt Sem (Option Nat):=sortPriv% PySem.Builtin.gallop
def mLo:Array Keyed->Array Keyed->StateT SortSt Sem (Array Keyed):=sortPriv% PySem.Builtin.mergeLo
def mHi:Array Keyed->Array Keyed->StateT SortSt Sem (Array Keyed):=sortPriv% PySem.Builtin.mergeHi
def kk (κ:KeyKind) (p:Keyed):κ.α:=(κ.keyOf p.1).getD κ.dflt
def Has (κ:KeyKind) (p:Keyed):Prop:=∃a,κ.keyOf p.1=some a
theorem Has.key {κ:KeyKind} {p:Keyed} (h:Has κ p):κ.keyOf p.1=some (kk κ p):=by
 obtain ⟨a,e⟩:=h;unfold kk;rw [e];rfl
theorem KK_at {κ:KeyKind} {xs:Array Keyed} {p:Keyed} (h:xs[i]?=some p):KK κ xs i=kk κ p:=by
 unfold KK kk;rw [h]
def CmpOk (prog:Program) (w:World) (A:Around) (s:Shared) (kd:SortKind) (κ:KeyKind):Prop :=
 ∀(E:Value->Shared->Prop) (x y:Value) (a b:κ.α) (Q:Bool->Shared->Prop),κ.keyOf x=some a->κ.keyOf y=some b->Q (κ.blt a b) s->wpAny (model prog w) A (keyLt' kd x y) Q E s
section
variable {prog:Program} {w:World} {A:Around} {E:Value->Shared->Prop} {s:Shared} {kd:SortKind} {κ:KeyKind}
theorem w_lt {x y:Keyed} {Q:Option Bool->SortSt->Prop} (C:CmpOk prog w A s kd κ) (hk:kindOf st=kd) (hx:Has κ x) (hy:Has κ y) (h:Q (some (κ.blt (kk κ x) (kk κ y))) st):wpS (model prog w) A E s (lt' x y) Q st:=by
 rw [lt'_eq];refine qAF (qBM ?_);rw [hk];exact qAF (qBi (qBa (C _ x.1 y.1 _ _ _ hx.key hy.key ⟨rfl,qAH h⟩)))
theorem zA8 {arr:Array Keyed} {p:Keyed} {Q:Keyed->SortSt->Prop} (e:arr[i]?=some p) (h:Q p st):wpS (model prog w) A E s (elem' arr i) Q st:=by
 rw [elem'_eq,e];exact qAH h
theorem w_ltAt {j:Nat} {Q:Option Bool->SortSt->Prop} (C:CmpOk prog w A s kd κ) (hk:kindOf st=kd) (hi:∃p,(arrOf st)[i]?=some p/\Has κ p) (hj:∃p,(arrOf st)[j]?=some p/\Has κ p)
  (h:Q (some (κ.blt (KK κ (arrOf st) i) (KK κ (arrOf st) j))) st):wpS (model prog w) A E s (ltAt' i j) Q st:=by
 obtain ⟨p,e1,h1⟩:=hi;obtain ⟨q,e2,h2⟩:=hj;rw [KK_at e1,KK_at e2] at h;rw [ltAt'_eq];exact qAF (qBM (qAF (zA8 e1 (qAF (zA8 e2 (w_lt C hk h1 h2 h))))))
def byd (left:Bool) (key:Keyed) (arr:Array Keyed) (base i:Nat):StateT SortSt Sem (Option Bool):=do
 let x<-elem' arr (base+i)
 if left=true then lt' x key else (do let r<-lt' key x;pure (r.map fun b=>!b))
theorem w_byd {left:Bool} {key:Keyed} {arr:Array Keyed} {base:Nat} {Q:Option Bool->SortSt->Prop} (C:CmpOk prog w A s kd κ) (hk:kindOf st=kd) (hkey:Has κ key) (hi:∃p,arr[base+i]?=some p/\Has κ p)
  (h:Q (some (if left=true then κ.blt (KK κ arr (base+i)) (kk κ key) else !κ.blt (kk κ key) (KK κ arr (base+i)))) st):wpS (model prog w) A E s (byd left key arr base i) Q st:=by
 obtain ⟨p,e,hp⟩:=hi;rw [KK_at e] at h;refine qAF (zA8 e ?_)
 cases left with
 | true=>exact w_lt C hk hp hkey h
 | false=>exact qAF (w_lt C hk hkey hp (qAH h))
end
end Tim
namespace ST
open PySem PySem.SetTable
variable {xs:Array Nat}{i j mask N:Nat}{α:Type}{hs:List Int}{b:Addr}
abbrev Rise (l:List Nat):Prop:=l.Pairwise (·<·)
theorem zD2 (hr:Rise xs.toList) {k:Nat} {x y:Nat} (hik:i<k) (ex:xs[i]?=some x) (ey:xs[k]?=some y):x<y:=by
 rw [<-qAm] at ex ey;obtain ⟨hi,rfl⟩:=qAc.mp ex;obtain ⟨hk,rfl⟩:=qAc.mp ey;exact List.pairwise_iff_getElem.mp hr i k hi hk hik
structure Bel (xs:Array Nat) (j r:Nat):Prop where
 le:r<=xs.size
 lo:∀i x,i<r->xs[i]?=some x->x<j
 hi:∀i x,r<=i->xs[i]?=some x->j<=x
theorem zIz (hr:Rise xs.toList) :∀(fuel lo hi:Nat),hi - lo<=fuel->lo<=hi->hi<=xs.size->(∀i x,i<lo->xs[i]?=some x->x<j)->(∀i x,hi<=i->xs[i]?=some x->j<=x)->Bel xs j (below.go xs j fuel lo hi)
 | 0,lo,hi,h1,h2,h3,h4,h5=>by
  have e:lo=hi:=by lia
  subst e;exact ⟨h3,h4,h5⟩
 | fuel+1,lo,hi,h1,h2,h3,h4,h5=>by
  unfold below.go
  by_cases c:lo<hi
  ·rw [qAC c];have hm:(lo+hi) / 2<xs.size:=by lia
   have em:xs[(lo+hi) / 2]?=some xs[(lo+hi) / 2]:=by simp
   have eD:xs.getD ((lo+hi) / 2) j=xs[(lo+hi) / 2]:=by simp [Array.getD,hm]
   show Bel xs j (if xs.getD ((lo+hi) / 2) j<j then _ else _);rw [eD]
   by_cases d:xs[(lo+hi) / 2]<j
   ·rw [qAC d];refine zIz hr fuel _ hi (by lia) (by lia) h3 (fun i x hi' ex=>?_) h5
    by_cases q:i=(lo+hi) / 2
    ·subst q;rw [em] at ex;cases ex;exact d
    ·have:=zD2 hr (show i<(lo+hi) / 2 by lia) ex em;lia
   ·rw [qAB d];refine zIz hr fuel lo _ (by lia) (by lia) (by lia) h4 (fun i x hi' ex=>?_)
    by_cases q:i=(lo+hi) / 2
    ·subst q;rw [em] at ex;cases ex;lia
    ·have:=zD2 hr (show (lo+hi) / 2<i by lia) em ex;lia
  ·rw [qAB c];have e:lo=hi:=by lia
   subst e;exact ⟨h3,h4,h5⟩
theorem zD4 (hr:Rise xs.toList) (j:Nat):Bel xs j (below xs j) :=
 zIz hr xs.size 0 xs.size (by lia) (by lia) (qAG _) (fun i x h=>by lia) (fun i x h e=>by
  have:=(qBH.mp e).1;lia)
theorem Bel.at (hr:Rise xs.toList) {r:Nat} (B:Bel xs j r) (e:xs[i]?=some j):r=i:=by
 rcases Nat.lt_trichotomy r i with z| z| z
 ·have hi:i<xs.size:=(qBH.mp e).1;have er:xs[r]?=some (xs[r]'(by lia)):=by simp
  have h1:=B.hi r _ (qAG _) er;have h2:=zD2 hr z er e;lia
 ·exact z
 ·have:=B.lo i j z e;lia
def Tb (mask:Nat):SetTable:={mask:=mask,place:=#[],dummies:=#[],finger:=0,led:=false,moves:=0,plain:=false}
def pr (mask:Nat) (h:Int):Nat->Probe
 | 0=>(Tb mask).probeStart h
 | n+1=>(Tb mask).advance (pr mask h n)
def rs (mask:Nat) (h:Int):Nat->Nat×Nat
 | 0=>(bits h % (mask+1),bits h)
 | r+1=>leap mask (rs mask h r).1 (rs mask h r).2
def stt (mask:Nat) (h:Int):Nat->Nat
 | 0=>0
 | r+1=>stt mask h r+(runEnd mask (rs mask h r).1 - (rs mask h r).1+1)
theorem rs_le (mask:Nat) (h:Int):∀r,(rs mask h r).1<=mask
 | 0=>Nat.le_of_lt_succ (Nat.mod_lt _ (Nat.succ_pos _))
 | r+1=>Nat.le_of_lt_succ (Nat.mod_lt _ (Nat.succ_pos _))
theorem run_le (mask i:Nat) (hi:i<=mask):i<=runEnd mask i/\runEnd mask i<=mask/\runEnd mask i - i<=9:=by
 unfold runEnd;split<;>lia
theorem stt_le (mask:Nat) (h:Int):∀r,stt mask h r<=10*r
 | 0=>qAG _
 | r+1=>by
  have h1:=stt_le mask h r;have h2:=(run_le mask _ (rs_le mask h r)).2.2;show stt mask h r+(runEnd mask (rs mask h r).1 - (rs mask h r).1+1)<=_;lia
theorem adv_more (mask:Nat) (p:Probe) (h:p.more>0):(Tb mask).advance p={p with j:=p.j+1,more:=p.more - 1}:=by
 unfold advance;rw [qAC h]
theorem adv_leap (mask:Nat) (p:Probe) (h:p.more=0):(Tb mask).advance p={p with j:=(leap mask p.i p.perturb).1,more:=runEnd mask (leap mask p.i p.perturb).1 - (leap mask p.i p.perturb).1,i:=(leap mask p.i p.perturb).1,perturb:=(leap mask p.i p.perturb).2}:=by
 unfold advance;rw [qAB (by lia)];rfl
theorem zEx (mask:Nat) (h:Int):∀(r k:Nat),k<=runEnd mask (rs mask h r).1 - (rs mask h r).1 ->
  pr mask h (stt mask h r+k)={j:=(rs mask h r).1+k,more:=runEnd mask (rs mask h r).1 - (rs mask h r).1 - k,i:=(rs mask h r).1,perturb:=(rs mask h r).2,dummy:=none}
 | 0,0,_=>rfl
 | r+1,0,_=>by
  have ih:=zEx mask h r (runEnd mask (rs mask h r).1 - (rs mask h r).1) (qAG _);show pr mask h (stt mask h r+(runEnd mask (rs mask h r).1 - (rs mask h r).1)+1)=_;show (Tb mask).advance (pr mask h (stt mask h r+(runEnd mask (rs mask h r).1 - (rs mask h r).1)))=_;rw [ih,adv_leap _ _ (by simp)];rfl
 | r,k+1,hk=>by
  have ih:=zEx mask h r k (by lia);show (Tb mask).advance (pr mask h (stt mask h r+k))=_;rw [ih,adv_more _ _ (by show _ - k>0;lia)];simp only [Probe.mk.injEq];exact ⟨by lia,by lia,trivial,trivial,trivial⟩
theorem pr_at (mask:Nat) (h:Int) (n:Nat):∃r k,n=stt mask h r+k/\k<=runEnd mask (rs mask h r).1 - (rs mask h r).1:=by
 induction n with
 | zero=>exact ⟨0,0,rfl,qAf _⟩
 | succ n ih =>
  obtain ⟨r,k,e,hk⟩:=ih
  by_cases c:k<runEnd mask (rs mask h r).1 - (rs mask h r).1
  ·exact ⟨r,k+1,by lia,c⟩
  ·refine ⟨r+1,0,?_,qAf _⟩;show n+1=stt mask h r+(runEnd mask (rs mask h r).1 - (rs mask h r).1+1)+0;lia
theorem pr_le (mask:Nat) (h:Int) (n:Nat):(pr mask h n).j<=mask:=by
 obtain ⟨r,k,e,hk⟩:=pr_at mask h n;rw [e,zEx mask h r k hk];have:=run_le mask _ (rs_le mask h r);show (rs mask h r).1+k<=mask;lia
theorem pr_dummy (mask:Nat) (h:Int) (n:Nat):(pr mask h n).dummy=none:=by
 obtain ⟨r,k,e,hk⟩:=pr_at mask h n;rw [e,zEx mask h r k hk]
theorem bits_lt (h:Int):bits h<2^64:=by
 unfold bits;have h1:=qBS h (show (2^64:Int)≠0 by decide);have h2:=qBj h (show (0:Int)<2^64 by decide);lia
theorem rs_pert (mask:Nat) (h:Int):∀r,(rs mask h r).2=bits h / 32^r
 | 0=>by simp [rs]
 | r+1=>by
  show (rs mask h r).2 / 32=_;rw [rs_pert mask h r,Nat.div_div_eq_div_mul,Nat.pow_succ]
theorem rs_pert0 (mask:Nat) (h:Int) (r:Nat) (hr:13<=r):(rs mask h r).2=0:=by
 rw [rs_pert];have h1:=bits_lt h;have h2:32^13<=32^r:=qCM (by decide) hr;have h3:(2:Nat)^64<32^13:=by decide
 exact Nat.div_eq_of_lt (by lia)
def f5 (mask i:Nat):Nat:=(i*5+1) % (mask+1)
def it5 (mask:Nat):Nat->Nat->Nat
 | 0,i=>i
 | n+1,i=>it5 mask n (f5 mask i)
theorem zGr (mask:Nat):∀(a b i:Nat),it5 mask (a+b) i=it5 mask b (it5 mask a i)
 | 0,b,i=>by rw [Nat.zero_add];rfl
 | a+1,b,i=>by
  rw [show a+1+b=(a+b)+1 by lia];show it5 mask (a+b) (f5 mask i)=it5 mask b (it5 mask a (f5 mask i));exact zGr mask a b _
theorem rs_it5 (mask:Nat) (h:Int) (n:Nat):(rs mask h (13+n)).1=it5 mask n (rs mask h 13).1:=by
 induction n with
 | zero=>rfl
 | succ n ih =>
  show (leap mask (rs mask h (13+n)).1 (rs mask h (13+n)).2).1=_;rw [rs_pert0 mask h (13+n) (by lia),ih,show n+1=n+1 from rfl,zGr mask n 1];show ((it5 mask n _)*5+1+0 / 32) % (mask+1)=f5 mask (it5 mask n _);unfold f5;simp
def Msk (mask:Nat):Prop:=mask=7\/mask=31\/mask=127\/mask=511
def orb (mask:Nat):Nat->Nat->List Nat
 | 0,_=>[]
 | n+1,i=>i::orb mask n (f5 mask i)
theorem orb_mem (mask:Nat):∀(n i s:Nat),s∈orb mask n i->∃a,a<n/\it5 mask a i=s
 | 0,i,s,h=>by simp [orb] at h
 | n+1,i,s,h=>by
  rcases qAO.mp h with z| z
  ·exact ⟨0,by lia,z.symm⟩
  ·obtain ⟨a,ha,e⟩:=orb_mem mask n (f5 mask i) s z;exact ⟨a+1,by lia,e⟩
theorem orb_all (hm:Msk mask):(List.range (mask+1)).all (fun s=>(orb mask (mask+1) 0).contains s)=true/\it5 mask (mask+1) 0=0:=by
 rcases hm with rfl| rfl| rfl| rfl
 ·exact ⟨by decide +kernel,by decide +kernel⟩
 ·exact ⟨by decide +kernel,by decide +kernel⟩
 ·exact ⟨by decide +kernel,by decide +kernel⟩
 ·exact ⟨by decide +kernel,by decide +kernel⟩
theorem cyc (hm:Msk mask) (i s:Nat) (hi:i<=mask) (hs:s<=mask):∃r,r<=mask/\it5 mask r i=s:=by
 obtain ⟨h1,h2⟩:=orb_all hm
 have get:∀x,x<=mask->∃a,a<mask+1/\it5 mask a 0=x:=fun x hx=>by
  have:=qBr.mp h1 x (qBF.mpr (by lia));exact orb_mem mask (mask+1) 0 x (by simpa using this)
 obtain ⟨a,ha,ea⟩:=get i hi;obtain ⟨b,hb,eb⟩:=get s hs
 by_cases c:a<=b
 ·refine ⟨b - a,by lia,?_⟩;rw [<-ea,<-zGr,show a+(b - a)=b by lia,eb]
 ·refine ⟨mask+1 - a+b,by lia,?_⟩;rw [<-ea,<-zGr,show a+(mask+1 - a+b)=mask+1+b by lia,zGr,h2,eb]
theorem pr_all (hm:Msk mask) (h:Int) (s:Nat) (hs:s<=mask):∃r,r<=13+mask/\(rs mask h r).1=s:=by
 obtain ⟨r,hr,e⟩:=cyc hm (rs mask h 13).1 s (rs_le mask h 13) hs;exact ⟨13+r,by lia,by rw [rs_it5,e]⟩
theorem free_slot {L:List Nat} (hL:L.length<=mask):∃s,s<=mask/\s∉L:=by
 apply qBC;intro h
 have sub:∀s,s∈List.range (mask+1)->s∈L:=fun s hs=>by
  apply qBC;intro q;exact h ⟨s,by have:=qBF.mp hs;lia,q⟩
 have:=(List.nodup_range (n:=mask+1)).length_le_of_subset sub;rw [List.length_range] at this;lia
theorem pr_free (hm:Msk mask) (h:Int) {L:List Nat} (hL:L.length<=mask):∃n,n<10*turns mask/\(pr mask h n).j∉L:=by
 obtain ⟨s,hs,q⟩:=free_slot hL;obtain ⟨r,hr,e⟩:=pr_all hm h s hs;refine ⟨stt mask h r,?_,?_⟩
 ·have:=stt_le mask h r;unfold turns;lia
 ·have:=zEx mask h r 0 (qAf _);rw [qCm] at this;rw [this];show (rs mask h r).1+0∉L;rw [qCm,e];exact q
theorem zHr (hm:Msk mask) (h:Int) {L:List Nat} (hL:L.length<=mask):∃n,n<10*turns mask/\(pr mask h n).j∉L/\∀m,m<n->(pr mask h m).j∈L:=by
 obtain ⟨n,hn,q⟩:=pr_free hm h hL
 induction n using Nat.strongRecOn with
 | _ n ih =>
  by_cases c:∃m,m<n/\(pr mask h m).j∉L
  ·obtain ⟨m,hm',qm⟩:=c;exact ih m hm' (by lia) qm
  ·refine ⟨n,hn,q,fun m hmn=>?_⟩;apply qBC;intro z;exact c ⟨m,hmn,z⟩
structure TOk (t:SetTable) (hs:List Int):Prop where
 m:Msk t.mask
 d:t.dummies=#[]
 r:Rise t.place.toList
 l:∀j∈t.place.toList,j<=t.mask
 n:t.place.size=hs.length
 f:t.place.size<=t.mask
 reach:∀(i j:Nat) (h:Int),t.place[i]?=some j->hs[i]?=some h->∃n,(pr t.mask h n).j=j/\∀m,m<n->(pr t.mask h m).j∈t.place.toList
theorem fresh_ok (fi mo:Nat) (led:Bool):TOk (SetTable.fresh fi mo led) [] :=
 ⟨.inl rfl,rfl,List.Pairwise.nil,(fun j h=>absurd (show j∈([]:List Nat) from h) (by simp)),rfl,qAf _,(fun i j h _ e=>by simp at e)⟩
theorem has_nil (j:Nat):has #[] j=false:=by
 unfold SetTable.has;simp
section
variable {t:SetTable} {hs:List Int}
theorem slot_live (T:TOk t hs) (e:t.place[i]?=some j):t.slot j= .live i:=by
 have b:=(zD4 T.r j).at T.r e;unfold slot;rw [b];show (if (t.place[i]?==some j)=true then _ else _)=_;rw [e];simp
theorem slot_empty (T:TOk t hs) (h:j∉t.place.toList):t.slot j= .empty:=by
 unfold slot
 have e:(t.place[below t.place j]?==some j)=false:=by
  rw [qA7];intro z;exact h (qAY (i:=below t.place j) (by rw [qAm];exact z))
 simp only [e,T.d,has_nil];simp
theorem mem_at (h:j∈xs.toList):∃i:Nat,xs[i]?=some j:=by
 obtain ⟨i,hi,e⟩:=qBL.mp h;exact ⟨i,by rw [<-qAm];exact qAc.mpr ⟨hi,e⟩⟩
def Oth (t:SetTable) (hashAt:Nat->Int) (h:Int) (m:Nat):Prop:=∃i:Nat,t.place[i]?=some (pr t.mask h m).j/\hashAt i≠h
theorem adv_pr (t:SetTable) (h:Int) (n:Nat):t.advance (pr t.mask h n)=pr t.mask h (n+1):=rfl
theorem go_ok (T:TOk t hs) (hashAt:Nat->Int) (h:Int) (hN:(pr t.mask h N).j∉t.place.toList) (hb:∀m,m<N->(pr t.mask h m).j∈t.place.toList):∀(d n fuel:Nat),N=n+d->d<fuel ->
  (probe.go t hashAt h fuel (pr t.mask h n)=some (.empty (pr t.mask h N).j none)/\∀m,n<=m->m<N->Oth t hashAt h m) \/
  ∃m i,n<=m/\m<N/\t.place[i]?=some (pr t.mask h m).j/\hashAt i=h/\probe.go t hashAt h fuel (pr t.mask h n)=some (.candidate (pr t.mask h m).j i (pr t.mask h (m+1)))/\∀m',n<=m'->m'<m->Oth t hashAt h m'
 | 0,n,fuel+1,e,_=>by
  have e:N=n:=by lia
  subst e;left;refine ⟨?_,fun m h1 h2=>by lia⟩;unfold probe.go;rw [slot_empty T hN];show some (Met.empty _ (pr t.mask h N).dummy)=_;rw [pr_dummy]
 | d+1,n,fuel+1,e,hf=>by
  obtain ⟨i,ei⟩:=mem_at (hb n (by lia));unfold probe.go;rw [slot_live T ei]
  by_cases c:hashAt i=h
  ·right;refine ⟨n,i,qAG _,by lia,ei,c,?_,fun m' h1 h2=>by lia⟩;show (if (hashAt i==h)=true then _ else _)=_;rw [qAC (by simpa using c),adv_pr]
  ·have q:(if (hashAt i==h)=true then some (Met.candidate (pr t.mask h n).j i (t.advance (pr t.mask h n))) else probe.go t hashAt h fuel (t.advance (pr t.mask h n)))=probe.go t hashAt h fuel (pr t.mask h (n+1)):=by
    rw [qAB (by simpa using c),adv_pr]
   rcases go_ok T hashAt h hN hb d (n+1) fuel (by lia) (by lia) with ⟨z1,z2⟩| ⟨m,i',z1,z2,z3,z4,z5,z6⟩
   ·left;refine ⟨q.trans z1,fun m h1 h2=>?_⟩
    by_cases cm:m=n
    ·subst cm;exact ⟨i,ei,c⟩
    ·exact z2 m (by lia) h2
   ·right;refine ⟨m,i',by lia,z2,z3,z4,q.trans z5,fun m' h1 h2=>?_⟩
    by_cases cm:m'=n
    ·subst cm;exact ⟨i,ei,c⟩
    ·exact z6 m' (by lia) h2
 | _,_,0,_,h=>by lia
theorem zIp (xs:Array α) (p:Nat) (x:α) (hp:p<=xs.size):(insertAt xs p x).toList=xs.toList.take p++x::xs.toList.drop p:=by
 unfold insertAt;rw [qCn,qCN,qBs,qBs,List.extract_eq_drop_take,List.extract_eq_drop_take];rw [qBb (l:=xs.toList.drop p) (by simp)];simp
theorem ins_rise (hr:Rise xs.toList) (hj:j∉xs.toList):Rise (insertAt xs (below xs j) j).toList:=by
 have B:=zD4 hr j;rw [zIp _ _ _ B.le];refine List.pairwise_append.mpr ⟨hr.sublist (List.take_sublist _ _),List.pairwise_cons.mpr ⟨fun y hy=>?_,hr.sublist (List.drop_sublist _ _)⟩,fun x hx y hy=>?_⟩
 ·obtain ⟨i,hi,rfl⟩:=qBL.mp hy;rw [qB1] at hi
  have e:xs[below xs j+i]?=some (xs.toList.drop (below xs j))[i]:=by
   rw [<-qAm,<-List.getElem?_drop];simp
  have h1:=B.hi _ _ (qCO _ i) e;have h2:(xs.toList.drop (below xs j))[i]≠j:=fun z=>hj (z▸qC5 hy);lia
 ·have hxj:x<j:=by
   obtain ⟨i,hi,rfl⟩:=qBL.mp hx;rw [qAj] at hi
   have e:xs[i]?=some (xs.toList.take (below xs j))[i]:=by
    rw [<-qAm,<-qC1 (show i<below xs j by lia)];exact qBN _
   exact B.lo i _ (by lia) e
  rcases qAO.mp hy with z| z
  ·rw [z];exact hxj
  ·obtain ⟨i,hi,rfl⟩:=qBL.mp z;rw [qB1] at hi
   have e:xs[below xs j+i]?=some (xs.toList.drop (below xs j))[i]:=by
    rw [<-qAm,<-List.getElem?_drop];simp
   have h1:=B.hi _ _ (qCO _ i) e;lia
theorem zFn {β:Type} {L:List α} {M:List β} (hl:L.length=M.length) {p:Nat} (hp:p<=L.length) {x:α} {y:β} {u:α} {v:β} (h1:(L.take p++x::L.drop p)[i]?=some u) (h2:(M.take p++y::M.drop p)[i]?=some v) :
  (u=x/\v=y)\/∃i':Nat,L[i']?=some u/\M[i']?=some v:=by
 have l1:(L.take p).length=p:=by rw [qAj];lia
 have l2:(M.take p).length=p:=by rw [qAj];lia
 by_cases c:i<p
 ·rw [qCJ (by lia),qC1 c] at h1 h2;exact .inr ⟨i,h1,h2⟩
 ·rw [qCI (by lia)] at h1 h2;rw [l1] at h1;rw [l2] at h2
  cases e:i - p with
  | zero =>
   rw [e] at h1 h2;exact .inl ⟨(by simpa using h1.symm),(by simpa using h2.symm)⟩
  | succ k =>
   rw [e] at h1 h2;rw [qCP,List.getElem?_drop] at h1 h2;exact .inr ⟨p+k,h1,h2⟩
theorem put_ok (T:TOk t hs) (h:Int) (hN:(pr t.mask h N).j∉t.place.toList) (hb:∀m,m<N->(pr t.mask h m).j∈t.place.toList) (hf:t.place.size+1<=t.mask) :
  TOk (t.put (pr t.mask h N).j).1 (hs.take (t.put (pr t.mask h N).j).2++h::hs.drop (t.put (pr t.mask h N).j).2):=by
 have B:=zD4 T.r (pr t.mask h N).j;have ep:(t.put (pr t.mask h N).j).2=below t.place (pr t.mask h N).j:=rfl;have el:(t.put (pr t.mask h N).j).1.place=insertAt t.place (below t.place (pr t.mask h N).j) (pr t.mask h N).j:=rfl;have em:(t.put (pr t.mask h N).j).1.mask=t.mask:=rfl;have tl:=zIp t.place (below t.place (pr t.mask h N).j) (pr t.mask h N).j B.le
 have mem:∀j,j∈t.place.toList->j∈(insertAt t.place (below t.place (pr t.mask h N).j) (pr t.mask h N).j).toList:=fun j hj=>by
  rw [tl];have:j∈t.place.toList.take (below t.place (pr t.mask h N).j)++t.place.toList.drop (below t.place (pr t.mask h N).j):=by rw [qB5];exact hj
  rcases qAS.mp this with z| z
  ·exact qAk _ z
  ·exact qAl _ (qAP _ z)
 have sz:(insertAt t.place (below t.place (pr t.mask h N).j) (pr t.mask h N).j).size=t.place.size+1:=by
  have:=qAg List.length tl;simp only [qBo,qAa,qAZ,qAj,qB1] at this;have:=B.le;lia
 refine ⟨T.m,?_,ins_rise T.r hN,fun j hj=>?_,?_,?_,fun i j h' e1 e2=>?_⟩
 ·show (if has t.dummies (pr t.mask h N).j then _ else t.dummies)=#[];rw [T.d,has_nil];rfl
 ·rw [em];rw [el,tl] at hj;rcases qAS.mp hj with z| z
  ·exact T.l j (qCQ z)
  ·rcases qAO.mp z with z| z
   ·rw [z];exact pr_le _ _ _
   ·exact T.l j (qC5 z)
 ·rw [el,sz,ep,qAa,qAZ,qAj,qB1];have:=B.le;have:=T.n;lia
 ·rw [el,sz];exact hf
 ·rw [em];rw [el,<-qAm,tl] at e1;rw [ep] at e2;rw [el];rcases zFn (L:=t.place.toList) (M:=hs) (by simpa using T.n) (by simpa using B.le) e1 e2 with ⟨z1,z2⟩| ⟨i',z1,z2⟩
  ·subst z1 z2;exact ⟨N,rfl,fun m hm=>mem _ (hb m hm)⟩
  ·obtain ⟨n,q1,q2⟩:=T.reach i' j h' (by rw [<-qAm];exact z1) z2;exact ⟨n,q1,fun m hm=>mem _ (q2 m hm)⟩
end
structure Ow (mask:Nat) (hs:List Int) (owner:Array (Option Nat)) (sl:List Nat):Prop where
 z:owner.size=mask+1
 n:sl.length=hs.length
 nd:sl.Nodup
 l:∀j∈sl,j<=mask
 a:∀(k j:Nat),sl[k]?=some j->owner[j]?=some (some k)
 e:∀j,j<=mask->j∉sl->owner[j]?=some none
 reach:∀(k j:Nat) (h:Int),sl[k]?=some j->hs[k]?=some h->∃n,(pr mask h n).j=j/\∀m,m<n->(pr mask h m).j∈sl
theorem zIh {owner:Array (Option Nat)} {sl:List Nat} (O:Ow mask hs owner sl) (hj:j<=mask):((owner.getD j (some 0)).isNone=true)↔j∉sl:=by
 have hz:j<owner.size:=by rw [O.z];lia
 have eD:owner.getD j (some 0)=owner[j]:=by simp [Array.getD,hz]
 rw [eD];constructor
 ·intro h q;obtain ⟨k,hk,e⟩:=qBL.mp q;have:=O.a k j (qAc.mpr ⟨hk,e⟩);rw [Array.getElem?_eq_getElem hz] at this;rw [qAb this] at h;simp at h
 ·intro q;have:=O.e j hj q;rw [Array.getElem?_eq_getElem hz] at this;rw [qAb this];rfl
theorem free_go {owner:Array (Option Nat)} {sl:List Nat} (hm:Msk mask) (O:Ow mask hs owner sl) (hl:sl.length<=mask) (h:Int) (hN:(pr mask h N).j∉sl) (hb:∀m,m<N->(pr mask h m).j∈sl) {R:Nat} (hR:(rs mask h R).1∉sl) :
  ∀(fuel r:Nat),stt mask h r<=N->R<r+fuel->layClean.free mask owner fuel (rs mask h r).1 (rs mask h r).2=some (pr mask h N).j
 | 0,r,h1,h2=>by
  exfalso
  have key:∀d,stt mask h R<=stt mask h (R+d)/\(0<d->stt mask h R<stt mask h (R+d)):=by
   intro d
   induction d with
   | zero=>exact ⟨qAG _,fun z=>by lia⟩
   | succ d ih =>
    have e:stt mask h (R+(d+1))=stt mask h (R+d)+(runEnd mask (rs mask h (R+d)).1 - (rs mask h (R+d)).1+1):=rfl;exact ⟨by lia,fun _=>by lia⟩
  obtain ⟨d,rfl⟩:∃d,r=R+d:=⟨r - R,by lia⟩;have hd:0<d:=by lia
  have:=(key d).2 hd;have q:=hb (stt mask h R) (by lia);have e:=zEx mask h R 0 (qAf _);rw [qCm] at e;rw [e] at q;exact hR (by simpa using q)
 | fuel+1,r,h1,h2=>by
  have rl:=run_le mask _ (rs_le mask h r);unfold layClean.free
  cases q:(List.range (runEnd mask (rs mask h r).1+1 - (rs mask h r).1)).find? fun k=>(owner.getD ((rs mask h r).1+k) (some 0)).isNone with
  | some k =>
   have q1:=List.find?_some q;have q2:=qC6 q;rw [qBF] at q2;have q1:((owner.getD ((rs mask h r).1+k) (some 0)).isNone)=true:=q1;rw [zIh O (by lia)] at q1;have e:=zEx mask h r k (by lia);have hk:(pr mask h (stt mask h r+k)).j=(rs mask h r).1+k:=by rw [e]
   have c1:¬stt mask h r+k<N:=fun z=>q1 (hk▸hb _ z)
   have c2:¬N<stt mask h r+k:=fun z=>by
    obtain ⟨d,hd⟩:∃d,N=stt mask h r+d:=⟨N - stt mask h r,by lia⟩;have hdk:d<k:=by lia
    rw [List.find?_eq_some_iff_append] at q;obtain ⟨_,as,bs,e1,e2⟩:=q
    have la:as.length=k:=by
     have:=qAg (fun l=>l[as.length]?) e1;simp at this
     by_cases cc:as.length<runEnd mask (rs mask h r).1+1 - (rs mask h r).1
     ·rw [List.getElem?_range cc] at this;exact qAb this
     ·rw [List.getElem?_eq_none (by simp;lia)] at this
      cases this
    have mem:d∈as:=by
     have hd':(List.range (runEnd mask (rs mask h r).1+1 - (rs mask h r).1))[d]?=some d:=List.getElem?_range (by lia);rw [e1,qCJ (by lia)] at hd';exact qAY hd'
    have z1:=e2 d mem;have ed:=zEx mask h r d (by lia);have hjd:(pr mask h N).j=(rs mask h r).1+d:=by rw [hd,ed]
    have z2:((owner.getD ((rs mask h r).1+d) (some 0)).isNone)=true:=(zIh O (by lia)).mpr (hjd▸hN);rw [z2] at z1;simp at z1
   have eN:N=stt mask h r+k:=by lia
   show some ((rs mask h r).1+k)=_;rw [eN,hk]
  | none =>
   have q1:=List.find?_eq_none.mp q;refine free_go hm O hl h hN hb hR fuel (r+1) ?_ (by lia);show stt mask h r+(runEnd mask (rs mask h r).1 - (rs mask h r).1+1)<=N;apply qBC;intro c;obtain ⟨d,hd⟩:∃d,N=stt mask h r+d:=⟨N - stt mask h r,by lia⟩;have ed:=zEx mask h r d (by lia);have hjd:(pr mask h N).j=(rs mask h r).1+d:=by rw [hd,ed]
   have z1:=q1 d (qBF.mpr (by lia));have z2:((owner.getD ((rs mask h r).1+d) (some 0)).isNone)=true:=(zIh O (by lia)).mpr (hjd▸hN);exact z1 z2
theorem free_ok {owner:Array (Option Nat)} {sl:List Nat} (hm:Msk mask) (O:Ow mask hs owner sl) (hl:sl.length<=mask) (h:Int) :
  ∃N,(pr mask h N).j∉sl/\(∀m,m<N->(pr mask h m).j∈sl)/\layClean.free mask owner (turns mask) (bits h % (mask+1)) (bits h)=some (pr mask h N).j:=by
 obtain ⟨N,_,hN,hb⟩:=zHr hm h hl;obtain ⟨s,hs',q⟩:=free_slot hl;obtain ⟨R,hR,e⟩:=pr_all hm h s hs';exact ⟨N,hN,hb,free_go hm O hl h hN hb (R:=R) (by rw [e];exact q) (turns mask) 0 (qAf _) (by unfold turns;lia)⟩
theorem Ow.more {owner:Array (Option Nat)} {sl:List Nat} (O:Ow mask hs owner sl) (h:Int) (hN:(pr mask h N).j∉sl) (hb:∀m,m<N->(pr mask h m).j∈sl) :
  Ow mask (hs++[h]) (owner.setIfInBounds (pr mask h N).j (some hs.length)) (sl++[(pr mask h N).j]):=by
 have hj:=pr_le mask h N;have hz:(pr mask h N).j<owner.size:=by rw [O.z];lia
 have one:∀{k j:Nat},(sl++[(pr mask h N).j])[k]?=some j->(k<sl.length/\sl[k]?=some j)\/(k=sl.length/\j=(pr mask h N).j):=fun {k j} e=>by
  by_cases c:k<sl.length
  ·rw [qCJ c] at e;exact .inl ⟨c,e⟩
  ·rw [qCI (by lia)] at e
   have hk:k=sl.length:=by
    have:=(qAc.mp e).1;simp at this;lia
   subst hk;exact .inr ⟨rfl,by simpa using e.symm⟩
 refine ⟨by rw [qC7];exact O.z,by simp [O.n],?_,fun j hj'=>?_,fun k j e=>?_,fun j hj1 hj2=>?_,fun k j h' e1 e2=>?_⟩
 ·refine qBt.mpr ⟨O.nd,qA1.mpr ⟨by simp,qBB⟩,fun a ha b hb'=>?_⟩;have:b=(pr mask h N).j:=by simpa using hb'
  subst this;intro z;subst z;exact hN ha
 ·rcases qAS.mp hj' with z| z
  ·exact O.l j z
  ·have:j=(pr mask h N).j:=by simpa using z
   rw [this];exact hj
 ·rcases one e with ⟨_,z⟩| ⟨z1,z2⟩
  ·have hne:j≠(pr mask h N).j:=fun q=>hN (q▸qAY z);rw [qC8 (qAh hne)];exact O.a k j z
  ·subst z1 z2;rw [qC9 hz,O.n]
 ·have h1:j∉sl:=fun q=>hj2 (qAk _ q);have h2:j≠(pr mask h N).j:=fun q=>hj2 (qAl _ (by simp [q]));rw [qC8 (qAh h2)];exact O.e j hj1 h1
 ·rcases one e1 with ⟨c,z⟩| ⟨z1,z2⟩
  ·rw [qCJ (by rw [<-O.n];exact c)] at e2;obtain ⟨n,q1,q2⟩:=O.reach k j h' z e2;exact ⟨n,q1,fun m hm=>qAk _ (q2 m hm)⟩
  ·subst z1 z2;rw [qCI (by rw [O.n];exact qAG _),O.n] at e2;have:h'=h:=by simpa using e2.symm
   subst this;exact ⟨N,rfl,fun m hm=>qAk _ (hb m hm)⟩
theorem lay_ok (hm:Msk mask) (hs:List Int) (hl:hs.length<=mask):∃owner sl,Ow mask hs owner sl/\layClean mask hs.toArray=some owner:=by
 have key:∀(rest done:List Int) (owner:Array (Option Nat)) (sl:List Nat),Ow mask done owner sl->done.length+rest.length<=mask ->
   ∃owner' sl',Ow mask (done++rest) owner' sl'/\rest.foldl (fun (acc:Option (Array (Option Nat)×Nat)) h=>do
    let (owner,k)<-acc
    let j<-layClean.free mask owner (turns mask) (bits h % (mask+1)) (bits h)
    pure (owner.setIfInBounds j (some k),k+1)) (some (owner,done.length))=some (owner',(done++rest).length):=by
  intro rest
  induction rest with
  | nil=>intro done owner sl O _;exact ⟨owner,sl,by rw [qA0];exact O,by rw [qA0];rfl⟩
  | cons h rest ih =>
   intro done owner sl O hl;rw [qAZ] at hl;obtain ⟨N,hN,hb,ef⟩:=free_ok hm O (by rw [O.n];lia) h;have O2:=O.more h hN hb;obtain ⟨o',s',O3,e3⟩:=ih (done++[h]) _ _ O2 (by rw [qAa];simp;lia);refine ⟨o',s',by simpa using O3,?_⟩;rw [qBX]
   have e4:(do
    let (owner,k)<-(some (owner,done.length):Option (Array (Option Nat)×Nat))
    let j<-layClean.free mask owner (turns mask) (bits h % (mask+1)) (bits h)
    pure (owner.setIfInBounds j (some k),k+1))=some (owner.setIfInBounds (pr mask h N).j (some done.length),(done++[h]).length):=by
    show (do
     let j<-layClean.free mask owner (turns mask) (bits h % (mask+1)) (bits h)
     pure (owner.setIfInBounds j (some done.length),done.length+1))=_
    rw [ef];simp
   rw [e4,e3];simp
 have O0:Ow mask [] (Array.replicate (mask+1) none) []:=⟨Array.size_replicate,rfl,qBB,(fun j h=>absurd h qCR),(fun k j e=>by rw [List.getElem?_nil] at e;cases e),(fun j hj _=>by rw [Array.getElem?_replicate,qAC (by lia)]),(fun k j h e=>by rw [List.getElem?_nil] at e;cases e)⟩;obtain ⟨o,sl,O,e⟩:=key hs [] _ _ O0 (by simpa using hl);refine ⟨o,sl,by simpa using O,?_⟩;unfold layClean;rw [List.foldl_toArray];have e':=e;simp only [List.nil_append,qBY] at e';show Option.map _ (hs.foldl _ (some (Array.replicate (mask+1) none,0)))=_;rw [e'];rfl
theorem laid_ok (hm:Msk mask) (hs:List Int) (hl:hs.length<=mask) (fi mo:Nat) (led plain:Bool):∃t order,laid mask fi mo led plain hs.toArray=some (t,order)/\t.mask=mask/\t.led=led/\t.plain=plain/\order.toList.Perm (List.range hs.length) /\
  TOk t (order.toList.map fun k=>hs.getD k 0):=by
 obtain ⟨owner,sl,O,e⟩:=lay_ok hm hs hl
 have hg:∀j,j<=mask->owner.getD j none=(owner[j]?).getD none:=fun j hj=>by
  have hz:j<owner.size:=by rw [O.z];lia
  simp [Array.getD,hz]
 have el:∀j,j<=mask->((owner.getD j none).map (j,·)=none↔j∉sl):=fun j hj=>by
  rw [hg j hj];constructor
  ·intro q z;obtain ⟨k,hk,ek⟩:=qBL.mp z;rw [O.a k j (qAc.mpr ⟨hk,ek⟩)] at q
   cases q
  ·intro q;rw [O.e j hj q];rfl
 have es:∀j k,j<=mask->((owner.getD j none).map (j,·)=some (j,k)↔sl[k]?=some j):=fun j k hj=>by
  rw [hg j hj];constructor
  ·intro q
   by_cases c:j∈sl
   ·obtain ⟨k',hk,ek⟩:=qBL.mp c;have ek':=qAc.mpr ⟨hk,ek⟩;rw [O.a k' j ek'] at q;have q:some (j,k')=some (j,k):=q;injection q with q;injection q with _ q;rw [<-q];exact ek'
   ·rw [O.e j hj c] at q;cases q
  ·intro q;rw [O.a k j q];rfl
 generalize hlive:(List.range (mask+1)).filterMap (fun j=>(owner.getD j none).map (j,·))=live
 have mem:∀p,p∈live↔sl[p.2]?=some p.1:=fun p=>by
  rw [<-hlive,List.mem_filterMap];constructor
  ·rintro ⟨j,hj,q⟩;have hj':j<=mask:=by have:=qBF.mp hj;lia
   have:p.1=j:=by
    cases h:owner.getD j none with
    | none=>rw [h] at q;cases q
    | some k=>rw [h] at q;have q:some (j,k)=some p:=q;injection q with q;rw [<-q]
   subst this;exact (es p.1 p.2 hj').mp q
  ·intro q;have hj:p.1<=mask:=O.l _ (qAY q);exact ⟨p.1,qBF.mpr (by lia),(es p.1 p.2 hj).mpr q⟩
 have rise:Rise (live.map (·.1)):=by
  have h1:(List.range (mask+1)).Pairwise (·<·):=List.pairwise_lt_range;rw [<-hlive,List.map_filterMap];refine List.Pairwise.filterMap _ (fun a b hab x hx y hy=>?_) h1
  cases ha:owner.getD a none with
  | none=>rw [ha] at hx;cases hx
  | some k =>
   rw [ha] at hx;have hx:some a=some x:=hx
   cases hb:owner.getD b none with
   | none=>rw [hb] at hy;cases hy
   | some k' =>
    rw [hb] at hy;have hy:some b=some y:=hy;injection hx with hx;injection hy with hy;lia
 have nd2:(live.map (·.2)).Nodup:=by
  have hr:live.Pairwise (fun a b=>a.1<b.1):=List.pairwise_map.mp rise;refine List.pairwise_map.mpr (hr.imp_of_mem fun {a b} ha hb hab q=>?_);have h1:=(mem a).mp ha;have h2:=(mem b).mp hb;rw [q] at h1;rw [h1] at h2;have:=qAb h2;lia
 have perm:(live.map (·.2)).Perm (List.range hs.length):=by
  refine (List.perm_ext_iff_of_nodup nd2 List.nodup_range).mpr fun k=>?_;rw [qBF,qAK];constructor
  ·rintro ⟨p,hp,rfl⟩;have:=(qAc.mp ((mem p).mp hp)).1;rw [O.n] at this;exact this
  ·intro hk;have hk':k<sl.length:=by rw [O.n];exact hk
   exact ⟨(sl[k],k),(mem _).mpr (by simp),rfl⟩
 have pmem:∀j,j∈live.map (·.1)↔j∈sl:=fun j=>by
  rw [qAK];constructor
  ·rintro ⟨p,hp,rfl⟩;exact qAY ((mem p).mp hp)
  ·intro q;obtain ⟨k,hk,ek⟩:=qBL.mp q;exact ⟨(j,k),(mem _).mpr (qAc.mpr ⟨hk,ek⟩),rfl⟩
 have llen:live.length=hs.length:=by
  have:=perm.length_eq;simpa using this
 refine ⟨{mask,place:=(live.map (·.1)).toArray,dummies:=#[],finger:=fi,led,moves:=mo,plain},(live.map (·.2)).toArray,?_,rfl,rfl,rfl,by simpa using perm,?_⟩
 ·unfold laid;rw [e];show some (_,_)=some (_,_);rw [hlive]
 ·refine ⟨hm,rfl,by simpa using rise,fun j hj=>?_,by simp [llen],by simp [llen];exact hl,fun i j h e1 e2=>?_⟩
  ·exact O.l j ((pmem j).mp (by simpa using hj))
  ·have e1:(live.map (·.1))[i]?=some j:=by simpa using e1
   have e2:((live.map (·.2)).map fun k=>hs.getD k 0)[i]?=some h:=by simpa using e2
   cases q:live[i]? with
   | none=>rw [qAX,q] at e1;cases e1
   | some p =>
    rw [qAX,q] at e1;rw [qAX,qAX,q] at e2;have e1:p.1=j:=by simpa using e1
    have e2:hs.getD p.2 0=h:=by simpa using e2
    have hp:=(mem p).mp (qAY q);rw [e1] at hp;have hk:p.2<hs.length:=by rw [<-O.n];exact (qAc.mp hp).1
    have hh:hs[p.2]?=some h:=by
     rw [<-e2,qBZ];simp [hk]
    obtain ⟨n,q1,q2⟩:=O.reach p.2 j h hp hh
    exact ⟨n,q1,fun m hm=>by
     have:=(pmem _).mpr (q2 m hm);simpa using this⟩
section
variable {prog:Program} {w:World} {K:Type} [DecidableEq K] {knd:KeyKind prog w K} {A:Around} {E:Value->Shared->Prop} {s:Shared}
theorem byv_noref {v:Value} (h:carriedByValue v=true):∀a,v≠.ref a:=by
 intro a e;subst e;simp [carriedByValue] at h
theorem cls_byv (n:Nat) {v:Value} (h:carriedByValue v=true):ofAClassStatement n v=pure false:=by
 cases v with
 | ref a=>exact absurd rfl (byv_noref h a)
 | _=>cases n<;>(unfold ofAClassStatement;rfl)
theorem w_cls {k:List K} {Q:Bool->Shared->Prop} (hk:IsTupleKey knd s.heap k b) (h:Q false s):wpAny (model prog w) A (ofAClassStatement 8 (.ref b)) Q E s:=by
 have hT:=hk.typeIs;obtain ⟨o,items,n,ho,_,hd,hi⟩:=hk;unfold ofAClassStatement;refine qAA (wpAny_typeOf hT ?_);show wpAny _ _ (if ("tuple" == "tuple")=true then _ else _) _ _ _;rw [qAC (by decide)];refine qAA (qAD ?_);show wpAny _ _ (if (!true)=true then _ else _) _ _ _;rw [qAB (by decide)];show wpAny _ _ (seqItems? (.ref b) >>= _) _ _ _;refine qAA ?_;show wpAny _ _ (load b >>= _) _ _ _;refine qAA (qCD ho ?_);rw [hd];refine qAD ?_;dsimp only;refine qAA ?_;show wpAny _ _ (forIn items _ _) _ _ s;rw [<-Array.forIn_toList];refine wpAny_forIn_list _ (fun rest r s'=>r.1=none/\s'=s/\∀v∈rest,carriedByValue v=true) _ ?_ ?_ _ _ ⟨rfl,rfl,hi.byValue⟩
 ·rintro v rest r s' ⟨hr,rfl,hall⟩;refine qAA (qCS (cls_byv _ (hall v qAU)) ?_);rw [qAB (by decide)];exact qAD ⟨rfl,rfl,fun u hu'=>hall u (qAP _ hu')⟩
 ·rintro ⟨r1,r2⟩ s' ⟨hr,rfl,_⟩;have hr:r1=none:=hr;subst hr;exact qAD h
theorem w_seen {k:List K} {stored:List Value} {Q:Bool->Shared->Prop} (hk:IsTupleKey knd s.heap k b) (hs:∀v∈stored,∃k' b',v= .ref b'/\IsTupleKey knd s.heap k' b') (h:Q false s):wpAny (model prog w) A (searchCouldBeSeen (.ref b) stored) Q E s:=by
 unfold searchCouldBeSeen;refine qAA ?_;refine wpAny_forIn_list _ (fun rest r s'=>r.1=none/\s'=s/\∀v∈rest,∃k' b',v= .ref b'/\IsTupleKey knd s.heap k' b') _ ?_ ?_ _ _ ⟨rfl,rfl,hs⟩
 ·rintro v rest r s' ⟨hr,rfl,hall⟩;obtain ⟨k',b',rfl,hk'⟩:=hall v qAU;have hall':∀u∈rest,∃k' b',u= .ref b'/\IsTupleKey knd s'.heap k' b':=fun u hu'=>hall u (qAP _ hu');dsimp only
  by_cases c:((b==b')||(carriedByValue (.ref b)&&carriedByValue (.ref b')))=true
  ·rw [qAC c];exact qAD ⟨rfl,rfl,hall'⟩
  ·rw [qAB c];refine qAA (wpAny_eqIsQuiet_tuple hk ?_);rw [qAB (by decide)];refine qAA (wpAny_eqIsQuiet_tuple hk' ?_);rw [qAB (by decide)];refine qAA (w_cls hk ?_);rw [qAB (by decide)];refine qAA (w_cls hk' ?_);rw [qAB (by decide)];exact qAD ⟨rfl,rfl,hall'⟩
 ·rintro ⟨r1,r2⟩ s' ⟨hr,rfl,_⟩;have hr:r1=none:=hr;subst hr;exact qAD h
theorem hbv_byv (n:Nat) {v:Value} (h:carriedByValue v=true):∃c,hashByValue n v=pure c:=by
 cases v with
 | ref a=>exact absurd rfl (byv_noref h a)
 | _=>cases n<;>(unfold hashByValue;exact ⟨_,rfl⟩)
theorem w_hbv {k:List K} {Q:Bool->Shared->Prop} (hk:IsTupleKey knd s.heap k b) (h:∀c,Q c s):wpAny (model prog w) A (hashByValue 8 (.ref b)) Q E s:=by
 have hT:=hk.typeIs;obtain ⟨o,items,n,ho,_,hd,hi⟩:=hk;unfold hashByValue;refine qAA (qCk hT F.slot_tuple_hash.lookup ?_);show wpAny _ _ (seqItems? (.ref b) >>= _) _ _ _;refine qAA ?_;show wpAny _ _ (load b >>= _) _ _ _;refine qAA (qCD ho ?_);rw [hd];refine qAD ?_;dsimp only;refine qAA ?_;show wpAny _ _ (forIn items _ _) _ _ s;rw [<-Array.forIn_toList];refine wpAny_forIn_list _ (fun rest r s'=>s'=s/\∀v∈rest,carriedByValue v=true) _ ?_ ?_ _ _ ⟨rfl,hi.byValue⟩
 ·rintro v rest r s' ⟨rfl,hall⟩;obtain ⟨c,ec⟩:=hbv_byv 7 (hall v qAU);rw [ec];refine qAA (qAD ?_);split
  ·exact qAD (qAD (h _))
  ·exact qAD ⟨rfl,fun u hu'=>hall u (qAP _ hu')⟩
 ·rintro ⟨r1,r2⟩ s' ⟨rfl,_⟩
  cases r1 with
  | none=>exact qAD (h _)
  | some c=>exact qAD (h _)
end
section
variable {prog:Program} {w:World} {K:Type} [DecidableEq K] {knd:KeyKind prog w K} {A:Around} {E:Value->Shared->Prop} {s:Shared}
def en (knd:KeyKind prog w K) (p:List K×Addr):Int×Value:=(tupleKeyHash knd p.1,.ref p.2)
def byt (w:World):Bool:=w.params.followText "set-order"
structure SetX (knd:KeyKind prog w K) (h:Heap) (a:Addr) (xs:List (List K×Addr)) (o:Obj) (es:Array (Int×Value)) (ep:Nat) (t:SetTable):Prop where
 ho:h.get? a=some o
 ex:o.ExactSet
 hd:o.data= .set es ep t
 el:es.toList=xs.map (en knd)
 ok:TOk t (xs.map fun p=>tupleKeyHash knd p.1)
 room:xs.length*5<t.mask*3
 nd:(xs.map (·.1)).Nodup
 ky:∀p∈xs,IsTupleKey knd h p.1 p.2
 ld:t.led= !byt w
section
variable {a:Addr} {xs:List (List K×Addr)} {o:Obj} {es:Array (Int×Value)} {ep:Nat} {t:SetTable}
theorem SetX.at (X:SetX knd s.heap a xs o es ep t) (i:Nat):es[i]?=(xs[i]?).map (en knd):=by
 rw [<-qAm,X.el,qAX]
theorem SetX.size (X:SetX knd s.heap a xs o es ep t):es.size=xs.length:=by
 have:=qAg List.length X.el;simpa using this
theorem SetX.fits (X:SetX knd s.heap a xs o es ep t):t.fits es.size=true:=by
 unfold SetTable.fits;have h1:t.place.size=es.size:=by rw [X.ok.n,X.size];simp
 have h2:t.fill<=t.mask:=by
  unfold fill;rw [X.ok.d];exact X.ok.f
 rw [h1];simp [h2]
theorem SetX.state (X:SetX knd s.heap a xs o es ep t) {Q:(Array (Int×Value)×Nat×SetTable)->Shared->Prop} (h:Q (es,ep,t) s):wpAny (model prog w) A (setState a) Q E s:=wpAny_setState_of X.ho X.hd X.fits h
theorem msk_odd {m:Nat} (h:Msk m):(m % 2==0)=false:=by
 rcases h with rfl| rfl| rfl| rfl<;>decide
theorem SetX.has (X:SetX knd s.heap a xs o es ep t) (e:t.place[i]?=some j):∃p,xs[i]?=some p:=by
 have h1:i<t.place.size:=(qBH.mp e).1;have h2:=X.ok.n;rw [qAE] at h2;exact ⟨xs[i]'(by lia),by simp⟩
theorem split_seen {c:Bool} {m:Sem Bool} {u:String} {jp:Unit->Sem α} {Q:α->Shared->Prop} (hm:∀f:Bool->Sem α,wpAny (model prog w) A (f false) Q E s->wpAny (model prog w) A (m >>= f) Q E s) (h:wpAny (model prog w) A (jp ()) Q E s) :
  wpAny (model prog w) A (if c=true then (m >>= fun l=>if l=true then (unsupported u >>= jp) else jp ()) else jp ()) Q E s:=by
 by_cases z:c=true
 ·rw [qAC z];exact hm _ h
 ·rw [qAB z];exact h
theorem w_search (hu:A.units<cLine) (X:SetX knd s.heap a xs o es ep t) {k:List K} (hk:IsTupleKey knd s.heap k b) (hN:(pr t.mask (tupleKeyHash knd k) N).j∉t.place.toList) (hb:∀m,m<N->(pr t.mask (tupleKeyHash knd k) m).j∈t.place.toList) (hNf:N<10*turns t.mask)
  {Q:SetFound->Shared->Prop} (h1:k∈xs.map (·.1)->Q (.there none) s) (h2:k∉xs.map (·.1)->Q (.free (pr t.mask (tupleKeyHash knd k) N).j false) s) :
  ∀(d n fuel:Nat) (stand:Option Probe),N=n+d->d<fuel->stand.getD (t.probeStart (tupleKeyHash knd k))=pr t.mask (tupleKeyHash knd k) n ->
   (∀m,m<n->∃(i:Nat) (p:List K×Addr),t.place[i]?=some (pr t.mask (tupleKeyHash knd k) m).j/\xs[i]?=some p/\p.1≠k)->wpAny (model prog w) A (setSearchFrom a (.ref b) (tupleKeyHash knd k) true fuel stand) Q E s:=by
 intro d
 induction d using Nat.strongRecOn with
 | _ d ih =>
  intro n fuel stand e hf hst hseen;obtain ⟨fuel,rfl⟩:∃f,fuel=f+1:=⟨fuel - 1,by lia⟩;unfold setSearchFrom;refine qAA (X.state ?_);show wpAny _ _ (if (t.mask % 2==0)=true then _ else _) _ _ _;rw [msk_odd X.ok.m,qAB (by decide)]
  have oth:∀m,Oth t (fun i=>(es[i]?.map (·.1)).getD 0) (tupleKeyHash knd k) m->∃(i:Nat) (p:List K×Addr),t.place[i]?=some (pr t.mask (tupleKeyHash knd k) m).j/\xs[i]?=some p/\p.1≠k:=fun m ⟨i,ei,hi⟩=>by
   obtain ⟨p,ep'⟩:=X.has ei;refine ⟨i,p,ei,ep',fun z=>hi ?_⟩;show (es[i]?.map (·.1)).getD 0=_;rw [X.at i,ep',<-z];rfl
  rw [hst];rcases go_ok X.ok (fun i=>(es[i]?.map (·.1)).getD 0) (tupleKeyHash knd k) hN hb d n (10*turns t.mask) e (by lia) with ⟨z1,z2⟩| ⟨m,i,z1,z2,z3,z4,z5,z6⟩
  ·have z1:t.probe (fun i=>(es[i]?.map (·.1)).getD 0) (tupleKeyHash knd k) (pr t.mask (tupleKeyHash knd k) n)=some (.empty (pr t.mask (tupleKeyHash knd k) N).j none):=z1
   erw [z1]
   refine qAD (h2 fun hm=>?_);obtain ⟨p,hp,rfl⟩:=qAK.mp hm;obtain ⟨i,hi,ei⟩:=qBL.mp hp;have exi:xs[i]?=some p:=qAc.mpr ⟨hi,ei⟩;have hpl:i<t.place.size:=by rw [X.ok.n,qAE];exact hi
   have epl:t.place[i]?=some t.place[i]:=by simp
   obtain ⟨q,q1,q2⟩:=X.ok.reach i t.place[i] (tupleKeyHash knd p.1) epl (by rw [qAX,exi];rfl)
   have hqN:q<N:=by
    apply qBC;intro c
    by_cases cq:q=N
    ·subst cq;exact hN (by rw [q1];exact qAY (i:=i) (by rw [qAm];exact epl))
    ·exact hN (q2 N (by lia))
   have:∃(i':Nat) (p':List K×Addr),t.place[i']?=some (pr t.mask (tupleKeyHash knd p.1) q).j/\xs[i']?=some p'/\p'.1≠p.1:=by
    by_cases c:q<n
    ·exact hseen q c
    ·exact oth q (z2 q (by lia) hqN)
   obtain ⟨i',p',w1,w2,w3⟩:=this;rw [q1] at w1
   have:i'=i:=by
    rcases Nat.lt_trichotomy i' i with z| z| z
    ·have:=zD2 X.ok.r z w1 epl;lia
    ·exact z
    ·have:=zD2 X.ok.r z epl w1;lia
   subst this;rw [exi] at w2
   cases w2
   exact w3 rfl
  ·have z5:t.probe (fun i=>(es[i]?.map (·.1)).getD 0) (tupleKeyHash knd k) (pr t.mask (tupleKeyHash knd k) n)=some (.candidate (pr t.mask (tupleKeyHash knd k) m).j i (pr t.mask (tupleKeyHash knd k) (m+1))):=z5
   erw [z5]
   obtain ⟨p,exi⟩:=X.has z3;have hp:=X.ky p (qAY exi);have eei:es[i]?=some (tupleKeyHash knd p.1,.ref p.2):=by rw [X.at i,exi];rfl
   refine split_seen (fun f hf=>qAA (w_seen hk ?_ hf)) ?_
   ·intro v hv;obtain ⟨q,hq,rfl⟩:=qAK.mp hv
    have hq:q∈es.toList:=by
     have:=(Array.mem_filter.mp (qCz.mp hq)).1;exact qCz.mpr this
    rw [X.el] at hq;obtain ⟨p',hp',rfl⟩:=qAK.mp hq;exact ⟨p'.1,p'.2,rfl,X.ky p' hp'⟩
   dsimp only;rw [eei];dsimp only;refine qAA (qAv (wpAny_eqBool_tuple hu hp hk ?_));refine qAA (X.state ?_);dsimp only
   by_cases c:p.1=k
   ·rw [qAC (by simp [c])];exact qAD (h1 (qAK.mpr ⟨p,qAY exi,c⟩))
   ·rw [qAB (by simp [c])];have esm:t.sameMemory t.moves t.mask=some true:=by unfold SetTable.sameMemory;simp
    rw [esm];dsimp only;rw [qAC rfl,slot_live X.ok z3];dsimp only;rw [eei];dsimp only;refine qAA (wpAny_isSame_ref_self ?_);rw [qAC rfl];refine qAA (qAD ?_);dsimp only;rw [qAB (by simp [c])];refine ih (N - (m+1)) (by lia) (m+1) fuel (some _) (by lia) (by lia) rfl ?_;intro q hq
    by_cases cq:q<n
    ·exact hseen q cq
    by_cases cm:q=m
    ·subst cm;exact ⟨i,p,z3,exi,c⟩
    ·exact oth q (z6 q (by lia) (by lia))
end
end
section
variable {prog:Program} {w:World} {K:Type} [DecidableEq K] {knd:KeyKind prog w K} {A:Around} {E:Value->Shared->Prop} {s:Shared}
variable {a:Addr} {xs:List (List K×Addr)} {o:Obj} {es:Array (Int×Value)} {ep:Nat} {t:SetTable}
theorem key_but {h h':Heap} {k:List K} (x:IsTupleKey knd h k b) (ho:h.get? a=some o) (hd:o.data= .set es ep t) (hs:Heap.SameBut a h h'):IsTupleKey knd h' k b:=by
 obtain ⟨o1,its,n,p1,p2,p3,p4⟩:=x;refine ⟨o1,its,n,(hs.2 b fun z=>?_).trans p1,p2,p3,p4⟩;subst z;have:=qAb (p1.symm.trans ho);subst this;rw [hd] at p3;exact nomatch p3
theorem put_get {h:Heap} (ho:h.get? a=some o) (hd:o.data= .set es ep t) (es':Array (Int×Value)) (t':SetTable):(h.update a (Obj.putSet es' t')).get? a=some {o with data:=.set es' (ep+1) t'}:=by
 have:=qA9 (Obj.putSet es' t') ho (by rw [putSet_of es' t' hd];rfl)
 rwa [putSet_of es' t' hd] at this
theorem put_X {h:Heap} (ho:h.get? a=some o) (ex:o.ExactSet) (hd:o.data= .set es ep t) {es':Array (Int×Value)} {t':SetTable} {ys:List (List K×Addr)} (e1:es'.toList=ys.map (en knd)) (e2:TOk t' (ys.map fun p=>tupleKeyHash knd p.1)) (e3:ys.length*5<t'.mask*3) (e4:(ys.map (·.1)).Nodup) (e5:∀p∈ys,IsTupleKey knd h p.1 p.2) (e6:t'.led= !byt w) :
  SetX knd (h.update a (Obj.putSet es' t')) a ys {o with data:=.set es' (ep+1) t'} es' (ep+1) t' :=
 ⟨put_get ho hd es' t',ex,rfl,e1,e2,e3,e4,fun p hp=>key_but (e5 p hp) ho hd (qAo h a _),e6⟩
theorem not_scan (b:Addr) (es:Array (Int×Value)):byScan (.ref b) es=false:=by
 unfold byScan;rfl
theorem grow_mask {m n:Nat} (hm:Msk m) (h0:n*5<m*3) (h1:m*3<=(n+1)*5) (hc:n+1<=306):Msk (sizeAbove (grown (n+1)) - 1)/\n+1<=sizeAbove (grown (n+1)) - 1/\(n+1)*5<(sizeAbove (grown (n+1)) - 1)*3/\sizeAbove (grown (n+1))<=512:=by
 rcases hm with rfl| rfl| rfl| rfl
 ·obtain rfl:n=4:=by lia
  refine ⟨by unfold Msk;decide +kernel,by decide +kernel,by decide +kernel,by decide +kernel⟩
 ·obtain rfl:n=18:=by lia
  refine ⟨by unfold Msk;decide +kernel,by decide +kernel,by decide +kernel,by decide +kernel⟩
 ·obtain rfl:n=76:=by lia
  refine ⟨by unfold Msk;decide +kernel,by decide +kernel,by decide +kernel,by decide +kernel⟩
 ·lia
theorem getD_hash (ys:List (List K×Addr)) (order:List Nat) (hp:order.Perm (List.range ys.length)):(order.filterMap (ys[·]?)).map (fun p=>tupleKeyHash knd p.1)=order.map (fun k=>(ys.map fun p=>tupleKeyHash knd p.1).getD k 0):=by
 have hall:∀k∈order,k<ys.length:=fun k hk=>qBF.mp (hp.mem_iff.mp hk);clear hp
 induction order with
 | nil=>rfl
 | cons k ks ih =>
  have hk:=hall k qAU;have e:ys[k]?=some ys[k]:=by simp [hk]
  rw [qBe,e];show tupleKeyHash knd ys[k].1::_=_::_;rw [ih (fun q hq=>hall q (qAP _ hq))];congr 1;show _=(List.map (fun p=>tupleKeyHash knd p.fst) ys).getD k 0;rw [qBZ,qAX,e];rfl
theorem range_get (ys:List α):(List.range ys.length).filterMap (ys[·]?)=ys:=by
 induction ys with
 | nil=>rfl
 | cons y ys ih =>
  rw [qAZ,List.range_succ_eq_map,qBe];show y::_=_;rw [List.filterMap_map];congr 1
theorem perm_get (ys:List α) {order:List Nat} (hp:order.Perm (List.range ys.length)):(order.filterMap (ys[·]?)).Perm ys:=by
 have:=hp.filterMap (ys[·]?)
 rwa [range_get] at this
theorem w_relay {s:Shared} {m n:Nat} (ho:s.heap.get? a=some o) (ex:o.ExactSet) (hd:o.data= .set es ep t) (e1:es.toList=xs.map (en knd)) (e2:TOk t (xs.map fun p=>tupleKeyHash knd p.1)) (hn:xs.length=n+1) (h0:n*5<t.mask*3) (h1:t.mask*3<=(n+1)*5) (hc:n+1<=306)
  (e4:(xs.map (·.1)).Nodup) (e5:∀p∈xs,IsTupleKey knd s.heap p.1 p.2) (e6:t.led= !byt w) {Q:Unit->Shared->Prop} (h:∀h' ys o' es' ep' t',Heap.SameBut a s.heap h'->ys.Perm xs->SetX knd h' a ys o' es' ep' t'->Q () {s with heap:=h'}) :
  wpAny (model prog w) A (setRelay a (grown (n+1))) Q E s:=by
 obtain ⟨g1,g2,g3,g4⟩:=grow_mask e2.m h0 h1 hc;have ez:es.size=xs.length:=by have:=qAg List.length e1;simpa using this
 have hfit:t.fits es.size=true:=by
  unfold SetTable.fits;have z1:t.place.size=es.size:=by rw [e2.n,ez];simp
  have z2:t.fill<=t.mask:=by unfold fill;rw [e2.d];exact e2.f
  rw [z1];simp [z2]
 unfold setRelay;refine qAA (wpAny_setState_of ho hd hfit ?_);dsimp only;have hsl:sizeAbove (grown (n+1))<=sizeLine:=qAW g4 (by decide +kernel);rw [qAB (qB6.mpr hsl)];obtain ⟨t',order,l1,l2,l3,l4,l5,l6⟩:=laid_ok g1 (xs.map fun p=>tupleKeyHash knd p.1) (by rw [qAE];lia) t.finger (t.movedTo (sizeAbove (grown (n+1)) - 1)) t.led t.plain
 have lr:t.relaid (es.map (·.1)) (grown (n+1))=some (t',order):=by
  unfold relaid
  have:es.map (·.1)=(xs.map fun p=>tupleKeyHash knd p.1).toArray:=by
   apply Array.ext';rw [Array.toList_map,e1,qAq];rfl
  rw [this];exact l1
 rw [lr];rw [qAE] at l5;have lp:=perm_get xs l5
 have el':(order.filterMap (es[·]?)).toList=(order.toList.filterMap (xs[·]?)).map (en knd):=by
  rw [Array.toList_filterMap,List.map_filterMap];congr 1;funext k;rw [<-qAm,e1,qAX]
 have ez':(order.filterMap (es[·]?)).size=es.size:=by
  rw [<-qBo,el',qAE,lp.length_eq,ez]
 refine qAA ?_;show wpAny _ _ (if ((order.filterMap (es[·]?)).size != es.size)=true then _ else _) _ _ _;rw [qAB (by rw [ez'];simp)];refine qAD ?_;dsimp only;refine wpAny_storeSet_of ho hd ?_ (by rw [ez',ez,hn];exact qAW hc (by decide +kernel));refine h _ _ _ _ _ _ (qAo _ a _) lp (put_X ho ex hd el' ?_ ?_ ?_ (fun p hp=>e5 p (lp.mem_iff.mp hp)) (l3.trans e6))
 ·rw [getD_hash xs order.toList l5];exact l6
 ·rw [lp.length_eq,hn,l2];exact g3
 ·exact (lp.map (·.1)).nodup_iff.mpr e4
theorem ins_perm (L:List α) (p:Nat) (x:α):(L.take p++x::L.drop p).Perm (x::L):=by
 have h1:(L.take p++x::L.drop p).Perm (x::(L.take p++L.drop p)):=List.perm_middle
 rwa [qB5] at h1
theorem plain_off {t:SetTable} (T:TOk t hs) (c:Bool):TOk (if c=true then t else {t with plain:=false}) hs/\(if c=true then t else {t with plain:=false}).mask=t.mask/\(if c=true then t else {t with plain:=false}).tooFull=t.tooFull/\(if c=true then t else {t with plain:=false}).led=t.led:=by
 cases c
 ·exact ⟨⟨T.m,T.d,T.r,T.l,T.n,T.f,T.reach⟩,rfl,rfl,rfl⟩
 ·exact ⟨T,rfl,rfl,rfl⟩
theorem w_add (hu:A.units<cLine) (X:SetX knd s.heap a xs o es ep t) {k:List K} (hk:IsTupleKey knd s.heap k b) (hc:xs.length+1<=306) {Q:Bool->Shared->Prop} (h1:k∈xs.map (·.1)->Q false s)
  (h2:k∉xs.map (·.1)->∀h' ys o' es' ep' t',Heap.SameBut a s.heap h'->ys.Perm ((k,b)::xs)->SetX knd h' a ys o' es' ep' t'->Q true {s with heap:=h'}) :
  wpAny (model prog w) A (setAddHashed a (.ref b) (tupleKeyHash knd k)) Q E s:=by
 unfold setAddHashed setAddHashedIn;refine qAv (qAA (X.state ?_));dsimp only;rw [not_scan,qAB (by decide)]
 have hpl:t.place.toList.length=xs.length:=by
  have:=X.ok.n;rw [qAE] at this;simpa using this
 have hroom:=X.room;obtain ⟨N,hNf,hN,hb⟩:=zHr X.ok.m (tupleKeyHash knd k) (L:=t.place.toList) (by rw [hpl];lia)
 have hT:10*turns t.mask<100000:=by
  rcases X.ok.m with z| z| z| z<;>rw [z]<;>decide +kernel
 unfold setSearch;refine qAA (w_search hu X hk hN hb hNf ?_ ?_ N 0 100000 none (by lia) (by lia) rfl (fun m hm=>absurd hm (Nat.not_lt_zero m)))
 ·intro z;exact qAD (h1 z)
 ·intro z;dsimp only;refine qAA (X.state ?_);dsimp only
  have hf1:t.place.size+1<=t.mask:=by
   have:t.place.size=xs.length:=by simpa using hpl
   rcases X.ok.m with z| z| z| z<;>lia
  have T1:=put_ok X.ok (tupleKeyHash knd k) hN hb hf1;have em:(t.put (pr t.mask (tupleKeyHash knd k) N).j).1.mask=t.mask:=rfl;have ed:(t.put (pr t.mask (tupleKeyHash knd k) N).j).1.led=t.led:=rfl;have B:=(zD4 X.ok.r (pr t.mask (tupleKeyHash knd k) N).j).le;have ep2:(t.put (pr t.mask (tupleKeyHash knd k) N).j).2=below t.place (pr t.mask (tupleKeyHash knd k) N).j:=rfl
  have fin:∀c:Bool,wpAny (model prog w) A (do
    storeSet a (SetTable.insertAt es (t.put (pr t.mask (tupleKeyHash knd k) N).j).2 (tupleKeyHash knd k,.ref b)) (if c=true then (t.put (pr t.mask (tupleKeyHash knd k) N).j).1 else {(t.put (pr t.mask (tupleKeyHash knd k) N).j).1 with plain:=false})
    if (!false&&(if c=true then (t.put (pr t.mask (tupleKeyHash knd k) N).j).1 else {(t.put (pr t.mask (tupleKeyHash knd k) N).j).1 with plain:=false}).tooFull)=true then do
     setRelay a (SetTable.grown (es.size+1))
     pure true
    else pure true) Q E s:=by
   intro c;generalize hp:(t.put (pr t.mask (tupleKeyHash knd k) N).j).2=p at *
   generalize ht:(t.put (pr t.mask (tupleKeyHash knd k) N).j).1=t1 at *
   have hple:p<=es.size:=by
    rw [X.size,ep2];have:t.place.size=xs.length:=by simpa using hpl
    lia
   obtain ⟨T2,m2,f2,d2⟩:=plain_off T1 c;generalize ht2:(if c=true then t1 else {t1 with plain:=false})=t2 at *
   have el:(SetTable.insertAt es p (tupleKeyHash knd k,Value.ref b)).toList=(xs.take p++(k,b)::xs.drop p).map (en knd):=by
    rw [zIp es p _ hple,X.el,qAM,qAp,qCo,qCp];rfl
   have ip:=ins_perm xs p (k,b)
   have eT:(xs.map fun p=>tupleKeyHash knd p.1).take p++tupleKeyHash knd k::(xs.map fun p=>tupleKeyHash knd p.1).drop p=(xs.take p++(k,b)::xs.drop p).map fun p=>tupleKeyHash knd p.1:=by
    rw [qAM,qAp,qCo,qCp]
   rw [eT] at T2;have len:(xs.take p++(k,b)::xs.drop p).length=xs.length+1:=by rw [ip.length_eq];rfl
   have nd:((xs.take p++(k,b)::xs.drop p).map (·.1)).Nodup:=by
    refine (ip.map (·.1)).nodup_iff.mpr ?_;exact qA1.mpr ⟨z,X.nd⟩
   have ky:∀q∈xs.take p++(k,b)::xs.drop p,IsTupleKey knd s.heap q.1 q.2:=fun q hq=>by
    rcases qAO.mp (ip.mem_iff.mp hq) with y| y
    ·subst y;exact hk
    ·exact X.ky q y
   have sz:(SetTable.insertAt es p (tupleKeyHash knd k,Value.ref b)).size=xs.length+1:=by
    have:=qAg List.length el;rw [qAE,len] at this;simpa using this
   refine qAA (wpAny_storeSet_of X.ho X.hd ?_ (by rw [sz];exact qAW hc (by decide +kernel)))
   have fl:t2.tooFull=decide (t.mask*3<=(xs.length+1)*5):=by
    unfold tooFull fill;rw [T2.d,T2.n,qAE,len,m2,em];rfl
   by_cases cf:t.mask*3<=(xs.length+1)*5
   ·rw [qAC (by rw [fl];simp [cf])];rw [X.size];refine qAA ?_;refine w_relay (m:=0) (o:={o with data:=.set (insertAt es p (tupleKeyHash knd k,Value.ref b)) (ep+1) t2}) (put_get X.ho X.hd _ _) X.ex rfl el T2 len ?_ ?_ hc nd ?_ (d2.trans (ed.trans X.ld)) ?_
    ·rw [m2,em];exact hroom
    ·rw [m2,em];exact cf
    ·intro q hq;exact key_but (ky q hq) X.ho X.hd (qAo _ a _)
    ·intro h' ys o' es' ep' t' q1 q2 q3;exact qAD (h2 z h' ys o' es' ep' t' ((qAo _ a _).trans q1) (q2.trans ip) q3)
   ·rw [qAB (by rw [fl];simp [cf])];refine qAD (h2 z _ _ _ _ _ _ (qAo _ a _) ip (put_X X.ho X.ex X.hd el T2 ?_ nd ky (d2.trans (ed.trans X.ld))));rw [len,m2,em];lia
  by_cases cp:(t.put (pr t.mask (tupleKeyHash knd k) N).j).1.plain=true
  ·rw [qAC cp];exact qAA (w_hbv hk fin)
  ·rw [qAB cp];exact qAA (qAD (fin true))
end
end ST
namespace ST
open PySem PySem.SetTable PyProof.Rows
variable {h:Heap}{α:Type}
section
variable {prog:Program} {w:World} {K:Type} [DecidableEq K] {knd:KeyKind prog w K} {A:Around} {E:Value->Shared->Prop} {s:Shared}
variable {a:Addr} {xs:List (List K×Addr)} {o:Obj} {es:Array (Int×Value)} {ep:Nat} {t:SetTable}
theorem key_kept {h':Heap} {k:List K} {b:Addr} (x:IsTupleKey knd h k b) (e:∀o,h.get? b=some o->h'.get? b=some o):IsTupleKey knd h' k b :=
 let ⟨o,its,n,p1,r⟩:=x;⟨o,its,n,e o p1,r⟩
theorem SetX.kept {h h':Heap} (X:SetX knd h a xs o es ep t) (e:∀b o,(b=a\/∃p∈xs,p.2=b)->h.get? b=some o->h'.get? b=some o):SetX knd h' a xs o es ep t :=
 ⟨e a o (.inl rfl) X.ho,X.ex,X.hd,X.el,X.ok,X.room,X.nd,fun p hp=>key_kept (X.ky p hp) fun o q=>e _ o (.inr ⟨p,hp,rfl⟩) q,X.ld⟩
def Got (knd:KeyKind prog w K) (h:Heap) (a:Addr) (ks:List (List K×Addr)):Prop :=
 ∃xs o es ep t,SetX knd h a xs o es ep t/\(∀p∈xs,p∈ks)/\(∀p∈ks,p.1∈xs.map (·.1))/\xs.length<=ks.length
theorem Got.kept {h h':Heap} {ks:List (List K×Addr)} (g:Got knd h a ks) (e:∀b o,(b=a\/∃p∈ks,p.2=b)->h.get? b=some o->h'.get? b=some o):Got knd h' a ks:=by
 obtain ⟨xs,o,es,ep,t,X,g1,g2,g3⟩:=g;exact ⟨xs,o,es,ep,t,X.kept fun b o hb=>e b o (hb.imp id fun ⟨p,hp,q⟩=>⟨p,g1 p hp,q⟩),g1,g2,g3⟩
theorem Got.fresh {a:Addr} (ho:h.get? a=some {cls:=.type "set",dict:=none,data:=.set #[] 0 (.fresh 0 0 (!byt w))}):Got knd h a [] :=
 ⟨[],_,_,_,_,⟨ho,⟨rfl,rfl,rfl⟩,rfl,rfl,fresh_ok 0 0 _,(show 0*5<7*3 by decide),qBB,(fun p hp=>nomatch hp),rfl⟩,(fun p hp=>nomatch hp),(fun p hp=>nomatch hp),qAG _⟩
theorem w_more {ks:List (List K×Addr)} {k:List K} {b:Addr} (hu:A.units<cLine) (g:Got knd s.heap a ks) (hk:IsTupleKey knd s.heap k b) (hc:ks.length+1<=306) {Q:Bool->Shared->Prop}
  (h:∀c h',Heap.SameBut a s.heap h'->Got knd h' a (ks++[(k,b)])->Q c {s with heap:=h',toks:=s.toks+(k.length+1)}):wpAny (model prog w) A (setAdd a (.ref b)) Q E s:=by
 obtain ⟨xs,o,es,ep,t,X,g1,g2,g3⟩:=g;unfold setAdd;refine qAv (qAA (wpAny_pyHash_tuple hu hk ?_));refine w_add (s:={s with toks:=s.toks+(k.length+1)}) hu X hk (by lia) (fun z=>?_) fun z h' ys o' es' ep' t' q1 q2 q3=>?_
 ·refine h false s.heap (Heap.SameBut.refl a s.heap) ⟨xs,o,es,ep,t,X,fun p hp=>qAk _ (g1 p hp),fun p hp=>?_,by rw [qAa];exact Nat.le_succ_of_le g3⟩;rcases qAS.mp hp with y| y
  ·exact g2 p y
  ·rw [qAL.mp y];exact z
 ·refine h true h' q1 ⟨ys,o',es',ep',t',q3,fun p hp=>?_,fun p hp=>?_,?_⟩
  ·rcases qAO.mp (q2.mem_iff.mp hp) with y| y
   ·rw [y];exact qAl _ (qAL.mpr rfl)
   ·exact qAk _ (g1 p y)
  ·have m:=(q2.map (·.1)).mem_iff (a:=p.1);refine m.mpr ?_;rcases qAS.mp hp with y| y
   ·exact qAP _ (g2 p y)
   ·rw [qAL.mp y];exact qAU
  ·rw [q2.length_eq,qAa];exact Nat.succ_le_succ g3
end
section
variable {prog:Program} {w:World} {K:Type} [DecidableEq K] {knd:KeyKind prog w K} {A:Around} {R:Result->Shared->Prop} {I:Addr} {fp wr:List Addr} {G:Array GenState->Array GenState->Prop} {P:Nat->Value->Prop} {St:Nat->Shared->Prop}
theorem c_fill {ks:List (List K×Addr)} (hu:A.in1.units<cLine) (W:WalksS prog w A.in1 I fp wr G ks.length P St) (a:Addr) (haf:a∉fp) (hP:∀i v,P i v->∃p,ks[i]?=some p/\v= .ref p.2) (hka:∀p∈ks,p.2≠a/\p.2∉wr) (hc:ks.length<=306) :
  ∀(k i:Nat) (s:Shared),ks.length=i+k->St i s->Got knd s.heap a (ks.take i)->(∀p∈ks,IsTupleKey knd s.heap p.1 p.2) ->
   (∀s',Moved (a::wr) G s s'->Got knd s'.heap a ks->R (.ok (.ret .none)) s')->codeAny (model prog w) A (.builtin "set.update.loop" ⟨[.ref a,.ref I],[]⟩) R s:=by
 have haw:a∉wr:=fun z=>haf (W.sub a z);intro k
 induction k with
 | zero =>
  intro i s e st g ky hR;have e:i=ks.length:=by lia
  subst e;rw [qAu] at g;refine qBk PyProof.Rows.F.entry_set_update_loop ?_;rw [qCT qDA _];change wpAny _ A.in1 (pyNext (Value.ref I) >>= _) _ _ s;refine qAA (W.done s _ _ st fun s1 mv=>?_);refine qAD (hR s1 (mv.mono fun b hb=>qAP a hb) (g.kept fun b o hb q=>mv.heap b o ?_ q));rcases hb with rfl| ⟨p,hp,rfl⟩
  ·exact haw
  ·exact (hka p hp).2
 | succ k ih =>
  intro i s e st g ky hR;have hi:i<ks.length:=by lia
  refine qBk PyProof.Rows.F.entry_set_update_loop ?_;rw [qCT qDA _];change wpAny _ A.in1 (pyNext (Value.ref I) >>= _) _ _ s;refine qAA (W.item i s _ _ hi st fun v s1 pv st1 mv=>?_);obtain ⟨p,ep,rfl⟩:=hP i v pv;have pm:p∈ks:=qAY ep
  have up:∀b o,(b=a\/∃q∈ks,q.2=b)->s.heap.get? b=some o->s1.heap.get? b=some o:=fun b o hb q=>mv.heap b o (by
   rcases hb with rfl| ⟨p,hp,rfl⟩
   ·exact haw
   ·exact (hka p hp).2) q
  have g1:=g.kept (h':=s1.heap) fun b o hb=>up b o (hb.imp id fun ⟨q,hq,z⟩=>⟨q,qCQ hq,z⟩);have ky1:∀q∈ks,IsTupleKey knd s1.heap q.1 q.2:=fun q hq=>key_kept (ky q hq) fun o=>up _ o (.inr ⟨q,hq,rfl⟩);change wpAny _ A.in1 (holding [Value.ref p.2] (setAdd a (.ref p.2)) >>= _) _ _ s1;refine qAA (qAv (w_more (knd:=knd) hu g1 (ky1 p pm) (by rw [qAj];lia) fun c h' sb g2=>?_))
  have et:ks.take i++[(p.1,p.2)]=ks.take (i+1):=by
   rw [qCq,ep];rfl
  rw [et] at g2
  have st2:=W.frame (i+1) s1 h' (s1.toks+(p.1.length+1)) st1 (qCO _ _) fun b hb o q=>by
   rw [sb.2 b fun z=>haf (z▸hb)];exact q
  refine qAD ⟨qCr qDA _,ih (i+1) _ (by lia) st2 g2 (fun q hq=>key_kept (ky1 q hq) fun o z=>(sb.2 _ (hka q hq).1).trans z) fun s2 mv2 g3=>hR s2 ?_ g3⟩;refine Moved.trans W.gtrans ((mv.mono fun b hb=>qAP a hb).then_heap (qCO _ _) fun b o hb z=>?_) mv2;exact (sb.2 b fun y=>hb (y▸qAU)).trans z
end
section
variable {prog:Program} {w:World} {K:Type} [DecidableEq K] {knd:KeyKind prog w K} {A:Around} {E:Value->Shared->Prop} {s:Shared}
def set0 (w:World):Obj:={cls:=.type "set",dict:=none,data:=.set #[] 0 (.fresh 0 0 (!byt w))}
theorem c_new (v:Value) {Q:Value->Shared->Prop} (h:Q (.ref s.heap.objs.size) {s with heap:=s.heap.push (set0 w)}):codeAny (model prog w) A (.call (.builtin "set.__new__") ⟨[.type "set",v],[]⟩) (wants Q E) s:=by
 refine codeAny_of_tree ?_;change wpAny _ A.in1 (checkBuiltinCall "set.__new__" ⟨[.type "set",v],[]⟩ >>= fun _=>again (.builtin "set.__new__" ⟨[.type "set",v],[]⟩)) _ _ s;refine qAA (qCS (F.newCall_set_1 v) (qAD ⟨qCr F.plain_set_new _,qBk F.entry_set_new ?_⟩));rw [qCT F.plain_set_new _];unfold Builtin.«set.__new__» Builtin.Frozenset.newClass;have q:=sub_set_self;obtain ⟨hp,g,d,tk,os⟩:=s;dsimp only
 wp_walk
 refine qBT (qAD ?_);dsimp only;simp only [newObj];refine qAA (wpAny_alloc (qAD (qAD ?_)));exact h
theorem w_setBy {l:Addr} {its:Array Value} {Z:Heap->Prop} {Q:Value->Shared->Prop} (hh:A.handled=none) (hl:s.heap.IsList l its)
  (fill:∀(A1:Around) (R:Result->Shared->Prop) (s3:Shared) (fp:List Addr) (G:Array GenState->Array GenState->Prop) (St:Nat->Shared->Prop),A1.in1.units<=A.units+3->WalksS prog w A1.in1 (s.heap.objs.size+1) fp [s.heap.objs.size+1] G its.size (fun i v=>its[i]?=some v) St->s.heap.objs.size∉fp ->
   s3.heap.get? s.heap.objs.size=some (set0 w)->(∀b o,s.heap.get? b=some o->s3.heap.get? b=some o)->St 0 s3->(∀s',Moved [s.heap.objs.size,s.heap.objs.size+1] G s3 s'->Z s'.heap->R (.ok (.ret .none)) s') ->
   codeAny (model prog w) A1 (.builtin "set.update.loop" ⟨[.ref s.heap.objs.size,.ref (s.heap.objs.size+1)],[]⟩) R s3)
  (h:∀(h':Heap) (tk:Nat),s.toks<=tk->Z h'->(∀b o,s.heap.get? b=some o->h'.get? b=some o)->Q (.ref s.heap.objs.size) {s with heap:=h',toks:=tk}) :
  wpAny (model prog w) A (call (.type "set") [.ref l]) Q E s:=by
 obtain ⟨c,tl,hmro⟩:=qBl.mro;have k1:=qBl.made;have k2:=qBl.sub;refine qBy (codeAny_of_tree ?_);change wpAny _ _ (callAny (.type "set") _) _ _ _;refine qAD ⟨Code.quiet_builtin _ (by decide +kernel),qBk F.entry_type_call ?_⟩;rw [Around.under_plain (weight_type_call_type "set" [.ref l] []) rfl];have k3:=qBl.notType;have k4:=qBl.canCreate;have k5:=F.typeCall_set_1 (.ref l)
 repeat (any_goals (first| assumption| wp_step))
 have hne:∀b o,s.heap.get? b=some o->b≠s.heap.objs.size:=fun b o q=>qAN (qAI q);refine qBV (c_new (w:=w) (.ref l) (E:=E) (Q:=fun ob s1=>ob= .ref s.heap.objs.size/\s1={s with heap:=s.heap.push (set0 w)}) ⟨rfl,rfl⟩) fun r s1 hr=>?_
 cases r with
 | error e=>exact hr
 | ok fl =>
  cases fl with
  | ret ob =>
   obtain ⟨rfl,rfl⟩:=hr;have hS:(s.heap.push (set0 w)).get? s.heap.objs.size=some (set0 w):=qAe _ rfl;have hT:Shared.TypeIs {s with heap:=s.heap.push (set0 w)} (.ref s.heap.objs.size) "set" := ⟨_,hS,rfl⟩;have k6:=qBl.init.lookup;have k7:=qBl.init.bind (.ref s.heap.objs.size)
   repeat (any_goals (first| assumption| wp_step))
   refine qBV (qDB (R:=wants (fun r s2=>r= .none/\∃h' tk,s2={s with heap:=h',toks:=tk}/\s.toks<=tk/\Z h'/\(∀b o,s.heap.get? b=some o->h'.get? b=some o)) E) qBl.init.plain F.entry_set_init (check_set_init_1 hT ?_)) fun r2 s2 hr2=>?_
   ·obtain ⟨ol,hol,hcl,nl,hdl⟩:=hl;obtain ⟨o1,o2,o3,o4⟩:=ol;simp only at hcl hdl;subst hcl hdl;have hol1:(s.heap.push (set0 w)).get? l=some {cls:=.type "list",dict:=o2,data:=.seq its nl,slots:=o4}:=qAJ _ hol;have k8:=F.sub_list_set;have k9:=F.sub_list_frozenset;have k10:(Value.type "list" == Value.type "dict")=false:=by decide
    have hl1:(s.heap.push (set0 w)).IsList l its:=⟨_,hol1,rfl,nl,rfl⟩;unfold Builtin.«set.__init__» noKeywords Builtin.Frozenset.updateFrom;generalize hPI:pyIter=PI
    wp_walk
    subst hPI;refine wpAny_pyIter_list hl1 ?_;refine qAA (wpAny_runValue ?_);have esz:(s.heap.push (set0 w)).objs.size=s.heap.objs.size+1:=qBG _ _;have hls:l<s.heap.objs.size:=qAI hol;have W:=(Walks.list (prog:=prog) (w:=w) (A:=A.in1.in1.in1) (by simpa using hh) (s.heap.push (set0 w)).objs.size l (by rw [esz];exact qAN (qBh hls)) its).toS;rw [esz] at W;rw [esz];refine fill A.in1.in1 _ _ _ _ _ (by show A.units+1+1+1<=A.units+3;lia) W ?_ (qAJ _ hS) (fun b o q=>qAJ _ (qAJ _ q)) ⟨⟨_,by rw [<-esz];exact qAe _ rfl,rfl,rfl⟩,hl1.push _⟩ ?_
    ·simp only [qAO,qCR,or_false,not_or];exact ⟨qAN (qCG _),qAz hls⟩
    ·intro s1 mv g;obtain ⟨h1,g1,d1,tk1,os1⟩:=s1;have e1:g1=s.gens:=mv.gens;have e2:d1=s.drawn:=mv.drawn;have e3:os1=s.os:=mv.os;subst e1 e2 e3;show wpAny _ _ _ _ _ _;refine qAD (qAD ⟨rfl,h1,tk1,rfl,mv.toks,g,fun b o q=>?_⟩);have:=qAI q
     exact mv.heap b o (by
      simp only [qAO,qCR,or_false,not_or];exact ⟨qAN this,qAN (qBh this)⟩) (qAJ _ (qAJ _ q))
   ·cases r2 with
    | error e=>exact hr2
    | ok f2 =>
     cases f2 with
     | ret r =>
      obtain ⟨rfl,h',tk,rfl,q1,q2,q3⟩:=hr2
      repeat (any_goals (first| assumption| wp_step))
      exact h _ _ q1 q2 q3
     | _=>exact hr2.elim
  | _=>exact hr.elim
theorem w_mkset {l:Addr} {its:Array Value} {ks:List (List K×Addr)} {Q:Value->Shared->Prop} (hh:A.handled=none) (hu:A.units+8<cLine) (hl:s.heap.IsList l its) (ei:its.toList=ks.map fun p=>.ref p.2) (ky:∀p∈ks,IsTupleKey knd s.heap p.1 p.2) (hc:ks.length<=306)
  (h:∀(h':Heap) (tk:Nat),s.toks<=tk->Got knd h' s.heap.objs.size ks->(∀b o,s.heap.get? b=some o->h'.get? b=some o)->Q (.ref s.heap.objs.size) {s with heap:=h',toks:=tk}) :
  wpAny (model prog w) A (call (.type "set") [.ref l]) Q E s:=by
 refine w_setBy hh hl (fun A1 R s3 fp G St hv W hf hS kp st hR=>?_) h
 have ez:its.size=ks.length:=by
  have:=qAg List.length ei;simpa using this
 rw [ez] at W;refine c_fill (knd:=knd) (by lia) W s.heap.objs.size hf (fun i v hv=>?_) (fun p hp=>?_) hc ks.length 0 _ (by lia) st (Got.fresh hS) (fun p hp=>key_kept (ky p hp) fun o q=>kp _ o q) hR
 ·have:its.toList[i]?=some v:=by rw [qAm];exact hv
  rw [ei,qAX] at this
  cases hk:ks[i]? with
  | none=>rw [hk] at this;exact nomatch this
  | some p=>rw [hk] at this;exact ⟨p,rfl,(qAb this).symm⟩
 ·obtain ⟨o,_,_,ho,_⟩:=ky p hp;have:=qAI ho;simp only [qAO,qCR,or_false];exact ⟨qAN this,qAN (qBh this)⟩
end
theorem zEa:Slot "set_iterator" "__next__" "set_iterator.__next__" :=
 .of (owner:= "set_iterator") (n:= "__next__") (by rw [typeLookup_type,qDC];kernel_rfl) (by decide +kernel) (by decide +kernel) (by decide +kernel) (by first| exact .inl (by decide +kernel)| exact .inr (by decide +kernel)) (by rw [isSubtype_type];kernel_rfl)
theorem sl_self:Slot "set_iterator" "__iter__" "set_iterator.__iter__" :=
 .of (owner:= "set_iterator") (n:= "__iter__") (by rw [typeLookup_type,qDC];kernel_rfl) (by decide +kernel) (by decide +kernel) (by decide +kernel) (by first| exact .inl (by decide +kernel)| exact .inr (by decide +kernel)) (by rw [isSubtype_type];kernel_rfl)
theorem en_next:entryFor table "set_iterator.__next__" = some Builtin.«set_iterator.__next__»:=entryFor_of_fast (by kernel_rfl)
theorem en_self:entryFor table "set_iterator.__iter__" = some Builtin.«dict_keyiterator.__iter__»:=entryFor_alias (id':= "dict_keyiterator.__iter__") (by kernel_rfl) rfl (by decide +kernel) (by kernel_rfl)
theorem en_iter:entryFor table "set.__iter__" = some Builtin.«frozenset.__iter__»:=entryFor_alias (id':= "frozenset.__iter__") (by kernel_rfl) rfl (by decide +kernel) (by kernel_rfl)
theorem ar_next (a:Value):argsOk "set_iterator.__next__" ⟨[a],[]⟩:=by unfold argsOk;kernel_rfl
theorem ar_self (a:Value):argsOk "set_iterator.__iter__" ⟨[a],[]⟩:=by unfold argsOk;kernel_rfl
theorem zCp {M:Model} {A:Around} {E:Value->Shared->Prop} {s:Shared} {c:Prop} [Decidable c] {x y:Sem α} {Q:α->Shared->Prop} (hc:¬c) (h:wpAny M A y Q E s):wpAny M A (if c then x else y) Q E s:=by rw [qAB hc];exact h
theorem zEk {M:Model} {A:Around} {E:Value->Shared->Prop} {s:Shared} {c:Prop} [Decidable c] {x y:Sem α} {Q:α->Shared->Prop} (hc:c) (h:wpAny M A x Q E s):wpAny M A (if c then x else y) Q E s:=by rw [qAC hc];exact h
theorem zFq :∀{L:List α} {i:Nat} {x:α},L[i]?=some x->(x::L.eraseIdx i).Perm L
 | [],i,x,h=>by simp at h
 | y::r,0,x,h=>by
  have:y=x:=qAb h;subst this;exact List.Perm.refl _
 | y::r,i+1,x,h=>by
  rw [qCP] at h;exact (List.Perm.swap y x _).trans (List.Perm.cons y (zFq h))
theorem pick_go (next:Nat->Nat):∀(fuel k:Nat) (left:List α) (out:Array α),left.length<=fuel->(pickOrder.go next fuel k left out).toList.Perm (out.toList++left)
 | 0,k,left,out,h=>by
  have:left=[]:=qDD.mp (Nat.le_zero.mp h);subst this;unfold pickOrder.go;rw [qA0]
 | fuel+1,k,left,out,h=>by
  unfold pickOrder.go
  cases e:left[next k % left.length]? with
  | none =>
   have:left=[]:=by
    cases left with
    | nil=>rfl
    | cons x r =>
     have:=qDE.mp e;have h2:=Nat.mod_lt (next k) (show 0<(x::r).length from Nat.succ_pos _);exact absurd h2 (qB6.mpr this)
   subst this;dsimp only;rw [qA0]
  | some x =>
   dsimp only;have p:=zFq e;have hl:=p.length_eq;rw [qAZ] at hl;refine (pick_go next fuel (k+1) _ _ (by lia)).trans ?_;rw [qCN,qCi];exact List.Perm.append_left _ p
theorem pick_perm (next:Nat->Nat) (xs:Array α):(pickOrder next xs).toList.Perm xs.toList:=by
 have:=pick_go next xs.size 0 xs.toList #[] (by simp);show (pickOrder.go next xs.size 0 xs.toList #[]).toList.Perm _;simpa using this
section
variable {prog:Program} {w:World} {K:Type} [DecidableEq K] {knd:KeyKind prog w K} {A:Around} {E:Value->Shared->Prop}
theorem w_choose {s:Shared} {src:Source} {n:Nat} (hn:n≠0) {Q:Nat->Shared->Prop} (h:∀i d,i<n->Q i {s with drawn:=d}):wpAny (model prog w) A (choose src n) Q E s:=fun _ _ _=>⟨hn,h _ _ (Nat.mod_lt _ (Nat.pos_of_ne_zero hn))⟩
theorem w_draw :∀(n:Nat) (L:List α) (s:Shared) (Q:List α->Shared->Prop),L.length=n->(∀M d,M.Perm L->Q M {s with drawn:=d})->wpAny (model prog w) A (drawOrder n L) Q E s
 | 0,L,s,Q,hl,h=>by
  have:L=[]:=qDD.mp hl;subst this;unfold drawOrder;exact qAD (h [] s.drawn (List.Perm.refl _))
 | n+1,[],s,Q,hl,h=>nomatch hl
 | n+1,x::r,s,Q,hl,h=>by
  unfold drawOrder;refine qAA (w_choose (by rw [hl];exact Nat.succ_ne_zero n) fun i d hi=>?_);obtain ⟨y,ey⟩:∃y,(x::r)[i]?=some y:=⟨(x::r)[i],qBN hi⟩;rw [ey];dsimp only;have p:=zFq ey;have hl2:=p.length_eq;rw [qAZ] at hl2;refine qAA (w_draw n _ _ _ (by lia) fun M d' hM=>qAD ?_);exact h (y::M) d' ((List.Perm.cons y hM).trans p)
end
def dr (es:Array (Int×Value)) (t:SetTable):Bool:=!t.plain&&decide (es.size>1)
def ItM (w:World) (h:Heap) (a:Addr) (es:Array (Int×Value)) (ep:Nat) (t:SetTable) (ord:List Value) (i:Nat) (first:Value):Prop :=
 (byt w=true/\(∃j:Nat,first= .int j 0)/\ord=(pickOrder (w.params.setOrder a ep) es).toList.map (·.2)) \/
 (byt w=false/\∃(T:Addr) (oT:Obj) (c:Nat) (pl:List Nat),first= .ref T/\h.get? T=some oT/\oT.data= .seq (pl.map fun (p:Nat)=>Value.int p 0).toArray c/\pl.Perm (List.range es.size)/\ord=pl.filterMap fun p=>(es[p]?).map (·.2)) \/
 (byt w=false/\dr es t=false/\∃slot:Nat,first= .int slot 0/\below t.place slot=i/\ord=es.toList.map (·.2))
structure ItS (w:World) (h:Heap) (I a:Addr) (es:Array (Int×Value)) (ep:Nat) (t:SetTable) (ord:List Value) (i:Nat) (o:Obj) (first:Value):Prop where
 ho:h.get? I=some o
 hc:o.cls= .type "set_iterator"
 hd:o.data= .fields #[first,.int i 0,.ref a,.int es.size 0,.int ep 0]
 hm:ItM w h a es ep t ord i first
section
variable {prog:Program} {w:World} {K:Type} [DecidableEq K] {knd:KeyKind prog w K} {A:Around} {E:Value->Shared->Prop} {s:Shared}
variable {a I:Addr} {xs:List (List K×Addr)} {o oI:Obj} {es:Array (Int×Value)} {ep i:Nat} {t:SetTable} {ord:List Value} {first:Value}
theorem below_zero (hr:Rise t.place.toList):below t.place 0=0:=by
 have B:=zD4 hr 0;rcases Nat.eq_zero_or_pos (below t.place 0) with z| z
 ·exact z
 ·have hs:0<t.place.size:=qAi z B.le;have e:t.place[0]?=some t.place[0]:=by simp [hs]
  exact absurd (B.lo 0 _ z e) (Nat.not_lt_zero _)
theorem below_next (hr:Rise t.place.toList) {i j:Nat} (e:t.place[i]?=some j):below t.place (j+1)=i+1:=by
 have B:=zD4 hr (j+1);have hi:i<t.place.size:=(qBH.mp e).1;have h1:i<below t.place (j+1):=Nat.lt_of_not_le fun z=>by have:=B.hi i j z e;lia
 rcases Nat.lt_or_ge (i+1) (below t.place (j+1)) with z| z
 ·have hs:i+1<t.place.size:=qAi z B.le;have e2:t.place[i+1]?=some t.place[i+1]:=by simp [hs]
  have q1:=B.lo (i+1) _ z e2;have q2:=zD2 hr (qCG i) e e2;lia
 ·lia
theorem ItM.perm (m:ItM w h a es ep t ord i first):ord.Perm (es.toList.map (·.2)):=by
 rcases m with ⟨_,_,rfl⟩| ⟨_,T,oT,c,pl,_,_,_,hp,rfl⟩| ⟨_,_,slot,_,_,rfl⟩
 ·exact (pick_perm _ es).map _
 ·have:=hp.filterMap fun p=>(es[p]?).map (·.2);refine this.trans (List.Perm.of_eq ?_);rw [<-List.map_filterMap];congr 1;have:=range_get es.toList;rw [qBo] at this;simpa using this
 ·exact List.Perm.refl _
theorem ItM.len (m:ItM w h a es ep t ord i first):ord.length=es.size:=by
 rw [m.perm.length_eq];simp
theorem ItS.typeIs (it:ItS w s.heap I a es ep t ord i oI first):s.TypeIs (.ref I) "set_iterator" := ⟨_,it.ho,it.hc⟩
theorem fm_at {pl:List Nat} (hp:pl.Perm (List.range es.size)) (i:Nat):(pl.filterMap fun p=>(es[p]?).map (·.2))[i]?=(pl[i]?).bind fun p=>(es[p]?).map (·.2):=by
 have hall:∀k∈pl,k<es.size:=fun k hk=>qBF.mp (hp.mem_iff.mp hk);clear hp
 induction pl generalizing i with
 | nil=>simp
 | cons k ks ih =>
  have hk:=hall k qAU;have e:es[k]?=some es[k]:=by simp [hk]
  have ih':=fun i=>ih i fun q hq=>hall q (qAP _ hq);rw [qBe,e]
  cases i with
  | zero=>simp [e]
  | succ i =>
   show (_::_)[i+1]?=_;rw [qCP,ih' i,qCP]
theorem w_item (X:SetX knd s.heap a xs o es ep t) (it:ItS w s.heap I a es ep t ord i oI first) (hne:I≠a) {v:Value} (hv:ord[i]?=some v) {Q:Option Value->Shared->Prop}
  (h:∀h' o' f',Heap.SameBut I s.heap h'->ItS w h' I a es ep t ord (i+1) o' f'->(∀T,f'= .ref T->first= .ref T)->Q (some v) {s with heap:=h'}):wpAny (model prog w) A (pyNext (.ref I)) Q E s:=by
 unfold pyNext;refine qAA (qBa (qBu (name:=Str.ofString "__next__") it.typeIs zEa (qBD zEa it.typeIs en_next ?_ (ar_next _))));unfold Builtin.«set_iterator.__next__»;refine qAA (m:=slotArgs "__next__" 0 _) (qAD ?_);refine qAA (qCs it.ho it.hd ?_);dsimp only;refine qAA (wpAny_setEntries_of X.ho X.hd X.fits ?_);refine zCp (by simp) ?_;rcases it.hm with ⟨m1,⟨j,rfl⟩,m3⟩| ⟨m1,T,oT,c,pl,rfl,m3,m4,m5,m6⟩| ⟨m1,m2,slot,rfl,m4,m5⟩
 ·dsimp only;refine qAA ?_;unfold setNext;refine qAA (X.state ?_);dsimp only;refine qAA (qAA (qBT (qAD ?_)));refine zEk m1 ?_;refine zCp (by simp) ?_;refine qAA ?_;unfold setWalk;refine qAA (X.state ?_);dsimp only;refine qAA (qAA (qBT (qAD ?_)));refine zEk m1 ?_;refine qAA (qBT (qAD (qAD ?_)))
  have e1:(pickOrder (w.params.setOrder a ep) es)[i]?.map (·.2)=some v:=by
   rw [m3,qAX] at hv;rw [<-qAm];exact hv
  obtain ⟨q,q1,q2⟩:=qBA.mp e1;subst q2;have e2:(pickOrder ((model prog w).w.params.setOrder a ep) es)[(i:Int).toNat]?=some q:=q1
  erw [e2]
  show wpAny _ _ (setField (.ref I) 0 (rawInt _) >>= _) _ _ _;refine qAA (qA2 it.ho it.hd (by simp) ?_);have g1:=qA9 (Obj.mapFields (·.setIfInBounds 0 (rawInt (j:Int).toNat))) it.ho (qBU (qAr it.hd _));refine qAA (qA2 g1 (qAr it.hd _) (by simp) ?_);refine qAD ⟨_,rfl,qAD (h _ _ _ ((qAo ..).trans (qAo ..)) ⟨qA9 _ g1 (qBU (qAr (qAr it.hd _) _)),?_,?_,.inl ⟨m1,⟨j,rfl⟩,m3⟩⟩ (fun T z=>nomatch z))⟩
  ·rw [qBv,qBv];exact it.hc
  ·rw [qAr (qAr it.hd _)];simp [rawInt]
 ·dsimp only
  have hTI:T≠I:=fun z=>by
   subst z;have:=qAb (m3.symm.trans it.ho);subst this;rw [it.hd] at m4;exact nomatch m4
  refine qAA (m:=seqItems? (.ref T)) (qB7 m3 m4 ?_);dsimp only;rw [m6,fm_at m5] at hv;obtain ⟨p,p1,p2⟩:=Option.bind_eq_some_iff.mp hv;obtain ⟨q,q1,q2⟩:=qBA.mp p2;subst q2
  have e1:(pl.map fun (p:Nat)=>Value.int p 0).toArray[(i:Int).toNat]?=some (.int p 0):=by
   simp [p1]
  rw [e1];dsimp only;refine qAA ?_;unfold setNextDrawn;refine qAA (X.state ?_);dsimp only;refine zCp (by simp) ?_;have e2:es[(p:Int).toNat]?=some q:=q1;rw [e2];refine qAD ?_;refine qAA (qA2 it.ho it.hd (by simp) ?_);refine qAD ⟨_,rfl,qAD (h _ _ _ (qAo ..) ⟨qA9 _ it.ho (qBU (qAr it.hd _)),(qBv ..).trans it.hc,?_,.inr (.inl ⟨m1,T,oT,c,pl,rfl,?_,m4,m5,m6⟩)⟩ (fun T z=>z))⟩
  ·rw [qAr it.hd];simp [rawInt]
  ·exact ((qAo s.heap I _).2 T hTI).trans m3
 ·dsimp only;refine qAA ?_;unfold setNext;refine qAA (X.state ?_);dsimp only;refine qAA (qAA (qBT (qAD ?_)));refine zCp (by show¬(byt w=true);rw [m1];decide) ?_;refine zCp (show¬(dr es t=true) by rw [m2];decide) ?_;refine qAA (zCp (show¬((!t.led&& !es.isEmpty)=true) by rw [X.ld,m1];simp) (qAD ?_))
  have hl:i<es.size:=by
   rw [<-it.hm.len];exact (qAc.mp hv).1
  have hl2:i<t.place.size:=by
   rw [X.ok.n,qAE,<-X.size];exact hl
  have e1:es[i]?=some es[i]:=by simp [hl]
  have e2:t.place[i]?=some t.place[i]:=by simp [hl2]
  have e3:es[i].2=v:=by
   rw [m5,qAX,qAm,e1] at hv;exact qAb hv
  have e4:below t.place (slot:Int).toNat=i:=m4;rw [e4,e1,e2];refine qAD ?_;show wpAny _ _ (setField (.ref I) 0 (rawInt _) >>= _) _ _ _;refine qAA (qA2 it.ho it.hd (by simp) ?_);have g1:=qA9 (Obj.mapFields (·.setIfInBounds 0 (rawInt ((t.place[i]+1:Nat):Int)))) it.ho (qBU (qAr it.hd _));refine qAA (qA2 g1 (qAr it.hd _) (by simp) ?_);subst e3;refine qAD ⟨_,rfl,qAD (h _ _ _ ((qAo ..).trans (qAo ..)) ⟨qA9 _ g1 (qBU (qAr (qAr it.hd _) _)),?_,?_,.inr (.inr ⟨m1,m2,t.place[i]+1,rfl,below_next X.ok.r e2,m5⟩)⟩ (fun T z=>nomatch z))⟩
  ·rw [qBv,qBv];exact it.hc
  ·rw [qAr (qAr it.hd _)];simp [rawInt]
theorem w_stop {s:Shared} {Q:Option Value->Shared->Prop} (hh:A.handled=none) (h:∀h',(∀b o,s.heap.get? b=some o->h'.get? b=some o)->Q none {s with heap:=h'}) :
  wpAny (model prog w) A.in1 (newExc (.type "StopIteration") [] >>= fun e=>(raiseNew e:Sem Fin)) (fun fin s'=>∃r,fin= .done (.ret r)/\wpAny (model prog w) A (pure (some r)) Q E s')
   (fun e s'=>wpAny (model prog w) A (isInstance e (.type "StopIteration") >>= fun b=>if b=true then pure none else throw e) Q E s') s:=by
 refine qAA ?_;simp only [newExc,newTuple];refine qAA (qA5 ?_ (by size_fits));refine qAA (m:=firstArgMember _ _) (qCS (a:=Value.none) (by first| rfl| (simp only [firstArgMember];rfl)) ?_);refine qA5 ?_ (by size_fits);simp only [raiseNew];refine qAA (wpAny_handled ?_);rw [show A.in1.handled=none from hh];refine qAA (qAD (wpAny_throw ?_));refine qAA (qCU (T:= "StopIteration") (b:=true) ⟨_,qAe _ rfl,rfl⟩ qCt ?_);exact qAD (h _ fun b o q=>qAJ _ (qAJ _ q))
theorem w_done (hh:A.handled=none) (X:SetX knd s.heap a xs o es ep t) (it:ItS w s.heap I a es ep t ord i oI first) (hv:ord[i]?=none) {Q:Option Value->Shared->Prop}
  (h:∀h',(∀b o,b≠I->s.heap.get? b=some o->h'.get? b=some o)->Q none {s with heap:=h'}):wpAny (model prog w) A (pyNext (.ref I)) Q E s:=by
 unfold pyNext;refine qAA (qBa (qBu (name:=Str.ofString "__next__") it.typeIs zEa (qBD zEa it.typeIs en_next ?_ (ar_next _))));unfold Builtin.«set_iterator.__next__»;refine qAA (m:=slotArgs "__next__" 0 _) (qAD ?_);refine qAA (qCs it.ho it.hd ?_);dsimp only;refine qAA (wpAny_setEntries_of X.ho X.hd X.fits ?_);refine zCp (by simp) ?_;have up:∀h1,Heap.SameBut I s.heap h1->∀h',(∀b o,h1.get? b=some o->h'.get? b=some o)->Q none {s with heap:=h'}:=fun h1 sb h' q=>h h' fun b o hb z=>q b o ((sb.2 b hb).trans z);rcases it.hm with ⟨m1,⟨j,rfl⟩,m3⟩| ⟨m1,T,oT,c,pl,rfl,m3,m4,m5,m6⟩| ⟨m1,m2,slot,rfl,m4,m5⟩
 ·dsimp only;refine qAA ?_;unfold setNext;refine qAA (X.state ?_);dsimp only;refine qAA (qAA (qBT (qAD ?_)));refine zEk m1 ?_;refine zCp (by simp) ?_;refine qAA ?_;unfold setWalk;refine qAA (X.state ?_);dsimp only;refine qAA (qAA (qBT (qAD ?_)));refine zEk m1 ?_;refine qAA (qBT (qAD (qAD ?_)))
  have e1:(pickOrder (w.params.setOrder a ep) es)[i]?.map (·.2)=none:=by
   rw [m3,qAX] at hv;rw [<-qAm];exact hv
  have e2:(pickOrder ((model prog w).w.params.setOrder a ep) es)[(i:Int).toNat]?=none:=qDF.mp e1
  erw [e2]
  show wpAny _ _ (setField (.ref I) 2 Value.none >>= _) _ _ _;refine qAA (qA2 it.ho it.hd (by simp) ?_);refine w_stop hh ?_;exact up _ (qAo ..)
 ·dsimp only;refine qAA (m:=seqItems? (.ref T)) (qB7 m3 m4 ?_);dsimp only
  have e1:(pl.map fun (p:Nat)=>Value.int p 0).toArray[(i:Int).toNat]?=none:=by
   have h1:ord.length<=i:=qDE.mp hv;rw [it.hm.len] at h1;have h2:=m5.length_eq;rw [List.length_range] at h2;simp only [qCV,List.getElem?_toArray,qAX,qDF,qDE];lia
  rw [e1];dsimp only;refine qAA (qA2 it.ho it.hd (by simp) ?_);have g1:=qA9 (Obj.mapFields (·.setIfInBounds 0 (rawInt 0))) it.ho (qBU (qAr it.hd _));refine qAA (qA2 g1 (qAr it.hd _) (by simp) ?_);refine w_stop hh ?_;exact up _ ((qAo ..).trans (qAo ..))
 ·dsimp only;refine qAA ?_;unfold setNext;refine qAA (X.state ?_);dsimp only;refine qAA (qAA (qBT (qAD ?_)));refine zCp (by show¬(byt w=true);rw [m1];decide) ?_;refine zCp (show¬(dr es t=true) by rw [m2];decide) ?_;refine qAA (zCp (show¬((!t.led&& !es.isEmpty)=true) by rw [X.ld,m1];simp) (qAD ?_))
  have e1:es[i]?=none:=by
   rw [m5,qAX,qAm] at hv;exact qDF.mp hv
  have e4:below t.place (slot:Int).toNat=i:=m4;rw [e4,e1];refine qAD ?_;show wpAny _ _ (setField (.ref I) 2 Value.none >>= _) _ _ _;refine qAA (qA2 it.ho it.hd (by simp) ?_);refine w_stop hh ?_;exact up _ (qAo ..)
theorem w_self (it:ItS w s.heap I a es ep t ord i oI first) {Q:Value->Shared->Prop} (h:Q (.ref I) s):wpAny (model prog w) A (pyIter (.ref I)) Q E s:=by
 refine qCu it.typeIs sl_self (qBD sl_self it.typeIs en_self ?_ (ar_self _));show wpAny _ _ (ret (.ref I)) _ _ s;exact qAD ⟨_,rfl, "set_iterator",_,it.typeIs,zEa.lookup,h⟩
theorem SetX.typeIs (X:SetX knd s.heap a xs o es ep t):s.TypeIs (.ref a) "set" := ⟨_,X.ho,X.ex.1⟩
theorem w_iter (X:SetX knd s.heap a xs o es ep t) (hn:xs.length<=306) {Q:Value->Shared->Prop}
  (h:∀I h' d ord oI first,(∀b o,s.heap.get? b=some o->h'.get? b=some o)->s.heap.objs.size<=I->ItS w h' I a es ep t ord 0 oI first->(∀T,first= .ref T->s.heap.objs.size<=T)->Q (.ref I) {s with heap:=h',drawn:=d}):wpAny (model prog w) A (pyIter (.ref a)) Q E s:=by
 refine qCu X.typeIs F.slot_set_iter (qBD F.slot_set_iter X.typeIs en_iter ?_ (F.args_set_iter_1 _));unfold Builtin.«frozenset.__iter__» Builtin.Frozenset.slot0;refine qAA (qAA (m:=slotArgs "__iter__" 0 _) (qAD (qAD ?_)));dsimp only;unfold Builtin.Frozenset.sizeOf;refine qAA (qAA (wpAny_setEntries_of X.ho X.hd X.fits (qAD ?_)));unfold setDrawn;refine qAA (qAA (X.state (qAA (qAA (qBT (qAD (qAD ?_)))))));have hsz:es.size<=306:=by rw [X.size];exact hn
 by_cases c:(!byt w&&dr es t)=true
 ·refine zEk c ?_;have c1:byt w=false:=by cases z:byt w<;>simp [z] at c ⊢
  refine qAA (w_draw es.size (List.range es.size) s _ (by simp) fun pl d hp=>?_);have hpl:pl.length=es.size:=by rw [hp.length_eq];simp
  refine qAA (wpAny_newTuple ?_ (by rw [qAE,hpl];exact qAW hsz (by decide +kernel)));refine qAA (wpAny_setEpoch_of (qAJ _ X.ho) X.hd X.fits ?_);refine qAA (qA5 (qAD ⟨_,rfl, "set_iterator",_,⟨_,qAe _ rfl,rfl⟩,zEa.lookup,?_⟩));refine h _ _ d (pl.filterMap fun p=>(es[p]?).map (·.2)) _ (.ref s.heap.objs.size) (fun b o q=>qAJ _ (qAJ _ q)) ?_ ⟨qAe _ rfl,rfl,rfl,.inr (.inl ⟨c1,_,_,_,pl,rfl,qAJ _ (qAe _ rfl),rfl,hp,rfl⟩)⟩ (fun T z=>by cases z;exact qAG _);show s.heap.objs.size<=(s.heap.push _).objs.size;rw [qBG];exact qBf _
 ·refine zCp c ?_;refine qAA (qAD ?_);refine qAA (wpAny_setEpoch_of X.ho X.hd X.fits ?_);refine qAA (qA5 (qAD ⟨_,rfl, "set_iterator",_,⟨_,qAe _ rfl,rfl⟩,zEa.lookup,?_⟩))
  cases z:byt w with
  | true =>
   exact h _ _ s.drawn ((pickOrder (w.params.setOrder a ep) es).toList.map (·.2)) _ (.int 0 0) (fun b o q=>qAJ _ q) (qAG _) ⟨qAe _ rfl,rfl,rfl,.inl ⟨z,⟨0,rfl⟩,rfl⟩⟩ (fun T z=>nomatch z)
  | false =>
   have c2:dr es t=false:=by rw [z] at c;simpa using c
   exact h _ _ s.drawn (es.toList.map (·.2)) _ (.int 0 0) (fun b o q=>qAJ _ q) (qAG _) ⟨qAe _ rfl,rfl,rfl,.inr (.inr ⟨z,c2,0,rfl,below_zero X.ok.r,rfl⟩)⟩ (fun T z=>nomatch z)
end
theorem len_set:typeLookup (.type "set") "__len__" = pure (some (.builtin "set.__len__")):=by rw [typeLookup_type,qDC];kernel_rfl
section
variable {prog:Program} {w:World} {K:Type} [DecidableEq K] {knd:KeyKind prog w K} {A:Around} {E:Value->Shared->Prop} {s:Shared}
variable {a I:Addr} {xs:List (List K×Addr)} {o oI:Obj} {es:Array (Int×Value)} {ep i:Nat} {t:SetTable} {ord:List Value} {first:Value}
def WSt (knd:KeyKind prog w K) (a I:Addr) (xs:List (List K×Addr)) (o:Obj) (es:Array (Int×Value)) (ep:Nat) (t:SetTable) (ord:List Value) (Ts:List Addr) (i:Nat) (s:Shared):Prop :=
 ∃oI first,SetX knd s.heap a xs o es ep t/\ItS w s.heap I a es ep t ord i oI first/\∀T,first= .ref T->T∈Ts
theorem w_walks (hh:A.handled=none) (a I:Addr) (hne:I≠a) (xs:List (List K×Addr)) (hx:∀p∈xs,p.2≠I) (o:Obj) (es:Array (Int×Value)) (ep:Nat) (t:SetTable) (ord:List Value) (Ts:List Addr) (hT:I∉Ts) :
  WalksS prog w A I (I::a::(xs.map (·.2)++Ts)) [I] (fun a b=>b=a) ord.length (fun i v=>ord[i]?=some v) (WSt knd a I xs o es ep t ord Ts) where
 sub:=fun b hb=>by rw [qAL.mp hb];exact qAU
 grefl:=fun _=>rfl
 gtrans:=fun _ _ _ x y=>y.trans x
 frame:=fun i s h' tk ⟨oI,first,X,it,hf⟩ _ hk=>by
  refine ⟨oI,first,X.kept fun b o hb q=>hk b ?_ o q,⟨hk I qAU _ it.ho,it.hc,it.hd,?_⟩,hf⟩
  ·rcases hb with rfl| ⟨p,hp,rfl⟩
   ·exact qAP _ qAU
   ·exact qAP _ (qAP _ (qAk _ (qAK.mpr ⟨p,hp,rfl⟩)))
  ·rcases it.hm with m| ⟨m1,T,oT,c,pl,m2,m3,m4⟩| m
   ·exact .inl m
   ·exact .inr (.inl ⟨m1,T,oT,c,pl,m2,hk T (qAP _ (qAP _ (qAl _ (hf T m2)))) _ m3,m4⟩)
   ·exact .inr (.inr m)
 item:=fun i s Q E hi ⟨oI,first,X,it,hf⟩ hQ=>by
  refine w_item X it hne (v:=ord[i]) (by simp [hi]) fun h' o' f' sb it' hf'=>hQ _ _ (by simp [hi]) ⟨o',f',X.kept fun b o hb q=>?_,it',fun T z=>hf T (hf' T z)⟩ ⟨fun b o hb q=>(sb.2 b fun z=>hb (z▸qAU)).trans q,rfl,rfl,rfl,qAG _⟩;rcases hb with rfl| ⟨p,hp,rfl⟩
  ·exact (sb.2 _ (qAh hne)).trans q
  ·exact (sb.2 _ (hx p hp)).trans q
 done:=fun s Q E ⟨oI,first,X,it,hf⟩ hQ=>w_done hh X it (by simp) fun h' q=>hQ _ ⟨fun b o hb=>q b o fun z=>hb (z▸qAU),rfl,rfl,rfl,qAG _⟩
 self:=fun i s Q E ⟨oI,first,X,it,hf⟩ hQ=>w_self it hQ
theorem items_ord {acc:Array Value} (h:ItemsOf (fun i v=>ord[i]?=some v) acc ord.length):acc.toList=ord:=by
 refine List.ext_getElem? fun i=>?_;rw [qAm]
 cases e:acc[i]? with
 | some v=>exact (h.2 i v e).symm
 | none =>
  have:=Array.getElem?_eq_none_iff.mp e;rw [h.1] at this;exact (List.getElem?_eq_none this).symm
theorem w_collect (hh:A.handled=none) (X:SetX knd s.heap a xs o es ep t) (hn:xs.length<=306) {Q:List Value->Shared->Prop}
  (h:∀s' vs,vs.Perm (xs.map fun p=>.ref p.2)->(∀b o,s.heap.get? b=some o->s'.heap.get? b=some o)->s'.gens=s.gens->s'.os=s.os->s.toks<=s'.toks->Q vs s'):wpAny (model prog w) A (collect (.ref a)) Q E s:=by
 unfold collect;refine qAA (wpAny_runValue (qBk F.entry_proto_collect ?_));rw [qCT F.plain_proto_collect _];change wpAny _ A.in1 (newList [] >>= fun l=>again (.builtin "list.__iadd__" ⟨[l,Value.ref a],[]⟩)) _ _ s;refine qAA (qA5 ?_);refine qAD ⟨qCr F.plain_list_iadd _,qBk F.entry_list_iadd ?_⟩;rw [qCT F.plain_list_iadd _];generalize hL:s.heap.objs.size=L;have hS1:(s.heap.push {cls:=.type "list",data:=.seq ([]:List Value).toArray}).get? L=some {cls:=.type "list",data:=.seq ([]:List Value).toArray}:=by rw [<-hL];exact qAe _ rfl
 generalize hH1:s.heap.push {cls:=.type "list",data:=.seq ([]:List Value).toArray}=H1 at hS1 ⊢;have up1:∀b o,s.heap.get? b=some o->H1.get? b=some o:=fun b o q=>by rw [<-hH1];exact qAJ _ q
 have sz1:H1.objs.size=L+1:=by rw [<-hH1,qBG,hL]
 have below:∀b o,s.heap.get? b=some o->b<L:=fun b o q=>by rw [<-hL];exact qAI q
 have X1:SetX knd H1 a xs o es ep t:=X.kept fun b o _ q=>up1 b o q;have haL:a≠L:=qAN (below a _ X.ho);change wpAny _ A.in1 (Builtin.List.listExtendWith (Value.ref L) (.ref a) (.ref L)) _ _ _;unfold Builtin.List.listExtendWith;refine qAA (wpAny_typeOf (T:= "set") ⟨_,X1.ho,X1.ex.1⟩ ?_);have n1:Builtin.List.listSameRef (.ref L) (.ref a)=false:=by simp [Builtin.List.listSameRef,qAh haL]
 refine zCp (by rw [n1];decide) ?_;refine qAA (w_iter (s:={s with heap:=H1}) X1 hn fun I h2 d ord oI first up2 hI it hf=>?_);have hI:L+1<=I:=by rw [<-sz1];exact hI
 have X2:SetX knd h2 a xs o es ep t:=X1.kept fun b o _ q=>up2 b o q;refine qAA (qAv ?_);unfold Builtin.List.listLengthHint;have T2:Shared.TypeIs {s with heap:=h2,drawn:=d} (.ref a) "set" := ⟨_,X2.ho,X2.ex.1⟩;refine qAA (qCk T2 len_set ?_);generalize hid:("set.__len__" : String)=id0;dsimp only;rw [show splitId id0=some ("set", "__len__") from by subst hid;decide +kernel];subst hid;dsimp only;refine qAA (qCU (b:=true) T2 sub_set_self ?_);refine zCp (by decide) ?_;refine zEk (by decide +kernel) ?_;refine qAA (wpAny_typeOf T2 ?_);refine qAD ?_;refine zEk (by decide +kernel) ?_;refine qAA (qBO ?_);have hS2:=up2 L _ hS1;refine qAA ?_;change wpAny _ A.in1 (updateSeq L (·.push Value.none) >>= fun _=>updateSeq L (·.pop)) _ _ _;refine qAA (wpAny_updateSeq hS2 rfl ?_);have hS3:=qA9 (Obj.mapSeq (·.push Value.none)) hS2 rfl;refine wpAny_updateSeq hS3 rfl ?_;have hS4:=qA9 (Obj.mapSeq (·.pop)) hS3 rfl;dsimp only;have sb:Heap.SameBut L h2 ((h2.update L (Obj.mapSeq (·.push Value.none))).update L (Obj.mapSeq (·.pop))):=(qAo ..).trans (qAo ..);generalize hH4:(h2.update L (Obj.mapSeq (·.push Value.none))).update L (Obj.mapSeq (·.pop))=H4 at hS4 sb ⊢
 have hIa:I≠a:=fun z=>by
  have:=below a _ X.ho;rw [<-z] at this;exact absurd this (qB6.mpr (Nat.le_of_succ_le hI))
 have hxI:∀p∈xs,p.2≠I:=fun p hp z=>by
  obtain ⟨ob,_,_,q,_⟩:=X.ky p hp;have:=below _ _ q;rw [z] at this;exact absurd this (qB6.mpr (Nat.le_of_succ_le hI))
 obtain ⟨Ts,hTs,hT1⟩:∃Ts:List Addr,(∀T,first= .ref T->T∈Ts)/\∀T∈Ts,first= .ref T:=by
  cases first with
  | ref T=>exact ⟨[T],fun T' z=>by cases z;exact qAL.mpr rfl,fun T' z=>by rw [qAL.mp z]⟩
  | _=>exact ⟨[],(fun T z=>nomatch z),(fun T z=>nomatch z)⟩
 have hTge:∀T∈Ts,L+1<=T:=fun T hT=>by rw [<-sz1];exact hf T (hT1 T hT)
 have hTI:I∉Ts:=fun z=>by
  rcases it.hm with ⟨_,⟨j,e⟩,_⟩| ⟨_,T,oT,c,pl,e,m3,m4,_⟩| ⟨_,_,j,e,_⟩
  ·have:=(hT1 _ z).symm.trans e;exact nomatch this
  ·have:=(hT1 _ z).symm.trans e
   cases this
   have:=qAb (m3.symm.trans it.ho);subst this;rw [it.hd] at m4;exact nomatch m4
  ·have:=(hT1 _ z).symm.trans e;exact nomatch this
 have W:=w_walks (prog:=prog) (w:=w) (knd:=knd) (A:=A.in1) hh a I hIa xs hxI o es ep t ord Ts hTI
 have hLf:L∉I::a::(xs.map (·.2)++Ts):=fun z=>by
  rcases qAO.mp z with z| z
  ·rw [<-z] at hI;exact absurd hI (Nat.not_succ_le_self L)
  rcases qAO.mp z with z| z
  ·exact haL z.symm
  rcases qAS.mp z with z| z
  ·obtain ⟨p,hp,e⟩:=qAK.mp z;obtain ⟨ob,_,_,q,_⟩:=X.ky p hp;have:=below _ _ q;rw [e] at this;exact qAy _ this
  ·exact absurd (hTge _ z) (Nat.not_succ_le_self L)
 have hol:ord.length<=sizeLine:=by
  rw [it.hm.len,X.size];exact qAW hn (by decide +kernel)
 have st2:WSt knd a I xs o es ep t ord Ts 0 {s with heap:=h2,drawn:=d}:=⟨oI,first,X2,it,hTs⟩;have st4:=W.frame 0 _ H4 s.toks st2 (qAG _) fun b hb ob q=>(sb.2 b fun z=>hLf (z▸hb)).trans q;refine qAD ⟨qCr F.plain_extend_loop _,codeAny_extend_loopS W hol L hLf _ ord.length 0 _ _ _ rfl (qAf _) st4 hS4 (ItemsOf.nil _) fun s' acc c' mv hS' hacc=>?_⟩;change wpAny _ A (load L >>= _) _ _ s';refine qAA (qCD hS' ?_);refine qAD (h s' acc.toList ?_ (fun b ob q=>?_) mv.gens mv.os mv.toks)
 ·rw [items_ord hacc];refine it.hm.perm.trans (List.Perm.of_eq ?_);rw [X.el,qAq];rfl
 ·have hb:=below b ob q;refine mv.heap b ob ?_ ((sb.2 b (qAN hb)).trans (up2 b ob (up1 b ob q)));intro z;rcases qAO.mp z with z| z
  ·exact qAN hb z
  ·rw [qAL.mp z] at hb;exact absurd hb (qB6.mpr (Nat.le_of_succ_le hI))
end
end ST
namespace ST
open PySem PyProof.Rows PySem.W
abbrev sg (x:Str):List Nat:=x.cps.toList
theorem sg_inj {x y:Str} (h:sg x=sg y):x=y:=by
 cases x;cases y
 exact qAg Str.mk (Array.toList_inj.mp h)
def tlt:List Str->List Str->Bool
 | [],[]=>false
 | [],_::_=>true
 | _::_,[]=>false
 | x::r,y::q=>if x=y then tlt r q else decide (sg x<sg y)
theorem sg_tri (x y:Str):sg x<sg y\/x=y\/sg y<sg x:=by
 by_cases h1:sg x<sg y
 ·exact .inl h1
 by_cases h2:sg y<sg x
 ·exact .inr (.inr h2)
 ·exact .inr (.inl (sg_inj (List.le_antisymm (List.not_lt.mp h2) (List.not_lt.mp h1))))
theorem tlt_irr:∀a,tlt a a=false
 | []=>rfl
 | x::r=>by unfold tlt;rw [qAC rfl];exact tlt_irr r
theorem zF8:∀a b c,tlt a b=true->tlt b c=true->tlt a c=true
 | [],[],c,h1,h2=>h2
 | [],_::_,[],h1,h2=>by simp [tlt] at h2
 | [],_::_,_::_,h1,h2=>rfl
 | _::_,[],c,h1,h2=>by simp [tlt] at h1
 | x::r,y::q,[],h1,h2=>by simp [tlt] at h2
 | x::r,y::q,z::p,h1,h2=>by
  unfold tlt at h1 h2 ⊢
  by_cases e1:x=y
  ·subst e1;rw [qAC rfl] at h1
   by_cases e2:x=z
   ·subst e2;rw [qAC rfl] at h2 ⊢;exact zF8 r q p h1 h2
   ·rw [qAB e2] at h2 ⊢;exact h2
  ·rw [qAB e1] at h1
   by_cases e2:y=z
   ·subst e2;rw [qAB e1];exact h1
   ·rw [qAB e2] at h2;have q1:=qBc h1;have q2:=qBc h2;have q3:=List.lt_trans q1 q2;rw [qAB fun e=>by subst e;exact List.lt_irrefl _ q3];exact qAR q3
theorem tlt_tot:∀a b,tlt a b=false->tlt b a=false->a=b
 | [],[],_,_=>rfl
 | [],_::_,h,_=>by simp [tlt] at h
 | _::_,[],_,h=>by simp [tlt] at h
 | x::r,y::q,h1,h2=>by
  unfold tlt at h1 h2
  by_cases e:x=y
  ·subst e;rw [qAC rfl] at h1 h2;rw [tlt_tot r q h1 h2]
  ·rw [qAB e] at h1;rw [qAB (qAh e)] at h2;rcases sg_tri x y with z| z| z
   ·exact absurd z (qCW h1)
   ·exact absurd z e
   ·exact absurd z (qCW h2)
theorem tlt_neg (a b c:List Str) (h:tlt a c=true):tlt a b=true\/tlt b c=true:=by
 cases h1:tlt a b with
 | true=>exact .inl rfl
 | false =>
  right
  cases h2:tlt b a with
  | true=>exact zF8 b a c h2 h
  | false=>rw [<-tlt_tot a b h1 h2];exact h
@[reducible] def tupK (f:Addr->Option (List Str)):PyProof.Rows.KeyKind where
 α:=List Str
 blt:=tlt
 irrefl:=tlt_irr
 trans:=zF8
 negTrans:=tlt_neg
 total:=tlt_tot
 keyOf v:=match v with| .ref b=>f b| _=>none
 dflt:=[]
section
variable {prog:Program} {w:World} {A:Around} {E:Value->Shared->Prop} {s:Shared}
theorem zFm {ks:List Str} {vs:List Value} (h:ItemsAre (PySem.strKind prog w) ks vs):StrsAre vs ks:=by
 induction h with
 | nil=>exact .nil
 | @cons k v ks vs h1 _ ih =>
  obtain ⟨t,rfl⟩:=Value.isStrOf_shape h1;exact .cons k t ih
theorem kat_strs {b fin:Bool} {Q:Bool->Shared->Prop}:∀{xs ys:List Value} {ax ay:List Str},StrsAre xs ax->StrsAre ys ay->∀i,fin=decide (xs.length<ys.length)->Q (tlt ax ay) s->KatLex prog w A b fin Q (xs.zip ys) i s
 | _,_,_,_,.nil,.nil,i,e,h=>by subst e;exact kat_nil h
 | _,_,_,_,.nil,.cons y t hy,i,e,h=>by subst e;exact kat_nil h
 | _,_,_,_,.cons x t hx,.nil,i,e,h=>by subst e;exact kat_nil h
 | _,_,_,_,.cons x t hx,.cons y u hy,i,e,h=>by
  rw [List.zip_cons_cons];refine kat_cons (wpAny_eqBool_str ?_);unfold tlt at h
  by_cases c:x=y
  ·rw [qAC c] at h;rw [qAR c];refine kat_yes (kat_strs hx hy (i+1) ?_ h);rw [e];simp
  ·rw [qAB c] at h;rw [qAT c];refine kat_no ?_
   cases z:(b&&i==0) with
   | true=>exact oneLt_str h
   | false=>exact kat_one _ _ (lt_str h)
theorem tup_cmp (f:Addr->Option (List Str)) (hf:∀b k,f b=some k->IsTupleKey (PySem.strKind prog w) s.heap k b) (b:Bool):Tim.CmpOk prog w A s (tuples' b) (tupK f):=by
 intro E x y a c Q hx hy h
 cases x<;>simp only [reduceCtorEq] at hx
 cases y<;>simp only [reduceCtorEq] at hy
 obtain ⟨ox,ix,nx,x1,_,x2,x3⟩:=hf _ _ hx;obtain ⟨oy,iy,ny,y1,_,y2,y3⟩:=hf _ _ hy;exact kat_lt x1 x2 y1 y2 (kat_strs (zFm x3) (zFm y3) 0 (by simp) h)
end
theorem zHz {vs:List Value} {xs:Array Keyed} (hp:xs.Perm (pairsOf vs)):(xs.map (·.2)).toList.Perm vs:=by
 have hl:xs.toList.Perm (vs.zip vs):=by rw [<-pairsOf_toList];exact qCv.mp hp
 have:=hl.map (·.2);rw [List.map_snd_zip (qAG _)] at this
 rwa [Array.toList_map]
section
variable {prog:Program} {w:World} {A:Around} {E:Value->Shared->Prop} {s:Shared}
structure Sortable (prog:Program) (w:World) (A:Around) (κ:PyProof.Rows.KeyKind) (kd:SortKind) (vs:List Value) (s:Shared):Prop where
 cmp:Tim.CmpOk prog w A s kd κ
 kind:2<=vs.length->∀(E:Value->Shared->Prop) (Q:SortKind->Shared->Prop),Q kd s->wpAny (model prog w) A (keyKind' vs.toArray) Q E s
 has:∀v∈vs,∃k,κ.keyOf v=some k
theorem srt_heap {h:Heap} {a:Addr} {vs:List Value} {n:Nat} {out:Array Value} (ho:h.get? a=some (seqObj "list" vs.toArray n)):(∃c,(sortedHeap h a vs out).get? a=some (seqObj "list" out c))/\∀b o,b≠a->h.get? b=some o->(sortedHeap h a vs out).get? b=some o:=by
 have ha:a<h.objs.size:=qAI ho;have h1:(h.update a (Obj.mapSeq fun _=>#[])).get? a=some (seqObj "list" #[] _):=get?_update_seq ho fun _=>#[];have h2:=qAJ (seqObj "list" #[] 0) (qAJ (seqObj "tuple" vs.toArray 0) h1);refine ⟨⟨_,get?_update_seq h2 fun _=>out⟩,fun b o hb q=>?_⟩;unfold sortedHeap;rw [qBg _ _ (qAh hb)];refine qAJ _ (qAJ _ ?_);rw [qBg _ _ (qAh hb)];exact q
end
section
variable {prog:Program} {w:World} {A:Around} {E:Value->Shared->Prop} {s:Shared}
abbrev Up (h h':Heap):Prop:=∀b o,h.get? b=some o->h'.get? b=some o
end
section
variable {prog:Program} {w:World} {A:Around} {E:Value->Shared->Prop} {s:Shared}
theorem tups_sortable {ks:List (List Str×Addr)} {vs:List Value} (hv:vs.Perm (ks.map fun p=>.ref p.2)) (ky:∀p∈ks,IsTupleKey (PySem.strKind prog w) s.heap p.1 p.2) (hne:∀p∈ks,p.1≠[]) :
  Sortable prog w A (tupK fun b=>(ks.find? fun p=>p.2==b).map (·.1)) (tuples' true) vs s:=by
 have look:∀p∈ks,∃q∈ks,(ks.find? fun p'=>p'.2==p.2)=some q/\q.2=p.2:=fun p hp=>by
  cases e:ks.find? fun p'=>p'.2==p.2 with
  | none=>exact absurd (List.find?_eq_none.mp e p hp) (by simp)
  | some q=>exact ⟨q,qC6 e,rfl,by simpa using List.find?_some e⟩
 refine ⟨tup_cmp _ (fun b k e=>?_) true,fun h2 E Q h=>?_,fun v hvm=>?_⟩
 ·obtain ⟨p,p1,p2⟩:=qBA.mp e;have p3:p.2=b:=by simpa using List.find?_some p1
  rw [<-p2,<-p3];exact ky p (qC6 p1)
 ·have go:∀(us:List Value),(∀u∈us,∃p∈ks,u= .ref p.2)->∃fs:List Value,KatTups s.heap us fs/\fs.length=us.length/\∀f∈fs,∃x t,f= .str x t:=by
   intro us
   induction us with
   | nil=>intro _;exact ⟨[],.nil,rfl,(fun f hf=>nomatch hf)⟩
   | cons u us ih =>
    intro hu;obtain ⟨fs,t1,t2,t3⟩:=ih fun u hu'=>hu u (qAP _ hu');obtain ⟨p,hp,rfl⟩:=hu u qAU;obtain ⟨ob,its,n,q1,q2,q3,q4⟩:=ky p hp;have q5:=zFm q4;have q6:=hne p hp;generalize hk:p.1=k at q5 q6;generalize hl:its.toList=l at q5
    cases q5 with
    | nil=>exact absurd rfl q6
    | cons x t r =>
     refine ⟨.str x t::fs,.cons q1 q2 q3 ?_ t1,by simp [t2],fun f hf=>?_⟩
     ·rw [<-qAm,hl];rfl
     ·rcases qAO.mp hf with z| z
      ·exact ⟨x,t,z⟩
      ·exact t3 f z
  obtain ⟨fs,t1,t2,t3⟩:=go vs fun u hu=>by
   obtain ⟨p,hp,e⟩:=qAK.mp (hv.mem_iff.mp hu);exact ⟨p,hp,e.symm⟩
  refine kat_kind (T:=.type "str") t1 (by lia) (fun f hf=>?_) (by decide) h;obtain ⟨x,t,rfl⟩:=t3 f hf;exact .now
 ·obtain ⟨p,hp,rfl⟩:=qAK.mp (hv.mem_iff.mp hvm);obtain ⟨q,hq,e,_⟩:=look p hp;exact ⟨q.1,by show Option.map _ _=_;rw [e];rfl⟩
end
end ST
namespace L2
open PySem PySem.Spec PyProof.Rows
def TSt (P:Program) (w:World) (a:Addr) (xs:List (List Str×Addr)):HO :=
 .ext fun h=>∃o es ep t,h.get? a=some o/\o.ExactSet/\o.data= .set es ep t/\es.toList=xs.map (ST.en (PySem.strKind P w))/\ST.TOk t (xs.map fun p=>tupleKeyHash (PySem.strKind P w) p.1)/\xs.length*5<t.mask*3/\(xs.map (·.1)).Nodup/\t.led= !ST.byt w
def RowT (K:PySem.W.Frag) (H:Hp) (p:List Str×Addr):Prop:=SqT K H p.2 (p.1.map V.str)
section
variable {X:Cx} {pins:List (Addr×Obj)} {σ:St} {H:Hp} {s:Shared}
theorem zHc {prog:Program} {w:World}:∀{ks:List Str} {its:List Value},Vals (ks.map V.str) its->ItemsAre (PySem.strKind prog w) ks its
 | [],_,.nil=>.nil
 | k::ks,_,.cons ⟨t,e⟩ r=>by
  subst e;exact .cons (by show Value.isStrOf k (.str k t)=true;simp [Value.isStrOf]) (zHc r)
theorem Inv.rowT (I:Inv X pins σ H s) {p:List Str×Addr} (h:RowT X.K H p):IsTupleKey (PySem.strKind X.prog X.w) s.heap p.1 p.2:=by
 obtain ⟨its,r,⟨o,ho,hc,n,hd⟩,_⟩:=I.tuple h;exact ⟨o,its.toArray,n,ho,hc,hd,by simpa using zHc r⟩
theorem vals_refs:∀{ks:List (List Str×Addr)} {its:List Value},Vals (ks.map fun p=>V.ref p.2) its->its=ks.map fun p=>Value.ref p.2
 | [],_,.nil=>rfl
 | k::ks,_,.cons e r=>by
  have e:_=Value.ref k.2:=e;subst e;rw [vals_refs r];rfl
theorem refs_vals:∀(ks:List (List Str×Addr)),Vals (ks.map fun p=>V.ref p.2) (ks.map fun p=>Value.ref p.2)
 | []=>.nil
 | k::ks=>.cons rfl (refs_vals ks)
theorem got_ok {h:Heap} {H:Hp} {a:Addr} {xs:List (List Str×Addr)} {o:Obj} {es:Array (Int×Value)} {ep:Nat} {t:SetTable} (Z:ST.SetX (PySem.strKind X.prog X.w) h a xs o es ep t):zA0 X.prog X.w H h a (TSt X.prog X.w a xs) :=
 ⟨⟨o,es,ep,t,Z.ho,Z.ex,Z.hd,Z.el,Z.ok,Z.room,Z.nd,Z.ld⟩,⟨o,Z.ho⟩,fun h1 h2 ⟨o,es,ep,t,q,r⟩ k=>⟨o,es,ep,t,k o q,r⟩⟩
theorem call_setT {k:Nat} (hr:Room k X.A):zCc X (.type "set") (fun xs H Q=>∃(l:Addr) (ks:List (List Str×Addr)),xs=[.ref l]/\SqL X.K H l (ks.map fun p=>V.ref p.2)/\(∀p∈ks,RowT X.K H p)/\ks.length<=306 /\
  ∀a ys,H a=none->(∀p∈ys,p∈ks)->(∀p∈ks,p.1∈ys.map (·.1))->(ys.map (·.1)).Nodup->ys.length<=ks.length->Q (.ref a) (upd H a (TSt X.prog X.w a ys))):=by
 intro pins s σ H xs us Q I r h;obtain ⟨l,ks,rfl,hl,hk,hc,q⟩:=h;obtain ⟨u,rfl,rx⟩:=zHt r
 cases rx
 obtain ⟨its,r',pl,hz⟩:=I.list hl;have ei:=vals_refs r';refine ST.w_mkset (knd:=PySem.strKind X.prog X.w) (ks:=ks) hr.hd (by have:=hr.un;lia) pl.isList (by rw [ei]) (fun p hp=>I.rowT (hk p hp)) hc fun h' tk _ g kp=>?_;obtain ⟨ys,o,es,ep,t,Z,g1,g2,g3⟩:=g;exact ⟨.ref s.heap.objs.size,_,I.laid (t':=tk) kp (qAG _) (got_ok Z),rfl,q _ ys (I.hok.fresh (qAG _)) g1 g2 Z.nd g3⟩
theorem perm_back {α β:Type} (f:α->β):∀{vs:List β} {ks:List α},vs.Perm (ks.map f)->∃zs:List α,zs.Perm ks/\vs=zs.map f:=by
 intro vs ks h;generalize hm:ks.map f=ms at h
 induction h generalizing ks with
 | nil=>exact ⟨[],by rw [List.map_eq_nil_iff.mp hm],rfl⟩
 | @cons x l₁ l₂ _ ih =>
  cases ks with
  | nil=>exact nomatch hm
  | cons k ks =>
   rw [qAp] at hm;obtain ⟨e1,e2⟩:=List.cons.inj hm;obtain ⟨zs,p,e⟩:=ih e2;exact ⟨k::zs,.cons k p,by rw [qAp,<-e,e1]⟩
 | swap x y l =>
  match ks,hm with
  | a::b::ks,hm =>
   simp only [qAp,List.cons.injEq] at hm;obtain ⟨e1,e2,e3⟩:=hm;exact ⟨b::a::ks,.swap a b ks,by simp [e1,e2,e3]⟩
 | trans _ _ ih1 ih2 =>
  obtain ⟨zs,p,e⟩:=ih2 hm;obtain ⟨zs',p',e'⟩:=ih1 e.symm;exact ⟨zs',p'.trans p,e'⟩
end
end L2
namespace ST
section
open PySem PyProof.Rows
variable {prog:Program} {w:World} {A:Around} {s:Shared}
end
end ST
namespace L2
open PySem PySem.Spec PyProof.Rows
variable {H:Hp}{h h' B:Heap}{a e C:Addr}{o:HO}{oe:Obj}{x:Str}{pos:Pos}
section
variable {X:Cx}
def rInsert:V->List V->Hp->VK->Prop:=fun x vs H Q=>∃l xs i y,x= .ref l/\vs=[.int i,y]/\H l=some (.lst xs)/\xs.length<sizeLine/\0<=i/\i<=xs.length/\Q .non (upd H l (.lst (xs.take i.toNat++y::xs.drop i.toNat)))
theorem mt_insert:MtM X "list.insert" rInsert:=by
 intro pins s σ H x vs v us Q I rx rv h;obtain ⟨l,xs,i,y,rfl,rfl,hH,hz,h0,h1,q⟩:=h
 cases rx
 obtain ⟨u1,u,rfl,r1,ru⟩:=rv.two;obtain ⟨t,rfl⟩:=r1;obtain ⟨z,its,n,r,hl,e⟩:=I.lstM hH;have hsl:sizeLine<2^62:=by decide +kernel
 have hfit:¬(!Builtin.List.listFitsIndex i)=true:=by
  unfold Builtin.List.listFitsIndex;have a1:-(2^63:Int)<=i:=by lia
  have a2:i<2^63:=by lia
  rw [qAR a1,qAR a2];decide
 refine qB3 F.slot_list_insert ⟨_,e,rfl⟩ F.entry_list_insert (F.args_list_insert_3 _ _ _) (PySem.AutoListH.list_insert_list_int_val_1 l its.toArray n i t u hfit (by rw [qAQ];lia)) ⟨e,?_⟩;refine ⟨.non,_,I.lset (its':=its.take i.toNat++u::its.drop i.toNat) hH e ?_ ((r.take _).append (.cons ru (r.drop _))) ?_,rfl,q⟩
 ·have hk:(if i<0 then (i+((its.toArray.size:Nat):Int)).toNat else min i.toNat its.toArray.size)=i.toNat:=by
   rw [qAB (by lia),qAQ];lia
  show (its.toArray.extract 0 _).push u++its.toArray.extract _=_;rw [hk];apply Array.ext';rw [qCn,qCN,qBs,qBs,qCi];simp [List.extract_eq_drop_take,qBb]
 ·rw [qAa,qAZ,qAj,qB1];lia
def mrg (kvs more:List (Key×V)):List (Key×V):=more.foldl (fun acc p=>putK acc p.1 p.2) kvs
theorem KV.mrg {kvs:List (Key×V)} {vs:List (Key×Value)} (r:KV kvs vs):∀{more:List (Key×V)} {ms:List (Key×Value)},KV more ms->KV (mrg kvs more) (merged vs ms):=by
 intro more ms r2;unfold L2.mrg merged;unfold KV at r2
 induction r2 generalizing kvs vs with
 | nil=>exact r
 | @cons p q l₁ l₂ h _ ih =>
  rw [qBX,qBX,h.1];exact ih (r.put q.1 h.2)
theorem mrg_len (kvs more:List (Key×V)):(mrg kvs more).length<=kvs.length+more.length:=by
 unfold mrg
 induction more generalizing kvs with
 | nil=>exact qAG _
 | cons p r ih =>
  rw [qBX,qAZ];have h1:=ih (putK kvs p.1 p.2);have h2:=zB5 kvs p.1 p.2;lia
def rDUpd:V->List V->Hp->VK->Prop:=fun x vs H Q=>∃a b kvs more,x= .ref a/\vs=[.ref b]/\H a=some (.dK kvs)/\H b=some (.dK more)/\a≠b/\kvs.length+more.length<=sizeLine/\Q .non (upd H a (.dK (mrg kvs more)))
theorem mt_dupd:MtR X "dict.update" rDUpd:=by
 intro pins s σ H x vs v us Q I rx rv h;obtain ⟨a,b,kvs,more,rfl,rfl,hA,hB,hne,hz,q⟩:=h
 cases rx
 obtain ⟨u,rfl,ru⟩:=rv.one
 cases ru
 obtain ⟨_,a2,vs1,a3,a4⟩:=I.hok a _ hA;obtain ⟨_,b2,vs2,b3,b4⟩:=I.hok b _ hB;have l1:kvs.length=vs1.length:=qBn a3;have l2:more.length=vs2.length:=qBn b3;refine call_meetsIn F.slot_dict_update a4.typeIs F.entry_dict_update (F.args_dict_update_2 _ _) (meets_dict_update (zA1 X.prog X.w) a b hne b2) ⟨vs1,vs2,a4,b4,by lia,fun h' d1 d2 sb=>?_⟩;have new:zA0 X.prog X.w (upd H a (.dK (mrg kvs more))) h' a (.dK (mrg kvs more)):=⟨qAW (mrg_len kvs more) hz,a2,_,a3.mrg b3,d1⟩;refine ⟨.non,_,I.write (x:=a) (e:=a) (t':=s.toks) (by rw [hA];exact trivial) (.inl rfl) (fun c o hc z=>(sb.2 c hc).trans z) ?_ new,rfl,q⟩;obtain ⟨o,_,_,e,_⟩:=d1;exact ⟨o,e⟩
end
section
variable {X:Cx}
theorem op_neU (hu:X.A.units<cLine):OpR X (compareOp .NotEq) (rUnlen X.K true):=by
 intro pins s σ H x y v u Q I rx ry h;obtain ⟨a,c,xs,ys,rfl,rfl,hx,hy,hl,q⟩:=h
 cases rx
 cases ry
 obtain ⟨its,r,pl,hz⟩:=I.list hx;obtain ⟨its2,r2,pl2,hz2⟩:=I.list hy;have e1:=r.length;have e2:=r2.length;exact SeqAt.RcNeAt.lists_lengths pl.isList pl2.isList (by rw [qAQ,qAQ];simp;lia) hu X.prog X.w X.xe _ ⟨.bl true,H,I,rfl,q⟩
end
theorem op_neAU {X:Cx} {k:Nat} (hr:Room k X.A):OpR X (compareOp .NotEq) (fun x y H Q=>rAlike X.K 8 false x y H Q\/rUnlen X.K true x y H Q):=(op_neA (hu2 hr)).either (op_neU (hu0 hr))
theorem un_laid {fs ex:List Addr} (k:∀b u,b∉ex->h.get? b=some u->h'.get? b=some u) (hp:h.objs.size<=a) (hn:H a=none):Un fs ex H (upd H a o) h h' where
 keep:=fun b u q _ _ hx=>k b u hx q
 slot:=fun b u q _ _ hx=>⟨u.slots,k b u hx q⟩
 free:=fun b u q n _=>by rw [upd_ne (qAN (qAi (qAI q) hp))];exact n
 there:=fun b u q hx=>⟨u,k b u hx q⟩
 tups:=fun b xs q=>by rw [upd_ne (zAh q hn)];exact q
 frzs:=fun b u xs q=>by rw [upd_ne (zAh q hn)];exact q
 tbls:=fun b ps q=>⟨#[],by rw [upd_ne (zAh q hn),q];simp⟩
theorem hok_laid {P:Program} {w:World} {ex:List Addr} (x:HOk P w H h) (k:∀b u,b∉ex->h.get? b=some u->h'.get? b=some u) (hex:∀b∈ex,H b=none) (hp:h.objs.size<=a) (new:zA0 P w (upd H a o) h' a o):HOk P w (upd H a o) h':=fun b u e=>by
 have hn:=x.fresh hp
 by_cases hb:b=a
 ·subst hb;rw [upd_same] at e;cases e;exact new
 ·rw [upd_ne hb] at e;refine (x b u e).stay (fun c v hc q=>k c v (fun z=>?_) q) (fun c q=>by rw [upd_ne (zAh q hn)];exact q) fun c xs q=>by rw [upd_ne (zAh q hn)];exact q
  have hz:=hex c z;rcases hc with y| y
  ·rw [y,e] at hz;cases hz
  ·rw [y] at hz;cases hz
open AutoSeq1 (wpAny_loadPart')
def TrD (h B:Heap) (e:Addr) (c:Value) (dd:Option Addr) (fl:Value):Prop :=
 ∃oe vs T oT ts,h.get? e=some oe/\oe.cls=c/\oe.dict=dd/\oe.data= .fields vs/\vs[1]?=some (.ref T)/\B.get? T=none/\T≠e/\h.get? T=some oT/\oT.data= .fields ts/\ts[3]?=some fl/\vs[2]?=some .none
def FlD (B:Heap) (l:List Env) (e:Addr) (c:Value) (dd:Option Addr) (h:Heap):Prop:=B.StaysIn h/\B.get? e=none/\h.FunFrames B l/\∃fl,TrD h B e c dd fl
theorem FlD.there {l:List Env} {c:Value} {dd:Option Addr} (x:FlD B l e c dd h):∃o,h.get? e=some o/\o.cls=c/\o.dict=dd/\∃vs,o.data= .fields vs/\vs[2]?=some .none :=
 let ⟨_,_,_,_,oe,vs,_,_,_,q1,q2,q3,q4,_,_,_,_,_,_,q5⟩:=x
 ⟨oe,q1,q2,q3,vs,q4,q5⟩
theorem FlD.less {env:Env} {l:List Env} {c:Value} {dd:Option Addr} (x:FlD B (env::l) e c dd h):FlD B l e c dd h :=
 let ⟨x1,x2,⟨_,_,x3⟩,x4⟩:=x
 ⟨x1,x2,x3,x4⟩
theorem dict_mf (o:Obj) (f:Array Value->Array Value):(Obj.mapFields f o).dict=o.dict:=by
 unfold Obj.mapFields;split<;>rfl
section
variable {M:Model} {A:Around} {E:Value->Shared->Prop} {s:Shared} {B:Heap} {env:Env} {l:List Env} {L e:Addr} {c:Value} {dd:Option Addr} {Q:Unit->Shared->Prop}
theorem rec_write {T:Addr} {oT:Obj} {ts:Array Value} {f:Array Value->Array Value} (st:B.StaysIn s.heap) (hl:s.heap.FunFrames B l) (nT:B.get? T=none) (hT:s.heap.get? T=some oT) (dT:oT.data= .fields ts) :
  (∀b,b≠T->(s.heap.update T (Obj.mapFields f)).get? b=s.heap.get? b)/\B.StaysIn (s.heap.update T (Obj.mapFields f))/\(s.heap.update T (Obj.mapFields f)).FunFrames B l/\s.heap.UpToSlots (s.heap.update T (Obj.mapFields f)) /\
   (s.heap.update T (Obj.mapFields f)).get? T=some (oT.mapFields f):=by
 have other:∀b,b≠T->(s.heap.update T (Obj.mapFields f)).get? b=s.heap.get? b:=fun b hb=>qBg _ _ (qAh hb);have nrec:∀b o,s.heap.get? b=some o->(∀vs,o.data≠.fields vs)->b≠T:=fun b o q nf z=>by rw [z,hT] at q;cases q;exact nf ts dT
 refine ⟨other,fun b o q=>(other b fun z=>by rw [z,nT] at q;cases q).trans (st b o q),hl.of_keeps fun b o q nf=>⟨o,(other b (nrec b o q nf)).trans q,rfl⟩,fun b o q nf=>⟨o.slots,(other b (nrec b o q nf)).trans q⟩,qA9 _ hT (qBU (qAr dT _))⟩
theorem zF3 {m:Option Addr} (x:FlD B l e c dd s.heap) (h:∀h',FlD B l e c dd h'->s.heap.UpToSlots h'->(∀b o,s.heap.get? b=some o->(∀vs,o.data≠.fields vs)->h'.get? b=some o)->Q () {s with heap:=h'}):wpAny M A (setFlight (.ref e) m) Q E s:=by
 obtain ⟨x1,x2,x3,fl,oe,vs,T,oT,ts,q1,q2,q2',q3,q4,q5,q6,q7,q8,q9,q10⟩:=x;unfold setFlight;refine qAA (qAw q1 q3 q4 ?_);rw [qAC (by simp)];have sz:3<ts.size:=(qBH.mp q9).1;refine qA2 q7 q8 sz ?_;obtain ⟨o,y1,y2,y3,y4⟩:=rec_write (f:=(·.setIfInBounds 3 (m.elim Value.none fun f=>rawInt f))) x1 x3 q5 q7 q8;exact h _ ⟨y1,x2,y2,_,oe,vs,T,_,_,(o e (qAh q6)).trans q1,q2,q2',q3,q4,q5,q6,y4,qAr q8 _,qC9 sz,q10⟩ y3 fun b ob z nf=>(o b fun z2=>by rw [z2,q7] at z;cases z;exact nf ts q8).trans z
theorem fly_entry {vs:Array Value} {hd:Value} {hn:Bool} (hfr:A.frames=some (env::l)) (hl:s.heap.FunFrames B (env::l)) (hf:env.frame=some L) (he:s.heap.get? e=some oe) (st:B.StaysIn s.heap) (ne:B.get? e=none) (dv:oe.data= .fields vs) (sz:1<vs.size) (v2:vs[2]?=some .none)
  (h:∀h',FlD B (env::l) e oe.cls oe.dict h'->s.heap.UpToSlots h'->Q () {s with heap:=h'}) :
  wpAny M A (do setField (.ref e) 1 (<-EntryCells.newEntry hd (<-frameOf env) .none (rawInt L) .none (<-entryPlaceOf L hn))) Q E s:=by
 have enf:e∉(env::l).filterMap (·.frame):=fun z=>by
  obtain ⟨_,o,ho,nf⟩:=hl.mem z;rw [he] at ho;cases ho;exact nf vs dv
 refine qAA (wpAny_frameOf_fun hfr hl hf fun h1 k1=>qAA (wpAny_entryPlaceOf fun pl hpl=>?_));unfold EntryCells.newEntry newFields;refine qAA (qA5 ?_ (hpl.sizeOk5 _ _ _ _ _));generalize hob:({cls:=.type "traceback",dict:=none,data:=.fields ([hd,.ref L,.none,rawInt L,.none]++(if pl.isEmpty then List.replicate 6 Value.none else pl)).toArray}:Obj)=ob;have obd:ob.data= .fields ([hd,.ref L,.none,rawInt L,.none]++(if pl.isEmpty then List.replicate 6 Value.none else pl)).toArray:=by rw [<-hob]
 have e1:h1.get? e=some oe:=(k1.2.1 e enf).trans he;have st1:B.StaysIn h1:=fun b o z=>(k1.2.1 b fun hm=>by rw [(hl.mem hm).1] at z;cases z).trans (st b o z);have Te:h1.objs.size≠e:=qAz (qAI e1);have e2:(h1.push ob).get? e=some oe:=qAJ _ e1;have t2:(h1.push ob).get? h1.objs.size=some ob:=qAe h1 (qBU obd);refine qA2 e2 dv sz (h _ ?_ ?_)
 ·have other:∀b,b≠e->((h1.push ob).update e (Obj.mapFields (·.setIfInBounds 1 (Value.ref h1.objs.size)))).get? b=(h1.push ob).get? b:=fun b hb=>qBg _ _ (qAh hb);refine ⟨fun b o z=>(other b fun z2=>by rw [z2,ne] at z;cases z).trans (qAJ _ (st1 b o z)),ne,hl.of_keeps fun b o z nf=>?_,rawInt L,_,_,h1.objs.size,_,_,qA9 _ e2 (qBU (qAr dv _)),qBv _ _,dict_mf _ _,qAr dv _,qC9 sz,st1.fresh,Te,(other _ Te).trans t2,obd,rfl,by rw [qC8 (by decide)];exact v2⟩;obtain ⟨sl,z1⟩:=k1.2.2 b o z;exact ⟨_,(other b fun z2=>by rw [z2,he] at z;cases z;exact nf vs dv).trans (qAJ _ z1),rfl⟩
 ·intro b o z nf;obtain ⟨sl,z1⟩:=k1.2.2 b o z;exact ⟨sl,(qBg _ _ fun z2=>by rw [<-z2,he] at z;cases z;exact nf vs dv).trans (qAJ _ z1)⟩
theorem fly_looks (hfr:A.frames=some (env::l)) (hf:env.frame=some L) (x:FlD B (env::l) e c dd s.heap) (h:∀h',FlD B (env::l) e c dd h'->s.heap.UpToSlots h'->Q () {s with heap:=h'}):wpAny M A (noteFrame (.ref e) env) Q E s:=by
 obtain ⟨x1,x2,x3,fl,oe,vs,T,oT,ts,q1,q2,q2',q3,q4,q5,q6,q7,q8,q9,q10⟩:=id x;unfold noteFrame;simp only [hf];refine qAA (qAw q1 q3 q4 ?_);rw [qAC (by simp)];refine qAA (qAw q7 q8 q9 ?_)
 by_cases hm:fl=rawInt L
 ·rw [qAC (by simpa using hm)];exact qAD (h _ x (Heap.UpToSlots.refl _))
 ·rw [qAB (by simpa using hm)];refine qAA (qA2 q7 q8 (qBH.mp q9).1 ?_);obtain ⟨o,y1,y2,y3,y4⟩:=rec_write (f:=(·.setIfInBounds 3 Value.none)) x1 x3 q5 q7 q8;subst q2 q2';exact fly_entry hfr y2 hf ((o e (qAh q6)).trans q1) y1 x2 q3 (qBH.mp q4).1 q10 fun h' z u=>h h' z (y3.trans u)
theorem fly_leaves (hfr:A.frames=some (env::l)) (hf:env.frame=some L) (x:FlD B (env::l) e c dd s.heap) (h:∀h',FlD B l e c dd h'->s.heap.UpToSlots h'->Q () {s with heap:=h'}):wpAny M A (leaving env (.ref e)) Q E s:=by
 unfold leaving;exact qAA (fly_looks hfr hf x fun h1 y u=>zF3 y fun h2 z v _=>h h2 z.less (u.trans v))
theorem fly_first {vs:Array Value} (hfr:A.frames=some (env::l)) (hl:s.heap.FunFrames B (env::l)) (hf:env.frame=some L) (he:s.heap.get? e=some oe) (st:B.StaysIn s.heap) (ne:B.get? e=none) (dv:oe.data= .fields vs) (h1:vs[1]?=some .none) (h2:vs[2]?=some .none)
  (h:∀h',FlD B l e oe.cls oe.dict h'->s.heap.UpToSlots h'->Q () {s with heap:=h'}):wpAny M A (leaving env (.ref e)) Q E s:=by
 unfold leaving noteFrame;simp only [hf];refine qAA (qAA (qAw he dv h1 ?_));rw [qAB (by decide)];exact fly_entry hfr hl hf he st ne dv (qBH.mp h1).1 h2 fun h1 y u=>zF3 y fun h2 z v _=>h h2 z.less (u.trans v)
end
theorem zE1 {P:Program} {w:World} (x:zA0 P w H h a o):∃u,h.get? a=some u:=by
 cases o with
 | lst xs=>obtain ⟨_,_,_,_,e⟩:=x;exact ⟨_,e⟩
 | tup xs=>obtain ⟨_,_,_,_,e,_⟩:=x;exact ⟨_,e⟩
 | dK kvs=>obtain ⟨_,_,_,_,o,_,_,e,_⟩:=x;exact ⟨_,e⟩
 | dT kvs=>obtain ⟨_,_,_,_,o,_,_,e,_⟩:=x;exact ⟨_,e⟩
 | set S n=>obtain ⟨o,_,_,_,e,_⟩:=x;exact ⟨_,e⟩
 | ins C dx fs=>obtain ⟨_,_,_,e,_⟩:=x;exact ⟨_,e⟩
 | own y=>exact x
 | xd fs=>obtain ⟨_,⟨_,_,_,e,_⟩,_⟩:=x;exact ⟨_,e⟩
 | rng lo hi=>obtain ⟨_,_,_,e⟩:=x;exact ⟨_,e⟩
 | frz ob u=>obtain ⟨e,_⟩:=x;exact ⟨_,e⟩
 | tbl ps=>exact ⟨_,show h.get? a=some _ from x⟩
 | met f y=>exact ⟨_,show h.get? a=some _ from x⟩
 | ext φ=>exact x.2.1
def part (h:Heap) (p:Addr->Bool):Heap:=⟨h.objs.mapIdx fun i o=>if p i then o else {o with data:=.freed},h.life⟩
theorem zIb (h:Heap) (p:Addr->Bool) (b:Addr):(part h p).get? b=if p b then h.get? b else none:=by
 unfold part Heap.get?;simp only [Array.getElem?_mapIdx]
 cases h.objs[b]? with
 | none=>simp
 | some o =>
  cases hp:p b with
  | true=>simp [hp]
  | false=>simp [hp]
def nfr (h:Heap) (l:List Env):Heap:=part h fun b=>decide (b∉frs l)
theorem nfr_stays (h:Heap) (l:List Env):(nfr h l).StaysIn h:=fun b o e=>by
 unfold nfr at e;rw [zIb] at e;split at e
 ·exact e
 ·cases e
theorem nfr_get {l:List Env} {b:Addr} (hb:b∉frs l):(nfr h l).get? b=h.get? b:=by
 unfold nfr;rw [zIb,qAC (by simpa using hb)]
theorem nfr_no {l:List Env} {b:Addr} (hb:b∈frs l):(nfr h l).get? b=none:=by
 unfold nfr;rw [zIb,qAB (by simpa using hb)]
theorem funs_any {base:Heap}:∀{l:List Env},h.FunFrames base l->(∀b∈frs l,B.get? b=none)->h.FunFrames B l
 | [],_,_=>trivial
 | env::rest,⟨m,⟨L,o,e1,e2,e3,e4⟩,r⟩,n=>⟨m,⟨L,o,e1,n L (by unfold frs;rw [qBe,e1];exact qAU),e3,e4⟩,funs_any r fun b hb=>n b (by
   unfold frs at hb ⊢;rw [qBe,e1];exact qAP _ hb)⟩
def CX1 (P:Program) (w:World):CXT:=fun outer H s E e s'=>∃(a C:Addr) (dd:Option Addr) (H':Hp) (B:Heap),e= .ref a/\FlD B outer a (.ref C) dd s'.heap/\s'.os=s.os/\AllBare s'.gens/\Un (frs outer) [] H H' s.heap s'.heap/\HOk P w H' s'.heap /\
 H' a=none/\s.heap.get? a=none/\(∀b o,(H' b≠none\/(s.heap.get? b≠none/\b∉frs outer))->s'.heap.get? b=some o->B.get? b=some o)/\E (.ref C) dd H'
section
variable {X:Cx} {pins:List (Addr×Obj)} {σ:St} {H:Hp} {s:Shared}
theorem leave_un {H':Hp} {fs:List Addr} {H₀:Hp} {h₀:Heap} (u:Un fs [] H₀ H' h₀ h) (st:B.StaysIn h') (us:h.UpToSlots h') (hB:∀b o,(H' b≠none\/(h₀.get? b≠none/\b∉fs))->h.get? b=some o->B.get? b=some o)
  (hf:∀b∈fs,∀o,h₀.get? b=some o->∀vs,o.data≠.fields vs) (hfn:∀b∈fs,H₀ b=none):Un fs [] H₀ H' h₀ h' where
 keep:=fun b o e n nf nx=>st b o (hB b o (.inr ⟨by rw [e];simp,nf⟩) (u.keep b o e n nf nx))
 slot:=fun b o e n hb nx=>by
  obtain ⟨sl,q⟩:=u.slot b o e n hb nx;obtain ⟨sl',q'⟩:=us b _ q (hf b hb o e);exact ⟨sl',q'⟩
 free:=u.free
 there:=fun b o e nx=>by
  by_cases hb:b∈fs
  ·obtain ⟨sl,q⟩:=u.slot b o e (hfn b hb) hb nx;obtain ⟨sl',q'⟩:=us b _ q (hf b hb o e);exact ⟨_,q'⟩
  ·obtain ⟨o',q⟩:=u.there b o e nx;exact ⟨o',st b o' (hB b o' (.inr ⟨by rw [e];simp,hb⟩) q)⟩
 tups:=u.tups
 frzs:=u.frzs
 tbls:=u.tbls
theorem zGv {P:Program} {w:World} {H':Hp} (k:HOk P w H' h) (st:B.StaysIn h') (hB:∀b o,H' b≠none->h.get? b=some o->B.get? b=some o):HOk P w H' h':=fun b u e =>
 (k b u e).stay (fun c v hc q=>st c v (hB c v (by
  rcases hc with z| z
  ·rw [z,e];simp
  ·rw [z];simp) q)) (fun _ q=>q) fun _ _ q=>q
end
section
variable {P:Program} {w:World} {K:PySem.W.Frag} {mg:Str->Option Value} {base:Heap} {N:List Str} {qual:Str} {scope:Scope} {f:Addr} {cd:Value} {A:Around} {outer:List Env} {s:Shared} {H:Hp} {E E':XK}
theorem made1 {pins:List (Addr×Obj)} {σ:St} {H1:Hp} {s1:Shared} {args:List Value} (I:Inv (cxOf (CX1 P w) P w K mg base N qual scope f cd A outer s H E) pins σ H1 s1) (hx:Heap.MadeExcOf s1.heap h' e (.ref C) args) (q:E (.ref C) none H1) :
  (cxOf (CX1 P w) P w K mg base N qual scope f cd A outer s H E).xe (.ref e) {s1 with heap:=h'}:=by
 have hfs:∀b∈frs (cxOf (CX1 P w) P w K mg base N qual scope f cd A outer s H E).stack,(nfr s1.heap (cxOf (CX1 P w) P w K mg base N qual scope f cd A outer s H E).stack).get? b=none:=fun b hb=>nfr_no hb;obtain ⟨t,he,htn,ht⟩:=hx.there
 have old0:∀b,s1.heap.get? b=none->(nfr s1.heap (cxOf (CX1 P w) P w K mg base N qual scope f cd A outer s H E).stack).get? b=none:=fun b z=>by
  cases q0:(nfr s1.heap (cxOf (CX1 P w) P w K mg base N qual scope f cd A outer s H E).stack).get? b with
  | none=>rfl
  | some o=>rw [nfr_stays _ _ b o q0] at z;cases z
 refine fly_first (B:=nfr s1.heap (cxOf (CX1 P w) P w K mg base N qual scope f cd A outer s H E).stack) I.ok.frames ((funs_any I.stack hfs).of_keeps fun b o z _=>⟨o,hx.keeps b o z,rfl⟩) rfl he (fun b o z=>hx.keeps b o (nfr_stays _ _ b o z)) (old0 e hx.new) rfl rfl rfl fun h2 fl us=>?_;have st:=fl.1;have I2:Inv (cxOf (CX1 P w) P w K mg base N qual scope f cd A outer s H E) pins σ H1 {s1 with heap:=h',toks:=s1.toks}:=I.kept hx.keeps
 have old:∀b o,(H1 b≠none\/(s.heap.get? b≠none/\b∉frs outer))->h'.get? b=some o->(nfr s1.heap (cxOf (CX1 P w) P w K mg base N qual scope f cd A outer s H E).stack).get? b=some o:=fun b o hc eo=>by
  have nst:b∉frs (cxOf (CX1 P w) P w K mg base N qual scope f cd A outer s H E).stack:=fun z=>by
   rcases hc with y| ⟨y1,y2⟩
   ·exact y (I.stkFree b z)
   ·rcases qAO.mp (I.stkSub b z) with y| y
    ·cases q0:s.heap.get? b with
     | none=>exact y1 q0
     | some o0=>exact absurd (qAi (qAI q0) (by rw [y];exact I.ok.above)) (qAy _)
    ·exact y2 y
  rw [nfr_get nst]
  have:∃o2,s1.heap.get? b=some o2:=by
   rcases hc with z| ⟨z1,z2⟩
   ·cases q0:H1 b with
    | none=>exact absurd q0 z
    | some u=>exact zE1 (I.hok b u q0)
   ·cases q0:s.heap.get? b with
    | none=>exact absurd q0 z1
    | some o0=>exact I.base.there b o0 q0 (by exact fun z=>nomatch z)
  obtain ⟨o2,e2⟩:=this;have e3:=hx.keeps b o2 e2;rw [eo] at e3;cases e3;exact e2
 refine ⟨e,C,none,H1,_,rfl,fl,I.os,I.bare,leave_un I2.base st us old (fun b hb o eo=>?_) (fun b hb=>I.ok.frf b hb),zGv I2.hok st fun b o z=>old b o (.inl z),?_,?_,fun b o hc eo=>?_,q⟩
 ·obtain ⟨_,o',e',d⟩:=I.ok.funs.mem hb;have e':s.heap.get? b=some o':=e';rw [eo] at e';cases e';exact d
 ·cases q0:H1 e with
  | none=>rfl
  | some u =>
   obtain ⟨o2,e2⟩:=zE1 (I.hok e u q0);rw [hx.new] at e2;cases e2
 ·cases q0:s.heap.get? e with
  | none=>rfl
  | some o0 =>
   obtain ⟨o1,e1⟩:=I.base.there e o0 q0 (by exact fun z=>nomatch z);rw [hx.new] at e1;cases e1
 ·have eo:h2.get? b=some o:=eo
  have:∃o2,h'.get? b=some o2:=by
   rcases hc with z| ⟨z1,z2⟩
   ·cases q0:H1 b with
    | none=>exact absurd q0 z
    | some u=>exact zE1 (I2.hok b u q0)
   ·cases q0:s.heap.get? b with
    | none=>exact absurd q0 z1
    | some o0=>exact I2.base.there b o0 q0 (by exact fun z=>nomatch z)
  obtain ⟨o2,e2⟩:=this;have e3:=old b o2 hc e2;rw [st b o2 e3] at eo
  cases eo
  exact e3
end
theorem xcls_at {K:PySem.W.Frag} {bmB:List Value} {newId:String} (X:K.In h) (q:PySem.W.excIn K C bmB newId=true) :
  ∃(bm:List Value) (N:Addr) (nm qn:Str) (bs:List Value) (hdct:Bool) (sn:List Str) (sub:List Value) (ab:Bool) (col:Option Bool) (dd:Option Addr) (k0 k1 k2 k3 k5:Option Value) (mN:Str->Option Value),
   h.get? C=some (excClassObj nm qn C N bs bm hdct sn sub ab col dd k0 k1 k2 k3 k5 newId)/\h.Ns N mN/\mN "__init__" = none/\OwnTail h bmB bm:=by
 unfold PySem.W.excIn at q;split at q
 case h_2=>cases q
 case h_1 dd cd sl ho =>
  split at q
  case h_2=>cases q
  case h_1 C1 bm k0 k1 k2 k3 n k5 hm hs =>
   simp only [qBR,qBJ,Bool.not_eq_true'] at q;obtain ⟨⟨⟨⟨⟨rfl,rfl⟩,nd⟩,tl⟩,ok⟩,ni⟩:=q
   cases cd
   dsimp only at hm nd ok ni;subst hm nd
   cases sl
   dsimp only at hs;subst hs;exact ⟨_,_,_,_,_,_,_,_,_,_,_,_,_,_,_,_,_,X _ _ ho,.of_isNs (PySem.W.isNs_of_in X ok),PySem.W.nsMap_none_of_in X ok ni,PySem.W.tail_of_in X tl⟩
section
variable {X:Cx} {E:XK} {C:Addr}
def RaiseOk (X:Cx) (C:Addr) (E:XK):Prop:=∀(pins:List (Addr×Obj)) (σ:St) (H:Hp) (s:Shared) (h':Heap) (e:Addr) (us:List Value),Inv X pins σ H s->Heap.MadeExcOf s.heap h' e (.ref C) us->E (.ref C) none H->X.xe (.ref e) {s with heap:=h'}
def sRaise (E:XK) (C:Addr) (t:TA):TS:=fun _ σ H=>t σ H fun vs H1=>vs.length<=sizeLine/\E (.ref C) none H1
abbrev bmVE:List Value:=[.type "ValueError",.type "Exception",.type "BaseException",.type "object"]
theorem zH9 {np cpos pos:Pos} {a:Expr} {es:List Expr} {t:TA} (hx:RaiseOk X C E) (hc:X.calm=true) (hg:Gl X x) (hm:X.mg x=some (.ref C)) (q:PySem.W.excIn X.K C bmVE "ValueError.__new__" = true) (ha:PA X (a::es) t)
  (hd:(x==("__debug__" : Str))=false:=by decide) (he:starEach (a::es) X.env=(false,eval a X.env)::starEach es X.env:=by rfl) (hpl:(backTo cpos (starEach es X.env)).any (·.1)=false:=by rfl) :
  PS X (.Raise (some (.Call (.Name x np) (a::es) [] cpos)) none pos) (sRaise E C t):=by
 intro pins s σ H D I h;obtain ⟨bm,N,nm,qn,bs,hdct,sn,sub,ab,col,dd,k0,k1,k2,k3,k5,mN,hC,hN,hni,T⟩:=xcls_at I.ok.mod.kin q;refine wpAny_Raise_call_subU F.excBase_ValueError (B:= "ValueError") (C:=C) (nm:=nm) (q:=qn) (N:=N) (bs:=bs) (bm:=bm) (hdct:=hdct) (sn:=sn) (sub:=sub) (ab:=ab) (col:=col) (dd:=dd) (k0:=k0) (k1:=k1) (k2:=k2) (k3:=k3) (k5:=k5) (mN:=mN) (by decide +kernel) F.excBase_ValueError (T.hasType (by decide +kernel)) (I.ok.hd hc) ?_ hni (zEj I hg hm ?_ hd)
 ·rw [he];show (false||(backTo cpos (starEach es X.env)).any (·.1))=false;rw [hpl];rfl
 refine ⟨rfl,?_⟩;have ha':=ha cpos pins s σ H _ I h;rw [he] at ha' ⊢;refine qC2 (thn ha' fun us s1 ⟨vs,H1,I1,r1,z,q1⟩=>?_);exact ⟨rfl,by rw [<-r1.length];exact z,I1.bk _ _ hC,hN.keeps I1.bk,T.keeps I1.bk,fun h' e mk=>hx pins σ H1 s1 h' e us I1 mk q1⟩
end
def mroK (K:PySem.W.Frag) (C:Addr):List Value:=match K.lookup C with
 | some ⟨_,_,.cls cd,_⟩=>cd.mro
 | _=>[]
open PySem.W in
def excB (K:Frag) (C:Addr):Bool:=match K.lookup C with
 | none=>false
 | some o=>match o.cls,o.data,o.slots.toList with
  | .type y,.cls c,[_,_,_,_,some (.builtin n),_]=>y== "type" && c.mro.head?==some (.ref C)&&n== "ValueError.__new__" && !c.hasDel&&tailIn K bmVE c.mro.tail&&nsOkIn K c.ns
  | _,_,_=>false
open PySem.W in
theorem excB_of {K:Frag} (q:excIn K C bmVE "ValueError.__new__" = true):excB K C=true:=by
 unfold excIn at q;split at q
 case h_2=>cases q
 case h_1 dd cd sl ho =>
  split at q
  case h_2=>cases q
  case h_1 C1 bm k0 k1 k2 k3 n k5 hm hs =>
   simp only [qBR,qBJ,Bool.not_eq_true'] at q;obtain ⟨⟨⟨⟨⟨rfl,rfl⟩,nd⟩,tl⟩,ok⟩,ni⟩:=q;unfold excB;rw [ho];simp only [hs,hm,nd,ok,List.head?_cons,List.tail_cons];rw [tl];simp
open PySem.W in
theorem xcB_at {K:Frag} (X:K.In h) (q:excB K C=true) :
  ∃(bm:List Value) (N:Addr) (nm qn:Str) (bs:List Value) (hdct:Bool) (sn:List Str) (sub:List Value) (ab:Bool) (col:Option Bool) (dd:Option Addr) (k0 k1 k2 k3 k5:Option Value),
   h.get? C=some (excClassObj nm qn C N bs bm hdct sn sub ab col dd k0 k1 k2 k3 k5 "ValueError.__new__")/\OwnTail h bmVE bm/\mroK K C= .ref C::bm:=by
 unfold excB at q;split at q
 case h_1=>cases q
 case h_2 o ho =>
  split at q
  case h_2=>cases q
  case h_1 y c k0 k1 k2 k3 n k5 hc hd hs =>
   simp only [qBR,qBJ,Bool.not_eq_true'] at q;obtain ⟨⟨⟨⟨⟨rfl,hm⟩,rfl⟩,nd⟩,tl⟩,ok⟩:=q
   have mk:mroK K C=c.mro:=by
    unfold mroK;rw [ho];obtain ⟨o1,o2,o3,o4⟩:=o;have hd:o3= .cls c:=hd;subst hd;rfl
   obtain ⟨o1,o2,o3,o4⟩:=o
   cases hc
   cases hd
   obtain ⟨sl⟩:=o4;have hs:sl=_:=hs;subst hs;have at_:=X _ _ ho;have T:=tail_of_in X tl;obtain ⟨c1,c2,c3,c4,c5,c6,c7,c8,c9,c10,c11⟩:=c;have hm:c3.head?=some (.ref C):=hm;have nd:c11=false:=nd;subst nd
   cases c3 with
   | nil=>cases hm
   | cons v bm =>
    cases hm
    exact ⟨bm,c4,c1,c5,c2,c6,c7,c8,c9,c10,o2,k0,k1,k2,k3,k5,at_,T,mk⟩
section
variable {M:Model} {A:Around} {E:Value->Shared->Prop} {h:Heap} {g:Array GenState} {d:Drawn} {t:Nat} {os:OsState}
theorem match_own {B NC NB:Addr} {nm qn nm' qn':Str} {bs bm bs' bm':List Value} {hdct hdct':Bool} {sn sn':List Str} {sub sub':List Value} {ab ab':Bool} {col col':Option Bool} {dd dd':Option Addr} {k0 k1 k2 k3 k5 j0 j1 j2 j3 j5:Option Value} {newId newId':String} {Q:Bool->Shared->Prop} {r:Bool}
  (hC:h.get? C=some (excClassObj nm qn C NC bs bm hdct sn sub ab col dd k0 k1 k2 k3 k5 newId)) (hB:h.get? B=some (excClassObj nm' qn' B NB bs' bm' hdct' sn' sub' ab' col' dd' j0 j1 j2 j3 j5 newId')) (he:h.get? e=some oe) (hcls:oe.cls= .ref C)
  (base:(Value.ref B::bm').contains (.type "BaseException")=true) (hr:(Value.ref C::bm).contains (.ref B)=r) (q:Q r ⟨h,g,d,t,os⟩):wpAny M A (excMatches (.ref e) (.ref B)) Q E ⟨h,g,d,t,os⟩:=by
 have f:=tc_notTuple;unfold excMatches
 repeat (first| (with_reducible refine wpAny_loadPart_at he ?_;rw [hcls])| with_reducible refine wpAny_loadPart_at hB ?_| (with_reducible refine wpAny_isSubtype_exc hB ?_;rw [base])| (with_reducible refine wpAny_isSubtype_exc hC ?_;rw [hr])| wp_step)
 cases r<;>(wp_walk;exact q)
end
abbrev Cx.tb (X:Cx) (pl:List (Addr×Obj)) (ξ:Value->Shared->Prop):Cx:={X with pn:=X.pn++pl,xe:=ξ}
abbrev Cx.hnd (X:Cx) (a:Addr):Cx:={X with A:=X.A.mark (some (.ref a)),calm:=false,xe:=fun _ _=>False}
section
variable {X:Cx} {pins:List (Addr×Obj)} {σ:St} {H:Hp} {s:Shared}
theorem Inv.to_tb {ξ:Value->Shared->Prop} (I:Inv X pins σ H s):Inv (X.tb pins ξ) [] σ H s :=
 ⟨⟨I.ok.mod,I.ok.kind,I.ok.glob,I.ok.blt,I.ok.above,I.ok.inj,I.ok.has,I.ok.cab,I.ok.hd,I.ok.frames,I.ok.stk,I.ok.exf,I.ok.bs,I.ok.bsz,I.ok.noex,I.ok.exfs,I.ok.funs,I.ok.frf⟩,I.os,I.bare,I.base,I.loc,I.cell,I.free,I.freeC,fun p hp=>I.pin p (by simpa using hp),I.hok,I.len⟩
theorem Inv.of_tb {ξ:Value->Shared->Prop} {pl:List (Addr×Obj)} (I:Inv (X.tb pl ξ) pins σ H s):Inv X pl σ H s :=
 ⟨⟨I.ok.mod,I.ok.kind,I.ok.glob,I.ok.blt,I.ok.above,I.ok.inj,I.ok.has,I.ok.cab,I.ok.hd,I.ok.frames,I.ok.stk,I.ok.exf,I.ok.bs,I.ok.bsz,I.ok.noex,I.ok.exfs,I.ok.funs,I.ok.frf⟩,I.os,I.bare,I.base,I.loc,I.cell,I.free,I.freeC,fun p hp=>I.pin p (qAk _ hp),I.hok,I.len⟩
theorem Inv.to_hnd {a:Addr} (I:Inv X pins σ H s):Inv (X.hnd a) pins σ H s :=
 ⟨⟨I.ok.mod,I.ok.kind,I.ok.glob,I.ok.blt,I.ok.above,I.ok.inj,I.ok.has,I.ok.cab,(fun z=>nomatch z),I.ok.frames,I.ok.stk,I.ok.exf,I.ok.bs,I.ok.bsz,I.ok.noex,I.ok.exfs,I.ok.funs,I.ok.frf⟩,I.os,I.bare,I.base,I.loc,I.cell,I.free,I.freeC,I.pin,I.hok,I.len⟩
theorem Inv.of_hnd (I:Inv (X.hnd a) pins σ H s) (hd:X.calm=true->X.A.handled=none):Inv X pins σ H s :=
 ⟨⟨I.ok.mod,I.ok.kind,I.ok.glob,I.ok.blt,I.ok.above,I.ok.inj,I.ok.has,I.ok.cab,hd,I.ok.frames,I.ok.stk,I.ok.exf,I.ok.bs,I.ok.bsz,I.ok.noex,I.ok.exfs,I.ok.funs,I.ok.frf⟩,I.os,I.bare,I.base,I.loc,I.cell,I.free,I.freeC,I.pin,I.hok,I.len⟩
theorem Inv.track (I:Inv X pins σ H s) (n:H a=none) (n0:X.s₀.heap.get? a=none) (hL:a≠X.env.locals) (hc:∀x c,X.env.cells.lookup x=some c->c≠a) (hp:∀p∈X.pn++pins,p.1≠a) (ob:zA0 X.prog X.w (upd H a o) s.heap a o):Inv X pins σ (upd H a o) s:=by
 refine ⟨I.ok,I.os,I.bare,⟨I.base.keep,I.base.slot,fun b u e m hx=>?_,I.base.there,fun b xs e=>?_,fun b u v e=>?_,fun b ps e=>?_⟩,I.loc,I.cell,?_,fun x c e=>?_,fun p q=>?_,fun b u e=>?_,I.len⟩
 ·have:b≠a:=fun z=>by rw [z,n0] at e;cases e
  rw [upd_ne this];exact I.base.free b u e m hx
 ·have h1:=I.base.tups b xs e;rw [upd_ne (zAh h1 n)];exact h1
 ·have h1:=I.base.frzs b u v e;rw [upd_ne (zAh h1 n)];exact h1
 ·obtain ⟨more,h1⟩:=I.base.tbls b ps e;exact ⟨more,by rw [upd_ne (zAh h1 n)];exact h1⟩
 ·rw [upd_ne (qAh hL)];exact I.free
 ·rw [upd_ne (hc x c e)];exact I.freeC x c e
 ·obtain ⟨p1,p2,p3⟩:=I.pin p q;exact ⟨p1,by rw [upd_ne (hp p q)];exact p2,p3⟩
 ·by_cases hb:b=a
  ·subst hb;rw [upd_same] at e;cases e;exact ob
  ·rw [upd_ne hb] at e;refine (I.hok b u e).stay (fun _ _ _ q=>q) (fun c q=>?_) fun c xs q=>?_
   ·rw [upd_ne (zAh q n)];exact q
   ·rw [upd_ne (zAh q n)];exact q
end
section
variable {X:Cx} {pins:List (Addr×Obj)} {σ:St} {H:Hp} {s:Shared}
theorem Inv.gone {i:Nat} {m:Str->Option Value} {u:Option Value} {tk:Nat} (I:Inv X pins σ H s) (hN:X.N.Nodup) (hi:X.N[i]?=some x)
  (hm:s.heap.Ns X.env.locals m/\∀(j:Nat) (y:Str) (v:V),X.N[j]?=some y->σ[j]?=some (some v)->Vis X.env.scope y->∃w,RelV v w/\Look X.env s.heap m y w) (hn:h'.Ns X.env.locals (fun y=>if y=x then u else m y)) (hs:Heap.SameBut X.env.locals s.heap h') :
  Inv X pins (σ.set i none) H {s with heap:=h',toks:=tk}:=by
 obtain ⟨_,hl⟩:=hm;have old:∀b o,X.s₀.heap.get? b=some o->b≠X.env.locals:=fun b o e=>qAN (qAi (qAI e) I.ok.above);have iσ:i<σ.length:=by rw [I.len];exact (qAc.mp hi).1
 refine ⟨I.ok,I.os,I.bare,⟨fun b o e n hb hx=>(hs.2 b (old b o e)).trans (I.base.keep b o e n hb hx),fun b o e n hb hx=>?_,I.base.free,fun b o e hx=>?_,I.base.tups,I.base.frzs,I.base.tbls⟩,⟨_,hn,fun j y v e1 e2 e3=>?_⟩,fun y c e=>?_,I.free,I.freeC,fun p hp=>?_,fun b ob e=>?_,by simpa using I.len⟩
 ·obtain ⟨sl,q⟩:=I.base.slot b o e n hb hx;exact ⟨sl,(hs.2 b (old b o e)).trans q⟩
 ·obtain ⟨o2,q⟩:=I.base.there b o e hx;exact ⟨o2,(hs.2 b (old b o e)).trans q⟩
 ·have ji:j≠i:=fun z=>by
   subst z;rw [qCB iσ] at e2
   cases e2
  rw [qCy (qAh ji)] at e2;obtain ⟨w,r,q⟩:=hl j y v e1 e2 e3;have yx:y≠x:=fun z=>ji (zIi hN e1 (z▸hi));refine ⟨w,r,?_⟩;rcases q with ⟨k,e⟩| ⟨k,c,e,z⟩
  ·exact .inl ⟨k,by simp [yx,e]⟩
  ·exact .inr ⟨k,c,e,z.sameBut hs (I.cne y c e)⟩
 ·obtain ⟨w,z⟩:=I.cell y c e;exact ⟨w,z.sameBut hs (I.cne y c e)⟩
 ·obtain ⟨p1,p2,p3,p4,p5⟩:=I.pin p hp;exact ⟨(hs.2 p.1 p3).trans p1,p2,p3,p4,p5⟩
 ·refine (I.hok b ob e).stay (fun c w hc q=>(hs.2 c ?_).trans q) (fun _ q=>q) fun _ _ q=>q;rintro rfl;rcases hc with rfl| hc
  ·rw [I.free] at e;cases e
  ·rw [I.free] at hc;cases hc
theorem zE2 {M:Model} {A:Around} {E:Value->Shared->Prop} {i:Nat} {Q:Unit->Shared->Prop} (I:Inv X pins σ H s) (hN:X.N.Nodup) (hi:X.N[i]?=some x) (hk:X.env.kindOf x=some .local) (h:∀s',Inv X pins (σ.set i none) H s'->Q () s') :
  wpAny M A (do bindName X.env x .none;unbindBehindTheSuite X.env x pos) Q E s:=by
 have hcls:(X.env.scope.kind== .class||(X.env.scope.kind== .module&&X.env.locals != X.env.globals))=false:=by rw [I.ok.kind];rfl
 refine qAA (wpAny_bindName (zFz (v:=.non) (u:=.none) I hN hi (.inl hk) rfl (fun s1 I1=>?_) (.inr hk)));unfold unbindBehindTheSuite;refine wpAny_onRaise ?_;obtain ⟨m,hn,hl⟩:=id I1.loc;have iσ:i<σ.length:=by rw [I.len];exact (qAc.mp hi).1
 obtain ⟨w,r,q⟩:=hl i x .non hi (by rw [qCB iσ]) (.inl hk)
 have hv:m x=some w:=by
  rcases q with ⟨_,e⟩| ⟨z,_⟩
  ·exact e
  ·rw [hk] at z;rcases z with z| z<;>cases z
 refine wpAny_unbindName_local hk hn hv hcls fun h' u hn' hs=>?_;have:=Inv.gone (tk:=s1.toks) I1 hN hi ⟨hn,hl⟩ hn' hs;rw [List.set_set] at this;exact h _ this
def excD (a C:Addr) (dd:Option Addr):HO:=.ext fun h=>∃o,h.get? a=some o/\o.cls= .ref C/\o.dict=dd/\∃vs,o.data= .fields vs/\vs[2]?=some .none
theorem excD_ok {P:Program} {w:World} {dd:Option Addr} (x:∃o,h.get? a=some o/\o.cls= .ref C/\o.dict=dd/\∃vs,o.data= .fields vs/\vs[2]?=some .none):zA0 P w H h a (excD a C dd):=by
 obtain ⟨o,e,c⟩:=x;exact ⟨⟨o,e,c⟩,⟨o,e⟩,fun h1 h2 ⟨o1,e1,c1⟩ k=>⟨o1,k o1 e1,c1⟩⟩
end
def PassesAt (CX:CXT) (X:Cx) (E:St->XK):Prop:=∀(pins:List (Addr×Obj)) (σ:St) (H:Hp) (s:Shared) (e:Value) (s':Shared),Inv X pins σ H s->CX X.stack H s (E σ) e s'->X.xe e s'
def hEnds (i:Nat) (D:Ends):Ends:={nx:=fun σ H=>D.nx (σ.set i none) H,rt:=D.rt,bk:=fun σ H=>D.bk (σ.set i none) H,ct:=fun σ H=>D.ct (σ.set i none) H}
def tTry (K:PySem.W.Frag) (Cb:Addr) (i:Nat) (tb:(St->XK)->TS) (th:Addr->TS):TS:=fun D σ H =>
 tb (fun σ' c dd H'=>∃C,c= .ref C/\excB K C=true/\(mroK K C).contains (.ref Cb)=true/\∀a,H' a=none->th a (hEnds i D) (σ'.set i (some (.ref a))) (upd H' a (excD a C dd))) D σ H
section
variable {X:Cx}
theorem sp_tb {pl:List (Addr×Obj)} {ξ:Value->Shared->Prop} {D:Ends} {f:Flow} {s':Shared} {pins:List (Addr×Obj)} (h:SP (X.tb pl ξ) pins D f s'):SP X pl D f s':=by
 cases f with
 | next=>obtain ⟨σ',H',I,q⟩:=h;exact ⟨σ',H',I.of_tb,q⟩
 | brk=>obtain ⟨σ',H',I,q⟩:=h;exact ⟨σ',H',I.of_tb,q⟩
 | cont=>obtain ⟨σ',H',I,q⟩:=h;exact ⟨σ',H',I.of_tb,q⟩
 | ret u=>obtain ⟨v,σ',H',I,r,q⟩:=h;exact ⟨v,σ',H',I.of_tb,r,q⟩
theorem pe_callX {CX:CXT} {k:Nat} {f:Addr} {fd:FuncData} {ps:List Str} {sp:Sp} {E:St->XK} {p pos:Pos} {e:Expr} {es:List Expr} {t:TA} (F:FnOk X.prog X.w X.K X.mg X.base CX k f fd ps sp) (hr:Room k X.A) (hg:Gl X x) (hm:X.mg x=some (.ref f)) (hk:PySem.W.keepIn X.K (.ref f)=true) (hb:zCd X.K fd ps []) (hx:PassesAt CX X E)
  (ha:PA X (e::es) t) (hdb:(x==("__debug__" : Str))=false:=by decide) (he:starEach (e::es) X.env=(false,eval e X.env)::starEach es X.env:=by rfl) (hpl:(backTo pos (starEach es X.env)).any (·.1)=false:=by rfl) :
  PE X (.Call (.Name x p) (e::es) [] pos) (fun σ H Q=>t σ H fun vs H1=>sp vs H1 Q (E σ)):=by
 intro pins s σ H Q I h;refine qBz (zEj I hg hm ?_ hdb);refine qCH (h₀:=X.base) I.ok.mod.kin hk (thn (ha pos pins s σ H _ I h) fun us s1 ⟨vs,H1,I1,r,q⟩=>⟨I1.kIn,?_⟩) he hpl;have hl:us.length=ps.length:=by rw [<-r.length];exact F.len _ _ _ _ q
 have bd:=hb s1 us I1.kIn (by rw [qA0];exact hl);rw [qA0] at bd;refine qBy (qBV (F.run X.A X.stack s1 H1 ⟨us,[]⟩ us vs Q (E σ) hr I1.env0 bd r q) fun rr s' hq=>?_)
 cases rr with
 | error x=>exact hx pins σ H1 s1 x s' I1 hq
 | ok fl =>
  cases fl with
  | ret u=>exact I1.after hq
  | next=>exact hq.elim
  | brk=>exact hq.elim
  | cont=>exact hq.elim
end
section
variable {P:Program} {w:World} {K:PySem.W.Frag} {mg:Str->Option Value} {base:Heap}
theorem Fun.okX {qual:Str} {st:Stmt} {f:Addr} {fd:FuncData} {N ps:List Str} {k:Nat} {sp:Sp} (F:Fun K x qual st f fd) (S:FnScope N ps (zAe st)) (len:∀vs H Q E,sp vs H Q E->vs.length=ps.length)
  (hbody:∀(cdv:Value) (A:Around) (outer:List Env) (s:Shared) (H:Hp) (vs:List V) (Q:VK) (E:XK),Room k (A.deeper (envOfC qual (zAe st) s.heap.objs.size f cdv))->sp vs H Q E ->
   ∃t,PSs (cxOf (CX1 P w) P w K mg base N qual (zAe st) f cdv A outer s H E) (zBs st) t/\t {nx:=fun _ H'=>Q .non H',rt:=Q} (start N vs) H):FnOk P w K mg base (CX1 P w) (k+1) f fd ps sp:=by
 obtain ⟨oc,od,kV,doc,pm,an,cdv,ct,osl,rfl,lk,hcd⟩:=F.ex;exact fn_of lk hcd S len fun A outer s H vs Q E hr hsp=>hbody cdv A outer s H vs Q E hr hsp
theorem raise1 {N:List Str} {qual:Str} {scope:Scope} {f:Addr} {cd:Value} {A:Around} {outer:List Env} {s:Shared} {E:XK}:RaiseOk (cxOf (CX1 P w) P w K mg base N qual scope f cd A outer s H E) C E:=fun _ _ _ _ _ _ _ I hx q=>made1 I hx q
end
end L2
namespace L2
open PySem PySem.Spec PyProof.Rows PySem.W PySem.Builtin PySem.Builtin.ObjectAttr PySem.Builtin.Getset_descriptor
section
variable {prog:Program} {w:World} {A:Around} {E:Value->Shared->Prop} {s:Shared} {K:PySem.W.Frag} {x C:Addr} {R:Result->Shared->Prop}
theorem exc_get {tp:Value} (X:K.In s.heap) (L0:Looks (model prog w) s.heap (typeOf (.ref x)) (.ref C)) (hm:mroIn K C (.type "object")=some true) (h:R (.ok (.ret (.ref C))) s) :
  codeAny (model prog w) A (.call (.builtin "getset_descriptor.__get__") ⟨[.builtin "object.__class__",.ref x,tp],[]⟩) R s:=by
 obtain ⟨h0,g,d,t,os⟩:=s;have L1:=looks_mroIn (M:=model prog w) X hm;refine qDB KF.slot_gs.plain KF.entry_gs (KF.slot_gs.check _ _ _ _ _ _ _ _ KF.type_class (KF.args_gs _ _ _) ?_);unfold Builtin.«getset_descriptor.__get__» descrGet;rw [dga_obj];refine qAA (qAD ?_);unfold descrGetter descrCheckInstance descrNameAndClass isInstance;simp only [KF.owner_class]
 repeat lk
 refine ⟨Code.quiet_builtin _ (by decide +kernel),qBk KF.entry_class ?_⟩;unfold Builtin.«object.__class__» shownTypeOf
 repeat lk
 exact h
theorem exc_ga {tk:Tok} (X:K.In s.heap) (L0:Looks (model prog w) s.heap (typeOf (.ref x)) (.ref C)) (hm:mroIn K C (.type "object")=some true) (hb:mroIn K C (.type "BaseException")=some true)
  (gc:findIn K (.ref C) "__class__" = some (some (.builtin "object.__class__"))) (hn:specialIn K (.builtin "object.__class__") "__get__" = some (some (.builtin "getset_descriptor.__get__"))) (htk:takesIn K (.builtin "object.__class__")=some true) (h:R (.ok (.ret (.ref C))) s) :
  codeAny (model prog w) A (.call (.builtin "BaseException.__getattribute__") ⟨[.ref x,.str "__class__" tk],[]⟩) R s:=by
 obtain ⟨h0,g,d,t,os⟩:=s;have L1:=looks_mroIn (M:=model prog w) X hb;have L2:=looks_findIn (M:=model prog w) X gc;have L3:=looks_specialIn (M:=model prog w) X hn;have L4:=looks_takesIn (M:=model prog w) X htk;have hk:builtinKind "BaseException.__getattribute__" = some .slot:=by decide +kernel
 have hsplit:splitId "BaseException.__getattribute__" = some ("BaseException", "__getattribute__"):=by decide +kernel
 have ha:=F.args_bexc_ga (.ref x) (.str "__class__" tk);refine qDB (by decide +kernel) F.entry_bexc_ga ?_;simp only [checkBuiltinCall,hk,hsplit];refine qAA ?_;unfold isInstance;refine (L0.andThen L1).at ?_;simp only [Bool.not_true,qCX,qBW]
 have go:wpAny (model prog w) A.in1 (Builtin.«object.__getattribute__» ⟨[.ref x,.str "__class__" tk],[]⟩) (fun fin s'=>match fin with
   | .done f=>R (.ok f) s'
   | .again c'=>c'.quiet=true/\codeAny (model prog w) A c' R s') (fun e s'=>R (.error e) s') ⟨h0,g,d,t,os⟩:=by
  unfold Builtin.«object.__getattribute__»
  repeat lk
  show wpAny _ _ (run (.call (.builtin "getset_descriptor.__get__") ⟨[.builtin "object.__class__",.ref x,.ref C],[]⟩)) _ _ _;exact wpAny_run (exc_get X L0 hm (qAD (qAD h)))
 unfold argsOk at ha
 cases hs:Manifest.signature? "BaseException.__getattribute__" with
 | none=>exact qAD go
 | some sig =>
  rw [hs] at ha;simp only at ha ⊢;rw [ha];exact qAD go
theorem exc_class {Q:Option Value->Shared->Prop} (X:K.In s.heap) (L0:Looks (model prog w) s.heap (typeOf (.ref x)) (.ref C)) (hm:mroIn K C (.type "object")=some true) (hb:mroIn K C (.type "BaseException")=some true) (ga:findIn K (.ref C) "__getattribute__" = some (some (.builtin "BaseException.__getattribute__"))) (gn:findIn K (.ref C) "__getattr__" = some none)
  (gc:findIn K (.ref C) "__class__" = some (some (.builtin "object.__class__"))) (hn:specialIn K (.builtin "object.__class__") "__get__" = some (some (.builtin "getset_descriptor.__get__"))) (htk:takesIn K (.builtin "object.__class__")=some true) (h:Q (some (.ref C)) {s with toks:=s.toks+1}) :
  wpAny (model prog w) A (getAttr? (.ref x) "__class__") Q E s:=by
 obtain ⟨h0,g,d,t,os⟩:=s;have L1:=looks_findIn (M:=model prog w) X ga;have L2:=looks_findIn (M:=model prog w) X gn;have f3:=F.excAttr_ValueError.ga.bind (.ref x);unfold getAttr? getAttrBy? getAttrBy;refine qAA (wpAny_mkText (qAA (qBa (qAv (qAA (L0.at (qAA (L1.at ?_))))))));show wpAny _ _ (getAttrByItsOwn _ _ _ _ _ _) _ _ _;unfold getAttrByItsOwn;unfold hookBefore;refine qAA ?_;rw [qAC (show onTheHeap (Value.ref C)=true from rfl)];refine L2.at ?_;refine qAA (qBa (qAv ?_));unfold callGetattribute;rw [qAB (by simp)];unfold boundAndCalled;rw [f3];refine qAA (qAD ?_);refine qBy (exc_ga (s:=⟨h0,g,d,t+1,os⟩) X L0 hm hb gc hn htk ?_);exact qAD (qAD h)
def zD8 (K:PySem.W.Frag) (C:Addr):Bool:=(mroIn K C (.type "object")==some true)&&(mroIn K C (.type "BaseException")==some true)&&(findIn K (.ref C) "__getattribute__" == some (some (.builtin "BaseException.__getattribute__")))&&(findIn K (.ref C) "__getattr__" == some none) &&
 (findIn K (.ref C) "__class__" == some (some (.builtin "object.__class__")))&&(specialIn K (.builtin "object.__class__") "__get__" == some (some (.builtin "getset_descriptor.__get__")))&&(takesIn K (.builtin "object.__class__")==some true)&&(clsIn K C).isSome
theorem zIn (q:zD8 K C=true):KitX K (.ref x) (.ref C) (fun h=>∃o,h.get? x=some o/\o.cls= .ref C):=by
 unfold zD8 at q;simp only [qBR,qBJ] at q;obtain ⟨⟨⟨⟨⟨⟨⟨hm,hb⟩,ga⟩,gn⟩,gc⟩,hn⟩,htk⟩,hc⟩:=q;have ty:∀(M:Model) (h:Heap),(∃o,h.get? x=some o/\o.cls= .ref C)->Looks M h (typeOf (.ref x)) (.ref C):=fun M h ⟨o,e1,e2⟩=>e2▸(Looks.ld e1).andThen .now;refine ⟨fun M h _ p=>ty M h p,fun M h X _=>?_,fun h tp dd its n sl X htp=>?_,fun X p k=>exc_class X (ty _ _ p) hm hb ga gn gc hn htk k⟩
 ·unfold clsIn at hc;split at hc
  case h_1 c1 d1 cd1 sl1 ho =>
   intro A1 Q1 E1 s1 k q;unfold isType loadHead;exact qAA (wpAny_loadPart (k _ _ (X _ _ ho)) (qAD q))
  case h_2=>cases hc
 ·refine Bool.eq_false_iff.mpr fun z=>?_;have e:C=tp:=Value.ref.inj (qBJ.mp z);subst e;unfold clsIn at hc;split at hc
  case h_1 c1 d1 cd1 sl1 ho =>
   have z:=(X _ _ ho).symm.trans htp
   cases z
  case h_2=>cases hc
end
section
variable {X:Cx}
theorem excD_at {pins:List (Addr×Obj)} {σ:St} {H:Hp} {s:Shared} {a C:Addr} {dd:Option Addr} (I:Inv X pins σ H s) (e:H a=some (excD a C dd)):∃o,s.heap.get? a=some o/\o.cls= .ref C :=
 let ⟨o,e1,e2,_⟩:=(I.hok a _ e).1
 ⟨o,e1,e2⟩
theorem call_isX:zCc X (.builtin "isinstance") (fun xs H Q=>∃a C dd D b,xs=[.ref a,.ref D]/\H a=some (excD a C dd)/\zD8 X.K C=true/\PySem.W.kitOne X.K (.ref C) (.ref D)=some b/\Q (.bl b) H):=by
 intro pins s σ H xs us Q I rv h;obtain ⟨a,C,dd,D,b,rfl,e,k,kb,q⟩:=h;obtain ⟨u,v,rfl,ru,rw1⟩:=rv.two
 cases ru
 cases rw1
 exact qA8 (zIn k) I.kIn (excD_at I e) kb (fun z=>nomatch z) fun tk=>⟨.bl b,H,I.tok tk,rfl,q⟩
theorem call_isXB:zCc X (.builtin "isinstance") (fun xs H Q=>∃a C dd n b,xs=[.ref a,.ty n]/\H a=some (excD a C dd)/\zD8 X.K C=true/\PySem.W.kitOne X.K (.ref C) (.type n)=some b/\Q (.bl b) H):=by
 intro pins s σ H xs us Q I rv h;obtain ⟨a,C,dd,D,b,rfl,e,k,kb,q⟩:=h;obtain ⟨u,v,rfl,ru,rw1⟩:=rv.two
 cases ru
 cases rw1
 exact qA8 (zIn k) I.kIn (excD_at I e) kb (fun z=>nomatch z) fun tk=>⟨.bl b,H,I.tok tk,rfl,q⟩
theorem refs_of:∀{Ds:List Addr} {its:List Value},Vals (Ds.map V.ref) its->its=Ds.map Value.ref:=by
 intro Ds
 induction Ds with
 | nil=>intro its r;cases r;rfl
 | cons D Ds ih =>
  intro its r
  cases r with
  | cons r1 r2 =>
   cases r1
   rw [ih r2];rfl
theorem call_isXT:zCc X (.builtin "isinstance") (fun xs H Q=>∃a C dd t b,∃Ds:List Addr,xs=[.ref a,.ref t]/\H a=some (excD a C dd)/\H t=some (.tup (Ds.map V.ref))/\zD8 X.K C=true/\PySem.W.kitAny X.K (.ref C) (Ds.map Value.ref)=some b/\Q (.bl b) H):=by
 intro pins s σ H xs us Q I rv h;obtain ⟨a,C,dd,t,b,Ds,rfl,e,et,k,kb,q⟩:=h;obtain ⟨u,v,rfl,ru,rw1⟩:=rv.two
 cases ru
 cases rw1
 obtain ⟨_,its,r,o,ho,hc,n,hd⟩:=(show zA0 X.prog X.w H s.heap t (.tup (Ds.map V.ref)) from I.hok t _ et);obtain ⟨c1,d1,dt,sl⟩:=o;have hc:c1= .type "tuple" := hc;have hd:dt= .seq its.toArray n:=hd;subst hc hd;have ei:=refs_of r;subst ei;exact PySem.W.kia_tup (zIn k) I.kIn (excD_at I e) ho kb (fun z=>nomatch z) fun tk=>⟨.bl b,H,I.tok tk,rfl,q⟩
end
end L2
namespace L2
open PySem PySem.Spec PyProof.Rows
variable {X:Cx}
structure Flt (P:Program) (w:World) (stack:List Env) (ch:List Addr) (H:Hp) (s:Shared) (a C:Addr) (dd:Option Addr) (H':Hp) (s':Shared):Prop where
 ex:∃B:Heap,FlD B stack a (.ref C) dd s'.heap/\∀b o,(H' b≠none\/(s.heap.get? b≠none/\b∉frs stack/\b∉ch))->s'.heap.get? b=some o->B.get? b=some o
 os:s'.os=s.os
 bare:AllBare s'.gens
 un:Un (frs stack) ch H H' s.heap s'.heap
 hok:HOk P w H' s'.heap
 na:H' a=none
 ng:s.heap.get? a=none\/a∈ch
def ChOk (X:Cx) (pins:List (Addr×Obj)) (ch:List Addr):Prop:=∀b∈ch,(b∈X.ex\/X.s₀.heap.objs.size<=b)/\b≠X.env.locals/\(∀x c,X.env.cells.lookup x=some c->c≠b)/\∀p∈X.pn++pins,p.1≠b
def zFd (X:Cx) (E:St->XK):Prop:=∀(pins:List (Addr×Obj)) (σ:St) (H:Hp) (s:Shared) (ch:List Addr) (a C:Addr) (dd:Option Addr) (H':Hp) (s':Shared),Inv X pins σ H s->ChOk X pins ch->Flt X.prog X.w X.stack ch H s a C dd H' s'->E σ (.ref C) dd H'->X.xe (.ref a) s'
theorem Inv.landC {pins:List (Addr×Obj)} {σ:St} {H H':Hp} {s s':Shared} {h' B:Heap} {ch:List Addr} (I:Inv X pins σ H s) (hch:ChOk X pins ch) (os:s'.os=s.os) (bare:AllBare s'.gens) (un:Un (frs X.stack) ch H H' s.heap s'.heap) (hok:HOk X.prog X.w H' s'.heap)
  (hB:∀b o,(H' b≠none\/(s.heap.get? b≠none/\b∉frs X.stack/\b∉ch))->s'.heap.get? b=some o->B.get? b=some o) (st:B.StaysIn h') (us:s'.heap.UpToSlots h'):Inv X pins σ H' {s' with heap:=h'}:=by
 have fr:∀b∈frs X.stack,b∉ch->∀o,s.heap.get? b=some o->∃sl,h'.get? b=some {o with slots:=sl}:=fun b hb nc o e=>by
  obtain ⟨sl,q⟩:=un.slot b o e (I.stkFree b hb) hb nc;obtain ⟨_,o1,e1,d1⟩:=I.stack.mem hb;rw [e] at e1;cases e1;obtain ⟨sl2,q2⟩:=us b _ q d1;exact ⟨sl2,q2⟩
 have out:∀b o,b∉frs X.stack->b∉ch->s.heap.get? b=some o->H b=none->h'.get? b=some o:=fun b o nb nc e n=>st b o (hB b o (.inr ⟨by rw [e];simp,nb,nc⟩) (un.keep b o e n nb nc))
 have J:Inv X pins σ H' {s with heap:=h',gens:=s'.gens,drawn:=s'.drawn,toks:=s'.toks}:=by
  refine I.step (g':=s'.gens) (d':=s'.drawn) (t':=s'.toks) (ch:=ch) hch (fun b o nL nf nc e n=>?_) (fun b o nL bf nc e n=>?_) (fun b o nc e n=>un.free b o e n nc) (fun b o nc e=>?_) un.tups un.frzs un.tbls (fun m hm=>?_)
   (zGv hok st fun b o z=>hB b o (.inl z)) bare
  ·exact out b o (fun z=>(qAO.mp (I.stkSub b z)).elim nL nf) nc e n
  ·by_cases hb:b∈frs X.stack
   ·exact fr b hb nc o e
   ·exact ⟨o.slots,out b o hb nc e n⟩
  ·by_cases hb:b∈frs X.stack
   ·obtain ⟨sl,q⟩:=fr b hb nc o e;exact ⟨_,q⟩
   ·obtain ⟨o1,q⟩:=un.there b o e nc;exact ⟨o1,st b o1 (hB b o1 (.inr ⟨by rw [e];simp,hb,nc⟩) q)⟩
  ·have nc:X.env.locals∉ch:=fun z=>(hch _ z).2.1 rfl;obtain ⟨o,es,ep,ho,r⟩:=hm
   by_cases hb:X.env.locals∈frs X.stack
   ·obtain ⟨sl,q⟩:=fr _ hb nc o ho;exact ⟨_,es,ep,q,r⟩
   ·exact ⟨o,es,ep,out _ o hb nc ho I.free,r⟩
 have e:({s' with heap:=h'}:Shared)={s with heap:=h',gens:=s'.gens,drawn:=s'.drawn,toks:=s'.toks}:=by
  cases s'
  simp only at os;subst os;rfl
 rw [e];exact J
theorem zFd.at {E:St->XK} (p:zFd X E):PassesAt (CX1 X.prog X.w) X E:=by
 intro pins σ H s e s' I h;obtain ⟨a,C,dd,H',B,rfl,fl,os,bare,un,hok,na,ng,hB,q⟩:=h;exact p pins σ H s [] a C dd H' s' I (fun b z=>nomatch z) ⟨⟨B,fl,fun b o z=>hB b o (z.imp id fun y=>⟨y.1,y.2.1⟩)⟩,os,bare,un,hok,na,.inl ng⟩ q
section
variable {P:Program} {w:World} {K:PySem.W.Frag} {mg:Str->Option Value} {base:Heap} {N:List Str} {qual:Str} {scope:Scope} {f:Addr} {cd:Value} {A:Around} {outer:List Env} {s:Shared} {H:Hp} {E:XK} {E':St->XK}
theorem passF (hE:∀σ c d H',E' σ c d H'->E c d H'):zFd (cxOf (CX1 P w) P w K mg base N qual scope f cd A outer s H E) E':=by
 intro pins σ H1 s1 ch a C dd H' s2 I hch h q;obtain ⟨⟨B,fl,hB⟩,os,bare,un,hok,na,ng⟩:=h;have I2:Inv (cxOf (CX1 P w) P w K mg base N qual scope f cd A outer s H E) pins σ H' s2:=I.call' os un hok bare hch;refine fly_leaves I.ok.frames rfl fl fun h' fl' us=>?_;have st:=fl'.1;have none0:∀b:Addr,b∉(cxOf (CX1 P w) P w K mg base N qual scope f cd A outer s H E).ex:=fun b z=>nomatch z
 have oldB:∀b o,(H' b≠none\/(s.heap.get? b≠none/\b∉frs outer))->s2.heap.get? b=some o->B.get? b=some o:=fun b o hc e=>by
  refine hB b o ?_ e;rcases hc with z| ⟨z1,z2⟩
  ·exact .inl z
  ·cases q0:s.heap.get? b with
   | none=>exact absurd q0 z1
   | some o0 =>
    obtain ⟨o1,e1⟩:=I.base.there b o0 q0 (none0 b);refine .inr ⟨by rw [e1];simp,fun z=>?_,fun z=>?_⟩
    ·rcases qAO.mp (I.stkSub b z) with y| y
     ·exact absurd (qAi (qAI q0) (by rw [y];exact I.ok.above)) (qAy _)
     ·exact z2 y
    ·rcases (hch b z).1 with y| y
     ·exact none0 b y
     ·exact absurd (qAi (qAI q0) y) (qAy _)
 refine ⟨a,C,dd,H',B,rfl,fl',I2.os,bare,leave_un I2.base st us oldB (fun b hb o e=>?_) (fun b hb=>I.ok.frf b hb),zGv hok st fun b o z=>oldB b o (.inl z),na,?_,fun b o hc e=>?_,hE _ _ _ _ q⟩
 ·obtain ⟨_,o',e',d⟩:=I.ok.funs.mem hb;have e':s.heap.get? b=some o':=e';rw [e] at e';cases e';exact d
 ·cases q0:s.heap.get? a with
  | none=>rfl
  | some o0 =>
   obtain ⟨o1,e1⟩:=I.base.there a o0 q0 (none0 a);rcases ng with ng| ng
   ·rw [ng] at e1;cases e1
   ·rcases (hch a ng).1 with y| y
    ·exact absurd y (none0 a)
    ·exact absurd (qAi (qAI q0) y) (qAy _)
 ·have e:h'.get? b=some o:=e
  have:∃o2,s2.heap.get? b=some o2:=by
   rcases hc with z| ⟨z1,z2⟩
   ·cases q0:H' b with
    | none=>exact absurd q0 z
    | some u=>exact zE1 (hok b u q0)
   ·cases q0:s.heap.get? b with
    | none=>exact absurd q0 z1
    | some o0=>exact I2.base.there b o0 q0 (none0 b)
  obtain ⟨o2,e2⟩:=this;have e3:=oldB b o2 hc e2;rw [st b o2 e3] at e
  cases e
  exact e3
end
section
variable {X:Cx}
theorem ps_tryF {body:List Stmt} {b₀:Stmt} {suite:List Stmt} {cx n:Str} {np hpos pos:Pos} {i:Nat} {Cb:Addr} {tb:(St->XK)->TS} {th:Addr->TS} (hex:X.ex=[]) (hstk:X.stack=X.env::X.outer) (hfr:X.env.frame=some X.env.locals) (hc:X.calm=true) (hN:X.N.Nodup) (hi:X.N[i]?=some n) (hl:X.env.kindOf n=some .local)
  (hg:Gl X cx) (hm:X.mg cx=some (.ref Cb)) (qb:excB X.K Cb=true) (hb:∀pl ξ E,zFd (X.tb pl ξ) E->PassesOwn (model X.prog X.w) X.A X.env ξ->PSs (X.tb pl ξ) body (tb E)) (hh:∀a,PSs (X.hnd a) (b₀::suite) (th a))
  (hd:(cx==("__debug__" : Str))=false:=by decide):PS X (.Try body [.ExceptHandler (some (.Name cx np)) (some n) (b₀::suite) hpos] [] [] pos) (tTry X.K Cb i tb th):=by
 intro pins s σ H D I h;have hk:X.calm=true->X.A.handled=none:=I.ok.hd;refine wpAny_Try_except ?_;refine qAt (hb pins _ _ ?_ ?_ [] s σ H D I.to_tb h) (fun f s1 q=>?_) fun e s1 q=>q
 rotate_left
 ·exact PassesOwn.looking
 ·have q:=sp_tb q
  cases f with
  | next=>exact qCC q
  | brk=>exact q
  | cont=>exact q
  | ret u=>exact q
 intro pins' σ1 H1 s1 ch a C dd H' s2 I1 hch hx hE;obtain ⟨⟨B,fl,hB⟩,os,bare,un,hok,na,ng⟩:=hx;obtain ⟨C1,ec,qc,sub,th1⟩:=hE
 cases ec
 have fl:FlD B (X.env::X.outer) a (.ref C) dd s2.heap:=by rw [<-hstk];exact fl
 have frm:X.A.frames=some (X.env::X.outer):=by rw [<-hstk];exact I.ok.frames
 refine fly_looks frm hfr fl fun h4 held us4=>?_;refine zF3 held fun h5 fl5 us5 _=>?_;have J5:Inv X pins σ1 H' {s2 with heap:=h5}:=(I1.landC hch os bare un hok hB fl5.1 (us4.trans us5)).of_tb;obtain ⟨ob,hob,hobc,_⟩:=fl5.there;refine wpAny_handleBy_cons (codeAny_handlers_test (zEj (X:=X.hnd a) J5.to_hnd hg hm ?_ hd)) (by intro z;cases z);obtain ⟨bm,N,nm,qn,bs,hdct,sn,sub0,ab,col,dj,k0,k1,k2,k3,k5,hC,T,e1⟩:=xcB_at J5.kIn qc;obtain ⟨bm2,N2,nm2,qn2,bs2,hdct2,sn2,sub2,ab2,col2,dd2,j0,j1,j2,j3,j5,hC2,T2,_⟩:=xcB_at J5.kIn qb;refine match_own hC hC2 hob hobc (by rw [List.contains_cons,T2.hasType (X:= "BaseException") (b:=true) (by decide +kernel),Bool.or_true]) (r:=true) (by rw [<-e1];exact sub) ?_;refine codeAny_handlers_suite_as (zF3 fl5 fun h6 fl6 us6 _=>?_);have J6:Inv X pins σ1 H' {s2 with heap:=h6}:=(I1.landC hch os bare un hok hB fl6.1 ((us4.trans us5).trans us6)).of_tb
 have new:∀b o,s1.heap.get? b=some o->b∉ch->b≠a:=fun b o e nc z=>by
  subst z;rcases ng with ng| ng
  ·rw [ng] at e;cases e
  ·exact nc ng
 have J7:Inv X pins σ1 (upd H' a (excD a C dd)) {s2 with heap:=h6}:=J6.track na (by
   cases q0:X.s₀.heap.get? a with
   | none=>rfl
   | some o0 =>
    obtain ⟨o1,e2⟩:=I1.base.there a o0 q0 (by show a∉X.ex;rw [hex];simp);rcases ng with ng| ng
    ·rw [ng] at e2;cases e2
    ·rcases (hch a ng).1 with y| y
     ·have y:a∈X.ex:=y;rw [hex] at y;cases y
     ·exact absurd (qAi (qAI q0) y) (qAy _))
  (by obtain ⟨m,⟨o,_,_,ho,_⟩,_⟩:=I1.loc;exact qAh (new _ o ho fun z=>(hch _ z).2.1 rfl))
  (fun x c e=>by obtain ⟨v,o,ho,_⟩:=I1.cell x c e;exact new _ o ho fun z=>(hch _ z).2.2.1 x c e rfl)
  (fun p hp=>new _ _ (I1.pin p (qAk _ hp)).1 fun z=>(hch _ z).2.2.2 p (qAk _ hp) rfl) (excD_ok fl6.there)
 refine zFz (v:=.ref a) (u:=.ref a) J7 hN hi (.inl hl) rfl (fun s7 I7=>?_) (.inr hl);refine qAt (hh a pins s7 _ _ _ I7.to_hnd (th1 a na)) (fun f s8 q8=>?_) fun _ _ z=>z.elim
 cases f with
 | next=>obtain ⟨σ8,H8,I8,q⟩:=q8;exact zE2 (I8.of_hnd hk) hN hi hl fun s9 I9=>⟨_,H8,I9,q⟩
 | brk=>obtain ⟨σ8,H8,I8,q⟩:=q8;exact zE2 (I8.of_hnd hk) hN hi hl fun s9 I9=>⟨_,H8,I9,q⟩
 | cont=>obtain ⟨σ8,H8,I8,q⟩:=q8;exact zE2 (I8.of_hnd hk) hN hi hl fun s9 I9=>⟨_,H8,I9,q⟩
 | ret u=>obtain ⟨v,σ8,H8,I8,r,q⟩:=q8;exact zE2 (I8.of_hnd hk) hN hi hl fun s9 I9=>⟨v,_,H8,I9,r,q⟩
end
def tCallF (sp:Sp) (E:St->XK) (t:TA):TE:=fun σ H Q=>t σ H fun vs H1=>sp vs H1 Q (E σ)
structure CalX (P:Program) (w:World) (K:PySem.W.Frag) (mg:Str->Option Value) (base:Heap) (x:Str) (k:Nat) (ps:List Str) (sp:Sp):Prop where
 to:∃(f:Addr) (fd:FuncData),mg x=some (.ref f)/\PySem.W.keepIn K (.ref f)=true/\zCd K fd ps []/\FnOk P w K mg base (CX1 P w) k f fd ps sp
theorem zDc {x:Str} {k:Nat} {ps:List Str} {sp:Sp} {E:St->XK} {e:Expr} {es:List Expr} {p pos:Pos} {t:TA} (C:CalX X.prog X.w X.K X.mg X.base x k ps sp) (hr:Room k X.A) (hg:Gl X x) (hp:zFd X E) (ha:PA X (e::es) t)
  (hdb:(x==("__debug__" : Str))=false:=by decide) (he:starEach (e::es) X.env=(false,eval e X.env)::starEach es X.env:=by rfl) (hpl:(backTo pos (starEach es X.env)).any (·.1)=false:=by rfl) :
  PE X (.Call (.Name x p) (e::es) [] pos) (tCallF sp E t):=by
 obtain ⟨f,fd,h1,h2,h3,h4⟩:=C.to;exact pe_callX h4 hr hg h1 h2 h3 hp.at ha hdb he hpl
theorem zE9 {K:PySem.W.Frag} (hK:X.K=K:=by rfl):zCc X (.builtin "isinstance") (fun xs H Q=>∃a C dd D b,xs=[.ref a,.ref D]/\H a=some (excD a C dd)/\zD8 K C=true/\PySem.W.kitOne K (.ref C) (.ref D)=some b/\Q (.bl b) H):=by subst hK;exact call_isX
theorem call_isXBK {K:PySem.W.Frag} (hK:X.K=K:=by rfl):zCc X (.builtin "isinstance") (fun xs H Q=>∃a C dd n b,xs=[.ref a,.ty n]/\H a=some (excD a C dd)/\zD8 K C=true/\PySem.W.kitOne K (.ref C) (.type n)=some b/\Q (.bl b) H):=by subst hK;exact call_isXB
theorem zHs {K:PySem.W.Frag} (hK:X.K=K:=by rfl):zCc X (.builtin "isinstance") (fun xs H Q=>∃a C dd t b,∃Ds:List Addr,xs=[.ref a,.ref t]/\H a=some (excD a C dd)/\H t=some (.tup (Ds.map V.ref))/\zD8 K C=true/\PySem.W.kitAny K (.ref C) (Ds.map Value.ref)=some b/\Q (.bl b) H):=by subst hK;exact call_isXT
open AutoSeq1 (wpAny_loadPart')
def ThingOk (H:Hp) (v:V):Prop:=(∃x,v= .str x)\/v= .non\/(∃b,v= .bl b)\/(∃i,v= .int i)\/∃a,v= .ref a/\((∃xs,H a=some (.lst xs))\/(∃xs,H a=some (.tup xs))\/∃kvs,H a=some (.dK kvs))
def notStar:Expr->Bool
 | .Starred ..=>false
 | _=>true
theorem star_cons {e:Expr} {es:List Expr} {env:Env} (h:notStar e=true):starEach (e::es) env=(false,eval e env)::starEach es env:=by
 cases e<;>first| rfl| cases h
open PySem.W in
open PySem.W in
theorem mroK_of {K:PySem.W.Frag} {C:Addr} {v:Value} (h:mroIn K C v=some true):(mroK K C).contains v=true:=by
 unfold mroIn clsIn at h;unfold mroK;split at h
 ·rename_i e;rw [Option.bind_some] at h;split at h
  ·cases h
  ·rw [e];injection h
 ·cases h
section
variable {X:Cx}
theorem op_fdivB:OpR X (binaryOp .FloorDiv) (rI (fun _ j=>0<j/\j<10^100) fun i j=>.int (i / j)):=opI fun i j _ _ _ _ _ hc q=>by
 have h1:(0:Int)<j:=hc.1;have h2:j<10^100:=hc.2;refine floordiv_int (by lia) (by rw [Int.fdiv_eq_ediv_of_nonneg i (by lia)];exact q) (.inl (PyProof.noPylong_of_log2 ?_));have hj:j.natAbs≠0:=by lia
 rw [Nat.log2_lt hj];have:j.natAbs<10^100:=by lia
 exact qAi this (by decide +kernel)
end
end L2
local macro_rules| `(tactic| walk_at "lc")=>`(tactic| first| exact Or.inl rfl| exact Or.inr rfl)
local macro_rules| `(tactic| walk_at "nm")=>`(tactic| first| assumption| exact qCR| (refine L2.nm1 ?_;walk_at "ne")| (refine L2.nm2 ?_ ?_<;>walk_at "ne")| (refine L2.nm3 ?_ ?_ ?_<;>walk_at "ne"))
local macro_rules| `(tactic| walk_at "lk")=>`(tactic| first| assumption| exact L2.upd_same| (refine (L2.upd_ne ?_).trans ?_;walk_at "ne";walk_at "lk")| (refine L2.Kp.look (by assumption) ?_ ?_;walk_at "lk";walk_at "nm"))
local macro_rules| `(tactic| walk_at "ne")=>`(tactic| first| assumption| (refine qAh ?_;assumption)| (refine L2.ne_fre (by assumption) ?_;walk_at "lk")| (refine qAh (L2.ne_fre (by assumption) ?_);walk_at "lk"))
local macro_rules| `(tactic| walk_at "bd")=>`(tactic| first| decide| lia| (dsimp only;first| decide| lia))
local macro_rules| `(tactic| walk_at "ml")=>`(tactic| first| exact Or.inr ⟨by decide,by decide⟩| exact Or.inl ⟨by lia,by lia⟩| exact Or.inr ⟨by lia,by lia⟩)
local macro_rules| `(tactic| walk_at "ln")=>`(tactic| first| decide| (have hsz:=PySem.sizeLine_eq;simp only [qAZ,qBY,qAE,qAa] at *;lia))
local macro_rules| `(tactic| walk_at "ix")=>`(tactic| first| rfl| assumption| (refine L2.atI_natc ?_;assumption))
local macro_rules| `(tactic| walk_at "vs")=>`(tactic| first| exact Or.inl rfl| exact Or.inr (Or.inl rfl)| exact Or.inr (Or.inr rfl))
local macro_rules| `(tactic| walk_at "vk")=>`(tactic| first| exact Or.inl rfl| exact Or.inr rfl)
local macro_rules| `(tactic| walk_at "vf")=>`(tactic| first| decide +kernel| (simp only [qAO];decide))
namespace My
open PySem L2
variable {P:Program}{w:World}{K:PySem.W.Frag}{mg:Str->Option Value}{base:Heap}{C:Addr}
variable {H H':Hp}{f:Addr}{fd:FuncData}{ns:List Str}{α:Type}{i:Nat}{y:Str}
section
variable {X:Cx} {scope sc:Scope} {C:Addr} {s₀:Shared} {H₀:Hp} {ex:List Addr} {N P:List Str} {i:Nat} {x:Str} {e:Expr} {te:TE} {pos pos':Pos} {ix:List (Option Nat)}
theorem psS (hN:X.N.Nodup) (he:PE X e te) (hi:X.N[i]?=some x:=by rfl) (hx:Loc X.env.scope x:=by walk_at "lc") (hs:swapsWith e (some (.Name x pos')) pos.line X.env=pure false:=by rfl) (hf:X.fn x=true\/X.env.scope.names.lookup x=some .local:=by first| exact .inl rfl| exact .inr rfl| assumption):PS X (.Assign [.Name x pos'] e pos) (tAsg te (gName i)):=ps_set hN hi hx he hs hf
theorem pgN (hN:X.N.Nodup) (hi:X.N[i]?=some x:=by rfl) (hx:Loc X.env.scope x:=by walk_at "lc") (hf:X.fn x=true\/X.env.scope.names.lookup x=some .local:=by first| exact .inl rfl| exact .inr rfl| assumption):PG X (.Name x pos) (gName i):=pg_name hN hi hx hf
theorem pgB (hi:(X.block scope C s₀ H₀ ex N).N[i]?=some x:=by rfl) (hN:N.Nodup:=by decide +kernel) (hx:Loc (X.block scope C s₀ H₀ ex N).env.scope x:=by walk_at "lc") (hf:(X.block scope C s₀ H₀ ex N).fn x=true\/(X.block scope C s₀ H₀ ex N).env.scope.names.lookup x=some .local:=by first| exact .inl rfl| exact .inr rfl| assumption):PG (X.block scope C s₀ H₀ ex N) (.Name x pos) (gName i):=pg_name hN hi hx hf
theorem dtk (hN:X.N[i]?=some x) (D:Draws X scope N ix) (hv:Vis X.env.scope x:=by walk_at "vs") (hk:(relabel scope X.env).names.lookup x=some .cell\/(relabel scope X.env).names.lookup x=some .free:=by walk_at "vk") (hf:(x,NameKind.free)∈scope.names:=by walk_at "vf"):Draws X scope (x::N) (some i::ix):=.tk hN hv hk hf D
theorem fnS (a:sc.kind= .function:=by rfl) (b:sc.isCoroutine=false:=by rfl) (c:sc.isGenerator=false:=by rfl) (d:N.Nodup:=by decide +kernel) (e:N.take P.length=P:=by rfl) (f:∀x∈P,sc.names.lookup x=some .local\/sc.names.lookup x=some .cell:=by decide +kernel) (g:∀y∈sc.names,y.2≠.free:=by decide +kernel):FnScope N P sc:=⟨a,b,c,d,e,f,g⟩
end
def top (i:Nat):Stmt:=PySem.Challenge.pw_levelbench_k86_few_refused.main.body.getD i (.Pass ⟨0,0,0,0⟩)
structure Txt (K:PySem.W.Frag) (mg:Str->Option Value):Prop where
 z_len:mg "len" = none
 z_max:mg "max" = none
 z_range:mg "range" = none
 z_int:mg "int" = none
 z_str:mg "str" = none
 z_list:mg "list" = none
 z_all:mg "all" = none
 z_min:mg "min" = none
 z_dict:mg "dict" = none
 z_bool:mg "bool" = none
 z_abs:mg "abs" = none
 z_reversed:mg "reversed" = none
 z_enumerate:mg "enumerate" = none
 z_any:mg "any" = none
 z_sum:mg "sum" = none
 z_zip:mg "zip" = none
 z_isinstance:mg "isinstance" = none
 z_sorted:mg "sorted" = none
 z_set:mg "set" = none
 z_tuple:mg "tuple" = none
 c_MOST_JOBS:∃t,mg "MOST_JOBS" = some (.int 20 t)
 c_MOST_TURNS:∃t,mg "MOST_TURNS" = some (.int 40 t)
 c_MOST_FEW:∃t,mg "MOST_FEW" = some (.int 7 t)
 c_LONGEST_NAME:∃t,mg "LONGEST_NAME" = some (.int 8 t)
section
def zBx (H:Hp) (p:Addr):Prop:=∃a b:Int,H p=some (.lst [.int a,.int b])/\0<=a/\0<=b/\b<2147483629
theorem zBx.kp {M:List Addr} {p:Addr} (h:zBx H p) (k:Kp M H H') (n:p∉M):zBx H' p:=by
 obtain ⟨a,b,e,r⟩:=h;exact ⟨a,b,k p _ e n,r⟩
def spTake:Sp:=fun vs H Q _=>∃(p:Addr) (m:Int),vs=[.ref p,.int m]/\zBx H p/\1<=m/\m<10^100/\∀(d:Int) (H':Hp),0<=d->d<m->zBx H' p->Kp [p] H H'->Q (.int d) H'
abbrev s_take:Stmt:=top 55
theorem sc_take:FnScope ["_law_purse_here", "_law_many", "_law_digit"] ["_law_purse_here", "_law_many"] (zAe s_take):=fnS
theorem ok_take (F:Fun K "_law_take" "_law_take" s_take f fd):FnOk P w K mg base CX0 1 f fd ["_law_purse_here", "_law_many"] spTake:=by
 refine F.ok sc_take (fun vs H Q E h=>?_) (fun cdv A outer s H vs Q E hr h=>?_)
 ·obtain ⟨p,m,rfl,_⟩:=h;rfl
 ·obtain ⟨p,m,rfl,⟨a,b,hp,ha,hb,hb'⟩,hm,hm',k⟩:=h
  refine ⟨_,(zAc (zCe (zAy op_gt (zDa zBf (pv 0) zAf (fun _ _=>rfl)) zAf (zA7 _))
    (zAc (psS (i:=2) sc_take.nd (zAm zDl (zDa zBf (pv 0) zAf (fun _ _=>rfl)) (pv 1)))
    (zAc (ps_asg (zAm op_fdivB (zDa zBf (pv 0) zAf (fun _ _=>rfl)) (pv 1)) (pg_sub (pv 0) zAf set_list))
    (zAd (zAs (pv 2)))))
    zAz)
   (zAc (ps_asg (zAm zDl (zAm zCo (zAm zE0 (zDa zBf (pv 0) zAf (fun _ _=>rfl)) zAf) zAf) zAf) (pg_sub (pv 0) zAf set_list))
   (zAd (zAs (zAm zDl (zAm zEg (zAm zDl (zAm zE0 (zDa zBf (pv 0) zAf (fun _ _=>rfl)) (zDa zBf (pv 0) zAf (fun _ _=>rfl))) zAf) zAf) (pv 1)))))),?_⟩
  refine ⟨_,rfl,_,_,_,_,rfl,rfl,SqL.of (by walk_at "lk"),(by walk_at "ix"),_,_,rfl,rfl,_,rfl,?_⟩;refine ite2 (fun c=>?_) (fun c=>?_)
  ·have c':0<a:=by simpa using c
   refine ⟨_,rfl,_,_,_,_,rfl,rfl,SqL.of (by walk_at "lk"),(by walk_at "ix"),_,rfl,_,_,rfl,rfl,(by walk_at "bd"),?_⟩;refine ⟨_,rfl,_,_,_,_,rfl,rfl,SqL.of (by walk_at "lk"),(by walk_at "ix"),_,rfl,_,_,rfl,rfl,⟨by walk_at "bd",hm'⟩,_,rfl,_,_,_,_,rfl,rfl,(by walk_at "lk"),(by walk_at "ix"),?_⟩;refine ⟨_,rfl,?_⟩;refine k _ _ (qBS _ (by lia)) (qBj _ (by lia)) ⟨a / m,b,upd_same,Int.ediv_nonneg ha (by lia),hb,hb'⟩ (Kp.put Kp.refl (by simp))
  ·refine ⟨_,rfl,_,_,_,_,rfl,rfl,SqL.of (by walk_at "lk"),(by walk_at "ix"),_,_,rfl,rfl,(by walk_at "ml"),_,_,rfl,rfl,_,_,rfl,rfl,(by walk_at "bd"),_,rfl,_,_,_,_,rfl,rfl,(by walk_at "lk"),(by walk_at "ix"),?_⟩;have h1:=qBS (b*39373+7919) (show (2147483629:Int)≠0 by decide);have h2:=qBj (b*39373+7919) (show (0:Int)<2147483629 by decide);refine ⟨_,rfl,_,_,_,_,rfl,rfl,SqL.of (by walk_at "lk"),(by walk_at "ix"),_,rfl,_,_,_,_,rfl,rfl,SqL.of (by walk_at "lk"),(by walk_at "ix"),_,_,rfl,rfl,(by walk_at "ml"),_,_,rfl,rfl,(by walk_at "bd"),_,_,rfl,rfl,⟨by walk_at "bd",by walk_at "bd"⟩,_,rfl,_,_,rfl,rfl,(by walk_at "bd"),?_⟩;refine k _ _ (qBS _ (by lia)) (qBj _ (by lia)) ⟨a,_,upd_same,ha,h1,h2⟩ (Kp.put Kp.refl (by simp))
def spPurse:Sp:=fun vs H Q _=>∃(c k:Int),vs=[.int c,.int k]/\-(2^31)<k/\k<2^31/\∀(p:Addr) (H':Hp),Fre H p->zBx H' p->Kp [] H H'->Q (.ref p) H'
abbrev s_purse:Stmt:=top 54
theorem sc_purse:FnScope ["_law_cell_here", "_law_k", "_law_number"] ["_law_cell_here", "_law_k"] (zAe s_purse):=fnS
theorem ok_purse (F:Fun K "_law_purse" "_law_purse" s_purse f fd) (T:Txt K mg):FnOk P w K mg base CX0 1 f fd ["_law_cell_here", "_law_k"] spPurse:=by
 refine F.ok sc_purse (fun vs H Q E h=>?_) (fun cdv A outer s H vs Q E hr h=>?_)
 ·obtain ⟨p,m,rfl,_⟩:=h;rfl
 ·obtain ⟨c,n,rfl,hn,hn',k⟩:=h
  refine ⟨_,(zAc (psS (i:=2) sc_purse.nd (zAm zDl (zAm zCo (zAm zCo (zAm zE0 (zAm zDl (pv 0) zAf) zAf) (zAm zE0 (zAm zE0 (pv 1) (pv 1)) zAf)) zAf) zAf))
   (zAd (zAs (zA6 (zAa (zAk (call_max2 rfl) (by rfl) T.z_max bo_max (zAa zAf (zAa (zAm zGh (pv 0) (zAm op_pow zAf zAf)) zAb))) (zAa (zAm zDl (zAm zE0 (pv 2) (pv 2)) zAf) zAb)))))),?_⟩
  refine ⟨_,rfl,_,_,rfl,rfl,(by walk_at "bd"),_,_,rfl,rfl,(by walk_at "ml"),_,rfl,_,rfl,_,_,rfl,rfl,(by walk_at "ml"),_,_,rfl,rfl,(by walk_at "ml"),_,_,rfl,rfl,_,_,rfl,rfl,_,_,rfl,rfl,(by walk_at "bd"),?_⟩;generalize c % 2147483629*48271+n*n*69623+11=y;have h1:=qBS y (show (2147483647:Int)≠0 by decide);have h2:=qBj y (show (0:Int)<2147483647 by decide);refine ⟨_,rfl,_,_,rfl,rfl,⟨by decide,by decide,by decide⟩,_,_,rfl,rfl,_,_,rfl,_,rfl,_,rfl,_,_,rfl,rfl,(by walk_at "ml"),_,_,rfl,rfl,(by walk_at "bd"),(by walk_at "ln"),fun p hp=>?_⟩;refine k p _ hp ⟨_,_,upd_same,?_,qBS _ (by decide),qBj _ (by decide)⟩ (Kp.new Kp.refl hp);split<;>lia
def spCell (K:PySem.W.Frag):Sp:=fun vs H Q _=>∃(a:Addr) (ns:List Int) (k:Int),vs=[.ref a,.int k]/\SqL K H a (ns.map V.int)/\0<=k/\∀c:Int,Q (.int c) H
abbrev s_cell:Stmt:=top 53
theorem sc_cell:FnScope ["_law_script", "_law_k"] ["_law_script", "_law_k"] (zAe s_cell):=fnS
theorem ok_cell (F:Fun K "_law_cell" "_law_cell" s_cell f fd) (T:Txt K mg):FnOk P w K mg base CX0 1 f fd ["_law_script", "_law_k"] (spCell K):=by
 refine F.ok sc_cell (fun vs H Q E h=>?_) (fun cdv A outer s H vs Q E hr h=>?_)
 ·obtain ⟨p,m,n,rfl,_⟩:=h;rfl
 ·obtain ⟨a,ns,n,rfl,hS,hn,k⟩:=h;refine ⟨_,(zAd (zAs (pe_ifExp (zAy op_lt (pv 1) (zAk zA2 (by rfl) T.z_len zFa (zAa (pv 0) zAb)) (zA7 _)) (zDa zBf (pv 0) (pv 1) (fun _ _=>rfl)) zAf))),?_⟩;refine ⟨_,rfl,_,rfl,_,_,rfl,.inl hS,_,_,rfl,rfl,_,rfl,?_⟩;refine ite2 (fun c=>?_) (fun c=>?_)
  ·have c':n<ns.length:=by simpa using c
   have hx:(ns.map V.int)[n.toNat]?=some (V.int (ns[n.toNat]'(by lia))):=by simp
   refine ⟨_,rfl,_,rfl,_,_,_,_,rfl,rfl,hS,zGz hn hx,k _⟩
  ·exact k _
end
def zHb (s:Str):Prop:=1<=s.length/\s.length<=8/\∀c∈s.cps.toList,97<=c/\c<=122
def WordS (n:Nat) (s:Str):Prop:=s.length=n/\∀c∈s.cps.toList,97<=c/\c<=122
theorem len_app (a b:Str):(a++b).length=a.length+b.length:=by
 show (a++b).cps.size=_;rw [Str.cps_append,Array.size_append];rfl
theorem WordS.more {n:Nat} {s:Str} (h:WordS n s) {c:Nat} (h1:97<=c) (h2:c<=122):WordS (n+1) (s++⟨#[c]⟩):=by
 refine ⟨by rw [len_app,h.1];rfl,fun x hx=>?_⟩;rw [Str.cps_append,qCn] at hx;rcases qAS.mp hx with z| z
 ·exact h.2 x z
 ·have:x=c:=by simpa using z
  lia
def zDw:Str:= "abcdefghijklmnopqrstuvwxyz"
theorem zDv:zDw.cps.toList=(List.range 26).map (97+·):=by decide +kernel
theorem letters_at {d:Int} (h0:0<=d) (h1:d<26):atI zDw.cps.toList d=some (97+d.toNat):=by
 refine zGz h0 ?_;have:d.toNat<26:=by lia
 rw [zDv,qAX,List.getElem?_range this];rfl
theorem zEh (a c:Nat):(!(decide (([c]:List Nat)<[a])))=decide (a<=c):=by
 have:(([c]:List Nat)<[a])↔c<a:=by
  constructor
  ·intro h
   cases h with
   | rel h=>exact h
   | cons h=>cases h
  ·intro h;exact List.Lex.rel h
 by_cases h:c<a
 ·rw [qAR (this.mpr h),qAT (by lia)];rfl
 ·rw [qAT (fun z=>h (this.mp z)),qAR (by lia)];rfl
section
def zIm (s:Str):Bool:=decide (1<=s.length)&&decide (s.length<=8)&&s.cps.toList.all fun c=>decide (97<=c)&&decide (c<=122)
theorem nameB_iff (s:Str):zIm s=true↔zHb s:=by
 unfold zIm zHb;simp only [qBR,decide_eq_true_eq,qBr];exact ⟨fun ⟨⟨a,b⟩,c⟩=>⟨a,b,c⟩,fun ⟨a,b,c⟩=>⟨⟨a,b⟩,c⟩⟩
def spIsName:Sp:=fun vs H Q _=>∃(x:Str),vs=[.str x]/\x.length<=1000000/\∀H',Kp [] H H'->Q (.bl (zIm x)) H'
abbrev zEr:Stmt:=top 23
theorem sc_is_name:FnScope ["thing"] ["thing"] (zAe zEr):=fnS
theorem ok_is_name (F:Fun K "is_name" "is_name" zEr f fd) (T:Txt K mg):FnOk P w K mg base CX0 1 f fd ["thing"] spIsName:=by
 refine F.ok sc_is_name (fun vs H Q E h=>?_) (fun cdv A outer s H vs Q E hr h=>?_)
 ·obtain ⟨x,rfl,_⟩:=h;rfl
 ·obtain ⟨x,rfl,hx,k⟩:=h;obtain ⟨tL,hL⟩:=T.c_LONGEST_NAME
  refine ⟨_,(zAc (zCe (PW.pt (zG3 (zDk (zCm (zAk zCr (by rfl) T.z_isinstance zAi (zAa (pv 0) (zAa (zDd (by rfl) T.z_str bo_str (v:=.ty "str") rfl) zAb))))) (zEv (zDk (zH7 op_le op_le zAf (zAk call_len_str (by rfl) T.z_len zFa (zAa (pv 0) zAb)) (zAx rfl hL (v:=.int 8) ⟨_,rfl⟩))))))
    (zAd (zAs pe_bl))
    zAz)
   (zAd (zAs (zAk (zIy _ rfl) (by rfl) T.z_all bo_all (zAa (zB3 rfl (zCa (sc:=zAe zEr) rfl (by decide +kernel)) (Draws.own (x:= "sign") Draws.nil) (pi_str (pv 0)) (fun _ _ _ _=>(pgB (i:=0))) (fun _ _ _ _=>zEe) (fun _ _ _ _=>(pe_chain op_le_str op_le_str zBc (pv 0) zBc))) zAb))))),?_⟩
  refine ⟨_,rfl,_,_,_,_,rfl,TyOf.str x,zDf,_,rfl,iteF ?_⟩;refine ⟨_,rfl,_,rfl,?_,_,_,rfl,rfl,_,rfl,?_⟩
  ·rw [qAV];lia
  refine ite2 (fun c=>?_) (fun c=>?_)
  ·have c1:1<=x.length:=by
    have:=qBc c;lia
   refine ⟨_,_,rfl,rfl,_,rfl,?_⟩;refine ite2 (fun c=>?_) (fun c=>?_)
   ·-- too long
    have c2:¬(x.length<=8):=fun z=>by
     have:decide ((x.length:Int)<=8)=true:=qAR (by lia);rw [this] at c;cases c
    have e:zIm x=false:=by
     unfold zIm;rw [qAT c2];simp
    rw [<-e];exact k H Kp.refl
   ·have c2:x.length<=8:=by
     by_cases z:(x.length:Int)<=8
     ·lia
     ·rw [qAT z] at c;exact absurd rfl c
    refine ⟨_,rfl,_,rfl,fun D hD=>comp_str0 (z:=x) (fun i ys τ H'=>(∃o0,τ=[o0])/\ys=((x.cps.toList.take i).map fun c=>V.bl (decide (97<=c)&&decide (c<=122)))/\H'=upd H D (.lst ys)) ⟨⟨_,rfl⟩,rfl,rfl⟩ ?_ ?_⟩
    ·rintro i c ys τ H' hc ⟨⟨o0,rfl⟩,rfl,rfl⟩;have ei:x.cps.toList.take (i+1)=x.cps.toList.take i++[c]:=by rw [qCq,hc];rfl
     have hi:i<x.cps.toList.length:=(qAc.mp hc).1;have hlen:x.cps.toList.length=x.length:=by simp [Str.length]
     have fin:∀b:Bool,b=(decide (97<=c)&&decide (c<=122))->(upd H D (.lst ((x.cps.toList.take i).map fun c=>V.bl (decide (97<=c)&&decide (c<=122))))) D=some (.lst ((x.cps.toList.take i).map fun c=>V.bl (decide (97<=c)&&decide (c<=122))))/\((x.cps.toList.take i).map fun c=>V.bl (decide (97<=c)&&decide (c<=122))).length<sizeLine /\
       ((∃o0,([some (V.str ⟨#[c]⟩)]:St)=[o0])/\((x.cps.toList.take i).map fun c=>V.bl (decide (97<=c)&&decide (c<=122)))++[V.bl b]=((x.cps.toList.take (i+1)).map fun c=>V.bl (decide (97<=c)&&decide (c<=122))) /\
       upd (upd H D (.lst ((x.cps.toList.take i).map fun c=>V.bl (decide (97<=c)&&decide (c<=122))))) D (.lst (((x.cps.toList.take i).map fun c=>V.bl (decide (97<=c)&&decide (c<=122)))++[V.bl b]))=upd H D (.lst (((x.cps.toList.take i).map fun c=>V.bl (decide (97<=c)&&decide (c<=122)))++[V.bl b]))):=fun b hb=>by
      refine ⟨upd_same,?_,⟨_,rfl⟩,?_,zC2⟩
      ·rw [qAE,qAj,qAV];lia
      ·rw [ei,qAM,hb];rfl
     refine ⟨_,rfl,_,_,rfl,rfl,_,rfl,?_⟩;refine ite2 (fun c1=>?_) (fun c1=>?_)
     ·refine ⟨_,_,rfl,rfl,fin _ ?_⟩;have c1:(!(decide (([c]:List Nat)<[97])))=true:=c1;rw [zEh] at c1;show (!(decide (([122]:List Nat)<[c])))=_;rw [zEh,c1];rfl
     ·refine fin _ ?_;have c1:¬(!(decide (([c]:List Nat)<[97])))=true:=c1;rw [zEh] at c1;rw [Bool.not_eq_true] at c1;rw [c1];rfl
    ·rintro ys τ H' ⟨⟨o0,rfl⟩,rfl,rfl⟩;have hlen:x.cps.toList.take x.length=x.cps.toList:=qBb (by simp [Str.length]);refine ⟨D,x.cps.toList.map (fun c=>decide (97<=c)&&decide (c<=122)),rfl,SqL.of ?_,?_⟩
     ·rw [upd_same,hlen,qAq];rfl
     ·have e:((x.cps.toList.map (fun c=>decide (97<=c)&&decide (c<=122))).all id)=zIm x:=by
       unfold zIm;rw [qAR c1,qAR c2,List.all_map];rfl
      rw [e];exact k _ (Kp.new Kp.refl hD)
  ·-- empty
   have c1:¬(1<=x.length):=fun z=>c (qAR (by lia));refine ⟨_,rfl,?_⟩;refine iteT ?_
   have e:zIm x=false:=by
    unfold zIm;rw [qAT c1];simp
   rw [<-e];exact k H Kp.refl
end
abbrev Txs (H:Hp) (l:Addr) (ns:List Str):Prop:=H l=some (.lst (ns.map V.str))
structure Ords (H:Hp) (l:Addr) (qs:List (List Str×Addr)):Prop where
 top:H l=some (.lst (qs.map fun q=>V.ref q.2))
 row:∀q∈qs,H q.2=some (.tup (q.1.map V.str))
 two:∀q∈qs,∃a b,q.1=[a,b]
theorem zEl (x:Str) (ns:List Str):inV (.str x) (ns.map V.str)=decide (x∈ns):=by
 unfold inV
 induction ns with
 | nil=>rfl
 | cons n r ih =>
  rw [qAp,qB2,ih];show ((n==x)||_)=_
  by_cases e:n=x
  ·subst e;simp
  ·have e':¬x=n:=fun z=>e z.symm;rw [qA7.mpr e];simp [e']
theorem zB8 (ns:List Str):(ns.map V.str).all zFo=true:=by simp [zFo]
section
def spIsOneOf:Sp:=fun vs H Q _=>∃(x:Str) (l:Addr) (ns:List Str),vs=[.str x,.ref l]/\Txs H l ns/\Q (.bl (decide (x∈ns))) H
abbrev zEc:Stmt:=top 24
theorem sc_is_one_of:FnScope ["thing", "names"] ["thing", "names"] (zAe zEc):=fnS
theorem ok_is_one_of (F:Fun K "is_one_of" "is_one_of" zEc f fd) (T:Txt K mg):FnOk P w K mg base CX0 1 f fd ["thing", "names"] spIsOneOf:=by
 refine F.ok sc_is_one_of (fun vs H Q E h=>?_) (fun cdv A outer s H vs Q E hr h=>?_)
 ·obtain ⟨x,l,ns,rfl,_⟩:=h;rfl
 ·obtain ⟨x,l,ns,rfl,hl,k⟩:=h;refine ⟨_,(zAd (zAs (pe_and (zAk zCr (by rfl) T.z_isinstance zAi (zAa (pv 0) (zAa (zDd (by rfl) T.z_str bo_str (v:=.ty "str") rfl) zAb))) (zHj (zB4 zGi (pv 0) (pv 1) (by rfl)))))),?_⟩;refine ⟨_,rfl,_,_,_,_,rfl,TyOf.str x,zDf,_,rfl,iteT ?_⟩;refine ⟨_,rfl,_,rfl,_,_,rfl,.inl (SqL.of hl),rfl,zB8 ns,?_⟩;rw [zEl];exact k
def zFh:Sp:=fun vs H Q _=>∃(x:Str) (l:Addr) (ns:List Str),vs=[.ref l,.str x]/\Txs H l ns/\x∈ns/\Q .non H
abbrev zEd:Stmt:=top 45
theorem sc_check_job:FnScope ["names", "thing"] ["names", "thing"] (zAe zEd):=fnS
theorem ok_check_job (F:Fun K "check_job" "check_job" zEd f fd) (T:Txt K mg) (C_is_one_of:Cal P w K mg base "is_one_of" 1 ["thing", "names"] spIsOneOf):FnOk P w K mg base CX0 2 f fd ["names", "thing"] zFh:=by
 refine F.ok sc_check_job (fun vs H Q E h=>?_) (fun cdv A outer s H vs Q E hr h=>?_)
 ·obtain ⟨x,l,ns,rfl,_⟩:=h;rfl
 ·obtain ⟨x,l,ns,rfl,hl,hx,k⟩:=h;have HR_is_one_of:=hr
  refine ⟨_,(zAd (zCe (zDk (zCm (zAg C_is_one_of HR_is_one_of rfl (zAa (pv 1) (zAa (pv 0) zAb)))))
    (zAd zBn)
    zAz)),?_⟩
  refine ⟨_,rfl,_,rfl,x,l,ns,rfl,hl,?_⟩;rw [qAR hx];exact ⟨_,rfl,iteF k⟩
end
abbrev dT1 (ns:List Str) (g:Str->V):List (Key×V):=ns.map fun n=>(Sum.inr n,g n)
theorem zCs (g:Str->V) (x:Str):∀ns:List Str,valV (dT1 ns g) (.inr x)=if x∈ns then some (g x) else none
 | []=>rfl
 | n::r=>by
  by_cases e:n=x
  ·subst e;have h1:valV (dT1 (n::r) g) (.inr n)=some (g n):=zA5 rfl;rw [h1];simp
  ·have h1:valV (dT1 (n::r) g) (.inr x)=valV (dT1 r g) (.inr x):=zA3 fun z=>e (Sum.inr.inj z);rw [h1,zCs g x r];have e':¬x=n:=fun z=>e z.symm;simp [e']
theorem zH5 {g:Str->V} {x:Str} (v:V) (h:x∉ns):putK (dT1 ns g) (.inr x) v=dT1 ns g++[(.inr x,v)]:=zEw v (by rw [zCs];simp [h])
theorem zAj {xs:List α} {x:α} (h:xs[i]?=some x):xs.take (i+1)=xs.take i++[x]:=by rw [qCq,h];rfl
theorem zCg {v:V} (h:(ns.map V.str)[i]?=some v):∃n,ns[i]?=some n/\v= .str n:=by
 rw [qAX] at h;obtain ⟨n,e,r⟩:=qBA.mp h;exact ⟨n,e,r.symm⟩
theorem zIj {xs:List α} (h:xs.Nodup) {x:α} (e:xs[i]?=some x):x∉xs.take i:=fun z=>by
 obtain ⟨hi,rfl⟩:=qAc.mp e;obtain ⟨j,hj,e2⟩:=qBL.mp z;rw [qAj] at hj;rw [List.getElem_take] at e2;have:=(List.getElem_inj h).mp e2;lia
section
def zFs:Sp:=fun vs H Q _=>∃(l:Addr) (ns:List Str),vs=[.ref l]/\Txs H l ns/\ns.length<=20/\(∀n∈ns,zHb n)/\ns.Nodup/\∀H',Kp [] H H'->Q .non H'
abbrev zC8:Stmt:=top 43
theorem zBt:FnScope ["names", "thing", "seen", "name"] ["names"] (zAe zC8):=fnS
theorem zG6 (F:Fun K "check_names" "check_names" zC8 f fd) (T:Txt K mg) (C_is_name:Cal P w K mg base "is_name" 1 ["thing"] spIsName):FnOk P w K mg base CX0 2 f fd ["names"] zFs:=by
 refine F.ok zBt (fun vs H Q E h=>?_) (fun cdv A outer s H vs Q E hr h=>?_)
 ·obtain ⟨l,ns,rfl,_⟩:=h;rfl
 ·obtain ⟨l,ns,rfl,hl,hn,hN,hD,k⟩:=h;have HR_is_name:=hr;have hu:=zGu hr;obtain ⟨tM,hM⟩:=T.c_MOST_JOBS
  refine ⟨_,(zAc (zCe (zAy op_gt (zAk zA2 (by rfl) T.z_len zFa (zAa (pv 0) zAb)) (zAx rfl hM (v:=.int 20) ⟨_,rfl⟩) (zA7 _))
    (zAd zBn)
    zAz)
   (zAc (zBb qAn rfl (zAv (pv 0)) (pgN (i:=1) zBt.nd)
    (zAd (zCe (zDk (zCm (zAg C_is_name HR_is_name rfl (zAa (pv 1) zAb))))
     (zAd zBn)
     zAz)))
   (zAc (psS (i:=2) zBt.nd zEy)
   (zAd (zBb qAn rfl (zAv (pv 0)) (pgN (i:=3) zBt.nd)
    (zAc (zCe (pt_cmp (pc_din hu (pv 3) (pv 2)))
     (zAd zBn)
     zAz)
    (zAd (zEf hu (pv 2) (pv 3) pe_bl rfl)))))))),?_⟩
  refine ⟨_,rfl,_,_,rfl,.inl (SqL.of hl),_,_,rfl,rfl,_,rfl,?_⟩;rw [qAT (by rw [qAE];lia)];refine iteF ?_;refine ⟨_,rfl,_,rfl,⟨_,SqL.of hl⟩,zBp (fun i σ H2=>(∃o1 o2 o3:Option V,σ=[some (.ref l),o1,o2,o3])/\Kp [] H H2) ⟨⟨_,_,_,rfl⟩,Kp.refl⟩ (fun i σ H2 _ ⟨_,k2⟩=>SqL.of (k2 l _ hl (by simp))) ?_ ?_⟩
  ·rintro i v σ H2 hv ⟨⟨o1,o2,o3,rfl⟩,k2⟩;obtain ⟨n,en,rfl⟩:=zCg hv;have nn:=hN n (qAY en);refine ⟨_,rfl,n,rfl,by have:=nn.2.1;lia,fun H3 k3=>?_⟩;rw [(nameB_iff n).mpr nn];exact ⟨_,rfl,iteF ⟨⟨_,_,_,rfl⟩,k2.trans k3⟩⟩
  ·rintro σ H2 ⟨⟨o1,o2,o3,rfl⟩,k2⟩;have hl2:Txs H2 l ns:=k2 l _ hl (by simp);refine fun d hd=>?_;have fd:Fre H2 d:=hd;have fdH:Fre H d:=k2.fre fd (by simp);refine ⟨_,rfl,_,rfl,⟨_,SqL.of ((Kp.new (M:=[]) Kp.refl fd) l _ hl2 (by simp))⟩,zBp (fun i σ H3=>(∃o1 o3:Option V,σ=[some (.ref l),o1,some (.ref d),o3])/\Kp [] H H3/\H3 d=some (.dK (dT1 (ns.take i) fun _=>.bl true))) ⟨⟨_,_,rfl⟩,Kp.new k2 fdH,upd_same⟩ (fun i σ H3 _ ⟨_,k3,_⟩=>SqL.of (k3 l _ hl (by simp))) ?_ ?_⟩
   ·rintro i v σ H3 hv ⟨⟨o1,o3,rfl⟩,k3,h3⟩;obtain ⟨n,en,rfl⟩:=zCg hv;have ni:=zIj hD en;refine ⟨_,rfl,_,rfl,_,_,rfl,DGet.k (k:=Sum.inr n) h3,_,rfl,?_⟩;rw [zCs,qAB ni];refine iteF ?_;refine ⟨_,rfl,_,rfl,_,_,rfl,DPut.k (k:=Sum.inr n) h3 ?_,?_⟩
    ·rw [qAE,qAj,qAV];lia
    ·refine ⟨⟨_,_,rfl⟩,Kp.new k3 fdH,?_⟩;rw [upd_same,zH5 _ ni,zAj en];unfold dT1;rw [qAM];rfl
   ·rintro σ H3 ⟨⟨o1,o3,rfl⟩,k3,h3⟩;exact k H3 k3
end
theorem ref_at {qs:List (List Str×Addr)} {v:V} (h:(qs.map fun q=>V.ref q.2)[i]?=some v):∃q,qs[i]?=some q/\v= .ref q.2:=by
 rw [qAX] at h;obtain ⟨n,e,r⟩:=qBA.mp h;exact ⟨n,e,r.symm⟩
theorem Ords.kp {M:List Addr} {l:Addr} {qs:List (List Str×Addr)} (o:Ords H l qs) (k:Kp M H H') (h1:l∉M) (h2:∀q∈qs,q.2∉M):Ords H' l qs:=⟨k l _ o.top h1,fun q hq=>k _ _ (o.row q hq) (h2 q hq),o.two⟩
section
def zFr:Sp:=fun vs H Q _=>∃(l m:Addr) (ns:List Str) (qs:List (List Str×Addr)),vs=[.ref l,.ref m]/\Txs H l ns/\Ords H m qs/\(∀q∈qs,∀x∈q.1,x∈ns)/\Q .non H
abbrev zC7:Stmt:=top 44
theorem zCt:FnScope ["names", "orders", "order", "part"] ["names", "orders"] (zAe zC7):=fnS
theorem zG5 (F:Fun K "check_parts" "check_parts" zC7 f fd) (T:Txt K mg) (C_check_job:Cal P w K mg base "check_job" 2 ["names", "thing"] zFh):FnOk P w K mg base CX0 3 f fd ["names", "orders"] zFr:=by
 refine F.ok zCt (fun vs H Q E h=>?_) (fun cdv A outer s H vs Q E hr h=>?_)
 ·obtain ⟨l,m,ns,qs,rfl,_⟩:=h;rfl
 ·obtain ⟨l,m,ns,qs,rfl,hl,hm,hq,k⟩:=h;have HR_check_job:=hr
  refine ⟨_,(zAd (zBb qAn rfl (zAv (pv 1)) (pgN (i:=2) zCt.nd)
    (zAd (zBb qAn rfl (pi_tup (pv 2)) (pgN (i:=3) zCt.nd)
     (zAd (zAq (zAg C_check_job HR_check_job rfl (zAa (pv 0) (zAa (pv 3) zAb))))))))),?_⟩
  refine ⟨_,rfl,_,rfl,⟨_,SqL.of hm.top⟩,zBp (fun i σ H2=>(∃o2 o3:Option V,σ=[some (.ref l),some (.ref m),o2,o3])/\H2=H) ⟨⟨_,_,rfl⟩,rfl⟩ (fun i σ H2 _ ⟨_,e⟩=>by subst e;exact SqL.of hm.top) ?_ ?_⟩
  ·rintro i v σ H2 hv ⟨⟨o2,o3,rfl⟩,rfl⟩;obtain ⟨q,eq,rfl⟩:=ref_at hv;have mq:=qAY eq;refine ⟨_,rfl,_,rfl,⟨_,.inl (.inl (hm.row q mq))⟩,for_tup (fun j σ H3=>(∃o3:Option V,σ=[some (.ref l),some (.ref m),some (.ref q.2),o3])/\H3=H2) ⟨⟨_,rfl⟩,rfl⟩ (fun j σ H3 _ ⟨_,e⟩=>by subst e;exact .inl (.inl (hm.row q mq))) ?_ ?_⟩
   ·rintro j v σ H3 hv ⟨⟨o3,rfl⟩,rfl⟩;obtain ⟨x,ex,rfl⟩:=zCg hv;exact ⟨_,rfl,_,rfl,x,l,ns,rfl,hl,hq q mq x (qAY ex),⟨_,rfl⟩,rfl⟩
   ·rintro σ H3 ⟨⟨o3,rfl⟩,rfl⟩;exact ⟨⟨_,_,rfl⟩,rfl⟩
  ·rintro σ H2 ⟨⟨o2,o3,rfl⟩,rfl⟩;exact k
end
def fst (q:List Str×Addr):Str:=q.1.getD 0 Str.empty
def snd (q:List Str×Addr):Str:=q.1.getD 1 Str.empty
def told (qs:List (List Str×Addr)) (n:Str):List Str:=(qs.filter fun q=>decide (snd q=n)).map fst
theorem told_snoc (qs:List (List Str×Addr)) (q:List Str×Addr) (n:Str):told (qs++[q]) n=if snd q=n then told qs n++[fst q] else told qs n:=by
 unfold told;rw [qBP]
 by_cases e:snd q=n
 ·rw [qAC e];simp [e]
 ·rw [qAB e];simp [e]
theorem told_len (qs:List (List Str×Addr)) (n:Str):(told qs n).length<=qs.length:=by
 unfold told;rw [qAE];exact qA3 _ _
structure DL (H0 H:Hp) (d:Addr) (ns:List Str) (la:Str->Addr) (f:Str->List Str):Prop where
 top:H d=some (.dK (dT1 ns fun n=>.ref (la n)))
 row:∀n∈ns,Txs H (la n) (f n)
 ne:∀n∈ns,la n≠d
 inj:∀n∈ns,∀m∈ns,la n=la m->n=m
 fr:Fre H0 d
 frs:∀n∈ns,Fre H0 (la n)
theorem dT1_congr {g g':Str->V} (h:∀n∈ns,g n=g' n):dT1 ns g=dT1 ns g':=qBw fun n hn=>by rw [h n hn]
section
def zGa:Sp:=fun vs H Q _=>∃(l m:Addr) (ns:List Str) (qs:List (List Str×Addr)),vs=[.ref l,.ref m]/\Txs H l ns/\Ords H m qs/\ns.Nodup/\ns.length<=20/\qs.length<=4096/\(∀q∈qs,∀x∈q.1,x∈ns) /\
 ∀d la H',DL H H' d ns la (told qs)->Kp [] H H'->Q (.ref d) H'
abbrev zDp:Stmt:=top 46
theorem zBj:FnScope ["names", "orders", "told", "name", "one", "other"] ["names", "orders"] (zAe zDp):=fnS
theorem zId (F:Fun K "told_ahead" "told_ahead" zDp f fd):FnOk P w K mg base CX0 1 f fd ["names", "orders"] zGa:=by
 refine F.ok zBj (fun vs H Q E h=>?_) (fun cdv A outer s H vs Q E hr h=>?_)
 ·obtain ⟨l,m,ns,qs,rfl,_⟩:=h;rfl
 ·obtain ⟨l,m,ns,qs,rfl,hl,hm,hN,hn,hz,hq,k⟩:=h;have hu:=zGu hr
  refine ⟨_,(zAc (psS (i:=2) zBj.nd zEy)
   (zAc (zBb qAn rfl (zAv (pv 0)) (pgN (i:=3) zBj.nd)
    (zAd (zEf hu (pv 2) (pv 3) (zA6 zAb) rfl)))
   (zAc (zBb qAn rfl (zAv (pv 1)) (zGe rfl (zAp (pgN (i:=4) zBj.nd) (zAp (pgN (i:=5) zBj.nd) zCu)))
    (zAd (zAq (zG4 qBd qDG qDH zDu (zDb hu (pv 2) (pv 5) (fun _ _=>rfl)) (zAa (pv 4) zAb)))))
   (zAd (zAs (pv 2)))))),?_⟩
  refine fun d hd=>?_;have fd:Fre H d:=hd
  refine ⟨_,rfl,_,rfl,⟨_,SqL.of ((Kp.new (M:=[]) Kp.refl fd) l _ hl (by simp))⟩,zBp (fun i σ H2=>(∃o3 o4 o5:Option V,σ=[some (.ref l),some (.ref m),some (.ref d),o3,o4,o5])/\Kp [] H H2/\∃la,DL H H2 d (ns.take i) la fun _=>[])
   ⟨⟨_,_,_,rfl⟩,Kp.new Kp.refl fd,fun _=>0,upd_same,(fun n h=>nomatch h),(fun n h=>nomatch h),(fun n h=>nomatch h),fd,(fun n h=>nomatch h)⟩ (fun i σ H2 _ ⟨_,k2,_⟩=>SqL.of (k2 l _ hl (by simp))) ?_ ?_⟩
  ·rintro i v σ H2 hv ⟨⟨o3,o4,o5,rfl⟩,k2,la,D⟩;obtain ⟨n,en,rfl⟩:=zCg hv;have ni:=zIj hN en;refine ⟨(by walk_at "ln"),fun b hb=>?_⟩;have fb:Fre H2 b:=hb;have ndb:d≠b:=ne_fre fb D.top;have fbH:Fre H b:=k2.fre fb (by simp);refine ⟨_,rfl,_,rfl,_,_,rfl,DPut.k (k:=Sum.inr n) ((upd_ne ndb).trans D.top) ?_,?_⟩
   ·rw [qAE,qAj,qAV];lia
   ·have nlb:∀x∈ns.take i,la x≠b:=fun x hx=>ne_fre fb (D.row x hx);refine ⟨⟨_,_,_,rfl⟩,Kp.new (Kp.new k2 fbH) fd,fun x=>if x=n then b else la x,?_,fun x hx=>?_,fun x hx=>?_,fun x hx y hy e=>?_,fd,fun x hx=>?_⟩
    ·rw [upd_same,zH5 _ ni,zAj en];have:dT1 (ns.take i) (fun n=>V.ref (la n))=dT1 (ns.take i) (fun x=>V.ref (if x=n then b else la x)):=dT1_congr fun x hx=>by rw [qAB fun (z:x=n)=>ni (z▸hx)]
     rw [this];unfold dT1;rw [qAM];simp
    ·rw [zAj en] at hx
     by_cases z:x=n
     ·rw [qAC z];exact (upd_ne ndb.symm).trans upd_same
     ·rw [qAB z]
      have hx':x∈ns.take i:=by
       rcases qAS.mp hx with y| y
       ·exact y
       ·exact absurd (qAL.mp y) z
      exact (upd_ne (D.ne x hx')).trans ((upd_ne (nlb x hx')).trans (D.row x hx'))
    ·rw [zAj en] at hx
     by_cases z:x=n
     ·rw [qAC z];exact ndb.symm
     ·rw [qAB z];rcases qAS.mp hx with y| y
      ·exact D.ne x y
      ·exact absurd (qAL.mp y) z
    ·rw [zAj en] at hx hy
     have mem:∀x,x∈ns.take i++[n]->x≠n->x∈ns.take i:=fun x hx z=>by
      rcases qAS.mp hx with y| y
      ·exact y
      ·exact absurd (qAL.mp y) z
     by_cases z:x=n
     ·by_cases z':y=n
      ·rw [z,z']
      ·rw [qAC z,qAB z'] at e;exact absurd e.symm (nlb y (mem y hy z'))
     ·by_cases z':y=n
      ·rw [qAB z,qAC z'] at e;exact absurd e (nlb x (mem x hx z))
      ·rw [qAB z,qAB z'] at e;exact D.inj x (mem x hx z) y (mem y hy z') e
    ·rw [zAj en] at hx
     by_cases z:x=n
     ·rw [qAC z];exact fbH
     ·rw [qAB z];rcases qAS.mp hx with y| y
      ·exact D.frs x y
      ·exact absurd (qAL.mp y) z
  ·rintro σ H2 ⟨⟨o3,o4,o5,rfl⟩,k2,la,D⟩;have eN:ns.take (ns.map V.str).length=ns:=by rw [qAE,qAu]
   rw [eN] at D
   refine ⟨_,rfl,_,rfl,⟨_,SqL.of (k2 m _ hm.top (by simp))⟩,zBp (fun i σ H3=>(∃o3 o4 o5:Option V,σ=[some (.ref l),some (.ref m),some (.ref d),o3,o4,o5])/\Kp [] H H3/\DL H H3 d ns la (told (qs.take i)))
    ⟨⟨_,_,_,rfl⟩,k2,D⟩ (fun i σ H3 _ ⟨_,k3,_⟩=>SqL.of (k3 m _ hm.top (by simp))) ?_ ?_⟩
   ·rintro i v σ H3 hv ⟨⟨o3,o4,o5,rfl⟩,k3,D⟩;obtain ⟨q,eq,rfl⟩:=ref_at hv;have mq:=qAY eq;obtain ⟨a,b,eab⟩:=hm.two q mq
    have hrow:H3 q.2=some (.tup [.str a,.str b]):=by
     have:=k3 q.2 _ (hm.row q mq) (by simp);rw [eab] at this;exact this
    have hb:b∈ns:=hq q mq b (by rw [eab];simp);have esnd:snd q=b:=by unfold snd;rw [eab];rfl
    have efst:fst q=a:=by unfold fst;rw [eab];rfl
    refine ⟨_,_,rfl,.inl (.inl hrow),rfl,_,_,rfl,_,_,rfl,rfl,?_⟩;refine ⟨_,rfl,_,rfl,_,.ref (la b),rfl,?_,.inl ⟨rfl,_,SqL.of (D.row b hb)⟩,_,rfl,_,_,_,rfl,rfl,D.row b hb,?_,?_⟩
    ·have:=DGet.k (k:=Sum.inr b) D.top;rw [zCs,qAC hb] at this;exact this
    ·have:=told_len (qs.take i) b;rw [qAj] at this;rw [qAE,qAV];lia
    ·refine ⟨⟨_,_,_,rfl⟩,Kp.new k3 (D.frs b hb),?_⟩;rw [zAj eq];refine ⟨(upd_ne (D.ne b hb).symm).trans D.top,fun x hx=>?_,D.ne,D.inj,D.fr,D.frs⟩;show upd H3 (la b) _ (la x)=some (.lst ((told (qs.take i++[q]) x).map V.str));rw [told_snoc,esnd,efst]
     by_cases z:b=x
     ·subst z;rw [qAC rfl,upd_same,qAM];rfl
     ·rw [qAB z,upd_ne fun y=>z (D.inj b hb x hx y.symm)];exact D.row x hx
   ·rintro σ H3 ⟨⟨o3,o4,o5,rfl⟩,k3,D⟩;have eQ:qs.take (qs.map fun q=>V.ref q.2).length=qs:=by rw [qAE,qAu]
    rw [eQ] at D;exact ⟨_,rfl,k d la H3 D k3⟩
end
def addA (A:List Str) (x:Str):List Str:=if x∈A then A else A++[x]
theorem mem_addA {A:List Str} {x:Str}:y∈addA A x↔y∈A\/y=x:=by
 unfold addA
 by_cases h:x∈A
 ·rw [qAC h];exact ⟨.inl,fun z=>z.elim id fun e=>e▸h⟩
 ·rw [qAB h];simp
theorem zHk {A:List Str} {x:Str} (h:A.Nodup):(addA A x).Nodup:=by
 unfold addA
 by_cases hx:x∈A
 ·rw [qAC hx];exact h
 ·rw [qAB hx];refine qBt.mpr ⟨h,by simp,fun a ha b hb=>?_⟩;rw [qAL.mp hb];rintro rfl;exact hx ha
theorem mem_foldA :∀(B A:List Str),y∈B.foldl addA A↔y∈A\/y∈B
 | [],A=>by simp
 | b::B,A=>by
  rw [qBX,mem_foldA B (addA A b),mem_addA,qAO,or_assoc]
theorem zGk:∀(B A:List Str),A.Nodup->(B.foldl addA A).Nodup
 | [],A,h=>h
 | b::B,A,h=>zGk B _ (zHk h)
def zBr (S:Str->List Str) (ms:List Str):List Str:=ms.foldl (fun A m=>(S m).foldl addA (addA A m)) []
theorem joinA_snoc (S:Str->List Str) (ms:List Str) (m:Str):zBr S (ms++[m])=(S m).foldl addA (addA (zBr S ms) m):=by unfold zBr;rw [qB8];rfl
theorem zHl {S:Str->List Str} :∀(ms A:List Str),y∈ms.foldl (fun A m=>(S m).foldl addA (addA A m)) A↔y∈A\/y∈ms\/∃m∈ms,y∈S m
 | [],A=>by simp
 | m::ms,A=>by
  rw [qBX,zHl ms,mem_foldA,mem_addA];constructor
  ·rintro (((h| h)| h)| h| ⟨q,h1,h2⟩)
   ·exact .inl h
   ·exact .inr (.inl (h▸qAU))
   ·exact .inr (.inr ⟨m,qAU,h⟩)
   ·exact .inr (.inl (qAP _ h))
   ·exact .inr (.inr ⟨q,qAP _ h1,h2⟩)
  ·rintro (h| h| ⟨q,h1,h2⟩)
   ·exact .inl (.inl (.inl h))
   ·rcases qAO.mp h with e| e
    ·exact .inl (.inl (.inr e))
    ·exact .inr (.inl e)
   ·rcases qAO.mp h1 with e| e
    ·exact .inl (.inr (e▸h2))
    ·exact .inr (.inr ⟨q,e,h2⟩)
theorem zGm {S:Str->List Str} {ms:List Str} :y∈zBr S ms↔y∈ms\/∃m∈ms,y∈S m:=by
 unfold zBr;rw [zHl];simp
theorem zFw {S:Str->List Str}:∀(ms A:List Str),A.Nodup->(ms.foldl (fun A m=>(S m).foldl addA (addA A m)) A).Nodup
 | [],A,h=>h
 | m::ms,A,h=>zFw ms _ (zGk _ _ (zHk h))
theorem zGj (S:Str->List Str) (ms:List Str):(zBr S ms).Nodup:=zFw ms [] qBB
theorem zFf:∀{A B:List Str},A.Nodup->(∀x∈A,x∈B)->A.length<=B.length
 | [],B,_,_=>qAf _
 | a::A,B,h,hs=>by
  obtain ⟨h1,h2⟩:=qA1.mp h;have hb:=hs a qAU;have:=zFf (B:=B.erase a) h2 fun x hx=>(List.mem_erase_of_ne fun e=>h1 (by rw [<-e];exact hx)).mpr (hs x (qAP _ hx));rw [List.length_erase_of_mem hb] at this;have:=List.length_pos_of_mem hb;rw [qAZ];lia
abbrev SetD (H:Hp) (e:Addr) (A:List Str):Prop:=H e=some (.dK (dT1 A fun _=>.bl true))
theorem put_set (A:List Str) (x:Str):putK (dT1 A fun _=>.bl true) (.inr x) (.bl true)=dT1 (addA A x) fun _=>.bl true:=by
 unfold addA
 by_cases h:x∈A
 ·rw [qAC h];unfold putK;rw [zDy,zCs,qAC h];refine (qAC (by rfl)).trans ?_;unfold dT1;rw [qAq];refine qBw fun y _=>?_;show (if (Sum.inr y:Key)=Sum.inr x then ((Sum.inr y:Key),V.bl true) else (Sum.inr y,V.bl true))=_;split<;>rfl
 ·rw [qAB h,zH5 _ h];unfold dT1;rw [qAM];rfl
theorem mrg_set:∀(B A:List Str),mrg (dT1 A fun _=>.bl true) (dT1 B fun _=>.bl true)=dT1 (B.foldl addA A) fun _=>.bl true
 | [],A=>rfl
 | b::B,A=>by
  show mrg (putK (dT1 A fun _=>.bl true) (.inr b) (.bl true)) (dT1 B fun _=>.bl true)=_;rw [put_set,mrg_set B];rfl
section
def spHasAll:Sp:=fun vs H Q _=>∃(d l:Addr) (kvs:List (Key×V)) (ms:List Str),vs=[.ref d,.ref l]/\H d=some (.dK kvs)/\Txs H l ms/\ms.length<=4096/\∀H',Kp [] H H'->Q (.bl (ms.all fun m=>(valV kvs (.inr m)).isSome)) H'
abbrev zEs:Stmt:=top 47
theorem sc_has_all:FnScope ["done", "names"] ["done", "names"] (zAe zEs):=fnS
theorem ok_has_all (F:Fun K "has_all" "has_all" zEs f fd) (T:Txt K mg):FnOk P w K mg base CX0 1 f fd ["done", "names"] spHasAll:=by
 refine F.ok sc_has_all (fun vs H Q E h=>?_) (fun cdv A outer s H vs Q E hr h=>?_)
 ·obtain ⟨d,l,kvs,ms,rfl,_⟩:=h;rfl
 ·obtain ⟨d,l,kvs,ms,rfl,hd,hl,hz,k⟩:=h;have hu:=zGu hr;refine ⟨_,(zAd (zAs (zAk (zIy _ rfl) (by rfl) T.z_all bo_all (zAa (zB3 rfl (zCa (sc:=zAe zEs) rfl (by decide +kernel)) (Draws.own (x:= "name") (dtk (i:=0) rfl Draws.nil)) (zAv (pv 1)) (fun _ _ _ _=>(pgB (i:=0))) (fun _ _ _ _=>zEe) (fun _ _ _ _=>(pe_cmp (pc_din hu (pv 0) (pv 1))))) zAb)))),?_⟩;refine ⟨_,rfl,_,rfl,⟨_,SqL.of hl⟩,fun D hD=>zB0 (ms.map V.str) (fun i ys τ H'=>(∃o0,τ=[o0,some (.ref d)])/\ys=((ms.take i).map fun m=>V.bl (valV kvs (.inr m)).isSome)/\H'=upd H D (.lst ys)) ⟨⟨_,rfl⟩,rfl,rfl⟩ (fun i ys τ H' ⟨_,_,e⟩=>by subst e;exact SqL.of ((upd_ne (ne_fre (show Fre H D from hD) hl)).trans hl)) ?_ ?_⟩
  ·rintro i v ys τ H' hv ⟨⟨o0,rfl⟩,rfl,rfl⟩;obtain ⟨m,em,rfl⟩:=zCg hv;refine ⟨_,rfl,_,rfl,_,_,rfl,DGet.k (k:=Sum.inr m) ((upd_ne (ne_fre (show Fre H D from hD) hd)).trans hd),upd_same,?_,⟨_,rfl⟩,?_,zC2⟩
   ·rw [qAE,qAj,qAV];lia
   ·rw [zAj em,qAM];rfl
  ·rintro ys τ H' ⟨_,rfl,rfl⟩;have eM:ms.take (ms.map V.str).length=ms:=by rw [qAE,qAu]
   refine ⟨D,ms.map fun m=>(valV kvs (.inr m)).isSome,rfl,SqL.of ?_,?_⟩
   ·rw [upd_same,eM,qAq];rfl
   ·rw [List.all_map];exact k _ (Kp.new Kp.refl hD)
def spJoined:Sp:=fun vs H Q _=>∃(l d:Addr) (ms D0 ns:List Str) (fa:Str->Addr) (S:Str->List Str),vs=[.ref l,.ref d]/\Txs H l ms/\H d=some (.dK (dT1 D0 fun n=>.ref (fa n)))/\(∀m∈ms,m∈D0/\m∈ns/\SetD H (fa m) (S m)/\∀x∈S m,x∈ns)/\ns.length<=20/\(∀m∈ms,(S m).length<=20) /\
 ∀e H',Fre H e->SetD H' e (zBr S ms)->Kp [] H H'->Q (.ref e) H'
abbrev zH4:Stmt:=top 49
theorem zGc:FnScope ["near", "far", "found", "name"] ["near", "far"] (zAe zH4):=fnS
theorem ok_joined (F:Fun K "joined" "joined" zH4 f fd):FnOk P w K mg base CX0 1 f fd ["near", "far"] spJoined:=by
 refine F.ok zGc (fun vs H Q E h=>?_) (fun cdv A outer s H vs Q E hr h=>?_)
 ·obtain ⟨l,d,ms,D0,ns,fa,S,rfl,_⟩:=h;rfl
 ·obtain ⟨l,d,ms,D0,ns,fa,S,rfl,hl,hd,hm,hn,hS,k⟩:=h;have hu:=zGu hr
  refine ⟨_,(zAc (psS (i:=2) zGc.nd zEy)
   (zAc (zBb qAn rfl (zAv (pv 0)) (pgN (i:=3) zGc.nd)
    (zAc (zEf hu (pv 2) (pv 3) pe_bl rfl)
    (zAd (zAq (zG4 qC4 PySem.F.slot_dict_update PySem.F.type_dict_update mt_dupd (pv 2) (zAa (zDb hu (pv 1) (pv 3) (fun _ _=>rfl)) zAb))))))
   (zAd (zAs (pv 2))))),?_⟩
  refine fun e he=>?_;have fe:Fre H e:=he
  have hsub:∀i x,x∈zBr S (ms.take i)->x∈ns:=fun i x hx=>by
   rcases zGm.mp hx with z| ⟨m,z,z'⟩
   ·exact (hm x (qCQ z)).2.1
   ·exact (hm m (qCQ z)).2.2.2 x z'
  have hlen:∀i,(zBr S (ms.take i)).length<=20:=fun i=>qAW (zFf (zGj S _) (hsub i)) hn
  refine ⟨_,rfl,_,rfl,⟨_,SqL.of ((Kp.new (M:=[]) Kp.refl fe) l _ hl (by simp))⟩,zBp (fun i σ H2=>(∃o3:Option V,σ=[some (.ref l),some (.ref d),some (.ref e),o3])/\Kp [] H H2/\SetD H2 e (zBr S (ms.take i)))
   ⟨⟨_,rfl⟩,Kp.new Kp.refl fe,upd_same⟩ (fun i σ H2 _ ⟨_,k2,_⟩=>SqL.of (k2 l _ hl (by simp))) ?_ ?_⟩
  ·rintro i v σ H2 hv ⟨⟨o3,rfl⟩,k2,h2⟩;obtain ⟨m,em,rfl⟩:=zCg hv;obtain ⟨m1,m2,m3,m4⟩:=hm m (qAY em);have l2:=hlen i;refine ⟨_,rfl,_,rfl,_,_,rfl,DPut.k (k:=Sum.inr m) h2 (by rw [qAE,qAV];lia),?_⟩;rw [put_set];have k3:Kp [] H (upd H2 e (.dK (dT1 (addA (zBr S (ms.take i)) m) fun _=>.bl true))):=Kp.new k2 fe;have nfa:fa m≠e:=ne_fre fe m3;refine ⟨_,rfl,.inr (.inr (.inl ⟨rfl,.inl ⟨_,upd_same⟩⟩)),_,rfl,_,rfl,_,.ref (fa m),rfl,?_,_,fa m,_,_,rfl,rfl,upd_same,k3 _ _ m3 (by simp),nfa.symm,?_,?_⟩
   ·have:=DGet.k (k:=Sum.inr m) (k3 d _ hd (by simp));rw [zCs,qAC m1] at this;exact this
   ·have:=hS m (qAY em);rw [qAE,qAE,qAV]
    have:(addA (zBr S (ms.take i)) m).length<=(zBr S (ms.take i)).length+1:=by
     unfold addA;split
     ·lia
     ·rw [qAa];exact qAG _
    lia
   ·rw [mrg_set];refine ⟨⟨_,rfl⟩,Kp.new k3 fe,?_⟩;rw [zAj em,joinA_snoc];exact upd_same
  ·rintro σ H2 ⟨⟨o3,rfl⟩,k2,h2⟩;have eM:ms.take (ms.map V.str).length=ms:=by rw [qAE,qAu]
   rw [eM] at h2;exact ⟨_,rfl,k e H2 fe h2 k2⟩
end
structure Fp (H0 H:Hp) (e:Addr) (ns D:List Str) (fa:Str->Addr) (S f:Str->List Str):Prop where
 top:H e=some (.dK (dT1 D fun n=>.ref (fa n)))
 nd:D.Nodup
 sub:∀n∈D,n∈ns
 row:∀n∈D,SetD H (fa n) (S n)
 snd:∀n∈D,(S n).Nodup
 sns:∀n∈D,∀x∈S n,x∈ns
 mem:∀n∈D,∀x,x∈S n↔x∈f n\/∃m∈f n,x∈S m
 cl:∀n∈D,∀x∈f n,x∈D
 ne:∀n∈D,fa n≠e
 fr:Fre H0 e
 frs:∀n∈D,Fre H0 (fa n)
theorem Fp.kp {H0:Hp} {e:Addr} {D:List Str} {fa:Str->Addr} {S f:Str->List Str} (F:Fp H0 H e ns D fa S f) (k:Kp [] H H'):Fp H0 H' e ns D fa S f :=
 ⟨k e _ F.top (by simp),F.nd,F.sub,fun n hn=>k _ _ (F.row n hn) (by simp),F.snd,F.sns,F.mem,F.cl,F.ne,F.fr,F.frs⟩
theorem Fp.more {H0:Hp} {e b:Addr} {D:List Str} {fa:Str->Addr} {S f:Str->List Str} {n:Str} (F:Fp H0 H e ns D fa S f) (hn:n∈ns) (hD:n∉D) (hf:∀x∈f n,x∈D) (hs:∀x∈f n,x∈ns) (hb:SetD H b (zBr S (f n))) (nb:b≠e) (fb:Fre H0 b) :
  Fp H0 (upd H e (.dK (putK (dT1 D fun n=>.ref (fa n)) (.inr n) (.ref b)))) e ns (D++[n]) (fun x=>if x=n then b else fa x) (fun x=>if x=n then zBr S (f n) else S x) f:=by
 have hx:∀x∈D,¬x=n:=fun x h z=>hD (z▸h)
 have cs:∀x,x∈D++[n]->x∈D\/x=n:=fun x h=>by
  rcases qAS.mp h with z| z
  ·exact .inl z
  ·exact .inr (qAL.mp z)
 have eqS:∀{x},x∈D->(if x=n then zBr S (f n) else S x)=S x:=fun {x} h=>qAB (hx x h);have eqn:(if n=n then zBr S (f n) else S n)=zBr S (f n):=qAC rfl;refine ⟨?_,?_,fun x h=>?_,fun x h=>?_,fun x h=>?_,fun x h y hy=>?_,fun x h y=>?_,fun x h y hy=>?_,fun x h=>?_,F.fr,fun x h=>?_⟩
 ·rw [upd_same,zH5 _ hD];have:dT1 D (fun n=>V.ref (fa n))=dT1 D (fun x=>V.ref (if x=n then b else fa x)):=dT1_congr fun x h=>by rw [qAB (hx x h)]
  rw [this];unfold dT1;rw [qAM];simp
 ·refine qBt.mpr ⟨F.nd,by simp,fun a ha c hc=>?_⟩;rw [qAL.mp hc];exact hx a ha
 ·rcases cs x h with z| z
  ·exact F.sub x z
  ·rw [z];exact hn
 ·rcases cs x h with z| z
  ·show upd H e _ (if x=n then b else fa x)=some (.dK (dT1 (if x=n then zBr S (f n) else S x) fun _=>.bl true));rw [qAB (hx x z),qAB (hx x z),upd_ne (F.ne x z)];exact F.row x z
  ·subst z;show upd H e _ (if x=x then b else fa x)=some (.dK (dT1 (if x=x then zBr S (f x) else S x) fun _=>.bl true));rw [qAC rfl,qAC rfl,upd_ne nb];exact hb
 ·rcases cs x h with z| z
  ·show (if x=n then zBr S (f n) else S x).Nodup;rw [eqS z];exact F.snd x z
  ·subst z;show (if x=x then zBr S (f x) else S x).Nodup;rw [qAC rfl];exact zGj _ _
 ·rcases cs x h with z| z
  ·have hy:y∈(if x=n then zBr S (f n) else S x):=hy;rw [eqS z] at hy;exact F.sns x z y hy
  ·subst z;have hy:y∈(if x=x then zBr S (f x) else S x):=hy;rw [qAC rfl] at hy;rcases zGm.mp hy with q| ⟨m,q1,q2⟩
   ·exact hs y q
   ·exact F.sns m (hf m q1) y q2
 ·rcases cs x h with z| z
  ·show y∈(if x=n then zBr S (f n) else S x)↔y∈f x\/∃m∈f x,y∈(if m=n then zBr S (f n) else S m);rw [eqS z,F.mem x z y];constructor
   ·rintro (q| ⟨m,q1,q2⟩)
    ·exact .inl q
    ·exact .inr ⟨m,q1,by rw [eqS (F.cl x z m q1)];exact q2⟩
   ·rintro (q| ⟨m,q1,q2⟩)
    ·exact .inl q
    ·rw [eqS (F.cl x z m q1)] at q2;exact .inr ⟨m,q1,q2⟩
  ·subst z;show y∈(if x=x then zBr S (f x) else S x)↔y∈f x\/∃m∈f x,y∈(if m=x then zBr S (f x) else S m);rw [qAC rfl,zGm];constructor
   ·rintro (q| ⟨m,q1,q2⟩)
    ·exact .inl q
    ·exact .inr ⟨m,q1,by rw [eqS (hf m q1)];exact q2⟩
   ·rintro (q| ⟨m,q1,q2⟩)
    ·exact .inl q
    ·rw [eqS (hf m q1)] at q2;exact .inr ⟨m,q1,q2⟩
 ·rcases cs x h with z| z
  ·exact qAk _ (F.cl x z y hy)
  ·subst z;exact qAk _ (hf y hy)
 ·rcases cs x h with z| z
  ·show (if x=n then b else fa x)≠e;rw [qAB (hx x z)];exact F.ne x z
  ·subst z;show (if x=x then b else fa x)≠e;rw [qAC rfl];exact nb
 ·rcases cs x h with z| z
  ·show Fre H0 (if x=n then b else fa x);rw [qAB (hx x z)];exact F.frs x z
  ·subst z;show Fre H0 (if x=x then b else fa x);rw [qAC rfl];exact fb
theorem least_one (r:Str->Nat):∀(L:List Str),L≠[]->∃n∈L,∀m∈L,r n<=r m
 | [],h=>absurd rfl h
 | [x],_=>⟨x,by simp,fun m hm=>by rw [qAL.mp hm];exact qAG _⟩
 | x::y::L,_=>by
  obtain ⟨n,hn,h⟩:=least_one r (y::L) (by simp)
  by_cases c:r x<=r n
  ·refine ⟨x,qAU,fun m hm=>?_⟩;rcases qAO.mp hm with z| z
   ·rw [z];exact qAG _
   ·exact qAW c (h m z)
  ·refine ⟨n,qAP _ hn,fun m hm=>?_⟩;rcases qAO.mp hm with z| z
   ·rw [z];lia
   ·exact h m z
theorem filter_lt {p:α->Bool} {x:α}:∀{L:List α},x∈L->p x=false->(L.filter p).length<L.length
 | a::L,h,hp=>by
  rcases qAO.mp h with z| z
  ·subst z;rw [qBE,qAB (by rw [hp];decide),qAZ];exact Nat.lt_succ_of_le (qA3 _ _)
  ·have:=filter_lt z hp;rw [qBE,qAZ];split
   ·rw [qAZ];lia
   ·lia
theorem has_dT1 (D:List Str) (g:Str->V) (x:Str):(valV (dT1 D g) (.inr x)).isSome=decide (x∈D):=by
 rw [zCs]
 by_cases h:x∈D
 ·rw [qAC h,qAR h];rfl
 ·rw [qAB h,qAT h];rfl
section
def zHg:Sp:=fun vs H Q _=>∃(l d:Addr) (ns:List Str) (la:Str->Addr) (f:Str->List Str) (r:Str->Nat),vs=[.ref l,.ref d]/\Txs H l ns/\ns.Nodup/\ns.length<=20/\H d=some (.dK (dT1 ns fun n=>.ref (la n)))/\(∀n∈ns,Txs H (la n) (f n)/\(f n).length<=4096/\∀x∈f n,x∈ns/\r x<r n) /\
 ∀e D fa S H',Fp H H' e ns D fa S f->(∀n∈ns,n∈D)->Kp [] H H'->Q (.ref e) H'
abbrev zB2:Stmt:=top 48
theorem zBg:FnScope ["names", "told", "far", "left", "free", "name"] ["names", "told"] (zAe zB2):=fnS
def leftN (σ:St) (H:Hp):Nat:=match (σ[3]?:Option (Option V)) with
 | some (some (.ref a))=>match H a with
  | some (.lst xs)=>xs.length
  | _=>0
 | _=>0
theorem ok_all_ahead (F:Fun K "all_ahead" "all_ahead" zB2 f fd) (T:Txt K mg) (C_has_all:Cal P w K mg base "has_all" 1 ["done", "names"] spHasAll) (C_joined:Cal P w K mg base "joined" 1 ["near", "far"] spJoined):FnOk P w K mg base CX0 2 f fd ["names", "told"] zHg:=by
 refine F.ok zBg (fun vs H Q E h=>?_) (fun cdv A outer s H vs Q E hr h=>?_)
 ·obtain ⟨l,d,ns,la,f,r,rfl,_⟩:=h;rfl
 ·obtain ⟨l,d,ns,la,f,r,rfl,hl,hN,hn,hd,hf,k⟩:=h;have hu:=zGu hr;have HR_has_all:=hr;have HR_joined:=hr
  refine ⟨_,(zAc (psS (i:=2) zBg.nd zEy)
   (zAc (psS (i:=3) zBg.nd (zAt zBv (by rfl) T.z_list zGy (zAa (pv 0) zAb)))
   (zAc (zH8 qAn (zH6 (pv 3) (fun _=>rfl))
    (zAc (ps_comp (i:=4) rfl (zCa (sc:=zAe zB2) rfl (by decide +kernel)) (Draws.own (x:= "name") (dtk (i:=2) rfl (dtk (i:=1) rfl Draws.nil))) (zAv (pv 3)) (fun _ _ _ _=>(pgB (i:=0))) (fun _ _ _ _=>(zDs (zCm (zAg C_has_all HR_has_all rfl (zAa (pv 1) (zAa (zDb hu (pv 2) (pv 0) (fun _ _=>rfl)) zAb)))))) (fun _ _ _ _=>(pv 0)) zBg.nd rfl rfl)
    (zAc (zCe (zDk (zH6 (pv 4) (fun _=>rfl)))
     (zAd zBn)
     zAz)
    (zAc (zBb qAn rfl (zAv (pv 4)) (pgN (i:=5) zBg.nd)
     (zAd (zEf hu (pv 2) (pv 5) (zAg C_joined HR_joined rfl (zAa (zDb hu (pv 1) (pv 5) (fun _ _=>rfl)) (zAa (pv 2) zAb))) rfl)))
    (zAd (ps_comp (i:=3) rfl (zCa (sc:=zAe zB2) rfl (by decide +kernel)) (Draws.own (x:= "name") (dtk (i:=2) rfl Draws.nil)) (zAv (pv 3)) (fun _ _ _ _=>(pgB (i:=0))) (fun _ _ _ _=>(zDs (pt_cmp (zGg hu (pv 0) (pv 1))))) (fun _ _ _ _=>(pv 0)) zBg.nd rfl rfl))))))
   (zAd (zAs (pv 2)))))),?_⟩
  refine fun e he=>?_;have fe:Fre H e:=he;refine ⟨_,rfl,_,_,rfl,.inl (SqL.of ((Kp.new (M:=[]) Kp.refl fe) l _ hl (by simp))),fun lf hlf=>?_⟩;have k0:Kp [] H (upd H e (.dK [])):=Kp.new Kp.refl fe;have flf:Fre H lf:=k0.fre hlf (by simp);have nel:e≠lf:=ne_fre (show Fre (upd H e (.dK [])) lf from hlf) upd_same;show tWhile (fun σ H Q=>tVar 3 σ H fun x H'=>∃k,TruV K x H' k/\Q k H') _ _ _ _
  refine while_by (fun σ H2=>∃(lf:Addr) (D:List Str) (fa:Str->Addr) (S:Str->List Str) (o4 o5:Option V),σ=[some (.ref l),some (.ref d),some (.ref e),some (.ref lf),o4,o5]/\Kp [] H H2/\Fp H H2 e ns D fa S f/\Txs H2 lf (ns.filter fun n=>decide (n∉D))) leftN
   ⟨lf,[],fun _=>0,fun _=>[],none,none,rfl,Kp.new k0 flf,⟨(upd_ne nel).trans upd_same,qBB,(fun n h=>nomatch h),(fun n h=>nomatch h),(fun n h=>nomatch h),(fun n h=>nomatch h),(fun n h=>nomatch h),(fun n h=>nomatch h),(fun n h=>nomatch h),fe,(fun n h=>nomatch h)⟩,by
    have ef:(ns.filter fun n=>decide (n∉([]:List Str)))=ns:=by simp
    show upd _ lf _ lf=some (.lst ((ns.filter fun n=>decide (n∉([]:List Str))).map V.str));rw [ef];exact upd_same⟩ ?_ (fun σ H Q Q' hq hc=>by
    obtain ⟨x,e,b,t,q⟩:=hc;exact ⟨x,e,b,t,hq _ _ q⟩)
  rintro σ H2 ⟨lf,D,fa,S,o4,o5,rfl,k2,FP,hlf⟩;refine ⟨_,rfl,_,.inl ⟨_,SqL.of hlf,rfl⟩,?_⟩;have hLs:∀n,n∈(ns.filter fun n=>decide (n∉D))↔n∈ns/\n∉D:=fun n=>by simp [qAs]
  have hLl:(ns.filter fun n=>decide (n∉D)).length<=20:=qAW (qA3 _ _) hn;generalize hL:(ns.filter fun n=>decide (n∉D))=L at *
  refine ite2 (fun c=>?_) (fun c=>?_)
  ·have cL:L≠[]:=fun z=>by rw [z] at c;simp at c
   refine ⟨_,rfl,_,rfl,⟨_,SqL.of hlf⟩,fun B hB=>zB9 (L.map V.str) (fun i ys τ H3=>(∃o0,τ=[o0,some (.ref e),some (.ref d)])/\ys=((L.take i).filter fun n=>(f n).all fun m=>decide (m∈D)).map V.str/\Kp [] H2 H3/\H3 B=some (.lst ys))
    ⟨⟨_,rfl⟩,rfl,Kp.new Kp.refl hB,upd_same⟩ (fun i ys τ H3 ⟨_,_,k3,_⟩=>SqL.of (k3 lf _ hlf (by simp))) ?_ ?_⟩
   ·rintro i v ys τ H3 hv ⟨⟨o0,rfl⟩,rfl,k3,h3⟩;obtain ⟨n,en,rfl⟩:=zCg hv;have mn:=(hLs n).mp (qAY en);obtain ⟨n1,n2,n3⟩:=hf n mn.1;have k23:=k2.trans k3;refine ⟨_,rfl,_,rfl,_,rfl,_,.ref (la n),rfl,?_,e,la n,_,f n,rfl,k3 e _ FP.top (by simp),k23 _ _ n1 (by simp),n2,fun H4 k4=>?_⟩
    ·have:=DGet.k (k:=Sum.inr n) (k23 d _ hd (by simp));rw [zCs,qAC mn.1] at this;exact this
    have eall:((f n).all fun m=>(valV (dT1 D fun n=>V.ref (fa n)) (.inr m)).isSome)=(f n).all fun m=>decide (m∈D):=by
     congr 1;funext m;exact has_dT1 D _ m
    rw [eall];have h4:=k4 B _ h3 (by simp);have et:=zAj en;refine ⟨_,rfl,ite2 (fun c=>?_) (fun c=>?_)⟩
    ·refine ⟨_,rfl,h4,?_,⟨_,rfl⟩,?_,Kp.new (k3.trans k4) hB,upd_same⟩
     ·rw [qAE,qAV];have h1:=qA3 (fun n=>(f n).all fun m=>decide (m∈D)) (L.take i);rw [qAj] at h1;lia
     ·rw [et,qBP,qAM];have:[n].filter (fun n=>(f n).all fun m=>decide (m∈D))=[n]:=by rw [qBE,qAC c];rfl
      rw [this];rfl
    ·refine ⟨⟨_,rfl⟩,?_,k3.trans k4,?_⟩
     ·rw [et,qBP];have:[n].filter (fun n=>(f n).all fun m=>decide (m∈D))=[]:=by rw [qBE,qAB c];rfl
      rw [this,qA0]
     ·exact h4
   ·rintro ys τ H3 ⟨_,rfl,k3,h3⟩;have eT:L.take (L.map V.str).length=L:=by rw [qAE,qAu]
    rw [eT] at h3;have hFr:∀n,n∈(L.filter fun n=>(f n).all fun m=>decide (m∈D))↔n∈L/\∀m∈f n,m∈D:=fun n=>by simp [qAs]
    have hFl:(L.filter fun n=>(f n).all fun m=>decide (m∈D)).length<=20:=qAW (qA3 _ _) hLl
    have hFn:(L.filter fun n=>(f n).all fun m=>decide (m∈D)).Nodup:=by
     have:L.Nodup:=by rw [<-hL];exact hN.sublist List.filter_sublist
     exact this.sublist List.filter_sublist
    have hF0:(L.filter fun n=>(f n).all fun m=>decide (m∈D))≠[]:=by
     obtain ⟨n,n1,n2⟩:=least_one r L cL;refine List.ne_nil_of_mem ((hFr n).mpr ⟨n1,fun m hm=>?_⟩);have mn:=(hLs n).mp n1;obtain ⟨q1,q2⟩:=(hf n mn.1).2.2 m hm;apply qBC;intro z;have:=n2 m ((hLs m).mpr ⟨q1,z⟩);lia
    generalize hFE:(L.filter fun n=>(f n).all fun m=>decide (m∈D))=FR at *
    have k23:=k2.trans k3;refine ⟨_,rfl,_,.inl ⟨_,SqL.of h3,rfl⟩,?_⟩
    have e0:(!(FR.map V.str).isEmpty)=true:=by
     cases FR with
     | nil=>exact absurd rfl hF0
     | cons _ _=>rfl
    rw [e0];refine iteF ?_
    refine ⟨_,rfl,_,rfl,⟨_,SqL.of h3⟩,zBp (fun i σ H4=>∃(fa:Str->Addr) (S:Str->List Str) (o5:Option V),σ=[some (.ref l),some (.ref d),some (.ref e),some (.ref lf),some (.ref B),o5]/\Kp [] H H4/\Fp H H4 e ns (D++FR.take i) fa S f/\Txs H4 lf L/\Txs H4 B FR)
     ⟨fa,S,_,rfl,k23,by rw [List.take_zero,qA0];exact FP.kp k3,k3 lf _ hlf (by simp),h3⟩ (fun i σ H4 _ ⟨_,_,_,_,_,_,_,h⟩=>SqL.of h) ?_ ?_⟩
    ·rintro i v σ H4 hv ⟨fa4,S4,o5',rfl,k4,F4,hlf4,hB4⟩;obtain ⟨n,en,rfl⟩:=zCg hv;have mF:=(hFr n).mp (qAY en);have mn:=(hLs n).mp mF.1;obtain ⟨n1,n2,n3⟩:=hf n mn.1
     have nD:n∉D++FR.take i:=fun z=>by
      rcases qAS.mp z with y| y
      ·exact mn.2 y
      ·exact zIj hFn en y
     have fD:∀x∈f n,x∈D++FR.take i:=fun x hx=>qAk _ (mF.2 x hx);refine ⟨_,rfl,_,rfl,_,.ref (la n),rfl,?_,_,rfl,la n,e,f n,D++FR.take i,ns,fa4,S4,rfl,k4 _ _ n1 (by simp),F4.top,fun m hm=>⟨fD m hm,(n3 m hm).1,F4.row m (fD m hm),F4.sns m (fD m hm)⟩,hn,fun m hm=>qAW (zFf (F4.snd m (fD m hm)) (F4.sns m (fD m hm))) hn,fun b H5 fb hb k5=>?_⟩
     ·have:=DGet.k (k:=Sum.inr n) (k4 d _ hd (by simp));rw [zCs,qAC mn.1] at this;exact this
     have F5:=F4.kp k5;have fbH:Fre H b:=k4.fre fb (by simp);refine ⟨_,rfl,_,rfl,_,_,rfl,DPut.k (k:=Sum.inr n) F5.top ?_,?_⟩
     ·have:=zFf F5.nd F5.sub;rw [qAE,qAV];lia
     ·have FM:=F5.more mn.1 nD fD (fun x hx=>(n3 x hx).1) hb (qAh (ne_fre fb F4.top)) fbH;rw [qCi,<-zAj en] at FM;exact ⟨_,_,_,rfl,Kp.new (k4.trans k5) fe,FM,(upd_ne (zBq hlf4 F4.top (fun z=>nomatch z))).trans (k5 lf _ hlf4 (by simp)),(upd_ne (zBq hB4 F4.top (fun z=>nomatch z))).trans (k5 B _ hB4 (by simp))⟩
    ·rintro σ H4 ⟨fa4,S4,o5',rfl,k4,F4,hlf4,hB4⟩;have eF:FR.take (FR.map V.str).length=FR:=by rw [qAE,qAu]
     rw [eF] at F4
     refine ⟨_,rfl,_,rfl,⟨_,SqL.of hlf4⟩,fun G hG=>zB9 (L.map V.str) (fun i ys τ H5=>(∃o0,τ=[o0,some (.ref e)])/\ys=((L.take i).filter fun n=>decide (n∉D++FR)).map V.str/\H5=upd H4 G (.lst ys))
      ⟨⟨_,rfl⟩,rfl,rfl⟩ (fun i ys τ H5 ⟨_,_,z⟩=>by subst z;exact SqL.of ((upd_ne (ne_fre (show Fre H4 G from hG) hlf4)).trans hlf4)) ?_ ?_⟩
     ·rintro i v ys τ H5 hv ⟨⟨o0,rfl⟩,rfl,rfl⟩;obtain ⟨n,en,rfl⟩:=zCg hv;refine ⟨_,rfl,_,rfl,_,_,rfl,DGet.k (k:=Sum.inr n) ((upd_ne (ne_fre (show Fre H4 G from hG) F4.top)).trans F4.top),_,rfl,?_⟩;rw [has_dT1];have et:=zAj en;refine ite2 (fun c=>?_) (fun c=>?_)
      ·have c':n∉D++FR:=fun z=>by rw [qAR z] at c;exact nomatch c
       refine ⟨_,rfl,upd_same,?_,⟨_,rfl⟩,?_,zC2⟩
       ·rw [qAE,qAV];have h1:=qA3 (fun n=>decide (n∉D++FR)) (L.take i);rw [qAj] at h1;lia
       ·rw [et,qBP,qAM];have:[n].filter (fun n=>decide (n∉D++FR))=[n]:=by rw [qBE,qAC (qAR c')];rfl
        rw [this];rfl
      ·have c':n∈D++FR:=by
        apply qBC;intro z;rw [qAT z] at c;exact c rfl
       have e2:(L.take (i+1)).filter (fun n=>decide (n∉D++FR))=(L.take i).filter (fun n=>decide (n∉D++FR)):=by
        rw [et,qBP];have:[n].filter (fun n=>decide (n∉D++FR))=[]:=by rw [qBE,qAB (by rw [qAT (fun z=>z c')];decide)];rfl
        rw [this,qA0]
       refine ⟨⟨_,rfl⟩,?_,?_⟩
       ·rw [e2]
       ·rfl
     ·rintro ys τ H5 ⟨_,rfl,rfl⟩;have eT:L.take (L.map V.str).length=L:=by rw [qAE,qAu]
      rw [eT];have nGe:e≠G:=ne_fre (show Fre H4 G from hG) F4.top
      have eFF:(L.filter fun n=>decide (n∉D++FR))=ns.filter fun n=>decide (n∉D++FR):=by
       rw [<-hL,List.filter_filter];refine List.filter_congr fun n _=>?_
       by_cases z:n∈D
       ·have:n∈D++FR:=qAk _ z;rw [qAT (fun y=>y this)];rfl
       ·rw [qAR z,Bool.and_true]
      refine ⟨⟨G,D++FR,fa4,S4,_,_,rfl,Kp.new k4 (k4.fre (show Fre H4 G from hG) (by simp)),F4.kp (Kp.new Kp.refl hG),?_⟩,?_⟩
      ·rw [<-eFF];exact upd_same
      ·have m1:leftN [some (V.ref l),some (.ref d),some (.ref e),some (.ref lf),o4,o5] H2=L.length:=by
        show (match H2 lf with| some (.lst xs)=>xs.length| _=>0)=_;rw [hlf];simp
       have m2:∀o4 o5,leftN [some (V.ref l),some (.ref d),some (.ref e),some (.ref G),o4,o5] (upd H4 G (.lst ((L.filter fun n=>decide (n∉D++FR)).map V.str)))=(L.filter fun n=>decide (n∉D++FR)).length:=fun o4 o5=>by
        show (match upd H4 G (.lst ((L.filter fun n=>decide (n∉D++FR)).map V.str)) G with| some (.lst xs)=>xs.length| _=>0)=_;rw [upd_same];simp
       rw [m1];refine Nat.lt_of_le_of_lt (qCF (m2 _ _)) ?_;obtain ⟨n,hnF⟩:=List.exists_mem_of_ne_nil FR hF0;have hnL:=((hFr n).mp hnF).1;exact filter_lt hnL (qAT fun z=>z (qAl _ hnF))
  ·have cL:L=[]:=by
    cases L with
    | nil=>rfl
    | cons _ _=>exact absurd rfl c
   refine ⟨_,rfl,k e D fa S H2 FP (fun n hn'=>?_) k2⟩;apply qBC;intro z;have:=(hLs n).mpr ⟨hn',z⟩;rw [cL] at this;exact nomatch this
end
def jf (r p e:Addr):List (Str×V):=putF "above" (.ref e) (putF "pairs" (.ref p) (putF "row" (.ref r) []))
theorem jf_row (r p e:Addr):(jf r p e).lookup ("row" : Str)=some (.ref r):=by
 unfold jf;rw [zAr,qAB (by decide +kernel),zAr,qAB (by decide +kernel),zAr,qAC rfl]
theorem jf_above (r p e:Addr):(jf r p e).lookup ("above" : Str)=some (.ref e):=by
 unfold jf;rw [zAr,qAC rfl]
theorem jf_no (r p e:Addr) {m:Str} (h1:¬m= "above") (h2:¬m= "pairs") (h3:¬m= "row"):(jf r p e).lookup m=none:=by
 unfold jf;rw [zAr,qAB h1,zAr,qAB h2,zAr,qAB h3];rfl
structure JC (K:PySem.W.Frag) (mg:Str->Option Value) (C:Addr):Prop where
 cl:Cls K C
 n_row:zFe K C "row"
 n_pairs:zFe K C "pairs"
 n_above:zFe K C "above"
 mgC:mg "Jobs" = some (.ref C)
structure JR where
 dx:Addr
 r:Addr
 p:Addr
 e:Addr
 ns:List Str
 zs:List (List Str×Addr)
 D:List Str
 fa:Str->Addr
 S:Str->List Str
structure JobsAt (C:Addr) (H:Hp) (j:Addr) (J:JR):Prop where
 ob:H j=some (.ins C J.dx (jf J.r J.p J.e))
 row:Txs H J.r J.ns
 prs:Ords H J.p J.zs
 abv:H J.e=some (.dK (dT1 J.D fun n=>.ref (J.fa n)))
 all:∀n∈J.ns,n∈J.D
 sets:∀n∈J.D,SetD H (J.fa n) (J.S n)
 few:J.ns.length<=20
 zfew:J.zs.length<=306
 nd:J.ns.Nodup
 zin:∀q∈J.zs,∀x∈q.1,x∈J.ns
 mem:∀n∈J.ns,∀x,x∈J.S n↔x∈told J.zs n\/∃m∈told J.zs n,x∈J.S m
theorem JobsAt.kp {M:List Addr} {C:Addr} {j:Addr} {J:JR} (A:JobsAt C H j J) (k:Kp M H H') (h:∀a o,H a=some o->a∈M->a≠j/\a≠J.r/\a≠J.p/\a≠J.e/\(∀q∈J.zs,a≠q.2)/\∀n∈J.D,a≠J.fa n):JobsAt C H' j J where
 ob:=k _ _ A.ob fun z=>(h _ _ A.ob z).1 rfl
 row:=k _ _ A.row fun z=>(h _ _ A.row z).2.1 rfl
 prs:=⟨k _ _ A.prs.top fun z=>(h _ _ A.prs.top z).2.2.1 rfl,fun q hq=>k _ _ (A.prs.row q hq) fun z=>(h _ _ (A.prs.row q hq) z).2.2.2.2.1 q hq rfl,A.prs.two⟩
 abv:=k _ _ A.abv fun z=>(h _ _ A.abv z).2.2.2.1 rfl
 all:=A.all
 sets:=fun n hn=>k _ _ (A.sets n hn) fun z=>(h _ _ (A.sets n hn) z).2.2.2.2.2 n hn rfl
 few:=A.few
 zfew:=A.zfew
 nd:=A.nd
 zin:=A.zin
 mem:=A.mem
theorem JobsAt.kp0 {C:Addr} {j:Addr} {J:JR} (A:JobsAt C H j J) (k:Kp [] H H'):JobsAt C H' j J:=A.kp k fun _ _ _ z=>nomatch z
section
def zC4 (C:Addr):Sp:=fun vs H Q _=>∃(j:Addr) (J:JR),vs=[.ref j]/\JobsAt C H j J/\∀l H',Fre H l->Txs H' l J.ns->Kp [] H H'->Q (.ref l) H'
abbrev zDr:Stmt:=inClass (top 51) 1
theorem zH1:FnScope ["self"] ["self"] (zAe zDr):=fnS
theorem zIf (F:Fun K "names" "Jobs.names" zDr f fd) (T:Txt K mg) (U:JC K mg C):FnOk P w K mg base CX0 1 f fd ["self"] (zC4 C):=by
 refine F.ok zH1 (fun vs H Q E h=>?_) (fun cdv A outer s H vs Q E hr h=>?_)
 ·obtain ⟨j,J,rfl,_⟩:=h;rfl
 ·obtain ⟨j,J,rfl,A0,k⟩:=h;refine ⟨_,(zAd (zAs (zAt zBv (by rfl) T.z_list zGy (zAa (zGf (pv 0) rfl) zAb)))),?_⟩;refine ⟨_,rfl,_,_,_,_,_,rfl,A0.ob,U.cl,U.n_row,jf_row _ _ _,_,_,rfl,.inl (SqL.of A0.row),fun l hl=>?_⟩;exact k l _ hl upd_same (Kp.new Kp.refl hl)
theorem abv_get {j:Addr} {J:JR} (A:JobsAt C H j J) (hy:y∈J.ns):DGet H J.e (.str y) (some (.ref (J.fa y))):=by
 have:=DGet.k (k:=Sum.inr y) A.abv;rw [zCs,qAC (A.all y hy)] at this;exact this
theorem set_get {e:Addr} {B:List Str} (h:SetD H e B) (x:Str):∃o,DGet H e (.str x) o/\o.isSome=decide (x∈B):=⟨_,DGet.k (k:=Sum.inr x) h,has_dT1 B _ x⟩
end
section
theorem pe_fldK {X:Cx} {K:PySem.W.Frag} {e:Expr} {f:Str} {pos:Pos} {ta:TE} (he:PE X e ta) (hb:attributeBase e f X.env (eval e X.env)=eval e X.env) (hK:X.K=K:=by rfl):PE X (.Attribute e f pos) (tFld K ta f):=by
 subst hK;exact zGf he hb
theorem zE4 {p:α->Bool} {xs:List α} {x:α} (e:xs[i]?=some x) (h:p x=true):(xs.take (i+1)).filter p=(xs.take i).filter p++[x]:=by
 rw [zAj e,qBP,qBE,qAC h];rfl
theorem zGw {p:α->Bool} {xs:List α} {x:α} (e:xs[i]?=some x) (h:¬p x=true):(xs.take (i+1)).filter p=(xs.take i).filter p:=by
 rw [zAj e,qBP,qBE,qAB h];simp
theorem zE5 {p:α->Bool} {xs:List α} (h:xs.length<=4096):(((xs.take i).filter p)).length<sizeLine:=by
 have h1:=qA3 p (xs.take i);rw [qAj] at h1;rw [qAV];lia
def spAhead (C:Addr):Sp:=fun vs H Q _=>∃(j:Addr) (J:JR) (x:Str),vs=[.ref j,.str x]/\JobsAt C H j J/\x∈J.ns/\∀l H',Fre H l->Txs H' l (J.ns.filter fun n=>decide (n∈J.S x))->Kp [] H H'->Q (.ref l) H'
abbrev zCk:Stmt:=inClass (top 51) 5
theorem zH2:FnScope ["self", "name"] ["self", "name"] (zAe zCk):=fnS
theorem zIg (F:Fun K "ahead" "Jobs.ahead" zCk f fd) (T:Txt K mg) (U:JC K mg C) (C_check_job:Cal P w K mg base "check_job" 2 ["names", "thing"] zFh):FnOk P w K mg base CX0 3 f fd ["self", "name"] (spAhead C):=by
 refine F.ok zH2 (fun vs H Q E h=>?_) (fun cdv A outer s H vs Q E hr h=>?_)
 ·obtain ⟨j,J,x,rfl,_⟩:=h;rfl
 ·obtain ⟨j,J,x,rfl,A0,hx,k⟩:=h;have HR_check_job:=hr;have hu:=zGu hr
  refine ⟨_,(zAc (zAq (zAg C_check_job HR_check_job rfl (zAa (zGf (pv 0) rfl) (zAa (pv 1) zAb))))
   (zAd (zAs (zB3 rfl (zCa (sc:=zAe zCk) rfl (by decide +kernel)) (Draws.own (x:= "other") (dtk (i:=1) rfl (dtk (i:=0) rfl Draws.nil))) (zAv (zGf (pv 0) rfl)) (fun _ _ _ _=>(pgB (i:=0))) (fun _ _ _ _=>(zDs (pt_cmp (pc_din hu (pv 0) (zDb hu (pe_fldK (K:=K) (pv 2) rfl) (pv 1) (fun _ _=>rfl)))))) (fun _ _ _ _=>(pv 0)))))),?_⟩
  refine ⟨_,rfl,_,_,_,_,_,rfl,A0.ob,U.cl,U.n_row,jf_row _ _ _,_,rfl,x,_,_,rfl,A0.row,hx,?_⟩
  refine ⟨_,rfl,_,_,_,_,_,rfl,A0.ob,U.cl,U.n_row,jf_row _ _ _,_,rfl,⟨_,SqL.of A0.row⟩,fun B hB=>zB9 (J.ns.map V.str) (fun i ys τ H3=>(∃o0,τ=[o0,some (.str x),some (.ref j)])/\ys=((J.ns.take i).filter fun n=>decide (n∈J.S x)).map V.str/\H3=upd H B (.lst ys))
   ⟨⟨_,rfl⟩,rfl,rfl⟩ (fun i ys τ H3 ⟨_,_,z⟩=>by subst z;exact SqL.of ((Kp.new (M:=[]) Kp.refl hB) _ _ A0.row (by simp))) ?_ ?_⟩
  ·rintro i v ys τ H3 hv ⟨⟨o0,rfl⟩,rfl,rfl⟩;obtain ⟨n,en,rfl⟩:=zCg hv;have A3:=A0.kp0 (Kp.new (l:=B) (o:=.lst (((J.ns.take i).filter fun n=>decide (n∈J.S x)).map V.str)) Kp.refl hB);obtain ⟨o,g1,g2⟩:=set_get (A3.sets x (A3.all x hx)) n;refine ⟨_,rfl,_,rfl,_,_,_,_,_,rfl,A3.ob,U.cl,U.n_above,jf_above _ _ _,_,rfl,_,_,rfl,abv_get A3 hx,_,o,rfl,g1,_,rfl,?_⟩;rw [g2];refine ite2 (fun c=>?_) (fun c=>?_)
   ·refine ⟨_,rfl,upd_same,?_,⟨_,rfl⟩,?_,zC2⟩
    ·rw [qAE];exact zE5 (by have:=A0.few;lia)
    ·rw [zE4 en c,qAM];rfl
   ·refine ⟨⟨_,rfl⟩,?_,?_⟩
    ·rw [zGw en c]
    ·rfl
  ·rintro ys τ H3 ⟨_,rfl,rfl⟩;have eT:J.ns.take (J.ns.map V.str).length=J.ns:=by rw [qAE,qAu]
   rw [eT];exact k B _ hB upd_same (Kp.new Kp.refl hB)
end
end My
namespace TimP
open PySem PyProof.Rows Tim
variable {i n lo nrem:Nat}{x:Keyed}{st:SortSt}{α:Type}
theorem perm_ct {l m:List Keyed} (h:∀p:Keyed->Bool,l.countP p=m.countP p):l.Perm m:=by
 letI:DecidableEq Keyed:=fun a b=>Classical.propDecidable (a=b)
 exact List.perm_iff_count.mpr fun x=>h (·==x)
theorem cd {a:Array Keyed} {j:Nat} (h:i<=j) (p:Keyed->Bool):(a.extract i j).toList.countP p+(a.toList.drop j).countP p=(a.toList.drop i).countP p:=by
 have e:a.toList.drop j=(a.toList.drop i).drop (j - i):=by rw [List.drop_drop];congr 1;lia
 rw [qBs,List.extract_eq_drop_take,e,<-qBx,qB5]
theorem ck {a:Array Keyed} {j:Nat} (h:i<=j) (p:Keyed->Bool):(a.extract i j).toList.countP p+(a.toList.take i).countP p=(a.toList.take j).countP p:=by
 have h1:=cd (a:=a) h p;have h2:=qAg (List.countP p) (qB5 i a.toList);have h3:=qAg (List.countP p) (qB5 j a.toList);rw [qBx] at h2 h3;lia
theorem zIc {a:Array Keyed} (e:a[i]?=some x):(a.extract i (i+1)).toList=[x]:=by
 have hi:=(qBH.mp e).1;have hx:=(qBH.mp e).2;rw [qBs,List.extract_eq_drop_take,Nat.add_sub_cancel_left,List.drop_eq_getElem_cons (by simpa using hi)];simp [hx]
theorem all0 (a:Array Keyed) (p:Keyed->Bool):(a.toList.drop a.size).countP p=0:=by rw [List.drop_of_length_le (by simp)];rfl
theorem zDn (a b:Array Keyed) (p:Keyed->Bool):(a++b).toList.countP p=a.toList.countP p+b.toList.countP p:=by rw [qCn,qBx]
theorem zIw (a:Array Keyed) (x:Keyed) (p:Keyed->Bool):(a.push x).toList.countP p=a.toList.countP p+[x].countP p:=by rw [qCN,qBx]
theorem ct_rev (a:Array Keyed) (p:Keyed->Bool):a.reverse.toList.countP p=a.toList.countP p:=by rw [Array.toList_reverse,List.countP_reverse]
section
variable {a b out:Array Keyed} {ia ib:Nat}
structure MI (a b out:Array Keyed) (ia ib:Nat):Prop where
 la:ia<=a.size
 lb:ib<=b.size
 ct:∀p,out.toList.countP p+(a.toList.drop ia).countP p+(b.toList.drop ib).countP p=a.toList.countP p+b.toList.countP p
def Fn (a b r:Array Keyed):Prop:=∀p,r.toList.countP p=a.toList.countP p+b.toList.countP p
theorem MI.tAs (M:MI a b out ia ib) (k:Nat) (h:ia+k<=a.size):MI a b (out++a.extract ia (ia+k)) (ia+k) ib:=⟨h,M.lb,fun p=>by
 have h1:=M.ct p;have h2:=cd (a:=a) (show ia<=ia+k by lia) p;rw [zDn];lia⟩
theorem MI.tBs (M:MI a b out ia ib) (k:Nat) (h:ib+k<=b.size):MI a b (out++b.extract ib (ib+k)) ia (ib+k):=⟨M.la,h,fun p=>by
 have h1:=M.ct p;have h2:=cd (a:=b) (show ib<=ib+k by lia) p;rw [zDn];lia⟩
theorem MI.tA (M:MI a b out ia ib) (e:a[ia]?=some x):MI a b (out.push x) (ia+1) ib:=⟨(qBH.mp e).1,M.lb,fun p=>by
 have h1:=M.ct p;have h2:=cd (a:=a) (show ia<=ia+1 by lia) p;rw [zIc e] at h2;rw [zIw];lia⟩
theorem MI.tB (M:MI a b out ia ib) (e:b[ib]?=some x):MI a b (out.push x) ia (ib+1):=⟨M.la,(qBH.mp e).1,fun p=>by
 have h1:=M.ct p;have h2:=cd (a:=b) (show ib<=ib+1 by lia) p;rw [zIc e] at h2;rw [zIw];lia⟩
theorem MI.f1 (M:MI a b out ia ib):Fn a b (out++a.extract ia a.size++b.extract ib b.size):=fun p=>by
 have h1:=M.ct p;have h2:=cd (a:=a) M.la p;have h3:=cd (a:=b) M.lb p;rw [all0] at h2 h3;rw [zDn,zDn];lia
theorem MI.f2 (M:MI a b out ia ib):Fn a b (out++b.extract ib b.size++a.extract ia a.size):=fun p=>by
 have h1:=M.f1 p;rw [zDn,zDn] at h1 ⊢;lia
structure MH (a b out:Array Keyed) (ia ib:Nat):Prop where
 la:ia<=a.size
 lb:ib<=b.size
 ct:∀p,out.toList.countP p+(a.toList.take ia).countP p+(b.toList.take ib).countP p=a.toList.countP p+b.toList.countP p
theorem MH.tAs (M:MH a b out ia ib) (k:Nat) (h:k<=ia):MH a b (out++(a.extract k ia).reverse) k ib:=⟨by have:=M.la;lia,M.lb,fun p=>by
 have h1:=M.ct p;have h2:=ck (a:=a) h p;rw [zDn,ct_rev];lia⟩
theorem MH.tBs (M:MH a b out ia ib) (k:Nat) (h:k<=ib):MH a b (out++(b.extract k ib).reverse) ia k:=⟨M.la,by have:=M.lb;lia,fun p=>by
 have h1:=M.ct p;have h2:=ck (a:=b) h p;rw [zDn,ct_rev];lia⟩
theorem MH.tA (M:MH a b out (ia+1) ib) (e:a[ia]?=some x):MH a b (out.push x) ia ib:=⟨by have:=M.la;lia,M.lb,fun p=>by
 have h1:=M.ct p;have h2:=ck (a:=a) (show ia<=ia+1 by lia) p;rw [zIc e] at h2;rw [zIw];lia⟩
theorem MH.tB (M:MH a b out ia (ib+1)) (e:b[ib]?=some x):MH a b (out.push x) ia ib:=⟨M.la,by have:=M.lb;lia,fun p=>by
 have h1:=M.ct p;have h2:=ck (a:=b) (show ib<=ib+1 by lia) p;rw [zIc e] at h2;rw [zIw];lia⟩
theorem MH.f1 (M:MH a b out ia ib):Fn a b (a.extract 0 ia++b.extract 0 ib++out.reverse):=fun p=>by
 have h1:=M.ct p;have h2:=ck (a:=a) (qAf ia) p;have h3:=ck (a:=b) (qAf ib) p;rw [List.take_zero,List.countP_nil] at h2 h3;rw [zDn,zDn,ct_rev];lia
theorem MH.f2 (M:MH a b out ia ib):Fn a b (b.extract 0 ib++a.extract 0 ia++out.reverse):=fun p=>by
 have h1:=M.f1 p;rw [zDn,zDn] at h1 ⊢;lia
end
structure Like (st st':SortSt):Prop where
 kd:kindOf st'=kindOf st
 ar:arrOf st'=arrOf st
 pn:pendingOf st'=pendingOf st
 fl:failedOf st'=failedOf st
theorem Like.refl (st:SortSt):Like st st:=⟨rfl,rfl,rfl,rfl⟩
theorem Like.trans {a b c:SortSt} (h:Like a b) (k:Like b c):Like a c:=⟨k.kd.trans h.kd,k.ar.trans h.ar,k.pn.trans h.pn,k.fl.trans h.fl⟩
section
variable {prog:Program} {w:World} {A:Around} {E:Value->Shared->Prop} {s:Shared} {kd:SortKind} {κ:KeyKind} {a b:Array Keyed}
theorem zBo {a:Array Keyed} (ha:∀x∈a.toList,Has κ x) (hi:i<a.size):∃p,a[i]?=some p/\Has κ p :=
 ⟨a[i],by simp,ha _ (by simp)⟩
theorem w_gal {left:Bool} {key:Keyed} {arr:Array Keyed} {base hint:Nat} {Q:Option Nat->SortSt->Prop} (C:CmpOk prog w A s kd κ) (hk:kindOf st=kd) (hkey:Has κ key)
  (hin:∀i,i<n->∃q,arr[base+i]?=some q/\Has κ q) (hh:hint<n) (h:∀k,k<=n->Q (some k) st):wpS (model prog w) A E s (gal left key arr base n hint) Q st:=by
 have ask:∀(i:Nat) {R:Option Bool->SortSt->Prop},i<n->(∀c,R (some c) st)->wpS (model prog w) A E s (byd left key arr base i) R st:=fun i R hi hR=>w_byd C hk hkey (hin i hi) (hR _)
 have bin:∀(l r:Nat),l<=r->r<=n->∀(F:Nat->Option (Option Nat)×Nat×Nat->StateT SortSt Sem (ForInStep (Option (Option Nat)×Nat×Nat))),
   (∀x l r,F x (none,l,r)=(if l>=r then pure (ForInStep.done (none,l,r)) else do
    let c<-byd left key arr base (l+(r - l) / 2)
    match c with
    | some more=>if more=true then pure (ForInStep.yield (none,l+(r - l) / 2+1,r)) else pure (ForInStep.yield (none,l,l+(r - l) / 2))
    | _=>pure (ForInStep.done (some none,l,r))))->∀G:Option (Option Nat)×Nat×Nat->StateT SortSt Sem (Option Nat),(∀l r,G (none,l,r)=pure (some r)) ->
   wpS (model prog w) A E s (forIn [:n] ((none,l,r):Option (Option Nat)×Nat×Nat) F >>= G) Q st:=by
  intro l r hlr hrn F hF G hG
  refine qAF (qA4 (qAx (I:=fun x c st'=>st'=st/\∃l r,c=(none,l,r)/\l<=r/\r<=n/\r - l<=n - x)
   (Q:=fun c st'=>st'=st/\∃l r,c=(none,l,r)/\r<=n) ?step ?fin ⟨rfl,l,r,rfl,hlr,hrn,by lia⟩) ?post)
  case fin =>
   rintro c st' ⟨rfl,l,r,rfl,h1,h2,h3⟩;exact ⟨rfl,l,r,rfl,h2⟩
  case post =>
   rintro c st' ⟨rfl,l,r,rfl,h1⟩;rw [hG];exact qAH (h r h1)
  case step =>
   rintro x c st' _ hx ⟨rfl,l,r,rfl,h1,h2,h3⟩;rw [hF x l r]
   by_cases hge:l>=r
   ·rw [qAC hge];exact qAH ⟨rfl,l,r,rfl,h2⟩
   ·rw [qAB hge];refine qAF (ask _ (by lia) fun c=>?_);show wpS _ _ _ _ (if c=true then _ else _) _ _;split
    ·exact qAH ⟨rfl,_,_,rfl,by lia,h2,by lia⟩
    ·exact qAH ⟨rfl,_,_,rfl,by lia,by lia,by lia⟩
 refine qAF (ask hint hh fun c0=>?_);show wpS _ _ _ _ (if c0=true then _ else _) _ _;split
 ·refine qAF (qA4 (qAx (I:=fun x c st'=>st'=st/\∃l o,c=(none,l,o)/\l<o/\hint+l<n)
   (Q:=fun c st'=>st'=st/\∃l o,c=(none,l,o)/\l<o/\hint+l<n) ?step (fun c st' h=>h) ⟨rfl,0,1,rfl,by lia,by lia⟩) ?post)
  case step =>
   rintro x c st' _ hx ⟨rfl,l,o,rfl,h1,h2⟩;dsimp only
   by_cases ho:o>=n - hint
   ·rw [qAC ho];exact qAH ⟨rfl,l,o,rfl,h1,h2⟩
   ·rw [qAB ho];refine qAF (ask (hint+o) (by lia) fun c=>?_);show wpS _ _ _ _ (if (!c)=true then _ else _) _ _;split
    ·exact qAH ⟨rfl,l,o,rfl,h1,h2⟩
    ·exact qAH ⟨rfl,o,2*o+1,rfl,by lia,by lia⟩
  case post =>
   rintro c st' ⟨rfl,l,o,rfl,h1,h2⟩;exact bin (hint+l+1) (hint+min o (n - hint)) (by lia) (by lia) _ (fun x l r=>rfl) _ (fun l r=>rfl)
 ·refine qAF (qA4 (qAx (I:=fun x c st'=>st'=st/\∃l o,c=(none,l,o)/\l<o/\l<=hint)
   (Q:=fun c st'=>st'=st/\∃l o,c=(none,l,o)/\l<o/\l<=hint) ?step (fun c st' h=>h) ⟨rfl,0,1,rfl,by lia,by lia⟩) ?post)
  case step =>
   rintro x c st' _ hx ⟨rfl,l,o,rfl,h1,h2⟩;dsimp only
   by_cases ho:o>=hint+1
   ·rw [qAC ho];exact qAH ⟨rfl,l,o,rfl,h1,h2⟩
   ·rw [qAB ho];refine qAF (ask (hint - o) (by lia) fun c=>?_);show wpS _ _ _ _ (if c=true then _ else _) _ _;split
    ·exact qAH ⟨rfl,l,o,rfl,h1,h2⟩
    ·exact qAH ⟨rfl,o,2*o+1,rfl,by lia,by lia⟩
  case post =>
   rintro c st' ⟨rfl,l,o,rfl,h1,h2⟩;exact bin (hint+1 - min o (hint+1)) (hint - l) (by lia) (by lia) _ (fun x l r=>rfl) _ (fun l r=>rfl)
abbrev Cell:=Option (Array Keyed)×Array Keyed×Nat×Nat×Nat×Nat×Nat
def tA (a b o:Array Keyed) (i j g p q:Nat):StateT SortSt Sem (ForInStep Cell):=do
 let x<-elem' a i
 if (i+1+1==a.size)=true then pure (.done (some (o.push x++b.extract j b.size++a.extract (i+1) a.size),o.push x,i+1,j,g,p,q))
 else if (decide (p<7)&&decide (q<7))=true then pure (.done (none,o.push x,i+1,j,g,p,q))
 else pure (.yield (none,o.push x,i+1,j,g,p,q))
def tB (a b o:Array Keyed) (i j g p q:Nat):StateT SortSt Sem (ForInStep Cell):=do
 let y<-elem' b j
 if (j+1==b.size)=true then pure (.done (some (o.push y++a.extract i a.size++b.extract (j+1) b.size),o.push y,i,j+1,g,p,q))
 else do
  let x<-elem' a i
  let r<-gal true x b (j+1) (b.size - (j+1)) 0
  match r with
  | some k =>
   if k>0 then
    if (j+1+k==b.size)=true then pure (.done (some (o.push y++b.extract (j+1) (j+1+k)++a.extract i a.size++b.extract (j+1+k) b.size),o.push y++b.extract (j+1) (j+1+k),i,j+1+k,g,p,k))
    else tA a b (o.push y++b.extract (j+1) (j+1+k)) i (j+1+k) g p k
   else tA a b (o.push y) i (j+1) g p k
  | _=>pure (.done (some (o.push y++a.extract i a.size++b.extract (j+1) b.size),o.push y,i,j+1,g,p,q))
def tT (a b o:Array Keyed) (i j g p q:Nat):StateT SortSt Sem (ForInStep Cell):=do
 let y<-elem' b j
 let r<-gal false y a i (a.size - i) 0
 match r with
 | some k =>
  if k>0 then
   if (i+k+1==a.size)=true then pure (.done (some (o++a.extract i (i+k)++b.extract j b.size++a.extract (i+k) a.size),o++a.extract i (i+k),i+k,j,g,k,q))
   else if (i+k==a.size)=true then pure (.done (some (o++a.extract i (i+k)++a.extract (i+k) a.size++b.extract j b.size),o++a.extract i (i+k),i+k,j,g,k,q))
   else tB a b (o++a.extract i (i+k)) (i+k) j g k q
  else tB a b o i j g k q
 | _=>pure (.done (some (o++a.extract i a.size++b.extract j b.size),o,i,j,g,p,q))
theorem zAl {m:Nat} (h:¬(m==n)=true):m≠n:=by simpa using h
def TO (a b:Array Keyed) (m:Nat) (st3:SortSt) (R:ForInStep Cell->SortSt->Prop):Prop :=
 (∀r o i j g p q,Fn a b r->R (.done (some r,o,i,j,g,p,q)) st3)/\(∀o i j g p q,MI a b o i j->i+1<a.size->j<b.size->m<=i+j->R (.done (none,o,i,j,g,p,q)) st3/\R (.yield (none,o,i,j,g,p,q)) st3)
section
variable {st3:SortSt} {o:Array Keyed} {i j g p q m:Nat} {R:ForInStep Cell->SortSt->Prop}
theorem w_tA (ha:∀x∈a.toList,Has κ x) (M:MI a b o i j) (hi:i+1<a.size) (hj:j<b.size) (hm:m<=i+j) (hR:TO a b m st3 R):wpS (model prog w) A E s (tA a b o i j g p q) R st3:=by
 obtain ⟨x,ex,_⟩:=zBo ha (show i<a.size by lia);have M2:=M.tA ex;refine qAF (zA8 ex ?_)
 by_cases d1:(i+1+1==a.size)=true
 ·rw [qAC d1];exact qAH (hR.1 _ _ _ _ _ _ _ M2.f2)
 ·have:=zAl d1;rw [qAB d1];have q:=hR.2 _ _ _ g p q M2 (by lia) hj (by lia);split
  ·exact qAH q.1
  ·exact qAH q.2
theorem w_tB (C:CmpOk prog w A s kd κ) (hk:kindOf st3=kd) (ha:∀x∈a.toList,Has κ x) (hb:∀x∈b.toList,Has κ x) (M:MI a b o i j) (hi:i+1<a.size) (hj:j<b.size) (hm:m<=i+j) (hR:TO a b m st3 R) :
  wpS (model prog w) A E s (tB a b o i j g p q) R st3:=by
 obtain ⟨y,ey,hyy⟩:=zBo hb hj;obtain ⟨x,ex,hxx⟩:=zBo ha (show i<a.size by lia);have M2:=M.tB ey;refine qAF (zA8 ey ?_)
 by_cases d1:(j+1==b.size)=true
 ·rw [qAC d1];exact qAH (hR.1 _ _ _ _ _ _ _ M2.f1)
 ·have:=zAl d1;rw [qAB d1];refine qAF (zA8 ex (qAF (w_gal C hk hxx (fun i hi=>zBo hb (by lia)) (by lia) fun k k1=>?_)));have M3:=M2.tBs k (by lia);show wpS _ _ _ _ (if k>0 then _ else _) _ _
  by_cases hk0:k>0
  ·rw [qAC hk0]
   by_cases d2:(j+1+k==b.size)=true
   ·rw [qAC d2];exact qAH (hR.1 _ _ _ _ _ _ _ M3.f1)
   ·have:=zAl d2;rw [qAB d2];exact w_tA ha M3 hi (by lia) (by lia) hR
  ·rw [qAB hk0];exact w_tA ha M2 hi (by lia) (by lia) hR
theorem w_tT (C:CmpOk prog w A s kd κ) (hk:kindOf st3=kd) (ha:∀x∈a.toList,Has κ x) (hb:∀x∈b.toList,Has κ x) (M:MI a b o i j) (hi:i+1<a.size) (hj:j<b.size) (hm:m<=i+j) (hR:TO a b m st3 R):wpS (model prog w) A E s (tT a b o i j g p q) R st3:=by
 obtain ⟨y,ey,hyy⟩:=zBo hb hj;refine qAF (zA8 ey (qAF (w_gal C hk hyy (fun i hi=>zBo ha (by lia)) (by lia) fun k k1=>?_)));have M3:=M.tAs k (by lia);show wpS _ _ _ _ (if k>0 then _ else _) _ _
 by_cases hk0:k>0
 ·rw [qAC hk0]
  by_cases d1:(i+k+1==a.size)=true
  ·rw [qAC d1];exact qAH (hR.1 _ _ _ _ _ _ _ M3.f2)
  ·rw [qAB d1]
   by_cases d2:(i+k==a.size)=true
   ·rw [qAC d2];exact qAH (hR.1 _ _ _ _ _ _ _ M3.f1)
   ·have:=zAl d1;have:=zAl d2;rw [qAB d2];exact w_tB C hk ha hb M3 (by lia) hj (by lia) hR
 ·rw [qAB hk0];exact w_tB C hk ha hb M hi hj hm hR
end
theorem w_mLo {Q:Array Keyed->SortSt->Prop} (C:CmpOk prog w A s kd κ) (hk:kindOf st=kd) (ha:∀x∈a.toList,Has κ x) (hb:∀x∈b.toList,Has κ x) (na:1<=a.size) (nb:1<=b.size)
  (h:∀r st',Like st st'->Fn a b r->Q r st'):wpS (model prog w) A E s (mLo a b) Q st:=by
 refine qAF (qBi (qBO ⟨rfl,?_⟩));obtain ⟨y0,ey,hy⟩:=zBo hb (show 0<b.size by lia);refine qAF (zA8 ey ?_);have M0:MI a b #[] 0 0:=⟨by lia,by lia,fun p=>by simp⟩;have M1:MI a b #[y0] 0 1:=M0.tB ey;show wpS _ _ _ _ (if (1==b.size)=true then _ else _) _ _
 by_cases c1:(1==b.size)=true
 ·rw [qAC c1];exact qAH (h _ _ (Like.refl _) M1.f1)
 rw [qAB c1];show wpS _ _ _ _ (if (0+1==a.size)=true then _ else _) _ _
 by_cases c2:(0+1==a.size)=true
 ·rw [qAC c2];exact qAH (h _ _ (Like.refl _) M1.f2)
 rw [qAB c2];have:=zAl c1;have:=zAl c2;refine qAF (qBM ?_)
 refine qAF (qA4 (qAx (I:=fun x c st'=>Like st st'/\∃out ia ib g,c=(none,out,ia,ib,g)/\MI a b out ia ib/\ia+1<a.size/\ib<b.size/\x+1<=ia+ib)
  (Q:=fun c st'=>Like st st'/\∃r out ia ib g,c=(some r,out,ia,ib,g)/\Fn a b r) ?step ?fin ⟨Like.refl _,_,_,_,_,rfl,M1,by lia,by lia,by lia⟩) ?post)
 case fin =>
  rintro c st' ⟨_,out,ia,ib,g,rfl,M,h1,h2,h3⟩;lia
 case post =>
  rintro c st' ⟨L,r,out,ia,ib,g,rfl,F⟩;exact qAH (h r st' L F)
 case step =>
  rintro x c st1 _ hx1 ⟨L1,out0,ia0,ib0,g0,rfl,M,u1,u2,u3⟩;have hk1:kindOf st1=kd:=L1.kd.trans hk;dsimp only
  refine qAF (qA4 (qAx (I:=fun x c st'=>st'=st1/\∃out ia ib p q,c=(none,out,ia,ib,p,q)/\MI a b out ia ib/\ia+1<a.size/\ib<b.size/\ia0+ib0+x<=ia+ib)
   (Q:=fun c st'=>st'=st1/\((∃r out ia ib p q,c=(some r,out,ia,ib,p,q)/\Fn a b r)\/∃out ia ib p q,c=(none,out,ia,ib,p,q)/\MI a b out ia ib/\ia+1<a.size/\ib<b.size/\ia0+ib0+1<=ia+ib)) ?step1 ?fin1
   ⟨rfl,_,_,_,_,_,rfl,M,u1,u2,by lia⟩) ?post1)
  case fin1 =>
   rintro c st' ⟨rfl,out,ia,ib,p,q,rfl,M',v1,v2,v3⟩;exact ⟨rfl,.inr ⟨out,ia,ib,p,q,rfl,M',v1,v2,by lia⟩⟩
  case step1 =>
   rintro x2 c st' _ hx2 ⟨rfl,out,ia,ib,p,q,rfl,M',v1,v2,v3⟩;obtain ⟨yb,eb,hyb⟩:=zBo hb v2;obtain ⟨xa,ea,hxa⟩:=zBo ha (show ia<a.size by lia);dsimp only;refine qAF (zA8 eb (qAF (zA8 ea (qAF (w_lt C hk1 hyb hxa ?_)))));generalize κ.blt (kk κ yb) (kk κ xa)=c;show wpS _ _ _ _ (if c=true then _ else _) _ _
   by_cases e:c=true
   ·rw [qAC e];refine qAF (zA8 eb ?_);have M2:=M'.tB eb
    by_cases d1:(ib+1==b.size)=true
    ·rw [qAC d1];exact qAH ⟨rfl,.inl ⟨_,_,_,_,_,_,rfl,M2.f1⟩⟩
    ·have:=zAl d1;rw [qAB d1]
     by_cases d2:q+1>=g0
     ·rw [qAC d2];exact qAH ⟨rfl,.inr ⟨_,_,_,_,_,rfl,M2,v1,by lia,by lia⟩⟩
     ·rw [qAB d2];exact qAH ⟨rfl,_,_,_,_,_,rfl,M2,v1,by lia,by lia⟩
   ·rw [qAB e];refine qAF (zA8 ea ?_);have M2:=M'.tA ea
    by_cases d1:(ia+1+1==a.size)=true
    ·rw [qAC d1];exact qAH ⟨rfl,.inl ⟨_,_,_,_,_,_,rfl,M2.f2⟩⟩
    ·have:=zAl d1;rw [qAB d1]
     by_cases d2:p+1>=g0
     ·rw [qAC d2];exact qAH ⟨rfl,.inr ⟨_,_,_,_,_,rfl,M2,by lia,v2,by lia⟩⟩
     ·rw [qAB d2];exact qAH ⟨rfl,_,_,_,_,_,rfl,M2,by lia,v2,by lia⟩
  case post1 =>
   rintro c st' ⟨rfl,⟨r,out,ia,ib,p,q,rfl,F⟩| ⟨out,ia,ib,p,q,rfl,M',v1,v2,v3⟩⟩
   ·exact qAH ⟨L1,_,_,_,_,_,rfl,F⟩
   ·dsimp only;refine qAF (qBi (qBO ⟨rfl,?_⟩))
    refine qAF (qA4 (qAx (I:=fun x c st'=>Like st st'/\∃out ia ib g p q,c=(none,out,ia,ib,g,p,q)/\MI a b out ia ib/\ia+1<a.size/\ib<b.size/\ia0+ib0+1<=ia+ib)
     (Q:=fun c st'=>Like st st'/\((∃r out ia ib g p q,c=(some r,out,ia,ib,g,p,q)/\Fn a b r)\/∃out ia ib g p q,c=(none,out,ia,ib,g,p,q)/\MI a b out ia ib/\ia+1<a.size/\ib<b.size/\ia0+ib0+1<=ia+ib)) ?step2 ?fin2
     ⟨L1,_,_,_,_,_,_,rfl,M',v1,v2,v3⟩) ?post2)
    case fin2 =>
     rintro c st' ⟨L,out,ia,ib,g,p,q,rfl,M',v⟩;exact ⟨L,.inr ⟨_,_,_,_,_,_,rfl,M',v⟩⟩
    case post2 =>
     rintro c st' ⟨L,⟨r,out,ia,ib,g,p,q,rfl,F⟩| ⟨out,ia,ib,g,p,q,rfl,M',v1,v2,v3⟩⟩
     ·exact qAH ⟨L,_,_,_,_,_,rfl,F⟩
     ·dsimp only;refine qAF (qA6 (qAH ⟨L.trans ⟨rfl,rfl,rfl,rfl⟩,_,_,_,_,rfl,M',v1,v2,by lia⟩))
    case step2 =>
     rintro x3 c st2 _ hx3 ⟨L2,out,ia,ib,g,p,q,rfl,M2,w1,w2,w3⟩;dsimp only
     have run:∀(g':Nat) (R:ForInStep Cell->SortSt->Prop),(∀L3:Like st (SortSt.mk' (kindOf st2) (arrOf st2) (pendingOf st2) g' (failedOf st2)),TO a b (ia0+ib0+1) (SortSt.mk' (kindOf st2) (arrOf st2) (pendingOf st2) g' (failedOf st2)) R)->wpS (model prog w) A E s (tT a b out ia ib g' p q) R (SortSt.mk' (kindOf st2) (arrOf st2) (pendingOf st2) g' (failedOf st2)):=fun g' R hR=>by
      have L3:Like st (SortSt.mk' (kindOf st2) (arrOf st2) (pendingOf st2) g' (failedOf st2)):=L2.trans ⟨rfl,rfl,rfl,rfl⟩;exact w_tT C (L3.kd.trans hk) ha hb M2 w1 w2 w3 (hR L3)
     by_cases d0:g>1
     ·rw [qAC d0];exact qAF (qA6 (run (g - 1) _ fun L3=>⟨fun r o i j g p q F=>⟨L3,.inl ⟨_,_,_,_,_,_,_,rfl,F⟩⟩,fun o i j g p q M' h1 h2 h3=>⟨⟨L3,.inr ⟨_,_,_,_,_,_,rfl,M',h1,h2,h3⟩⟩,⟨L3,_,_,_,_,_,_,rfl,M',h1,h2,h3⟩⟩⟩))
     ·rw [qAB d0];exact qAF (qA6 (run g _ fun L3=>⟨fun r o i j g p q F=>⟨L3,.inl ⟨_,_,_,_,_,_,_,rfl,F⟩⟩,fun o i j g p q M' h1 h2 h3=>⟨⟨L3,.inr ⟨_,_,_,_,_,_,rfl,M',h1,h2,h3⟩⟩,⟨L3,_,_,_,_,_,_,rfl,M',h1,h2,h3⟩⟩⟩))
abbrev CellH:=Option (Array Keyed)×Nat×Nat×Array Keyed×Nat×Nat×Nat
def uA (a b o:Array Keyed) (i j g p q:Nat):StateT SortSt Sem (ForInStep CellH):=do
 let x<-elem' a (i - 1)
 if (i - 1==0)=true then pure (.done (some (a.extract 0 (i - 1)++b.extract 0 j++(o.push x).reverse),i - 1,j,o.push x,g,p,q))
 else if (decide (p<7)&&decide (q<7))=true then pure (.done (none,i - 1,j,o.push x,g,p,q))
 else pure (.yield (none,i - 1,j,o.push x,g,p,q))
def uB (a b o:Array Keyed) (i j g p q:Nat):StateT SortSt Sem (ForInStep CellH):=do
 let y<-elem' b (j - 1)
 if (j - 1==1)=true then pure (.done (some (b.extract 0 (j - 1)++a.extract 0 i++(o.push y).reverse),i,j - 1,o.push y,g,p,q))
 else do
  let x<-elem' a (i - 1)
  let r<-gal true x b 0 (j - 1) (j - 1 - 1)
  match r with
  | some k =>
   if j - 1 - k>0 then
    if (k==1)=true then pure (.done (some (b.extract 0 k++a.extract 0 i++(o.push y++(b.extract k (j - 1)).reverse).reverse),i,k,o.push y++(b.extract k (j - 1)).reverse,g,p,j - 1 - k))
    else if (k==0)=true then pure (.done (some (a.extract 0 i++b.extract 0 k++(o.push y++(b.extract k (j - 1)).reverse).reverse),i,k,o.push y++(b.extract k (j - 1)).reverse,g,p,j - 1 - k))
    else uA a b (o.push y++(b.extract k (j - 1)).reverse) i k g p (j - 1 - k)
   else uA a b (o.push y) i (j - 1) g p (j - 1 - k)
  | _=>pure (.done (some (a.extract 0 i++b.extract 0 (j - 1)++(o.push y).reverse),i,j - 1,o.push y,g,p,q))
def uT (a b o:Array Keyed) (i j g p q:Nat):StateT SortSt Sem (ForInStep CellH):=do
 let y<-elem' b (j - 1)
 let r<-gal false y a 0 i (i - 1)
 match r with
 | some k =>
  if i - k>0 then
   if (k==0)=true then pure (.done (some (a.extract 0 k++b.extract 0 j++(o++(a.extract k i).reverse).reverse),k,j,o++(a.extract k i).reverse,g,i - k,q))
   else uB a b (o++(a.extract k i).reverse) k j g (i - k) q
  else uB a b o i j g (i - k) q
 | _=>pure (.done (some (a.extract 0 i++b.extract 0 j++o.reverse),i,j,o,g,p,q))
def TH (a b:Array Keyed) (m:Nat) (st3:SortSt) (R:ForInStep CellH->SortSt->Prop):Prop :=
 (∀r o i j g p q,Fn a b r->R (.done (some r,i,j,o,g,p,q)) st3)/\(∀o i j g p q,MH a b o i j->1<=i->1<j->i+j<=m->R (.done (none,i,j,o,g,p,q)) st3/\R (.yield (none,i,j,o,g,p,q)) st3)
section
variable {st3:SortSt} {o:Array Keyed} {i j g p q m:Nat} {R:ForInStep CellH->SortSt->Prop}
theorem w_uA (ha:∀x∈a.toList,Has κ x) (M:MH a b o i j) (hi:1<=i) (hj:1<j) (hm:i+j<=m+1) (hR:TH a b m st3 R):wpS (model prog w) A E s (uA a b o i j g p q) R st3:=by
 have hla:=M.la;obtain ⟨n,rfl⟩:∃n,i=n+1:=⟨i - 1,by lia⟩;obtain ⟨x,ex,_⟩:=zBo ha (show n<a.size by lia);have M2:=M.tA ex;refine qAF (zA8 ex ?_);show wpS _ _ _ _ (if (n==0)=true then _ else _) _ _
 by_cases d1:(n==0)=true
 ·rw [qAC d1];exact qAH (hR.1 _ _ _ _ _ _ _ M2.f1)
 ·have:=zAl d1;rw [qAB d1];have q:=hR.2 _ _ _ g p q M2 (by lia) hj (by lia);split
  ·exact qAH q.1
  ·exact qAH q.2
theorem w_uB (C:CmpOk prog w A s kd κ) (hk:kindOf st3=kd) (ha:∀x∈a.toList,Has κ x) (hb:∀x∈b.toList,Has κ x) (M:MH a b o i j) (hi:1<=i) (hj:1<j) (hm:i+j<=m+1) (hR:TH a b m st3 R) :
  wpS (model prog w) A E s (uB a b o i j g p q) R st3:=by
 have hla:=M.la;have hlb:=M.lb;obtain ⟨n,rfl⟩:∃n,j=n+1:=⟨j - 1,by lia⟩;obtain ⟨y,ey,hyy⟩:=zBo hb (show n<b.size by lia);obtain ⟨x,ex,hxx⟩:=zBo ha (show i - 1<a.size by lia);have M2:=M.tB ey;refine qAF (zA8 ey ?_);show wpS _ _ _ _ (if (n==1)=true then _ else _) _ _
 by_cases d1:(n==1)=true
 ·rw [qAC d1];exact qAH (hR.1 _ _ _ _ _ _ _ M2.f2)
 ·have:=zAl d1;rw [qAB d1];refine qAF (zA8 ex (qAF (w_gal C hk hxx (fun i hi=>zBo hb (show 0+i<b.size by have:i<n:=hi;lia)) (show n - 1<n by lia) fun k k1=>?_)));have k1:k<=n:=k1;have M3:=M2.tBs k k1;show wpS _ _ _ _ (if n - k>0 then _ else _) _ _
  by_cases hk0:n - k>0
  ·rw [qAC hk0]
   by_cases d2:(k==1)=true
   ·rw [qAC d2];exact qAH (hR.1 _ _ _ _ _ _ _ M3.f2)
   ·rw [qAB d2]
    by_cases d3:(k==0)=true
    ·rw [qAC d3];exact qAH (hR.1 _ _ _ _ _ _ _ M3.f1)
    ·have:=zAl d2;have:=zAl d3;rw [qAB d3];exact w_uA ha M3 hi (by lia) (by lia) hR
  ·rw [qAB hk0];exact w_uA ha M2 hi (by lia) (show i+n<=m+1 by lia) hR
theorem w_uT (C:CmpOk prog w A s kd κ) (hk:kindOf st3=kd) (ha:∀x∈a.toList,Has κ x) (hb:∀x∈b.toList,Has κ x) (M:MH a b o i j) (hi:1<=i) (hj:1<j) (hm:i+j<=m+1) (hR:TH a b m st3 R):wpS (model prog w) A E s (uT a b o i j g p q) R st3:=by
 have hla:=M.la;have hlb:=M.lb;obtain ⟨y,ey,hyy⟩:=zBo hb (show j - 1<b.size by lia);refine qAF (zA8 ey (qAF (w_gal C hk hyy (fun u hi=>zBo ha (show 0+u<a.size by have:u<i:=hi;lia)) (show i - 1<i by lia) fun k k1=>?_)));have k1:k<=i:=k1;have M3:=M.tAs k k1;show wpS _ _ _ _ (if i - k>0 then _ else _) _ _
 by_cases hk0:i - k>0
 ·rw [qAC hk0]
  by_cases d1:(k==0)=true
  ·rw [qAC d1];exact qAH (hR.1 _ _ _ _ _ _ _ M3.f1)
  ·have:=zAl d1;rw [qAB d1];exact w_uB C hk ha hb M3 (by lia) hj (by lia) hR
 ·rw [qAB hk0];exact w_uB C hk ha hb M hi hj hm hR
end
theorem w_mHi {Q:Array Keyed->SortSt->Prop} (C:CmpOk prog w A s kd κ) (hk:kindOf st=kd) (ha:∀x∈a.toList,Has κ x) (hb:∀x∈b.toList,Has κ x) (na:1<=a.size) (nb:1<=b.size)
  (h:∀r st',Like st st'->Fn a b r->Q r st'):wpS (model prog w) A E s (mHi a b) Q st:=by
 refine qAF (qBi (qBO ⟨rfl,?_⟩));obtain ⟨n,hn⟩:∃n,a.size=n+1:=⟨a.size - 1,by lia⟩;obtain ⟨x0,ex,hx⟩:=zBo ha (show n<a.size by lia);have en:a.size - 1=n:=by lia
 refine qAF (zA8 (p:=x0) (by rw [en];exact ex) ?_);have M0:MH a b #[] (n+1) b.size:=⟨by lia,by lia,fun p=>by rw [<-hn,qBb (show a.toList.length<=a.size by simp),qBb (show b.toList.length<=b.size by simp)];simp⟩;have M1:MH a b #[x0] n b.size:=M0.tA ex;rw [<-en] at M1;show wpS _ _ _ _ (if (a.size - 1==0)=true then _ else _) _ _
 by_cases c1:(a.size - 1==0)=true
 ·rw [qAC c1];exact qAH (h _ _ (Like.refl _) M1.f1)
 rw [qAB c1]
 by_cases c2:(b.size==1)=true
 ·rw [qAC c2];exact qAH (h _ _ (Like.refl _) M1.f2)
 rw [qAB c2];have:=zAl c1;have:=zAl c2;refine qAF (qBM ?_)
 refine qAF (qA4 (qAx (I:=fun x c st'=>Like st st'/\∃out i j g,c=(none,i,j,out,g)/\MH a b out i j/\1<=i/\1<j/\i+j+x<=a.size+b.size)
  (Q:=fun c st'=>Like st st'/\∃r out i j g,c=(some r,i,j,out,g)/\Fn a b r) ?step ?fin ⟨Like.refl _,_,_,_,_,rfl,M1,by lia,by lia,by lia⟩) ?post)
 case fin =>
  rintro c st' ⟨_,out,i,j,g,rfl,M,h1,h2,h3⟩;lia
 case post =>
  rintro c st' ⟨L,r,out,i,j,g,rfl,F⟩;exact qAH (h r st' L F)
 case step =>
  rintro x c st1 _ hx1 ⟨L1,out0,i0,j0,g0,rfl,M,u1,u2,u3⟩;have hk1:kindOf st1=kd:=L1.kd.trans hk;dsimp only
  refine qAF (qA4 (qAx (I:=fun x c st'=>st'=st1/\∃out i j p q,c=(none,i,j,out,p,q)/\MH a b out i j/\1<=i/\1<j/\i+j+x<=i0+j0)
   (Q:=fun c st'=>st'=st1/\((∃r out i j p q,c=(some r,i,j,out,p,q)/\Fn a b r)\/∃out i j p q,c=(none,i,j,out,p,q)/\MH a b out i j/\1<=i/\1<j/\i+j+1<=i0+j0)) ?step1 ?fin1
   ⟨rfl,_,_,_,_,_,rfl,M,u1,u2,by lia⟩) ?post1)
  case fin1 =>
   rintro c st' ⟨rfl,out,i,j,p,q,rfl,M',v1,v2,v3⟩;exact ⟨rfl,.inr ⟨out,i,j,p,q,rfl,M',v1,v2,by lia⟩⟩
  case step1 =>
   rintro x2 c st' _ hx2 ⟨rfl,out,i,j,p,q,rfl,M',v1,v2,v3⟩;have hla:=M'.la;have hlb:=M'.lb;obtain ⟨n,rfl⟩:∃n,i=n+1:=⟨i - 1,by lia⟩;obtain ⟨m,rfl⟩:∃m,j=m+1:=⟨j - 1,by lia⟩;obtain ⟨yb,eb,hyb⟩:=zBo hb (show m<b.size by lia);obtain ⟨xa,ea,hxa⟩:=zBo ha (show n<a.size by lia);dsimp only;refine qAF (zA8 eb (qAF (zA8 ea (qAF (w_lt C hk1 hyb hxa ?_)))));generalize κ.blt (kk κ yb) (kk κ xa)=c;show wpS _ _ _ _ (if c=true then _ else _) _ _
   by_cases e:c=true
   ·rw [qAC e];refine qAF (zA8 ea ?_);have M2:=M'.tA ea;show wpS _ _ _ _ (if (n==0)=true then _ else _) _ _
    by_cases d1:(n==0)=true
    ·rw [qAC d1];exact qAH ⟨rfl,.inl ⟨_,_,_,_,_,_,rfl,M2.f1⟩⟩
    ·have:=zAl d1;rw [qAB d1]
     by_cases d2:p+1>=g0
     ·rw [qAC d2];exact qAH ⟨rfl,.inr ⟨_,_,_,_,_,rfl,M2,by lia,v2,by lia⟩⟩
     ·rw [qAB d2];exact qAH ⟨rfl,_,_,_,_,_,rfl,M2,by lia,v2,by lia⟩
   ·rw [qAB e];refine qAF (zA8 eb ?_);have M2:=M'.tB eb;show wpS _ _ _ _ (if (m==1)=true then _ else _) _ _
    by_cases d1:(m==1)=true
    ·rw [qAC d1];exact qAH ⟨rfl,.inl ⟨_,_,_,_,_,_,rfl,M2.f2⟩⟩
    ·have:=zAl d1;rw [qAB d1]
     by_cases d2:q+1>=g0
     ·rw [qAC d2];exact qAH ⟨rfl,.inr ⟨_,_,_,_,_,rfl,M2,v1,by lia,by lia⟩⟩
     ·rw [qAB d2];exact qAH ⟨rfl,_,_,_,_,_,rfl,M2,v1,by lia,by lia⟩
  case post1 =>
   rintro c st' ⟨rfl,⟨r,out,i,j,p,q,rfl,F⟩| ⟨out,i,j,p,q,rfl,M',v1,v2,v3⟩⟩
   ·exact qAH ⟨L1,_,_,_,_,_,rfl,F⟩
   ·dsimp only;refine qAF (qBi (qBO ⟨rfl,?_⟩))
    refine qAF (qA4 (qAx (I:=fun x c st'=>Like st st'/\∃out i j g p q,c=(none,i,j,out,g,p,q)/\MH a b out i j/\1<=i/\1<j/\i+j+1<=i0+j0)
     (Q:=fun c st'=>Like st st'/\((∃r out i j g p q,c=(some r,i,j,out,g,p,q)/\Fn a b r)\/∃out i j g p q,c=(none,i,j,out,g,p,q)/\MH a b out i j/\1<=i/\1<j/\i+j+1<=i0+j0)) ?step2 ?fin2
     ⟨L1,_,_,_,_,_,_,rfl,M',v1,v2,v3⟩) ?post2)
    case fin2 =>
     rintro c st' ⟨L,out,i,j,g,p,q,rfl,M',v⟩;exact ⟨L,.inr ⟨_,_,_,_,_,_,rfl,M',v⟩⟩
    case post2 =>
     rintro c st' ⟨L,⟨r,out,i,j,g,p,q,rfl,F⟩| ⟨out,i,j,g,p,q,rfl,M',v1,v2,v3⟩⟩
     ·exact qAH ⟨L,_,_,_,_,_,rfl,F⟩
     ·dsimp only;refine qAF (qA6 (qAH ⟨L.trans ⟨rfl,rfl,rfl,rfl⟩,_,_,_,_,rfl,M',v1,v2,by lia⟩))
    case step2 =>
     rintro x3 c st2 _ hx3 ⟨L2,out,i,j,g,p,q,rfl,M2,w1,w2,w3⟩;dsimp only
     have run:∀(g':Nat) (R:ForInStep CellH->SortSt->Prop),(∀L3:Like st (SortSt.mk' (kindOf st2) (arrOf st2) (pendingOf st2) g' (failedOf st2)),TH a b (i0+j0 - 1) (SortSt.mk' (kindOf st2) (arrOf st2) (pendingOf st2) g' (failedOf st2)) R)->wpS (model prog w) A E s (uT a b out i j g' p q) R (SortSt.mk' (kindOf st2) (arrOf st2) (pendingOf st2) g' (failedOf st2)):=fun g' R hR=>by
      have L3:Like st (SortSt.mk' (kindOf st2) (arrOf st2) (pendingOf st2) g' (failedOf st2)):=L2.trans ⟨rfl,rfl,rfl,rfl⟩;exact w_uT C (L3.kd.trans hk) ha hb M2 w1 w2 (by lia) (hR L3)
     by_cases d0:g>1
     ·rw [qAC d0];exact qAF (qA6 (run (g - 1) _ fun L3=>⟨fun r o i j g p q F=>⟨L3,.inl ⟨_,_,_,_,_,_,_,rfl,F⟩⟩,fun o i j g p q M' h1 h2 h3=>⟨⟨L3,.inr ⟨_,_,_,_,_,_,rfl,M',h1,h2,by lia⟩⟩,⟨L3,_,_,_,_,_,_,rfl,M',h1,h2,by lia⟩⟩⟩))
     ·rw [qAB d0];exact qAF (qA6 (run g _ fun L3=>⟨fun r o i j g p q F=>⟨L3,.inl ⟨_,_,_,_,_,_,_,rfl,F⟩⟩,fun o i j g p q M' h1 h2 h3=>⟨⟨L3,.inr ⟨_,_,_,_,_,_,rfl,M',h1,h2,by lia⟩⟩,⟨L3,_,_,_,_,_,_,rfl,M',h1,h2,by lia⟩⟩⟩))
end
section
variable {prog:Program} {w:World} {A:Around} {E:Value->Shared->Prop} {s:Shared} {kd:SortKind} {κ:KeyKind}
structure Fr (st st':SortSt):Prop where
 kd:kindOf st'=kindOf st
 pn:pendingOf st'=pendingOf st
 fl:failedOf st'=failedOf st
 perm:(arrOf st').Perm (arrOf st)
theorem Fr.refl (st:SortSt):Fr st st:=⟨rfl,rfl,rfl,Array.Perm.refl _⟩
theorem Fr.trans {a b c:SortSt} (h:Fr a b) (k:Fr b c):Fr a c:=⟨k.kd.trans h.kd,k.pn.trans h.pn,k.fl.trans h.fl,k.perm.trans h.perm⟩
theorem Fr.size {a b:SortSt} (h:Fr a b):(arrOf b).size=(arrOf a).size:=h.perm.size_eq
theorem Fr.rev (st:SortSt) (i j k:Nat):Fr st (setArr st (mirror (arrOf st) i j k)):=⟨rfl,rfl,rfl,mirror_perm _ _ _ _⟩
def All (κ:KeyKind) (st:SortSt):Prop:=∀x∈(arrOf st).toList,Has κ x
theorem All.fr {a b:SortSt} (h:All κ a) (f:Fr a b):All κ b:=fun x hx=>h x ((qCv.mp f.perm).mem_iff.mp hx)
theorem All.at (h:All κ st) (hi:i<(arrOf st).size):∃p,(arrOf st)[i]?=some p/\Has κ p:=zBo h hi
theorem w_ask {j:Nat} {Q:Option Bool->SortSt->Prop} (C:CmpOk prog w A s kd κ) (hk:kindOf st=kd) (al:All κ st) (hi:i<(arrOf st).size) (hj:j<(arrOf st).size) (h:∀c,Q (some c) st):wpS (model prog w) A E s (ltAt' i j) Q st:=w_ltAt C hk (al.at hi) (al.at hj) (h _)
theorem w_asc {n0:Nat} {Q:α->SortSt->Prop} (C:CmpOk prog w A s kd κ) (hk:kindOf st=kd) (al:All κ st) (hn:lo+nrem<=(arrOf st).size) (h1:1<=n0) (h2:n0<=nrem)
  (F:Nat->Option (Option Nat)×Nat->StateT SortSt Sem (ForInStep (Option (Option Nat)×Nat))) (hF:∀x n,F x (none,n)=(do
   let c<-ltAt' (lo+n) (lo+n - 1)
   match c with
   | some c=>if c=true then pure (ForInStep.done (none,n)) else pure (ForInStep.yield (none,n+1))
   | _=>pure (ForInStep.done (some none,n)))) (G:Option (Option Nat)×Nat->StateT SortSt Sem α)
  (hG:∀n,n0<=n->n<=nrem->wpS (model prog w) A E s (G (none,n)) Q st) :
  wpS (model prog w) A E s (forIn [n0:nrem] ((none,n0):Option (Option Nat)×Nat) F >>= G) Q st:=by
 refine qAF (qAx (I:=fun x c st'=>st'=st/\c=(none,x)/\x<=nrem) ?step ?fin ⟨rfl,rfl,h2⟩)
 case fin =>
  rintro c st' ⟨rfl,rfl,h3⟩;rw [show max n0 nrem=nrem by lia];exact hG nrem h2 (qAG _)
 case step =>
  rintro x c st' hx1 hx2 ⟨rfl,rfl,h3⟩;rw [hF];refine qAF (w_ask C hk al (by lia) (by lia) fun c=>?_);show wpS _ _ _ _ (if c=true then _ else _) _ _;split
  ·exact qAH (hG x hx1 h3)
  ·exact qAH ⟨rfl,rfl,by lia⟩
theorem w_tail {Q:Option Nat->SortSt->Prop} (C:CmpOk prog w A s kd κ) (hk:kindOf st=kd) (al:All κ st) (hn:lo+nrem<=(arrOf st).size) (h1:1<=n) (h2:n<=nrem)
  (F:Nat->Option (Option Nat)×Nat->StateT SortSt Sem (ForInStep (Option (Option Nat)×Nat))) (hF:∀x n,F x (none,n)=(do
   let c<-ltAt' (lo+n) (lo+n - 1)
   match c with
   | some c=>if c=true then pure (ForInStep.done (none,n)) else pure (ForInStep.yield (none,n+1))
   | _=>pure (ForInStep.done (some none,n)))) (G:Option (Option Nat)×Nat->StateT SortSt Sem (Option Nat)) (hG:∀n,G (none,n)=pure (some n))
  (h:∀m st',Fr st st'->1<=m->m<=nrem->Q (some m) st') :
  wpS (model prog w) A E s (reverseSlice' lo (lo+n) >>= fun _=>forIn [n:nrem] ((none,n):Option (Option Nat)×Nat) F >>= G) Q st:=by
 have f:=Fr.rev st lo (lo+n) ((lo+n - lo) / 2);refine qAF (qCY ?_);refine w_asc C (f.kd.trans hk) (al.fr f) (by rw [f.size];exact hn) h1 h2 F hF G fun m m1 m2=>?_;rw [hG];exact qAH (h m _ f (by lia) m2)
theorem w_desc {n0:Nat} {Q:α->SortSt->Prop} (C:CmpOk prog w A s kd κ) (hk:kindOf st=kd) (al:All κ st) (hn:lo+nrem<=(arrOf st).size) (h1:1<=n0) (h2:n0<=nrem)
  (F:Nat->Option (Option Nat)×Nat×Nat->StateT SortSt Sem (ForInStep (Option (Option Nat)×Nat×Nat))) (hF:∀x n q,F x (none,n,q)=(ltAt' (lo+n) (lo+n - 1) >>= fun c=>match c with
   | some c=>(if c=true then (if q>0 then (reverseSlice' (lo+n - (q+1)) (lo+n) >>= fun _=>pure (ForInStep.yield (none,n+1,0))) else pure (ForInStep.yield (none,n+1,0)))
    else (ltAt' (lo+n - 1) (lo+n) >>= fun d=>match d with
     | some d=>(if d=true then pure (ForInStep.done (none,n,q)) else pure (ForInStep.yield (none,n+1,q+1)))
     | _=>pure (ForInStep.done (some none,n,q))))
   | _=>pure (ForInStep.done (some none,n,q)))) (G:Option (Option Nat)×Nat×Nat->StateT SortSt Sem α)
  (hG:∀n q st',Fr st st'->n0<=n->n<=nrem->wpS (model prog w) A E s (G (none,n,q)) Q st') :
  wpS (model prog w) A E s (forIn [n0:nrem] ((none,n0,0):Option (Option Nat)×Nat×Nat) F >>= G) Q st:=by
 refine qAF (qAx (I:=fun x c st'=>Fr st st'/\∃q,c=(none,x,q)/\x<=nrem) ?step ?fin ⟨Fr.refl _,0,rfl,h2⟩)
 case fin =>
  rintro c st' ⟨f,q,rfl,h3⟩;rw [show max n0 nrem=nrem by lia];exact hG nrem q st' f h2 (qAG _)
 case step =>
  rintro x c st' hx1 hx2 ⟨f,q,rfl,h3⟩;have hz:(arrOf st').size=(arrOf st).size:=f.size;have al':=al.fr f;have hk':=f.kd.trans hk;rw [hF];refine qAF (w_ask C hk' al' (by lia) (by lia) fun c=>?_);show wpS _ _ _ _ (if c=true then _ else _) _ _
  by_cases e:c=true
  ·rw [qAC e]
   by_cases hq:q>0
   ·rw [qAC hq];exact qAF (qCY (qAH ⟨f.trans (Fr.rev _ _ _ _),0,rfl,by lia⟩))
   ·rw [qAB hq];exact qAH ⟨f,0,rfl,by lia⟩
  ·rw [qAB e];refine qAF (w_ask C hk' al' (by lia) (by lia) fun d=>?_);show wpS _ _ _ _ (if d=true then _ else _) _ _
   by_cases e2:d=true
   ·rw [qAC e2];exact qAH (hG x q st' f hx1 h3)
   ·rw [qAB e2];exact qAH ⟨f,q+1,rfl,by lia⟩
theorem w_count {Q:Option Nat->SortSt->Prop} (C:CmpOk prog w A s kd κ) (hk:kindOf st=kd) (al:All κ st) (hn:lo+nrem<=(arrOf st).size) (h1:1<=nrem)
  (h:∀m st',Fr st st'->1<=m->m<=nrem->Q (some m) st'):wpS (model prog w) A E s (countRun' lo nrem) Q st:=by
 refine w_asc C hk al hn (qAG 1) h1 _ (fun x n=>rfl) _ fun n n1 n2=>?_;show wpS _ _ _ _ (if (n==nrem)=true then _ else _) _ _
 by_cases c:(n==nrem)=true
 ·rw [qAC c];exact qAH (h n st (Fr.refl _) n1 n2)
 rw [qAB c];have c':=zAl c;show wpS _ _ _ _ (if n>1 then _ else _) _ _
 by_cases g:n>1
 ·rw [qAC g];refine qAF (w_ask C hk al (by lia) (by lia) fun c=>?_);show wpS _ _ _ _ (if c=true then _ else _) _ _
  by_cases e:c=true
  ·rw [qAC e];exact qAH (h n st (Fr.refl _) n1 n2)
  ·rw [qAB e];have f1:=Fr.rev st lo (lo+n) ((lo+n - lo) / 2);refine qAF (qCY ?_);refine qAF (qBi (qBO ⟨rfl,?_⟩));refine w_desc C (f1.kd.trans hk) (al.fr f1) (by rw [f1.size];exact hn) (by lia) (by lia) _ (fun x n q=>rfl) _ fun m q st2 f2 m1 m2=>?_;have f2:=f1.trans f2;show wpS _ _ _ _ (if q>0 then _ else _) _ _
   by_cases hq:q>0
   ·rw [qAC hq];have f3:=f2.trans (Fr.rev st2 (lo+m - (q+1)) (lo+m) ((lo+m - (lo+m - (q+1))) / 2));refine qAF (qCY ?_);exact w_tail C (f3.kd.trans hk) (al.fr f3) (by rw [f3.size];exact hn) (by lia) m2 _ (fun x n=>rfl) _ (fun n=>rfl) fun m' st' f'=>h m' st' (f3.trans f')
   ·rw [qAB hq];exact w_tail C (f2.kd.trans hk) (al.fr f2) (by rw [f2.size];exact hn) (by lia) m2 _ (fun x n=>rfl) _ (fun n=>rfl) fun m' st' f'=>h m' st' (f2.trans f')
 ·rw [qAB g];have en:n=1:=by lia
  subst en;refine qAF (qBi (qBO ⟨rfl,?_⟩));refine w_desc C hk al hn (by lia) (by lia) _ (fun x n q=>rfl) _ fun m q st2 f2 m1 m2=>?_;show wpS _ _ _ _ (if q>0 then _ else _) _ _
  by_cases hq:q>0
  ·rw [qAC hq];have f3:=f2.trans (Fr.rev st2 (lo+m - (q+1)) (lo+m) ((lo+m - (lo+m - (q+1))) / 2));refine qAF (qCY ?_);exact w_tail C (f3.kd.trans hk) (al.fr f3) (by rw [f3.size];exact hn) (by lia) m2 _ (fun x n=>rfl) _ (fun n=>rfl) fun m' st' f'=>h m' st' (f3.trans f')
  ·rw [qAB hq];exact w_tail C (f2.kd.trans hk) (al.fr f2) (by rw [f2.size];exact hn) (by lia) m2 _ (fun x n=>rfl) _ (fun n=>rfl) fun m' st' f'=>h m' st' (f2.trans f')
theorem w_ins {ok:Nat} {Q:Bool->SortSt->Prop} (C:CmpOk prog w A s kd κ) (hk:kindOf st=kd) (al:All κ st) (hn:lo+n<=(arrOf st).size)
  (h:∀st',Fr st st'->Q true st'):wpS (model prog w) A E s (binarySort' lo n ok) Q st:=by
 refine qAF (qA4 (qAx (I:=fun k c st'=>c=(none,())/\Fr st st') (Q:=fun c st'=>c=(none,())/\Fr st st') ?step (fun c st' h=>h) ⟨rfl,Fr.refl _⟩) ?post)
 case post =>
  rintro c st' ⟨rfl,f⟩;exact qAH (h st' f)
 case step =>
  rintro k c st' hk1 hk2 ⟨rfl,f⟩;have hz:(arrOf st').size=(arrOf st).size:=f.size
  refine qAF (qA4 (qAx (I:=fun x c st2=>st2=st'/\∃l r,c=(none,l,r)/\l<=r/\r<=k)
   (Q:=fun c st2=>st2=st'/\∃l r,c=(none,l,r)/\l<=r/\r<=k) ?s2 (fun c st' h=>h) ⟨rfl,0,k,rfl,by lia,by lia⟩) ?p2)
  case s2 =>
   rintro x c st2 _ hx ⟨rfl,l,r,rfl,a1,a2⟩;dsimp only
   by_cases g:l>=r
   ·rw [qAC g];exact qAH ⟨rfl,l,r,rfl,a1,a2⟩
   ·rw [qAB g];refine qAF (w_ask C (f.kd.trans hk) (al.fr f) (by lia) (by lia) fun c=>?_);show wpS _ _ _ _ (if c=true then _ else _) _ _;split
    ·exact qAH ⟨rfl,l,(l+r) / 2,rfl,by lia,by lia⟩
    ·exact qAH ⟨rfl,(l+r) / 2+1,r,rfl,by lia,by lia⟩
  case p2 =>
   rintro c st2 ⟨rfl,l,r,rfl,a1,a2⟩;show wpS _ _ _ _ (moveDown' (lo+k) (lo+l) >>= fun _=>pure (ForInStep.yield (none,()))) _ _;rw [moveDown'_eq];exact qAF (qA6 (qAH ⟨rfl,f.trans ⟨rfl,rfl,rfl,bubble_perm _ _ _⟩⟩))
theorem w_set {M:Model} {σ:Type} {st st':σ} {Q:PUnit->σ->Prop} (h:Q ⟨⟩ st'):wpS M A E s (set st':StateT σ Sem PUnit) Q st:=by
 unfold wpS;rw [StateT.run_set];exact qAD ⟨rfl,h⟩
theorem splice:∀(m:List Keyed) (arr:Array Keyed) (sa k:Nat),sa+k+m.length<=arr.size ->
  ((m.zipIdx k).foldl (fun a x=>match x with| (p,j)=>a.setIfInBounds (sa+j) p) arr).toList=arr.toList.take (sa+k)++m++arr.toList.drop (sa+k+m.length)
 | [],arr,sa,k,_=>by simp
 | p::r,arr,sa,k,h=>by
  rw [qAZ] at h;have hk:sa+k<arr.size:=by lia
  rw [List.zipIdx_cons,qBX];show ((r.zipIdx (k+1)).foldl _ (arr.setIfInBounds (sa+k) p)).toList=_;rw [splice r (arr.setIfInBounds (sa+k) p) sa (k+1) (by rw [qC7];lia)];have e:(arr.setIfInBounds (sa+k) p).toList=arr.toList.set (sa+k) p:=by simp
  have hl:sa+k<arr.toList.length:=by simpa using hk
  rw [e,show sa+(k+1)=sa+k+1 by lia,qAZ,show sa+k+(r.length+1)=sa+k+1+r.length by lia]
  have e1:(arr.toList.set (sa+k) p).take (sa+k+1)=arr.toList.take (sa+k)++[p]:=by
   rw [qCq,qCB hl,List.take_set_of_le (qAG _)];rfl
  have e2:(arr.toList.set (sa+k) p).drop (sa+k+1+r.length)=arr.toList.drop (sa+k+1+r.length):=List.drop_set_of_lt (by lia);rw [e1,e2];simp
theorem zIs {a:Array Keyed} (h:∀x∈a.toList,Has κ x) (i j:Nat):∀x∈(a.extract i j).toList,Has κ x:=fun x hx=>by
 rw [qBs,List.extract_eq_drop_take] at hx;exact h x (qC5 (qCQ hx))
theorem w_mergeAt {sa na pw nb pw2:Nat} {Q:Bool->SortSt->Prop} (C:CmpOk prog w A s kd κ) (hk:kindOf st=kd) (al:All κ st) (hp1:(pendingOf st)[i]?=some (sa,na,pw)) (hp2:(pendingOf st)[i+1]?=some (sa+na,nb,pw2))
  (h1:1<=na) (h2:1<=nb) (hz:sa+na+nb<=(arrOf st).size) (hfl:failedOf st=none)
  (h:∀st',kindOf st'=kindOf st->failedOf st'=none->pendingOf st'=((pendingOf st).setIfInBounds i (sa,na+nb,pw)).eraseIdxIfInBounds (i+1)->(arrOf st').Perm (arrOf st)->Q true st'):wpS (model prog w) A E s (mergeAt' i) Q st:=by
 obtain ⟨st1,e1⟩:∃st1:SortSt,st1=setPending st (((pendingOf st).setIfInBounds i (sa,na+nb,pw)).eraseIdxIfInBounds (i+1)):=⟨_,rfl⟩;have ka:kindOf st1=kindOf st:=by rw [e1]
 have fa:failedOf st1=failedOf st:=by rw [e1]
 have pa:pendingOf st1=((pendingOf st).setIfInBounds i (sa,na+nb,pw)).eraseIdxIfInBounds (i+1):=by rw [e1]
 have aa:arrOf st1=arrOf st:=by rw [e1]
 have plain:Q true st1:=h st1 ka (fa.trans hfl) pa (by rw [aa]);refine qAF (qBM ?_);show wpS _ _ _ _ (match ((pendingOf st)[i]?,(pendingOf st)[i+1]?) with| _=>_) _ _;rw [hp1,hp2];refine qAF (w_set ?_);show wpS _ _ _ _ _ _ (setPending st (((pendingOf st).setIfInBounds i (sa,na+nb,pw)).eraseIdxIfInBounds (i+1)));rw [<-e1];obtain ⟨y0,ey0,hy0⟩:=al.at (show sa+na<(arrOf st).size by lia);refine qAF (zA8 ey0 ?_);refine qAF (w_gal C (ka.trans hk) hy0 (fun j hj=>al.at (by lia)) (show 0<na by lia) fun k hkn=>?_);show wpS _ _ _ _ (if (na - k==0)=true then _ else _) _ _
 by_cases c1:(na - k==0)=true
 ·rw [qAC c1];exact qAH plain
 rw [qAB c1];have c1:=zAl c1;obtain ⟨z,ez,hz'⟩:=al.at (show sa+k+(na - k) - 1<(arrOf st).size by lia);refine qAF (zA8 ez ?_);refine qAF (w_gal C (ka.trans hk) hz' (fun j hj=>al.at (by lia)) (show nb - 1<nb by lia) fun m hmn=>?_);show wpS _ _ _ _ (if (m==0)=true then _ else _) _ _
 by_cases c2:(m==0)=true
 ·rw [qAC c2];exact qAH plain
 rw [qAB c2];have c2:=zAl c2;have zX:((arrOf st).extract (sa+k) (sa+na)).size=na - k:=by simp;lia
 have zY:((arrOf st).extract (sa+na) (sa+na+m)).size=m:=by simp;lia
 have fin:∀(r:Array Keyed) (st2:SortSt),Like st1 st2->Fn ((arrOf st).extract (sa+k) (sa+na)) ((arrOf st).extract (sa+na) (sa+na+m)) r ->
   wpS (model prog w) A E s (modify (fun s:SortSt=>SortSt.mk' (kindOf s) (r.toList.zipIdx.foldl (fun a x=>match x with| (p,j)=>a.setIfInBounds (sa+k+j) p) (arrOf s)) (pendingOf s) (gallopOf s) (failedOf s)) >>= fun _=>(get:StateT SortSt Sem SortSt) >>= fun s=>pure (failedOf s).isNone) Q st2:=fun r st2 L F=>by
  have ar2:arrOf st2=arrOf st:=L.ar.trans aa;have fl2:failedOf st2=none:=L.fl.trans (fa.trans hfl)
  have lr:r.toList.length=na - k+m:=by
   have:=F fun _=>true;simp only [List.countP_true,qBo,zX,zY] at this;simpa using this
  have sp:=splice r.toList (arrOf st2) (sa+k) 0 (by rw [ar2];lia);rw [ar2,qCm,lr] at sp;refine qAF (qA6 (qAF (qBM ?_)));have e3:(failedOf st2).isNone=true:=by rw [fl2];rfl
  show wpS _ _ _ _ (pure (failedOf st2).isNone) _ _;rw [e3,ar2];generalize hR:(r.toList.zipIdx.foldl (fun a x=>match x with| (p,j)=>a.setIfInBounds (sa+k+j) p) (arrOf st))=R at sp;refine qAH (h _ (L.kd.trans ka) fl2 (L.pn.trans pa) ?_);show R.Perm (arrOf st);refine qCv.mpr (perm_ct fun p=>?_);have h1:=F p;have h2:=cd (a:=arrOf st) (show sa+k<=sa+na by lia) p;have h3:=cd (a:=arrOf st) (show sa+na<=sa+na+m by lia) p;have h4:=qAg (List.countP p) (qB5 (sa+k) (arrOf st).toList);rw [qBx] at h4;rw [sp,qBx,qBx,show sa+k+(na - k+m)=sa+na+m by lia];lia
 show wpS _ _ _ _ (if na - k<=m then _ else _) _ _
 by_cases c3:na - k<=m
 ·rw [qAC c3];exact qAF (w_mLo (a:=(arrOf st).extract (sa+k) (sa+na)) (b:=(arrOf st).extract (sa+na) (sa+na+m)) C (ka.trans hk) (zIs al _ _) (zIs al _ _) (by rw [zX];lia) (by rw [zY];lia) fun r st2 L F=>fin r st2 L F)
 ·rw [qAB c3];exact qAF (w_mHi (a:=(arrOf st).extract (sa+k) (sa+na)) (b:=(arrOf st).extract (sa+na) (sa+na+m)) C (ka.trans hk) (zIs al _ _) (zIs al _ _) (by rw [zX];lia) (by rw [zY];lia) fun r st2 L F=>fin r st2 L F)
end
def Ch:List (Nat×Nat×Nat)->Nat->Nat->Prop
 | [],s,e=>s=e
 | (a,n,_)::r,s,e=>a=s/\1<=n/\Ch r (s+n) e
theorem Ch.app {P Q:List (Nat×Nat×Nat)}:∀{s e:Nat},Ch (P++Q) s e↔∃m,Ch P s m/\Ch Q m e:=by
 induction P with
 | nil=>intro s e;exact ⟨fun h=>⟨s,rfl,h⟩,fun ⟨m,h1,h2⟩=>by have h1:s=m:=h1;rw [h1];exact h2⟩
 | cons x P ih =>
  obtain ⟨a,n,q⟩:=x;intro s e;constructor
  ·rintro ⟨h1,h2,h3⟩;obtain ⟨m,k1,k2⟩:=ih.mp h3;exact ⟨m,⟨h1,h2,k1⟩,k2⟩
  ·rintro ⟨m,⟨h1,h2,h3⟩,h4⟩;exact ⟨h1,h2,ih.mpr ⟨m,h3,h4⟩⟩
theorem Ch.bnd:∀{P:List (Nat×Nat×Nat)} {s e:Nat},Ch P s e->s+P.length<=e
 | [],s,e,h=>qCF h
 | (a,n,t)::r,s,e,h=>by
  have:=Ch.bnd h.2.2;have:=h.2.1;rw [qAZ];lia
theorem set_erase (P:List α) (x y v:α) (T:List α):((P++x::y::T).set P.length v).eraseIdx (P.length+1)=P++v::T:=by
 induction P with
 | nil=>rfl
 | cons p P ih =>
  show p::((P++x::y::T).set P.length v).eraseIdx (P.length+1)=p::(P++v::T);rw [ih]
theorem two_at :∀{L:List α} {i:Nat},i+1<L.length->∃P x y T,L=P++x::y::T/\P.length=i
 | [],i,h=>by simp at h
 | [_],i,h=>by simp at h
 | a::b::L,0,_=>⟨[],a,b,L,rfl,rfl⟩
 | a::b::L,i+1,h=>by
  obtain ⟨P,x,y,T,e,l⟩:=two_at (L:=b::L) (i:=i) (by simp at h ⊢;lia);exact ⟨a::P,x,y,T,by rw [e];rfl,by simp [l]⟩
theorem ch_map:∀{L L':List (Nat×Nat×Nat)} {s e:Nat},L'.map (fun q=>(q.1,q.2.1))=L.map (fun q=>(q.1,q.2.1))->Ch L s e->Ch L' s e
 | [],[],_,_,_,h=>h
 | [],_::_,_,_,h,_=>by simp at h
 | _::_,[],_,_,h,_=>by simp at h
 | (a,n,t)::r,(b,m,u)::r',s,e,h,c=>by
  simp at h;obtain ⟨⟨h1,h2⟩,h3⟩:=h;obtain ⟨c1,c2,c3⟩:=c;subst h1;subst h2;exact ⟨c1,c2,ch_map (by simpa using h3) c3⟩
theorem mod_map {f:Nat×Nat×Nat->Nat×Nat×Nat} (hf:∀q,(f q).1=q.1/\(f q).2.1=q.2.1) (p:Array (Nat×Nat×Nat)) (i:Nat):(p.modify i f).toList.map (fun q=>(q.1,q.2.1))=p.toList.map (fun q=>(q.1,q.2.1)):=by
 apply List.ext_getElem?;intro k;rw [qAX,qAX,qAm,qAm,Array.getElem?_modify];split
 ·cases h:p[k]? with
  | none=>rfl
  | some q =>
   have:=hf q;simp [this.1,this.2]
 ·rfl
section
variable {prog:Program} {w:World} {A:Around} {E:Value->Shared->Prop} {s:Shared} {kd:SortKind} {κ:KeyKind} {a₀:Array Keyed}
structure Rn (kd:SortKind) (a₀:Array Keyed) (lo:Nat) (st:SortSt):Prop where
 kd:kindOf st=kd
 fl:failedOf st=none
 perm:(arrOf st).Perm a₀
 ch:Ch (pendingOf st).toList 0 lo
theorem Rn.all (R:Rn kd a₀ lo st) (h:∀x∈a₀.toList,Has κ x):All κ st:=fun x hx=>h x ((qCv.mp R.perm).mem_iff.mp hx)
theorem w_merge {Q:Bool->SortSt->Prop} (C:CmpOk prog w A s kd κ) (ha:∀x∈a₀.toList,Has κ x) (R:Rn kd a₀ lo st) (hl:lo<=a₀.size) (hi:i+1<(pendingOf st).size)
  (h:∀st',Rn kd a₀ lo st'->(pendingOf st').size+1=(pendingOf st).size->Q true st'):wpS (model prog w) A E s (mergeAt' i) Q st:=by
 obtain ⟨P,⟨sa,na,pw⟩,⟨sb,nb,pw2⟩,T,e,l⟩:=two_at (L:=(pendingOf st).toList) (i:=i) (by simpa using hi);have hz:(arrOf st).size=a₀.size:=R.perm.size_eq;have ch:=R.ch;rw [e] at ch;obtain ⟨m,c1,d1,d2,d3,d4,d5⟩:=Ch.app.mp ch;subst d1;subst d3;have b2:=d5.bnd
 have e1:(pendingOf st)[i]?=some (sa,na,pw):=by
  rw [<-qAm,e,<-l];simp
 have e2:(pendingOf st)[i+1]?=some (sa+na,nb,pw2):=by
  rw [<-qAm,e,<-l,qCI (by lia)];simp
 refine w_mergeAt C R.kd (R.all ha) e1 e2 d2 d4 (by lia) R.fl fun st' k1 k2 k3 k4=>?_
 have ep:(pendingOf st').toList=P++(sa,na+nb,pw)::T:=by
  have hb:i+1<((pendingOf st).setIfInBounds i (sa,na+nb,pw)).size:=by rw [qC7];exact hi
  rw [k3,Array.eraseIdxIfInBounds,dif_pos hb,Array.toList_eraseIdx,Array.toList_setIfInBounds,e,<-l];exact set_erase P _ _ _ T
 refine h st' ⟨k1.trans R.kd,k2,k4.trans R.perm,?_⟩ ?_
 ·rw [ep];refine Ch.app.mpr ⟨sa,c1,rfl,by lia,?_⟩;rw [show sa+(na+nb)=sa+na+nb by lia];exact d5
 ·have h1:=qAg List.length ep;have h2:=qAg List.length e;simp at h1 h2;lia
theorem Rn.modify (R:Rn kd a₀ lo st) {f:Nat×Nat×Nat->Nat×Nat×Nat} (hf:∀q,(f q).1=q.1/\(f q).2.1=q.2.1) (i:Nat):Rn kd a₀ lo (setPending st ((pendingOf st).modify i f)):=⟨R.kd,R.fl,R.perm,ch_map (mod_map hf (pendingOf st) i) R.ch⟩
theorem ite_less (c:Prop) [Decidable c] (a:Nat):(if c then a - 1 else a)<=a:=by split<;>lia
theorem w_sort {Q:Unit->SortSt->Prop} (C:CmpOk prog w A s kd κ) (ha:∀x∈a₀.toList,Has κ x) (hk:kindOf st=kd) (hf:failedOf st=none) (hp:(arrOf st).Perm a₀) (hpn:pendingOf st=#[]) (h1:1<=a₀.size)
  (h:∀st',failedOf st'=none->(arrOf st').Perm a₀->Q () st'):wpS (model prog w) A E s sortRuns' Q st:=by
 have hz0:(arrOf st).size=a₀.size:=hp.size_eq;have hz0p:(arrOf st).size=a₀.size:=hz0;unfold arrOf at hz0p;refine qAF (qBM ?_);have R0:Rn kd a₀ 0 st:=⟨hk,hf,hp,by rw [hpn];rfl⟩;refine qAF (qA4 (qAx (I:=fun x c st'=>∃lo,c=(none,lo)/\Rn kd a₀ lo st'/\lo<=a₀.size/\(x<=lo\/lo=a₀.size)) (Q:=fun c st'=>∃lo,c=(none,lo)/\Rn kd a₀ a₀.size st') ?step ?fin ⟨0,rfl,R0,by lia,.inl (by lia)⟩) ?post)
 case fin =>
  rintro c st' ⟨lo,rfl,R,l1,l2⟩
  have:lo=a₀.size:=by
   have:max 0 (arrOf st).size=a₀.size:=by lia
   rcases l2 with z| z
   ·lia
   ·exact z
  subst this;exact ⟨_,rfl,R⟩
 case step =>
  rintro x c st1 _ hx ⟨lo,rfl,R,l1,l2⟩;show wpS _ _ _ _ (if lo>=(arrOf st).size then _ else _) _ _
  by_cases g:lo>=(arrOf st).size
  ·rw [qAC g];have:lo=a₀.size:=by lia
   subst this;exact qAH ⟨_,rfl,R⟩
  rw [qAB g];have hz1:(arrOf st1).size=a₀.size:=R.perm.size_eq;refine qAF (w_count C R.kd (R.all ha) (by rw [hz0,hz1];lia) (by lia) fun m st2 f2 m1 m2=>?_);have keepR:∀{st':SortSt},Fr st1 st'->Rn kd a₀ lo st':=fun {st'} f=>⟨f.kd.trans R.kd,f.fl.trans R.fl,f.perm.trans R.perm,by rw [f.pn];exact R.ch⟩
  have push:∀{n:Nat} {st4:SortSt},1<=n->Rn kd a₀ lo st4->Rn kd a₀ (lo+n) (setPending st4 ((pendingOf st4).push (lo,n,0))):=fun {n st4} n1 R4=>by
   refine ⟨R4.kd,R4.fl,R4.perm,?_⟩;show Ch ((pendingOf st4).push (lo,n,0)).toList 0 (lo+n);rw [qCN];exact Ch.app.mpr ⟨lo,R4.ch,rfl,n1,rfl⟩
  have loop:∀(st4:SortSt) (pw:Nat),Rn kd a₀ lo st4->∀(R:ForInStep (Option Unit×Unit)->SortSt->Prop),(∀st',Rn kd a₀ lo st'->R (.done (none,())) st'/\R (.yield (none,())) st') ->
    wpS (model prog w) A E s ((get:StateT SortSt Sem SortSt) >>= fun v=>match (if (pendingOf v).size>1 then (pendingOf v)[(pendingOf v).size - 2]? else none) with
       | some (_,_,older)=>(if older<=pw then pure (ForInStep.done (none,())) else (mergeAt' ((pendingOf v).size - 2) >>= fun b=>if (!b)=true then pure (ForInStep.done (some (),())) else pure (ForInStep.yield (none,()))))
       | _=>pure (ForInStep.done (none,()))) R st4:=by
   intro st4 pw R4 Rr hR;refine qAF (qBM ?_)
   by_cases c1:(pendingOf st4).size>1
   ·rw [qAC c1];rcases ho:(pendingOf st4)[(pendingOf st4).size - 2]? with _| ⟨o1,o2,o3⟩
    ·exact qAH (hR st4 R4).1
    ·show wpS _ _ _ _ (if o3<=pw then _ else _) _ _
     by_cases c2:o3<=pw
     ·rw [qAC c2];exact qAH (hR st4 R4).1
     ·rw [qAB c2];exact qAF (w_merge C ha R4 l1 (by lia) fun st5 R5 _=>qAH (hR st5 R5).2)
   ·rw [qAB c1];exact qAH (hR st4 R4).1
  have ends:∀{n:Nat} {st5:SortSt},1<=n->Rn kd a₀ (lo+n) st5->lo+n<=a₀.size->∃l,((none,lo+n):Option Unit×Nat)=(none,l)/\Rn kd a₀ l st5/\l<=a₀.size/\(x+1<=l\/l=a₀.size):=fun {n st5} n1 R5 n2=>⟨_,rfl,R5,n2,.inl (by lia)⟩
  by_cases c1:m<minRun' (arrOf st).size (arrOf st).size 0
  ·refine (show wpS _ _ _ _ (if m<minRun' (arrOf st).size (arrOf st).size 0 then _ else _) _ _ from ?_);rw [qAC c1];refine qAF (qBi (qBO ⟨rfl,?_⟩));refine qAF (w_ins (n:=min ((arrOf st).size - lo) (minRun' (arrOf st).size (arrOf st).size 0)) C (f2.kd.trans R.kd) ((R.all ha).fr f2) (by rw [f2.size,hz1];lia) fun st3 f3=>?_);show wpS _ _ _ _ (if false=true then _ else _) _ _;rw [qAB (by decide)];have R3:=keepR (f2.trans f3);have n1:1<=min ((arrOf st).size - lo) (minRun' (arrOf st).size (arrOf st).size 0):=by lia
   have n2:lo+min ((arrOf st).size - lo) (minRun' (arrOf st).size (arrOf st).size 0)<=a₀.size:=by lia
   refine qAF (qBM ?_);rcases hb:(pendingOf st3).back? with _| ⟨s1,q1,t1⟩
   ·exact qAF (qA6 (qAH (ends n1 (push n1 R3) n2)))
   ·refine qAF (qA4 (qAx (I:=fun y c st'=>c=(none,())/\Rn kd a₀ lo st') (Q:=fun c st'=>c=(none,())/\Rn kd a₀ lo st') ?s2 (fun c st' h=>h) ⟨rfl,R3⟩) ?p2)
    case p2 =>
     rintro c st4 ⟨rfl,R4⟩;exact qAF (qA6 (qAF (qA6 (qAH (ends n1 (push n1 (R4.modify (f:=fun x=>match x with| (t,len,_)=>(t,len,power' (arrOf st).size (2*s1+q1) (2*s1+q1+q1+min ((arrOf st).size - lo) (minRun' (arrOf st).size (arrOf st).size 0)) (arrOf st).size)) (fun q=>⟨rfl,rfl⟩) ((pendingOf st4).size - 1))) n2)))))
    case s2 =>
     rintro y c st4 _ hy ⟨rfl,R4⟩;exact loop st4 _ R4 _ fun st' R'=>⟨⟨rfl,R'⟩,⟨rfl,R'⟩⟩
  ·refine (show wpS _ _ _ _ (if m<minRun' (arrOf st).size (arrOf st).size 0 then _ else _) _ _ from ?_);rw [qAB c1];have R3:=keepR f2;have n2:lo+m<=a₀.size:=by lia
   refine qAF (qBM ?_);rcases hb:(pendingOf st2).back? with _| ⟨s1,q1,t1⟩
   ·exact qAF (qA6 (qAH (ends m1 (push m1 R3) n2)))
   ·refine qAF (qA4 (qAx (I:=fun y c st'=>c=(none,())/\Rn kd a₀ lo st') (Q:=fun c st'=>c=(none,())/\Rn kd a₀ lo st') ?s2 (fun c st' h=>h) ⟨rfl,R3⟩) ?p2)
    case p2 =>
     rintro c st4 ⟨rfl,R4⟩;exact qAF (qA6 (qAF (qA6 (qAH (ends m1 (push m1 (R4.modify (f:=fun x=>match x with| (t,len,_)=>(t,len,power' (arrOf st).size (2*s1+q1) (2*s1+q1+q1+m) (arrOf st).size)) (fun q=>⟨rfl,rfl⟩) ((pendingOf st4).size - 1))) n2)))))
    case s2 =>
     rintro y c st4 _ hy ⟨rfl,R4⟩;exact loop st4 _ R4 _ fun st' R'=>⟨⟨rfl,R'⟩,⟨rfl,R'⟩⟩
 case post =>
  rintro c st1 ⟨lo,rfl,R⟩;refine qAF (qA4 (qAx (I:=fun x c st'=>c=(none,())/\Rn kd a₀ a₀.size st') (Q:=fun c st'=>c=(none,())/\Rn kd a₀ a₀.size st') ?s3 (fun c st' h=>h) ⟨rfl,R⟩) ?p3)
  case p3 =>
   rintro c st' ⟨rfl,R'⟩;exact qAH (h st' R'.fl R'.perm)
  case s3 =>
   rintro y c st2 _ hy ⟨rfl,R2⟩;refine qAF (qBM ?_);show wpS _ _ _ _ (if (pendingOf st2).size<=1 then _ else _) _ _
   by_cases c1:(pendingOf st2).size<=1
   ·rw [qAC c1];exact qAH ⟨rfl,R2⟩
   ·rw [qAB c1];refine qAF (w_merge C ha R2 (qAG _) ?_ fun st5 R5 _=>qAH ⟨rfl,R5⟩);exact Nat.lt_of_le_of_lt (Nat.add_le_add_right (ite_less _ _) 1) (show (pendingOf st2).size - 2+1<(pendingOf st2).size by lia)
end
end TimP
namespace ST
open PySem PyProof.Rows PySem.W
section
variable {prog:Program} {w:World} {A:Around} {E:Value->Shared->Prop} {s:Shared}
theorem w_lsortP {κ:PyProof.Rows.KeyKind} {kd:SortKind} {a:Addr} {vs:List Value} {n:Nat} {P:Fin->Shared->Prop} (ho:s.heap.get? a=some (seqObj "list" vs.toArray n)) (hz:vs.length<=4096)
  (hS:∀h',(∀b o,b≠a->s.heap.get? b=some o->h'.get? b=some o)->Sortable prog w A κ kd vs {s with heap:=h'})
  (h:∀out:Array Value,out.toList.Perm vs->P (.done (.ret .none)) {s with heap:=sortedHeap s.heap a vs out}) :
  wpAny (model prog w) A (Builtin.«list.sort» ⟨[.ref a],[]⟩) P E s:=by
 rw [list_sort_plain];have hsl:(4096:Nat)<=sizeLine:=by decide +kernel
 have ha:a<s.heap.objs.size:=qAI ho;have hsz:vs.toArray.size=vs.length:=by simp
 refine qAA (listItems_at ho rfl ?_);refine qAA (listUpdate_at ho rfl ?_ (by lia) (qAf _));have h1:(s.heap.update a (Obj.mapSeq fun _=>#[])).get? a=some (seqObj "list" #[] _):=get?_update_seq ho fun _=>#[];refine qAA (seqEpoch_at h1 rfl ?_);refine qAA (wpAny_newTuple ?_ (by show vs.toArray.toList.length<=_;simp;lia));refine qAA (wpAny_newList ?_ (qAf _));refine qAv ?_;have h6:=qAJ (seqObj "list" #[] 0) (qAJ (seqObj "tuple" vs.toArray 0) h1);change wpAny (model prog w) A _ P E {s with heap:=((s.heap.update a (Obj.mapSeq fun _=>#[])).push (seqObj "tuple" vs.toArray 0)).push (seqObj "list" #[] 0)};dsimp only
 have S6:=hS (((s.heap.update a (Obj.mapSeq fun _=>#[])).push (seqObj "tuple" vs.toArray 0)).push (seqObj "list" #[] 0)) fun b o hb q=>by
  refine qAJ _ (qAJ _ ?_);rw [qBg _ _ (qAh hb)];exact q
 by_cases c:vs.toArray.size<2
 ·rw [qAC c,qAC c];refine qAA (qAD ?_);rw [StateT.run_pure];refine qAA (qAD ?_);dsimp only;refine qAA (seqEpoch_at h6 rfl ?_);refine qAA (listUpdate_at h6 rfl ?_ (qAf _) (by rw [Array.size_map];show (pairsOf vs).size<=_;rw [pairsOf_size];lia));simp only [bne_self_eq_false,qCX,qBW];have e:(arrOf (SortSt.mk' general' (vs.toArray.zip vs.toArray) #[] 7 none)).Perm (pairsOf vs):=Array.Perm.refl _;exact qAD (h _ (zHz e))
 ·rw [qAB c,qAB c];refine qAA (S6.kind (by lia) _ _ ?_)
  have W:=TimP.w_sort (E:=E) (a₀:=pairsOf vs) (st:=SortSt.mk' kd (vs.toArray.zip vs.toArray) #[] 7 none) (Q:=fun _ st'=>failedOf st'=none/\(arrOf st').Perm (pairsOf vs)) S6.cmp (fun p hp=>by
   rw [pairsOf_toList] at hp;exact S6.has _ (mem_zip_self hp).2) rfl rfl (Array.Perm.refl _) rfl (by rw [pairsOf_size];lia) fun st' q1 q2=>⟨q1,q2⟩
  refine qAA (qAt W ?_ fun _ _ e=>e);rintro ⟨⟨⟩,st'⟩ s' ⟨rfl,q1,q2⟩;dsimp only;refine qAA (seqEpoch_at h6 rfl ?_);have zz:=(zHz q2).length_eq;refine qAA (listUpdate_at h6 rfl ?_ (qAf _) (by simp at zz ⊢;lia));rw [q1];simp only [bne_self_eq_false,qCX,qBW];exact qAD (h _ (zHz q2))
theorem w_sortedCP {κ:PyProof.Rows.KeyKind} {kd:SortKind} {v:Value} {Q:Value->Shared->Prop} {J:List Value->Shared->Prop} (hc:wpAny (model prog w) A.in1 (collect v) J E s)
  (hJ:∀vs s1,J vs s1->vs.length<=4096/\(∀h',Up s1.heap h'->Sortable prog w A.in1.in1 κ kd vs {s1 with heap:=h'}) /\
   ∀(out:List Value) c h',out.Perm vs->h'.get? s1.heap.objs.size=some (seqObj "list" out.toArray c)->Up s1.heap h'->Q (.ref s1.heap.objs.size) {s1 with heap:=h'}) :
  wpAny (model prog w) A (call (.builtin "sorted") [v]) Q E s:=by
 refine Calls.call_function_entry kind_sorted plain_sorted entry_sorted (args_sorted1 _) ?_;unfold Builtin.«sorted»;refine qAA (m:=checkCount "sorted" 1 1 _) (qAD ?_);refine qAA (qAt hc (fun vs s1 j=>?_) fun _ _ x=>x);obtain ⟨j1,j2,j3⟩:=hJ vs s1 j;have hsl:(4096:Nat)<=sizeLine:=by decide +kernel
 refine qAA (wpAny_newList ?_ (by lia));have hD:(s1.heap.push (seqObj "list" vs.toArray 0)).get? s1.heap.objs.size=some (seqObj "list" vs.toArray 0):=qAe _ rfl;change wpAny _ _ _ _ _ {s1 with heap:=s1.heap.push (seqObj "list" vs.toArray 0)};have ne:∀b o,s1.heap.get? b=some o->b≠s1.heap.objs.size:=fun b o q=>qAN (qAI q);refine qAA (qAv (qBD slot_list_sort ⟨_,hD,rfl⟩ entry_list_sort ?body (args_list_sort _)))
 case body =>
  refine w_lsortP (s:={s1 with heap:=s1.heap.push (seqObj "list" vs.toArray 0)}) hD j1 (fun h' q=>j2 h' fun b o e=>q b o (ne b o e) (qAJ _ e)) fun out p1=>?_;obtain ⟨⟨c,g1⟩,g2⟩:=srt_heap (out:=out) hD;refine ⟨_,rfl,qAD ⟨_,rfl,j3 out.toList c _ p1 (by simpa using g1) fun b o e=>g2 b o (ne b o e) (qAJ _ e)⟩⟩
end
end ST
namespace L2
open PySem PySem.Spec PyProof.Rows
section
variable {X:Cx} {pins:List (Addr×Obj)} {s:Shared} {σ:St} {H:Hp}
theorem zG9 {k:Nat} (hr:Room k X.A):zCc X (.builtin "sorted") (fun xs H Q=>∃(a:Addr) (ys:List (List Str×Addr)),xs=[.ref a]/\H a=some (TSt X.prog X.w a ys)/\(∀p∈ys,RowT X.K H p)/\(∀p∈ys,p.1≠[])/\ys.length<=306 /\
  ∀(b:Addr) (zs:List (List Str×Addr)),H b=none->zs.Perm ys->Q (.ref b) (upd H b (.lst (zs.map fun p=>V.ref p.2)))):=by
 intro pins s σ H xs us Q I r h;obtain ⟨a,ys,rfl,ha,hk,hne,hc,q⟩:=h;obtain ⟨u,rfl,rx⟩:=zHt r
 cases rx
 obtain ⟨⟨o,es,ep,t,z1,z2,z3,z4,z5,z6,z7,z8⟩,_⟩:=I.hok a _ ha;have Z:ST.SetX (PySem.strKind X.prog X.w) s.heap a ys o es ep t:=⟨z1,z2,z3,z4,z5,z6,z7,fun p hp=>I.rowT (hk p hp),z8⟩
 refine ST.w_sortedCP (kd:=tuples' true) (κ:=ST.tupK fun b=>(ys.find? fun p=>p.2==b).map (·.1))
  (J:=fun vs s1=>vs.Perm (ys.map fun p=>Value.ref p.2)/\(∀b o,s.heap.get? b=some o->s1.heap.get? b=some o)/\s1.gens=s.gens/\s1.os=s.os)
  (ST.w_collect (A:=X.A.in1) hr.hd Z hc fun s' vs v1 v2 v3 v4 _=>⟨v1,v2,v3,v4⟩) fun vs s1 ⟨v1,v2,v3,v4⟩=>?_
 have hvl:vs.length=ys.length:=by rw [v1.length_eq,qAE]
 refine ⟨by lia,fun h' up=>ST.tups_sortable v1 (fun p hp=>ST.key_kept (I.rowT (hk p hp)) fun o e=>up _ o (v2 _ o e)) hne,fun out c h' p1 p3 up=>?_⟩;obtain ⟨zs,e1,e2⟩:=perm_back _ (p1.trans v1);subst e2;have I1:Inv X pins σ H s1:=I.call' (ch:=[]) v4 (Un.kept v2) (I.hok.kept v2) (by rw [v3];exact I.bare) (fun _ z=>nomatch z)
 have hz:(zs.map fun p=>V.ref p.2).length<=sizeLine:=by
  rw [qAE,e1.length_eq];exact qAW hc (by decide +kernel)
 exact ⟨.ref s1.heap.objs.size,_,I1.laid (t':=s1.toks) up (qAG _) (show zA0 X.prog X.w _ h' _ (.lst (zs.map fun p=>V.ref p.2)) from ⟨hz,_,c,refs_vals zs,p3⟩),rfl,q _ zs (I1.hok.fresh (qAG _)) e1⟩
end
end L2
namespace My
open PySem L2
variable {P:Program}{w:World}{K:PySem.W.Frag}{mg:Str->Option Value}{base:Heap}{C:Addr}
variable {X:Cx}{K:PySem.W.Frag}{pos:Pos}{f l C:Addr}{fd:FuncData}{H H' H0:Hp}{b:Int}{v:V}{sp:Sp}{J:JR}
theorem zF0 (f:Str) (v:V):∀fs:List (Str×V),(putF f v fs).length<=fs.length+1
 | []=>qAG _
 | (g,x)::r=>by
  unfold putF;split
  ·exact qBf _
  ·have:=zF0 f v r;simp only [qAZ];lia
theorem call_setTP {P:Program} {w:World} {K:PySem.W.Frag} {k:Nat} (hr:Room k X.A) (hP:X.prog=P:=by rfl) (hw:X.w=w:=by rfl) (hK:X.K=K:=by rfl):zCc X (.type "set") (fun xs H Q=>∃(l:Addr) (ks:List (List Str×Addr)),xs=[.ref l]/\SqL K H l (ks.map fun p=>V.ref p.2)/\(∀p∈ks,RowT K H p)/\ks.length<=306 /\
  ∀a ys,H a=none->(∀p∈ys,p∈ks)->(∀p∈ks,p.1∈ys.map (·.1))->(ys.map (·.1)).Nodup->ys.length<=ks.length->Q (.ref a) (upd H a (TSt P w a ys))):=by
 subst hP hw hK;exact call_setT hr
theorem zHa {P:Program} {w:World} {K:PySem.W.Frag} {k:Nat} (hr:Room k X.A) (hP:X.prog=P:=by rfl) (hw:X.w=w:=by rfl) (hK:X.K=K:=by rfl):zCc X (.builtin "sorted") (fun xs H Q=>∃(a:Addr) (ys:List (List Str×Addr)),xs=[.ref a]/\H a=some (TSt P w a ys)/\(∀p∈ys,RowT K H p)/\(∀p∈ys,p.1≠[])/\ys.length<=306 /\
  ∀(b:Addr) (zs:List (List Str×Addr)),H b=none->zs.Perm ys->Q (.ref b) (upd H b (.lst (zs.map fun p=>V.ref p.2)))):=by
 subst hP hw hK;exact zG9 hr
theorem pg_tupK {K:PySem.W.Frag} {es:List Expr} {k:Nat} {t:TGs} {n:Nat} (hc:X.calm=true) (h:PGs X es t)
  (hn:(assignEach es X.env).length=n:=by rfl) (hst:(assignEach es X.env).findIdx? (·.1)=none:=by rfl) (hK:X.K=K:=by rfl):PG X (.Tuple es k pos) (gTup K n t):=by
 subst hK;exact zGe hc h hn hst
theorem mem_told {qs:List (List Str×Addr)} {n x:Str}:x∈told qs n↔∃q∈qs,snd q=n/\fst q=x:=by
 unfold told;simp only [qAK,qAs,decide_eq_true_eq];exact ⟨fun ⟨q,⟨a,b⟩,c⟩=>⟨q,a,b,c⟩,fun ⟨q,a,b,c⟩=>⟨q,⟨a,b⟩,c⟩⟩
theorem fst_of {q q':List Str×Addr} (h:q.1=q'.1):fst q=fst q'/\snd q=snd q':=by unfold fst snd;rw [h];exact ⟨rfl,rfl⟩
section
structure Good (ns:List Str) (qs:List (List Str×Addr)) (r:Str->Nat):Prop where
 nm:∀n∈ns,zHb n
 nd:ns.Nodup
 few:ns.length<=20
 qfew:qs.length<=306
 qin:∀q∈qs,∀x∈q.1,x∈ns
 rk:∀q∈qs,r (fst q)<r (snd q)
structure JNew (H:Hp) (J:JR):Prop where
 r:Fre H J.r
 p:Fre H J.p
 e:Fre H J.e
 z:∀q∈J.zs,Fre H q.2
 s:∀n∈J.D,Fre H (J.fa n)
def spInit (C:Addr):Sp:=fun vs H Q _=>∃(x dx l m:Addr) (ns:List Str) (qs:List (List Str×Addr)) (r:Str->Nat),vs=[.ref x,.ref l,.ref m]/\H x=some (.ins C dx [])/\Txs H l ns/\Ords H m qs/\Good ns qs r /\
 ∀J H',JobsAt C H' x J->JNew H J->J.ns=ns->(∀k,k∈J.zs.map (·.1)↔k∈qs.map (·.1))->Kp [x] H H'->Q .non H'
abbrev zBm:Stmt:=inClass (top 51) 0
theorem zFx:FnScope ["self", "names", "orders"] ["self", "names", "orders"] (zAe zBm):=fnS
theorem ok_Jobs_init (F:Fun K "__init__" "Jobs.__init__" zBm f fd) (T:Txt K mg) (U:JC K mg C) (C_check_names:Cal P w K mg base "check_names" 2 ["names"] zFs) (C_check_parts:Cal P w K mg base "check_parts" 3 ["names", "orders"] zFr)
  (C_all_ahead:Cal P w K mg base "all_ahead" 2 ["names", "told"] zHg) (C_told_ahead:Cal P w K mg base "told_ahead" 1 ["names", "orders"] zGa):FnOk P w K mg base CX0 4 f fd ["self", "names", "orders"] (spInit C):=by
 refine F.ok zFx (fun vs H Q E h=>?_) (fun cdv A outer s H vs Q E hr h=>?_)
 ·obtain ⟨x,dx,l,m,ns,qs,r,rfl,_⟩:=h;rfl
 ·obtain ⟨x,dx,l,m,ns,qs,r,rfl,hx,hl,hm,G,k⟩:=h;have HR_check_parts:=hr;have HR_check_names:=hr.mono (j:=2) (by decide);have HR_all_ahead:=hr.mono (j:=2) (by decide);have HR_told_ahead:=hr.mono (j:=1) (by decide)
  refine ⟨_,(zAc (zAq (zAg C_check_names HR_check_names rfl (zAa (pv 1) zAb)))
   (zAc (zAq (zAg C_check_parts HR_check_parts rfl (zAa (pv 1) (zAa (pv 2) zAb))))
   (zAc (ps_fld (pv 0) (zAt zBv (by rfl) T.z_list zGy (zAa (pv 1) zAb)) rfl)
   (zAc (ps_fld (pv 0) (zAk (zHa (P:=P) (w:=w) (K:=K) HR_told_ahead) (by rfl) T.z_sorted bo_sorted (zAa (zAt (call_setTP (P:=P) (w:=w) (K:=K) HR_told_ahead) (by rfl) T.z_set bo_set (zAa (zB3 rfl (zCa (sc:=zAe zBm) rfl (by decide +kernel)) (Draws.own (x:= "one") (Draws.own (x:= "other") Draws.nil)) (zAv (pv 2)) (fun _ _ _ _=>(pg_tupK (K:=K) (n:=2) rfl (zAp (pgB (i:=0)) (zAp (pgB (i:=1)) zCu)))) (fun _ _ _ _=>zEe) (fun _ _ _ _=>(zCn (zAa (pv 0) (zAa (pv 1) zAb))))) zAb)) zAb)) rfl)
   (zAd (ps_fld (pv 0) (zAg C_all_ahead HR_all_ahead rfl (zAa (zGf (pv 0) rfl) (zAa (zAg C_told_ahead HR_told_ahead rfl (zAa (zGf (pv 0) rfl) (zAa (zGf (pv 0) rfl) zAb))) zAb))) rfl)))))),?_⟩
  refine ⟨_,rfl,l,ns,rfl,hl,G.few,G.nm,G.nd,fun H1 k1=>?_⟩;have hm1:=hm.kp k1 (by simp) (by simp);refine ⟨_,rfl,_,rfl,l,m,ns,qs,rfl,k1 l _ hl (by simp),hm1,G.qin,?_⟩;have hx1:=k1 x _ hx (by simp);refine ⟨_,rfl,_,_,rfl,.inl (SqL.of (k1 l _ hl (by simp))),fun r1 hr1=>?_⟩;have nxr:x≠r1:=ne_fre hr1 hx1;refine ⟨_,rfl,_,_,_,_,rfl,(upd_ne nxr).trans hx1,U.cl,U.n_row,(by decide),?_⟩
  have hm2:∀o1 o2,Ords (upd (upd H1 r1 o1) x o2) m qs:=fun o1 o2 =>
   ⟨(upd_ne (zBq hm1.top hx1 (fun z=>nomatch z))).trans ((upd_ne (ne_fre hr1 hm1.top)).trans hm1.top),fun q hq=>(upd_ne (zBq (hm1.row q hq) hx1 (fun z=>nomatch z))).trans ((upd_ne (ne_fre hr1 (hm1.row q hq))).trans (hm1.row q hq)),hm1.two⟩
  have hrow2:∀o2,Txs (upd (upd H1 r1 (.lst (ns.map V.str))) x o2) r1 ns:=fun o2=>(upd_ne nxr.symm).trans upd_same;have k2:∀o1 o2,Kp [x] H (upd (upd H1 r1 o1) x o2):=fun o1 o2=>Kp.put (Kp.new (k1.weak (by simp)) (k1.fre hr1 (by simp))) (by simp);have hx2:∀o1 o2,(upd (upd H1 r1 o1) x o2) x=some o2:=fun o1 o2=>upd_same;have hm2:=hm2 (.lst (ns.map V.str)) (.ins C dx (putF "row" (.ref r1) []));have hrow2:=hrow2 (.ins C dx (putF "row" (.ref r1) []));have k2:=k2 (.lst (ns.map V.str)) (.ins C dx (putF "row" (.ref r1) []));have hx2:=hx2 (.lst (ns.map V.str)) (.ins C dx (putF "row" (.ref r1) []));generalize hH2:upd (upd H1 r1 (.lst (ns.map V.str))) x (.ins C dx (putF "row" (.ref r1) []))=H2 at hm2 hrow2 k2 hx2 ⊢
  refine ⟨_,rfl,_,rfl,⟨_,SqL.of hm2.top⟩,fun B hB=>zB0 (qs.map fun q=>V.ref q.2) (fun i ys τ H3=>∃ks:List (List Str×Addr),(∃o0 o1,τ=[o0,o1])/\ys=(ks.map fun q=>V.ref q.2)/\ks.map (·.1)=(qs.take i).map (·.1)/\(∀q∈ks,H3 q.2=some (.tup (q.1.map V.str)))/\(∀q∈ks,Fre H2 q.2)/\Kp [] H2 H3/\H3 B=some (.lst ys))
   ⟨[],⟨_,_,rfl⟩,rfl,rfl,(fun q h=>nomatch h),(fun q h=>nomatch h),Kp.new Kp.refl hB,upd_same⟩ (fun i ys τ H3 ⟨_,_,_,_,_,_,k3,_⟩=>SqL.of (k3 m _ hm2.top (by simp))) ?_ ?_⟩
  ·rintro i v ys τ H3 hv ⟨ks,⟨o0,o1,rfl⟩,rfl,ek,hk,fk,k3,h3⟩;obtain ⟨q,eq,rfl⟩:=ref_at hv;have mq:=qAY eq;obtain ⟨a,b,eab⟩:=hm2.two q mq
   have hrow:H3 q.2=some (.tup [.str a,.str b]):=by
    have:=k3 q.2 _ (hm2.row q mq) (by simp);rw [eab] at this;exact this
   refine ⟨_,_,rfl,.inl (.inl hrow),rfl,_,_,rfl,_,_,rfl,rfl,?_⟩;have hlen:ks.length=(qs.take i).length:=by have:=qAg List.length ek;simpa using this
   refine ⟨_,rfl,_,rfl,(by walk_at "ln"),fun t ht=>?_⟩;have ft:Fre H3 t:=ht;have nBt:B≠t:=ne_fre ft h3;refine ⟨(upd_ne nBt).trans h3,?_,ks++[([a,b],t)],⟨_,_,rfl⟩,?_,?_,fun q' hq'=>?_,fun q' hq'=>?_,?_,?_⟩
   ·rw [qAE,hlen,qAj,qAV];have:=G.qfew;lia
   ·rw [qAM];rfl
   ·rw [qAM,ek,zAj eq,qAM,qAp,qAp,eab]
   ·rcases qAS.mp hq' with z| z
    ·exact (upd_ne (zBq (hk q' z) h3 (fun y=>nomatch y))).trans ((upd_ne (ne_fre ft (hk q' z))).trans (hk q' z))
    ·rw [qAL.mp z];exact (upd_ne nBt.symm).trans upd_same
   ·rcases qAS.mp hq' with z| z
    ·exact fk q' z
    ·rw [qAL.mp z];exact k3.fre ft (by simp)
   ·exact Kp.new (Kp.new k3 (k3.fre ft (by simp))) hB
   ·exact upd_same
  ·rintro ys τ H3 ⟨ks,_,rfl,ek,hk,fk,k3,h3⟩;have eT:qs.take (qs.map fun q=>V.ref q.2).length=qs:=by rw [qAE,qAu]
   rw [eT] at ek;have hlen:ks.length=qs.length:=by have:=qAg List.length ek;simpa using this
   have ktwo:∀q∈ks,∃a b,q.1=[a,b]:=fun q hq=>by
    have:q.1∈ks.map (·.1):=qAK.mpr ⟨q,hq,rfl⟩;rw [ek] at this;obtain ⟨q',hq',e⟩:=qAK.mp this;rw [<-e];exact hm2.two q' hq'
   refine ⟨B,ks,rfl,SqL.of h3,fun q hq=>.inl (.inl (hk q hq)),by rw [hlen];have:=G.qfew;lia,fun sa yk hsa y1 y2 y3 y4=>?_⟩;have fsa:Fre H3 sa:=hsa;refine ⟨sa,yk,rfl,upd_same,fun q hq=>.inl (.inl ((upd_ne (ne_fre fsa (hk q (y1 q hq)))).trans (hk q (y1 q hq)))),fun q hq=>?_,by have:=G.qfew;lia,fun p zs hp z1=>?_⟩
   ·obtain ⟨a,b,e⟩:=ktwo q (y1 q hq);rw [e];simp
   have fp:Fre (upd H3 sa (TSt P w sa yk)) p:=hp;have zk:∀q∈zs,q∈ks:=fun q hq=>y1 q (z1.mem_iff.mp hq)
   have zq:∀q∈zs,∃q'∈qs,q'.1=q.1:=fun q hq=>by
    have:q.1∈ks.map (·.1):=qAK.mpr ⟨q,zk q hq,rfl⟩;rw [ek] at this;exact qAK.mp this
   have zin:∀q∈zs,∀x∈q.1,x∈ns:=fun q hq x hx=>by
    obtain ⟨q',h1,h2⟩:=zq q hq;exact G.qin q' h1 x (by rw [h2];exact hx)
   have zrk:∀q∈zs,r (fst q)<r (snd q):=fun q hq=>by
    obtain ⟨q',h1,h2⟩:=zq q hq;obtain ⟨e1,e2⟩:=fst_of h2;rw [<-e1,<-e2];exact G.rk q' h1
   have zlen:zs.length<=306:=by rw [z1.length_eq];have:=G.qfew;lia
   have zset:∀k,k∈zs.map (·.1)↔k∈qs.map (·.1):=fun k=>by
    rw [<-ek,(z1.map (·.1)).mem_iff]
    exact ⟨fun h=>by
     obtain ⟨q,h1,h2⟩:=qAK.mp h;exact qAK.mpr ⟨q,y1 q h1,h2⟩,fun h=>by
     obtain ⟨q,h1,h2⟩:=qAK.mp h;rw [<-h2];exact y2 q h1⟩
   have k4:Kp [] H2 (upd (upd H3 sa (TSt P w sa yk)) p (.lst (zs.map fun q=>V.ref q.2))):=by
    have h1:Kp [] H2 (upd H3 sa (TSt P w sa yk)):=Kp.new k3 (k3.fre fsa (by simp));exact Kp.new h1 (h1.fre fp (by simp))
   have hzs4:Ords (upd (upd H3 sa (TSt P w sa yk)) p (.lst (zs.map fun q=>V.ref q.2))) p zs:=⟨upd_same,fun q hq=>by
    have h1:upd H3 sa (TSt P w sa yk) q.2=some (.tup (q.1.map V.str)):=(upd_ne (ne_fre fsa (hk q (zk q hq)))).trans (hk q (zk q hq));exact (upd_ne (ne_fre fp h1)).trans h1,fun q hq=>ktwo q (zk q hq)⟩
   generalize hH4:upd (upd H3 sa (TSt P w sa yk)) p (.lst (zs.map fun q=>V.ref q.2))=H4 at k4 hzs4 ⊢;have hx4:=k4 x _ hx2 (by simp);refine ⟨_,rfl,_,_,_,_,rfl,hx4,U.cl,U.n_pairs,(by have:=zF0 "row" (V.ref r1) [];simp only [qBY] at this;lia),?_⟩;have hx5:(upd H4 x (.ins C dx (putF "pairs" (.ref p) (putF "row" (.ref r1) [])))) x=some (.ins C dx (putF "pairs" (.ref p) (putF "row" (.ref r1) []))):=upd_same;have hrow5:Txs (upd H4 x (.ins C dx (putF "pairs" (.ref p) (putF "row" (.ref r1) [])))) r1 ns:=(upd_ne nxr.symm).trans (k4 r1 _ hrow2 (by simp));have hzs5:Ords (upd H4 x (.ins C dx (putF "pairs" (.ref p) (putF "row" (.ref r1) [])))) p zs:=⟨(upd_ne (zBq hzs4.top hx4 (fun z=>nomatch z))).trans hzs4.top,fun q hq=>(upd_ne (zBq (hzs4.row q hq) hx4 (fun z=>nomatch z))).trans (hzs4.row q hq),hzs4.two⟩;have k5:Kp [x] H (upd H4 x (.ins C dx (putF "pairs" (.ref p) (putF "row" (.ref r1) [])))):=Kp.put (k2.trans (k4.weak (by simp))) (by simp);generalize hH5:upd H4 x (.ins C dx (putF "pairs" (.ref p) (putF "row" (.ref r1) [])))=H5 at hx5 hrow5 hzs5 k5 ⊢
   have e_row:(putF "pairs" (.ref p) (putF "row" (.ref r1) [])).lookup ("row" : Str)=some (.ref r1):=by
    rw [zAr,qAB (by decide +kernel),zAr,qAC rfl]
   have e_prs:(putF "pairs" (.ref p) (putF "row" (.ref r1) [])).lookup ("pairs" : Str)=some (.ref p):=by
    rw [zAr,qAC rfl]
   refine ⟨_,rfl,_,_,_,_,_,rfl,hx5,U.cl,U.n_row,e_row,_,rfl,_,_,_,_,_,rfl,hx5,U.cl,U.n_row,e_row,_,rfl,_,_,_,_,_,rfl,hx5,U.cl,U.n_pairs,e_prs,r1,p,ns,zs,rfl,hrow5,hzs5,G.nd,G.few,by lia,zin,fun d la H6 DD k6=>?_⟩;refine ⟨r1,d,ns,la,told zs,r,rfl,k6 r1 _ hrow5 (by simp),G.nd,G.few,DD.top,fun n hn=>⟨DD.row n hn,qAW (told_len zs n) (by lia),fun y hy=>?_⟩,fun e D fa S H7 FF all k7=>?_⟩
   ·obtain ⟨q,h1,h2,h3⟩:=mem_told.mp hy;obtain ⟨a,b,eab⟩:=hzs5.two q h1;refine ⟨?_,by rw [<-h2,<-h3];exact zrk q h1⟩;rw [<-h3];refine zin q h1 _ ?_;unfold fst;rw [eab];simp
   have k57:Kp [] H5 H7:=k6.trans k7;have hx7:=k57 x _ hx5 (by simp);refine ⟨_,rfl,_,_,_,_,rfl,hx7,U.cl,U.n_above,?_,?_⟩
   ·have h1:=zF0 "row" (V.ref r1) [];have h2:=zF0 "pairs" (V.ref p) (putF "row" (V.ref r1) []);simp only [qBY] at h1;lia
   have f2H:∀a,Fre H2 a->Fre H a:=fun a ha=>k2.fre ha (nm1 fun z=>by
    subst z;have:H2 a=some _:=hx2;unfold Fre at ha;rw [ha] at this;exact nomatch this)
   have k3p:Kp [] H2 (upd H3 sa (TSt P w sa yk)):=Kp.new k3 (k3.fre fsa (by simp));have fpx:Fre H2 p:=k3p.fre fp (by simp)
   have f52:∀a,Fre H5 a->Fre H2 a:=fun a ha=>by
    have h1:Fre H4 a:=by
     have nax:a≠x:=fun z=>by
      subst z;unfold Fre at ha;rw [ha] at hx5;exact nomatch hx5
     have:H5 a=H4 a:=by rw [<-hH5];exact upd_ne nax
     unfold Fre at ha ⊢;rw [<-this];exact ha
    exact k4.fre h1 (by simp)
   have fex:Fre H2 e:=f52 e (k6.fre FF.fr (by simp));have ffx:∀n∈D,Fre H2 (fa n):=fun n hn=>f52 _ (k6.fre (FF.frs n hn) (by simp));refine k ⟨dx,r1,p,e,ns,zs,D,fa,S⟩ _ ⟨upd_same,?_,⟨?_,fun q hq=>?_,hzs5.two⟩,?_,all,fun n hn=>?_,G.few,zlen,G.nd,zin,fun n hn y=>FF.mem n (all n hn) y⟩ ⟨k1.fre hr1 (by simp),f2H p fpx,f2H e fex,fun q hq=>f2H q.2 (fk q (zk q hq)),fun n hn=>f2H _ (ffx n hn)⟩ rfl zset (Kp.put (k5.trans (k57.weak (by simp))) (by simp))
   ·exact (upd_ne nxr.symm).trans (k57 r1 _ hrow5 (by simp))
   ·have h1:=k57 p _ hzs5.top (by simp);exact (upd_ne (zBq h1 hx7 (fun z=>nomatch z))).trans h1
   ·have h1:=k57 _ _ (hzs5.row q hq) (by simp);exact (upd_ne (zBq h1 hx7 (fun z=>nomatch z))).trans h1
   ·exact (upd_ne (zBq FF.top hx7 (fun z=>nomatch z))).trans FF.top
   ·exact (upd_ne (zBq (FF.row n hn) hx7 (fun z=>nomatch z))).trans (FF.row n hn)
end
def zBd:List Str:=zDw.cps.toList.map fun c=>⟨#[c]⟩
theorem zEb:zBd.length=26:=by
 unfold zBd;rw [zDv];simp
theorem singles_nd:zBd.Nodup:=by decide +kernel
theorem single_ok {x:Str} (h:x∈zBd):zHb x:=by
 unfold zBd at h;rw [zDv] at h;obtain ⟨c,hc,rfl⟩:=qAK.mp h;obtain ⟨i,hi,rfl⟩:=qAK.mp hc;have:=qBF.mp hi;refine ⟨qAG 1,by show 1<=8;decide,fun d hd=>?_⟩;have:d=97+i:=by simpa using hd
 lia
theorem some_single {found:List Str} (h:found.length<=20):(zBd.filter fun x=>decide (x∉found))≠[]:=fun z=>by
 have:zBd.length<=found.length:=zFf singles_nd fun x hx=>by
  apply qBC;intro y;have:x∈zBd.filter fun x=>decide (x∉found):=qAs.mpr ⟨hx,qAR y⟩;rw [z] at this;exact nomatch this
 rw [zEb] at this;lia
section
def spLNames:Sp:=fun vs H Q _=>∃(p:Addr) (m:Int),vs=[.ref p,.int m]/\zBx H p/\0<=m/\m<=20/\∀(l:Addr) (ns:List Str) (H':Hp),Fre H l->Txs H' l ns->ns.length=m.toNat->ns.Nodup->(∀n∈ns,zHb n)->zBx H' p->Kp [p] H H'->Q (.ref l) H'
abbrev zH3:Stmt:=top 56
theorem zCi:FnScope ["_law_purse_here", "_law_many", "_law_letters", "_law_found", "_law_k", "_law_word", "_law_j"] ["_law_purse_here", "_law_many"] (zAe zH3):=fnS
theorem ok_names (F:Fun K "_law_names" "_law_names" zH3 f fd) (T:Txt K mg) (C_take:Cal P w K mg base "_law_take" 1 ["_law_purse_here", "_law_many"] spTake):FnOk P w K mg base CX0 2 f fd ["_law_purse_here", "_law_many"] spLNames:=by
 refine F.ok zCi (fun vs H Q E h=>?_) (fun cdv A outer s H vs Q E hr h=>?_)
 ·obtain ⟨p,m,rfl,_⟩:=h;rfl
 ·obtain ⟨p,m,rfl,hP,h0,h1,k⟩:=h;have HR_take:=hr
  refine ⟨_,(zAc (psS (i:=2) zCi.nd zBc)
   (zAc (psS (i:=3) zCi.nd (zA6 zAb))
   (zAc (zBb qAn rfl (zCz rfl T.z_range (zAa (pv 1) zAb)) (pgN (i:=4) zCi.nd)
    (zAc (psS (i:=5) zCi.nd zBc)
    (zAc (zBb qAn rfl (zCz rfl T.z_range (zAa (zAm zCo zAf (zAm zE0 (zAg C_take HR_take rfl (zAa (pv 0) (zAa zAf zAb))) (zAg C_take HR_take rfl (zAa (pv 0) (zAa zAf zAb))))) zAb)) (pgN (i:=6) zCi.nd)
     (zAd (psS (i:=5) zCi.nd (zAm op_add_str (pv 5) (zDa ix_str (pv 2) (zAg C_take HR_take rfl (zAa (pv 0) (zAa zAf zAb))) (fun _ _=>rfl))))))
    (zAc (zCe (zAy zGi (pv 5) (pv 3) (by rfl))
     (zAd (psS (i:=5) zCi.nd (zDa zBf (zB3 rfl (zCa (sc:=zAe zH3) rfl (by decide +kernel)) (Draws.own (x:= "_law_letter") (dtk (i:=3) rfl Draws.nil)) (pi_str (pv 2)) (fun _ _ _ _=>(pgB (i:=0))) (fun _ _ _ _=>(zDs (zAy (zEz (K:=K)) (pv 0) (pv 1) (by rfl)))) (fun _ _ _ _=>(pv 0))) zAf (fun _ _=>rfl))))
     zAz)
    (zAd (zAq (zG4 qBd qDG qDH zDu (pv 3) (zAa (pv 5) zAb))))))))
   (zAd (zAs (pv 3)))))),?_⟩
  refine ⟨(by walk_at "ln"),fun l hl=>?_⟩;have fl:Fre H l:=hl;have npl:p≠l:=by obtain ⟨a,b,e,_⟩:=hP;exact ne_fre fl e
  have hP1:zBx (upd H l (.lst [])) p:=hP.kp (M:=[]) (Kp.new Kp.refl fl) (by simp)
  refine ⟨_,rfl,_,rfl,by lia,by lia,zB7 (lo:=0) (n:=m.toNat) (fun i σ H2=>∃(o4 o5 o6:Option V) (ws:List Str),σ=[some (.ref p),some (.int m),some (.str zDw),some (.ref l),o4,o5,o6]/\zBx H2 p/\Kp [p] H H2/\Txs H2 l ws/\ws.length=i/\ws.Nodup/\∀s∈ws,zHb s)
   ⟨none,none,none,[],rfl,hP1,Kp.new Kp.refl fl,upd_same,rfl,qBB,fun s h=>nomatch h⟩ ?_ ?_⟩
  ·rintro i σ H2 hi ⟨o4,o5,o6,ws,rfl,P2,K2,R2,e2,n2,q2⟩;refine ⟨_,rfl,p,2,rfl,P2,by decide,by decide,fun d1 H3 a0 a1 P3 K3=>?_⟩;refine ⟨_,rfl,p,8,rfl,P3,by decide,by decide,fun d2 H4 b0 b1 P4 K4=>?_⟩;have hm0:0<=d1*d2:=Int.mul_nonneg a0 b0
   have hm1:d1*d2<=7:=by
    have:d1*d2<=1*7:=Int.mul_le_mul (by lia) (by lia) b0 (by decide);lia
   have K24:Kp [p] H2 H4:=K3.trans K4
   refine ⟨_,_,rfl,rfl,(by walk_at "ml"),_,_,rfl,rfl,_,rfl,by lia,by lia,zB7 (lo:=0) (n:=(1+d1*d2).toNat) (fun n σ H7=>∃(o4 o6:Option V) (x:Str),σ=[some (.ref p),some (.int m),some (.str zDw),some (.ref l),o4,some (.str x),o6]/\zBx H7 p/\Kp [p] H2 H7/\WordS n x)
    ⟨_,_,_,rfl,P4,K24,rfl,(fun c h=>absurd (show c∈([]:List Nat) from h) (by simp))⟩ ?_ ?_⟩
   ·rintro n σ H7 hn ⟨o4,o6,x,rfl,P8,K7,W⟩;refine ⟨_,rfl,_,rfl,_,rfl,p,26,rfl,P8,by decide,by decide,fun d4 H8 e0 e1 P9 K8=>?_⟩;refine ⟨_,_,_,rfl,rfl,by decide,letters_at e0 e1,_,_,rfl,rfl,?_,?_⟩
    ·rw [W.1];show n+1<=sizeLine;rw [qAV];lia
    ·exact ⟨_,_,_,rfl,P9,K7.trans K8,W.more (by lia) (by lia)⟩
   ·rintro σ H7 ⟨o4,o6,x,rfl,P8,K7,W⟩;have h7:Txs H7 l ws:=K7 l _ R2 (nm1 npl.symm);have NX:zHb x:=⟨by have:=W.1;lia,by have:=W.1;lia,W.2⟩;refine ⟨_,rfl,_,rfl,_,_,rfl,.inl (SqL.of h7),rfl,zB8 ws,_,rfl,?_⟩;rw [qAB (by decide),zEl];refine if_mid (fun σ H8=>∃(y:Str),σ=[some (.ref p),some (.int m),some (.str zDw),some (.ref l),o4,some (.str y),o6]/\Kp [] H7 H8/\zHb y/\y∉ws) (fun N hN=>ite2 (fun c=>?_) (fun c=>?_)) ?_
    ·-- _law_word=[..][0]
     refine ⟨_,rfl,_,rfl,fun B hB=>comp_str (z:=zDw) (fun i ys τ H8=>(∃o0,τ=[o0,some (.ref l)])/\ys=((zBd.take i).filter fun x=>decide (x∉ws)).map V.str/\H8=upd H7 B (.lst ys)) ⟨⟨_,rfl⟩,rfl,rfl⟩ ?_ ?_⟩
     ·rintro i c ys τ H8 hc ⟨⟨o0,rfl⟩,rfl,rfl⟩;have en:zBd[i]?=some ⟨#[c]⟩:=by unfold zBd;rw [qAX,hc];rfl
      refine ⟨_,rfl,_,rfl,_,_,rfl,.inl (SqL.of ((upd_ne (ne_fre (show Fre H7 B from hB) h7)).trans h7)),rfl,zB8 ws,_,rfl,?_⟩;rw [qAC rfl,zEl]
      have ed:(!decide ((⟨#[c]⟩:Str)∈ws))=decide ((⟨#[c]⟩:Str)∉ws):=by
       by_cases z:(⟨#[c]⟩:Str)∈ws
       ·simp [z]
       ·simp [z]
      rw [ed];refine ite2 (fun c=>?_) (fun c=>?_)
      ·refine ⟨_,rfl,upd_same,?_,⟨_,rfl⟩,?_,zC2⟩
       ·rw [qAE];exact zE5 (by rw [zEb];decide)
       ·rw [zE4 (p:=fun x=>decide (x∉ws)) en c,qAM];rfl
      ·refine ⟨⟨_,rfl⟩,?_,?_⟩
       ·rw [zGw (p:=fun x=>decide (x∉ws)) en c]
       ·rfl
     ·rintro ys τ H8 ⟨_,rfl,rfl⟩;have eT:zBd.take zDw.length=zBd:=qBb (by rw [zEb];decide);rw [eT];have hne:=some_single (found:=ws) (by lia)
      have hmm:∀y,y∈(zBd.filter fun x=>decide (x∉ws))->zHb y/\y∉ws:=fun y hy=>by
       have:=qAs.mp hy;exact ⟨single_ok this.1,qBc this.2⟩
      generalize (zBd.filter fun x=>decide (x∉ws))=L at hne hmm
      obtain ⟨y,r,rfl⟩:∃y r,L=y::r:=by
       cases L with
       | nil=>exact absurd rfl hne
       | cons y r=>exact ⟨y,r,rfl⟩
      refine ⟨_,_,_,.str y,rfl,rfl,SqL.of upd_same,zGz (by decide) rfl,?_⟩;exact hN _ _ ⟨y,rfl,Kp.new Kp.refl hB,(hmm y qAU).1,(hmm y qAU).2⟩
    ·exact hN _ _ ⟨x,rfl,Kp.refl,NX,fun z=>c (qAR z)⟩
    ·rintro σ H8 ⟨y,rfl,K8,NY,ny⟩;have h8:Txs H8 l ws:=K8 l _ h7 (by simp);refine ⟨_,rfl,.inl ⟨rfl,_,SqL.of h8⟩,_,rfl,_,_,_,rfl,rfl,h8,?_,?_⟩
     ·rw [qAV,qAE];lia
     ·refine ⟨_,_,_,ws++[y],rfl,(P8.kp K8 (by simp)).kp (M:=[l]) (Kp.put Kp.refl (by simp)) (nm1 npl),Kp.new (K2.trans (K7.trans (K8.weak (by simp)))) fl,?_,by simp [e2],?_,fun s hs=>?_⟩
      ·show upd H8 l _ l=some (.lst ((ws++[y]).map V.str));rw [upd_same,qAM];rfl
      ·refine qBt.mpr ⟨n2,by simp,fun a ha b hb=>?_⟩;rw [qAL.mp hb];rintro rfl;exact ny ha
      ·rcases qAS.mp hs with z| z
       ·exact q2 s z
       ·rw [qAL.mp z];exact NY
  ·rintro σ H2 ⟨o4,o5,o6,ws,rfl,P2,K2,R2,e2,n2,q2⟩;exact ⟨_,rfl,k l ws H2 fl R2 e2 n2 q2 P2 K2⟩
end
structure ITs (H:Hp) (l:Addr) (ts:List ((Int×Int)×Addr)):Prop where
 top:H l=some (.lst (ts.map fun t=>V.ref t.2))
 row:∀t∈ts,H t.2=some (.tup [.int t.1.1,.int t.1.2])
theorem ITs.kp {M:List Addr} {ts:List ((Int×Int)×Addr)} (I:ITs H l ts) (k:Kp M H H') (h1:l∉M) (h2:∀t∈ts,t.2∉M):ITs H' l ts:=⟨k l _ I.top h1,fun t ht=>k _ _ (I.row t ht) (h2 t ht)⟩
theorem ITs.more {t:Addr} {a:Int} {ts:List ((Int×Int)×Addr)} (I:ITs H l ts) (ht:H t=some (.tup [.int a,.int b])):ITs (upd H l (.lst (ts.map (fun t=>V.ref t.2)++[.ref t]))) l (ts++[((a,b),t)]):=by
 refine ⟨by rw [upd_same,qAM];rfl,fun q hq=>?_⟩;rcases qAS.mp hq with z| z
 ·exact (upd_ne (zBq (I.row q z) I.top (fun y=>nomatch y))).trans (I.row q z)
 ·rw [qAL.mp z];exact (upd_ne (zBq ht I.top (fun y=>nomatch y))).trans ht
theorem ITs.same {ts:List ((Int×Int)×Addr)} (I:ITs H l ts):ITs (upd H l (.lst (ts.map (fun t=>V.ref t.2)++[]))) l ts:=by
 rw [qA0];exact ⟨upd_same,fun q z=>(upd_ne (zBq (I.row q z) I.top (fun y=>nomatch y))).trans (I.row q z)⟩
theorem tri_step (i:Nat):i*(i+1)+2*(i+1)=(i+1)*(i+2):=by
 rw [<-Nat.add_mul,Nat.mul_comm]
theorem inV12 (w:Int):inV (.int w) [.int 1,.int 2]=(decide (w=1)||decide (w=2)):=by
 show ((1==w)||((2==w)||false))=_
 by_cases h1:w=1
 ·subst h1;rfl
 ·by_cases h2:w=2
  ·subst h2;rfl
  ·rw [qAT h1,qAT h2,qA7.mpr (qAh h1),qA7.mpr (qAh h2)];rfl
def zCx (m:Int) (ts:List ((Int×Int)×Addr)):Prop:=∀t∈ts,0<=t.1.1/\t.1.1<t.1.2/\t.1.2<m
theorem zCx.more {m a:Int} {t:Addr} {ts:List ((Int×Int)×Addr)} (h:zCx m ts) (h1:0<=a) (h2:a<b) (h3:b<m):zCx m (ts++[((a,b),t)]):=fun q hq=>by
 rcases qAS.mp hq with z| z
 ·exact h q z
 ·rw [qAL.mp z];exact ⟨h1,h2,h3⟩
section
def spLPairs:Sp:=fun vs H Q _=>∃(p:Addr) (m way thin:Int),vs=[.ref p,.int m,.int way,.int thin]/\zBx H p/\0<=m/\m<=20/\2<=thin/\thin<=12/\∀(l:Addr) (ts:List ((Int×Int)×Addr)) (H':Hp),Fre H l->ITs H' l ts->(∀t∈ts,Fre H t.2)->ts.length<=190->zCx m ts->zBx H' p->Kp [p] H H'->Q (.ref l) H'
abbrev s_pairs:Stmt:=top 57
theorem zCh:FnScope ["_law_purse_here", "_law_many", "_law_way", "_law_thin", "_law_pairs_here", "_law_j", "_law_far", "_law_i", "_law_near"] ["_law_purse_here", "_law_many", "_law_way", "_law_thin"] (zAe s_pairs):=fnS
theorem ok_pairs (F:Fun K "_law_pairs" "_law_pairs" s_pairs f fd) (T:Txt K mg) (C_take:Cal P w K mg base "_law_take" 1 ["_law_purse_here", "_law_many"] spTake):FnOk P w K mg base CX0 2 f fd ["_law_purse_here", "_law_many", "_law_way", "_law_thin"] spLPairs:=by
 refine F.ok zCh (fun vs H Q E h=>?_) (fun cdv A outer s H vs Q E hr h=>?_)
 ·obtain ⟨p,m,way,thin,rfl,_⟩:=h;rfl
 ·obtain ⟨p,m,way,thin,rfl,hP,h0,h1,t0,t1,k⟩:=h;have HR_take:=hr
  refine ⟨_,(zAc (psS (i:=4) zCh.nd (zA6 zAb))
   (zAc (zBb qAn rfl (pi_range2 rfl T.z_range (zAa zAf (zAa (pv 1) zAb))) (pgN (i:=5) zCh.nd)
    (zAc (psS (i:=6) zCh.nd zAf)
    (zAc (zCe (zAy op_eq (pv 2) zAf (zA7 _))
     (zAc (psS (i:=6) zCh.nd (zAg C_take HR_take rfl (zAa (pv 0) (zAa (zAm zCo (zAm zGh (pv 1) (pv 5)) zAf) zAb))))
     (zAd (zAq (zG4 qBd qDI qDJ zGl (pv 4) (zAa (zAm op_rep (zA6 (zAa (zCn (zAa (zAm zGh (pv 5) zAf) (zAa (zAm zCo (zAm zGh (pv 5) zAf) (pv 6)) zAb))) zAb)) (zAt zC1 (by rfl) T.z_int zFb (zAa (zB4 op_gt (pv 6) zAf (zA7 _)) zAb))) zAb)))))
     zAz)
    (zAc (zCe (zAy op_eq (pv 2) zAf (zA7 _))
     (zAc (psS (i:=6) zCh.nd (zAg C_take HR_take rfl (zAa (pv 0) (zAa (zAm zCo (pv 5) zAf) zAb))))
     (zAd (zAq (zG4 qBd qDI qDJ zGl (pv 4) (zAa (zAm op_rep (zA6 (zAa (zCn (zAa (zAm zGh (pv 5) (pv 6)) (zAa (pv 5) zAb))) zAb)) (zAt zC1 (by rfl) T.z_int zFb (zAa (zB4 op_gt (pv 6) zAf (zA7 _)) zAb))) zAb)))))
     zAz)
    (zAd (zBb qAn rfl (zCz rfl T.z_range (zAa (zAm zE0 (pv 5) (zAt zC1 (by rfl) T.z_int zFb (zAa (zB4 zFu (pv 2) (zA6 (zAa zAf (zAa zAf zAb))) (by rfl)) zAb))) zAb)) (pgN (i:=7) zCh.nd)
     (zAc (psS (i:=8) zCh.nd (pe_or (zB4 op_ne (pv 2) zAf (zA7 _)) (zHj (zB4 op_eq (zAm zCo (zAm zEg (pv 7) (pv 3)) zAf) (zAm zEg (pv 5) (pv 3)) (zA7 _)))))
     (zAd (zCe (PW.pt (pw_and (zCm (pv 8)) (pw_and1 (zAy op_eq (zB4 op_eq (zAg C_take HR_take rfl (zAa (pv 0) (zAa (pv 3) zAb))) zAf (zA7 _)) (zB4 op_ne (pv 2) zAf (zA7 _)) (zA7 _)))))
      (zAd (zAq (zG4 qBd qDG qDH zDu (pv 4) (zAa (zCn (zAa (pv 7) (zAa (pv 5) zAb))) zAb))))
      zAz)))))))))
   (zAd (zAs (pv 4))))),?_⟩
  refine ⟨(by walk_at "ln"),fun l hl=>?_⟩;have fl:Fre H l:=hl;have npl:p≠l:=by obtain ⟨a,b,e,_⟩:=hP;exact ne_fre fl e
  have hP1:zBx (upd H l (.lst [])) p:=hP.kp (M:=[]) (Kp.new Kp.refl fl) (by simp)
  refine ⟨_,rfl,_,_,rfl,?_,zB7 (lo:=1) (n:=(m - 1).toNat) (fun i σ H2=>∃(o5 o6 o7 o8:Option V) (ts:List ((Int×Int)×Addr)),σ=[some (.ref p),some (.int m),some (.int way),some (.int thin),some (.ref l),o5,o6,o7,o8]/\zBx H2 p/\Kp [p] H H2/\ITs H2 l ts/\(∀t∈ts,Fre H t.2)/\ts.length*2<=i*(i+1)/\zCx m ts)
   ⟨none,none,none,none,[],rfl,hP1,Kp.new Kp.refl fl,⟨upd_same,(fun t h=>nomatch h)⟩,(fun t h=>nomatch h),qAf _,(fun t h=>nomatch h)⟩ ?_ ?_⟩
  ·exact ⟨by decide,by decide,by lia,by lia⟩
  ·rintro i σ H2 hi ⟨o5,o6,o7,o8,ts,rfl,P2,K2,R2,f2,e2,q2⟩;have hi19:i<=18:=by lia
   refine ⟨_,rfl,rfl,_,rfl,if_mid (fun σ H3=>∃(v6:Int) (ts1:List ((Int×Int)×Addr)),σ=[some (.ref p),some (.int m),some (.int way),some (.int thin),some (.ref l),some (.int (1+(i:Int))),some (.int v6),o7,o8]/\zBx H3 p/\Kp [p] H H3/\ITs H3 l ts1/\(∀t∈ts1,Fre H t.2)/\ts1.length<=ts.length+(if way=1 then 1 else 0)/\zCx m ts1) (fun N hN=>ite2 (fun c=>?_) (fun c=>?_)) ?_⟩
   ·have cw:way=1:=by simpa using c
    refine ⟨_,rfl,_,rfl,_,rfl,_,_,rfl,rfl,_,_,rfl,rfl,p,m - (1+(i:Int))+1,rfl,P2,by lia,by lia,fun d H3 d0 d1 P3 K3=>?_⟩;have K23:=K2.trans K3;have R3:ITs H3 l ts:=R2.kp K3 (nm1 npl.symm) fun t ht=>nm1 (by obtain ⟨a,b,e,_⟩:=hP;exact (ne_fre (f2 t ht) e).symm);refine ⟨_,rfl,.inl ⟨rfl,_,SqL.of R3.top⟩,_,rfl,_,_,rfl,rfl,_,rfl,_,_,rfl,rfl,_,rfl,_,_,rfl,rfl,(by walk_at "ln"),fun t ht=>?_⟩;have ft:Fre H3 t:=ht;refine ⟨(by walk_at "ln"),fun q hq=>?_⟩;have fq:Fre (upd H3 t _) q:=hq;have ntq:t≠q:=ne_fre fq upd_same;refine ⟨_,rfl,_,_,rfl,rfl,.inr ⟨_,rfl,?_⟩⟩;have nlt:l≠t:=ne_fre ft R3.top;have h4:∀o,(upd H3 t o) l=some (.lst (ts.map fun t=>V.ref t.2)):=fun o=>(upd_ne nlt).trans R3.top;have nlq:l≠q:=ne_fre fq (h4 _)
    have fin:∀(b:Bool) (r:Addr),b=decide (0<d)->(upd (upd H3 t (.tup [.int (1+(i:Int) - 1),.int (1+(i:Int) - 1+d)])) q (.lst [.ref t])) r=none ->
      ∃ts1:List ((Int×Int)×Addr),zBx (upd (upd (upd (upd H3 t (.tup [.int (1+(i:Int) - 1),.int (1+(i:Int) - 1+d)])) q (.lst [.ref t])) r (.lst (List.replicate (if b=true then (1:Int) else 0).toNat [V.ref t]).flatten)) l (.lst (ts.map (fun t=>V.ref t.2)++(List.replicate (if b=true then (1:Int) else 0).toNat [V.ref t]).flatten))) p /\
       Kp [p] H (upd (upd (upd (upd H3 t (.tup [.int (1+(i:Int) - 1),.int (1+(i:Int) - 1+d)])) q (.lst [.ref t])) r (.lst (List.replicate (if b=true then (1:Int) else 0).toNat [V.ref t]).flatten)) l (.lst (ts.map (fun t=>V.ref t.2)++(List.replicate (if b=true then (1:Int) else 0).toNat [V.ref t]).flatten))) /\
       ITs (upd (upd (upd (upd H3 t (.tup [.int (1+(i:Int) - 1),.int (1+(i:Int) - 1+d)])) q (.lst [.ref t])) r (.lst (List.replicate (if b=true then (1:Int) else 0).toNat [V.ref t]).flatten)) l (.lst (ts.map (fun t=>V.ref t.2)++(List.replicate (if b=true then (1:Int) else 0).toNat [V.ref t]).flatten))) l ts1 /\
       (∀t∈ts1,Fre H t.2)/\ts1.length<=ts.length+1/\zCx m ts1:=fun b r hb hr'=>by
     have fr:Fre (upd (upd H3 t (.tup [.int (1+(i:Int) - 1),.int (1+(i:Int) - 1+d)])) q (.lst [.ref t])) r:=hr'
     have kA:Kp [] H3 (upd (upd (upd H3 t (.tup [.int (1+(i:Int) - 1),.int (1+(i:Int) - 1+d)])) q (.lst [.ref t])) r (.lst (List.replicate (if b=true then (1:Int) else 0).toNat [V.ref t]).flatten)):=by
      have a1:Kp [] H3 (upd H3 t (.tup [.int (1+(i:Int) - 1),.int (1+(i:Int) - 1+d)])):=Kp.new Kp.refl ft;have a2:Kp [] H3 (upd (upd H3 t (.tup [.int (1+(i:Int) - 1),.int (1+(i:Int) - 1+d)])) q (.lst [.ref t])):=Kp.new a1 (a1.fre fq (by simp));exact Kp.new a2 (a2.fre fr (by simp))
     have RA:=R3.kp kA (by simp) (by simp)
     have hTt:(upd (upd (upd H3 t (.tup [.int (1+(i:Int) - 1),.int (1+(i:Int) - 1+d)])) q (.lst [.ref t])) r (.lst (List.replicate (if b=true then (1:Int) else 0).toNat [V.ref t]).flatten)) t=some (.tup [.int (1+(i:Int) - 1),.int (1+(i:Int) - 1+d)]):=by
      have b1:(upd (upd H3 t (.tup [.int (1+(i:Int) - 1),.int (1+(i:Int) - 1+d)])) q (.lst [.ref t])) t=some (.tup [.int (1+(i:Int) - 1),.int (1+(i:Int) - 1+d)]):=(upd_ne ntq).trans upd_same;exact (upd_ne (ne_fre fr b1)).trans b1
     have pA:=P3.kp kA (by simp);have kH:Kp [p] H (upd (upd (upd H3 t (.tup [.int (1+(i:Int) - 1),.int (1+(i:Int) - 1+d)])) q (.lst [.ref t])) r (.lst (List.replicate (if b=true then (1:Int) else 0).toNat [V.ref t]).flatten)):=K23.trans (kA.weak (by simp));have ntp:t≠p:=by obtain ⟨a,b,e,_⟩:=P3;exact (ne_fre ft e).symm
     have ftH:Fre H t:=K23.fre ft (nm1 ntp)
     by_cases c2:0<d
     ·have eb:b=true:=by rw [hb];exact qAR c2
      subst eb;refine ⟨ts++[(((1+(i:Int) - 1),(1+(i:Int) - 1+d)),t)],pA.kp (M:=[l]) (Kp.put Kp.refl (by simp)) (nm1 npl),Kp.new kH fl,RA.more hTt,fun u hu=>?_,by rw [qAa];exact qAG _,q2.more (by lia) (by lia) (by lia)⟩;rcases qAS.mp hu with z| z
      ·exact f2 u z
      ·rw [qAL.mp z];exact ftH
     ·have eb:b=false:=by rw [hb];exact qAT c2
      subst eb;exact ⟨ts,pA.kp (M:=[l]) (Kp.put Kp.refl (by simp)) (nm1 npl),Kp.new kH fl,RA.same,f2,qBf _,q2⟩
    refine ⟨_,_,_,rfl,rfl,upd_same,by split<;>decide,by split<;>decide,?_,fun r hr'=>?_⟩
    ·rw [qAV];show 1*_<=_;split<;>decide
    have hl6:∀o2 o3,(upd (upd (upd H3 t (.tup [.int (1+(i:Int) - 1),.int (1+(i:Int) - 1+d)])) q o2) r o3) l=some (.lst (ts.map fun t=>V.ref t.2))\/l=r:=fun o2 o3=>by
     by_cases z:l=r
     ·exact .inr z
     ·exact .inl ((upd_ne z).trans ((upd_ne nlq).trans (h4 _)))
    have nlr:l≠r:=ne_fre (show Fre _ r from hr') ((upd_ne nlq).trans (h4 _));obtain ⟨ts1,g1,g2,g3,g4,g5,g6⟩:=fin _ r rfl hr';refine ⟨_,_,_,_,rfl,rfl,(upd_ne nlr).trans ((upd_ne nlq).trans (h4 _)),upd_same,?_,hN _ _ ⟨d,ts1,rfl,g1,g2,g3,g4,?_,g6⟩⟩
    ·have hl3:ts.length*2<=19*20:=qAW e2 (Nat.mul_le_mul (by lia) (by lia));rw [qAE,len_rep,qAV];have:(if decide (0<d)=true then (1:Int) else 0).toNat<=1:=by split<;>decide
     simp only [qAZ,qBY];lia
    ·rw [qAC cw];exact g5
   ·have cw:¬way=1:=by simpa using c
    exact hN _ _ ⟨0,ts,rfl,P2,K2,R2,f2,qCO _ _,q2⟩
   ·rintro σ H4 ⟨v6,ts1,rfl,P4,K4,R4,f3,e3,q3⟩;have hle:ts.length*2<=19*20:=qAW e2 (Nat.mul_le_mul (by lia) (by lia))
    have hl1:ts1.length<=191:=by
     have:(if way=1 then 1 else 0)<=1:=by split<;>decide
     lia
    refine ⟨_,rfl,rfl,_,rfl,if_mid (fun σ H3=>∃(v6:Int) (ts2:List ((Int×Int)×Addr)),σ=[some (.ref p),some (.int m),some (.int way),some (.int thin),some (.ref l),some (.int (1+(i:Int))),some (.int v6),o7,o8]/\zBx H3 p/\Kp [p] H H3/\ITs H3 l ts2/\(∀t∈ts2,Fre H t.2)/\ts2.length<=ts.length+(if way=1\/way=2 then 1 else 0)/\zCx m ts2) (fun N hN=>ite2 (fun c=>?_) (fun c=>?_)) ?_⟩
    ·have cw:way=2:=by simpa using c
     refine ⟨_,rfl,_,rfl,_,_,rfl,rfl,p,1+(i:Int)+1,rfl,P4,by lia,by lia,fun d H5 d0 d1 P5 K5=>?_⟩;have K25:=K4.trans K5;have R5:ITs H5 l ts1:=R4.kp K5 (nm1 npl.symm) fun t ht=>nm1 (by obtain ⟨a,b,e,_⟩:=hP;exact (ne_fre (f3 t ht) e).symm);refine ⟨_,rfl,.inl ⟨rfl,_,SqL.of R5.top⟩,_,rfl,_,rfl,_,_,rfl,rfl,_,rfl,(by walk_at "ln"),fun t ht=>?_⟩;have ft:Fre H5 t:=ht;refine ⟨(by walk_at "ln"),fun q hq=>?_⟩;have fq:Fre (upd H5 t _) q:=hq;have ntq:t≠q:=ne_fre fq upd_same;refine ⟨_,rfl,_,_,rfl,rfl,.inr ⟨_,rfl,?_⟩⟩;have nlt:l≠t:=ne_fre ft R5.top;have h4:∀o,(upd H5 t o) l=some (.lst (ts1.map fun t=>V.ref t.2)):=fun o=>(upd_ne nlt).trans R5.top;have nlq:l≠q:=ne_fre fq (h4 _)
     have fin:∀(b:Bool) (r:Addr),b=decide (0<d)->(upd (upd H5 t (.tup [.int (1+(i:Int) - d),.int (1+(i:Int))])) q (.lst [.ref t])) r=none ->
       ∃ts2:List ((Int×Int)×Addr),zBx (upd (upd (upd (upd H5 t (.tup [.int (1+(i:Int) - d),.int (1+(i:Int))])) q (.lst [.ref t])) r (.lst (List.replicate (if b=true then (1:Int) else 0).toNat [V.ref t]).flatten)) l (.lst (ts1.map (fun t=>V.ref t.2)++(List.replicate (if b=true then (1:Int) else 0).toNat [V.ref t]).flatten))) p /\
        Kp [p] H (upd (upd (upd (upd H5 t (.tup [.int (1+(i:Int) - d),.int (1+(i:Int))])) q (.lst [.ref t])) r (.lst (List.replicate (if b=true then (1:Int) else 0).toNat [V.ref t]).flatten)) l (.lst (ts1.map (fun t=>V.ref t.2)++(List.replicate (if b=true then (1:Int) else 0).toNat [V.ref t]).flatten))) /\
        ITs (upd (upd (upd (upd H5 t (.tup [.int (1+(i:Int) - d),.int (1+(i:Int))])) q (.lst [.ref t])) r (.lst (List.replicate (if b=true then (1:Int) else 0).toNat [V.ref t]).flatten)) l (.lst (ts1.map (fun t=>V.ref t.2)++(List.replicate (if b=true then (1:Int) else 0).toNat [V.ref t]).flatten))) l ts2 /\
        (∀t∈ts2,Fre H t.2)/\ts2.length<=ts1.length+1/\zCx m ts2:=fun b r hb hr'=>by
      have fr:Fre (upd (upd H5 t (.tup [.int (1+(i:Int) - d),.int (1+(i:Int))])) q (.lst [.ref t])) r:=hr'
      have kA:Kp [] H5 (upd (upd (upd H5 t (.tup [.int (1+(i:Int) - d),.int (1+(i:Int))])) q (.lst [.ref t])) r (.lst (List.replicate (if b=true then (1:Int) else 0).toNat [V.ref t]).flatten)):=by
       have a1:Kp [] H5 (upd H5 t (.tup [.int (1+(i:Int) - d),.int (1+(i:Int))])):=Kp.new Kp.refl ft;have a2:Kp [] H5 (upd (upd H5 t (.tup [.int (1+(i:Int) - d),.int (1+(i:Int))])) q (.lst [.ref t])):=Kp.new a1 (a1.fre fq (by simp));exact Kp.new a2 (a2.fre fr (by simp))
      have RA:=R5.kp kA (by simp) (by simp)
      have hTt:(upd (upd (upd H5 t (.tup [.int (1+(i:Int) - d),.int (1+(i:Int))])) q (.lst [.ref t])) r (.lst (List.replicate (if b=true then (1:Int) else 0).toNat [V.ref t]).flatten)) t=some (.tup [.int (1+(i:Int) - d),.int (1+(i:Int))]):=by
       have b1:(upd (upd H5 t (.tup [.int (1+(i:Int) - d),.int (1+(i:Int))])) q (.lst [.ref t])) t=some (.tup [.int (1+(i:Int) - d),.int (1+(i:Int))]):=(upd_ne ntq).trans upd_same;exact (upd_ne (ne_fre fr b1)).trans b1
      have pA:=P5.kp kA (by simp);have kH:Kp [p] H (upd (upd (upd H5 t (.tup [.int (1+(i:Int) - d),.int (1+(i:Int))])) q (.lst [.ref t])) r (.lst (List.replicate (if b=true then (1:Int) else 0).toNat [V.ref t]).flatten)):=K25.trans (kA.weak (by simp));have ntp:t≠p:=by obtain ⟨a,b,e,_⟩:=P5;exact (ne_fre ft e).symm
      have ftH:Fre H t:=K25.fre ft (nm1 ntp)
      by_cases c2:0<d
      ·have eb:b=true:=by rw [hb];exact qAR c2
       subst eb;refine ⟨ts1++[(((1+(i:Int) - d),(1+(i:Int))),t)],pA.kp (M:=[l]) (Kp.put Kp.refl (by simp)) (nm1 npl),Kp.new kH fl,RA.more hTt,fun u hu=>?_,by rw [qAa];exact qAG _,q3.more (by lia) (by lia) (by lia)⟩;rcases qAS.mp hu with z| z
       ·exact f3 u z
       ·rw [qAL.mp z];exact ftH
      ·have eb:b=false:=by rw [hb];exact qAT c2
       subst eb;exact ⟨ts1,pA.kp (M:=[l]) (Kp.put Kp.refl (by simp)) (nm1 npl),Kp.new kH fl,RA.same,f3,qBf _,q3⟩
     refine ⟨_,_,_,rfl,rfl,upd_same,by split<;>decide,by split<;>decide,?_,fun r hr'=>?_⟩
     ·rw [qAV];show 1*_<=_;split<;>decide
     have hl6:∀o2 o3,(upd (upd (upd H5 t (.tup [.int (1+(i:Int) - d),.int (1+(i:Int))])) q o2) r o3) l=some (.lst (ts1.map fun t=>V.ref t.2))\/l=r:=fun o2 o3=>by
      by_cases z:l=r
      ·exact .inr z
      ·exact .inl ((upd_ne z).trans ((upd_ne nlq).trans (h4 _)))
     have nlr:l≠r:=ne_fre (show Fre _ r from hr') ((upd_ne nlq).trans (h4 _));obtain ⟨ts2,g1,g2,g3,g4,g5,g6⟩:=fin _ r rfl hr';refine ⟨_,_,_,_,rfl,rfl,(upd_ne nlr).trans ((upd_ne nlq).trans (h4 _)),upd_same,?_,hN _ _ ⟨d,ts2,rfl,g1,g2,g3,g4,?_,g6⟩⟩
     ·have hl3:ts1.length<=191:=hl1;rw [qAE,len_rep,qAV];have:(if decide (0<d)=true then (1:Int) else 0).toNat<=1:=by split<;>decide
      simp only [qAZ,qBY];lia
     ·rw [qAC (Or.inr cw)];rw [qAB (by lia)] at e3;lia
    ·have cw:¬way=2:=by simpa using c
     refine hN _ _ ⟨v6,ts1,rfl,P4,K4,R4,f3,?_,q3⟩
     by_cases z:way=1
     ·rw [qAC z] at e3;rw [qAC (Or.inl z)];exact e3
     ·rw [qAB z] at e3;lia
    ·rintro σ H5 ⟨v6,ts2,rfl,P5,K5,R5,f4,e4,q4⟩;refine ⟨_,rfl,_,rfl,(by walk_at "ln"),fun b hb=>?_⟩;have fb:Fre H5 b:=hb;refine ⟨_,_,rfl,.inl (SqL.of upd_same),rfl,rfl,.inr ⟨_,rfl,?_⟩⟩;rw [qAC rfl,inV12];have npb:p≠b:=by obtain ⟨x,y,e,_⟩:=P5;exact ne_fre fb e
     have nlb:l≠b:=ne_fre fb R5.top
     have hb2:(if (!(decide (way=1)||decide (way=2)))=true then (1:Int) else 0)=0\/((if (!(decide (way=1)||decide (way=2)))=true then (1:Int) else 0)=1/\¬(way=1\/way=2)):=by
      by_cases z:way=1\/way=2
      ·left
       have:(decide (way=1)||decide (way=2))=true:=by
        rcases z with z| z<;>simp [z]
       rw [this];rfl
      ·right;refine ⟨?_,z⟩
       have:(decide (way=1)||decide (way=2))=false:=by
        rw [qAT fun y=>z (.inl y),qAT fun y=>z (.inr y)];rfl
       rw [this];rfl
     generalize (if (!(decide (way=1)||decide (way=2)))=true then (1:Int) else 0)=nn at hb2 ⊢
     have hnn:(1+(i:Int))*nn=0\/((1+(i:Int))*nn=1+i/\¬(way=1\/way=2)):=by
      rcases hb2 with z| ⟨z,z'⟩
      ·left;rw [z];lia
      ·right;rw [z];exact ⟨by lia,z'⟩
     have hmul:(1+(i:Int))*nn=0\/(1+(i:Int))*nn=1+i:=hnn.imp id And.left;have k5b:Kp [] H5 (upd H5 b (.lst [.int 1,.int 2])):=Kp.new Kp.refl fb
     refine ⟨_,_,rfl,rfl,?_,_,rfl,by lia,by lia,zB7 (lo:=0) (n:=((1+(i:Int))*nn).toNat) (fun a σ H6=>∃(o7 o8:Option V) (ts3:List ((Int×Int)×Addr)),σ=[some (.ref p),some (.int m),some (.int way),some (.int thin),some (.ref l),some (.int (1+(i:Int))),some (.int v6),o7,o8]/\zBx H6 p/\Kp [p] H H6/\ITs H6 l ts3/\(∀t∈ts3,Fre H t.2)/\ts3.length<=ts2.length+a/\zCx m ts3)
      ⟨_,_,ts2,rfl,P5.kp k5b (by simp),K5.trans (k5b.weak (by simp)),R5.kp k5b (by simp) (by simp),f4,qAG _,q4⟩ ?_ ?_⟩
     ·rcases hb2 with z| ⟨z,_⟩
      ·rw [z];exact Or.inl ⟨by lia,by lia⟩
      ·rw [z];exact Or.inl ⟨by lia,by lia⟩
     ·rintro a σ H6 ha ⟨o7',o8',ts3,rfl,P6,K6,R6,f5,e5,q5⟩;have ha':(a:Int)<1+i:=by lia
      refine seq_mid (fun σ H7=>∃bN:Bool,σ=[some (.ref p),some (.int m),some (.int way),some (.int thin),some (.ref l),some (.int (1+(i:Int))),some (.int v6),some (.int (0+(a:Int))),some (.bl bN)]/\H7=H6) (fun N hN=>?_) ?_
      ·refine ⟨_,rfl,rfl,_,rfl,ite2 (fun c=>?_) (fun c=>?_)⟩
       ·exact hN _ _ ⟨true,rfl,rfl⟩
       ·refine ⟨_,rfl,_,rfl,_,_,rfl,rfl,⟨by lia,by lia⟩,_,_,rfl,rfl,_,rfl,_,rfl,_,_,rfl,rfl,⟨by lia,by lia⟩,rfl,?_⟩;exact hN _ _ ⟨_,rfl,rfl⟩
      ·rintro σ H7 ⟨bN,rfl,rfl⟩;refine ⟨_,rfl,_,rfl,ite2 (fun c=>?_) (fun c=>?_)⟩
       ·refine ⟨_,rfl,_,rfl,p,thin,rfl,P6,by lia,by lia,fun d H8 d0 d1 P8 K8=>?_⟩;have R8:ITs H8 l ts3:=R6.kp K8 (nm1 npl.symm) fun t ht=>nm1 (by obtain ⟨x,y,e,_⟩:=hP;exact (ne_fre (f5 t ht) e).symm);have K68:=K6.trans K8;refine ⟨rfl,_,rfl,rfl,rfl,_,rfl,ite2 (fun c=>?_) (fun c=>?_)⟩
        ·-- _law_pairs_here.append((_law_i,_law_j))
         refine ⟨_,rfl,.inl ⟨rfl,_,SqL.of R8.top⟩,_,rfl,_,rfl,(by walk_at "ln"),fun t ht=>?_⟩;have ft:Fre H8 t:=ht;have nlt:l≠t:=ne_fre ft R8.top;have ntp:t≠p:=by obtain ⟨x,y,e,_⟩:=P8;exact (ne_fre ft e).symm
         have k8:Kp [] H8 (upd H8 t (.tup [.int (0+(a:Int)),.int (1+(i:Int))])):=Kp.new Kp.refl ft;refine ⟨_,_,_,rfl,rfl,(upd_ne nlt).trans R8.top,?_,_,_,ts3++[((0+(a:Int),1+(i:Int)),t)],rfl,(P8.kp k8 (by simp)).kp (M:=[l]) (Kp.put Kp.refl (by simp)) (nm1 npl),Kp.new (K68.trans (k8.weak (by simp))) fl,(R8.kp k8 (by simp) (by simp)).more upd_same,fun u hu=>?_,?_,q5.more (by lia) (by lia) (by lia)⟩
         ·rw [qAE,qAV];have:(if way=1\/way=2 then 1 else 0)<=1:=by split<;>decide
          lia
         ·rcases qAS.mp hu with z| z
          ·exact f5 u z
          ·rw [qAL.mp z];exact K68.fre ft (nm1 ntp)
         ·rw [qAa];simp only [qAZ,qBY];lia
        ·exact ⟨_,_,ts3,rfl,P8,K68,R8,f5,by lia,q5⟩
       ·exact ⟨_,_,ts3,rfl,P6,K6,R6,f5,by lia,q5⟩
     ·rintro σ H6 ⟨o7',o8',ts3,rfl,P6,K6,R6,f5,e5,q5⟩;refine ⟨_,_,_,_,ts3,rfl,P6,K6,R6,f5,?_,q5⟩;have:=tri_step i
      have e6:ts3.length<=ts.length+(i+1):=by
       rcases hnn with z| ⟨z,z'⟩
       ·have:(if way=1\/way=2 then 1 else 0)<=1:=by split<;>decide
        rw [z] at e5;have e5:ts3.length<=ts2.length+0:=e5;lia
       ·rw [qAB z'] at e4;rw [z] at e5;have:(1+(i:Int)).toNat=i+1:=by lia
        lia
      have e7:(i+1)*(i+1+1)=(i+1)*(i+2):=rfl;rw [e7,<-this];lia
  ·rintro σ H2 ⟨o5,o6,o7,o8,ts,rfl,P2,K2,R2,f2,e2,q2⟩;have hle:(m - 1).toNat*((m - 1).toNat+1)<=19*20:=Nat.mul_le_mul (by lia) (by lia);exact ⟨_,rfl,k l ts H2 fl R2 f2 (by lia) q2 P2 K2⟩
end
theorem zGt {α:Type} [BEq α] [LawfulBEq α]:∀{L:List α} {i:Nat} {x:α},L.Nodup->L[i]?=some x->L.idxOf x=i
 | [],i,x,_,h=>by simp at h
 | y::L,0,x,_,h=>by
  have:y=x:=qAb h;subst this;simp
 | y::L,i+1,x,hn,h=>by
  rw [qCP] at h;obtain ⟨h1,h2⟩:=qA1.mp hn;have hne:y≠x:=fun z=>h1 (z▸qAY h);rw [List.idxOf_cons,qA7.mpr hne];show L.idxOf x+1=i+1;rw [zGt h2 h]
theorem map_nodup {α β:Type} {f:α->β}:∀{L:List α},L.Nodup->(∀a∈L,∀b∈L,f a=f b->a=b)->(L.map f).Nodup
 | [],_,_=>qBB
 | x::L,h,hi=>by
  obtain ⟨h1,h2⟩:=qA1.mp h;rw [qAp];refine qA1.mpr ⟨fun z=>?_,map_nodup h2 fun a ha b hb=>hi a (qAP _ ha) b (qAP _ hb)⟩;obtain ⟨y,hy,e⟩:=qAK.mp z;rw [hi y (qAP _ hy) x qAU e] at hy;exact h1 hy
theorem ne_nil_read {c e:Addr} {xs:List V} {Q:VK} (h1:SqL K H c xs) (h2:SqL K H e []) (h:∀bb:Bool,(bb=true->xs≠[])->Q (.bl bb) H):rAlike K 8 false (.ref c) (.ref e) H Q\/rUnlen K true (.ref c) (.ref e) H Q:=by
 by_cases z:xs=[]
 ·subst z;exact .inl ⟨c,e,_,_,rfl,rfl,h1,h2,rfl,(fun i x y h=>by simp at h),h false (fun z=>nomatch z)⟩
 ·refine .inr ⟨c,e,_,_,rfl,rfl,h1,h2,fun y=>z (qDD.mp y),h true fun _=>z⟩
structure Spots (Is:List Int) (m:Nat):Prop where
 len:Is.length=m
 nd:Is.Nodup
 lt:∀x∈Is,0<=x/\x<m
theorem Spots.put {Is:List Int} {m:Nat} (S:Spots Is m) (d:Nat):Spots (Is.take d++(m:Int)::Is.drop d) (m+1):=by
 have hp:=ST.ins_perm Is d (m:Int);refine ⟨by rw [hp.length_eq,qAZ,S.len],hp.nodup_iff.mpr (qA1.mpr ⟨fun z=>?_,S.nd⟩),fun x hx=>?_⟩
 ·have:=(S.lt _ z).2;lia
 ·rcases qAO.mp (hp.mem_iff.mp hx) with z| z
  ·subst z;lia
  ·have:=S.lt x z;lia
def rowOf (ns:List Str) (Is:List Int):List Str:=Is.map fun k=>ns.getD k.toNat Str.empty
theorem rowOf_nd {ns:List Str} {Is:List Int} (hn:ns.Nodup) (S:Spots Is ns.length):(rowOf ns Is).Nodup:=by
 refine map_nodup S.nd fun a ha b hb e=>?_;have h1:=S.lt a ha;have h2:=S.lt b hb;have e1:ns.getD a.toNat Str.empty=ns[a.toNat]'(by lia):=by rw [qBZ,qBN (by lia)];rfl
 have e2:ns.getD b.toNat Str.empty=ns[b.toNat]'(by lia):=by rw [qBZ,qBN (by lia)];rfl
 rw [e1,e2] at e;have:=(List.getElem_inj hn).mp e;lia
theorem rowOf_at {ns:List Str} {Is:List Int} (S:Spots Is ns.length) {i:Int} (h0:0<=i) (h1:i<ns.length):∃s n,Is[i.toNat]?=some s/\0<=s/\ns[s.toNat]?=some n/\(rowOf ns Is)[i.toNat]?=some n:=by
 have hi:i.toNat<Is.length:=by rw [S.len];lia
 have hs:=S.lt Is[i.toNat] (List.getElem_mem hi);have hs':Is[i.toNat].toNat<ns.length:=by lia
 refine ⟨Is[i.toNat],ns[Is[i.toNat].toNat],qBN hi,hs.1,qBN hs',?_⟩;unfold rowOf;rw [qAX,qBN hi];show some (ns.getD _ _)=_;rw [qBZ,qBN hs'];rfl
theorem ins_map {α β:Type} (f:α->β) (L:List α) (d:Nat) (x:α):(L.map f).take d++f x::(L.map f).drop d=(L.take d++x::L.drop d).map f:=by
 rw [qAM,qAp,qCo,qCp]
theorem it_at {ts:List ((Int×Int)×Addr)} {i:Nat} (h:(ts.map fun q=>V.ref q.2)[i]?=some v):∃q,ts[i]?=some q/\v= .ref q.2:=by
 rw [qAX] at h;obtain ⟨n,e,r⟩:=qBA.mp h;exact ⟨n,e,r.symm⟩
section
def spLJobs:Sp:=fun vs H Q _=>∃(p:Addr) (mo:Int),vs=[.ref p,.int mo]/\0<=mo/\mo<=20/\zBx H p/\∀(t l m:Addr) (ns:List Str) (qs:List (List Str×Addr)) (r:Str->Nat) (H':Hp),(ns.length:Int)<=mo->qs.length<=192->H' t=some (.tup [.ref l,.ref m])->Fre H t->Fre H l->Fre H m->(∀q∈qs,Fre H q.2)->Txs H' l ns->Ords H' m qs->Good ns qs r->zBx H' p->Kp [p] H H'->Q (.ref t) H'
abbrev s_jobs:Stmt:=top 58
theorem zC6:FnScope ["_law_purse_here", "_law_most", "_law_many", "_law_names_here", "_law_way", "_law_thin", "_law_pairs_here", "_law_k", "_law_spots"] ["_law_purse_here", "_law_most"] (zAe s_jobs):=fnS
theorem ok_jobs (F:Fun K "_law_jobs" "_law_jobs" s_jobs f fd) (T:Txt K mg) (C_take:Cal P w K mg base "_law_take" 1 ["_law_purse_here", "_law_many"] spTake) (C_names:Cal P w K mg base "_law_names" 2 ["_law_purse_here", "_law_many"] spLNames)
  (C_pairs:Cal P w K mg base "_law_pairs" 2 ["_law_purse_here", "_law_many", "_law_way", "_law_thin"] spLPairs):FnOk P w K mg base CX0 3 f fd ["_law_purse_here", "_law_most"] spLJobs:=by
 refine F.ok zC6 (fun vs H Q E h=>?_) (fun cdv A outer s H vs Q E hr h=>?_)
 ·obtain ⟨p,mo,rfl,_⟩:=h;rfl
 ·obtain ⟨p,mo,rfl,mo0,mo1,hP,k⟩:=h;have HR_names:=hr;have HR_pairs:=hr;have HR_take:=hr.mono (j:=1) (by decide)
  refine ⟨_,(zAc (psS (i:=2) zC6.nd (zAg C_take HR_take rfl (zAa (pv 0) (zAa (zAm zCo (pv 1) zAf) zAb))))
   (zAc (psS (i:=3) zC6.nd (zAg C_names HR_names rfl (zAa (pv 0) (zAa (pv 2) zAb))))
   (zAc (psS (i:=4) zC6.nd (zAg C_take HR_take rfl (zAa (pv 0) (zAa zAf zAb))))
   (zAc (psS (i:=5) zC6.nd (zDa zBf (zA6 (zAa zAf (zAa zAf (zAa zAf (zAa zAf (zAa zAf zAb)))))) (zAg C_take HR_take rfl (zAa (pv 0) (zAa zAf zAb))) (fun _ _=>rfl)))
   (zAc (psS (i:=6) zC6.nd (zAg C_pairs HR_pairs rfl (zAa (pv 0) (zAa (pv 2) (zAa (pv 4) (zAa (pv 5) zAb))))))
   (zAc (zBb qAn rfl (zCz rfl T.z_range (zAa (zAm zE0 (zAt zC1 (by rfl) T.z_int zFb (zAa (zB4 (op_neAU HR_take) (pv 6) (zA6 zAb) (zA7 _)) zAb)) (zAg C_take HR_take rfl (zAa (pv 0) (zAa zAf zAb)))) zAb)) (pgN (i:=7) zC6.nd)
    (zAd (zAq (zG4 qBd PySem.F.slot_list_insert PySem.F.type_list_insert mt_insert (pv 6) (zAa (zAg C_take HR_take rfl (zAa (pv 0) (zAa (zAm zCo (zAk zA2 (by rfl) T.z_len zFa (zAa (pv 6) zAb)) zAf) zAb))) (zAa (zDa zBf (pv 6) (zAg C_take HR_take rfl (zAa (pv 0) (zAa (zAk zA2 (by rfl) T.z_len zFa (zAa (pv 6) zAb)) zAb))) (fun _ _=>rfl)) zAb))))))
   (zAc (psS (i:=8) zC6.nd (zA6 zAb))
   (zAc (zBb qAn rfl (zCz rfl T.z_range (zAa (pv 2) zAb)) (pgN (i:=7) zC6.nd)
    (zAd (zAq (zG4 qBd PySem.F.slot_list_insert PySem.F.type_list_insert mt_insert (pv 8) (zAa (zAg C_take HR_take rfl (zAa (pv 0) (zAa (zAm zCo (pv 7) zAf) zAb))) (zAa (pv 7) zAb))))))
   (zAd (zAs (zCn (zAa (pv 3) (zAa (zB3 rfl (zCa (sc:=zAe s_jobs) rfl (by decide +kernel)) (Draws.own (x:= "_law_i") (Draws.own (x:= "_law_j") (dtk (i:=3) rfl (dtk (i:=8) rfl Draws.nil)))) (zAv (pv 6)) (fun _ _ _ _=>(pg_tupK (K:=K) (n:=2) rfl (zAp (pgB (i:=0)) (zAp (pgB (i:=1)) zCu)))) (fun _ _ _ _=>zEe) (fun _ _ _ _=>(zCn (zAa (zDa (zF2 (K:=K)) (pv 2) (zDa (zF2 (K:=K)) (pv 3) (pv 0) (fun _ _=>rfl)) (fun _ _=>rfl)) (zAa (zDa (zF2 (K:=K)) (pv 2) (zDa (zF2 (K:=K)) (pv 3) (pv 1) (fun _ _=>rfl)) (fun _ _=>rfl)) zAb))))) zAb))))))))))))),?_⟩
  refine ⟨_,rfl,_,rfl,_,_,rfl,rfl,p,mo+1,rfl,hP,by lia,by lia,fun m H1 m0 m1 P1 K1=>?_⟩;refine ⟨_,rfl,_,rfl,p,m,rfl,P1,m0,by lia,fun l ns H2 fl hl en nd nm P2 K2=>?_⟩;have npl:p≠l:=by obtain ⟨a,b,e,_⟩:=P1;exact ne_fre fl e
  refine ⟨_,rfl,p,6,rfl,P2,by decide,by decide,fun way H3 w0 w1 P3 K3=>?_⟩;refine ⟨(by walk_at "ln"),fun b hb=>?_⟩;have fb:Fre H3 b:=hb;have npb:p≠b:=by obtain ⟨x,y,e,_⟩:=P3;exact ne_fre fb e
  refine ⟨_,rfl,p,5,rfl,P3.kp (M:=[]) (Kp.new Kp.refl fb) (by simp),by decide,by decide,fun d H4 d0 d1 P4 K4=>?_⟩
  obtain ⟨th,hth,th2,th12⟩:∃th:Int,([V.int 2,.int 3,.int 4,.int 6,.int 12])[d.toNat]?=some (.int th)/\2<=th/\th<=12:=by
   have:d=0\/d=1\/d=2\/d=3\/d=4:=by lia
   rcases this with rfl| rfl| rfl| rfl| rfl
   ·exact ⟨2,rfl,by decide,by decide⟩
   ·exact ⟨3,rfl,by decide,by decide⟩
   ·exact ⟨4,rfl,by decide,by decide⟩
   ·exact ⟨6,rfl,by decide,by decide⟩
   ·exact ⟨12,rfl,by decide,by decide⟩
  refine ⟨_,_,_,.int th,rfl,rfl,SqL.of (K4 b _ upd_same (nm1 npb.symm)),zGz d0 hth,?_⟩;have K34:Kp [p] H3 H4:=Kp.trans (Kp.new Kp.refl fb) K4;have K14:Kp [p] H1 H4:=K2.trans (K3.trans K34);have hl4:Txs H4 l ns:=(K3.trans K34) l _ hl (nm1 npl.symm);refine ⟨_,rfl,_,rfl,_,rfl,_,rfl,p,m,way,th,rfl,P4,m0,by lia,th2,th12,fun c ts H5 fc I5 ft5 tl5 ok5 P5 K5=>?_⟩;have npc:p≠c:=by obtain ⟨x,y,e,_⟩:=P4;exact ne_fre fc e
  have hl5:Txs H5 l ns:=K5 l _ hl4 (nm1 npl.symm);have nlc:l≠c:=ne_fre fc hl4;have K05:Kp [p] H H5:=K1.trans (K14.trans K5);have fcH:Fre H c:=(K1.trans K14).fre fc (nm1 npc.symm);have flH:Fre H l:=K1.fre fl (nm1 npl.symm);refine ⟨_,rfl,(by walk_at "ln"),fun e he=>?_⟩;have fe:Fre H5 e:=he;have npe:p≠e:=by obtain ⟨x,y,q,_⟩:=P5;exact ne_fre fe q
  have k5e:Kp [] H5 (upd H5 e (.lst [])):=Kp.new Kp.refl fe;have I5e:=I5.kp k5e (by simp) (by simp);refine ne_nil_read (xs:=ts.map fun t=>V.ref t.2) (SqL.of I5e.top) (SqL.of upd_same) fun bb hbb=>?_;refine .inr ⟨bb,rfl,?_⟩;refine ⟨_,rfl,p,3,rfl,P5.kp k5e (by simp),by decide,by decide,fun dd H6 dd0 dd1 P6 K6=>?_⟩;have K56:Kp [p] H5 H6:=Kp.trans (k5e.weak (by simp)) K6;have ntp:∀t∈ts,t.2∉[p]:=fun t ht=>nm1 (by obtain ⟨x,y,q,_⟩:=P4;exact (ne_fre (ft5 t ht) q).symm);have I6:ITs H6 c ts:=I5e.kp K6 (nm1 npc.symm) ntp
  have hmul:(if bb=true then (1:Int) else 0)*dd=0\/((if bb=true then (1:Int) else 0)*dd=dd/\ts≠[]):=by
   cases bb with
   | false=>left;rw [qAB (by decide)];lia
   | true=>right;rw [qAC rfl];exact ⟨by lia,fun z=>hbb rfl (by rw [z];rfl)⟩
  have hml:(if bb=true then (1:Int) else 0)=0\/(if bb=true then (1:Int) else 0)=1:=by cases bb<;>simp
  generalize (if bb=true then (1:Int) else 0)=n01 at hmul hml ⊢
  refine ⟨_,_,rfl,rfl,?_,_,rfl,by rcases hmul with z| ⟨z,_⟩<;>lia,by rcases hmul with z| ⟨z,_⟩<;>lia,zB7 (lo:=0) (n:=(n01*dd).toNat) (fun i σ H7=>∃(o7 o8:Option V) (ts':List ((Int×Int)×Addr)),σ=[some (.ref p),some (.int mo),some (.int m),some (.ref l),some (.int way),some (.int th),some (.ref c),o7,o8]/\zBx H7 p/\Kp [p] H H7/\Txs H7 l ns/\ITs H7 c ts'/\(∀t∈ts',t∈ts)/\ts'.length=ts.length+i)
   ⟨_,_,ts,rfl,P6,K05.trans K56,K56 l _ hl5 (nm1 npl.symm),I6,fun t h=>h,rfl⟩ ?_ ?_⟩
  ·rcases hml with z| z
   ·exact Or.inl ⟨by lia,by lia⟩
   ·exact Or.inl ⟨by lia,by lia⟩
  ·rintro i σ H7 hi ⟨o7,o8,ts',rfl,P7,K7,hl7,I7,s7,e7⟩
   have ne:ts≠[]:=by
    rcases hmul with z| ⟨_,z⟩
    ·rw [z] at hi;exact absurd hi (Nat.not_lt_zero _)
    ·exact z
   have pos:0<ts'.length:=by
    have:=List.length_pos_iff.mpr ne;lia
   have ntp':∀t∈ts',t.2∉[p]:=fun t ht=>ntp t (s7 t ht);have nlc':l≠c:=nlc;refine ⟨_,rfl,.inl ⟨rfl,_,SqL.of I7.top⟩,_,rfl,_,rfl,_,_,rfl,.inl (SqL.of I7.top),_,_,rfl,rfl,p,_,rfl,P7,?_,?_,fun d1 H8 x0 x1 P8 K8=>?_⟩
   ·lia
   ·rw [qAE];have:i<3:=by rcases hmul with z| ⟨z,_⟩<;>lia
    lia
   have I8:ITs H8 c ts':=I7.kp K8 (nm1 npc.symm) ntp';refine ⟨_,rfl,_,rfl,_,rfl,_,_,rfl,.inl (SqL.of I8.top),p,_,rfl,P8,?_,?_,fun d2 H9 y0 y1 P9 K9=>?_⟩
   ·rw [qAE];lia
   ·rw [qAE];have:i<3:=by rcases hmul with z| ⟨z,_⟩<;>lia
    lia
   have I9:ITs H9 c ts':=I8.kp K9 (nm1 npc.symm) ntp';rw [qAE] at x1 y1;obtain ⟨t,et⟩:∃t,ts'[d2.toNat]?=some t:=⟨ts'[d2.toNat]'(by lia),qBN (by lia)⟩;have evt:(ts'.map fun t=>V.ref t.2)[d2.toNat]?=some (V.ref t.2):=by rw [qAX,et];rfl
   refine ⟨_,_,_,.ref t.2,rfl,rfl,SqL.of I9.top,zGz y0 evt,_,_,_,_,rfl,rfl,I9.top,?_,x0,?_,?_⟩
   ·rw [qAE,qAV];have:i<3:=by rcases hmul with z| ⟨z,_⟩<;>lia
    lia
   ·rw [qAE];lia
   ·have hp:=ST.ins_perm ts' d1.toNat t;refine ⟨_,_,ts'.take d1.toNat++t::ts'.drop d1.toNat,rfl,P9.kp (M:=[c]) (Kp.put Kp.refl (by simp)) (nm1 npc),Kp.new (K7.trans (K8.trans K9)) fcH,(upd_ne nlc).trans ((K8.trans K9) l _ hl7 (nm1 npl.symm)),⟨?_,fun u hu=>?_⟩,fun u hu=>?_,?_⟩
    ·rw [upd_same,ins_map (fun t:(Int×Int)×Addr=>V.ref t.2)]
    ·have hu':u∈ts':=by
      rcases qAO.mp (hp.mem_iff.mp hu) with z| z
      ·rw [z];exact qAY et
      ·exact z
     exact (upd_ne (zBq (I9.row u hu') I9.top (fun y=>nomatch y))).trans (I9.row u hu')
    ·rcases qAO.mp (hp.mem_iff.mp hu) with z| z
     ·rw [z];exact s7 t (qAY et)
     ·exact s7 u z
    ·rw [hp.length_eq,qAZ,e7];lia
  ·rintro σ H7 ⟨o7,o8,ts',rfl,P7,K7,hl7,I7,s7,e7⟩;have hts:ts'.length<=192:=by rcases hmul with z| ⟨z,_⟩<;>lia
   refine ⟨(by walk_at "ln"),fun g hg=>?_⟩;have fg:Fre H7 g:=hg;have npg:p≠g:=by obtain ⟨x,y,q,_⟩:=P7;exact ne_fre fg q
   have nlg:l≠g:=ne_fre fg hl7;have ncg:c≠g:=ne_fre fg I7.top;have fgH:Fre H g:=K7.fre fg (nm1 npg.symm);have k7g:Kp [] H7 (upd H7 g (.lst [])):=Kp.new Kp.refl fg;have ntp':∀t∈ts',t.2∉[p]:=fun t ht=>ntp t (s7 t ht)
   refine ⟨_,rfl,_,rfl,by lia,by lia,zB7 (lo:=0) (n:=m.toNat) (fun i σ H8=>∃(o7:Option V) (Is:List Int),σ=[some (.ref p),some (.int mo),some (.int m),some (.ref l),some (.int way),some (.int th),some (.ref c),o7,some (.ref g)]/\zBx H8 p/\Kp [p] H H8/\Txs H8 l ns/\ITs H8 c ts'/\H8 g=some (.lst (Is.map V.int))/\Spots Is i)
    ⟨_,[],rfl,P7.kp k7g (by simp),Kp.new K7 fgH,k7g l _ hl7 (by simp),I7.kp k7g (by simp) (by simp),upd_same,rfl,qBB,(fun x h=>nomatch h)⟩ ?_ ?_⟩
   ·rintro i σ H8 hi ⟨o7,Is,rfl,P8,K8,hl8,I8,hg8,S8⟩;refine ⟨_,rfl,.inl ⟨rfl,_,SqL.of hg8⟩,_,rfl,_,rfl,_,_,rfl,rfl,p,_,rfl,P8,?_,?_,fun d1 H9 x0 x1 P9 K9=>?_⟩
    ·lia
    ·lia
    have hg9:=K9 g _ hg8 (nm1 npg.symm);refine ⟨_,rfl,_,_,_,_,rfl,rfl,hg9,?_,x0,?_,?_⟩
    ·rw [qAE,S8.len,qAV];lia
    ·rw [qAE,S8.len];lia
    ·have e1:(Is.map V.int).take d1.toNat++V.int (0+(i:Int))::(Is.map V.int).drop d1.toNat=(Is.take d1.toNat++(i:Int)::Is.drop d1.toNat).map V.int:=by
      rw [Int.zero_add];exact ins_map V.int Is d1.toNat (i:Int)
     rw [e1];have hl9:=K9 l _ hl8 (nm1 npl.symm);have I9:=I8.kp K9 (nm1 npc.symm) ntp';exact ⟨_,_,rfl,P9.kp (M:=[g]) (Kp.put Kp.refl (by simp)) (nm1 npg),Kp.new (K8.trans K9) fgH,(upd_ne nlg).trans hl9,⟨(upd_ne ncg).trans I9.top,fun u hu=>(upd_ne (zBq (I9.row u hu) hg9 (fun y=>nomatch y))).trans (I9.row u hu)⟩,upd_same,S8.put _⟩
   ·rintro σ H8 ⟨o7,Is,rfl,P8,K8,hl8,I8,hg8,S8⟩;rw [<-en] at S8;have hmn:(ns.length:Int)=m:=by rw [en];lia
    refine ⟨_,rfl,_,rfl,_,rfl,⟨_,SqL.of I8.top⟩,fun B hB=>zB0 (ts'.map fun t=>V.ref t.2) (fun i ys τ H9=>∃ks:List (List Str×Addr),(∃o0 o1,τ=[o0,o1,some (.ref l),some (.ref g)])/\ys=(ks.map fun q=>V.ref q.2)/\ks.length=i/\(∀q∈ks,H9 q.2=some (.tup (q.1.map V.str))/\Fre H q.2/\∃(a b:Str) (x y:Nat),q.1=[a,b]/\x<y/\(rowOf ns Is)[x]?=some a/\(rowOf ns Is)[y]?=some b)/\Kp [] H8 H9/\H9 B=some (.lst ys))
     ⟨[],⟨_,_,rfl⟩,rfl,rfl,(fun q h=>nomatch h),Kp.new Kp.refl hB,upd_same⟩ (fun i ys τ H9 ⟨_,_,_,_,_,k9,_⟩=>SqL.of (k9 c _ I8.top (by simp))) ?_ ?_⟩
    ·rintro i v ys τ H9 hv ⟨ks,⟨o0,o1,rfl⟩,rfl,ek,hk,k9,h9⟩;obtain ⟨t,eq,rfl⟩:=it_at hv;have mt:=qAY eq;have okt:=ok5 t (s7 t mt);have hrow:H9 t.2=some (.tup [.int t.1.1,.int t.1.2]):=k9 t.2 _ (I8.row t mt) (by simp);refine ⟨_,_,rfl,.inl (.inl hrow),rfl,_,_,rfl,_,_,rfl,rfl,?_⟩;obtain ⟨s1,n1,a1,a2,a3,a4⟩:=rowOf_at S8 okt.1 (by lia);obtain ⟨s2,n2,b1,b2,b3,b4⟩:=rowOf_at S8 (i:=t.1.2) (by lia) (by lia);have hl9:=k9 l _ hl8 (by simp);have hg9:=k9 g _ hg8 (by simp);have ai:∀{x:Int} {s:Int},0<=x->Is[x.toNat]?=some s->atI (Is.map V.int) x=some (.int s):=fun h0 h=>zGz h0 (by rw [qAX,h];rfl);have an:∀{x:Int} {n:Str},0<=x->ns[x.toNat]?=some n->atI (ns.map V.str) x=some (.str n):=fun h0 h=>zGz h0 (by rw [qAX,h];rfl);refine ⟨_,rfl,_,rfl,_,rfl,_,_,_,_,rfl,rfl,SqL.of hg9,ai okt.1 a1,_,_,_,_,rfl,rfl,SqL.of hl9,an a2 a3,_,rfl,_,rfl,_,rfl,_,_,_,_,rfl,rfl,SqL.of hg9,ai (by lia) b1,_,_,_,_,rfl,rfl,SqL.of hl9,an b2 b3,(by walk_at "ln"),fun u hu=>?_⟩;have fu:Fre H9 u:=hu;have nBu:B≠u:=ne_fre fu h9;have hu8:Fre H8 u:=k9.fre fu (by simp);have npu:p≠u:=by obtain ⟨x,y,q,_⟩:=P8;exact ne_fre hu8 q
     have fuH:Fre H u:=K8.fre hu8 (nm1 npu.symm);refine ⟨(upd_ne nBu).trans h9,?_,ks++[([n1,n2],u)],⟨_,_,rfl⟩,?_,by rw [qAa,ek];rfl,fun q hq=>?_,Kp.new (Kp.new k9 (k9.fre fu (by simp))) hB,upd_same⟩
     ·have:=(qAc.mp eq).1;rw [qAE,ek,qAV];lia
     ·rw [qAM];rfl
     ·rcases qAS.mp hq with z| z
      ·obtain ⟨z1,z2⟩:=hk q z;exact ⟨(upd_ne (zBq z1 h9 (fun y=>nomatch y))).trans ((upd_ne (ne_fre fu z1)).trans z1),z2⟩
      ·rw [qAL.mp z];exact ⟨(upd_ne nBu.symm).trans upd_same,fuH,n1,n2,t.1.1.toNat,t.1.2.toNat,rfl,by lia,a4,b4⟩
    ·rintro ys τ H9 ⟨ks,_,rfl,ek,hk,k9,h9⟩;rw [qAE] at ek;refine ⟨(by walk_at "ln"),fun t ht=>?_⟩;have ft:Fre H9 t:=ht;have k10:Kp [] H9 (upd H9 t (.tup [.ref l,.ref B])):=Kp.new Kp.refl ft;have ft8:Fre H8 t:=k9.fre ft (by simp);have npt:p≠t:=by obtain ⟨x,y,q,_⟩:=P8;exact ne_fre ft8 q
     have npB:p≠B:=by obtain ⟨x,y,q,_⟩:=P8;exact ne_fre (show Fre H8 B from hB) q
     have rnd:=rowOf_nd nd S8
     have rin:∀{x:Nat} {a:Str},(rowOf ns Is)[x]?=some a->a∈ns:=fun {x a} h=>by
      obtain ⟨s,hs,e⟩:=qAK.mp (qAY h);have:=S8.lt s hs;rw [<-e,qBZ,qBN (by lia)];exact List.getElem_mem _
     refine k t l B ns ks (fun n=>(rowOf ns Is).idxOf n) _ (by rw [en];lia) (by lia) upd_same (K8.fre ft8 (nm1 npt.symm)) flH (K8.fre (show Fre H8 B from hB) (nm1 npB.symm)) (fun q hq=>(hk q hq).2.1) ((k9.trans k10) l _ hl8 (by simp)) ⟨k10 B _ h9 (by simp),fun q hq=>k10 _ _ (hk q hq).1 (by simp),fun q hq=>?_⟩ ⟨nm,nd,by rw [en];lia,by lia,fun q hq x hx=>?_,fun q hq=>?_⟩ (P8.kp (k9.trans k10) (by simp)) (K8.trans ((k9.trans k10).weak (by simp)))
     ·obtain ⟨a,b,x,y,e,_⟩:=(hk q hq).2.2;exact ⟨a,b,e⟩
     ·obtain ⟨a,b,i,j,e,_,h1,h2⟩:=(hk q hq).2.2;rw [e] at hx;rcases qAO.mp hx with z| z
      ·rw [z];exact rin h1
      ·rw [qAL.mp z];exact rin h2
     ·obtain ⟨a,b,i,j,e,hij,h1,h2⟩:=(hk q hq).2.2;have e1:fst q=a:=by unfold fst;rw [e];rfl
      have e2:snd q=b:=by unfold snd;rw [e];rfl
      rw [e1,e2,zGt rnd h1,zGt rnd h2];exact hij
end
structure Mth (P:Program) (w:World) (K:PySem.W.Frag) (mg:Str->Option Value) (base:Heap) (C:Addr) (m:Str) (k:Nat) (ps:List Str) (sp:Sp):Prop where
 to:∃(f:Addr) (fd:FuncData),Meth K C m f/\zCd K fd ps []/\FnOk P w K mg base CX0 k f fd ps sp
theorem pe_methC {m:Str} {k:Nat} {ps:List Str} {o e:Expr} {es:List Expr} {apos pos:Pos} {ta:TE} {t:TA} {pl:Sem Bool} (M:Mth X.prog X.w X.K X.mg X.base C m k ps sp) (c:Cls X.K C) (hr:Room k X.A) (he:PE X o ta) (ha:PA X (e::es) t)
  (hst:starEach (e::es) X.env=(false,eval e X.env)::starEach es X.env:=by rfl) (hpl:(backTo pos (starEach es X.env)).any (·.1)=false:=by rfl)
  (ht:eval (.Call (.Attribute o m apos) (e::es) [] pos) X.env=(do
   let ov<-eval o X.env
   standAt apos.atName
   let (f,first)<-holding [ov] (getMethod ov m pl)
   callWith pos f first (backTo pos (starEach (e::es) X.env)) (backToKw pos (keywordEach [] X.env))):=by rfl):PE X (.Call (.Attribute o m apos) (e::es) [] pos) (tMeth C m sp [] E0 ta t):=by
 obtain ⟨f,fd,h1,h2,h3⟩:=M.to;exact pe_meth he c h1 h3 hr h2 .nil pass0 ha hst hpl ht
theorem zC0 {m:Str} {k:Nat} {ps:List Str} {o:Expr} {apos:Pos} {ta:TE} {pl:Sem Bool} (M:Mth X.prog X.w X.K X.mg X.base C m k ps sp) (c:Cls X.K C) (hr:Room k X.A) (he:PE X o ta)
  (ht:eval (.Call (.Attribute o m apos) [] [] pos) X.env=(do
   let ov<-eval o X.env
   standAt apos.atName
   let (f,first)<-holding [ov] (getMethod ov m pl)
   callWith pos f first (backTo pos (starEach [] X.env)) (backToKw pos (keywordEach [] X.env))):=by rfl):PE X (.Call (.Attribute o m apos) [] [] pos) (tMeth C m sp [] E0 ta tNil):=by
 obtain ⟨f,fd,h1,h2,h3⟩:=M.to;exact pe_meth0 he c h1 h3 hr h2 .nil pass0 ht
theorem S_rank {j:Addr} {qs:List (List Str×Addr)} {r:Str->Nat} (A:JobsAt C H j J) (G:Good J.ns qs r) (hz:∀k,k∈J.zs.map (·.1)↔k∈qs.map (·.1)):∀(b:Nat) (n x:Str),r n<=b->n∈J.ns->x∈J.S n->r x<r n:=by
 have tk:∀n x,x∈told J.zs n->x∈J.ns/\r x<r n:=fun n x hx=>by
  obtain ⟨q,q1,q2,q3⟩:=mem_told.mp hx;have:q.1∈qs.map (·.1):=(hz q.1).mp (qAK.mpr ⟨q,q1,rfl⟩);obtain ⟨q',h1,h2⟩:=qAK.mp this;obtain ⟨e1,e2⟩:=fst_of h2;obtain ⟨a,b,eab⟩:=A.prs.two q q1;refine ⟨?_,by rw [<-q2,<-q3,<-e1,<-e2];exact G.rk q' h1⟩;rw [<-q3];refine A.zin q q1 _ ?_;unfold fst;rw [eab];simp
 intro b
 induction b with
 | zero =>
  intro n x hb hn hx;rcases (A.mem n hn x).mp hx with z| ⟨m,z,_⟩
  ·exact (tk n x z).2
  ·have:=(tk n m z).2;lia
 | succ b ih =>
  intro n x hb hn hx;rcases (A.mem n hn x).mp hx with z| ⟨m,z,z'⟩
  ·exact (tk n x z).2
  ·have h1:=tk n m z;exact Nat.lt_trans (ih m x (by lia) h1.1 z') h1.2
structure Mkr (P:Program) (w:World) (K:PySem.W.Frag) (mg:Str->Option Value) (base:Heap) (C:Addr) (x:Str) (k:Nat) (ps:List Str) (sp:Sp):Prop where
 to:∃(f:Addr) (fd:FuncData),Mk K C f/\mg x=some (.ref C)/\zCd K fd ps []/\FnOk P w K mg base CX0 k f fd ps sp
theorem pe_makeC {x:Str} {k:Nat} {ps:List Str} {e:Expr} {es:List Expr} {p:Pos} {t:TA} (M:Mkr X.prog X.w X.K X.mg X.base C x k (("self" : Str)::ps) sp) (hr:Room (k+1) X.A) (hg:Gl X x) (ha:PA X (e::es) t)
  (hdb:(x==("__debug__" : Str))=false:=by decide) (he:starEach (e::es) X.env=(false,eval e X.env)::starEach es X.env:=by rfl) (hpl:(backTo pos (starEach es X.env)).any (·.1)=false:=by rfl):PE X (.Call (.Name x p) (e::es) [] pos) (tMake C sp [] E0 t):=by
 obtain ⟨f,fd,h1,h2,h3,h4⟩:=M.to;exact pe_make h1 h4 hr hg h2 h3 .nil pass0 ha hdb he hpl
def szAt (H:Hp) (a:Addr):Nat:=match H a with
 | some (.lst xs)=>xs.length
 | some (.dK kvs)=>kvs.length
 | _=>0
theorem zHu {a:Addr} {xs:List V} (h:H a=some (.lst xs)):szAt H a=xs.length:=by unfold szAt;rw [h]
theorem kit_ib :PySem.W.kitOne K (.type "int") (.type "bool")=some false:=by rfl
section
def zF9:Sp:=fun vs H Q _=>∃n:Int,vs=[.int n]/\Q (.bl true) H
abbrev zD0:Stmt:=top 22
theorem zGd:FnScope ["thing"] ["thing"] (zAe zD0):=fnS
theorem ok_is_whole (F:Fun K "is_whole" "is_whole" zD0 f fd) (T:Txt K mg):FnOk P w K mg base CX0 1 f fd ["thing"] zF9:=by
 refine F.ok zGd (fun vs H Q E h=>?_) (fun cdv A outer s H vs Q E hr h=>?_)
 ·obtain ⟨n,rfl,_⟩:=h;rfl
 ·obtain ⟨n,rfl,k⟩:=h;refine ⟨_,(zAd (zAs (pe_and (zAk zCr (by rfl) T.z_isinstance zAi (zAa (pv 0) (zAa (zDd (by rfl) T.z_int zFb (v:=.ty "int") rfl) zAb))) (zHj (pe_not (zAk zCr (by rfl) T.z_isinstance zAi (zAa (pv 0) (zAa (zDd (by rfl) T.z_bool bo_bool (v:=.ty "bool") rfl) zAb)))))))),?_⟩;exact ⟨_,rfl,_,_,_,_,rfl,TyOf.int n,zDf,_,rfl,iteT ⟨_,rfl,_,_,_,_,rfl,TyOf.int n,kit_ib,_,rfl,k⟩⟩
def zFi:Sp:=fun vs H Q _=>∃b:Int,vs=[.int b]/\1<=b/\Q .non H
abbrev zA9:Stmt:=top 25
theorem zDj:FnScope ["benches"] ["benches"] (zAe zA9):=fnS
theorem zDm (F:Fun K "check_benches" "check_benches" zA9 f fd) (C_is_whole:Cal P w K mg base "is_whole" 1 ["thing"] zF9):FnOk P w K mg base CX0 2 f fd ["benches"] zFi:=by
 refine F.ok zDj (fun vs H Q E h=>?_) (fun cdv A outer s H vs Q E hr h=>?_)
 ·obtain ⟨n,rfl,_⟩:=h;rfl
 ·obtain ⟨n,rfl,h1,k⟩:=h
  refine ⟨_,(zAd (zCe (PW.pt (zG3 (zDk (zCm (zAg C_is_whole hr rfl (zAa (pv 0) zAb)))) (zEv (zAy op_lt (pv 0) zAf (zA7 _)))))
    (zAd zBn)
    zAz)),?_⟩
  refine ⟨_,rfl,n,rfl,_,rfl,iteF ⟨_,rfl,_,_,rfl,rfl,_,rfl,?_⟩⟩;rw [qAT (by lia)];exact iteF k
def rdyB (J:JR) (A:List Str) (n:Str):Bool:=(J.ns.filter fun m=>decide (m∈J.S n)).all fun m=>decide (m∈A)
def spReadyT (C:Addr):Sp:=fun vs H Q _=>∃(j d:Addr) (J:JR) (A:List Str) (n:Str),vs=[.ref j,.ref d,.str n]/\JobsAt C H j J/\H d=some (.tup (A.map V.str))/\n∈J.ns/\∀H',Kp [] H H'->Q (.bl (rdyB J A n)) H'
abbrev zD1:Stmt:=top 28
theorem sc_is_ready:FnScope ["jobs", "earlier", "name"] ["jobs", "earlier", "name"] (zAe zD1):=fnS
theorem ok_is_ready (F:Fun K "is_ready" "is_ready" zD1 f fd) (T:Txt K mg) (U:JC K mg C) (M_ahead:Mth P w K mg base C "ahead" 3 ["self", "name"] (spAhead C)):FnOk P w K mg base CX0 4 f fd ["jobs", "earlier", "name"] (spReadyT C):=by
 refine F.ok sc_is_ready (fun vs H Q E h=>?_) (fun cdv A outer s H vs Q E hr h=>?_)
 ·obtain ⟨j,d,J,A,n,rfl,_⟩:=h;rfl
 ·obtain ⟨j,d,J,D0,n,rfl,A0,hd,hn,k⟩:=h;refine ⟨_,(zAd (zAs (zAk (zIy _ rfl) (by rfl) T.z_all bo_all (zAa (zB3 rfl (zCa (sc:=zAe zD1) rfl (by decide +kernel)) (Draws.own (x:= "one") (dtk (i:=1) rfl Draws.nil)) (zAv (pe_methC M_ahead U.cl hr (pv 0) (zAa (pv 2) zAb))) (fun _ _ _ _=>(pgB (i:=0))) (fun _ _ _ _=>zEe) (fun _ _ _ _=>(zB4 (zFl (K:=K)) (pv 0) (pv 1) (by rfl)))) zAb)))),?_⟩;refine ⟨_,rfl,j,J.dx,_,rfl,A0.ob,jf_no _ _ _ (by decide +kernel) (by decide +kernel) (by decide +kernel),_,rfl,j,J,n,rfl,A0,hn,fun a H1 fa h1 k1=>?_⟩;have hd1:=k1 d _ hd (by simp);have hml:(J.ns.filter fun m=>decide (m∈J.S n)).length<=20:=qAW (qA3 _ _) A0.few;have ek:rdyB J D0 n=(J.ns.filter fun m=>decide (m∈J.S n)).all fun m=>decide (m∈D0):=rfl;rw [ek] at k;generalize (J.ns.filter fun m=>decide (m∈J.S n))=ms at h1 hml k;refine ⟨_,rfl,⟨_,SqL.of h1⟩,fun B hB=>zB0 (ms.map V.str) (fun i ys τ H'=>(∃o0,τ=[o0,some (.ref d)])/\ys=((ms.take i).map fun m=>V.bl (decide (m∈D0)))/\H'=upd H1 B (.lst ys)) ⟨⟨_,rfl⟩,rfl,rfl⟩ (fun i ys τ H' ⟨_,_,e⟩=>by subst e;exact SqL.of ((upd_ne (ne_fre (show Fre H1 B from hB) h1)).trans h1)) ?_ ?_⟩
  ·rintro i v ys τ H' hv ⟨⟨o0,rfl⟩,rfl,rfl⟩;obtain ⟨m,em,rfl⟩:=zCg hv;refine ⟨_,rfl,_,rfl,_,_,rfl,.inr (SqT.of ((upd_ne (ne_fre (show Fre H1 B from hB) hd1)).trans hd1)),rfl,zB8 _,?_⟩;rw [qAB (by decide),zEl];refine ⟨upd_same,?_,⟨_,rfl⟩,?_,zC2⟩
   ·rw [qAE,qAj,qAV];lia
   ·rw [zAj em,qAM];rfl
  ·rintro ys τ H' ⟨_,rfl,rfl⟩;have eM:ms.take (ms.map V.str).length=ms:=by rw [qAE,qAu]
   refine ⟨B,ms.map fun m=>decide (m∈D0),rfl,SqL.of ?_,?_⟩
   ·rw [upd_same,eM,qAq];rfl
   ·rw [List.all_map];exact k _ (Kp.new k1 (k1.fre hB (by simp)))
def spFew (C:Addr):Sp:=fun vs H Q _=>∃(j:Addr) (J:JR),vs=[.ref j]/\JobsAt C H j J/\J.ns.length<=7/\∀H',Kp [] H H'->Q .non H'
abbrev zB1:Stmt:=top 32
theorem zFt:FnScope ["jobs"] ["jobs"] (zAe zB1):=fnS
theorem zFv (F:Fun K "check_few" "check_few" zB1 f fd) (T:Txt K mg) (U:JC K mg C) (M_names:Mth P w K mg base C "names" 1 ["self"] (zC4 C)):FnOk P w K mg base CX0 2 f fd ["jobs"] (spFew C):=by
 refine F.ok zFt (fun vs H Q E h=>?_) (fun cdv A outer s H vs Q E hr h=>?_)
 ·obtain ⟨j,J,rfl,_⟩:=h;rfl
 ·obtain ⟨j,J,rfl,A0,few,k⟩:=h;obtain ⟨tM,hM⟩:=T.c_MOST_FEW
  refine ⟨_,(zAd (zCe (zAy op_gt (zAk zA2 (by rfl) T.z_len zFa (zAa (zC0 M_names U.cl hr (pv 0)) zAb)) (zAx rfl hM (v:=.int 7) ⟨_,rfl⟩) (zA7 _))
    (zAd zBn)
    zAz)),?_⟩
  refine ⟨_,rfl,j,J.dx,_,rfl,A0.ob,jf_no _ _ _ (by decide +kernel) (by decide +kernel) (by decide +kernel),j,J,rfl,A0,fun l H1 fl hl k1=>?_⟩;refine ⟨_,_,rfl,.inl (SqL.of hl),_,_,rfl,rfl,_,rfl,?_⟩;rw [qAT (by rw [qAE];lia)];exact iteF (k H1 k1)
def rowsF (b:Int) (ns:List Str):List (List Str):=ns.foldl (fun rs n=>rs++(rs.filter fun r=>decide ((r.length:Int)<b)).map fun r=>r++[n]) [[]]
theorem zEu (b:Int):∀(ns:List Str) (rs:List (List Str)),(ns.foldl (fun rs n=>rs++(rs.filter fun r=>decide ((r.length:Int)<b)).map fun r=>r++[n]) rs).length<=rs.length*2^ns.length
 | [],rs=>by simp
 | n::ns,rs=>by
  have h:=zEu b ns (rs++(rs.filter fun r=>decide ((r.length:Int)<b)).map fun r=>r++[n]);have h1:=qA3 (fun r:List Str=>decide ((r.length:Int)<b)) rs;rw [qAa,qAE] at h;rw [qBX,qAZ,Nat.pow_succ];refine qAW h ?_;rw [Nat.mul_comm (2^ns.length) 2,<-Nat.mul_assoc];exact Nat.mul_le_mul_right _ (by lia)
theorem zHh (b:Int):∀(ns:List Str) (rs:List (List Str)) (m:Nat),(∀r∈rs,r.length<=m)->∀r∈ns.foldl (fun rs n=>rs++(rs.filter fun r=>decide ((r.length:Int)<b)).map fun r=>r++[n]) rs,r.length<=m+ns.length
 | [],rs,m,h=>fun r hr=>h r hr
 | n::ns,rs,m,h=>fun r hr=>by
  have:=zHh b ns _ (m+1) (fun q hq=>?_) r hr
  ·rw [qAZ];lia
  ·rcases qAS.mp hq with z| z
   ·exact Nat.le_succ_of_le (h q z)
   ·obtain ⟨q',h1,rfl⟩:=qAK.mp z;rw [qAa];exact Nat.succ_le_succ (h q' (qAs.mp h1).1)
structure Rws (H0 H:Hp) (l:Addr) (ps:List (Addr×List Str)):Prop where
 top:H l=some (.lst (ps.map fun p=>V.ref p.1))
 row:∀p∈ps,H p.1=some (.lst (p.2.map V.str))
 fr:∀p∈ps,Fre H0 p.1
theorem rw_at {ps:List (Addr×List Str)} {i:Nat} (h:(ps.map fun p=>V.ref p.1)[i]?=some v):∃p,ps[i]?=some p/\v= .ref p.1:=by
 rw [qAX] at h;obtain ⟨p,e,r⟩:=qBA.mp h;exact ⟨p,e,r.symm⟩
def spRows:Sp:=fun vs H Q _=>∃(l:Addr) (b:Int) (ns:List Str),vs=[.ref l,.int b]/\Txs H l ns/\ns.length<=7/\∀(a:Addr) (ps:List (Addr×List Str)) (H':Hp),Rws H H' a ps->ps.map (·.2)=rowsF b ns->Kp [] H H'->Q (.ref a) H'
abbrev zEq:Stmt:=top 40
theorem zDz:FnScope ["names", "most", "rows", "name"] ["names", "most"] (zAe zEq):=fnS
theorem ok_rows_of (F:Fun K "rows_of" "rows_of" zEq f fd) (T:Txt K mg):FnOk P w K mg base CX0 1 f fd ["names", "most"] spRows:=by
 refine F.ok zDz (fun vs H Q E h=>?_) (fun cdv A outer s H vs Q E hr h=>?_)
 ·obtain ⟨l,b,ns,rfl,_⟩:=h;rfl
 ·obtain ⟨l,b,ns,rfl,hl,hn,k⟩:=h
  refine ⟨_,(zAc (psS (i:=2) zDz.nd (zA6 (zAa (zA6 zAb) zAb)))
   (zAc (zBb qAn rfl (zAv (pv 0)) (pgN (i:=3) zDz.nd)
    (zAd (psS (i:=2) zDz.nd (zAm op_cat (pv 2) (zB3 rfl (zCa (sc:=zAe zEq) rfl (by decide +kernel)) (Draws.own (x:= "row") (dtk (i:=3) rfl (dtk (i:=1) rfl Draws.nil))) (zAv (pv 2)) (fun _ _ _ _=>(pgB (i:=0))) (fun _ _ _ _=>(zDs (zAy op_lt (zAk (zIx (K:=K)) (by rfl) T.z_len zFa (zAa (pv 0) zAb)) (pv 2) (zA7 _)))) (fun _ _ _ _=>(zAm op_cat (pv 0) (zA6 (zAa (pv 1) zAb)))))))))
   (zAd (zAs (pv 2))))),?_⟩
  have hs:=qAV;refine ⟨(by walk_at "ln"),fun e he=>?_⟩;have k1:Kp [] H (upd H e (.lst [])):=Kp.new Kp.refl he;have e1:upd H e (.lst []) e=some (.lst []):=upd_same;generalize upd H e (.lst [])=H1 at k1 e1;refine ⟨(by walk_at "ln"),fun a ha=>?_⟩;have k2:Kp [] H1 (upd H1 a (.lst [.ref e])):=Kp.new Kp.refl ha;have R0:Rws H (upd H1 a (.lst [.ref e])) a [(e,[])]:=⟨upd_same,fun p hp=>by rw [qAL.mp hp];exact k2 _ _ e1 (by simp),fun p hp=>by rw [qAL.mp hp];exact he⟩;generalize upd H1 a (.lst [.ref e])=H2 at k2 R0;have k02:=k1.trans k2;refine ⟨_,rfl,_,rfl,⟨_,SqL.of (k02 l _ hl (by simp))⟩,zBp (xs:=ns.map V.str) (fun i σ H3=>∃(a:Addr) (ps:List (Addr×List Str)),(∃o3,σ=[some (.ref l),some (.int b),some (.ref a),o3])/\Rws H H3 a ps/\ps.map (·.2)=rowsF b (ns.take i)/\Kp [] H H3) ⟨a,[(e,[])],⟨_,rfl⟩,R0,rfl,k02⟩ (fun i σ H3 _ ⟨_,_,_,_,_,k3⟩=>SqL.of (k3 l _ hl (by simp))) ?_ ?_⟩
  ·rintro i v σ H3 hv ⟨a,ps,⟨o3,rfl⟩,R3,ep,k3⟩;obtain ⟨n,en,rfl⟩:=zCg hv;have hi:i<ns.length:=(qAc.mp en).1
   have hpl:ps.length<=128:=by
    have h1:ps.length=(rowsF b (ns.take i)).length:=by rw [<-ep,qAE]
    have h2:=zEu b (ns.take i) [[]];have h3:2^(ns.take i).length<=2^7:=qCM (by decide) (by rw [qAj];lia);rw [h1];exact qAW h2 (by rw [qBq,Nat.one_mul];exact h3)
   refine ⟨_,rfl,_,rfl,_,rfl,⟨_,SqL.of R3.top⟩,fun B hB=>zB9 (ps.map fun p=>V.ref p.1) (fun j ys τ H4=>∃qs:List (Addr×List Str),(∃o0,τ=[o0,some (.str n),some (.int b)])/\ys=qs.map (fun p=>V.ref p.1)/\H4 B=some (.lst ys)/\qs.map (·.2)=(((ps.take j).map (·.2)).filter fun r=>decide ((r.length:Int)<b)).map (fun r=>r++[n])/\(∀q∈qs,H4 q.1=some (.lst (q.2.map V.str))/\q.1≠B/\Fre H3 q.1)/\Kp [] H3 H4) ⟨[],⟨_,rfl⟩,rfl,upd_same,rfl,(fun q h=>nomatch h),Kp.new Kp.refl hB⟩ (fun j ys τ H4 ⟨_,_,_,_,_,_,k4⟩=>SqL.of (k4 _ _ R3.top (by simp))) ?_ ?_⟩
   ·rintro j v ys τ H4 hv ⟨qs,⟨o0,rfl⟩,rfl,hB4,eq,hq,k4⟩;obtain ⟨p,epj,rfl⟩:=rw_at hv;have mp:=qAY epj;have hrow:=k4 _ _ (R3.row p mp) (by simp)
    have hql:qs.length<=j:=by
     have:=qAg List.length eq;simp only [qAE] at this;rw [this];refine qAW (qA3 _ _) ?_;rw [qAE,qAj];lia
    have hj:j<ps.length:=(qAc.mp epj).1
    have hp2:p.2.length<=7:=by
     have h1:p.2∈rowsF b (ns.take i):=by rw [<-ep];exact qAK.mpr ⟨p,mp,rfl⟩
     have h2:=zHh b (ns.take i) [[]] 0 (fun r hr=>by rw [qAL.mp hr];exact qAG _) p.2 h1;rw [qAj] at h2;lia
    refine ⟨_,rfl,_,_,rfl,.inl (SqL.of hrow),_,rfl,_,_,rfl,rfl,_,rfl,?_⟩;refine ite2 (fun c=>?_) (fun c=>?_)
    ·rw [qAE] at c;refine ⟨_,rfl,_,rfl,(by walk_at "ln"),fun z hz=>?_⟩;have kz:Kp [] H4 (upd H4 z (.lst [.str n])):=Kp.new Kp.refl hz;have hz4:upd H4 z (.lst [.str n]) z=some (.lst [.str n]):=upd_same;have nBz:B≠z:=zAh hB4 hz;generalize upd H4 z (.lst [.str n])=H5 at kz hz4;refine ⟨_,_,_,_,rfl,rfl,kz _ _ hrow (by simp),hz4,by rw [qAE];show _+1<=_;lia,fun r hr'=>?_⟩;have hB5:=kz _ _ hB4 (by simp);have nBr:B≠r:=zAh hB5 hr';refine ⟨(upd_ne nBr).trans hB5,by rw [qAE];lia,qs++[(r,p.2++[n])],⟨_,rfl⟩,by rw [qAM];rfl,upd_same,?_,fun q hq'=>?_,?_⟩
     ·rw [qAM,eq,zAj epj,qAM,qBP,qAM];show _++[p.2++[n]]=_++(List.filter _ [p.2]).map _;rw [qBE,qAC c];rfl
     ·rcases qAS.mp hq' with z'| z'
      ·obtain ⟨h1,h2,h3⟩:=hq q z';have h5:=kz _ _ h1 (by simp);exact ⟨by rw [upd_ne h2,upd_ne (zAh h5 hr')];exact h5,h2,h3⟩
      ·rw [qAL.mp z'];refine ⟨by rw [upd_ne nBr.symm,upd_same,qAM];rfl,nBr.symm,(k4.trans kz).fre hr' (by simp)⟩
     ·exact Kp.new (Kp.new (k4.trans kz) ((k4.trans kz).fre hr' (by simp))) hB
    ·rw [qAE] at c;refine ⟨qs,⟨_,rfl⟩,rfl,hB4,?_,hq,k4⟩;rw [eq,zAj epj,qAM,qBP];show _=(_++List.filter _ [p.2]).map _;rw [qBE,qAB c];simp
   ·rintro ys τ H4 ⟨qs,_,rfl,hB4,eq,hq,k4⟩;rw [qAE,qAu] at eq
    have hql:qs.length<=128:=by
     have:=qAg List.length eq;simp only [qAE] at this;rw [this];exact qAW (qA3 _ _) (by rw [qAE];exact hpl)
    refine ⟨_,_,_,_,rfl,rfl,k4 _ _ R3.top (by simp),hB4,by rw [qAE,qAE];lia,fun r hr'=>?_⟩;have kr:Kp [] H4 (upd H4 r (.lst (ps.map (fun p=>V.ref p.1)++qs.map fun p=>V.ref p.1))):=Kp.new Kp.refl hr';refine ⟨r,ps++qs,⟨_,rfl⟩,⟨by rw [upd_same,qAM],fun p hp=>?_,fun p hp=>?_⟩,?_,k3.trans (k4.trans kr)⟩
    ·rcases qAS.mp hp with z| z
     ·exact (k4.trans kr) _ _ (R3.row p z) (by simp)
     ·exact kr _ _ (hq p z).1 (by simp)
    ·rcases qAS.mp hp with z| z
     ·exact R3.fr p z
     ·exact k3.fre (hq p z).2.2 (by simp)
    ·rw [qAM,eq,ep,zAj en];unfold rowsF;rw [qB8];rfl
  ·rintro σ H3 ⟨a,ps,⟨o3,rfl⟩,R3,ep,k3⟩;rw [qAE,qAu] at ep;exact ⟨_,rfl,k a ps H3 R3 ep k3⟩
end
theorem pi_listK {K:PySem.W.Frag} {tg l:Expr} {tl:TE} (hl:PE X l tl) (hK:X.K=K:=by rfl):PI X tg l (iList K tl):=by subst hK;exact zAv hl
theorem zG8 {K:PySem.W.Frag} (hK:X.K=K:=by rfl):zCc X (.type "tuple") (fun xs H Q=>∃p ys,xs=[.ref p]/\((SqL K H p ys/\∀l,H l=none->Q (.ref l) (upd H l (.tup ys)))\/(SqT K H p ys/\Q (.ref p) H))):=by subst hK;exact zBw
def zIu (J:JR) (D:List Str):List Str:=J.ns.filter fun n=>decide (n∉D)&&rdyB J D n
def nowF (ns D r:List Str):List Str:=ns.filter fun n=>decide (n∈D)||decide (n∈r)
def zAu (J:JR) (b:Int) (D:List Str):List (List Str×List Str):=(rowsF b (zIu J D)).map fun r=>(r,nowF J.ns D r)
structure SE where
 t:Addr
 ra:Addr
 r:List Str
 na:Addr
 d:List Str
structure StL (H0 H:Hp) (l:Addr) (es:List SE):Prop where
 top:H l=some (.lst (es.map fun e=>V.ref e.t))
 tup:∀e∈es,H e.t=some (.tup [.ref e.ra,.ref e.na])
 row:∀e∈es,H e.ra=some (.lst (e.r.map V.str))
 now:∀e∈es,H e.na=some (.tup (e.d.map V.str))
 fr:∀e∈es,Fre H0 e.ra
theorem StL.kp0 {es:List SE} (S:StL H0 H l es) (k:Kp [] H H'):StL H0 H' l es:=⟨k _ _ S.top (by simp),fun e he=>k _ _ (S.tup e he) (by simp),fun e he=>k _ _ (S.row e he) (by simp),fun e he=>k _ _ (S.now e he) (by simp),S.fr⟩
section
def spSteps (C:Addr):Sp:=fun vs H Q _=>∃(j dn:Addr) (b:Int) (J:JR) (D:List Str),vs=[.ref j,.int b,.ref dn]/\JobsAt C H j J/\J.ns.length<=7/\H dn=some (.tup (D.map V.str))/\∀(a:Addr) (es:List SE) (H':Hp),Fre H a->StL H H' a es->es.map (fun e=>(e.r,e.d))=zAu J b D->Kp [] H H'->Q (.ref a) H'
abbrev zBh:Stmt:=top 39
theorem zC5:FnScope ["jobs", "benches", "done", "names", "free"] ["jobs", "benches", "done"] (zAe zBh):=fnS
theorem zIe (F:Fun K "steps_from" "steps_from" zBh f fd) (T:Txt K mg) (U:JC K mg C) (M_names:Mth P w K mg base C "names" 1 ["self"] (zC4 C)) (C_is_ready:Cal P w K mg base "is_ready" 4 ["jobs", "earlier", "name"] (spReadyT C)) (C_rows_of:Cal P w K mg base "rows_of" 1 ["names", "most"] spRows):FnOk P w K mg base CX0 5 f fd ["jobs", "benches", "done"] (spSteps C):=by
 refine F.ok zC5 (fun vs H Q E h=>?_) (fun cdv A outer s H vs Q E hr h=>?_)
 ·obtain ⟨j,dn,b,J,D,rfl,_⟩:=h;rfl
 ·obtain ⟨j,dn,b,J,D,rfl,A0,few,hdn,k⟩:=h;have hr1:=hr.mono (j:=1) (by decide);have HR4:Room 4 _:=hr
  refine ⟨_,(zAc (psS (i:=3) zC5.nd (zC0 M_names U.cl hr1 (pv 0)))
   (zAc (ps_comp (i:=4) rfl (zCa (sc:=zAe zBh) rfl (by decide +kernel)) (Draws.own (x:= "name") (dtk (i:=2) rfl (dtk (i:=0) rfl Draws.nil))) (zAv (pv 3)) (fun _ _ _ _=>(pgB (i:=0))) (fun _ _ _ _=>(zDs (PW.pt (pw_and (zAy (zEz (K:=K)) (pv 0) (pv 1) (by rfl)) (pw_and1 (zCm (zAg C_is_ready HR4 rfl (zAa (pv 2) (zAa (pv 1) (zAa (pv 0) zAb)))))))))) (fun _ _ _ _=>(pv 0)) zC5.nd rfl rfl)
   (zAd (zAs (zB3 rfl (zCa (sc:=zAe zBh) rfl (by decide +kernel)) (Draws.own (x:= "row") (dtk (i:=3) rfl (dtk (i:=2) rfl Draws.nil))) (zAv (zAg C_rows_of hr1 rfl (zAa (pv 4) (zAa (pv 1) zAb)))) (fun _ _ _ _=>(pgB (i:=0))) (fun _ _ _ _=>zEe) (fun _ _ _ _=>(zCn (zAa (pv 0) (zAa (zAt (zG8 (K:=K)) (by rfl) T.z_tuple zF4 (zAa (zB3 rfl (blk_in (sc:=zAe zBh) rfl rfl (by decide +kernel)) (Draws.own (x:= "name") (dtk (i:=2) rfl (dtk (i:=0) rfl Draws.nil))) (pi_listK (K:=K) (pv 1)) (fun _ _ _ _=>(pgB (i:=0))) (fun _ _ _ _=>(zDs (PW.pt (zG3 (zAy (zFl (K:=K)) (pv 0) (pv 1) (by rfl)) (zEv (zAy (zFl (K:=K)) (pv 0) (pv 2) (by rfl))))))) (fun _ _ _ _=>(pv 0))) zAb)) zAb))))))))),?_⟩
  have hs:=qAV;refine ⟨_,rfl,j,J.dx,_,rfl,A0.ob,jf_no _ _ _ (by decide +kernel) (by decide +kernel) (by decide +kernel),j,J,rfl,A0,fun nl H1 fn h1 k1=>?_⟩;have hd1:=k1 dn _ hdn (by simp);refine ⟨_,rfl,_,rfl,⟨_,SqL.of h1⟩,fun B hB=>zB9 (J.ns.map V.str) (fun i ys τ H2=>(∃o0,τ=[o0,some (.ref dn),some (.ref j)])/\ys=((J.ns.take i).filter fun n=>decide (n∉D)&&rdyB J D n).map V.str/\Kp [] H1 H2/\H2 B=some (.lst ys)) ⟨⟨_,rfl⟩,rfl,Kp.new Kp.refl hB,upd_same⟩ (fun i ys τ H2 ⟨_,_,k2,_⟩=>SqL.of (k2 nl _ h1 (by simp))) ?_ ?_⟩
  ·rintro i v ys τ H2 hv ⟨⟨o0,rfl⟩,rfl,k2,h2⟩;obtain ⟨n,en,rfl⟩:=zCg hv;refine ⟨_,rfl,_,rfl,_,_,rfl,.inr (SqT.of (k2 dn _ hd1 (by simp))),rfl,zB8 _,_,rfl,?_⟩;rw [qAC rfl,zEl]
   by_cases c1:n∈D
   ·rw [qAR c1];refine iteF (iteF ⟨⟨_,rfl⟩,?_,k2,h2⟩);rw [zGw en (by simp [c1])]
   ·rw [qAT c1];refine iteT ?_;refine ⟨_,rfl,_,rfl,_,rfl,j,dn,J,D,n,rfl,A0.kp0 (k1.trans k2),k2 dn _ hd1 (by simp),qAY en,fun H3 k3=>⟨_,rfl,?_⟩⟩;have h3:=k3 _ _ h2 (by simp);refine ite2 (fun c=>?_) (fun c=>?_)
    ·refine ⟨_,rfl,h3,by rw [qAE];exact zE5 (by lia),⟨_,rfl⟩,?_,Kp.new (k2.trans k3) hB,upd_same⟩;rw [zE4 (p:=fun n=>decide (n∉D)&&rdyB J D n) en (by simp [c1,c]),qAM];rfl
    ·refine ⟨⟨_,rfl⟩,?_,k2.trans k3,h3⟩;rw [zGw en (by simp [c])]
  rintro ys τ H2 ⟨_,rfl,k2,h2⟩;rw [qAE,qAu] at h2;have hfl:(zIu J D).length<=7:=qAW (qA3 _ _) few;refine ⟨_,rfl,_,rfl,B,b,zIu J D,rfl,h2,hfl,fun ra ps H3 R3 ep k3=>?_⟩
  have hpl:ps.length<=128:=by
   have h1:ps.length=(rowsF b (zIu J D)).length:=by rw [<-ep,qAE]
   have h2:=zEu b (zIu J D) [[]];have h3:2^(zIu J D).length<=2^7:=qCM (by decide) hfl;rw [h1];exact qAW h2 (by rw [qBq,Nat.one_mul];exact h3)
  have k13:=k2.trans k3;have k03:=k1.trans k13;refine ⟨_,rfl,⟨_,SqL.of R3.top⟩,fun L hL=>zB0 (ps.map fun p=>V.ref p.1) (fun i ys τ H4=>∃es:List SE,(∃o0,τ=[o0,some (.ref nl),some (.ref dn)])/\ys=es.map (fun e=>V.ref e.t)/\H4 L=some (.lst ys)/\es.map (fun e=>(e.ra,e.r))=ps.take i/\(∀e∈es,e.t≠L/\e.na≠L/\H4 e.t=some (.tup [.ref e.ra,.ref e.na])/\H4 e.na=some (.tup (e.d.map V.str))/\e.d=nowF J.ns D e.r)/\Kp [] H3 H4) ⟨[],⟨_,rfl⟩,rfl,upd_same,rfl,(fun q h=>nomatch h),Kp.new Kp.refl hL⟩ (fun i ys τ H4 ⟨_,_,_,_,_,_,k4⟩=>SqL.of (k4 _ _ R3.top (by simp))) ?_ ?_⟩
  ·rintro i v ys τ H4 hv ⟨es,⟨o0,rfl⟩,rfl,hL4,eq,he,k4⟩;obtain ⟨p,epi,rfl⟩:=rw_at hv;have mp:=qAY epi;have hi:i<ps.length:=(qAc.mp epi).1
   have el:es.length=i:=by
    have:=qAg List.length eq;rw [qAE,qAj] at this;lia
   have hrow:=k4 _ _ (R3.row p mp) (by simp);have hn4:=(k13.trans k4) nl _ h1 (by simp);have hd4:=(k03.trans k4) dn _ hdn (by simp);refine ⟨_,rfl,_,rfl,_,rfl,⟨_,SqL.of hn4⟩,fun Y hY=>zB9 (J.ns.map V.str) (fun q ys τ H5=>(∃o0,τ=[o0,some (.ref dn),some (.ref p.1)])/\ys=((J.ns.take q).filter fun n=>decide (n∈D)||decide (n∈p.2)).map V.str/\H5=upd H4 Y (.lst ys)) ⟨⟨_,rfl⟩,rfl,rfl⟩ (fun q ys τ H5 ⟨_,_,z⟩=>by subst z;exact SqL.of ((Kp.new (M:=[]) Kp.refl hY) _ _ hn4 (by simp))) ?_ ?_⟩
   ·rintro q v ys τ H5 hv ⟨⟨o0,rfl⟩,rfl,rfl⟩;obtain ⟨n,en,rfl⟩:=zCg hv;have kY:Kp [] H4 (upd H4 Y (.lst (((J.ns.take q).filter fun n=>decide (n∈D)||decide (n∈p.2)).map V.str))):=Kp.new Kp.refl hY;refine ⟨_,rfl,_,rfl,_,_,rfl,.inr (SqT.of (kY _ _ hd4 (by simp))),rfl,zB8 _,_,rfl,?_⟩;rw [qAB (by decide),zEl]
    by_cases c1:n∈D
    ·rw [qAR c1];refine iteT (iteT ?_);refine ⟨_,rfl,upd_same,by rw [qAE];exact zE5 (by lia),⟨_,rfl⟩,?_,zC2⟩;rw [zE4 (p:=fun n=>decide (n∈D)||decide (n∈p.2)) en (by simp [c1]),qAM];rfl
    ·rw [qAT c1];refine iteF ?_;refine ⟨_,rfl,_,rfl,_,_,rfl,.inl (SqL.of (kY _ _ hrow (by simp))),rfl,zB8 _,_,rfl,?_⟩;rw [qAB (by decide),zEl];refine ite2 (fun c=>?_) (fun c=>?_)
     ·refine ⟨_,rfl,upd_same,by rw [qAE];exact zE5 (by lia),⟨_,rfl⟩,?_,zC2⟩;rw [zE4 (p:=fun n=>decide (n∈D)||decide (n∈p.2)) en (by rw [c];simp),qAM];rfl
     ·refine ⟨⟨_,rfl⟩,?_,rfl⟩;rw [zGw (p:=fun n=>decide (n∈D)||decide (n∈p.2)) en (by simpa [c1] using c)]
   ·rintro ys τ H5 ⟨_,rfl,rfl⟩;rw [qAE,qAu,show (J.ns.filter fun n=>decide (n∈D)||decide (n∈p.2))=nowF J.ns D p.2 from rfl];have kY:Kp [] H4 (upd H4 Y (.lst ((nowF J.ns D p.2).map V.str))):=Kp.new Kp.refl hY;have hY5:upd H4 Y (.lst ((nowF J.ns D p.2).map V.str)) Y=some (.lst ((nowF J.ns D p.2).map V.str)):=upd_same;refine ⟨Y,(nowF J.ns D p.2).map V.str,rfl,.inl ⟨SqL.of hY5,fun na hna=>?_⟩⟩;have hna:upd H4 Y (.lst ((nowF J.ns D p.2).map V.str)) na=none:=hna;generalize upd H4 Y (.lst ((nowF J.ns D p.2).map V.str))=H5 at kY hY5 hna;have kn:Kp [] H5 (upd H5 na (.tup ((nowF J.ns D p.2).map V.str))):=Kp.new Kp.refl hna;have hn6:upd H5 na (.tup ((nowF J.ns D p.2).map V.str)) na=some (.tup ((nowF J.ns D p.2).map V.str)):=upd_same;have nLn:L≠na:=zAh (kY _ _ hL4 (by simp)) hna;generalize upd H5 na (.tup ((nowF J.ns D p.2).map V.str))=H6 at kn hn6;refine ⟨(by walk_at "ln"),fun t ht=>?_⟩;have kt:Kp [] H6 (upd H6 t (.tup [.ref p.1,.ref na])):=Kp.new Kp.refl ht;have hL6:=(kY.trans kn) _ _ hL4 (by simp);have nLt:L≠t:=zAh hL6 ht;have k47:Kp [] H4 (upd H6 t (.tup [.ref p.1,.ref na])):=(kY.trans kn).trans kt;have ht7:upd H6 t (.tup [.ref p.1,.ref na]) t=some (.tup [.ref p.1,.ref na]):=upd_same;have hn7:=kt _ _ hn6 (by simp);have hL7:=k47 _ _ hL4 (by simp);generalize upd H6 t (.tup [.ref p.1,.ref na])=H7 at kt k47 ht7 hn7 hL7;refine ⟨hL7,by rw [qAE];lia,es++[⟨t,p.1,p.2,na,nowF J.ns D p.2⟩],⟨_,rfl⟩,by rw [qAM];rfl,upd_same,?_,fun e he'=>?_,?_⟩
    ·rw [qAM,eq,zAj epi];rfl
    ·rcases qAS.mp he' with z| z
     ·obtain ⟨h1,h2,h3,h4,h5⟩:=he e z;exact ⟨h1,h2,by rw [upd_ne h1];exact k47 _ _ h3 (by simp),by rw [upd_ne h2];exact k47 _ _ h4 (by simp),h5⟩
     ·rw [qAL.mp z];exact ⟨nLt.symm,nLn.symm,by rw [upd_ne nLt.symm];exact ht7,by rw [upd_ne nLn.symm];exact hn7,rfl⟩
    ·exact Kp.new (k4.trans k47) hL
  ·rintro ys τ H4 ⟨es,_,rfl,hL4,eq,he,k4⟩;rw [qAE,qAu] at eq;have bk:∀e∈es,(e.ra,e.r)∈ps:=fun e h=>by rw [<-eq];exact qAK.mpr ⟨e,h,rfl⟩
   refine k L es H4 (k03.fre hL (by simp)) ⟨hL4,fun e h=>(he e h).2.2.1,fun e h=>k4 _ _ (R3.row _ (bk e h)) (by simp),fun e h=>(he e h).2.2.2.1,fun e h=>(k1.trans k2).fre (R3.fr _ (bk e h)) (by simp)⟩ ?_ (k03.trans k4);unfold zAu;rw [<-ep,<-eq,qAq,qAq];exact qBw fun e h=>by show (e.r,e.d)=(e.r,nowF J.ns D e.r);rw [(he e h).2.2.2.2]
end
def kyS (D:List Str):List Key:=D.map Sum.inr
theorem zDe (D:List Str):(kyS D).map kV=D.map V.str:=by unfold kyS;rw [qAq];rfl
theorem zB6:∀{A B:List Str},kyS A=kyS B->A=B
 | [],[],_=>rfl
 | [],_::_,h=>nomatch h
 | _::_,[],h=>nomatch h
 | a::A,b::B,h=>by
  obtain ⟨h1,h2⟩:=List.cons.inj h;rw [Sum.inr.inj h1,zB6 h2]
def powL:List Str->List (List Str)
 | []=>[[]]
 | n::ns=>powL ns++(powL ns).map (n::·)
theorem powL_len:∀ns:List Str,(powL ns).length=2^ns.length
 | []=>rfl
 | n::ns=>by
  show (powL ns++(powL ns).map (n::·)).length=2^(ns.length+1);rw [qAa,qAE,powL_len ns,Nat.pow_succ];lia
theorem zFp (p:Str->Bool):∀ns:List Str,ns.filter p∈powL ns
 | []=>qAL.mpr rfl
 | n::ns=>by
  rw [qBE];show _∈powL ns++(powL ns).map (n::·);split
  ·exact qAl _ (qAK.mpr ⟨_,zFp p ns,rfl⟩)
  ·exact qAk _ (zFp p ns)
theorem sub_lenK:∀{A B:List (List Key)},A.Nodup->(∀x∈A,x∈B)->A.length<=B.length
 | [],B,_,_=>qAf _
 | a::A,B,h,hs=>by
  obtain ⟨h1,h2⟩:=qA1.mp h;have hb:=hs a qAU;have:=sub_lenK (B:=B.filter fun x=>decide (x≠a)) h2 fun x hx=>qAs.mpr ⟨hs x (qAP _ hx),qAR fun e=>h1 (e▸hx)⟩;have:(B.filter fun x=>decide (x≠a)).length<B.length:=List.length_filter_lt_length_iff_exists.mpr ⟨a,hb,by simp⟩;rw [qAZ];lia
theorem zIo {ns:List Str} {kvs:List (List Key×V)} (hn:ns.length<=7) (nd:(kvs.map (·.1)).Nodup) (h:∀kv∈kvs,∃p,kv.1=kyS (ns.filter p)):kvs.length<=128:=by
 have h1:=sub_lenK (B:=(powL ns).map kyS) nd fun x hx=>by
  obtain ⟨kv,m,rfl⟩:=qAK.mp hx;obtain ⟨p,e⟩:=h kv m;rw [e];exact qAK.mpr ⟨_,zFp p ns,rfl⟩
 rw [qAE,qAE,powL_len] at h1;exact qAW h1 (qCM (by decide) hn:2^ns.length<=2^7)
section
variable {κ:Type} [DecidableEq κ]
theorem zEm:∀{kvs:List (κ×V)} {k:κ},k∈kvs.map (·.1)->∃v,valV kvs k=some v/\(k,v)∈kvs
 | [],k,h=>nomatch h
 | p::r,k,h=>by
  by_cases e:p.1=k
  ·exact ⟨p.2,zA5 e,by rw [<-e];exact qAU⟩
  ·obtain ⟨v,h1,h2⟩:=zEm (kvs:=r) (k:=k) ((qAO.mp h).resolve_left fun z=>e z.symm);exact ⟨v,(zA3 e).trans h1,qAP _ h2⟩
theorem zEn:∀{kvs:List (κ×V)} {k:κ},k∉kvs.map (·.1)->valV kvs k=none
 | [],k,h=>rfl
 | p::r,k,h=>by
  rw [qAp,qAO,not_or] at h;rw [zA3 fun z=>h.1 z.symm];exact zEn h.2
theorem val_is (kvs:List (κ×V)) (k:κ):(valV kvs k).isSome=decide (k∈kvs.map (·.1)):=by
 by_cases h:k∈kvs.map (·.1)
 ·obtain ⟨v,e,_⟩:=zEm h;rw [e,qAR h];rfl
 ·rw [zEn h,qAT h];rfl
theorem mem_putK {kvs:List (κ×V)} {k:κ} {kv:κ×V} (h:kv∈putK kvs k v):kv=(k,v)\/(kv∈kvs/\kv.1≠k):=by
 unfold putK at h;split at h
 ·obtain ⟨q,h1,h2⟩:=qAK.mp h;split at h2
  ·rename_i e;exact .inl (by rw [<-h2,e])
  ·rename_i e;exact .inr (by rw [<-h2];exact ⟨h1,e⟩)
 ·rename_i n;rcases qAS.mp h with z| z
  ·exact .inr ⟨z,fun e=>n (List.any_eq_true.mpr ⟨kv,z,qAR e⟩)⟩
  ·exact .inl (qAL.mp z)
theorem keys_putK (kvs:List (κ×V)) (k:κ) (v:V):(putK kvs k v).map (·.1)=if k∈kvs.map (·.1) then kvs.map (·.1) else kvs.map (·.1)++[k]:=by
 by_cases h:k∈kvs.map (·.1)
 ·rw [qAC h];unfold putK
  have:(kvs.any fun kv=>decide (kv.1=k))=true:=by
   obtain ⟨q,h1,h2⟩:=qAK.mp h;exact List.any_eq_true.mpr ⟨q,h1,qAR h2⟩
  rw [qAC this,qAq]
  exact qBw fun q _=>by
   show (if q.1=k then (q.1,v) else q).1=q.1;split<;>rfl
 ·rw [qAB h,zEw v (zEn h),qAM];rfl
theorem nd_put {kvs:List (κ×V)} {k:κ} (h:(kvs.map (·.1)).Nodup):((putK kvs k v).map (·.1)).Nodup:=by
 rw [keys_putK];split
 ·exact h
 ·rename_i n;exact qBt.mpr ⟨h,by simp,fun a ha d hd=>by rw [qAL.mp hd];exact fun z=>n (z▸ha)⟩
end
theorem StL.put {M:List Addr} {es:List SE} (S:StL H0 H l es) (k:Kp M H H') (h:∀m∈M,∃o,H0 m=some o) (h2:∀m∈M,∀ys,H m≠some (.tup ys)) (fl:Fre H0 l):StL H0 H' l es:=by
 have nf:∀x,Fre H0 x->x∉M:=fun x f z=>by
  obtain ⟨o,e⟩:=h x z;rw [show H0 x=none from f] at e;cases e
 have nt:∀x ys,H x=some (.tup ys)->x∉M:=fun x ys e z=>h2 x z ys e;exact ⟨k _ _ S.top (nf _ fl),fun e he=>k _ _ (S.tup e he) (nt _ _ (S.tup e he)),fun e he=>k _ _ (S.row e he) (nf _ (S.fr e he)),fun e he=>k _ _ (S.now e he) (nt _ _ (S.now e he)),S.fr⟩
structure StD (J:JR) (b:Int) (H0 H:Hp) (d:Addr) (kvs:List (List Key×V)):Prop where
 top:H d=some (.dT kvs)
 each:∀kv∈kvs,∃(D:List Str) (l:Addr) (es:List SE),kv=(kyS D,.ref l)/\StL H0 H l es/\es.map (fun e=>(e.r,e.d))=zAu J b D/\Fre H0 l/\∃p,D=J.ns.filter p
 nd:(kvs.map (·.1)).Nodup
theorem StD.kp0 {d:Addr} {kvs:List (List Key×V)} (S:StD J b H0 H d kvs) (k:Kp [] H H'):StD J b H0 H' d kvs:=⟨k _ _ S.top (by simp),fun kv h=>by
 obtain ⟨D,l,es,e1,e2,e3⟩:=S.each kv h;exact ⟨D,l,es,e1,e2.kp0 k,e3⟩,S.nd⟩
theorem StD.few {d:Addr} {kvs:List (List Key×V)} (S:StD J b H0 H d kvs) (hn:J.ns.length<=7):kvs.length<=128:=zIo hn S.nd fun kv h=>by
 obtain ⟨D,l,es,rfl,_,_,_,p,rfl⟩:=S.each kv h;exact ⟨p,rfl⟩
theorem zFg {D:List Str} (hn:J.ns.length<=7):(zAu J b D).length<=128:=by
 have h2:=zEu b (zIu J D) [[]];have h3:2^(zIu J D).length<=2^7:=qCM (by decide) (qAW (qA3 _ _) hn);unfold zAu;rw [qAE];exact qAW h2 (by rw [qBq,Nat.one_mul];exact h3)
theorem se_at {es:List SE} {i:Nat} (h:(es.map fun e=>V.ref e.t)[i]?=some v):∃e,es[i]?=some e/\v= .ref e.t:=by
 rw [qAX] at h;obtain ⟨p,e,r⟩:=qBA.mp h;exact ⟨p,e,r.symm⟩
def szT (H:Hp) (a:Addr):Nat:=match H a with
 | some (.dT kvs)=>kvs.length
 | _=>0
section
def spAll (C:Addr):Sp:=fun vs H Q _=>∃(j:Addr) (b:Int) (J:JR),vs=[.ref j,.int b]/\JobsAt C H j J/\J.ns.length<=7/\∀(d:Addr) (kvs:List (List Key×V)) (H':Hp),StD J b H H' d kvs->kyS []∈kvs.map (·.1)->(∀D,kyS D∈kvs.map (·.1)->∀s∈zAu J b D,kyS s.2∈kvs.map (·.1))->Kp [] H H'->Q (.ref d) H'
abbrev zC9:Stmt:=top 38
theorem zCj:FnScope ["jobs", "benches", "steps", "left", "done"] ["jobs", "benches"] (zAe zC9):=fnS
theorem ok_all_steps (F:Fun K "all_steps" "all_steps" zC9 f fd) (T:Txt K mg) (C_steps_from:Cal P w K mg base "steps_from" 5 ["jobs", "benches", "done"] (spSteps C)):FnOk P w K mg base CX0 6 f fd ["jobs", "benches"] (spAll C):=by
 refine F.ok zCj (fun vs H Q E h=>?_) (fun cdv A outer s H vs Q E hr h=>?_)
 ·obtain ⟨j,b,J,rfl,_⟩:=h;rfl
 ·obtain ⟨j,b,J,rfl,A0,few,k⟩:=h;have hu:=zGu hr
  refine ⟨_,(zAc (psS (i:=2) zCj.nd zIa)
   (zAc (psS (i:=3) zCj.nd (zA6 (zAa (zCn zAb) zAb)))
   (zAc (zH8 qAn (zH6 (pv 3) (fun _=>rfl))
    (zAc (psS (i:=4) zCj.nd (pe_bm0 qBd PySem.F.slot_list_pop PySem.F.type_list_pop mt_pop (pv 3)))
    (zAd (zCe (pt_cmp (zGg hu (pv 4) (pv 2)))
     (zAc (zEf hu (pv 2) (pv 4) (zAg C_steps_from hr rfl (zAa (pv 0) (zAa (pv 1) (zAa (pv 4) zAb)))) rfl)
     (zAd (zAq (zG4 qBd qDI qDJ zGl (pv 3) (zAa (zB3 rfl (zCa (sc:=zAe zC9) rfl (by decide +kernel)) (Draws.own (x:= "row") (Draws.own (x:= "now") Draws.nil)) (zAv (zDb hu (pv 2) (pv 4) (fun _ _=>rfl))) (fun _ _ _ _=>(pg_tupK (K:=K) (n:=2) rfl (zAp (pgB (i:=0)) (zAp (pgB (i:=1)) zCu)))) (fun _ _ _ _=>zEe) (fun _ _ _ _=>(pv 1))) zAb)))))
     zAz))))
   (zAd (zAs (pv 2)))))),?_⟩
  have hs:=qAV;refine fun d hd=>?_;have k1:Kp [] H (upd H d (.dT [])):=Kp.new Kp.refl hd;have hd1:upd H d (.dT []) d=some (.dT []):=upd_same;generalize upd H d (.dT [])=H1 at k1 hd1;refine ⟨(by walk_at "ln"),fun t0 ht0=>?_⟩;have k2:Kp [] H1 (upd H1 t0 (.tup [])):=Kp.new Kp.refl ht0;have ht2:upd H1 t0 (.tup []) t0=some (.tup []):=upd_same;have hd2:=k2 _ _ hd1 (by simp);generalize upd H1 t0 (.tup [])=H2 at k2 ht2 hd2;refine ⟨(by walk_at "ln"),fun lf hlf=>?_⟩;have k3:Kp [] H2 (upd H2 lf (.lst [.ref t0])):=Kp.new Kp.refl hlf;have hl3:upd H2 lf (.lst [.ref t0]) lf=some (.lst [.ref t0]):=upd_same;have hd3:=k3 _ _ hd2 (by simp);have ht3:=k3 _ _ ht2 (by simp);have flf:Fre H lf:=(k1.trans k2).fre hlf (by simp);have k03:=(k1.trans k2).trans k3;generalize upd H2 lf (.lst [.ref t0])=Hs at k3 hl3 hd3 ht3 k03;have ndl:d≠lf:=zBq hd3 hl3 (fun z=>nomatch z)
  have inM:∀m∈[d,lf],∃o,Hs m=some o:=fun m hm=>by
   rcases qAO.mp hm with z| z
   ·rw [z];exact ⟨_,hd3⟩
   ·rw [qAL.mp z];exact ⟨_,hl3⟩
  have A3:=A0.kp0 k03;show tWhile (fun σ H Q=>tVar 3 σ H fun x H'=>∃k,TruV K x H' k/\Q k H') _ _ _ _
  refine while_by (fun σ H4=>∃(kvs:List (List Key×V)) (ws:List (Addr×List Str)) (o4:Option V),σ=[some (.ref j),some (.int b),some (.ref d),some (.ref lf),o4]/\Kp [d,lf] Hs H4/\StD J b Hs H4 d kvs/\H4 lf=some (.lst (ws.map fun q=>V.ref q.1))/\(∀q∈ws,H4 q.1=some (.tup (q.2.map V.str))/\∃p,q.2=J.ns.filter p)/\(kyS []∈kvs.map (·.1)\/[]∈ws.map (·.2))/\(∀D,kyS D∈kvs.map (·.1)->∀s∈zAu J b D,kyS s.2∈kvs.map (·.1)\/s.2∈ws.map (·.2))/\ws.length+128*(128 - kvs.length)<=16385) (fun _ H4=>129*(129 - szT H4 d)+szAt H4 lf)
   ⟨[],[(t0,[])],none,rfl,Kp.refl,⟨hd3,(fun _ h=>nomatch h),qBB⟩,hl3,fun q hq=>by
    rw [qAL.mp hq];exact ⟨ht3,fun _=>false,by simp⟩,.inr (by simp),(fun _ h=>nomatch h),by simp⟩ ?_ (fun σ H Q Q' hq hc=>by
    obtain ⟨x,e,b,t,q⟩:=hc;exact ⟨x,e,b,t,hq _ _ q⟩)
  rintro σ H4 ⟨kvs,ws,o4,rfl,k4,S4,hl4,hw4,st4,cl4,cap⟩;refine ⟨_,rfl,_,.inl ⟨_,SqL.of hl4,rfl⟩,?_⟩;refine ite2 (fun c=>?_) (fun c=>?_)
  ·obtain ⟨w0,x0,rfl⟩:∃w0 x0,ws=w0++[x0]:=by
    have:ws≠[]:=fun z=>by rw [z] at c;simp at c
    exact ⟨ws.dropLast,ws.getLast this,(List.dropLast_concat_getLast this).symm⟩
   have eW:(w0++[x0]).map (fun q=>V.ref q.1)=w0.map (fun q=>V.ref q.1)++[.ref x0.1]:=by rw [qAM];rfl
   rw [qAa,qBq] at cap;have s1:szT H4 d=kvs.length:=by unfold szT;rw [S4.top]
   have s2:szAt H4 lf=w0.length+1:=by rw [zHu hl4,qAE,qAa];rfl
   rw [eW] at hl4;refine ⟨_,rfl,.inl ⟨rfl,_,SqL.of hl4⟩,_,_,.ref x0.1,rfl,rfl,hl4,(by simp),?_⟩;rw [List.dropLast_concat];obtain ⟨hx0,p0,ep0⟩:=hw4 x0 (by simp);have nxl:x0.1≠lf:=zBq hx0 hl4 (fun z=>nomatch z)
   have no4:∀m∈[d,lf],∀ys,H4 m≠some (.tup ys):=fun m hm ys=>by
    rcases qAO.mp hm with z| z
    ·rw [z,S4.top];exact fun z=>nomatch z
    ·rw [qAL.mp z,hl4];exact fun z=>nomatch z
   have k5:Kp [d,lf] H4 (upd H4 lf (.lst (w0.map fun q=>V.ref q.1))):=Kp.put Kp.refl (by simp);have hl5:upd H4 lf (.lst (w0.map fun q=>V.ref q.1)) lf=some (.lst (w0.map fun q=>V.ref q.1)):=upd_same;have hd5:upd H4 lf (.lst (w0.map fun q=>V.ref q.1)) d=some (.dT kvs):=(upd_ne ndl).trans S4.top;generalize upd H4 lf (.lst (w0.map fun q=>V.ref q.1))=H5 at k5 hl5 hd5;have tp5:∀x ys,H4 x=some (.tup ys)->H5 x=some (.tup ys):=fun x ys e=>k5 _ _ e fun z=>no4 x z ys e;have hx5:=tp5 _ _ hx0
   have S5:StD J b Hs H5 d kvs:=⟨hd5,fun kv h=>by
    obtain ⟨D,l,es,e1,e2,e3,e4,e5⟩:=S4.each kv h;exact ⟨D,l,es,e1,e2.put k5 inM no4 e4,e3,e4,e5⟩,S4.nd⟩
   have k35:=k4.trans k5;have few4:=S4.few few;refine ⟨_,rfl,_,rfl,_,_,rfl,DGet.t (k:=kyS x0.2) hd5 (by rw [zDe];exact hx5),_,rfl,?_⟩;rw [val_is];refine ite2 (fun c2=>?_) (fun c2=>?_)
   ·have c2:kyS x0.2∉kvs.map (·.1):=by simpa using c2
    have hlen:w0.length<=16384:=by lia
    have k05:Kp [] H H5:=fun b o h _=>k35 b o (k03 b o h (by simp)) (nm2 (ne_fre hd h) (ne_fre flf h));have fr5:∀x,Fre H5 x->Fre Hs x:=fun x f=>k35.fre f (nm2 (ne_fre f hd5).symm (ne_fre f hl5).symm);refine ⟨_,rfl,_,rfl,_,rfl,j,x0.1,b,J,x0.2,rfl,A0.kp0 k05,few,hx5,fun l es H6 fl S6 es6 k6=>?_⟩;have hd6:=k6 _ _ hd5 (by simp);have hx6:=k6 _ _ hx5 (by simp);have hl6:=k6 _ _ hl5 (by simp);refine ⟨_,rfl,_,rfl,_,_,rfl,DPut.t (k:=kyS x0.2) hd6 (by rw [zDe];exact hx6) (by lia),?_⟩;have ev:valV (putK kvs (kyS x0.2) (.ref l)) (kyS x0.2)=some (.ref l):=by rw [valV_put,qAC rfl]
    rw [zEw _ (zEn c2)] at ev ⊢;have S6':StD J b Hs H6 d kvs:=S5.kp0 k6;have T6:StL Hs H6 l es:=⟨S6.top,S6.tup,S6.row,S6.now,fun e he=>fr5 _ (S6.fr e he)⟩;have k7:Kp [d,lf] H6 (upd H6 d (.dT (kvs++[(kyS x0.2,.ref l)]))):=Kp.put Kp.refl (by simp);have hd7:upd H6 d (.dT (kvs++[(kyS x0.2,.ref l)])) d=some (.dT (kvs++[(kyS x0.2,.ref l)])):=upd_same;have hl7:=(upd_ne (o:=.dT (kvs++[(kyS x0.2,.ref l)])) ndl.symm).trans hl6;generalize upd H6 d (.dT (kvs++[(kyS x0.2,.ref l)]))=H7 at k7 hd7 hl7
    have no6:∀m∈[d,lf],∀ys,H6 m≠some (.tup ys):=fun m hm ys=>by
     rcases qAO.mp hm with z| z
     ·rw [z,hd6];exact fun z=>nomatch z
     ·rw [qAL.mp z,hl6];exact fun z=>nomatch z
    have tp7:∀x ys,H6 x=some (.tup ys)->H7 x=some (.tup ys):=fun x ys e=>k7 _ _ e fun z=>no6 x z ys e;have fls:=fr5 l fl;have T7:=T6.put k7 inM no6 fls;have el:es.length=(zAu J b x0.2).length:=by rw [<-es6,qAE]
    have el2:es.length<=128:=by rw [el];exact zFg few
    have nd7:((kvs++[(kyS x0.2,V.ref l)]).map (·.1)).Nodup:=by rw [<-zEw (V.ref l) (zEn c2)];exact nd_put S4.nd
    have S7:StD J b Hs H7 d (kvs++[(kyS x0.2,.ref l)]):=⟨hd7,fun kv h=>by
     rcases qAS.mp h with z| z
     ·obtain ⟨D,l,es,e1,e2,e3,e4,e5⟩:=S6'.each kv z;exact ⟨D,l,es,e1,e2.put k7 inM no6 e4,e3,e4,e5⟩
     ·rw [qAL.mp z];exact ⟨_,_,es,rfl,T7,es6,fls,p0,ep0⟩,nd7⟩
    have few7:=S7.few few;rw [qAa,qBq] at few7;have g7:=DGet.t (k:=kyS x0.2) hd7 (by rw [zDe];exact tp7 _ _ hx6);rw [ev] at g7;refine ⟨_,rfl,.inl ⟨rfl,_,SqL.of hl7⟩,_,rfl,_,rfl,_,_,rfl,g7,_,rfl,⟨_,SqL.of T7.top⟩,fun B hB=>zB0 (es.map fun e=>V.ref e.t) (fun i ys τ H8=>(∃o0 o1,τ=[o0,o1])/\ys=(es.take i).map (fun e=>V.ref e.na)/\H8=upd H7 B (.lst ys)) ⟨⟨_,_,rfl⟩,rfl,rfl⟩ (fun i ys τ H8 ⟨_,_,z⟩=>by subst z;exact SqL.of ((Kp.new (M:=[]) Kp.refl hB) _ _ T7.top (by simp))) ?_ ?_⟩
    ·rintro i v ys τ H8 hv ⟨⟨o0,o1,rfl⟩,rfl,rfl⟩;obtain ⟨e,ee,rfl⟩:=se_at hv;have hrow:=(Kp.new (l:=B) (o:=.lst ((es.take i).map fun e=>V.ref e.na)) (M:=[]) Kp.refl hB) _ _ (T7.tup e (qAY ee)) (by simp);have hi:i<es.length:=(qAc.mp ee).1;refine ⟨_,_,rfl,.inl (.inl hrow),rfl,_,_,rfl,_,_,rfl,rfl,?_⟩;refine ⟨_,rfl,upd_same,by rw [qAE,qAj];lia,⟨_,_,rfl⟩,?_,zC2⟩;rw [zAj ee,qAM];rfl
    ·rintro ys τ H8 ⟨_,rfl,rfl⟩;rw [qAE,qAu];have k8:Kp [] H7 (upd H7 B (.lst (es.map fun e=>V.ref e.na))):=Kp.new Kp.refl hB;have hB8:upd H7 B (.lst (es.map fun e=>V.ref e.na)) B=some (.lst (es.map fun e=>V.ref e.na)):=upd_same;generalize upd H7 B (.lst (es.map fun e=>V.ref e.na))=H8 at k8 hB8;have hl8:=k8 _ _ hl7 (by simp);have hd8:=k8 _ _ hd7 (by simp);refine ⟨_,_,_,_,rfl,rfl,hl8,hB8,by rw [qAE,qAE];lia,?_⟩;have ew:w0.map (fun q=>V.ref q.1)++es.map (fun e=>V.ref e.na)=(w0++es.map fun e=>(e.na,e.d)).map fun q=>V.ref q.1:=by rw [qAM,qAq];rfl
     rw [ew]
     have no8:∀m∈[d,lf],∀ys,H8 m≠some (.tup ys):=fun m hm ys=>by
      rcases qAO.mp hm with z| z
      ·rw [z,hd8];exact fun z=>nomatch z
      ·rw [qAL.mp z,hl8];exact fun z=>nomatch z
     have k9:Kp [d,lf] H8 (upd H8 lf (.lst ((w0++es.map fun e=>(e.na,e.d)).map fun q=>V.ref q.1))):=Kp.put Kp.refl (by simp);have hl9:upd H8 lf (.lst ((w0++es.map fun e=>(e.na,e.d)).map fun q=>V.ref q.1)) lf=some (.lst ((w0++es.map fun e=>(e.na,e.d)).map fun q=>V.ref q.1)):=upd_same;have hd9:=(upd_ne (o:=.lst ((w0++es.map fun e=>(e.na,e.d)).map fun q=>V.ref q.1)) ndl).trans hd8;generalize upd H8 lf (.lst ((w0++es.map fun e=>(e.na,e.d)).map fun q=>V.ref q.1))=H9 at k9 hl9 hd9;have S8:=S7.kp0 k8;have tp9:∀x ys,H7 x=some (.tup ys)->H9 x=some (.tup ys):=fun x ys e=>k9 _ _ (k8 _ _ e (by simp)) fun z=>no8 x z ys (k8 _ _ e (by simp));have mk:∀x:List Key,x∈kvs.map (·.1)->x∈(kvs++[(kyS x0.2,V.ref l)]).map (·.1):=fun x h=>by rw [qAM];exact qAk _ h
     have mx:kyS x0.2∈(kvs++[(kyS x0.2,V.ref l)]).map (·.1):=by rw [qAM];exact qAl _ (qAL.mpr rfl)
     have mw:∀x:List Str,(kyS x∈kvs.map (·.1)\/x∈(w0++[x0]).map (·.2))->kyS x∈(kvs++[(kyS x0.2,V.ref l)]).map (·.1)\/x∈(w0++es.map fun e=>(e.na,e.d)).map (·.2):=fun x h=>by
      rcases h with z| z
      ·exact .inl (mk _ z)
      ·rw [qAM] at z;rcases qAS.mp z with y| y
       ·exact .inr (by rw [qAM];exact qAk _ y)
       ·have y:x=x0.2:=qAL.mp y;rw [y];exact .inl mx
     refine ⟨⟨_,w0++es.map fun e=>(e.na,e.d),_,rfl,fun b o h z=>k9 b o (k8 b o (k7 b o (k6 b o (k35 b o h z) (by simp)) z) (by simp)) z,⟨hd9,fun kv h=>?_,nd7⟩,hl9,fun q hq=>?_,mw _ st4,fun D hD s hs=>?_,?_⟩,?_⟩
     ·obtain ⟨D,l,es,e1,e2,e3,e4,e5⟩:=S8.each kv h;exact ⟨D,l,es,e1,e2.put k9 inM no8 e4,e3,e4,e5⟩
     ·rcases qAS.mp hq with z| z
      ·obtain ⟨h1,h2⟩:=hw4 q (qAk _ z);exact ⟨tp9 _ _ (tp7 _ _ (k6 _ _ (tp5 _ _ h1) (by simp))),h2⟩
      ·obtain ⟨e,he,rfl⟩:=qAK.mp z;refine ⟨tp9 _ _ (T7.now e he),?_⟩;have:(e.r,e.d)∈zAu J b x0.2:=by rw [<-es6];exact qAK.mpr ⟨e,he,rfl⟩
       obtain ⟨r,_,er⟩:=qAK.mp this;exact ⟨_,(qAg (·.2) er).symm⟩
     ·rw [qAM] at hD;rcases qAS.mp hD with z| z
      ·exact mw _ (cl4 D z s hs)
      ·have:=zB6 (qAL.mp z);subst this;rw [<-es6] at hs;obtain ⟨e,he,rfl⟩:=qAK.mp hs;exact .inr (qAK.mpr ⟨(e.na,e.d),qAl _ (qAK.mpr ⟨e,he,rfl⟩),rfl⟩)
     ·rw [qAa,qAa,qAE,qBq];lia
     ·have s3:szT H9 d=kvs.length+1:=by unfold szT;rw [hd9];exact qAa
      have s4:szAt H9 lf=w0.length+es.length:=by rw [zHu hl9,qAE,qAa,qAE]
      show 129*(129 - szT H9 d)+szAt H9 lf<129*(129 - szT H4 d)+szAt H4 lf;rw [s1,s2,s3,s4];lia
   ·have c2:kyS x0.2∈kvs.map (·.1):=by simpa using c2
    refine ⟨⟨kvs,w0,_,rfl,k35,S5,hl5,fun q hq=>?_,?_,fun D hD s hs=>?_,by lia⟩,?_⟩
    ·obtain ⟨h1,h2⟩:=hw4 q (qAk _ hq);exact ⟨tp5 _ _ h1,h2⟩
    ·rcases st4 with z| z
     ·exact .inl z
     ·rw [qAM] at z;rcases qAS.mp z with y| y
      ·exact .inr y
      ·have y:[]=x0.2:=qAL.mp y;rw [<-y] at c2;exact .inl c2
    ·rcases cl4 D hD s hs with z| z
     ·exact .inl z
     ·rw [qAM] at z;rcases qAS.mp z with y| y
      ·exact .inr y
      ·have y:s.2=x0.2:=qAL.mp y;rw [<-y] at c2;exact .inl c2
    ·have s3:szT H5 d=kvs.length:=by unfold szT;rw [hd5]
     have s4:szAt H5 lf=w0.length:=by rw [zHu hl5,qAE]
     show 129*(129 - szT H5 d)+szAt H5 lf<129*(129 - szT H4 d)+szAt H4 lf;rw [s1,s2,s3,s4];lia
  ·have eW:ws=[]:=by
    cases ws with
    | nil=>rfl
    | cons _ _=>exact absurd rfl c
   subst eW;refine ⟨_,rfl,?_⟩;have k04:Kp [] H H4:=fun b o h _=>k4 b o (k03 b o h (by simp)) (nm2 (ne_fre hd h) (ne_fre flf h));refine k d kvs H4 ⟨S4.top,fun kv h=>?_,S4.nd⟩ (st4.resolve_right fun z=>nomatch z) (fun D hD s hs=>(cl4 D hD s hs).resolve_right fun z=>nomatch z) k04;obtain ⟨D,l,es,e1,e2,e3,e4,e5⟩:=S4.each kv h;exact ⟨D,l,es,e1,⟨e2.top,e2.tup,e2.row,e2.now,fun e he=>k03.fre (e2.fr e he) (by simp)⟩,e3,k03.fre e4 (by simp),e5⟩
end
end My
namespace RV
open PySem
end RV
namespace L2
open PySem PySem.Spec PyProof.Rows
section
variable {X:Cx} {pins:List (Addr×Obj)} {σ:St} {H:Hp} {s:Shared} {a:Addr} {u o':HO}
theorem Inv.retell (I:Inv X pins σ H s) (e:H a=some u) (nt:∀xs,u≠.tup xs) (no:∀x,u≠.own x) (nb:∀ps,u≠.tbl ps) (nf:∀o v,X.H₀ a≠some (.frz o v)) (new:zA0 X.prog X.w (upd H a o') s.heap a o'):Inv X pins σ (upd H a o') s:=by
 have ne:∀b,H b=none->b≠a:=fun b h z=>by rw [z,e] at h;cases h
 refine ⟨I.ok,I.os,I.bare,⟨I.base.keep,I.base.slot,fun b o q n x=>?_,I.base.there,fun b xs q=>?_,fun b o v q=>?_,fun b ps q=>?_⟩,I.loc,I.cell,?_,fun x c h=>?_,fun p hp=>?_,fun b o q=>?_,I.len⟩
 ·have:=I.base.free b o q n x;rw [upd_ne (ne b this)];exact this
 ·have:=I.base.tups b xs q;rw [upd_ne (fun z=>by rw [z,e] at this;exact nt xs (qAb this))];exact this
 ·have:=I.base.frzs b o v q;rw [upd_ne (fun z=>nf o v (by rw [<-z];exact q))];exact this
 ·obtain ⟨more,this⟩:=I.base.tbls b ps q;exact ⟨more,by rw [upd_ne (fun z=>by rw [z,e] at this;exact nb _ (qAb this))];exact this⟩
 ·rw [upd_ne (ne _ I.free)];exact I.free
 ·rw [upd_ne (ne _ (I.freeC x c h))];exact I.freeC x c h
 ·obtain ⟨h1,h2,h3⟩:=I.pin p hp;exact ⟨h1,by rw [upd_ne (ne _ h2)];exact h2,h3⟩
 ·by_cases z:b=a
  ·subst z;rw [upd_same] at q;cases q;exact new
  ·rw [upd_ne z] at q;refine (I.hok b o q).stay (fun c v _ y=>y) (fun c y=>?_) fun c xs y=>?_
   ·rw [upd_ne (fun z=>by rw [z,e] at y;exact no _ (qAb y))];exact y
   ·rw [upd_ne (fun z=>by rw [z,e] at y;exact nt _ (qAb y))];exact y
end
end L2
namespace RV
open PySem
theorem e_itemIter:entryFor table "dict_itemiterator.__iter__" = some Builtin.«dict_keyiterator.__iter__» :=
 entryFor_alias (id':= "dict_keyiterator.__iter__") (by kernel_rfl) (by decide +kernel) (by decide +kernel) (by kernel_rfl)
end RV
namespace L2
open PySem PySem.Spec PyProof.Rows
end L2
namespace ST
open PySem PyProof.Rows PySem.W
end ST
namespace L2
open PySem PySem.Spec PyProof.Rows
section
variable {X:Cx}
def tDisp1 (tk tv:TE):TE:=fun σ H Q=>∀p,H p=none->tPairs [(tk,tv)] σ (upd H p (.dT [])) fun ps H2=>∃(ks:List Key) (b:Addr) (y:V),ps=[(.ref b,y)]/\H2 p=some (.dT [])/\H2 b=some (.tup (ks.map kV))/\Q (.ref p) (upd H2 p (.dT [(ks,y)]))
theorem pe_disp1 {pos:Pos} {k v:Expr} {tk tv:TE} (hu:X.A.units+1<cLine) (hk:PE X k tk) (hv:PE X v tv):PE X (.Dict [some k] [v] pos) (tDisp1 tk tv):=by
 intro pins s σ H Q I q;have hn:=I.hok.fresh (qAG s.heap.objs.size);have I1:=I.laid (a:=s.heap.objs.size) (o:=.dT []) (h':=s.heap.push {cls:=.type "dict",data:=.dict #[]}) (t':=s.toks) (fun _ _ q=>qAJ _ q) (qAG _) (dt_empty s.heap I.big);have pp:PPs X pos [some k] [v] [(tk,tv)]:=pps_cons hk hv pps_nil;refine wpAny_Dict_any rfl rfl (by simp) (show (1:Nat)<=15 by decide) (thn (pp pins _ σ _ _ I1 (q _ hn)) fun ws s2 ⟨ps,H2,I2,rel,ks,b,y,ep,e,eb,q2⟩=>?_);subst ep
 cases rel with
 | @cons p0 q0 ps0 qs0 r t =>
  cases t
  obtain ⟨w2,u⟩:=q0;obtain ⟨r1,r2⟩:=r
  cases (show w2=Value.ref b from r1)
  obtain ⟨z,hd,xs,rl,dd⟩:=dt_of I2.hok e
  cases rl
  unfold storeAll;rw [List.forIn_cons];refine qAA (qAA (wpAny_dictSet_heap (knd:=tupleKind (zA1 X.prog X.w)) (show (tupleKind (zA1 X.prog X.w)).room X.A from Nat.lt_of_succ_lt hu) (zGq I2.hok eb) dd (fun h' dd' hs=>qAD ?_)));show wpAny _ _ (forIn [] PUnit.unit _) _ _ _;rw [List.forIn_nil];refine qAD ⟨.ref s.heap.objs.size,_,?_,rfl,q2⟩;obtain ⟨qo,es,ep,hq,h2,h3,h4,_,h5⟩:=dd';refine d_write I2 (by rw [e];exact True.intro) hs ⟨qo,hq⟩ ⟨by show (1:Nat)<=sizeLine;decide,hd,_,?_,qo,es,ep,hq,h2,h3,h4,h5⟩;have nb:b≠s.heap.objs.size:=zBq eb e (fun z=>nomatch z);exact .cons ⟨rfl,(upd_ne nb).trans eb,r2⟩ .nil
end
end L2
namespace RV3
open PySem
variable {d:Addr}{ep:Nat}{od:Obj}
section
variable {P:Program} {w:World} {A:Around} {E:Value->Shared->Prop} {s:Shared}
theorem stopped {Q:Option Value->Shared->Prop} {Z:PySem.Fin->Shared->Prop} (hh:A.handled=none) (q:∀h',(∀b o,s.heap.get? b=some o->h'.get? b=some o)->Q none {s with heap:=h'}) :
  wpAny (model P w) A.in1 (do let e<-newExc (.type "StopIteration") [];raiseNew e:Sem PySem.Fin) Z (fun e s'=>wpAny (model P w) A (do if (<-isInstance e (.type "StopIteration")) then pure none else throw e) Q E s') s:=by
 refine qAA ?_;simp only [newExc,newTuple];refine qAA (qA5 ?_ (by size_fits));refine qAA (m:=firstArgMember _ _) (qCS (a:=Value.none) (by first| rfl| (simp only [firstArgMember];rfl)) ?_);refine qA5 ?_ (by size_fits);simp only [raiseNew];refine qAA (wpAny_handled ?_);rw [show A.in1.handled=none from hh];refine qAA (qAD (wpAny_throw ?_));refine qAA (qCU (T:= "StopIteration") (b:=true) ⟨_,qAe _ rfl,rfl⟩ qCt ?_);exact qAD (q _ fun b o y=>qAJ _ (qAJ _ y))
theorem item_end {it:Addr} {i n:Nat} {ok ov:Value} {es:Array DictEntry} {Q:Option Value->Shared->Prop} (hh:A.handled=none) (hit:IsItemIter s.heap it d i n ep ok ov) (o1:s.heap.get? d=some od) (o2:od.data= .dict es ep) (hn:es.size=n) (he:n<=i)
  (q:∀h',Heap.ExtBut it s.heap h'->Q none {s with heap:=h'}):wpAny (model P w) A (pyNext (.ref it)) Q E s:=by
 have ty:s.TypeIs (.ref it) "dict_itemiterator" := ⟨_,hit,rfl⟩;have en:es[i]?=none:=Array.getElem?_eq_none (by lia);have ni:¬((i:Int)<0):=by lia
 unfold pyNext;refine qAA (qBa (qBu (name:=Str.ofString "__next__") ty qCZ (qBD qCZ ty F.entry_dict_itemiterator_next ?_ (F.args_dict_itemiterator_next_1 _))));refine qAA (qAD (qAA (qAA ?_)))
 first| refine qAA (qCw ty (qAD ?_))| refine qAA (qCx ty (qAD ?_))
 refine qAA (qCs hit rfl ?_);have own:Builtin.Dict_items.ownsTuple "dict_itemiterator" = true:=by decide
 simp only [own,qBQ];show wpAny _ _ (if (Value.ref d==Value.none)=true then _ else _) _ _ _;refine qB9 (fun z=>absurd z qAd) fun _=>qAA (qAD (qAA (wpAny_dictEntries o1 o2 ?_)));refine qB9 (fun z=>absurd z (by rw [hn];simp)) fun _=>qAA (qAD (qAA (wpAny_dictEpoch o1 o2 ?_)));refine qB9 (fun z=>absurd z (by simp)) fun _=>qAD ?_;simp only [ni,qBW,qCV,en];refine qAA ?_
 first| refine qAA (qCw ty (qAD ?_))| refine qAA (qCx ty (qAD ?_))
 refine qAA (show wpAny _ _ (setField (.ref it) 2 .none) _ _ s from qA2 hit rfl (by simp) ?_);exact stopped (s:={s with heap:=s.heap.update it (Obj.mapFields (·.setIfInBounds 2 .none))}) hh fun h' k=>q h' fun b o nb y=>k b o ((qAo ..).extBut b o nb y)
theorem item_next {it:Addr} {i n:Nat} {ok ov:Value} {es:Array DictEntry} {en:DictEntry} {Q:Option Value->Shared->Prop} (hit:IsItemIter s.heap it d i n ep ok ov) (o1:s.heap.get? d=some od) (o2:od.data= .dict es ep) (hn:es.size=n) (he:es[i]?=some en)
  (q:∀h',IsItemIterOut h' it d (i+1) n ep en.key en.val s.heap.objs.size->h'.get? s.heap.objs.size=some {cls:=.type "tuple",data:=.seq #[en.key,en.val]} ->
   (∀b o,b≠it->s.heap.get? b=some o->h'.get? b=some o)->Q (some (.ref s.heap.objs.size)) {s with heap:=h'}):wpAny (model P w) A (pyNext (.ref it)) Q E s:=by
 obtain ⟨h0,g,dr,tk,os⟩:=s;have hit:IsItemIter h0 it d i n ep ok ov:=hit;have ty:Shared.TypeIs ⟨h0,g,dr,tk,os⟩ (.ref it) "dict_itemiterator" := ⟨_,hit,rfl⟩;have ni:¬((i:Int)<0):=by lia
 unfold pyNext;refine qAA (qBa (qBu (name:=Str.ofString "__next__") ty qCZ (qBD qCZ ty F.entry_dict_itemiterator_next ?_ (F.args_dict_itemiterator_next_1 _))));refine qAA (qAD (qAA (qAA ?_)))
 first| refine qAA (qCw ty (qAD ?_))| refine qAA (qCx ty (qAD ?_))
 refine qAA (qCs hit rfl ?_);have own:Builtin.Dict_items.ownsTuple "dict_itemiterator" = true:=by decide
 simp only [own,qBQ];show wpAny _ _ (if (Value.ref d==Value.none)=true then _ else _) _ _ _;refine qB9 (fun z=>absurd z qAd) fun _=>qAA (qAD (qAA (wpAny_dictEntries o1 o2 ?_)));refine qB9 (fun z=>absurd z (by rw [hn];simp)) fun _=>qAA (qAD (qAA (wpAny_dictEpoch o1 o2 ?_)));refine qB9 (fun z=>absurd z (by simp)) fun _=>qAD ?_;simp only [ni,qBW,qCV,he];refine qAA ?_
 first| refine qAA (qCw ty (qAD ?_))| refine qAA (qCx ty (qAD ?_))
 refine qAA (qDK ty ?_);refine qAA (show wpAny _ _ (setField (.ref it) 3 (rawInt ((i:Int)+1))) _ _ _ from qBm hit (by simp) fun h1 e1 s1=>?_);have s1:Heap.SameBut it h0 h1:=s1
 have e1:IsItemIter h1 it d (i+1) n ep ok ov:=by
  have e:((i+1:Nat):Int)=(i:Int)+1:=by lia
  unfold IsItemIter;rw [e];simpa [rawInt] using e1
 have ty1:Shared.TypeIs ⟨h1,g,dr,tk,os⟩ (.ref it) "dict_itemiterator" := ⟨_,e1,rfl⟩;refine qAA (qAv (qAA (qDK ty1 (qAA (qDK ty1 ?_)))));show wpAny _ _ (Builtin.Dict_items.pairFromOwner (.ref it) 6 en.key en.val) _ _ _;unfold Builtin.Dict_items.pairFromOwner;refine qAA (wpAny_newTuple ?_);have e2:IsItemIter (h1.push {cls:=.type "tuple",data:=.seq #[en.key,en.val]}) it d (i+1) n ep ok ov:=qAJ _ e1;have z1:h1.objs.size=h0.objs.size:=s1.1;have il:it<h0.objs.size:=qAI hit;have t2:(h1.push {cls:=.type "tuple",data:=.seq #[en.key,en.val]}).get? h0.objs.size=some {cls:=.type "tuple",data:=.seq #[en.key,en.val]}:=by rw [<-z1];exact qAe _ rfl
 have k2:∀b o,b≠it->h0.get? b=some o->(h1.push {cls:=.type "tuple",data:=.seq #[en.key,en.val]}).get? b=some o:=fun b o hb e=>qAJ _ (s1.extBut b o hb e);rw [z1];generalize h1.push {cls:=.type "tuple",data:=.seq #[en.key,en.val]}=h2 at e2 t2 k2;refine qAA ?_;unfold Builtin.Dict_items.ownedTupleIsFree;refine qAA (qAw e2 rfl (x:=.none) rfl (qAD ?_));simp only [qBQ];refine qAA (qAw e2 rfl (x:=ok) rfl (qAA (qAw e2 rfl (x:=ov) rfl ?_)));refine qAA (qBm e2 (by simp) fun h3 e3 s3=>qAA (qBm e3 (by simp) fun h4 e4 s4=>qAA (qBm e4 (by simp) fun h5 e5 s5=>qAA (qBm e5 (by simp) fun h6 e6 s6=>?_))));have s3:Heap.SameBut it h2 h3:=s3;have s4:Heap.SameBut it h3 h4:=s4;have s5:Heap.SameBut it h4 h5:=s5;have s6:Heap.SameBut it h5 h6:=s6;have k6:∀b o,b≠it->h2.get? b=some o->h6.get? b=some o:=fun b o hb e=>s6.extBut b o hb (s5.extBut b o hb (s4.extBut b o hb (s3.extBut b o hb e)));exact qAA (wpAny_letGo (qAD (qAD ⟨_,rfl,qAD (q h6 e6 (k6 _ _ (qAz il) t2) fun b o hb e=>k6 b o hb (k2 b o hb e))⟩)))
end
section
variable {P:Program} {w:World} {A:Around} {E:Value->Shared->Prop} {s:Shared}
theorem items_call {Q:Value->Shared->Prop} (hd:(d==sysModules)=false) (o1:s.heap.get? d=some od) (c1:od.cls= .type "dict")
  (q:Q (.ref s.heap.objs.size) {s with heap:=s.heap.push {cls:=.type "dict_items",data:=.fields #[.ref d]}}):wpAny (model P w) A (call (.builtin "dict.items") [.ref d]) Q E s:=by
 have ty:s.TypeIs (.ref d) "dict" := ⟨_,o1,c1⟩;refine qBD F.slot_dict_items ty F.entry_dict_items ?_ (F.args_dict_items_1 _);unfold Builtin.«dict.items»;refine qAA ?_;unfold Builtin.Dict.noArgs;refine qAA (wpAny_notOrdered_dict ty (show wpAny _ _ (pure d) _ _ s from qAD ?_));show wpAny _ _ (Builtin.Dict.showsAll d >>= _) _ _ s;unfold Builtin.Dict.showsAll;rw [qAB (by rw [hd];exact qAd)];exact qAA (qAD (qAA (qA5 (qAD ⟨_,rfl,q⟩))))
theorem items_iter {v:Addr} {es:Array DictEntry} {Q:Value->Shared->Prop} (hv:s.heap.IsItemsView v d) (o1:s.heap.get? d=some od) (o2:od.data= .dict es ep)
  (q:Q (.ref s.heap.objs.size) {s with heap:=s.heap.push {cls:=.type "dict_itemiterator",data:=.fields #[.none,.bool false,.ref d,.int 0 0,.int es.size 0,.int ep 0,.none,.none]}}):wpAny (model P w) A (pyIter (.ref v)) Q E s:=by
 obtain ⟨ov,hov,hcv,hdv⟩:=id hv;refine qCu hv.typeIs F.slot_dict_items_iter (qBD F.slot_dict_items_iter hv.typeIs F.entry_dict_items_iter ?_ (F.args_dict_items_iter_1 _));unfold Builtin.«dict_items.__iter__»;refine qAA (qAD (qAA ?_));unfold Builtin.Dict_items.dictOf;refine qAA (qAw hov hdv (x:=.ref d) rfl (qAD (qAA ?_)));unfold Builtin.Dict_items.newIterator;refine qAA (wpAny_dictEntries o1 o2 (qAA (wpAny_dictEpoch o1 o2 ?_)));have own:Builtin.Dict_items.ownsTuple "dict_itemiterator" = true:=by decide
 simp only [own,qBQ]
 refine qA5 (qAD ⟨_,rfl, "dict_itemiterator",_,⟨_,qAe _ rfl,rfl⟩,qCZ.lookup,?_⟩)
  (by simp only [sizeOk,Builtin.Dict_items.ownedTupleFields,qAQ,qAa,qAZ,qBY,qAV];lia)
 simpa [rawInt,Builtin.Dict_items.ownedTupleFields] using q
end
end RV3
namespace L2
open PySem PySem.Spec PyProof.Rows
def thawT (D:Ends) (a:Addr) (o:Obj) (kvs:List (List Key×V)):Ends where
 nx:=fun σ H=>H a=some (.frz o (.dT kvs))/\D.nx σ (upd H a (.dT kvs))
 rt:=fun v H=>H a=some (.frz o (.dT kvs))/\D.rt v (upd H a (.dT kvs))
 bk:=fun σ H=>H a=some (.frz o (.dT kvs))/\D.bk σ (upd H a (.dT kvs))
 ct:=fun σ H=>H a=some (.frz o (.dT kvs))/\D.ct σ (upd H a (.dT kvs))
def tFrzT (t:TS):TS:=fun D σ H=>∃a kvs,H a=some (.dT kvs)/\∀o,t (thawT D a o kvs) σ (upd H a (.frz o (.dT kvs)))
section
variable {X:Cx}
theorem Inv.thawT {pins:List (Addr×Obj)} {σ:St} {H:Hp} {s:Shared} {a:Addr} {o:Obj} {kvs:List (List Key×V)} (I:Inv X pins σ H s) (e:H a=some (.frz o (.dT kvs))) (nf:∀o v,X.H₀ a≠some (.frz o v)):Inv X pins σ (upd H a (.dT kvs)) s:=by
 obtain ⟨_,z⟩:zA0 X.prog X.w H s.heap a (.frz o (.dT kvs)):=I.hok a _ e;obtain ⟨z1,z2,xs,rel,z3⟩:=z;refine I.retell e (fun _ h=>nomatch h) (fun _ h=>nomatch h) (fun _ h=>nomatch h) nf ⟨z1,z2,xs,?_,z3⟩;exact KT.keeps (H:=H) rel fun b ys y=>by rw [upd_ne (zBq y e (fun z=>nomatch z))];exact y
theorem ps_frzT {st:Stmt} {t:TS} (h:PS X st t):PS X st (tFrzT t):=by
 intro pins s σ H D I ⟨a,kvs,e,q⟩;have ok:zA0 X.prog X.w H s.heap a (.dT kvs):=I.hok a _ e;obtain ⟨y1,y2,xs,rel,o,es,ep,ho,y3⟩:=id ok
 have nf:∀o v,X.H₀ a≠some (.frz o v):=fun o v z=>by
  have:=I.base.frzs a o v z;rw [e] at this;cases this
 have I1:Inv X pins σ (upd H a (.frz o (.dT kvs))) s:=I.retell e (fun _ h=>nomatch h) (fun _ h=>nomatch h) (fun _ h=>nomatch h) nf ⟨ho,y1,y2,xs,KT.keeps (H:=H) rel (fun b ys y=>by rw [upd_ne (zBq y e (fun z=>nomatch z))];exact y),o,es,ep,ho,y3⟩;refine thn (h pins s σ _ _ I1 (q o)) fun f s' r=>?_
 cases f with
 | next=>obtain ⟨σ',H',I',e',d'⟩:=r;exact ⟨σ',_,I'.thawT e' nf,d'⟩
 | brk=>obtain ⟨σ',H',I',e',d'⟩:=r;exact ⟨σ',_,I'.thawT e' nf,d'⟩
 | cont=>obtain ⟨σ',H',I',e',d'⟩:=r;exact ⟨σ',_,I'.thawT e' nf,d'⟩
 | ret u=>obtain ⟨v,σ',H',I',rv,e',d'⟩:=r;exact ⟨v,σ',_,I'.thawT e' nf,rv,d'⟩
theorem frzT_at {pins:List (Addr×Obj)} {σ:St} {H:Hp} {s:Shared} {a:Addr} {o:Obj} {kvs:List (List Key×V)} (I:Inv X pins σ H s) (e:H a=some (.frz o (.dT kvs))) :
  ∃(es:Array DictEntry) (ep:Nat),o.data= .dict es ep/\es.size=kvs.length/\(a==sysModules)=false/\s.heap.get? a=some o/\o.cls= .type "dict" /\o.ExactDict/\∀(i:Nat) (k:List Key) (v:V),kvs[i]?=some (k,v)->∃(en:DictEntry) (b:Addr),es[i]?=some en/\en.key=Value.ref b/\H b=some (.tup (k.map kV))/\RelV v en.val:=by
 obtain ⟨ho,z,hd,xs,rel,o1,es,ep,y1,y2,y3,y4,y5⟩:zA0 X.prog X.w H s.heap a (.frz o (.dT kvs)):=I.hok a _ e;rw [ho] at y1
 cases y1
 have l1:kvs.length=xs.length:=qBn rel;have l2:es.toList.length=xs.length:=by rw [y4,qAE]
 refine ⟨es,ep,y3,by simp only [qBo] at l2;lia,hd,ho,y2.1,y2,fun i k v ek=>?_⟩;have hi:i<xs.length:=by have:=(qAc.mp ek).1;lia
 have key:∀{l:List (List Key×V)} {m:List (List Key×Addr×Value)},KT H l m->∀(i:Nat) (k:List Key) (v:V),l[i]?=some (k,v)->∃q,m[i]?=some q/\k=q.1/\H q.2.1=some (.tup (k.map kV))/\RelV v q.2.2:=by
  intro l m r
  induction r with
  | nil=>intro i k v h;simp at h
  | @cons p q ps qs h t ih =>
   intro i k v hk
   cases i with
   | zero =>
    have:p=(k,v):=by simpa using hk
    subst this;exact ⟨q,rfl,h⟩
   | succ i=>exact ih i k v (by simpa using hk)
 obtain ⟨q,eq,h1,h2,h3⟩:=key rel i k v ek;refine ⟨entryOfKey (tupleKind (zA1 X.prog X.w)) q,q.2.1,?_,rfl,h2,h3⟩;rw [<-qAm,y4,qAX,eq];rfl
end
def ItmT (a:Addr) (o:Obj) (kvs:List (List Key×V)):It :=
 ⟨fun i H=>H a=some (.frz o (.dT kvs))/\i<kvs.length,fun i H v H'=>∃t b k x,v= .ref t/\H t=none/\kvs[i]?=some (k,x)/\H b=some (.tup (k.map kV))/\H'=upd H t (.tup [.ref b,x]),fun i H=>H a=some (.frz o (.dT kvs))/\kvs.length<=i⟩
theorem turn_itemsT {P:Program} {w:World} {K:PySem.W.Frag} {elts:List Expr} {kk:Nat} {tp:Pos} (a it:Addr) (o:Obj) (es:Array DictEntry) (ep:Nat) (kvs:List (List Key×V)) (hd:o.data= .dict es ep):Turn P w K (.Tuple elts kk tp) (ItmT a o kvs) [it] it (fun i h=>∃ok ov,IsItemIter h it a i kvs.length ep ok ov) where
 mem:=by simp
 obj:=fun i h ⟨ok,ov,st⟩ b hb=>by
  have:b=it:=by simpa using hb
  subst this;exact ⟨_,st,fun v y=>by cases y⟩
 keep:=fun i h h' ⟨ok,ov,st⟩ k=>⟨ok,ov,k it (by simp) _ st⟩
 item:=by
  intro X hP hw hK hc i pins s σ H E I hf st hg;subst hP hw hK;obtain ⟨e,hi⟩:=hg;obtain ⟨ok,ov,st⟩:=st;obtain ⟨es',ep',hd',sz,_,ho,_,_,en⟩:=frzT_at I e;rw [hd] at hd'
  cases hd'
  have ek:kvs[i]?=some (kvs[i].1,kvs[i].2):=qBN hi;obtain ⟨d,b,e1,e2,eb,rv⟩:=en i _ _ ek;refine RV3.item_next st ho hd sz e1 fun h1 eo t1 o1=>?_;refine ⟨_,rfl,wpAny_letOwnedTupleGo_items eo fun h2 e3 b2=>?_⟩;have b2:Heap.SameBut it h1 h2:=b2;have ilt:it<s.heap.objs.size:=qAI st;have t2:h2.get? s.heap.objs.size=some {cls:=.type "tuple",data:=.seq #[d.key,d.val]}:=b2.extBut _ _ (qAz ilt) t1;have on:∀b u,b∉[it]->s.heap.get? b=some u->h2.get? b=some u:=fun b u nb y=>b2.extBut b u (fun z=>nb (by simp [z])) (o1 b u (fun z=>nb (by simp [z])) y);have hn:∀b∈[it],H b=none:=fun b hb=>(hf b hb).1;have new:zA0 X.prog X.w (upd H s.heap.objs.size (.tup [.ref b,kvs[i].2])) h2 s.heap.objs.size (.tup [.ref b,kvs[i].2]):=⟨by show (2:Nat)<=sizeLine;decide,[d.key,d.val],.cons e2 (.cons rv .nil),⟨_,t2,rfl,_,rfl⟩⟩
  have I2:Inv X pins σ (upd H s.heap.objs.size (.tup [.ref b,kvs[i].2])) {s with heap:=h2}:=I.call' (ch:=[it]) rfl (un_laid on (qAG _) (I.hok.fresh (qAG _))) (hok_laid I.hok on hn (qAG _) new) I.bare fun b hb=>by
   obtain ⟨_,f1,_,f3,f4,f5⟩:=hf b hb;exact ⟨f3,f1,f4,f5⟩
  refine ⟨.ref s.heap.objs.size,_,I2,rfl,⟨_,_,_,_,rfl,I.hok.fresh (qAG _),ek,eb,rfl⟩,⟨_,_,e3⟩,fun b hb=>?_⟩;have hb':=hn b hb;have:b=it:=by simpa using hb
  rw [upd_ne (by rw [this];exact qAN ilt)];exact hb'
 done:=by
  intro X hP hw hK hc i pins s σ H E I hf st hg;subst hP hw hK;obtain ⟨e,hi⟩:=hg;obtain ⟨ok,ov,st⟩:=st;obtain ⟨es',ep',hd',sz,_,ho,_,_,en⟩:=frzT_at I e;rw [hd] at hd'
  cases hd'
  obtain ⟨f0,f1,f2,f3,f4,f5⟩:=hf it (by simp);exact RV3.item_end (I.ok.hd hc) st ho hd sz hi fun h' eb=>⟨rfl,I.turned (t':=s.toks) (fun b o hb y=>eb b o hb y) f0 f1 f3 f4 f5⟩
 self:=fun A i s Q E ⟨ok,ov,st⟩ h=>by
  have ty:s.TypeIs (.ref it) "dict_itemiterator" := ⟨_,st,rfl⟩;refine qCu ty PySem.F.slot_dict_itemiterator_iter (qBD PySem.F.slot_dict_itemiterator_iter ty RV.e_itemIter ?_ (PySem.F.args_dict_itemiterator_iter_1 _));exact qAA (qAD (qAD ⟨_,rfl, "dict_itemiterator",_,ty,PySem.F.slot_dict_itemiterator_next.lookup,h⟩))
section
variable {X:Cx} {elts:List Expr} {kk:Nat} {tp:Pos}
theorem pi_itemsT {o:Expr} {to:TE} {apos cpos:Pos} (ho:PE X o to) (hbase:attributeBase o "items" X.env (eval o X.env)=eval o X.env:=by rfl) (hline:(apos.endLine==cpos.line)=true:=by rfl) :
  PI X (.Tuple elts kk tp) (.Call (.Attribute o "items" apos) [] [] cpos) (fun σ H R=>to σ H fun x H1=>∃a ob kvs,x= .ref a/\H1 a=some (.frz ob (.dT kvs))/\R (ItmT a ob kvs) H1):=by
 intro pins s σ H R I h;refine wpAny_Call_method0_late hbase hline (thn (ho pins s σ H _ I h) fun v s1 ⟨x,H1,I1,r1,a,ob,kvs,ex,e,q⟩=>?_);subst ex
 cases r1
 obtain ⟨es,ep,hd,sz,nsys,hget,hc,exd,_⟩:=frzT_at I1 e;have ty:s1.TypeIs (.ref a) "dict" := ⟨_,hget,hc⟩;refine ⟨"dict", "dict.items",qC4,PySem.F.slot_dict_items,PySem.F.type_dict_items,ty,(fun b y=>by cases y;exact ⟨ob,hget,exd.2.1⟩),qCg rfl (PySem.evalArgs_none ?_)⟩;refine RV3.items_call nsys hget hc ?_;show wpAny _ _ (pyIter _) _ _ _;have hv:(s1.heap.push {cls:=.type "dict_items",data:=.fields #[.ref a]}).IsItemsView s1.heap.objs.size a:=⟨_,qAe _ rfl,rfl,rfl⟩;refine RV3.items_iter (s:={s1 with heap:=s1.heap.push {cls:=.type "dict_items",data:=.fields #[.ref a]}}) hv (qAJ _ hget) hd ?_;have k1:∀b u,s1.heap.get? b=some u->((s1.heap.push {cls:=.type "dict_items",data:=.fields #[.ref a]}).push {cls:=.type "dict_itemiterator",data:=.fields #[.none,.bool false,.ref a,.int 0 0,.int es.size 0,.int ep 0,.none,.none]}).get? b=some u:=fun b u y=>qAJ _ (qAJ _ y);refine ⟨_,[(s1.heap.push {cls:=.type "dict_items",data:=.fields #[.ref a]}).objs.size],_,_,H1,rfl,I1.kept (t':=s1.toks) k1,turn_itemsT a _ ob es ep kvs hd,⟨_,_,by rw [<-sz];exact qAe _ rfl⟩,fun b hb=>?_,q⟩;have:b=(s1.heap.push {cls:=.type "dict_items",data:=.fields #[.ref a]}).objs.size:=by simpa using hb
 subst this;have ge:s1.heap.objs.size<=(s1.heap.push {cls:=.type "dict_items",data:=.fields #[.ref a]}).objs.size:=by rw [qBG];exact qBf _
 exact I1.fpOk ge (I1.hok.fresh ge)
end
theorem zHq {a:Addr} {o:Obj} {kvs:List (List Key×V)} {g:TG} {tb:TS} {D:Ends} {σ:St} {H:Hp} (Pv:Nat->St->Hp->Prop) (h0:Pv 0 σ H) (hl:∀i σ H,i<=kvs.length->Pv i σ H->H a=some (.frz o (.dT kvs)))
  (hs:∀i k v σ H t b,kvs[i]?=some (k,v)->Pv i σ H->H t=none->H b=some (.tup (k.map kV))->g (.ref t) σ (upd H t (.tup [.ref b,v])) fun σ2 H2=>tb {D with nx:=Pv (i+1),ct:=Pv (i+1),bk:=D.nx} σ2 H2) (hd:∀σ H,Pv kvs.length σ H->D.nx σ H) :
  ∃W:Nat->Nat->St->Hp->Prop,(∃m,W 0 m σ H)/\∀i m σ H,W i m σ H ->
   ((ItmT a o kvs).stop i H/\D.nx σ H)\/((ItmT a o kvs).go i H/\∃N:St->Hp->Prop,(∀σ' H',N σ' H'->∃m',m'<m/\W (i+1) m' σ' H')/\∀x H',(ItmT a o kvs).yld i H x H'->g x σ H' fun σ2 H2=>tb {D with nx:=N,ct:=N,bk:=D.nx} σ2 H2):=by
 refine ⟨fun i m σ H=>m=kvs.length - i/\i<=kvs.length/\Pv i σ H,⟨kvs.length,by simp,qAf _,h0⟩,?_⟩;rintro i m σ H ⟨rfl,hi,p⟩
 by_cases hlt:i<kvs.length
 ·refine .inr ⟨⟨hl i σ H hi p,hlt⟩,Pv (i+1),fun σ' H' p'=>⟨_,?_,rfl,hlt,p'⟩,fun x H' y=>?_⟩
  ·show kvs.length - (i+1)<kvs.length - i;lia
  ·obtain ⟨t,b,k,v,rfl,ft,ek,eb,rfl⟩:=y;exact hs i k v σ H t b ek p ft eb
 ·have e:i=kvs.length:=by lia
  subst e;exact .inl ⟨⟨hl _ σ H hi p,qAG _⟩,hd σ H p⟩
end L2
namespace My
open PySem L2
variable {P:Program}{w:World}{K:PySem.W.Frag}{mg:Str->Option Value}{base:Heap}{C:Addr}
variable {J:JR}{b:Int}{D:List Str}{H:Hp}{f:Addr}{fd:FuncData}
inductive Pth (J:JR) (b:Int):List Str->List (List Str)->Prop
 | nil:Pth J b [] []
 | snoc {D D' r:List Str} {rs:List (List Str)}:Pth J b D rs->(r,D')∈zAu J b D->Pth J b D' (rs++[r])
theorem Pth.key {ks:List (List Key)} (h0:kyS []∈ks) (hc:∀D,kyS D∈ks->∀s∈zAu J b D,kyS s.2∈ks) {rs:List (List Str)} (h:Pth J b D rs):kyS D∈ks:=by
 induction h with
 | nil=>exact h0
 | snoc _ hs ih=>exact hc _ ih _ hs
theorem zEo {r D':List Str} (h:(r,D')∈zAu J b D):∃p,D'=J.ns.filter p:=by
 obtain ⟨r,_,er⟩:=qAK.mp h;exact ⟨_,(qAg (·.2) er).symm⟩
abbrev PL:=List (List Str×List (List Str))
variable {A:PL}
def putL (A:PL) (k:List Str) (v:List (List Str)):PL:=if k∈A.map (·.1) then A.map (fun e=>if e.1=k then (k,v) else e) else A++[(k,v)]
def stepL (J:JR) (b:Int) (A:PL) (e:List Str×List (List Str)):PL:=(zAu J b e.1).foldl (fun A s=>putL A s.2 (e.2++[s.1])) A
def layF (J:JR) (b:Int):Nat->PL
 | 0=>[([],[])]
 | t+1=>(layF J b t).foldl (stepL J b) []
theorem zGo (A:PL) (k:List Str) (v:List (List Str)):(putL A k v).map (·.1)=if k∈A.map (·.1) then A.map (·.1) else A.map (·.1)++[k]:=by
 unfold putL;split
 ·rw [qAq]
  exact qBw fun q _=>by
   show (if q.1=k then (k,v) else q).1=q.1;split
   ·rename_i h;exact h.symm
   ·rfl
 ·rw [qAM];rfl
theorem mem_putL {k:List Str} {v:List (List Str)} {e:List Str×List (List Str)} (h:e∈putL A k v):e=(k,v)\/e∈A:=by
 unfold putL at h;split at h
 ·obtain ⟨q,h1,h2⟩:=qAK.mp h;split at h2
  ·exact .inl h2.symm
  ·exact .inr (by rw [<-h2];exact h1)
 ·rcases qAS.mp h with z| z
  ·exact .inr z
  ·exact .inl (qAL.mp z)
theorem putL_new (A:PL) (k:List Str) (v:List (List Str)):(k,v)∈putL A k v:=by
 unfold putL;split
 ·rename_i h;obtain ⟨q,h1,h2⟩:=qAK.mp h;exact qAK.mpr ⟨q,h1,qAC h2⟩
 ·exact qAl _ (qAL.mpr rfl)
theorem putL_old {k:List Str} {v:List (List Str)} {e:List Str×List (List Str)} (h:e∈A) (n:e.1≠k):e∈putL A k v:=by
 unfold putL;split
 ·exact qAK.mpr ⟨e,h,qAB n⟩
 ·exact qAk _ h
theorem in_putL {k x:List Str} {v:List (List Str)}:x∈(putL A k v).map (·.1)↔x∈A.map (·.1)\/x=k:=by
 rw [zGo];split
 ·rename_i h;exact ⟨.inl,fun z=>z.elim id fun e=>e▸h⟩
 ·rw [qAS,qAL]
theorem nd_putL {k:List Str} {v:List (List Str)} (h:(A.map (·.1)).Nodup):((putL A k v).map (·.1)).Nodup:=by
 rw [zGo];split
 ·exact h
 ·rename_i n;exact qBt.mpr ⟨h,by simp,fun a ha d hd=>by rw [qAL.mp hd];exact fun z=>n (z▸ha)⟩
theorem mem_stepL {x:List (List Str)} {e:List Str×List (List Str)}:∀(ss:List (List Str×List Str)) (A:PL),e∈ss.foldl (fun A s=>putL A s.2 (x++[s.1])) A->e∈A\/∃s∈ss,e=(s.2,x++[s.1])
 | [],A,h=>.inl h
 | s::ss,A,h=>by
  rcases mem_stepL ss _ h with z| ⟨q,h1,h2⟩
  ·rcases mem_putL z with y| y
   ·exact .inr ⟨s,qAU,y⟩
   ·exact .inl y
  ·exact .inr ⟨q,qAP _ h1,h2⟩
theorem zIq {x:List (List Str)} {k:List Str}:∀(ss:List (List Str×List Str)) (A:PL),(k∈A.map (·.1)\/∃s∈ss,k=s.2)->k∈(ss.foldl (fun A s=>putL A s.2 (x++[s.1])) A).map (·.1)
 | [],A,h=>h.elim id fun ⟨s,h,_⟩=>nomatch h
 | s::ss,A,h=>by
  refine zIq ss _ ?_;rcases h with z| ⟨q,h1,h2⟩
  ·exact .inl (in_putL.mpr (.inl z))
  ·rcases qAO.mp h1 with y| y
   ·exact .inl (in_putL.mpr (.inr (y▸h2)))
   ·exact .inr ⟨q,y,h2⟩
theorem nd_stepL {x:List (List Str)}:∀(ss:List (List Str×List Str)) (A:PL),(A.map (·.1)).Nodup->((ss.foldl (fun A s=>putL A s.2 (x++[s.1])) A).map (·.1)).Nodup
 | [],A,h=>h
 | s::ss,A,h=>nd_stepL ss _ (nd_putL h)
theorem mem_fold {e:List Str×List (List Str)}:∀(L A:PL),e∈L.foldl (stepL J b) A->e∈A\/∃q∈L,∃s∈zAu J b q.1,e=(s.2,q.2++[s.1])
 | [],A,h=>.inl h
 | q::L,A,h=>by
  rcases mem_fold L _ h with z| ⟨p,h1,h2⟩
  ·rcases mem_stepL _ _ z with y| y
   ·exact .inl y
   ·exact .inr ⟨q,qAU,y⟩
  ·exact .inr ⟨p,qAP _ h1,h2⟩
theorem in_fold {k:List Str}:∀(L A:PL),(k∈A.map (·.1)\/∃q∈L,∃s∈zAu J b q.1,k=s.2)->k∈(L.foldl (stepL J b) A).map (·.1)
 | [],A,h=>h.elim id fun ⟨s,h,_⟩=>nomatch h
 | q::L,A,h=>by
  refine in_fold L _ ?_;rcases h with z| ⟨p,h1,h2⟩
  ·exact .inl (zIq _ _ (.inl z))
  ·rcases qAO.mp h1 with y| y
   ·exact .inl (zIq _ _ (.inr (y▸h2)))
   ·exact .inr ⟨p,y,h2⟩
theorem nd_fold :∀(L A:PL),(A.map (·.1)).Nodup->((L.foldl (stepL J b) A).map (·.1)).Nodup
 | [],A,h=>h
 | q::L,A,h=>nd_fold L _ (nd_stepL _ _ h)
theorem layF_nd (J:JR) (b:Int):∀t,((layF J b t).map (·.1)).Nodup
 | 0=>by show ([[]]:List (List Str)).Nodup;simp
 | t+1=>nd_fold _ _ qBB
theorem zF1 :∀{t:Nat} {e:List Str×List (List Str)},e∈layF J b t->Pth J b e.1 e.2/\e.2.length=t/\∃p,e.1=J.ns.filter p
 | 0,e,h=>by rw [qAL.mp h];exact ⟨.nil,rfl,fun _=>false,by simp⟩
 | t+1,e,h=>by
  rcases mem_fold _ _ h with z| ⟨q,h1,s,h2,rfl⟩
  ·exact nomatch z
  ·obtain ⟨h3,h4,_⟩:=zF1 h1;exact ⟨.snoc h3 h2,by rw [qAa,h4];rfl,zEo h2⟩
theorem Pth.lay {rs:List (List Str)} (h:Pth J b D rs):D∈(layF J b rs.length).map (·.1):=by
 induction h with
 | nil=>exact qAL.mpr rfl
 | @snoc D D' r rs _ hs ih =>
  rw [qAa];obtain ⟨q,h1,rfl⟩:=qAK.mp ih;exact in_fold (layF J b rs.length) [] (.inr ⟨q,h1,_,hs,rfl⟩)
theorem nd_at {x y:List (List Str)} (nd:(A.map (·.1)).Nodup) (h1:(D,x)∈A) (h2:(D,y)∈A):x=y:=by
 induction A with
 | nil=>exact nomatch h1
 | cons q A ih =>
  obtain ⟨n1,n2⟩:=qA1.mp nd;rcases qAO.mp h1 with z| z<;>rcases qAO.mp h2 with w| w
  ·rw [<-z] at w;exact (qCa w).2.symm
  ·rw [<-z] at n1;exact absurd (qAK.mpr ⟨_,w,rfl⟩) n1
  ·rw [<-w] at n1;exact absurd (qAK.mpr ⟨_,z,rfl⟩) n1
  ·exact ih n2 z w
theorem layF_few {t:Nat} (hn:J.ns.length<=7):(layF J b t).length<=128:=by
 have:=zIo (kvs:=(layF J b t).map fun e=>(kyS e.1,V.non)) hn (by
  rw [qAq];have h:=layF_nd J b t;show ((layF J b t).map fun e=>kyS e.1).Nodup;rw [show ((layF J b t).map fun e=>kyS e.1)=((layF J b t).map (·.1)).map kyS by rw [qAq];rfl];exact h.map kyS fun x y n z=>n (zB6 z)) fun kv h=>by
  obtain ⟨e,he,rfl⟩:=qAK.mp h;obtain ⟨_,_,p,ep⟩:=zF1 he;exact ⟨p,by rw [<-ep]⟩
 rw [qAE] at this;exact this
def PlE (A:PL) (F H:Hp) (kv:List Key×V):Prop:=∃(D:List Str) (a:Addr) (rs:List (Addr×List Str)),kv=(kyS D,.ref a)/\H a=some (.lst (rs.map fun q=>V.ref q.1))/\(∀q∈rs,H q.1=some (.lst (q.2.map V.str))/\Fre F q.1)/\Fre F a/\(D,rs.map (·.2))∈A
theorem PlE.put {F H':Hp} {kv:List Key×V} (h:PlE A F H kv) (k:∀x xs,H x=some (.lst xs)->H' x=some (.lst xs)):PlE A F H' kv:=by
 obtain ⟨D,a,rs,e,h1,h2,h3⟩:=h;exact ⟨D,a,rs,e,k _ _ h1,fun q hq=>⟨k _ _ (h2 q hq).1,(h2 q hq).2⟩,h3⟩
structure Lay (A:PL) (F H:Hp) (p:Addr) (kvs:List (List Key×V)):Prop where
 top:H p=some (.dT kvs)
 keys:kvs.map (·.1)=A.map fun e=>kyS e.1
 each:∀kv∈kvs,PlE A F H kv
theorem Lay.kp0 {F H':Hp} {p:Addr} {kvs:List (List Key×V)} (L:Lay A F H p kvs) (k:Kp [] H H'):Lay A F H' p kvs:=⟨k _ _ L.top (by simp),L.keys,fun kv h=>(L.each kv h).put fun x xs e=>k _ _ e (by simp)⟩
theorem Lay.len {F:Hp} {p:Addr} {kvs:List (List Key×V)} (L:Lay A F H p kvs):kvs.length=A.length:=by
 have:=qAg List.length L.keys;rw [qAE,qAE] at this;exact this
theorem in_keys :kyS D∈(A.map fun e=>kyS e.1)↔D∈A.map (·.1):=by
 constructor
 ·intro h;obtain ⟨e,h1,h2⟩:=qAK.mp h;exact qAK.mpr ⟨e,h1,zB6 h2⟩
 ·intro h;obtain ⟨e,h1,h2⟩:=qAK.mp h;exact qAK.mpr ⟨e,h1,by rw [h2]⟩
theorem keys_put {kvs:List (List Key×V)} (h:kvs.map (·.1)=A.map fun e=>kyS e.1) (k:List Str) (v:V) (x:List (List Str)):(putK kvs (kyS k) v).map (·.1)=(putL A k x).map fun e=>kyS e.1:=by
 have e:∀B:PL,(B.map fun e=>kyS e.1)=(B.map (·.1)).map kyS:=fun B=>by rw [qAq];rfl
 rw [keys_putK,h,e (putL A k x),zGo]
 by_cases c:k∈A.map (·.1)
 ·rw [qAC c,qAC (in_keys.mpr c),e]
 ·rw [qAB c,qAB fun z=>c (in_keys.mp z),qAM,e];rfl
section
def zHy:Sp:=fun vs H Q _=>∃(s p:Addr) (J:JR) (b:Int) (t:Nat) (F:Hp) (ks kvs:List (List Key×V)),vs=[.ref s,.ref p]/\StD J b F H s ks/\kyS []∈ks.map (·.1)/\(∀D,kyS D∈ks.map (·.1)->∀s∈zAu J b D,kyS s.2∈ks.map (·.1))/\Lay (layF J b t) F H p kvs/\J.ns.length<=7/\t<=20/\Kp [] F H/\s≠p /\
 ∀(p':Addr) (kvs':List (List Key×V)) (H':Hp),Lay (layF J b (t+1)) F H' p' kvs'->Fre H p'->Kp [] H H'->Q (.ref p') H'
abbrev zBe:Stmt:=top 35
theorem zAn:FnScope ["steps", "plans", "later", "done", "plan", "row", "now"] ["steps", "plans"] (zAe zBe):=fnS
theorem zD5 (F:Fun K "plans_one_turn_on" "plans_one_turn_on" zBe f fd):FnOk P w K mg base CX0 1 f fd ["steps", "plans"] zHy:=by
 refine F.ok zAn (fun vs H Q E h=>?_) (fun cdv A outer s H vs Q E hr h=>?_)
 ·obtain ⟨s,p,J,b,t,F,ks,kvs,rfl,_⟩:=h;rfl
 ·obtain ⟨sa,p,J,b,t,Fh,ks,kvs,rfl,S,st0,cl,L,few,ht,kF,nsp,k⟩:=h;have hu:=zGu hr
  refine ⟨_,(zAc (psS (i:=2) zAn.nd zIa)
   (zAc (ps_frzT (zBb qAn rfl (pi_itemsT (pv 1)) (zGe rfl (zAp (pgN (i:=3) zAn.nd) (zAp (pgN (i:=4) zAn.nd) zCu)))
    (zAd (zBb qAn rfl (zAv (zDb hu (pv 0) (pv 3) (fun _ _=>rfl))) (zGe rfl (zAp (pgN (i:=5) zAn.nd) (zAp (pgN (i:=6) zAn.nd) zCu)))
     (zAd (zEf hu (pv 2) (pv 6) (zAm op_cat (pv 4) (zA6 (zAa (pv 5) zAb))) rfl))))))
   (zAd (zAs (pv 2))))),?_⟩
  have hs:=qAV;have hkl:kvs.length<=128:=by rw [L.len];exact layF_few few
  refine fun l hl=>?_;have fl:Fre H l:=hl;have nlp:l≠p:=fun e=>by rw [e] at fl;exact absurd L.top (by rw [show H p=none from fl];exact fun z=>nomatch z)
  have k1:Kp [] H (upd H l (.dT [])):=Kp.new Kp.refl fl;have hl1:upd H l (.dT []) l=some (.dT []):=upd_same;generalize upd H l (.dT [])=H1 at k1 hl1;have hp1:=k1 _ _ L.top (by simp);refine ⟨p,kvs,hp1,fun o=>?_⟩;have kf:Kp [p] H1 (upd H1 p (.frz o (.dT kvs))):=Kp.put Kp.refl (by simp);have kF1:Kp [p] H (upd H1 p (.frz o (.dT kvs))):=(k1.weak (by simp)).trans kf;have keep:∀{H2:Hp},Kp [p] H H2->∀x u,H x=some u->u≠.dT kvs->H2 x=some u:=fun k x u e n=>k x u e (nm1 (zBq e L.top n))
  refine ⟨_,rfl,p,o,kvs,rfl,upd_same,zHq (fun i σ H2=>∃(lv:List (List Key×V)) (o3 o4 o5 o6:Option V),σ=[some (.ref sa),some (.ref p),some (.ref l),o3,o4,o5,o6]/\Kp [p] H H2/\H2 p=some (.frz o (.dT kvs))/\Lay (((layF J b t).take i).foldl (stepL J b) []) Fh H2 l lv/\lv.length<=128*i)
   ⟨[],none,none,none,none,rfl,kF1,upd_same,⟨(upd_ne nlp).trans hl1,rfl,(fun _ h=>nomatch h)⟩,qAG _⟩ (fun i σ H2 _ ⟨_,_,_,_,_,_,_,h,_⟩=>h) ?_ ?_⟩
  ·rintro i kk v σ H2 tt bb hv ⟨lv,o3,o4,o5,o6,rfl,k2,hp2,L2,len2⟩ htt hbb;obtain ⟨D,a,rs,ekv,ha,hrs,fa,inA⟩:=L.each _ (qAY hv);obtain ⟨rfl,rfl⟩:=qCa ekv;obtain ⟨pth,rl,_⟩:=zF1 inA;have rl:rs.length=t:=by rw [<-rl,qAE]
   have ei:(layF J b t)[i]?=some (D,rs.map (·.2)):=by
    have h1:(kvs.map (·.1))[i]?=some (kyS D):=by rw [qAX,hv];rfl
    rw [L.keys,qAX] at h1;obtain ⟨⟨D1,x1⟩,e1,e2⟩:=qBA.mp h1;have e2:=zB6 e2;have e2:D1=D:=e2;subst e2;rw [e1,nd_at (layF_nd J b t) (qAY e1) inA]
   have kt:Kp [] H2 (upd H2 tt (.tup [.ref bb,.ref a])):=Kp.new Kp.refl htt;refine ⟨_,_,rfl,.inl (.inl upd_same),rfl,_,_,rfl,_,_,rfl,rfl,?_⟩;have k3:Kp [p] H (upd H2 tt (.tup [.ref bb,.ref a])):=k2.trans (kt.weak (by simp));have hp3:=kt _ _ hp2 (by simp);have hb3:=kt _ _ hbb (by simp);have L3:=L2.kp0 kt;generalize upd H2 tt (.tup [.ref bb,.ref a])=H3 at k3 hp3 hb3 L3;have hi:i<kvs.length:=(qAc.mp hv).1;obtain ⟨v,g1,g2⟩:=zEm (pth.key st0 cl);obtain ⟨D',sl,es,ekv',S1,S2,S3,S4⟩:=S.each _ g2;obtain ⟨e1,rfl⟩:=qCa ekv';have e1:=zB6 e1;subst e1;have hs3:=k3 _ _ S.top (nm1 nsp);have g3:=DGet.t (k:=kyS D) hs3 hb3;rw [g1] at g3
   have el2:es.length<=128:=by
    have:es.length=(zAu J b D).length:=by rw [<-S2,qAE]
    rw [this];exact zFg few
   refine ⟨_,rfl,_,rfl,_,_,rfl,g3,_,rfl,⟨_,SqL.of (keep k3 _ _ S1.top (fun z=>nomatch z))⟩,zBp (xs:=es.map fun e=>V.ref e.t) (fun q σ H4=>∃(lv:List (List Key×V)) (o5 o6:Option V),σ=[some (.ref sa),some (.ref p),some (.ref l),some (.ref bb),some (.ref a),o5,o6]/\Kp [p] H H4/\H4 p=some (.frz o (.dT kvs))/\Lay (((zAu J b D).take q).foldl (fun A s=>putL A s.2 (rs.map (·.2)++[s.1])) (((layF J b t).take i).foldl (stepL J b) [])) Fh H4 l lv/\lv.length<=128*i+q)
    ⟨lv,o5,o6,rfl,k3,hp3,L3,len2⟩ (fun q σ H4 _ ⟨_,_,_,_,k4,_⟩=>SqL.of (keep k4 _ _ S1.top (fun z=>nomatch z))) ?_ ?_⟩
   ·rintro q v σ H4 hv ⟨lv,o5,o6,rfl,k4,hp4,L4,len4⟩;obtain ⟨e,ee,rfl⟩:=se_at hv;have me:=qAY ee;have hq:q<es.length:=(qAc.mp ee).1;have eS:(zAu J b D)[q]?=some (e.r,e.d):=by rw [<-S2,qAX,ee];rfl
    refine ⟨_,_,rfl,.inl (.inl (keep k4 _ _ (S1.tup e me) (fun z=>nomatch z))),rfl,_,_,rfl,_,_,rfl,rfl,?_⟩;refine ⟨_,rfl,_,rfl,(by walk_at "ln"),fun z hz=>?_⟩;have kz:Kp [] H4 (upd H4 z (.lst [.ref e.ra])):=Kp.new Kp.refl hz;have hz4:upd H4 z (.lst [.ref e.ra]) z=some (.lst [.ref e.ra]):=upd_same;generalize upd H4 z (.lst [.ref e.ra])=H5 at kz hz4;have k5:Kp [p] H H5:=k4.trans (kz.weak (by simp));refine ⟨_,_,_,_,rfl,rfl,keep k5 _ _ ha (fun z=>nomatch z),hz4,by rw [qAE];show _+1<=_;lia,fun r hr'=>?_⟩;have kr:Kp [] H5 (upd H5 r (.lst (rs.map (fun q=>V.ref q.1)++[.ref e.ra]))):=Kp.new Kp.refl hr';have hr6:upd H5 r (.lst (rs.map (fun q=>V.ref q.1)++[.ref e.ra])) r=some (.lst (rs.map (fun q=>V.ref q.1)++[.ref e.ra])):=upd_same;generalize upd H5 r (.lst (rs.map (fun q=>V.ref q.1)++[.ref e.ra]))=H6 at kr hr6;have k46:=kz.trans kr;have k6:Kp [p] H H6:=k4.trans (k46.weak (by simp));have L6:=L4.kp0 k46;have hl6:=L6.top;have hp6:=k46 _ _ hp4 (by simp);refine ⟨_,rfl,_,rfl,_,_,rfl,DPut.t (k:=kyS e.d) hl6 (by rw [zDe];exact keep k6 _ _ (S1.now e me) (fun z=>nomatch z)) (by lia),?_⟩;rw [zAj eS,qB8];show∃lv:List (List Key×V),_;have k7:Kp [p] H (upd H6 l (.dT (putK lv (kyS e.d) (.ref r)))):=Kp.new k6 fl;have kl:∀x xs,H6 x=some (.lst xs)->upd H6 l (.dT (putK lv (kyS e.d) (.ref r))) x=some (.lst xs):=fun x xs h=>by rw [upd_ne (zBq h hl6 (fun z=>nomatch z))];exact h
    refine ⟨putK lv (kyS e.d) (.ref r),_,_,rfl,k7,(upd_ne nlp.symm).trans hp6,⟨upd_same,keys_put L4.keys _ _ _,fun kv h=>?_⟩,qAW (zB5 _ _ _) (by lia)⟩
    ·rcases mem_putK h with z| ⟨z,nz⟩
     ·rw [z];refine ⟨e.d,r,rs++[(e.ra,e.r)],rfl,?_,fun q hq=>?_,?_,?_⟩
      ·rw [qAM];exact kl _ _ hr6
      ·rcases qAS.mp hq with y| y
       ·exact ⟨kl _ _ (keep k6 _ _ (hrs q y).1 (fun z=>nomatch z)),(hrs q y).2⟩
       ·rw [qAL.mp y];exact ⟨kl _ _ (keep k6 _ _ (S1.row e me) (fun z=>nomatch z)),S1.fr e me⟩
      ·have fr5:Fre H4 r:=kz.fre hr' (by simp);exact kF.fre (k4.fre fr5 (nm1 (ne_fre fr5 hp4).symm)) (by simp)
      ·rw [qAM];exact putL_new _ _ _
     ·obtain ⟨D1,a1,rs1,e1,h1,h2,h3,h4⟩:=(L6.each kv z).put kl;exact ⟨D1,a1,rs1,e1,h1,h2,h3,putL_old h4 fun y=>nz (by rw [e1];show kyS D1=_;rw [show D1=e.d from y])⟩
   ·rintro σ H4 ⟨lv,o5,o6,rfl,k4,hp4,L4,len4⟩;rw [qAE] at L4 len4;refine ⟨lv,_,_,_,_,rfl,k4,hp4,?_,by lia⟩;rw [zAj ei,qB8];have:(zAu J b D).take es.length=zAu J b D:=qBb (by rw [<-S2,qAE];exact qAG _);rw [this] at L4;exact L4
  ·rintro σ H2 ⟨lv,o3,o4,o5,o6,rfl,k2,hp2,L2,len2⟩;rw [L.len,qAu] at L2;refine ⟨hp2,?_⟩;refine ⟨_,rfl,k l lv _ ⟨(upd_ne nlp).trans L2.top,L2.keys,fun kv h=>(L2.each kv h).put fun x xs e=>by rw [upd_ne (zBq e hp2 (fun z=>nomatch z))];exact e⟩ fl fun b o h _=>?_⟩
   by_cases e:b=p
   ·rw [e] at h ⊢;rw [upd_same,<-L.top,h]
   ·rw [upd_ne e];exact k2 b o h (nm1 e)
end
theorem while_at {c:TT} {tb:TS} {D:Ends} {σ:St} (Pv:Nat->St->Hp->Prop) (m:Nat) (h0:Pv m σ H)
  (hs:∀m σ H,Pv m σ H->c σ H fun b H1=>if b=true then tb {D with nx:=fun σ' H'=>∃m',m'<m/\Pv m' σ' H',ct:=fun σ' H'=>∃m',m'<m/\Pv m' σ' H',bk:=D.nx} σ H1 else D.nx σ H1)
  (mono:∀σ H Q Q',(∀b H1,Q b H1->Q' b H1)->c σ H Q->c σ H Q'):tWhile c tb D σ H:=by
 refine ⟨Pv,⟨m,h0⟩,fun m σ H p=>mono σ H _ _ (fun b H1 q=>?_) (hs m σ H p)⟩
 cases b with
 | true=>exact ⟨_,fun σ' H' h=>h,q⟩
 | false=>exact q
theorem free_some {r:Str->Nat} (rk:∀n∈J.ns,∀x∈J.S n,r x<r n):∀(k:Nat) (n:Str),r n<=k->n∈J.ns->n∉D->∃f,f∈zIu J D:=by
 intro k
 induction k with
 | zero =>
  intro n h1 h2 h3;refine ⟨n,qAs.mpr ⟨h2,?_⟩⟩;rw [qAR h3,Bool.true_and];refine qBr.mpr fun m hm=>?_;obtain ⟨m1,m2⟩:=qAs.mp hm;have:=rk n h2 m (qBc m2);lia
 | succ k ih =>
  intro n h1 h2 h3
  by_cases c:rdyB J D n=true
  ·refine ⟨n,qAs.mpr ⟨h2,?_⟩⟩;rw [qAR h3,Bool.true_and];exact c
  ·have:∃m∈J.ns.filter (fun m=>decide (m∈J.S n)),¬(decide (m∈D))=true:=by
    refine qBC fun z=>c (qBr.mpr fun m hm=>?_);exact qBC fun y=>z ⟨m,hm,y⟩
   obtain ⟨m,hm,h4⟩:=this;obtain ⟨m1,m2⟩:=qAs.mp hm;have:=rk n h2 m (qBc m2);exact ih m (by lia) m1 (qCW (Bool.eq_false_iff.mpr h4))
theorem zFk (b:Int):∀(ns:List Str) (rs:List (List Str)),∀r∈rs,r∈ns.foldl (fun rs n=>rs++(rs.filter fun r=>decide ((r.length:Int)<b)).map fun r=>r++[n]) rs
 | [],rs,r,h=>h
 | n::ns,rs,r,h=>zFk b ns _ r (qAk _ h)
theorem rowsF_one (hb:1<=b) {f:Str}:∀(ns:List Str) (rs:List (List Str)),[]∈rs->f∈ns->[f]∈ns.foldl (fun rs n=>rs++(rs.filter fun r=>decide ((r.length:Int)<b)).map fun r=>r++[n]) rs
 | [],rs,_,h=>nomatch h
 | n::ns,rs,h0,h=>by
  rcases qAO.mp h with e| e
  ·refine zFk b ns _ [f] (qAl _ (qAK.mpr ⟨[],qAs.mpr ⟨h0,qAR ?_⟩,by rw [e];rfl⟩));show ((0:Nat):Int)<b;lia
  ·exact rowsF_one hb ns _ (qAk _ h0) e
theorem path_ex {r:Str->Nat} (hb:1<=b) (nd:J.ns.Nodup) (rk:∀n∈J.ns,∀x∈J.S n,r x<r n):∀m:Nat,∃D rs,Pth J b D rs/\rs.length=m/\(∃p,D=J.ns.filter p)/\(m<=D.length\/∀n∈J.ns,n∈D):=by
 intro m
 induction m with
 | zero=>exact ⟨[],[],.nil,rfl,⟨fun _=>false,by simp⟩,.inl (qAG _)⟩
 | succ m ih =>
  obtain ⟨D,rs,hp,hl,⟨p,rfl⟩,h⟩:=ih
  by_cases c:∀n∈J.ns,n∈J.ns.filter p
  ·have hs:([],nowF J.ns (J.ns.filter p) [])∈zAu J b (J.ns.filter p):=qAK.mpr ⟨[],zFk b _ _ [] (qAL.mpr rfl),rfl⟩;exact ⟨_,_,.snoc hp hs,by rw [qAa,hl];rfl,zEo hs,.inr fun n hn=>qAs.mpr ⟨hn,by rw [qAR (c n hn)];rfl⟩⟩
  ·have:∃n,n∈J.ns/\n∉J.ns.filter p:=qBC fun z=>c fun n hn=>qBC fun y=>z ⟨n,hn,y⟩;obtain ⟨n,n1,n2⟩:=this;obtain ⟨f,hf⟩:=free_some rk (r n) n (qAG _) n1 n2;obtain ⟨f1,f2⟩:=qAs.mp hf;have f3:f∉J.ns.filter p:=qBc (Bool.and_eq_true_iff.mp f2).1;have hs:([f],nowF J.ns (J.ns.filter p) [f])∈zAu J b (J.ns.filter p):=qAK.mpr ⟨[f],rowsF_one hb _ _ (qAL.mpr rfl) hf,rfl⟩;refine ⟨_,_,.snoc hp hs,by rw [qAa,hl];rfl,zEo hs,.inl ?_⟩;have hm:m<=(J.ns.filter p).length:=h.resolve_right c;have h1:(f::J.ns.filter p).Nodup:=qA1.mpr ⟨f3,nd.sublist List.filter_sublist⟩
   have:=zFf (B:=nowF J.ns (J.ns.filter p) [f]) h1 fun x hx=>by
    rcases qAO.mp hx with e| e
    ·rw [e];exact qAs.mpr ⟨f1,by simp⟩
    ·exact qAs.mpr ⟨(qAs.mp e).1,by rw [qAR e];rfl⟩
   rw [qAZ] at this;lia
theorem path_all {r:Str->Nat} (hb:1<=b) (nd:J.ns.Nodup) (rk:∀n∈J.ns,∀x∈J.S n,r x<r n):∃rs,Pth J b J.ns rs/\rs.length=J.ns.length:=by
 obtain ⟨D,rs,hp,hl,⟨p,rfl⟩,h⟩:=path_ex hb nd rk J.ns.length
 have:J.ns.filter p=J.ns:=by
  rcases h with z| z
  ·exact List.filter_eq_self.mpr (List.length_filter_eq_length_iff.mp (Nat.le_antisymm (qA3 _ _) z))
  ·exact List.filter_eq_self.mpr fun a ha=>(qAs.mp (z a ha)).2
 rw [this] at hp;exact ⟨rs,hp,hl⟩
section
def spFewest (C:Addr):Sp:=fun vs H Q _=>∃(j:Addr) (b:Int) (J:JR) (r:Str->Nat),vs=[.ref j,.int b]/\JobsAt C H j J/\(∀n∈J.ns,∀x∈J.S n,r x<r n)/\1<=b/\J.ns.length<=7 /\
 ∀(a:Addr) (rs:List (Addr×List Str)) (H':Hp),Rws H H' a rs->Fre H a->(J.ns,rs.map (·.2))∈layF J b rs.length->(∀rs',Pth J b J.ns rs'->rs.length<=rs'.length)->Kp [] H H'->Q (.ref a) H'
abbrev zEt:Stmt:=top 34
theorem zDo:FnScope ["jobs", "benches", "steps", "plans"] ["jobs", "benches"] (zAe zEt):=fnS
theorem ok_fewest (F:Fun K "fewest" "fewest" zEt f fd) (T:Txt K mg) (U:JC K mg C) (M_names:Mth P w K mg base C "names" 1 ["self"] (zC4 C)) (C_check_benches:Cal P w K mg base "check_benches" 2 ["benches"] zFi) (C_check_few:Cal P w K mg base "check_few" 2 ["jobs"] (spFew C))
  (C_all_steps:Cal P w K mg base "all_steps" 6 ["jobs", "benches"] (spAll C)) (C_plans_one_turn_on:Cal P w K mg base "plans_one_turn_on" 1 ["steps", "plans"] zHy):FnOk P w K mg base CX0 7 f fd ["jobs", "benches"] (spFewest C):=by
 refine F.ok zDo (fun vs H Q E h=>?_) (fun cdv A outer s H vs Q E hr h=>?_)
 ·obtain ⟨j,b,J,r,rfl,_⟩:=h;rfl
 ·obtain ⟨j,b,J,r,rfl,A0,rk,hb,few,k⟩:=h;have hu:=zGu hr;have hr1:=hr.mono (j:=1) (by decide);have hr2:=hr.mono (j:=2) (by decide)
  refine ⟨_,(zAc (zAq (zAg C_check_benches hr2 rfl (zAa (pv 1) zAb)))
   (zAc (zAq (zAg C_check_few hr2 rfl (zAa (pv 0) zAb)))
   (zAc (psS (i:=2) zDo.nd (zAg C_all_steps hr rfl (zAa (pv 0) (zAa (pv 1) zAb))))
   (zAc (psS (i:=3) zDo.nd (pe_disp1 hu (zCn zAb) (zA6 zAb)))
   (zAc (zH8 qAn (pt_cmp (zGg hu (zAt zBw (by rfl) T.z_tuple zF4 (zAa (zC0 M_names U.cl hr1 (pv 0)) zAb)) (pv 3)))
    (zAd (psS (i:=3) zDo.nd (zAg C_plans_one_turn_on hr1 rfl (zAa (pv 2) (zAa (pv 3) zAb))))))
   (zAd (zAs (zDb hu (pv 3) (zAt zBw (by rfl) T.z_tuple zF4 (zAa (zC0 M_names U.cl hr1 (pv 0)) zAb)) (fun _ _=>rfl))))))))),?_⟩
  have hs:=qAV;refine ⟨_,rfl,b,rfl,hb,?_⟩;refine ⟨_,rfl,j,J,rfl,A0,few,fun H1 k1=>?_⟩;refine ⟨_,rfl,_,rfl,j,b,J,rfl,A0.kp0 k1,few,fun d ks H2 S2 st0 cl k2=>?_⟩;have k02:=k1.trans k2
  have S2:StD J b H H2 d ks:=⟨S2.top,fun kv h=>by
   obtain ⟨D,l,es,e1,e2,e3,e4,e5⟩:=S2.each kv h;exact ⟨D,l,es,e1,⟨e2.top,e2.tup,e2.row,e2.now,fun e he=>k1.fre (e2.fr e he) (by simp)⟩,e3,k1.fre e4 (by simp),e5⟩,S2.nd⟩
  refine fun p hp=>?_;have kp:Kp [] H2 (upd H2 p (.dT [])):=Kp.new Kp.refl hp;have hp3:upd H2 p (.dT []) p=some (.dT []):=upd_same;have ndp:d≠p:=zAh S2.top hp;generalize upd H2 p (.dT [])=H3 at kp hp3;refine ⟨(by walk_at "ln"),fun t0 ht0=>?_⟩;have kt:Kp [] H3 (upd H3 t0 (.tup [])):=Kp.new Kp.refl ht0;have ht4:upd H3 t0 (.tup []) t0=some (.tup []):=upd_same;generalize upd H3 t0 (.tup [])=H4 at kt ht4;refine ⟨(by walk_at "ln"),fun l0 hl0=>?_⟩;have kl:Kp [] H4 (upd H4 l0 (.lst [])):=Kp.new Kp.refl hl0;have hl5:upd H4 l0 (.lst []) l0=some (.lst []):=upd_same;have ht5:=kl _ _ ht4 (by simp);have k25:=(kp.trans kt).trans kl;have hp5:=(kt.trans kl) _ _ hp3 (by simp);have fl0:Fre H l0:=((k02.trans kp).trans kt).fre hl0 (by simp);generalize upd H4 l0 (.lst [])=H5 at kl hl5 ht5 k25 hp5;refine ⟨[],t0,.ref l0,rfl,hp5,ht5,?_⟩;have nlp:l0≠p:=zBq hl5 hp5 (fun z=>nomatch z);have k26:Kp [] H2 (upd H5 p (.dT [([],.ref l0)])):=Kp.new k25 hp
  have L6:Lay (layF J b 0) H (upd H5 p (.dT [([],.ref l0)])) p [(kyS [],.ref l0)]:=⟨upd_same,rfl,fun kv h=>by
   rw [qAL.mp h];exact ⟨[],l0,[],rfl,(upd_ne nlp).trans hl5,(fun q h=>nomatch h),fl0,qAL.mpr rfl⟩⟩
  generalize upd H5 p (.dT [([],.ref l0)])=H6 at k26 L6;obtain ⟨rsA,pA,lA⟩:=path_all hb A0.nd rk;refine while_at (fun m σ H7=>∃(t:Nat) (p:Addr) (kvs:List (List Key×V)),σ=[some (.ref j),some (.int b),some (.ref d),some (.ref p)]/\Kp [] H2 H7/\Lay (layF J b t) H H7 p kvs/\d≠p/\(∀rs',Pth J b J.ns rs'->t<=rs'.length)/\m=20 - t) 20 ⟨0,p,_,rfl,k26,L6,ndp,fun _ _=>qAf _,rfl⟩ ?_ (fun σ H Q Q' hq hc=>?_)
  ·rintro m σ H7 ⟨t,p,kvs,rfl,k7,L7,ndp,lst,rfl⟩;have k07:=k02.trans k7;have A7:=A0.kp0 k07;have tn:t<=7:=by have:=lst rsA pA;lia
   refine ⟨_,rfl,j,J.dx,_,rfl,A7.ob,jf_no _ _ _ (by decide +kernel) (by decide +kernel) (by decide +kernel),j,J,rfl,A7,fun nl H8 fn h8 k8=>?_⟩;refine ⟨nl,_,rfl,.inl ⟨SqL.of h8,fun tp htp=>?_⟩⟩;have k9:Kp [] H8 (upd H8 tp (.tup (J.ns.map V.str))):=Kp.new Kp.refl htp;have h9:upd H8 tp (.tup (J.ns.map V.str)) tp=some (.tup (J.ns.map V.str)):=upd_same;generalize upd H8 tp (.tup (J.ns.map V.str))=H9 at k9 h9;have k79:=k8.trans k9;have L9:=L7.kp0 k79;refine ⟨_,rfl,_,_,rfl,DGet.t (k:=kyS J.ns) L9.top (by rw [zDe];exact h9),_,rfl,?_⟩;rw [val_is];refine ite2 (fun c=>?_) (fun c=>?_)
   ·have c:kyS J.ns∉kvs.map (·.1):=by simpa using c
    refine ⟨_,rfl,_,rfl,d,p,J,b,t,H,ks,kvs,rfl,(S2.kp0 k7).kp0 k79,st0,cl,L9,few,by lia,k07.trans k79,ndp,fun p' kvs' H' L' fp' k'=>?_⟩;refine ⟨20 - (t+1),by lia,t+1,p',kvs',rfl,(k7.trans k79).trans k',L',zAh ((k7.trans k79) _ _ S2.top (by simp)) fp',fun rs' h'=>?_,rfl⟩;have h1:=lst rs' h';have h2:rs'.length≠t:=fun e=>c (by rw [L7.keys,<-e];exact in_keys.mpr h'.lay);lia
   ·have c:kyS J.ns∈kvs.map (·.1):=by simpa using c
    have A9:=A7.kp0 k79;refine ⟨_,rfl,_,rfl,j,J.dx,_,rfl,A9.ob,jf_no _ _ _ (by decide +kernel) (by decide +kernel) (by decide +kernel),j,J,rfl,A9,fun nl H10 fn h10 k10=>?_⟩;refine ⟨nl,_,rfl,.inl ⟨SqL.of h10,fun tp htp=>?_⟩⟩;have k11:Kp [] H10 (upd H10 tp (.tup (J.ns.map V.str))):=Kp.new Kp.refl htp;have h11:upd H10 tp (.tup (J.ns.map V.str)) tp=some (.tup (J.ns.map V.str)):=upd_same;generalize upd H10 tp (.tup (J.ns.map V.str))=H11 at k11 h11;have L11:=(L9.kp0 k10).kp0 k11;obtain ⟨v,g1,g2⟩:=zEm c;obtain ⟨D,a,rs,ekv,ha,hrs,fa,inA⟩:=L11.each _ g2;obtain ⟨e1,rfl⟩:=qCa ekv;have e1:=zB6 e1;subst e1;have rl:rs.length=t:=by rw [<-(zF1 inA).2.1,qAE]
    have g3:=DGet.t (k:=kyS J.ns) L11.top (by rw [zDe];exact h11);rw [g1] at g3;refine ⟨_,_,rfl,g3,?_⟩;exact k a rs H11 ⟨ha,fun q hq=>(hrs q hq).1,fun q hq=>(hrs q hq).2⟩ fa (by rw [rl];exact inA) (fun rs' h'=>by rw [rl];exact lst rs' h') ((k07.trans k79).trans (k10.trans k11))
  ·obtain ⟨x,ex,j',dx',fs',e1,ob',jf',j2,J2,e2,A2,h⟩:=hc;refine ⟨x,ex,j',dx',fs',e1,ob',jf',j2,J2,e2,A2,fun l H1 fl hl k1=>?_⟩;obtain ⟨p,ys,e3,h3⟩:=h l H1 fl hl k1;refine ⟨p,ys,e3,?_⟩;rcases h3 with ⟨h4,h5⟩| ⟨h4,h5⟩
   ·refine .inl ⟨h4,fun l hl=>?_⟩;obtain ⟨x1,z1,x2,x3,z2,z3,x4,z4,q⟩:=h5 l hl;exact ⟨x1,z1,x2,x3,z2,z3,x4,z4,hq _ _ q⟩
   ·obtain ⟨x1,z1,x2,x3,z2,z3,x4,z4,q⟩:=h5;exact .inr ⟨h4,x1,z1,x2,x3,z2,z3,x4,z4,hq _ _ q⟩
end
abbrev WL:=List (List Str×Int)
def addW (A:WL) (k:List Str) (v:Int):WL:=if k∈A.map (·.1) then A.map (fun e=>if e.1=k then (e.1,e.2+v) else e) else A++[(k,v)]
def getW:WL->List Str->Int
 | [],_=>0
 | e::A,k=>if e.1=k then e.2 else getW A k
theorem getW_pos {e:List Str×Int} {A:WL} {k:List Str} (h:e.1=k):getW (e::A) k=e.2:=qAC h
theorem zIt {e:List Str×Int} {A:WL} {k:List Str} (h:¬e.1=k):getW (e::A) k=getW A k:=qAB h
def stepW (J:JR) (b:Int) (A:WL) (e:List Str×Int):WL:=(zAu J b e.1).foldl (fun A s=>addW A s.2 e.2) A
def wayF (J:JR) (b:Int):Nat->WL
 | 0=>[([],1)]
 | t+1=>(wayF J b t).foldl (stepW J b) []
def wV (A:WL):List (List Key×V):=A.map fun e=>(kyS e.1,V.int e.2)
theorem keys_addW (A:WL) (k:List Str) (v:Int):(addW A k v).map (·.1)=if k∈A.map (·.1) then A.map (·.1) else A.map (·.1)++[k]:=by
 unfold addW;split
 ·rw [qAq]
  exact qBw fun q _=>by
   show (if q.1=k then (q.1,q.2+v) else q).1=q.1;split<;>rfl
 ·rw [qAM];rfl
theorem in_addW {A:WL} {k x:List Str} {v:Int} (h:x∈(addW A k v).map (·.1)):x∈A.map (·.1)\/x=k:=by
 rw [keys_addW] at h;split at h
 ·exact .inl h
 ·rw [qAS,qAL] at h;exact h
theorem nd_addW {A:WL} {k:List Str} {v:Int} (h:(A.map (·.1)).Nodup):((addW A k v).map (·.1)).Nodup:=by
 rw [keys_addW];split
 ·exact h
 ·rename_i n;exact qBt.mpr ⟨h,by simp,fun a ha d hd=>by rw [qAL.mp hd];exact fun z=>n (z▸ha)⟩
theorem in_stepW {J:JR} {b:Int} {x:List Str} {v:Int}:∀(ss:List (List Str×List Str)) (A:WL),x∈(ss.foldl (fun A s=>addW A s.2 v) A).map (·.1)->x∈A.map (·.1)\/∃s∈ss,x=s.2
 | [],A,h=>.inl h
 | s::ss,A,h=>by
  rcases in_stepW (J:=J) (b:=b) ss _ h with z| ⟨q,h1,h2⟩
  ·rcases in_addW z with y| y
   ·exact .inl y
   ·exact .inr ⟨s,qAU,y⟩
  ·exact .inr ⟨q,qAP _ h1,h2⟩
theorem zIk {v:Int}:∀(ss:List (List Str×List Str)) (A:WL),(A.map (·.1)).Nodup->((ss.foldl (fun A s=>addW A s.2 v) A).map (·.1)).Nodup
 | [],A,h=>h
 | s::ss,A,h=>zIk ss _ (nd_addW h)
theorem zIr {x:List Str}:∀(L A:WL),x∈(L.foldl (stepW J b) A).map (·.1)->x∈A.map (·.1)\/∃q∈L,∃s∈zAu J b q.1,x=s.2
 | [],A,h=>.inl h
 | q::L,A,h=>by
  rcases zIr L _ h with z| ⟨p,h1,h2⟩
  ·rcases in_stepW (J:=J) (b:=b) _ _ z with y| y
   ·exact .inl y
   ·exact .inr ⟨q,qAU,y⟩
  ·exact .inr ⟨p,qAP _ h1,h2⟩
theorem zIl :∀(L A:WL),(A.map (·.1)).Nodup->((L.foldl (stepW J b) A).map (·.1)).Nodup
 | [],A,h=>h
 | q::L,A,h=>zIl L _ (zIk _ _ h)
theorem wayF_nd (J:JR) (b:Int):∀t,((wayF J b t).map (·.1)).Nodup
 | 0=>by show ([[]]:List (List Str)).Nodup;simp
 | t+1=>zIl _ _ qBB
theorem way_filt :∀{t:Nat} {D:List Str},D∈(wayF J b t).map (·.1)->∃p,D=J.ns.filter p
 | 0,D,h=>⟨fun _=>false,by rw [qAL.mp h];simp⟩
 | t+1,D,h=>by
  rcases zIr _ _ h with z| ⟨q,h1,s,h2,rfl⟩
  ·exact nomatch z
  ·exact zEo h2
theorem way_key {ks:List (List Key)} (h0:kyS []∈ks) (hc:∀D,kyS D∈ks->∀s∈zAu J b D,kyS s.2∈ks):∀{t:Nat} {D:List Str},D∈(wayF J b t).map (·.1)->kyS D∈ks
 | 0,D,h=>by rw [qAL.mp h];exact h0
 | t+1,D,h=>by
  rcases zIr _ _ h with z| ⟨q,h1,s,h2,rfl⟩
  ·exact nomatch z
  ·exact hc _ (way_key h0 hc (qAK.mpr ⟨q,h1,rfl⟩)) s h2
theorem way_few {t:Nat} (hn:J.ns.length<=7):(wayF J b t).length<=128:=by
 have:=zIo (kvs:=wV (wayF J b t)) hn (by
  unfold wV;rw [qAq];show ((wayF J b t).map fun e=>kyS e.1).Nodup;rw [show ((wayF J b t).map fun e=>kyS e.1)=((wayF J b t).map (·.1)).map kyS by rw [qAq];rfl];exact (wayF_nd J b t).map kyS fun x y n z=>n (zB6 z)) fun kv h=>by
  obtain ⟨e,he,rfl⟩:=qAK.mp h;obtain ⟨p,ep⟩:=way_filt (qAK.mpr ⟨e,he,rfl⟩);exact ⟨p,by rw [<-ep]⟩
 unfold wV at this;rw [qAE] at this;exact this
theorem val_wV (k:List Str):∀A:WL,valV (wV A) (kyS k)=if k∈A.map (·.1) then some (.int (getW A k)) else none
 | []=>rfl
 | e::A=>by
  show valV ((kyS e.1,V.int e.2)::wV A) (kyS k)=_
  by_cases z:e.1=k
  ·rw [zA5 (by show kyS e.1=kyS k;rw [z]),qAC (by rw [<-z];exact qAU),getW_pos z]
  ·rw [zA3 (fun y=>z (zB6 y)),val_wV k A]
   have:(k∈(e::A).map (·.1))↔k∈A.map (·.1):=by
    rw [qAp,qAO];exact ⟨fun h=>h.resolve_left fun y=>z y.symm,.inr⟩
   rw [zIt z]
   by_cases c:k∈A.map (·.1)
   ·rw [qAC c,qAC (this.mpr c)]
   ·rw [qAB c,qAB fun y=>c (this.mp y)]
theorem getW_no {k:List Str}:∀{A:WL},k∉A.map (·.1)->getW A k=0
 | [],_=>rfl
 | e::A,h=>by
  rw [qAp,qAO,not_or] at h;rw [zIt fun z=>h.1 z.symm];exact getW_no h.2
theorem get_wV (A:WL) (k:List Str):(valV (wV A) (kyS k)).getD (.int 0)= .int (getW A k):=by
 rw [val_wV];split
 ·rfl
 ·rename_i h;rw [getW_no h];rfl
theorem getW_mem:∀{A:WL} {e:List Str×Int},(A.map (·.1)).Nodup->e∈A->getW A e.1=e.2
 | q::A,e,nd,h=>by
  obtain ⟨n1,n2⟩:=qA1.mp nd;rcases qAO.mp h with z| z
  ·rw [z,getW_pos rfl]
  ·rw [zIt fun y=>n1 (qAK.mpr ⟨e,z,y.symm⟩)];exact getW_mem n2 z
theorem put_wV {A:WL} (nd:(A.map (·.1)).Nodup) (k:List Str) (v:Int):putK (wV A) (kyS k) (.int (getW A k+v))=wV (addW A k v):=by
 by_cases c:k∈A.map (·.1)
 ·have:((wV A).any fun kv=>decide (kv.1=kyS k))=true:=by
   obtain ⟨e,h1,h2⟩:=qAK.mp c;exact List.any_eq_true.mpr ⟨(kyS e.1,V.int e.2),qAK.mpr ⟨e,h1,rfl⟩,qAR (by rw [h2])⟩
  unfold putK addW;rw [qAC this,qAC c];unfold wV;rw [qAq,qAq];refine qBw fun e he=>?_;show (if kyS e.1=kyS k then (kyS e.1,V.int (getW A k+v)) else (kyS e.1,V.int e.2))=(kyS (if e.1=k then (e.1,e.2+v) else e).1,V.int (if e.1=k then (e.1,e.2+v) else e).2)
  by_cases z:e.1=k
  ·rw [qAC (by rw [z]),qAC z,<-z,getW_mem nd he]
  ·rw [qAB fun y=>z (zB6 y),qAB z]
 ·rw [zEw _ (by rw [val_wV,qAB c]),getW_no c,Int.zero_add];unfold addW wV;rw [qAB c,qAM];rfl
theorem nm_of {p x:Addr} {u v:HO} (e:H x=some u) (h:H p=some v) (n:u≠v):x∉[p]:=nm1 (zBq e h n)
section
def zHx:Sp:=fun vs H Q _=>∃t:Int,vs=[.int t]/\0<=t/\t<=40/\Q .non H
abbrev zBl:Stmt:=top 33
theorem zD6:FnScope ["turns"] ["turns"] (zAe zBl):=fnS
theorem zD7 (F:Fun K "check_turns" "check_turns" zBl f fd) (T:Txt K mg) (C_is_whole:Cal P w K mg base "is_whole" 1 ["thing"] zF9):FnOk P w K mg base CX0 2 f fd ["turns"] zHx:=by
 refine F.ok zD6 (fun vs H Q E h=>?_) (fun cdv A outer s H vs Q E hr h=>?_)
 ·obtain ⟨t,rfl,_⟩:=h;rfl
 ·obtain ⟨t,rfl,h0,h1,k⟩:=h;obtain ⟨tM,hM⟩:=T.c_MOST_TURNS
  refine ⟨_,(zAd (zCe (PW.pt (zG3 (zDk (zCm (zAg C_is_whole hr rfl (zAa (pv 0) zAb)))) (zEv (zDk (zH7 op_le op_le zAf (pv 0) (zAx rfl hM (v:=.int 40) ⟨_,rfl⟩))))))
    (zAd zBn)
    zAz)),?_⟩
  refine ⟨_,rfl,t,rfl,_,rfl,iteF ?_⟩;refine ⟨_,rfl,_,_,rfl,rfl,_,rfl,?_⟩;rw [qAR h0];refine iteT ⟨_,_,rfl,rfl,_,rfl,?_⟩;rw [qAR h1];exact iteF k
def zHv:Sp:=fun vs H Q _=>∃(s p:Addr) (J:JR) (b:Int) (t:Nat) (F:Hp) (ks:List (List Key×V)),vs=[.ref s,.ref p]/\StD J b F H s ks/\kyS []∈ks.map (·.1)/\(∀D,kyS D∈ks.map (·.1)->∀s∈zAu J b D,kyS s.2∈ks.map (·.1))/\H p=some (.dT (wV (wayF J b t)))/\J.ns.length<=7/\s≠p /\
 ∀(p':Addr) (H':Hp),H' p'=some (.dT (wV (wayF J b (t+1))))->Fre H p'->Kp [] H H'->Q (.ref p') H'
abbrev zBk:Stmt:=top 37
theorem zAo:FnScope ["steps", "ways", "later", "done", "many", "row", "now"] ["steps", "ways"] (zAe zBk):=fnS
theorem zEi (F:Fun K "ways_one_turn_on" "ways_one_turn_on" zBk f fd):FnOk P w K mg base CX0 1 f fd ["steps", "ways"] zHv:=by
 refine F.ok zAo (fun vs H Q E h=>?_) (fun cdv A outer s H vs Q E hr h=>?_)
 ·obtain ⟨s,p,J,b,t,F,ks,rfl,_⟩:=h;rfl
 ·obtain ⟨sa,p,J,b,t,Fh,ks,rfl,S,st0,cl,hp,few,nsp,k⟩:=h;have hu:=zGu hr
  refine ⟨_,(zAc (psS (i:=2) zAo.nd zIa)
   (zAc (ps_frzT (zBb qAn rfl (pi_itemsT (pv 1)) (zGe rfl (zAp (pgN (i:=3) zAo.nd) (zAp (pgN (i:=4) zAo.nd) zCu)))
    (zAd (zBb qAn rfl (zAv (zDb hu (pv 0) (pv 3) (fun _ _=>rfl))) (zGe rfl (zAp (pgN (i:=5) zAo.nd) (zAp (pgN (i:=6) zAo.nd) zCu)))
     (zAd (zEf hu (pv 2) (pv 6) (zAm zCo (pe_dget2 hu (pv 2) (pv 6) zAf ⟨rfl,rfl,rfl,rfl⟩) (pv 4)) rfl))))))
   (zAd (zAs (pv 2))))),?_⟩
  have hs:=qAV;have wl:∀A:WL,(wV A).length=A.length:=fun A=>qAE _;have hkl:(wayF J b t).length<=128:=way_few few;refine fun l hl=>?_;have fl:Fre H l:=hl;have nlp:l≠p:=fun e=>by rw [e] at fl;exact absurd hp (by rw [show H p=none from fl];exact fun z=>nomatch z)
  have k1:Kp [] H (upd H l (.dT [])):=Kp.new Kp.refl fl;have hl1:upd H l (.dT []) l=some (.dT []):=upd_same;generalize upd H l (.dT [])=H1 at k1 hl1;have hp1:=k1 _ _ hp (by simp);refine ⟨p,_,hp1,fun o=>?_⟩;have kF1:Kp [p] H (upd H1 p (.frz o (.dT (wV (wayF J b t))))):=(k1.weak (by simp)).trans (Kp.put Kp.refl (by simp));have keep:∀{H2:Hp},Kp [p] H H2->∀x u,H x=some u->u≠.dT (wV (wayF J b t))->H2 x=some u:=fun k x u e n=>k x u e (nm_of e hp n)
  refine ⟨_,rfl,p,o,_,rfl,upd_same,zHq (fun i σ H2=>∃(A:WL) (o3 o4 o5 o6:Option V),σ=[some (.ref sa),some (.ref p),some (.ref l),o3,o4,o5,o6]/\Kp [p] H H2/\H2 p=some (.frz o (.dT (wV (wayF J b t))))/\H2 l=some (.dT (wV A))/\A=((wayF J b t).take i).foldl (stepW J b) []/\A.length<=128*i)
   ⟨[],none,none,none,none,rfl,kF1,upd_same,(upd_ne nlp).trans hl1,rfl,qAG _⟩ (fun i σ H2 _ ⟨_,_,_,_,_,_,_,h,_⟩=>h) ?_ ?_⟩
  ·rintro i kk v σ H2 tt bb hv ⟨A0,o3,o4,o5,o6,rfl,k2,hp2,hl2,eA,len2⟩ htt hbb;unfold wV at hv;rw [qAX] at hv;obtain ⟨e,ee,ekv⟩:=qBA.mp hv
   cases ekv
   have kt:Kp [] H2 (upd H2 tt (.tup [.ref bb,.int e.2])):=Kp.new Kp.refl htt;refine ⟨_,_,rfl,.inl (.inl upd_same),rfl,_,_,rfl,_,_,rfl,rfl,?_⟩;have k3:Kp [p] H (upd H2 tt (.tup [.ref bb,.int e.2])):=k2.trans (kt.weak (by simp));have hp3:=kt _ _ hp2 (by simp);have hb3:=kt _ _ hbb (by simp);have hl3:=kt _ _ hl2 (by simp);generalize upd H2 tt (.tup [.ref bb,.int e.2])=H3 at k3 hp3 hb3 hl3;have hi:i<(wayF J b t).length:=(qAc.mp ee).1;obtain ⟨v,g1,g2⟩:=zEm (way_key st0 cl (qAK.mpr ⟨e,qAY ee,rfl⟩));obtain ⟨D',sl,es,ekv',S1,S2,S3,S4⟩:=S.each _ g2;obtain ⟨e1,rfl⟩:=qCa ekv';have e1:=zB6 e1;subst e1;have hs3:=k3 _ _ S.top (nm1 nsp);have g3:=DGet.t (k:=kyS e.1) hs3 hb3;rw [g1] at g3
   have el2:es.length<=128:=by
    have:es.length=(zAu J b e.1).length:=by rw [<-S2,qAE]
    rw [this];exact zFg few
   refine ⟨_,rfl,_,rfl,_,_,rfl,g3,_,rfl,⟨_,SqL.of (keep k3 _ _ S1.top (fun z=>nomatch z))⟩,zBp (xs:=es.map fun e=>V.ref e.t) (fun q σ H4=>∃(A:WL) (o5 o6:Option V),σ=[some (.ref sa),some (.ref p),some (.ref l),some (.ref bb),some (.int e.2),o5,o6]/\Kp [p] H H4/\H4 p=some (.frz o (.dT (wV (wayF J b t))))/\H4 l=some (.dT (wV A))/\A=((zAu J b e.1).take q).foldl (fun A s=>addW A s.2 e.2) A0/\A.length<=128*i+q)
    ⟨A0,o5,o6,rfl,k3,hp3,hl3,rfl,len2⟩ (fun q σ H4 _ ⟨_,_,_,_,k4,_⟩=>SqL.of (keep k4 _ _ S1.top (fun z=>nomatch z))) ?_ ?_⟩
   ·rintro q v σ H4 hv ⟨A1,o5,o6,rfl,k4,hp4,hl4,eA1,len4⟩;obtain ⟨s1,es1,rfl⟩:=se_at hv;have me:=qAY es1;have hq:q<es.length:=(qAc.mp es1).1;have eS:(zAu J b e.1)[q]?=some (s1.r,s1.d):=by rw [<-S2,qAX,es1];rfl
    have hd4:=keep k4 _ _ (S1.now s1 me) (fun z=>nomatch z);have nd1:(A1.map (·.1)).Nodup:=by rw [eA1,eA];exact zIk _ _ (zIl _ _ qBB)
    refine ⟨_,_,rfl,.inl (.inl (keep k4 _ _ (S1.tup s1 me) (fun z=>nomatch z))),rfl,_,_,rfl,_,_,rfl,rfl,?_⟩;refine ⟨_,rfl,l,rfl,.inr ⟨_,.inl hl4⟩,_,rfl,_,DGet.t (k:=kyS s1.d) hl4 (by rw [zDe];exact hd4),_,rfl,?_⟩;rw [get_wV];refine ⟨_,_,rfl,rfl,_,rfl,_,rfl,_,_,rfl,DPut.t (k:=kyS s1.d) hl4 (by rw [zDe];exact hd4) (by rw [wl];lia),?_⟩;rw [put_wV nd1];refine ⟨addW A1 s1.d e.2,_,_,rfl,Kp.new k4 fl,(upd_ne nlp.symm).trans hp4,upd_same,?_,?_⟩
    ·rw [zAj eS,qB8,<-eA1];rfl
    ·have h1:=zB5 (wV A1) (kyS s1.d) (.int (getW A1 s1.d+e.2));rw [put_wV nd1,wl,wl] at h1;lia
   ·rintro σ H4 ⟨A1,o5,o6,rfl,k4,hp4,hl4,eA1,len4⟩;rw [qAE] at eA1 len4;refine ⟨A1,_,_,_,_,rfl,k4,hp4,hl4,?_,by lia⟩;have:(zAu J b e.1).take es.length=zAu J b e.1:=qBb (by rw [<-S2,qAE];exact qAG _);rw [this] at eA1;rw [zAj ee,qB8,<-eA,eA1];rfl
  ·rintro σ H2 ⟨A0,o3,o4,o5,o6,rfl,k2,hp2,hl2,eA,len2⟩;rw [wl,qAu] at eA;subst eA;refine ⟨hp2,?_⟩;refine ⟨_,rfl,k l _ ((upd_ne nlp).trans hl2) fl fun b o h _=>?_⟩
   by_cases e:b=p
   ·rw [e] at h ⊢;rw [upd_same,<-hp,h]
   ·rw [upd_ne e];exact k2 b o h (nm1 e)
end
section
def cntF (J:JR) (b:Int) (t:Nat):Int:=getW (wayF J b t) J.ns
def spCounted (C:Addr):Sp:=fun vs H Q _=>∃(j:Addr) (b:Int) (t:Nat) (J:JR),vs=[.ref j,.int b,.int t]/\JobsAt C H j J/\1<=b/\t<=40/\J.ns.length<=7/\∀H':Hp,Kp [] H H'->Q (.int (cntF J b t)) H'
abbrev zDq:Stmt:=top 36
theorem zBy:FnScope ["jobs", "benches", "turns", "steps", "ways", "number"] ["jobs", "benches", "turns"] (zAe zDq):=fnS
theorem ok_counted (F:Fun K "counted" "counted" zDq f fd) (T:Txt K mg) (U:JC K mg C) (M_names:Mth P w K mg base C "names" 1 ["self"] (zC4 C)) (C_check_benches:Cal P w K mg base "check_benches" 2 ["benches"] zFi) (C_check_turns:Cal P w K mg base "check_turns" 2 ["turns"] zHx) (C_check_few:Cal P w K mg base "check_few" 2 ["jobs"] (spFew C))
  (C_all_steps:Cal P w K mg base "all_steps" 6 ["jobs", "benches"] (spAll C)) (C_ways_one_turn_on:Cal P w K mg base "ways_one_turn_on" 1 ["steps", "ways"] zHv):FnOk P w K mg base CX0 7 f fd ["jobs", "benches", "turns"] (spCounted C):=by
 refine F.ok zBy (fun vs H Q E h=>?_) (fun cdv A outer s H vs Q E hr h=>?_)
 ·obtain ⟨j,b,t,J,rfl,_⟩:=h;rfl
 ·obtain ⟨j,b,t,J,rfl,A0,hb,ht,few,k⟩:=h;have hu:=zGu hr;have hr1:=hr.mono (j:=1) (by decide);have hr2:=hr.mono (j:=2) (by decide)
  refine ⟨_,(zAc (zAq (zAg C_check_benches hr2 rfl (zAa (pv 1) zAb)))
   (zAc (zAq (zAg C_check_turns hr2 rfl (zAa (pv 2) zAb)))
   (zAc (zAq (zAg C_check_few hr2 rfl (zAa (pv 0) zAb)))
   (zAc (psS (i:=3) zBy.nd (zAg C_all_steps hr rfl (zAa (pv 0) (zAa (pv 1) zAb))))
   (zAc (psS (i:=4) zBy.nd (pe_disp1 hu (zCn zAb) zAf))
   (zAc (zBb qAn rfl (zCz rfl T.z_range (zAa (pv 2) zAb)) (pgN (i:=5) zBy.nd)
    (zAd (psS (i:=4) zBy.nd (zAg C_ways_one_turn_on hr1 rfl (zAa (pv 3) (zAa (pv 4) zAb))))))
   (zAd (zAs (pe_dget2 hu (pv 4) (zAt zBw (by rfl) T.z_tuple zF4 (zAa (zC0 M_names U.cl hr1 (pv 0)) zAb)) zAf ⟨rfl,rfl,rfl,rfl⟩))))))))),?_⟩
  have hs:=qAV;refine ⟨_,rfl,b,rfl,hb,?_⟩;refine ⟨_,rfl,(t:Int),rfl,by lia,by lia,?_⟩;refine ⟨_,rfl,j,J,rfl,A0,few,fun H1 k1=>?_⟩;refine ⟨_,rfl,_,rfl,j,b,J,rfl,A0.kp0 k1,few,fun d ks H2 S2 st0 cl k2=>?_⟩;have k02:=k1.trans k2;refine fun p hp=>?_;have fp:Fre H2 p:=hp;have kp:Kp [] H2 (upd H2 p (.dT [])):=Kp.new Kp.refl hp;have hp3:upd H2 p (.dT []) p=some (.dT []):=upd_same;have ndp:d≠p:=zAh S2.top hp;generalize upd H2 p (.dT [])=H3 at kp hp3;refine ⟨(by walk_at "ln"),fun t0 ht0=>?_⟩;have kt:Kp [] H3 (upd H3 t0 (.tup [])):=Kp.new Kp.refl ht0;have ht4:upd H3 t0 (.tup []) t0=some (.tup []):=upd_same;have hp4:=kt _ _ hp3 (by simp);generalize upd H3 t0 (.tup [])=H4 at kt ht4 hp4;refine ⟨[],t0,.int 1,rfl,hp4,ht4,?_⟩;have k26:Kp [] H2 (upd H4 p (.dT [([],.int 1)])):=Kp.new (kp.trans kt) hp;have hp6:upd H4 p (.dT [([],.int 1)]) p=some (.dT (wV (wayF J b 0))):=upd_same;generalize upd H4 p (.dT [([],.int 1)])=H6 at k26 hp6;refine ⟨_,rfl,_,rfl,by lia,by lia,zB7 (lo:=0) (n:=t) (fun i σ H7=>∃(p:Addr) (o5:Option V),σ=[some (.ref j),some (.int b),some (.int t),some (.ref d),some (.ref p),o5]/\Kp [] H2 H7/\H7 p=some (.dT (wV (wayF J b i)))/\d≠p) ⟨p,none,rfl,k26,hp6,ndp⟩ ?_ ?_⟩
  ·rintro i σ H7 hi ⟨p,o5,rfl,k7,hp7,ndp⟩;refine ⟨_,rfl,_,rfl,d,p,J,b,i,H1,ks,rfl,S2.kp0 k7,st0,cl,hp7,few,ndp,fun p' H' hp' fp' k'=>?_⟩;exact ⟨p',_,rfl,k7.trans k',hp',zAh (k7 _ _ S2.top (by simp)) fp'⟩
  ·rintro σ H7 ⟨p,o5,rfl,k7,hp7,ndp⟩;have k07:=k02.trans k7;have A7:=A0.kp0 k07;refine ⟨_,rfl,p,rfl,.inr ⟨_,.inl hp7⟩,_,rfl,j,J.dx,_,rfl,A7.ob,jf_no _ _ _ (by decide +kernel) (by decide +kernel) (by decide +kernel),j,J,rfl,A7,fun nl H8 fn h8 k8=>?_⟩;refine ⟨nl,_,rfl,.inl ⟨SqL.of h8,fun tp htp=>?_⟩⟩;have k9:Kp [] H8 (upd H8 tp (.tup (J.ns.map V.str))):=Kp.new Kp.refl htp;have h9:upd H8 tp (.tup (J.ns.map V.str)) tp=some (.tup (J.ns.map V.str)):=upd_same;generalize upd H8 tp (.tup (J.ns.map V.str))=H9 at k9 h9;have k79:=k8.trans k9;refine ⟨_,DGet.t (k:=kyS J.ns) (k79 _ _ hp7 (by simp)) (by rw [zDe];exact h9),?_⟩;rw [get_wV];exact k H9 (k07.trans k79)
end
end My
namespace L2
open PySem PySem.Spec PyProof.Rows
variable {H:Hp}{h h':Heap}{a xa:Addr}{pos:Pos}{scope:Scope}{X:Cx}{elt iter:Expr}{g:TG}{tt:TT}{te:TE}
def Itz (K:PySem.W.Frag) (a b:Addr):It :=
 ⟨fun i H=>∃xs ys x y,SqL K H a xs/\SqL K H b ys/\xs[i]?=some x/\ys[i]?=some y,fun i H v H'=>∃t x y,v= .ref t/\H t=none/\H'=upd H t (.tup [x,y])/\(∀xs,SqL K H a xs->xs[i]?=some x)/\∀ys,SqL K H b ys->ys[i]?=some y,fun i H=>∃xs ys,SqL K H a xs/\SqL K H b ys/\(xs.length<=i\/ys.length<=i)⟩
theorem un_but {fs ex:List Addr} (k:∀b u,b∉ex->h.get? b=some u->h'.get? b=some u):Un fs ex H H h h' :=
 ⟨fun b ob q _ _ hx=>k b ob hx q,fun b ob q _ _ hx=>⟨ob.slots,k b ob hx q⟩,fun _ _ _ n _=>n,fun b ob q hx=>⟨ob,k b ob hx q⟩,fun _ _ q=>q,fun _ _ _ q=>q,fun _ ps q=>⟨#[],by rw [q];simp⟩⟩
theorem hok_but {P:Program} {w:World} {ex:List Addr} (x:HOk P w H h) (k:∀b u,b∉ex->h.get? b=some u->h'.get? b=some u) (hex:∀b∈ex,H b=none):HOk P w H h':=fun b u e =>
 (x b u e).stay (fun c v hc q=>k c v (fun z=>by
  have hz:=hex c z;rcases hc with y| y
  ·rw [y,e] at hz;cases hz
  ·rw [y] at hz;cases hz) q) (fun _ q=>q) fun _ _ q=>q
structure Apart (z TI TO i1 i2:Addr):Prop where
 TIz:TI≠z
 TOz:TO≠z
 i1z:i1≠z
 i2z:i2≠z
 TITO:TI≠TO
 TIi1:TI≠i1
 TIi2:TI≠i2
 TOi1:TO≠i1
 TOi2:TO≠i2
 i12:i1≠i2
theorem apart_at (n:Nat):Apart (n+4) (n+2) (n+3) n (n+1):=⟨qAN (by lia),qAN (by lia),qAN (by lia),qAN (by lia),qAN (by lia),qAz (by lia),qAz (by lia),qAz (by lia),qAz (by lia),qAN (by lia)⟩
def ZipAt (z TI TO i1 i2 a b:Addr) (i:Nat) (h:Heap):Prop:=IsZip h z TI TO .none/\IsPair h TI (.ref i1) (.ref i2)/\(∃p q,IsPair h TO p q)/\h.IsListIter i1 a i/\h.IsListIter i2 b i
theorem ZipAt.apart {z TI TO i1 i2 b:Addr} {i:Nat} {xs ys:Array Value} (D:Apart z TI TO i1 i2) (Z:ZipAt z TI TO i1 i2 a b i h) (ha:h.IsList a xs) (hb:h.IsList b ys):ZipApart z TI TO i1 i2 a b:=by
 obtain ⟨s1,_,⟨p,q,s3⟩,⟨o4,s4,c4,_⟩,⟨o5,s5,c5,_⟩⟩:=Z;obtain ⟨oa,ga,ca,_⟩:=ha;obtain ⟨ob,gb,cb,_⟩:=hb;refine ⟨D.TIz,D.TOz,D.i1z,D.i2z,D.TITO,D.TIi1,D.TIi2,D.TOi1,D.TOi2,D.i12,?_,?_,?_,?_,?_,?_,?_,?_⟩
 ·exact fun e=>by rw [e,s1] at ga;cases ga;simp at ca
 ·exact fun e=>by rw [e,s3] at ga;cases ga;simp at ca
 ·exact fun e=>by rw [e,s4] at ga;cases ga;rw [c4] at ca;simp at ca
 ·exact fun e=>by rw [e,s5] at ga;cases ga;rw [c5] at ca;simp at ca
 ·exact fun e=>by rw [e,s1] at gb;cases gb;simp at cb
 ·exact fun e=>by rw [e,s3] at gb;cases gb;simp at cb
 ·exact fun e=>by rw [e,s4] at gb;cases gb;rw [c4] at cb;simp at cb
 ·exact fun e=>by rw [e,s5] at gb;cases gb;rw [c5] at cb;simp at cb
section
variable {X:Cx} {elts:List Expr} {kk:Nat} {tp:Pos}
theorem boot_zip:bootBuiltins "zip" = some (.type "zip"):=by decide +kernel
end
def HotH (A:Around) (h:Heap):Prop:=∃b o vs,A.handled=some (.ref b)/\h.get? b=some o/\o.data= .fields vs/\vs[2]?=some .none
theorem zIv:entryFor table "proto.unchain" = some Builtin.«proto.unchain»:=entryFor_of_fast (by kernel_rfl)
section
variable {prog:Program} {w:World} {A:Around} {E:Value->Shared->Prop} {s:Shared} {α:Type} {Q:α->Shared->Prop}
theorem raise_hot {oa:Obj} {es:Array Value} (hot:HotH A s.heap) (ha:s.heap.get? a=some oa) (da:oa.data= .fields es) (sz:2<es.size) (na:A.handled≠some (.ref a))
  (hE:∀h',Heap.SameBut a s.heap h'->(∃o,h'.get? a=some o/\o.cls=oa.cls)->E (.ref a) {s with heap:=h'}):wpAny (model prog w) A (raiseNew (.ref a):Sem α) Q E s:=by
 obtain ⟨b,o,vs,hh,hb,db,v2⟩:=hot;have nba:b≠a:=fun z=>na (by rw [hh,z]);unfold raiseNew;refine qAA (wpAny_handled ?_);rw [hh];show wpAny _ _ (if (Value.ref b != Value.ref a)=true then _ else _) _ _ _;rw [qAC (by simp [nba])];refine qAA (qAv (wpAny_runValue (qBk zIv ?_)));show wpAny _ _ (field (.ref b) 2 >>= _) _ _ _;refine qAA (qAw hb db v2 ?_);show wpAny _ _ (if (Value.none==Value.none)=true then _ else _) _ _ _;rw [qAC (by rfl)];refine qAD ?_;refine qAA ?_;unfold updateField;refine qAA (qCD ha ?_);rw [da];show wpAny _ _ (if 2<es.size then _ else _) _ _ _;rw [qAC sz];refine wpAny_update ha (wpAny_throw (hE _ (qAo ..) ⟨_,qA9 _ ha (qBU (qAr da _)),qBv _ _⟩))
theorem HotH.keep {h h':Heap} (x:HotH A h) (k:∀b o,(∃vs,o.data= .fields vs/\vs[2]?=some .none)->A.handled=some (.ref b)->h.get? b=some o->h'.get? b=some o):HotH A h':=by
 obtain ⟨b,o,vs,e1,e2,e3,e4⟩:=x;exact ⟨b,o,vs,e1,k b o ⟨vs,e3,e4⟩ e1 e2,e3,e4⟩
theorem HotH.at1 (x:HotH A h):HotH A.in1 h:=x
theorem stop_hot (hot:HotH A s.heap) (hE:∀h' e,(∀b o,s.heap.get? b=some o->h'.get? b=some o)->(∃o,h'.get? e=some o/\o.cls= .type "StopIteration")->E (.ref e) {s with heap:=h'}):wpAny (model prog w) A (newExc (.type "StopIteration") [] >>= fun e=>(raiseNew e:Sem α)) Q E s:=by
 refine qAA ?_;simp only [newExc,newTuple];refine qAA (qA5 ?_ (by size_fits));refine qAA (m:=firstArgMember _ _) (qCS (a:=Value.none) (by first| rfl| (simp only [firstArgMember];rfl)) ?_);refine qA5 ?_ (by size_fits)
 have lt:∀b,A.handled=some (.ref b)->b<s.heap.objs.size:=fun b e=>by
  obtain ⟨c,o,vs,e1,e2,_⟩:=hot;rw [e1] at e
  cases e
  exact qAI e2
 refine raise_hot (hot.keep fun b o _ _ e=>qAJ _ (qAJ _ e)) (qAe _ rfl) rfl (by rw [Array.size_append];show 2<6+_;lia) (fun e=>?_) fun h' sb ho=>hE h' _ (fun b o e=>sb.extBut b o ?_ (qAJ _ (qAJ _ e))) ho
 ·have:=lt _ e;rw [qBG] at this;exact absurd this (qB6.mpr (qBf _))
 ·have:=qAI e;rw [qBG];exact qAN (qBh this)
theorem zDt {it l:Addr} {i:Nat} {items} {Q:Value->Shared->Prop} (hot:HotH A s.heap) (nh:A.handled≠some (.ref it))
  (hit:s.heap.IsListIter it l i) (hl:s.heap.IsList l items) (hx:items[i]?=none)
  (hE:∀h' e,Heap.ExtBut it s.heap h'->(∃o,h'.get? e=some o/\o.cls= .type "StopIteration")->E (.ref e) {s with heap:=h'}):wpAny (model prog w) A (Builtin.SmallTypes.nextOf (.ref it)) Q E s:=by
 obtain ⟨o,ho,hc,hd⟩:=id hit;obtain ⟨ol,hol,_,nl,hdl⟩:=hl;unfold Builtin.SmallTypes.nextOf;refine qAA (qBu (name:=Str.ofString "__next__") hit.typeIs slot_listiter_next (qBD slot_listiter_next hit.typeIs entry_listiter_next ?_ (args_listiter_next _)));show wpAny _ _ (field (.ref it) 0 >>= _) _ _ s;refine qAA (qAw ho hd (x:=.ref l) rfl ?_);show wpAny _ _ (if (Value.ref l==Value.none)=true then _ else _) _ _ s;rw [qAB (show¬((Value.ref l==Value.none)=true) from qAd)];show wpAny _ _ (field (.ref it) 1 >>= _) _ _ s;refine qAA (qAw ho hd (x:=.int i 0) rfl ?_);show wpAny _ _ (seqItems? (.ref l) >>= _) _ _ s;refine qAA (qB7 hol hdl ?_);simp only [qCV,hx];refine qAA (qBO (qAA (qA2 ho hd (by simp) ?_)));exact stop_hot (HotH.keep (h:=s.heap) hot fun b o _ e x=>(qAo ..).extBut b o (fun z=>nh (by rw [<-z];exact e)) x) fun h' e k he=>hE h' e (fun b o nb x=>k b o ((qAo ..).extBut b o nb x)) he
theorem zG7 {it t:Addr} {i:Nat} {items} {Q:Option Value->Shared->Prop} (hot:HotH A s.heap) (nh:A.handled≠some (.ref it))
  (hit:IsTupIter s.heap it t i) (ht:IsTup s.heap t items) (hx:items[i]?=none)
  (hQ:∀h',Heap.ExtBut it s.heap h'->Q none {s with heap:=h'}):wpAny (model prog w) A (pyNext (.ref it)) Q E s:=by
 obtain ⟨o,ho,hc,hd⟩:=id hit;obtain ⟨ol,hol,_,nl,hdl⟩:=ht;unfold pyNext;refine qAA (qBa (qBu (name:=Str.ofString "__next__") hit.typeIs slot_tupleiter_next (qBD slot_tupleiter_next hit.typeIs entry_tupleiter_next ?_ (args_tupleiter_next _))));show wpAny _ _ (field (.ref it) 0 >>= _) _ _ s;refine qAA (qAw ho hd (x:=.ref t) rfl ?_);show wpAny _ _ (if (Value.ref t==Value.none)=true then _ else _) _ _ s;rw [qAB (show¬((Value.ref t==Value.none)=true) from qAd)];show wpAny _ _ (field (.ref it) 1 >>= _) _ _ s;refine qAA (qAw ho hd (x:=.int i 0) rfl ?_);show wpAny _ _ (seqItems? (.ref t) >>= _) _ _ s;refine qAA (qB7 hol hdl ?_);simp only [qCV,hx];refine qAA (qBO (qAA (qA2 ho hd (by simp) ?_)));refine stop_hot (HotH.keep (h:=s.heap) hot fun b o _ e x=>(qAo ..).extBut b o (fun z=>nh (by rw [<-z];exact e)) x) fun h' e k he=>?_;obtain ⟨oe,hoe,hce⟩:=he;refine qAA (qCU (T:= "StopIteration") (b:=true) ⟨oe,hoe,hce⟩ qCt ?_);exact qAD (hQ _ fun b o nb x=>k b o ((qAo ..).extBut b o nb x))
theorem zF7 {t:Addr} {items:Array Value} {Q:List Value->Shared->Prop} (hot:HotH A s.heap) (ht:IsTup s.heap t items)
  (hQ:∀h',Heap.ExtBut s.heap.objs.size s.heap h'->Q items.toList {s with heap:=h'}):wpAny (model prog w) A (unpackItems (.ref t) items.size none) Q E s:=by
 have hlt:t≠s.heap.objs.size:=by obtain ⟨o,ho,_⟩:=ht;exact qAN (qAI ho)
 have nh:A.handled≠some (.ref s.heap.objs.size):=fun z=>by
  obtain ⟨b,o,vs,e1,e2,_⟩:=hot;rw [e1] at z
  cases z
  exact absurd (qAI e2) (qAy _)
 unfold unpackItems;refine qAA ?_
 ·unfold notIterableAtAll;refine qAA (qCk ht.typeIs slot_tuple_iter.lookup ?_);refine qAD ?_;simp only [qCX,qBW];refine qAA (qAv (iter_tuple ht ?_));refine qAA (qAv (draw_tuple hlt items.size 0 _ _ ⟨_,qAe _ rfl,rfl,rfl⟩ (ht.push _) (by lia) fun h₁ hit₁ hs₁=>?_));rw [show List.take items.size (List.drop 0 items.toList)=items.toList by rw [List.drop_zero];exact qBb (by simp),qAB (by simp)];refine qAA (qAv (zG7 (HotH.keep (h:=s.heap) hot fun b o _ e x=>hs₁.extBut b o (fun z=>nh (by rw [<-z];exact e)) (qAJ _ x)) nh hit₁ ((ht.push _).extBut hs₁.extBut hlt) (by simp) fun h₂ he₂=>?_));simp only [Option.isSome_none,qCX,qBW];refine qAD (hQ h₂ fun b o hb e=>he₂ b o hb (hs₁.extBut b o hb (qAJ _ e)))
theorem zFy {env:Env} {elts:List Expr} {x1} {pos:Pos} {t:Addr} {items:Array Value} {Q:Unit->Shared->Prop} (hot:HotH A s.heap) (ht:IsTup s.heap t items)
  (hn:(assignEach elts env).length=items.size) (hstar:(assignEach elts env).findIdx? (·.1)=none)
  (h:∀h',Heap.ExtBut s.heap.objs.size s.heap h'->wpAny (model prog w) A (assignInOrder ((assignEach elts env).map (·.2)) items.toList) Q E {s with heap:=h'}) :
  wpAny (model prog w) A (assign (.Tuple elts x1 pos) env (.ref t)) Q E s:=by
 rw [assign_Tuple];refine qAA (qCb ?_);unfold unpack;rw [hn,hstar];exact qAA (qAv (zF7 hot ht h))
end
section
variable {prog:Program} {w:World} {A:Around} {E:Value->Shared->Prop} {s:Shared}
theorem HotH.but {c:Addr} (x:HotH A h) (n:A.handled≠some (.ref c)) (k:Heap.ExtBut c h h'):HotH A h':=x.keep fun b o _ e y=>k b o (fun z=>n (by rw [<-z];exact e)) y
theorem zip_next_hot {z TI TO i1 i2 l1 l2:Addr} {k1 k2:Nat} {xs ys:Array Value} {a b:Value} {Q:Fin->Shared->Prop} (hot:HotH A s.heap) (nz:A.handled≠some (.ref z)) (nO:A.handled≠some (.ref TO)) (n1:A.handled≠some (.ref i1)) (n2:A.handled≠some (.ref i2)) (D:ZipApart z TI TO i1 i2 l1 l2)
  (hz:IsZip s.heap z TI TO .none) (hTI:IsPair s.heap TI (.ref i1) (.ref i2)) (hTO:IsPair s.heap TO a b)
  (h1:s.heap.IsListIter i1 l1 k1) (h2:s.heap.IsListIter i2 l2 k2) (hl1:s.heap.IsList l1 xs) (hl2:s.heap.IsList l2 ys) (hend:xs[k1]?=none\/ys[k2]?=none)
  (hE:∀h' e,(∀c o,c≠z->c≠TO->c≠i1->c≠i2->s.heap.get? c=some o->h'.get? c=some o)->(∃o,h'.get? e=some o/\o.cls= .type "StopIteration")->E (.ref e) {s with heap:=h'}) :
  wpAny (model prog w) A (Builtin.«zip.__next__» ⟨[.ref z],[]⟩) Q E s:=by
 show wpAny _ _ (field (.ref z) 2 >>= _) _ _ _;refine qAA (qAw hz rfl (x:=.bool false) rfl ?_);show wpAny _ _ (field (.ref z) 3 >>= _) _ _ _;refine qAA (qAw hz rfl (x:=.ref TI) rfl ?_);refine qAA (qB7 hTI rfl ?_);show wpAny _ _ (Builtin.SmallTypes.ownedTupleIsFree (.ref z) >>= _) _ _ _;refine qAA ?_;unfold Builtin.SmallTypes.ownedTupleIsFree;refine qAA (qAw hz rfl (x:=.none) rfl (qAD ?_));simp only [qBQ];refine qAA (qBO ?_);refine qAA (qAw hz rfl (x:=.ref TO) rfl ?_);refine qAA (qBm hz (by simp) fun h₁ hz₁ hs₁=>?_)
 replace hz₁:IsZip h₁ z TI TO .ellipsis:=hz₁
 have t1:HotH A h₁:=hot.but nz hs₁.extBut;refine qAA ?_;simp only [List.zipIdx_cons,List.zipIdx_nil,List.forIn_cons,List.forIn_nil];refine qAA (qAA (wpAny_onRaise ?_));show wpAny _ _ (Builtin.SmallTypes.nextOf (.ref i1) >>= _) _ _ _
 cases hx:xs[k1]? with
 | none =>
  refine qAA (zDt t1 n1 (h1.extBut hs₁.extBut D.i1z) (hl1.extBut hs₁.extBut D.l1z) hx fun h₂ e hs₂ he=>?_);obtain ⟨oe,hoe,hce⟩:=he;have hz₂:IsZip h₂ z TI TO .ellipsis:=hs₂ _ _ D.i1z.symm hz₁;have hez:e≠z:=fun x=>by subst x;rw [hz₂] at hoe;cases hoe;simp at hce
  exact qBm hz₂ (by simp) fun h₃ _ hs₃=>hE h₃ e (fun c o c1 _ c3 _ x=>hs₃.extBut _ _ c1 (hs₂ _ _ c3 (hs₁.extBut _ _ c1 x))) ⟨oe,hs₃.extBut _ _ hez hoe,hce⟩
 | some x =>
  have hy:ys[k2]?=none:=by rcases hend with h| h;rw [hx] at h;cases h;exact h
  refine qAA (wpAny_nextOf_list_item (h1.extBut hs₁.extBut D.i1z) (hl1.extBut hs₁.extBut D.l1z) hx fun h₂ h1₂ hs₂=>qAD ?_);have hTO₂:IsPair h₂ TO a b:=hs₂.extBut _ _ D.TOi1 (hs₁.extBut _ _ D.TOz hTO);refine qAA (qB7 hTO₂ rfl ?_);refine qAA (wpAny_updateSeq_pair hTO₂ fun h₃ hTO₃ hs₃=>?_);refine qAA (wpAny_letGo (qAD ?_));refine qAA (qAA (wpAny_onRaise ?_));show wpAny _ _ (Builtin.SmallTypes.nextOf (.ref i2) >>= _) _ _ _;have t3:HotH A h₃:=(t1.but n1 hs₂.extBut).but nO hs₃.extBut;refine qAA (zDt t3 n2 (((h2.extBut hs₁.extBut D.i2z).extBut hs₂.extBut D.i12.symm).extBut hs₃.extBut D.TOi2.symm) (((hl2.extBut hs₁.extBut D.l2z).extBut hs₂.extBut D.l2i1).extBut hs₃.extBut D.l2TO) hy fun h₄ e hs₄ he=>?_);obtain ⟨oe,hoe,hce⟩:=he;have hz₄:IsZip h₄ z TI TO .ellipsis:=hs₄ _ _ D.i2z.symm (hs₃.extBut _ _ D.TOz.symm (hs₂.extBut _ _ D.i1z.symm hz₁));have hez:e≠z:=fun x=>by subst x;rw [hz₄] at hoe;cases hoe;simp at hce
  exact qBm hz₄ (by simp) fun h₅ _ hs₅=>hE h₅ e (fun c o c1 c2 c3 c4 x=>hs₅.extBut _ _ c1 (hs₄ _ _ c4 (hs₃.extBut _ _ c2 (hs₂.extBut _ _ c3 (hs₁.extBut _ _ c1 x))))) ⟨oe,hs₅.extBut _ _ hez hoe,hce⟩
theorem zG2 {z TI TO i1 i2 l1 l2:Addr} {k1 k2:Nat} {xs ys:Array Value} {a b:Value} {Q:Option Value->Shared->Prop} (hot:HotH A s.heap) (nz:A.handled≠some (.ref z)) (nO:A.handled≠some (.ref TO)) (n1:A.handled≠some (.ref i1)) (n2:A.handled≠some (.ref i2)) (D:ZipApart z TI TO i1 i2 l1 l2)
  (hz:IsZip s.heap z TI TO .none) (hTI:IsPair s.heap TI (.ref i1) (.ref i2)) (hTO:IsPair s.heap TO a b)
  (h1:s.heap.IsListIter i1 l1 k1) (h2:s.heap.IsListIter i2 l2 k2) (hl1:s.heap.IsList l1 xs) (hl2:s.heap.IsList l2 ys) (hend:xs[k1]?=none\/ys[k2]?=none)
  (hQ:∀h',(∀c o,c≠z->c≠TO->c≠i1->c≠i2->s.heap.get? c=some o->h'.get? c=some o)->Q none {s with heap:=h'}):wpAny (model prog w) A (pyNext (.ref z)) Q E s:=by
 have hT:s.TypeIs (.ref z) "zip" := ⟨_,hz,rfl⟩;unfold pyNext;refine qAA (qBa (qBu (name:=Str.ofString "__next__") hT F.slot_zip_next (qBD F.slot_zip_next hT F.entry_zip_next (zip_next_hot hot.at1 nz nO n1 n2 D hz hTI hTO h1 h2 hl1 hl2 hend fun h' e hk he=>?_) (F.args_zip_next_1 _))));obtain ⟨o,ho,hc⟩:=he;refine qAA (qCU (T:= "StopIteration") (b:=true) ⟨o,ho,hc⟩ qCt ?_);exact qAD (hQ _ hk)
end
def cool (A:Around):Around:={A with handled:=none}
theorem cool_mark {A:Around} {env:Env} {v:Value} (h:A.handled=some v):((cool A).deeper env).mark (some v)=A.deeper env:=by
 cases A
 cases h
 rfl
structure FnHot (P:Program) (w:World) (K:PySem.W.Frag) (mg:Str->Option Value) (base:Heap) (k:Nat) (f:Addr) (fd:FuncData) (ps:List Str) (sp:Addr->Sp):Prop where
 len:∀a vs H Q E,sp a vs H Q E->vs.length=ps.length
 run:∀(A:Around) (outer:List Env) (s:Shared) (H:Hp) (args:Args) (us:List Value) (vs:List V) (Q:VK) (E:XK) (a:Addr),Room k (cool A)->A.handled=some (.ref a)->Env0 P w K mg base A outer s H->BindsTo s fd args (ps.zip us)->Vals vs us->sp a vs H Q E ->
  codeAny (model P w) A (.call (.ref f) args) (CR CX0 outer P w H s Q E) s
theorem fn_hot {P:Program} {w:World} {K:PySem.W.Frag} {mg:Str->Option Value} {base:Heap} {k:Nat} {f:Addr} {name qual:Str} {params:Arguments} {body:List Stmt} {dV kV doc pm cdv ct oc:Value} {an od:Option Addr}
  {osl:Array (Option Value)} {N ps:List Str} {sp:Addr->Sp} (lk:K.lookup f=some ⟨oc,od,.func (PySem.W.fnOf name qual params body scope dV kV doc pm an cdv ct),osl⟩) (hcd:PySem.W.codeIn K cdv qual=true) (S:FnScope N ps scope)
  (len:∀a vs H Q E,sp a vs H Q E->vs.length=ps.length)
  (hbody:∀(A:Around) (outer:List Env) (s:Shared) (H:Hp) (vs:List V) (Q:VK) (E:XK) (a:Addr),Room k (A.deeper (envOfC qual scope s.heap.objs.size f cdv))->sp a vs H Q E ->
   ∃t,PSs ((cxOf CX0 P w K mg base N qual scope f cdv A outer s H E).hnd a) body t/\t {nx:=fun _ H'=>Q .non H',rt:=Q} (start N vs) H) :
  FnHot P w K mg base (k+1) f (PySem.W.fnOf name qual params body scope dV kV doc pm an cdv ct) ps sp:=by
 refine ⟨len,fun A outer s H args us vs Q E a hr hh e0 hb r hsp=>?_⟩;have hl:=len _ _ _ _ _ hsp;have KX:K.In s.heap:=e0.mod.kin.keeps fun b o e=>(e0.bs b o e).1;have lim:s.heap.NoLimit:=e0.mod.nolimit.keeps fun b o e=>(e0.bs b o e).1
 have hkind:∀y∈ps.zip us,scope.names.lookup y.1=some .local\/(scope.names.lookup y.1=some .cell/\((cellsFrom (s.heap.objs.size+1) scope.names []).lookup y.1).isSome=true):=fun ⟨n,v⟩ hy=>by
  rcases S.par n (qCd hy).1 with q| q
  ·exact .inl q
  ·exact .inr ⟨q,qCe _ _ _ (.inl q)⟩
 refine codeAny_call_function hr.depth (KX _ _ lk) rfl S.co S.gen rfl (PySem.W.codeRec_of KX hcd) (hb _ _ _ _ ?_);refine wpAny_newFunctionEnv_cells S.kind hkind fun env he s1 x=>?_;subst he;refine ⟨lim.keeps x.toInCall.keep,codeAny_func ?_⟩;obtain ⟨t,ht,hq⟩:=hbody (cool A) outer s H vs Q E a (hr.deeper _) hsp;have I:=(inv_start (CX:=CX0) (E:=E) (A:=cool A) (qual:=qual) (f:=f) (cd:=cdv) S rfl ⟨e0.frames,e0.mod,e0.bs,e0.bsz,e0.funs,e0.frf,e0.hok,e0.bare⟩ hl r x).to_hnd (a:=a);have q:=ht [] s1 (start N vs) H _ I hq;have eA:((cxOf CX0 P w K mg base N qual scope f cdv (cool A) outer s H E).hnd a).A=A.deeper (envOfC qual scope s.heap.objs.size f cdv):=cool_mark hh;rw [eA] at q;refine qAt q (fun fl s' hs=>?_) fun e s' hs=>hs.elim
 have fin:∀{σ':St} {H':Hp} {v:V} {u:Value},Inv ((cxOf CX0 P w K mg base N qual scope f cdv (cool A) outer s H E).hnd a) [] σ' H' s'->RelV v u->Q v H'->CE outer P w H s Q u s' :=
  fun {σ' H' v u} J rv q=>⟨v,H',J.os,J.bare,J.base,J.hok,rv,q⟩
 cases fl with
 | ret u =>
  obtain ⟨v,σ',H',J,rv,q⟩:=hs;exact fin J rv q
 | next =>
  obtain ⟨σ',H',J,q⟩:=hs;exact fin (v:=V.non) (u:=Value.none) J rfl q
 | brk =>
  obtain ⟨_,_,_,q⟩:=hs;exact False.elim q
 | cont =>
  obtain ⟨_,_,_,q⟩:=hs;exact False.elim q
structure CalH (P:Program) (w:World) (K:PySem.W.Frag) (mg:Str->Option Value) (base:Heap) (x:Str) (k:Nat) (ps:List Str) (sp:Addr->Sp):Prop where
 to:∃(f:Addr) (fd:FuncData),mg x=some (.ref f)/\PySem.W.keepIn K (.ref f)=true/\zCd K fd ps []/\FnHot P w K mg base k f fd ps sp
theorem pe_callH {x:Str} {k:Nat} {ps:List Str} {sp:Addr->Sp} {e:Expr} {es:List Expr} {p pos:Pos} {t:TA} (C:CalH X.prog X.w X.K X.mg X.base x k ps sp) (hr:Room k X.A) (hg:Gl X x) (ha:PA (X.hnd a) (e::es) t)
  (hdb:(x==("__debug__" : Str))=false:=by decide) (he:starEach (e::es) X.env=(false,eval e X.env)::starEach es X.env:=by rfl) (hpl:(backTo pos (starEach es X.env)).any (·.1)=false:=by rfl) :
  PE (X.hnd a) (.Call (.Name x p) (e::es) [] pos) (tCall (sp a) [] E0 t):=by
 obtain ⟨f,fd,hm,hk,hb,F⟩:=C.to;intro pins s σ H Q I h;refine qBz (zEj I hg hm ?_ hdb);refine qCH (h₀:=X.base) I.ok.mod.kin hk (thn (ha pos pins s σ H _ I h) fun us s1 ⟨vs,H1,I1,r,q⟩=>⟨I1.kIn,?_⟩) he hpl;have q:sp a (vs++[]) H1 Q E0:=q;rw [qA0] at q;have hl:(us++[]).length=ps.length:=by rw [qA0,<-r.length];exact F.len _ _ _ _ _ q
 have hB:=hb s1 us I1.kIn hl;rw [qA0] at hB;refine qBy (qBV (F.run (X.hnd a).A X.stack s1 H1 ⟨us,[]⟩ us vs Q E0 a ⟨rfl,hr.dp,hr.un,hr.gd⟩ rfl I1.env0 hB r q) fun r s' hq=>?_)
 cases r with
 | error e=>exact hq.elim
 | ok fl =>
  cases fl with
  | ret u=>exact I1.after hq
  | next=>exact False.elim hq
  | brk=>exact False.elim hq
  | cont=>exact False.elim hq
def HotR (a:Addr) (H:Hp):Prop:=∃C dd,H a=some (excD a C dd)
theorem HotR.at {pins:List (Addr×Obj)} {σ:St} {s:Shared} (h:HotR a H) (I:Inv X pins σ H s) (hh:X.A.handled=some (.ref a)):HotH X.A s.heap:=by
 obtain ⟨C,dd,e⟩:=h;obtain ⟨⟨o,e1,e2,e3,vs,e4,e5⟩,_⟩:=(show zA0 _ _ _ _ _ (excD a C dd) from I.hok a _ e);exact ⟨a,o,vs,hh,e1,e4,e5⟩
structure TurnH (xa:Addr) (P:Program) (w:World) (K:PySem.W.Frag) (tg:Expr) (J:It) (fp:List Addr) (it:Addr) (tn:Nat->Heap->Prop):Prop where
 mem:it∈fp
 obj:∀i h,tn i h->∀b∈fp,∃o,h.get? b=some o/\∀v,o.data≠.cell v
 keep:∀i h h',tn i h->(∀b∈fp,∀o,h.get? b=some o->h'.get? b=some o)->tn i h'
 item:∀(X:Cx),X.prog=P->X.w=w->X.K=K->X.A.handled=some (.ref xa)->∀(i:Nat) (pins:List (Addr×Obj)) (s:Shared) (σ:St) (H:Hp) (E:Value->Shared->Prop),Inv X pins σ H s->(∀b∈fp,FpOk X pins H b)->tn i s.heap->J.go i H ->
  wpAny (model P w) X.A (pyNext (.ref it)) (fun r s1=>∃u,r=some u /\
   wpAny (model P w) X.A (letOwnedTupleGo tg (.ref it) u) (fun _ s2=>∃x H',Inv X pins σ H' s2/\RelV x u/\J.yld i H x H'/\tn (i+1) s2.heap/\∀b∈fp,H' b=none) E s1) E s
 done:∀(X:Cx),X.prog=P->X.w=w->X.K=K->X.A.handled=some (.ref xa)->∀(i:Nat) (pins:List (Addr×Obj)) (s:Shared) (σ:St) (H:Hp) (E:Value->Shared->Prop),Inv X pins σ H s->(∀b∈fp,FpOk X pins H b)->tn i s.heap->J.stop i H ->
  wpAny (model P w) X.A (pyNext (.ref it)) (fun r s1=>r=none/\Inv X pins σ H s1) E s
 self:∀(A:Around) (i:Nat) (s:Shared) (Q:Value->Shared->Prop) (E:Value->Shared->Prop),tn i s.heap->Q (.ref it) s->wpAny (model P w) A (pyIter (.ref it)) Q E s
def PIH (xa:Addr) (X:Cx) (tg iter:Expr) (wi:TI):Prop :=
 ∀(pins:List (Addr×Obj)) (s:Shared) (σ:St) (H:Hp) (R:It->Hp->Prop),Inv X pins σ H s->wi σ H R ->
  wpAny (model X.prog X.w) X.A (eval iter X.env) (fun v s1=>wpAny (model X.prog X.w) X.A (pyIter v) (fun itv s2=>∃(it:Addr) (fp:List Addr) (tn:Nat->Heap->Prop) (J:It) (H':Hp),itv= .ref it/\Inv X pins σ H' s2/\TurnH xa X.prog X.w X.K tg J fp it tn/\tn 0 s2.heap/\(∀b∈fp,FpOk X pins H' b)/\R J H') X.xe s1) X.xe s
def ItzH (K:PySem.W.Frag) (a b xa:Addr):It:=⟨(Itz K a b).go,(Itz K a b).yld,fun i H=>(Itz K a b).stop i H/\HotR xa H⟩
theorem turn_zipH {P:Program} {w:World} {K:PySem.W.Frag} {elts:List Expr} {kk:Nat} {tp:Pos} (a b z TI TO i1 i2:Addr) (D:Apart z TI TO i1 i2):TurnH xa P w K (.Tuple elts kk tp) (ItzH K a b xa) [z,TI,TO,i1,i2] z (ZipAt z TI TO i1 i2 a b) where
 mem:=by simp
 obj:=fun i h st c hc=>by
  obtain ⟨s1,s2,⟨p,q,s3⟩,⟨o4,s4,_,d4⟩,⟨o5,s5,_,d5⟩⟩:=st;have cs:c=z\/c=TI\/c=TO\/c=i1\/c=i2:=by simpa using hc
  rcases cs with e| e| e| e| e
  ·rw [e];exact ⟨_,s1,fun v y=>by cases y⟩
  ·rw [e];exact ⟨_,s2,fun v y=>by cases y⟩
  ·rw [e];exact ⟨_,s3,fun v y=>by cases y⟩
  ·rw [e];exact ⟨o4,s4,fun v y=>by rw [d4] at y;cases y⟩
  ·rw [e];exact ⟨o5,s5,fun v y=>by rw [d5] at y;cases y⟩
 keep:=fun i h h' ⟨s1,s2,⟨p,q,s3⟩,s4,s5⟩ k=>⟨k z (by simp) _ s1,k TI (by simp) _ s2,⟨p,q,k TO (by simp) _ s3⟩,s4.at fun o y=>k i1 (by simp) o y,s5.at fun o y=>k i2 (by simp) o y⟩
 item:=by
  intro X hP hw hK hc i pins s σ H E I hf st hg;subst hP hw hK;obtain ⟨xs,ys,x,y,hq1,hq2,hx,hy⟩:=hg;obtain ⟨its1,rv1,p1,_⟩:=I.list hq1;obtain ⟨its2,rv2,p2,_⟩:=I.list hq2;obtain ⟨u,hu,ru⟩:=rv1.get hx;obtain ⟨v,hv,rv⟩:=rv2.get hy;have D':=st.apart D p1.isList p2.isList;obtain ⟨s1,s2,⟨p,q,s3⟩,s4,s5⟩:=st;have hn:∀c∈[z,TI,TO,i1,i2],H c=none:=fun c hc=>(hf c hc).1;refine wpAny_pyNext_zip_item D' s1 s2 s3 s4 s5 p1.isList p2.isList (x:=u) (y:=v) (by simpa using hu) (by simpa using hv) fun k a1 a2 a3 a4 a5 a6 a7=>?_;refine ⟨_,rfl,wpAny_letOwnedTupleGo_zip a1 fun k2 z2 b2=>?_⟩;have b2:Heap.SameBut z k k2:=b2;have zsz:z<s.heap.objs.size:=qAI s1
  have lts:∀c∈[z,TI,TO,i1,i2],c≠s.heap.objs.size:=fun c hc=>by
   have cs:c=z\/c=TI\/c=TO\/c=i1\/c=i2:=by simpa using hc
   rcases cs with e| e| e| e| e
   ·rw [e];exact qAN zsz
   ·rw [e];exact qAN (qAI s2)
   ·rw [e];exact qAN (qAI s3)
   ·obtain ⟨o,g,_⟩:=s4;rw [e];exact qAN (qAI g)
   ·obtain ⟨o,g,_⟩:=s5;rw [e];exact qAN (qAI g)
  have t2:k2.get? s.heap.objs.size=some {cls:=.type "tuple",data:=.seq #[u,v]}:=b2.extBut _ _ (qAz zsz) a5;have on:∀c o,c∉[z,TI,TO,i1,i2]->s.heap.get? c=some o->k2.get? c=some o:=fun c o nc g=>b2.extBut c o (fun e=>nc (by simp [e])) (a7 c o (fun e=>nc (by simp [e])) (fun e=>nc (by simp [e])) (fun e=>nc (by simp [e])) (fun e=>nc (by simp [e])) g);have new:zA0 X.prog X.w (upd H s.heap.objs.size (.tup [x,y])) k2 s.heap.objs.size (.tup [x,y]):=⟨by show (2:Nat)<=sizeLine;decide,[u,v],.cons ru (.cons rv .nil),⟨_,t2,rfl,_,rfl⟩⟩
  have I2:Inv X pins σ (upd H s.heap.objs.size (.tup [x,y])) {s with heap:=k2}:=I.call' (ch:=[z,TI,TO,i1,i2]) rfl (un_laid on (qAG _) (I.hok.fresh (qAG _))) (hok_laid I.hok on hn (qAG _) new) I.bare fun c hc=>by
   obtain ⟨_,f1,_,f3,f4,f5⟩:=hf c hc;exact ⟨f3,f1,f4,f5⟩
  refine ⟨.ref s.heap.objs.size,_,I2,rfl,⟨_,x,y,rfl,I.hok.fresh (qAG _),rfl,fun zs hz=>by rw [I.list_inj hz hq1];exact hx,fun zs hz=>by rw [I.list_inj hz hq2];exact hy⟩,⟨z2,b2.extBut _ _ D.TIz (a7 _ _ D.TIz D.TITO D.TIi1 D.TIi2 s2),⟨u,v,b2.extBut _ _ D.TOz a2⟩,a3.extBut b2.extBut D.i1z,a4.extBut b2.extBut D.i2z⟩,fun c hc=>?_⟩;rw [upd_ne (lts c hc)];exact hn c hc
 done:=by
  intro X hP hw hK hc i pins s σ H E I hf st hg;subst hP hw hK;obtain ⟨⟨xs,ys,hq1,hq2,hx⟩,ht⟩:=hg;obtain ⟨its1,rv1,p1,_⟩:=I.list hq1;obtain ⟨its2,rv2,p2,_⟩:=I.list hq2;have l1:=rv1.length;have l2:=rv2.length;have D':=st.apart D p1.isList p2.isList;obtain ⟨s1,s2,⟨p,q,s3⟩,s4,s5⟩:=st;have hn:∀c∈[z,TI,TO,i1,i2],H c=none:=fun c hc=>(hf c hc).1
  have nh:∀c∈[z,TI,TO,i1,i2],X.A.handled≠some (.ref c):=fun c m e=>by
   rw [hc] at e
   cases e
   obtain ⟨_,_,y⟩:=ht;rw [hn _ m] at y
   cases y
  refine zG2 (ht.at I hc) (nh z (by simp)) (nh TO (by simp)) (nh i1 (by simp)) (nh i2 (by simp)) D' s1 s2 s3 s4 s5 p1.isList p2.isList ?_ fun h' eb=>⟨rfl,?_⟩
  ·rcases hx with z| z
   ·exact .inl (by simp;lia)
   ·exact .inr (by simp;lia)
  ·have on:∀c o,c∉[z,TI,TO,i1,i2]->s.heap.get? c=some o->h'.get? c=some o:=fun c o nc g=>eb c o (fun e=>nc (by simp [e])) (fun e=>nc (by simp [e])) (fun e=>nc (by simp [e])) (fun e=>nc (by simp [e])) g
   exact I.call' (s':={s with heap:=h'}) (ch:=[z,TI,TO,i1,i2]) rfl (un_but on) (hok_but I.hok on hn) I.bare fun c hc=>by
    obtain ⟨_,f1,_,f3,f4,f5⟩:=hf c hc;exact ⟨f3,f1,f4,f5⟩
 self:=fun _ _ _ _ _ ⟨s1,_⟩ h=>wpAny_pyIter_zip s1 h
theorem block_loopH {Y:Cx} {tg:Expr} {ifs:List Expr} {J:It} {fp:List Addr} {it D:Addr} {tn:Nat->Heap->Prop} {P:List (Addr×Obj)} {W:Nat->Nat->List V->St->Hp->Prop} {m0:Nat}
  {R:Result->Shared->Prop} {QD:Hp->Prop} {s4:Shared} {τ0:St} {H4:Hp}
  (hc:Y.A.handled=some (.ref xa)) (hx:∀e s,Y.xe e s->False) (hg:PG Y tg g) (ht:PTs Y ifs tt) (he:PE Y elt te) (T:TurnH xa Y.prog Y.w Y.K tg J fp it tn)
  (stat:∀{H':Hp},(∀b∈fp,H' b=none)->∀b∈fp,FpOk Y P H' b)
  (turn:∀i m ys τ H2,W i m ys τ H2->(J.stop i H2/\QD H2)\/(J.go i H2/\∃N:List V->St->Hp->Prop,(∀ys' τ' H',N ys' τ' H'->∃m',m'<m/\W (i+1) m' ys' τ' H')/\∀x H3,J.yld i H2 x H3->g x τ H3 fun τ' H4=>tt τ' H4 fun b H5 =>
   if b=true then te τ' H5 fun v H6=>H6 D=some (.lst ys)/\ys.length<sizeLine/\N (ys++[v]) τ' (upd H6 D (.lst (ys++[v])))
   else N ys τ' H5))
  (fin:∀τ H' s',Inv Y P τ H' s'->QD H'->R (.ok .next) s')
  (I0:Inv Y P τ0 H4 s4) (t0:tn 0 s4.heap) (n0:∀b∈fp,H4 b=none) (w0:W 0 m0 [] τ0 H4) :
  codeAny (model Y.prog Y.w) Y.A (.compLoop (.ListComp elt [⟨tg,iter,ifs,0⟩] scope pos) 0 (.ref it) (.ref D) Y.env) R s4:=by
 have nx:∀{α:Type} {t:Sem α} {Q:α->Shared->Prop} {s:Shared},wpAny (model Y.prog Y.w) Y.A t Q Y.xe s->wpAny (model Y.prog Y.w) Y.A t Q (fun _ _=>False) s:=fun h=>qAt h (fun _ _ q=>q) hx;refine comp_loop (fun n s'=>∃i ys τ H',Inv Y P τ H' s'/\tn i s'.heap/\(∀b∈fp,H' b=none)/\W i n ys τ H') ?_ m0 ⟨0,[],τ0,H4,I0,t0,n0,w0⟩;rintro n s5 ⟨i,ys,τ,H5,I5,st5,fr5,w5⟩;rcases turn i n ys τ H5 w5 with ⟨stop,q⟩| ⟨go,N,hN,step⟩
 ·refine thn (T.done Y rfl rfl rfl hc i P s5 τ H5 _ I5 (stat fr5) st5 stop) fun r s6 ⟨hr,I6⟩=>?_;subst hr;exact fin τ H5 s6 I6 q
 ·refine thn (T.item Y rfl rfl rfl hc i P s5 τ H5 _ I5 (stat fr5) st5 go) fun r s6 ⟨u,hr,h6⟩=>?_;subst hr;refine thn h6 fun _ s7 ⟨x,H7,I7,r7,y7,st7,fr7⟩=>?_;have I7':=I7.pinned (stat fr7) (T.obj _ _ st7);refine nx (thn (hg _ s7 τ H7 x u _ I7' r7 (step x H7 y7)) fun _ s8 ⟨τ8,H8,I8,q8⟩=>?_);refine nx (thn (ht _ s8 τ8 H8 _ I8 q8) fun ok s9 ⟨H9,I9,q9⟩=>?_)
  have again:∀{ys':List V} {H':Hp} {s':Shared},Inv Y (P++zHi fp s7.heap) τ8 H' s'->(∃m',m'<n/\W (i+1) m' ys' τ8 H')->∃m,m<n/\∃i ys τ H',Inv Y P τ H' s'/\tn i s'.heap/\(∀b∈fp,H' b=none)/\W i m ys τ H':=fun {ys' H' s'} I' ⟨m',hm,w'⟩=>by
   refine ⟨m',hm,i+1,ys',τ8,H',I'.unpinned,T.keep _ _ _ st7 fun b hb o e=>(I'.pin (b,o) (qAl _ (qAl _ (zBz hb e)))).1,fun b hb=>?_,w'⟩;obtain ⟨o,e,d⟩:=T.obj _ _ st7 b hb;exact (I'.pin (b,o) (qAl _ (qAl _ (zBz hb e)))).2.1
  cases ok with
  | false =>
   rw [qAB qAd] at q9 ⊢;exact again I9 (hN _ _ _ q9)
  | true =>
   rw [qAC rfl] at q9 ⊢;refine nx (thn (he _ s9 τ8 H9 _ I9 q9) fun y s10 ⟨v,H10,I10,r10,hD,hz,w10⟩=>?_);refine nx (thn (zDu (X:=Y) _ s10 τ8 H10 (.ref D) [v] (.ref D) [y] (fun _ H'=>H'=upd H10 D (.lst (ys++[v]))) I10 rfl (.cons r10 .nil) ⟨D,ys,v,rfl,rfl,hD,hz,rfl⟩) fun _ s11 ⟨z,H11,I11,_,e11⟩=>?_);subst e11;exact again I11 (hN _ _ _ w10)
theorem run_compH {tg:Expr} {ifs:List Expr} {pos p1:Pos} {N:List Str} {ix:List (Option Nat)} {wi:TI} {pins:List (Addr×Obj)} {s:Shared} {σ:St} {Q:VK} {use:Option (Value->Sem Unit)}
  {Z:Value->Shared->Prop}
  (hc:X.A.handled=some (.ref xa)) (B:BlkSc X scope) (Dr:Draws X scope N ix) (hi:PIH xa X tg iter wi)
  (hg:∀C s₀ H₀ ex,PG (X.block scope C s₀ H₀ ex N) tg g) (ht:∀C s₀ H₀ ex,PTs (X.block scope C s₀ H₀ ex N) ifs tt) (he:∀C s₀ H₀ ex,PE (X.block scope C s₀ H₀ ex N) elt te)
  (hs:∀x,foldedSetIterable iter X.env x=pure x)
  (I:Inv X pins σ H s) (h:tComp wi ix g tt te σ H Q)
  (fin:∀(D C:Addr) (H':Hp) (s':Shared) (m:Str->Option Value),Inv X pins σ H' s'->Q (.ref D) H'->s'.heap.Ns C m->(∀h',Heap.SameBut C s'.heap h'->Inv X pins σ H' {s' with heap:=h'})->C≠X.env.locals->(∀x c,X.env.cells.lookup x=some c->c≠C)->H' C=none ->
   (∀p∈X.pn++pins,p.1≠C)->X.s₀.heap.objs.size<=C->compPost (model X.prog X.w) X.A X.xe use Z (.ref D) C (.ok .next) s') :
  wpAny (model X.prog X.w) X.A (comprehension (.ListComp elt [⟨tg,iter,ifs,0⟩] scope pos) scope X.env p1 (newList []) false (eval iter X.env) use) Z X.xe s:=by
 have hfree:∀x∈scope.names,x.2= .free->∃c,X.env.cells.lookup x.1=some c:=fun x hx e=>I.ok.has _ (B.free x hx e);refine wpAny_comprehension_free (use:=use) rfl hs (zE6 hfree) B.kind B.locs ?_;refine thn (hi pins s σ H _ I h) fun v s1 h1=>thn h1 fun itv s2 h2=>?_;obtain ⟨it,fp,tn,J,H2,e,I2,T,st2,f2,R⟩:=h2;subst e;have hDf:H2 s2.heap.objs.size=none:=I2.hok.fresh (qAG _);obtain ⟨W,⟨m0,w0⟩,turn⟩:=R _ hDf;refine qA5 ?_ (by show (0:Nat)<=sizeLine;exact qAf _);have I3:Inv X pins σ (upd H2 s2.heap.objs.size (.lst [])) {s2 with heap:=s2.heap.push {cls:=.type "list",data:=.seq ([]:List Value).toArray}}:=I2.lnew (t':=s2.toks) (ys:=[]) (its:=[]) .nil (qAf _);generalize hD:s2.heap.objs.size=D at *
 have fpo:∀b∈fp,∃o,s2.heap.get? b=some o:=fun b hb=>let ⟨o,q,_⟩:=T.obj _ _ st2 b hb;⟨o,q⟩
 have fpD:∀b∈fp,b≠D:=fun b hb=>by
  obtain ⟨o,q⟩:=fpo b hb;rw [<-hD];exact qAN (qAI q)
 have f3:∀b∈fp,FpOk X pins (upd H2 D (.lst [])) b:=fun b hb=>⟨by rw [upd_ne (fpD b hb)];exact (f2 b hb).1,(f2 b hb).2⟩;generalize hs3:({s2 with heap:=s2.heap.push {cls:=.type "list",data:=.seq ([]:List Value).toArray}}:Shared)=s3 at I3 ⊢;have k23:∀b o,s2.heap.get? b=some o->s3.heap.get? b=some o:=fun b o q=>by rw [<-hs3];exact qAJ _ q
 have fpo3:∀b∈fp,∃o,s3.heap.get? b=some o:=fun b hb=>let ⟨o,q⟩:=fpo b hb;⟨o,k23 b o q⟩;have st3:tn 0 s3.heap:=T.keep _ _ _ st2 fun b hb o q=>k23 b o q;refine zCf ?_;have k34:∀b o,s3.heap.get? b=some o->(pushCells (s3.heap.push {cls:=.type "dict",data:=.dict #[]}) scope.names).get? b=some o:=fun b o q=>qCl _ _ b o (qAJ _ q);have hns4:(pushCells (s3.heap.push {cls:=.type "dict",data:=.dict #[]}) scope.names).Ns s3.heap.objs.size (fun _=>none):=(Heap.Ns.new s3.heap (.type "dict")).keeps (qCl _ _)
 have hcl4:∀x c,(cellsFrom (s3.heap.objs.size+1) scope.names (clOf X.env scope.names [])).lookup x=some c->∃v,(pushCells (s3.heap.push {cls:=.type "dict",data:=.dict #[]}) scope.names).IsCell c v:=fun x c e=>by
  refine zBu (h:=s3.heap.push {cls:=.type "dict",data:=.dict #[]}) (acc:=clOf X.env scope.names []) (fun y d hy=>?_) (by rw [qBG];exact e);obtain ⟨v,o,ho,hd⟩:=I3.cell y d (zCq (fun y d z=>by simp at z) hy);exact ⟨v,o,qAJ _ ho,hd⟩
 have IB:=I3.blockStart (tk:=s3.toks) B Dr f3 fpo3 hns4 k34 hcl4;generalize hh4:pushCells (s3.heap.push {cls:=.type "dict",data:=.dict #[]}) scope.names=h4 at *
 generalize hC:s3.heap.objs.size=C at *
 have hCX:X.s₀.heap.objs.size<=C:=by rw [<-hC];exact I3.sz
 have CL:C≠X.env.locals:=by rw [<-hC];exact qAz I3.lt
 have Cc:∀x c,X.env.cells.lookup x=some c->c≠C:=fun x c q=>by
  obtain ⟨v,o,ho,_⟩:=I3.cell x c q;rw [<-hC];exact qAN (qAI ho)
 have Cp:∀p∈X.pn++pins,p.1≠C:=fun p hp=>by
  rw [<-hC];exact qAN (qAI (I3.pin p hp).1)
 have fpC:∀b∈fp,b≠C:=fun b hb=>by
  obtain ⟨o,q⟩:=fpo3 b hb;rw [<-hC];exact qAN (qAI q)
 have stat:∀{H':Hp},(∀b∈fp,H' b=none)->∀b∈fp,FpOk (X.block scope C s3 (upd H2 D (.lst [])) fp N) (X.pn++pins) H' b:=fun {H'} hn b hb=>by
  obtain ⟨_,q1,q2,q3,q4,q5⟩:=f2 b hb;exact ⟨hn b hb,fpC b hb,I3.nostk q1 q2,.inl hb,fun x c e=>(zBi e).elim (fun z=>q4 x c (zCq (fun y d z=>by simp at z) z)) (fun z=>by obtain ⟨o,q⟩:=fpo3 b hb;have:=qAI q;rw [hC] at this;exact qAz (qAi (qBh this) z.1)),fun p hp=>q5 p (by simpa [Cx.block] using hp)⟩
 have st4:tn 0 h4:=T.keep _ _ _ st3 fun b hb o q=>k34 b o q;have n4:∀b∈fp,(upd H2 D (.lst [])) b=none:=fun b hb=>(f3 b hb).1
 have loop:=block_loopH (Y:=X.block scope C s3 (upd H2 D (.lst [])) fp N) (iter:=iter) (pos:=pos) (scope:=scope) (D:=D) (R:=compPost (model X.prog X.w) X.A X.xe use Z (.ref D) C) hc (fun _ _ z=>z) (hg C s3 _ fp) (ht C s3 _ fp) (he C s3 _ fp) T stat turn
  (fun τ H' s' I' q=>by
   have I5:Inv X pins σ H' s':=I3.call' (ch:=fp) I'.os I'.base I'.hok I'.bare fun b hb=>by
    obtain ⟨_,q1,q2,q3,q4,q5⟩:=f2 b hb;exact ⟨q3,q1,q4,q5⟩
   obtain ⟨m,hn,_⟩:=I'.loc;have hC0:H' C=none:=I'.free;exact fin D C H' s' m I5 q hn (fun h'' hs''=>I5.turned (t':=s'.toks) (fun b o hb e=>hs''.extBut b o hb e) hC0 CL (.inr hCX) Cc Cp) CL Cc hC0 Cp hCX) IB st4 n4 w0
 exact codeAny_compStart_list loop (T.self _ 0 _ _ _ st4 loop)
theorem pe_compH {xa:Addr} {tg:Expr} {ifs:List Expr} {N:List Str} {ix:List (Option Nat)} {wi:TI} (hc:X.A.handled=some (.ref xa)) (B:BlkSc X scope) (Dr:Draws X scope N ix) (hi:PIH xa X tg iter wi)
  (hg:∀C s₀ H₀ ex,PG (X.block scope C s₀ H₀ ex N) tg g) (ht:∀C s₀ H₀ ex,PTs (X.block scope C s₀ H₀ ex N) ifs tt) (he:∀C s₀ H₀ ex,PE (X.block scope C s₀ H₀ ex N) elt te)
  (hs:∀x,foldedSetIterable iter X.env x=pure x:=by intro _;rfl):PE X (.ListComp elt [⟨tg,iter,ifs,0⟩] scope pos) (tComp wi ix g tt te):=by
 intro pins s σ H Q I h;rw [eval_ListComp];exact run_compH (use:=none) hc B Dr hi hg ht he hs I h fun D C H' s' m I' q hn k _ _ _ _ _=>⟨m,hn,fun h' hs'=>⟨.ref D,H',k h' hs',rfl,q⟩⟩
section
variable {X:Cx} {elts:List Expr} {kk:Nat} {tp:Pos}
def iZipH (xa:Addr) (K:PySem.W.Frag) (ta:TA):TI:=fun σ H R=>ta σ H fun vs H1=>∃a b,vs=[.ref a,.ref b]/\(∃xs,SqL K H1 a xs)/\(∃ys,SqL K H1 b ys)/\R (ItzH K a b xa) H1
theorem pi_zipH {xa:Addr} {a b:Expr} {ta:TA} {p:Pos} (hg:Gl X "zip") (hm:X.mg "zip" = none) (ha:PA X [a,b] ta) (he:starEach [a,b] X.env=(false,eval a X.env)::starEach [b] X.env:=by rfl) (hpl:(backTo pos (starEach [b] X.env)).any (·.1)=false:=by rfl):PIH xa X (.Tuple elts kk tp) (.Call (.Name "zip" p) [a,b] [] pos) (iZipH xa X.K ta):=by
 intro pins s σ H R I h;refine Call_ (zHn I hg hm boot_zip (qCc (thn (ha pos pins s σ H _ I h) fun us s1 ⟨vs,H1,I1,r1,q1⟩=>?_) he hpl));obtain ⟨a,b,e,⟨xs,hq1⟩,⟨ys,hq2⟩,q⟩:=q1;subst e
 obtain ⟨u,v,rfl,ru,rv⟩:∃u v,us=[u,v]/\RelV (.ref a) u/\RelV (.ref b) v:=by
  cases r1 with
  | cons ra r2=>cases r2 with
   | cons rb r3=>cases r3;exact ⟨_,_,rfl,ra,rb⟩
 cases ru
 cases rv
 obtain ⟨its1,r1,p1,_⟩:=I1.list hq1;obtain ⟨its2,r2,p2,_⟩:=I1.list hq2;refine call_zip_2 p1.isList p2.isList fun h' e1 e2 e3 e4 e5 e6 e7=>wpAny_pyIter_zip e1 ?_;refine ⟨s1.heap.objs.size+4,[s1.heap.objs.size+4,s1.heap.objs.size+2,s1.heap.objs.size+3,s1.heap.objs.size,s1.heap.objs.size+1],_,_,H1,rfl,I1.kept (t':=s1.toks) e7,turn_zipH a b (s1.heap.objs.size+4) (s1.heap.objs.size+2) (s1.heap.objs.size+3) s1.heap.objs.size (s1.heap.objs.size+1) (apart_at _),⟨e1,e2,⟨_,_,e3⟩,e4,e5⟩,fun c hc=>?_,q⟩;have cs:c=s1.heap.objs.size+4\/c=s1.heap.objs.size+2\/c=s1.heap.objs.size+3\/c=s1.heap.objs.size\/c=s1.heap.objs.size+1:=by simpa using hc
 have ge:s1.heap.objs.size<=c:=by
  rcases cs with e| e| e| e| e<;>(rw [e];lia)
 exact I1.fpOk ge (I1.hok.fresh ge)
def gTupH (xa:Addr) (K:PySem.W.Frag) (n:Nat) (t:TGs):TG:=fun v σ H Q=>∃a xs,v= .ref a/\SqT K H a xs/\xs.length=n/\HotR xa H/\t xs σ H Q
theorem pg_tupH {K:PySem.W.Frag} {xa:Addr} {es:List Expr} {k:Nat} {t:TGs} {n:Nat} {pos:Pos} (hc:X.A.handled=some (.ref xa)) (h:PGs X es t) (hK:X.K=K:=by rfl)
  (hn:(assignEach es X.env).length=n:=by rfl) (hst:(assignEach es X.env).findIdx? (·.1)=none:=by rfl):PG X (.Tuple es k pos) (gTupH xa K n t):=by
 subst hK;intro pins s σ H v u Q I r hw;obtain ⟨a,xs,e1,hq,hl,ht,hw⟩:=hw;subst e1
 cases r
 obtain ⟨its,rv,hp,hz⟩:=I.tuple hq;refine zFy (ht.at I hc) hp (by simp [hn,<-hl,rv.length]) hst fun h' hx=>?_;have I1:Inv X pins σ H {s with heap:=h'}:=I.kept (t':=s.toks) fun b o e=>hx b o (qAN (qAI e)) e;exact h pins _ σ H xs _ Q I1 (by simpa using rv) hw
end
theorem comp_zipH {K:PySem.W.Frag} {b:Addr} {xs ys:List V} {ix:List (Option Nat)} {QD:Hp->Prop} {σ:St} {H1:Hp} {D:Addr} (hl:ys.length=xs.length) (Pv:Nat->List V->St->Hp->Prop) (h0:Pv 0 [] (zCw σ ix) (upd H1 D (.lst [])))
  (hJ:∀i zs τ H,Pv i zs τ H->SqL K H a xs/\SqL K H b ys/\HotR xa H)
  (hs:∀i x y t zs τ H,xs[i]?=some x->ys[i]?=some y->Pv i zs τ H->H t=none->g (.ref t) τ (upd H t (.tup [x,y])) fun τ' H4=>tt τ' H4 fun c H5=>if c=true then te τ' H5 fun v H6=>H6 D=some (.lst zs)/\zs.length<sizeLine/\Pv (i+1) (zs++[v]) τ' (upd H6 D (.lst (zs++[v]))) else Pv (i+1) zs τ' H5)
  (hd:∀zs τ H,Pv xs.length zs τ H->QD H) :
  ∃W:Nat->Nat->List V->St->Hp->Prop,(∃m,W 0 m [] (zCw σ ix) (upd H1 D (.lst [])))/\∀i m zs τ H2,W i m zs τ H2 ->
   ((ItzH K a b xa).stop i H2/\QD H2)\/((ItzH K a b xa).go i H2/\∃N:List V->St->Hp->Prop,(∀zs' τ' H',N zs' τ' H'->∃m',m'<m/\W (i+1) m' zs' τ' H')/\∀x H3,(ItzH K a b xa).yld i H2 x H3->g x τ H3 fun τ' H4=>tt τ' H4 fun c H5 =>
    if c=true then te τ' H5 fun v H6=>H6 D=some (.lst zs)/\zs.length<sizeLine/\N (zs++[v]) τ' (upd H6 D (.lst (zs++[v])))
    else N zs τ' H5):=by
 refine ⟨fun i m zs τ H=>m=xs.length - i/\i<=xs.length/\Pv i zs τ H,⟨xs.length,by simp,qAf _,h0⟩,?_⟩;rintro i m zs τ H ⟨rfl,hi,p⟩;obtain ⟨q1,q2,q3⟩:=hJ i zs τ H p
 by_cases hlt:i<xs.length
 ·refine .inr ⟨⟨xs,ys,xs[i],ys[i],q1,q2,by simp [hlt],by simp [hl,hlt]⟩,Pv (i+1),fun zs' τ' H' p'=>⟨xs.length - (i+1),by lia,rfl,hlt,p'⟩,fun v H' y=>?_⟩;obtain ⟨t,x,y,rfl,hn,rfl,y1,y2⟩:=y;exact hs i x y t zs τ H (y1 xs q1) (y2 ys q2) p hn
 ·have e:i=xs.length:=by lia
  subst e;exact .inl ⟨⟨⟨xs,ys,q1,q2,.inl (qAG _)⟩,q3⟩,hd zs τ H p⟩
end L2
namespace My
open PySem L2
variable {P:Program}{w:World}{K:PySem.W.Frag}{mg:Str->Option Value}{base:Heap}{C:Addr}
variable {H:Hp}{v:V}{f Cb Ct Cm:Addr}{fd:FuncData}{X:Cx}
theorem _root_.L2.ThingOk.kp0 {H':Hp} (h:ThingOk H v) (k:Kp [] H H'):ThingOk H' v:=by
 rcases h with h| h| h| h| ⟨a,rfl,h⟩
 ·exact .inl h
 ·exact .inr (.inl h)
 ·exact .inr (.inr (.inl h))
 ·exact .inr (.inr (.inr (.inl h)))
 ·refine .inr (.inr (.inr (.inr ⟨a,rfl,?_⟩)));rcases h with ⟨xs,h⟩| ⟨xs,h⟩| ⟨xs,h⟩
  ·exact .inl ⟨xs,k a _ h (by simp)⟩
  ·exact .inr (.inl ⟨xs,k a _ h (by simp)⟩)
  ·exact .inr (.inr ⟨xs,k a _ h (by simp)⟩)
section
variable {K:PySem.W.Frag}
theorem kit_ni:PySem.W.kitOne K (.type "NoneType") (.type "int")=some false:=by rfl
theorem kit_bi:PySem.W.kitOne K (.type "bool") (.type "int")=some true:=by rfl
theorem kit_si:PySem.W.kitOne K (.type "str") (.type "int")=some false:=by rfl
theorem kit_li:PySem.W.kitOne K (.type "list") (.type "int")=some false:=by rfl
theorem kit_ti:PySem.W.kitOne K (.type "tuple") (.type "int")=some false:=by rfl
theorem kit_di:PySem.W.kitOne K (.type "dict") (.type "int")=some false:=by rfl
end
def zF6 (v:V):Bool:=match v with
 | .int _=>true
 | _=>false
theorem zF5 (h:zF6 v=true):∃i,v= .int i:=by
 cases v with
 | int i=>exact ⟨i,rfl⟩
 | _=>cases h
theorem _root_.L2.ThingOk.whole {K:PySem.W.Frag} (h:ThingOk H v):(∃t,TyOf K H v t/\PySem.W.kitOne K t (.type "int")=some false/\zF6 v=false)\/(∃b,v= .bl b)\/∃i,v= .int i:=by
 rcases h with ⟨x,rfl⟩| rfl| h| h| ⟨a,rfl,h⟩
 ·exact .inl ⟨_,TyOf.str x,kit_si,rfl⟩
 ·exact .inl ⟨_,TyOf.non,kit_ni,rfl⟩
 ·exact .inr (.inl h)
 ·exact .inr (.inr h)
 ·rcases h with ⟨xs,h⟩| ⟨xs,h⟩| ⟨xs,h⟩
  ·exact .inl ⟨_,TyOf.lst h,kit_li,rfl⟩
  ·exact .inl ⟨_,TyOf.tup h,kit_ti,rfl⟩
  ·exact .inl ⟨_,TyOf.dK h,kit_di,rfl⟩
def zCb (v:V):Bool:=match v with
 | .int i=>decide (1<=i)
 | _=>false
def zD9 (v:V):Bool:=match v with
 | .int i=>decide (0<=i/\i<=40)
 | _=>false
structure XC (K:PySem.W.Frag) (mg:Str->Option Value) (x:Str) (C:Addr):Prop where
 mgC:mg x=some (.ref C)
 ok:PySem.W.excIn K C bmVE "ValueError.__new__" = true
section
theorem _root_.L2.FnOk.lift {k:Nat} {ps:List Str} {sp:Sp} (F:FnOk P w K mg base CX0 k f fd ps sp):FnOk P w K mg base (CX1 P w) k f fd ps sp :=
 ⟨F.len,fun A outer s H args us vs Q E hr e0 hb r h=>qBV (F.run A outer s H args us vs Q E hr e0 hb r h) fun rr s' hq=>by
  cases rr with
  | error e=>exact hq.elim
  | ok fl=>cases fl<;>exact hq⟩
theorem _root_.L2.FnOk.both {CX:CXT} {k:Nat} {ps:List Str} {sp1 sp2 sp:Sp} (F1:FnOk P w K mg base CX k f fd ps sp1) (F2:FnOk P w K mg base CX k f fd ps sp2) (h:∀vs H Q E,sp vs H Q E->sp1 vs H Q E\/sp2 vs H Q E):FnOk P w K mg base CX k f fd ps sp :=
 ⟨fun vs H Q E q=>(h vs H Q E q).elim (F1.len vs H Q E) (F2.len vs H Q E),fun A outer s H args us vs Q E hr e0 hb r q=>(h vs H Q E q).elim (F1.run A outer s H args us vs Q E hr e0 hb r) (F2.run A outer s H args us vs Q E hr e0 hb r)⟩
def zC3:Sp:=fun vs H Q _=>∃v,vs=[v]/\ThingOk H v/\Q (.bl (zF6 v)) H
theorem ok_wholeT (F:Fun K "is_whole" "is_whole" zD0 f fd) (T:Txt K mg):FnOk P w K mg base CX0 1 f fd ["thing"] zC3:=by
 refine F.ok zGd (fun vs H Q E h=>?_) (fun cdv A outer s H vs Q E hr h=>?_)
 ·obtain ⟨v,rfl,_⟩:=h;rfl
 ·obtain ⟨v,rfl,hv,k⟩:=h;refine ⟨_,(zAd (zAs (pe_and (zAk zCr (by rfl) T.z_isinstance zAi (zAa (pv 0) (zAa (zDd (by rfl) T.z_int zFb (v:=.ty "int") rfl) zAb))) (zHj (pe_not (zAk zCr (by rfl) T.z_isinstance zAi (zAa (pv 0) (zAa (zDd (by rfl) T.z_bool bo_bool (v:=.ty "bool") rfl) zAb)))))))),?_⟩;rcases hv.whole (K:=K) with ⟨t,ty,kt,e⟩| ⟨b,rfl⟩| ⟨i,rfl⟩
  ·refine ⟨_,rfl,_,_,_,_,rfl,ty,kt,_,rfl,iteF ?_⟩;rw [e] at k;exact k
  ·refine ⟨_,rfl,_,_,_,_,rfl,TyOf.bl b,kit_bi,_,rfl,iteT ?_⟩;exact ⟨_,rfl,_,_,_,_,rfl,TyOf.bl b,zDf,_,rfl,k⟩
  ·refine ⟨_,rfl,_,_,_,_,rfl,TyOf.int i,zDf,_,rfl,iteT ?_⟩;exact ⟨_,rfl,_,_,_,_,rfl,TyOf.int i,kit_ib,_,rfl,k⟩
def spBenchX (C:Addr):Sp:=fun vs H _ E=>∃v,vs=[v]/\ThingOk H v/\zCb v=false/\E (.ref C) none H
theorem ok_benchX (F:Fun K "check_benches" "check_benches" zA9 f fd) (U:XC K mg "NoBench" Cb) (C_is_whole:Cal P w K mg base "is_whole" 1 ["thing"] zC3):FnOk P w K mg base (CX1 P w) 2 f fd ["benches"] (spBenchX Cb):=by
 refine Fun.okX F zDj (fun vs H Q E h=>?_) (fun cdv A outer s H vs Q E hr h=>?_)
 ·obtain ⟨v,rfl,_⟩:=h;rfl
 ·obtain ⟨v,rfl,hv,kb,k⟩:=h
  refine ⟨_,(zAd (zCe (PW.pt (zG3 (zDk (zCm (zAg C_is_whole hr rfl (zAa (pv 0) zAb)))) (zEv (zAy op_lt (pv 0) zAf (zA7 _)))))
    (zAd (zH9 raise1 rfl rfl U.mgC U.ok (zAa zBc zAb)))
    zAz)),?_⟩
  refine ⟨_,rfl,v,rfl,hv,?_⟩
  cases hb:zF6 v with
  | false=>exact ⟨_,rfl,iteT ⟨by show (1:Nat)<=sizeLine;decide,k⟩⟩
  | true =>
   obtain ⟨i,rfl⟩:=zF5 hb;refine ⟨_,rfl,iteF ?_⟩;refine ⟨_,rfl,_,_,rfl,rfl,_,rfl,?_⟩;have:=qCW (show decide (1<=i)=false from kb);rw [qAR (show i<1 by lia)];exact iteT ⟨by show (1:Nat)<=sizeLine;decide,k⟩
def spTurnX (C:Addr):Sp:=fun vs H _ E=>∃v,vs=[v]/\ThingOk H v/\zD9 v=false/\E (.ref C) none H
theorem ok_turnX (F:Fun K "check_turns" "check_turns" zBl f fd) (T:Txt K mg) (U:XC K mg "NoTurns" Ct) (C_is_whole:Cal P w K mg base "is_whole" 1 ["thing"] zC3):FnOk P w K mg base (CX1 P w) 2 f fd ["turns"] (spTurnX Ct):=by
 refine Fun.okX F zD6 (fun vs H Q E h=>?_) (fun cdv A outer s H vs Q E hr h=>?_)
 ·obtain ⟨v,rfl,_⟩:=h;rfl
 ·obtain ⟨v,rfl,hv,kb,k⟩:=h;obtain ⟨tM,hM⟩:=T.c_MOST_TURNS
  refine ⟨_,(zAd (zCe (PW.pt (zG3 (zDk (zCm (zAg C_is_whole hr rfl (zAa (pv 0) zAb)))) (zEv (zDk (zH7 op_le op_le zAf (pv 0) (zAx rfl hM (v:=.int 40) ⟨_,rfl⟩))))))
    (zAd (zH9 raise1 rfl rfl U.mgC U.ok (zAa zBc zAb)))
    zAz)),?_⟩
  refine ⟨_,rfl,v,rfl,hv,?_⟩
  cases hb:zF6 v with
  | false=>exact ⟨_,rfl,iteT ⟨by show (1:Nat)<=sizeLine;decide,k⟩⟩
  | true =>
   obtain ⟨i,rfl⟩:=zF5 hb;refine ⟨_,rfl,iteF ?_⟩;refine ⟨_,rfl,_,_,rfl,rfl,_,rfl,?_⟩;have kb:=qCW (show decide (0<=i/\i<=40)=false from kb)
   by_cases c:0<=i
   ·rw [qAR c];refine iteT ⟨_,_,rfl,rfl,_,rfl,?_⟩;rw [qAT (fun z=>kb ⟨c,z⟩)];exact iteT ⟨by show (1:Nat)<=sizeLine;decide,k⟩
   ·rw [qAT c];exact iteF ⟨_,rfl,iteT ⟨by show (1:Nat)<=sizeLine;decide,k⟩⟩
def spFewX (C Cm:Addr):Sp:=fun vs H _ E=>∃(j:Addr) (J:JR),vs=[.ref j]/\JobsAt C H j J/\7<J.ns.length/\∀H',Kp [] H H'->E (.ref Cm) none H'
theorem ok_fewX (F:Fun K "check_few" "check_few" zB1 f fd) (T:Txt K mg) (U:JC K mg C) (X:XC K mg "TooMany" Cm) (M_names:Mth P w K mg base C "names" 1 ["self"] (zC4 C)):FnOk P w K mg base (CX1 P w) 2 f fd ["jobs"] (spFewX C Cm):=by
 refine Fun.okX F zFt (fun vs H Q E h=>?_) (fun cdv A outer s H vs Q E hr h=>?_)
 ·obtain ⟨j,J,rfl,_⟩:=h;rfl
 ·obtain ⟨j,J,rfl,A0,many,k⟩:=h;obtain ⟨tM,hM⟩:=T.c_MOST_FEW
  refine ⟨_,(zAd (zCe (zAy op_gt (zAk zA2 (by rfl) T.z_len zFa (zAa (zC0 M_names U.cl hr (pv 0)) zAb)) (zAx rfl hM (v:=.int 7) ⟨_,rfl⟩) (zA7 _))
    (zAd (zH9 raise1 rfl rfl X.mgC X.ok (zAa zBc zAb)))
    zAz)),?_⟩
  refine ⟨_,rfl,j,J.dx,_,rfl,A0.ob,jf_no _ _ _ (by decide +kernel) (by decide +kernel) (by decide +kernel),j,J,rfl,A0,fun l H1 fl hl k1=>?_⟩;refine ⟨_,_,rfl,.inl (SqL.of hl),_,_,rfl,rfl,_,rfl,?_⟩;rw [qAR (by rw [qAE];lia)];exact iteT ⟨by show (1:Nat)<=sizeLine;decide,k H1 k1⟩
def zEp (Cb:Addr):Sp:=fun vs H Q E=>zFi vs H Q E\/spBenchX Cb vs H Q E
def zHw (Ct:Addr):Sp:=fun vs H Q E=>zHx vs H Q E\/spTurnX Ct vs H Q E
def spFewB (C Cm:Addr):Sp:=fun vs H Q E=>spFew C vs H Q E\/spFewX C Cm vs H Q E
def spFewestX (C Cb Cm:Addr):Sp:=fun vs H _ E=>∃(j:Addr) (v:V) (J:JR),vs=[.ref j,v]/\JobsAt C H j J/\ThingOk H v /\
 ((zCb v=false/\E (.ref Cb) none H)\/(zCb v=true/\7<J.ns.length/\∀H',Kp [] H H'->E (.ref Cm) none H'))
theorem zFc (h:zCb v=true):∃b:Int,v= .int b/\1<=b:=by
 cases v with
 | int i=>exact ⟨i,rfl,qBc h⟩
 | _=>cases h
theorem turn_int (h:zD9 v=true):∃t:Int,v= .int t/\0<=t/\t<=40:=by
 cases v with
 | int i=>exact ⟨i,rfl,qBc h⟩
 | _=>cases h
theorem ok_fewestX (F:Fun K "fewest" "fewest" zEt f fd) (C_cb:CalX P w K mg base "check_benches" 2 ["benches"] (zEp Cb)) (C_cf:CalX P w K mg base "check_few" 2 ["jobs"] (spFewB C Cm)):FnOk P w K mg base (CX1 P w) 7 f fd ["jobs", "benches"] (spFewestX C Cb Cm):=by
 refine Fun.okX F zDo (fun vs H Q E h=>?_) (fun cdv A outer s H vs Q E hr h=>?_)
 ·obtain ⟨j,v,J,rfl,_⟩:=h;rfl
 ·obtain ⟨j,v,J,rfl,A0,hv,k⟩:=h;have hr2:=hr.mono (j:=2) (by decide)
  refine ⟨_,(zAc (zAq (zDc (E:=fun _=>E) C_cb hr2 rfl (passF fun _ _ _ _ h=>h) (zAa (pv 1) zAb)))
   (zAc (zAq (zDc (E:=fun _=>E) C_cf hr2 rfl (passF fun _ _ _ _ h=>h) (zAa (pv 0) zAb)))
   pss_never)),?_⟩
  rcases k with ⟨kb,k⟩| ⟨kb,many,k⟩
  ·exact ⟨_,rfl,.inr ⟨v,rfl,hv,kb,k⟩⟩
  ·obtain ⟨b,rfl,hb⟩:=zFc kb;refine ⟨_,rfl,.inl ⟨b,rfl,hb,?_⟩⟩;exact ⟨_,rfl,.inr ⟨j,J,rfl,A0,many,k⟩⟩
def zHe (C Cb Ct Cm:Addr):Sp:=fun vs H _ E=>∃(j:Addr) (v t:V) (J:JR),vs=[.ref j,v,t]/\JobsAt C H j J/\ThingOk H v/\ThingOk H t /\
 ((zCb v=false/\E (.ref Cb) none H)\/(zCb v=true/\zD9 t=false/\E (.ref Ct) none H)\/(zCb v=true/\zD9 t=true/\7<J.ns.length/\∀H',Kp [] H H'->E (.ref Cm) none H'))
theorem ok_countedX (F:Fun K "counted" "counted" zDq f fd) (C_cb:CalX P w K mg base "check_benches" 2 ["benches"] (zEp Cb)) (C_ct:CalX P w K mg base "check_turns" 2 ["turns"] (zHw Ct)) (C_cf:CalX P w K mg base "check_few" 2 ["jobs"] (spFewB C Cm)):FnOk P w K mg base (CX1 P w) 7 f fd ["jobs", "benches", "turns"] (zHe C Cb Ct Cm):=by
 refine Fun.okX F zBy (fun vs H Q E h=>?_) (fun cdv A outer s H vs Q E hr h=>?_)
 ·obtain ⟨j,v,t,J,rfl,_⟩:=h;rfl
 ·obtain ⟨j,v,t,J,rfl,A0,hv,ht,k⟩:=h;have hr2:=hr.mono (j:=2) (by decide)
  refine ⟨_,(zAc (zAq (zDc (E:=fun _=>E) C_cb hr2 rfl (passF fun _ _ _ _ h=>h) (zAa (pv 1) zAb)))
   (zAc (zAq (zDc (E:=fun _=>E) C_ct hr2 rfl (passF fun _ _ _ _ h=>h) (zAa (pv 2) zAb)))
   (zAc (zAq (zDc (E:=fun _=>E) C_cf hr2 rfl (passF fun _ _ _ _ h=>h) (zAa (pv 0) zAb)))
   pss_never))),?_⟩
  rcases k with ⟨kb,k⟩| ⟨kb,kt,k⟩| ⟨kb,kt,many,k⟩
  ·exact ⟨_,rfl,.inr ⟨v,rfl,hv,kb,k⟩⟩
  ·obtain ⟨b,rfl,hb⟩:=zFc kb;exact ⟨_,rfl,.inl ⟨b,rfl,hb,_,rfl,.inr ⟨t,rfl,ht,kt,k⟩⟩⟩
  ·obtain ⟨b,rfl,hb⟩:=zFc kb;obtain ⟨t,rfl,t0,t1⟩:=turn_int kt;exact ⟨_,rfl,.inl ⟨b,rfl,hb,_,rfl,.inl ⟨t,rfl,t0,t1,_,rfl,.inr ⟨j,J,rfl,A0,many,k⟩⟩⟩⟩
def spFewestB (C Cb Cm:Addr):Sp:=fun vs H Q E=>spFewest C vs H Q E\/spFewestX C Cb Cm vs H Q E
def zHf (C Cb Ct Cm:Addr):Sp:=fun vs H Q E=>spCounted C vs H Q E\/zHe C Cb Ct Cm vs H Q E
end
structure PAI (X:Cx) (es:List Expr) (t:L2.TA):Prop where
 to:PA X es t
theorem pai_nil :PAI X [] tNil:=⟨zAb⟩
theorem zBa {e:Expr} {es:List Expr} {te:TE} {t:L2.TA} (ha:PE X e te) (hr:PAI X es t) (hs:notStar e=true:=by rfl):PAI X (e::es) (tCons te t):=⟨zAa ha hr.to (star_cons hs)⟩
theorem pe_lstI {es:List Expr} {t:L2.TA} {pos:Pos} (h:PAI X es t):PE X (.List es pos) (tLst t):=zA6 h.to
theorem pe_tupI {es:List Expr} {t:L2.TA} {x1} {pos:Pos} (h:PAI X es t):PE X (.Tuple es x1 pos) (tTup t):=zCn h.to
theorem bo_VE:bootBuiltins "ValueError" = some (.type "ValueError"):=by decide +kernel
structure ErrB (K:PySem.W.Frag) (mg:Str->Option Value) (Cn Cp Ct Cm:Addr) (D1 D2:Nat->Addr):Prop where
 c1:mg "NoBench" = some (.ref Cn)
 c2:mg "NoPaper" = some (.ref Cp)
 c3:mg "NoTurns" = some (.ref Ct)
 c4:mg "TooMany" = some (.ref Cm)
 n0:mg "NoEnd" = some (.ref (D1 0))
 n1:mg "NoJob" = some (.ref (D1 1))
 n2:mg "NoLength" = some (.ref (D1 2))
 n3:mg "NoLine" = some (.ref (D1 3))
 n4:mg "NoName" = some (.ref (D1 4))
 n5:mg "NoRow" = some (.ref (D1 5))
 n6:mg "NoText" = some (.ref (D1 6))
 n7:mg "NoWindow" = some (.ref (D1 7))
 n8:mg "NoWood" = some (.ref (D1 8))
 m0:mg "Ring" = some (.ref (D2 0))
 m1:mg "Stranger" = some (.ref (D2 1))
 m2:mg "Twice" = some (.ref (D2 2))
 zv:mg "ValueError" = none
structure KdOk (K:PySem.W.Frag) (Cn Cp Ct Cm:Addr) (D1 D2:Nat->Addr) (Ce:Addr) (b1 b2 b3 b4:Bool):Prop where
 kit:zD8 K Ce=true
 k1:PySem.W.kitOne K (.ref Ce) (.ref Cn)=some b1
 k2:PySem.W.kitOne K (.ref Ce) (.ref Cp)=some b2
 k3:PySem.W.kitOne K (.ref Ce) (.ref Ct)=some b3
 k4:PySem.W.kitOne K (.ref Ce) (.ref Cm)=some b4
 a1:PySem.W.kitAny K (.ref Ce) ([D1 0,D1 1,D1 2,D1 3,D1 4,D1 5,D1 6,D1 7,D1 8].map Value.ref)=some false
 a2:PySem.W.kitAny K (.ref Ce) ([D2 0,D2 1,D2 2].map Value.ref)=some false
 av:PySem.W.kitOne K (.ref Ce) (.type "ValueError")=some true
def wrds (b1 b2 b3 b4:Bool):List (Str×Bool):=[("bench",b1),("paper",b2),("turns",b3),("many",b4)]
def wordB (b1 b2 b3 b4:Bool):Str:=Txt.join "," (((wrds b1 b2 b3 b4).filter (·.2)).map (·.1))
theorem fl_y {α:Type} {l:List α} {p:α->Bool} {i:Nat} {x:α} (h:l[i]?=some x) (c:p x=true):(l.take (i+1)).filter p=(l.take i).filter p++[x]:=by
 rw [List.take_add_one,h,qBP,Option.toList_some,qBE,qAC c];rfl
theorem fl_n {α:Type} {l:List α} {p:α->Bool} {i:Nat} {x:α} (h:l[i]?=some x) (c:p x=false):(l.take (i+1)).filter p=(l.take i).filter p:=by
 rw [List.take_add_one,h,qBP,Option.toList_some,qBE,qAB (by rw [c];exact qAd),List.filter_nil,qA0]
section
theorem _root_.L2.Fun.okH {x qual:Str} {st:Stmt} {N ps:List Str} {k:Nat} {sp:Addr->Sp} (F:Fun K x qual st f fd) (S:FnScope N ps (zAe st)) (len:∀a vs H Q E,sp a vs H Q E->vs.length=ps.length)
  (hbody:∀(cdv:Value) (A:Around) (outer:List Env) (s:Shared) (H:Hp) (vs:List V) (Q:VK) (E:XK) (a:Addr),Room k (A.deeper (PyProof.Rows.envOfC qual (zAe st) s.heap.objs.size f cdv))->sp a vs H Q E ->
   ∃t,PSs ((cxOf CX0 P w K mg base N qual (zAe st) f cdv A outer s H E).hnd a) (zBs st) t/\t {nx:=fun _ H'=>Q .non H',rt:=Q} (L2.start N vs) H):FnHot P w K mg base (k+1) f fd ps sp:=by
 obtain ⟨oc,od,kV,doc,pm,an,cdv,ct,osl,rfl,lk,hcd⟩:=F.ex;exact fn_hot lk hcd S len fun A outer s H vs Q E a hr hsp=>hbody cdv A outer s H vs Q E a hr hsp
abbrev s_whole:Stmt:=top 59
theorem sc_whole:FnScope ["_law_found"] ["_law_found"] (zAe s_whole):=fnS
theorem ok_whole (F:Fun K "_law_whole" "_law_whole" s_whole f fd) (T:Txt K mg):FnOk P w K mg base CX0 1 f fd ["_law_found"] zC3:=by
 refine F.ok sc_whole (fun vs H Q E h=>?_) (fun cdv A outer s H vs Q E hr h=>?_)
 ·obtain ⟨v,rfl,_⟩:=h;rfl
 ·obtain ⟨v,rfl,hv,k⟩:=h;refine ⟨_,(zAd (zAs (pe_and (zAk zCr (by rfl) T.z_isinstance zAi (zAa (pv 0) (zAa (zDd (by rfl) T.z_int zFb (v:=.ty "int") rfl) zAb))) (zHj (pe_not (zAk zCr (by rfl) T.z_isinstance zAi (zAa (pv 0) (zAa (zDd (by rfl) T.z_bool bo_bool (v:=.ty "bool") rfl) zAb)))))))),?_⟩;rcases hv.whole (K:=K) with ⟨t,ty,kt,e⟩| ⟨b,rfl⟩| ⟨i,rfl⟩
  ·refine ⟨_,rfl,_,_,_,_,rfl,ty,kt,_,rfl,iteF ?_⟩;rw [e] at k;exact k
  ·refine ⟨_,rfl,_,_,_,_,rfl,TyOf.bl b,kit_bi,_,rfl,iteT ?_⟩;exact ⟨_,rfl,_,_,_,_,rfl,TyOf.bl b,zDf,_,rfl,k⟩
  ·refine ⟨_,rfl,_,_,_,_,rfl,TyOf.int i,zDf,_,rfl,iteT ?_⟩;exact ⟨_,rfl,_,_,_,_,rfl,TyOf.int i,kit_ib,_,rfl,k⟩
def spKind (K:PySem.W.Frag) (Cn Cp Ct Cm:Addr) (D1 D2:Nat->Addr) (a:Addr):Sp:=fun vs H Q _=>∃(Ce:Addr) (b1 b2 b3 b4:Bool),vs=[.ref a]/\H a=some (excD a Ce none)/\KdOk K Cn Cp Ct Cm D1 D2 Ce b1 b2 b3 b4/\∀H',Kp [] H H'->Q (.str (wordB b1 b2 b3 b4)) H'
abbrev s_kind:Stmt:=top 60
theorem sc_kind:FnScope ["_law_e", "_law_some", "_law_others"] ["_law_e"] (zAe s_kind):=fnS
theorem ok_kind {Cn Cp:Addr} {D1 D2:Nat->Addr} (F:Fun K "_law_kind" "_law_kind" s_kind f fd) (T:Txt K mg) (U:ErrB K mg Cn Cp Ct Cm D1 D2):FnHot P w K mg base 1 f fd ["_law_e"] (spKind K Cn Cp Ct Cm D1 D2):=by
 refine F.okH sc_kind (fun a vs H Q E h=>?_) (fun cdv A outer s H vs Q E a hr h=>?_)
 ·obtain ⟨Ce,b1,b2,b3,b4,rfl,_⟩:=h;rfl
 ·obtain ⟨Ce,b1,b2,b3,b4,rfl,he,Kd,k⟩:=h
  refine ⟨_,(zAc (psS (i:=1) sc_kind.nd (zA6 (zAa (zAk (zE9 (K:=K)) (by rfl) T.z_isinstance zAi (zAa (pv 0) (zAa (zAx rfl U.c1 (v:=.ref Cn) rfl) zAb))) (zAa (zAk (zE9 (K:=K)) (by rfl) T.z_isinstance zAi (zAa (pv 0) (zAa (zAx rfl U.c2 (v:=.ref Cp) rfl) zAb))) (zAa (zAk (zE9 (K:=K)) (by rfl) T.z_isinstance zAi (zAa (pv 0) (zAa (zAx rfl U.c3 (v:=.ref Ct) rfl) zAb))) (zAa (zAk (zE9 (K:=K)) (by rfl) T.z_isinstance zAi (zAa (pv 0) (zAa (zAx rfl U.c4 (v:=.ref Cm) rfl) zAb))) zAb))))))
   (zAc (psS (i:=2) sc_kind.nd (zAk (zHs (K:=K)) (by rfl) T.z_isinstance zAi (zAa (pv 0) (zAa (pe_tupI (zBa (zAx rfl U.n0 (v:=.ref (D1 0)) rfl) (zBa (zAx rfl U.n1 (v:=.ref (D1 1)) rfl) (zBa (zAx rfl U.n2 (v:=.ref (D1 2)) rfl) (zBa (zAx rfl U.n3 (v:=.ref (D1 3)) rfl) (zBa (zAx rfl U.n4 (v:=.ref (D1 4)) rfl) (zBa (zAx rfl U.n5 (v:=.ref (D1 5)) rfl) (zBa (zAx rfl U.n6 (v:=.ref (D1 6)) rfl) (zBa (zAx rfl U.n7 (v:=.ref (D1 7)) rfl) (zBa (zAx rfl U.n8 (v:=.ref (D1 8)) rfl) pai_nil)))))))))) zAb))))
   (zAc (zCe (PW.pt (zG3 (zCm (pv 2)) (zG3 (zCm (zAk (zHs (K:=K)) (by rfl) T.z_isinstance zAi (zAa (pv 0) (zAa (zCn (zAa (zAx rfl U.m0 (v:=.ref (D2 0)) rfl) (zAa (zAx rfl U.m1 (v:=.ref (D2 1)) rfl) (zAa (zAx rfl U.m2 (v:=.ref (D2 2)) rfl) zAb)))) zAb)))) (zEv (zDk (zCm (zAk (call_isXBK (K:=K)) (by rfl) T.z_isinstance zAi (zAa (pv 0) (zAa (zDd (by rfl) U.zv bo_VE (v:=.ty "ValueError") rfl) zAb)))))))))
    (zAd zBn)
    zAz)
   (zAd (zAs (zG4 PySem.F.plainAttrs_str PySem.F.slot_str_join PySem.F.type_str_join mt_join zBc (zAa (pe_compH (xa:=a) rfl (zCa (sc:=zAe s_kind) rfl (by decide +kernel)) (Draws.own (x:= "_law_word") (Draws.own (x:= "_law_held") Draws.nil)) (pi_zipH (xa:=a) rfl T.z_zip (zAa (zA6 (zAa zBc (zAa zBc (zAa zBc (zAa zBc zAb))))) (zAa (pv 1) zAb))) (fun _ _ _ _=>(pg_tupH (K:=K) (xa:=a) (n:=2) rfl (zAp (pgB (i:=0)) (zAp (pgB (i:=1)) zCu)))) (fun _ _ _ _=>(zDs (zCm (pv 1)))) (fun _ _ _ _=>(pv 0))) zAb))))))),?_⟩
  refine ⟨_,rfl,a,Ce,none,Cn,b1,rfl,he,Kd.kit,Kd.k1,_,rfl,a,Ce,none,Cp,b2,rfl,he,Kd.kit,Kd.k2,_,rfl,a,Ce,none,Ct,b3,rfl,he,Kd.kit,Kd.k3,_,rfl,a,Ce,none,Cm,b4,rfl,he,Kd.kit,Kd.k4,(by walk_at "ln"),fun l hl=>?_⟩;have k1:Kp [] H (upd H l (.lst [.bl b1,.bl b2,.bl b3,.bl b4])):=Kp.new Kp.refl hl;have e1:upd H l (.lst [.bl b1,.bl b2,.bl b3,.bl b4]) l=some (.lst ((wrds b1 b2 b3 b4).map fun p=>V.bl p.2)):=upd_same;generalize upd H l (.lst [.bl b1,.bl b2,.bl b3,.bl b4])=H1 at k1 e1;refine ⟨_,rfl,(by show (9:Nat)<=sizeLine;decide),fun t1 h1=>?_⟩;have k2:Kp [] H1 (upd H1 t1 (.tup [.ref (D1 0),.ref (D1 1),.ref (D1 2),.ref (D1 3),.ref (D1 4),.ref (D1 5),.ref (D1 6),.ref (D1 7),.ref (D1 8)])):=Kp.new Kp.refl h1;have e2:upd H1 t1 (.tup [.ref (D1 0),.ref (D1 1),.ref (D1 2),.ref (D1 3),.ref (D1 4),.ref (D1 5),.ref (D1 6),.ref (D1 7),.ref (D1 8)]) t1=some (.tup [.ref (D1 0),.ref (D1 1),.ref (D1 2),.ref (D1 3),.ref (D1 4),.ref (D1 5),.ref (D1 6),.ref (D1 7),.ref (D1 8)]):=upd_same;refine ⟨a,Ce,none,t1,false,[D1 0,D1 1,D1 2,D1 3,D1 4,D1 5,D1 6,D1 7,D1 8],rfl,(k1.trans k2) _ _ he (by simp),e2,Kd.kit,Kd.a1,?_⟩;have k02:Kp [] H _:=k1.trans k2;have e12:=k2 _ _ e1 (by simp);refine ⟨_,rfl,false,rfl,iteF ?_⟩;refine ⟨_,rfl,(by show (3:Nat)<=sizeLine;decide),fun t2 h2=>?_⟩;have k3:Kp [] H (upd (upd H1 t1 (.tup [.ref (D1 0),.ref (D1 1),.ref (D1 2),.ref (D1 3),.ref (D1 4),.ref (D1 5),.ref (D1 6),.ref (D1 7),.ref (D1 8)])) t2 (.tup [.ref (D2 0),.ref (D2 1),.ref (D2 2)])):=Kp.new k02 (k02.fre h2 (by simp));have e13:=(Kp.new (M:=[]) (o:=.tup [.ref (D2 0),.ref (D2 1),.ref (D2 2)]) Kp.refl h2) _ _ e12 (by simp);refine ⟨a,Ce,none,t2,false,[D2 0,D2 1,D2 2],rfl,k3 _ _ he (by simp),upd_same,Kd.kit,Kd.a2,_,rfl,iteF ?_⟩;generalize upd (upd H1 t1 (.tup [.ref (D1 0),.ref (D1 1),.ref (D1 2),.ref (D1 3),.ref (D1 4),.ref (D1 5),.ref (D1 6),.ref (D1 7),.ref (D1 8)])) t2 (.tup [.ref (D2 0),.ref (D2 1),.ref (D2 2)])=H3 at k3 e13;refine ⟨_,rfl,a,Ce,none, "ValueError",true,rfl,k3 _ _ he (by simp),Kd.kit,Kd.av,_,rfl,iteF ?_⟩;refine ⟨rfl,(by walk_at "ln"),fun l2 hl2=>?_⟩;have k4:Kp [] H3 (upd H3 l2 (.lst [.str "bench",.str "paper",.str "turns",.str "many"])):=Kp.new Kp.refl hl2;have e4:upd H3 l2 (.lst [.str "bench",.str "paper",.str "turns",.str "many"]) l2=some (.lst ((wrds b1 b2 b3 b4).map fun p=>V.str p.1)):=upd_same;generalize upd H3 l2 (.lst [.str "bench",.str "paper",.str "turns",.str "many"])=H4 at k4 e4;have k04:=k3.trans k4;have e14:=k4 _ _ e13 (by simp);refine ⟨_,rfl,l2,l,rfl,⟨_,SqL.of e4⟩,⟨_,SqL.of e14⟩,fun D hD=>comp_zipH (xs:=(wrds b1 b2 b3 b4).map fun p=>V.str p.1) (ys:=(wrds b1 b2 b3 b4).map fun p=>V.bl p.2) rfl (fun i zs τ H5=>(∃o0 o1,τ=[o0,o1])/\zs=(((wrds b1 b2 b3 b4).take i).filter (·.2)).map (fun p=>V.str p.1)/\Kp [] H4 H5/\H5 D=some (.lst zs)) ⟨⟨_,_,rfl⟩,rfl,Kp.new Kp.refl hD,upd_same⟩ (fun i zs τ H5 ⟨_,_,k5,_⟩=>⟨SqL.of (k5 _ _ e4 (by simp)),SqL.of (k5 _ _ e14 (by simp)),Ce,none,(k04.trans k5) _ _ he (by simp)⟩) ?_ ?_⟩
  ·rintro i x y t zs τ H5 hx hy ⟨⟨o0,o1,rfl⟩,rfl,k5,h5⟩ ht;rw [qAX] at hx hy;obtain ⟨p,ep,rfl⟩:=qBA.mp hx;rw [ep] at hy
   cases hy
   have k6:Kp [] H5 (upd H5 t (.tup [.str p.1,.bl p.2])):=Kp.new Kp.refl ht;have h6:=k6 _ _ h5 (by simp);have hi:i<4:=(qAc.mp ep).1;refine ⟨t,_,rfl,.inl (.inl upd_same),rfl,⟨Ce,none,((k04.trans k5).trans k6) _ _ he (by simp)⟩,_,_,rfl,_,_,rfl,rfl,?_⟩;refine ⟨_,rfl,_,rfl,ite2 (fun c=>?_) (fun c=>?_)⟩
   ·refine ⟨_,rfl,h6,?_,⟨_,_,rfl⟩,?_,Kp.new (k5.trans k6) hD,upd_same⟩
    ·have h1:=qA3 (fun p:Str×Bool=>p.2) ((wrds b1 b2 b3 b4).take i);rw [qAj] at h1;rw [qAE,qAV];lia
    ·rw [fl_y ep c,qAM];rfl
   ·refine ⟨⟨_,_,rfl⟩,?_,k5.trans k6,h6⟩;rw [fl_n ep (by simpa using c)]
  ·rintro zs τ H5 ⟨_,rfl,k5,h5⟩;refine ⟨_,D,((wrds b1 b2 b3 b4).filter (fun p:Str×Bool=>p.2)).map (fun p:Str×Bool=>p.1),rfl,rfl,SqL.of (by rw [h5,qAq];rfl),?_,k H5 (k04.trans k5)⟩
   cases b1<;>cases b2<;>cases b3<;>cases b4<;>decide
def spNoBench:Sp:=fun vs H Q _=>∃c:Int,vs=[.int c]/\∀(v:V) (H':Hp),ThingOk H' v->zCb v=false->Kp [] H H'->Q v H'
def spLTurns:Sp:=fun vs H Q _=>∃c:Int,vs=[.int c]/\∀(v:V) (H':Hp),ThingOk H' v->Kp [] H H'->Q v H'
abbrev zFj:Stmt:=top 61
theorem zGb:FnScope ["_law_cell_here", "_law_far"] ["_law_cell_here"] (zAe zFj):=fnS
theorem ok_no_bench (F:Fun K "_law_no_bench" "_law_no_bench" zFj f fd) (T:Txt K mg):FnOk P w K mg base CX0 1 f fd ["_law_cell_here"] spNoBench:=by
 refine F.ok zGb (fun vs H Q E h=>?_) (fun cdv A outer s H vs Q E hr h=>?_)
 ·obtain ⟨c,rfl,_⟩:=h;rfl
 ·obtain ⟨c,rfl,k⟩:=h
  refine ⟨_,(zAc (psS (i:=1) zGb.nd (zAm zDl (zAm zEg (pv 0) zAf) (zAm op_pow zAf zAf)))
   (zAd (zAs (zDa zBf (pe_lstI (zBa zAf (zBa (zAm zGh (pe_un un_neg zAf) (pv 1)) (zBa pe_non (zBa pe_bl (zBa pe_bl (zBa zBc (zBa (zCn (zAa zAf zAb)) (zBa (zA6 (zAa zAf zAb)) (zBa zEy (zBa zBc (zBa zAf pai_nil)))))))))))) (zAm zDl (pv 0) zAf) (fun _ _=>rfl))))),?_⟩
  refine ⟨_,rfl,_,_,rfl,rfl,⟨by decide,by decide⟩,_,_,rfl,rfl,⟨by decide,by decide,by decide⟩,_,_,rfl,rfl,(show (0:Int)<10^(58:Int).toNat by decide +kernel),?_⟩;have hz0:0<=(c / 11 % (10:Int)^(58:Int).toNat):=qBS _ (by decide +kernel);refine ⟨_,rfl,_,rfl,_,_,rfl,rfl,(by walk_at "ln"),fun l1 h1=>⟨(by walk_at "ln"),fun l2 h2=>fun l3 h3=>⟨(by walk_at "ln"),fun l4 h4=>?_⟩⟩⟩;have k1:Kp [] H (upd H l1 (.tup [.int 2])):=Kp.new Kp.refl h1;have e1:upd H l1 (.tup [.int 2]) l1=some (.tup [.int 2]):=upd_same;generalize upd H l1 (.tup [.int 2])=H1 at k1 e1 h2 h3 h4;have k2:Kp [] H1 (upd H1 l2 (.lst [.int 2])):=Kp.new Kp.refl h2;have e2:upd H1 l2 (.lst [.int 2]) l2=some (.lst [.int 2]):=upd_same;generalize upd H1 l2 (.lst [.int 2])=H2 at k2 e2 h3 h4;have k3:Kp [] H2 (upd H2 l3 (.dK [])):=Kp.new Kp.refl h3;have e3:upd H2 l3 (.dK []) l3=some (.dK []):=upd_same;generalize upd H2 l3 (.dK [])=H3 at k3 e3 h4;have k4:Kp [] H3 (upd H3 l4 (.lst [.int 0,.int (-1 - (c / 11 % (10:Int)^(58:Int).toNat)),.non,.bl true,.bl false,.str "2",.ref l1,.ref l2,.ref l3,.str "",.int 0])):=Kp.new Kp.refl h4;have e4:upd H3 l4 (.lst [.int 0,.int (-1 - (c / 11 % (10:Int)^(58:Int).toNat)),.non,.bl true,.bl false,.str "2",.ref l1,.ref l2,.ref l3,.str "",.int 0]) l4=some (.lst [.int 0,.int (-1 - (c / 11 % (10:Int)^(58:Int).toNat)),.non,.bl true,.bl false,.str "2",.ref l1,.ref l2,.ref l3,.str "",.int 0]):=upd_same;have w1:=(k2.trans (k3.trans k4)) _ _ e1 (by simp);have w2:=(k3.trans k4) _ _ e2 (by simp);have w3:=k4 _ _ e3 (by simp);have d0:=qBS c (show (11:Int)≠0 by decide);have d1:=qBj c (show (0:Int)<11 by decide)
  obtain ⟨v,ev,tv,bv⟩:∃v,atI [V.int 0,.int (-1 - (c / 11 % (10:Int)^(58:Int).toNat)),.non,.bl true,.bl false,.str "2",.ref l1,.ref l2,.ref l3,.str "",.int 0] (c % 11)=some v/\ThingOk (upd H3 l4 (.lst [.int 0,.int (-1 - (c / 11 % (10:Int)^(58:Int).toNat)),.non,.bl true,.bl false,.str "2",.ref l1,.ref l2,.ref l3,.str "",.int 0])) v/\zCb v=false:=by
   generalize c % 11=e at d0 d1;generalize (c / 11 % (10:Int)^(58:Int).toNat)=z at hz0 w1 w2 w3;have:e=0\/e=1\/e=2\/e=3\/e=4\/e=5\/e=6\/e=7\/e=8\/e=9\/e=10:=by lia
   rcases this with rfl| rfl| rfl| rfl| rfl| rfl| rfl| rfl| rfl| rfl| rfl
   ·exact ⟨_,rfl,.inr (.inr (.inr (.inl ⟨_,rfl⟩))),rfl⟩
   ·exact ⟨_,rfl,.inr (.inr (.inr (.inl ⟨_,rfl⟩))),qAT (by lia)⟩
   ·exact ⟨_,rfl,.inr (.inl rfl),rfl⟩
   ·exact ⟨_,rfl,.inr (.inr (.inl ⟨_,rfl⟩)),rfl⟩
   ·exact ⟨_,rfl,.inr (.inr (.inl ⟨_,rfl⟩)),rfl⟩
   ·exact ⟨_,rfl,.inl ⟨_,rfl⟩,rfl⟩
   ·exact ⟨_,rfl,.inr (.inr (.inr (.inr ⟨l1,rfl,.inr (.inl ⟨_,w1⟩)⟩))),rfl⟩
   ·exact ⟨_,rfl,.inr (.inr (.inr (.inr ⟨l2,rfl,.inl ⟨_,w2⟩⟩))),rfl⟩
   ·exact ⟨_,rfl,.inr (.inr (.inr (.inr ⟨l3,rfl,.inr (.inr ⟨_,w3⟩)⟩))),rfl⟩
   ·exact ⟨_,rfl,.inl ⟨_,rfl⟩,rfl⟩
   ·exact ⟨_,rfl,.inr (.inr (.inr (.inl ⟨_,rfl⟩))),rfl⟩
  exact ⟨_,rfl,_,_,rfl,rfl,(show (0:Int)<11 by decide),_,_,_,_,rfl,rfl,SqL.of e4,ev,k v _ tv bv (k1.trans (k2.trans (k3.trans k4)))⟩
abbrev s_turns:Stmt:=top 62
theorem sc_turns:FnScope ["_law_cell_here", "_law_far"] ["_law_cell_here"] (zAe s_turns):=fnS
theorem ok_turns (F:Fun K "_law_turns" "_law_turns" s_turns f fd) (T:Txt K mg):FnOk P w K mg base CX0 1 f fd ["_law_cell_here"] spLTurns:=by
 refine F.ok sc_turns (fun vs H Q E h=>?_) (fun cdv A outer s H vs Q E hr h=>?_)
 ·obtain ⟨c,rfl,_⟩:=h;rfl
 ·obtain ⟨c,rfl,k⟩:=h
  refine ⟨_,(zAc (psS (i:=1) sc_turns.nd (zAm zDl (zAm zEg (pv 0) zAf) (zAm op_pow zAf zAf)))
   (zAd (zAs (zDa zBf (pe_lstI (zBa zAf (zBa zAf (zBa zAf (zBa zAf (zBa zAf (zBa (pe_un un_neg zAf) (zBa (zAm zCo zAf (pv 1)) (zBa (zAm zGh (pe_un un_neg zAf) (pv 1)) (zBa pe_non (zBa pe_bl (zBa zBc (zBa (zCn (zAa zAf zAb)) (zBa (zA6 (zAa zAf zAb)) pai_nil)))))))))))))) (zAm zDl (pv 0) zAf) (fun _ _=>rfl))))),?_⟩
  refine ⟨_,rfl,_,_,rfl,rfl,⟨by decide,by decide⟩,_,_,rfl,rfl,⟨by decide,by decide,by decide⟩,_,_,rfl,rfl,(show (0:Int)<10^(58:Int).toNat by decide +kernel),?_⟩;refine ⟨_,rfl,_,rfl,_,_,rfl,rfl,_,rfl,_,rfl,_,_,rfl,rfl,(by walk_at "ln"),fun l1 h1=>⟨(by walk_at "ln"),fun l2 h2=>⟨(by walk_at "ln"),fun l4 h4=>?_⟩⟩⟩;have k1:Kp [] H (upd H l1 (.tup [.int 3])):=Kp.new Kp.refl h1;have e1:upd H l1 (.tup [.int 3]) l1=some (.tup [.int 3]):=upd_same;generalize upd H l1 (.tup [.int 3])=H1 at k1 e1 h2 h4;have k2:Kp [] H1 (upd H1 l2 (.lst [.int 3])):=Kp.new Kp.refl h2;have e2:upd H1 l2 (.lst [.int 3]) l2=some (.lst [.int 3]):=upd_same;generalize upd H1 l2 (.lst [.int 3])=H2 at k2 e2 h4;have k4:Kp [] H2 (upd H2 l4 (.lst [.int 0,.int 3,.int 7,.int 40,.int 41,.int (-1),.int (41+(c / 13 % (10:Int)^(58:Int).toNat)),.int (-1 - (c / 13 % (10:Int)^(58:Int).toNat)),.non,.bl true,.str "3",.ref l1,.ref l2])):=Kp.new Kp.refl h4;have e4:upd H2 l4 (.lst [.int 0,.int 3,.int 7,.int 40,.int 41,.int (-1),.int (41+(c / 13 % (10:Int)^(58:Int).toNat)),.int (-1 - (c / 13 % (10:Int)^(58:Int).toNat)),.non,.bl true,.str "3",.ref l1,.ref l2]) l4=some (.lst [.int 0,.int 3,.int 7,.int 40,.int 41,.int (-1),.int (41+(c / 13 % (10:Int)^(58:Int).toNat)),.int (-1 - (c / 13 % (10:Int)^(58:Int).toNat)),.non,.bl true,.str "3",.ref l1,.ref l2]):=upd_same;have w1:=(k2.trans k4) _ _ e1 (by simp);have w2:=k4 _ _ e2 (by simp);have d0:=qBS c (show (13:Int)≠0 by decide);have d1:=qBj c (show (0:Int)<13 by decide)
  obtain ⟨v,ev,tv⟩:∃v,atI [V.int 0,.int 3,.int 7,.int 40,.int 41,.int (-1),.int (41+(c / 13 % (10:Int)^(58:Int).toNat)),.int (-1 - (c / 13 % (10:Int)^(58:Int).toNat)),.non,.bl true,.str "3",.ref l1,.ref l2] (c % 13)=some v/\ThingOk (upd H2 l4 (.lst [.int 0,.int 3,.int 7,.int 40,.int 41,.int (-1),.int (41+(c / 13 % (10:Int)^(58:Int).toNat)),.int (-1 - (c / 13 % (10:Int)^(58:Int).toNat)),.non,.bl true,.str "3",.ref l1,.ref l2])) v:=by
   generalize c % 13=e at d0 d1;have:e=0\/e=1\/e=2\/e=3\/e=4\/e=5\/e=6\/e=7\/e=8\/e=9\/e=10\/e=11\/e=12:=by lia
   have I:∀i,ThingOk (upd H2 l4 (.lst [.int 0,.int 3,.int 7,.int 40,.int 41,.int (-1),.int (41+(c / 13 % (10:Int)^(58:Int).toNat)),.int (-1 - (c / 13 % (10:Int)^(58:Int).toNat)),.non,.bl true,.str "3",.ref l1,.ref l2])) (.int i):=fun i=>.inr (.inr (.inr (.inl ⟨_,rfl⟩)));rcases this with rfl| rfl| rfl| rfl| rfl| rfl| rfl| rfl| rfl| rfl| rfl| rfl| rfl
   ·exact ⟨_,rfl,I _⟩
   ·exact ⟨_,rfl,I _⟩
   ·exact ⟨_,rfl,I _⟩
   ·exact ⟨_,rfl,I _⟩
   ·exact ⟨_,rfl,I _⟩
   ·exact ⟨_,rfl,I _⟩
   ·exact ⟨_,rfl,I _⟩
   ·exact ⟨_,rfl,I _⟩
   ·exact ⟨_,rfl,.inr (.inl rfl)⟩
   ·exact ⟨_,rfl,.inr (.inr (.inl ⟨_,rfl⟩))⟩
   ·exact ⟨_,rfl,.inl ⟨_,rfl⟩⟩
   ·exact ⟨_,rfl,.inr (.inr (.inr (.inr ⟨l1,rfl,.inr (.inl ⟨_,w1⟩)⟩)))⟩
   ·exact ⟨_,rfl,.inr (.inr (.inr (.inr ⟨l2,rfl,.inl ⟨_,w2⟩⟩)))⟩
  exact ⟨_,rfl,_,_,rfl,rfl,(show (0:Int)<13 by decide),_,_,_,_,rfl,rfl,SqL.of e4,ev,k v _ tv (k1.trans (k2.trans k4))⟩
end
def zCy (way:Int) (v t:V) (n:Nat):Str:=if zCb v=false then "bench" else if way≠0/\zD9 t=false then "turns" else if 7<n then "many" else "told"
section
def spTold (C:Addr):Sp:=fun vs H Q _=>∃(way:Int) (j:Addr) (v t:V) (J:JR) (r:Str->Nat),vs=[.int way,.ref j,v,t]/\JobsAt C H j J/\(∀n∈J.ns,∀x∈J.S n,r x<r n)/\ThingOk H v/\ThingOk H t/\(way=0\/way=1)/\∀H',Kp [] H H'->Q (.str (zCy way v t J.ns.length)) H'
structure RfOk (K:PySem.W.Frag) (CB Cn Cp Ct Cm:Addr) (D1 D2:Nat->Addr) (Ce:Addr) (b1 b2 b3 b4:Bool):Prop where
 ok:excB K Ce=true
 sub:(mroK K Ce).contains (.ref CB)=true
 kd:KdOk K Cn Cp Ct Cm D1 D2 Ce b1 b2 b3 b4
abbrev s_told:Stmt:=top 63
theorem sc_told:FnScope ["_law_way", "_law_jobs_here", "_law_benches", "_law_turns_here", "_law_e"] ["_law_way", "_law_jobs_here", "_law_benches", "_law_turns_here"] (zAe s_told):=fnS
theorem ok_told {CB Cn Cp:Addr} {D1 D2:Nat->Addr} (F:Fun K "_law_told" "_law_told" s_told f fd) (be:mg "BenchError" = some (.ref CB)) (beok:excB K CB=true) (Rn:RfOk K CB Cn Cp Ct Cm D1 D2 Cn true false false false) (Rt:RfOk K CB Cn Cp Ct Cm D1 D2 Ct false false true false) (Rm:RfOk K CB Cn Cp Ct Cm D1 D2 Cm false false false true)
  (C_fewest:CalX P w K mg base "fewest" 7 ["jobs", "benches"] (spFewestB C Cn Cm)) (C_counted:CalX P w K mg base "counted" 7 ["jobs", "benches", "turns"] (zHf C Cn Ct Cm)) (C_kind:CalH P w K mg base "_law_kind" 1 ["_law_e"] (spKind K Cn Cp Ct Cm D1 D2)):FnOk P w K mg base CX0 8 f fd ["_law_way", "_law_jobs_here", "_law_benches", "_law_turns_here"] (spTold C):=by
 refine F.ok sc_told (fun vs H Q E h=>?_) (fun cdv A outer s H vs Q E hr h=>?_)
 ·obtain ⟨way,j,v,t,J,r,rfl,_⟩:=h;rfl
 ·obtain ⟨way,j,v,t,J,r,rfl,A0,rk,hv,ht,hway,k⟩:=h;have hr1:=hr.mono (j:=1) (by decide)
  refine ⟨_,(zAc (ps_tryF (i:=4) rfl rfl rfl rfl sc_told.nd rfl rfl rfl be beok
    (fun pl ξ E p own=>zAd (zCe (zAy op_eq (pv 0) zAf (zA7 _))
     (zAd (zAq (zDc (E:=E) C_fewest hr rfl p (zAa (pv 1) (zAa (pv 2) zAb)))))
     (zAd (zAq (zDc (E:=E) C_counted hr rfl p (zAa (pv 1) (zAa (pv 2) (zAa (pv 3) zAb))))))))
    (fun a=>zAd (zAs (pe_callH C_kind hr1 rfl (zAa (pv 4) zAb)))))
   (zAd (zAs zBc))),?_⟩
  have wn:wordB true false false false= "bench" := by decide
  have wt:wordB false false true false= "turns" := by decide
  have wm:wordB false false false true= "many" := by decide
  refine ⟨_,rfl,rfl,_,rfl,?_⟩
  cases hb:zCb v with
  | false =>
   have e:∀way,zCy way v t J.ns.length= "bench" := fun way=>by unfold zCy;rw [qAC hb]
   rw [e,<-wn] at k;rcases hway with rfl| rfl
   ·refine iteT ⟨_,rfl,_,rfl,.inr ⟨j,v,J,rfl,A0,hv,.inl ⟨hb,Cn,rfl,Rn.ok,Rn.sub,fun a ha=>?_⟩⟩⟩;exact ⟨_,rfl,Cn,true,false,false,false,rfl,upd_same,Rn.kd,fun H' k'=>k H' (Kp.trans (Kp.new Kp.refl ha) k')⟩
   ·refine iteF ⟨_,rfl,_,rfl,_,rfl,.inr ⟨j,v,t,J,rfl,A0,hv,ht,.inl ⟨hb,Cn,rfl,Rn.ok,Rn.sub,fun a ha=>?_⟩⟩⟩;exact ⟨_,rfl,Cn,true,false,false,false,rfl,upd_same,Rn.kd,fun H' k'=>k H' (Kp.trans (Kp.new Kp.refl ha) k')⟩
  | true =>
   have nb:¬zCb v=false:=by rw [hb];exact Bool.noConfusion
   obtain ⟨b,rfl,b1⟩:=zFc hb;rcases hway with rfl| rfl
   ·refine iteT ⟨_,rfl,_,rfl,?_⟩
    by_cases c:7<J.ns.length
    ·have e:zCy 0 (.int b) t J.ns.length= "many" := by unfold zCy;rw [qAB nb,qAB (fun z=>z.1 rfl),qAC c]
     rw [e,<-wm] at k;refine .inr ⟨j,_,J,rfl,A0,hv,.inr ⟨hb,c,fun H1 k1=>⟨Cm,rfl,Rm.ok,Rm.sub,fun a ha=>?_⟩⟩⟩;exact ⟨_,rfl,Cm,false,false,false,true,rfl,upd_same,Rm.kd,fun H' k'=>k H' ((k1.trans (Kp.new Kp.refl ha)).trans k')⟩
    ·have e:zCy 0 (.int b) t J.ns.length= "told" := by unfold zCy;rw [qAB nb,qAB (fun z=>z.1 rfl),qAB c]
     rw [e] at k;exact .inl ⟨j,b,J,r,rfl,A0,rk,b1,by lia,fun a rs H' _ _ _ _ k'=>k H' k'⟩
   ·refine iteF ⟨_,rfl,_,rfl,_,rfl,?_⟩
    cases hu:zD9 t with
    | false =>
     have e:zCy 1 (.int b) t J.ns.length= "turns" := by unfold zCy;rw [qAB nb,qAC ⟨by decide,hu⟩]
     rw [e,<-wt] at k;refine .inr ⟨j,_,t,J,rfl,A0,hv,ht,.inr (.inl ⟨hb,hu,Ct,rfl,Rt.ok,Rt.sub,fun a ha=>?_⟩)⟩;exact ⟨_,rfl,Ct,false,false,true,false,rfl,upd_same,Rt.kd,fun H' k'=>k H' (Kp.trans (Kp.new Kp.refl ha) k')⟩
    | true =>
     have nt:¬(1≠(0:Int)/\zD9 t=false):=fun z=>by rw [hu] at z;exact Bool.noConfusion z.2
     obtain ⟨u,rfl,u0,u1⟩:=turn_int hu
     by_cases c:7<J.ns.length
     ·have e:zCy 1 (.int b) (.int u) J.ns.length= "many" := by unfold zCy;rw [qAB nb,qAB nt,qAC c]
      rw [e,<-wm] at k;refine .inr ⟨j,_,_,J,rfl,A0,hv,ht,.inr (.inr ⟨hb,hu,c,fun H1 k1=>⟨Cm,rfl,Rm.ok,Rm.sub,fun a ha=>?_⟩⟩)⟩;exact ⟨_,rfl,Cm,false,false,false,true,rfl,upd_same,Rm.kd,fun H' k'=>k H' ((k1.trans (Kp.new Kp.refl ha)).trans k')⟩
     ·have e:zCy 1 (.int b) (.int u) J.ns.length= "told" := by unfold zCy;rw [qAB nb,qAB nt,qAB c]
      rw [e] at k;obtain ⟨u,rfl⟩:∃n:Nat,u=n:=⟨u.toNat,by lia⟩;exact .inl ⟨j,b,u,J,rfl,A0,b1,by lia,by lia,fun H' k'=>k H' k'⟩
theorem ok_benchB (F:Fun K "check_benches" "check_benches" zA9 f fd) (U:XC K mg "NoBench" Cb) (C_is_whole:Cal P w K mg base "is_whole" 1 ["thing"] zF9) (C_wholeT:Cal P w K mg base "is_whole" 1 ["thing"] zC3):FnOk P w K mg base (CX1 P w) 2 f fd ["benches"] (zEp Cb) :=
 ((zDm F C_is_whole).lift).both (ok_benchX F U C_wholeT) fun _ _ _ _ h=>h
theorem ok_turnsB (F:Fun K "check_turns" "check_turns" zBl f fd) (T:Txt K mg) (U:XC K mg "NoTurns" Ct) (C_is_whole:Cal P w K mg base "is_whole" 1 ["thing"] zF9) (C_wholeT:Cal P w K mg base "is_whole" 1 ["thing"] zC3):FnOk P w K mg base (CX1 P w) 2 f fd ["turns"] (zHw Ct) :=
 ((zD7 F T C_is_whole).lift).both (ok_turnX F T U C_wholeT) fun _ _ _ _ h=>h
theorem ok_fewB (F:Fun K "check_few" "check_few" zB1 f fd) (T:Txt K mg) (U:JC K mg C) (X:XC K mg "TooMany" Cm) (M_names:Mth P w K mg base C "names" 1 ["self"] (zC4 C)):FnOk P w K mg base (CX1 P w) 2 f fd ["jobs"] (spFewB C Cm) :=
 ((zFv F T U M_names).lift).both (ok_fewX F T U X M_names) fun _ _ _ _ h=>h
theorem ok_fewestB (F:Fun K "fewest" "fewest" zEt f fd) (T:Txt K mg) (U:JC K mg C) (M_names:Mth P w K mg base C "names" 1 ["self"] (zC4 C)) (C_check_benches:Cal P w K mg base "check_benches" 2 ["benches"] zFi) (C_check_few:Cal P w K mg base "check_few" 2 ["jobs"] (spFew C))
  (C_all_steps:Cal P w K mg base "all_steps" 6 ["jobs", "benches"] (spAll C)) (C_plans_one_turn_on:Cal P w K mg base "plans_one_turn_on" 1 ["steps", "plans"] zHy) (C_cb:CalX P w K mg base "check_benches" 2 ["benches"] (zEp Cb)) (C_cf:CalX P w K mg base "check_few" 2 ["jobs"] (spFewB C Cm)):FnOk P w K mg base (CX1 P w) 7 f fd ["jobs", "benches"] (spFewestB C Cb Cm) :=
 ((ok_fewest F T U M_names C_check_benches C_check_few C_all_steps C_plans_one_turn_on).lift).both (ok_fewestX F C_cb C_cf) fun _ _ _ _ h=>h
theorem ok_countedB (F:Fun K "counted" "counted" zDq f fd) (T:Txt K mg) (U:JC K mg C) (M_names:Mth P w K mg base C "names" 1 ["self"] (zC4 C)) (C_check_benches:Cal P w K mg base "check_benches" 2 ["benches"] zFi) (C_check_turns:Cal P w K mg base "check_turns" 2 ["turns"] zHx) (C_check_few:Cal P w K mg base "check_few" 2 ["jobs"] (spFew C))
  (C_all_steps:Cal P w K mg base "all_steps" 6 ["jobs", "benches"] (spAll C)) (C_ways_one_turn_on:Cal P w K mg base "ways_one_turn_on" 1 ["steps", "ways"] zHv) (C_cb:CalX P w K mg base "check_benches" 2 ["benches"] (zEp Cb)) (C_ct:CalX P w K mg base "check_turns" 2 ["turns"] (zHw Ct)) (C_cf:CalX P w K mg base "check_few" 2 ["jobs"] (spFewB C Cm)):FnOk P w K mg base (CX1 P w) 7 f fd ["jobs", "benches", "turns"] (zHf C Cb Ct Cm) :=
 ((ok_counted F T U M_names C_check_benches C_check_turns C_check_few C_all_steps C_ways_one_turn_on).lift).both (ok_countedX F C_cb C_ct C_cf) fun _ _ _ _ h=>h
def ofL (ds:List Addr) (i:Nat):Addr:=ds.getD i 0
def kdB (K:PySem.W.Frag) (Cn Cp Ct Cm:Addr) (ds es:List Addr) (Ce:Addr) (b1 b2 b3 b4:Bool):Bool:=zD8 K Ce&&(PySem.W.kitOne K (.ref Ce) (.ref Cn)==some b1)&&(PySem.W.kitOne K (.ref Ce) (.ref Cp)==some b2)&&(PySem.W.kitOne K (.ref Ce) (.ref Ct)==some b3)&&(PySem.W.kitOne K (.ref Ce) (.ref Cm)==some b4)&&(PySem.W.kitAny K (.ref Ce) (ds.map Value.ref)==some false)&&(PySem.W.kitAny K (.ref Ce) (es.map Value.ref)==some false)&&(PySem.W.kitOne K (.ref Ce) (.type "ValueError")==some true)
theorem RfOk.of {CB Cn Cp Ct Cm Ce:Addr} {d0 d1 d2 d3 d4 d5 d6 d7 d8 e0 e1 e2:Addr} {b1 b2 b3 b4:Bool} (h:kdB K Cn Cp Ct Cm [d0,d1,d2,d3,d4,d5,d6,d7,d8] [e0,e1,e2] Ce b1 b2 b3 b4=true) (x:excB K Ce=true) (s:(mroK K Ce).contains (.ref CB)=true):RfOk K CB Cn Cp Ct Cm (ofL [d0,d1,d2,d3,d4,d5,d6,d7,d8]) (ofL [e0,e1,e2]) Ce b1 b2 b3 b4:=by
 unfold kdB at h;simp only [qBR,qBJ] at h;obtain ⟨⟨⟨⟨⟨⟨⟨h1,h2⟩,h3⟩,h4⟩,h5⟩,h6⟩,h7⟩,h8⟩:=h;exact ⟨x,s,h1,h2,h3,h4,h5,h6,h7,h8⟩
end
theorem midS {a b:TS} {D:Ends} {σ:St} (I:St->Hp->Prop) (h1:∀σ H,I σ H->b D σ H) (h2:(∀σ H,I σ H->b D σ H)->a {D with nx:=b D} σ H):tSeq a b D σ H:=h2 h1
theorem gN {i:Nat} {σ:St} {Q:St->Hp->Prop} (h:Q (σ.set i (some v)) H):gName i v σ H Q:=h
theorem told1 {t:V} {n:Nat} (hb:¬zCb v=false):zCy 1 v t n=if zD9 t=false then ("turns" : Str) else if 7<n then ("many" : Str) else ("told" : Str):=by
 unfold zCy;rw [qAB hb]
 cases zD9 t
 ·rw [qAC ⟨by decide,rfl⟩,qAC rfl]
 ·rw [qAB (fun q=>Bool.noConfusion q.2)];rfl
section
def spLaw (K:PySem.W.Frag):Sp:=fun vs H Q _=>∃(a:Addr) (ns:List Int),vs=[.ref a]/\SqL K H a (ns.map V.int)/\ns.length<=63/\∀H',Q (.bl true) H'
abbrev s_law:Stmt:=top 64
theorem zDi:FnScope ["_law_script", "_law_names_here", "_law_orders", "_law_jobs_here", "_law_many", "_law_cell_here", "_law_turns_here", "_law_good", "_law_none", "_law_benches", "_law_due"] ["_law_script"] (zAe s_law):=fnS
theorem ok_law (F:Fun K "law" "law" s_law f fd) (T:Txt K mg) (C_cell:Cal P w K mg base "_law_cell" 1 ["_law_script", "_law_k"] (spCell K)) (C_purse:Cal P w K mg base "_law_purse" 1 ["_law_cell_here", "_law_k"] spPurse) (C_jobs:Cal P w K mg base "_law_jobs" 3 ["_law_purse_here", "_law_most"] spLJobs)
  (C_whole:Cal P w K mg base "_law_whole" 1 ["_law_found"] zC3) (C_no_bench:Cal P w K mg base "_law_no_bench" 1 ["_law_cell_here"] spNoBench) (C_turns:Cal P w K mg base "_law_turns" 1 ["_law_cell_here"] spLTurns) (C_told:Cal P w K mg base "_law_told" 8 ["_law_way", "_law_jobs_here", "_law_benches", "_law_turns_here"] (spTold C)) (M_Jobs:Mkr P w K mg base C "Jobs" 4 ["self", "names", "orders"] (spInit C)):FnOk P w K mg base CX0 9 f fd ["_law_script"] (spLaw K):=by
 refine F.ok zDi (fun vs H Q E h=>?_) (fun cdv A outer s H vs Q E hr h=>?_)
 ·obtain ⟨a,ns,rfl,_⟩:=h;rfl
 ·obtain ⟨sc,is,rfl,hS,hlen,k⟩:=h;have hr1:=hr.mono (j:=1) (by decide);have hr3:=hr.mono (j:=3) (by decide);have hr5:=hr.mono (j:=5) (by decide)
  refine ⟨_,(zAc (ps_asg (zAg C_jobs hr3 rfl (zAa (zAg C_purse hr1 rfl (zAa (zAg C_cell hr1 rfl (zAa (pv 0) (zAa zAf zAb))) (zAa zAf zAb))) (zAa zAf zAb))) (zGe rfl (zAp (pgN (i:=1) zDi.nd) (zAp (pgN (i:=2) zDi.nd) zCu))))
   (zAc (psS (i:=3) zDi.nd (pe_makeC M_Jobs hr5 rfl (zAa (zAt zBv (by rfl) T.z_list zGy (zAa (pv 1) zAb)) (zAa (zAt zBv (by rfl) T.z_list zGy (zAa (pv 2) zAb)) zAb))))
   (zAc (psS (i:=4) zDi.nd (zDa zBf (zA6 (zAa zBc (zAa zBc zAb))) (zAt zC1 (by rfl) T.z_int zFb (zAa (zB4 op_gt (zAk zA2 (by rfl) T.z_len zFa (zAa (pv 1) zAb)) zAf (zA7 _)) zAb)) (fun _ _=>rfl)))
   (zAc (zBb qAn rfl (zAv (zAm op_cat (pe_slice sl_list (pv 0) (po_some zAf) (po_some zAf)) (zA6 (zAa zAf (zAa zAf (zAa zAf zAb)))))) (pgN (i:=5) zDi.nd)
    (zAc (psS (i:=5) zDi.nd (zAk call_abs (by rfl) T.z_abs bo_abs (zAa (pv 5) zAb)))
    (zAc (psS (i:=6) zDi.nd (zAg C_turns hr1 rfl (zAa (zAm zEg (pv 5) zAf) zAb)))
    (zAc (psS (i:=7) zDi.nd (pe_and (zAg C_whole hr1 rfl (zAa (pv 6) zAb)) (zHj (pe_chain op_le op_le zAf (pv 6) zAf))))
    (zAc (psS (i:=8) zDi.nd (zAg C_no_bench hr1 rfl (zAa (zAm zEg (pv 5) zAf) zAb)))
    (zAc (zCe (PW.pt (zG3 (zAy op_ne (zAg C_told hr rfl (zAa zAf (zAa (pv 3) (zAa (pv 8) (zAa (pv 6) zAb))))) zBc (zA7 _)) (zEv (zAy op_ne (zAg C_told hr rfl (zAa zAf (zAa (pv 3) (zAa (pv 8) (zAa (pv 6) zAb))))) zBc (zA7 _)))))
     (zAd zBn)
     zAz)
    (zAc (psS (i:=9) zDi.nd (zAm zCo zAf (zAm zDl (pv 5) zAf)))
    (zAc (psS (i:=10) zDi.nd (zDa zBf (zA6 (zAa zBc (zAa (pv 4) zAb))) (zAt zC1 (by rfl) T.z_int zFb (zAa (pv 7) zAb)) (fun _ _=>rfl)))
    (zAd (zCe (PW.pt (zG3 (zAy op_ne (zAg C_told hr rfl (zAa zAf (zAa (pv 3) (zAa (pv 9) (zAa (pv 6) zAb))))) (pv 10) (zA7 _)) (zEv (zAy op_ne (zAg C_told hr rfl (zAa zAf (zAa (pv 3) (zAa (pv 9) (zAa (pv 6) zAb))))) (pv 4) (zA7 _)))))
     (zAd zBn)
     zAz))))))))))
   (zAd (zAs pe_bl)))))),?_⟩
  have hs:=qAV;have enn:∀x:Str,(!decide (V.str x=V.str x))=false:=fun x=>by simp
  refine ⟨_,rfl,sc,is,0,rfl,hS,by decide,fun c0=>?_⟩;refine ⟨c0,0,rfl,by decide,by decide,fun p0 H1 fp0 P1 k1=>?_⟩;refine ⟨p0,20,rfl,by decide,by decide,P1,fun t l m ns qs r H2 _ _ ht ft fl fm fq hl hm G _ K2=>?_⟩;have k2:Kp [] H H2:=Kp.drop k1 fp0 K2;refine ⟨_,_,rfl,.inl (.inl ht),rfl,_,_,rfl,_,_,rfl,rfl,?_⟩;refine ⟨_,rfl,_,_,rfl,.inl (SqL.of hl),fun a1 ha1=>?_⟩;have k3:Kp [] H2 (upd H2 a1 (.lst (ns.map V.str))):=Kp.new Kp.refl ha1;have h3:upd H2 a1 (.lst (ns.map V.str)) a1=some (.lst (ns.map V.str)):=upd_same;generalize upd H2 a1 (.lst (ns.map V.str))=H3 at k3 h3;have hm3:=hm.kp k3 (by simp) (by simp);refine ⟨_,rfl,_,_,rfl,.inl (SqL.of hm3.top),fun a2 ha2=>?_⟩;have k4:Kp [] H3 (upd H3 a2 (.lst (qs.map fun q=>V.ref q.2))):=Kp.new Kp.refl ha2;have h4:upd H3 a2 (.lst (qs.map fun q=>V.ref q.2)) a2=some (.lst (qs.map fun q=>V.ref q.2)):=upd_same;have h34:=k4 _ _ h3 (by simp);generalize upd H3 a2 (.lst (qs.map fun q=>V.ref q.2))=H4 at k4 h4 h34;refine fun x dx hx hdx nxd=>?_;have fx:Fre H4 x:=hx;have k5:Kp [] H4 (upd (upd H4 dx (.own x)) x (.ins C dx [])):=Kp.new (Kp.new Kp.refl hdx) fx;have hx5:(upd (upd H4 dx (.own x)) x (.ins C dx [])) x=some (.ins C dx []):=upd_same;generalize upd (upd H4 dx (.own x)) x (.ins C dx [])=H5 at k5 hx5 ⊢;refine ⟨x,dx,a1,a2,ns,qs,r,rfl,hx5,k5 a1 _ h34 (by simp),⟨k5 a2 _ h4 (by simp),fun q hq=>(k3.trans (k4.trans k5)) _ _ (hm.row q hq) (by simp),hm.two⟩,G,fun J H6 A6 N6 ens ezs K6=>⟨rfl,?_⟩⟩;subst ens;have k26:Kp [] H2 H6:=k3.trans (k4.trans (Kp.drop k5 fx K6));have k06:=k2.trans k26;have rk:∀n∈J.ns,∀x∈J.S n,r x<r n:=fun n hn y hy=>S_rank A6 G ezs _ n y (qAG _) hn hy;have hl6:=k26 _ _ hl (by simp);refine ⟨(by walk_at "ln"),fun b1 hb1=>?_⟩;have k7:Kp [] H6 (upd H6 b1 (.lst [.str "told",.str "many"])):=Kp.new Kp.refl hb1;have h7:upd H6 b1 (.lst [.str "told",.str "many"]) b1=some (.lst [.str "told",.str "many"]):=upd_same;generalize upd H6 b1 (.lst [.str "told",.str "many"])=H7 at k7 h7
  obtain ⟨mw,emw,hmw⟩:∃mw:Str,atI [V.str "told",.str "many"] (if decide (((J.ns.map V.str).length:Int)>7)=true then 1 else 0)=some (.str mw)/\mw=(if 7<J.ns.length then ("many" : Str) else ("told" : Str)):=by
   by_cases c:7<J.ns.length
   ·rw [qAR (by rw [qAE];lia),qAC c];exact ⟨_,rfl,rfl⟩
   ·rw [qAT (by rw [qAE];lia),qAB c];exact ⟨_,rfl,rfl⟩
  refine ⟨_,rfl,_,_,rfl,.inl (SqL.of (k7 _ _ hl6 (by simp))),_,_,rfl,rfl,.inr ⟨_,rfl,_,_,_,_,rfl,rfl,SqL.of h7,emw,?_⟩⟩;have k07:=k06.trans k7;refine ⟨_,rfl,_,rfl,_,rfl,_,_,rfl,k07.seq hS,fun b2 hb2=>?_⟩
  obtain ⟨js,ejs,ljs⟩:∃js:List Int,cutV (is.map V.int) (some 1) (some 11)=js.map V.int/\js.length<=63:=by
   have hl:=zGx (is.map V.int) (some 1) (some 11);rw [qAE] at hl;unfold cutV at hl ⊢;rw [<-qCp,<-qCo] at hl ⊢;exact ⟨_,rfl,by rw [qAE] at hl;lia⟩
  rw [ejs];have k8:Kp [] H7 (upd H7 b2 (.lst (js.map V.int))):=Kp.new Kp.refl hb2;have h8:upd H7 b2 (.lst (js.map V.int)) b2=some (.lst (js.map V.int)):=upd_same;generalize upd H7 b2 (.lst (js.map V.int))=H8 at k8 h8;refine ⟨(by walk_at "ln"),fun b3 hb3=>?_⟩;have k9:Kp [] H8 (upd H8 b3 (.lst [.int 0,.int 9,.int 14])):=Kp.new Kp.refl hb3;have h9:upd H8 b3 (.lst [.int 0,.int 9,.int 14]) b3=some (.lst [.int 0,.int 9,.int 14]):=upd_same;generalize upd H8 b3 (.lst [.int 0,.int 9,.int 14])=H9 at k9 h9;refine ⟨b2,b3,_,_,rfl,rfl,k9 _ _ h8 (by simp),h9,by rw [qAE,hs];simp;lia,fun b4 hb4=>?_⟩;have k10:Kp [] H9 (upd H9 b4 (.lst (js.map V.int++[.int 0,.int 9,.int 14]))):=Kp.new Kp.refl hb4;have h10:upd H9 b4 (.lst (js.map V.int++[.int 0,.int 9,.int 14])) b4=some (.lst ((js++[0,9,14]).map V.int)):=by rw [upd_same,qAM];rfl
  generalize upd H9 b4 (.lst (js.map V.int++[.int 0,.int 9,.int 14]))=H10 at k10 h10;have k610:=k7.trans (k8.trans (k9.trans k10));have A10:=A6.kp0 k610;refine ⟨_,rfl,⟨_,SqL.of h10⟩,zBp (xs:=(js++[0,9,14]).map V.int) (fun i σ H11=>(∃o5 o6 o7 o8 o9 o10:Option V,σ=[some (.ref sc),some (.ref l),some (.ref m),some (.ref x),some (.str mw),o5,o6,o7,o8,o9,o10])/\Kp [] H10 H11) ⟨⟨_,_,_,_,_,_,rfl⟩,Kp.refl⟩ (fun i σ H11 _ ⟨_,k11⟩=>SqL.of (k11 _ _ h10 (by simp))) ?_ (fun σ H11 _=>k H11)⟩;rintro i v σ H11 hv ⟨⟨o5,o6,o7,o8,o9,o10,rfl⟩,k11⟩;rw [qAX] at hv;obtain ⟨c,_,rfl⟩:=qBA.mp hv;refine ⟨_,rfl,c,rfl,?_⟩;generalize (if c<0 then -c else c)=z;refine ⟨_,rfl,_,_,rfl,rfl,⟨by decide,by decide⟩,_,rfl,fun t H12 ht k12=>?_⟩;refine gN ?_;dsimp only;refine midS (fun σ H13=>σ=[some (.ref sc),some (.ref l),some (.ref m),some (.ref x),some (.str mw),some (.int z),some t,some (.bl (zD9 t)),o8,o9,o10]/\Kp [] H12 H13) ?_ (fun key=>?_)
  rotate_left
  ·refine ⟨_,rfl,t,rfl,ht,_,rfl,?_⟩
   cases hw:zF6 t with
   | false =>
    have e:zD9 t=false:=by cases t<;>first| rfl| exact absurd hw (by simp [zF6])
    refine iteF ?_;exact key _ _ ⟨by rw [e];rfl,Kp.refl⟩
   | true =>
    obtain ⟨u,rfl⟩:=zF5 hw;refine iteT ?_;refine ⟨_,rfl,_,_,rfl,rfl,_,rfl,?_⟩
    by_cases c:0<=u
    ·rw [qAR c];refine iteT ⟨_,_,rfl,rfl,?_⟩;have e:zD9 (.int u)=decide (u<=40):=by show decide (0<=u/\u<=40)=_;simp [c]
     exact key _ _ ⟨by rw [e];rfl,Kp.refl⟩
    ·rw [qAT c];refine iteF ?_;have e:zD9 (.int u)=false:=qAT fun q=>c q.1;exact key _ _ ⟨by rw [e];rfl,Kp.refl⟩
  rintro σ H13 ⟨rfl,k13⟩;refine ⟨_,rfl,_,_,rfl,rfl,⟨by decide,by decide⟩,_,rfl,fun nb H14 hnb bnb k14=>?_⟩;have k1014:=k11.trans (k12.trans (k13.trans k14));have A14:=A10.kp0 k1014;have t14:=ht.kp0 (k13.trans k14);refine ⟨_,rfl,_,rfl,_,rfl,0,x,nb,t,J,r,rfl,A14,rk,hnb,t14,.inl rfl,fun H15 k15=>?_⟩;have eb:∀way,zCy way nb t J.ns.length= "bench" := fun way=>by unfold zCy;rw [qAC bnb]
  rw [eb];refine ⟨rfl,_,rfl,?_⟩;rw [enn];refine iteF ?_;refine ⟨_,rfl,_,rfl,_,rfl,1,x,nb,t,J,r,rfl,A14.kp0 k15,rk,hnb.kp0 k15,t14.kp0 k15,.inr rfl,fun H16 k16=>?_⟩;rw [eb];refine ⟨rfl,_,rfl,?_⟩;rw [enn];refine iteF ?_;have k1416:=k15.trans k16;refine ⟨_,rfl,_,_,rfl,rfl,(show (0:Int)<3 by decide),_,_,rfl,rfl,?_⟩;have hb:zCb (.int (1+z % 3))=true:=qAR (by have:=qBS z (show (3:Int)≠0 by decide);lia);have nbb:¬zCb (.int (1+z % 3))=false:=by rw [hb];exact Bool.noConfusion
  refine ⟨_,rfl,(by walk_at "ln"),fun b5 hb5=>?_⟩;have k17:Kp [] H16 (upd H16 b5 (.lst [.str "turns",.str mw])):=Kp.new Kp.refl hb5;have h17:upd H16 b5 (.lst [.str "turns",.str mw]) b5=some (.lst [.str "turns",.str mw]):=upd_same;generalize upd H16 b5 (.lst [.str "turns",.str mw])=H17 at k17 h17
  obtain ⟨dw,edw,hdw⟩:∃dw:Str,atI [V.str "turns",.str mw] (if zD9 t=true then 1 else 0)=some (.str dw)/\dw=zCy 1 (.int (1+z % 3)) t J.ns.length:=by
   rw [told1 nbb]
   cases hu:zD9 t with
   | false=>exact ⟨_,rfl,rfl⟩
   | true=>exact ⟨mw,rfl,hmw⟩
  refine ⟨_,rfl,.inr ⟨_,rfl,_,_,_,_,rfl,rfl,SqL.of h17,edw,?_⟩⟩;have k1417:=k1416.trans k17;have ib:∀H:Hp,ThingOk H (.int (1+z % 3)):=fun H=>.inr (.inr (.inr (.inl ⟨_,rfl⟩)));refine ⟨_,rfl,_,rfl,_,rfl,1,x,_,t,J,r,rfl,A14.kp0 k1417,rk,ib _,t14.kp0 k1417,.inr rfl,fun H18 k18=>?_⟩;rw [<-hdw];refine ⟨_,rfl,rfl,_,rfl,?_⟩;rw [enn];refine iteF ?_;have k1418:=k1417.trans k18;refine ⟨_,rfl,_,rfl,_,rfl,0,x,_,t,J,r,rfl,A14.kp0 k1418,rk,ib _,t14.kp0 k1418,.inl rfl,fun H19 k19=>?_⟩
  have em:zCy 0 (.int (1+z % 3)) t J.ns.length=mw:=by
   unfold zCy;rw [qAB nbb,qAB (fun q=>q.1 rfl)];exact hmw.symm
  rw [em];refine ⟨_,rfl,rfl,_,rfl,?_⟩;rw [enn];exact iteF ⟨⟨_,_,_,_,_,_,rfl⟩,k1014.trans (k1418.trans k19)⟩
end
def Hd (K:PySem.W.Frag) (x q:Str) (st:Stmt) (f:Addr):Prop:=∃oc od kV dc pm an cd ct sl,K.lookup f=some ⟨oc,od,.func (PySem.W.fnOf x q (zCv st) (zBs st) (zAe st) .none kV dc pm an cd ct),sl⟩/\PySem.W.codeIn K cd q=true/\PySem.W.keepIn K (.ref f)=true
def Dft (K:PySem.W.Frag) (x:Str) (st:Stmt) (f:Addr):Prop:=PySem.W.nsIn K mainGlobals x=some (some (.ref f))/\Hd K x x st f
def nnB (K:PySem.W.Frag) (x:Str):Bool:=match PySem.W.nsIn K mainGlobals x with
 | some none=>true
 | _=>false
theorem nnB_of {K:PySem.W.Frag} {x:Str} {h:Heap} {mg:Str->Option Value} (X:K.In h) (G:h.Ns mainGlobals mg) {xs:List Str} (a:xs.all (nnB K)=true) (m:x∈xs):mg x=none:=by
 have e:=qBr.mp a x m;unfold nnB at e;split at e
 ·rename_i e2;exact PySem.W.mg_none_of X G e2
 ·cases e
theorem Hd.to {K:PySem.W.Frag} {x q:Str} {st:Stmt} (t:Hd K x q st f):∃fd,Fun K x q st f fd:=by
 obtain ⟨_,_,_,_,_,_,_,_,_,l,c,k⟩:=t;exact ⟨_,fun_mk l c k⟩
section
variable {K:PySem.W.Frag} {x q a b c d g:Str} {st:Stmt} {f:Addr} {fd:FuncData} (F:Fun K x q st f fd)
include F
theorem _root_.L2.Fun.b1 (h:∀(kV doc pm:Value) (an:Option Addr) (cdv ct u:Value),bindArgs (PySem.W.fnOf x q (zCv st) (zBs st) (zAe st) .none kV doc pm an cdv ct) ⟨[u],[]⟩=pure [(a,u)]:=by intros;rfl):zCd K fd [a] []:=F.binds fun kV doc pm an cdv ct us hl=>match us,hl with| [u],_=>h kV doc pm an cdv ct u
theorem _root_.L2.Fun.b2 (h:∀(kV doc pm:Value) (an:Option Addr) (cdv ct u v:Value),bindArgs (PySem.W.fnOf x q (zCv st) (zBs st) (zAe st) .none kV doc pm an cdv ct) ⟨[u,v],[]⟩=pure [(a,u),(b,v)]:=by intros;rfl):zCd K fd [a,b] []:=F.binds fun kV doc pm an cdv ct us hl=>match us,hl with| [u,v],_=>h kV doc pm an cdv ct u v
theorem _root_.L2.Fun.b3 (h:∀(kV doc pm:Value) (an:Option Addr) (cdv ct u v w:Value),bindArgs (PySem.W.fnOf x q (zCv st) (zBs st) (zAe st) .none kV doc pm an cdv ct) ⟨[u,v,w],[]⟩=pure [(a,u),(b,v),(c,w)]:=by intros;rfl):zCd K fd [a,b,c] []:=F.binds fun kV doc pm an cdv ct us hl=>match us,hl with| [u,v,w],_=>h kV doc pm an cdv ct u v w
theorem _root_.L2.Fun.b4 (h:∀(kV doc pm:Value) (an:Option Addr) (cdv ct u v w z:Value),bindArgs (PySem.W.fnOf x q (zCv st) (zBs st) (zAe st) .none kV doc pm an cdv ct) ⟨[u,v,w,z],[]⟩=pure [(a,u),(b,v),(c,w),(d,z)]:=by intros;rfl):zCd K fd [a,b,c,d] []:=F.binds fun kV doc pm an cdv ct us hl=>match us,hl with| [u,v,w,z],_=>h kV doc pm an cdv ct u v w z
end
section
variable {K:PySem.W.Frag} {mg:Str->Option Value} {x q:Str} {st:Stmt} {f:Addr} {fd:FuncData} {ps:List Str} {sp:Sp} {k:Nat} (P:Program) (w:World) (base:Heap)
theorem cal (g:mg x=some (.ref f)) (F:Fun K x q st f fd) (b:zCd K fd ps []) (h:FnOk P w K mg base CX0 k f fd ps sp):Cal P w K mg base x k ps sp:=⟨f,fd,g,F.kp,b,h⟩
theorem calH {sp:Addr->Sp} (g:mg x=some (.ref f)) (F:Fun K x q st f fd) (b:zCd K fd ps []) (h:FnHot P w K mg base k f fd ps sp):CalH P w K mg base x k ps sp:=⟨f,fd,g,F.kp,b,h⟩
theorem calX (g:mg x=some (.ref f)) (F:Fun K x q st f fd) (b:zCd K fd ps []) (h:FnOk P w K mg base (CX1 P w) k f fd ps sp):CalX P w K mg base x k ps sp:=⟨f,fd,g,F.kp,b,h⟩
def Dfm (K:PySem.W.Frag) (C:Addr) (m q:Str) (st:Stmt) (f:Addr):Prop:=PySem.W.findIn K (.ref C) m=some (some (.ref f))/\PySem.W.isFn K (.ref f)=true/\Hd K m q st f
theorem mth {C:Addr} {m:Str} (t:Dfm K C m q st f) (F:Fun K m q st f fd) (b:zCd K fd ps []) (h:FnOk P w K mg base CX0 k f fd ps sp):Mth P w K mg base C m k ps sp:=⟨f,fd,⟨t.1,t.2.1,F.kp⟩,b,h⟩
end
theorem all_mk {l:PySem.W.OpenLaw} {w:World} {K:PySem.W.Frag} {h:Heap} {mg:Str->Option Value} {fa:Addr} (X:K.In h) (G:h.Ns mainGlobals mg) (hfa:mg "law" = some (.ref fa)) {C f0 f1 f2 f3 f4 f5 f6 f7 f8 f9 f10 f11 f12 f13 f14 f15 f16 f17 f18 f19 f20 f21 f22 f23 f24 f25 f26 f27 f28 f29 f30 f31 f32 f33 f34 f35 c_BenchError c_NoBench c_NoPaper c_NoTurns c_TooMany c_NoEnd c_NoJob c_NoLength c_NoLine c_NoName c_NoRow c_NoText c_NoWindow c_NoWood c_Ring c_Stranger c_Twice:Addr} {t_LONGEST_NAME t_MOST_JOBS t_MOST_FEW t_MOST_TURNS:Tok}
  (aC:PySem.W.nsIn K mainGlobals "Jobs" = some (some (.ref C)))
  (x_BenchError:PySem.W.nsIn K mainGlobals "BenchError" = some (some (.ref c_BenchError)))
  (x_NoBench:PySem.W.nsIn K mainGlobals "NoBench" = some (some (.ref c_NoBench)))
  (x_NoPaper:PySem.W.nsIn K mainGlobals "NoPaper" = some (some (.ref c_NoPaper)))
  (x_NoTurns:PySem.W.nsIn K mainGlobals "NoTurns" = some (some (.ref c_NoTurns)))
  (x_TooMany:PySem.W.nsIn K mainGlobals "TooMany" = some (some (.ref c_TooMany)))
  (x_NoEnd:PySem.W.nsIn K mainGlobals "NoEnd" = some (some (.ref c_NoEnd)))
  (x_NoJob:PySem.W.nsIn K mainGlobals "NoJob" = some (some (.ref c_NoJob)))
  (x_NoLength:PySem.W.nsIn K mainGlobals "NoLength" = some (some (.ref c_NoLength)))
  (x_NoLine:PySem.W.nsIn K mainGlobals "NoLine" = some (some (.ref c_NoLine)))
  (x_NoName:PySem.W.nsIn K mainGlobals "NoName" = some (some (.ref c_NoName)))
  (x_NoRow:PySem.W.nsIn K mainGlobals "NoRow" = some (some (.ref c_NoRow)))
  (x_NoText:PySem.W.nsIn K mainGlobals "NoText" = some (some (.ref c_NoText)))
  (x_NoWindow:PySem.W.nsIn K mainGlobals "NoWindow" = some (some (.ref c_NoWindow)))
  (x_NoWood:PySem.W.nsIn K mainGlobals "NoWood" = some (some (.ref c_NoWood)))
  (x_Ring:PySem.W.nsIn K mainGlobals "Ring" = some (some (.ref c_Ring)))
  (x_Stranger:PySem.W.nsIn K mainGlobals "Stranger" = some (some (.ref c_Stranger)))
  (x_Twice:PySem.W.nsIn K mainGlobals "Twice" = some (some (.ref c_Twice)))
  (l0:Dft K "_law_take" s_take f0)
  (l1:Dft K "_law_purse" s_purse f1)
  (l2:Dft K "_law_cell" s_cell f2)
  (l3:Dft K "is_name" zEr f3)
  (l4:Dft K "is_one_of" zEc f4)
  (l5:Dft K "check_job" zEd f5)
  (l6:Dft K "check_names" zC8 f6)
  (l7:Dft K "check_parts" zC7 f7)
  (l8:Dft K "told_ahead" zDp f8)
  (l9:Dft K "has_all" zEs f9)
  (l10:Dft K "joined" zH4 f10)
  (l11:Dft K "all_ahead" zB2 f11)
  (l12:Dfm K C "__init__" "Jobs.__init__" zBm f12)
  (l13:Dfm K C "names" "Jobs.names" zDr f13)
  (l14:Dfm K C "ahead" "Jobs.ahead" zCk f14)
  (l15:Dft K "is_whole" zD0 f15)
  (l16:Dft K "check_benches" zA9 f16)
  (l17:Dft K "is_ready" zD1 f17)
  (l18:Dft K "check_few" zB1 f18)
  (l19:Dft K "check_turns" zBl f19)
  (l20:Dft K "rows_of" zEq f20)
  (l21:Dft K "steps_from" zBh f21)
  (l22:Dft K "all_steps" zC9 f22)
  (l23:Dft K "ways_one_turn_on" zBk f23)
  (l24:Dft K "plans_one_turn_on" zBe f24)
  (l25:Dft K "fewest" zEt f25)
  (l26:Dft K "counted" zDq f26)
  (l27:Dft K "_law_names" zH3 f27)
  (l28:Dft K "_law_pairs" s_pairs f28)
  (l29:Dft K "_law_jobs" s_jobs f29)
  (l30:Dft K "_law_whole" s_whole f30)
  (l31:Dft K "_law_kind" s_kind f31)
  (l32:Dft K "_law_no_bench" zFj f32)
  (l33:Dft K "_law_turns" s_turns f33)
  (l34:Dft K "_law_told" s_told f34)
  (l35:Dft K "law" s_law f35)
  (pg:PySem.W.plainGet K C Str.empty=true)
  (hd:PySem.W.hasDictIn K C=true)
  (po:PySem.W.plainOver K C=true)
  (sa:PySem.W.findIn K (.ref C) "__setattr__" = some (some (.builtin "object.__setattr__")))
  (mk:PySem.W.makesIn K C=true)
  (kc:PySem.W.keepIn K (.ref C)=true)
  (n_row:PySem.W.findIn K (.ref C) "row" = some none)
  (n_pairs:PySem.W.findIn K (.ref C) "pairs" = some none)
  (n_above:PySem.W.findIn K (.ref C) "above" = some none)
  (zz:List.all (α:=Str) ["len", "max", "range", "int", "str", "list", "all", "min", "dict", "bool", "abs", "reversed", "enumerate", "any", "sum", "zip", "isinstance", "sorted", "set", "tuple", "ValueError"] (nnB K)=true)
  (f_ok_NoBench:PySem.W.excIn K c_NoBench bmVE "ValueError.__new__" = true)
  (f_sub_NoBench:PySem.W.mroIn K c_NoBench (.ref c_BenchError)=some true)
  (f_ok_NoTurns:PySem.W.excIn K c_NoTurns bmVE "ValueError.__new__" = true)
  (f_sub_NoTurns:PySem.W.mroIn K c_NoTurns (.ref c_BenchError)=some true)
  (f_ok_TooMany:PySem.W.excIn K c_TooMany bmVE "ValueError.__new__" = true)
  (f_sub_TooMany:PySem.W.mroIn K c_TooMany (.ref c_BenchError)=some true)
  (f_xb:excB K c_BenchError=true)
  (f_kd_NoBench:kdB K c_NoBench c_NoPaper c_NoTurns c_TooMany [c_NoEnd,c_NoJob,c_NoLength,c_NoLine,c_NoName,c_NoRow,c_NoText,c_NoWindow,c_NoWood] [c_Ring,c_Stranger,c_Twice] c_NoBench true false false false=true)
  (f_kd_NoTurns:kdB K c_NoBench c_NoPaper c_NoTurns c_TooMany [c_NoEnd,c_NoJob,c_NoLength,c_NoLine,c_NoName,c_NoRow,c_NoText,c_NoWindow,c_NoWood] [c_Ring,c_Stranger,c_Twice] c_NoTurns false false true false=true)
  (f_kd_TooMany:kdB K c_NoBench c_NoPaper c_NoTurns c_TooMany [c_NoEnd,c_NoJob,c_NoLength,c_NoLine,c_NoName,c_NoRow,c_NoText,c_NoWindow,c_NoWood] [c_Ring,c_Stranger,c_Twice] c_TooMany false false false true=true)
  (e_LONGEST_NAME:PySem.W.nsIn K mainGlobals "LONGEST_NAME" = some (some (.int 8 t_LONGEST_NAME)))
  (e_MOST_JOBS:PySem.W.nsIn K mainGlobals "MOST_JOBS" = some (some (.int 20 t_MOST_JOBS)))
  (e_MOST_FEW:PySem.W.nsIn K mainGlobals "MOST_FEW" = some (some (.int 7 t_MOST_FEW)))
  (e_MOST_TURNS:PySem.W.nsIn K mainGlobals "MOST_TURNS" = some (some (.int 40 t_MOST_TURNS)))
  :∃fd:FuncData,(∀(s:Shared) (v:Value),BindsTo s fd ⟨[v],[]⟩ [("_law_script",v)])/\∀base:Heap,K.In base->base.Ns mainGlobals mg->FnOk l.prog w K mg base CX0 9 fa fd ["_law_script"] (spLaw K):=by
 have z:∀x,x∈_->mg x=none:=fun x m=>nnB_of X G zz m;have m:=fun (x:Str) (v:Value) (e:PySem.W.nsIn K mainGlobals x=some (some v))=>PySem.W.mg_of X G e;obtain ⟨a,_,_,kV,dc,pm,an,cd,ct,_,u,v,k⟩:=l35
 cases hfa.symm.trans (m _ _ a)
 have T:Txt K mg:={z_len:=z _ (by decide),z_max:=z _ (by decide),z_range:=z _ (by decide),z_int:=z _ (by decide),z_str:=z _ (by decide),z_list:=z _ (by decide),z_all:=z _ (by decide),z_min:=z _ (by decide),z_dict:=z _ (by decide),z_bool:=z _ (by decide),z_abs:=z _ (by decide),z_reversed:=z _ (by decide),z_enumerate:=z _ (by decide),z_any:=z _ (by decide),z_sum:=z _ (by decide),z_zip:=z _ (by decide),z_isinstance:=z _ (by decide),z_sorted:=z _ (by decide),z_set:=z _ (by decide),z_tuple:=z _ (by decide),c_LONGEST_NAME:=⟨_,m _ _ e_LONGEST_NAME⟩,c_MOST_JOBS:=⟨_,m _ _ e_MOST_JOBS⟩,c_MOST_FEW:=⟨_,m _ _ e_MOST_FEW⟩,c_MOST_TURNS:=⟨_,m _ _ e_MOST_TURNS⟩};have U:JC K mg C:=⟨⟨pg,hd,po,sa⟩,n_row,n_pairs,n_above,m _ _ aC⟩;have XN:XC K mg "NoBench" c_NoBench:=⟨m _ _ x_NoBench,f_ok_NoBench⟩;have RN:=RfOk.of (CB:=c_BenchError) f_kd_NoBench (excB_of f_ok_NoBench) (mroK_of f_sub_NoBench);have XT:XC K mg "NoTurns" c_NoTurns:=⟨m _ _ x_NoTurns,f_ok_NoTurns⟩;have RT:=RfOk.of (CB:=c_BenchError) f_kd_NoTurns (excB_of f_ok_NoTurns) (mroK_of f_sub_NoTurns);have XM:XC K mg "TooMany" c_TooMany:=⟨m _ _ x_TooMany,f_ok_TooMany⟩;have RM:=RfOk.of (CB:=c_BenchError) f_kd_TooMany (excB_of f_ok_TooMany) (mroK_of f_sub_TooMany);have EB:ErrB K mg c_NoBench c_NoPaper c_NoTurns c_TooMany (ofL [c_NoEnd,c_NoJob,c_NoLength,c_NoLine,c_NoName,c_NoRow,c_NoText,c_NoWindow,c_NoWood]) (ofL [c_Ring,c_Stranger,c_Twice]):={c1:=m _ _ x_NoBench,c2:=m _ _ x_NoPaper,c3:=m _ _ x_NoTurns,c4:=m _ _ x_TooMany,n0:=m _ _ x_NoEnd,n1:=m _ _ x_NoJob,n2:=m _ _ x_NoLength,n3:=m _ _ x_NoLine,n4:=m _ _ x_NoName,n5:=m _ _ x_NoRow,n6:=m _ _ x_NoText,n7:=m _ _ x_NoWindow,n8:=m _ _ x_NoWood,m0:=m _ _ x_Ring,m1:=m _ _ x_Stranger,m2:=m _ _ x_Twice,zv:=z _ (by decide)};obtain ⟨_,F0⟩:=l0.2.to;obtain ⟨_,F1⟩:=l1.2.to;obtain ⟨_,F2⟩:=l2.2.to;obtain ⟨_,F3⟩:=l3.2.to;obtain ⟨_,F4⟩:=l4.2.to;obtain ⟨_,F5⟩:=l5.2.to;obtain ⟨_,F6⟩:=l6.2.to;obtain ⟨_,F7⟩:=l7.2.to;obtain ⟨_,F8⟩:=l8.2.to;obtain ⟨_,F9⟩:=l9.2.to;obtain ⟨_,F10⟩:=l10.2.to;obtain ⟨_,F11⟩:=l11.2.to;obtain ⟨_,F12⟩:=l12.2.2.to;obtain ⟨_,F13⟩:=l13.2.2.to;obtain ⟨_,F14⟩:=l14.2.2.to;obtain ⟨_,F15⟩:=l15.2.to;obtain ⟨_,F16⟩:=l16.2.to;obtain ⟨_,F17⟩:=l17.2.to;obtain ⟨_,F18⟩:=l18.2.to;obtain ⟨_,F19⟩:=l19.2.to;obtain ⟨_,F20⟩:=l20.2.to;obtain ⟨_,F21⟩:=l21.2.to;obtain ⟨_,F22⟩:=l22.2.to;obtain ⟨_,F23⟩:=l23.2.to;obtain ⟨_,F24⟩:=l24.2.to;obtain ⟨_,F25⟩:=l25.2.to;obtain ⟨_,F26⟩:=l26.2.to;obtain ⟨_,F27⟩:=l27.2.to;obtain ⟨_,F28⟩:=l28.2.to;obtain ⟨_,F29⟩:=l29.2.to;obtain ⟨_,F30⟩:=l30.2.to;obtain ⟨_,F31⟩:=l31.2.to;obtain ⟨_,F32⟩:=l32.2.to;obtain ⟨_,F33⟩:=l33.2.to;obtain ⟨_,F34⟩:=l34.2.to;have F35:=fun_mk (st:=s_law) u v k;refine ⟨PySem.W.fnOf "law" "law" (zCv s_law) (zBs s_law) (zAe s_law) .none kV dc pm an cd ct,fun s v=>.of_eq rfl,fun B _ _=>?_⟩;have C_take:=cal l.prog w B (m _ _ l0.1) F0 F0.b2 (ok_take F0);have C_purse:=cal l.prog w B (m _ _ l1.1) F1 F1.b2 (ok_purse F1 T);have C_cell:=cal l.prog w B (m _ _ l2.1) F2 F2.b2 (ok_cell F2 T);have C_is_name:=cal l.prog w B (m _ _ l3.1) F3 F3.b1 (ok_is_name F3 T);have C_is_one_of:=cal l.prog w B (m _ _ l4.1) F4 F4.b2 (ok_is_one_of F4 T);have C_check_job:=cal l.prog w B (m _ _ l5.1) F5 F5.b2 (ok_check_job F5 T C_is_one_of);have C_check_names:=cal l.prog w B (m _ _ l6.1) F6 F6.b1 (zG6 F6 T C_is_name);have C_check_parts:=cal l.prog w B (m _ _ l7.1) F7 F7.b2 (zG5 F7 T C_check_job);have C_told_ahead:=cal l.prog w B (m _ _ l8.1) F8 F8.b2 (zId F8);have C_has_all:=cal l.prog w B (m _ _ l9.1) F9 F9.b2 (ok_has_all F9 T);have C_joined:=cal l.prog w B (m _ _ l10.1) F10 F10.b2 (ok_joined F10);have C_all_ahead:=cal l.prog w B (m _ _ l11.1) F11 F11.b2 (ok_all_ahead F11 T C_has_all C_joined);have M_Jobs:Mkr l.prog w K mg B C "Jobs" 4 ["self", "names", "orders"] (spInit C):=⟨f12,_,⟨mk,l12.1,l12.2.1,kc⟩,m _ _ aC,F12.b3,(ok_Jobs_init F12 T U C_check_names C_check_parts C_all_ahead C_told_ahead)⟩;have M_names:=mth l.prog w B l13 F13 F13.b1 (zIf F13 T U);have M_ahead:=mth l.prog w B l14 F14 F14.b2 (zIg F14 T U C_check_job);have C_is_whole:=cal l.prog w B (m _ _ l15.1) F15 F15.b1 (ok_is_whole F15 T);have C_wholeT:=cal l.prog w B (m _ _ l15.1) F15 F15.b1 (ok_wholeT F15 T);have C_check_benches:=cal l.prog w B (m _ _ l16.1) F16 F16.b1 (zDm F16 C_is_whole);have C_cb:=calX l.prog w B (m _ _ l16.1) F16 F16.b1 (ok_benchB F16 XN C_is_whole C_wholeT);have C_is_ready:=cal l.prog w B (m _ _ l17.1) F17 F17.b3 (ok_is_ready F17 T U M_ahead);have C_check_few:=cal l.prog w B (m _ _ l18.1) F18 F18.b1 (zFv F18 T U M_names);have C_cf:=calX l.prog w B (m _ _ l18.1) F18 F18.b1 (ok_fewB F18 T U XM M_names);have C_check_turns:=cal l.prog w B (m _ _ l19.1) F19 F19.b1 (zD7 F19 T C_is_whole);have C_ct:=calX l.prog w B (m _ _ l19.1) F19 F19.b1 (ok_turnsB F19 T XT C_is_whole C_wholeT);have C_rows_of:=cal l.prog w B (m _ _ l20.1) F20 F20.b2 (ok_rows_of F20 T);have C_steps_from:=cal l.prog w B (m _ _ l21.1) F21 F21.b3 (zIe F21 T U M_names C_is_ready C_rows_of);have C_all_steps:=cal l.prog w B (m _ _ l22.1) F22 F22.b2 (ok_all_steps F22 T C_steps_from);have C_ways_one_turn_on:=cal l.prog w B (m _ _ l23.1) F23 F23.b2 (zEi F23);have C_plans_one_turn_on:=cal l.prog w B (m _ _ l24.1) F24 F24.b2 (zD5 F24);have C_fewest:=calX l.prog w B (m _ _ l25.1) F25 F25.b2 (ok_fewestB F25 T U M_names C_check_benches C_check_few C_all_steps C_plans_one_turn_on C_cb C_cf);have C_counted:=calX l.prog w B (m _ _ l26.1) F26 F26.b3 (ok_countedB F26 T U M_names C_check_benches C_check_turns C_check_few C_all_steps C_ways_one_turn_on C_cb C_ct C_cf);have C_lnames:=cal l.prog w B (m _ _ l27.1) F27 F27.b2 (ok_names F27 T C_take);have C_pairs:=cal l.prog w B (m _ _ l28.1) F28 F28.b4 (ok_pairs F28 T C_take);have C_jobs:=cal l.prog w B (m _ _ l29.1) F29 F29.b2 (ok_jobs F29 T C_take C_lnames C_pairs);have C_whole:=cal l.prog w B (m _ _ l30.1) F30 F30.b1 (ok_whole F30 T);have C_kind:=calH l.prog w B (m _ _ l31.1) F31 F31.b1 (ok_kind F31 T EB);have C_no_bench:=cal l.prog w B (m _ _ l32.1) F32 F32.b1 (ok_no_bench F32 T);have C_turns:=cal l.prog w B (m _ _ l33.1) F33 F33.b1 (ok_turns F33 T);have C_told:=cal l.prog w B (m _ _ l34.1) F34 F34.b4 (ok_told F34 (m _ _ x_BenchError) f_xb RN RT RM C_fewest C_counted C_kind);exact ok_law F35 T C_cell C_purse C_jobs C_whole C_no_bench C_turns C_told M_Jobs
theorem walk {l:PySem.W.OpenLaw} {q:Program} {loose:List Str} {XP:(Str->Option Value)->Heap->Prop} {YP:World->Heap->Prop} {d:DefRec} {K:Params->PySem.W.Frag} (hn:l.most=some 63) (hdf:d.params.defaults=[])
  (hY:∀(w:World) (h:Heap),YP w h->(K w.params).In h)
  (F:∀(w:World) (mg:Str->Option Value) (fa:Addr) (h:Heap),(K w.params).In h->h.Ns mainGlobals mg->mg d.name=some (.ref fa) ->
   ∃fd:FuncData,(∀(s:Shared) (u:Value),BindsTo s fd ⟨[u],[]⟩ [("_law_script",u)])/\∀base:Heap,(K w.params).In base->base.Ns mainGlobals mg->FnOk l.prog w (K w.params) mg base CX0 9 fa fd ["_law_script"] (spLaw (K w.params))) :
  PySem.W.WalkO q loose XP YP l.row.toRowW d [] (fun f vs=>PySem.call f vs) :=
 L2.walk_of (n:=63) (k:=9) (x:= "_law_script") (CX:=fun _=>CX0) (sp:=fun w=>spLaw (K w.params)) hn (by decide) hdf ⟨rfl,by decide,by decide,rfl⟩ hY F (fun _ _ a ns hl _ hS=>⟨a,ns,rfl,hS,hl,fun _=>rfl⟩) fun _ _ _ _ _ z=>z
end My
namespace PySem.W.Fast
def tw5180826118493050525:Nat:=0
def tw12001533202034781601:Nat:=0
def tw3666635601064461406:Nat:=0
def tw18026926407626310220:Nat:=0
def tw946217647179533097:Nat:=0
def tw16195014892527063132:Nat:=0
def tw10947548805638168450:Nat:=0
def tw9783396090885834082:Nat:=0
def tw3354959052148351288:Nat:=0
def tw10117180110805082715:Nat:=0
def tw10325149377500489632:Nat:=0
def tw513496673866546965:Nat:=0
def tw10674912742602945154:Nat:=0
def tw7119277766179845704:Nat:=0
def tw13175955863085212593:Nat:=0
def tw14898722715214276589:Nat:=0
def tw15520150460428579468:Nat:=0
def tw4826858050158343544:Nat:=0
def tw857897934714512061:Nat:=0
def tw13840449862242956324:Nat:=0
def tw8326689707721496990:Nat:=0
def tw16524269074934300559:Nat:=0
def tw703135826722815615:Nat:=0
def tw13937422801085812873:Nat:=0
def tw16287968652149682651:Nat:=0
def tw14504087525922388141:Nat:=0
def tw4181988771244654559:Nat:=0
def tw4722164683264267520:Nat:=0
def tw7603815233812469888:Nat:=0
def tw16253516220798870225:Nat:=0
def tw9638767076555704098:Nat:=0
def tw11051710137457250971:Nat:=0
def tw7423202918803401505:Nat:=0
def tw11907224828270040641:Nat:=0
def tw8168746764325176323:Nat:=0
def tw17242757767412679234:Nat:=0
def tw10336247870376302480:Nat:=0
def tw624874761676368327:Nat:=0
def tw13702899781956000632:Nat:=0
def tw2448743541325337808:Nat:=0
def tw2878118082367715946:Nat:=0
def tw2056295135228351130:Nat:=0
def tw6421781332317415546:Nat:=0
def tw1388110132290302238:Nat:=0
def tw4779313282307539093:Nat:=0
def tw14171647766355531590:Nat:=0
def tw15362894246322717588:Nat:=0
def tw5089784614508028963:Nat:=0
def tw6119110043335172987:Nat:=0
def tw1046195170340207502:Nat:=0
def tw7195033761728106842:Nat:=0
def tw13179064939355507804:Nat:=0
def tw14561181765015047617:Nat:=0
def tw12118631626906288652:Nat:=0
def tw7962603641130074695:Nat:=0
def tw13348824391616000114:Nat:=0
def tw14002321970256234949:Nat:=0
def tw3951991301654157539:Nat:=0
def tw10593276094297670005:Nat:=0
def tw7607445341850876564:Nat:=0
def tw17132557717101767657:Nat:=0
def tw10672218989937542008:Nat:=0
def tw5258267905464285441:Nat:=0
def tw17987221097407137411:Nat:=0
def tw6612744434991629377:Nat:=0
def tw12039403212505974606:Nat:=0
def tw8425931939459824001:Nat:=0
def tw6701990838549883266:Nat:=0
def tw15156351745343666909:Nat:=0
def tw3354346165392057743:Nat:=0
def tw9344882569487252642:Nat:=0
def tw2161366102874519065:Nat:=0
def tw12169707043917596261:Nat:=0
def tw11965987029875324316:Nat:=0
def tw872618523238531038:Nat:=0
def tw14094075701553805863:Nat:=0
def tw8695589927272878238:Nat:=0
def tw10008522805030700132:Nat:=0
def tw6438148687747152223:Nat:=0
def tw3693310342505533940:Nat:=0
def tw17169148534200194782:Nat:=0
def tw12591980527882996935:Nat:=0
def tw11065164111702685123:Nat:=0
def tw6392445323932009368:Nat:=0
def tw17015650749802914438:Nat:=0
def tw2134876812005966906:Nat:=0
def tw242663054772551420:Nat:=0
def tw1008976405234319756:Nat:=0
def tw11822448525094465801:Nat:=0
def tw2630124628648828193:Nat:=0
def tw2000036124944819661:Nat:=0
def tw2563857378705399480:Nat:=0
def tw406690834080232307:Nat:=0
def tw4799307556210542961:Nat:=0
def tw4859681604811545725:Nat:=0
def tw461987267760455105:Nat:=0
def tw6282656245063978491:Nat:=0
def tw474267046574176682:Nat:=0
def tw18351421543359510169:Nat:=0
def tw6175852384588426961:Nat:=0
def tw5357246381097388531:Nat:=0
def tw12151063169794260766:Nat:=0
def tw6590476138343837121:Nat:=0
def tw17460756384033811940:Nat:=0
def tw2100987640705013776:Nat:=0
def tw17201657206967385289:Nat:=0
def tw5387674564583856182:Nat:=0
def tw3440662751753003783:Nat:=0
def tw995965836710848003:Nat:=0
def tw12484444123856351125:Nat:=0
def tw106292802401184087:Nat:=0
def tw3698468590549525714:Nat:=0
def tw1538178861082791115:Nat:=0
def tw5839598459450791705:Nat:=0
def tw677006162380080448:Nat:=0
def tw7097591274972959638:Nat:=0
def tw6195158184079638019:Nat:=0
def tw4046308361129441715:Nat:=0
def tw6308384885263448172:Nat:=0
def tw3901297196714182301:Nat:=0
def tw14230690962769275701:Nat:=0
def tw13588071312794792183:Nat:=0
def tw1460574514044681050:Nat:=0
def tw11699938915440557143:Nat:=0
def tw452928741160448860:Nat:=0
def tw2119426151213721558:Nat:=0
def tw8704246767230418579:Nat:=0
def tw14315859117128988859:Nat:=0
def tw3553116859195012378:Nat:=0
def tw14520314705171744239:Nat:=0
def tw2625774531548791568:Nat:=0
def tw8968293382933074137:Nat:=0
def tw10940806991125080873:Nat:=0
def tw16438848104972679167:Nat:=0
def tw10565167193662292355:Nat:=0
def tw4118394725916849575:Nat:=0
def tw9652428129406707958:Nat:=0
def tw2272061083097393594:Nat:=0
def tw16412698359360757112:Nat:=0
def tw6426759144682737057:Nat:=0
def tw2146770946738609140:Nat:=0
def tw6559731635726139090:Nat:=0
def tw12073249088821031016:Nat:=0
def tw16882594588208402813:Nat:=0
def tw16481679653022608810:Nat:=0
def tw15437099922270726968:Nat:=0
def tw11413090152093594669:Nat:=0
def tw16667886274895102695:Nat:=0
def tw4476068795151078474:Nat:=0
def tw7778593396594615355:Nat:=0
def tw12910082575256033113:Nat:=0
def tw3277022412074763044:Nat:=0
def tw6216760763255441426:Nat:=0
def tw17389983973068002055:Nat:=0
def tw10421838339053092073:Nat:=0
def tw18171747088895323930:Nat:=0
def tw10519127452399436283:Nat:=0
def tw7181641152019667939:Nat:=0
def tw173586487367925998:Nat:=0
def tw4296283560168967981:Nat:=0
def tw2677228942998301696:Nat:=0
def tw2467917325203624546:Nat:=0
def tw4163329853550538025:Nat:=0
def tw2481507121304345108:Nat:=0
def tw17320101408758255234:Nat:=0
def tw5354157813414013625:Nat:=0
def tw1558589771846026763:Nat:=0
def tw6277889263964099216:Nat:=0
def tw17568312675978132548:Nat:=0
def tw1517648920152090379:Nat:=0
def tw5611201491359292631:Nat:=0
def tw14391094874277995725:Nat:=0
def tw17112361395289145198:Nat:=0
def tw12386730705589494828:Nat:=0
def tw2010428487888080517:Nat:=0
def tw989496460938152251:Nat:=0
def tw15471929246222661952:Nat:=0
def tw13629177518200305561:Nat:=0
def tw10646426381123865028:Nat:=0
def tw4967232177905949997:Nat:=0
def tw4167356532247706647:Nat:=0
def tw3042837307457558648:Nat:=0
def tw16082109426242890573:Nat:=0
def tw12878746674641345925:Nat:=0
def tw14055495420658730508:Nat:=0
def tw10873753769815749902:Nat:=0
def tw12431279844964967678:Nat:=0
def tw9041038154957438577:Nat:=0
def tw2541354695157208983:Nat:=0
def tw5460387574218407039:Nat:=0
def tw10513312533959008170:Nat:=0
def tw7053506581315737848:Nat:=0
def tw2862498236002980023:Nat:=0
def tw540290593258078131:Nat:=0
def tw7189917642720698014:Nat:=0
def tw3032996231605875304:Nat:=0
def tw10436239618865995038:Nat:=0
def tw14327621422227847492:Nat:=0
def tw16788960922495661171:Nat:=0
def tw12138872575455098926:Nat:=0
def tw3859142669750642410:Nat:=0
def tw18205955217342426376:Nat:=0
def tw8978164282265288724:Nat:=0
def tw16150784864085775296:Nat:=0
def tw12893937467721165524:Nat:=0
def tw2907259974796959641:Nat:=0
def tw5732300796640418068:Nat:=0
def tw11428117692254167749:Nat:=0
def tw2515110402192460261:Nat:=0
def tw6685000698357195147:Nat:=0
def tw15042376472466671250:Nat:=0
def tw3157376147925459174:Nat:=0
def tw8415125405764625002:Nat:=0
def tw10348905901044784378:Nat:=0
def tw8845063090073034420:Nat:=0
def tw1038282873866074228:Nat:=0
def tw9959215464359176458:Nat:=0
def tw4936509434839411880:Nat:=0
def tw15572998363505013479:Nat:=0
def tw14861395495878649370:Nat:=0
def tw15237702487283651284:Nat:=0
def tw9608004382437837572:Nat:=0
def tw8446414931477682359:Nat:=0
def tw1050735898986321292:Nat:=0
def tw4670211972492432763:Nat:=0
def tw16423206678166931195:Nat:=0
def tw6068154441720064103:Nat:=0
def tw1239288552740470346:Nat:=0
end PySem.W.Fast
open PySem PySem.W PyProof.Rows
set_option maxRecDepth 100000 in
set_option maxHeartbeats 0 in
theorem PySem.Challenge.cw_levelbench_k86_few_refused_holds : PySem.Challenge.rw_levelbench_k86_few_refused.Holds := by
 w_on;o_law;k_head;(case hw=>w_witness2)
 k_fill
 refine My.walk (l:=PySem.Challenge.rw_levelbench_k86_few_refused) rfl rfl (fun w h Y=>PySem.W.kIn_of Y) ?F
 case F =>
  intro w mg fa h KX G hmg;refine' My.all_mk KX G hmg ?h0 ?h1 ?h2 ?h3 ?h4 ?h5 ?h6 ?h7 ?h8 ?h9 ?h10 ?h11 ?h12 ?h13 ?h14 ?h15 ?h16 ?h17 ?h18 ?h19 ?h20 ?h21 ?h22 ?h23 ?h24 ?h25 ?h26 ?h27 ?h28 ?h29 ?h30 ?h31 ?h32 ?h33 ?h34 ?h35 ?h36 ?h37 ?h38 ?h39 ?h40 ?h41 ?h42 ?h43 ?h44 ?h45 ?h46 ?h47 ?h48 ?h49 ?h50 ?h51 ?h52 ?h53 ?h54 ?h55 ?h56 ?h57 ?h58 ?h59 ?h60 ?h61 ?h62 ?h63 ?h64 ?h65 ?h66 ?h67 ?h68 ?h69 ?h70 ?h71 ?h72 ?h73 ?h74 ?h75 ?h76 ?h77
  all_goals try first| k_is| exact ⟨by k_is,_,_,_,_,_,_,_,_,_,by k_is,by k_is,by k_is⟩| exact ⟨by k_is,by k_is,_,_,_,_,_,_,_,_,_,by k_is,by k_is,by k_is⟩| k_exc| kernel_rfl
