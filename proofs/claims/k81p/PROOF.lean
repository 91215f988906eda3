import PyProof.Rows.All
import Wide.All
import OpenK.AllK
import Wide.FinOn
import Lean
import PyProof.EqAt
import PyProof.EqKinds
import PyProof.TupleCall
import PyProof.StrLawsTight
import PyProof.FitsReplace
import KE.KSortTup
import PyProof.TupleKey
import PyProof.SetKind
import PyProof.IsRules
import PyProof.Rows.SetFrom
import PyProof.CollectWalk
import PyProof.DictUpdate
import PyProof.AutoListH
import PyProof.SeqI3
import PyProof.EnumStmt
import PyProof.EnumMake
import PyProof.Rows.CallKwBuiltin
import PyProof.NeKinds
import PyProof.StationsW
import PyProof.ExcClass3
import PyProof.PassesOwn
import OpenK.KOwn
import PyProof.RulesAs
import PyProof.RulesDel
import KE.KIsAll
import PyProof.ExcArgsOwn
import PyProof.StrLawsIn
import PyProof.Rows.Range3
import PyProof.Rows.FStr
import PyProof.DictItems
import PyProof.AttrMissHeap
import PyProof.ListCopy
import KE.KDictOf
import KE.KDictSum
import PyProof.Rows.SortRev
import PyProof.Rows.IntMath
import KE.KLam
import KE.KSortKey
import KE.KNestM
import PyProof.ZipIter
import PyProof.Rows.SumAny
import PySem.Challenge.RW_levelbench_k81_papers_counted
set_option Elab.async false
set_option linter.all false
set_option maxRecDepth 100000
def qAA:=@PySem.wpAny_bind
def qAB:=@if_neg
def qAC:=@if_pos
def qAD:=@List.length_map
def qAE:=@PySem.wpAny_pure
def qAF:=@PyProof.Rows.wpS_bind
def qAG:=@Nat.le_refl
def qAH:=@PyProof.Rows.wpS_pure
def qAI:=@List.mem_of_getElem?
def qAJ:=@PySem.sizeLine_eq
def qAK:=@List.mem_append
def qAL:=@PySem.Heap.get?_push_of_some
def qAM:=@List.mem_map
def qAN:=@PySem.Heap.lt_size
def qAO:=@List.size_toArray
def qAP:=@List.mem_cons
def qAQ:=@List.map_append
def qAR:=@List.mem_singleton
def qAS:=@Nat.ne_of_lt
def qAT:=@List.mem_cons_of_mem
def qAU:=@List.length_append
def qAV:=@List.getElem?_eq_some_iff
def qAW:=@List.length_take
def qAX:=@List.getElem?_map
def qAY:=@Nat.le_trans
def qAZ:=@Option.some.inj
def qAa:=@List.mem_cons_self
def qAb:=@List.length_cons
def qAc:=@List.mem_append_left
def qAd:=@List.take_length
def qAe:=@decide_eq_false
def qAf:=@decide_eq_true
def qAg:=@congrArg
def qAh:=@PySem.Heap.get?_push_size
def qAi:=@PySem.PassesOwn.never
def qAj:=@Nat.zero_le
def qAk:=@List.map_cons
def qAl:=@Bool.false_ne_true
def qAm:=@Array.toList_append
def qAn:=@List.getElem?_eq_getElem
def qAo:=@Array.getElem?_toList
def qAp:=@Nat.lt_of_lt_of_le
def qAq:=@List.mem_append_right
def qAr:=@PySem.Heap.SameBut.update
def qAs:=@List.append_nil
def qAt:=@List.mem_iff_getElem
def qAu:=@Ne.symm
def qAv:=@PyProof.Rows.wpS_mono
def qAw:=@PySem.wpAny_mono
def qAx:=@Nat.lt_irrefl
def qAy:=@List.append_assoc
def qAz:=@List.pairwise_append
def qA0:=@PySem.wpAny_holding
def qA1:=@List.nodup_cons
def qA2:=@PyProof.Rows.wpS_forRange
def qA3:=@Classical.byContradiction
def qA4:=@List.map_map
def qA5:=@List.mem_filter
def qA6:=@List.getElem?_append_left
def qA7:=@PySem.Obj.data_mapFields
def qA8:=@List.length_singleton
def qA9:=@PyProof.Rows.wpS_modify
def qBA:=@PySem.F.plainAttrs_list
def qBB:=@Nat.ne_of_gt
def qBC:=@Option.map_eq_some_iff
def qBD:=@List.take_of_length_le
def qBE:=@beq_eq_false_iff_ne
def qBF:=@List.mem_range
def qBG:=@PySem.wpAny_truthy_bool
def qBH:=@List.length_nil
def qBI:=@List.lookup_cons
def qBJ:=@List.getD_eq_getElem?_getD
def qBK:=@Array.toList_push
def qBL:=@List.nodup_nil
def qBM:=@Array.length_toList
def qBN:=@PySem.W.kia_one
def qBO:=@List.length_drop
def qBP:=@List.flatten_cons
def qBQ:=@PyProof.Rows.wpS_get
def qBR:=@PySem.wpAny_rule
def qBS:=@List.mem_of_mem_take
def qBT:=@List.getElem?_append_right
def qBU:=@PySem.Heap.get?_update_self
def qBV:=@List.take_zero
def qBW:=@PySem.codeAny_builtin
def qBX:=@PySem.wpAny_askSetting
def qBY:=@of_decide_eq_true
def qBZ:=@List.length_filter_le
def qBa:=@List.filter_cons
def qBb:=@Array.toList_extract
def qBc:=@List.getElem?_drop
def qBd:=@List.nodup_append
def qBe:=@PySem.Around.under_plainId
def qBf:=@PySem.wpAny_setField
def qBg:=@PySem.Heap.size_push
def qBh:=@PySem.mem_of_lookup
def qBi:=@List.foldl_cons
def qBj:=@List.nil_append
def qBk:=@PyProof.Rows.wpS_lift
def qBl:=@PyProof.Rows.KeyOrd.kle_refl
def qBm:=@Nat.le_add_right
def qBn:=@PySem.F.called_set
def qBo:=@PyProof.Rows.get?_update_seq
def qBp:=@List.filterMap_cons
def qBq:=@PySem.wpAny_passesOwn
def qBr:=@PySem.wpAny_load
def qBs:=@Nat.lt_succ_self
def qBt:=@if_false
def qBu:=@Nat.lt_succ_of_lt
def qBv:=@List.all_eq_true
def qBw:=@Array.getElem?_eq_some_iff
def qBx:=@List.pairwise_map
def qBy:=@List.length_eq_zero_iff
def qBz:=@PyProof.Rows.listUpdate_at
def qB0:=@List.map_eq_nil_iff
def qB1:=@List.filter_append
def qB2:=@List.flatten_append
def qB3:=@PySem.Paired.length
def qB4:=@Nat.le_of_lt
def qB5:=@Bool.eq_iff_iff
def qB6:=@Nat.le_of_eq
def qB7:=@PySem.codeAny_mono
def qB8:=@PySem.wpAny_Call_Name_kw
def qB9:=@Nat.le_succ
def qCA:=@PySem.Heap.get?_update_other
def qCB:=@List.any_cons
def qCC:=@PySem.call_meets
def qCD:=@List.find?_cons
def qCE:=@PySem.wpAny_newObj_type
def qCF:=@PyProof.Rows.KeyOrd.kle_trans
def qCG:=@List.pairwise_cons
def qCH:=@List.take_succ
def qCI:=@List.Perm.refl
def qCJ:=@Array.toList_reverse
def qCK:=@Nat.zero_add
def qCL:=@List.take_append_drop
def qCM:=@Int.emod_nonneg
def qCN:=@Int.emod_lt_of_pos
def qCO:=@PySem.Obj.isFreed_of_fields
def qCP:=@decide_eq_true_eq
def qCQ:=@List.sum_cons
def qCR:=@List.length_reverse
def qCS:=@PySem.wpAny_standAt
def qCT:=@beq_iff_eq
def qCU:=@PySem.wpAny_call
def qCV:=@List.getElem?_take_of_lt
def qCW:=@PySem.SeqAt.EqAt.same
def qCX:=@Bool.and_eq_true
def qCY:=@List.replicate_succ
def qCZ:=@List.map_nil
def qCa:=@Nat.lt_trans
def qCb:=@List.getElem_mem
def qCc:=@PyProof.Rows.KeyOrd.kle_of_klt
def qCd:=@List.Perm.append_left
def qCe:=@List.pairwise_singleton
def qCf:=@Nat.le_of_succ_le
def qCg:=@Array.Perm.refl
def qCh:=@Array.perm_iff_toList_perm
def qCi:=@PyProof.Rows.wpS_reverse
def qCj:=@Nat.add_zero
def qCk:=@List.getElem?_cons_succ
def qCl:=@Array.getElem?_eq_getElem
def qCm:=@List.not_mem_nil
def qCn:=@Nat.not_lt
def qCo:=@PySem.wpAny_call_entry
def qCp:=@PySem.Obj.cls_mapFields
def qCq:=@PySem.wpAny_updateSeq
def qCr:=@PyProof.Rows.seqEpoch_at
def qCs:=@PySem.wpAny_newList
def qCt:=@Bool.false_eq_true
def qCu:=@PySem.wpAny_dictEntries
def qCv:=@PySem.F.slot_list_append
def qCw:=@PySem.F.type_list_append
def qCx:=@PySem.wpAny_letGo
def qCy:=@PySem.wpAny_tryCatch
def qCz:=@List.filter_eq_nil_iff
def qC0:=@PySem.wpAny_execs_nil
def qC1:=@PyProof.Rows.callWith_type1
def qC2:=@PySem.tupleKind_room_in1
def qC3:=@PySem.wpAny_attempt
def qC4:=@List.drop_eq_nil_of_le
def qC5:=@List.perm_append_comm
def qC6:=@List.pairwise_iff_getElem
def qC7:=@List.find?_some
def qC8:=@List.mem_of_find?_eq_some
def qC9:=@List.perm_ext_iff_of_nodup
def qDA:=@Array.forIn_toList
def qDB:=@PySem.wpAny_forIn_list
def qDC:=@Nat.not_lt_zero
def qDD:=@List.map_take
def qDE:=@List.map_drop
def qDF:=@PySem.plainId_quiet
def qDG:=@List.getElem?_toArray
def qDH:=@List.map_congr_left
def qDI:=@List.length_pos_iff
def qDJ:=@PySem.wpAny_dictEpoch
def qDK:=@List.all_map
def qDL:=@List.dropLast_concat_getLast
def qDM:=@List.countP_eq_length_filter
def qDN:=@List.flatten_nil
def qDO:=@Nat.sub_self
def qDP:=@List.reverse_cons
def qDQ:=@List.getElem?_reverse
def qDR:=@List.getElem?_set_self
def qDS:=@Array.mem_toList_iff
def qDT:=@PySem.W.cellsFrom_some
def qDU:=@List.mem_of_mem_drop
def qDV:=@Array.size_setIfInBounds
def qDW:=@PyProof.Rows.F.plain_set_update_loop
def qDX:=@PySem.builtinLookup_eq_fast
def qDY:=@List.getElem?_eq_none_iff
def qDZ:=@Option.map_eq_none_iff
def qDa:=@PySem.F.slot_list_extend
def qDb:=@PySem.F.type_list_extend
def qDc:=@PySem.F.slot_list_insert
def qDd:=@PySem.F.type_list_insert
def qDe:=@PySem.F.slot_list_pop
def qDf:=@PySem.F.type_list_pop
namespace L2
open PySem PySem.Spec PyProof.Rows
variable {us:List Value}{x:Str}{u:Value}{a b C:Addr}{P:Program}{w:World}{h base:Heap}{t' i:Nat}{e tg:Expr}{A:Around}{s:Shared}{pins:List (Addr×Obj)}{op:CmpOp}{K:PySem.W.Frag}
abbrev Key:=Sum Int Str
def zJb:Key->Value->Bool
 | .inl k,v=>Value.isInt k v
 | .inr x,v=>Value.isStrOf x v
def keyH (w:World):Key->Int
 | .inl k=>hashInt k
 | .inr x=>hashStr w x
theorem zAu:∀{k:Key} {v:Value},zJb k v=true->(∃i t,k=Sum.inl i/\v=Value.int i t)\/(∃x t,k=Sum.inr x/\v=Value.str x t)
 | .inl i,v,h=>by
  obtain ⟨t,e⟩:=Value.isInt_shape (k:=i) (v:=v) h;exact .inl ⟨i,t,rfl,e⟩
 | .inr x,v,h=>by
  obtain ⟨t,e⟩:=Value.isStrOf_shape (x:=x) (v:=v) h;exact .inr ⟨x,t,rfl,e⟩
theorem keyIs_int (i:Int) (t:Tok):zJb (.inl i) (.int i t)=true:=by simp [zJb,Value.isInt]
theorem keyIs_str (x:Str) (t:Tok):zJb (.inr x) (.str x t)=true:=by simp [zJb,Value.isStrOf]
theorem key_ll (a b:Int):decide ((Sum.inl a:Key)=Sum.inl b)=(a==b):=by
 by_cases e:a=b
 ·subst e;simp
 ·have h:¬(Sum.inl a:Key)=Sum.inl b:=fun q=>e (Sum.inl.inj q);rw [qAe h];exact (qBE.mpr e).symm
theorem key_rr (a b:Str):decide ((Sum.inr a:Key)=Sum.inr b)=decide (a=b):=by
 by_cases e:a=b
 ·subst e;simp
 ·have h:¬(Sum.inr a:Key)=Sum.inr b:=fun q=>e (Sum.inr.inj q);rw [qAe h,qAe e]
theorem key_lr (a:Int) (b:Str):decide ((Sum.inl a:Key)=Sum.inr b)=false:=qAe (fun q=>nomatch q)
theorem key_rl (a:Str) (b:Int):decide ((Sum.inr a:Key)=Sum.inl b)=false:=qAe (fun q=>nomatch q)
def zAt (prog:Program) (w:World):PySem.KeyKind prog w Key where
 is:=zJb
 hash:=keyH w
 inj:=fun v a b ha hb=>by
  rcases zAu ha with ⟨i,t,rfl,rfl⟩| ⟨x,t,rfl,rfl⟩
  ·rcases zAu hb with ⟨j,u,rfl,e⟩| ⟨y,u,rfl,e⟩
   ·injection e with e1 _;rw [e1]
   ·exact nomatch e
  ·rcases zAu hb with ⟨j,u,rfl,e⟩| ⟨y,u,rfl,e⟩
   ·exact nomatch e
   ·injection e with e1 _;rw [e1]
 byValue:=fun k v h=>by
  rcases zAu h with ⟨i,t,rfl,rfl⟩| ⟨x,t,rfl,rfl⟩<;>rfl
 pyHash:=fun hv h=>by
  rcases zAu hv with ⟨i,t,rfl,rfl⟩| ⟨x,t,rfl,rfl⟩
  ·exact wpAny_pyHash_int h
  ·exact wpAny_pyHash_str h
 eqBool:=fun hu hv h=>by
  rcases zAu hu with ⟨i,t,rfl,rfl⟩| ⟨x,t,rfl,rfl⟩
  ·rcases zAu hv with ⟨j,u,rfl,rfl⟩| ⟨y,u,rfl,rfl⟩
   ·rw [key_ll] at h;exact wpAny_eqBool_int h
   ·rw [key_lr] at h;exact SeqAt.EqAt.int_str i t y u _ _ _ _ h
  ·rcases zAu hv with ⟨j,u,rfl,rfl⟩| ⟨y,u,rfl,rfl⟩
   ·rw [key_rl] at h;exact SeqAt.EqAt.str_int x t j u _ _ _ _ h
   ·rw [key_rr] at h;exact wpAny_eqBool_str h
 «strs»:=fun k x t v h=>by
  rcases zAu h with ⟨i,u,rfl,e⟩| ⟨y,u,rfl,e⟩
  ·exact nomatch e
  ·injection e with e1 _;subst e1
   cases v<;>rfl
theorem mixKind_int (prog:Program) (w:World) (i:Int) (t:Tok):(zAt prog w).is (.inl i) (.int i t)=true:=keyIs_int i t
theorem mixKind_str (prog:Program) (w:World) (x:Str) (t:Tok):(zAt prog w).is (.inr x) (.str x t)=true:=keyIs_str x t
inductive V where
 | non| bl (b:Bool)| int (i:Int)| str (x:Str)| byt (b:Array UInt8)| flt (b:UInt64)| ref (a:Addr)| ty (n:String)
 deriving DecidableEq
variable {xs:List V}{v y:V}
def RelV:V->Value->Prop
 | .non,u=>u=Value.none
 | .bl b,u=>u=Value.bool b
 | .int i,u=>∃t,u=Value.int i t
 | .str x,u=>∃t,u=Value.str x t
 | .byt b,u=>∃t,u=Value.bytes b t
 | .flt b,u=>∃t,u=Value.float b t
 | .ref a,u=>u=Value.ref a
 | .ty n,u=>u=Value.type n
abbrev Vals:List V->List Value->Prop:=Paired RelV
theorem Vals.length (r:Vals xs us):xs.length=us.length:=qB3 r
theorem Vals.get:∀{xs:List V} {us:List Value} {i:Nat} {x:V},Vals xs us->xs[i]?=some x->∃u,us[i]?=some u/\RelV x u
 | _,_,_,_,.nil,e=>by simp at e
 | _,_,0,_,.cons r _,e=>by simp at e;subst e;exact ⟨_,rfl,r⟩
 | _,_,i+1,x,.cons _ t,e=>by
  obtain ⟨u,h1,h2⟩:=Vals.get (i:=i) (x:=x) t (by simpa using e);exact ⟨u,by simpa using h1,h2⟩
theorem Vals.set {x:V} (r:RelV x u):∀{xs:List V} {us:List Value} (i:Nat),Vals xs us->Vals (xs.set i x) (us.set i u)
 | _,_,_,.nil=>.nil
 | _,_,0,.cons _ t=>.cons r t
 | _,_,i+1,.cons q t=>.cons q (Vals.set r i t)
theorem Vals.append:∀{xs ys:List V} {us ws:List Value},Vals xs us->Vals ys ws->Vals (xs++ys) (us++ws)
 | _,_,_,_,.nil,s=>s
 | _,_,_,_,.cons r t,s=>.cons r (Vals.append t s)
theorem Vals.take:∀{xs:List V} {us:List Value} (n:Nat),Vals xs us->Vals (xs.take n) (us.take n)
 | _,_,0,_=>.nil
 | _,_,_+1,.nil=>.nil
 | _,_,n+1,.cons r t=>.cons r (Vals.take n t)
theorem Vals.drop:∀{xs:List V} {us:List Value} (n:Nat),Vals xs us->Vals (xs.drop n) (us.drop n)
 | _,_,0,r=>r
 | _,_,_+1,.nil=>.nil
 | _,_,n+1,.cons _ t=>Vals.drop n t
def RelO:Option V->Option Value->Prop
 | some v,some u=>RelV v u
 | none,none=>True
 | _,_=>False
def KV {κ:Type}:List (κ×V)->List (κ×Value)->Prop:=Paired fun (p:κ×V) (q:κ×Value)=>p.1=q.1/\RelV p.2 q.2
def kV:Key->V
 | .inl i=>.int i
 | .inr x=>.str x
inductive HO where
 | lst (xs:List V)
 | tup (xs:List V)
 | dK (kvs:List (Key×V))| dT (kvs:List (List Key×V))
 | set (S:Int->Bool) (n:Nat)
 | ins (C dx:Addr) (fs:List (Str×V))
 | own (x:Addr)
 | xd (fs:List (Str×V))
 | met (f x:Addr)
 | rng (lo hi:Int)
 | frz (o:Obj) (u:HO)
 | tbl (ps:Array Value)
 | ext (φ:Heap->Prop)
variable {o:HO}
abbrev Hp:=Addr->Option HO
variable {H:Hp}
def upd (H:Hp) (a:Addr) (o:HO):Hp:=fun b=>if b=a then some o else H b
theorem upd_same :upd H a o a=some o:=by unfold upd;rw [qAC rfl]
theorem upd_ne (h:b≠a):upd H a o b=H b:=by unfold upd;rw [qAB h]
theorem zBh {u:HO}:upd (upd H a o) a u=upd H a u:=by
 funext b;unfold upd;split<;>rfl
theorem zBq {u:HO} (h:H a=some o) (h':H b=some u) (d:o≠u):a≠b:=by
 intro e;subst e;rw [h] at h';exact d (qAZ h')
theorem zA0 (h:H a=some o) (h':H b=none):a≠b:=by
 intro e;subst e;rw [h] at h';cases h'
section
variable (P:Program) (w:World)
def zA7 (H:Hp) (h:Heap) (a:Addr):HO->Prop
 | .lst xs=>xs.length<=sizeLine/\∃(its:List Value) (n:Nat),Vals xs its/\h.get? a=some {cls:=.type "list",data:=.seq its.toArray n}
 | .tup xs=>xs.length<=sizeLine/\∃its:List Value,Vals xs its/\IsTup h a its.toArray
 | .dK kvs=>kvs.length<=sizeLine/\(a==sysModules)=false/\∃vs,KV kvs vs/\h.DictOf (zAt P w) a vs
 | .dT kvs=>kvs.length<=sizeLine/\(a==sysModules)=false/\∃xs:List (List Key×Addr×Value),
   Paired (fun (p:List Key×V) (q:List Key×Addr×Value)=>p.1=q.1/\H q.2.1=some (.tup (p.1.map kV))/\RelV p.2 q.2.2) kvs xs /\
   ∃o es ep,h.get? a=some o/\o.ExactDict/\o.data= .dict es ep/\es.toList=xs.map (entryOfKey (tupleKind (zAt P w)))/\(xs.map (·.1)).Nodup
 | .set S n=>h.SetOf (intKind P w) a S n
 | .ins C dx fs=>H dx=some (.own a)/\fs.length<=1000/\dx≠a/\h.get? a=some (PySem.W.instObj C dx) /\
   ∃mA,h.Ns1 dx mA/\(∀f,RelO (fs.lookup f) (mA f))/\PySem.Within mA (fs.map (·.1))
 | .own _=>∃o,h.get? a=some o
 | .xd fs=>∃mA,h.Ns1 a mA/\∀f,RelO (fs.lookup f) (mA f)
 | .rng lo hi=>∃t u v,h.get? a=some {cls:=.type "range",data:=.fields #[.int lo t,.int hi u,.int 1 v]}
 | .frz o u=>h.get? a=some o/\zA7 H h a u
 | .tbl ps=>h.get? a=some {cls:=.none,data:=.fields ps}
 | .met f x=>h.get? a=some (PySem.W.methodObj (.ref f) (.ref x))
 | .ext φ=>φ h/\(∃o,h.get? a=some o)/\∀h1 h2:Heap,φ h1->(∀o,h1.get? a=some o->h2.get? a=some o)->φ h2
def HOk (H:Hp) (h:Heap):Prop:=∀a o,H a=some o->zA7 P w H h a o
end
section
variable {P:Program} {w:World} {H H':Hp} {h h':Heap} {a:Addr} {o:HO}
theorem zA7.lt (x:zA7 P w H h a o):a<h.objs.size:=by
 cases o with
 | lst xs=>obtain ⟨_,_,_,_,e⟩:=x;exact qAN e
 | tup xs=>obtain ⟨_,_,_,p⟩:=x;exact p.lt
 | dK kvs=>obtain ⟨_,_,_,_,o,_,_,e,_⟩:=x;exact qAN e
 | dT kvs=>obtain ⟨_,_,_,_,o,_,_,e,_⟩:=x;exact qAN e
 | set S n=>obtain ⟨o,_,_,_,e,_⟩:=x;exact qAN e
 | ins C dx fs=>obtain ⟨_,_,_,e,_⟩:=x;exact qAN e
 | own y=>obtain ⟨_,e⟩:=x;exact qAN e
 | xd fs=>obtain ⟨_,⟨_,_,_,e,_⟩,_⟩:=x;exact qAN e
 | rng lo hi=>obtain ⟨_,_,_,e⟩:=x;exact qAN e
 | frz ob u=>obtain ⟨e,_⟩:=x;exact qAN e
 | tbl ps=>exact qAN (show h.get? a=some _ from x)
 | met f y=>exact qAN (show h.get? a=some _ from x)
 | ext φ=>obtain ⟨_,⟨_,e⟩,_⟩:=x;exact qAN e
theorem Paired.mapP {α β:Type} {F G:α->β->Prop}:∀{l₁:List α} {l₂:List β},Paired F l₁ l₂->(∀a b,F a b->G a b)->Paired G l₁ l₂
 | _,_,.nil,_=>.nil
 | _,_,.cons r t,f=>.cons (f _ _ r) (Paired.mapP t f)
theorem zA7.stay (x:zA7 P w H h a o) (k:∀b u,(b=a\/H b=some (.own a))->h.get? b=some u->h'.get? b=some u)
  (ho:∀b,H b=some (.own a)->H' b=some (.own a)) (ht:∀b xs,H b=some (.tup xs)->H' b=some (.tup xs)):zA7 P w H' h' a o:=by
 induction o with
 | lst xs=>obtain ⟨z,its,n,r,e⟩:=x;exact ⟨z,its,n,r,k _ _ (.inl rfl) e⟩
 | tup xs=>obtain ⟨z,its,r,ob,e,c⟩:=x;exact ⟨z,its,r,ob,k _ _ (.inl rfl) e,c⟩
 | dK kvs=>obtain ⟨z,y,vs,r,ob,es,ep,e,c⟩:=x;exact ⟨z,y,vs,r,ob,es,ep,k _ _ (.inl rfl) e,c⟩
 | dT kvs =>
  obtain ⟨z,y,xs,r,ob,es,ep,e,c⟩:=x;exact ⟨z,y,xs,Paired.mapP r fun p q z=>⟨z.1,ht _ _ z.2.1,z.2.2⟩,ob,es,ep,k _ _ (.inl rfl) e,c⟩
 | set S n=>obtain ⟨ob,es,ep,t,e,c⟩:=x;exact ⟨ob,es,ep,t,k _ _ (.inl rfl) e,c⟩
 | ins C dx fs =>
  obtain ⟨d,z,ne,e,mA,⟨od,es,ep,e2,c⟩,r⟩:=x;exact ⟨ho _ d,z,ne,k _ _ (.inl rfl) e,mA,⟨od,es,ep,k _ _ (.inr d) e2,c⟩,r⟩
 | own y=>obtain ⟨ob,e⟩:=x;exact ⟨ob,k _ _ (.inl rfl) e⟩
 | xd fs=>obtain ⟨mA,⟨od,es,ep,e,c⟩,r⟩:=x;exact ⟨mA,⟨od,es,ep,k _ _ (.inl rfl) e,c⟩,r⟩
 | rng lo hi=>obtain ⟨t,u,v,e⟩:=x;exact ⟨t,u,v,k _ _ (.inl rfl) e⟩
 | frz ob u ih=>obtain ⟨e,q⟩:=x;exact ⟨k _ _ (.inl rfl) e,ih q⟩
 | tbl ps =>
  have e:h.get? a=some {cls:=.none,data:=.fields ps}:=x;show h'.get? a=some {cls:=.none,data:=.fields ps};exact k a _ (.inl rfl) e
 | met f y =>
  have e:h.get? a=some (PySem.W.methodObj (.ref f) (.ref y)):=x;show h'.get? a=some (PySem.W.methodObj (.ref f) (.ref y));exact k a _ (.inl rfl) e
 | ext φ=>obtain ⟨p,⟨o,e⟩,st⟩:=x;exact ⟨st _ _ p fun o q=>k _ _ (.inl rfl) q,⟨o,k _ _ (.inl rfl) e⟩,st⟩
theorem HOk.lt (x:HOk P w H h) (e:H a=some o):a<h.objs.size:=(x a o e).lt
theorem HOk.fresh (x:HOk P w H h) (e:h.objs.size<=a):H a=none:=by
 cases q:H a with
 | none=>rfl
 | some u=>exact absurd (qAp (x.lt q) e) (qAx _)
theorem HOk.kept (x:HOk P w H h) (k:∀b u,h.get? b=some u->h'.get? b=some u):HOk P w H h':=fun a o e =>
 (x a o e).stay (fun b u _ q=>k b u q) (fun _ q=>q) fun _ _ q=>q
theorem HOk.laid (x:HOk P w H h) (k:∀b u,h.get? b=some u->h'.get? b=some u) (hp:h.objs.size<=a) (new:zA7 P w (upd H a o) h' a o):HOk P w (upd H a o) h':=fun b u e=>by
 have hn:=x.fresh hp
 by_cases hb:b=a
 ·subst hb;rw [upd_same] at e;cases e;exact new
 ·rw [upd_ne hb] at e;exact (x b u e).stay (fun c v _ q=>k c v q) (fun c q=>by rw [upd_ne (zA0 q hn)];exact q) fun c xs q=>by rw [upd_ne (zA0 q hn)];exact q
end
def Rd (H:Hp) (a:Addr) (u:HO):Prop:=H a=some u\/∃o,H a=some (.frz o u)
theorem Rd.ok {u:HO} (r:Rd H a u) (x:HOk P w H h):zA7 P w H h a u:=by
 rcases r with r| ⟨o,r⟩
 ·exact x a u r
 ·obtain ⟨_,q⟩:=x a _ r;exact q
def Mut:Option HO->Prop
 | some (.lst _)=>True
 | some (.dK _)=>True
 | some (.dT _)=>True
 | some (.set _ _)=>True
 | some (.ins _ _ _)=>True
 | some (.ext _)=>True
 | _=>False
section
variable {P:Program} {w:World} {H:Hp} {h h':Heap} {x e:Addr} {o':HO}
theorem HOk.write (ok:HOk P w H h) (mu:Mut (H x)) (he:e=x\/H e=some (.own x)) (k:∀b u,b≠e->h.get? b=some u->h'.get? b=some u) (heo:∃u,h'.get? e=some u)
  (new:zA7 P w (upd H x o') h' x o'):HOk P w (upd H x o') h':=fun b u q=>by
 have nown:∀c y,H c=some (.own y)->c≠x:=fun c y r z=>by subst z;rw [r] at mu;exact mu
 have ntup:∀c xs,H c=some (.tup xs)->c≠x:=fun c xs r z=>by subst z;rw [r] at mu;exact mu
 by_cases hb:b=x
 ·subst hb;rw [upd_same] at q;cases q;exact new
 ·rw [upd_ne hb] at q
  by_cases hbe:b=e
  ·have q':H b=some (.own x):=by
    rcases he with z| z
    ·exact absurd (hbe.trans z) hb
    ·rw [hbe];exact z
   rw [q] at q';cases q';obtain ⟨v,hv⟩:=heo;exact ⟨v,by rw [hbe];exact hv⟩
  ·refine (ok b u q).stay (fun c v hc r=>k c v ?_ r) (fun c r=>by rw [upd_ne (nown c b r)];exact r) fun c xs r=>by rw [upd_ne (ntup c xs r)];exact r
   rcases hc with rfl| hc
   ·exact hbe
   ·rintro rfl;rcases he with z| z
    ·exact nown c b hc z
    ·rw [hc] at z;cases z;exact hb rfl
end
structure Un (fs ex:List Addr) (H H':Hp) (h h':Heap):Prop where
 keep:∀b o,h.get? b=some o->H b=none->b∉fs->b∉ex->h'.get? b=some o
 slot:∀b o,h.get? b=some o->H b=none->b∈fs->b∉ex->∃sl,h'.get? b=some {o with slots:=sl}
 free:∀b o,h.get? b=some o->H b=none->b∉ex->H' b=none
 there:∀b o,h.get? b=some o->b∉ex->∃o',h'.get? b=some o'
 tups:∀b xs,H b=some (.tup xs)->H' b=some (.tup xs)
 frzs:∀b o u,H b=some (.frz o u)->H' b=some (.frz o u)
 tbls:∀b ps,H b=some (.tbl ps)->∃more,H' b=some (.tbl (ps++more))
section
variable {fs fs' ex ex':List Addr} {H H1 H2:Hp} {h h1 h2 h':Heap} {a x e:Addr} {o:HO}
theorem Un.any (u:Un fs ex H H1 h h1) {ob:Obj} (q:h.get? b=some ob) (n:H b=none) (hx:b∉ex):∃sl,h1.get? b=some {ob with slots:=sl}:=by
 by_cases hb:b∈fs
 ·exact u.slot b ob q n hb hx
 ·exact ⟨ob.slots,u.keep b ob q n hb hx⟩
theorem Un.kept (k:∀b u,h.get? b=some u->h'.get? b=some u):Un fs ex H H h h' :=
 ⟨fun b ob q _ _ _=>k b ob q,fun b ob q _ _ _=>⟨ob.slots,k b ob q⟩,fun _ _ _ n _=>n,fun b ob q _=>⟨ob,k b ob q⟩,fun _ _ q=>q,fun _ _ _ q=>q,fun _ ps q=>⟨#[],by rw [q];simp⟩⟩
theorem Un.refl:Un fs ex H H h h:=Un.kept fun _ _ q=>q
theorem Un.laid (k:∀b u,h.get? b=some u->h'.get? b=some u) (hp:h.objs.size<=a) (hn:H a=none):Un fs ex H (upd H a o) h h' where
 keep:=fun b u q _ _ _=>k b u q
 slot:=fun b u q _ _ _=>⟨u.slots,k b u q⟩
 free:=fun b u q n _=>by rw [upd_ne (qAS (qAp (qAN q) hp))];exact n
 there:=fun b u q _=>⟨u,k b u q⟩
 tups:=fun b xs q=>by rw [upd_ne (zA0 q hn)];exact q
 frzs:=fun b u xs q=>by rw [upd_ne (zA0 q hn)];exact q
 tbls:=fun b ps q=>⟨#[],by rw [upd_ne (zA0 q hn),q];simp⟩
theorem Un.write (mu:Mut (H x)) (he:e=x\/H e=some (.own x)) (k:∀b u,b≠e->h.get? b=some u->h'.get? b=some u) (heo:∃u,h'.get? e=some u):Un fs ex H (upd H x o) h h':=by
 have hx:∀b,H b=none->b≠x:=fun b n z=>by subst z;rw [n] at mu;exact mu
 have hb:∀b,H b=none->b≠e:=fun b n z=>by
  subst z;rcases he with r| r
  ·exact hx b n r
  ·rw [n] at r;cases r
 have hm:∀b u,H b=some u->¬Mut (some u)->b≠x:=fun b u q nm z=>by subst z;rw [q] at mu;exact nm mu
 refine ⟨fun b u q n _ _=>k b u (hb b n) q,fun b u q n _ _=>⟨u.slots,k b u (hb b n) q⟩,fun b u q n _=>by rw [upd_ne (hx b n)];exact n,fun b u q _=>?_,
  fun b xs q=>by rw [upd_ne (hm b _ q fun z=>z)];exact q,fun b u xs q=>by rw [upd_ne (hm b _ q fun z=>z)];exact q,fun b ps q=>⟨#[],by rw [upd_ne (hm b _ q fun z=>z),q];simp⟩⟩
 by_cases hbe:b=e
 ·subst hbe;exact heo
 ·exact ⟨u,k b u hbe q⟩
end
def trk (h:Heap) (H:Hp):List Addr:=(List.range h.objs.size).filter fun a=>(H a).isSome
def hidT (h:Heap) (H:Hp):Heap:=PySem.W.hideAll h (trk h H)
theorem hidT_size (h:Heap) (H:Hp):(hidT h H).objs.size=h.objs.size:=PySem.W.hideAll_size _ _
theorem hidT_get {o:Obj} (e:h.get? b=some o) (n:H b=none):(hidT h H).get? b=some o :=
 PySem.W.hideAll_get _ e fun hm=>by
  have q:(H b).isSome=true:=(qA5.mp hm).2;rw [n] at q;simp at q
theorem of_hidT {o:Obj} (e:(hidT h H).get? b=some o):h.get? b=some o/\H b=none:=by
 have e':h.get? b=some o:=PySem.W.of_hideAll (trk h H) e;refine ⟨e',?_⟩
 cases q:H b with
 | none=>rfl
 | some x =>
  have hm:b∈trk h H:=qA5.mpr ⟨qBF.mpr (qAN e'),by simp [q]⟩;have z:(hidT h H).get? b=none:=PySem.W.hideAll_none (trk h H) hm;rw [z] at e;cases e
structure Mod (K:PySem.W.Frag) (mg:Str->Option Value) (base:Heap):Prop where
 kin:K.In base
 glob:base.Ns mainGlobals mg
 blt:∃mb,base.Ns builtinsNs mb/\∀x:Str,x≠ "__name__" ->mb x=bootBuiltins x
 nolimit:base.NoLimit
structure Cx where
 prog:Program
 w:World
 K:PySem.W.Frag
 mg:Str->Option Value
 base:Heap
 A:Around
 N:List Str
 s₀:Shared
 H₀:Hp
 env:Env
 outer:List Env
 stack:List Env
 ex:List Addr
 fn:Str->Bool
 calm:Bool
 pn:List (Addr×Obj)
 xe:Value->Shared->Prop
variable {X:Cx}
def frs (l:List Env):List Addr:=l.filterMap (·.frame)
abbrev Cx.fs (X:Cx):List Addr:=frs X.outer
def Vis (sc:Scope) (x:Str):Prop:=sc.names.lookup x=some .local\/sc.names.lookup x=some .cell\/sc.names.lookup x=some .free
def Loc (sc:Scope) (x:Str):Prop:=sc.names.lookup x=some .local\/sc.names.lookup x=some .cell
def Look (env:Env) (h:Heap) (m:Str->Option Value) (x:Str) (u:Value):Prop :=
 (env.kindOf x=some .local/\m x=some u)\/((env.kindOf x=some .cell\/env.kindOf x=some .free)/\∃c,env.cells.lookup x=some c/\h.IsCell c (some u))
structure Cx.Ok (X:Cx):Prop where
 mod:Mod X.K X.mg X.base
 kind:X.env.scope.kind= .function
 glob:X.env.globals=mainGlobals
 blt:X.env.builtins=builtinsNs
 above:X.s₀.heap.objs.size<=X.env.locals
 inj:∀x y c,X.env.cells.lookup x=some c->X.env.cells.lookup y=some c->x=y
 has:∀x,(X.env.kindOf x=some .cell\/X.env.kindOf x=some .free)->∃c,X.env.cells.lookup x=some c
 cab:∀x c,X.fn x=true->X.env.cells.lookup x=some c->X.s₀.heap.objs.size<=c
 hd:X.calm=true->X.A.handled=none
 frames:X.A.frames=some X.stack
 stk:X.stack=X.outer\/(X.stack=X.env::X.outer/\X.env.frame=some X.env.locals)
 exf:∀b∈X.ex,b≠X.env.locals/\∀x c,X.env.cells.lookup x=some c->c≠b
 bs:∀b o,X.base.get? b=some o->X.s₀.heap.get? b=some o/\X.H₀ b=none
 bsz:X.base.objs.size<=X.s₀.heap.objs.size
 noex:∀b o,X.base.get? b=some o->b∉X.ex
 exfs:∀b∈X.ex,b∉X.fs
 funs:X.s₀.heap.FunFrames X.base X.outer
 frf:∀b∈X.fs,X.H₀ b=none
structure Inv (X:Cx) (pins:List (Addr×Obj)) (σ:List (Option V)) (H:Hp) (s:Shared):Prop where
 ok:X.Ok
 os:s.os=X.s₀.os
 bare:AllBare s.gens
 base:Un X.fs X.ex X.H₀ H X.s₀.heap s.heap
 loc:∃m,s.heap.Ns X.env.locals m/\∀(i:Nat) (x:Str) (v:V),X.N[i]?=some x->σ[i]?=some (some v)->Vis X.env.scope x->∃u,RelV v u/\Look X.env s.heap m x u
 cell:∀x c,X.env.cells.lookup x=some c->∃v,s.heap.IsCell c v
 free:H X.env.locals=none
 freeC:∀x c,X.env.cells.lookup x=some c->H c=none
 pin:∀p∈X.pn++pins,s.heap.get? p.1=some p.2/\H p.1=none/\p.1≠X.env.locals/\p.1∉X.fs/\∀v,p.2.data≠.cell v
 hok:HOk X.prog X.w H s.heap
 len:σ.length=X.N.length
section
variable {X:Cx} {pins:List (Addr×Obj)} {σ:List (Option V)} {H H':Hp} {s:Shared} {h':Heap}
theorem Cx.Ok.nofr (ok:X.Ok) {o:Obj} (e:X.base.get? b=some o):b∉X.fs:=fun hb=>by
 have:=(ok.funs.mem hb).1;rw [e] at this;cases this
theorem Inv.bs (I:Inv X pins σ H s):∀b o,X.base.get? b=some o->s.heap.get? b=some o/\H b=none:=fun b o e =>
 ⟨I.base.keep b o (I.ok.bs b o e).1 (I.ok.bs b o e).2 (I.ok.nofr e) (I.ok.noex b o e),I.base.free b o (I.ok.bs b o e).1 (I.ok.bs b o e).2 (I.ok.noex b o e)⟩
theorem Inv.bk (I:Inv X pins σ H s):∀b o,X.base.get? b=some o->s.heap.get? b=some o:=fun b o e=>(I.bs b o e).1
theorem Inv.mod (I:Inv X pins σ H s):Mod X.K X.mg X.base:=I.ok.mod
theorem Inv.kIn (I:Inv X pins σ H s):X.K.In s.heap:=I.ok.mod.kin.keeps I.bk
theorem Inv.nolimit (I:Inv X pins σ H s):s.heap.NoLimit:=I.ok.mod.nolimit.keeps I.bk
theorem Inv.lt (I:Inv X pins σ H s):X.env.locals<s.heap.objs.size:=let ⟨_,hn,_⟩:=I.loc;hn.lt
theorem Inv.sz (I:Inv X pins σ H s):X.s₀.heap.objs.size<=s.heap.objs.size:=qAY I.ok.above (qB4 I.lt)
theorem Inv.nofs (I:Inv X pins σ H s) (h:s.heap.objs.size<=a):a∉X.fs:=fun hb=>by
 obtain ⟨_,o,ho,_⟩:=I.ok.funs.mem hb;exact absurd (qAp (qAN ho) (qAY I.sz h)) (qAx _)
theorem Inv.cne (I:Inv X pins σ H s):∀x c,X.env.cells.lookup x=some c->c≠X.env.locals:=fun x c e z=>by
 obtain ⟨v,o,ho,hd⟩:=I.cell x c e;obtain ⟨m,⟨o',es,ep,ho',hd',_⟩,_⟩:=I.loc;rw [z,ho'] at ho;cases ho;rw [hd'] at hd;cases hd
theorem Inv.funs (I:Inv X pins σ H s):s.heap.FunFrames X.base X.outer:=by
 have all:∀(l:List Env),(∀b∈frs l,b∈X.fs)->X.s₀.heap.FunFrames X.base l->s.heap.FunFrames X.base l:=by
  intro l
  induction l with
  | nil=>intro _ _;trivial
  | cons env r ih =>
   intro hs hl;obtain ⟨hk,⟨L,o,hf,hn,ho,hd⟩,hr⟩:=hl;have hL:L∈X.fs:=hs L (by unfold frs;rw [qBp,hf];exact qAa);obtain ⟨sl,e⟩:=I.base.slot L o ho (I.ok.frf L hL) hL fun z=>I.ok.exfs L z hL;exact ⟨hk,⟨L,_,hf,hn,e,hd⟩,ih (fun b hb=>hs b (by unfold frs;rw [qBp,hf];exact qAT _ hb)) hr⟩
 exact all X.outer (fun _ hb=>hb) I.ok.funs
theorem Inv.stack (I:Inv X pins σ H s):s.heap.FunFrames X.base X.stack:=by
 rcases I.ok.stk with e| ⟨e,hf⟩
 ·rw [e];exact I.funs
 ·rw [e];obtain ⟨m,hn,_⟩:=I.loc;refine .cons (by rw [I.ok.kind];decide) hf hn ?_ I.funs;exact Heap.get?_none_of_le (qAY I.ok.bsz I.ok.above)
theorem Inv.stkSub (I:Inv X pins σ H s):∀b∈frs X.stack,b∈X.env.locals::X.fs:=fun b hb=>by
 rcases I.ok.stk with e| ⟨e,hf⟩
 ·rw [e] at hb;exact qAT _ hb
 ·rw [e] at hb;unfold frs at hb;rw [qBp,hf] at hb;exact hb
theorem Inv.stkFree (I:Inv X pins σ H s):∀b∈frs X.stack,H b=none:=fun b hb=>by
 rcases qAP.mp (I.stkSub b hb) with e| hb
 ·rw [e];exact I.free
 ·obtain ⟨_,o,ho,_⟩:=I.ok.funs.mem hb;exact I.base.free b o ho (I.ok.frf b hb) fun z=>I.ok.exfs b z hb
theorem Inv.step {g':Array GenState} {t':Nat} {d':Drawn} {ch:List Addr} (I:Inv X pins σ H s)
  (hch:∀b∈ch,(b∈X.ex\/X.s₀.heap.objs.size<=b)/\b≠X.env.locals/\(∀x c,X.env.cells.lookup x=some c->c≠b)/\∀p∈X.pn++pins,p.1≠b)
  (keep:∀b o,b≠X.env.locals->b∉X.fs->b∉ch->s.heap.get? b=some o->H b=none->h'.get? b=some o)
  (slot:∀b o,b≠X.env.locals->b∈X.fs->b∉ch->s.heap.get? b=some o->H b=none->∃sl,h'.get? b=some {o with slots:=sl}) (free:∀b o,b∉ch->s.heap.get? b=some o->H b=none->H' b=none)
  (there:∀b o,b∉ch->s.heap.get? b=some o->∃o',h'.get? b=some o')
  (tups:∀b xs,H b=some (.tup xs)->H' b=some (.tup xs)) (frzs:∀b o u,H b=some (.frz o u)->H' b=some (.frz o u)) (tbls:∀b ps,H b=some (.tbl ps)->∃more,H' b=some (.tbl (ps++more)))
  (ns:∀m,s.heap.Ns X.env.locals m->h'.Ns X.env.locals m) (hok:HOk X.prog X.w H' h') (hg:AllBare g') :
  Inv X pins σ H' {s with heap:=h',gens:=g',drawn:=d',toks:=t'}:=by
 have neL:∀b o,X.s₀.heap.get? b=some o->b≠X.env.locals:=fun b o e=>qAS (qAp (qAN e) I.ok.above)
 have neC:∀b o,X.s₀.heap.get? b=some o->b∉X.ex->b∉ch:=fun b o e hx hb=>by
  rcases (hch b hb).1 with z| z
  ·exact hx z
  ·exact absurd (qAp (qAN e) z) (qAx _)
 have cellK:∀x c,X.env.cells.lookup x=some c->∀v,s.heap.IsCell c v->h'.IsCell c v:=fun x c e v ⟨o,ho,hd⟩=>by
  have nch:c∉ch:=fun z=>(hch c z).2.2.1 x c e rfl
  by_cases hc:c∈X.fs
  ·obtain ⟨sl,q⟩:=slot c o (I.cne x c e) hc nch ho (I.freeC x c e);exact ⟨_,q,hd⟩
  ·exact ⟨o,keep c o (I.cne x c e) hc nch ho (I.freeC x c e),hd⟩
 refine ⟨I.ok,I.os,hg,⟨fun b o e n hb hx=>?_,fun b o e n hb hx=>?_,fun b o e n hx=>?_,fun b o e hx=>?_,fun b xs e=>tups b xs (I.base.tups b xs e),fun b o xs e=>frzs b o xs (I.base.frzs b o xs e),fun b ps e=>?_⟩,?_,fun x c e=>?_,?_,fun x c e=>?_,fun p hp=>?_,hok,I.len⟩
 ·exact keep b o (neL b o e) hb (neC b o e hx) (I.base.keep b o e n hb hx) (I.base.free b o e n hx)
 ·obtain ⟨sl,e1⟩:=I.base.slot b o e n hb hx;obtain ⟨sl',e2⟩:=slot b _ (neL b o e) hb (neC b o e hx) e1 (I.base.free b o e n hx);exact ⟨sl',e2⟩
 ·obtain ⟨o',e1⟩:=I.base.there b o e hx;exact free b o' (neC b o e hx) e1 (I.base.free b o e n hx)
 ·obtain ⟨o',e1⟩:=I.base.there b o e hx;exact there b o' (neC b o e hx) e1
 ·obtain ⟨m1,e1⟩:=I.base.tbls b ps e;obtain ⟨m2,e2⟩:=tbls b _ e1;exact ⟨m1++m2,by rw [e2,Array.append_assoc]⟩
 ·obtain ⟨m,hn,hl⟩:=I.loc;refine ⟨m,ns m hn,fun i x v e1 e2 e3=>?_⟩;obtain ⟨u,r,l⟩:=hl i x v e1 e2 e3;refine ⟨u,r,?_⟩;rcases l with l| ⟨k,c,e,z⟩
  ·exact .inl l
  ·exact .inr ⟨k,c,e,cellK x c e _ z⟩
 ·obtain ⟨v,z⟩:=I.cell x c e;exact ⟨v,cellK x c e v z⟩
 ·obtain ⟨m,⟨o,_,_,ho,_⟩,_⟩:=I.loc;exact free _ o (fun z=>(hch _ z).2.1 rfl) ho I.free
 ·obtain ⟨v,o,ho,hd⟩:=I.cell x c e;exact free c o (fun z=>(hch c z).2.2.1 x c e rfl) ho (I.freeC x c e)
 ·obtain ⟨e,n,ne,nf,d⟩:=I.pin p hp;have nch:p.1∉ch:=fun z=>(hch p.1 z).2.2.2 p hp rfl;exact ⟨keep p.1 p.2 ne nf nch e n,free p.1 p.2 nch e n,ne,nf,d⟩
theorem Inv.un {t':Nat} (I:Inv X pins σ H s) (u:Un X.fs [] H H' s.heap h') (hok:HOk X.prog X.w H' h'):Inv X pins σ H' {s with heap:=h',toks:=t'}:=by
 obtain ⟨m,⟨o,es,ep,ho,r⟩,_⟩:=id I.loc;obtain ⟨sl,hL⟩:=u.any ho I.free (by simp)
 exact I.step (g':=s.gens) (d':=s.drawn) (ch:=[]) (fun _ z=>nomatch z) (fun b o _ hb _ e n=>u.keep b o e n hb (by simp)) (fun b o _ hb _ e n=>u.slot b o e n hb (by simp)) (fun b o _ e n=>u.free b o e n (by simp)) (fun b o _ e=>u.there b o e (by simp)) u.tups u.frzs u.tbls (fun m' hm=>by
  obtain ⟨o',es',ep',ho',r'⟩:=hm;rw [ho] at ho';cases ho';exact ⟨_,es',ep',hL,r'⟩) hok I.bare
theorem Inv.call {g':Array GenState} {t':Nat} {d':Drawn} {ch:List Addr} (I:Inv X pins σ H s) (u:Un (frs X.stack) ch H H' s.heap h') (hok:HOk X.prog X.w H' h') (hg:AllBare g')
  (hch:∀b∈ch,(b∈X.ex\/X.s₀.heap.objs.size<=b)/\b≠X.env.locals/\(∀x c,X.env.cells.lookup x=some c->c≠b)/\∀p∈X.pn++pins,p.1≠b) :
  Inv X pins σ H' {s with heap:=h',gens:=g',drawn:=d',toks:=t'}:=by
 obtain ⟨m,⟨o,es,ep,ho,r⟩,_⟩:=id I.loc;obtain ⟨sl,hL⟩:=u.any ho I.free fun z=>(hch _ z).2.1 rfl
 exact I.step (ch:=ch) hch (fun b o hL hb hc e n=>u.keep b o e n (fun z=>(qAP.mp (I.stkSub b z)).elim hL hb) hc) (fun b o _ _ hc e n=>u.any e n hc) (fun b o hc e n=>u.free b o e n hc) (fun b o hc e=>u.there b o e hc) u.tups u.frzs u.tbls (fun m' hm=>by
  obtain ⟨o',es',ep',ho',r'⟩:=hm;rw [ho] at ho';cases ho';exact ⟨_,es',ep',hL,r'⟩) hok hg
theorem Inv.turned {t':Nat} {it:Addr} (I:Inv X pins σ H s) (k:∀b o,b≠it->s.heap.get? b=some o->h'.get? b=some o) (hn:H it=none) (hL:it≠X.env.locals)
  (h1:it∈X.ex\/X.s₀.heap.objs.size<=it) (h2:∀x c,X.env.cells.lookup x=some c->c≠it) (h3:∀p∈X.pn++pins,p.1≠it):Inv X pins σ H {s with heap:=h',toks:=t'}:=by
 have nit:∀b u,H b=some u->b≠it:=fun b u e z=>by rw [z,hn] at e;cases e
 refine I.step (g':=s.gens) (d':=s.drawn) (ch:=[it]) (fun b hb=>?_) (fun b o _ _ hc e _=>k b o (fun z=>hc (by simp [z])) e) (fun b o _ _ hc e _=>⟨o.slots,k b o (fun z=>hc (by simp [z])) e⟩) (fun _ _ _ _ n=>n)
  (fun b o hc e=>⟨o,k b o (fun z=>hc (by simp [z])) e⟩) (fun _ _ e=>e) (fun _ _ _ e=>e) (fun b ps e=>⟨#[],by rw [e];simp⟩) (fun m hm=>?_) (fun b u e=>?_) I.bare
 ·have e:b=it:=by simpa using hb
  subst e;exact ⟨h1,hL,h2,h3⟩
 ·obtain ⟨o,es,ep,ho,r⟩:=hm;exact ⟨o,es,ep,k _ o (qAu hL) ho,r⟩
 ·refine (I.hok b u e).stay (fun c v hc q=>k c v ?_ q) (fun _ q=>q) fun _ _ q=>q;rcases hc with z| z
  ·rw [z];exact nit b u e
  ·exact nit c _ z
theorem Inv.tok (I:Inv X pins σ H s) (t:Nat):Inv X pins σ H {s with toks:=t}:=I.un (h':=s.heap) (t':=t) Un.refl I.hok
theorem Inv.kept {t':Nat} (I:Inv X pins σ H s) (k:∀b u,s.heap.get? b=some u->h'.get? b=some u):Inv X pins σ H {s with heap:=h',toks:=t'}:=I.un (Un.kept k) (I.hok.kept k)
theorem Inv.laid {a:Addr} {o:HO} {t':Nat} (I:Inv X pins σ H s) (k:∀b u,s.heap.get? b=some u->h'.get? b=some u) (hp:s.heap.objs.size<=a) (new:zA7 X.prog X.w (upd H a o) h' a o) :
  Inv X pins σ (upd H a o) {s with heap:=h',toks:=t'}:=I.un (Un.laid k hp (I.hok.fresh hp)) (I.hok.laid k hp new)
theorem Inv.write {x e:Addr} {t':Nat} (I:Inv X pins σ H s) (mu:Mut (H x)) (he:e=x\/H e=some (.own x)) (k:∀b u,b≠e->s.heap.get? b=some u->h'.get? b=some u) (heo:∃u,h'.get? e=some u)
  (new:zA7 X.prog X.w (upd H x o) h' x o):Inv X pins σ (upd H x o) {s with heap:=h',toks:=t'}:=I.un (Un.write mu he k heo) (I.hok.write mu he k heo new)
theorem Inv.pins_of {pins':List (Addr×Obj)} (I:Inv X pins σ H s) (h:∀p∈pins',s.heap.get? p.1=some p.2/\H p.1=none/\p.1≠X.env.locals/\p.1∉X.fs/\∀v,p.2.data≠.cell v):Inv X pins' σ H s :=
 ⟨I.ok,I.os,I.bare,I.base,I.loc,I.cell,I.free,I.freeC,fun p hp=>(qAK.mp hp).elim (fun z=>I.pin p (qAc _ z)) (h p),I.hok,I.len⟩
theorem nodup_ix {N:List Str} (hN:N.Nodup) {j:Nat} (a:N[i]?=some x) (b:N[j]?=some x):i=j:=by
 obtain ⟨h1,e1⟩:=qAV.mp a;obtain ⟨h2,e2⟩:=qAV.mp b;exact (List.getElem_inj hN).mp (e1.trans e2.symm)
theorem store_ok2 {M:Model} {E:Value->Shared->Prop} {Q:Unit->Shared->Prop} (I:Inv X pins σ H s) (hN:X.N.Nodup) (hi:X.N[i]?=some x) (hx:Loc X.env.scope x) (r:RelV v u)
  (h:∀s',Inv X pins (σ.set i (some v)) H s'->(∃a,Heap.SameBut a s.heap s'.heap/\(a=X.env.locals\/X.env.cells.lookup x=some a))->Q () s') (hf:X.fn x=true\/X.env.scope.names.lookup x=some .local:=by first| exact .inl rfl| exact .inr rfl| assumption):wpAny M A (storeName X.env x u) Q E s:=by
 obtain ⟨m,hn,hl⟩:=id I.loc;have hcls:(X.env.scope.kind== .class||(X.env.scope.kind== .module&&X.env.locals != X.env.globals))=false:=by rw [I.ok.kind];rfl
 have hiσ:i<σ.length:=by rw [I.len];exact (qAV.mp hi).1
 have cne:=I.cne
 have tracked:∀{a:Addr} {h':Heap},(∃o,s.heap.get? a=some o/\H a=none)->Heap.SameBut a s.heap h'->HOk X.prog X.w H h':=fun {a h'} ha hs b ob e=>by
  obtain ⟨_,_,hfree⟩:=ha;refine (I.hok b ob e).stay (fun c w' hc q=>(hs.2 c ?_).trans q) (fun _ q=>q) fun _ _ q=>q;rintro rfl;rcases hc with rfl| hc
  ·rw [hfree] at e;cases e
  ·rw [hfree] at hc;cases hc
 rcases hx with hk| hk
 ·refine wpAny_storeName_local hk hn (fun h' hn' hs=>?_) hcls;obtain ⟨oL,_,_,hoL,_⟩:=id hn;refine h _ ⟨I.ok,I.os,I.bare,⟨fun b o e n hb hx=>?_,fun b o e n hb hx=>?_,I.base.free,fun b o e hx=>?_,I.base.tups,I.base.frzs,I.base.tbls⟩,⟨_,hn',fun j y v' e1 e2 e3=>?_⟩,fun y c e=>?_,I.free,I.freeC,fun p hp=>?_,tracked ⟨oL,hoL,I.free⟩ hs,by simpa using I.len⟩ ⟨_,hs,.inl rfl⟩
  ·exact (hs.2 b (qAS (qAp (qAN e) I.ok.above))).trans (I.base.keep b o e n hb hx)
  ·obtain ⟨sl,e1⟩:=I.base.slot b o e n hb hx;exact ⟨sl,(hs.2 b (qAS (qAp (qAN e) I.ok.above))).trans e1⟩
  ·obtain ⟨o',e1⟩:=I.base.there b o e hx;exact ⟨o',(hs.2 b (qAS (qAp (qAN e) I.ok.above))).trans e1⟩
  ·by_cases hj:j=i
   ·subst hj;rw [hi] at e1;cases e1;rw [qDR hiσ] at e2
    cases e2
    exact ⟨u,r,.inl ⟨hk,by simp⟩⟩
   ·rw [List.getElem?_set_ne (qAu hj)] at e2;obtain ⟨u',r',q⟩:=hl j y v' e1 e2 e3;refine ⟨u',r',?_⟩;rcases q with ⟨k,e⟩| ⟨k,c,e,z⟩
    ·refine .inl ⟨k,?_⟩;have:y≠x:=fun e=>hj (nodup_ix hN e1 (e▸hi));simp [this,e]
    ·exact .inr ⟨k,c,e,z.sameBut hs (cne y c e)⟩
  ·obtain ⟨w',z⟩:=I.cell y c e;exact ⟨w',z.sameBut hs (cne y c e)⟩
  ·obtain ⟨e,n,ne,nf,d⟩:=I.pin p hp;exact ⟨(hs.2 p.1 ne).trans e,n,ne,nf,d⟩
 ·have hfn:X.fn x=true:=by
   rcases hf with z| z
   ·exact z
   ·rw [z] at hk;cases hk
  obtain ⟨c,hc⟩:=I.ok.has x (.inl hk);obtain ⟨w',z⟩:=I.cell x c hc;refine wpAny_storeName_cell I.ok.kind hk hc z (fun h' hc' hs=>?_);obtain ⟨oc,hoc,hocd⟩:=id z;refine h {s with heap:=h'} ⟨I.ok,I.os,I.bare,⟨fun b o e n hb hx=>?_,fun b o e n hb hx=>?_,I.base.free,fun b o e hx=>?_,I.base.tups,I.base.frzs,I.base.tbls⟩,⟨m,hn.sameBut hs (qAu (cne x c hc)),fun j y v' e1 e2 e3=>?_⟩,fun y c' e=>?_,I.free,I.freeC,fun p hp=>?_,tracked ⟨oc,hoc,I.freeC x c hc⟩ hs,by simpa using I.len⟩ ⟨c,hs,.inr hc⟩
  ·exact (hs.2 b (qAS (qAp (qAN e) (I.ok.cab x c hfn hc)))).trans (I.base.keep b o e n hb hx)
  ·obtain ⟨sl,e1⟩:=I.base.slot b o e n hb hx;exact ⟨sl,(hs.2 b (qAS (qAp (qAN e) (I.ok.cab x c hfn hc)))).trans e1⟩
  ·obtain ⟨o',e1⟩:=I.base.there b o e hx;exact ⟨o',(hs.2 b (qAS (qAp (qAN e) (I.ok.cab x c hfn hc)))).trans e1⟩
  ·by_cases hj:j=i
   ·subst hj;rw [hi] at e1;cases e1;rw [qDR hiσ] at e2
    cases e2
    exact ⟨u,r,.inr ⟨.inl hk,c,hc,hc'⟩⟩
   ·rw [List.getElem?_set_ne (qAu hj)] at e2;obtain ⟨u',r',q⟩:=hl j y v' e1 e2 e3;refine ⟨u',r',?_⟩;rcases q with q| ⟨k,c',e,z'⟩
    ·exact .inl q
    ·refine .inr ⟨k,c',e,z'.sameBut hs ?_⟩;rintro rfl;exact hj (nodup_ix hN e1 (I.ok.inj _ _ _ e hc▸hi))
  ·by_cases hcc:c'=c
   ·subst hcc;exact ⟨_,hc'⟩
   ·obtain ⟨w2,z2⟩:=I.cell y c' e;exact ⟨w2,z2.sameBut hs hcc⟩
  ·obtain ⟨e,n,ne,nf,d⟩:=I.pin p hp;refine ⟨(hs.2 p.1 ?_).trans e,n,ne,nf,d⟩;intro q;rw [q,hoc] at e;have q':oc=p.2:=qAZ e;exact d w' (by rw [<-q'];exact hocd)
theorem store_ok {M:Model} {E:Value->Shared->Prop} {Q:Unit->Shared->Prop} (I:Inv X pins σ H s) (hN:X.N.Nodup) (hi:X.N[i]?=some x) (hx:Loc X.env.scope x) (r:RelV v u)
  (h:∀s',Inv X pins (σ.set i (some v)) H s'->Q () s') (hf:X.fn x=true\/X.env.scope.names.lookup x=some .local:=by first| exact .inl rfl| exact .inr rfl| assumption):wpAny M A (storeName X.env x u) Q E s :=
 store_ok2 I hN hi hx r (fun s' I' _=>h s' I') hf
theorem Inv.call' {s':Shared} {ch:List Addr} (I:Inv X pins σ H s) (ho:s'.os=s.os) (u:Un (frs X.stack) ch H H' s.heap s'.heap) (hok:HOk X.prog X.w H' s'.heap) (hg:AllBare s'.gens)
  (hch:∀b∈ch,(b∈X.ex\/X.s₀.heap.objs.size<=b)/\b≠X.env.locals/\(∀x c,X.env.cells.lookup x=some c->c≠b)/\∀p∈X.pn++pins,p.1≠b):Inv X pins σ H' s':=by
 obtain ⟨h',g',d',t',o'⟩:=s';have e:o'=s.os:=ho;subst e;exact I.call (g':=g') (t':=t') (d':=d') u hok hg hch
end
abbrev XK:=Value->Option Addr->Hp->Prop
abbrev St:=List (Option V)
variable {σ:St}
abbrev VK:=V->Hp->Prop
abbrev TE:=St->Hp->VK->Prop
variable {t:TE}
abbrev TT:=St->Hp->(Bool->Hp->Prop)->Prop
abbrev TA:=St->Hp->(List V->Hp->Prop)->Prop
structure Ends where
 nx:St->Hp->Prop
 rt:VK
 bk:St->Hp->Prop:=fun _ _=>False
 ct:St->Hp->Prop:=fun _ _=>False
variable {D:Ends}
abbrev TS:=Ends->St->Hp->Prop
variable {tb:TS}
def EP (X:Cx) (pins:List (Addr×Obj)) (σ:St) (Q:VK) (u:Value) (s':Shared):Prop:=∃v H',Inv X pins σ H' s'/\RelV v u/\Q v H'
def TP (X:Cx) (pins:List (Addr×Obj)) (σ:St) (Q:Bool->Hp->Prop) (b:Bool) (s':Shared):Prop:=∃H',Inv X pins σ H' s'/\Q b H'
def AP (X:Cx) (pins:List (Addr×Obj)) (σ:St) (Q:List V->Hp->Prop) (us:List Value) (s':Shared):Prop:=∃vs H',Inv X pins σ H' s'/\Vals vs us/\Q vs H'
def SP (X:Cx) (pins:List (Addr×Obj)) (D:Ends) (f:Flow) (s':Shared):Prop :=
 match f with
 | .next=>∃σ' H',Inv X pins σ' H' s'/\D.nx σ' H'
 | .brk=>∃σ' H',Inv X pins σ' H' s'/\D.bk σ' H'
 | .cont=>∃σ' H',Inv X pins σ' H' s'/\D.ct σ' H'
 | .ret u=>∃v σ' H',Inv X pins σ' H' s'/\RelV v u/\D.rt v H'
def PE (X:Cx) (e:Expr) (t:TE):Prop :=
 ∀(pins:List (Addr×Obj)) (s:Shared) (σ:St) (H:Hp) (Q:VK),Inv X pins σ H s->t σ H Q->wpAny (model X.prog X.w) X.A (eval e X.env) (EP X pins σ Q) X.xe s
def PT (X:Cx) (e:Expr) (t:TT):Prop :=
 ∀(pins:List (Addr×Obj)) (s:Shared) (σ:St) (H:Hp) (Q:Bool->Hp->Prop),Inv X pins σ H s->t σ H Q->wpAny (model X.prog X.w) X.A (isTrue e X.env (eval e X.env)) (TP X pins σ Q) X.xe s
def PW (X:Cx) (e:Expr) (t:TT):Prop :=
 ∀(whole:Sem Value) (pins:List (Addr×Obj)) (s:Shared) (σ:St) (H:Hp) (Q:Bool->Hp->Prop),Inv X pins σ H s->t σ H Q->wpAny (model X.prog X.w) X.A (isTrue e X.env whole) (TP X pins σ Q) X.xe s
theorem PW.pt {t:TT} (h:PW X e t):PT X e t:=h _
def PA (X:Cx) (es:List Expr) (t:TA):Prop :=
 ∀(pos:Pos) (pins:List (Addr×Obj)) (s:Shared) (σ:St) (H:Hp) (Q:List V->Hp->Prop),Inv X pins σ H s->t σ H Q->wpAny (model X.prog X.w) X.A (spliced (backTo pos (starEach es X.env))) (AP X pins σ Q) X.xe s
def PS (X:Cx) (st:Stmt) (t:TS):Prop :=
 ∀(pins:List (Addr×Obj)) (s:Shared) (σ:St) (H:Hp) (D:Ends),Inv X pins σ H s->t D σ H->wpAny (model X.prog X.w) X.A (exec st X.env) (SP X pins D) X.xe s
def PSs (X:Cx) (st:List Stmt) (t:TS):Prop :=
 ∀(pins:List (Addr×Obj)) (s:Shared) (σ:St) (H:Hp) (D:Ends),Inv X pins σ H s->t D σ H->wpAny (model X.prog X.w) X.A (execs st X.env) (SP X pins D) X.xe s
theorem thn {α:Type} {t:Sem α} {Q Q':α->Shared->Prop} {M:Model} {E:Value->Shared->Prop} (h:wpAny M A t Q E s) (hQ:∀a s,Q a s->Q' a s):wpAny M A t Q' E s:=qAw h hQ fun _ _ x=>x
section
variable {X:Cx}
def tVar (i:Nat):TE:=fun σ H Q=>∃v,σ[i]?=some (some v)/\Q v H
def tC (v:V):TE:=fun _ H Q=>Q v H
theorem pe_var {pos:Pos} (hN:X.N[i]?=some x) (hv:Vis X.env.scope x) (hd:(x==("__debug__" : Str))=false:=by decide) (hcd:(x==("__classdict__" : Str))=false:=by decide):PE X (.Name x pos) (tVar i):=by
 intro pins s σ H Q I h;obtain ⟨v,e,h⟩:=h;obtain ⟨m,hn,hl⟩:=I.loc;obtain ⟨u,r,l⟩:=hl i x v hN e hv;have fin:EP X pins σ Q u s:=⟨v,H,I,r,h⟩;rcases l with ⟨hk,hm⟩| ⟨hk,c,hc,hcell⟩
 ·exact wpAny_Name (wpAny_loadName_local I.ok.kind hk hn hm fin) hd
 ·rcases hk with hk| hk
  ·exact wpAny_Name (wpAny_loadName_cell I.ok.kind hk hc hcell fin) hd
  ·exact wpAny_Name (wpAny_loadName_free I.ok.kind hk hc hcell fin hcd) hd
theorem zAf {i j pos}:PE X (.Constant (.int i) j pos) (tC (.int i)):=fun _ _ _ H _ I h=>wpAny_Constant_int ⟨.int i,H,I.tok _,⟨_,rfl⟩,h⟩
theorem pe_bl {b j pos}:PE X (.Constant (.bool b) j pos) (tC (.bl b)):=fun _ _ _ H _ I h=>Constant_bool ⟨.bl b,H,I,rfl,h⟩
theorem zB1 {x j pos}:PE X (.Constant (.str x) j pos) (tC (.str x)):=fun _ _ _ H _ I h=>Calls.Constant_str ⟨.str x,H,I.tok _,⟨_,rfl⟩,h⟩
def Gl (X:Cx) (x:Str):Prop:=X.env.kindOf x=some .globalImplicit
theorem ld_glob {E:Value->Shared->Prop} {pos:Pos} {Q:Value->Shared->Prop} (I:Inv X pins σ H s) (hg:Gl X x) (hm:X.mg x=some u) (h:Q u s)
  (hd:(x==("__debug__" : Str))=false:=by decide):wpAny (model X.prog X.w) X.A (eval (.Name x pos) X.env) Q E s :=
 Calls.Name_function_global I.ok.kind hg (Calls.loadGlobal_global (by rw [I.ok.glob];exact I.mod.glob.keeps I.bk) hm h) hd
theorem zF6 {E:Value->Shared->Prop} {pos:Pos} {Q:Value->Shared->Prop} (I:Inv X pins σ H s) (hg:Gl X x) (hm:X.mg x=none) (hv:bootBuiltins x=some u) (h:Q u s)
  (hn:x≠ "__name__" := by decide) (hd:(x==("__debug__" : Str))=false:=by decide):wpAny (model X.prog X.w) X.A (eval (.Name x pos) X.env) Q E s:=by
 obtain ⟨mb,h1,h2⟩:=I.mod.blt;exact Calls.Name_function_global I.ok.kind hg (Calls.loadGlobal_builtin (by rw [I.ok.glob];exact I.mod.glob.keeps I.bk) hm (by rw [I.ok.blt];exact h1.keeps I.bk) ((h2 x hn).trans hv) h) hd
theorem pe_glob {v:V} {pos:Pos} (hg:Gl X x) (hm:X.mg x=some u) (r:RelV v u) (hd:(x==("__debug__" : Str))=false:=by decide):PE X (.Name x pos) (tC v) :=
 fun _ _ _ H _ I h=>ld_glob I hg hm ⟨v,H,I,r,h⟩ hd
theorem zC2 {pos:Pos} (hg:Gl X x) (hm:X.mg x=none) (hv:bootBuiltins x=some u) (r:RelV v u) (hn:x≠ "__name__" := by decide) (hd:(x==("__debug__" : Str))=false:=by decide):PE X (.Name x pos) (tC v) :=
 fun _ _ _ H _ I h=>zF6 I hg hm hv ⟨v,H,I,r,h⟩ hn hd
variable {a b:Expr} {ta tb:TE} {pos:Pos}
def PC (X:Cx) (op:CmpOp) (a b:Expr) (t:TE):Prop :=
 ∀(pins:List (Addr×Obj)) (s:Shared) (σ:St) (H:Hp) (Q:VK),Inv X pins σ H s->t σ H Q ->
  wpAny (model X.prog X.w) X.A (eval a X.env) (fun v s₁=>wpAny (model X.prog X.w) X.A (eval b X.env) (fun u s₂=>wpAny (model X.prog X.w) X.A (compareOp op v u) (EP X pins σ Q) X.xe s₂) X.xe s₁) X.xe s
def tB (t:TE):TT:=fun σ H Q=>t σ H fun x H1=>∃c,x= .bl c/\Q c H1
theorem pe_cmp (h:PC X op a b t) (h1:behindInMarks op b=false:=by first| exact nobehind _ (by decide) (by decide)| rfl):PE X (.Compare a [op] [b] pos) t:=fun pins s σ H Q I hw=>wpAny_Compare1 (h pins s σ H Q I hw) h1
theorem zD0 (h:PC X op a b t) (h1:behindInMarks op b=false:=by first| exact nobehind _ (by decide) (by decide)| rfl):PT X (.Compare a [op] [b] pos) (tB t):=by
 intro pins s σ H Q I hw;refine wpAny_isTrue_Compare1 (thn (h pins s σ H _ I hw) fun v s1 h1=>thn h1 fun u s2 h2=>thn h2 fun c s3 ⟨x,H1,I1,r1,q1⟩=>?_) h1;obtain ⟨d,rfl,q⟩:=q1
 cases r1
 exact qBG ⟨H1,I1,q⟩
theorem zCo (h:PE X e t) (he:∀whole,isTrue e X.env whole=(do let v<-whole;standAt e.pos;holding [v] (truthy v)):=by intro _;rfl):PT X e (tB t):=by
 intro pins s σ H Q I hw;refine isTrue_plain (thn (h pins s σ H _ I hw) fun v s1 ⟨x,H1,I1,r1,q1⟩=>?_) (he _);obtain ⟨d,rfl,q⟩:=q1
 cases r1
 exact qBG ⟨H1,I1,q⟩
variable {tA tB':TT} {rest:List Expr}
def tAnd (t u:TT):TT:=fun σ H Q=>t σ H fun c H1=>if c=true then u σ H1 Q else Q false H1
def tOr (t u:TT):TT:=fun σ H Q=>t σ H fun c H1=>if c=true then Q true H1 else u σ H1 Q
def tNot (t:TT):TT:=fun σ H Q=>t σ H fun c H1=>Q (!c) H1
theorem zFp (ha:PT X a tA):PW X (.BoolOp .And [a] pos) tA:=by
 intro wh pins s σ H Q I h;refine isTrue_and (thn (ha pins s σ H Q I h) fun c s1 e=>?_)
 cases c with
 | true=>exact isTrue_and_nil e
 | false=>exact e
theorem zH9 (ha:PT X a tA):PW X (.BoolOp .Or [a] pos) tA:=by
 intro wh pins s σ H Q I h;refine isTrue_or (thn (ha pins s σ H Q I h) fun c s1 e=>?_)
 cases c with
 | false=>exact isTrue_or_nil e
 | true=>exact e
theorem zIa (ha:PT X a tA) (hb:PW X (.BoolOp .And (b::rest) pos) tB'):PW X (.BoolOp .And (a::b::rest) pos) (tAnd tA tB'):=by
 intro wh pins s σ H Q I h;refine isTrue_and (thn (ha pins s σ H _ I h) fun c s1 ⟨H1,I1,q1⟩=>?_)
 cases c with
 | true=>exact hb wh pins s1 σ H1 Q I1 q1
 | false=>exact ⟨H1,I1,q1⟩
theorem pw_or (ha:PT X a tA) (hb:PW X (.BoolOp .Or (b::rest) pos) tB'):PW X (.BoolOp .Or (a::b::rest) pos) (tOr tA tB'):=by
 intro wh pins s σ H Q I h;refine isTrue_or (thn (ha pins s σ H _ I h) fun c s1 ⟨H1,I1,q1⟩=>?_)
 cases c with
 | true=>exact ⟨H1,I1,q1⟩
 | false=>exact hb wh pins s1 σ H1 Q I1 q1
theorem zCf (ha:PT X a tA):PT X (.UnaryOp .Not a pos) (tNot tA):=by
 intro pins s σ H Q I h;exact isTrue_not (ha pins s σ H (fun c H1=>Q (!c) H1) I h)
def tAndV (ta tb:TE):TE:=fun σ H Q=>ta σ H fun x H1=>∃c,x= .bl c/\if c=true then tb σ H1 Q else Q (.bl false) H1
def tOrV (ta tb:TE):TE:=fun σ H Q=>ta σ H fun x H1=>∃c,x= .bl c/\if c=true then Q (.bl true) H1 else tb σ H1 Q
def tNotV (ta:TE):TE:=fun σ H Q=>ta σ H fun x H1=>∃c,x= .bl c/\Q (.bl (!c)) H1
theorem zG6 {op} (h:PE X a t):PE X (.BoolOp op [a] pos) t:=fun pins s σ H Q I hw=>BoolOp_one (h pins s σ H Q I hw)
theorem zIb (ha:PE X a ta) (hb:PE X (.BoolOp .And (b::rest) pos) tb):PE X (.BoolOp .And (a::b::rest) pos) (tAndV ta tb):=by
 intro pins s σ H Q I h;refine BoolOp_and (thn (ha pins s σ H _ I h) fun v s1 ⟨x,H1,I1,r1,q1⟩=>?_);obtain ⟨c,rfl,q1⟩:=q1
 cases r1
 refine qBG ?_
 cases c with
 | true=>exact hb pins s1 σ H1 Q I1 q1
 | false=>exact ⟨.bl false,H1,I1,rfl,q1⟩
theorem pe_or (ha:PE X a ta) (hb:PE X (.BoolOp .Or (b::rest) pos) tb):PE X (.BoolOp .Or (a::b::rest) pos) (tOrV ta tb):=by
 intro pins s σ H Q I h;refine BoolOp_or (thn (ha pins s σ H _ I h) fun v s1 ⟨x,H1,I1,r1,q1⟩=>?_);obtain ⟨c,rfl,q1⟩:=q1
 cases r1
 refine qBG ?_
 cases c with
 | false=>exact hb pins s1 σ H1 Q I1 q1
 | true=>exact ⟨.bl true,H1,I1,rfl,q1⟩
theorem pe_not (ha:PE X a ta):PE X (.UnaryOp .Not a pos) (tNotV ta):=by
 intro pins s σ H Q I h;refine UnaryOp_ (thn (ha pins s σ H _ I h) fun v s1 ⟨x,H1,I1,r1,q1⟩=>?_);obtain ⟨c,rfl,q1⟩:=q1
 cases r1
 exact not_of (qBG ⟨.bl (!c),H1,I1,rfl,q1⟩)
def tIf (t:TT) (ta tb:TE):TE:=fun σ H Q=>t σ H fun c H1=>if c=true then ta σ H1 Q else tb σ H1 Q
theorem pe_ifExp {c:Expr} (hc:PT X c tA) (ha:PE X a ta) (hb:PE X b tb):PE X (.IfExp c a b pos) (tIf tA ta tb):=by
 intro pins s σ H Q I h;refine wpAny_IfExp (thn (hc pins s σ H _ I h) fun d s1 ⟨H1,I1,q1⟩=>?_)
 cases d with
 | true=>exact ha pins s1 σ H1 Q I1 q1
 | false=>exact hb pins s1 σ H1 Q I1 q1
end
def SqL (K:PySem.W.Frag) (H:Hp) (a:Addr) (xs:List V):Prop :=
 Rd H a (.lst xs) \/
  ∃(o:Obj) (its:Array Value) (n:Nat),K.lookup a=some o/\o.cls= .type "list" /\o.dict=none/\o.data= .seq its n/\its.size<=sizeLine/\Vals xs its.toList
def SqT (K:PySem.W.Frag) (H:Hp) (a:Addr) (xs:List V):Prop :=
 Rd H a (.tup xs) \/
  ∃(o:Obj) (its:Array Value) (n:Nat),K.lookup a=some o/\o.cls= .type "tuple" /\o.data= .seq its n/\its.size<=sizeLine/\Vals xs its.toList
def absV:Value->Option V
 | .none=>some .non
 | .bool b=>some (.bl b)
 | .int i _=>some (.int i)
 | .str x _=>some (.str x)
 | .bytes b _=>some (.byt b)
 | .float b _=>some (.flt b)
 | .ref a=>some (.ref a)
 | .type n=>some (.ty n)
 | _=>none
theorem RelV.abs {x:V} (r:RelV x u):absV u=some x:=by
 cases x with
 | non=>cases r;rfl
 | bl _=>cases r;rfl
 | int _=>obtain ⟨t,rfl⟩:=r;rfl
 | str _=>obtain ⟨t,rfl⟩:=r;rfl
 | byt _=>obtain ⟨t,rfl⟩:=r;rfl
 | flt _=>obtain ⟨t,rfl⟩:=r;rfl
 | ref _=>cases r;rfl
 | ty _=>cases r;rfl
theorem RelV.inj {x:V} (r:RelV x u) (q:RelV y u):x=y:=qAZ (r.abs.symm.trans q.abs)
theorem Vals.inj:∀{xs ys:List V} {us:List Value},Vals xs us->Vals ys us->xs=ys
 | _,_,_,.nil,.nil=>rfl
 | _,_,_,.cons r t,.cons r' t'=>by rw [r.inj r',Vals.inj t t']
section
variable {X:Cx} {pins:List (Addr×Obj)} {σ:St} {H:Hp} {s:Shared} {a:Addr} {xs ys:List V}
theorem SqL.of {K:PySem.W.Frag} (h:H a=some (.lst xs)):SqL K H a xs:=.inl (.inl h)
theorem SqT.of {K:PySem.W.Frag} (h:H a=some (.tup xs)):SqT K H a xs:=.inl (.inl h)
theorem Inv.list (I:Inv X pins σ H s) (h:SqL X.K H a xs):∃its:List Value,Vals xs its/\PlainL s.heap a its.toArray/\xs.length<=sizeLine:=by
 rcases h with h| ⟨o,its,n,hk,hc,hd,hs,hz,r⟩
 ·obtain ⟨z,its,n,r,e⟩:=h.ok I.hok;exact ⟨its,r,⟨_,n,e,rfl,rfl,rfl⟩,z⟩
 ·refine ⟨its.toList,r,⟨o,n,I.kIn a o hk,hc,hd,by simpa using hs⟩,?_⟩;have e:=r.length;simp only [qBM] at e;lia
theorem Inv.tuple (I:Inv X pins σ H s) (h:SqT X.K H a xs):∃its:List Value,Vals xs its/\IsTup s.heap a its.toArray/\xs.length<=sizeLine:=by
 rcases h with h| ⟨o,its,n,hk,hc,hs,hz,r⟩
 ·obtain ⟨z,its,r,p⟩:=h.ok I.hok;exact ⟨its,r,p,z⟩
 ·refine ⟨its.toList,r,⟨o,I.kIn a o hk,hc,n,by simpa using hs⟩,?_⟩;have e:=r.length;simp only [qBM] at e;lia
theorem Inv.list_inj (I:Inv X pins σ H s) (h:SqL X.K H a xs) (h':SqL X.K H a ys):xs=ys:=by
 obtain ⟨its,r,⟨o,n,e,_,_,d⟩,_⟩:=I.list h;obtain ⟨its',r',⟨o',n',e',_,_,d'⟩,_⟩:=I.list h';rw [e] at e';cases e';rw [d] at d';injection d' with d1 _;have:its=its':=by simpa using qAg Array.toList d1
 subst this;exact r.inj r'
theorem Inv.tuple_inj (I:Inv X pins σ H s) (h:SqT X.K H a xs) (h':SqT X.K H a ys):xs=ys:=by
 obtain ⟨its,r,⟨o,e,_,n,d⟩,_⟩:=I.tuple h;obtain ⟨its',r',⟨o',e',_,n',d'⟩,_⟩:=I.tuple h';rw [e] at e';cases e';rw [d] at d';injection d' with d1 _;have:its=its':=by simpa using qAg Array.toList d1
 subst this;exact r.inj r'
end
abbrev Cx.wish (X:Cx) (E:Value->Shared->Prop):Cx:={X with xe:=E}
abbrev Cx.nox (X:Cx):Cx:=X.wish fun _ _=>False
theorem Cx.Ok.wish (ok:X.Ok) (E:Value->Shared->Prop):(X.wish E).Ok :=
 ⟨ok.mod,ok.kind,ok.glob,ok.blt,ok.above,ok.inj,ok.has,ok.cab,ok.hd,ok.frames,ok.stk,ok.exf,ok.bs,ok.bsz,ok.noex,ok.exfs,ok.funs,ok.frf⟩
theorem Cx.Ok.unwish {E:Value->Shared->Prop} (ok:(X.wish E).Ok):X.Ok :=
 ⟨ok.mod,ok.kind,ok.glob,ok.blt,ok.above,ok.inj,ok.has,ok.cab,ok.hd,ok.frames,ok.stk,ok.exf,ok.bs,ok.bsz,ok.noex,ok.exfs,ok.funs,ok.frf⟩
section
variable {X:Cx} {pins:List (Addr×Obj)} {σ:St} {H:Hp} {s:Shared} {E:Value->Shared->Prop}
theorem Inv.wish (I:Inv X pins σ H s) (E:Value->Shared->Prop):Inv (X.wish E) pins σ H s:=⟨I.ok.wish E,I.os,I.bare,I.base,I.loc,I.cell,I.free,I.freeC,I.pin,I.hok,I.len⟩
theorem Inv.unwish (I:Inv (X.wish E) pins σ H s):Inv X pins σ H s:=⟨I.ok.unwish,I.os,I.bare,I.base,I.loc,I.cell,I.free,I.freeC,I.pin,I.hok,I.len⟩
theorem SP.unwish {f:Flow} {s':Shared} (h:SP (X.wish E) pins D f s'):SP X pins D f s':=by
 cases f with
 | next=>obtain ⟨σ',H',I,q⟩:=h;exact ⟨σ',H',I.unwish,q⟩
 | brk=>obtain ⟨σ',H',I,q⟩:=h;exact ⟨σ',H',I.unwish,q⟩
 | cont=>obtain ⟨σ',H',I,q⟩:=h;exact ⟨σ',H',I.unwish,q⟩
 | ret u=>obtain ⟨v,σ',H',I,r,q⟩:=h;exact ⟨v,σ',H',I.unwish,r,q⟩
theorem PSs.nox {st:List Stmt} {t:TS} (h:PSs X.nox st t):PSs X st t:=fun pins s σ H D I hw =>
 qAw (h pins s σ H D (I.wish _) hw) (fun _ _ q=>q.unwish) fun _ _ z=>False.elim z
end
section
variable {X:Cx} {st:Stmt} {rest:List Stmt} {t u:TS} {e:Expr} {te:TE} {pos:Pos}
def tNext:TS:=fun D σ H=>D.nx σ H
def tSeq (t u:TS):TS:=fun D σ H=>t {D with nx:=u D} σ H
theorem zAn:PSs X [] tNext:=fun _ _ σ H _ I h=>qC0 ⟨σ,H,I,h⟩
theorem zAc (h1:PS X st t) (h2:PSs X rest u):PSs X (st::rest) (tSeq t u):=by
 intro pins s σ H D I h;refine wpAny_execs_cons (thn (h1 pins s σ H {D with nx:=u D} I h) fun f s1 q=>?_)
 cases f with
 | next =>
  obtain ⟨σ',H',I',q⟩:=q;exact h2 pins s1 σ' H' D I' q
 | ret v=>exact q
 | brk=>exact q
 | cont=>exact q
theorem zAe (h1:PS X st t):PSs X [st] t:=by
 intro pins s σ H D I h;refine wpAny_execs_cons (thn (h1 pins s σ H D I h) fun f s1 q=>?_)
 cases f with
 | next=>exact qC0 q
 | ret v=>exact q
 | brk=>exact q
 | cont=>exact q
theorem Inv.quiet (I:Inv X pins σ H s):interactive X.env=false:=by simp [interactive,I.ok.kind]
def tDrop (te:TE):TS:=fun D σ H=>te σ H fun _ H1=>D.nx σ H1
theorem zA2 (he:PE X e te) (hs:swapsWith e none pos.line X.env=pure false:=by rfl):PS X (.Expr e pos) (tDrop te):=by
 intro pins s σ H D I h;exact wpAny_Expr_any (thn (he pins s σ H _ I h) fun v s1 ⟨x,H1,I1,r1,q1⟩=>⟨σ,H1,I1,q1⟩) I.quiet hs
def tRet (te:TE):TS:=fun D σ H=>te σ H D.rt
theorem zAk (he:PE X e te):PS X (.Return (some e) pos) (tRet te):=by
 intro pins s σ H D I h;exact wpAny_Return_some (thn (he pins s σ H _ I h) fun v s1 ⟨x,H1,I1,r1,q1⟩=>⟨x,σ,H1,I1,r1,q1⟩)
def tIfS (c:TT) (t u:TS):TS:=fun D σ H=>c σ H fun b H1=>if b=true then t D σ H1 else u D σ H1
theorem zA9 {c:Expr} {a b:List Stmt} {tc:TT} (hc:PT X c tc) (ha:PSs X a t) (hb:PSs X b u):PS X (.If c a b pos) (tIfS tc t u):=by
 intro pins s σ H D I h;refine wpAny_If (thn (hc pins s σ H _ I h) fun d s1 ⟨H1,I1,q1⟩=>?_)
 cases d with
 | true=>exact ha pins s1 σ H1 D I1 q1
 | false=>exact hb pins s1 σ H1 D I1 q1
def tNever:TS:=fun _ _ _=>False
theorem zBp:PS X st tNever:=fun _ _ _ _ _ _ h=>h.elim
end
abbrev TG:=V->St->Hp->(St->Hp->Prop)->Prop
variable {g:TG}
abbrev TGs:=List V->St->Hp->(St->Hp->Prop)->Prop
def PG (X:Cx) (target:Expr) (t:TG):Prop :=
 ∀(pins:List (Addr×Obj)) (s:Shared) (σ:St) (H:Hp) (v:V) (u:Value) (Q:St->Hp->Prop),Inv X pins σ H s->RelV v u->t v σ H Q ->
  wpAny (model X.prog X.w) X.A (assign target X.env u) (fun _ s'=>∃σ' H',Inv X pins σ' H' s'/\Q σ' H') X.xe s
def PGs (X:Cx) (ts:List Expr) (t:TGs):Prop :=
 ∀(pins:List (Addr×Obj)) (s:Shared) (σ:St) (H:Hp) (vs:List V) (us:List Value) (Q:St->Hp->Prop),Inv X pins σ H s->Vals vs us->t vs σ H Q ->
  wpAny (model X.prog X.w) X.A (assignInOrder ((assignEach ts X.env).map (·.2)) us) (fun _ s'=>∃σ' H',Inv X pins σ' H' s'/\Q σ' H') X.xe s
abbrev TSet:=V->V->V->Hp->(Hp->Prop)->Prop
def PSet (X:Cx) (t:TSet):Prop :=
 ∀(pins:List (Addr×Obj)) (s:Shared) (σ:St) (H:Hp) (o i v:V) (ov iv u:Value) (Q:Hp->Prop),Inv X pins σ H s->RelV o ov->RelV i iv->RelV v u->t o i v H Q ->
  wpAny (model X.prog X.w) X.A (setItem ov iv u) (fun _ s'=>∃H',Inv X pins σ H' s'/\Q H') X.xe s
section
variable {X:Cx} {pos:Pos}
def zH2 (i:Nat):TG:=fun v σ H Q=>Q (σ.set i (some v)) H
theorem pg_name (hN:X.N.Nodup) (hi:X.N[i]?=some x) (hx:Loc X.env.scope x) (hf:X.fn x=true\/X.env.scope.names.lookup x=some .local:=by first| exact .inl rfl| exact .inr rfl| assumption):PG X (.Name x pos) (zH2 i):=by
 intro pins s σ H v u Q I r h;exact wpAny_assign_Name (store_ok I hN hi hx r (fun s' I'=>⟨_,H,I',h⟩) hf)
def gNil:TGs:=fun vs σ H Q=>vs=[]/\Q σ H
def gCons (t:TG) (u:TGs):TGs:=fun vs σ H Q=>∃v r,vs=v::r/\t v σ H fun σ' H'=>u r σ' H' Q
theorem zEo:PGs X [] gNil:=by
 intro pins s σ H vs us Q I r h;obtain ⟨e,h⟩:=h;subst e
 cases r
 exact assignInOrder_nil ⟨σ,H,I,h⟩
theorem zBd {es:List Expr} {t:TG} {u:TGs} (h1:PG X e t) (h2:PGs X es u)
  (hs:(assignEach (e::es) X.env).map (·.2)=assign e X.env::(assignEach es X.env).map (·.2):=by rfl):PGs X (e::es) (gCons t u):=by
 intro pins s σ H vs us Q I r h;obtain ⟨v,vr,e1,h⟩:=h;subst e1
 cases r with
 | cons r rr =>
  rw [hs];refine assignInOrder_cons (thn (h1 pins s σ H _ _ _ I r h) fun _ s1 ⟨σ1,H1,I1,q1⟩=>?_);exact h2 pins s1 σ1 H1 _ _ Q I1 rr q1
def gTup (K:PySem.W.Frag) (n:Nat) (t:TGs):TG:=fun v σ H Q=>∃a xs,v= .ref a/\SqT K H a xs/\xs.length=n/\t xs σ H Q
theorem pg_tup {es:List Expr} {k:Nat} {t:TGs} {n:Nat} (hc:X.calm=true) (h:PGs X es t)
  (hn:(assignEach es X.env).length=n:=by rfl) (hst:(assignEach es X.env).findIdx? (·.1)=none:=by rfl):PG X (.Tuple es k pos) (gTup X.K n t):=by
 intro pins s σ H v u Q I r hw;obtain ⟨a,xs,e1,hq,hl,hw⟩:=hw;subst e1
 cases r
 obtain ⟨its,rv,ht,hz⟩:=I.tuple hq;refine assign_Tuple_tuple (I.ok.hd hc) ht (by simp [hn,<-hl,rv.length]) hst fun h' hx=>?_;have I1:Inv X pins σ H {s with heap:=h'}:=I.kept (t':=s.toks) fun b o e=>hx b o (qAS (qAN e)) e;exact h pins _ σ H xs _ Q I1 (by simpa using rv) hw
def gSub (to ti:TE) (t:TSet):TG:=fun v σ H Q=>to σ H fun o H1=>ti σ H1 fun i H2=>t o i v H2 fun H3=>Q σ H3
theorem pg_sub {o i:Expr} {to ti:TE} {t:TSet} (ho:PE X o to) (hi:PE X i ti) (hs:PSet X t)
  (ha:∀v,assign (.Subscript o i pos) X.env v=(do
   let ov<-holding [v] (eval o X.env)
   let iv<-holding [v,ov] (eval i X.env)
   standAt pos
   holding [v,ov,iv] (setItem ov iv v)
   release [v,ov,iv] []):=by intro _;rfl):PG X (.Subscript o i pos) (gSub to ti t):=by
 intro pins s σ H v u Q I r h;rw [ha];refine qAA (qA0 (thn (ho pins s σ H _ I h) fun ov s1 ⟨x,H1,I1,r1,q1⟩=>?_));refine qAA (qA0 (thn (hi pins s1 σ H1 _ I1 q1) fun iv s2 ⟨y,H2,I2,r2,q2⟩=>?_));refine qAA (qCS (qAA (qA0 (thn (hs pins s2 σ H2 x y v ov iv u _ I2 r1 r2 r q2) fun _ s3 ⟨H3,I3,q3⟩=>?_))));exact wpAny_release ⟨σ,H3,I3,q3⟩
def tAsg (te:TE) (g:TG):TS:=fun D σ H=>te σ H fun x H1=>g x σ H1 D.nx
theorem ps_asg {te:TE} (he:PE X e te) (hg:PG X tg g) (hs:swapsWithSole [tg] e pos.line X.env=pure false:=by rfl) (hw:swappedStores [tg] e X.env=pure none:=by rfl)
  (h1:(assignEach [tg] X.env).map (·.2)=[assign tg X.env]:=by rfl):PS X (.Assign [tg] e pos) (tAsg te g):=by
 intro pins s σ H D I h;refine wpAny_Assign_stores (thn (he pins s σ H _ I h) fun v s1 ⟨x,H1,I1,r1,q1⟩=>?_) hs hw;rw [h1];exact thn (hg pins s1 σ H1 x v _ I1 r1 q1) fun _ s2 q=>q
theorem ps_set {te:TE} {pos':Pos} (hN:X.N.Nodup) (hi:X.N[i]?=some x) (hx:Loc X.env.scope x) (he:PE X e te) (hs:swapsWith e (some (.Name x pos')) pos.line X.env=pure false:=by rfl) (hf:X.fn x=true\/X.env.scope.names.lookup x=some .local:=by first| exact .inl rfl| exact .inr rfl| assumption) :
  PS X (.Assign [.Name x pos'] e pos) (tAsg te (zH2 i)):=by
 intro pins s σ H D I h;refine wpAny_Assign_Name (thn (he pins s σ H _ I h) fun v s1 ⟨y,H1,I1,r1,q1⟩=>?_) hs;exact store_ok I1 hN hi hx r1 (fun s2 I2=>⟨_,H1,I2,q1⟩) hf
end
section
variable {X:Cx} {pos:Pos}
def tWhile (c:TT) (tb:TS):TS:=fun D σ H=>∃W:Nat->St->Hp->Prop,(∃m,W m σ H)/\∀m σ H,W m σ H ->
 c σ H fun b H1=>if b=true then∃N:St->Hp->Prop,(∀σ' H',N σ' H'->∃m',m'<m/\W m' σ' H')/\tb {D with nx:=N,ct:=N,bk:=D.nx} σ H1 else D.nx σ H1
theorem zE0 {c:Expr} {body:List Stmt} {tc:TT} (hp:PassesOwn (model X.prog X.w) X.A X.env X.xe) (hc:PT X c tc) (hb:PSs X body tb):PS X (.While c body [] pos) (tWhile tc tb):=by
 intro pins s σ H D I h;obtain ⟨W,⟨m0,w0⟩,turn⟩:=h;refine wpAny_While (codeAny_whileLoop (fun n s'=>∃σ' H',Inv X pins σ' H' s'/\W n σ' H') ?_ m0 ⟨σ,H,I,w0⟩);rintro n s1 ⟨σ1,H1,I1,w1⟩;refine qBq hp (thn (hc pins s1 σ1 H1 _ I1 (turn n σ1 H1 w1)) fun b s2 ⟨H2,I2,q2⟩=>?_)
 cases b with
 | true =>
  obtain ⟨N,hN,q2⟩:=q2;rw [qAC rfl];refine qBq hp (thn (hb pins s2 σ1 H2 _ I2 q2) fun f s3 q3=>?_)
  cases f with
  | next =>
   obtain ⟨σ3,H3,I3,n3⟩:=q3;obtain ⟨m',hm,w3⟩:=hN σ3 H3 n3;exact ⟨m',hm,σ3,H3,I3,w3⟩
  | cont =>
   obtain ⟨σ3,H3,I3,n3⟩:=q3;obtain ⟨m',hm,w3⟩:=hN σ3 H3 n3;exact ⟨m',hm,σ3,H3,I3,w3⟩
  | brk=>exact q3
  | ret v=>exact q3
 | false =>
  rw [qAB qAl];exact qC0 ⟨σ1,H2,I2,q2⟩
end
structure It where
 go:Nat->Hp->Prop
 yld:Nat->Hp->V->Hp->Prop
 stop:Nat->Hp->Prop
def FpOk (X:Cx) (pins:List (Addr×Obj)) (H:Hp) (b:Addr):Prop :=
 H b=none/\b≠X.env.locals/\b∉X.fs/\(b∈X.ex\/X.s₀.heap.objs.size<=b)/\(∀x c,X.env.cells.lookup x=some c->c≠b)/\∀p∈X.pn++pins,p.1≠b
theorem Inv.fpOk {H':Hp} {b:Addr} (I:Inv X pins σ H s) (hb:s.heap.objs.size<=b) (hn:H' b=none):FpOk X pins H' b:=by
 refine ⟨hn,qBB (qAp I.lt hb),I.nofs hb,.inr (qAY I.sz hb),fun x c e z=>?_,fun p hp z=>?_⟩
 ·obtain ⟨v,q⟩:=I.cell x c e;exact absurd (qAp q.lt (by rw [z];exact hb)) (qAx _)
 ·exact absurd (qAp (qAN (I.pin p hp).1) (by rw [z];exact hb)) (qAx _)
structure Turn (P:Program) (w:World) (K:PySem.W.Frag) (tg:Expr) (J:It) (fp:List Addr) (it:Addr) (tn:Nat->Heap->Prop):Prop where
 mem:it∈fp
 obj:∀i h,tn i h->∀b∈fp,∃o,h.get? b=some o/\∀v,o.data≠.cell v
 keep:∀i h h',tn i h->(∀b∈fp,∀o,h.get? b=some o->h'.get? b=some o)->tn i h'
 item:∀(X:Cx),X.prog=P->X.w=w->X.K=K->X.calm=true->∀(i:Nat) (pins:List (Addr×Obj)) (s:Shared) (σ:St) (H:Hp) (E:Value->Shared->Prop),Inv X pins σ H s->(∀b∈fp,FpOk X pins H b)->tn i s.heap->J.go i H ->
  wpAny (model P w) X.A (pyNext (.ref it)) (fun r s1=>∃u,r=some u /\
   wpAny (model P w) X.A (letOwnedTupleGo tg (.ref it) u) (fun _ s2=>∃x H',Inv X pins σ H' s2/\RelV x u/\J.yld i H x H'/\tn (i+1) s2.heap/\∀b∈fp,H' b=none) E s1) E s
 done:∀(X:Cx),X.prog=P->X.w=w->X.K=K->X.calm=true->∀(i:Nat) (pins:List (Addr×Obj)) (s:Shared) (σ:St) (H:Hp) (E:Value->Shared->Prop),Inv X pins σ H s->(∀b∈fp,FpOk X pins H b)->tn i s.heap->J.stop i H ->
  wpAny (model P w) X.A (pyNext (.ref it)) (fun r s1=>r=none/\Inv X pins σ H s1) E s
 self:∀(A:Around) (i:Nat) (s:Shared) (Q:Value->Shared->Prop) (E:Value->Shared->Prop),tn i s.heap->Q (.ref it) s->wpAny (model P w) A (pyIter (.ref it)) Q E s
abbrev TI:=St->Hp->(It->Hp->Prop)->Prop
def PIE (X:Cx) (pins:List (Addr×Obj)) (σ:St) (tg:Expr) (R:It->Hp->Prop) (itv:Value) (s2:Shared):Prop :=
 ∃(it:Addr) (fp:List Addr) (tn:Nat->Heap->Prop) (J:It) (H':Hp),itv= .ref it/\Inv X pins σ H' s2/\Turn X.prog X.w X.K tg J fp it tn/\tn 0 s2.heap/\(∀b∈fp,FpOk X pins H' b)/\R J H'
def PI (X:Cx) (tg iter:Expr) (wi:TI):Prop :=
 ∀(pins:List (Addr×Obj)) (s:Shared) (σ:St) (H:Hp) (R:It->Hp->Prop),Inv X pins σ H s->wi σ H R ->
  wpAny (model X.prog X.w) X.A (eval iter X.env) (fun v s1=>wpAny (model X.prog X.w) X.A (pyIter v) (PIE X pins σ tg R) X.xe s1) X.xe s
theorem go_of {M:Model} {E:Value->Shared->Prop} {s:Shared} {it:Addr} {o:Obj} {n:String} {vs:Array Value} {Q:Unit->Shared->Prop} (ho:s.heap.get? it=some o) (hc:o.cls= .type n) (hd:o.data= .fields vs)
  (hn:["enumerate", "zip", "dict_itemiterator", "dict_reverseitemiterator", "odict_iterator", "itertools.zip_longest", "itertools.pairwise"].contains n=false) (hQ:Q () s):wpAny M A (letOwnedTupleGo tg (.ref it) u) Q E s:=by
 unfold letOwnedTupleGo
 cases tg<;>first
  | exact qAE hQ
  | (cases u<;>first
    | exact qAE hQ
    | (refine qAA (qBr ho ?_)
       rw [hc,hd];show wpAny M A (if (["enumerate", "zip", "dict_itemiterator", "dict_reverseitemiterator", "odict_iterator", "itertools.zip_longest", "itertools.pairwise"].contains n&&vs[0]?==some (rawInt _))=true then _ else _) Q E s;rw [qAB (by intro h;rw [hn,Bool.false_and] at h;cases h)];exact qAE hQ))
def Itl (K:PySem.W.Frag) (a:Addr):It :=
 ⟨fun i H=>∃xs x,SqL K H a xs/\xs[i]?=some x,fun i H x H'=>H'=H/\∀xs,SqL K H a xs->xs[i]?=some x,fun i H=>∃xs,SqL K H a xs/\xs.length<=i⟩
def Itt (K:PySem.W.Frag) (a:Addr):It :=
 ⟨fun i H=>∃xs x,SqT K H a xs/\xs[i]?=some x,fun i H x H'=>H'=H/\∀xs,SqT K H a xs->xs[i]?=some x,fun i H=>∃xs,SqT K H a xs/\xs.length<=i⟩
def Itr (lo:Int) (n:Nat):It:=⟨fun i _=>i<n,fun i H x H'=>H'=H/\x= .int (lo+i),fun i _=>n<=i⟩
theorem turn_list (a it:Addr):Turn P w K tg (Itl K a) [it] it (fun i h=>h.IsListIter it a i) where
 mem:=by simp
 obj:=fun i h st b hb=>by
  have e:b=it:=by simpa using hb
  subst e;obtain ⟨o,e,c,d⟩:=st;exact ⟨o,e,fun v z=>by rw [d] at z;cases z⟩
 keep:=fun i h h' st k=>st.at fun o e=>k it (by simp) o e
 item:=by
  intro X hP hw hK hc i pins s σ H E I hf st hg;subst hP hw hK;obtain ⟨xs,x,hq,hx⟩:=hg;obtain ⟨its,rv,p,hz⟩:=I.list hq;obtain ⟨u,hu,ru⟩:=rv.get hx;obtain ⟨f0,f1,f2,f3,f4,f5⟩:=hf it (by simp);refine wpAny_pyNext_list_item st p.isList (x:=u) (by simpa using hu) fun h' st' sb=>?_;have I1:Inv X pins σ H {s with heap:=h'}:=I.turned (t':=s.toks) (fun b o hb e=>(sb.2 b hb).trans e) f0 f1 f3 f4 f5;obtain ⟨o,e,c,d⟩:=id st';exact ⟨u,rfl,go_of (s:={s with heap:=h'}) e c d (by decide) ⟨x,H,I1,ru,⟨rfl,fun ys hy=>by rw [I.list_inj hy hq];exact hx⟩,st',fun b hb=>(hf b hb).1⟩⟩
 done:=by
  intro X hP hw hK hc i pins s σ H E I hf st hg;subst hP hw hK;obtain ⟨xs,hq,hx⟩:=hg;obtain ⟨its,rv,p,hz⟩:=I.list hq;obtain ⟨f0,f1,f2,f3,f4,f5⟩:=hf it (by simp);have hl:=rv.length;exact wpAny_pyNext_list_end (I.ok.hd hc) st p.isList (by simp;lia) fun h' eb=>⟨rfl,I.turned (t':=s.toks) (fun b o hb e=>eb b o hb e) f0 f1 f3 f4 f5⟩
 self:=fun _ _ _ _ _ st h=>wpAny_pyIter_listiter st h
theorem turn_tuple (a it:Addr):Turn P w K tg (Itt K a) [it] it (fun i h=>h.IsTupleIter it a i) where
 mem:=by simp
 obj:=fun i h st b hb=>by
  have e:b=it:=by simpa using hb
  subst e;obtain ⟨o,e,c,d⟩:=st;exact ⟨o,e,fun v z=>by rw [d] at z;cases z⟩
 keep:=fun i h h' st k=>st.at fun o e=>k it (by simp) o e
 item:=by
  intro X hP hw hK hc i pins s σ H E I hf st hg;subst hP hw hK;obtain ⟨xs,x,hq,hx⟩:=hg;obtain ⟨its,rv,p,hz⟩:=I.tuple hq;obtain ⟨u,hu,ru⟩:=rv.get hx;obtain ⟨f0,f1,f2,f3,f4,f5⟩:=hf it (by simp);refine wpAny_pyNext_tuple_item st (show s.heap.IsTuple a its.toArray from p) (x:=u) (by simpa using hu) fun h' st' sb=>?_;have I1:Inv X pins σ H {s with heap:=h'}:=I.turned (t':=s.toks) (fun b o hb e=>(sb.2 b hb).trans e) f0 f1 f3 f4 f5;obtain ⟨o,e,c,d⟩:=id st';exact ⟨u,rfl,go_of (s:={s with heap:=h'}) e c d (by decide) ⟨x,H,I1,ru,⟨rfl,fun ys hy=>by rw [I.tuple_inj hy hq];exact hx⟩,st',fun b hb=>(hf b hb).1⟩⟩
 done:=by
  intro X hP hw hK hc i pins s σ H E I hf st hg;subst hP hw hK;obtain ⟨xs,hq,hx⟩:=hg;obtain ⟨its,rv,p,hz⟩:=I.tuple hq;obtain ⟨f0,f1,f2,f3,f4,f5⟩:=hf it (by simp);have hl:=rv.length;exact wpAny_pyNext_tuple_end (I.ok.hd hc) st (show s.heap.IsTuple a its.toArray from p) (by simp;lia) fun h' eb=>⟨rfl,I.turned (t':=s.toks) (fun b o hb e=>eb b o hb e) f0 f1 f3 f4 f5⟩
 self:=fun _ _ _ _ _ st h=>wpAny_pyIter_tupleiter st h
theorem turn_range (it:Addr) (lo:Int) (n:Nat):Turn P w K tg (Itr lo n) [it] it (fun i h=>IsRangeIter h it (lo+(i:Nat)*1) ((n:Int) - (i:Nat)) 1) where
 mem:=by simp
 obj:=fun i h st b hb=>by
  have e:b=it:=by simpa using hb
  subst e
  exact ⟨_,st,fun v z=>by
   have z':Data.fields _=Data.cell v:=z
   cases z'⟩
 keep:=fun i h h' st k=>k it (by simp) _ st
 item:=by
  intro X hP hw hK hc i pins s σ H E I hf st hg;subst hP hw hK;obtain ⟨f0,f1,f2,f3,f4,f5⟩:=hf it (by simp);have W:=Walks.range (prog:=X.prog) (w:=X.w) (I.ok.hd hc) it lo 1 n;refine W.item i s _ _ hg st fun v h' tk hv st' kk=>?_;obtain ⟨t,rfl⟩:=hv;have I1:Inv X pins σ H {s with heap:=h',toks:=tk}:=I.turned (fun b o hb e=>kk b o (by simpa using hb) e) f0 f1 f3 f4 f5;refine ⟨_,rfl,go_of (s:={s with heap:=h',toks:=tk}) (n:= "range_iterator") st' rfl rfl (by decide) ⟨.int (lo+i),H,I1,⟨t,?_⟩,⟨rfl,rfl⟩,st',fun b hb=>(hf b hb).1⟩⟩;rw [Int.mul_one]
 done:=by
  intro X hP hw hK hc i pins s σ H E I hf st hg;subst hP hw hK;obtain ⟨f0,f1,f2,f3,f4,f5⟩:=hf it (by simp);exact wpAny_pyNext_range_end (I.ok.hd hc) st (by have:n<=i:=hg;lia) fun h' eb=>⟨rfl,I.turned (t':=s.toks) (fun b o hb e=>eb b o hb e) f0 f1 f3 f4 f5⟩
 self:=fun _ _ _ _ _ st h=>wpAny_pyIter_rangeiter st h
section
variable {X:Cx} {tg:Expr}
def iList (K:PySem.W.Frag) (tl:TE):TI:=fun σ H R=>tl σ H fun x H1=>∃a,x= .ref a/\(∃xs,SqL K H1 a xs)/\R (Itl K a) H1
def iTup (K:PySem.W.Frag) (tl:TE):TI:=fun σ H R=>tl σ H fun x H1=>∃a,x= .ref a/\(∃xs,SqT K H1 a xs)/\R (Itt K a) H1
theorem zAo {l:Expr} {tl:TE} (hl:PE X l tl):PI X tg l (iList X.K tl):=by
 intro pins s σ H R I h;refine thn (hl pins s σ H _ I h) fun v s1 ⟨x,H1,I1,r1,q1⟩=>?_;obtain ⟨a,e,⟨xs,hq⟩,q⟩:=q1;subst e
 cases r1
 obtain ⟨its,rv,p,hz⟩:=I1.list hq;refine wpAny_pyIter_list p.isList ?_;refine ⟨s1.heap.objs.size,[s1.heap.objs.size],_,_,H1,rfl,I1.kept (t':=s1.toks) fun b o e=>qAL _ e,turn_list a _,⟨_,qAh _ rfl,rfl,rfl⟩,fun b hb=>?_,q⟩;have e:b=s1.heap.objs.size:=by simpa using hb
 subst e;exact I1.fpOk (qAG _) (I1.hok.fresh (qAG _))
theorem pi_tup {l:Expr} {tl:TE} (hl:PE X l tl):PI X tg l (iTup X.K tl):=by
 intro pins s σ H R I h;refine thn (hl pins s σ H _ I h) fun v s1 ⟨x,H1,I1,r1,q1⟩=>?_;obtain ⟨a,e,⟨xs,hq⟩,q⟩:=q1;subst e
 cases r1
 obtain ⟨its,rv,p,hz⟩:=I1.tuple hq;refine wpAny_pyIter_tuple (show s1.heap.IsTuple a its.toArray from p) ?_;refine ⟨s1.heap.objs.size,[s1.heap.objs.size],_,_,H1,rfl,I1.kept (t':=s1.toks) fun b o e=>qAL _ e,turn_tuple a _,⟨_,qAh _ rfl,rfl,rfl⟩,fun b hb=>?_,q⟩;have e:b=s1.heap.objs.size:=by simpa using hb
 subst e;exact I1.fpOk (qAG _) (I1.hok.fresh (qAG _))
theorem range_it {R:It->Hp->Prop} {E:Value->Shared->Prop} {lo hi:Int} {t u v:Tok} {tk:Nat} (I:Inv X pins σ H s) (h1:-(2^62)<=lo) (h2:lo<2^62) (h3:-(2^62)<=hi) (h4:hi<2^62)
  (q:R (Itr lo (hi - lo).toNat) H):wpAny (model X.prog X.w) X.A (pyIter (.ref s.heap.objs.size)) (PIE X pins σ tg R) E {s with heap:=s.heap.push {cls:=.type "range",data:=.fields #[.int lo t,.int hi u,.int 1 v]},toks:=tk}:=by
 refine wpAny_pyIter_range (IsRange.new ..) (small_one h1 h2 h3 h4) ?_;have I1:Inv X pins σ H {s with heap:=s.heap.push {cls:=.type "range",data:=.fields #[.int lo t,.int hi u,.int 1 v]},toks:=tk}:=I.kept fun b o e=>qAL _ e
 refine ⟨(s.heap.push {cls:=.type "range",data:=.fields #[.int lo t,.int hi u,.int 1 v]}).objs.size,[(s.heap.push {cls:=.type "range",data:=.fields #[.int lo t,.int hi u,.int 1 v]}).objs.size],_,_,H,rfl,
  I1.kept (t':=tk) fun b o e=>qAL _ e,turn_range _ lo (hi - lo).toNat,?_,fun b hb=>?_,q⟩
 ·have e1:lo+((0:Nat):Int)*1=lo:=by simp
  have e2:(((hi - lo).toNat:Nat):Int) - ((0:Nat):Int)=Builtin.Range.rangeSize lo hi 1:=by rw [rangeSize_one];split<;>lia
  show IsRangeIter _ _ (lo+((0:Nat):Int)*1) ((((hi - lo).toNat:Nat):Int) - ((0:Nat):Int)) 1;rw [e1,e2];exact qAh _ rfl
 ·have e:b=(s.heap.push {cls:=.type "range",data:=.fields #[.int lo t,.int hi u,.int 1 v]}).objs.size:=by simpa using hb
  subst e;exact I1.fpOk (qAG _) (I1.hok.fresh (qAG _))
def iRng1 (ta:TA):TI:=fun σ H R=>ta σ H fun vs H1=>∃j:Int,vs=[.int j]/\-(2^62)<=j/\j<2^62/\R (Itr 0 j.toNat) H1
def iRng2 (ta:TA):TI:=fun σ H R=>ta σ H fun vs H1=>∃i j:Int,vs=[.int i,.int j]/\(-(2^62)<=i/\i<2^62/\-(2^62)<=j/\j<2^62)/\R (Itr i (j - i).toNat) H1
theorem zDa {a:Expr} {ta:TA} {p pos:Pos} (hg:Gl X "range") (hm:X.mg "range" = none) (ha:PA X [a] ta) (hs:starEach [a] X.env=[(false,eval a X.env)]:=by rfl):PI X tg (.Call (.Name "range" p) [a] [] pos) (iRng1 ta):=by
 intro pins s σ H R I h;refine Call_ (zF6 I hg hm boot_range (qC1 (thn (ha pos pins s σ H _ I h) fun us s1 ⟨vs,H1,I1,r1,q1⟩=>?_) hs rfl));obtain ⟨j,e,q1,q2,q⟩:=q1;subst e
 cases r1 with
 | cons r rr =>
  cases rr
  obtain ⟨t,rfl⟩:=r;exact call_range_1 (range_it I1 (by lia) (by lia) q1 q2 (by simpa using q))
theorem pi_range2 {a b:Expr} {ta:TA} {p pos:Pos} (hg:Gl X "range") (hm:X.mg "range" = none) (ha:PA X [a,b] ta) (hs:starEach [a,b] X.env=[(false,eval a X.env),(false,eval b X.env)]:=by rfl) (hs2:starEach [b] X.env=[(false,eval b X.env)]:=by rfl) :
  PI X tg (.Call (.Name "range" p) [a,b] [] pos) (iRng2 ta):=by
 intro pins s σ H R I h;refine Call_ (zF6 I hg hm boot_range (qC1 (thn (ha pos pins s σ H _ I h) fun us s1 ⟨vs,H1,I1,r1,q1⟩=>?_) (by rw [hs,hs2]) (by rw [hs2];rfl)));obtain ⟨i,j,e,⟨q1,q2,q3,q4⟩,q⟩:=q1;subst e
 cases r1 with
 | cons r rr =>
  cases rr with
  | cons r' rr =>
   cases rr
   obtain ⟨t,rfl⟩:=r;obtain ⟨t',rfl⟩:=r';exact call_range_2 (range_it I1 q1 q2 q3 q4 q)
def tFor (wi:TI) (g:TG) (tb:TS):TS:=fun D σ H=>wi σ H fun J H1=>∃W:Nat->Nat->St->Hp->Prop,(∃m,W 0 m σ H1)/\∀i m σ H,W i m σ H ->
 (J.stop i H/\D.nx σ H)\/(J.go i H/\∃N:St->Hp->Prop,(∀σ' H',N σ' H'->∃m',m'<m/\W (i+1) m' σ' H')/\∀x H',J.yld i H x H'->g x σ H' fun σ2 H2=>tb {D with nx:=N,ct:=N,bk:=D.nx} σ2 H2)
def pinsAt (fp:List Addr) (h:Heap):List (Addr×Obj):=fp.filterMap fun b=>(h.get? b).map fun o=>(b,o)
theorem zEe {fp:List Addr} {o:Obj} (hb:b∈fp) (e:h.get? b=some o):(b,o)∈pinsAt fp h:=List.mem_filterMap.mpr ⟨b,hb,by rw [e];rfl⟩
theorem of_pinsAt {fp:List Addr} {p:Addr×Obj} (hp:p∈pinsAt fp h):p.1∈fp/\h.get? p.1=some p.2:=by
 obtain ⟨b,hb,e⟩:=List.mem_filterMap.mp hp
 cases q:h.get? b with
 | none=>rw [q] at e;cases e
 | some o =>
  rw [q] at e;have e':(b,o)=p:=qAZ e;subst e';exact ⟨hb,q⟩
theorem Inv.pinned {fp:List Addr} (I:Inv X pins σ H s) (hf:∀b∈fp,FpOk X pins H b) (ho:∀b∈fp,∃o,s.heap.get? b=some o/\∀v,o.data≠.cell v):Inv X (pins++pinsAt fp s.heap) σ H s :=
 I.pins_of fun p hp=>(qAK.mp hp).elim (fun z=>I.pin p (qAq _ z)) fun z=>by
  obtain ⟨hb,e⟩:=of_pinsAt z;obtain ⟨f0,f1,f2,_⟩:=hf p.1 hb;obtain ⟨o,e',d⟩:=ho p.1 hb;rw [e] at e';cases e';exact ⟨e,f0,f1,f2,d⟩
theorem Inv.unpinned {pl:List (Addr×Obj)} (I:Inv X (pins++pl) σ H s):Inv X pins σ H s:=I.pins_of fun p hp=>I.pin p (qAq _ (qAc _ hp))
theorem zA8 {iter:Expr} {body:List Stmt} {wi:TI} {pos:Pos} (hp:PassesOwn (model X.prog X.w) X.A X.env X.xe) (hc:X.calm=true) (hi:PI X tg iter wi) (hg:PG X tg g) (hb:PSs X body tb)
  (hs:∀x,foldedSetIterable iter X.env x=pure x:=by intro _;rfl):PS X (.For tg iter body [] pos) (tFor wi g tb):=by
 intro pins s σ H D I h;refine wpAny_For (thn (hi pins s σ H _ I h) fun v s1 h1=>thn h1 fun itv s2 h2=>?_) hs;obtain ⟨it,fp,tn,J,H2,e,I2,T,st2,f2,W,⟨m0,w0⟩,turn⟩:=h2;subst e;have stat:∀{H':Hp},(∀b∈fp,H' b=none)->∀b∈fp,FpOk X pins H' b:=fun hn b hb=>⟨hn b hb,(f2 b hb).2⟩;refine codeAny_forLoop_any (fun n s'=>∃i σ' H',Inv X pins σ' H' s'/\tn i s'.heap/\(∀b∈fp,H' b=none)/\W i n σ' H') ?_ m0 ⟨0,σ,H2,I2,st2,fun b hb=>(f2 b hb).1,w0⟩;rintro n s3 ⟨i,σ3,H3,I3,st3,fr3,w3⟩;rcases turn i n σ3 H3 w3 with ⟨stop,qn⟩| ⟨go,N,hN,step⟩
 ·refine qBq hp (thn (T.done X rfl rfl rfl hc i pins s3 σ3 H3 X.xe I3 (stat fr3) st3 stop) fun r s4 ⟨hr,I4⟩=>?_);subst hr;exact qC0 ⟨σ3,H3,I4,qn⟩
 ·refine qBq hp (thn (T.item X rfl rfl rfl hc i pins s3 σ3 H3 X.xe I3 (stat fr3) st3 go) fun r s4 ⟨u,hr,h4⟩=>?_);subst hr;refine qBq hp (thn h4 fun _ s5 ⟨x,H5,I5,r5,y5,st5,fr5⟩=>?_);have I5':=I5.pinned (stat fr5) (T.obj _ _ st5);refine qBq hp (thn (hg _ s5 σ3 H5 x u _ I5' r5 (step x H5 y5)) fun _ s6 ⟨σ6,H6,I6,q6⟩=>?_);refine qBq hp (thn (hb _ s6 σ6 H6 _ I6 q6) fun f s7 q7=>?_)
  have again:∀{σ7:St} {H7:Hp},Inv X (pins++pinsAt fp s5.heap) σ7 H7 s7->N σ7 H7->∃m,m<n/\∃i σ' H',Inv X pins σ' H' s7/\tn i s7.heap/\(∀b∈fp,H' b=none)/\W i m σ' H':=fun {σ7 H7} I7 n7=>by
   obtain ⟨m',hm,w7⟩:=hN σ7 H7 n7;refine ⟨m',hm,i+1,σ7,H7,I7.unpinned,T.keep _ _ _ st5 fun b hb o e=>(I7.pin (b,o) (qAq _ (qAq _ (zEe hb e)))).1,fun b hb=>?_,w7⟩;obtain ⟨o,e,d⟩:=T.obj _ _ st5 b hb;exact (I7.pin (b,o) (qAq _ (qAq _ (zEe hb e)))).2.1
  cases f with
  | next=>obtain ⟨σ7,H7,I7,n7⟩:=q7;exact again I7 n7
  | cont=>obtain ⟨σ7,H7,I7,n7⟩:=q7;exact again I7 n7
  | brk=>obtain ⟨σ7,H7,I7,q7⟩:=q7;exact ⟨σ7,H7,I7.unpinned,q7⟩
  | ret v=>obtain ⟨x7,σ7,H7,I7,r7,q7⟩:=q7;exact ⟨x7,σ7,H7,I7.unpinned,r7,q7⟩
end
theorem zA5 {xs:List V} (Pv:Nat->St->Hp->Prop) (h0:Pv 0 σ H) (hl:∀i σ H,i<=xs.length->Pv i σ H->SqL K H a xs)
  (hs:∀i x σ H,xs[i]?=some x->Pv i σ H->g x σ H fun σ2 H2=>tb {D with nx:=Pv (i+1),ct:=Pv (i+1),bk:=D.nx} σ2 H2) (hd:∀σ H,Pv xs.length σ H->D.nx σ H) :
  ∃W:Nat->Nat->St->Hp->Prop,(∃m,W 0 m σ H)/\∀i m σ H,W i m σ H ->
   ((Itl K a).stop i H/\D.nx σ H)\/((Itl K a).go i H/\∃N:St->Hp->Prop,(∀σ' H',N σ' H'->∃m',m'<m/\W (i+1) m' σ' H')/\∀x H',(Itl K a).yld i H x H'->g x σ H' fun σ2 H2=>tb {D with nx:=N,ct:=N,bk:=D.nx} σ2 H2):=by
 refine ⟨fun i m σ H=>m=xs.length - i/\i<=xs.length/\Pv i σ H,⟨xs.length,by simp,qAj _,h0⟩,?_⟩;rintro i m σ H ⟨rfl,hi,p⟩;have q:=hl i σ H hi p
 by_cases hlt:i<xs.length
 ·refine .inr ⟨⟨xs,xs[i],q,by simp [hlt]⟩,Pv (i+1),fun σ' H' p'=>⟨xs.length - (i+1),by lia,rfl,hlt,p'⟩,fun x H' y=>?_⟩;obtain ⟨e,y⟩:=y;subst e;exact hs i x σ _ (y xs q) p
 ·have e:i=xs.length:=by lia
  subst e;exact .inl ⟨⟨xs,q,qAG _⟩,hd σ H p⟩
theorem for_tup (Pv:Nat->St->Hp->Prop) (h0:Pv 0 σ H) (hl:∀i σ H,i<=xs.length->Pv i σ H->SqT K H a xs)
  (hs:∀i x σ H,xs[i]?=some x->Pv i σ H->g x σ H fun σ2 H2=>tb {D with nx:=Pv (i+1),ct:=Pv (i+1),bk:=D.nx} σ2 H2) (hd:∀σ H,Pv xs.length σ H->D.nx σ H) :
  ∃W:Nat->Nat->St->Hp->Prop,(∃m,W 0 m σ H)/\∀i m σ H,W i m σ H ->
   ((Itt K a).stop i H/\D.nx σ H)\/((Itt K a).go i H/\∃N:St->Hp->Prop,(∀σ' H',N σ' H'->∃m',m'<m/\W (i+1) m' σ' H')/\∀x H',(Itt K a).yld i H x H'->g x σ H' fun σ2 H2=>tb {D with nx:=N,ct:=N,bk:=D.nx} σ2 H2):=by
 refine ⟨fun i m σ H=>m=xs.length - i/\i<=xs.length/\Pv i σ H,⟨xs.length,by simp,qAj _,h0⟩,?_⟩;rintro i m σ H ⟨rfl,hi,p⟩;have q:=hl i σ H hi p
 by_cases hlt:i<xs.length
 ·refine .inr ⟨⟨xs,xs[i],q,by simp [hlt]⟩,Pv (i+1),fun σ' H' p'=>⟨xs.length - (i+1),by lia,rfl,hlt,p'⟩,fun x H' y=>?_⟩;obtain ⟨e,y⟩:=y;subst e;exact hs i x σ _ (y xs q) p
 ·have e:i=xs.length:=by lia
  subst e;exact .inl ⟨⟨xs,q,qAG _⟩,hd σ H p⟩
theorem zCb {lo:Int} {n:Nat} (Pv:Nat->St->Hp->Prop) (h0:Pv 0 σ H)
  (hs:∀i σ H,i<n->Pv i σ H->g (.int (lo+i)) σ H fun σ2 H2=>tb {D with nx:=Pv (i+1),ct:=Pv (i+1),bk:=D.nx} σ2 H2) (hd:∀σ H,Pv n σ H->D.nx σ H) :
  ∃W:Nat->Nat->St->Hp->Prop,(∃m,W 0 m σ H)/\∀i m σ H,W i m σ H ->
   ((Itr lo n).stop i H/\D.nx σ H)\/((Itr lo n).go i H/\∃N:St->Hp->Prop,(∀σ' H',N σ' H'->∃m',m'<m/\W (i+1) m' σ' H')/\∀x H',(Itr lo n).yld i H x H'->g x σ H' fun σ2 H2=>tb {D with nx:=N,ct:=N,bk:=D.nx} σ2 H2):=by
 refine ⟨fun i m σ H=>m=n - i/\i<=n/\Pv i σ H,⟨n,by simp,qAj _,h0⟩,?_⟩;rintro i m σ H ⟨rfl,hi,p⟩
 by_cases hlt:i<n
 ·refine .inr ⟨hlt,Pv (i+1),fun σ' H' p'=>⟨n - (i+1),by lia,rfl,hlt,p'⟩,fun x H' y=>?_⟩;obtain ⟨e,y⟩:=y;subst e y;exact hs i σ _ hlt p
 ·have e:i=n:=by lia
  subst e;exact .inl ⟨qAG _,hd σ H p⟩
theorem while_by {c:TT} (Pv:St->Hp->Prop) (μ:St->Hp->Nat) (h0:Pv σ H)
  (hs:∀σ H,Pv σ H->c σ H fun b H1=>if b=true then tb {D with nx:=fun σ' H'=>Pv σ' H'/\μ σ' H'<μ σ H,ct:=fun σ' H'=>Pv σ' H'/\μ σ' H'<μ σ H,bk:=D.nx} σ H1 else D.nx σ H1)
  (mono:∀σ H Q Q',(∀b H1,Q b H1->Q' b H1)->c σ H Q->c σ H Q'):tWhile c tb D σ H:=by
 refine ⟨fun m σ H=>m=μ σ H/\Pv σ H,⟨_,rfl,h0⟩,?_⟩;rintro m σ H ⟨rfl,p⟩;refine mono σ H _ _ (fun b H1 q=>?_) (hs σ H p)
 cases b with
 | true=>exact ⟨_,fun σ' H' ⟨p',l⟩=>⟨_,l,rfl,p'⟩,q⟩
 | false=>exact q
abbrev R2:=V->V->Hp->VK->Prop
variable {r:R2}
def OpR (X:Cx) (f:Value->Value->Sem Value) (r:R2):Prop :=
 ∀(pins:List (Addr×Obj)) (s:Shared) (σ:St) (H:Hp) (x y:V) (v u:Value) (Q:VK),Inv X pins σ H s->RelV x v->RelV y u->r x y H Q ->
  wpAny (model X.prog X.w) X.A (f v u) (EP X pins σ Q) X.xe s
def UnR (X:Cx) (f:Value->Sem Value) (r:V->Hp->VK->Prop):Prop :=
 ∀(pins:List (Addr×Obj)) (s:Shared) (σ:St) (H:Hp) (x:V) (v:Value) (Q:VK),Inv X pins σ H s->RelV x v->r x H Q ->
  wpAny (model X.prog X.w) X.A (f v) (EP X pins σ Q) X.xe s
def zDt (X:Cx) (f:Value) (r:List V->Hp->VK->Prop):Prop :=
 ∀(pins:List (Addr×Obj)) (s:Shared) (σ:St) (H:Hp) (xs:List V) (us:List Value) (Q:VK),Inv X pins σ H s->Vals xs us->r xs H Q ->
  wpAny (model X.prog X.w) X.A (call f us) (EP X pins σ Q) X.xe s
def TruR (X:Cx) (r:V->Hp->(Bool->Hp->Prop)->Prop):Prop :=
 ∀(pins:List (Addr×Obj)) (s:Shared) (σ:St) (H:Hp) (x:V) (v:Value) (Q:Bool->Hp->Prop),Inv X pins σ H s->RelV x v->r x H Q ->
  wpAny (model X.prog X.w) X.A (truthy v) (TP X pins σ Q) X.xe s
def tOp (r:R2) (ta tb:TE):TE:=fun σ H Q=>ta σ H fun x H1=>tb σ H1 fun y H2=>r x y H2 Q
def tUn (r:V->Hp->VK->Prop) (ta:TE):TE:=fun σ H Q=>ta σ H fun x H1=>r x H1 Q
def rI (C:Int->Int->Prop) (g:Int->Int->V):R2:=fun x y H Q=>∃i j,x= .int i/\y= .int j/\C i j/\Q (g i j) H
def rI0 (g:Int->Int->V):R2:=fun x y H Q=>∃i j,x= .int i/\y= .int j/\Q (g i j) H
def rU (g:Int->V):V->Hp->VK->Prop:=fun x H Q=>∃i,x= .int i/\Q (g i) H
section
variable {X:Cx} {a b c:Expr} {ta tb tc:TE} {pos:Pos}
theorem binT (ha:PE X a ta) (hb:PE X b tb) {R:V->V->Hp->Prop} (I:Inv X pins σ H s)
  (h:ta σ H fun x H1=>tb σ H1 fun y H2=>R x y H2) {Q:Value->Shared->Prop} {f:Value->Value->Sem Value}
  (hf:∀v u s2 x y H2,Inv X pins σ H2 s2->RelV x v->RelV y u->R x y H2->wpAny (model X.prog X.w) X.A (f v u) Q X.xe s2) :
  wpAny (model X.prog X.w) X.A (eval a X.env) (fun v s₁=>wpAny (model X.prog X.w) X.A (eval b X.env) (fun u s₂=>wpAny (model X.prog X.w) X.A (f v u) Q X.xe s₂) X.xe s₁) X.xe s:=by
 refine thn (ha pins s σ H _ I h) fun v s1 ⟨x,H1,I1,r1,q1⟩=>?_;refine thn (hb pins s1 σ H1 _ I1 q1) fun u s2 ⟨y,H2,I2,r2,q2⟩=>?_;exact hf v u s2 x y H2 I2 r1 r2 q2
theorem zAp {op:Operator} (ho:OpR X (binaryOp op) r) (ha:PE X a ta) (hb:PE X b tb):PE X (.BinOp a op b pos) (tOp r ta tb):=by
 intro pins s σ H Q I h;exact wpAny_BinOp (binT ha hb I h fun v u s2 x y H2 I2 rx ry q=>ho pins s2 σ H2 x y v u Q I2 rx ry q)
theorem pe_un {op:UnaryOp} {r:V->Hp->VK->Prop} (ho:UnR X (unaryOp op) r) (ha:PE X a ta):PE X (.UnaryOp op a pos) (tUn r ta):=by
 intro pins s σ H Q I h;exact UnaryOp_ (thn (ha pins s σ H _ I h) fun v s1 ⟨x,H1,I1,r1,q1⟩=>ho pins s1 σ H1 x v Q I1 r1 q1)
theorem opI {f:Value->Value->Sem Value} {C:Int->Int->Prop} {g:Int->Int->Int}
  (rule:∀(i j:Int) (t u:Tok) (s:Shared) (Q:Value->Shared->Prop) (E:Value->Shared->Prop),C i j->Q (.int (g i j) s.toks) {s with toks:=s.toks+1}->wpAny (model X.prog X.w) X.A (f (.int i t) (.int j u)) Q E s) :
  OpR X f (rI C fun i j=>.int (g i j)):=by
 intro pins s σ H x y v u Q I rx ry h;obtain ⟨i,j,rfl,rfl,hc,q⟩:=h;obtain ⟨t,rfl⟩:=rx;obtain ⟨t',rfl⟩:=ry;exact rule i j t t' s _ _ hc ⟨.int (g i j),H,I.tok _,⟨_,rfl⟩,q⟩
theorem opI0 {f:Value->Value->Sem Value} {g:Int->Int->Int}
  (rule:∀(i j:Int) (t u:Tok) (s:Shared) (Q:Value->Shared->Prop) (E:Value->Shared->Prop),Q (.int (g i j) s.toks) {s with toks:=s.toks+1}->wpAny (model X.prog X.w) X.A (f (.int i t) (.int j u)) Q E s) :
  OpR X f (rI0 fun i j=>.int (g i j)):=by
 intro pins s σ H x y v u Q I rx ry h;obtain ⟨i,j,rfl,rfl,q⟩:=h;obtain ⟨t,rfl⟩:=rx;obtain ⟨t',rfl⟩:=ry;exact rule i j t t' s _ _ ⟨.int (g i j),H,I.tok _,⟨_,rfl⟩,q⟩
theorem opB0 {f:Value->Value->Sem Value} {g:Int->Int->Bool}
  (rule:∀(i j:Int) (t u:Tok) (s:Shared) (Q:Value->Shared->Prop) (E:Value->Shared->Prop),Q (.bool (g i j)) s->wpAny (model X.prog X.w) X.A (f (.int i t) (.int j u)) Q E s) :
  OpR X f (rI0 fun i j=>.bl (g i j)):=by
 intro pins s σ H x y v u Q I rx ry h;obtain ⟨i,j,rfl,rfl,q⟩:=h;obtain ⟨t,rfl⟩:=rx;obtain ⟨t',rfl⟩:=ry;exact rule i j t t' s _ _ ⟨.bl (g i j),H,I,rfl,q⟩
def CDiv (i j:Int):Prop:=0<j/\j<1073741824
def CPow (i j:Int):Prop:=0<=j/\j<=1000000/\i.natAbs<2^64
def CMul (i j:Int):Prop:=(-(2^64)<i/\i<2^64)\/(-(2^64)<j/\j<2^64)
theorem CMul.ok {i j:Int} (h:CMul i j):IntMulOk i j:=by
 rcases h with ⟨h1,h2⟩| ⟨h1,h2⟩
 ·exact .of_left (intBits_le_64 h1 h2)
 ·exact .of_right (intBits_le_64 h1 h2)
theorem zBj:OpR X (binaryOp .Add) (rI0 fun i j=>.int (i+j)):=opI0 fun _ _ _ _ _ _ _ q=>add_int q
theorem zD1:OpR X (binaryOp .Sub) (rI0 fun i j=>.int (i - j)):=opI0 fun _ _ _ _ _ _ _ q=>sub_int q
theorem zE2:OpR X (binaryOp .Mult) (rI CMul fun i j=>.int (i*j)):=opI fun _ _ _ _ _ _ _ hc q=>mul_int q hc.ok
theorem zI3:OpR X (binaryOp .FloorDiv) (rI CDiv fun i j=>.int (i / j)):=opI fun i j _ _ _ _ _ hc q=>by
 have h1:(0:Int)<j:=hc.1;have h2:j<1073741824:=hc.2;exact floordiv_int (by lia) (by rw [Int.fdiv_eq_ediv_of_nonneg i (by lia)];exact q) (.inl (PyProof.noPylong_small (by lia)))
theorem zE3:OpR X (binaryOp .Mod) (rI (fun _ j=>0<j) fun i j=>.int (i % j)):=opI fun i j _ _ _ _ _ hc q=>by
 have h1:(0:Int)<j:=hc;exact mod_int' (by lia) (by rw [Int.fmod_eq_emod_of_nonneg i (by lia)];exact q)
theorem op_pow:OpR X (binaryOp .Pow) (rI CPow fun i j=>.int (i^j.toNat)):=opI fun _ _ _ _ _ _ _ hc q=>pow_int_small hc.1 hc.2.1 hc.2.2 q
theorem unI {f:Value->Sem Value} {g:Int->Int}
  (rule:∀(i:Int) (t:Tok) (s:Shared) (Q:Value->Shared->Prop) (E:Value->Shared->Prop),Q (.int (g i) s.toks) {s with toks:=s.toks+1}->wpAny (model X.prog X.w) X.A (f (.int i t)) Q E s) :
  UnR X f (rU fun i=>.int (g i)):=by
 intro pins s σ H x v Q I rx h;obtain ⟨i,rfl,q⟩:=h;obtain ⟨t,rfl⟩:=rx;exact rule i t s _ _ ⟨.int (g i),H,I.tok _,⟨_,rfl⟩,q⟩
theorem un_neg:UnR X (unaryOp .USub) (rU fun i=>.int (-i)):=unI fun _ _ _ _ _ q=>neg_int q
end
def scal:V->V->Bool
 | .non,.non=>true| .non,.int _=>true| .int _,.non=>true| .non,.bl _=>true| .bl _,.non=>true| .non,.str _=>true| .str _,.non=>true
 | .int _,.int _=>true| .bl _,.bl _=>true| .str _,.str _=>true| .byt _,.byt _=>true
 | .int _,.str _=>true| .str _,.int _=>true| .bl _,.str _=>true| .str _,.bl _=>true
 | _,_=>false
def rEq:R2:=fun x y H Q=>scal x y=true/\Q (.bl (decide (x=y))) H
def rNe:R2:=fun x y H Q=>scal x y=true/\Q (.bl (!decide (x=y))) H
theorem dec_int {i j:Int}:decide (V.int i=V.int j)=(i==j):=by
 rw [qB5];simp
theorem dec_bl {i j:Bool}:decide (V.bl i=V.bl j)=(i==j):=by
 rw [qB5];simp
theorem dec_str {i j:Str}:decide (V.str i=V.str j)=(i==j):=by
 rw [qB5];simp
theorem dec_byt {i j:Array UInt8}:decide (V.byt i=V.byt j)=(i.toList==j.toList):=by
 rw [qB5]
 cases i
 cases j
 simp
section
variable {X:Cx} {a b c:Expr} {ta tb tc:TE} {pos:Pos}
theorem zAx {Q:VK} {k k':Bool} (I:Inv X pins σ H s) (q:Q (.bl k) H) (e:k=k'):EP X pins σ Q (.bool k') s:=by
 subst e;exact ⟨.bl k,H,I,rfl,q⟩
theorem zDd:OpR X (compareOp .Eq) rEq:=by
 intro pins s σ H x y v u Q I rx ry h;obtain ⟨hs,q⟩:=h
 cases x with
 | non =>
  cases rx
  cases y with
  | non=>cases ry;exact PySem.EqNone.eq_none_none (zAx I q (by simp))
  | bl j=>cases ry;exact PySem.EqNone.eq_none_bool (zAx I q (by simp))
  | int j=>obtain ⟨t',rfl⟩:=ry;exact PySem.EqNone.eq_none_int (zAx I q (by simp))
  | str j=>obtain ⟨t',rfl⟩:=ry;exact PySem.EqNone.eq_none_str (zAx I q (by simp))
  | _=>exact absurd (show false=true from hs) qAl
 | bl i =>
  cases rx
  cases y with
  | non=>cases ry;exact PySem.EqNone.eq_bool_none (zAx I q (by simp))
  | bl j=>cases ry;exact eq_bool (zAx I q dec_bl)
  | str j=>obtain ⟨t',rfl⟩:=ry;exact PySem.EqMixed.eq_bool_str (zAx I q (by simp))
  | _=>exact absurd (show false=true from hs) qAl
 | int i =>
  obtain ⟨t,rfl⟩:=rx
  cases y with
  | non=>cases ry;exact PySem.EqNone.eq_int_none (zAx I q (by simp))
  | int j=>obtain ⟨t',rfl⟩:=ry;exact eq_int (zAx I q dec_int)
  | str j=>obtain ⟨t',rfl⟩:=ry;exact PySem.EqMixed.eq_int_str (zAx I q (by simp))
  | _=>exact absurd (show false=true from hs) qAl
 | str i =>
  obtain ⟨t,rfl⟩:=rx
  cases y with
  | non=>cases ry;exact PySem.EqNone.eq_str_none (zAx I q (by simp))
  | bl j=>cases ry;exact PySem.EqMixed.eq_str_bool (zAx I q (by simp))
  | int j=>obtain ⟨t',rfl⟩:=ry;exact PySem.EqMixed.eq_str_int (zAx I q (by simp))
  | str j=>obtain ⟨t',rfl⟩:=ry;exact eq_str (zAx I q dec_str)
  | _=>exact absurd (show false=true from hs) qAl
 | byt i =>
  obtain ⟨t,rfl⟩:=rx
  cases y with
  | byt j=>obtain ⟨t',rfl⟩:=ry;exact PySem.W.eq_bytes (zAx I q dec_byt)
  | _=>exact absurd (show false=true from hs) qAl
 | _=>cases y<;>exact absurd (show false=true from hs) qAl
theorem op_ne:OpR X (compareOp .NotEq) rNe:=by
 intro pins s σ H x y v u Q I rx ry h;obtain ⟨hs,q⟩:=h
 cases x with
 | non =>
  cases rx
  cases y with
  | non=>cases ry;exact PySem.EqNone.ne_none_none (zAx I q (by simp))
  | bl j=>cases ry;exact PySem.EqNone.ne_none_bool (zAx I q (by simp))
  | int j=>obtain ⟨t',rfl⟩:=ry;exact PySem.EqNone.ne_none_int (zAx I q (by simp))
  | str j=>obtain ⟨t',rfl⟩:=ry;exact PySem.EqNone.ne_none_str (zAx I q (by simp))
  | _=>exact absurd (show false=true from hs) qAl
 | bl i =>
  cases rx
  cases y with
  | non=>cases ry;exact PySem.EqNone.ne_bool_none (zAx I q (by simp))
  | bl j=>cases ry;exact ne_bool (zAx I q (qAg not dec_bl))
  | str j=>obtain ⟨t',rfl⟩:=ry;exact PySem.EqMixed.ne_bool_str (zAx I q (by simp))
  | _=>exact absurd (show false=true from hs) qAl
 | int i =>
  obtain ⟨t,rfl⟩:=rx
  cases y with
  | non=>cases ry;exact PySem.EqNone.ne_int_none (zAx I q (by simp))
  | int j=>obtain ⟨t',rfl⟩:=ry;exact ne_int (zAx I q (qAg not dec_int))
  | str j=>obtain ⟨t',rfl⟩:=ry;exact PySem.EqMixed.ne_int_str (zAx I q (by simp))
  | _=>exact absurd (show false=true from hs) qAl
 | str i =>
  obtain ⟨t,rfl⟩:=rx
  cases y with
  | non=>cases ry;exact PySem.EqNone.ne_str_none (zAx I q (by simp))
  | bl j=>cases ry;exact PySem.EqMixed.ne_str_bool (zAx I q (by simp))
  | int j=>obtain ⟨t',rfl⟩:=ry;exact PySem.EqMixed.ne_str_int (zAx I q (by simp))
  | str j=>obtain ⟨t',rfl⟩:=ry;exact ne_str (zAx I q (qAg not dec_str))
  | _=>exact absurd (show false=true from hs) qAl
 | byt i =>
  obtain ⟨t,rfl⟩:=rx
  cases y with
  | byt j=>obtain ⟨t',rfl⟩:=ry;exact PySem.W.ne_bytes (zAx I q (qAg not dec_byt))
  | _=>exact absurd (show false=true from hs) qAl
 | _=>cases y<;>exact absurd (show false=true from hs) qAl
theorem op_lt:OpR X (compareOp .Lt) (rI0 fun i j=>.bl (decide (i<j))):=opB0 fun _ _ _ _ _ _ _ q=>lt_int q
theorem op_le:OpR X (compareOp .LtE) (rI0 fun i j=>.bl (decide (i<=j))):=opB0 fun _ _ _ _ _ _ _ q=>le_int q
theorem op_gt:OpR X (compareOp .Gt) (rI0 fun i j=>.bl (decide (j<i))):=opB0 fun _ _ _ _ _ _ _ q=>gt_int q
theorem zAl (b:Expr) (h:op≠.In:=by decide) (h2:op≠.NotIn:=by decide):behindInMarks op b=false:=by
 have e1:(op==CmpOp.In)=false:=by cases op<;>first| rfl| exact absurd rfl h
 have e2:(op==CmpOp.NotIn)=false:=by cases op<;>first| rfl| exact absurd rfl h2
 cases b<;>simp [behindInMarks,e1,e2]
theorem zBz (ho:OpR X (compareOp op) r) (ha:PE X a ta) (hb:PE X b tb) (hm:behindInMarks op b=false):PE X (.Compare a [op] [b] pos) (tOp r ta tb):=by
 intro pins s σ H Q I h;exact wpAny_Compare1 (binT ha hb I h fun v u s2 x y H2 I2 rx ry q=>ho pins s2 σ H2 x y v u Q I2 rx ry q) hm
def tTest (t:TE):TT:=fun σ H Q=>t σ H fun x H'=>∃k,x= .bl k/\Q k H'
theorem zAj (ho:OpR X (compareOp op) r) (ha:PE X a ta) (hb:PE X b tb) (hm:behindInMarks op b=false):PT X (.Compare a [op] [b] pos) (tTest (tOp r ta tb)):=by
 intro pins s σ H Q I h
 refine wpAny_isTrue_Compare1 (thn (ha pins s σ H _ I h) fun v s1 ⟨x,H1,I1,r1,q1⟩=>thn (hb pins s1 σ H1 _ I1 q1) fun u s2 ⟨y,H2,I2,r2,q2⟩ =>
  thn (ho pins s2 σ H2 x y v u _ I2 r1 r2 q2) fun c s3 ⟨z,H3,I3,r3,k,e,q3⟩=>?_) hm
 subst e
 cases r3
 exact qBG ⟨H3,I3,q3⟩
def tChain (r r':R2) (ta tb tc:TE):TE:=fun σ H Q=>ta σ H fun x H1=>tb σ H1 fun y H2=>r x y H2 fun z H3=>∃k,z= .bl k /\
 (if k=true then tc σ H3 fun w' H4=>r' y w' H4 Q else Q (.bl false) H3)
theorem pe_chain {op':CmpOp} {r':R2} (ho:OpR X (compareOp op) r) (ho':OpR X (compareOp op') r') (ha:PE X a ta) (hb:PE X b tb) (hc:PE X c tc)
  (hm:lastMarks [op,op'] [b,c]=false:=by with_unfolding_all rfl):PE X (.Compare a [op,op'] [b,c] pos) (tChain r r' ta tb tc):=by
 intro pins s σ H Q I h
 refine Compare_chain (thn (ha pins s σ H _ I h) fun v s1 ⟨x,H1,I1,r1,q1⟩=>chain_link (thn (hb pins s1 σ H1 _ I1 q1) fun u s2 ⟨y,H2,I2,r2,q2⟩ =>
  thn (ho pins s2 σ H2 x y v u _ I2 r1 r2 q2) fun d s3 ⟨z,H3,I3,r3,k,e,q3⟩=>?_)) hm
 subst e
 cases r3
 refine qBG ?_
 cases k with
 | false=>exact ite_ff ⟨.bl false,H3,I3,rfl,q3⟩
 | true=>exact ite_tt (chain_last (thn (hc pins s3 σ H3 _ I3 q3) fun w' s4 ⟨z',H4,I4,r4,q4⟩=>ho' pins s4 σ H4 y z' u w' Q I4 r2 r4 q4))
theorem pt_chain {op':CmpOp} {r':R2} (ho:OpR X (compareOp op) r) (ho':OpR X (compareOp op') r') (ha:PE X a ta) (hb:PE X b tb) (hc:PE X c tc)
  (hm:lastMarks [op,op'] [b,c]=false:=by with_unfolding_all rfl):PT X (.Compare a [op,op'] [b,c] pos) (tTest (tChain r r' ta tb tc)):=by
 intro pins s σ H Q I h
 refine isTrue_chain (thn (ha pins s σ H _ I h) fun v s1 ⟨x,H1,I1,r1,q1⟩=>test_link (thn (hb pins s1 σ H1 _ I1 q1) fun u s2 ⟨y,H2,I2,r2,q2⟩ =>
  thn (ho pins s2 σ H2 x y v u _ I2 r1 r2 q2) fun d s3 ⟨z,H3,I3,r3,k,e,q3⟩=>?_)) hm
 subst e
 cases r3
 refine qBG ?_
 cases k with
 | false =>
  obtain ⟨k',e',q'⟩:=q3
  cases e'
  exact ite_ff ⟨H3,I3,q'⟩
 | true =>
  refine ite_tt (test_last (thn (hc pins s3 σ H3 _ I3 q3) fun w' s4 ⟨z',H4,I4,r4,q4⟩=>thn (ho' pins s4 σ H4 y z' u w' _ I4 r2 r4 q4) fun d' s5 ⟨z2,H5,I5,r5,k2,e2,q5⟩=>?_));subst e2
  cases r5
  exact qBG ⟨H5,I5,q5⟩
def TruV (K:PySem.W.Frag) (x:V) (H:Hp) (k:Bool):Prop :=
 match x with
 | .non=>k=false
 | .bl b=>k=b
 | .int i=>k=(i != 0)
 | .str y=>y.length<=sizeLine/\k=((y.length:Int) != 0)
 | .byt y=>y.size<=sizeLine/\k=((y.size:Int) != 0)
 | .ref p=>(∃xs,SqL K H p xs/\k= !xs.isEmpty)\/(∃xs,SqT K H p xs/\k= !xs.isEmpty)\/∃kvs,H p=some (.dK kvs)/\k= !kvs.isEmpty
 | _=>False
theorem isEmpty_kv {κ:Type} {kvs:List (κ×V)} {vs:List (κ×Value)} (r:KV kvs vs):(!vs.isEmpty)= !kvs.isEmpty:=by
 cases r<;>rfl
theorem zIg {its:List Value} (r:Vals xs its):(!its.toArray.isEmpty)= !xs.isEmpty:=by
 cases r<;>simp
theorem zHf:(sizeLine:Nat)<2^63:=by rw [qAJ];decide
theorem tru_ok:TruR X (fun x H Q=>∃k,TruV X.K x H k/\Q k H):=by
 intro pins s σ H x v Q I rx h;obtain ⟨k,e,q⟩:=h;have hl:=zHf;have hs:sizeLine=16777216:=qAJ
 cases x with
 | non =>
  cases rx
  have e':k=false:=e;subst e';exact truthy_none ⟨H,I,q⟩
 | bl b =>
  cases rx
  have e':k=b:=e;subst e';exact qBG ⟨H,I,q⟩
 | int i =>
  obtain ⟨t,rfl⟩:=rx;have e':k=(i != 0):=e;subst e';exact PySem.P.truthy_int ⟨H,I,q⟩
 | str y =>
  obtain ⟨t,rfl⟩:=rx;obtain ⟨hy,e'⟩:y.length<=sizeLine/\k=((y.length:Int) != 0):=e;subst e';exact PySem.P.truthy_str (by lia) ⟨H,I.tok _,q⟩
 | byt y =>
  obtain ⟨t,rfl⟩:=rx;obtain ⟨hy,e'⟩:y.size<=sizeLine/\k=((y.size:Int) != 0):=e;subst e';exact PySem.W.truthy_bytes (by lia) ⟨H,I.tok _,q⟩
 | ref p =>
  cases rx
  have e':(∃xs,SqL X.K H p xs/\k= !xs.isEmpty)\/(∃xs,SqT X.K H p xs/\k= !xs.isEmpty)\/∃kvs,H p=some (.dK kvs)/\k= !kvs.isEmpty:=e;rcases e' with ⟨xs,hx,e'⟩| ⟨xs,hx,e'⟩| ⟨kvs,hx,e'⟩
  ·subst e';obtain ⟨its,r,pl,hz⟩:=I.list hx;have hlen:=r.length;exact wpAny_truthy_list pl.isList (by simp only [qAO];lia) ⟨H,I.tok _,by rw [zIg r];exact q⟩
  ·subst e';obtain ⟨its,r,pl,hz⟩:=I.tuple hx;have hlen:=r.length;exact truthy_tuple pl (by simp only [qAO];lia) ⟨H,I.tok _,by rw [zIg r];exact q⟩
  ·subst e';obtain ⟨hz,hS,vs,r,m⟩:kvs.length<=sizeLine/\(p==sysModules)=false/\∃vs,KV kvs vs/\s.heap.DictOf (zAt X.prog X.w) p vs:=I.hok p _ hx;have hlen:kvs.length=vs.length:=qB3 r;exact wpAny_truthy_dict hS m (by lia) ⟨H,I.tok _,by rw [isEmpty_kv r];exact q⟩
 | _=>exact (show False from e).elim
theorem zIy (ha:PE X a ta) (he:∀whole,isTrue a X.env whole=(do let v<-whole;standAt a.pos;holding [v] (truthy v))) :
  PT X a (fun σ H Q=>ta σ H fun x H'=>∃k,TruV X.K x H' k/\Q k H'):=by
 intro pins s σ H Q I h;exact isTrue_plain (thn (ha pins s σ H _ I h) fun v s1 ⟨x,H1,I1,r1,q1⟩=>tru_ok pins s1 σ H1 x v Q I1 r1 q1) (he _)
theorem op_add_str:OpR X (binaryOp .Add) (fun x y H Q=>∃i j,x= .str i/\y= .str j/\i.length+j.length<=sizeLine/\Q (.str (i++j)) H):=by
 intro pins s σ H x y v u Q I rx ry h;obtain ⟨i,j,rfl,rfl,hz,q⟩:=h;obtain ⟨t,rfl⟩:=rx;obtain ⟨t',rfl⟩:=ry;exact add_str (fun t' tk=>⟨.str (i++j),H,I.tok _,⟨_,rfl⟩,q⟩) hz
theorem vals1 {x:V} (r:Vals [x] us):∃u,us=[u]/\RelV x u:=by
 cases r with
 | cons r1 r2=>cases r2;exact ⟨_,rfl,r1⟩
theorem vals2 {x:V} (r:Vals [x,y] us):∃u w',us=[u,w']/\RelV x u/\RelV y w':=by
 cases r with
 | cons r1 r2 =>
  cases r2 with
  | cons r3 r4=>cases r4;exact ⟨_,_,rfl,r1,r3⟩
theorem call_max2 (hc:X.calm=true):zDt X (.builtin "max") (fun xs H Q=>∃i j,xs=[.int i,.int j]/\Q (.int (if j>i then j else i)) H):=by
 intro pins s σ H xs us Q I r h;obtain ⟨i,j,rfl,q⟩:=h;obtain ⟨u,w',rfl,⟨t,rfl⟩,⟨t',rfl⟩⟩:=vals2 r;refine max_two_ints (I.ok.hd hc) fun h' tk k=>⟨_,H,I.kept k,?_,q⟩
 by_cases hj:j>i
 ·rw [qAC hj,qAC hj];exact ⟨_,rfl⟩
 ·rw [qAB hj,qAB hj];exact ⟨_,rfl⟩
theorem call_min2 (hc:X.calm=true):zDt X (.builtin "min") (fun xs H Q=>∃i j,xs=[.int i,.int j]/\Q (.int (if j<i then j else i)) H):=by
 intro pins s σ H xs us Q I r h;obtain ⟨i,j,rfl,q⟩:=h;obtain ⟨u,w',rfl,⟨t,rfl⟩,⟨t',rfl⟩⟩:=vals2 r;refine min_two_ints (I.ok.hd hc) fun h' tk k=>⟨_,H,I.kept k,?_,q⟩
 by_cases hj:j<i
 ·rw [qAC hj,qAC hj];exact ⟨_,rfl⟩
 ·rw [qAB hj,qAB hj];exact ⟨_,rfl⟩
theorem zD8:zDt X (.type "int") (fun xs H Q=>(∃i,xs=[.int i]/\Q (.int i) H)\/∃k,xs=[.bl k]/\Q (.int (if k then 1 else 0)) H):=by
 intro pins s σ H xs us Q I r h;rcases h with ⟨i,rfl,q⟩| ⟨k,rfl,q⟩
 ·obtain ⟨u,rfl,t,rfl⟩:=vals1 r;exact call_int_int ⟨.int i,H,I,⟨_,rfl⟩,q⟩
 ·obtain ⟨u,rfl,r1⟩:=vals1 r
  cases r1
  exact call_int_bool ⟨.int (if k then 1 else 0),H,I.tok _,⟨_,rfl⟩,q⟩
end
structure ObjM (h:Heap) (x dx C:Addr) (mA:Str->Option Value):Prop where
 obj:h.get? x=some (PySem.W.instObj C dx)
 ns:h.Ns1 dx mA
 ne:dx≠x
theorem lookIn_ns {dx:Addr} {mA:Str->Option Value} (n:h.Ns1 dx mA):∃od,h.get? dx=some od/\∀name,PySem.W.lookIn name od=some (mA name):=by
 obtain ⟨o,es,ep,ho,hd,hk,_,hm⟩:=n;refine ⟨o,ho,fun name=>?_⟩;have e:=hm name;unfold nsFind findBy at e;rw [<-Array.find?_toList] at e;unfold PySem.W.lookIn;rw [hd];dsimp only;split
 ·rename_i y q;rw [q] at e;exact qAg some e
 ·rename_i q;rw [q] at e
  have a:es.toList.any (·.refKey)=false:=by
   rw [List.any_eq_false];intro y hy;obtain ⟨z,t,hkey⟩:=hk y (qDS.mp hy);simp [DictEntry.refKey,hkey]
  have a':¬es.toList.any (·.refKey)=true:=by rw [a];exact qAl
  rw [qAB a'];exact qAg some e
theorem ObjM.look {x dx:Addr} {mA:Str->Option Value} (I:ObjM h x dx C mA):∃od,PySem.W.InstAt h x (PySem.W.instObj C dx) C (some od)/\∀name,PySem.W.lookIn name od=some (mA name) :=
 let ⟨od,ho,hl⟩:=lookIn_ns I.ns
 ⟨od,⟨I.obj,rfl,rfl,ho⟩,hl⟩
section
variable {prog:Program} {w:World} {A:Around} {E:Value->Shared->Prop} {s:Shared} {K:PySem.W.Frag} {x dx C f:Addr} {mA:Str->Option Value} {name:Str} {v:Value}
theorem get_map {expr:Bool} {Q:Value->Shared->Prop} (X:K.In s.heap) (I:ObjM s.heap x dx C mA) (hg:PySem.W.plainGet K C name=true) (hh:PySem.W.hasDictIn K C=true)
  (ha:PySem.W.findIn K (.ref C) name=some none) (hv:mA name=some v) (hv':PySem.W.handedIn v=true) (h:Q v {s with toks:=s.toks+1}) :
  wpAny (model prog w) A (getAttr (.ref x) name expr) Q E s:=by
 obtain ⟨od,J,hl⟩:=I.look;exact PySem.W.get_value X J (PySem.W.plainGet_of hg).1 (PySem.W.findObj_own hh ha rfl (by rw [hl,hv])) hv' h
theorem get_meth {pl:Sem Bool} {Q:Value×List Value->Shared->Prop} (X:K.In s.heap) (I:ObjM s.heap x dx C mA) (hg:PySem.W.plainGet K C name=true)
  (hf:PySem.W.findIn K (.ref C) name=some (some (.ref f))) (ht:PySem.W.isFn K (.ref f)=true) (hv:mA name=none) (h:Q (.ref f,[.ref x]) s) :
  wpAny (model prog w) A (getMethod (.ref x) name pl) Q E s:=by
 obtain ⟨od,J,hl⟩:=I.look;exact PySem.W.method_fn X J (PySem.W.plainGet_of hg).1 (PySem.W.plainGet_of hg).2 hf (qCT.mp ht) (by show (PySem.W.lookIn name od).map (·.isSome)=some false;rw [hl,hv];rfl) h
theorem set_map {ns:List Str} {Q:Unit->Shared->Prop} (X:K.In s.heap) (I:ObjM s.heap x dx C mA)
  (hs:PySem.W.findIn K (.ref C) "__setattr__" = some (some (.builtin "object.__setattr__"))) (hp:PySem.W.plainOver K C=true) (ht:PySem.W.takerIn K C name=some none) (hh:PySem.W.hasDictIn K C=true)
  (hw:PySem.Within mA ns) (hsz:ns.length<=sizeLine)
  (h:∀h',ObjM h' x dx C (fun y=>if y=name then some v else mA y)->Heap.SameBut dx s.heap h'->Q () {s with heap:=h',toks:=s.toks+2}) :
  wpAny (model prog w) A (setAttr (.ref x) name v) Q E s:=by
 obtain ⟨od,J,hl⟩:=I.look;refine PySem.W.set_plain X J hs (PySem.W.osa_open (s:={s with toks:=s.toks+1}) (r:=none) X J hp ht fun b=>?_);obtain ⟨cd,hc,hd'⟩:=PySem.W.any_some hh;have hx:s.heap.get? x=some ⟨.ref C,some dx,.plain,#[]⟩:=I.obj;refine qAA (qAE (qAA (qAA (wpAny_loadPart hx (qAA (PySem.W.Looks.here (s:={s with toks:=s.toks+1}) (PySem.W.looks_clsIn X hc) ?_))))));rw [hd'];refine qAE (a:=some dx) (qAA (qAE (qAA ?_)));refine wpAny_nsSet1 (s:={s with toks:=s.toks+1}) I.ns fun h' hn2 hs2=>?_;obtain ⟨oD,esD,epD,hoD,hdD,hcD⟩:=hn2.count (PySem.Within.cons name v hw);refine qAA (wpAny_lookBehind hoD (by rw [hdD];exact pastItsLine_dict (qAY hcD (by rw [qAb];lia))) ?_);exact qAE (h _ ⟨(hs2.2 _ (qAu I.ne)).trans I.obj,hn2,I.ne⟩ hs2)
theorem make_map {R:Result->Shared->Prop} {vs:List Value} {kw:List (Str×Value)} (X:K.In s.heap) (hm:PySem.W.makesIn K C=true)
  (hi:PySem.W.findIn K (.ref C) "__init__" = some (some (.ref f))) (hf:PySem.W.typeIn K (.ref f)=some (.type "function"))
  (h:codeAny (model prog w) (A.under (.builtin "type.__call__" ⟨.ref C::vs,kw⟩)) (.call (.ref f) ⟨.ref (s.heap.objs.size+1)::vs,kw⟩) (PySem.W.InitBack (s.heap.objs.size+1) R)
   {s with heap:=(s.heap.push PySem.W.emptyDict).push (PySem.W.instObj C s.heap.objs.size)}) :
  codeAny (model prog w) A (.call (.ref C) ⟨vs,kw⟩) R s:=by
 obtain ⟨hh,g,d,t,os⟩:=s;exact PySem.W.make_core (PySem.W.makes_of X hm) (PySem.W.looks_findIn X hi) (fun self=>PySem.W.bind_fn X self hf) (.inl rfl) h
end
def putF (f:Str) (v:V):List (Str×V)->List (Str×V)
 | []=>[(f,v)]
 | (g,x)::r=>if g=f then (g,v)::r else (g,x)::putF f v r
theorem zAq (f g:Str) (v:V):∀fs:List (Str×V),(putF f v fs).lookup g=if g=f then some v else fs.lookup g
 | []=>by
  show List.lookup g [(f,v)]=_
  by_cases h:g=f
  ·have hb:(g==f)=true:=qCT.mpr h;simp only [List.lookup,hb,qAC h]
  ·have hb:(g==f)=false:=qBE.mpr h;simp only [List.lookup,hb,qAB h]
 | (k,x)::r=>by
  have ih:=zAq f g v r;rw [show putF f v ((k,x)::r)=(if k=f then (k,v)::r else (k,x)::putF f v r) from rfl]
  by_cases hk:k=f
  ·rw [qAC hk]
   by_cases h:g=k
   ·have hb:(g==k)=true:=qCT.mpr h;simp only [List.lookup,hb,qAC (h.trans hk)]
   ·have hb:(g==k)=false:=qBE.mpr h;simp only [List.lookup,hb,qAB (fun e:g=f=>h (e.trans hk.symm))]
  ·rw [qAB hk]
   by_cases h:g=k
   ·have hb:(g==k)=true:=qCT.mpr h;simp only [List.lookup,hb,qAB (fun e:g=f=>hk (h.symm.trans e))]
   ·have hb:(g==k)=false:=qBE.mpr h;simp only [List.lookup,hb];exact ih
theorem zHi (f:Str) (v:V):∀fs:List (Str×V),f∈(putF f v fs).map (·.1)/\∀g,g∈fs.map (·.1)->g∈(putF f v fs).map (·.1)
 | []=>⟨by simp [putF],fun g h=>by simp at h⟩
 | (k,x)::r=>by
  obtain ⟨i1,i2⟩:=zHi f v r;rw [show putF f v ((k,x)::r)=(if k=f then (k,v)::r else (k,x)::putF f v r) from rfl]
  by_cases hk:k=f
  ·rw [qAC hk];subst hk;exact ⟨by simp,fun g h=>by simpa using h⟩
  ·rw [qAB hk];refine ⟨?_,fun g h=>?_⟩
   ·rw [qAk];exact qAT _ i1
   ·rw [qAk] at h ⊢;rcases qAP.mp h with e| e
    ·exact qAP.mpr (.inl e)
    ·exact qAT _ (i2 g e)
theorem zHg (f:Str) (v:V):∀fs:List (Str×V),(putF f v fs).length<=fs.length+1
 | []=>by simp [putF]
 | (k,x)::r=>by
  have ih:=zHg f v r;rw [show putF f v ((k,x)::r)=(if k=f then (k,v)::r else (k,x)::putF f v r) from rfl]
  by_cases hk:k=f
  ·rw [qAC hk,qAb,qAb];lia
  ·rw [qAB hk,qAb,qAb];lia
theorem RelO.some_of {v:V} {o:Option Value} (r:RelO (some v) o):∃u,o=some u/\RelV v u:=by
 cases o with
 | none=>exact (show False from r).elim
 | some u=>exact ⟨u,rfl,r⟩
theorem RelO.none_of {o:Option Value} (r:RelO none o):o=none:=by
 cases o with
 | none=>rfl
 | some u=>exact (show False from r).elim
theorem handed_of (r:RelV v u):PySem.W.handedIn u=true:=by
 cases v with
 | non=>cases (show u=Value.none from r);rfl
 | bl b=>cases (show u=Value.bool b from r);rfl
 | int i=>obtain ⟨t,e⟩:=(show∃t,u=Value.int i t from r);cases e;rfl
 | str x=>obtain ⟨t,e⟩:=(show∃t,u=Value.str x t from r);cases e;rfl
 | byt b=>obtain ⟨t,e⟩:=(show∃t,u=Value.bytes b t from r);cases e;rfl
 | flt b=>obtain ⟨t,e⟩:=(show∃t,u=Value.float b t from r);cases e;rfl
 | ref a=>cases (show u=Value.ref a from r);rfl
 | ty n=>cases (show u=Value.type n from r);rfl
section
variable {P:Program} {w:World} {H H':Hp} {h h':Heap} {a C dx:Addr} {fs fs':List (Str×V)}
theorem zFu (hok:HOk P w H h) (e:H a=some (.ins C dx fs)):∃mA,ObjM h a dx C mA/\(∀f,RelO (fs.lookup f) (mA f))/\PySem.Within mA (fs.map (·.1))/\fs.length<=1000/\H dx=some (.own a):=by
 obtain ⟨d,z,ne,ob,mA,n,r,q⟩:=(show zA7 P w H h a (.ins C dx fs) from hok a _ e);exact ⟨mA,⟨ob,n,ne⟩,r,q,z,d⟩
end
structure Cls (K:PySem.W.Frag) (C:Addr):Prop where
 pg:PySem.W.plainGet K C Str.empty=true
 hd:PySem.W.hasDictIn K C=true
 po:PySem.W.plainOver K C=true
 sa:PySem.W.findIn K (.ref C) "__setattr__" = some (some (.builtin "object.__setattr__"))
theorem Cls.get (c:Cls K C) (f:Str):PySem.W.plainGet K C f=true:=c.pg
def zFk (K:PySem.W.Frag) (C:Addr) (f:Str):Prop:=PySem.W.findIn K (.ref C) f=some none
theorem zFk.taker {f:Str} (n:zFk K C f):PySem.W.takerIn K C f=some none:=by
 unfold PySem.W.takerIn;rw [show PySem.W.findIn K (.ref C) f=some none from n];rfl
structure Meth (K:PySem.W.Frag) (C:Addr) (m:Str) (f:Addr):Prop where
 at_:PySem.W.findIn K (.ref C) m=some (some (.ref f))
 fn:PySem.W.isFn K (.ref f)=true
 kp:PySem.W.keepIn K (.ref f)=true
section
variable {X:Cx} {pins:List (Addr×Obj)} {σ:St} {H:Hp} {s:Shared} {a C dx:Addr} {fs:List (Str×V)} {f:Str} {v:V} {A:Around} {E:Value->Shared->Prop}
theorem getattr_ok {b:Bool} {Q:Value->Shared->Prop} (I:Inv X pins σ H s) (e:H a=some (.ins C dx fs)) (c:Cls X.K C) (n:zFk X.K C f) (l:fs.lookup f=some v)
  (h:∀u s',Inv X pins σ H s'->RelV v u->Q u s'):wpAny (model X.prog X.w) A (getAttr (.ref a) f b) Q E s:=by
 obtain ⟨mA,O,r,_,_,_⟩:=zFu I.hok e;obtain ⟨u,hu,ru⟩:=RelO.some_of (v:=v) (o:=mA f) (by rw [<-l];exact r f);exact get_map I.kIn O (c.get f) c.hd n hu (handed_of ru) (h u _ (I.tok _) ru)
theorem zIh {m:Str} {g:Addr} {pl:Sem Bool} {Q:Value×List Value->Shared->Prop} (I:Inv X pins σ H s) (e:H a=some (.ins C dx fs)) (c:Cls X.K C) (k:Meth X.K C m g) (l:fs.lookup m=none)
  (h:Q (.ref g,[.ref a]) s):wpAny (model X.prog X.w) A (getMethod (.ref a) m pl) Q E s:=by
 obtain ⟨mA,O,r,_,_,_⟩:=zFu I.hok e;have hn:mA m=none:=RelO.none_of (by rw [<-l];exact r m);exact get_meth I.kIn O (c.get m) k.at_ k.fn hn h
theorem setattr_ok {Q:Unit->Shared->Prop} (I:Inv X pins σ H s) (e:H a=some (.ins C dx fs)) (c:Cls X.K C) (n:zFk X.K C f) (hl:fs.length<1000) (ry:RelV y u)
  (h:∀s',Inv X pins σ (upd H a (.ins C dx (putF f y fs))) s'->Q () s'):wpAny (model X.prog X.w) A (setAttr (.ref a) f u) Q E s:=by
 obtain ⟨mA,O,r,wi,_,ho⟩:=zFu I.hok e;have hz:(fs.map (·.1)).length<=sizeLine:=by rw [qAD,qAJ];lia
 refine set_map I.kIn O c.sa c.po n.taker c.hd wi hz fun h' O' sb=>h _ ?_;have hd:∃o,h'.get? dx=some o:=let ⟨o,_,_,e',_⟩:=O'.ns;⟨o,e'⟩;refine I.write (x:=a) (e:=dx) (by rw [e];exact True.intro) (.inr ho) (fun b q hb z=>(sb.2 b hb).trans z) hd ?_;refine ⟨by rw [upd_ne O.ne];exact ho,?_,O.ne,O'.obj,_,O'.ns,fun g=>?_,fun g hg=>?_⟩
 ·have:=zHg f y fs;lia
 ·show RelO ((putF f y fs).lookup g) (if g=f then some u else mA g);rw [zAq]
  by_cases q:g=f
  ·rw [qAC q,qAC q];exact ry
  ·rw [qAB q,qAB q];exact r g
 ·by_cases q:g=f
  ·rw [q];exact (zHi f y fs).1
  ·refine (zHi f y fs).2 g (wi g fun z=>hg ?_);show (if g=f then some u else mA g)=none;rw [qAB q];exact z
theorem Inv.made (I:Inv X pins σ H s):Inv X pins σ (upd (upd H s.heap.objs.size (.own (s.heap.objs.size+1))) (s.heap.objs.size+1) (.ins C s.heap.objs.size []))
  {s with heap:=(s.heap.push PySem.W.emptyDict).push (PySem.W.instObj C s.heap.objs.size)}:=by
 have e1:(s.heap.push PySem.W.emptyDict).get? s.heap.objs.size=some PySem.W.emptyDict:=qAh s.heap rfl
 have e2:((s.heap.push PySem.W.emptyDict).push (PySem.W.instObj C s.heap.objs.size)).get? (s.heap.objs.size+1)=some (PySem.W.instObj C s.heap.objs.size):=by
  have:=qAh (s.heap.push PySem.W.emptyDict) (o:=PySem.W.instObj C s.heap.objs.size) rfl
  rwa [qBg] at this
 have e3:(s.heap.push PySem.W.emptyDict).Ns s.heap.objs.size (fun _=>none):=⟨PySem.W.emptyDict,#[],_,e1,rfl,(fun e he=>absurd he (by simp)),fun _=>rfl⟩;have I1:=I.laid (a:=s.heap.objs.size) (o:=.own (s.heap.objs.size+1)) (h':=s.heap.push PySem.W.emptyDict) (t':=s.toks) (fun b u q=>qAL _ q) (qAG _) ⟨_,e1⟩;refine I1.laid (a:=s.heap.objs.size+1) (o:=.ins C s.heap.objs.size []) (t':=s.toks) (fun b u q=>qAL _ q) (qB6 (qBg _ _)) ?_;have ne:s.heap.objs.size≠s.heap.objs.size+1:=qAS (qBs _);refine ⟨by rw [upd_ne ne,upd_same],qAj _,ne,e2,fun _=>none,(Heap.Ns1.of_empty e3).at fun o q=>qAL _ q,fun _=>True.intro,fun y hy=>absurd rfl hy⟩
theorem attr_of {prog:Program} {env:Env} {f:Str} {pos:Pos} {Q:Value->Shared->Prop} (hb:attributeBase e f env (eval e env)=eval e env)
  (h:wpAny (model prog w) A (eval e env) (fun o s₁=>wpAny (model prog w) A (getAttr o f true) Q E s₁) E s):wpAny (model prog w) A (eval (.Attribute e f pos) env) Q E s :=
 Attribute_any_ h (by rw [arm_eval_Attribute,hb])
end
def tFld (K:PySem.W.Frag) (ta:TE) (f:Str):TE:=fun σ H Q=>ta σ H fun x H1=>∃a C dx fs v,x= .ref a/\H1 a=some (.ins C dx fs)/\Cls K C/\zFk K C f/\fs.lookup f=some v/\Q v H1
def sFld (K:PySem.W.Frag) (ta tv:TE) (f:Str):TS:=fun D σ H=>tv σ H fun y H1=>ta σ H1 fun x H2=>∃a C dx fs,x= .ref a/\H2 a=some (.ins C dx fs)/\Cls K C/\zFk K C f/\fs.length<1000 /\
 D.nx σ (upd H2 a (.ins C dx (putF f y fs)))
section
variable {X:Cx} {o e value:Expr} {f:Str} {pos pos' tpos:Pos} {ta tv:TE}
theorem zDc (he:PE X e ta) (hb:attributeBase e f X.env (eval e X.env)=eval e X.env):PE X (.Attribute e f pos) (tFld X.K ta f):=by
 intro pins s σ H Q I h;refine attr_of hb (thn (he pins s σ H _ I h) fun u s1 ⟨x,H1,I1,rx,a,C,dx,fs,v,ex,ea,c,n,l,q⟩=>?_);subst ex;obtain rfl:u=Value.ref a:=rx;exact getattr_ok I1 ea c n l fun u' s2 I2 ru=>⟨v,H1,I2,ru,q⟩
theorem ps_fld (ha:PE X o ta) (hv:PE X value tv) (hs:swapsWith value (some (.Attribute o f pos')) pos.line X.env=pure false):PS X (.Assign [.Attribute o f pos'] value pos) (sFld X.K ta tv f):=by
 intro pins s σ H D I h;refine plainObj_wpAny_Assign_Attribute (thn (hv pins s σ H _ I h) fun u s1 ⟨y,H1,I1,ry,q⟩=>thn (ha pins s1 σ H1 _ I1 q) fun ov s2 ⟨x,H2,I2,rx,a,C,dx,fs,ex,ea,c,n,l,q2⟩=>?_) hs;subst ex;obtain rfl:ov=Value.ref a:=rx;exact setattr_ok I2 ea c n l ry fun s3 I3=>⟨σ,_,I3,q2⟩
end
section
variable {X:Cx} {pins:List (Addr×Obj)} {σ:St} {H:Hp} {s:Shared} {A:Around} {E:Value->Shared->Prop} {Q:Value->Shared->Prop} {c:Value} {b:Bool}
inductive TyOf (K:PySem.W.Frag) (H:Hp):V->Value->Prop where
 | non:TyOf K H .non (.type "NoneType")
 | bl (x:Bool):TyOf K H (.bl x) (.type "bool")
 | int (i:Int):TyOf K H (.int i) (.type "int")
 | str (x:Str):TyOf K H (.str x) (.type "str")
 | flt (x:UInt64):TyOf K H (.flt x) (.type "float")
 | lst {a:Addr} {xs:List V} (e:H a=some (.lst xs)):TyOf K H (.ref a) (.type "list")
 | frz {a:Addr} {o:Obj} {xs:List V} (e:H a=some (.frz o (.lst xs))):TyOf K H (.ref a) (.type "list")
 | tup {a:Addr} {xs:List V} (e:H a=some (.tup xs)):TyOf K H (.ref a) (.type "tuple")
 | dK {a:Addr} {kvs:List (Key×V)} (e:H a=some (.dK kvs)):TyOf K H (.ref a) (.type "dict")
 | dT {a:Addr} {kvs:List (List Key×V)} (e:H a=some (.dT kvs)):TyOf K H (.ref a) (.type "dict")
 | ins {a C dx:Addr} {fs:List (Str×V)} (e:H a=some (.ins C dx fs)) (cl:Cls K C) (ha:PySem.W.findIn K (.ref C) "__class__" = some (some (.builtin "object.__class__")))
   (hn:PySem.W.specialIn K (.builtin "object.__class__") "__get__" = some (some (.builtin "getset_descriptor.__get__"))) (htk:PySem.W.takesIn K (.builtin "object.__class__")=some true)
   (hm:PySem.W.mroIn K C (.type "object")=some true):TyOf K H (.ref a) (.ref C)
theorem isinst_ok {x:V} {t:Value} (I:Inv X pins σ H s) (rx:RelV x u) (ty:TyOf X.K H x t) (e:PySem.W.kitOne X.K t c=some b) (h:∀tk,Q (.bool b) {s with toks:=tk}) :
  wpAny (model X.prog X.w) A (call (.builtin "isinstance") [u,c]) Q E s:=by
 cases ty with
 | non=>cases (show u=Value.none from rx);exact qBN PySem.W.kitx_none I.kIn True.intro e (fun z=>nomatch z) h
 | bl y=>cases (show u=Value.bool y from rx);exact qBN PySem.W.kitx_bool I.kIn True.intro e (fun z=>nomatch z) h
 | int i=>obtain ⟨t,q⟩:=(show∃t,u=Value.int i t from rx);cases q;exact qBN PySem.W.kitx_int I.kIn True.intro e (fun z=>nomatch z) h
 | str y=>obtain ⟨t,q⟩:=(show∃t,u=Value.str y t from rx);cases q;exact qBN PySem.W.kitx_str I.kIn True.intro e (fun z=>nomatch z) h
 | flt y=>obtain ⟨t,q⟩:=(show∃t,u=Value.float y t from rx);cases q;exact qBN PySem.W.kitx_float I.kIn True.intro e (fun z=>nomatch z) h
 | @lst a xs ea =>
  cases (show u=Value.ref a from rx)
  obtain ⟨_,_,n,_,h1⟩:=(show zA7 X.prog X.w H s.heap a (.lst xs) from I.hok a _ ea);exact qBN PySem.W.kitx_list I.kIn ⟨_,h1,rfl⟩ e (fun z=>nomatch z) h
 | @frz a ob xs ea =>
  cases (show u=Value.ref a from rx)
  obtain ⟨_,_,_,n,_,h1⟩:=(show zA7 X.prog X.w H s.heap a (.frz ob (.lst xs)) from I.hok a _ ea);exact qBN PySem.W.kitx_list I.kIn ⟨_,h1,rfl⟩ e (fun z=>nomatch z) h
 | @tup a xs ea =>
  cases (show u=Value.ref a from rx)
  obtain ⟨_,_,_,p⟩:=(show zA7 X.prog X.w H s.heap a (.tup xs) from I.hok a _ ea);obtain ⟨o,h1,h2,_⟩:=p;exact qBN PySem.W.kitx_tuple I.kIn ⟨o,h1,h2⟩ e (fun z=>nomatch z) h
 | @dK a kvs ea =>
  cases (show u=Value.ref a from rx)
  obtain ⟨_,_,vs,_,p⟩:=(show zA7 X.prog X.w H s.heap a (.dK kvs) from I.hok a _ ea);obtain ⟨o,es,ep,h1,h2,_⟩:=p;exact qBN PySem.W.kitx_dict I.kIn ⟨o,h1,h2.1⟩ e (fun z=>nomatch z) h
 | @dT a kvs ea =>
  cases (show u=Value.ref a from rx)
  obtain ⟨_,_,xs,_,o,es,ep,h1,h2,_⟩:=(show zA7 X.prog X.w H s.heap a (.dT kvs) from I.hok a _ ea);exact qBN PySem.W.kitx_dict I.kIn ⟨o,h1,h2.1⟩ e (fun z=>nomatch z) h
 | @ins a C dx fs ea cl ha hn htk hm =>
  cases (show u=Value.ref a from rx)
  obtain ⟨mA,O,_⟩:=zFu I.hok ea;obtain ⟨od,J,_⟩:=O.look;exact qBN (PySem.W.kitx_own (cl.get _) cl.hd ha hn htk hm) I.kIn J e (fun z=>nomatch z) h
end
structure Room (k:Nat) (A:Around):Prop where
 hd:A.handled=none
 dp:A.depth+3*k+5<recursionLimit
 un:A.units+16*k+200<cLine
 gd:A.guards=some []
theorem Room.mono {j k:Nat} (r:Room k A) (h:j<=k):Room j A:=⟨r.hd,by have:=r.dp;lia,by have:=r.un;lia,r.gd⟩
theorem Room.deeper {k:Nat} (r:Room (k+1) A) (env:Env):Room k (A.deeper env) :=
 ⟨r.hd,by have:=r.dp;show A.depth+1+3*k+5<_;lia,by have:=r.un;show A.units+3+16*k+200<_;lia,r.gd⟩
theorem Room.in1 {k:Nat} (r:Room (k+1) A):Room k A.in1 :=
 ⟨r.hd,by have:=r.dp;show A.depth+3*k+5<_;lia,by have:=r.un;show A.units+1+16*k+200<_;lia,r.gd⟩
theorem make_depth {kw:List (Str×Value)}:(A.under (.builtin "type.__call__" ⟨.ref C::us,kw⟩)).depth=A.depth+1:=by
 first| rfl| simp [Around.under,Code.weight,Code.isCreation,Code.isGuard,Code.isCaller,Code.frames,Code.isFrame,guardIds]
theorem make_units {kw:List (Str×Value)}:(A.under (.builtin "type.__call__" ⟨.ref C::us,kw⟩)).units=A.units+1:=by
 first| rfl| simp [Around.under,Code.cUnits,Code.frames,Code.isFrame]
theorem Room.make {k:Nat} (r:Room (k+1) A) (C:Addr) (us:List Value) (kw:List (Str×Value)):Room k (A.under (.builtin "type.__call__" ⟨.ref C::us,kw⟩)) :=
 ⟨r.hd,by have:=r.dp;rw [make_depth];lia,by have:=r.un;rw [make_units];lia,(by unfold Around.under;dsimp only;rw [r.gd];rfl)⟩
theorem Room.depth {k:Nat} (r:Room k A):A.depth<recursionLimit:=by have:=r.dp;lia
theorem Room.units {k:Nat} (r:Room k A):A.units+64<cLine:=by have:=r.un;lia
def tNil:TA:=fun _ H Q=>Q [] H
def tCons (ta:TE) (tr:TA):TA:=fun σ H Q=>ta σ H fun x H1=>tr σ H1 fun xs H2=>Q (x::xs) H2
section
variable {X:Cx} {e:Expr} {es:List Expr} {te:TE} {t:TA} {pos:Pos}
theorem zAb:PA X [] tNil:=fun _ _ _ _ H Q I h=>Calls.spliced_nil ⟨[],H,I,.nil,h⟩
theorem zAa (ha:PE X e te) (hr:PA X es t) (hs:starEach (e::es) X.env=(false,eval e X.env)::starEach es X.env:=by rfl):PA X (e::es) (tCons te t):=by
 intro pos pins s σ H Q I h;rw [hs];show wpAny _ _ (spliced ((false,eval e X.env)::backTo pos (starEach es X.env))) _ _ s;refine Calls.spliced_cons (thn (ha pins s σ H _ I h) fun u s1 ⟨x,H1,I1,r1,q1⟩=>?_);exact thn (hr pos pins s1 σ H1 _ I1 q1) fun us s2 ⟨xs,H2,I2,r2,q2⟩=>⟨x::xs,H2,I2,.cons r1 r2,q2⟩
def tTup (t:TA):TE:=fun σ H Q=>t σ H fun xs H1=>xs.length<=sizeLine/\∀p,H1 p=none->Q (.ref p) (upd H1 p (.tup xs))
def tLst (t:TA):TE:=fun σ H Q=>t σ H fun xs H1=>xs.length<=sizeLine/\∀p,H1 p=none->Q (.ref p) (upd H1 p (.lst xs))
theorem zDv {x1} (h:PA X es t):PE X (.Tuple es x1 pos) (tTup t):=by
 intro pins s σ H Q I hq;refine wpAny_Tuple_spliced (thn (h pos pins s σ H _ I hq) fun us s1 ⟨xs,H1,I1,r,z,q⟩=>⟨by rw [<-r.length];exact z,?_⟩);have hf:H1 s1.heap.objs.size=none:=I1.hok.fresh (qAG _);refine ⟨.ref s1.heap.objs.size,upd H1 s1.heap.objs.size (.tup xs),I1.laid (t':=s1.toks) (fun b u e=>qAL _ e) (qAG _) ?_,rfl,q _ hf⟩;exact ⟨z,us,r,⟨_,qAh _ rfl,rfl,_,rfl⟩⟩
theorem zBe (h:PA X es t):PE X (.List es pos) (tLst t):=by
 intro pins s σ H Q I hq;refine wpAny_List_spliced (thn (h pos pins s σ H _ I hq) fun us s1 ⟨xs,H1,I1,r,z,q⟩=>⟨by rw [<-r.length];exact z,?_⟩);have hf:H1 s1.heap.objs.size=none:=I1.hok.fresh (qAG _);refine ⟨.ref s1.heap.objs.size,upd H1 s1.heap.objs.size (.lst xs),I1.laid (t':=s1.toks) (fun b u e=>qAL _ e) (qAG _) ?_,rfl,q _ hf⟩;exact ⟨z,us,0,r,qAh _ rfl⟩
end
abbrev Sp:=List V->Hp->VK->XK->Prop
abbrev CXT:=List Env->Hp->Shared->XK->Value->Shared->Prop
structure Env0 (P:Program) (w:World) (K:PySem.W.Frag) (mg:Str->Option Value) (base:Heap) (A:Around) (outer:List Env) (s:Shared) (H:Hp):Prop where
 frames:A.frames=some outer
 mod:Mod K mg base
 bs:∀b o,base.get? b=some o->s.heap.get? b=some o/\H b=none
 bsz:base.objs.size<=s.heap.objs.size
 funs:s.heap.FunFrames base outer
 frf:∀b∈frs outer,H b=none
 hok:HOk P w H s.heap
 bare:AllBare s.gens
def CE (outer:List Env) (P:Program) (w:World) (H:Hp) (s:Shared) (Q:VK) (u:Value) (s':Shared):Prop :=
 ∃v H',s'.os=s.os/\AllBare s'.gens/\Un (frs outer) [] H H' s.heap s'.heap/\HOk P w H' s'.heap/\RelV v u/\Q v H'
def CR (CX:CXT) (outer:List Env) (P:Program) (w:World) (H:Hp) (s:Shared) (Q:VK) (E:XK) (r:Result) (s':Shared):Prop :=
 match r with
 | .ok (.ret u)=>CE outer P w H s Q u s'
 | .ok _=>False
 | .error e=>CX outer H s E e s'
structure FnOk (P:Program) (w:World) (K:PySem.W.Frag) (mg:Str->Option Value) (base:Heap) (CX:CXT) (k:Nat) (f:Addr) (fd:FuncData) (ps:List Str) (sp:Sp):Prop where
 len:∀vs H Q E,sp vs H Q E->vs.length=ps.length
 run:∀(A:Around) (outer:List Env) (s:Shared) (H:Hp) (args:Args) (us:List Value) (vs:List V) (Q:VK) (E:XK),Room k A->Env0 P w K mg base A outer s H->BindsTo s fd args (ps.zip us)->Vals vs us->sp vs H Q E ->
  codeAny (model P w) A (.call (.ref f) args) (CR CX outer P w H s Q E) s
theorem Env0.make {mg:Str->Option Value} {outer:List Env} (e:Env0 P w K mg base A outer s H) (C:Addr) (us:List Value) (kw:List (Str×Value)) :
  Env0 P w K mg base (A.under (.builtin "type.__call__" ⟨.ref C::us,kw⟩)) outer s H:=⟨by first| exact e.frames| (simpa [Around.under,Code.envs,Code.isFrame,pushEnvs] using e.frames),e.mod,e.bs,e.bsz,e.funs,e.frf,e.hok,e.bare⟩
section
variable {X:Cx} {pins:List (Addr×Obj)} {σ:St} {H:Hp} {s s':Shared}
theorem Inv.env0 (I:Inv X pins σ H s):Env0 X.prog X.w X.K X.mg X.base X.A X.stack s H :=
 ⟨I.ok.frames,I.ok.mod,I.bs,qAY I.ok.bsz I.sz,I.stack,I.stkFree,I.hok,I.bare⟩
theorem Inv.after {Q:VK} (I:Inv X pins σ H s) (h:CE X.stack X.prog X.w H s Q u s'):EP X pins σ Q u s':=by
 obtain ⟨v,H',os,bare,un,hok,r,q⟩:=h;obtain ⟨hh,g,d,t,os'⟩:=s';obtain rfl:os'=s.os:=os;exact ⟨v,H',I.call (h':=hh) (g':=g) (d':=d) (t':=t) (ch:=[]) un hok bare (fun b z=>absurd z (by simp)),r,q⟩
end
def tCall (sp:Sp) (dvs:List V) (E:XK) (t:TA):TE:=fun σ H Q=>t σ H fun vs H1=>sp (vs++dvs) H1 Q E
def tMeth (C:Addr) (m:Str) (sp:Sp) (dvs:List V) (E:XK) (ta:TE) (t:TA):TE:=fun σ H Q=>ta σ H fun x H1=>∃a dx fs,x= .ref a/\H1 a=some (.ins C dx fs)/\fs.lookup m=none /\
 t σ H1 fun vs H2=>sp (x::(vs++dvs)) H2 Q E
def tMake (C:Addr) (sp:Sp) (dvs:List V) (E:XK) (t:TA):TE:=fun σ H Q=>t σ H fun vs H1=>∀x dx,H1 x=none->H1 dx=none->dx≠x ->
 sp (.ref x::(vs++dvs)) (upd (upd H1 dx (.own x)) x (.ins C dx [])) (fun v H2=>v= .non/\Q (.ref x) H2) E
def zDu (K:PySem.W.Frag) (fd:FuncData) (ps:List Str) (ds:List Value):Prop :=
 ∀(s:Shared) (us:List Value),K.In s.heap->(us++ds).length=ps.length->BindsTo s fd ⟨us,[]⟩ (ps.zip (us++ds))
theorem zDu.all {fd:FuncData} {ps:List Str} (h:∀us:List Value,us.length=ps.length->bindArgs fd ⟨us,[]⟩=pure (ps.zip us)):zDu K fd ps []:=fun s us _ hl=>by
 rw [qAs] at hl ⊢;exact .of_eq (h us hl)
def zHr (CX:CXT) (X:Cx) (E:XK):Prop:=∀(pins:List (Addr×Obj)) (σ:St) (H:Hp) (s:Shared) (e:Value) (s':Shared),Inv X pins σ H s->CX X.stack H s E e s'->X.xe e s'
section
variable {X:Cx} {CX:CXT} {k:Nat} {f C:Addr} {fd:FuncData} {ps:List Str} {sp:Sp} {dvs:List V} {ds:List Value} {E:XK} {x m:Str} {p pos apos:Pos} {e o:Expr} {es:List Expr} {ta:TE} {t:TA}
theorem run_fn {Q:VK} {us:List Value} {vs:List V} (F:FnOk X.prog X.w X.K X.mg X.base CX k f fd ps sp) (hr:Room k X.A) (hb:zDu X.K fd ps ds) (hd:Vals dvs ds) (hx:zHr CX X E)
  (I:Inv X pins σ H s) (r:Vals vs us) (h:sp (vs++dvs) H Q E):wpAny (model X.prog X.w) X.A (call (.ref f) us) (EP X pins σ Q) X.xe s:=by
 have r2:Vals (vs++dvs) (us++ds):=r.append hd;have hl:(us++ds).length=ps.length:=by rw [<-r2.length];exact F.len _ _ _ _ h
 refine qCU (qB7 (F.run X.A X.stack s H ⟨us,[]⟩ (us++ds) (vs++dvs) Q E hr I.env0 (hb s us I.kIn hl) r2 h) fun r s' hq=>?_)
 cases r with
 | error e=>exact hx pins σ H s e s' I hq
 | ok fl =>
  cases fl with
  | ret u=>exact I.after hq
  | next=>exact False.elim hq
  | brk=>exact False.elim hq
  | cont=>exact False.elim hq
theorem pe_call (F:FnOk X.prog X.w X.K X.mg X.base CX k f fd ps sp) (hr:Room k X.A) (hg:Gl X x) (hm:X.mg x=some (.ref f)) (hk:PySem.W.keepIn X.K (.ref f)=true) (hb:zDu X.K fd ps ds) (hd:Vals dvs ds) (hx:zHr CX X E)
  (ha:PA X (e::es) t) (hdb:(x==("__debug__" : Str))=false:=by decide) (he:starEach (e::es) X.env=(false,eval e X.env)::starEach es X.env:=by rfl) (hpl:(backTo pos (starEach es X.env)).any (·.1)=false:=by rfl) :
  PE X (.Call (.Name x p) (e::es) [] pos) (tCall sp dvs E t):=by
 intro pins s σ H Q I h;refine qB8 (ld_glob I hg hm ?_ hdb);refine PySem.W.callWith_K (h₀:=X.base) I.ok.mod.kin hk (thn (ha pos pins s σ H _ I h) fun us s1 ⟨vs,H1,I1,r,q⟩=>⟨I1.kIn,?_⟩) he hpl;exact run_fn F hr hb hd hx I1 r q
theorem pe_meth {pl:Sem Bool} (he:PE X o ta) (c:Cls X.K C) (hm:Meth X.K C m f) (F:FnOk X.prog X.w X.K X.mg X.base CX k f fd ps sp) (hr:Room k X.A) (hb:zDu X.K fd ps ds) (hd:Vals dvs ds) (hx:zHr CX X E) (ha:PA X (e::es) t)
  (hst:starEach (e::es) X.env=(false,eval e X.env)::starEach es X.env:=by rfl) (hpl:(backTo pos (starEach es X.env)).any (·.1)=false:=by rfl)
  (ht:eval (.Call (.Attribute o m apos) (e::es) [] pos) X.env=(do
   let ov<-eval o X.env
   standAt apos.atName
   let (f,first)<-holding [ov] (getMethod ov m pl)
   callWith pos f first (backTo pos (starEach (e::es) X.env)) (backToKw pos (keywordEach [] X.env))):=by rfl) :
  PE X (.Call (.Attribute o m apos) (e::es) [] pos) (tMeth C m sp dvs E ta t):=by
 intro pins s σ H Q I h;refine PySem.W.methodCall_KW (pl:=pl) (thn (he pins s σ H _ I h) fun u s1 ⟨x,H1,I1,rx,a,dx,fs,ex,ea,l,q⟩=>?_) ht;subst ex;obtain rfl:u=Value.ref a:=rx;refine zIh I1 ea c hm l ?_;refine PySem.W.callWith_K (first:=[.ref a]) (h₀:=X.base) I.ok.mod.kin hm.kp (thn (ha pos pins s1 σ H1 _ I1 q) fun us s2 ⟨vs,H2,I2,r,q2⟩=>⟨I2.kIn,?_⟩) hst hpl;exact run_fn (us:=.ref a::us) (vs:=.ref a::vs) F hr hb hd hx I2 (.cons rfl r) q2
theorem pe_meth0 {pl:Sem Bool} (he:PE X o ta) (c:Cls X.K C) (hm:Meth X.K C m f) (F:FnOk X.prog X.w X.K X.mg X.base CX k f fd ps sp) (hr:Room k X.A) (hb:zDu X.K fd ps ds) (hd:Vals dvs ds) (hx:zHr CX X E)
  (ht:eval (.Call (.Attribute o m apos) [] [] pos) X.env=(do
   let ov<-eval o X.env
   standAt apos.atName
   let (f,first)<-holding [ov] (getMethod ov m pl)
   callWith pos f first (backTo pos (starEach [] X.env)) (backToKw pos (keywordEach [] X.env))):=by rfl) :
  PE X (.Call (.Attribute o m apos) [] [] pos) (tMeth C m sp dvs E ta tNil):=by
 intro pins s σ H Q I h;refine PySem.W.methodCall_KW (pl:=pl) (thn (he pins s σ H _ I h) fun u s1 ⟨x,H1,I1,rx,a,dx,fs,ex,ea,l,q⟩=>?_) ht;subst ex;obtain rfl:u=Value.ref a:=rx;refine zIh I1 ea c hm l ?_;exact PySem.W.callWith_K0 (first:=[.ref a]) I1.kIn hm.kp (run_fn (us:=[.ref a]) (vs:=[.ref a]) F hr hb hd hx I1 (.cons rfl .nil) q)
structure Mk (K:PySem.W.Frag) (C f:Addr):Prop where
 makes:PySem.W.makesIn K C=true
 init:PySem.W.findIn K (.ref C) "__init__" = some (some (.ref f))
 fn:PySem.W.isFn K (.ref f)=true
 kp:PySem.W.keepIn K (.ref C)=true
theorem run_make {Q:VK} {vs:List V} (M:Mk X.K C f) (F:FnOk X.prog X.w X.K X.mg X.base CX k f fd ps sp) (hr:Room (k+1) X.A) (hb:zDu X.K fd ps ds) (hd:Vals dvs ds)
  (hx:zHr CX X E) (I:Inv X pins σ H s) (r:Vals vs us)
  (h:∀x dx,H x=none->H dx=none->dx≠x->sp (.ref x::(vs++dvs)) (upd (upd H dx (.own x)) x (.ins C dx [])) (fun v H2=>v= .non/\Q (.ref x) H2) E) :
  wpAny (model X.prog X.w) X.A (call (.ref C) us) (EP X pins σ Q) X.xe s:=by
 have hq:=h (s.heap.objs.size+1) s.heap.objs.size (I.hok.fresh (qB9 _)) (I.hok.fresh (qAG _)) (qAS (qBs _));have I2:=Inv.made (C:=C) I;have r2:Vals (V.ref (s.heap.objs.size+1)::(vs++dvs)) (Value.ref (s.heap.objs.size+1)::(us++ds)):=.cons rfl (r.append hd)
 have hl:(Value.ref (s.heap.objs.size+1)::us++ds).length=ps.length:=by
  have e:=r2.length;rw [F.len _ _ _ _ hq] at e;exact e.symm
 refine qCU (make_map (f:=f) I.kIn M.makes M.init (qCT.mp M.fn) (qB7 (F.run _ X.stack _ _ ⟨Value.ref (s.heap.objs.size+1)::us,[]⟩ (Value.ref (s.heap.objs.size+1)::(us++ds)) _ _ E (hr.make C us [])
  (I2.env0.make C us []) (hb _ (Value.ref (s.heap.objs.size+1)::us) I2.kIn hl) r2 hq) fun r s' hq'=>?_))
 cases r with
 | error e=>exact hx pins σ _ _ e s' I2 hq'
 | ok fl =>
  cases fl with
  | ret u =>
   obtain ⟨v,H',I3,rv,ev,q3⟩:=I2.after hq';subst ev;exact ⟨rv,⟨V.ref (s.heap.objs.size+1),H',I3,rfl,q3⟩⟩
  | next=>exact False.elim hq'
  | brk=>exact False.elim hq'
  | cont=>exact False.elim hq'
theorem pe_make (M:Mk X.K C f) (F:FnOk X.prog X.w X.K X.mg X.base CX k f fd ps sp) (hr:Room (k+1) X.A) (hg:Gl X x) (hm:X.mg x=some (.ref C)) (hb:zDu X.K fd ps ds) (hd:Vals dvs ds) (hx:zHr CX X E)
  (ha:PA X (e::es) t) (hdb:(x==("__debug__" : Str))=false:=by decide) (he:starEach (e::es) X.env=(false,eval e X.env)::starEach es X.env:=by rfl) (hpl:(backTo pos (starEach es X.env)).any (·.1)=false:=by rfl) :
  PE X (.Call (.Name x p) (e::es) [] pos) (tMake C sp dvs E t):=by
 intro pins s σ H Q I h;refine qB8 (ld_glob I hg hm ?_ hdb);refine PySem.W.callWith_K (h₀:=X.base) I.ok.mod.kin M.kp (thn (ha pos pins s σ H _ I h) fun us s1 ⟨vs,H1,I1,r,q⟩=>⟨I1.kIn,?_⟩) he hpl;exact run_make M F hr hb hd hx I1 r q
end
def PK (X:Cx) (kws:List Keyword) (t:TA):Prop :=
 ∀(pos:Pos) (pins:List (Addr×Obj)) (s:Shared) (σ:St) (H:Hp) (Q:List V->Hp->Prop),Inv X pins σ H s->t σ H Q->wpAny (model X.prog X.w) X.A (evalAll ((backToKw pos (keywordEach kws X.env)).map (·.2))) (AP X pins σ Q) X.xe s
section
variable {X:Cx} {CX:CXT} {k:Nat} {f C:Addr} {fd:FuncData} {ps ks:List Str} {sp:Sp} {E:XK} {x m:Str} {p pos apos kpos:Pos} {e o:Expr} {es:List Expr} {kws:List Keyword} {te ta:TE} {t tk:TA} {nm:Option Str}
theorem pk_nil:PK X [] tNil:=fun _ _ _ _ H Q I h=>wpAny_evalAll_nil ⟨[],H,I,.nil,h⟩
theorem pk_cons (ha:PE X e te) (hr:PK X kws t):PK X (⟨nm,e,kpos⟩::kws) (tCons te t):=by
 intro pos pins s σ H Q I h;show wpAny _ _ (evalAll ((do let v<-eval e X.env;standAt pos;pure v)::(backToKw pos (keywordEach kws X.env)).map (·.2))) _ _ s;refine wpAny_evalAll_cons (qAA (thn (ha pins s σ H _ I h) fun u s1 ⟨x,H1,I1,r1,q1⟩=>qAA (qCS (qAE ?_))));exact thn (hr pos pins s1 σ H1 _ I1 q1) fun us s2 ⟨xs,H2,I2,r2,q2⟩=>⟨x::xs,H2,I2,.cons r1 r2,q2⟩
variable {g:List Value->List Value->List Value} {gV:List V->List V->List V}
end
structure FnScope (N P:List Str) (sc:Scope):Prop where
 kind:sc.kind= .function
 co:sc.isCoroutine=false
 gen:sc.isGenerator=false
 nd:N.Nodup
 pre:N.take P.length=P
 par:∀x∈P,sc.names.lookup x=some .local\/sc.names.lookup x=some .cell
 nofree:∀y∈sc.names,y.2≠.free
theorem bindL_out {kindOf:Str->Option NameKind} :∀{binds:List (Str×Value)} {m:Str->Option Value},(∀v,(x,v)∉binds)->bindL kindOf binds m x=m x
 | [],_,_=>rfl
 | (n,v)::r,m,h=>by
  unfold bindL;rw [bindL_out fun w hw=>h w (qAT _ hw)];split
  ·have:x≠n:=by rintro rfl;exact h v qAa
   simp [this]
  ·rfl
theorem bindC_out {kindOf:Str->Option NameKind} :∀{binds:List (Str×Value)} {m:Str->Option Value},(∀v,(x,v)∉binds)->bindC kindOf binds m x=m x
 | [],_,_=>rfl
 | (n,v)::r,m,h=>by
  unfold bindC;rw [bindC_out fun w hw=>h w (qAT _ hw)];split
  ·rfl
  ·have:x≠n:=by rintro rfl;exact h v qAa
   simp [this]
theorem bindL_get {kindOf:Str->Option NameKind} {v:Value}:∀{P:List Str} {vs:List Value} {i:Nat} {m:Str->Option Value},P.Nodup->P[i]?=some x->vs[i]?=some v->kindOf x=some .local ->
  bindL kindOf (P.zip vs) m x=some v
 | [],_,_,_,_,h,_,_=>by simp at h
 | _::_,[],_,_,_,_,h,_=>by simp at h
 | p::P,w::vs,0,m,nd,h1,h2,hk=>by
  simp at h1 h2;subst h1;subst h2;show bindL kindOf ((p,w)::P.zip vs) m p=_;unfold bindL;rw [bindL_out fun v hv=>(qA1.mp nd).1 (List.of_mem_zip hv).1,qAC hk];simp
 | p::P,w::vs,i+1,m,nd,h1,h2,hk=>by
  show bindL kindOf ((p,w)::P.zip vs) m x=_;unfold bindL;exact bindL_get (i:=i) (qA1.mp nd).2 (by simpa using h1) (by simpa using h2) hk
theorem bindC_get {kindOf:Str->Option NameKind} {v:Value}:∀{P:List Str} {vs:List Value} {i:Nat} {m:Str->Option Value},P.Nodup->P[i]?=some x->vs[i]?=some v->kindOf x≠some .local ->
  bindC kindOf (P.zip vs) m x=some v
 | [],_,_,_,_,h,_,_=>by simp at h
 | _::_,[],_,_,_,_,h,_=>by simp at h
 | p::P,w::vs,0,m,nd,h1,h2,hk=>by
  simp at h1 h2;subst h1;subst h2;show bindC kindOf ((p,w)::P.zip vs) m p=_;unfold bindC;rw [bindC_out fun v hv=>(qA1.mp nd).1 (List.of_mem_zip hv).1,qAB hk];simp
 | p::P,w::vs,i+1,m,nd,h1,h2,hk=>by
  show bindC kindOf ((p,w)::P.zip vs) m x=_;unfold bindC;exact bindC_get (i:=i) (qA1.mp nd).2 (by simpa using h1) (by simpa using h2) hk
def start (N:List Str) (vs:List V):St:=vs.map some++List.replicate (N.length - vs.length) none
def cxOf (CX:CXT) (P:Program) (w:World) (K:PySem.W.Frag) (mg:Str->Option Value) (base:Heap) (N:List Str) (qual:Str) (scope:Scope) (f:Addr) (cd:Value) (A:Around) (outer:List Env) (s:Shared) (H:Hp) (E:XK):Cx where
 prog:=P
 w:=w
 K:=K
 mg:=mg
 base:=base
 A:=A.deeper (envOfC qual scope s.heap.objs.size f cd)
 N:=N
 s₀:=s
 H₀:=H
 env:=envOfC qual scope s.heap.objs.size f cd
 outer:=outer
 stack:=envOfC qual scope s.heap.objs.size f cd::outer
 ex:=[]
 calm:=true
 fn:=fun _=>true
 pn:=[]
 xe:=fun e s'=>wpAny (model P w) (A.deeper (envOfC qual scope s.heap.objs.size f cd)) (leaving (envOfC qual scope s.heap.objs.size f cd) e) (fun _ s''=>CX outer H s E e s'') (fun e' s''=>CX outer H s E e' s'') s'
theorem cell_has {sc:Scope} {n:Nat} (h:sc.names.lookup x=some .cell):∃c,(cellsFrom n sc.names []).lookup x=some c:=by
 have q:=qDT sc.names n [] (.inl h);exact Option.isSome_iff_exists.mp q
theorem inv_start {CX:CXT} {mg:Str->Option Value} {N ps:List Str} {qual:Str} {scope:Scope} {f:Addr} {cd:Value} {outer:List Env} {s1:Shared} {E:XK} {vs:List V}
  (S:FnScope N ps scope) (hd:A.handled=none) (e0:Env0 P w K mg base A outer s H) (hl:vs.length=ps.length) (r:Vals vs us)
  (x:InCallC s s.heap.objs.size (bindL (envOfC qual scope s.heap.objs.size f cd).kindOf (ps.zip us) fun _=>none) (cellsFrom (s.heap.objs.size+1) scope.names []) (bindC (envOfC qual scope s.heap.objs.size f cd).kindOf (ps.zip us) fun _=>none) s1) :
  Inv (cxOf CX P w K mg base N qual scope f cd A outer s H E) [] (start N vs) H s1:=by
 have hpl:ps.length<=N.length:=by have:=qAg List.length S.pre;rw [qAW] at this;lia
 obtain ⟨h1,tk,rfl,hk⟩:=x.done;have noA:∀b:Addr,b∉(cxOf CX P w K mg base N qual scope f cd A outer s H E).ex:=fun b z=>absurd (show b∈([]:List Addr) from z) (by simp)
 refine ⟨⟨e0.mod,S.kind,rfl,rfl,qAG _,fun y z c h1 h2=>?_,fun y hy=>?_,fun y c _ h=>?_,fun _=>hd,Around.frames_deeper e0.frames,.inr ⟨rfl,rfl⟩,fun b z=>absurd z (noA b),e0.bs,e0.bsz,fun b _ _=>noA b,fun b z=>absurd z (noA b),e0.funs,e0.frf⟩,
  rfl,e0.bare,Un.kept hk,⟨_,x.toInCall.ns,fun i y v h1 h2 h3=>?_⟩,fun y c h=>⟨_,x.cell y c h⟩,e0.hok.fresh (qAG _),fun y c h=>?_,fun p hp=>absurd (show p∈([]:List (Addr×Obj)) from hp) (by simp),e0.hok.kept hk,?_⟩
 ·exact name_of_addr x.apart (qBh h1) (qBh h2)
 ·have hy:scope.names.lookup y=some .cell\/scope.names.lookup y=some .free:=hy;rcases hy with hy| hy
  ·exact cell_has hy
  ·exact absurd rfl (S.nofree _ (qBh hy))
 ·exact qB4 (x.above y c (qBh h))
 ·have hi:i<vs.length:=by
   unfold start at h2
   by_cases hi:i<vs.length
   ·exact hi
   ·rw [qBT (by simpa using hi)] at h2;rw [List.getElem?_replicate] at h2;split at h2<;>cases h2
  have ha:vs[i]?=some v:=by
   unfold start at h2;rw [qA6 (by simpa using hi),qAX] at h2
   cases e:vs[i]? with
   | none=>rw [e] at h2;cases h2
   | some a=>rw [e] at h2;cases h2;rfl
  obtain ⟨u,hu,rv⟩:=r.get ha
  have hp:ps[i]?=some y:=by
   rw [<-S.pre,qCV (by lia)];exact h1
  have ndP:ps.Nodup:=by rw [<-S.pre];exact S.nd.sublist (List.take_sublist _ _)
  refine ⟨u,rv,?_⟩;rcases S.par y (qAI hp) with k| k
  ·exact .inl ⟨k,bindL_get ndP hp hu k⟩
  ·obtain ⟨c,e⟩:=cell_has (n:=s.heap.objs.size+1) k;refine .inr ⟨.inl k,c,e,?_⟩;have q:=x.cell y c e;rw [bindC_get ndP hp hu (by show scope.names.lookup y≠_;rw [k];decide)] at q;exact q
 ·exact e0.hok.fresh (qB4 (x.above y c (qBh h)))
 ·unfold start;show _=N.length;rw [qAU,qAD,List.length_replicate];lia
theorem fn_of {CX:CXT} {mg:Str->Option Value} {k:Nat} {f:Addr} {name qual:Str} {params:Arguments} {body:List Stmt} {scope:Scope} {dV kV doc pm cdv ct oc:Value} {an od:Option Addr}
  {osl:Array (Option Value)} {N ps:List Str} {sp:Sp} (lk:K.lookup f=some ⟨oc,od,.func (PySem.W.fnOf name qual params body scope dV kV doc pm an cdv ct),osl⟩) (hcd:PySem.W.codeIn K cdv qual=true) (S:FnScope N ps scope)
  (len:∀vs H Q E,sp vs H Q E->vs.length=ps.length)
  (hbody:∀(A:Around) (outer:List Env) (s:Shared) (H:Hp) (vs:List V) (Q:VK) (E:XK),Room k (A.deeper (envOfC qual scope s.heap.objs.size f cdv))->sp vs H Q E ->
   ∃t,PSs (cxOf CX P w K mg base N qual scope f cdv A outer s H E) body t/\t {nx:=fun _ H'=>Q .non H',rt:=Q} (start N vs) H) :
  FnOk P w K mg base CX (k+1) f (PySem.W.fnOf name qual params body scope dV kV doc pm an cdv ct) ps sp:=by
 refine ⟨len,fun A outer s H args us vs Q E hr e0 hb r hsp=>?_⟩;have hl:=len _ _ _ _ hsp;have KX:K.In s.heap:=e0.mod.kin.keeps fun b o e=>(e0.bs b o e).1;have lim:s.heap.NoLimit:=e0.mod.nolimit.keeps fun b o e=>(e0.bs b o e).1
 have hkind:∀y∈ps.zip us,scope.names.lookup y.1=some .local\/(scope.names.lookup y.1=some .cell/\((cellsFrom (s.heap.objs.size+1) scope.names []).lookup y.1).isSome=true):=fun ⟨n,v⟩ hy=>by
  rcases S.par n (List.of_mem_zip hy).1 with q| q
  ·exact .inl q
  ·exact .inr ⟨q,qDT _ _ _ (.inl q)⟩
 refine codeAny_call_function hr.depth (KX _ _ lk) rfl S.co S.gen rfl (PySem.W.codeRec_of KX hcd) (hb _ _ _ _ ?_);refine wpAny_newFunctionEnv_cells S.kind hkind fun env he s1 x=>?_;subst he;refine ⟨lim.keeps x.toInCall.keep,codeAny_func ?_⟩;obtain ⟨t,ht,hq⟩:=hbody A outer s H vs Q E (hr.deeper _) hsp;have I:Inv (cxOf CX P w K mg base N qual scope f cdv A outer s H E) [] (start N vs) H s1:=inv_start S hr.hd e0 hl r x;refine qAw (ht [] s1 (start N vs) H _ I hq) (fun fl s' hs=>?_) fun e s' hs=>hs
 have fin:∀{σ':St} {H':Hp} {v:V} {u:Value},Inv (cxOf CX P w K mg base N qual scope f cdv A outer s H E) [] σ' H' s'->RelV v u->Q v H'->CE outer P w H s Q u s' :=
  fun {σ' H' v u} J rv q=>⟨v,H',J.os,J.bare,J.base,J.hok,rv,q⟩
 cases fl with
 | ret u =>
  obtain ⟨v,σ',H',J,rv,q⟩:=hs;exact fin J rv q
 | next =>
  obtain ⟨σ',H',J,q⟩:=hs;exact fin (v:=V.non) (u:=Value.none) J rfl q
 | brk =>
  obtain ⟨_,_,_,q⟩:=hs;exact False.elim q
 | cont =>
  obtain ⟨_,_,_,q⟩:=hs;exact False.elim q
section
variable {X:Cx} {x:Str} {p pos:Pos} {e:Expr} {es:List Expr} {t:TA} {id T:String} {r:List V->Hp->VK->Prop}
def tCB (r:List V->Hp->VK->Prop) (t:TA):TE:=fun σ H Q=>t σ H fun vs H1=>r vs H1 Q
theorem zAi (hc:zDt X (.builtin id) r) (hg:Gl X x) (hm:X.mg x=none) (hv:bootBuiltins x=some (.builtin id)) (ha:PA X (e::es) t) (hn:x≠ "__name__" := by decide) (hdb:(x==("__debug__" : Str))=false:=by decide)
  (he:starEach (e::es) X.env=(false,eval e X.env)::starEach es X.env:=by rfl) (hpl:(backTo pos (starEach es X.env)).any (·.1)=false:=by rfl):PE X (.Call (.Name x p) (e::es) [] pos) (tCB r t):=by
 intro pins s σ H Q I h;refine qB8 (zF6 I hg hm hv ?_ hn hdb);exact PyProof.Rows.callWith_builtin1 (thn (ha pos pins s σ H _ I h) fun us s1 ⟨vs,H1,I1,r1,q1⟩=>hc pins s1 σ H1 vs us Q I1 r1 q1) he hpl
theorem zAv (hc:zDt X (.type T) r) (hg:Gl X x) (hm:X.mg x=none) (hv:bootBuiltins x=some (.type T)) (ha:PA X (e::es) t) (hn:x≠ "__name__" := by decide) (hdb:(x==("__debug__" : Str))=false:=by decide)
  (he:starEach (e::es) X.env=(false,eval e X.env)::starEach es X.env:=by rfl) (hpl:(backTo pos (starEach es X.env)).any (·.1)=false:=by rfl):PE X (.Call (.Name x p) (e::es) [] pos) (tCB r t):=by
 intro pins s σ H Q I h;refine qB8 (zF6 I hg hm hv ?_ hn hdb);exact qC1 (thn (ha pos pins s σ H _ I h) fun us s1 ⟨vs,H1,I1,r1,q1⟩=>hc pins s1 σ H1 vs us Q I1 r1 q1) he hpl
end
end L2
namespace HT
open PySem PyProof.Rows
section
open PySem.SeqAt
open PySem.AutoSeq1 (wpAny_loadPart')
open PySem.MeetsSeq PySem.MeetsSeq2 PySem.MeetsSeq3
end
section
variable {prog:Program} {w:World} {A:Around} {E:Value->Shared->Prop} {s:Shared}
def sIx (n d:Nat):Option Int->Nat
 | none=>d
 | some v=>if v<0 then (v+(n:Int)).toNat else min v.toNat n
theorem sIx_none (n d:Nat):sIx n d none=d:=rfl
theorem sIx_nat (n d k:Nat):sIx n d (some (k:Int))=min k n:=by
 show (if (k:Int)<0 then ((k:Int)+(n:Int)).toNat else min (k:Int).toNat n)=min k n;rw [qAB (by lia),Int.toNat_natCast]
end
end HT
namespace L2
open PySem PySem.Spec PyProof.Rows
variable {α:Type}{n:Nat}{x:V}
abbrev TO:=St->Hp->(Option Int->Hp->Prop)->Prop
def PO (X:Cx) (e:Option Expr) (t:TO):Prop :=
 ∀(pins:List (Addr×Obj)) (s:Shared) (σ:St) (H:Hp) (Q:Option Int->Hp->Prop),Inv X pins σ H s->t σ H Q ->
  wpAny (model X.prog X.w) X.A (evalPart e X.env) (fun u s'=>∃o H',Inv X pins σ H' s'/\IsPart u o/\Q o H') X.xe s
def tNoPart:TO:=fun _ H Q=>Q none H
def tPart (t:TE):TO:=fun σ H Q=>t σ H fun x H1=>∃i,x= .int i/\Q (some i) H1
section
variable {X:Cx} {e:Expr} {te:TE} {lo hi:Option Expr} {tl th:TO} {pos p2:Pos}
theorem po_none:PO X none tNoPart:=by
 intro pins s σ H Q I h;rw [evalPart_none];exact qAE ⟨none,H,I,.none,h⟩
theorem po_some (h:PE X e te):PO X (some e) (tPart te):=by
 intro pins s σ H Q I hw;rw [evalPart_some];refine thn (h pins s σ H _ I hw) fun u s1 ⟨x,H1,I1,r1,q1⟩=>?_;obtain ⟨i,rfl,q⟩:=q1;obtain ⟨t,rfl⟩:=r1;exact ⟨some i,H1,I1,.int i t,q⟩
def SlR (X:Cx) (r:V->Option Int->Option Int->Hp->VK->Prop):Prop :=
 ∀(pins:List (Addr×Obj)) (s:Shared) (σ:St) (H:Hp) (x:V) (v vl vu:Value) (lo hi:Option Int) (sl:Addr) (Q:VK),Inv X pins σ H s->RelV x v->s.heap.IsSliceOf sl vl vu .none->IsPart vl lo->IsPart vu hi->r x lo hi H Q ->
  ∃T id,typeLookup (.type T) "__getitem__" = pure (some (.builtin id))/\s.TypeIs v T/\wpAny (model X.prog X.w) X.A (getItem v (.ref sl)) (EP X pins σ Q) X.xe s
def tSl (r:V->Option Int->Option Int->Hp->VK->Prop) (te:TE) (tl th:TO):TE:=fun σ H Q=>te σ H fun x H1=>tl σ H1 fun l H2=>th σ H2 fun u H3=>r x l u H3 Q
theorem pe_slice {r:V->Option Int->Option Int->Hp->VK->Prop} (hr:SlR X r) (he:PE X e te) (hl:PO X lo tl) (hu:PO X hi th):PE X (.Subscript e (.Slice lo hi none p2) pos) (tSl r te tl th):=by
 intro pins s σ H Q I h;refine Subscript_ (thn (he pins s σ H _ I h) fun v s1 ⟨x,H1,I1,r1,q1⟩=>?_);refine wpAny_Slice (thn (hl pins s1 σ H1 _ I1 q1) fun vl s2 ⟨l,H2,I2,pl,q2⟩=>thn (hu pins s2 σ H2 _ I2 q2) fun vu s3 ⟨u,H3,I3,pu,q3⟩=>?_);rw [evalPart_none];refine qAE ?_;have I4:Inv X pins σ H3 {s3 with heap:=s3.heap.push {cls:=.type "slice",data:=.fields #[vl,vu,.none]}}:=I3.kept (t':=s3.toks) fun b ob q=>qAL _ q;obtain ⟨T,id,hT,ht,hg⟩:=hr pins {s3 with heap:=s3.heap.push {cls:=.type "slice",data:=.fields #[vl,vu,.none]}} σ H3 x v vl vu l u s3.heap.objs.size Q I4 r1 (Heap.IsSliceOf.new ..) pl pu q3;show wpAny (model X.prog X.w) X.A (subscriptTail e (.Slice lo hi none p2) v (.ref s3.heap.objs.size)) (EP X pins σ Q) X.xe {s3 with heap:=s3.heap.push {cls:=.type "slice",data:=.fields #[vl,vu,.none]}};exact tail_any (ops:=[.ref s3.heap.objs.size,v]) ht hT hg (by with_unfolding_all rfl)
def cutV (xs:List V) (lo hi:Option Int):List V:=(xs.drop (HT.sIx xs.length 0 lo)).take (HT.sIx xs.length xs.length hi - HT.sIx xs.length 0 lo)
theorem cutV_length (xs:List V) (lo hi:Option Int):(cutV xs lo hi).length<=xs.length:=by
 unfold cutV;rw [qAW,qBO];lia
end
def ixN (n:Nat) (i:Int):Option Nat:=if 0<=i then (if i<n then some i.toNat else none) else if -(n:Int)<=i then some (i+n).toNat else none
def atI (xs:List α) (i:Int):Option α:=(ixN xs.length i).bind fun j=>xs[j]?
theorem ixN_seq {i:Int} {j:Nat} (h:ixN n i=some j):seqIndex? i n=some j/\j<n/\-(n:Int)<=i/\i<n:=by
 unfold ixN at h
 by_cases h0:0<=i
 ·rw [qAC h0] at h
  by_cases h1:i<n
  ·rw [qAC h1] at h;have e:i.toNat=j:=qAZ h;exact ⟨by rw [seqIndex_of h0 h1,e],by lia,by lia,h1⟩
  ·rw [qAB h1] at h;cases h
 ·rw [qAB h0] at h
  by_cases h1:-(n:Int)<=i
  ·rw [qAC h1] at h;have e:(i+n).toNat=j:=qAZ h;exact ⟨by rw [seqIndex_neg (by lia) h1,e],by lia,h1,by lia⟩
  ·rw [qAB h1] at h;cases h
theorem atI_get {xs:List α} {i:Int} {v:α} (h:atI xs i=some v):∃j,seqIndex? i xs.length=some j/\xs[j]?=some v/\j<xs.length/\-(xs.length:Int)<=i/\i<xs.length:=by
 unfold atI at h
 cases e:ixN xs.length i with
 | none=>rw [e] at h;cases h
 | some j =>
  rw [e] at h;obtain ⟨h1,h2,h3,h4⟩:=ixN_seq e;exact ⟨j,h1,h,h2,h3,h4⟩
def PlainIx (b:Expr):Prop:=∀o i,subscripted b false o i=operate [o,i] (getItem o i)
def IxR (X:Cx) (r:R2):Prop :=
 ∀(value slice:Expr) (pins:List (Addr×Obj)) (s:Shared) (σ:St) (H:Hp) (x y:V) (v u:Value) (Q:VK),Inv X pins σ H s->RelV x v->RelV y u->r x y H Q ->
  subscripted slice false v u=operate [v,u] (getItem v u)->wpAny (model X.prog X.w) X.A (subscriptTail value slice v u) (EP X pins σ Q) X.xe s
def MtR (X:Cx) (id:String) (r:V->List V->Hp->VK->Prop):Prop :=
 ∀(pins:List (Addr×Obj)) (s:Shared) (σ:St) (H:Hp) (x:V) (xs:List V) (v:Value) (us:List Value) (Q:VK),Inv X pins σ H s->RelV x v->Vals xs us->r x xs H Q ->
  wpAny (model X.prog X.w) X.A (call (.builtin id) (v::us)) (EP X pins σ Q) X.xe s
section
variable {X:Cx} {a b:Expr} {ta tb:TE} {pos:Pos}
theorem zAy {r:R2} (hr:IxR X r) (ha:PE X a ta) (hb:PE X b tb) (hs:PlainIx b):PE X (.Subscript a b pos) (tOp r ta tb):=by
 intro pins s σ H Q I h;exact Subscript_ (binT ha hb I h fun v u s2 x y H2 I2 rx ry q=>hr a b pins s2 σ H2 x y v u Q I2 rx ry q (hs _ _))
def rIxL (K:PySem.W.Frag):R2:=fun x y H Q=>∃p xs i v,x= .ref p/\y= .int i/\SqL K H p xs/\atI xs i=some v/\Q v H
def rIxT (K:PySem.W.Frag):R2:=fun x y H Q=>∃p xs i v,x= .ref p/\y= .int i/\SqT K H p xs/\atI xs i=some v/\Q v H
def rIxS:R2:=fun x y H Q=>∃z i c,x= .str z/\y= .int i/\z.length<=sizeLine/\atI z.cps.toList i=some c/\Q (.str ⟨#[c]⟩) H
theorem zBb:IxR X (rIxL X.K):=by
 intro value slice pins s σ H x y v u Q I rx ry h hs;obtain ⟨p,xs,i,z,rfl,rfl,hq,he,q⟩:=h
 cases rx
 obtain ⟨t,rfl⟩:=ry;obtain ⟨its,r,pl,hz⟩:=I.list hq;obtain ⟨j,h1,h2,h3,h4,h5⟩:=atI_get he;obtain ⟨w,ew,rw'⟩:=r.get h2;have hl:=r.length;have hn:=zHf;have fin:EP X pins σ Q w s:=⟨z,H,I,rw',q⟩
 by_cases h0:0<=i
 ·have hj:i.toNat=j:=by
   rw [seqIndex_of h0 h5] at h1;exact qAZ h1
  exact item_listR pl.isList h0 (by lia) (by rw [hj];simpa using ew) fin hs
 ·have hj:(i+(its.toArray.size:Int)).toNat=j:=by
   rw [seqIndex_neg (by lia) h4] at h1;rw [qAO,<-hl];exact qAZ h1
  exact subscriptTail_builtinR (x:=w) pl.isList.typeIs slot_list_getitem.lookup
   (wpAny_getItem_list_neg (Q:=fun r s'=>r=w/\EP X pins σ Q r s') pl.isList (by lia) (by rw [qAO]<;>lia) (by lia) (by rw [hj];simpa using ew) ⟨rfl,fin⟩) hs
theorem zBk:IxR X (rIxT X.K):=by
 intro value slice pins s σ H x y v u Q I rx ry h hs;obtain ⟨p,xs,i,z,rfl,rfl,hq,he,q⟩:=h
 cases rx
 obtain ⟨t,rfl⟩:=ry;obtain ⟨its,r,pl,hz⟩:=I.tuple hq;obtain ⟨j,h1,h2,h3,h4,h5⟩:=atI_get he;obtain ⟨w,ew,rw'⟩:=r.get h2;have hl:=r.length;have hn:=zHf;have fin:EP X pins σ Q w s:=⟨z,H,I,rw',q⟩
 exact subscriptTail_builtinR (x:=w) pl.typeIs slot_tuple_getitem.lookup
  (getItem_tuple (j:=j) (Q:=fun r s'=>r=w/\EP X pins σ Q r s') pl (by lia) (by lia) (by rw [qAO,<-hl];exact h1) (by simpa using ew) ⟨rfl,fin⟩) hs
theorem ix_str:IxR X rIxS:=by
 intro value slice pins s σ H x y v u Q I rx ry h hs;obtain ⟨z,i,c,rfl,rfl,hz,he,q⟩:=h;obtain ⟨t,rfl⟩:=rx;obtain ⟨t',rfl⟩:=ry;obtain ⟨j,h1,h2,h3,h4,h5⟩:=atI_get he;have hl:z.cps.toList.length=z.length:=by simp [Str.length]
 rw [hl] at h1 h4 h5;have hn:=zHf
 exact tail_any (typeIs_str s z t) slot_str_getitem.lookup (getItem_str (c:=c) (by
  have e1:decide (i< -(2^63:Int))=false:=qAe (by lia);have e2:decide (i>=2^63)=false:=qAe (by lia);rw [e1,e2,Bool.or_false]) (by rw [h1];simpa using h2) ⟨.str ⟨#[c]⟩,H,I.tok _,⟨_,rfl⟩,q⟩) hs
theorem mapSeq_set (its:List Value) (n j:Nat) (u:Value):Obj.mapSeq (·.setIfInBounds j u) {cls:=.type "list",data:=.seq its.toArray n}={cls:=.type "list",data:=.seq (its.set j u).toArray n}:=by
 simp [Obj.mapSeq]
theorem Inv.lst {pins:List (Addr×Obj)} {σ:St} {H:Hp} {s:Shared} {p:Addr} {xs:List V} (I:Inv X pins σ H s) (h:H p=some (.lst xs)) :
  ∃(its:List Value) (n:Nat),Vals xs its/\s.heap.get? p=some {cls:=.type "list",data:=.seq its.toArray n}/\xs.length<=sizeLine:=by
 obtain ⟨z,its,n,r,e⟩:=I.hok p _ h;exact ⟨its,n,r,e,z⟩
theorem Inv.lstUpd {pins:List (Addr×Obj)} {σ:St} {H:Hp} {s:Shared} {p:Addr} {xs ys:List V} {its its':List Value} {n':Nat} {f:Obj->Obj} (I:Inv X pins σ H s) (h:H p=some (.lst xs))
  (ho:s.heap.get? p=some {cls:=.type "list",data:=.seq its.toArray n}) (hf:f {cls:=.type "list",data:=.seq its.toArray n}={cls:=.type "list",data:=.seq its'.toArray n'}) (r:Vals ys its') (hz:ys.length<=sizeLine) (t:Nat) :
  Inv X pins σ (upd H p (.lst ys)) {s with heap:=s.heap.update p f,toks:=t}:=by
 have e:(s.heap.update p f).get? p=some {cls:=.type "list",data:=.seq its'.toArray n'}:=by
  rw [qBU f ho (by rw [hf]<;>rfl),hf]
 refine I.write (x:=p) (e:=p) (by rw [h];trivial) (.inl rfl) (fun b u hb q=>(qCA _ _ (qAu hb)).trans q) ⟨_,e⟩ ?_;exact ⟨hz,its',n',r,e⟩
def rSetL:V->V->V->Hp->(Hp->Prop)->Prop:=fun o i v H Q=>∃p xs k j,o= .ref p/\i= .int k/\H p=some (.lst xs)/\ixN xs.length k=some j/\Q (upd H p (.lst (xs.set j v)))
theorem set_list:PSet X rSetL:=by
 intro pins s σ H o i v ov iv u Q I ro ri rv h;obtain ⟨p,xs,k,j,rfl,rfl,hp,hj,q⟩:=h
 cases ro
 obtain ⟨t,rfl⟩:=ri;obtain ⟨its,n,r,ho,hz⟩:=I.lst hp;obtain ⟨h1,h2,h3,h4⟩:=ixN_seq hj;have hl:=r.length;have hn:=zHf
 have I':Inv X pins σ (upd H p (.lst (xs.set j v))) {s with heap:=s.heap.update p (Obj.mapSeq (·.setIfInBounds j u))} :=
  I.lstUpd hp ho (mapSeq_set its n j u) (r.set rv j) (by rw [List.length_set];exact hz) s.toks
 by_cases h0:0<=k
 ·have hk:k.toNat=j:=by
   rw [seqIndex_of h0 h4] at h1;exact qAZ h1
  exact PySem.W.ki_setAt ho h0 (by lia) (by rw [qAO,<-hl];exact h4) (by rw [hk];exact ⟨_,I',q⟩)
 ·have hk:(k+(its.toArray.size:Int)).toNat=j:=by
   rw [seqIndex_neg (by lia) h3] at h1;rw [qAO,<-hl];exact qAZ h1
  exact PySem.W.ki_setBack ho (by lia) (by rw [qAO,<-hl];exact h3) (by lia) (by rw [hk];exact ⟨_,I',q⟩)
theorem slice_bounds (lo hi:Option Int) (n:Nat):(sliceBounds lo hi none n).1=((HT.sIx n 0 lo:Nat):Int)/\(sliceBounds lo hi none n).2.1=((HT.sIx n n hi:Nat):Int)/\(sliceBounds lo hi none n).2.2=1:=by
 refine ⟨?_,?_,rfl⟩
 ·cases lo with
  | none=>simp [sliceBounds,HT.sIx]
  | some i =>
   simp only [sliceBounds,HT.sIx,Option.getD_none,show (1:Int)>0 by decide,if_true]
   by_cases h:i<0
   ·simp only [h,if_true]<;>lia
   ·simp only [h,qBt]<;>lia
 ·cases hi with
  | none=>simp [sliceBounds,HT.sIx]
  | some i =>
   simp only [sliceBounds,HT.sIx,Option.getD_none,show (1:Int)>0 by decide,if_true]
   by_cases h:i<0
   ·simp only [h,if_true]<;>lia
   ·simp only [h,qBt]<;>lia
theorem zIs (its:List Value) (lo hi:Option Int):slicePick its.toArray lo hi none=((its.drop (HT.sIx its.length 0 lo)).take (HT.sIx its.length its.length hi - HT.sIx its.length 0 lo)).toArray:=by
 obtain ⟨h1,h2,h3⟩:=slice_bounds lo hi its.toArray.size;unfold slicePick;rw [h1,h2,h3];simp only [sliceRange_one,pick_run,qAO]<;>rfl
def rSlL (K:PySem.W.Frag):V->Option Int->Option Int->Hp->VK->Prop:=fun x lo hi H Q=>∃a xs,x= .ref a/\SqL K H a xs/\∀p,H p=none->Q (.ref p) (upd H p (.lst (cutV xs lo hi)))
theorem sl_list:SlR X (rSlL X.K):=by
 intro pins s σ H x v vl vu lo hi sl Q I rx hs pl pu h;obtain ⟨a,xs,rfl,hx,q⟩:=h
 cases rx
 obtain ⟨its,r,ht,hz⟩:=I.list hx;have hlen:=r.length;refine ⟨"list",_,slot_list_getitem.lookup,ht.isList.typeIs,?_⟩;refine wpAny_getItem_list_slice ht.isList hs pl pu .none (by simp) ?_ (by rw [qAO]<;>lia);rw [zIs,<-hlen];refine ⟨.ref s.heap.objs.size,_,I.laid (t':=s.toks) (o:=.lst (cutV xs lo hi)) (fun b ob q=>qAL _ q) (qAG _) ?_,rfl,q _ (I.hok.fresh (qAG _))⟩;exact ⟨qAY (cutV_length xs lo hi) hz,_,0,(r.drop (HT.sIx xs.length 0 lo)).take (HT.sIx xs.length xs.length hi - HT.sIx xs.length 0 lo),qAh _ rfl⟩
def zFw:V->Bool
 | .non=>true
 | .bl _=>true
 | .int _=>true
 | .str _=>true
 | _=>false
def eqV:V->V->Bool
 | .non,.non=>true
 | .bl a,.bl b=>a==b
 | .bl a,.int b=>(if a then 1 else 0)==b
 | .int a,.bl b=>a==(if b then 1 else 0)
 | .int a,.int b=>a==b
 | .str a,.str b=>a==b
 | _,_=>false
theorem eqAt_V {A:Around} {s:Shared} {y:V} {u v:Value} (ry:RelV y u) (rx:RelV x v) (fy:zFw y=true) (fx:zFw x=true):SeqAt.EqAt A s u v (eqV y x):=by
 cases y with
 | non =>
  cases ry
  cases x with
  | non=>cases rx;exact qCW _
  | bl b=>cases rx;exact SeqAt.EqAt.none_bool b
  | int b=>obtain ⟨t,rfl⟩:=rx;exact SeqAt.EqAt.none_int b t
  | str b=>obtain ⟨t,rfl⟩:=rx;exact SeqAt.EqAt.none_str b t
  | _=>exact absurd (show false=true from fx) qAl
 | bl a =>
  cases ry
  cases x with
  | non=>cases rx;exact SeqAt.EqAt.bool_none a
  | bl b=>cases rx;exact SeqAt.EqAt.bool_bool a b
  | int b=>obtain ⟨t,rfl⟩:=rx;exact SeqAt.EqAt.bool_int a b t
  | str b=>obtain ⟨t,rfl⟩:=rx;exact SeqAt.EqAt.bool_str a b t
  | _=>exact absurd (show false=true from fx) qAl
 | int a =>
  obtain ⟨t',rfl⟩:=ry
  cases x with
  | non=>cases rx;exact SeqAt.EqAt.int_none a t'
  | bl b=>cases rx;exact SeqAt.EqAt.int_bool a t' b
  | int b=>obtain ⟨t,rfl⟩:=rx;exact SeqAt.EqAt.int_int a t' b t
  | str b=>obtain ⟨t,rfl⟩:=rx;exact SeqAt.EqAt.int_str a t' b t
  | _=>exact absurd (show false=true from fx) qAl
 | str a =>
  obtain ⟨t',rfl⟩:=ry
  cases x with
  | non=>cases rx;exact SeqAt.EqAt.str_none a t'
  | bl b=>cases rx;exact SeqAt.EqAt.str_bool a t' b
  | int b=>obtain ⟨t,rfl⟩:=rx;exact SeqAt.EqAt.str_int a t' b t
  | str b=>obtain ⟨t,rfl⟩:=rx;exact SeqAt.EqAt.str_str a t' b t
  | _=>exact absurd (show false=true from fx) qAl
 | _=>exact absurd (show false=true from fy) qAl
def eqU (x:V) (u:Value):Bool:=match u with
 | .none=>eqV .non x
 | .bool b=>eqV (.bl b) x
 | .int i _=>eqV (.int i) x
 | .str z _=>eqV (.str z) x
 | _=>false
theorem eqU_of {y:V} {u:Value} (r:RelV y u) (f:zFw y=true):eqU x u=eqV y x:=by
 cases y with
 | non=>cases r;rfl
 | bl b=>cases r;rfl
 | int i=>obtain ⟨t,rfl⟩:=r;rfl
 | str z=>obtain ⟨t,rfl⟩:=r;rfl
 | _=>exact absurd (show false=true from f) qAl
theorem zHp :∀{xs:List V} {us:List Value},Vals xs us->xs.all zFw=true->us.any (eqU x)=xs.any fun y=>eqV y x
 | _,_,.nil,_=>rfl
 | y::xs,u::us,.cons r t,f=>by
  rw [List.all_cons,qCX] at f;rw [qCB,qCB,eqU_of r f.1,zHp t f.2]
theorem zE9 {A:Around} {s:Shared} {v:Value} (rx:RelV x v) (fx:zFw x=true):∀{xs:List V} {us:List Value},Vals xs us->xs.all zFw=true->∀u∈us,SeqAt.EqAt A s u v (eqU x u)
 | _,_,.nil,_=>fun u hu=>by cases hu
 | y::xs,u::us,.cons r t,f=>fun u' hu=>by
  rw [List.all_cons,qCX] at f;rcases qAP.mp hu with rfl| hu
  ·rw [eqU_of r f.1];exact eqAt_V r rx f.1 fx
  ·exact zE9 rx fx t f.2 u' hu
def inV (x:V) (xs:List V):Bool:=xs.any fun y=>eqV y x
def rIn (K:PySem.W.Frag) (neg:Bool):R2:=fun x y H Q=>∃p xs,y= .ref p/\(SqL K H p xs\/SqT K H p xs)/\zFw x=true/\xs.all zFw=true/\Q (.bl (if neg then !inV x xs else inV x xs)) H
theorem zG7:OpR X (compareOp .In) (rIn X.K false):=by
 intro pins s σ H x y v u Q I rx ry h;obtain ⟨p,xs,rfl,hq,fx,fs,q⟩:=h
 cases ry
 rcases hq with hq| hq
 ·obtain ⟨its,r,pl,hz⟩:=I.list hq;refine SeqAt.in_listAt (eqU x) pl.isList (fun w hw=>zE9 rx fx r fs w (by simpa using hw)) ⟨.bl _,H,I,rfl,?_⟩;rw [show its.toArray.any (eqU x)=its.any (eqU x) by simp,zHp r fs];exact q
 ·obtain ⟨its,r,pl,hz⟩:=I.tuple hq;refine SeqAt.in_tupleAt (eqU x) pl (fun w hw=>zE9 rx fx r fs w (by simpa using hw)) ⟨.bl _,H,I,rfl,?_⟩;rw [show its.toArray.any (eqU x)=its.any (eqU x) by simp,zHp r fs];exact q
theorem zF4:OpR X (compareOp .NotIn) (rIn X.K true):=by
 intro pins s σ H x y v u Q I rx ry h;obtain ⟨p,xs,rfl,hq,fx,fs,q⟩:=h
 cases ry
 rcases hq with hq| hq
 ·obtain ⟨its,r,pl,hz⟩:=I.list hq;refine SeqAt.notIn_listAt (eqU x) pl.isList (fun w hw=>zE9 rx fx r fs w (by simpa using hw)) ⟨.bl _,H,I,rfl,?_⟩;rw [show its.toArray.any (eqU x)=its.any (eqU x) by simp,zHp r fs];exact q
 ·obtain ⟨its,r,pl,hz⟩:=I.tuple hq;refine SeqAt.notIn_tupleAt (eqU x) pl (fun w hw=>zE9 rx fx r fs w (by simpa using hw)) ⟨.bl _,H,I,rfl,?_⟩;rw [show its.toArray.any (eqU x)=its.any (eqU x) by simp,zHp r fs];exact q
theorem zAm:zDt X (.builtin "len") (fun xs H Q=>∃p ys,xs=[.ref p]/\(SqL X.K H p ys\/SqT X.K H p ys)/\Q (.int ys.length) H):=by
 intro pins s σ H xs us Q I r h;obtain ⟨p,ys,rfl,hq,q⟩:=h;obtain ⟨u,rfl,rx⟩:=vals1 r
 cases rx
 have hn:=zHf;rcases hq with hq| hq
 ·obtain ⟨its,r',pl,hz⟩:=I.list hq;have hlen:=r'.length;exact Calls.call_len_list pl.isList (by simp only [qAO]<;>lia) ⟨.int ys.length,H,I.tok _,⟨s.toks+1,by rw [qAO,hlen]⟩,q⟩
 ·obtain ⟨its,r',pl,hz⟩:=I.tuple hq;have hlen:=r'.length;exact len_tuple pl (by simp only [qAO]<;>lia) ⟨.int ys.length,H,I.tok _,⟨s.toks+1,by rw [qAO,hlen]⟩,q⟩
theorem call_len_str:zDt X (.builtin "len") (fun xs H Q=>∃z,xs=[.str z]/\z.length<=sizeLine/\Q (.int z.length) H):=by
 intro pins s σ H xs us Q I r h;obtain ⟨z,rfl,hz,q⟩:=h;obtain ⟨u,rfl,t,rfl⟩:=vals1 r;have hn:=zHf;exact len_str (by lia) ⟨.int z.length,H,I.tok _,⟨_,rfl⟩,q⟩
theorem zBm:zDt X (.type "list") (fun xs H Q=>∃p ys,xs=[.ref p]/\(SqL X.K H p ys\/SqT X.K H p ys)/\∀l,H l=none->Q (.ref l) (upd H l (.lst ys))):=by
 intro pins s σ H xs us Q I r h;obtain ⟨p,ys,rfl,hq,q⟩:=h;obtain ⟨u,rfl,rx⟩:=vals1 r
 cases rx
 have fin:∀(its:List Value),Vals ys its->ys.length<=sizeLine->∀(h':Heap) (c':Nat),(∀b o',s.heap.get? b=some o'->h'.get? b=some o') ->
   h'.get? s.heap.objs.size=some {cls:=.type "list",dict:=none,data:=.seq its.toArray c',slots:=#[]}->EP X pins σ Q (.ref s.heap.objs.size) {s with heap:=h'}:=fun its r' hz h' c' kp e =>
  ⟨.ref s.heap.objs.size,_,I.laid (t':=s.toks) kp (qAG _) (show zA7 X.prog X.w _ h' _ (.lst ys) from ⟨hz,its,c',r',e⟩),rfl,q _ (I.hok.fresh (qAG _))⟩
 rcases hq with hq| hq
 ·obtain ⟨its,r',pl,hz⟩:=I.list hq;have hlen:=r'.length;obtain ⟨o,ho,hc,n,hd⟩:=pl.isList;exact call_list_seq p (.inl rfl) ho hc hd (fun h' c' kp e=>fin its r' hz h' c' kp e) (by simp only [qAO]<;>lia)
 ·obtain ⟨its,r',pl,hz⟩:=I.tuple hq;have hlen:=r'.length;obtain ⟨o,ho,hc,n,hd⟩:=pl;exact call_list_seq p (.inr rfl) ho hc hd (fun h' c' kp e=>fin its r' hz h' c' kp e) (by simp only [qAO]<;>lia)
def tyV (K:PySem.W.Frag) (T:String) (x:V) (H:Hp):Prop:=match x with
 | .str _=>T= "str"
 | .int _=>T= "int"
 | .ref p=>(T= "list" /\∃xs,SqL K H p xs)\/(T= "tuple" /\∃o,K.lookup p=some o/\o.cls= .type "tuple" /\o.dict=none) \/
   (T= "dict" /\((∃kvs,H p=some (.dK kvs))\/∃kvs,H p=some (.dT kvs)))\/(T= "set" /\∃S n,H p=some (.set S n))
 | _=>False
theorem tyV_is {pins:List (Addr×Obj)} {σ:St} {H:Hp} {s:Shared} {T:String} {v:Value} (I:Inv X pins σ H s) (r:RelV x v) (ty:tyV X.K T x H) :
  s.TypeIs v T/\∀a,v= .ref a->∃ob,s.heap.get? a=some ob/\ob.dict=none:=by
 cases x with
 | str z =>
  obtain ⟨t,rfl⟩:=r
  cases (show T= "str" from ty)
  exact ⟨typeIs_str s z t,fun _ e=>nomatch e⟩
 | int i =>
  obtain ⟨t,rfl⟩:=r
  cases (show T= "int" from ty)
  exact ⟨typeIs_int s i t,fun _ e=>nomatch e⟩
 | ref p =>
  cases r
  rcases ty with ⟨rfl,xs,hq⟩| ⟨rfl,o,hk,hc,hd⟩| ⟨rfl,hk⟩| ⟨rfl,S,n,hk⟩
  ·obtain ⟨its,_,pl,_⟩:=I.list hq;refine ⟨pl.isList.typeIs,fun a e=>?_⟩
   cases e
   obtain ⟨o,n,e,c,hd,_⟩:=pl;exact ⟨o,e,hd⟩
  ·refine ⟨⟨o,I.kIn p o hk,hc⟩,fun a e=>?_⟩
   cases e
   exact ⟨o,I.kIn _ o hk,hd⟩
  ·have z:∃o,s.heap.get? p=some o/\o.ExactDict:=by
    rcases hk with ⟨kvs,hk⟩| ⟨kvs,hk⟩
    ·obtain ⟨_,_,_,_,o,_,_,e,ex,_⟩:=I.hok p _ hk;exact ⟨o,e,ex⟩
    ·obtain ⟨_,_,_,_,o,_,_,e,ex,_⟩:=I.hok p _ hk;exact ⟨o,e,ex⟩
   obtain ⟨o,e,ex⟩:=z;refine ⟨⟨o,e,ex.1⟩,fun a e2=>?_⟩
   cases e2
   exact ⟨o,e,ex.2.1⟩
  ·obtain ⟨o,_,_,_,e,ex,_⟩:=I.hok p _ hk;refine ⟨⟨o,e,ex.1⟩,fun a e2=>?_⟩
   cases e2
   exact ⟨o,e,ex.2.1⟩
 | _=>exact False.elim ty
def tBM0 (K:PySem.W.Frag) (T:String) (r:V->List V->Hp->VK->Prop) (to:TE):TE:=fun σ H Q=>to σ H fun x H1=>tyV K T x H1/\r x [] H1 Q
def tBM (K:PySem.W.Frag) (T:String) (r:V->List V->Hp->VK->Prop) (to:TE) (t:TA):TE:=fun σ H Q=>to σ H fun x H1=>tyV K T x H1/\t σ H1 fun xs H2=>r x xs H2 Q
variable {o e:Expr} {es:List Expr} {to:TE} {t:TA} {name:Str} {apos cpos:Pos} {T id:String} {r:V->List V->Hp->VK->Prop}
theorem pe_bm0 (pa:PlainAttrs T) (slot:Slot T name id) (hty:typeOf (.builtin id)=pure (.type "method_descriptor")) (hm:MtR X id r) (ho:PE X o to)
  (hbase:attributeBase o name X.env (eval o X.env)=eval o X.env:=by rfl) (hline:(apos.endLine==cpos.line)=true:=by rfl):PE X (.Call (.Attribute o name apos) [] [] cpos) (tBM0 X.K T r to):=by
 intro pins s σ H Q I h;refine wpAny_Call_method0_late hbase hline (thn (ho pins s σ H _ I h) fun v s1 ⟨x,H1,I1,r1,ty,q1⟩=>?_);obtain ⟨h1,h2⟩:=tyV_is I1 r1 ty;exact ⟨T,id,pa,slot,hty,h1,h2,Calls.callWith_builtin rfl (PySem.evalArgs_none (hm pins s1 σ H1 x [] v [] Q I1 r1 .nil q1))⟩
theorem zGb (pa:PlainAttrs T) (slot:Slot T name id) (hty:typeOf (.builtin id)=pure (.type "method_descriptor")) (hm:MtR X id r) (ho:PE X o to) (ha:PA X (e::es) t)
  (hbase:attributeBase o name X.env (eval o X.env)=eval o X.env:=by rfl)
  (hfew:((backTo cpos (starEach (e::es) X.env)).all (fun x=>!x.1)&&(backToKw cpos (keywordEach [] X.env)).all (fun x=>x.1.isSome)
   &&decide ((e::es).length+([]:List Keyword).length+(if ([]:List Keyword).isEmpty then 0 else 1)<30))=true:=by rfl)
  (hline:(apos.endLine==cpos.line)=true:=by rfl) (hs:starEach (e::es) X.env=(false,eval e X.env)::starEach es X.env:=by rfl) (hplain:(backTo cpos (starEach es X.env)).any (·.1)=false:=by rfl) :
  PE X (.Call (.Attribute o name apos) (e::es) [] cpos) (tBM X.K T r to t):=by
 intro pins s σ H Q I h;refine wpAny_Call_method_late hbase hfew hline rfl (thn (ho pins s σ H _ I h) fun v s1 ⟨x,H1,I1,r1,ty,q1⟩=>?_);obtain ⟨h1,h2⟩:=tyV_is I1 r1 ty;refine ⟨T,id,pa,slot,hty,h1,h2,?_⟩;have hA:=ha cpos pins s1 σ H1 _ I1 q1;rw [hs] at hA ⊢;refine Calls.callWith_builtin (by show (false||(backTo cpos (starEach es X.env)).any (·.1))=false;rw [hplain]<;>rfl) (Calls.evalArgs_plain ?_);exact thn hA fun us s2 ⟨vs,H2,I2,r2,q2⟩=>hm pins s2 σ H2 x vs v us Q I2 r1 r2 q2
end
def MtM (X:Cx) (id:String) (r:V->List V->Hp->VK->Prop):Prop :=
 ∀(pins:List (Addr×Obj)) (s:Shared) (σ:St) (H:Hp) (x:V) (xs:List V) (v:Value) (us:List Value) (Q:VK),Inv X pins σ H s->RelV x v->Vals xs us->r x xs H Q ->
  wpAny (model X.prog X.w) X.A (call (.builtin id) (v::us)) (EP X pins σ Q) X.xe s
theorem Vals.one:∀{x:V} {us:List Value},Vals [x] us->∃u,us=[u]/\RelV x u
 | _,_,.cons r .nil=>⟨_,rfl,r⟩
theorem Vals.two:∀{x y:V} {us:List Value},Vals [x,y] us->∃u v,us=[u,v]/\RelV x u/\RelV y v
 | _,_,_,.cons r (.cons q .nil)=>⟨_,_,rfl,r,q⟩
theorem Vals.zero:∀{us:List Value},Vals [] us->us=[]
 | _,.nil=>rfl
theorem Vals.dropLast {xs:List V} {us:List Value} (h:Vals xs us):Vals xs.dropLast us.dropLast:=by
 induction h with
 | nil=>exact .nil
 | cons r t ih =>
  cases t with
  | nil=>exact .nil
  | cons q t'=>exact .cons r ih
theorem Vals.rep {xs:List V} {us:List Value} (h:Vals xs us):∀k:Nat,Vals (List.replicate k xs).flatten (List.replicate k us).flatten
 | 0=>.nil
 | k+1=>by
  rw [qCY,qCY,qBP,qBP];exact Vals.append h (Vals.rep h k)
theorem erase_last (l:List α):l.eraseIdx (l.length - 1)=l.dropLast:=by
 induction l with
 | nil=>rfl
 | cons a r ih =>
  cases r with
  | nil=>rfl
  | cons b r =>
   have e:(a::b::r).length - 1=((b::r).length - 1)+1:=by
    have h1:(a::b::r).length=r.length+2:=rfl;have h2:(b::r).length=r.length+1:=rfl;lia
   rw [e,List.eraseIdx_cons_succ,ih]
   all_goals rfl
theorem foldl_rep (its:List Value):∀(k:Nat) (acc:List Value),
  List.foldl (fun x1 x2=>x1++x2) acc.toArray (List.replicate k its.toArray)=(acc++(List.replicate k its).flatten).toArray
 | 0,acc=>by simp
 | k+1,acc=>by
  have e:acc.toArray++its.toArray=(acc++its).toArray:=by simp
  have e2:(acc++its)++(List.replicate k its).flatten=acc++(List.replicate (k+1) its).flatten:=by
   rw [qCY,qBP,qAy]
  rw [<-e2,<-foldl_rep its k (acc++its),<-e,qCY,qBi]
section
variable {X:Cx} {pins:List (Addr×Obj)} {σ:St} {H:Hp} {s:Shared} {l b:Addr} {xs ys zs:List V}
theorem Inv.lset {its its':List Value} {f:Array Value->Array Value} {t':Nat} (I:Inv X pins σ H s) (hH:H l=some (.lst xs))
  (e:s.heap.get? l=some {cls:=.type "list",data:=.seq its.toArray n}) (hf:f its.toArray=its'.toArray) (hv:Vals ys its') (hz:ys.length<=sizeLine) :
  Inv X pins σ (upd H l (.lst ys)) {s with heap:=s.heap.update l (Obj.mapSeq f),toks:=t'}:=by
 have q:=PySem.IsL.update e f;rw [hf] at q;refine I.write (x:=l) (e:=l) (by rw [hH];exact trivial) (.inl rfl) (fun b' u hb hu=>(qCA s.heap (Obj.mapSeq f) (qAu hb)).trans hu) ⟨_,q⟩ ?_;exact ⟨hz,its',_,hv,q⟩
theorem Inv.lnew {its:List Value} {t':Nat} (I:Inv X pins σ H s) (hv:Vals ys its) (hz:ys.length<=sizeLine) :
  Inv X pins σ (upd H s.heap.objs.size (.lst ys)) {s with heap:=s.heap.push {cls:=.type "list",data:=.seq its.toArray},toks:=t'} :=
 I.laid (fun _ _ q=>qAL _ q) (qAG _) ⟨hz,its,0,hv,qAh _ rfl⟩
theorem Inv.fresh (I:Inv X pins σ H s):H s.heap.objs.size=none:=I.hok.fresh (qAG _)
theorem Inv.lstM (I:Inv X pins σ H s) (hH:H l=some (.lst xs)):xs.length<=sizeLine/\∃(its:List Value) (n:Nat),Vals xs its/\xs.length=its.length/\s.heap.get? l=some {cls:=.type "list",data:=.seq its.toArray n}:=by
 obtain ⟨z,its,n,r,e⟩:=I.hok l _ hH;exact ⟨z,its,n,r,r.length,e⟩
theorem notLongL (h:n<=sizeLine):Builtin.List.listTooLong n=false:=by
 unfold Builtin.List.listTooLong;exact qAe (by lia)
end
section
variable {X:Cx}
def rAppend:V->List V->Hp->VK->Prop:=fun x vs H Q=>∃l xs y,x= .ref l/\vs=[y]/\H l=some (.lst xs)/\xs.length<sizeLine/\Q .non (upd H l (.lst (xs++[y])))
theorem zDe:MtM X "list.append" rAppend:=by
 intro pins s σ H x vs v us Q I rx rv h;obtain ⟨l,xs,y,rfl,rfl,hH,hz,q⟩:=h
 cases rx
 obtain ⟨u,rfl,ru⟩:=rv.one;obtain ⟨z,its,n,r,hl,e⟩:=I.lstM hH;refine qCC F.slot_list_append ⟨_,e,rfl⟩ F.entry_list_append (F.args_list_append_2 _ _) (PySem.list_append l its.toArray n u (by rw [qAO];lia)) ⟨e,?_⟩;refine ⟨.non,_,I.lset (its':=its++[u]) hH e (by simp) (r.append (.cons ru .nil)) ?_,rfl,q⟩;rw [qAU,qA8];lia
def rExtend:V->List V->Hp->VK->Prop:=fun x vs H Q=>∃l b xs zs,x= .ref l/\vs=[.ref b]/\H l=some (.lst xs)/\H b=some (.lst zs)/\xs.length+zs.length<=sizeLine/\Q .non (upd H l (.lst (xs++zs)))
theorem zHd:MtM X "list.extend" rExtend:=by
 intro pins s σ H x vs v us Q I rx rv h;obtain ⟨l,b,xs,zs,rfl,rfl,hH,hB,hz,q⟩:=h
 cases rx
 obtain ⟨u,rfl,ru⟩:=rv.one
 cases ru
 obtain ⟨z,its,n,r,hl,e⟩:=I.lstM hH;obtain ⟨z2,its2,n2,r2,hl2,e2⟩:=I.lstM hB;have hsz:its.toArray.size+its2.toArray.size<=sizeLine:=by rw [qAO,qAO];lia
 have hlong:¬(!its.toArray.isEmpty&&Builtin.List.listTooLong (its.toArray.size+its2.toArray.size))=true:=by
  rw [notLongL hsz,Bool.and_false];exact qAl
 refine qCC F.slot_list_extend ⟨_,e,rfl⟩ F.entry_list_extend (F.args_list_extend_2 _ _)
  (AutoSeq1.list_extend_list_list_0 l its.toArray n b its2.toArray n2 hlong (by rw [qAO];lia) (by lia)) ⟨e,e2,?_⟩
 refine ⟨.non,_,I.lset (its':=its++its2) hH e (by simp) (r.append r2) ?_,rfl,q⟩;rw [qAU];lia
def rPop:V->List V->Hp->VK->Prop:=fun x vs H Q=>∃l xs y,x= .ref l/\vs=[]/\H l=some (.lst xs)/\xs[xs.length - 1]?=some y/\Q y (upd H l (.lst xs.dropLast))
theorem mt_pop:MtM X "list.pop" rPop:=by
 intro pins s σ H x vs v us Q I rx rv h;obtain ⟨l,xs,y,rfl,rfl,hH,hy,q⟩:=h
 cases rx
 have hus:=rv.zero;subst hus;obtain ⟨z,its,n,r,hl,e⟩:=I.lstM hH;obtain ⟨u,hu,ru⟩:=r.get hy
 have hy':its.toArray[its.toArray.size - 1]?=some u:=by
  show its.toArray[its.length - 1]?=some u;rw [<-qAo,<-hl];exact hu
 refine qCC F.slot_list_pop ⟨_,e,rfl⟩ F.entry_list_pop (F.args_list_pop_1 _) (MeetsSeq.list_pop_last l its.toArray n u hy' (by rw [qAO];lia)) ⟨e,?_⟩;refine ⟨y,_,I.lset (its':=its.dropLast) hH e ?_ r.dropLast ?_,ru,q⟩
 ·show its.toArray.eraseIdxIfInBounds (its.toArray.size - 1)=its.dropLast.toArray;rw [qAO,List.eraseIdxIfInBounds_toArray,erase_last]
 ·rw [List.length_dropLast];lia
def rCat:R2:=fun x y H Q=>∃l b xs zs,x= .ref l/\y= .ref b/\H l=some (.lst xs)/\H b=some (.lst zs)/\xs.length+zs.length<=sizeLine/\∀p,H p=none->Q (.ref p) (upd H p (.lst (xs++zs)))
theorem op_cat:OpR X (binaryOp .Add) rCat:=by
 intro pins s σ H x y v u Q I rx ry h;obtain ⟨l,b,xs,zs,rfl,rfl,hH,hB,hz,q⟩:=h
 cases rx
 cases ry
 obtain ⟨z,its,n,r,hl,e⟩:=I.lstM hH;obtain ⟨z2,its2,n2,r2,hl2,e2⟩:=I.lstM hB;refine PySem.P.add_list e e2 ?_ (by rw [qAO,qAO];lia);have ea:its.toArray++its2.toArray=(its++its2).toArray:=by simp
 rw [ea];exact ⟨.ref _,_,I.lnew (t':=s.toks) (r.append r2) (by rw [qAU];lia),rfl,q _ I.fresh⟩
def rRep:R2:=fun x y H Q=>∃l k xs,x= .ref l/\y= .int k/\H l=some (.lst xs)/\-(2^63)<=k/\k<2^63/\xs.length*k.toNat<=sizeLine /\
 ∀p,H p=none->Q (.ref p) (upd H p (.lst (List.replicate k.toNat xs).flatten))
theorem len_rep (xs:List α) (k:Nat):(List.replicate k xs).flatten.length=k*xs.length:=by
 induction k with
 | zero=>simp
 | succ k ih=>rw [qCY,qBP,qAU,ih,Nat.succ_mul,Nat.add_comm]
theorem op_rep:OpR X (binaryOp .Mult) rRep:=by
 intro pins s σ H x y v u Q I rx ry h;obtain ⟨l,k,xs,rfl,rfl,hH,h1,h2,hz,q⟩:=h
 cases rx
 obtain ⟨t,rfl⟩:=ry;obtain ⟨z,its,n,r,hl,e⟩:=I.lstM hH;have hlen:its.toArray.size*k.toNat<=sizeLine:=by rw [qAO,<-hl];exact hz
 have hcap:¬its.toArray.size*k.toNat>(2^63 - 1) / 8:=by
  have:(sizeLine:Nat)<=(2^63 - 1) / 8:=by decide
  lia
 have hfit:¬(!Builtin.List.listFitsIndex k)=true:=by
  rw [fitsIndex_both h1 h2];exact qAl
 have hlong:¬Builtin.List.listTooLong (its.toArray.size*k.toNat)=true:=by
  rw [notLongL hlen];exact qAl
 have hnew:List.foldl (fun x1 x2=>x1++x2) #[] (List.replicate (if its.toArray.isEmpty=true then 0 else k.toNat) its.toArray)=(List.replicate k.toNat its).flatten.toArray:=by
  have f0:∀m:Nat,List.foldl (fun x1 x2=>x1++x2) #[] (List.replicate m its.toArray)=(List.replicate m its).flatten.toArray:=fun m=>by
   have:=foldl_rep its m [];rw [qBj] at this;exact this
  rw [f0]
  cases its with
  | nil=>simp
  | cons a r'=>rw [qAB (by simp)]
 refine wpAny_binaryOp_repeat_ref (T:= "list") (U:= "int") (by decide) ⟨_,e,rfl⟩ (fun s'=>typeIs_int s' k t) noFill_list_mul F.fills_int_mul F.slot_int_rmul repeat_list F.slot_int_index.lookup
  (qCC F.slot_int_rmul (typeIs_int s k t) F.entry_int_rmul (F.args_int_rmul_2 _ _) (int___rmul___int_list k t l its.toArray n)
   ⟨e,rfl,⟨_,e,rfl⟩,qCC F.slot_list_mul ⟨_,e,rfl⟩ F.entry_list_mul (F.args_list_mul_2 _ _) (AutoListH.list___mul___list_int_3 l its.toArray n k t hfit hcap hlong) ⟨e,?_⟩⟩)
 rw [hnew];exact ⟨.ref _,_,I.lnew (t':=s.toks) (r.rep k.toNat) (by rw [len_rep,Nat.mul_comm];exact hz),rfl,q _ I.fresh⟩
end
section
variable {prog:Program} {w:World} {A:Around} {E:Value->Shared->Prop} {s:Shared}
set_option maxRecDepth 100000 in
end
end L2
namespace Att
open PySem PySem.W PySem.Calls PyProof.Rows
theorem zHk {P:Params} {h:Heap}:∀(ns:List Int) (vs:List Value),WellAll P h vs (ns.map WData.int)->IntsAre vs ns:=by
 intro ns
 induction ns with
 | nil =>
  intro vs w;rw [qCZ] at w
  cases w
  exact .nil
 | cons n ns ih =>
  intro vs w;rw [qAk] at w
  cases w with
  | cons a b =>
   cases a
   exact .cons _ _ (ih _ b)
theorem script_of {l:OpenLaw} {n:Nat} (hn:l.most=some n) {P:Params} {h:Heap} {args:List WData} {vals:List Value}
  (hpre:l.row.toRowW.claim.pre args=true) (hwl:WellAll P h vals args) :
  ∃a vs ns,vals=[Value.ref a]/\args=[WData.list (ns.map WData.int)]/\h.get? a=some {cls:=.type "list",data:=.seq vs.toArray}/\IntsAre vs ns/\ns.length<=n:=by
 have hsh:WShape.hasAll [] args [.list .int]=true:=(pre_splitW hpre).1;have hc:l.pre.holds [] {args:=args}=true:=(pre_splitW hpre).2;obtain ⟨d,r,rfl,h1,h2⟩:=hasAllW_cons hsh;obtain rfl:=hasAllW_nil h2;obtain ⟨xs,rfl,h3⟩:=hasW_list h1;obtain ⟨ns,rfl⟩:=items_int h3
 have hlen:ns.length<=n:=by
  unfold OpenLaw.pre at hc
  have h4:(WTm.not (.lt (.lit (.int (n:Int))) (.len (.arg 0)))).holds [] {args:=[.list (ns.map .int)]}=true:=by
   have h4:=(holds_andW hc).1;rw [hn] at h4;exact h4
  have h5:=condW_of h4 (w_not (w_lt w_lit (w_len_list (w_arg rfl))));rw [qAD] at h5;refine Nat.le_of_not_lt fun q=>?_;have q':(n:Int)<((ns.length:Nat):Int):=by lia
  first
   | (rw [qAf q'] at h5;exact absurd h5 (by decide))
   | (simp at h5;lia)
 cases hwl with
 | cons w1 w2 =>
  cases w2
  cases w1 with
  | list ho hall=>exact ⟨_,_,ns,rfl,rfl,ho,zHk ns _ hall,hlen⟩
theorem post_true (l:OpenLaw) (args:List WData):l.row.toRowW.claim.post args (.bool true) args=true :=
 postW_of (r:=l.row.toRowW) (X:=(true==true))
  (show WShape.has [] (.bool true) .bool=true by first| rfl| decide| simp [WShape.has,WShape.arms,WShape.armsAll])
  (show (WTm.eq .res (.lit (.bool true))).value [] {args:=args,res:=some (.bool true),after:=args}=some (.bool (true==true)) from w_eq_bool (w_res rfl) w_lit) rfl
theorem attach_call {l:OpenLaw} {n:Nat} {q:Program} {loose:List Str} {XP:(Str->Option Value)->Heap->Prop} {YP:World->Heap->Prop} {d:DefRec}
  (hn:l.most=some n) (hdf:d.params.defaults=[])
  (call:∀(w:World) (s₀ s₁:Shared) (mg mb:Str->Option Value) (fa:Addr) (o:Obj) (pm cd doc:Value) (a:Addr) (vs:List Value) (ns:List Int),
   Ground q loose [] XP w s₀ mg mb s₁.heap->YP w s₁.heap ->
   s₁.heap.get? fa=some o->o.data= .func (docDef d.name d.params d.body d.scope pm cd doc)->s₁.heap.CodeRec cd d.name->mg d.name=some (.ref fa) ->
   s₁.heap.get? a=some {cls:=.type "list",data:=.seq vs.toArray}->IntsAre vs ns->ns.length<=n->s₁.gens=#[] ->
   codeAny (model l.prog w) callerA (.call (.ref fa) ⟨[.ref a],[]⟩) (fun r s'=>r= .ok (.ret (.bool true))/\OldK s₁.heap s'.heap/\s'.os=s₁.os/\AllBare s'.gens) s₁) :
  WalkO q loose XP YP l.row.toRowW d [] (fun f vs=>PySem.call f vs):=by
 intro w s₀ s₁ mg mb G Y fa o pm cd doc dV kV ho hd hcd hD hmg hg args vals as hpre hlay hrd hwl hlo;obtain rfl:dV= .none:=Dflts.none hD hdf;obtain rfl:kV= .none:=Dflts.noKw hD;obtain ⟨a,vs,ns,rfl,rfl,hobj,hints,hlen⟩:=script_of hn hpre hwl;refine enter_call (qB7 (call w s₀ s₁ mg mb fa o pm cd doc a vs ns G Y ho (fd_plain hd) hcd hmg hobj hints hlen hg) fun r s' hq=>?_);obtain ⟨rfl,h2,h3,h4⟩:=hq;exact ⟨.inl ⟨.bool true,.bool true,[],rfl,fun _=>rfl,.bool true,post_true l _,fun _=>⟨List.Pairwise.nil,fun _ hm=>(nomatch hm)⟩⟩,h2,h3,h4⟩
end Att
namespace L2
open PySem PySem.Spec PyProof.Rows
variable {X:Cx}{x qual:Str}{H H':Hp}{a:Addr}{u:Value}{y:V}{P:Program}{w:World}
theorem vals_ints:∀{vs:List Value} {ns:List Int},IntsAre vs ns->Vals (ns.map V.int) vs
 | _,_,.nil=>.nil
 | _,_,.cons n t h=>.cons ⟨t,rfl⟩ (vals_ints h)
def zFv (s:Stmt) (j:Nat):Stmt:=match s with
 | .ClassDef _ _ _ body _ _ _ _ _ _ _=>body.getD j (.Pass ⟨0,0,0,0⟩)
 | _=>.Pass ⟨0,0,0,0⟩
def zBs (s:Stmt):Arguments:=match s with
 | .FunctionDef _ a _ _ _ _ _ _ _ _=>a
 | _=>{posonlyargs:=[],args:=[],vararg:=none,kwonlyargs:=[],kw_defaults:=[],kwarg:=none,defaults:=[]}
def zBc (s:Stmt):List Stmt:=match s with
 | .FunctionDef _ _ b _ _ _ _ _ _ _=>b
 | _=>[]
def zAd (s:Stmt):Scope:=match s with
 | .FunctionDef _ _ _ _ _ _ sc _ _ _=>sc
 | _=>{kind:=.function,names:=[],isGenerator:=false,isCoroutine:=false}
abbrev CX0:CXT:=fun _ _ _ _ _ _=>False
abbrev E0:XK:=fun _ _ _=>False
theorem pass0 :zHr CX0 X E0:=fun _ _ _ _ _ _ _ h=>h.elim
structure Fun (K:PySem.W.Frag) (x qual:Str) (st:Stmt) (f:Addr) (fd:FuncData):Prop where
 ex:∃(oc:Value) (od:Option Addr) (kV doc pm:Value) (an:Option Addr) (cdv ct:Value) (osl:Array (Option Value)),
  fd=PySem.W.fnOf x qual (zBs st) (zBc st) (zAd st) .none kV doc pm an cdv ct/\K.lookup f=some ⟨oc,od,.func fd,osl⟩/\PySem.W.codeIn K cdv qual=true
 kp:PySem.W.keepIn K (.ref f)=true
section
variable {P:Program} {w:World} {K:PySem.W.Frag} {mg:Str->Option Value} {base:Heap}
theorem Fun.ok {st:Stmt} {f:Addr} {fd:FuncData} {N ps:List Str} {k:Nat} {sp:Sp} (F:Fun K x qual st f fd) (S:FnScope N ps (zAd st)) (len:∀vs H Q E,sp vs H Q E->vs.length=ps.length)
  (hbody:∀(cdv:Value) (A:Around) (outer:List Env) (s:Shared) (H:Hp) (vs:List V) (Q:VK) (E:XK),Room k (A.deeper (envOfC qual (zAd st) s.heap.objs.size f cdv))->sp vs H Q E ->
   ∃t,PSs (cxOf CX0 P w K mg base N qual (zAd st) f cdv A outer s H E).nox (zBc st) t/\t {nx:=fun _ H'=>Q .non H',rt:=Q} (start N vs) H):FnOk P w K mg base CX0 (k+1) f fd ps sp:=by
 obtain ⟨oc,od,kV,doc,pm,an,cdv,ct,osl,rfl,lk,hcd⟩:=F.ex;refine fn_of lk hcd S len fun A outer s H vs Q E hr hsp=>?_;obtain ⟨t,h,q⟩:=hbody cdv A outer s H vs Q E hr hsp;exact ⟨t,h.nox,q⟩
theorem Fun.binds {st:Stmt} {f:Addr} {fd:FuncData} {ps:List Str} (F:Fun K x qual st f fd)
  (h:∀(kV doc pm:Value) (an:Option Addr) (cdv ct:Value) (us:List Value),us.length=ps.length->bindArgs (PySem.W.fnOf x qual (zBs st) (zBc st) (zAd st) .none kV doc pm an cdv ct) ⟨us,[]⟩=pure (ps.zip us)):zDu K fd ps []:=by
 obtain ⟨oc,od,kV,doc,pm,an,cdv,ct,osl,rfl,lk,hcd⟩:=F.ex;exact .all (h kV doc pm an cdv ct)
theorem fun_mk {st:Stmt} {f:Addr} {oc:Value} {od an:Option Addr} {osl:Array (Option Value)} {kV doc pm cdv ct:Value} (l:K.lookup f=some ⟨oc,od,.func (PySem.W.fnOf x qual (zBs st) (zBc st) (zAd st) .none kV doc pm an cdv ct),osl⟩)
  (c:PySem.W.codeIn K cdv qual=true) (k:PySem.W.keepIn K (.ref f)=true):Fun K x qual st f (PySem.W.fnOf x qual (zBs st) (zBc st) (zAd st) .none kV doc pm an cdv ct):=⟨⟨oc,od,kV,doc,pm,an,cdv,ct,osl,rfl,l,c⟩,k⟩
end
theorem zD6 {A:Around} {k:Nat} (hr:Room k A):A.units+1<cLine:=Nat.lt_of_le_of_lt (Nat.add_le_add_left (by decide:1<=64) _) hr.units
section
variable {X:Cx}
theorem pv (i:Nat) {pos:Pos} (hN:X.N[i]?=some x:=by rfl) (hv:Vis X.env.scope x:=by first| exact Or.inl rfl| exact Or.inr (Or.inl rfl)| exact Or.inr (Or.inr rfl)) (hd:(x==("__debug__" : Str))=false:=by decide)
  (hcd:(x==("__classdict__" : Str))=false:=by decide):PE X (.Name x pos) (tVar i):=pe_var hN hv hd hcd
end
theorem iteF {A B:Prop} (h:B):if false=true then A else B:=by
 rw [qAB qAl];exact h
theorem iteT {A B:Prop} (h:A):if true=true then A else B:=by
 rw [qAC rfl];exact h
theorem ite2 {c A B:Prop} [Decidable c] (h1:c->A) (h2:¬c->B):if c then A else B:=by
 by_cases h:c
 ·rw [qAC h];exact h1 h
 ·rw [qAB h];exact h2 h
def Same (H H':Hp):Prop:=∀b o,H b=some o->H' b=some o
theorem Same.seq {K:PySem.W.Frag} {xs:List V} (e:Same H H') (h:SqL K H a xs):SqL K H' a xs:=by
 rcases h with (h| ⟨o,h⟩)| h
 ·exact .inl (.inl (e _ _ h))
 ·exact .inl (.inr ⟨o,e _ _ h⟩)
 ·exact .inr h
section
variable {κ:Type} [DecidableEq κ]
def valV (kvs:List (κ×V)) (k:κ):Option V:=(kvs.find? fun kv=>decide (kv.1=k)).map (·.2)
def putK (kvs:List (κ×V)) (k:κ) (v:V):List (κ×V) :=
 if (kvs.any fun kv=>decide (kv.1=k))=true then kvs.map (fun kv=>if kv.1=k then (kv.1,v) else kv) else kvs++[(k,v)]
theorem zGe {p:κ×V} {r:List (κ×V)} {k:κ} (e:p.1=k):valV (p::r) k=some p.2:=by simp [valV,qCD,e]
theorem zGf {p:κ×V} {r:List (κ×V)} {k:κ} (e:¬p.1=k):valV (p::r) k=valV r k:=by simp [valV,qCD,e]
theorem zGg (k:κ):∀kvs:List (κ×V),(kvs.any fun kv=>decide (kv.1=k))=(valV kvs k).isSome
 | []=>rfl
 | p::r=>by
  rw [qCB]
  by_cases e:p.1=k
  ·simp only [zGe e,qAf e,Bool.true_or,Option.isSome_some]
  ·rw [zGf e,qAe e,Bool.false_or];exact zGg k r
theorem zDn (kvs:List (κ×V)) (k:κ) (v:V):(putK kvs k v).length<=kvs.length+1:=by
 unfold putK;split
 ·rw [qAD];lia
 ·rw [qAU,qAb,qBH];lia
theorem putK_new {kvs:List (κ×V)} {k:κ} (v:V) (h:valV kvs k=none):putK kvs k v=kvs++[(k,v)]:=by
 unfold putK;rw [zGg,h];exact qAB (by decide)
theorem RelO.isSome_eq {o:Option V} {u:Option Value} (r:RelO o u):o.isSome=u.isSome:=by
 cases o with
 | none=>cases u with
  | none=>rfl
  | some _=>exact (show False from r).elim
 | some _=>cases u with
  | none=>exact (show False from r).elim
  | some _=>rfl
theorem KV.val {kvs:List (κ×V)} {vs:List (κ×Value)} (r:KV kvs vs) (k:κ):RelO (valV kvs k) (valueAt vs k):=by
 unfold KV at r
 induction r with
 | nil=>exact True.intro
 | @cons p q ps qs h t ih =>
  obtain ⟨h1,h2⟩:=h
  by_cases e:p.1=k
  ·have e':q.1=k:=h1.symm.trans e;have b:valueAt (q::qs) k=some q.2:=by simp [valueAt,qCD,e']
   rw [zGe e,b];exact h2
  ·have e':¬q.1=k:=fun z=>e (h1.trans z);have b:valueAt (q::qs) k=valueAt qs k:=by simp [valueAt,qCD,e']
   rw [zGf e,b];exact ih
theorem KV.any {kvs:List (κ×V)} {vs:List (κ×Value)} (r:KV kvs vs) (k:κ):(kvs.any fun kv=>decide (kv.1=k))=vs.any fun kv=>decide (kv.1=k):=by
 unfold KV at r
 induction r with
 | nil=>rfl
 | cons h t ih=>rw [qCB,qCB,ih,h.1]
theorem KV.repl {kvs:List (κ×V)} {vs:List (κ×Value)} (r:KV kvs vs) (k:κ) (ry:RelV y u) :
  KV (kvs.map fun kv=>if kv.1=k then (kv.1,y) else kv) (vs.map fun kv=>if kv.1=k then (kv.1,u) else kv):=by
 unfold KV at r ⊢
 induction r with
 | nil=>exact .nil
 | @cons p q ps qs h t ih =>
  rw [qAk,qAk];refine .cons ?_ ih;obtain ⟨h1,h2⟩:=h
  by_cases e:p.1=k
  ·rw [qAC e,qAC (h1.symm.trans e)];exact ⟨h1,ry⟩
  ·rw [qAB e,qAB (fun z=>e (h1.trans z))];exact ⟨h1,h2⟩
theorem KV.put {kvs:List (κ×V)} {vs:List (κ×Value)} (r:KV kvs vs) (k:κ) (ry:RelV y u):KV (putK kvs k y) (stored vs k u):=by
 unfold putK stored;rw [r.any k]
 by_cases e:(vs.any fun kv=>decide (kv.1=k))=true
 ·rw [qAC e,qAC e];exact r.repl k ry
 ·rw [qAB e,qAB e];exact Paired.snoc r ⟨rfl,ry⟩
theorem KV.length {kvs:List (κ×V)} {vs:List (κ×Value)} (r:KV kvs vs):kvs.length=vs.length:=qB3 r
end
theorem kV_is {k:Key} (r:RelV (kV k) u):(zAt P w).is k u=true:=by
 cases k with
 | inl i=>obtain ⟨t,e⟩:=(show∃t,u=Value.int i t from r);subst e;exact mixKind_int P w i t
 | inr x=>obtain ⟨t,e⟩:=(show∃t,u=Value.str x t from r);subst e;exact mixKind_str P w x t
theorem items_are :∀{ks:List Key} {us:List Value},Vals (ks.map kV) us->ItemsAre (zAt P w) ks us
 | [],_,r=>by rw [qCZ] at r;cases r;exact .nil
 | k::ks,_,r=>by
  rw [qAk] at r
  cases r with
  | cons h t=>exact .cons (kV_is h) (items_are t)
abbrev KT (H:Hp):List (List Key×V)->List (List Key×Addr×Value)->Prop:=Paired fun p q=>p.1=q.1/\H q.2.1=some (.tup (p.1.map kV))/\RelV p.2 q.2.2
theorem KT.val {kvs:List (List Key×V)} {xs:List (List Key×Addr×Value)} (r:KT H kvs xs) (k:List Key):RelO (valV kvs k) ((atKey xs k).map (·.2)):=by
 induction r with
 | nil=>exact True.intro
 | @cons p q ps qs h t ih =>
  obtain ⟨h1,_,h2⟩:=h
  by_cases e:p.1=k
  ·have e':q.1=k:=h1.symm.trans e;have b:atKey (q::qs) k=some q.2:=by simp [atKey,qCD,e']
   rw [zGe e,b];exact h2
  ·have e':¬q.1=k:=fun z=>e (h1.trans z);have b:atKey (q::qs) k=atKey qs k:=by simp [atKey,qCD,e']
   rw [zGf e,b];exact ih
theorem KT.repl {kvs:List (List Key×V)} {xs:List (List Key×Addr×Value)} (r:KT H kvs xs) (k:List Key) (ry:RelV y u) :
  KT H (kvs.map fun kv=>if kv.1=k then (kv.1,y) else kv) (xs.map (putAt k u)):=by
 induction r with
 | nil=>exact .nil
 | @cons p q ps qs h t ih =>
  rw [qAk,qAk];refine .cons ?_ ih;obtain ⟨h1,h2,h3⟩:=h;unfold putAt
  by_cases e:p.1=k
  ·rw [qAC e,qAC (h1.symm.trans e)];exact ⟨h1,h2,ry⟩
  ·rw [qAB e,qAB (fun z=>e (h1.trans z))];exact ⟨h1,h2,h3⟩
theorem KT.put {kvs:List (List Key×V)} {xs:List (List Key×Addr×Value)} (r:KT H kvs xs) (k:List Key) {b:Addr} (hb:H b=some (.tup (k.map kV))) (ry:RelV y u) :
  KT H (putK kvs k y) (storedH xs k b u):=by
 have e:(kvs.any fun kv=>decide (kv.1=k))=(atKey xs k).isSome:=by
  rw [zGg,(r.val k).isSome_eq,Option.isSome_map]
 unfold putK storedH;rw [e]
 by_cases q:(atKey xs k).isSome=true
 ·rw [qAC q,qAC q];exact r.repl k ry
 ·rw [qAB q,qAB q];exact Paired.snoc r ⟨rfl,hb,ry⟩
theorem KT.keeps {kvs:List (List Key×V)} {xs:List (List Key×Addr×Value)} (r:KT H kvs xs) (ht:∀b ys,H b=some (.tup ys)->H' b=some (.tup ys)):KT H' kvs xs :=
 Paired.mapP r fun _ _ z=>⟨z.1,ht _ _ z.2.1,z.2.2⟩
section
variable {P:Program} {w:World} {H:Hp} {h:Heap} {a:Addr}
theorem rd_of {u:HO} (ok:HOk P w H h) (e:Rd H a u):zA7 P w H h a u:=e.ok ok
theorem dk_rd {kvs:List (Key×V)} (ok:HOk P w H h) (e:Rd H a (.dK kvs)):kvs.length<=sizeLine/\(a==sysModules)=false/\∃vs,KV kvs vs/\h.DictOf (zAt P w) a vs :=
 show zA7 P w H h a (.dK kvs) from rd_of ok e
theorem dk_of {kvs:List (Key×V)} (ok:HOk P w H h) (e:H a=some (.dK kvs)):kvs.length<=sizeLine/\(a==sysModules)=false/\∃vs,KV kvs vs/\h.DictOf (zAt P w) a vs:=dk_rd ok (.inl e)
theorem key_of {ks:List Key} (ok:HOk P w H h) (e:H a=some (.tup (ks.map kV))):(tupleKind (zAt P w)).is h ks a:=by
 obtain ⟨_,its,r,o,h1,h2,n,h3⟩:=(show zA7 P w H h a (.tup (ks.map kV)) from ok a _ e);exact ⟨o,its.toArray,n,h1,h2,h3,by simpa using items_are r⟩
theorem dt_rd {kvs:List (List Key×V)} (ok:HOk P w H h) (e:Rd H a (.dT kvs)):kvs.length<=sizeLine/\(a==sysModules)=false /\
  ∃xs,KT H kvs xs/\h.DictOfH (tupleKind (zAt P w)) a xs:=by
 obtain ⟨z,y,xs,r,o,es,ep,h1,h2,h3,h4,h5⟩:=(show zA7 P w H h a (.dT kvs) from rd_of ok e);refine ⟨z,y,xs,r,o,es,ep,h1,h2,h3,h4,fun x hx=>?_,h5⟩
 have all:∀{l:List (List Key×V)} {m:List (List Key×Addr×Value)},KT H l m->∀x∈m,(tupleKind (zAt P w)).is h x.1 x.2.1:=by
  intro l m q
  induction q with
  | nil=>intro x hx;exact nomatch hx
  | @cons p q ps qs hq t ih =>
   intro x hx;rcases qAP.mp hx with e| hx
   ·subst e;exact key_of ok (by rw [<-hq.1];exact hq.2.1)
   ·exact ih x hx
 exact all r x hx
theorem dt_of {kvs:List (List Key×V)} (ok:HOk P w H h) (e:H a=some (.dT kvs)):kvs.length<=sizeLine/\(a==sysModules)=false /\
  ∃xs,KT H kvs xs/\h.DictOfH (tupleKind (zAt P w)) a xs:=dt_rd ok (.inl e)
end
def DGet (H:Hp) (a:Addr) (y:V) (r:Option V):Prop :=
 (∃kvs k,Rd H a (.dK kvs)/\y=kV k/\r=valV kvs k)\/∃kvs k b,Rd H a (.dT kvs)/\y= .ref b/\H b=some (.tup (k.map kV))/\r=valV kvs k
def DPut (H:Hp) (a:Addr) (y v:V) (H':Hp):Prop :=
 (∃kvs k,H a=some (.dK kvs)/\y=kV k/\kvs.length<sizeLine/\H'=upd H a (.dK (putK kvs k v))) \/
 ∃kvs k b,H a=some (.dT kvs)/\y= .ref b/\H b=some (.tup (k.map kV))/\kvs.length<sizeLine/\H'=upd H a (.dT (putK kvs k v))
theorem DGet.k {kvs:List (Key×V)} {k:Key} (e:H a=some (.dK kvs)):DGet H a (kV k) (valV kvs k):=.inl ⟨kvs,k,.inl e,rfl,rfl⟩
theorem DPut.k {kvs:List (Key×V)} {k:Key} {v:V} (e:H a=some (.dK kvs)) (hl:kvs.length<sizeLine):DPut H a (kV k) v (upd H a (.dK (putK kvs k v))):=.inl ⟨kvs,k,e,rfl,hl,rfl⟩
section
variable {X:Cx} {pins:List (Addr×Obj)} {σ:St} {H:Hp} {s:Shared} {a:Addr} {y v:V} {u r:Value} {o:Option V} {A:Around} {E:Value->Shared->Prop}
theorem Inv.big (I:Inv X pins σ H s):sysModules<s.heap.objs.size:=by
 have h:mainGlobals<s.heap.objs.size:=(I.mod.glob.keeps I.bk).lt;exact qCa (by decide) h
theorem d_getItem {Q:Value->Shared->Prop} (hu:A.units+1<cLine) (I:Inv X pins σ H s) (g:DGet H a y (some v)) (ry:RelV y u) (h:∀w' s',Inv X pins σ H s'->RelV v w'->Q w' s') :
  wpAny (model X.prog X.w) A (getItem (.ref a) u) Q E s:=by
 rcases g with ⟨kvs,k,e,ey,l⟩| ⟨kvs,k,b,e,ey,eb,l⟩
 ·subst ey;obtain ⟨z,hd,vs,rel,dd⟩:=dk_rd I.hok e;obtain ⟨w',hw,rw'⟩:=RelO.some_of (v:=v) (o:=valueAt vs k) (by rw [l];exact rel.val k);exact wpAny_getItem_of (kV_is ry) dd.mapOf hw (h w' _ (I.tok _) rw')
 ·subst ey
  cases (show u=Value.ref b from ry)
  obtain ⟨z,hd,xs,rel,dd⟩:=dt_rd I.hok e;obtain ⟨w',hw,rw'⟩:=RelO.some_of (v:=v) (o:=(atKey xs k).map (·.2)) (by rw [l];exact rel.val k);obtain ⟨p,hp,hp2⟩:=qBC.mp hw;refine wpAny_getItem_heap (qC2 hu) (key_of I.hok eb) dd hp ?_;rw [hp2];exact h w' _ (I.tok _) rw'
theorem d_in {Q:Value->Shared->Prop} (hu:A.units+1<cLine) (I:Inv X pins σ H s) (g:DGet H a y o) (ry:RelV y u) (h:∀s',Inv X pins σ H s'->Q (.bool o.isSome) s') :
  wpAny (model X.prog X.w) A (compareOp .In u (.ref a)) Q E s:=by
 rcases g with ⟨kvs,k,e,ey,l⟩| ⟨kvs,k,b,e,ey,eb,l⟩
 ·subst ey;obtain ⟨z,hd,vs,rel,dd⟩:=dk_rd I.hok e;refine wpAny_in_of (kV_is ry) hd dd.mapOf ?_;rw [<-(rel.val k).isSome_eq,<-l];exact h _ (I.tok _)
 ·subst ey
  cases (show u=Value.ref b from ry)
  obtain ⟨z,hd,xs,rel,dd⟩:=dt_rd I.hok e;refine wpAny_in_heap (qC2 hu) (key_of I.hok eb) hd dd ?_;have q:=(rel.val k).isSome_eq;rw [Option.isSome_map] at q;rw [<-q,<-l];exact h _ (I.tok _)
theorem d_notIn {Q:Value->Shared->Prop} (hu:A.units+1<cLine) (I:Inv X pins σ H s) (g:DGet H a y o) (ry:RelV y u) (h:∀s',Inv X pins σ H s'->Q (.bool (!o.isSome)) s') :
  wpAny (model X.prog X.w) A (compareOp .NotIn u (.ref a)) Q E s:=by
 rcases g with ⟨kvs,k,e,ey,l⟩| ⟨kvs,k,b,e,ey,eb,l⟩
 ·subst ey;obtain ⟨z,hd,vs,rel,dd⟩:=dk_rd I.hok e;refine wpAny_notIn_of (kV_is ry) hd dd.mapOf ?_;rw [<-(rel.val k).isSome_eq,<-l];exact h _ (I.tok _)
 ·subst ey
  cases (show u=Value.ref b from ry)
  obtain ⟨z,hd,xs,rel,dd⟩:=dt_rd I.hok e;refine wpAny_notIn_heap (qC2 hu) (key_of I.hok eb) hd dd ?_;have q:=(rel.val k).isSome_eq;rw [Option.isSome_map] at q;rw [<-q,<-l];exact h _ (I.tok _)
theorem d_write {h':Heap} {t':Nat} {ob:HO} (I:Inv X pins σ H s) (mu:Mut (H a)) (hs:Heap.SameBut a s.heap h') (he:∃q,h'.get? a=some q) (new:zA7 X.prog X.w (upd H a ob) h' a ob) :
  Inv X pins σ (upd H a ob) {s with heap:=h',toks:=t'} :=
 I.write (x:=a) (e:=a) mu (.inl rfl) (fun b q hb z=>(hs.2 b hb).trans z) he new
theorem dk_new {h':Heap} {kvs:List (Key×V)} {vs:List (Key×Value)} (z:kvs.length<=sizeLine) (hd:(a==sysModules)=false) (rel:KV kvs vs) (dd:h'.DictOf (zAt P w) a vs) :
  zA7 P w H' h' a (.dK kvs):=⟨z,hd,vs,rel,dd⟩
theorem d_setItem {Q:Unit->Shared->Prop} (hu:A.units+1<cLine) (I:Inv X pins σ H s) (g:DPut H a y v H') (ry:RelV y u) (rv:RelV v r) (h:∀s',Inv X pins σ H' s'->Q () s') :
  wpAny (model X.prog X.w) A (setItem (.ref a) u r) Q E s:=by
 rcases g with ⟨kvs,k,e,ey,l,eH⟩| ⟨kvs,k,b,e,ey,eb,l,eH⟩
 ·subst ey eH;obtain ⟨z,hd,vs,rel,dd⟩:=dk_of I.hok e;have hz:vs.length<=sizeLine:=by rw [<-rel.length];exact z
  have hl:(putK kvs k v).length<=sizeLine:=by have:=zDn kvs k v;lia
  refine wpAny_setItem_pairs (hsz:=hz) (kV_is ry) dd fun h' dd' hs=>h _ ?_;have he:∃q,h'.get? a=some q:=let ⟨q,_,_,hq,_⟩:=dd';⟨q,hq⟩;exact d_write I (by rw [e];exact True.intro) hs he (dk_new hl hd (rel.put k rv) dd')
 ·subst ey eH
  cases (show u=Value.ref b from ry)
  obtain ⟨z,hd,xs,rel,dd⟩:=dt_of I.hok e;have hz:xs.length<=sizeLine:=by rw [<-qB3 rel];exact z
  have hl:(putK kvs k v).length<=sizeLine:=by have:=zDn kvs k v;lia
  refine wpAny_setItem_heap (hsz:=hz) (qC2 hu) (key_of I.hok eb) dd fun h' dd' hs=>h _ ?_;obtain ⟨q,es,ep,hq,h2,h3,h4,_,h5⟩:=dd';refine d_write I (by rw [e];exact True.intro) hs ⟨q,hq⟩ ⟨hl,hd,_,(rel.put k eb rv).keeps fun c ys ec=>?_,q,es,ep,hq,h2,h3,h4,h5⟩;rw [upd_ne (zBq ec e (fun z=>nomatch z))];exact ec
end
section
variable {X:Cx} {pins:List (Addr×Obj)} {σ:St} {H:Hp} {s:Shared} {a:Addr} {kvs:List (Key×V)} {k:Key} {u:Value} {A:Around} {E:Value->Shared->Prop}
theorem d_len {Q:Value->Shared->Prop} (I:Inv X pins σ H s) (e:Rd H a (.dK kvs)) (h:∀t s',Inv X pins σ H s'->Q (.int kvs.length t) s'):wpAny (model X.prog X.w) A (call (.builtin "len") [.ref a]) Q E s:=by
 obtain ⟨z,hd,vs,rel,dd⟩:=dk_rd I.hok e;refine call_len_dict hd dd (by rw [<-rel.length];rw [qAJ] at z;lia) ?_;rw [<-rel.length];exact h _ _ (I.tok _)
end
def NoSl (i:Expr):Prop:=∀ov iv,subscripted i false ov iv=operate [ov,iv] (getItem ov iv)
theorem subD_of {prog:Program} {A:Around} {E:Value->Shared->Prop} {s:Shared} {env:Env} {value slice:Expr} {pos:Pos} {T id:String} {Q:Value->Shared->Prop}
  (hl:typeLookup (.type T) "__getitem__" = pure (some (.builtin id))) (hs:NoSl slice)
  (h:wpAny (model prog w) A (eval value env) (fun o s₁=>wpAny (model prog w) A (eval slice env) (fun i s₂=>s₂.TypeIs o T/\wpAny (model prog w) A (getItem o i) Q E s₂) E s₁) E s) :
  wpAny (model prog w) A (eval (.Subscript value slice pos) env) Q E s:=by
 refine Subscript_ (qAw h (fun o s₁ h₁=>qAw h₁ (fun i s₂ h₂=>?_) fun _ _ x=>x) fun _ _ x=>x);obtain ⟨hT,h₂⟩:=h₂;unfold subscriptTail;refine qAA ?_;rw [getitemInPython_of_ne hT.not_modules];refine qAA (wpAny_specialOf hT hl ?_)
 have fin:wpAny (model prog w) A (subscripted slice false o i) (fun r s₃=>wpAny (model prog w) A (letTemporaryGo value o r >>= fun _=>pure r) Q E s₃) E s₂:=by
  rw [hs o i];exact wpAny_operating (qAw h₂ (fun r s₃ h₃=>qAA (wpAny_letTemporaryGo (qAE h₃))) fun _ _ x=>x)
 first
  | exact qAE (qAA fin)
  | exact qAA (qAE (qAA fin))
  | exact qAA fin
theorem dict_typeIs {pins:List (Addr×Obj)} {σ:St} {s:Shared} {o:Option V} (I:Inv X pins σ H s) (g:DGet H a y o):s.TypeIs (.ref a) "dict" := by
 rcases g with ⟨kvs,k,e,_,_⟩| ⟨kvs,k,b,e,_,_,_⟩
 ·obtain ⟨_,_,vs,_,dd⟩:=dk_rd I.hok e;exact dd.typeIs
 ·obtain ⟨_,_,xs,_,dd⟩:=dt_rd I.hok e;exact dd.typeIs
def tDGet (td ty:TE):TE:=fun σ H Q=>td σ H fun x H1=>ty σ H1 fun y H2=>∃a v,x= .ref a/\DGet H2 a y (some v)/\Q v H2
def tDIn (ty td:TE):TE:=fun σ H Q=>ty σ H fun y H1=>td σ H1 fun x H2=>∃a o,x= .ref a/\DGet H2 a y o/\Q (.bl o.isSome) H2
def tDNotIn (ty td:TE):TE:=fun σ H Q=>ty σ H fun y H1=>td σ H1 fun x H2=>∃a o,x= .ref a/\DGet H2 a y o/\Q (.bl (!o.isSome)) H2
def sDPut (td ty tv:TE):TS:=fun D σ H=>tv σ H fun v H1=>td σ H1 fun x H2=>ty σ H2 fun y H3=>∃a H4,x= .ref a/\DPut H3 a y v H4/\D.nx σ H4
section
variable {X:Cx} {o i e value:Expr} {pos pos' tpos:Pos} {td ty tv:TE}
theorem zAz (hu:X.A.units+1<cLine) (ho:PE X o td) (hi:PE X i ty) (hs:NoSl i):PE X (.Subscript o i pos) (tDGet td ty):=by
 intro pins s σ H Q I h;refine subD_of PySem.F.slot_dict_getitem.lookup hs (thn (ho pins s σ H _ I h) fun u s1 ⟨x,H1,I1,rx,q1⟩=>thn (hi pins s1 σ H1 _ I1 q1) fun iv s2 ⟨y,H2,I2,ry,a,v,ex,g,q2⟩=>?_);subst ex;obtain rfl:u=Value.ref a:=rx;exact ⟨dict_typeIs I2 g,d_getItem hu I2 g ry fun w' s3 I3 rw'=>⟨v,H2,I3,rw',q2⟩⟩
theorem zIc (hu:X.A.units+1<cLine) (hi:PE X i ty) (ho:PE X o td):PC X .In i o (tDIn ty td):=by
 intro pins s σ H Q I h;refine thn (hi pins s σ H _ I h) fun iv s1 ⟨y,H1,I1,ry,q1⟩=>thn (ho pins s1 σ H1 _ I1 q1) fun u s2 ⟨x,H2,I2,rx,a,ov,ex,g,q2⟩=>?_;subst ex;obtain rfl:u=Value.ref a:=rx;exact d_in hu I2 g ry fun s3 I3=>⟨.bl ov.isSome,H2,I3,rfl,q2⟩
theorem zCp (hu:X.A.units+1<cLine) (hi:PE X i ty) (ho:PE X o td):PC X .NotIn i o (tDNotIn ty td):=by
 intro pins s σ H Q I h;refine thn (hi pins s σ H _ I h) fun iv s1 ⟨y,H1,I1,ry,q1⟩=>thn (ho pins s1 σ H1 _ I1 q1) fun u s2 ⟨x,H2,I2,rx,a,ov,ex,g,q2⟩=>?_;subst ex;obtain rfl:u=Value.ref a:=rx;exact d_notIn hu I2 g ry fun s3 I3=>⟨.bl (!ov.isSome),H2,I3,rfl,q2⟩
theorem zCd (hu:X.A.units+1<cLine) (ho:PE X o td) (hi:PE X i ty) (hv:PE X value tv) (hs:swapsWith value (some (.Subscript o i pos')) pos.line X.env=pure false) :
  PS X (.Assign [.Subscript o i pos'] value pos) (sDPut td ty tv):=by
 intro pins s σ H D I h;refine wpAny_Assign_Subscript (thn (hv pins s σ H _ I h) fun r s1 ⟨v,H1,I1,rv,q1⟩=>thn (ho pins s1 σ H1 _ I1 q1) fun u s2 ⟨x,H2,I2,rx,q2⟩=>thn (hi pins s2 σ H2 _ I2 q2) fun iv s3 ⟨y,H3,I3,ry,a,H4,ex,g,q3⟩=>?_) hs;subst ex;obtain rfl:u=Value.ref a:=rx;exact d_setItem hu I3 g ry rv fun s4 I4=>⟨σ,H4,I4,q3⟩
end
theorem dk_empty (h:Heap) (hb:sysModules<h.objs.size):zA7 P w H (h.push {cls:=.type "dict",data:=.dict #[]}) h.objs.size (.dK []) :=
 ⟨qAj _,qBE.mpr (qAu (qAS hb)),[],.nil,Heap.DictOf.new h⟩
def tDNewK:TE:=fun _ H Q=>∀p,H p=none->Q (.ref p) (upd H p (.dK []))
section
variable {X:Cx} {pos:Pos}
theorem zBw:PE X (.Dict [] [] pos) tDNewK:=fun pins s σ H Q I h =>
 wpAny_Dict_empty ⟨.ref s.heap.objs.size,_,I.laid (a:=s.heap.objs.size) (o:=.dK []) (t':=s.toks) (fun _ _ q=>qAL _ q) (qAG _) (dk_empty s.heap I.big),rfl,h _ (I.hok.fresh (qAG _))⟩
end
def tPairs:List (TE×TE)->St->Hp->(List (V×V)->Hp->Prop)->Prop
 | [],_,H,Q=>Q [] H
 | (tk,tv)::r,σ,H,Q=>tk σ H fun x H1=>tv σ H1 fun y H2=>tPairs r σ H2 fun ps H3=>Q ((x,y)::ps) H3
abbrev VV:List (V×V)->List (Value×Value)->Prop:=Paired fun p q=>RelV p.1 q.1/\RelV p.2 q.2
def PPs (X:Cx) (pos:Pos) (keys:List (Option Expr)) (values:List Expr) (trs:List (TE×TE)):Prop :=
 ∀(pins:List (Addr×Obj)) (s:Shared) (σ:St) (H:Hp) (Q:List (V×V)->Hp->Prop),Inv X pins σ H s->tPairs trs σ H Q ->
  wpAny (model X.prog X.w) X.A (evalPairs (pairTrees keys values X.env pos)) (fun vs s'=>∃ps H',Inv X pins σ H' s'/\VV ps vs/\Q ps H') X.xe s
theorem pps_nil {pos:Pos}:PPs X pos [] [] []:=fun pins s σ H Q I h=>pairTrees_nil_walk ⟨[],H,I,.nil,h⟩
theorem pps_cons {pos:Pos} {k v:Expr} {ks:List (Option Expr)} {vs:List Expr} {tk tv:TE} {trs:List (TE×TE)} (hk:PE X k tk) (hv:PE X v tv) (hr:PPs X pos ks vs trs) :
  PPs X pos (some k::ks) (v::vs) ((tk,tv)::trs):=fun pins s σ H Q I h =>
 pairTrees_cons_walk (thn (hk pins s σ H _ I h) fun u s1 ⟨x,H1,I1,rx,q1⟩=>thn (hv pins s1 σ H1 _ I1 q1) fun w2 s2 ⟨y,H2,I2,ry,q2⟩ =>
  thn (hr pins s2 σ H2 _ I2 q2) fun ws s3 ⟨ps,H3,I3,rel,q3⟩=>⟨(x,y)::ps,H3,I3,.cons ⟨rx,ry⟩ rel,q3⟩)
def zD2 (kvs more:List (Key×V)):List (Key×V):=more.foldl (fun acc kv=>putK acc kv.1 kv.2) kvs
theorem KV.merge:∀{more:List (Key×V)} {rs:List (Key×Value)} {kvs:List (Key×V)} {vs:List (Key×Value)},KV more rs->KV kvs vs->KV (zD2 kvs more) (merged vs rs):=by
 intro more rs kvs vs r;unfold KV at r
 induction r generalizing kvs vs with
 | nil=>intro q;exact q
 | @cons p q ps qs h t ih =>
  intro r0
  have e:KV (putK kvs p.1 p.2) (stored vs q.1 q.2):=by
   have:=r0.put p.1 h.2;rw [<-h.1];exact this
  exact ih e
theorem zFb:∀(more kvs:List (Key×V)),(zD2 kvs more).length<=kvs.length+more.length
 | [],kvs=>by show kvs.length<=kvs.length+0;lia
 | p::r,kvs=>by
  have h1:=zFb r (putK kvs p.1 p.2);have h2:=zDn kvs p.1 p.2;show (zD2 (putK kvs p.1 p.2) r).length<=_;rw [qAb];lia
theorem zIj {P:Program} {w:World}:∀{kvs:List (Key×V)} {ws:List (Value×Value)},VV (kvs.map fun kv=>(kV kv.1,kv.2)) ws->∃rs,Carries (zAt P w) ws rs/\KV kvs rs
 | [],_,r=>by rw [qCZ] at r;cases r;exact ⟨[],True.intro,.nil⟩
 | p::kvs,_,r=>by
  rw [qAk] at r
  cases r with
  | @cons a b as bs h t =>
   obtain ⟨rs,c,q⟩:=zIj (P:=P) (w:=w) t;obtain ⟨b1,b2⟩:=b;exact ⟨(p.1,b2)::rs,⟨kV_is h.1,rfl,c⟩,.cons ⟨rfl,h.2⟩ q⟩
def tDisp (trs:List (TE×TE)):TE:=fun σ H Q=>∀p,H p=none->tPairs trs σ (upd H p (.dK [])) fun ps H2=>H2 p=some (.dK [])/\∃kvs:List (Key×V),ps=kvs.map (fun kv=>(kV kv.1,kv.2))/\kvs.length<=15/\Q (.ref p) (upd H2 p (.dK (zD2 [] kvs)))
theorem pe_disp {pos:Pos} {keys:List (Option Expr)} {values:List Expr} {trs:List (TE×TE)} (h:PPs X pos keys values trs) (hall:keys.all (·.isSome)=true) (hl:keys.length=values.length) (h0:keys≠[])
  (h15:keys.length<=15):PE X (.Dict keys values pos) (tDisp trs):=by
 intro pins s σ H Q I q;have hn:=I.hok.fresh (qAG s.heap.objs.size);have I1:=I.laid (a:=s.heap.objs.size) (o:=.dK []) (h':=s.heap.push {cls:=.type "dict",data:=.dict #[]}) (t':=s.toks) (fun _ _ q=>qAL _ q) (qAG _) (dk_empty s.heap I.big);refine wpAny_Dict_walk (knd:=zAt X.prog X.w) hall hl h0 h15 (thn (h pins _ σ _ _ I1 (q _ hn)) fun ws s2 ⟨ps,H2,I2,rel,e,kvs,ep,lk,q2⟩=>?_);subst ep;obtain ⟨rs,c,rk⟩:=zIj (P:=X.prog) (w:=X.w) rel;obtain ⟨z,hd,vs0,r0,dd⟩:=dk_of I2.hok e
 cases r0
 refine ⟨rs,c,dd,fun h' dd' hs=>⟨.ref s.heap.objs.size,_,?_,rfl,q2⟩⟩
 have hz:(zD2 [] kvs).length<=sizeLine:=by
  have h1:=zFb kvs [];rw [qBH] at h1;rw [qAJ];lia
 have he:∃q,h'.get? s.heap.objs.size=some q:=let ⟨q,_,_,hq,_⟩:=dd';⟨q,hq⟩;exact d_write I2 (by rw [e];exact True.intro) hs he (dk_new hz hd (rk.merge .nil) dd')
section
variable {X:Cx}
theorem call_lenD:zDt X (.builtin "len") (fun xs H Q=>∃a kvs,xs=[V.ref a]/\H a=some (.dK kvs)/\Q (.int kvs.length) H):=by
 intro pins s σ H xs us Q I r h;obtain ⟨a,kvs,rfl,ha,q⟩:=h;obtain ⟨u,rfl,ru⟩:=vals1 r
 cases ru
 exact d_len I (.inl ha) fun t s' I'=>⟨.int kvs.length,H,I',⟨t,rfl⟩,q⟩
end
end L2
set_option maxHeartbeats 4000000
namespace L2
open PySem PySem.Spec PyProof.Rows
variable {env:Env}{scope:Scope}{x:Str}{c:Addr}{X:Cx}{elt iter tg:Expr}{ifs:List Expr}{g:TG}{tt:TT}{te:TE}{wi:TI}{n:Nat}
def clOf (env:Env):List (Str×NameKind)->List (Str×Addr)->List (Str×Addr)
 | [],cs=>cs
 | (n,k)::r,cs=>if (k==NameKind.free)=true then (match env.cells.lookup n with| some c=>clOf env r ((n,c)::cs)| none=>clOf env r cs) else clOf env r cs
theorem zD7 {env:Env}:∀(l:List (Str×NameKind)) (cs:List (Str×Addr)),(∀x∈l,x.2= .free->∃c,env.cells.lookup x.1=some c) ->
  (forIn l cs (fun (x:Str×NameKind) (cs:List (Str×Addr))=>match x with
   | (name,kind)=>if (kind==NameKind.free)=true then (do let c<-cellOf env name;pure (ForInStep.yield ((name,c)::cs))) else pure (ForInStep.yield cs)):Sem (List (Str×Addr)))=pure (clOf env l cs)
 | [],_,_=>rfl
 | (n,k)::r,cs,h=>by
  rw [List.forIn_cons];have hr:∀x∈r,x.2= .free->∃c,env.cells.lookup x.1=some c:=fun x hx=>h x (qAT _ hx)
  by_cases hk:(k==NameKind.free)=true
  ·obtain ⟨c,hc⟩:=h (n,k) qAa (by simpa using hk)
   have e1:clOf env ((n,k)::r) cs=clOf env r ((n,c)::cs):=by
    show (if (k==NameKind.free)=true then _ else _)=_;rw [qAC hk];have hc:env.cells.lookup n=some c:=hc;rw [hc]
   have e2:cellOf env n=pure c:=by
    have hc:env.cells.lookup n=some c:=hc;unfold cellOf;rw [hc]
   rw [e1,<-zD7 r ((n,c)::cs) hr];show (if (k==NameKind.free)=true then (do let c<-cellOf env n;pure (ForInStep.yield ((n,c)::cs))) else pure (ForInStep.yield cs)) >>= _=_;rw [qAC hk,e2,pure_bind,pure_bind]
  ·have e1:clOf env ((n,k)::r) cs=clOf env r cs:=by
    show (if (k==NameKind.free)=true then _ else _)=_;rw [qAB hk]
   rw [e1,<-zD7 r cs hr];show (if (k==NameKind.free)=true then (do let c<-cellOf env n;pure (ForInStep.yield ((n,c)::cs))) else pure (ForInStep.yield cs)) >>= _=_;rw [qAB hk,pure_bind]
theorem zJi (h:∀x∈scope.names,x.2= .free->∃c,env.cells.lookup x.1=some c):closureFor scope env=pure (clOf env scope.names []):=by
 unfold closureFor;have e:=zD7 (env:=env) scope.names [] h
 first
  | exact e
  | (refine Eq.trans ?_ e;rfl)
  | (rw [bind_pure];exact e)
  | simpa using e
theorem zEf :∀{l:List (Str×NameKind)} {cs:List (Str×Addr)},(∀y d,cs.lookup y=some d->env.cells.lookup y=some d)->(clOf env l cs).lookup x=some c->env.cells.lookup x=some c
 | [],cs,h,e=>h x c e
 | (n,k)::r,cs,h,e=>by
  unfold clOf at e
  by_cases hk:(k==NameKind.free)=true
  ·rw [qAC hk] at e
   cases q:env.cells.lookup n with
   | none=>rw [q] at e;exact zEf h e
   | some d =>
    rw [q] at e;refine zEf (fun y z hy=>?_) e;rw [qBI] at hy
    cases hyn:y==n with
    | true =>
     rw [hyn] at hy;have:y=n:=by simpa using hyn
     subst this;rw [q];exact hy
    | false=>rw [hyn] at hy;exact h y z hy
  ·rw [qAB hk] at e;exact zEf h e
theorem zEg (hx:env.cells.lookup x=some c):∀{l:List (Str×NameKind)} {cs:List (Str×Addr)},cs.lookup x=some c->(clOf env l cs).lookup x=some c
 | [],_,h=>h
 | (n,k)::r,cs,h=>by
  unfold clOf
  by_cases hk:(k==NameKind.free)=true
  ·rw [qAC hk]
   cases q:env.cells.lookup n with
   | none=>exact zEg hx h
   | some d =>
    refine zEg hx ?_;rw [qBI]
    cases hxn:x==n with
    | true =>
     have:x=n:=by simpa using hxn
     subst this;rw [<-q,hx]
    | false=>exact h
  ·rw [qAB hk];exact zEg hx h
theorem zFg (hx:env.cells.lookup x=some c):∀{l:List (Str×NameKind)} {cs:List (Str×Addr)},(x,NameKind.free)∈l->(clOf env l cs).lookup x=some c
 | [],_,h=>nomatch h
 | (n,k)::r,cs,h=>by
  unfold clOf;rcases qAP.mp h with e| h
  ·cases e
   rw [qAC (show (NameKind.free==NameKind.free)=true by decide),hx];exact zEg hx (by rw [qBI];simp)
  ·by_cases hk:(k==NameKind.free)=true
   ·rw [qAC hk]
    cases q:env.cells.lookup n with
    | none=>exact zFg hx h
    | some d=>exact zFg hx h
   ·rw [qAB hk];exact zFg hx h
theorem zDp :∀{l:List (Str×NameKind)} {n:Nat} {acc:List (Str×Addr)},(∀y∈l,y.2= .cell->y.1≠x)->(cellsFrom n l acc).lookup x=acc.lookup x
 | [],_,_,_=>rfl
 | (y,k)::r,n,acc,h=>by
  have hr:∀z∈r,z.2= .cell->z.1≠x:=fun z hz=>h z (qAT _ hz);unfold cellsFrom;split
  ·rename_i hk;rw [zDp hr,qBI]
   have:(x==y)=false:=by
    have:=h (y,k) qAa (by simpa using hk);exact qBE.mpr (fun z=>this z.symm)
   rw [this]
  ·exact zDp hr
theorem zCc :∀{l:List (Str×NameKind)} {n:Nat} {acc:List (Str×Addr)},(cellsFrom n l acc).lookup x=some c->acc.lookup x=some c\/(n<=c/\(x,NameKind.cell)∈l)
 | [],_,_,h=>.inl h
 | (y,k)::r,n,acc,h=>by
  unfold cellsFrom at h;split at h
  ·rename_i hk;have hk':k= .cell:=by simpa using hk
   rcases zCc h with z| ⟨z1,z2⟩
   ·rw [qBI] at z
    cases hx:x==y with
    | true =>
     rw [hx] at z;have e:n=c:=qAZ z;have e2:x=y:=by simpa using hx
     subst e2;subst hk';exact .inr ⟨qB6 e,qAa⟩
    | false=>rw [hx] at z;exact .inl z
   ·exact .inr ⟨qAY (qB9 _) z1,qAT _ z2⟩
  ·rcases zCc h with z| ⟨z1,z2⟩
   ·exact .inl z
   ·exact .inr ⟨z1,qAT _ z2⟩
theorem zDq:∀{l:List (Str×NameKind)} {n:Nat} {acc:List (Str×Addr)},(∀x y c,acc.lookup x=some c->acc.lookup y=some c->x=y)->(∀z d,acc.lookup z=some d->d<n)->∀x y c,(cellsFrom n l acc).lookup x=some c->(cellsFrom n l acc).lookup y=some c->x=y
 | [],_,_,p,_=>p
 | (w,k)::r,n,acc,p,lt=>by
  unfold cellsFrom;split
  ·refine zDq (l:=r) (n:=n+1) (acc:=(w,n)::acc) (fun x y c h1 h2=>?_) (fun z d h=>?_)
   ·rw [qBI] at h1 h2
    cases hx:x==w with
    | true =>
     rw [hx] at h1;have e1:n=c:=qAZ h1
     cases hy:y==w with
     | true=>exact (by simpa using hx:x=w).trans (by simpa using hy:y=w).symm
     | false =>
      rw [hy] at h2;have:=lt y c h2;rw [<-e1] at this;exact absurd this (qAx _)
    | false =>
     rw [hx] at h1
     cases hy:y==w with
     | true =>
      rw [hy] at h2;have e2:n=c:=qAZ h2;have:=lt x c h1;rw [<-e2] at this;exact absurd this (qAx _)
     | false=>rw [hy] at h2;exact p x y c h1 h2
   ·rw [qBI] at h
    cases hz:z==w with
    | true =>
     rw [hz] at h;have e:n=d:=qAZ h;rw [<-e];exact qBs _
    | false =>
     rw [hz] at h;exact qBu (lt z d h)
  ·exact zDq p lt
theorem zC6 :∀{l:List (Str×NameKind)} {h:Heap} {acc:List (Str×Addr)},(∀y d,acc.lookup y=some d->∃v,h.IsCell d v)->(cellsFrom h.objs.size l acc).lookup x=some c->∃v,(pushCells h l).IsCell c v
 | [],_,_,hA,e=>hA x c e
 | (y,k)::r,h,acc,hA,e=>by
  unfold cellsFrom at e;unfold pushCells;split at e
  ·rename_i hk;rw [qAC hk];have hs:(h.push {cls:=.type "cell",data:=.cell none}:Heap).objs.size=h.objs.size+1:=qBg ..;rw [<-hs] at e;refine zC6 (fun z d hz=>?_) e;rw [qBI] at hz
   cases hzy:z==y with
   | true =>
    rw [hzy] at hz;have e:h.objs.size=d:=qAZ hz;subst e;exact ⟨none,_,qAh _ rfl,rfl⟩
   | false =>
    rw [hzy] at hz;obtain ⟨v,o,ho,hd⟩:=hA z d hz;exact ⟨v,o,qAL _ ho,hd⟩
  ·rename_i hk;rw [qAB hk];exact zC6 hA e
theorem zEs {M:Model} {A:Around} {E:Value->Shared->Prop} {s:Shared} {globals:Addr} {cl:List (Str×Addr)} {qual:Str} {outer:Env} {Q:Env->Shared->Prop}
  (h:Q (newEnv scope s.heap.objs.size globals (cellsFrom (s.heap.objs.size+1) scope.names cl) qual none .none (some outer) builtinsNs) {s with heap:=pushCells (s.heap.push {cls:=.type "dict",data:=.dict #[]}) scope.names}) :
  wpAny M A (newFunctionEnv scope globals cl [] qual none .none (some outer)) Q E s:=by
 simp only [newFunctionEnv,Option.isSome_some,if_true];refine qAA (wpAny_alloc ?_);refine qAA (wpAny_layCells _ (fun name kind cells=>by cases hkc:kind==NameKind.cell<;>simp [hkc]) _ _ _ _ ?_);rw [show ({s with heap:=s.heap.push {cls:=.type "dict",data:=.dict #[]}}:Shared).heap.objs.size=s.heap.objs.size+1 from qBg ..];rw [List.forIn_nil];exact qAA (qAE (qAE h))
theorem zFf :∀{l:List (Str×NameKind)} {cs:List (Str×Addr)},(∀y∈l,y.2= .free->y.1≠x)->(clOf env l cs).lookup x=cs.lookup x
 | [],_,_=>rfl
 | (n,k)::r,cs,h=>by
  have hr:∀z∈r,z.2= .free->z.1≠x:=fun z hz=>h z (qAT _ hz);unfold clOf
  by_cases hk:(k==NameKind.free)=true
  ·rw [qAC hk];have nx:(x==n)=false:=qBE.mpr fun z=>h (n,k) qAa (by simpa using hk) z.symm
   cases q:env.cells.lookup n with
   | none=>exact zFf hr
   | some d =>
    rw [show (clOf env r ((n,d)::cs)).lookup x=((n,d)::cs).lookup x from zFf hr,qBI,nx]
  ·rw [qAB hk];exact zFf hr
def Cx.block (X:Cx) (scope:Scope) (C:Addr) (s₀:Shared) (H₀:Hp) (ex:List Addr) (N:List Str):Cx where
 prog:=X.prog
 w:=X.w
 K:=X.K
 mg:=X.mg
 base:=X.base
 A:=X.A
 N:=N
 s₀:=s₀
 H₀:=H₀
 env:=compEnvC scope (cellsFrom (C+1) scope.names (clOf X.env scope.names [])) C X.env
 outer:=X.stack
 stack:=X.stack
 ex:=ex
 fn:=fun x=>scope.names.lookup x==some .cell
 calm:=X.calm
 pn:=[]
 xe:=fun _ _=>False
structure BlkSc (X:Cx) (scope:Scope):Prop where
 kind:scope.kind= .function
 apart:∀y∈scope.names,∀z∈scope.names,y.2= .cell->z.2= .free->y.1≠z.1
 owns:∀y∈scope.names,y.2= .cell->scope.names.lookup y.1=some .cell
 free:∀y∈scope.names,y.2= .free->X.env.kindOf y.1=some .cell\/X.env.kindOf y.1=some .free
 locs:∀y∈scope.names,y.2= .local->scope.names.lookup y.1=some .local
theorem zCv {scope:Scope} {k:NameKind}:∀{l:List (Str×NameKind)}, 
  (l.map fun (n,k)=>if (k==NameKind.free&&env.scope.kind== .function&&env.kindOf n==some .cell) then (n,NameKind.cell) else (n,k)).lookup x=some k ->
  k= .cell\/k= .free->∃k',(x,k')∈l/\(k'= .cell\/k'= .free)
 | [],h,_=>by simp at h
 | (n,j)::r,h,hk=>by
  have h:List.lookup x ((if (j==NameKind.free&&env.scope.kind== .function&&env.kindOf n==some .cell)=true then (n,NameKind.cell) else (n,j))::(r.map fun (n,k)=>if (k==NameKind.free&&env.scope.kind== .function&&env.kindOf n==some .cell) then (n,NameKind.cell) else (n,k)))=some k:=h
  by_cases hc:(j==NameKind.free&&env.scope.kind== .function&&env.kindOf n==some .cell)=true
  ·rw [qAC hc,qBI] at h
   have hj:j= .free:=by
    simp only [qCX] at hc;simpa using hc.1.1
   cases hx:x==n with
   | true =>
    have:x=n:=by simpa using hx
    subst this;exact ⟨j,qAa,.inr hj⟩
   | false =>
    rw [hx] at h;obtain ⟨k',m,q⟩:=zCv (scope:=scope) h hk;exact ⟨k',qAT _ m,q⟩
  ·rw [qAB hc,qBI] at h
   cases hx:x==n with
   | true =>
    rw [hx] at h;have e:j=k:=qAZ h;have:x=n:=by simpa using hx
    subst this;exact ⟨j,qAa,by rw [e];exact hk⟩
   | false =>
    rw [hx] at h;obtain ⟨k',m,q⟩:=zCv (scope:=scope) h hk;exact ⟨k',qAT _ m,q⟩
inductive Draws (X:Cx) (scope:Scope):List Str->List (Option Nat)->Prop
 | nil:Draws X scope [] []
 | own {x:Str} {N:List Str} {ix:List (Option Nat)}:Draws X scope N ix->Draws X scope (x::N) (Option.none::ix)
 | tk {x:Str} {N:List Str} {ix:List (Option Nat)} {i:Nat} (hN:X.N[i]?=some x) (hv:Vis X.env.scope x) (hk:(relabel scope X.env).names.lookup x=some .cell\/(relabel scope X.env).names.lookup x=some .free) (hf:(x,NameKind.free)∈scope.names) :
   Draws X scope N ix->Draws X scope (x::N) (some i::ix)
def zC7 (σ:St) (ix:List (Option Nat)):St:=ix.map fun o=>o.bind fun i=>(σ[i]?).join
theorem Draws.len {N:List Str} {ix:List (Option Nat)} (D:Draws X scope N ix):ix.length=N.length:=by
 induction D with
 | nil=>rfl
 | own _ ih=>simp [ih]
 | tk _ _ _ _ _ ih=>simp [ih]
theorem Draws.get {N:List Str} {ix:List (Option Nat)} {σ:St} (D:Draws X scope N ix):∀(j:Nat) (x:Str) (v:V),N[j]?=some x->(zC7 σ ix)[j]?=some (some v) ->
  ∃(i:Nat),X.N[i]?=some x/\σ[i]?=some (some v)/\Vis X.env.scope x/\((relabel scope X.env).names.lookup x=some .cell\/(relabel scope X.env).names.lookup x=some .free)/\(x,NameKind.free)∈scope.names:=by
 induction D with
 | nil=>intro j x v h;simp at h
 | own d ih =>
  intro j x v h1 h2
  cases j with
  | zero=>simp [zC7] at h2
  | succ j=>exact ih j x v (by simpa using h1) (by simpa [zC7] using h2)
 | @tk y N ix i hN hv hk hf d ih =>
  intro j x v h1 h2
  cases j with
  | zero =>
   have e:y=x:=by simpa using h1
   subst e;refine ⟨i,hN,?_,hv,hk,hf⟩;have h2:((σ[i]?).join)=some v:=by simpa [zC7] using h2
   cases q:σ[i]? with
   | none=>rw [q] at h2;cases h2
   | some o=>rw [q] at h2;exact qAg some h2
  | succ j=>exact ih j x v (by simpa using h1) (by simpa [zC7] using h2)
section
variable {X:Cx} {pins:List (Addr×Obj)} {σ:St} {H:Hp} {s:Shared} {scope:Scope} {N:List Str} {ix:List (Option Nat)} {fp:List Addr}
theorem Inv.nostk (I:Inv X pins σ H s) {b:Addr} (h1:b≠X.env.locals) (h2:b∉X.fs):b∉frs X.stack:=fun z=>(qAP.mp (I.stkSub b z)).elim h1 h2
theorem Inv.blockStart {h':Heap} {tk:Nat} {m:Str->Option Value} (I:Inv X pins σ H s) (B:BlkSc X scope) (D:Draws X scope N ix) (hfp:∀b∈fp,FpOk X pins H b) (hfo:∀b∈fp,∃o,s.heap.get? b=some o)
  (hns:h'.Ns s.heap.objs.size m) (hk:∀b o,s.heap.get? b=some o->h'.get? b=some o) (hcl:∀x c,(cellsFrom (s.heap.objs.size+1) scope.names (clOf X.env scope.names [])).lookup x=some c->∃v,h'.IsCell c v) :
  Inv (X.block scope s.heap.objs.size s H fp N) (X.pn++pins) (zC7 σ ix) H {s with heap:=h',toks:=tk}:=by
 have sub:∀{x:Str} {c:Addr},(clOf X.env scope.names []).lookup x=some c->X.env.cells.lookup x=some c:=fun {x c} e=>zEf (fun y d z=>by simp at z) e
 have old:∀{x:Str} {c:Addr},(clOf X.env scope.names []).lookup x=some c->c<s.heap.objs.size:=fun {x c} e=>by
  obtain ⟨v,o,ho,_⟩:=I.cell x c (sub e);exact qAN ho
 have two:∀{x:Str} {c:Addr},(cellsFrom (s.heap.objs.size+1) scope.names (clOf X.env scope.names [])).lookup x=some c->X.env.cells.lookup x=some c\/s.heap.objs.size<c:=fun {x c} e=>by
  rcases zCc e with z| ⟨z,_⟩
  ·exact .inl (sub z)
  ·exact .inr z
 have own:∀{x:Str},(x,NameKind.free)∈scope.names->(cellsFrom (s.heap.objs.size+1) scope.names (clOf X.env scope.names [])).lookup x=(clOf X.env scope.names []).lookup x:=fun {x} hx=>zDp fun y hy e=>B.apart y hy _ hx e rfl
 have okB:(X.block scope s.heap.objs.size s H fp N).Ok:=by
  refine ⟨I.ok.mod,B.kind,I.ok.glob,I.ok.blt,qAG _,zDq (fun x y c h1 h2=>I.ok.inj x y c (sub h1) (sub h2)) (fun z d h=>qBu (old h)),fun x hx=>?_,(fun x c z e=>?_),I.ok.hd,I.ok.frames,.inl rfl,fun b hb=>⟨?_,fun x c e=>?_⟩,
   I.bs,qAY I.ok.bsz I.sz,fun b o e hb=>?_,fun b hb=>I.nostk (hfp b hb).2.1 (hfp b hb).2.2.1,I.stack,I.stkFree⟩
  ·have hx':(relabel scope X.env).names.lookup x=some .cell\/(relabel scope X.env).names.lookup x=some .free:=hx
   have key:∃k',(x,k')∈scope.names/\(k'= .cell\/k'= .free):=by
    rcases hx' with e| e
    ·exact zCv (scope:=scope) e (.inl rfl)
    ·exact zCv (scope:=scope) e (.inr rfl)
   obtain ⟨k',m1,q⟩:=key;rcases q with q| q
   ·subst q;exact Option.isSome_iff_exists.mp (qDT _ _ _ (.inl (B.owns _ m1 rfl)))
   ·subst q;obtain ⟨c,hc⟩:=I.ok.has x (B.free _ m1 rfl);exact ⟨c,(own m1).trans (zFg hc m1)⟩
  ·rcases zCc e with q| ⟨q,_⟩
   ·have z:scope.names.lookup x=some .cell:=by
     have z:(scope.names.lookup x==some NameKind.cell)=true:=z;simpa using z
    have hm:=qBh z;have:(x,NameKind.free)∈scope.names\/True:=.inr trivial
    exact absurd q (by
     rw [zFf (fun y hy e1 e2=>B.apart _ hm y hy rfl e1 e2.symm)];intro h;cases h)
   ·exact qB4 q
  ·obtain ⟨o,e⟩:=hfo b hb;exact qAS (qAN e)
  ·rcases two e with z| z
   ·exact (hfp b hb).2.2.2.2.1 x c z
   ·obtain ⟨o,e⟩:=hfo b hb;exact qBB (qCa (qAN e) z)
  ·rcases (hfp b hb).2.2.2.1 with z| z
   ·exact I.ok.noex b o e z
   ·exact absurd (qAp (qAN (I.ok.bs b o e).1) z) (qAx _)
 refine ⟨okB,rfl,I.bare,Un.kept hk,⟨m,hns,fun j x v h1 h2 h3=>?_⟩,fun x c e=>?_,I.hok.fresh (qAG _),fun x c e=>(two e).elim (fun z=>I.freeC x c z) (fun z=>I.hok.fresh (qB4 z)),fun p hp=>?_,I.hok.kept hk,?_⟩
 ·obtain ⟨i,e1,e2,vis,kd,fr⟩:=D.get j x v h1 h2;obtain ⟨m0,hn0,hl⟩:=I.loc;obtain ⟨u,r,l⟩:=hl i x v e1 e2 vis;refine ⟨u,r,?_⟩;rcases l with ⟨k,_⟩| ⟨_,c,hc,o,ho,hd⟩
  ·rcases B.free _ fr rfl with z| z
   ·have z:X.env.kindOf x=some .cell:=z;rw [k] at z;cases z
   ·have z:X.env.kindOf x=some .free:=z;rw [k] at z;cases z
  ·exact .inr ⟨kd,c,(own fr).trans (zFg hc fr),o,hk c o ho,hd⟩
 ·exact hcl x c e
 ·have hp':p∈X.pn++pins:=by simpa [Cx.block] using hp
  obtain ⟨e,n,ne,nf,d⟩:=I.pin p hp';exact ⟨hk _ _ e,n,qAS (qAN e),I.nostk ne nf,d⟩
 ·show (zC7 σ ix).length=N.length;unfold zC7;rw [qAD];exact D.len
end
def PTs (X:Cx) (ifs:List Expr) (t:TT):Prop :=
 ∀(pins:List (Addr×Obj)) (s:Shared) (σ:St) (H:Hp) (Q:Bool->Hp->Prop),Inv X pins σ H s->t σ H Q ->
  wpAny (model X.prog X.w) X.A (forIn ifs true fun c r=>if r=true then do let ok<-isTrue c X.env (eval c X.env);pure (ForInStep.yield ok) else pure (ForInStep.yield r)) (TP X pins σ Q) X.xe s
def tTrue:TT:=fun _ H Q=>Q true H
theorem zB4 :PTs X [] tTrue:=fun _ _ _ H _ I h=>wpAny_tests_nil ⟨H,I,h⟩
theorem zB6 {c:Expr} {t:TT} (h:PT X c t):PTs X [c] t:=fun pins s σ H Q I hw=>wpAny_tests_one (h pins s σ H Q I hw)
theorem comp_loop {prog:Program} {w:World} {A:Around} {R:Result->Shared->Prop} {s:Shared} {elt target iter:Expr} {ifs:List Expr} {scope:Scope} {pos:Pos} {it acc:Value} {env:Env} (I:Nat->Shared->Prop)
  (turn:∀n s,I n s->wpAny (model prog w) A (pyNext it) (fun r s₁=>match r with
   | none=>R (.ok .next) s₁
   | some v=>wpAny (model prog w) A (letOwnedTupleGo target it v) (fun _ s₁'=>wpAny (model prog w) A (assign target env v) (fun _ s₂ =>
     wpAny (model prog w) A (forIn ifs true fun c r=>if r=true then do let ok<-isTrue c env (eval c env);pure (ForInStep.yield ok) else pure (ForInStep.yield r)) (fun ok s₃ =>
      if ok=true then wpAny (model prog w) A (eval elt env) (fun x s₄ =>
       wpAny (model prog w) A (call (.builtin "list.append") [acc,x]) (fun _ s₅=>∃m,m<n/\I m s₅) (fun _ _=>False) s₄) (fun _ _=>False) s₃
      else∃m,m<n/\I m s₃) (fun _ _=>False) s₂) (fun _ _=>False) s₁') (fun _ _=>False) s₁) (fun _ _=>False) s)
  (n:Nat) (h:I n s) :
  codeAny (model prog w) A (.compLoop (.ListComp elt [⟨target,iter,ifs,0⟩] scope pos) 0 it acc env) R s:=by
 refine codeAny_loop rfl I (fun n s hI=>?_) n h;show wpAny _ A ((compTurn (.ListComp elt [⟨target,iter,ifs,0⟩] scope pos) 0 it acc env).onRaise (fun x=>do noteFrame x env;theTreesLotGoes x)) _ _ s;refine wpAny_noted ?_;rw [compTurn_list];refine qAA (qCS (qAA (qAw (turn n s hI) (fun r s₁ h₁=>?_) fun _ _ h'=>h'.elim)))
 cases r with
 | none=>exact qAE h₁
 | some v =>
  refine qAA (qAw h₁ (fun _ s₁' h₁'=>?_) fun _ _ h'=>h'.elim);refine qAA (qAw h₁' (fun _ s₂ h₂=>qAA (qAw h₂ (fun ok s₃ h₃=>?_) fun _ _ h'=>h'.elim)) fun _ _ h'=>h'.elim)
  cases ok with
  | false=>exact qAE ⟨rfl,h₃⟩
  | true =>
   exact qAA (qAA (qAw h₃ (fun x s₄ h₄=>qAA (qAw h₄ (fun _ s₅ h₅=>qAE (qAE ⟨rfl,h₅⟩)) fun _ _ h'=>h'.elim)) fun _ _ h'=>h'.elim))
def tComp (wi:TI) (ix:List (Option Nat)) (g:TG) (tt:TT) (te:TE):TE:=fun σ H Q=>wi σ H fun J H1=>∀D,H1 D=none->∃W:Nat->Nat->List V->St->Hp->Prop,
 (∃m,W 0 m [] (zC7 σ ix) (upd H1 D (.lst [])))/\∀i m ys τ H2,W i m ys τ H2 ->
  (J.stop i H2/\Q (.ref D) H2)\/(J.go i H2/\∃N:List V->St->Hp->Prop,(∀ys' τ' H',N ys' τ' H'->∃m',m'<m/\W (i+1) m' ys' τ' H')/\∀x H3,J.yld i H2 x H3->g x τ H3 fun τ' H4=>tt τ' H4 fun b H5 =>
   if b=true then te τ' H5 fun v H6=>H6 D=some (.lst ys)/\ys.length<sizeLine/\N (ys++[v]) τ' (upd H6 D (.lst (ys++[v])))
   else N ys τ' H5)
theorem block_loop {Y:Cx} {pos:Pos} {J:It} {fp:List Addr} {it D:Addr} {tn:Nat->Heap->Prop} {P:List (Addr×Obj)} {W:Nat->Nat->List V->St->Hp->Prop} {m0:Nat}
  {R:Result->Shared->Prop} {QD:Hp->Prop} {s4:Shared} {τ0:St} {H4:Hp}
  (hc:Y.calm=true) (hx:∀e s,Y.xe e s->False) (hg:PG Y tg g) (ht:PTs Y ifs tt) (he:PE Y elt te) (T:Turn Y.prog Y.w Y.K tg J fp it tn)
  (stat:∀{H':Hp},(∀b∈fp,H' b=none)->∀b∈fp,FpOk Y P H' b)
  (turn:∀i m ys τ H2,W i m ys τ H2->(J.stop i H2/\QD H2)\/(J.go i H2/\∃N:List V->St->Hp->Prop,(∀ys' τ' H',N ys' τ' H'->∃m',m'<m/\W (i+1) m' ys' τ' H')/\∀x H3,J.yld i H2 x H3->g x τ H3 fun τ' H4=>tt τ' H4 fun b H5 =>
   if b=true then te τ' H5 fun v H6=>H6 D=some (.lst ys)/\ys.length<sizeLine/\N (ys++[v]) τ' (upd H6 D (.lst (ys++[v])))
   else N ys τ' H5))
  (fin:∀τ H' s',Inv Y P τ H' s'->QD H'->R (.ok .next) s')
  (I0:Inv Y P τ0 H4 s4) (t0:tn 0 s4.heap) (n0:∀b∈fp,H4 b=none) (w0:W 0 m0 [] τ0 H4) :
  codeAny (model Y.prog Y.w) Y.A (.compLoop (.ListComp elt [⟨tg,iter,ifs,0⟩] scope pos) 0 (.ref it) (.ref D) Y.env) R s4:=by
 have nx:∀{α:Type} {t:Sem α} {Q:α->Shared->Prop} {s:Shared},wpAny (model Y.prog Y.w) Y.A t Q Y.xe s->wpAny (model Y.prog Y.w) Y.A t Q (fun _ _=>False) s:=fun h=>qAw h (fun _ _ q=>q) hx;refine comp_loop (fun n s'=>∃i ys τ H',Inv Y P τ H' s'/\tn i s'.heap/\(∀b∈fp,H' b=none)/\W i n ys τ H') ?_ m0 ⟨0,[],τ0,H4,I0,t0,n0,w0⟩;rintro n s5 ⟨i,ys,τ,H5,I5,st5,fr5,w5⟩;rcases turn i n ys τ H5 w5 with ⟨stop,q⟩| ⟨go,N,hN,step⟩
 ·refine thn (T.done Y rfl rfl rfl hc i P s5 τ H5 _ I5 (stat fr5) st5 stop) fun r s6 ⟨hr,I6⟩=>?_;subst hr;exact fin τ H5 s6 I6 q
 ·refine thn (T.item Y rfl rfl rfl hc i P s5 τ H5 _ I5 (stat fr5) st5 go) fun r s6 ⟨u,hr,h6⟩=>?_;subst hr;refine thn h6 fun _ s7 ⟨x,H7,I7,r7,y7,st7,fr7⟩=>?_;have I7':=I7.pinned (stat fr7) (T.obj _ _ st7);refine nx (thn (hg _ s7 τ H7 x u _ I7' r7 (step x H7 y7)) fun _ s8 ⟨τ8,H8,I8,q8⟩=>?_);refine nx (thn (ht _ s8 τ8 H8 _ I8 q8) fun ok s9 ⟨H9,I9,q9⟩=>?_)
  have again:∀{ys':List V} {H':Hp} {s':Shared},Inv Y (P++pinsAt fp s7.heap) τ8 H' s'->(∃m',m'<n/\W (i+1) m' ys' τ8 H')->∃m,m<n/\∃i ys τ H',Inv Y P τ H' s'/\tn i s'.heap/\(∀b∈fp,H' b=none)/\W i m ys τ H':=fun {ys' H' s'} I' ⟨m',hm,w'⟩=>by
   refine ⟨m',hm,i+1,ys',τ8,H',I'.unpinned,T.keep _ _ _ st7 fun b hb o e=>(I'.pin (b,o) (qAq _ (qAq _ (zEe hb e)))).1,fun b hb=>?_,w'⟩;obtain ⟨o,e,d⟩:=T.obj _ _ st7 b hb;exact (I'.pin (b,o) (qAq _ (qAq _ (zEe hb e)))).2.1
  cases ok with
  | false =>
   rw [qAB qAl] at q9 ⊢;exact again I9 (hN _ _ _ q9)
  | true =>
   rw [qAC rfl] at q9 ⊢;refine nx (thn (he _ s9 τ8 H9 _ I9 q9) fun y s10 ⟨v,H10,I10,r10,hD,hz,w10⟩=>?_);refine nx (thn (zDe (X:=Y) _ s10 τ8 H10 (.ref D) [v] (.ref D) [y] (fun _ H'=>H'=upd H10 D (.lst (ys++[v]))) I10 rfl (.cons r10 .nil) ⟨D,ys,v,rfl,rfl,hD,hz,rfl⟩) fun _ s11 ⟨z,H11,I11,_,e11⟩=>?_);subst e11;exact again I11 (hN _ _ _ w10)
theorem run_comp {pos p1:Pos} {N:List Str} {ix:List (Option Nat)} {pins:List (Addr×Obj)} {s:Shared} {σ:St} {H:Hp} {Q:VK} {use:Option (Value->Sem Unit)}
  {Z:Value->Shared->Prop}
  (hc:X.calm=true) (B:BlkSc X scope) (Dr:Draws X scope N ix) (hi:PI X tg iter wi)
  (hg:∀C s₀ H₀ ex,PG (X.block scope C s₀ H₀ ex N) tg g) (ht:∀C s₀ H₀ ex,PTs (X.block scope C s₀ H₀ ex N) ifs tt) (he:∀C s₀ H₀ ex,PE (X.block scope C s₀ H₀ ex N) elt te)
  (hs:∀x,foldedSetIterable iter X.env x=pure x)
  (I:Inv X pins σ H s) (h:tComp wi ix g tt te σ H Q)
  (fin:∀(D C:Addr) (H':Hp) (s':Shared) (m:Str->Option Value),Inv X pins σ H' s'->Q (.ref D) H'->s'.heap.Ns C m->(∀h',Heap.SameBut C s'.heap h'->Inv X pins σ H' {s' with heap:=h'})->C≠X.env.locals->(∀x c,X.env.cells.lookup x=some c->c≠C)->H' C=none ->
   (∀p∈X.pn++pins,p.1≠C)->X.s₀.heap.objs.size<=C->compPost (model X.prog X.w) X.A X.xe use Z (.ref D) C (.ok .next) s') :
  wpAny (model X.prog X.w) X.A (comprehension (.ListComp elt [⟨tg,iter,ifs,0⟩] scope pos) scope X.env p1 (newList []) false (eval iter X.env) use) Z X.xe s:=by
 have hfree:∀x∈scope.names,x.2= .free->∃c,X.env.cells.lookup x.1=some c:=fun x hx e=>I.ok.has _ (B.free x hx e);refine wpAny_comprehension_free (use:=use) rfl hs (zJi hfree) B.kind B.locs ?_;refine thn (hi pins s σ H _ I h) fun v s1 h1=>thn h1 fun itv s2 h2=>?_;obtain ⟨it,fp,tn,J,H2,e,I2,T,st2,f2,R⟩:=h2;subst e;have hDf:H2 s2.heap.objs.size=none:=I2.hok.fresh (qAG _);obtain ⟨W,⟨m0,w0⟩,turn⟩:=R _ hDf;refine qCE ?_ (by show (0:Nat)<=sizeLine;exact qAj _);have I3:Inv X pins σ (upd H2 s2.heap.objs.size (.lst [])) {s2 with heap:=s2.heap.push {cls:=.type "list",data:=.seq ([]:List Value).toArray}}:=I2.lnew (t':=s2.toks) (ys:=[]) (its:=[]) .nil (qAj _);generalize hD:s2.heap.objs.size=D at *
 have fpo:∀b∈fp,∃o,s2.heap.get? b=some o:=fun b hb=>let ⟨o,q,_⟩:=T.obj _ _ st2 b hb;⟨o,q⟩
 have fpD:∀b∈fp,b≠D:=fun b hb=>by
  obtain ⟨o,q⟩:=fpo b hb;rw [<-hD];exact qAS (qAN q)
 have f3:∀b∈fp,FpOk X pins (upd H2 D (.lst [])) b:=fun b hb=>⟨by rw [upd_ne (fpD b hb)];exact (f2 b hb).1,(f2 b hb).2⟩;generalize hs3:({s2 with heap:=s2.heap.push {cls:=.type "list",data:=.seq ([]:List Value).toArray}}:Shared)=s3 at I3 ⊢;have k23:∀b o,s2.heap.get? b=some o->s3.heap.get? b=some o:=fun b o q=>by rw [<-hs3];exact qAL _ q
 have fpo3:∀b∈fp,∃o,s3.heap.get? b=some o:=fun b hb=>let ⟨o,q⟩:=fpo b hb;⟨o,k23 b o q⟩;have st3:tn 0 s3.heap:=T.keep _ _ _ st2 fun b hb o q=>k23 b o q;refine zEs ?_;have k34:∀b o,s3.heap.get? b=some o->(pushCells (s3.heap.push {cls:=.type "dict",data:=.dict #[]}) scope.names).get? b=some o:=fun b o q=>pushCells_keeps _ _ b o (qAL _ q);have hns4:(pushCells (s3.heap.push {cls:=.type "dict",data:=.dict #[]}) scope.names).Ns s3.heap.objs.size (fun _=>none):=(Heap.Ns.new s3.heap (.type "dict")).keeps (pushCells_keeps _ _)
 have hcl4:∀x c,(cellsFrom (s3.heap.objs.size+1) scope.names (clOf X.env scope.names [])).lookup x=some c->∃v,(pushCells (s3.heap.push {cls:=.type "dict",data:=.dict #[]}) scope.names).IsCell c v:=fun x c e=>by
  refine zC6 (h:=s3.heap.push {cls:=.type "dict",data:=.dict #[]}) (acc:=clOf X.env scope.names []) (fun y d hy=>?_) (by rw [qBg];exact e);obtain ⟨v,o,ho,hd⟩:=I3.cell y d (zEf (fun y d z=>by simp at z) hy);exact ⟨v,o,qAL _ ho,hd⟩
 have IB:=I3.blockStart (tk:=s3.toks) B Dr f3 fpo3 hns4 k34 hcl4;generalize hh4:pushCells (s3.heap.push {cls:=.type "dict",data:=.dict #[]}) scope.names=h4 at *
 generalize hC:s3.heap.objs.size=C at *
 have hCX:X.s₀.heap.objs.size<=C:=by rw [<-hC];exact I3.sz
 have CL:C≠X.env.locals:=by rw [<-hC];exact qBB I3.lt
 have Cc:∀x c,X.env.cells.lookup x=some c->c≠C:=fun x c q=>by
  obtain ⟨v,o,ho,_⟩:=I3.cell x c q;rw [<-hC];exact qAS (qAN ho)
 have Cp:∀p∈X.pn++pins,p.1≠C:=fun p hp=>by
  rw [<-hC];exact qAS (qAN (I3.pin p hp).1)
 have fpC:∀b∈fp,b≠C:=fun b hb=>by
  obtain ⟨o,q⟩:=fpo3 b hb;rw [<-hC];exact qAS (qAN q)
 have stat:∀{H':Hp},(∀b∈fp,H' b=none)->∀b∈fp,FpOk (X.block scope C s3 (upd H2 D (.lst [])) fp N) (X.pn++pins) H' b:=fun {H'} hn b hb=>by
  obtain ⟨_,q1,q2,q3,q4,q5⟩:=f2 b hb;exact ⟨hn b hb,fpC b hb,I3.nostk q1 q2,.inl hb,fun x c e=>(zCc e).elim (fun z=>q4 x c (zEf (fun y d z=>by simp at z) z)) (fun z=>by obtain ⟨o,q⟩:=fpo3 b hb;have:=qAN q;rw [hC] at this;exact qBB (qAp (qBu this) z.1)),fun p hp=>q5 p (by simpa [Cx.block] using hp)⟩
 have st4:tn 0 h4:=T.keep _ _ _ st3 fun b hb o q=>k34 b o q;have n4:∀b∈fp,(upd H2 D (.lst [])) b=none:=fun b hb=>(f3 b hb).1
 have loop:=block_loop (Y:=X.block scope C s3 (upd H2 D (.lst [])) fp N) (iter:=iter) (pos:=pos) (scope:=scope) (D:=D) (R:=compPost (model X.prog X.w) X.A X.xe use Z (.ref D) C) hc (fun _ _ z=>z) (hg C s3 _ fp) (ht C s3 _ fp) (he C s3 _ fp) T stat turn
  (fun τ H' s' I' q=>by
   have I5:Inv X pins σ H' s':=I3.call' (ch:=fp) I'.os I'.base I'.hok I'.bare fun b hb=>by
    obtain ⟨_,q1,q2,q3,q4,q5⟩:=f2 b hb;exact ⟨q3,q1,q4,q5⟩
   obtain ⟨m,hn,_⟩:=I'.loc;have hC0:H' C=none:=I'.free;exact fin D C H' s' m I5 q hn (fun h'' hs''=>I5.turned (t':=s'.toks) (fun b o hb e=>hs''.extBut b o hb e) hC0 CL (.inr hCX) Cc Cp) CL Cc hC0 Cp hCX) IB st4 n4 w0
 exact codeAny_compStart_list loop (T.self _ 0 _ _ _ st4 loop)
theorem zA3 {pos:Pos} {N:List Str} {ix:List (Option Nat)} (hc:X.calm=true) (B:BlkSc X scope) (Dr:Draws X scope N ix) (hi:PI X tg iter wi)
  (hg:∀C s₀ H₀ ex,PG (X.block scope C s₀ H₀ ex N) tg g) (ht:∀C s₀ H₀ ex,PTs (X.block scope C s₀ H₀ ex N) ifs tt) (he:∀C s₀ H₀ ex,PE (X.block scope C s₀ H₀ ex N) elt te)
  (hs:∀x,foldedSetIterable iter X.env x=pure x:=by intro _;rfl):PE X (.ListComp elt [⟨tg,iter,ifs,0⟩] scope pos) (tComp wi ix g tt te):=by
 intro pins s σ H Q I h;rw [eval_ListComp];exact run_comp (use:=none) hc B Dr hi hg ht he hs I h fun D C H' s' m I' q hn k _ _ _ _ _=>⟨m,hn,fun h' hs'=>⟨.ref D,H',k h' hs',rfl,q⟩⟩
theorem zFq {pos spos py:Pos} {N:List Str} {ix:List (Option Nat)} {i:Nat} {y:Str} (hc:X.calm=true) (B:BlkSc X scope) (Dr:Draws X scope N ix) (hi:PI X tg iter wi)
  (hg:∀C s₀ H₀ ex,PG (X.block scope C s₀ H₀ ex N) tg g) (ht:∀C s₀ H₀ ex,PTs (X.block scope C s₀ H₀ ex N) ifs tt) (he:∀C s₀ H₀ ex,PE (X.block scope C s₀ H₀ ex N) elt te)
  (hN:X.N.Nodup) (hy:X.N[i]?=some y) (hl:X.env.scope.names.lookup y=some .local)
  (hsw:swapsWith (.ListComp elt [⟨tg,iter,ifs,0⟩] scope pos) (some (.Name y py)) spos.line X.env=pure true:=by rfl)
  (hs:∀x,foldedSetIterable iter X.env x=pure x:=by intro _;rfl):PS X (.Assign [.Name y py] (.ListComp elt [⟨tg,iter,ifs,0⟩] scope pos) spos) (tAsg (tComp wi ix g tt te) (zH2 i)):=by
 intro pins s σ H Dn I h;rw [exec_Assign_Name_used _ _ _ _ hsw];refine qAA (qCS (qAA ?_));show wpAny _ X.A (do let _<-comprehension (.ListComp elt [⟨tg,iter,ifs,0⟩] scope pos) scope X.env _ (newList []) false (eval iter X.env) (some (assign (.Name y py) X.env))) _ _ s;refine qAA (thn (run_comp (use:=some (assign (.Name y py) X.env)) (Z:=fun _ s'=>SP X pins Dn .next s') hc B Dr hi hg ht he hs I h fun D C H' s' m I' q hn k CL Cc C0 Cp CX=>?_) fun _ s' hq=>qAE (qAE hq));show wpAny _ _ (assign (.Name y py) X.env (.ref D)) _ _ s';refine wpAny_assign_Name (store_ok2 I' hN hy (.inl hl) (v:=.ref D) rfl (fun s'' I'' ⟨a,sb,ha⟩=>?_) (.inr hl))
 have aC:C≠a:=by
  rcases ha with z| z
  ·rw [z];exact CL
  ·exact (Cc _ _ z).symm
 exact ⟨m,hn.sameBut sb aC,fun h' hs'=>⟨_,H',I''.turned (t':=s''.toks) (fun b o hb e=>hs'.extBut b o hb e) C0 CL (.inr CX) Cc Cp,q⟩⟩
theorem comp_by {J:It} {ix:List (Option Nat)} {Q:VK} {σ:St} {H1:Hp} {D:Addr} (xs:List V) (Pv:Nat->List V->St->Hp->Prop) (h0:Pv 0 [] (zC7 σ ix) (upd H1 D (.lst [])))
  (hJ:∀i ys τ H,Pv i ys τ H->(∀x,xs[i]?=some x->J.go i H/\∀y H',J.yld i H y H'->H'=H/\y=x)/\(i=xs.length->J.stop i H))
  (hs:∀i x ys τ H,xs[i]?=some x->Pv i ys τ H->g x τ H fun τ' H4=>tt τ' H4 fun b H5=>if b=true then te τ' H5 fun v H6=>H6 D=some (.lst ys)/\ys.length<sizeLine/\Pv (i+1) (ys++[v]) τ' (upd H6 D (.lst (ys++[v]))) else Pv (i+1) ys τ' H5)
  (hd:∀ys τ H,Pv xs.length ys τ H->Q (.ref D) H) :
  ∃W:Nat->Nat->List V->St->Hp->Prop,(∃m,W 0 m [] (zC7 σ ix) (upd H1 D (.lst [])))/\∀i m ys τ H2,W i m ys τ H2 ->
   (J.stop i H2/\Q (.ref D) H2)\/(J.go i H2/\∃N:List V->St->Hp->Prop,(∀ys' τ' H',N ys' τ' H'->∃m',m'<m/\W (i+1) m' ys' τ' H')/\∀x H3,J.yld i H2 x H3->g x τ H3 fun τ' H4=>tt τ' H4 fun b H5 =>
    if b=true then te τ' H5 fun v H6=>H6 D=some (.lst ys)/\ys.length<sizeLine/\N (ys++[v]) τ' (upd H6 D (.lst (ys++[v])))
    else N ys τ' H5):=by
 refine ⟨fun i m ys τ H=>m=xs.length - i/\i<=xs.length/\Pv i ys τ H,⟨xs.length,by simp,qAj _,h0⟩,?_⟩;rintro i m ys τ H ⟨rfl,hi,p⟩;obtain ⟨j1,j2⟩:=hJ i ys τ H p
 by_cases hlt:i<xs.length
 ·have hx:xs[i]?=some xs[i]:=by simp [hlt]
  obtain ⟨go,yl⟩:=j1 _ hx;refine .inr ⟨go,Pv (i+1),fun ys' τ' H' p'=>⟨xs.length - (i+1),by lia,rfl,hlt,p'⟩,fun y H' yd=>?_⟩;obtain ⟨e1,e2⟩:=yl y H' yd;subst e1 e2;exact hs i _ ys τ _ hx p
 ·have e:i=xs.length:=by lia
  subst e;exact .inl ⟨j2 rfl,hd ys τ H p⟩
def blkOk (scope sc:Scope):Bool:=(scope.kind== .function)&&(scope.names.all (fun y=>scope.names.all fun z=>y.2 != .cell||z.2 != .free||y.1 != z.1)&&scope.names.all (fun y=>y.2 != .cell||scope.names.lookup y.1==some .cell))&&scope.names.all (fun y=>y.2 != .free||sc.names.lookup y.1==some .cell||sc.names.lookup y.1==some .free)&&scope.names.all (fun y=>y.2 != .local||scope.names.lookup y.1==some .local)
theorem zA4 {scope sc:Scope} (hsc:X.env.scope=sc) (h:blkOk scope sc=true):BlkSc X scope:=by
 unfold blkOk at h;simp only [qCX,qBv,Bool.or_eq_true] at h;obtain ⟨⟨⟨h1,h2,h5⟩,h3⟩,h4⟩:=h;refine ⟨by simpa using h1,fun y hy z hz e1 e2=>?_,fun y hy e=>?_,fun y hy e=>?_,fun y hy e=>?_⟩
 ·rcases h2 y hy z hz with (q| q)| q
  ·rw [e1] at q;simp at q
  ·rw [e2] at q;simp at q
  ·simpa using q
 ·rcases h5 y hy with q| q
  ·rw [e] at q;simp at q
  ·simpa using q
 ·have q:=h3 y hy;show X.env.scope.names.lookup y.1=some .cell\/X.env.scope.names.lookup y.1=some .free;rw [hsc];rcases q with (q| q)| q
  ·rw [e] at q;simp at q
  ·exact .inl (by simpa using q)
  ·exact .inr (by simpa using q)
 ·have q:=h4 y hy;rcases q with q| q
  ·rw [e] at q;simp at q
  ·simpa using q
def relS (scope sc:Scope):Scope:={scope with names:=scope.names.map fun (n,k)=>if (k== .free&&sc.kind== .function&&sc.names.lookup n==some .cell) then (n,.cell) else (n,k)}
theorem blk_in {e0:Env} {outer scope sc:Scope} (hX:X.env.scope=relabel outer e0) (h0:e0.scope=sc) (h:blkOk scope (relS outer sc)=true):BlkSc X scope :=
 zA4 (sc:=relS outer sc) (by rw [hX];subst h0;rfl) h
def Its (z:Str):It:=⟨fun i _=>i<z.cps.size,fun i H x H'=>H'=H/\∃c,z.cps[i]?=some c/\x= .str ⟨#[c]⟩,fun i _=>z.cps.size<=i⟩
theorem turn_str {P:Program} {w:World} {K:PySem.W.Frag} (it:Addr) (z:Str) (t:Tok) (ty:String) (hty:ty= "str_ascii_iterator" \/ty= "str_iterator"):Turn P w K tg (Its z) [it] it (fun i h=>h.IsStrIter it ty z t i) where
 mem:=by simp
 obj:=fun i h st b hb=>by
  have e:b=it:=by simpa using hb
  subst e;obtain ⟨o,e,c,d⟩:=st;exact ⟨o,e,fun v z=>by rw [d] at z;cases z⟩
 keep:=fun i h h' st k=>by
  obtain ⟨o,e,c,d⟩:=st;exact ⟨o,k it (by simp) o e,c,d⟩
 item:=by
  intro X hP hw hK hc i pins s σ H E I hf st hg;subst hP hw hK;obtain ⟨f0,f1,f2,f3,f4,f5⟩:=hf it (by simp);have hlt:i<z.cps.size:=hg;have hx:z.cps[i]?=some z.cps[i]:=by simp [hlt]
  have fin:∀h':Heap,h'.IsStrIter it ty z t (i+1)->Heap.SameBut it s.heap h'->∃u,some (Value.str ⟨#[z.cps[i]]⟩ s.toks)=some u /\
    wpAny (model X.prog X.w) X.A (letOwnedTupleGo tg (.ref it) u) (fun _ s2=>∃x H',Inv X pins σ H' s2/\RelV x u/\(Its z).yld i H x H'/\s2.heap.IsStrIter it ty z t (i+1)/\∀b∈[it],H' b=none) E {s with heap:=h',toks:=s.toks+1}:=fun h' st' sb=>by
   have I1:Inv X pins σ H {s with heap:=h',toks:=s.toks+1}:=I.turned (t':=s.toks+1) (fun b o hb e=>(sb.2 b hb).trans e) f0 f1 f3 f4 f5;obtain ⟨o,e,c,d⟩:=id st';exact ⟨_,rfl,go_of (s:={s with heap:=h',toks:=s.toks+1}) e c d (by rcases hty with rfl| rfl<;>decide) ⟨.str ⟨#[z.cps[i]]⟩,H,I1,⟨_,rfl⟩,⟨rfl,_,hx,rfl⟩,st',fun b hb=>(hf b hb).1⟩⟩
  rcases hty with rfl| rfl
  ·exact wpAny_pyNext_ascii_item st hx fin
  ·exact wpAny_pyNext_wide_item st hx fin
 done:=by
  intro X hP hw hK hc i pins s σ H E I hf st hg;subst hP hw hK;obtain ⟨f0,f1,f2,f3,f4,f5⟩:=hf it (by simp);have hle:z.cps.size<=i:=hg;have hx:z.cps[i]?=none:=by simp [hle]
  have fin:∀h':Heap,Heap.ExtBut it s.heap h'->(none:Option Value)=none/\Inv X pins σ H {s with heap:=h'}:=fun h' eb=>⟨rfl,I.turned (t':=s.toks) (fun b o hb e=>eb b o hb e) f0 f1 f3 f4 f5⟩;rcases hty with rfl| rfl
  ·exact wpAny_pyNext_ascii_end (I.ok.hd hc) st hx fin
  ·exact wpAny_pyNext_wide_end (I.ok.hd hc) st hx fin
 self:=fun _ _ _ _ _ st h=>by
  rcases hty with rfl| rfl
  ·exact wpAny_pyIter_striter_ascii st h
  ·exact wpAny_pyIter_striter_wide st h
def iStr (tl:TE):TI:=fun σ H R=>tl σ H fun x H1=>∃z,x= .str z/\R (Its z) H1
theorem pi_str {l:Expr} {tl:TE} (hl:PE X l tl):PI X tg l (iStr tl):=by
 intro pins s σ H R I h;refine thn (hl pins s σ H _ I h) fun v s1 ⟨x,H1,I1,r1,q1⟩=>?_;obtain ⟨z,e,q⟩:=q1;subst e;obtain ⟨t,rfl⟩:=r1
 have fin:∀(ty:String),(ty= "str_ascii_iterator" \/ty= "str_iterator")->PIE X pins σ tg R (.ref s1.heap.objs.size) {s1 with heap:=s1.heap.push {cls:=.type ty,data:=.fields #[.str z t,.int 0 0]}}:=fun ty hty =>
  ⟨s1.heap.objs.size,[s1.heap.objs.size],_,_,H1,rfl,I1.kept (t':=s1.toks) fun b o e=>qAL _ e,turn_str _ z t ty hty,⟨_,qAh _ rfl,rfl,rfl⟩,fun b hb=>by
   have e:b=s1.heap.objs.size:=by simpa using hb
   subst e;exact I1.fpOk (qAG _) (I1.hok.fresh (qAG _)),q⟩
 cases ha:z.cps.all (·<128)
 ·exact wpAny_pyIter_wide ha (fin _ (.inr rfl))
 ·exact wpAny_pyIter_ascii ha (fin _ (.inl rfl))
theorem bls_get {bs:List Bool} {its:List Value} (r:Vals (bs.map V.bl) its) {i:Nat} {v:Value} (h:its[i]?=some v):v= .bool (bs.getD i false)/\i<bs.length:=by
 have hl:=r.length;rw [qAD] at hl;have hi:i<its.length:=(qAV.mp h).1;have hb:i<bs.length:=by lia
 have e:(bs.map V.bl)[i]?=some (V.bl bs[i]):=by simp [hb]
 obtain ⟨u,hu,ru⟩:=r.get e;rw [h] at hu
 cases hu
 refine ⟨?_,hb⟩;have:v= .bool bs[i]:=ru;rw [this,qBJ];simp [hb]
theorem all_range (bs:List Bool):(List.range bs.length).all (fun i=>bs.getD i false)=bs.all id:=by
 rw [qB5];simp only [qBv,qBF];constructor
 ·intro h x hx;obtain ⟨i,hi,rfl⟩:=qAt.mp hx;have:=h i hi;simpa [qBJ,hi] using this
 ·intro h i hi;have:=h bs[i] (qCb hi);simpa [qBJ,hi] using this
theorem zGs (X:Cx) (hc:X.calm=true):zDt X (.builtin "all") (fun xs H Q=>∃(p:Addr) (bs:List Bool),xs=[.ref p]/\SqL X.K H p (bs.map V.bl)/\Q (.bl (bs.all id)) H):=by
 intro pins s σ H xs us Q I rv h;obtain ⟨p,bs,rfl,hq,q⟩:=h;obtain ⟨u,rfl,ru⟩:=rv.one
 cases ru
 obtain ⟨its,r,pl,hz⟩:=I.list hq;have hl:=r.length;rw [qAD] at hl;refine call_all_walk (wpAny_pyIter_list pl.isList ?_);have hp:p<s.heap.objs.size:=by obtain ⟨o,n,e,_⟩:=pl;exact qAN e
 have I1:Inv X pins σ H {s with heap:=s.heap.push {cls:=.type "list_iterator",data:=.fields #[.ref p,.int 0 0]}}:=I.kept (t':=s.toks) fun b o e=>qAL _ e;refine ⟨s.heap.objs.size,_,_,_,_,_,fun i=>bs.getD i false,rfl,Walks.list (A:=X.A.in1) (show X.A.in1.handled=none from I.ok.hd hc) s.heap.objs.size p (qAS hp) its.toArray,⟨⟨_,qAh _ rfl,rfl,rfl⟩,pl.isList.at fun o e=>qAL _ e⟩,?_,fun h' tk hk=>?_⟩
 ·intro i v s' E' Q' hv hq';obtain ⟨rfl,_⟩:=bls_get r (by simpa using hv);exact qBG hq'
 ·have e:(List.range its.toArray.size).all (fun i=>bs.getD i false)=bs.all id:=by
   rw [qAO,<-hl];exact all_range bs
  refine ⟨.bl (bs.all id),H,?_,by rw [e];rfl,q⟩;obtain ⟨f0,f1,f2,f3,f4,f5⟩:=I.fpOk (b:=s.heap.objs.size) (qAG _) (I.hok.fresh (qAG _));exact I1.turned (t':=tk) (fun b o hb e=>hk b o (by simpa using hb) e) f0 f1 f3 f4 f5
theorem zCa :zDt X (.builtin "isinstance") (fun xs H Q=>∃x n t b,xs=[x,.ty n]/\TyOf X.K H x t/\PySem.W.kitOne X.K t (.type n)=some b/\Q (.bl b) H):=by
 intro pins s σ H xs us Q I rv h;obtain ⟨x,n,t,b,rfl,ty,e,q⟩:=h;obtain ⟨u,c,rfl,rx,rc⟩:=rv.two
 cases (show c=Value.type n from rc)
 exact isinst_ok I rx ty e fun tk=>⟨.bl b,H,I.tok tk,rfl,q⟩
theorem op_le_str :OpR X (compareOp .LtE) (fun x y H Q=>∃i j,x= .str i/\y= .str j/\Q (.bl (!(decide (j.cps.toList<i.cps.toList)))) H):=by
 intro pins s σ H x y v u Q I rx ry h;obtain ⟨i,j,rfl,rfl,q⟩:=h;obtain ⟨t,rfl⟩:=rx;obtain ⟨t',rfl⟩:=ry;exact PySem.P.le_str ⟨.bl _,H,I,rfl,q⟩
inductive Alike (K:PySem.W.Frag) (H:Hp):Nat->V->V->Prop
 | flat {n:Nat} {x:V} (fx:zFw x=true):Alike K H n x x
 | same {n:Nat} {a:Addr}:Alike K H n (.ref a) (.ref a)
 | lists {n:Nat} {a b:Addr} {xs ys:List V} (hx:SqL K H a xs) (hy:SqL K H b ys) (hl:xs.length=ys.length) (he:∀(i:Nat) (x y:V),xs[i]?=some x->ys[i]?=some y->Alike K H n x y):Alike K H (n+1) (.ref a) (.ref b)
 | tups {n:Nat} {a b:Addr} {xs ys:List V} (hx:SqT K H a xs) (hy:SqT K H b ys) (hl:xs.length=ys.length) (he:∀(i:Nat) (x y:V),xs[i]?=some x->ys[i]?=some y->Alike K H n x y):Alike K H (n+1) (.ref a) (.ref b)
theorem eqV_refl {x:V} (h:zFw x=true):eqV x x=true:=by
 cases x<;>simp [eqV]<;>simp [zFw] at h
section
variable {X:Cx} {pins:List (Addr×Obj)} {σ:St} {H:Hp} {s:Shared}
theorem zFj (n:Nat):(List.range n).all (fun _=>true)=true:=by simp
theorem zJl (I:Inv X pins σ H s) {x y:V} (h:Alike X.K H n x y):∀{u v:Value} {A:Around},RelV x u->RelV y v->A.units+n<cLine->SeqAt.EqAt A s u v true:=by
 induction h with
 | flat fx =>
  intro u v A ru rv _;have q:=eqAt_V (A:=A) (s:=s) ru rv fx fx
  rwa [eqV_refl fx] at q
 | same =>
  intro u v A ru rv _
  cases ru
  cases rv
  exact qCW _
 | @lists n a b xs ys hx hy hl he ih =>
  intro u v A ru rv hu
  cases ru
  cases rv
  by_cases ab:a=b
  ·subst ab;exact qCW _
  ·obtain ⟨its,r,pl,hz⟩:=I.list hx;obtain ⟨its2,r2,pl2,hz2⟩:=I.list hy;have e1:=r.length;have e2:=r2.length
   have q:=SeqAt.RcAt.lists (A:=A) (s:=s) (e:=fun _=>true) pl.isList pl2.isList (by rw [qAO,qAO];lia) (by lia) (fun j h1 h2=>by
    rw [qAO] at h1 h2;have hjx:xs[j]?=some (xs[j]'(by lia)):=by simp
    have hjy:ys[j]?=some (ys[j]'(by lia)):=by simp
    obtain ⟨u1,q1,ru1⟩:=r.get hjx;obtain ⟨v1,q2,rv1⟩:=r2.get hjy
    have e3:its.toArray[j]=u1:=by
     have:its[j]?=some its[j]:=by simp
     rw [this] at q1;simpa using q1
    have e4:its2.toArray[j]=v1:=by
     have:its2[j]?=some its2[j]:=by simp
     rw [this] at q2;simpa using q2
    rw [e3,e4];exact ih j _ _ hjx hjy ru1 rv1 (by show A.units+1+n<cLine;lia))
   rw [zFj] at q;exact SeqAt.EqAt.of_refs ab q
 | @tups n a b xs ys hx hy hl he ih =>
  intro u v A ru rv hu
  cases ru
  cases rv
  by_cases ab:a=b
  ·subst ab;exact qCW _
  ·obtain ⟨its,r,pl,hz⟩:=I.tuple hx;obtain ⟨its2,r2,pl2,hz2⟩:=I.tuple hy;have e1:=r.length;have e2:=r2.length
   have q:=SeqAt.RcAt.tuples (A:=A) (s:=s) (e:=fun _=>true) (show s.heap.IsTuple a its.toArray from pl) (show s.heap.IsTuple b its2.toArray from pl2) (by lia) (fun j h1 h2=>by
    rw [qAO] at h1 h2;have hjx:xs[j]?=some (xs[j]'(by lia)):=by simp
    have hjy:ys[j]?=some (ys[j]'(by lia)):=by simp
    obtain ⟨u1,q1,ru1⟩:=r.get hjx;obtain ⟨v1,q2,rv1⟩:=r2.get hjy
    have e3:its.toArray[j]=u1:=by
     have:its[j]?=some its[j]:=by simp
     rw [this] at q1;simpa using q1
    have e4:its2.toArray[j]=v1:=by
     have:its2[j]?=some its2[j]:=by simp
     rw [this] at q2;simpa using q2
    rw [e3,e4];exact ih j _ _ hjx hjy ru1 rv1 (by show A.units+1+n<cLine;lia))
   rw [zFj,Bool.true_and,qAO,qAO,<-e1,<-e2,hl,beq_self_eq_true] at q;exact SeqAt.EqAt.of_refs ab q
theorem zHq (I:Inv X pins σ H s) {xs ys:List V} {its its2:List Value} {A:Around} (r:Vals xs its) (r2:Vals ys its2) (he:∀(i:Nat) (x y:V),xs[i]?=some x->ys[i]?=some y->Alike X.K H n x y) (hu:A.units+n<cLine) :
  ∀j (h1:j<its.toArray.size) (h2:j<its2.toArray.size),SeqAt.EqAt A s its.toArray[j] its2.toArray[j] true:=fun j h1 h2=>by
 have e1:=r.length;have e2:=r2.length;rw [qAO] at h1 h2;have hjx:xs[j]?=some (xs[j]'(by lia)):=by simp
 have hjy:ys[j]?=some (ys[j]'(by lia)):=by simp
 obtain ⟨u1,q1,ru1⟩:=r.get hjx;obtain ⟨v1,q2,rv1⟩:=r2.get hjy
 have e3:its.toArray[j]=u1:=by
  have:its[j]?=some its[j]:=by simp
  rw [this] at q1;simpa using q1
 have e4:its2.toArray[j]=v1:=by
  have:its2[j]?=some its2[j]:=by simp
  rw [this] at q2;simpa using q2
 rw [e3,e4];exact zJl I (he j _ _ hjx hjy) ru1 rv1 hu
end
def zF3 (K:PySem.W.Frag) (n:Nat) (b:Bool):R2:=fun x y H Q=>∃a c xs ys,x= .ref a/\y= .ref c/\SqL K H a xs/\SqL K H c ys/\xs.length=ys.length/\(∀(i:Nat) (x y:V),xs[i]?=some x->ys[i]?=some y->Alike K H n x y)/\Q (.bl b) H
def zF2 (K:PySem.W.Frag) (b:Bool):R2:=fun x y H Q=>∃a c xs ys,x= .ref a/\y= .ref c/\SqL K H a xs/\SqL K H c ys/\xs.length≠ys.length/\Q (.bl b) H
section
variable {X:Cx}
theorem op_eqA {n:Nat} (hu:X.A.units+1+n<cLine):OpR X (compareOp .Eq) (zF3 X.K n true):=by
 intro pins s σ H x y v u Q I rx ry h;obtain ⟨a,c,xs,ys,rfl,rfl,hx,hy,hl,he,q⟩:=h
 cases rx
 cases ry
 obtain ⟨its,r,pl,hz⟩:=I.list hx;obtain ⟨its2,r2,pl2,hz2⟩:=I.list hy;have e1:=r.length;have e2:=r2.length;refine SeqAt.eq_listAt (e:=fun _=>true) pl.isList pl2.isList (by rw [qAO,qAO];lia) (by lia) (zHq I r r2 he (by show X.A.units+1+n<cLine;lia)) ?_;rw [zFj];exact ⟨.bl true,H,I,rfl,q⟩
theorem op_neA (hu:X.A.units+1+n<cLine):OpR X (compareOp .NotEq) (zF3 X.K n false):=by
 intro pins s σ H x y v u Q I rx ry h;obtain ⟨a,c,xs,ys,rfl,rfl,hx,hy,hl,he,q⟩:=h
 cases rx
 cases ry
 obtain ⟨its,r,pl,hz⟩:=I.list hx;obtain ⟨its2,r2,pl2,hz2⟩:=I.list hy;have e1:=r.length;have e2:=r2.length;refine SeqAt.RcNeAt.lists (e:=fun _=>true) pl.isList pl2.isList (by rw [qAO,qAO];lia) (by lia) (zHq I r r2 he (by show X.A.units+1+n<cLine;lia)) X.prog X.w X.xe _ ?_;rw [zFj];exact ⟨.bl false,H,I,rfl,q⟩
theorem op_eqU (hu:X.A.units<cLine):OpR X (compareOp .Eq) (zF2 X.K false):=by
 intro pins s σ H x y v u Q I rx ry h;obtain ⟨a,c,xs,ys,rfl,rfl,hx,hy,hl,q⟩:=h
 cases rx
 cases ry
 obtain ⟨its,r,pl,hz⟩:=I.list hx;obtain ⟨its2,r2,pl2,hz2⟩:=I.list hy;have e1:=r.length;have e2:=r2.length;exact SeqAt.eq_list_lengthsAt pl.isList pl2.isList (by rw [qAO,qAO];simp;lia) hu ⟨.bl false,H,I,rfl,q⟩
theorem OpR.either {f:Value->Value->Sem Value} {r r':R2} (h:OpR X f r) (h':OpR X f r'):OpR X f (fun x y H Q=>r x y H Q\/r' x y H Q):=by
 intro pins s σ H x y v u Q I rx ry q;rcases q with q| q
 ·exact h pins s σ H x y v u Q I rx ry q
 ·exact h' pins s σ H x y v u Q I rx ry q
end
end L2
namespace SM
open PySem PySem.StrLaws PySem.Builtin PySem.Builtin.Str
end SM
namespace L2
open PySem PySem.Spec PyProof.Rows
variable {M:List Addr}{H H1 H':Hp}{a D:Addr}{σ:St}{g:TG}{te:TE}
structure Cal (P:Program) (w:World) (K:PySem.W.Frag) (mg:Str->Option Value) (base:Heap) (x:Str) (k:Nat) (ps:List Str) (sp:Sp):Prop where
 to:∃(f:Addr) (fd:FuncData),mg x=some (.ref f)/\PySem.W.keepIn K (.ref f)=true/\zDu K fd ps []/\FnOk P w K mg base CX0 k f fd ps sp
theorem zAg {X:Cx} {x:Str} {k:Nat} {ps:List Str} {sp:Sp} {e:Expr} {es:List Expr} {p pos:Pos} {t:TA} (C:Cal X.prog X.w X.K X.mg X.base x k ps sp) (hr:Room k X.A) (hg:Gl X x) (ha:PA X (e::es) t)
  (hdb:(x==("__debug__" : Str))=false:=by decide) (he:starEach (e::es) X.env=(false,eval e X.env)::starEach es X.env:=by rfl) (hpl:(backTo pos (starEach es X.env)).any (·.1)=false:=by rfl) :
  PE X (.Call (.Name x p) (e::es) [] pos) (tCall sp [] E0 t):=by
 obtain ⟨f,fd,h1,h2,h3,h4⟩:=C.to;exact pe_call h4 hr hg h1 h2 h3 .nil pass0 ha hdb he hpl
theorem bo_max:bootBuiltins "max" = some (.builtin "max"):=by decide +kernel
theorem bo_min:bootBuiltins "min" = some (.builtin "min"):=by decide +kernel
theorem bo_all:bootBuiltins "all" = some (.builtin "all"):=by decide +kernel
theorem zAr:bootBuiltins "isinstance" = some (.builtin "isinstance"):=by decide +kernel
theorem zFh:bootBuiltins "sorted" = some (.builtin "sorted"):=by decide +kernel
theorem bo_sum:bootBuiltins "sum" = some (.builtin "sum"):=by decide +kernel
theorem zBt:bootBuiltins "len" = some (.builtin "len"):=by decide +kernel
theorem zHo:bootBuiltins "int" = some (.type "int"):=by decide +kernel
theorem bo_str:bootBuiltins "str" = some (.type "str"):=by decide +kernel
theorem zCr:bootBuiltins "list" = some (.type "list"):=by decide +kernel
theorem bo_tuple:bootBuiltins "tuple" = some (.type "tuple"):=by decide +kernel
theorem bo_set:bootBuiltins "set" = some (.type "set"):=by decide +kernel
theorem bo_bool:bootBuiltins "bool" = some (.type "bool"):=by decide +kernel
def Fre (H:Hp) (l:Addr):Prop:=H l=none
def Kp (M:List Addr) (H H':Hp):Prop:=∀b o,H b=some o->b∉M->H' b=some o
theorem Kp.refl :Kp M H H:=fun _ _ h _=>h
theorem Kp.trans {H2:Hp} (a:Kp M H H1) (b:Kp M H1 H2):Kp M H H2:=fun c o h n=>b c o (a c o h n) n
theorem Kp.weak {M':List Addr} (k:Kp M H H') (s:∀b,b∈M->b∈M'):Kp M' H H':=fun b o h n=>k b o h fun z=>n (s b z)
theorem Kp.new {M:List Addr} {l:Addr} {o:HO} (k:Kp M H H') (f:Fre H l):Kp M H (upd H' l o):=fun b u h n=>by
 rw [upd_ne (zA0 h f)];exact k b u h n
theorem Kp.put {l:Addr} {o:HO} (k:Kp M H H') (f:l∈M):Kp M H (upd H' l o):=fun b u h n=>by
 rw [upd_ne (by intro e;subst e;exact n f)];exact k b u h n
theorem Kp.fre {l:Addr} (k:Kp M H H') (f:Fre H' l) (n:l∉M):Fre H l:=by
 unfold Fre
 cases q:H l with
 | none=>rfl
 | some o =>
  have:=k l o q n;unfold Fre at f;rw [f] at this;cases this
theorem Kp.at0 (k:Kp [] H H'):Same H H':=fun b o h=>k b o h (by simp)
theorem Kp.seq {K:PySem.W.Frag} {xs:List V} (e:Kp [] H H') (h:SqL K H a xs):SqL K H' a xs:=e.at0.seq h
theorem ne_fre {b:Addr} {o:HO} (f:Fre H b) (h:H a=some o):a≠b:=zA0 h f
theorem nm1 {b:Addr} (h:a≠b):a∉[b]:=by simpa using h
theorem nm2 {b c:Addr} (h:a≠b) (h':a≠c):a∉[b,c]:=by simp;exact ⟨h,h'⟩
theorem zFi {α:Type} {xs:List α} {i:Int} {v:α} (h0:0<=i) (h:xs[i.toNat]?=some v):atI xs i=some v:=by
 have hl:i.toNat<xs.length:=(qAV.mp h).1;unfold atI ixN;rw [qAC h0,qAC (by lia)];exact h
theorem atI_natc {α:Type} {xs:List α} {n:Nat} {v:α} (h:xs[n]?=some v):atI xs (n:Int)=some v:=zFi (by lia) (by simpa using h)
theorem hu2 {A:Around} {k n:Nat} (hr:Room k A) (h:n<=60:=by decide):A.units+1+n<cLine:=by
 have:=hr.units;lia
theorem hu0 {A:Around} {k:Nat} (hr:Room k A):A.units<cLine:=by
 have:=hr.units;lia
theorem op_eqL {X:Cx} {k:Nat} (hr:Room k X.A):OpR X (compareOp .Eq) (fun x y H Q=>zF3 X.K 8 true x y H Q\/zF2 X.K false x y H Q):=(op_eqA (hu2 hr)).either (op_eqU (hu0 hr))
theorem zCx {K:PySem.W.Frag} {t:Value} (h:(t==t)=true:=by rfl):PySem.W.kitOne K t t=some true:=by
 unfold PySem.W.kitOne;rw [qAC h]
theorem seq_mid {t u:TS} {D:Ends} (Mid:St->Hp->Prop) (h1:∀N:St->Hp->Prop,(∀σ H,Mid σ H->N σ H)->t {D with nx:=N} σ H) (h2:∀σ H,Mid σ H->u D σ H):tSeq t u D σ H:=h1 (u D) h2
theorem if_mid {tb:TS} {D:Ends} {b:Bool} (Mid:St->Hp->Prop) (h1:∀N:St->Hp->Prop,(∀σ H,Mid σ H->N σ H)->if b=true then tb {D with nx:=N} σ H else N σ H) (h2:∀σ H,Mid σ H->D.nx σ H) :
  if b=true then tb D σ H else tNext D σ H:=h1 D.nx h2
theorem zBl {K:PySem.W.Frag} {ix:List (Option Nat)} {tt:TT} {QD:Hp->Prop} (xs:List V) (Pv:Nat->List V->St->Hp->Prop) (h0:Pv 0 [] (zC7 σ ix) (upd H1 D (.lst [])))
  (hl:∀i ys τ H,Pv i ys τ H->SqL K H a xs)
  (hs:∀i x ys τ H,xs[i]?=some x->Pv i ys τ H->g x τ H fun τ' H4=>tt τ' H4 fun b H5=>if b=true then te τ' H5 fun v H6=>H6 D=some (.lst ys)/\ys.length<sizeLine/\Pv (i+1) (ys++[v]) τ' (upd H6 D (.lst (ys++[v]))) else Pv (i+1) ys τ' H5)
  (hd:∀ys τ H,Pv xs.length ys τ H->QD H) :
  ∃W:Nat->Nat->List V->St->Hp->Prop,(∃m,W 0 m [] (zC7 σ ix) (upd H1 D (.lst [])))/\∀i m ys τ H2,W i m ys τ H2 ->
   ((Itl K a).stop i H2/\QD H2)\/((Itl K a).go i H2/\∃N:List V->St->Hp->Prop,(∀ys' τ' H',N ys' τ' H'->∃m',m'<m/\W (i+1) m' ys' τ' H')/\∀x H3,(Itl K a).yld i H2 x H3->g x τ H3 fun τ' H4=>tt τ' H4 fun b H5 =>
    if b=true then te τ' H5 fun v H6=>H6 D=some (.lst ys)/\ys.length<sizeLine/\N (ys++[v]) τ' (upd H6 D (.lst (ys++[v])))
    else N ys τ' H5):=by
 refine comp_by (Q:=fun _ H=>QD H) xs Pv h0 (fun i ys τ H p=>⟨fun x hx=>⟨⟨xs,x,hl i ys τ H p,hx⟩,fun y H' yl=>?_⟩,fun e=>⟨xs,hl i ys τ H p,by lia⟩⟩) hs hd;obtain ⟨e,z⟩:=yl;subst e;have:=z xs (hl i ys τ _ p);rw [hx] at this;exact ⟨rfl,(qAZ this).symm⟩
theorem comp_str {z:Str} {ix:List (Option Nat)} {tt:TT} {QD:Hp->Prop} (Pv:Nat->List V->St->Hp->Prop) (h0:Pv 0 [] (zC7 σ ix) (upd H1 D (.lst [])))
  (hs:∀i c ys τ H,z.cps.toList[i]?=some c->Pv i ys τ H->g (.str ⟨#[c]⟩) τ H fun τ' H4=>tt τ' H4 fun b H5=>if b=true then te τ' H5 fun v H6=>H6 D=some (.lst ys)/\ys.length<sizeLine/\Pv (i+1) (ys++[v]) τ' (upd H6 D (.lst (ys++[v]))) else Pv (i+1) ys τ' H5)
  (hd:∀ys τ H,Pv z.length ys τ H->QD H) :
  ∃W:Nat->Nat->List V->St->Hp->Prop,(∃m,W 0 m [] (zC7 σ ix) (upd H1 D (.lst [])))/\∀i m ys τ H2,W i m ys τ H2 ->
   ((Its z).stop i H2/\QD H2)\/((Its z).go i H2/\∃N:List V->St->Hp->Prop,(∀ys' τ' H',N ys' τ' H'->∃m',m'<m/\W (i+1) m' ys' τ' H')/\∀x H3,(Its z).yld i H2 x H3->g x τ H3 fun τ' H4=>tt τ' H4 fun b H5 =>
    if b=true then te τ' H5 fun v H6=>H6 D=some (.lst ys)/\ys.length<sizeLine/\N (ys++[v]) τ' (upd H6 D (.lst (ys++[v])))
    else N ys τ' H5):=by
 refine ⟨fun i m ys τ H=>m=z.length - i/\i<=z.length/\Pv i ys τ H,⟨z.length,by simp,qAj _,h0⟩,?_⟩;rintro i m ys τ H ⟨rfl,hi,p⟩
 by_cases hlt:i<z.length
 ·refine .inr ⟨hlt,Pv (i+1),fun ys' τ' H' p'=>⟨z.length - (i+1),by lia,rfl,hlt,p'⟩,fun y H' yd=>?_⟩;obtain ⟨e1,c,e2,e3⟩:=yd;subst e1 e3;exact hs i c ys τ _ (by simpa using e2) p
 ·have e:i=z.length:=by lia
  subst e;exact .inl ⟨qAG _,hd ys τ H p⟩
theorem zA1 {K:PySem.W.Frag} {ix:List (Option Nat)} {QD:Hp->Prop} (xs:List V) (Pv:Nat->List V->St->Hp->Prop) (h0:Pv 0 [] (zC7 σ ix) (upd H1 D (.lst [])))
  (hl:∀i ys τ H,Pv i ys τ H->SqL K H a xs)
  (hs:∀i x ys τ H,xs[i]?=some x->Pv i ys τ H->g x τ H fun τ' H4=>te τ' H4 fun v H6=>H6 D=some (.lst ys)/\ys.length<sizeLine/\Pv (i+1) (ys++[v]) τ' (upd H6 D (.lst (ys++[v]))))
  (hd:∀ys τ H,Pv xs.length ys τ H->QD H) :
  ∃W:Nat->Nat->List V->St->Hp->Prop,(∃m,W 0 m [] (zC7 σ ix) (upd H1 D (.lst [])))/\∀i m ys τ H2,W i m ys τ H2 ->
   ((Itl K a).stop i H2/\QD H2)\/((Itl K a).go i H2/\∃N:List V->St->Hp->Prop,(∀ys' τ' H',N ys' τ' H'->∃m',m'<m/\W (i+1) m' ys' τ' H')/\∀x H3,(Itl K a).yld i H2 x H3->g x τ H3 fun τ' H4=>tTrue τ' H4 fun b H5 =>
    if b=true then te τ' H5 fun v H6=>H6 D=some (.lst ys)/\ys.length<sizeLine/\N (ys++[v]) τ' (upd H6 D (.lst (ys++[v])))
    else N ys τ' H5):=zBl (tt:=tTrue) xs Pv h0 hl hs hd
theorem comp_str0 {z:Str} {ix:List (Option Nat)} {QD:Hp->Prop} (Pv:Nat->List V->St->Hp->Prop) (h0:Pv 0 [] (zC7 σ ix) (upd H1 D (.lst [])))
  (hs:∀i c ys τ H,z.cps.toList[i]?=some c->Pv i ys τ H->g (.str ⟨#[c]⟩) τ H fun τ' H4=>te τ' H4 fun v H6=>H6 D=some (.lst ys)/\ys.length<sizeLine/\Pv (i+1) (ys++[v]) τ' (upd H6 D (.lst (ys++[v]))))
  (hd:∀ys τ H,Pv z.length ys τ H->QD H) :
  ∃W:Nat->Nat->List V->St->Hp->Prop,(∃m,W 0 m [] (zC7 σ ix) (upd H1 D (.lst [])))/\∀i m ys τ H2,W i m ys τ H2 ->
   ((Its z).stop i H2/\QD H2)\/((Its z).go i H2/\∃N:List V->St->Hp->Prop,(∀ys' τ' H',N ys' τ' H'->∃m',m'<m/\W (i+1) m' ys' τ' H')/\∀x H3,(Its z).yld i H2 x H3->g x τ H3 fun τ' H4=>tTrue τ' H4 fun b H5 =>
    if b=true then te τ' H5 fun v H6=>H6 D=some (.lst ys)/\ys.length<sizeLine/\N (ys++[v]) τ' (upd H6 D (.lst (ys++[v])))
    else N ys τ' H5):=comp_str (tt:=tTrue) Pv h0 hs hd
section
variable {X:Cx} {K:PySem.W.Frag}
theorem zGr (hK:X.K=K:=by rfl):IxR X (rIxL K):=by subst hK;exact zBb
theorem ix_tupK (hK:X.K=K:=by rfl):IxR X (rIxT K):=by subst hK;exact zBk
theorem zDr (hK:X.K=K:=by rfl):zDt X (.type "list") (fun xs H Q=>∃p ys,xs=[.ref p]/\(SqL K H p ys\/SqT K H p ys)/\∀l,H l=none->Q (.ref l) (upd H l (.lst ys))):=by subst hK;exact zBm
theorem zDs (hK:X.K=K:=by rfl):zDt X (.builtin "len") (fun xs H Q=>∃p ys,xs=[.ref p]/\(SqL K H p ys\/SqT K H p ys)/\Q (.int ys.length) H):=by subst hK;exact zAm
theorem zI1 (hK:X.K=K:=by rfl):OpR X (compareOp .NotIn) (rIn K true):=by subst hK;exact zF4
theorem op_eqLK {k:Nat} (hr:Room k X.A) (hK:X.K=K:=by rfl):OpR X (compareOp .Eq) (fun x y H Q=>zF3 K 8 true x y H Q\/zF2 K false x y H Q):=by subst hK;exact op_eqL hr
end
theorem Kp.drop {H2:Hp} {p:Addr} (k1:Kp [] H H1) (f:Fre H p) (k2:Kp [p] H1 H2):Kp [] H H2:=fun b o h _=>k2 b o (k1 b o h (by simp)) (nm1 (ne_fre f h))
end L2
namespace Tim
open PySem PyProof.Rows
variable {p i j n hint g q m lo nrem:Nat}{st st3:SortSt}{x y:Keyed}{arr a:Array Keyed}{α:Type}
def gal:Bool->Keyed->Array Keyed->Nat->Nat->Nat->StateT SortSt Sem (Option Nat):=sortPriv% PySem.Builtin.gallop
def mLo:Array Keyed->Array Keyed->StateT SortSt Sem (Array Keyed):=sortPriv% PySem.Builtin.mergeLo
def mHi:Array Keyed->Array Keyed->StateT SortSt Sem (Array Keyed):=sortPriv% PySem.Builtin.mergeHi
def kk (κ:KeyKind) (p:Keyed):κ.α:=(κ.keyOf p.1).getD κ.dflt
def Has (κ:KeyKind) (p:Keyed):Prop:=∃a,κ.keyOf p.1=some a
theorem Has.key {κ:KeyKind} {p:Keyed} (h:Has κ p):κ.keyOf p.1=some (kk κ p):=by
 obtain ⟨a,e⟩:=h;unfold kk;rw [e];rfl
theorem zDf {κ:KeyKind} {xs:Array Keyed} {p:Keyed} (h:xs[i]?=some p):KK κ xs i=kk κ p:=by
 unfold KK kk;rw [h]
def CmpOk (prog:Program) (w:World) (A:Around) (s:Shared) (kd:SortKind) (κ:KeyKind):Prop :=
 ∀(E:Value->Shared->Prop) (x y:Value) (a b:κ.α) (Q:Bool->Shared->Prop),κ.keyOf x=some a->κ.keyOf y=some b->Q (κ.blt a b) s->wpAny (model prog w) A (keyLt' kd x y) Q E s
section
variable {prog:Program} {w:World} {A:Around} {E:Value->Shared->Prop} {s:Shared} {kd:SortKind} {κ:KeyKind}
theorem w_lt {Q:Option Bool->SortSt->Prop} (C:CmpOk prog w A s kd κ) (hk:kindOf st=kd) (hx:Has κ x) (hy:Has κ y) (h:Q (some (κ.blt (kk κ x) (kk κ y))) st):wpS (model prog w) A E s (lt' x y) Q st:=by
 rw [lt'_eq];refine qAF (qBQ ?_);rw [hk];exact qAF (qBk (qC3 (C _ x.1 y.1 _ _ _ hx.key hy.key ⟨rfl,qAH h⟩)))
theorem zBg {p:Keyed} {Q:Keyed->SortSt->Prop} (e:arr[i]?=some p) (h:Q p st):wpS (model prog w) A E s (elem' arr i) Q st:=by
 rw [elem'_eq,e];exact qAH h
theorem w_ltAt {Q:Option Bool->SortSt->Prop} (C:CmpOk prog w A s kd κ) (hk:kindOf st=kd) (hi:∃p,(arrOf st)[i]?=some p/\Has κ p) (hj:∃p,(arrOf st)[j]?=some p/\Has κ p)
  (h:Q (some (κ.blt (KK κ (arrOf st) i) (KK κ (arrOf st) j))) st):wpS (model prog w) A E s (ltAt' i j) Q st:=by
 obtain ⟨p,e1,h1⟩:=hi;obtain ⟨q,e2,h2⟩:=hj;rw [zDf e1,zDf e2] at h;rw [ltAt'_eq];exact qAF (qBQ (qAF (zBg e1 (qAF (zBg e2 (w_lt C hk h1 h2 h))))))
def byd (left:Bool) (key:Keyed) (arr:Array Keyed) (base i:Nat):StateT SortSt Sem (Option Bool):=do
 let x<-elem' arr (base+i)
 if left=true then lt' x key else (do let r<-lt' key x;pure (r.map fun b=>!b))
theorem w_byd {left:Bool} {key:Keyed} {base:Nat} {Q:Option Bool->SortSt->Prop} (C:CmpOk prog w A s kd κ) (hk:kindOf st=kd) (hkey:Has κ key) (hi:∃p,arr[base+i]?=some p/\Has κ p)
  (h:Q (some (if left=true then κ.blt (KK κ arr (base+i)) (kk κ key) else !κ.blt (kk κ key) (KK κ arr (base+i)))) st):wpS (model prog w) A E s (byd left key arr base i) Q st:=by
 obtain ⟨p,e,hp⟩:=hi;rw [zDf e] at h;refine qAF (zBg e ?_)
 cases left with
 | true=>exact w_lt C hk hp hkey h
 | false=>exact qAF (w_lt C hk hkey hp (qAH h))
structure Gal (n:Nat) (p:Nat->Bool) (k:Nat):Prop where
 le:k<=n
 lo:∀i,i<k->p i=true
 hi:∀i,k<=i->i<n->p i=false
theorem w_gal {left:Bool} {key:Keyed} {base:Nat} {Q:Option Nat->SortSt->Prop} (p:Nat->Bool) (C:CmpOk prog w A s kd κ) (hk:kindOf st=kd) (hkey:Has κ key)
  (hin:∀i,i<n->∃q,arr[base+i]?=some q/\Has κ q) (hp:∀i,i<n->(if left=true then κ.blt (KK κ arr (base+i)) (kk κ key) else !κ.blt (kk κ key) (KK κ arr (base+i)))=p i)
  (mono:∀i j,i<=j->j<n->p j=true->p i=true) (hh:hint<n) (h:∀k,Gal n p k->Q (some k) st):wpS (model prog w) A E s (gal left key arr base n hint) Q st:=by
 have ask:∀(i:Nat) {R:Option Bool->SortSt->Prop},i<n->R (some (p i)) st->wpS (model prog w) A E s (byd left key arr base i) R st:=fun i R hi hR =>
  w_byd C hk hkey (hin i hi) (by rw [hp i hi];exact hR)
 have bin:∀(l r:Nat),l<=r->r<=n->(∀i,i<l->p i=true)->(∀i,r<=i->i<n->p i=false)->∀(F:Nat->Option (Option Nat)×Nat×Nat->StateT SortSt Sem (ForInStep (Option (Option Nat)×Nat×Nat))),
   (∀x l r,F x (none,l,r)=(if l>=r then pure (ForInStep.done (none,l,r)) else do
    let c<-byd left key arr base (l+(r - l) / 2)
    match c with
    | some more=>if more=true then pure (ForInStep.yield (none,l+(r - l) / 2+1,r)) else pure (ForInStep.yield (none,l,l+(r - l) / 2))
    | _=>pure (ForInStep.done (some none,l,r))))->∀G:Option (Option Nat)×Nat×Nat->StateT SortSt Sem (Option Nat),(∀l r,G (none,l,r)=pure (some r)) ->
   wpS (model prog w) A E s (forIn [:n] ((none,l,r):Option (Option Nat)×Nat×Nat) F >>= G) Q st:=by
  intro l r hlr hrn hl hr F hF G hG
  refine qAF (qAv (qA2 (I:=fun x c st'=>st'=st/\∃l r,c=(none,l,r)/\l<=r/\r<=n/\r - l<=n - x/\(∀i,i<l->p i=true)/\(∀i,r<=i->i<n->p i=false))
   (Q:=fun c st'=>st'=st/\∃r,c=(none,r,r)/\r<=n/\(∀i,i<r->p i=true)/\(∀i,r<=i->i<n->p i=false)) ?step ?fin ⟨rfl,l,r,rfl,hlr,hrn,by lia,hl,hr⟩) ?post)
  case fin =>
   rintro c st' ⟨rfl,l,r,rfl,h1,h2,h3,h4,h5⟩;have:l=r:=by lia
   subst this;exact ⟨rfl,l,rfl,h2,h4,h5⟩
  case post =>
   rintro c st' ⟨rfl,r,rfl,h1,h2,h3⟩;rw [hG];exact qAH (h r ⟨h1,h2,h3⟩)
  case step =>
   rintro x c st' _ hx ⟨rfl,l,r,rfl,h1,h2,h3,h4,h5⟩;rw [hF x l r]
   by_cases hge:l>=r
   ·rw [qAC hge];have:l=r:=by lia
    subst this;exact qAH ⟨rfl,l,rfl,h2,h4,h5⟩
   ·rw [qAB hge];have hm:l+(r - l) / 2<n:=by lia
    refine qAF (ask _ hm ?_)
    cases e:p (l+(r - l) / 2) with
    | true =>
     show wpS _ _ _ _ (if true=true then _ else _) _ _;rw [qAC rfl];exact qAH ⟨rfl,_,_,rfl,by lia,h2,by lia,fun i hi=>mono i _ (by lia) hm e,h5⟩
    | false =>
     show wpS _ _ _ _ (if false=true then _ else _) _ _;rw [qAB (by decide)];refine qAH ⟨rfl,_,_,rfl,by lia,by lia,by lia,h4,fun i h6 h7=>?_⟩
     cases z:p i with
     | false=>rfl
     | true=>rw [mono _ i h6 h7 z] at e;cases e
 refine qAF (ask hint hh ?_)
 cases e0:p hint with
 | true =>
  show wpS _ _ _ _ (if true=true then _ else _) _ _;rw [qAC rfl]
  refine qAF (qAv (qA2 (I:=fun x c st'=>st'=st/\∃l o,c=(none,l,o)/\l<o/\hint+l<n/\p (hint+l)=true/\x+1<=o)
   (Q:=fun c st'=>st'=st/\∃l o,c=(none,l,o)/\l<o/\hint+l<n/\p (hint+l)=true/\(n - hint<=o\/p (hint+o)=false)) ?step ?fin ⟨rfl,0,1,rfl,by lia,by lia,e0,by lia⟩) ?post)
  case fin =>
   rintro c st' ⟨rfl,l,o,rfl,h1,h2,h3,h4⟩;exact ⟨rfl,l,o,rfl,h1,h2,h3,.inl (by lia)⟩
  case step =>
   rintro x c st' _ hx ⟨rfl,l,o,rfl,h1,h2,h3,h4⟩;dsimp only
   by_cases ho:o>=n - hint
   ·rw [qAC ho];exact qAH ⟨rfl,l,o,rfl,h1,h2,h3,.inl ho⟩
   ·rw [qAB ho];refine qAF (ask (hint+o) (by lia) ?_)
    cases e:p (hint+o) with
    | true =>
     show wpS _ _ _ _ (if false=true then _ else _) _ _;rw [qAB (by decide)];exact qAH ⟨rfl,o,2*o+1,rfl,by lia,by lia,e,by lia⟩
    | false =>
     show wpS _ _ _ _ (if true=true then _ else _) _ _;rw [qAC rfl];exact qAH ⟨rfl,l,o,rfl,h1,h2,h3,.inr e⟩
  case post =>
   rintro c st' ⟨rfl,l,o,rfl,h1,h2,h3,h4⟩;refine bin (hint+l+1) (hint+min o (n - hint)) ?_ ?_ ?_ ?_ _ (fun x l r=>rfl) _ (fun l r=>rfl)
   ·rcases h4 with z| z
    ·lia
    ·by_cases ho:o<n - hint
     ·lia
     ·lia
   ·lia
   ·intro i hi;exact mono i (hint+l) (by lia) h2 h3
   ·intro i h5 h6;rcases h4 with z| z
    ·lia
    ·cases q:p i with
     | false=>rfl
     | true =>
      by_cases ho:o<n - hint
      ·rw [mono (hint+o) i (by lia) h6 q] at z;cases z
      ·lia
 | false =>
  show wpS _ _ _ _ (if false=true then _ else _) _ _;rw [qAB (by decide)]
  refine qAF (qAv (qA2 (I:=fun x c st'=>st'=st/\∃l o,c=(none,l,o)/\l<o/\l<=hint/\p (hint - l)=false/\x+1<=o)
   (Q:=fun c st'=>st'=st/\∃l o,c=(none,l,o)/\l<o/\l<=hint/\p (hint - l)=false/\(hint+1<=o\/(o<=hint/\p (hint - o)=true))) ?step ?fin ⟨rfl,0,1,rfl,by lia,by lia,e0,by lia⟩) ?post)
  case fin =>
   rintro c st' ⟨rfl,l,o,rfl,h1,h2,h3,h4⟩;exact ⟨rfl,l,o,rfl,h1,h2,h3,.inl (by lia)⟩
  case step =>
   rintro x c st' _ hx ⟨rfl,l,o,rfl,h1,h2,h3,h4⟩;dsimp only
   by_cases ho:o>=hint+1
   ·rw [qAC ho];exact qAH ⟨rfl,l,o,rfl,h1,h2,h3,.inl ho⟩
   ·rw [qAB ho];refine qAF (ask (hint - o) (by lia) ?_)
    cases e:p (hint - o) with
    | true =>
     show wpS _ _ _ _ (if true=true then _ else _) _ _;rw [qAC rfl];exact qAH ⟨rfl,l,o,rfl,h1,h2,h3,.inr ⟨by lia,e⟩⟩
    | false =>
     show wpS _ _ _ _ (if false=true then _ else _) _ _;rw [qAB (by decide)];exact qAH ⟨rfl,o,2*o+1,rfl,by lia,by lia,e,by lia⟩
  case post =>
   rintro c st' ⟨rfl,l,o,rfl,h1,h2,h3,h4⟩;refine bin (hint+1 - min o (hint+1)) (hint - l) ?_ ?_ ?_ ?_ _ (fun x l r=>rfl) _ (fun l r=>rfl)
   ·lia
   ·lia
   ·intro i hi;rcases h4 with z| ⟨z1,z2⟩
    ·lia
    ·exact mono i (hint - o) (by lia) (by lia) z2
   ·intro i h5 h6
    cases q:p i with
    | false=>rfl
    | true=>rw [mono (hint - l) i h5 h6 q] at h3;cases h3
end
section
variable {κ:KeyKind}
def le (κ:KeyKind) (x y:Keyed):Prop:=κ.kle (kk κ x) (kk κ y)
theorem le.trans {z:Keyed} (a:le κ x y) (b:le κ y z):le κ x z:=qCF a b
theorem le.refl (x:Keyed):le κ x x:=qBl _
theorem le_of_lt (h:κ.blt (kk κ x) (kk κ y)=true):le κ x y:=qCc h
theorem zCq (h:κ.blt (kk κ x) (kk κ y)=false):le κ y x:=h
abbrev Srt (κ:KeyKind) (l:List Keyed):Prop:=l.Pairwise (le κ)
theorem zJg (e:a[i]?=some x):a.toList.drop i=x::a.toList.drop (i+1):=by
 have e':a.toList[i]?=some x:=by simpa using e
 have hi:i<a.toList.length:=(qAV.mp e').1;have hx:a.toList[i]=x:=(qAV.mp e').2;rw [<-hx,List.getElem_cons_drop]
theorem zGi (h:Srt κ a.toList) (i:Nat):Srt κ (a.toList.drop i):=h.sublist (List.drop_sublist i _)
theorem zBu (h:Srt κ a.toList) (e:a[i]?=some x):∀y∈a.toList.drop i,le κ x y:=fun y hy=>by
 have s:=zGi h i;rw [zJg e] at s hy;rcases qAP.mp hy with z| z
 ·rw [z];exact le.refl _
 ·exact (qCG.mp s).1 y z
theorem zJf {k:Nat} (e:a[i+k]?=some x):a.extract i (i+(k+1))=(a.extract i (i+k)).push x:=by
 have hk:i+k<a.size:=(qBw.mp e).1;apply Array.toList_inj.mp;rw [qBK,qBb,qBb,List.extract_eq_drop_take,List.extract_eq_drop_take];have e1:i+(k+1) - i=k+1:=by lia
 have e2:i+k - i=k:=by lia
 rw [e1,e2,qCH];congr 1;rw [qBc];have:a.toList[i+k]?=some x:=by simpa using e
 rw [this];rfl
structure MI (κ:KeyKind) (a b out:Array Keyed) (ia ib:Nat):Prop where
 la:ia<=a.size
 lb:ib<=b.size
 perm:(out.toList++(a.toList.drop ia++b.toList.drop ib)).Perm (a.toList++b.toList)
 srt:Srt κ out.toList
 low:∀x∈out.toList,∀y∈a.toList.drop ia++b.toList.drop ib,le κ x y
structure Fn (κ:KeyKind) (a b r:Array Keyed):Prop where
 perm:r.toList.Perm (a.toList++b.toList)
 srt:Srt κ r.toList
section
variable {a b out:Array Keyed} {ia ib:Nat}
theorem MI.tB (M:MI κ a b out ia ib) (e:b[ib]?=some y) (sb:Srt κ b.toList) (h:∀x∈a.toList.drop ia,le κ y x):MI κ a b (out.push y) ia (ib+1):=by
 have hb:ib<b.size:=(qBw.mp e).1;have d:=zJg e;have hy:y∈b.toList.drop ib:=by rw [d];exact qAa
 refine ⟨M.la,hb,?_,?_,?_⟩
 ·refine List.Perm.trans ?_ M.perm;rw [qBK,d,qAy];refine qCd _ ?_;show (y::(a.toList.drop ia++b.toList.drop (ib+1))).Perm _;exact (List.perm_middle).symm
 ·rw [qBK];refine qAz.mpr ⟨M.srt,qCe _ _,fun x hx z hz=>?_⟩;have:z=y:=by simpa using hz
  subst this;exact M.low x hx z (qAq _ hy)
 ·intro x hx z hz;rw [qBK] at hx
  have hz':z∈a.toList.drop ia++b.toList.drop ib:=by
   rcases qAK.mp hz with q| q
   ·exact qAc _ q
   ·exact qAq _ (by rw [d];exact qAT _ q)
  rcases qAK.mp hx with q| q
  ·exact M.low x q z hz'
  ·have:x=y:=by simpa using q
   subst this;rcases qAK.mp hz' with q| q
   ·exact h z q
   ·exact zBu sb e z q
theorem MI.tA (M:MI κ a b out ia ib) (e:a[ia]?=some x) (sa:Srt κ a.toList) (h:∀y∈b.toList.drop ib,le κ x y):MI κ a b (out.push x) (ia+1) ib:=by
 have ha:ia<a.size:=(qBw.mp e).1;have d:=zJg e;have hx:x∈a.toList.drop ia:=by rw [d];exact qAa
 refine ⟨ha,M.lb,?_,?_,?_⟩
 ·refine List.Perm.trans ?_ M.perm;rw [qBK,d,qAy];exact qCI _
 ·rw [qBK];refine qAz.mpr ⟨M.srt,qCe _ _,fun y hy z hz=>?_⟩;have:z=x:=by simpa using hz
  subst this;exact M.low y hy z (qAc _ hx)
 ·intro y hy z hz;rw [qBK] at hy
  have hz':z∈a.toList.drop ia++b.toList.drop ib:=by
   rcases qAK.mp hz with q| q
   ·exact qAc _ (by rw [d];exact qAT _ q)
   ·exact qAq _ q
  rcases qAK.mp hy with q| q
  ·exact M.low y q z hz'
  ·have:y=x:=by simpa using q
   subst this;rcases qAK.mp hz' with q| q
   ·exact zBu sa e z q
   ·exact h z q
theorem MI.tAs (M:MI κ a b out ia ib) (sa:Srt κ a.toList):∀k,ia+k<=a.size->(∀i x,i<k->a[ia+i]?=some x->∀y∈b.toList.drop ib,le κ x y)->MI κ a b (out++a.extract ia (ia+k)) (ia+k) ib
 | 0,_,_=>by
  have:a.extract ia (ia+0)=#[]:=by simp;lia
  rw [this];simpa using M
 | k+1,hk,h=>by
  have ih:=MI.tAs M sa k (by lia) fun i x hi=>h i x (by lia);have e:a[ia+k]?=some (a[ia+k]'(by lia)):=by simp
  rw [zJf e,Array.append_push];exact ih.tA e sa (h k _ (by lia) e)
theorem MI.tBs (M:MI κ a b out ia ib) (sb:Srt κ b.toList):∀k,ib+k<=b.size->(∀i y,i<k->b[ib+i]?=some y->∀x∈a.toList.drop ia,le κ y x)->MI κ a b (out++b.extract ib (ib+k)) ia (ib+k)
 | 0,_,_=>by
  have:b.extract ib (ib+0)=#[]:=by simp;lia
  rw [this];simpa using M
 | k+1,hk,h=>by
  have ih:=MI.tBs M sb k (by lia) fun i x hi=>h i x (by lia);have e:b[ib+k]?=some (b[ib+k]'(by lia)):=by simp
  rw [zJf e,Array.append_push];exact ih.tB e sb (h k _ (by lia) e)
theorem zCe (a:Array Keyed) (i:Nat):(a.extract i a.size).toList=a.toList.drop i:=by
 rw [qBb,List.extract_eq_drop_take];exact qBD (by simp)
theorem MI.doneB (M:MI κ a b out ia ib) (sa:Srt κ a.toList) (h:ib=b.size):Fn κ a b (out++a.extract ia a.size++b.extract ib b.size):=by
 have e:b.toList.drop ib=[]:=qC4 (by simp [h]);have p:=M.perm;have l:=M.low;rw [e,qAs] at p l;refine ⟨?_,?_⟩
 ·rw [qAm,qAm,zCe,zCe,e,qAs];exact p
 ·rw [qAm,qAm,zCe,zCe,e,qAs];exact qAz.mpr ⟨M.srt,zGi sa ia,l⟩
theorem MI.doneA (M:MI κ a b out ia ib) (sb:Srt κ b.toList) (h:ia=a.size):Fn κ a b (out++a.extract ia a.size++b.extract ib b.size):=by
 have e:a.toList.drop ia=[]:=qC4 (by simp [h]);have p:=M.perm;have l:=M.low;rw [e,qBj] at p l;refine ⟨?_,?_⟩
 ·rw [qAm,qAm,zCe,zCe,e,qAs];exact p
 ·rw [qAm,qAm,zCe,zCe,e,qAs];exact qAz.mpr ⟨M.srt,zGi sb ib,l⟩
theorem MI.last (M:MI κ a b out ia ib) (sb:Srt κ b.toList) (h:ia+1=a.size) (hl:∀z,a[a.size - 1]?=some z->∀y∈b.toList,le κ y z):Fn κ a b (out++b.extract ib b.size++a.extract ia a.size):=by
 have ei:a[ia]?=some (a[ia]'(by lia)):=by simp
 have e:a.toList.drop ia=[a[ia]'(by lia)]:=by
  rw [zJg ei,qC4 (by simp;lia)]
 have hz:=hl (a[ia]'(by lia)) (by rw [show a.size - 1=ia by lia];exact ei);refine ⟨?_,?_⟩
 ·rw [qAm,qAm,zCe,zCe,qAy];exact (qCd _ qC5).trans M.perm
 ·rw [qAm,qAm,zCe,zCe,qAy];refine qAz.mpr ⟨M.srt,qAz.mpr ⟨zGi sb ib,srt_drop_one e,fun y hy x hx=>?_⟩,fun x hx y hy=>M.low x hx y (qAK.mpr (qAK.mp hy).symm)⟩;rw [e] at hx;have:x=a[ia]'(by lia):=by simpa using hx
  subst this;exact hz y (qDU hy)
where srt_drop_one {l:List Keyed} {x:Keyed} (e:l=[x]):Srt κ l:=by rw [e];exact qCe _ _
end
end
structure Like (st st':SortSt):Prop where
 kd:kindOf st'=kindOf st
 ar:arrOf st'=arrOf st
 pn:pendingOf st'=pendingOf st
 fl:failedOf st'=failedOf st
theorem Like.refl (st:SortSt):Like st st:=⟨rfl,rfl,rfl,rfl⟩
theorem Like.trans {a b c:SortSt} (h:Like a b) (k:Like b c):Like a c:=⟨k.kd.trans h.kd,k.ar.trans h.ar,k.pn.trans h.pn,k.fl.trans h.fl⟩
section
variable {prog:Program} {w:World} {A:Around} {E:Value->Shared->Prop} {s:Shared} {kd:SortKind} {κ:KeyKind} {a b:Array Keyed}
theorem zBf (ha:∀x∈a.toList,Has κ x) (hi:i<a.size):∃p,a[i]?=some p/\Has κ p :=
 ⟨a[i],by simp,ha _ (by simp)⟩
theorem w_galA {i:Nat} {Q:Option Nat->SortSt->Prop} (C:CmpOk prog w A s kd κ) (hk:kindOf st=kd) (ha:∀x∈a.toList,Has κ x) (sa:Srt κ a.toList) (hy:Has κ y) (n:Nat) (hn:i+n<=a.size) (hh:hint<n)
  (h:∀k,k<=n->(∀j x,j<k->a[i+j]?=some x->le κ x y)->(∀j x,k<=j->j<n->a[i+j]?=some x->κ.blt (kk κ y) (kk κ x)=true)->Q (some k) st):wpS (model prog w) A E s (gal false y a i n hint) Q st:=by
 refine w_gal (κ:=κ) (fun j=>!κ.blt (kk κ y) (KK κ a (i+j))) C hk hy (fun j hj=>zBf ha (by lia)) (fun j hj=>rfl) (fun u v huv hv e=>?_) hh fun k G=>h k G.le (fun j x hj e=>?_) (fun j x h1 h2 e=>?_)
 ·obtain ⟨p,ep,_⟩:=zBf ha (show i+u<a.size by lia);obtain ⟨q,eq,_⟩:=zBf ha (show i+v<a.size by lia);rw [zDf eq] at e;rw [zDf ep];have e:κ.blt (kk κ y) (kk κ q)=false:=by simpa using e
  have hpq:le κ p q:=zBu sa ep q (by
   have:a.toList[i+v]?=some q:=by simpa using eq
   refine qAI (i:=v - u) ?_;rw [qBc,show i+u+(v - u)=i+v by lia];exact this)
  have:κ.blt (kk κ y) (kk κ p)=false:=hpq.trans (zCq e);simp [this]
 ·have:=G.lo j hj;rw [zDf e] at this;exact zCq (by simpa using this)
 ·have:=G.hi j h1 h2;rw [zDf e] at this;simpa using this
theorem w_galB {i:Nat} {Q:Option Nat->SortSt->Prop} (C:CmpOk prog w A s kd κ) (hk:kindOf st=kd) (hb:∀x∈b.toList,Has κ x) (sb:Srt κ b.toList) (hx:Has κ x) (n:Nat) (hn:i+n<=b.size) (hh:hint<n)
  (h:∀k,k<=n->(∀j y,j<k->b[i+j]?=some y->κ.blt (kk κ y) (kk κ x)=true)->(∀j y,k<=j->j<n->b[i+j]?=some y->le κ x y)->Q (some k) st):wpS (model prog w) A E s (gal true x b i n hint) Q st:=by
 refine w_gal (κ:=κ) (fun j=>κ.blt (KK κ b (i+j)) (kk κ x)) C hk hx (fun j hj=>zBf hb (by lia)) (fun j hj=>rfl) (fun u v huv hv e=>?_) hh fun k G=>h k G.le (fun j y hj e=>?_) (fun j y h1 h2 e=>?_)
 ·obtain ⟨p,ep,_⟩:=zBf hb (show i+u<b.size by lia);obtain ⟨q,eq,_⟩:=zBf hb (show i+v<b.size by lia);rw [zDf eq] at e;rw [zDf ep]
  have hpq:le κ p q:=zBu sb ep q (by
   have:b.toList[i+v]?=some q:=by simpa using eq
   refine qAI (i:=v - u) ?_;rw [qBc,show i+u+(v - u)=i+v by lia];exact this)
  exact KeyOrd.klt_of_kle_of_klt hpq e
 ·have:=G.lo j hj;rw [zDf e] at this;exact this
 ·have:=G.hi j h1 h2;rw [zDf e] at this;exact zCq this
abbrev Cell:=Option (Array Keyed)×Array Keyed×Nat×Nat×Nat×Nat×Nat
def tA (a b o:Array Keyed) (i j g p q:Nat):StateT SortSt Sem (ForInStep Cell):=do
 let x<-elem' a i
 if (i+1+1==a.size)=true then pure (.done (some (o.push x++b.extract j b.size++a.extract (i+1) a.size),o.push x,i+1,j,g,p,q))
 else if (decide (p<7)&&decide (q<7))=true then pure (.done (none,o.push x,i+1,j,g,p,q))
 else pure (.yield (none,o.push x,i+1,j,g,p,q))
def tB (a b o:Array Keyed) (i j g p q:Nat):StateT SortSt Sem (ForInStep Cell):=do
 let y<-elem' b j
 if (j+1==b.size)=true then pure (.done (some (o.push y++a.extract i a.size++b.extract (j+1) b.size),o.push y,i,j+1,g,p,q))
 else do
  let x<-elem' a i
  let r<-gal true x b (j+1) (b.size - (j+1)) 0
  match r with
  | some k =>
   if k>0 then
    if (j+1+k==b.size)=true then pure (.done (some (o.push y++b.extract (j+1) (j+1+k)++a.extract i a.size++b.extract (j+1+k) b.size),o.push y++b.extract (j+1) (j+1+k),i,j+1+k,g,p,k))
    else tA a b (o.push y++b.extract (j+1) (j+1+k)) i (j+1+k) g p k
   else tA a b (o.push y) i (j+1) g p k
  | _=>pure (.done (some (o.push y++a.extract i a.size++b.extract (j+1) b.size),o.push y,i,j+1,g,p,q))
def tT (a b o:Array Keyed) (i j g p q:Nat):StateT SortSt Sem (ForInStep Cell):=do
 let y<-elem' b j
 let r<-gal false y a i (a.size - i) 0
 match r with
 | some k =>
  if k>0 then
   if (i+k+1==a.size)=true then pure (.done (some (o++a.extract i (i+k)++b.extract j b.size++a.extract (i+k) a.size),o++a.extract i (i+k),i+k,j,g,k,q))
   else if (i+k==a.size)=true then pure (.done (some (o++a.extract i (i+k)++a.extract (i+k) a.size++b.extract j b.size),o++a.extract i (i+k),i+k,j,g,k,q))
   else tB a b (o++a.extract i (i+k)) (i+k) j g k q
  else tB a b o i j g k q
 | _=>pure (.done (some (o++a.extract i a.size++b.extract j b.size),o,i,j,g,p,q))
def TO (κ:KeyKind) (a b:Array Keyed) (m:Nat) (st3:SortSt) (R:ForInStep Cell->SortSt->Prop):Prop :=
 (∀r o i j g p q,Fn κ a b r->R (.done (some r,o,i,j,g,p,q)) st3)/\(∀o i j g p q,MI κ a b o i j->i+1<a.size->j<b.size->m<=i+j->R (.done (none,o,i,j,g,p,q)) st3/\R (.yield (none,o,i,j,g,p,q)) st3)
theorem w_tA {o:Array Keyed} {R:ForInStep Cell->SortSt->Prop} (ha:∀x∈a.toList,Has κ x) (sa:Srt κ a.toList) (sb:Srt κ b.toList) (hl:∀z,a[a.size - 1]?=some z->∀y∈b.toList,le κ y z)
  (M:MI κ a b o i j) (hi:i+1<a.size) (hj:j<b.size) (hm:m<=i+j) (hx:∀x,a[i]?=some x->∀y∈b.toList.drop j,le κ x y) (hR:TO κ a b m st3 R):wpS (model prog w) A E s (tA a b o i j g p q) R st3:=by
 obtain ⟨x,ex,_⟩:=zBf ha (show i<a.size by lia);have M2:=M.tA ex sa (hx x ex);refine qAF (zBg ex ?_)
 by_cases d1:(i+1+1==a.size)=true
 ·rw [qAC d1];exact qAH (hR.1 _ _ _ _ _ _ _ (M2.last sb (by simpa using d1) hl))
 ·have d1':i+1+1<a.size:=by
   have:¬i+1+1=a.size:=by simpa using d1
   lia
  rw [qAB d1];have q:=hR.2 _ _ _ g p q M2 d1' hj (by lia);split
  ·exact qAH q.1
  ·exact qAH q.2
theorem w_tB {o:Array Keyed} {R:ForInStep Cell->SortSt->Prop} (C:CmpOk prog w A s kd κ) (hk:kindOf st3=kd) (ha:∀x∈a.toList,Has κ x) (hb:∀x∈b.toList,Has κ x) (sa:Srt κ a.toList) (sb:Srt κ b.toList)
  (hl:∀z,a[a.size - 1]?=some z->∀y∈b.toList,le κ y z) (M:MI κ a b o i j) (hi:i+1<a.size) (hj:j<b.size) (hm:m<=i+j) (hy:∀x y,a[i]?=some x->b[j]?=some y->le κ y x) (hR:TO κ a b m st3 R) :
  wpS (model prog w) A E s (tB a b o i j g p q) R st3:=by
 obtain ⟨y,ey,hyy⟩:=zBf hb hj;obtain ⟨x,ex,hxx⟩:=zBf ha (show i<a.size by lia);have M2:=M.tB ey sb fun z hz=>(hy x y ex ey).trans (zBu sa ex z hz);refine qAF (zBg ey ?_)
 by_cases d1:(j+1==b.size)=true
 ·rw [qAC d1];exact qAH (hR.1 _ _ _ _ _ _ _ (M2.doneB sa (by simpa using d1)))
 ·have d1':j+1<b.size:=by
   have:¬j+1=b.size:=by simpa using d1
   lia
  rw [qAB d1];refine qAF (zBg ex (qAF (w_galB C hk hb sb hxx (b.size - (j+1)) (by lia) (by lia) fun k k1 k2 k3=>?_)));have M3:=M2.tBs sb k (by lia) fun t z ht ez u hu=>(le_of_lt (k2 t z ht ez)).trans (zBu sa ex u hu);show wpS _ _ _ _ (if k>0 then _ else _) _ _
  by_cases hk0:k>0
  ·rw [qAC hk0]
   by_cases d2:(j+1+k==b.size)=true
   ·rw [qAC d2];exact qAH (hR.1 _ _ _ _ _ _ _ (M3.doneB sa (by simpa using d2)))
   ·rw [qAB d2]
    have d2':j+1+k<b.size:=by
     have:¬j+1+k=b.size:=by simpa using d2
     lia
    refine w_tA ha sa sb hl M3 hi d2' (by lia) (fun x' ex' u hu=>?_) hR;rw [ex] at ex'
    cases ex'
    obtain ⟨v,ev,_⟩:=zBf hb d2';exact (k3 k v (qAG _) (by lia) ev).trans (zBu sb ev u hu)
  ·rw [qAB hk0];refine w_tA ha sa sb hl M2 hi d1' (by lia) (fun x' ex' u hu=>?_) hR;rw [ex] at ex'
   cases ex'
   obtain ⟨v,ev,_⟩:=zBf hb d1';exact (k3 0 v (by lia) (by lia) ev).trans (zBu sb ev u hu)
theorem w_tT {o:Array Keyed} {R:ForInStep Cell->SortSt->Prop} (C:CmpOk prog w A s kd κ) (hk:kindOf st3=kd) (ha:∀x∈a.toList,Has κ x) (hb:∀x∈b.toList,Has κ x) (sa:Srt κ a.toList) (sb:Srt κ b.toList)
  (hl:∀z,a[a.size - 1]?=some z->∀y∈b.toList,le κ y z) (M:MI κ a b o i j) (hi:i+1<a.size) (hj:j<b.size) (hm:m<=i+j) (hR:TO κ a b m st3 R):wpS (model prog w) A E s (tT a b o i j g p q) R st3:=by
 obtain ⟨y,ey,hyy⟩:=zBf hb hj;refine qAF (zBg ey (qAF (w_galA C hk ha sa hyy (a.size - i) (by lia) (by lia) fun k k1 k2 k3=>?_)));have M3:=M.tAs sa k (by lia) fun t z ht ez u hu=>(k2 t z ht ez).trans (zBu sb ey u hu);show wpS _ _ _ _ (if k>0 then _ else _) _ _
 by_cases hk0:k>0
 ·rw [qAC hk0]
  by_cases d1:(i+k+1==a.size)=true
  ·rw [qAC d1];exact qAH (hR.1 _ _ _ _ _ _ _ (M3.last sb (by simpa using d1) hl))
  ·rw [qAB d1]
   by_cases d2:(i+k==a.size)=true
   ·rw [qAC d2];exact qAH (hR.1 _ _ _ _ _ _ _ (M3.doneA sb (by simpa using d2)))
   ·rw [qAB d2];have d1':¬i+k+1=a.size:=by simpa using d1
    have d2':¬i+k=a.size:=by simpa using d2
    refine w_tB C hk ha hb sa sb hl M3 (by lia) hj (by lia) (fun x y' ex ey'=>?_) hR;rw [ey] at ey'
    cases ey'
    exact le_of_lt (k3 k x (qAG _) (by lia) ex)
 ·rw [qAB hk0];refine w_tB C hk ha hb sa sb hl M hi hj hm (fun x y' ex ey'=>?_) hR;rw [ey] at ey'
  cases ey'
  exact le_of_lt (k3 0 x (by lia) (by lia) (by simpa using ex))
theorem w_mLo {Q:Array Keyed->SortSt->Prop} (C:CmpOk prog w A s kd κ) (hk:kindOf st=kd) (ha:∀x∈a.toList,Has κ x) (hb:∀x∈b.toList,Has κ x) (sa:Srt κ a.toList) (sb:Srt κ b.toList) (na:1<=a.size) (nb:1<=b.size)
  (h0:∀x y,a[0]?=some x->b[0]?=some y->le κ y x) (hl:∀z,a[a.size - 1]?=some z->∀y∈b.toList,le κ y z)
  (h:∀r st',Like st st'->Fn κ a b r->Q r st'):wpS (model prog w) A E s (mLo a b) Q st:=by
 refine qAF (qBk (qBR ⟨rfl,?_⟩));obtain ⟨y0,ey,hy⟩:=zBf hb (show 0<b.size by lia);obtain ⟨x0,ex,hx⟩:=zBf ha (show 0<a.size by lia);refine qAF (zBg ey ?_);have M0:MI κ a b #[] 0 0:=⟨by lia,by lia,by simp,by simp,by simp⟩
 have M1:MI κ a b #[y0] 0 1:=by
  have:=M0.tB ey sb fun x hx=>(h0 x0 y0 ex ey).trans (zBu sa ex x hx);simpa using this
 show wpS _ _ _ _ (if (1==b.size)=true then _ else _) _ _
 by_cases c1:(1==b.size)=true
 ·rw [qAC c1];exact qAH (h _ _ (Like.refl _) (M1.doneB sa (by simpa using c1)))
 rw [qAB c1];show wpS _ _ _ _ (if (0+1==a.size)=true then _ else _) _ _
 by_cases c2:(0+1==a.size)=true
 ·rw [qAC c2];exact qAH (h _ _ (Like.refl _) (M1.last sb (by simpa using c2) hl))
 rw [qAB c2]
 have c1':1<b.size:=by
  have:¬1=b.size:=by simpa using c1
  lia
 have c2':0+1<a.size:=by
  have:¬0+1=a.size:=by simpa using c2
  lia
 refine qAF (qBQ ?_)
 refine qAF (qAv (qA2 (I:=fun x c st'=>Like st st'/\∃out ia ib g,c=(none,out,ia,ib,g)/\MI κ a b out ia ib/\ia+1<a.size/\ib<b.size/\x+1<=ia+ib)
  (Q:=fun c st'=>Like st st'/\∃r out ia ib g,c=(some r,out,ia,ib,g)/\Fn κ a b r) ?step ?fin ⟨Like.refl _,_,_,_,_,rfl,M1,c2',c1',by lia⟩) ?post)
 case fin =>
  rintro c st' ⟨_,out,ia,ib,g,rfl,M,h1,h2,h3⟩;lia
 case post =>
  rintro c st' ⟨L,r,out,ia,ib,g,rfl,F⟩;exact qAH (h r st' L F)
 case step =>
  rintro x c st1 _ hx1 ⟨L1,out0,ia0,ib0,g0,rfl,M,u1,u2,u3⟩;have hk1:kindOf st1=kd:=L1.kd.trans hk;dsimp only
  refine qAF (qAv (qA2 (I:=fun x c st'=>st'=st1/\∃out ia ib p q,c=(none,out,ia,ib,p,q)/\MI κ a b out ia ib/\ia+1<a.size/\ib<b.size/\ia0+ib0+x<=ia+ib)
   (Q:=fun c st'=>st'=st1/\((∃r out ia ib p q,c=(some r,out,ia,ib,p,q)/\Fn κ a b r)\/∃out ia ib p q,c=(none,out,ia,ib,p,q)/\MI κ a b out ia ib/\ia+1<a.size/\ib<b.size/\ia0+ib0+1<=ia+ib)) ?step1 ?fin1
   ⟨rfl,_,_,_,_,_,rfl,M,u1,u2,by lia⟩) ?post1)
  case fin1 =>
   rintro c st' ⟨rfl,out,ia,ib,p,q,rfl,M',v1,v2,v3⟩;exact ⟨rfl,.inr ⟨out,ia,ib,p,q,rfl,M',v1,v2,by lia⟩⟩
  case step1 =>
   rintro x2 c st' _ hx2 ⟨rfl,out,ia,ib,p,q,rfl,M',v1,v2,v3⟩;obtain ⟨yb,eb,hyb⟩:=zBf hb v2;obtain ⟨xa,ea,hxa⟩:=zBf ha (show ia<a.size by lia);dsimp only;refine qAF (zBg eb (qAF (zBg ea (qAF (w_lt C hk1 hyb hxa ?_)))))
   cases e:κ.blt (kk κ yb) (kk κ xa) with
   | true =>
    show wpS _ _ _ _ (if true=true then _ else _) _ _;rw [qAC rfl];refine qAF (zBg eb ?_);have M2:=M'.tB eb sb fun x hx=>(le_of_lt e).trans (zBu sa ea x hx)
    by_cases d1:(ib+1==b.size)=true
    ·rw [qAC d1];exact qAH ⟨rfl,.inl ⟨_,_,_,_,_,_,rfl,M2.doneB sa (by simpa using d1)⟩⟩
    ·have d1':ib+1<b.size:=by
      have:¬ib+1=b.size:=by simpa using d1
      lia
     rw [qAB d1]
     by_cases d2:q+1>=g0
     ·rw [qAC d2];exact qAH ⟨rfl,.inr ⟨_,_,_,_,_,rfl,M2,v1,d1',by lia⟩⟩
     ·rw [qAB d2];exact qAH ⟨rfl,_,_,_,_,_,rfl,M2,v1,d1',by lia⟩
   | false =>
    show wpS _ _ _ _ (if false=true then _ else _) _ _;rw [qAB (by decide)];refine qAF (zBg ea ?_);have M2:=M'.tA ea sa fun y hy=>(zCq e).trans (zBu sb eb y hy)
    by_cases d1:(ia+1+1==a.size)=true
    ·rw [qAC d1];exact qAH ⟨rfl,.inl ⟨_,_,_,_,_,_,rfl,M2.last sb (by simpa using d1) hl⟩⟩
    ·have d1':ia+1+1<a.size:=by
      have:¬ia+1+1=a.size:=by simpa using d1
      lia
     rw [qAB d1]
     by_cases d2:p+1>=g0
     ·rw [qAC d2];exact qAH ⟨rfl,.inr ⟨_,_,_,_,_,rfl,M2,d1',v2,by lia⟩⟩
     ·rw [qAB d2];exact qAH ⟨rfl,_,_,_,_,_,rfl,M2,d1',v2,by lia⟩
  case post1 =>
   rintro c st' ⟨rfl,⟨r,out,ia,ib,p,q,rfl,F⟩| ⟨out,ia,ib,p,q,rfl,M',v1,v2,v3⟩⟩
   ·exact qAH ⟨L1,_,_,_,_,_,rfl,F⟩
   ·dsimp only;refine qAF (qBk (qBR ⟨rfl,?_⟩))
    refine qAF (qAv (qA2 (I:=fun x c st'=>Like st st'/\∃out ia ib g p q,c=(none,out,ia,ib,g,p,q)/\MI κ a b out ia ib/\ia+1<a.size/\ib<b.size/\ia0+ib0+1<=ia+ib)
     (Q:=fun c st'=>Like st st'/\((∃r out ia ib g p q,c=(some r,out,ia,ib,g,p,q)/\Fn κ a b r)\/∃out ia ib g p q,c=(none,out,ia,ib,g,p,q)/\MI κ a b out ia ib/\ia+1<a.size/\ib<b.size/\ia0+ib0+1<=ia+ib)) ?step2 ?fin2
     ⟨L1,_,_,_,_,_,_,rfl,M',v1,v2,v3⟩) ?post2)
    case fin2 =>
     rintro c st' ⟨L,out,ia,ib,g,p,q,rfl,M',v⟩;exact ⟨L,.inr ⟨_,_,_,_,_,_,rfl,M',v⟩⟩
    case post2 =>
     rintro c st' ⟨L,⟨r,out,ia,ib,g,p,q,rfl,F⟩| ⟨out,ia,ib,g,p,q,rfl,M',v1,v2,v3⟩⟩
     ·exact qAH ⟨L,_,_,_,_,_,rfl,F⟩
     ·dsimp only;refine qAF (qA9 (qAH ⟨L.trans ⟨rfl,rfl,rfl,rfl⟩,_,_,_,_,rfl,M',v1,v2,by lia⟩))
    case step2 =>
     rintro x3 c st2 _ hx3 ⟨L2,out,ia,ib,g,p,q,rfl,M2,w1,w2,w3⟩;dsimp only
     have run:∀g':Nat,wpS (model prog w) A E s (tT a b out ia ib g' p q) (fun r st'=>match r with
       | .done c'=>Like st st'/\((∃r out ia ib g p q,c'=(some r,out,ia,ib,g,p,q)/\Fn κ a b r)\/∃out ia ib g p q,c'=(none,out,ia,ib,g,p,q)/\MI κ a b out ia ib/\ia+1<a.size/\ib<b.size/\ia0+ib0+1<=ia+ib)
       | .yield c'=>Like st st'/\∃out ia ib g p q,c'=(none,out,ia,ib,g,p,q)/\MI κ a b out ia ib/\ia+1<a.size/\ib<b.size/\ia0+ib0+1<=ia+ib) (SortSt.mk' (kindOf st2) (arrOf st2) (pendingOf st2) g' (failedOf st2)):=fun g'=>by
      have L3:Like st (SortSt.mk' (kindOf st2) (arrOf st2) (pendingOf st2) g' (failedOf st2)):=L2.trans ⟨rfl,rfl,rfl,rfl⟩;refine w_tT C (L3.kd.trans hk) ha hb sa sb hl M2 w1 w2 w3 ⟨fun r o i j g p q F=>⟨L3,.inl ⟨_,_,_,_,_,_,_,rfl,F⟩⟩,fun o i j g p q M' h1 h2 h3=>⟨⟨L3,.inr ⟨_,_,_,_,_,_,rfl,M',h1,h2,h3⟩⟩,⟨L3,_,_,_,_,_,_,rfl,M',h1,h2,h3⟩⟩⟩
     by_cases d0:g>1
     ·rw [qAC d0];refine qAF (qA9 ?_);refine qAv (m:=tT a b out ia ib (g - 1) p q) (run (g - 1)) fun r st' hr=>?_
      cases r<;>exact hr
     ·rw [qAB d0];refine qAF (qA9 ?_);refine qAv (m:=tT a b out ia ib (g) p q) (run (g)) fun r st' hr=>?_
      cases r<;>exact hr
end
section
variable {κ:KeyKind}
theorem zIn (e:a[n]?=some x):a.toList.take (n+1)=a.toList.take n++[x]:=by
 have e':a.toList[n]?=some x:=by simpa using e
 rw [qCH,e'];rfl
theorem zGh (h:Srt κ a.toList) (i:Nat):Srt κ (a.toList.take i):=h.sublist (List.take_sublist i _)
theorem zD9 (h:Srt κ a.toList) (e:a[n]?=some x):∀y∈a.toList.take (n+1),le κ y x:=fun y hy=>by
 have s:=zGh h (n+1);rw [zIn e] at s hy;rcases qAK.mp hy with z| z
 ·exact (qAz.mp s).2.2 y z x (by simp)
 ·have:y=x:=by simpa using z
  rw [this];exact le.refl _
structure MH (κ:KeyKind) (a b out:Array Keyed) (na nb:Nat):Prop where
 la:na<=a.size
 lb:nb<=b.size
 perm:((a.toList.take na++b.toList.take nb)++out.toList.reverse).Perm (a.toList++b.toList)
 srt:Srt κ out.toList.reverse
 low:∀x∈a.toList.take na++b.toList.take nb,∀y∈out.toList.reverse,le κ x y
section
variable {a b out:Array Keyed} {na nb:Nat}
theorem MH.tA (M:MH κ a b out (na+1) nb) (e:a[na]?=some x) (sa:Srt κ a.toList) (h:∀y∈b.toList.take nb,le κ y x):MH κ a b (out.push x) na nb:=by
 have d:=zIn e;have hx:x∈a.toList.take (na+1):=by rw [d];simp
 have er:(out.push x).toList.reverse=x::out.toList.reverse:=by simp
 refine ⟨qCf M.la,M.lb,?_,?_,?_⟩
 ·refine List.Perm.trans ?_ M.perm;rw [er,d,qAy,qAy,qAy];refine qCd _ ?_;show (b.toList.take nb++x::out.toList.reverse).Perm (x::(b.toList.take nb++out.toList.reverse));exact List.perm_middle
 ·rw [er];exact qCG.mpr ⟨fun y hy=>M.low x (qAc _ hx) y hy,M.srt⟩
 ·intro z hz y hy;rw [er] at hy
  have hz':z∈a.toList.take (na+1)++b.toList.take nb:=by
   rcases qAK.mp hz with q| q
   ·exact qAc _ (by rw [d];exact qAc _ q)
   ·exact qAq _ q
  rcases qAP.mp hy with q| q
  ·rw [q];rcases qAK.mp hz' with q| q
   ·exact zD9 sa e z q
   ·exact h z q
  ·exact M.low z hz' y q
theorem MH.tB (M:MH κ a b out na (nb+1)) (e:b[nb]?=some x) (sb:Srt κ b.toList) (h:∀y∈a.toList.take na,le κ y x):MH κ a b (out.push x) na nb:=by
 have d:=zIn e;have hx:x∈b.toList.take (nb+1):=by rw [d];simp
 have er:(out.push x).toList.reverse=x::out.toList.reverse:=by simp
 refine ⟨M.la,qCf M.lb,?_,?_,?_⟩
 ·refine List.Perm.trans ?_ M.perm;rw [er,d,qAy,qAy,qAy];exact qCI _
 ·rw [er];exact qCG.mpr ⟨fun y hy=>M.low x (qAq _ hx) y hy,M.srt⟩
 ·intro z hz y hy;rw [er] at hy
  have hz':z∈a.toList.take na++b.toList.take (nb+1):=by
   rcases qAK.mp hz with q| q
   ·exact qAc _ q
   ·exact qAq _ (by rw [d];exact qAc _ q)
  rcases qAP.mp hy with q| q
  ·rw [q];rcases qAK.mp hz' with q| q
   ·exact h z q
   ·exact zD9 sb e z q
  ·exact M.low z hz' y q
theorem ext_rev {k:Nat} (e:a[n]?=some x) (hk:k<=n) (o:Array Keyed):o++(a.extract k (n+1)).reverse=o.push x++(a.extract k n).reverse:=by
 obtain ⟨d,rfl⟩:∃d,n=k+d:=⟨n - k,by lia⟩;rw [show k+d+1=k+(d+1) by lia,zJf e];apply Array.toList_inj.mp;simp
theorem MH.tAs (sa:Srt κ a.toList) (k:Nat):∀(n:Nat) (out:Array Keyed),k<=n->MH κ a b out n nb->(∀j x,k<=j->j<n->a[j]?=some x->∀y∈b.toList.take nb,le κ y x)->MH κ a b (out++(a.extract k n).reverse) k nb
 | 0,out,hk,M,_=>by
  have:k=0:=by lia
  subst this;have e:a.extract 0 0=#[]:=by simp
  rw [e];simpa using M
 | n+1,out,hk,M,h=>by
  by_cases hkn:k=n+1
  ·subst hkn;have e:a.extract (n+1) (n+1)=#[]:=by simp;lia
   rw [e];simpa using M
  ·have e:a[n]?=some (a[n]'(by have:=M.la;lia)):=by simp
   rw [ext_rev e (by lia)];exact MH.tAs sa k n _ (by lia) (M.tA e sa (h n _ (by lia) (by lia) e)) fun j x h1 h2=>h j x h1 (by lia)
theorem MH.tBs (sb:Srt κ b.toList) (k:Nat):∀(n:Nat) (out:Array Keyed),k<=n->MH κ a b out na n->(∀j x,k<=j->j<n->b[j]?=some x->∀y∈a.toList.take na,le κ y x)->MH κ a b (out++(b.extract k n).reverse) na k
 | 0,out,hk,M,_=>by
  have:k=0:=by lia
  subst this;have e:b.extract 0 0=#[]:=by simp
  rw [e];simpa using M
 | n+1,out,hk,M,h=>by
  by_cases hkn:k=n+1
  ·subst hkn;have e:b.extract (n+1) (n+1)=#[]:=by simp;lia
   rw [e];simpa using M
  ·have e:b[n]?=some (b[n]'(by have:=M.lb;lia)):=by simp
   rw [ext_rev e (by lia)];exact MH.tBs sb k n _ (by lia) (M.tB e sb (h n _ (by lia) (by lia) e)) fun j x h1 h2=>h j x h1 (by lia)
theorem zBx (a:Array Keyed) (n:Nat):(a.extract 0 n).toList=a.toList.take n:=by
 rw [qBb,List.extract_eq_drop_take];simp
theorem MH.doneA (M:MH κ a b out na nb) (sb:Srt κ b.toList) (h:na=0):Fn κ a b (a.extract 0 na++b.extract 0 nb++out.reverse):=by
 subst h;have p:=M.perm;have l:=M.low;rw [qBV,qBj] at p l;refine ⟨?_,?_⟩
 ·rw [qAm,qAm,zBx,zBx,qBV,qBj,qCJ];exact p
 ·rw [qAm,qAm,zBx,zBx,qBV,qBj,qCJ];exact qAz.mpr ⟨zGh sb nb,M.srt,l⟩
theorem MH.doneB (M:MH κ a b out na nb) (sa:Srt κ a.toList) (h:nb=0):Fn κ a b (a.extract 0 na++b.extract 0 nb++out.reverse):=by
 subst h;have p:=M.perm;have l:=M.low;rw [qBV,qAs] at p l;refine ⟨?_,?_⟩
 ·rw [qAm,qAm,zBx,zBx,qBV,qAs,qCJ];exact p
 ·rw [qAm,qAm,zBx,zBx,qBV,qAs,qCJ];exact qAz.mpr ⟨zGh sa na,M.srt,l⟩
theorem MH.first (M:MH κ a b out na nb) (sa:Srt κ a.toList) (h:nb=1) (hf:∀z,b[0]?=some z->∀x∈a.toList,le κ z x):Fn κ a b (b.extract 0 nb++a.extract 0 na++out.reverse):=by
 subst h;have hb:=M.lb;have ei:b[0]?=some (b[0]'(by lia)):=by simp
 have e:b.toList.take 1=[b[0]'(by lia)]:=by
  have:=zIn ei;simpa using this
 refine ⟨?_,?_⟩
 ·rw [qAm,qAm,zBx,zBx,qCJ];exact (List.Perm.append_right _ qC5).trans M.perm
 ·rw [qAm,qAm,zBx,zBx,qCJ];refine qAz.mpr ⟨qAz.mpr ⟨by rw [e];exact qCe _ _,zGh sa na,fun y hy x hx=>?_⟩,M.srt,fun x hx y hy=>M.low x (qAK.mpr (qAK.mp hx).symm) y hy⟩;rw [e] at hy;have:y=b[0]'(by lia):=by simpa using hy
  subst this;exact hf _ ei x (qBS hx)
end
end
section
variable {prog:Program} {w:World} {A:Around} {E:Value->Shared->Prop} {s:Shared} {kd:SortKind} {κ:KeyKind} {a b:Array Keyed}
abbrev CellH:=Option (Array Keyed)×Nat×Nat×Array Keyed×Nat×Nat×Nat
def uA (a b o:Array Keyed) (i j g p q:Nat):StateT SortSt Sem (ForInStep CellH):=do
 let x<-elem' a (i - 1)
 if (i - 1==0)=true then pure (.done (some (a.extract 0 (i - 1)++b.extract 0 j++(o.push x).reverse),i - 1,j,o.push x,g,p,q))
 else if (decide (p<7)&&decide (q<7))=true then pure (.done (none,i - 1,j,o.push x,g,p,q))
 else pure (.yield (none,i - 1,j,o.push x,g,p,q))
def uB (a b o:Array Keyed) (i j g p q:Nat):StateT SortSt Sem (ForInStep CellH):=do
 let y<-elem' b (j - 1)
 if (j - 1==1)=true then pure (.done (some (b.extract 0 (j - 1)++a.extract 0 i++(o.push y).reverse),i,j - 1,o.push y,g,p,q))
 else do
  let x<-elem' a (i - 1)
  let r<-gal true x b 0 (j - 1) (j - 1 - 1)
  match r with
  | some k =>
   if j - 1 - k>0 then
    if (k==1)=true then pure (.done (some (b.extract 0 k++a.extract 0 i++(o.push y++(b.extract k (j - 1)).reverse).reverse),i,k,o.push y++(b.extract k (j - 1)).reverse,g,p,j - 1 - k))
    else if (k==0)=true then pure (.done (some (a.extract 0 i++b.extract 0 k++(o.push y++(b.extract k (j - 1)).reverse).reverse),i,k,o.push y++(b.extract k (j - 1)).reverse,g,p,j - 1 - k))
    else uA a b (o.push y++(b.extract k (j - 1)).reverse) i k g p (j - 1 - k)
   else uA a b (o.push y) i (j - 1) g p (j - 1 - k)
  | _=>pure (.done (some (a.extract 0 i++b.extract 0 (j - 1)++(o.push y).reverse),i,j - 1,o.push y,g,p,q))
def uT (a b o:Array Keyed) (i j g p q:Nat):StateT SortSt Sem (ForInStep CellH):=do
 let y<-elem' b (j - 1)
 let r<-gal false y a 0 i (i - 1)
 match r with
 | some k =>
  if i - k>0 then
   if (k==0)=true then pure (.done (some (a.extract 0 k++b.extract 0 j++(o++(a.extract k i).reverse).reverse),k,j,o++(a.extract k i).reverse,g,i - k,q))
   else uB a b (o++(a.extract k i).reverse) k j g (i - k) q
  else uB a b o i j g (i - k) q
 | _=>pure (.done (some (a.extract 0 i++b.extract 0 j++o.reverse),i,j,o,g,p,q))
def TH (κ:KeyKind) (a b:Array Keyed) (m:Nat) (st3:SortSt) (R:ForInStep CellH->SortSt->Prop):Prop :=
 (∀r o i j g p q,Fn κ a b r->R (.done (some r,i,j,o,g,p,q)) st3)/\(∀o i j g p q,MH κ a b o i j->1<=i->1<j->i+j<=m->R (.done (none,i,j,o,g,p,q)) st3/\R (.yield (none,i,j,o,g,p,q)) st3)
theorem mem_take (h:y∈a.toList.take n):∃j,j<n/\a[j]?=some y:=by
 obtain ⟨j,hj,rfl⟩:=qAt.mp h;rw [qAW] at hj;refine ⟨j,by lia,?_⟩;have:j<a.size:=by simp at hj;lia
 simp [this]
theorem w_uA {o:Array Keyed} {R:ForInStep CellH->SortSt->Prop} (ha:∀x∈a.toList,Has κ x) (sa:Srt κ a.toList) (sb:Srt κ b.toList)
  (M:MH κ a b o i j) (hi:1<=i) (hj:1<j) (hm:i+j<=m+1) (hx:∀x,a[i - 1]?=some x->∀y∈b.toList.take j,le κ y x) (hR:TH κ a b m st3 R):wpS (model prog w) A E s (uA a b o i j g p q) R st3:=by
 have hla:=M.la;obtain ⟨n,rfl⟩:∃n,i=n+1:=⟨i - 1,by lia⟩;obtain ⟨x,ex,_⟩:=zBf ha (show n<a.size by lia);have M2:=M.tA ex sa (hx x ex);refine qAF (zBg ex ?_);show wpS _ _ _ _ (if (n==0)=true then _ else _) _ _
 by_cases d1:(n==0)=true
 ·rw [qAC d1];exact qAH (hR.1 _ _ _ _ _ _ _ (M2.doneA sb (by simpa using d1)))
 ·have d1':¬n=0:=by simpa using d1
  rw [qAB d1];have q:=hR.2 _ _ _ g p q M2 (by lia) hj (by lia);split
  ·exact qAH q.1
  ·exact qAH q.2
theorem w_uB {o:Array Keyed} {R:ForInStep CellH->SortSt->Prop} (C:CmpOk prog w A s kd κ) (hk:kindOf st3=kd) (ha:∀x∈a.toList,Has κ x) (hb:∀x∈b.toList,Has κ x) (sa:Srt κ a.toList) (sb:Srt κ b.toList)
  (hf:∀z,b[0]?=some z->∀x∈a.toList,le κ z x) (M:MH κ a b o i j) (hi:1<=i) (hj:1<j) (hm:i+j<=m+1) (hy:∀y,b[j - 1]?=some y->∀x∈a.toList.take i,le κ x y) (hR:TH κ a b m st3 R) :
  wpS (model prog w) A E s (uB a b o i j g p q) R st3:=by
 have hla:=M.la;have hlb:=M.lb;obtain ⟨n,rfl⟩:∃n,j=n+1:=⟨j - 1,by lia⟩;obtain ⟨y,ey,hyy⟩:=zBf hb (show n<b.size by lia);obtain ⟨x,ex,hxx⟩:=zBf ha (show i - 1<a.size by lia);have M2:=M.tB ey sb (hy y ey);refine qAF (zBg ey ?_);show wpS _ _ _ _ (if (n==1)=true then _ else _) _ _
 by_cases d1:(n==1)=true
 ·rw [qAC d1];exact qAH (hR.1 _ _ _ _ _ _ _ (M2.first sa (by simpa using d1) hf))
 ·have d1':¬n=1:=by simpa using d1
  rw [qAB d1];refine qAF (zBg ex (qAF (w_galB (i:=0) C hk hb sb hxx n (by lia) (show n - 1<n by lia) fun k k1 k2 k3=>?_)))
  have hxa:∀z∈a.toList.take i,le κ z x:=by
   obtain ⟨u,rfl⟩:∃u,i=u+1:=⟨i - 1,by lia⟩;exact zD9 sa ex
  have M3:=MH.tBs sb k n _ k1 M2 fun t z h1 h2 ez u hu=>(hxa u hu).trans (k3 t z h1 h2 (by rw [qCK];exact ez))
  have low:∀v,v∈b.toList.take k->le κ v x:=fun v hv=>by
   obtain ⟨t,ht,et⟩:=mem_take hv;exact le_of_lt (k2 t v ht (by rw [qCK];exact et))
  show wpS _ _ _ _ (if n - k>0 then _ else _) _ _
  by_cases hk0:n - k>0
  ·rw [qAC hk0]
   by_cases d2:(k==1)=true
   ·rw [qAC d2];exact qAH (hR.1 _ _ _ _ _ _ _ (M3.first sa (by simpa using d2) hf))
   ·rw [qAB d2]
    by_cases d3:(k==0)=true
    ·rw [qAC d3];exact qAH (hR.1 _ _ _ _ _ _ _ (M3.doneB sa (by simpa using d3)))
    ·rw [qAB d3];have d2':¬k=1:=by simpa using d2
     have d3':¬k=0:=by simpa using d3
     refine w_uA ha sa sb M3 hi (by lia) (by lia) (fun x' ex' u hu=>?_) hR;rw [ex] at ex'
     cases ex'
     exact low u hu
  ·rw [qAB hk0];have:k=n:=by lia
   subst this;refine w_uA ha sa sb M2 hi (by lia) (by lia) (fun x' ex' u hu=>?_) hR;rw [ex] at ex'
   cases ex'
   exact low u hu
theorem w_uT {o:Array Keyed} {i j g p q m:Nat} {R:ForInStep CellH->SortSt->Prop} (C:CmpOk prog w A s kd κ) (hk:kindOf st3=kd) (ha:∀x∈a.toList,Has κ x) (hb:∀x∈b.toList,Has κ x) (sa:Srt κ a.toList) (sb:Srt κ b.toList)
  (hf:∀z,b[0]?=some z->∀x∈a.toList,le κ z x) (M:MH κ a b o i j) (hi:1<=i) (hj:1<j) (hm:i+j<=m+1) (hR:TH κ a b m st3 R):wpS (model prog w) A E s (uT a b o i j g p q) R st3:=by
 have hla:=M.la;have hlb:=M.lb;obtain ⟨y,ey,hyy⟩:=zBf hb (show j - 1<b.size by lia)
 have hyb:∀z∈b.toList.take j,le κ z y:=by
  obtain ⟨u,rfl⟩:∃u,j=u+1:=⟨j - 1,by lia⟩;exact zD9 sb ey
 refine qAF (zBg ey (qAF (w_galA (i:=0) C hk ha sa hyy i (by lia) (show i - 1<i by lia) fun k k1 k2 k3=>?_)));have M3:=MH.tAs sa k i _ k1 M fun t z h1 h2 ez u hu=>(hyb u hu).trans (le_of_lt (k3 t z h1 h2 (by rw [qCK];exact ez)))
 have low:∀v,v∈a.toList.take k->le κ v y:=fun v hv=>by
  obtain ⟨t,ht,et⟩:=mem_take hv;exact k2 t v ht (by rw [qCK];exact et)
 show wpS _ _ _ _ (if i - k>0 then _ else _) _ _
 by_cases hk0:i - k>0
 ·rw [qAC hk0]
  by_cases d1:(k==0)=true
  ·rw [qAC d1];exact qAH (hR.1 _ _ _ _ _ _ _ (M3.doneA sb (by simpa using d1)))
  ·rw [qAB d1];have d1':¬k=0:=by simpa using d1
   refine w_uB C hk ha hb sa sb hf M3 (by lia) hj (by lia) (fun y' ey'=>?_) hR;rw [ey] at ey'
   cases ey'
   exact low
 ·rw [qAB hk0];have:k=i:=by lia
  subst this;refine w_uB C hk ha hb sa sb hf M hi hj hm (fun y' ey'=>?_) hR;rw [ey] at ey'
  cases ey'
  exact low
theorem w_mHi {Q:Array Keyed->SortSt->Prop} (C:CmpOk prog w A s kd κ) (hk:kindOf st=kd) (ha:∀x∈a.toList,Has κ x) (hb:∀x∈b.toList,Has κ x) (sa:Srt κ a.toList) (sb:Srt κ b.toList) (na:1<=a.size) (nb:1<=b.size)
  (hf:∀z,b[0]?=some z->∀x∈a.toList,le κ z x) (hl:∀z,a[a.size - 1]?=some z->∀y∈b.toList,le κ y z)
  (h:∀r st',Like st st'->Fn κ a b r->Q r st'):wpS (model prog w) A E s (mHi a b) Q st:=by
 refine qAF (qBk (qBR ⟨rfl,?_⟩));obtain ⟨n,hn⟩:∃n,a.size=n+1:=⟨a.size - 1,by lia⟩;obtain ⟨x0,ex,hx⟩:=zBf ha (show n<a.size by lia);have en:a.size - 1=n:=by lia
 refine qAF (zBg (p:=x0) (by rw [en];exact ex) ?_);have M0:MH κ a b #[] (n+1) b.size:=⟨by lia,by lia,by rw [<-hn,qBD (show a.toList.length<=a.size by simp),qBD (show b.toList.length<=b.size by simp)];simp,by simp,by simp⟩
 have M1:MH κ a b #[x0] n b.size:=by
  have:=M0.tA ex sa fun y hy=>hl x0 (by rw [en];exact ex) y (qBS hy);simpa using this
 rw [<-en] at M1;show wpS _ _ _ _ (if (a.size - 1==0)=true then _ else _) _ _
 by_cases c1:(a.size - 1==0)=true
 ·rw [qAC c1];exact qAH (h _ _ (Like.refl _) (M1.doneA sb (by simpa using c1)))
 rw [qAB c1]
 by_cases c2:(b.size==1)=true
 ·rw [qAC c2];exact qAH (h _ _ (Like.refl _) (M1.first sa (by simpa using c2) hf))
 rw [qAB c2];have c1':¬a.size - 1=0:=by simpa using c1
 have c2':¬b.size=1:=by simpa using c2
 refine qAF (qBQ ?_)
 refine qAF (qAv (qA2 (I:=fun x c st'=>Like st st'/\∃out i j g,c=(none,i,j,out,g)/\MH κ a b out i j/\1<=i/\1<j/\i+j+x<=a.size+b.size)
  (Q:=fun c st'=>Like st st'/\∃r out i j g,c=(some r,i,j,out,g)/\Fn κ a b r) ?step ?fin ⟨Like.refl _,_,_,_,_,rfl,M1,by lia,by lia,by lia⟩) ?post)
 case fin =>
  rintro c st' ⟨_,out,i,j,g,rfl,M,h1,h2,h3⟩;lia
 case post =>
  rintro c st' ⟨L,r,out,i,j,g,rfl,F⟩;exact qAH (h r st' L F)
 case step =>
  rintro x c st1 _ hx1 ⟨L1,out0,i0,j0,g0,rfl,M,u1,u2,u3⟩;have hk1:kindOf st1=kd:=L1.kd.trans hk;dsimp only
  refine qAF (qAv (qA2 (I:=fun x c st'=>st'=st1/\∃out i j p q,c=(none,i,j,out,p,q)/\MH κ a b out i j/\1<=i/\1<j/\i+j+x<=i0+j0)
   (Q:=fun c st'=>st'=st1/\((∃r out i j p q,c=(some r,i,j,out,p,q)/\Fn κ a b r)\/∃out i j p q,c=(none,i,j,out,p,q)/\MH κ a b out i j/\1<=i/\1<j/\i+j+1<=i0+j0)) ?step1 ?fin1
   ⟨rfl,_,_,_,_,_,rfl,M,u1,u2,by lia⟩) ?post1)
  case fin1 =>
   rintro c st' ⟨rfl,out,i,j,p,q,rfl,M',v1,v2,v3⟩;exact ⟨rfl,.inr ⟨out,i,j,p,q,rfl,M',v1,v2,by lia⟩⟩
  case step1 =>
   rintro x2 c st' _ hx2 ⟨rfl,out,i,j,p,q,rfl,M',v1,v2,v3⟩;have hla:=M'.la;have hlb:=M'.lb;obtain ⟨n,rfl⟩:∃n,i=n+1:=⟨i - 1,by lia⟩;obtain ⟨m,rfl⟩:∃m,j=m+1:=⟨j - 1,by lia⟩;obtain ⟨yb,eb,hyb⟩:=zBf hb (show m<b.size by lia);obtain ⟨xa,ea,hxa⟩:=zBf ha (show n<a.size by lia);dsimp only;refine qAF (zBg eb (qAF (zBg ea (qAF (w_lt C hk1 hyb hxa ?_)))))
   cases e:κ.blt (kk κ yb) (kk κ xa) with
   | true =>
    show wpS _ _ _ _ (if true=true then _ else _) _ _;rw [qAC rfl];refine qAF (zBg ea ?_);have M2:=M'.tA ea sa fun y hy=>(zD9 sb eb y hy).trans (le_of_lt e);show wpS _ _ _ _ (if (n==0)=true then _ else _) _ _
    by_cases d1:(n==0)=true
    ·rw [qAC d1];exact qAH ⟨rfl,.inl ⟨_,_,_,_,_,_,rfl,M2.doneA sb (by simpa using d1)⟩⟩
    ·have d1':¬n=0:=by simpa using d1
     rw [qAB d1]
     by_cases d2:p+1>=g0
     ·rw [qAC d2];exact qAH ⟨rfl,.inr ⟨_,_,_,_,_,rfl,M2,by lia,v2,by lia⟩⟩
     ·rw [qAB d2];exact qAH ⟨rfl,_,_,_,_,_,rfl,M2,by lia,v2,by lia⟩
   | false =>
    show wpS _ _ _ _ (if false=true then _ else _) _ _;rw [qAB (by decide)];refine qAF (zBg eb ?_);have M2:=M'.tB eb sb fun y hy=>(zD9 sa ea y hy).trans (zCq e);show wpS _ _ _ _ (if (m==1)=true then _ else _) _ _
    by_cases d1:(m==1)=true
    ·rw [qAC d1];exact qAH ⟨rfl,.inl ⟨_,_,_,_,_,_,rfl,M2.first sa (by simpa using d1) hf⟩⟩
    ·have d1':¬m=1:=by simpa using d1
     rw [qAB d1]
     by_cases d2:q+1>=g0
     ·rw [qAC d2];exact qAH ⟨rfl,.inr ⟨_,_,_,_,_,rfl,M2,v1,by lia,by lia⟩⟩
     ·rw [qAB d2];exact qAH ⟨rfl,_,_,_,_,_,rfl,M2,v1,by lia,by lia⟩
  case post1 =>
   rintro c st' ⟨rfl,⟨r,out,i,j,p,q,rfl,F⟩| ⟨out,i,j,p,q,rfl,M',v1,v2,v3⟩⟩
   ·exact qAH ⟨L1,_,_,_,_,_,rfl,F⟩
   ·dsimp only;refine qAF (qBk (qBR ⟨rfl,?_⟩))
    refine qAF (qAv (qA2 (I:=fun x c st'=>Like st st'/\∃out i j g p q,c=(none,i,j,out,g,p,q)/\MH κ a b out i j/\1<=i/\1<j/\i+j+1<=i0+j0)
     (Q:=fun c st'=>Like st st'/\((∃r out i j g p q,c=(some r,i,j,out,g,p,q)/\Fn κ a b r)\/∃out i j g p q,c=(none,i,j,out,g,p,q)/\MH κ a b out i j/\1<=i/\1<j/\i+j+1<=i0+j0)) ?step2 ?fin2
     ⟨L1,_,_,_,_,_,_,rfl,M',v1,v2,v3⟩) ?post2)
    case fin2 =>
     rintro c st' ⟨L,out,i,j,g,p,q,rfl,M',v⟩;exact ⟨L,.inr ⟨_,_,_,_,_,_,rfl,M',v⟩⟩
    case post2 =>
     rintro c st' ⟨L,⟨r,out,i,j,g,p,q,rfl,F⟩| ⟨out,i,j,g,p,q,rfl,M',v1,v2,v3⟩⟩
     ·exact qAH ⟨L,_,_,_,_,_,rfl,F⟩
     ·dsimp only;refine qAF (qA9 (qAH ⟨L.trans ⟨rfl,rfl,rfl,rfl⟩,_,_,_,_,rfl,M',v1,v2,by lia⟩))
    case step2 =>
     rintro x3 c st2 _ hx3 ⟨L2,out,i,j,g,p,q,rfl,M2,w1,w2,w3⟩;dsimp only
     have run:∀g':Nat,wpS (model prog w) A E s (uT a b out i j g' p q) (fun r st'=>match r with
       | .done c'=>Like st st'/\((∃r out i j g p q,c'=(some r,i,j,out,g,p,q)/\Fn κ a b r)\/∃out i j g p q,c'=(none,i,j,out,g,p,q)/\MH κ a b out i j/\1<=i/\1<j/\i+j+1<=i0+j0)
       | .yield c'=>Like st st'/\∃out i j g p q,c'=(none,i,j,out,g,p,q)/\MH κ a b out i j/\1<=i/\1<j/\i+j+1<=i0+j0) (SortSt.mk' (kindOf st2) (arrOf st2) (pendingOf st2) g' (failedOf st2)):=fun g'=>by
      have L3:Like st (SortSt.mk' (kindOf st2) (arrOf st2) (pendingOf st2) g' (failedOf st2)):=L2.trans ⟨rfl,rfl,rfl,rfl⟩;refine w_uT (m:=i0+j0 - 1) C (L3.kd.trans hk) ha hb sa sb hf M2 w1 w2 (by lia) ⟨fun r o i j g p q F=>⟨L3,.inl ⟨_,_,_,_,_,_,_,rfl,F⟩⟩,fun o i j g p q M' h1 h2 h3=>⟨⟨L3,.inr ⟨_,_,_,_,_,_,rfl,M',h1,h2,by lia⟩⟩,⟨L3,_,_,_,_,_,_,rfl,M',h1,h2,by lia⟩⟩⟩
     by_cases d0:g>1
     ·rw [qAC d0];refine qAF (qA9 ?_);refine qAv (m:=uT a b out i j (g - 1) p q) (run (g - 1)) fun r st' hr=>?_
      cases r<;>exact hr
     ·rw [qAB d0];refine qAF (qA9 ?_);refine qAv (m:=uT a b out i j g p q) (run g) fun r st' hr=>?_
      cases r<;>exact hr
end
section
variable {prog:Program} {w:World} {A:Around} {E:Value->Shared->Prop} {s:Shared} {kd:SortKind} {κ:KeyKind}
structure Fr (lo:Nat) (st st':SortSt):Prop where
 kd:kindOf st'=kindOf st
 pn:pendingOf st'=pendingOf st
 fl:failedOf st'=failedOf st
 perm:(arrOf st').Perm (arrOf st)
 low:∀k,k<lo->(arrOf st')[k]?=(arrOf st)[k]?
theorem Fr.refl (lo:Nat) (st:SortSt):Fr lo st st:=⟨rfl,rfl,rfl,qCg _,fun _ _=>rfl⟩
theorem Fr.trans {a b c:SortSt} (h:Fr lo a b) (k:Fr lo b c):Fr lo a c:=⟨k.kd.trans h.kd,k.pn.trans h.pn,k.fl.trans h.fl,k.perm.trans h.perm,fun i hi=>(k.low i hi).trans (h.low i hi)⟩
theorem Fr.size {a b:SortSt} (h:Fr lo a b):(arrOf b).size=(arrOf a).size:=h.perm.size_eq
theorem Fr.rev {lo:Nat} (st:SortSt) (i j:Nat) (hi:lo<=i) (hj:j<=(arrOf st).size):Fr lo st (setArr st (mirror (arrOf st) i j ((j - i) / 2))) :=
 ⟨rfl,rfl,rfl,mirror_perm _ _ _ _,fun k hk=>by
  show (mirror (arrOf st) i j ((j - i) / 2))[k]?=_;rw [getElem?_mirror_all hj,qAB (by lia)]⟩
def All (κ:KeyKind) (st:SortSt):Prop:=∀x∈(arrOf st).toList,Has κ x
theorem All.fr {a b:SortSt} (h:All κ a) (f:Fr lo a b):All κ b:=fun x hx=>h x ((qCh.mp f.perm).mem_iff.mp hx)
theorem All.at (h:All κ st) (hi:i<(arrOf st).size):∃p,(arrOf st)[i]?=some p/\Has κ p:=zBf h hi
def Up (κ:KeyKind) (st:SortSt) (lo n:Nat):Prop:=∀i j,i<=j->j<n->κ.kle (KK κ (arrOf st) (lo+i)) (KK κ (arrOf st) (lo+j))
def Dn (κ:KeyKind) (st:SortSt) (lo n:Nat):Prop:=∀i j,i<=j->j<n->κ.kle (KK κ (arrOf st) (lo+j)) (KK κ (arrOf st) (lo+i))
theorem Up.one (st:SortSt) (lo:Nat):Up κ st lo 1:=fun i j h1 h2=>by
 have e:i=j:=by lia
 rw [e];exact qBl _
theorem Up.more (h:Up κ st lo n) (h1:1<=n) (e:κ.kle (KK κ (arrOf st) (lo+n - 1)) (KK κ (arrOf st) (lo+n))):Up κ st lo (n+1):=fun i j hij hj=>by
 by_cases c:j<n
 ·exact h i j hij c
 ·have ej:j=n:=by lia
  by_cases ci:i=n
  ·rw [ej,ci];exact qBl _
  ·rw [ej];have q:=h i (n - 1) (by lia) (by lia);rw [show lo+(n - 1)=lo+n - 1 by lia] at q;exact qCF q e
theorem Dn.more (h:Dn κ st lo n) (h1:1<=n) (e:κ.kle (KK κ (arrOf st) (lo+n)) (KK κ (arrOf st) (lo+n - 1))):Dn κ st lo (n+1):=fun i j hij hj=>by
 by_cases c:j<n
 ·exact h i j hij c
 ·have ej:j=n:=by lia
  by_cases ci:i=n
  ·rw [ej,ci];exact qBl _
  ·rw [ej];have q:=h i (n - 1) (by lia) (by lia);rw [show lo+(n - 1)=lo+n - 1 by lia] at q;exact qCF e q
theorem w_asc {n0:Nat} {Q:α->SortSt->Prop} (C:CmpOk prog w A s kd κ) (hk:kindOf st=kd) (al:All κ st) (hn:lo+nrem<=(arrOf st).size) (h1:1<=n0) (h2:n0<=nrem) (up:Up κ st lo n0)
  (F:Nat->Option (Option Nat)×Nat->StateT SortSt Sem (ForInStep (Option (Option Nat)×Nat))) (hF:∀x n,F x (none,n)=(do
   let c<-ltAt' (lo+n) (lo+n - 1)
   match c with
   | some c=>if c=true then pure (ForInStep.done (none,n)) else pure (ForInStep.yield (none,n+1))
   | _=>pure (ForInStep.done (some none,n)))) (G:Option (Option Nat)×Nat->StateT SortSt Sem α)
  (hG:∀n,n0<=n->n<=nrem->Up κ st lo n->(n=nrem\/κ.klt (KK κ (arrOf st) (lo+n)) (KK κ (arrOf st) (lo+n - 1)))->wpS (model prog w) A E s (G (none,n)) Q st) :
  wpS (model prog w) A E s (forIn [n0:nrem] ((none,n0):Option (Option Nat)×Nat) F >>= G) Q st:=by
 refine qAF (qA2 (I:=fun x c st'=>st'=st/\c=(none,x)/\x<=nrem/\Up κ st lo x) ?step ?fin ⟨rfl,rfl,h2,up⟩)
 case fin =>
  rintro c st' ⟨rfl,rfl,h3,h4⟩;rw [show max n0 nrem=nrem by lia] at h4 ⊢;exact hG nrem h2 (qAG _) h4 (.inl rfl)
 case step =>
  rintro x c st' hx1 hx2 ⟨rfl,rfl,h3,h4⟩;rw [hF];refine qAF (w_ltAt C hk (al.at (by lia)) (al.at (by lia)) ?_)
  cases e:κ.blt (KK κ (arrOf st') (lo+x)) (KK κ (arrOf st') (lo+x - 1)) with
  | true =>
   show wpS _ _ _ _ (if true=true then _ else _) _ _;rw [qAC rfl];exact qAH (hG x hx1 h3 h4 (.inr e))
  | false =>
   show wpS _ _ _ _ (if false=true then _ else _) _ _;rw [qAB (by decide)];exact qAH ⟨rfl,rfl,by lia,h4.more (by lia) e⟩
theorem rev_up (h:Dn κ st lo n) (hn:lo+n<=(arrOf st).size):Up κ (setArr st (mirror (arrOf st) lo (lo+n) ((lo+n - lo) / 2))) lo n:=fun i j hij hj=>by
 show κ.kle (KK κ (mirror (arrOf st) lo (lo+n) _) (lo+i)) (KK κ (mirror (arrOf st) lo (lo+n) _) (lo+j));rw [KK_mirror hn,KK_mirror hn,qAC (by lia),qAC (by lia)];have q:=h (n - 1 - j) (n - 1 - i) (by lia) (by lia);rw [show lo+(lo+n) - 1 - (lo+i)=lo+(n - 1 - i) by lia,show lo+(lo+n) - 1 - (lo+j)=lo+(n - 1 - j) by lia];exact q
theorem w_tail {Q:Option Nat->SortSt->Prop} (C:CmpOk prog w A s kd κ) (hk:kindOf st=kd) (al:All κ st) (hn:lo+nrem<=(arrOf st).size) (h1:1<=n) (h2:n<=nrem) (dn:Dn κ st lo n)
  (F:Nat->Option (Option Nat)×Nat->StateT SortSt Sem (ForInStep (Option (Option Nat)×Nat))) (hF:∀x n,F x (none,n)=(do
   let c<-ltAt' (lo+n) (lo+n - 1)
   match c with
   | some c=>if c=true then pure (ForInStep.done (none,n)) else pure (ForInStep.yield (none,n+1))
   | _=>pure (ForInStep.done (some none,n)))) (G:Option (Option Nat)×Nat->StateT SortSt Sem (Option Nat)) (hG:∀n,G (none,n)=pure (some n))
  (h:∀m st',Fr lo st st'->1<=m->m<=nrem->Up κ st' lo m->Q (some m) st') :
  wpS (model prog w) A E s (reverseSlice' lo (lo+n) >>= fun _=>forIn [n:nrem] ((none,n):Option (Option Nat)×Nat) F >>= G) Q st:=by
 have f:=Fr.rev (lo:=lo) st lo (lo+n) (qAG _) (by lia);refine qAF (qCi ?_);refine w_asc C (f.kd.trans hk) (al.fr f) (by rw [f.size];exact hn) h1 h2 (rev_up dn (by lia)) F hF G fun m m1 m2 m3 _=>?_;rw [hG];exact qAH (h m _ f (by lia) m2 m3)
theorem eq_rev (hj:j<=(arrOf st).size) (he:∀k,i<=k->k<j->KK κ (arrOf st) k=KK κ (arrOf st) (j - 1)) (k:Nat) :
  KK κ (arrOf (setArr st (mirror (arrOf st) i j ((j - i) / 2)))) k=KK κ (arrOf st) k:=KK_mirror_equal hj he k
theorem Dn.same {st':SortSt} (h:Dn κ st lo n) (e:∀k,KK κ (arrOf st') k=KK κ (arrOf st) k):Dn κ st' lo n:=fun i j h1 h2=>by rw [e,e];exact h i j h1 h2
theorem w_desc {n0:Nat} {Q:α->SortSt->Prop} (C:CmpOk prog w A s kd κ) (hk:kindOf st=kd) (al:All κ st) (hn:lo+nrem<=(arrOf st).size) (h1:1<=n0) (h2:n0<=nrem) (dn:Dn κ st lo n0)
  (F:Nat->Option (Option Nat)×Nat×Nat->StateT SortSt Sem (ForInStep (Option (Option Nat)×Nat×Nat))) (hF:∀x n q,F x (none,n,q)=(ltAt' (lo+n) (lo+n - 1) >>= fun c=>match c with
   | some c=>(if c=true then (if q>0 then (reverseSlice' (lo+n - (q+1)) (lo+n) >>= fun _=>pure (ForInStep.yield (none,n+1,0))) else pure (ForInStep.yield (none,n+1,0)))
    else (ltAt' (lo+n - 1) (lo+n) >>= fun d=>match d with
     | some d=>(if d=true then pure (ForInStep.done (none,n,q)) else pure (ForInStep.yield (none,n+1,q+1)))
     | _=>pure (ForInStep.done (some none,n,q))))
   | _=>pure (ForInStep.done (some none,n,q)))) (G:Option (Option Nat)×Nat×Nat->StateT SortSt Sem α)
  (hG:∀n q st',Fr lo st st'->n0<=n->n<=nrem->Dn κ st' lo n->q+1<=n->(∀k,lo+n - (q+1)<=k->k<lo+n->KK κ (arrOf st') k=KK κ (arrOf st') (lo+n - 1))->wpS (model prog w) A E s (G (none,n,q)) Q st') :
  wpS (model prog w) A E s (forIn [n0:nrem] ((none,n0,0):Option (Option Nat)×Nat×Nat) F >>= G) Q st:=by
 refine qAF (qA2 (I:=fun x c st'=>Fr lo st st'/\∃q,c=(none,x,q)/\x<=nrem/\Dn κ st' lo x/\q+1<=x/\∀k,lo+x - (q+1)<=k->k<lo+x->KK κ (arrOf st') k=KK κ (arrOf st') (lo+x - 1)) ?step ?fin
  ⟨Fr.refl _ _,0,rfl,h2,dn,by lia,fun k k1 k2=>by rw [show k=lo+n0 - 1 by lia]⟩)
 case fin =>
  rintro c st' ⟨f,q,rfl,h3,h4,h5,h6⟩;have e:max n0 nrem=nrem:=by lia
  rw [e] at h4 h5 h6 ⊢;exact hG nrem q st' f h2 (qAG _) h4 h5 h6
 case step =>
  rintro x c st' hx1 hx2 ⟨f,q,rfl,h3,h4,h5,h6⟩;have hz:(arrOf st').size=(arrOf st).size:=f.size;have al':=al.fr f;have hk':=f.kd.trans hk;rw [hF];refine qAF (w_ltAt C hk' (al'.at (by lia)) (al'.at (by lia)) ?_)
  cases e:κ.blt (KK κ (arrOf st') (lo+x)) (KK κ (arrOf st') (lo+x - 1)) with
  | true =>
   show wpS _ _ _ _ (if true=true then _ else _) _ _;rw [qAC rfl];have d2:Dn κ st' lo (x+1):=h4.more (by lia) (qCc e)
   by_cases hq:q>0
   ·rw [qAC hq];have f2:=Fr.rev (lo:=lo) st' (lo+x - (q+1)) (lo+x) (by lia) (by lia);exact qAF (qCi (qAH ⟨f.trans f2,0,rfl,by lia,d2.same (eq_rev (by lia) h6),by lia,fun k k1 k2=>by rw [show k=lo+(x+1) - 1 by lia]⟩))
   ·rw [qAB hq];exact qAH ⟨f,0,rfl,by lia,d2,by lia,fun k k1 k2=>by rw [show k=lo+(x+1) - 1 by lia]⟩
  | false =>
   show wpS _ _ _ _ (if false=true then _ else _) _ _;rw [qAB (by decide)];refine qAF (w_ltAt C hk' (al'.at (by lia)) (al'.at (by lia)) ?_)
   cases e2:κ.blt (KK κ (arrOf st') (lo+x - 1)) (KK κ (arrOf st') (lo+x)) with
   | true =>
    show wpS _ _ _ _ (if true=true then _ else _) _ _;rw [qAC rfl];exact qAH (hG x q st' f hx1 h3 h4 h5 h6)
   | false =>
    show wpS _ _ _ _ (if false=true then _ else _) _ _;rw [qAB (by decide)];have eq:KK κ (arrOf st') (lo+x)=KK κ (arrOf st') (lo+x - 1):=KeyOrd.kle_antisymm e2 e;refine qAH ⟨f,q+1,rfl,by lia,h4.more (by lia) e2,by lia,fun k k1 k2=>?_⟩;rw [show lo+(x+1) - 1=lo+x by lia]
    by_cases ck:k=lo+x
    ·rw [ck]
    ·rw [eq];exact h6 k (by lia) (by lia)
theorem w_count {Q:Option Nat->SortSt->Prop} (C:CmpOk prog w A s kd κ) (hk:kindOf st=kd) (al:All κ st) (hn:lo+nrem<=(arrOf st).size) (h1:1<=nrem)
  (h:∀m st',Fr lo st st'->1<=m->m<=nrem->Up κ st' lo m->Q (some m) st'):wpS (model prog w) A E s (countRun' lo nrem) Q st:=by
 refine w_asc C hk al hn (qAG 1) h1 (Up.one _ _) _ (fun x n=>rfl) _ fun n n1 n2 up ho=>?_;show wpS _ _ _ _ (if (n==nrem)=true then _ else _) _ _
 by_cases c:(n==nrem)=true
 ·rw [qAC c];exact qAH (h n st (Fr.refl _ _) n1 n2 up)
 rw [qAB c];have c':¬n=nrem:=by simpa using c
 have hlt:=ho.resolve_left c';show wpS _ _ _ _ (if n>1 then _ else _) _ _
 by_cases g:n>1
 ·rw [qAC g];refine qAF (w_ltAt C hk (al.at (by lia)) (al.at (by lia)) ?_)
  cases e:κ.blt (KK κ (arrOf st) lo) (KK κ (arrOf st) (lo+n - 1)) with
  | true =>
   show wpS _ _ _ _ (if true=true then _ else _) _ _;rw [qAC rfl];exact qAH (h n st (Fr.refl _ _) n1 n2 up)
  | false =>
   show wpS _ _ _ _ (if false=true then _ else _) _ _;rw [qAB (by decide)]
   have hall:∀k,lo<=k->k<lo+n->KK κ (arrOf st) k=KK κ (arrOf st) (lo+n - 1):=fun k k1 k2=>by
    have a1:=up 0 (k - lo) (by lia) (by lia);have a2:=up (k - lo) (n - 1) (by lia) (by lia);rw [show lo+(k - lo)=k by lia] at a1 a2;rw [show lo+(n - 1)=lo+n - 1 by lia] at a2;exact KeyOrd.kle_antisymm a2 (qCF e a1)
   have f1:=Fr.rev (lo:=lo) st lo (lo+n) (qAG _) (by lia);refine qAF (qCi ?_);have same:=eq_rev (κ:=κ) (st:=st) (i:=lo) (j:=lo+n) (by lia) hall
   have dn:Dn κ (setArr st (mirror (arrOf st) lo (lo+n) ((lo+n - lo) / 2))) lo (n+1):=by
    have d0:Dn κ st lo n:=fun i j i1 i2=>by
     rw [hall (lo+i) (by lia) (by lia),hall (lo+j) (by lia) (by lia)];exact qBl _
    exact (d0.more n1 (qCc hlt)).same same
   refine qAF (qBk (qBR ⟨rfl,?_⟩));refine w_desc C (f1.kd.trans hk) (al.fr f1) (by rw [f1.size];exact hn) (by lia) (by lia) dn _ (fun x n q=>rfl) _ fun m q st2 f2 m1 m2 dm q1 q2=>?_;have hz:(arrOf st2).size=(arrOf st).size:=(f1.trans f2).size;show wpS _ _ _ _ (if q>0 then _ else _) _ _
   by_cases hq:q>0
   ·rw [qAC hq];have f3:=Fr.rev (lo:=lo) st2 (lo+m - (q+1)) (lo+m) (by lia) (by lia);refine qAF (qCi ?_);refine w_tail C (f3.kd.trans ((f1.trans f2).kd.trans hk)) ((al.fr (f1.trans f2)).fr f3) (by rw [f3.size,hz];exact hn) (by lia) m2 (dm.same (eq_rev (by lia) q2)) _ (fun x n=>rfl) _ (fun n=>rfl) fun m' st' f'=>h m' st' (((f1.trans f2).trans f3).trans f')
   ·rw [qAB hq];refine w_tail C ((f1.trans f2).kd.trans hk) (al.fr (f1.trans f2)) (by rw [hz];exact hn) (by lia) m2 dm _ (fun x n=>rfl) _ (fun n=>rfl) fun m' st' f'=>h m' st' ((f1.trans f2).trans f')
 ·rw [qAB g];have en:n=1:=by lia
  subst en
  have dn:Dn κ st lo (1+1):=Dn.more (fun i j i1 i2=>by
   have e:i=j:=by lia
   rw [e];exact qBl _) (qAG _) (qCc hlt)
  refine qAF (qBk (qBR ⟨rfl,?_⟩));refine w_desc C hk al hn (by lia) (by lia) dn _ (fun x n q=>rfl) _ fun m q st2 f2 m1 m2 dm q1 q2=>?_;have hz:(arrOf st2).size=(arrOf st).size:=f2.size;show wpS _ _ _ _ (if q>0 then _ else _) _ _
  by_cases hq:q>0
  ·rw [qAC hq];have f3:=Fr.rev (lo:=lo) st2 (lo+m - (q+1)) (lo+m) (by lia) (by lia);refine qAF (qCi ?_);refine w_tail C (f3.kd.trans (f2.kd.trans hk)) ((al.fr f2).fr f3) (by rw [f3.size,hz];exact hn) (by lia) m2 (dm.same (eq_rev (by lia) q2)) _ (fun x n=>rfl) _ (fun n=>rfl) fun m' st' f'=>h m' st' ((f2.trans f3).trans f')
  ·rw [qAB hq];refine w_tail C (f2.kd.trans hk) (al.fr f2) (by rw [hz];exact hn) (by lia) m2 dm _ (fun x n=>rfl) _ (fun n=>rfl) fun m' st' f'=>h m' st' (f2.trans f')
theorem w_ins {ok:Nat} {Q:Bool->SortSt->Prop} (C:CmpOk prog w A s kd κ) (hk:kindOf st=kd) (al:All κ st) (hn:lo+n<=(arrOf st).size) (ho:ok<=n) (h1:1<=ok) (up:Up κ st lo ok)
  (h:∀st',Fr lo st st'->Up κ st' lo n->Q true st'):wpS (model prog w) A E s (binarySort' lo n ok) Q st:=by
 refine qAF (qAv (qA2 (I:=fun k c st'=>c=(none,())/\Fr lo st st'/\k<=n/\Up κ st' lo k) (Q:=fun c st'=>c=(none,())/\Fr lo st st'/\Up κ st' lo n) ?step ?fin ⟨rfl,Fr.refl _ _,by lia,by rw [show max ok 1=ok by lia];exact up⟩) ?post)
 case post =>
  rintro c st' ⟨rfl,f,u⟩;exact qAH (h st' f u)
 case fin =>
  rintro c st' ⟨hc,f,_,u⟩;rw [show max (max ok 1) n=n by lia] at u;exact ⟨hc,f,u⟩
 case step =>
  rintro k c st' hk1 hk2 ⟨rfl,f,_,u⟩;have hz:(arrOf st').size=(arrOf st).size:=f.size;have al':=al.fr f;have hkd:=f.kd.trans hk
  refine qAF (qAv (qA2 (I:=fun x c st2=>st2=st'/\∃l r,c=(none,l,r)/\l<=r/\r<=k/\r - l<=k - x/\(∀i,i<l->κ.kle (KK κ (arrOf st') (lo+i)) (KK κ (arrOf st') (lo+k)))/\(∀i,r<=i->i<k->κ.klt (KK κ (arrOf st') (lo+k)) (KK κ (arrOf st') (lo+i))))
   (Q:=fun c st2=>st2=st'/\∃l r,c=(none,l,r)/\l<=k/\(∀i,i<l->κ.kle (KK κ (arrOf st') (lo+i)) (KK κ (arrOf st') (lo+k)))/\(∀i,l<=i->i<k->κ.klt (KK κ (arrOf st') (lo+k)) (KK κ (arrOf st') (lo+i)))) ?s2 ?f2
   ⟨rfl,0,k,rfl,by lia,by lia,by lia,fun i hi=>by lia,fun i i1 i2=>by lia⟩) ?p2)
  case f2 =>
   rintro c st2 ⟨rfl,l,r,rfl,a1,a2,a3,a4,a5⟩;have e:l=r:=by lia
   subst e;exact ⟨rfl,l,l,rfl,a2,a4,a5⟩
  case s2 =>
   rintro x c st2 _ hx ⟨rfl,l,r,rfl,a1,a2,a3,a4,a5⟩;dsimp only
   by_cases g:l>=r
   ·rw [qAC g];have e:l=r:=by lia
    subst e;exact qAH ⟨rfl,l,l,rfl,a2,a4,a5⟩
   ·rw [qAB g];refine qAF (w_ltAt C hkd (al'.at (by lia)) (al'.at (by lia)) ?_)
    cases e:κ.blt (KK κ (arrOf st2) (lo+k)) (KK κ (arrOf st2) (lo+(l+r) / 2)) with
    | true =>
     show wpS _ _ _ _ (if true=true then _ else _) _ _;rw [qAC rfl];exact qAH ⟨rfl,l,(l+r) / 2,rfl,by lia,by lia,by lia,a4,fun i i1 i2=>KeyOrd.klt_of_klt_of_kle e (u _ _ i1 i2)⟩
    | false =>
     show wpS _ _ _ _ (if false=true then _ else _) _ _;rw [qAB (by decide)];exact qAH ⟨rfl,(l+r) / 2+1,r,rfl,by lia,by lia,by lia,fun i i1=>qCF (u i ((l+r) / 2) (by lia) (by lia)) (show κ.kle _ _ from e),a5⟩
  case p2 =>
   rintro c st2 ⟨rfl,l,r,rfl,a1,a2,a3⟩;show wpS _ _ _ _ (moveDown' (lo+k) (lo+l) >>= fun _=>pure (ForInStep.yield (none,()))) _ _;rw [moveDown'_eq];have hs:lo+k<(arrOf st2).size:=by lia
   refine qAF (qA9 (qAH ⟨rfl,f.trans ⟨rfl,rfl,rfl,bubble_perm _ _ _,fun i hi=>?_⟩,by lia,fun i j i1 i2=>?_⟩))
   ·show (bubble (arrOf st2) (lo+k) (lo+k - (lo+l)))[i]?=_;rw [getElem?_bubble hs _ (by lia),qAB (by lia),qAB (by lia)]
   ·show κ.kle (KK κ (bubble (arrOf st2) (lo+k) (lo+k - (lo+l))) (lo+i)) (KK κ (bubble (arrOf st2) (lo+k) (lo+k - (lo+l))) (lo+j));rw [KK_bubble hs (by lia),KK_bubble hs (by lia),show lo+k - (lo+k - (lo+l))=lo+l by lia]
    by_cases c1:lo+i=lo+l
    ·rw [qAC c1]
     by_cases c2:lo+j=lo+l
     ·rw [qAC c2];exact qBl _
     ·rw [qAB c2,qAC (by lia)];have q:=a3 (j - 1) (by lia) (by lia);rw [show lo+(j - 1)=lo+j - 1 by lia] at q;exact qCc q
    ·rw [qAB c1]
     by_cases c2:lo+j=lo+l
     ·rw [qAC c2,qAB (by lia)];exact a2 i (by lia)
     ·rw [qAB c2]
      by_cases c3:lo+l<lo+i/\lo+i<=lo+k
      ·rw [qAC c3,qAC (by lia)];have q:=u (i - 1) (j - 1) (by lia) (by lia);rw [show lo+(i - 1)=lo+i - 1 by lia,show lo+(j - 1)=lo+j - 1 by lia] at q;exact q
      ·rw [qAB c3]
       by_cases c4:lo+l<lo+j/\lo+j<=lo+k
       ·rw [qAC c4];have q:=u i (j - 1) (by lia) (by lia);rw [show lo+(j - 1)=lo+j - 1 by lia] at q;exact q
       ·rw [qAB c4];exact u i j i1 (by lia)
end
section
variable {prog:Program} {w:World} {A:Around} {E:Value->Shared->Prop} {s:Shared} {kd:SortKind} {κ:KeyKind}
theorem w_set {M:Model} {σ:Type} {st st':σ} {Q:PUnit->σ->Prop} (h:Q ⟨⟩ st'):wpS M A E s (set st':StateT σ Sem PUnit) Q st:=by
 unfold wpS;rw [StateT.run_set];exact qAE ⟨rfl,h⟩
theorem splice:∀(m:List Keyed) (arr:Array Keyed) (sa k:Nat),sa+k+m.length<=arr.size ->
  ((m.zipIdx k).foldl (fun a x=>match x with| (p,j)=>a.setIfInBounds (sa+j) p) arr).toList=arr.toList.take (sa+k)++m++arr.toList.drop (sa+k+m.length)
 | [],arr,sa,k,_=>by simp
 | p::r,arr,sa,k,h=>by
  rw [qAb] at h;have hk:sa+k<arr.size:=by lia
  rw [List.zipIdx_cons,qBi];show ((r.zipIdx (k+1)).foldl _ (arr.setIfInBounds (sa+k) p)).toList=_;rw [splice r (arr.setIfInBounds (sa+k) p) sa (k+1) (by rw [qDV];lia)];have e:(arr.setIfInBounds (sa+k) p).toList=arr.toList.set (sa+k) p:=by simp
  have hl:sa+k<arr.toList.length:=by simpa using hk
  rw [e,show sa+(k+1)=sa+k+1 by lia,qAb,show sa+k+(r.length+1)=sa+k+1+r.length by lia]
  have e1:(arr.toList.set (sa+k) p).take (sa+k+1)=arr.toList.take (sa+k)++[p]:=by
   rw [qCH,qDR hl,List.take_set_of_le (qAG _)];rfl
  have e2:(arr.toList.set (sa+k) p).drop (sa+k+1+r.length)=arr.toList.drop (sa+k+1+r.length):=List.drop_set_of_lt (by lia);rw [e1,e2];simp
def seg (arr:Array Keyed) (lo n:Nat):List Keyed:=(arr.toList.drop lo).take n
theorem zDw (hi:i<n):(seg arr lo n)[i]?=arr[lo+i]?:=by
 unfold seg;rw [qCV hi,qBc];simp
theorem zDg (h:lo+n<=arr.size):(seg arr lo n).length=n:=by
 unfold seg;rw [qAW,qBO];simp;lia
theorem up_srt {st:SortSt} (h:lo+n<=(arrOf st).size):Up κ st lo n↔Srt κ (seg (arrOf st) lo n):=by
 have hl:=zDg h
 have at':∀i (hi:i<(seg (arrOf st) lo n).length),KK κ (arrOf st) (lo+i)=kk κ (seg (arrOf st) lo n)[i]:=fun i hi=>by
  have e:(seg (arrOf st) lo n)[i]?=some (seg (arrOf st) lo n)[i]:=by simp
  rw [zDw (by lia)] at e;exact zDf e
 constructor
 ·intro u;refine qC6.mpr fun i j hi hj hij=>?_;show κ.kle _ _;rw [<-at' i hi,<-at' j hj];exact u i j (by lia) (by lia)
 ·intro p i j hij hj;rw [at' i (by lia),at' j (by lia)]
  by_cases e:i=j
  ·subst e;exact qBl _
  ·exact qC6.mp p i j (by lia) (by lia) (by lia)
theorem zEu (lo n m:Nat):seg arr lo (n+m)=seg arr lo n++seg arr (lo+n) m:=by
 unfold seg;rw [List.take_add,List.drop_drop]
theorem seg_ext :(arr.extract lo (lo+n)).toList=seg arr lo n:=by
 rw [qBb,List.extract_eq_drop_take,show lo+n - lo=n by lia];rfl
theorem list_parts {arr:Array Keyed} (lo n:Nat):arr.toList=arr.toList.take lo++(seg arr lo n++arr.toList.drop (lo+n)):=by
 unfold seg;rw [<-List.drop_drop,qCL,qCL]
theorem take_two (p r t:List Keyed) (n:Nat) (h:p.length+r.length<=n):(p++(r++t)).take n=p++(r++t.take (n - p.length - r.length)):=by
 rw [List.take_append,qBD (show p.length<=n by lia),List.take_append,qBD (show r.length<=n - p.length by lia)]
theorem w_mergeAt {sa na pw nb pw2:Nat} {Q:Bool->SortSt->Prop} (C:CmpOk prog w A s kd κ) (hk:kindOf st=kd) (al:All κ st) (hp1:(pendingOf st)[i]?=some (sa,na,pw)) (hp2:(pendingOf st)[i+1]?=some (sa+na,nb,pw2))
  (h1:1<=na) (h2:1<=nb) (hz:sa+na+nb<=(arrOf st).size) (ua:Up κ st sa na) (ub:Up κ st (sa+na) nb) (hfl:failedOf st=none)
  (h:∀st',kindOf st'=kindOf st->failedOf st'=none->pendingOf st'=((pendingOf st).setIfInBounds i (sa,na+nb,pw)).eraseIdxIfInBounds (i+1)->(arrOf st').Perm (arrOf st) ->
   (∀k,k<sa\/sa+(na+nb)<=k->(arrOf st')[k]?=(arrOf st)[k]?)->Up κ st' sa (na+nb)->Q true st'):wpS (model prog w) A E s (mergeAt' i) Q st:=by
 have hE:∀p:Array (Nat×Nat×Nat),∃st1:SortSt,st1=setPending st p:=fun p=>⟨_,rfl⟩;obtain ⟨st1,e1⟩:=hE (((pendingOf st).setIfInBounds i (sa,na+nb,pw)).eraseIdxIfInBounds (i+1));have ka:kindOf st1=kindOf st:=by rw [e1]
 have fa:failedOf st1=failedOf st:=by rw [e1]
 have pa:pendingOf st1=((pendingOf st).setIfInBounds i (sa,na+nb,pw)).eraseIdxIfInBounds (i+1):=by rw [e1]
 have aa:arrOf st1=arrOf st:=by rw [e1]
 have SA:=(up_srt (κ:=κ) (st:=st) (lo:=sa) (n:=na) (by lia)).mp ua;have SB:=(up_srt (κ:=κ) (st:=st) (lo:=sa+na) (n:=nb) (by lia)).mp ub
 have plain:(∀x∈seg (arrOf st) sa na,∀y∈seg (arrOf st) (sa+na) nb,le κ x y)->Q true st1:=fun hle=>by
  refine h st1 ka (fa.trans hfl) pa (by rw [aa]) (fun k _=>by rw [aa]) ?_;refine (up_srt (by rw [aa];lia)).mpr ?_;rw [aa,zEu];exact qAz.mpr ⟨SA,SB,hle⟩
 refine qAF (qBQ ?_);show wpS _ _ _ _ (match ((pendingOf st)[i]?,(pendingOf st)[i+1]?) with| _=>_) _ _;rw [hp1,hp2];refine qAF (w_set ?_);show wpS _ _ _ _ _ _ (setPending st (((pendingOf st).setIfInBounds i (sa,na+nb,pw)).eraseIdxIfInBounds (i+1)));rw [<-e1];obtain ⟨y0,ey0,hy0⟩:=al.at (show sa+na<(arrOf st).size by lia);refine qAF (zBg ey0 ?_)
 have memA:∀x∈seg (arrOf st) sa na,∃j,j<na/\(arrOf st)[sa+j]?=some x:=fun x hx=>by
  obtain ⟨j,hj,rfl⟩:=qAt.mp hx;have hj':j<na:=by rw [zDg (by lia)] at hj;exact hj
  exact ⟨j,hj',by rw [<-zDw hj'];simp⟩
 have memB:∀x∈seg (arrOf st) (sa+na) nb,∃j,j<nb/\(arrOf st)[sa+na+j]?=some x:=fun x hx=>by
  obtain ⟨j,hj,rfl⟩:=qAt.mp hx;have hj':j<nb:=by rw [zDg (by lia)] at hj;exact hj
  exact ⟨j,hj',by rw [<-zDw hj'];simp⟩
 have inA:∀j x,j<na->(arrOf st)[sa+j]?=some x->x∈seg (arrOf st) sa na:=fun j x hj e=>qAI (i:=j) (by rw [zDw hj];exact e);have inB:∀j x,j<nb->(arrOf st)[sa+na+j]?=some x->x∈seg (arrOf st) (sa+na) nb:=fun j x hj e=>qAI (i:=j) (by rw [zDw hj];exact e)
 have upA:∀{j j':Nat} {x x':Keyed},j<=j'->j'<na->(arrOf st)[sa+j]?=some x->(arrOf st)[sa+j']?=some x'->le κ x x':=fun {j j' x x'} hj hj' e e'=>by
  have q:=ua j j' hj hj';rw [zDf e,zDf e'] at q;exact q
 have upB:∀{j j':Nat} {x x':Keyed},j<=j'->j'<nb->(arrOf st)[sa+na+j]?=some x->(arrOf st)[sa+na+j']?=some x'->le κ x x':=fun {j j' x x'} hj hj' e e'=>by
  have q:=ub j j' hj hj';rw [zDf e,zDf e'] at q;exact q
 have y0le:∀y∈seg (arrOf st) (sa+na) nb,le κ y0 y:=fun y hy=>by
  obtain ⟨j,hj,e⟩:=memB y hy;exact upB (qAj j) hj (by simpa using ey0) e
 refine qAF (w_gal (κ:=κ) (fun j=>!κ.blt (kk κ y0) (KK κ (arrOf st) (sa+j))) C (ka.trans hk) hy0 (fun j hj=>al.at (by lia)) (fun j hj=>rfl) (fun u v huv hv e=>?_) (show 0<na by lia) fun k G=>?_)
 ·have q:=ua u v huv hv;have e:κ.blt (kk κ y0) (KK κ (arrOf st) (sa+v))=false:=by simpa using e
  have:κ.blt (kk κ y0) (KK κ (arrOf st) (sa+u))=false:=qCF q e;show (!κ.blt (kk κ y0) (KK κ (arrOf st) (sa+u)))=true;rw [this];rfl
 have lowA:∀j x,j<k->(arrOf st)[sa+j]?=some x->le κ x y0:=fun j x hj e=>by
  have:=G.lo j hj;rw [zDf e] at this;exact zCq (by simpa using this)
 have highA:∀j x,k<=j->j<na->(arrOf st)[sa+j]?=some x->le κ y0 x:=fun j x hj hj' e=>by
  have:=G.hi j hj hj';rw [zDf e] at this;exact le_of_lt (by simpa using this)
 have hkn:=G.le;show wpS _ _ _ _ (if (na - k==0)=true then _ else _) _ _
 by_cases c1:(na - k==0)=true
 ·rw [qAC c1];have c1':na - k=0:=by simpa using c1
  refine qAH (plain fun x hx y hy=>?_);obtain ⟨j,hj,e⟩:=memA x hx;exact (lowA j x (by lia) e).trans (y0le y hy)
 rw [qAB c1];have c1':¬na - k=0:=by simpa using c1
 obtain ⟨z,ez,hz'⟩:=al.at (show sa+k+(na - k) - 1<(arrOf st).size by lia);have ez':(arrOf st)[sa+(na - 1)]?=some z:=by rw [show sa+(na - 1)=sa+k+(na - k) - 1 by lia];exact ez
 refine qAF (zBg ez ?_)
 have zge:∀x∈seg (arrOf st) sa na,le κ x z:=fun x hx=>by
  obtain ⟨j,hj,e⟩:=memA x hx;exact upA (show j<=na - 1 by lia) (by lia) e ez'
 refine qAF (w_gal (κ:=κ) (fun j=>κ.blt (KK κ (arrOf st) (sa+na+j)) (kk κ z)) C (ka.trans hk) hz' (fun j hj=>al.at (by lia)) (fun j hj=>rfl) (fun u v huv hv e=>?_) (show nb - 1<nb by lia) fun m G2=>?_)
 ·exact KeyOrd.klt_of_kle_of_klt (ub u v huv hv) e
 have lowB:∀j y,j<m->(arrOf st)[sa+na+j]?=some y->le κ y z:=fun j y hj e=>by
  have:=G2.lo j hj;rw [zDf e] at this;exact le_of_lt this
 have highB:∀j y,m<=j->j<nb->(arrOf st)[sa+na+j]?=some y->le κ z y:=fun j y hj hj' e=>by
  have:=G2.hi j hj hj';rw [zDf e] at this;exact zCq this
 have hmn:=G2.le;show wpS _ _ _ _ (if (m==0)=true then _ else _) _ _
 by_cases c2:(m==0)=true
 ·rw [qAC c2];have c2':m=0:=by simpa using c2
  refine qAH (plain fun x hx y hy=>?_);obtain ⟨j,hj,e⟩:=memB y hy;exact (zge x hx).trans (highB j y (by lia) hj e)
 rw [qAB c2];have c2':¬m=0:=by simpa using c2
 have eX:((arrOf st).extract (sa+k) (sa+na)).toList=seg (arrOf st) (sa+k) (na - k):=by
  rw [<-seg_ext,show sa+k+(na - k)=sa+na by lia]
 have eY:((arrOf st).extract (sa+na) (sa+na+m)).toList=seg (arrOf st) (sa+na) m:=seg_ext;have zX:((arrOf st).extract (sa+k) (sa+na)).size=na - k:=by simp;lia
 have zY:((arrOf st).extract (sa+na) (sa+na+m)).size=m:=by simp;lia
 have splA:seg (arrOf st) sa na=seg (arrOf st) sa k++seg (arrOf st) (sa+k) (na - k):=by rw [<-zEu,show k+(na - k)=na by lia]
 have splB:seg (arrOf st) (sa+na) nb=seg (arrOf st) (sa+na) m++seg (arrOf st) (sa+na+m) (nb - m):=by rw [<-zEu,show m+(nb - m)=nb by lia]
 have SX:Srt κ (seg (arrOf st) (sa+k) (na - k)):=by rw [splA] at SA;exact (qAz.mp SA).2.1
 have SY:Srt κ (seg (arrOf st) (sa+na) m):=by rw [splB] at SB;exact (qAz.mp SB).1
 have memX:∀x∈seg (arrOf st) (sa+k) (na - k),∃j,k<=j/\j<na/\(arrOf st)[sa+j]?=some x:=fun x hx=>by
  obtain ⟨j,hj,rfl⟩:=qAt.mp hx;have hj':j<na - k:=by rw [zDg (by lia)] at hj;exact hj
  exact ⟨k+j,by lia,by lia,by rw [<-Nat.add_assoc,<-zDw hj'];simp⟩
 have memY:∀x∈seg (arrOf st) (sa+na) m,∃j,j<m/\(arrOf st)[sa+na+j]?=some x:=fun x hx=>by
  obtain ⟨j,hj,rfl⟩:=qAt.mp hx;have hj':j<m:=by rw [zDg (by lia)] at hj;exact hj
  exact ⟨j,hj',by rw [<-zDw hj'];simp⟩
 have hX:∀x∈((arrOf st).extract (sa+k) (sa+na)).toList,Has κ x:=fun x hx=>by
  rw [eX] at hx;obtain ⟨j,_,_,e⟩:=memX x hx;exact al x (qAI (i:=sa+j) (by simpa using e))
 have hY:∀x∈((arrOf st).extract (sa+na) (sa+na+m)).toList,Has κ x:=fun x hx=>by
  rw [eY] at hx;obtain ⟨j,_,e⟩:=memY x hx;exact al x (qAI (i:=sa+na+j) (by simpa using e))
 have at0:∀v,((arrOf st).extract (sa+na) (sa+na+m))[0]?=some v->v=y0:=fun v e=>by
  have e':(((arrOf st).extract (sa+na) (sa+na+m)).toList)[0]?=some v:=by rw [qAo];exact e
  rw [eY,zDw (by lia)] at e';rw [qCj,ey0] at e';exact (qAZ e').symm
 have atL:∀v,((arrOf st).extract (sa+k) (sa+na))[((arrOf st).extract (sa+k) (sa+na)).size - 1]?=some v->v=z:=fun v e=>by
  rw [zX] at e;have e':(((arrOf st).extract (sa+k) (sa+na)).toList)[na - k - 1]?=some v:=by rw [qAo];exact e
  rw [eX,zDw (by lia),show sa+k+(na - k - 1)=sa+(na - 1) by lia,ez'] at e';exact (qAZ e').symm
 have hl:∀v,((arrOf st).extract (sa+k) (sa+na))[((arrOf st).extract (sa+k) (sa+na)).size - 1]?=some v->∀y∈((arrOf st).extract (sa+na) (sa+na+m)).toList,le κ y v:=fun v e y hy=>by
  rw [atL v e];rw [eY] at hy;obtain ⟨j,hj,e⟩:=memY y hy;exact lowB j y hj e
 have hf:∀v,((arrOf st).extract (sa+na) (sa+na+m))[0]?=some v->∀x∈((arrOf st).extract (sa+k) (sa+na)).toList,le κ v x:=fun v e x hx=>by
  rw [at0 v e];rw [eX] at hx;obtain ⟨j,hj,hj',e⟩:=memX x hx;exact highA j x hj hj' e
 have fin:∀(r:Array Keyed) (st2:SortSt),Like st1 st2->Fn κ ((arrOf st).extract (sa+k) (sa+na)) ((arrOf st).extract (sa+na) (sa+na+m)) r ->
   wpS (model prog w) A E s (modify (fun s:SortSt=>SortSt.mk' (kindOf s) (r.toList.zipIdx.foldl (fun a x=>match x with| (p,j)=>a.setIfInBounds (sa+k+j) p) (arrOf s)) (pendingOf s) (gallopOf s) (failedOf s)) >>= fun _=>(get:StateT SortSt Sem SortSt) >>= fun s=>pure (failedOf s).isNone) Q st2:=fun r st2 L F=>by
  have ar2:arrOf st2=arrOf st:=L.ar.trans aa;have fl2:failedOf st2=none:=L.fl.trans (fa.trans hfl)
  have pr:r.toList.Perm (seg (arrOf st) (sa+k) (na - k)++seg (arrOf st) (sa+na) m):=by
   have:=F.perm;rw [eX,eY] at this;exact this
  have lr:r.toList.length=na - k+m:=by
   have:=pr.length_eq;rw [qAU,zDg (by lia),zDg (by lia)] at this;exact this
  have sp:=splice r.toList (arrOf st2) (sa+k) 0 (by rw [ar2];lia);rw [ar2,qCj,lr] at sp
  have mid:seg (arrOf st) (sa+k) (na - k+m)=seg (arrOf st) (sa+k) (na - k)++seg (arrOf st) (sa+na) m:=by
   rw [zEu,show sa+k+(na - k)=sa+na by lia]
  have parts:=list_parts (arr:=arrOf st) (sa+k) (na - k+m);refine qAF (qA9 (qAF (qBQ ?_)));have e3:(failedOf st2).isNone=true:=by rw [fl2];rfl
  show wpS _ _ _ _ (pure (failedOf st2).isNone) _ _;rw [e3,ar2];generalize hR:(r.toList.zipIdx.foldl (fun a x=>match x with| (p,j)=>a.setIfInBounds (sa+k+j) p) (arrOf st))=R at sp;refine qAH (h _ (L.kd.trans ka) fl2 (L.pn.trans pa) ?_ ?_ ?_)
  ·show R.Perm (arrOf st);apply qCh.mpr;rw [sp];refine List.Perm.trans ?_ (List.Perm.of_eq parts.symm);rw [qAy,mid];exact qCd _ (List.Perm.append_right _ pr)
  ·intro t ht;show R[t]?=_;have e5:R[t]?=R.toList[t]?:=by simp
   have e6:(arrOf st)[t]?=(arrOf st).toList[t]?:=by simp
   have hlt:((arrOf st).toList.take (sa+k)).length=sa+k:=by rw [qAW];simp;lia
   rw [e5,e6,sp];rcases ht with ht| ht
   ·rw [qAy,qA6 (by lia),qCV (by lia)]
   ·rw [qBT (by rw [qAU,hlt,lr];lia),qAU,hlt,lr,qBc];congr 1;lia
  ·have hRz:R.size=(arrOf st).size:=by
    rw [<-hR];have:=qAg List.length sp;rw [hR];simp only [qAU,qAW,qBO,lr,qBM] at this;lia
   refine (up_srt (st:=SortSt.mk' (kindOf st2) R (pendingOf st2) (gallopOf st2) (failedOf st2)) (by show sa+(na+nb)<=R.size;lia)).mpr ?_;show Srt κ (seg R sa (na+nb))
   have e7:seg R sa (na+nb)=seg (arrOf st) sa k++(r.toList++seg (arrOf st) (sa+na+m) (nb - m)):=by
    unfold seg;rw [sp];have hlt:((arrOf st).toList.take sa).length=sa:=by rw [qAW];simp;lia
    have e8:(arrOf st).toList.take (sa+k)=(arrOf st).toList.take sa++((arrOf st).toList.drop sa).take k:=by rw [List.take_add]
    rw [e8,qAy,qAy,List.drop_append_of_le_length (by lia),qC4 (by lia),qBj];have l1:(((arrOf st).toList.drop sa).take k).length=k:=by rw [qAW,qBO];simp;lia
    rw [take_two _ _ _ _ (by rw [l1,lr];lia),l1,lr];rw [show na+nb - k - (na - k+m)=nb - m by lia,show sa+k+(na - k+m)=sa+na+m by lia]
   rw [e7];have rm:∀x∈r.toList,x∈seg (arrOf st) (sa+k) (na - k)\/x∈seg (arrOf st) (sa+na) m:=fun x hx=>qAK.mp (pr.mem_iff.mp hx)
   have tailM:∀y∈seg (arrOf st) (sa+na+m) (nb - m),∃j,m<=j/\j<nb/\(arrOf st)[sa+na+j]?=some y:=fun y hy=>by
    obtain ⟨j,hj,rfl⟩:=qAt.mp hy;have hj':j<nb - m:=by rw [zDg (by lia)] at hj;exact hj
    exact ⟨m+j,by lia,by lia,by rw [<-Nat.add_assoc,<-zDw hj'];simp⟩
   have headM:∀y∈seg (arrOf st) sa k,∃j,j<k/\(arrOf st)[sa+j]?=some y:=fun y hy=>by
    obtain ⟨j,hj,rfl⟩:=qAt.mp hy;have hj':j<k:=by rw [zDg (by lia)] at hj;exact hj
    exact ⟨j,hj',by rw [<-zDw hj'];simp⟩
   refine qAz.mpr ⟨by rw [splA] at SA;exact (qAz.mp SA).1,qAz.mpr ⟨F.srt,by rw [splB] at SB;exact (qAz.mp SB).2.1,fun x hx y hy=>?_⟩,fun x hx y hy=>?_⟩
   ·obtain ⟨j,hj,hj',e⟩:=tailM y hy;rcases rm x hx with q| q
    ·obtain ⟨j2,_,hj2,e2⟩:=memX x q;exact (zge x (inA j2 x hj2 e2)).trans (highB j y hj hj' e)
    ·obtain ⟨j2,hj2,e2⟩:=memY x q;exact upB (show j2<=j by lia) hj' e2 e
   ·obtain ⟨j,hj,e⟩:=headM x hx;rcases qAK.mp hy with q| q
    ·rcases rm y q with q| q
     ·obtain ⟨j2,h3,hj2,e2⟩:=memX y q;exact upA (show j<=j2 by lia) hj2 e e2
     ·obtain ⟨j2,hj2,e2⟩:=memY y q;exact (lowA j x hj e).trans (y0le y (inB j2 y (by lia) e2))
    ·obtain ⟨j2,_,hj2,e2⟩:=tailM y q;exact (lowA j x hj e).trans (y0le y (inB j2 y hj2 e2))
 show wpS _ _ _ _ (if na - k<=m then _ else _) _ _;have h0:∀x y,((arrOf st).extract (sa+k) (sa+na))[0]?=some x->((arrOf st).extract (sa+na) (sa+na+m))[0]?=some y->le κ y x:=fun x y e e'=>hf y e' x (qAI (i:=0) (by rw [qAo];exact e))
 by_cases c3:na - k<=m
 ·rw [qAC c3];exact qAF (w_mLo C (ka.trans hk) hX hY (by rw [eX];exact SX) (by rw [eY];exact SY) (by rw [zX];lia) (by rw [zY];lia) h0 hl fin)
 ·rw [qAB c3];exact qAF (w_mHi C (ka.trans hk) hX hY (by rw [eX];exact SX) (by rw [eY];exact SY) (by rw [zX];lia) (by rw [zY];lia) hf hl fin)
end
def Ch:List (Nat×Nat×Nat)->Nat->Nat->Prop
 | [],s,e=>s=e
 | (a,n,_)::r,s,e=>a=s/\1<=n/\Ch r (s+n) e
theorem Ch.app {P Q:List (Nat×Nat×Nat)}:∀{s e:Nat},Ch (P++Q) s e↔∃m,Ch P s m/\Ch Q m e:=by
 induction P with
 | nil=>intro s e;exact ⟨fun h=>⟨s,rfl,h⟩,fun ⟨m,h1,h2⟩=>by have h1:s=m:=h1;rw [h1];exact h2⟩
 | cons x P ih =>
  obtain ⟨a,n,q⟩:=x;intro s e;constructor
  ·rintro ⟨h1,h2,h3⟩;obtain ⟨m,k1,k2⟩:=ih.mp h3;exact ⟨m,⟨h1,h2,k1⟩,k2⟩
  ·rintro ⟨m,⟨h1,h2,h3⟩,h4⟩;exact ⟨h1,h2,ih.mpr ⟨m,h3,h4⟩⟩
theorem Ch.bnd:∀{P:List (Nat×Nat×Nat)} {s e:Nat},Ch P s e->s+P.length<=e/\∀q∈P,s<=q.1/\q.1+q.2.1<=e/\1<=q.2.1
 | [],s,e,h=>by
  have h:s=e:=h;exact ⟨by simp [h],fun q hq=>by simp at hq⟩
 | (a,n,t)::r,s,e,h=>by
  obtain ⟨h1,h2,h3⟩:=h;obtain ⟨k1,k2⟩:=Ch.bnd h3;refine ⟨by rw [qAb];lia,fun q hq=>?_⟩;rcases qAP.mp hq with z| z
  ·subst z;exact ⟨by show s<=a;lia,by show a+n<=e;lia,h2⟩
  ·have:=k2 q z;exact ⟨by lia,this.2⟩
theorem set_erase (P:List α) (x y v:α) (T:List α):((P++x::y::T).set P.length v).eraseIdx (P.length+1)=P++v::T:=by
 induction P with
 | nil=>rfl
 | cons p P ih =>
  show p::((P++x::y::T).set P.length v).eraseIdx (P.length+1)=p::(P++v::T);rw [ih]
theorem two_at :∀{L:List α} {i:Nat},i+1<L.length->∃P x y T,L=P++x::y::T/\P.length=i
 | [],i,h=>by simp at h
 | [_],i,h=>by simp at h
 | a::b::L,0,_=>⟨[],a,b,L,rfl,rfl⟩
 | a::b::L,i+1,h=>by
  obtain ⟨P,x,y,T,e,l⟩:=two_at (L:=b::L) (i:=i) (by simp at h ⊢;lia);exact ⟨a::P,x,y,T,by rw [e];rfl,by simp [l]⟩
section
variable {prog:Program} {w:World} {A:Around} {E:Value->Shared->Prop} {s:Shared} {kd:SortKind} {κ:KeyKind} {a₀:Array Keyed}
structure Rn (κ:KeyKind) (kd:SortKind) (a₀:Array Keyed) (lo:Nat) (st:SortSt):Prop where
 kd:kindOf st=kd
 fl:failedOf st=none
 perm:(arrOf st).Perm a₀
 ch:Ch (pendingOf st).toList 0 lo
 up:∀q∈(pendingOf st).toList,Up κ st q.1 q.2.1
theorem Rn.all (R:Rn κ kd a₀ lo st) (h:∀x∈a₀.toList,Has κ x):All κ st:=fun x hx=>h x ((qCh.mp R.perm).mem_iff.mp hx)
theorem Up.eq {st':SortSt} (h:Up κ st lo n) (e:∀k,lo<=k->k<lo+n->(arrOf st')[k]?=(arrOf st)[k]?):Up κ st' lo n:=fun i j h1 h2=>by
 rw [KK_congr (e (lo+i) (by lia) (by lia)),KK_congr (e (lo+j) (by lia) (by lia))];exact h i j h1 h2
theorem w_merge {Q:Bool->SortSt->Prop} (C:CmpOk prog w A s kd κ) (ha:∀x∈a₀.toList,Has κ x) (R:Rn κ kd a₀ lo st) (hl:lo<=a₀.size) (hi:i+1<(pendingOf st).size)
  (h:∀st',Rn κ kd a₀ lo st'->(pendingOf st').size+1=(pendingOf st).size->(∀k,lo<=k->(arrOf st')[k]?=(arrOf st)[k]?)->Q true st'):wpS (model prog w) A E s (mergeAt' i) Q st:=by
 obtain ⟨P,x,y,T,e,l⟩:=two_at (L:=(pendingOf st).toList) (i:=i) (by simpa using hi);obtain ⟨sa,na,pw⟩:=x;obtain ⟨sb,nb,pw2⟩:=y;have hz:(arrOf st).size=a₀.size:=R.perm.size_eq;have ch:=R.ch;rw [e] at ch;obtain ⟨m,c1,c2⟩:=Ch.app.mp ch;obtain ⟨d1,d2,d3,d4,d5⟩:=c2;subst d1;subst d3;have b1:=c1.bnd;have b2:=d5.bnd;have up1:=R.up (sa,na,pw) (by rw [e];simp);have up2:=R.up (sa+na,nb,pw2) (by rw [e];simp)
 have e1:(pendingOf st)[i]?=some (sa,na,pw):=by
  rw [<-qAo,e,<-l];simp
 have e2:(pendingOf st)[i+1]?=some (sa+na,nb,pw2):=by
  rw [<-qAo,e,<-l,qBT (by lia)];simp
 have hle:sa+na+nb<=lo:=by have:=b2.1;lia
 refine w_mergeAt C R.kd (R.all ha) e1 e2 d2 d4 (by lia) up1 up2 R.fl fun st' k1 k2 k3 k4 k5 k6=>?_
 have ep:(pendingOf st').toList=P++(sa,na+nb,pw)::T:=by
  have hb:i+1<((pendingOf st).setIfInBounds i (sa,na+nb,pw)).size:=by rw [qDV];exact hi
  rw [k3,Array.eraseIdxIfInBounds,dif_pos hb,Array.toList_eraseIdx,Array.toList_setIfInBounds,e,<-l];exact set_erase P _ _ _ T
 refine h st' ⟨k1.trans R.kd,k2,k4.trans R.perm,?_,fun q hq=>?_⟩ ?_ fun k hk=>k5 k (.inr (by lia))
 ·rw [ep];refine Ch.app.mpr ⟨sa,c1,rfl,by lia,?_⟩;rw [show sa+(na+nb)=sa+na+nb by lia];exact d5
 ·rw [ep] at hq;rcases qAK.mp hq with z| z
  ·have:=b1.2 q z;exact (R.up q (by rw [e];exact qAc _ z)).eq fun k _ hk=>k5 k (.inl (by lia))
  ·rcases qAP.mp z with z| z
   ·subst z;exact k6
   ·have:=b2.2 q z;exact (R.up q (by rw [e];simp [z])).eq fun k hk _=>k5 k (.inr (by lia))
 ·have h1:=qAg List.length ep;have h2:=qAg List.length e;simp at h1 h2;lia
theorem ch_map {f:Nat×Nat×Nat->Nat×Nat×Nat} (hf:∀q,(f q).1=q.1/\(f q).2.1=q.2.1):∀{L L':List (Nat×Nat×Nat)} {s e:Nat},L'.map (fun q=>(q.1,q.2.1))=L.map (fun q=>(q.1,q.2.1))->Ch L s e->Ch L' s e
 | [],[],_,_,_,h=>h
 | [],_::_,_,_,h,_=>by simp at h
 | _::_,[],_,_,h,_=>by simp at h
 | (a,n,t)::r,(b,m,u)::r',s,e,h,c=>by
  simp at h;obtain ⟨⟨h1,h2⟩,h3⟩:=h;obtain ⟨c1,c2,c3⟩:=c;subst h1;subst h2;exact ⟨c1,c2,ch_map hf (by simpa using h3) c3⟩
theorem mod_map {f:Nat×Nat×Nat->Nat×Nat×Nat} (hf:∀q,(f q).1=q.1/\(f q).2.1=q.2.1) (p:Array (Nat×Nat×Nat)) (i:Nat):(p.modify i f).toList.map (fun q=>(q.1,q.2.1))=p.toList.map (fun q=>(q.1,q.2.1)):=by
 apply List.ext_getElem?;intro k;rw [qAX,qAX,qAo,qAo,Array.getElem?_modify];split
 ·cases h:p[k]? with
  | none=>rfl
  | some q =>
   have:=hf q;simp [this.1,this.2]
 ·rfl
theorem Rn.modify (R:Rn κ kd a₀ lo st) {f:Nat×Nat×Nat->Nat×Nat×Nat} (hf:∀q,(f q).1=q.1/\(f q).2.1=q.2.1) (i:Nat):Rn κ kd a₀ lo (setPending st ((pendingOf st).modify i f)):=by
 have e:=mod_map hf (pendingOf st) i;refine ⟨R.kd,R.fl,R.perm,ch_map hf e R.ch,fun q hq=>?_⟩
 have hm:(q.1,q.2.1)∈(pendingOf st).toList.map (fun q=>(q.1,q.2.1)):=by
  rw [<-e];exact qAM.mpr ⟨q,hq,rfl⟩
 obtain ⟨q',hq',e'⟩:=qAM.mp hm;have u:=R.up q' hq';injection e' with e1 e2;rw [e1,e2] at u;exact u
theorem ite_less (c:Prop) [Decidable c] (a:Nat):(if c then a - 1 else a)<=a:=by split<;>lia
theorem w_sort {Q:Unit->SortSt->Prop} (C:CmpOk prog w A s kd κ) (ha:∀x∈a₀.toList,Has κ x) (hk:kindOf st=kd) (hf:failedOf st=none) (hp:(arrOf st).Perm a₀) (hpn:pendingOf st=#[]) (h1:1<=a₀.size)
  (h:∀st',failedOf st'=none->(arrOf st').Perm a₀->Srt κ (arrOf st').toList->Q () st'):wpS (model prog w) A E s sortRuns' Q st:=by
 have hz0:(arrOf st).size=a₀.size:=hp.size_eq;have hz0p:(arrOf st).size=a₀.size:=hz0;unfold arrOf at hz0p;refine qAF (qBQ ?_);have R0:Rn κ kd a₀ 0 st:=⟨hk,hf,hp,by rw [hpn];rfl,fun q hq=>by rw [hpn] at hq;simp at hq⟩;refine qAF (qAv (qA2 (I:=fun x c st'=>∃lo,c=(none,lo)/\Rn κ kd a₀ lo st'/\lo<=a₀.size/\(x<=lo\/lo=a₀.size)) (Q:=fun c st'=>∃lo,c=(none,lo)/\Rn κ kd a₀ a₀.size st') ?step ?fin ⟨0,rfl,R0,by lia,.inl (by lia)⟩) ?post)
 case fin =>
  rintro c st' ⟨lo,rfl,R,l1,l2⟩
  have:lo=a₀.size:=by
   have:max 0 (arrOf st).size=a₀.size:=by lia
   rcases l2 with z| z
   ·lia
   ·exact z
  subst this;exact ⟨_,rfl,R⟩
 case step =>
  rintro x c st1 _ hx ⟨lo,rfl,R,l1,l2⟩;show wpS _ _ _ _ (if lo>=(arrOf st).size then _ else _) _ _
  by_cases g:lo>=(arrOf st).size
  ·rw [qAC g];have:lo=a₀.size:=by lia
   subst this;exact qAH ⟨_,rfl,R⟩
  rw [qAB g];have hz1:(arrOf st1).size=a₀.size:=R.perm.size_eq;refine qAF (w_count C R.kd (R.all ha) (by rw [hz0,hz1];lia) (by lia) fun m st2 f2 m1 m2 u2=>?_)
  have keepR:∀{st':SortSt},Fr lo st1 st'->Rn κ kd a₀ lo st':=fun {st'} f=>by
   refine ⟨f.kd.trans R.kd,f.fl.trans R.fl,f.perm.trans R.perm,by rw [f.pn];exact R.ch,fun q hq=>?_⟩;rw [f.pn] at hq;have:=R.ch.bnd.2 q hq;exact (R.up q hq).eq fun k _ hk=>f.low k (by lia)
  have push:∀{n:Nat} {st4:SortSt},1<=n->lo+n<=a₀.size->Rn κ kd a₀ lo st4->Up κ st4 lo n->Rn κ kd a₀ (lo+n) (setPending st4 ((pendingOf st4).push (lo,n,0))):=fun {n st4} n1 n2 R4 u4=>by
   refine ⟨R4.kd,R4.fl,R4.perm,?_,fun q hq=>?_⟩
   ·show Ch ((pendingOf st4).push (lo,n,0)).toList 0 (lo+n);rw [qBK];exact Ch.app.mpr ⟨lo,R4.ch,rfl,n1,rfl⟩
   ·have hq:q∈((pendingOf st4).push (lo,n,0)).toList:=hq;rw [qBK] at hq;rcases qAK.mp hq with z| z
    ·exact R4.up q z
    ·have:q=(lo,n,0):=by simpa using z
     subst this;exact u4
  have loop:∀(n:Nat) (st3:SortSt) (pw:Nat),Rn κ kd a₀ lo st3->Up κ st3 lo n->∀(y:Nat) (R:ForInStep (Option Unit×Unit)->SortSt->Prop),(∀st',Rn κ kd a₀ lo st'->Up κ st' lo n->R (.done (none,())) st'/\R (.yield (none,())) st') ->
    wpS (model prog w) A E s ((get:StateT SortSt Sem SortSt) >>= fun v=>match (if (pendingOf v).size>1 then (pendingOf v)[(pendingOf v).size - 2]? else none) with
       | some (_,_,older)=>(if older<=pw then pure (ForInStep.done (none,())) else (mergeAt' ((pendingOf v).size - 2) >>= fun b=>if (!b)=true then pure (ForInStep.done (some (),())) else pure (ForInStep.yield (none,()))))
       | _=>pure (ForInStep.done (none,()))) R st3:=by
   intro n st4 pw R4 u4 y Rr hR;refine qAF (qBQ ?_)
   by_cases c1:(pendingOf st4).size>1
   ·rw [qAC c1];rcases ho:(pendingOf st4)[(pendingOf st4).size - 2]? with _| ⟨o1,o2,o3⟩
    ·exact qAH (hR st4 R4 u4).1
    ·show wpS _ _ _ _ (if o3<=pw then _ else _) _ _
     by_cases c2:o3<=pw
     ·rw [qAC c2];exact qAH (hR st4 R4 u4).1
     ·rw [qAB c2];refine qAF (w_merge C ha R4 l1 (by lia) fun st5 R5 _ k5=>?_);show wpS _ _ _ _ (if false=true then _ else _) _ _;rw [qAB (by decide)];exact qAH (hR st5 R5 (u4.eq fun k hk _=>k5 k hk)).2
   ·rw [qAB c1];exact qAH (hR st4 R4 u4).1
  have ends:∀{n:Nat} {st5:SortSt},1<=n->Rn κ kd a₀ (lo+n) st5->lo+n<=a₀.size->∃l,((none,lo+n):Option Unit×Nat)=(none,l)/\Rn κ kd a₀ l st5/\l<=a₀.size/\(x+1<=l\/l=a₀.size):=fun {n st5} n1 R5 n2=>⟨_,rfl,R5,n2,.inl (by lia)⟩
  by_cases c1:m<minRun' (arrOf st).size (arrOf st).size 0
  ·refine (show wpS _ _ _ _ (if m<minRun' (arrOf st).size (arrOf st).size 0 then _ else _) _ _ from ?_);rw [qAC c1];refine qAF (qBk (qBR ⟨rfl,?_⟩));have hmin:∃n,n=min ((arrOf st).size - lo) (minRun' (arrOf st).size (arrOf st).size 0):=⟨_,rfl⟩;obtain ⟨n,hn⟩:=hmin;refine qAF (w_ins (n:=min ((arrOf st).size - lo) (minRun' (arrOf st).size (arrOf st).size 0)) C (f2.kd.trans R.kd) ((R.all ha).fr f2) (by rw [f2.size,hz1];lia) (by lia) m1 u2 fun st3 f3 u3=>?_);show wpS _ _ _ _ (if false=true then _ else _) _ _;rw [qAB (by decide)];have R3:=keepR (f2.trans f3);have n1:1<=min ((arrOf st).size - lo) (minRun' (arrOf st).size (arrOf st).size 0):=by lia
   have n2:lo+min ((arrOf st).size - lo) (minRun' (arrOf st).size (arrOf st).size 0)<=a₀.size:=by lia
   refine qAF (qBQ ?_);rcases hb:(pendingOf st3).back? with _| ⟨s1,q1,t1⟩
   ·exact qAF (qA9 (qAH (ends n1 (push n1 n2 R3 u3) n2)))
   ·refine qAF (qAv (qA2 (I:=fun y c st'=>c=(none,())/\Rn κ kd a₀ lo st'/\Up κ st' lo (min ((arrOf st).size - lo) (minRun' (arrOf st).size (arrOf st).size 0))) (Q:=fun c st'=>c=(none,())/\Rn κ kd a₀ lo st'/\Up κ st' lo (min ((arrOf st).size - lo) (minRun' (arrOf st).size (arrOf st).size 0))) ?s2 (fun c st' h=>h) ⟨rfl,R3,u3⟩) ?p2)
    case p2 =>
     rintro c st4 ⟨rfl,R4,u4⟩;exact qAF (qA9 (qAF (qA9 (qAH (ends n1 (push n1 n2 (R4.modify (f:=fun x=>match x with| (t,len,_)=>(t,len,power' (arrOf st).size (2*s1+q1) (2*s1+q1+q1+min ((arrOf st).size - lo) (minRun' (arrOf st).size (arrOf st).size 0)) (arrOf st).size)) (fun q=>⟨rfl,rfl⟩) ((pendingOf st4).size - 1)) u4) n2)))))
    case s2 =>
     rintro y c st4 _ hy ⟨rfl,R4,u4⟩;exact loop _ st4 _ R4 u4 y _ fun st' R' u'=>⟨⟨rfl,R',u'⟩,⟨rfl,R',u'⟩⟩
  ·refine (show wpS _ _ _ _ (if m<minRun' (arrOf st).size (arrOf st).size 0 then _ else _) _ _ from ?_);rw [qAB c1];have R3:=keepR f2;have n2:lo+m<=a₀.size:=by lia
   refine qAF (qBQ ?_);rcases hb:(pendingOf st2).back? with _| ⟨s1,q1,t1⟩
   ·exact qAF (qA9 (qAH (ends m1 (push m1 n2 R3 u2) n2)))
   ·refine qAF (qAv (qA2 (I:=fun y c st'=>c=(none,())/\Rn κ kd a₀ lo st'/\Up κ st' lo m) (Q:=fun c st'=>c=(none,())/\Rn κ kd a₀ lo st'/\Up κ st' lo m) ?s2 (fun c st' h=>h) ⟨rfl,R3,u2⟩) ?p2)
    case p2 =>
     rintro c st4 ⟨rfl,R4,u4⟩;exact qAF (qA9 (qAF (qA9 (qAH (ends m1 (push m1 n2 (R4.modify (f:=fun x=>match x with| (t,len,_)=>(t,len,power' (arrOf st).size (2*s1+q1) (2*s1+q1+q1+m) (arrOf st).size)) (fun q=>⟨rfl,rfl⟩) ((pendingOf st4).size - 1)) u4) n2)))))
    case s2 =>
     rintro y c st4 _ hy ⟨rfl,R4,u4⟩;exact loop _ st4 _ R4 u4 y _ fun st' R' u'=>⟨⟨rfl,R',u'⟩,⟨rfl,R',u'⟩⟩
 case post =>
  rintro c st1 ⟨lo,rfl,R⟩;refine qAF (qAv (qA2 (I:=fun x c st'=>c=(none,())/\Rn κ kd a₀ a₀.size st'/\((pendingOf st').size<=1\/(pendingOf st').size+x<=a₀.size)) (Q:=fun c st'=>c=(none,())/\Rn κ kd a₀ a₀.size st'/\(pendingOf st').size<=1) ?s3 ?f3 ⟨rfl,R,.inr ?ini⟩) ?p3)
  case ini =>
   have:=R.ch.bnd.1;simp at this;lia
  case f3 =>
   rintro c st' ⟨rfl,R',z⟩;refine ⟨rfl,R',?_⟩;have:max 0 (arrOf st).size=a₀.size:=by lia
   lia
  case p3 =>
   rintro c st' ⟨rfl,R',z⟩;have hz':(arrOf st').size=a₀.size:=R'.perm.size_eq;refine qAH (h st' R'.fl R'.perm ?_);have ch:=R'.ch
   cases e:(pendingOf st').toList with
   | nil =>
    rw [e] at ch;have ch:0=a₀.size:=ch;lia
   | cons q r =>
    have hr:r=[]:=by
     have:=qAg List.length e;simp at this
     cases r with
     | nil=>rfl
     | cons _ _=>simp at this;lia
    subst hr;obtain ⟨a,n,t⟩:=q;rw [e] at ch;obtain ⟨e1,e2,e3⟩:=ch;have e3:0+n=a₀.size:=e3;subst e1;have u:=R'.up (0,n,t) (by rw [e];simp);have sg:=(up_srt (κ:=κ) (st:=st') (lo:=0) (n:=n) (by lia)).mp u
    have eall:seg (arrOf st') 0 n=(arrOf st').toList:=by
     unfold seg;rw [List.drop_zero,qBD (by simp;lia)]
    rw [eall] at sg;exact sg
  case s3 =>
   rintro y c st2 _ hy ⟨rfl,R2,z⟩;refine qAF (qBQ ?_);show wpS _ _ _ _ (if (pendingOf st2).size<=1 then _ else _) _ _
   by_cases c1:(pendingOf st2).size<=1
   ·rw [qAC c1];exact qAH ⟨rfl,R2,c1⟩
   ·rw [qAB c1]
    have fin:∀i,i+1<(pendingOf st2).size->wpS (model prog w) A E s (mergeAt' i) (fun b st'=>wpS (model prog w) A E s (if (!b)=true then pure (ForInStep.done (some (),())) else pure (ForInStep.yield (none,()))) (fun r st'=>match r with
      | .done c'=>c'=((none,()):Option Unit×Unit)/\Rn κ kd a₀ a₀.size st'/\(pendingOf st').size<=1
      | .yield c'=>c'=((none,()):Option Unit×Unit)/\Rn κ kd a₀ a₀.size st'/\((pendingOf st').size<=1\/(pendingOf st').size+(y+1)<=a₀.size)) st') st2:=fun i hi=>by
     refine w_merge C ha R2 (qAG _) hi fun st5 R5 k4 _=>?_;show wpS _ _ _ _ (if false=true then _ else _) _ _;rw [qAB (by decide)];exact qAH ⟨rfl,R5,.inr (by lia)⟩
    refine qAF (qAv (fin _ ?_) fun b st' hb=>qAv hb fun r st' hr=>?_)
    ·exact Nat.lt_of_le_of_lt (Nat.add_le_add_right (ite_less _ _) 1) (show (pendingOf st2).size - 2+1<(pendingOf st2).size by lia)
    ·cases r<;>exact hr
end
end Tim
namespace ST
open PySem PySem.SetTable
variable {xs:Array Nat}{i j mask N:Nat}{α:Type}{hs:List Int}{b:Addr}
abbrev Rise (l:List Nat):Prop:=l.Pairwise (·<·)
theorem zEd (hr:Rise xs.toList) {k:Nat} {x y:Nat} (hik:i<k) (ex:xs[i]?=some x) (ey:xs[k]?=some y):x<y:=by
 rw [<-qAo] at ex ey;obtain ⟨hi,rfl⟩:=qAV.mp ex;obtain ⟨hk,rfl⟩:=qAV.mp ey;exact qC6.mp hr i k hi hk hik
structure Bel (xs:Array Nat) (j r:Nat):Prop where
 le:r<=xs.size
 lo:∀i x,i<r->xs[i]?=some x->x<j
 hi:∀i x,r<=i->xs[i]?=some x->j<=x
theorem zJk (hr:Rise xs.toList) :∀(fuel lo hi:Nat),hi - lo<=fuel->lo<=hi->hi<=xs.size->(∀i x,i<lo->xs[i]?=some x->x<j)->(∀i x,hi<=i->xs[i]?=some x->j<=x)->Bel xs j (below.go xs j fuel lo hi)
 | 0,lo,hi,h1,h2,h3,h4,h5=>by
  have e:lo=hi:=by lia
  subst e;exact ⟨h3,h4,h5⟩
 | fuel+1,lo,hi,h1,h2,h3,h4,h5=>by
  unfold below.go
  by_cases c:lo<hi
  ·rw [qAC c];have hm:(lo+hi) / 2<xs.size:=by lia
   have em:xs[(lo+hi) / 2]?=some xs[(lo+hi) / 2]:=by simp
   have eD:xs.getD ((lo+hi) / 2) j=xs[(lo+hi) / 2]:=by simp [Array.getD,hm]
   show Bel xs j (if xs.getD ((lo+hi) / 2) j<j then _ else _);rw [eD]
   by_cases d:xs[(lo+hi) / 2]<j
   ·rw [qAC d];refine zJk hr fuel _ hi (by lia) (by lia) h3 (fun i x hi' ex=>?_) h5
    by_cases q:i=(lo+hi) / 2
    ·subst q;rw [em] at ex;cases ex;exact d
    ·have:=zEd hr (show i<(lo+hi) / 2 by lia) ex em;lia
   ·rw [qAB d];refine zJk hr fuel lo _ (by lia) (by lia) (by lia) h4 (fun i x hi' ex=>?_)
    by_cases q:i=(lo+hi) / 2
    ·subst q;rw [em] at ex;cases ex;lia
    ·have:=zEd hr (show (lo+hi) / 2<i by lia) em ex;lia
  ·rw [qAB c];have e:lo=hi:=by lia
   subst e;exact ⟨h3,h4,h5⟩
theorem zEh (hr:Rise xs.toList) (j:Nat):Bel xs j (below xs j) :=
 zJk hr xs.size 0 xs.size (by lia) (by lia) (qAG _) (fun i x h=>by lia) (fun i x h e=>by
  have:=(qBw.mp e).1;lia)
theorem Bel.at (hr:Rise xs.toList) {r:Nat} (B:Bel xs j r) (e:xs[i]?=some j):r=i:=by
 rcases Nat.lt_trichotomy r i with z| z| z
 ·have hi:i<xs.size:=(qBw.mp e).1;have er:xs[r]?=some (xs[r]'(by lia)):=by simp
  have h1:=B.hi r _ (qAG _) er;have h2:=zEd hr z er e;lia
 ·exact z
 ·have:=B.lo i j z e;lia
def Tb (mask:Nat):SetTable:={mask:=mask,place:=#[],dummies:=#[],finger:=0,led:=false,moves:=0,plain:=false}
def pr (mask:Nat) (h:Int):Nat->Probe
 | 0=>(Tb mask).probeStart h
 | n+1=>(Tb mask).advance (pr mask h n)
def rs (mask:Nat) (h:Int):Nat->Nat×Nat
 | 0=>(bits h % (mask+1),bits h)
 | r+1=>leap mask (rs mask h r).1 (rs mask h r).2
def stt (mask:Nat) (h:Int):Nat->Nat
 | 0=>0
 | r+1=>stt mask h r+(runEnd mask (rs mask h r).1 - (rs mask h r).1+1)
theorem rs_le (mask:Nat) (h:Int):∀r,(rs mask h r).1<=mask
 | 0=>Nat.le_of_lt_succ (Nat.mod_lt _ (Nat.succ_pos _))
 | r+1=>Nat.le_of_lt_succ (Nat.mod_lt _ (Nat.succ_pos _))
theorem run_le (mask i:Nat) (hi:i<=mask):i<=runEnd mask i/\runEnd mask i<=mask/\runEnd mask i - i<=9:=by
 unfold runEnd;split<;>lia
theorem stt_le (mask:Nat) (h:Int):∀r,stt mask h r<=10*r
 | 0=>qAG _
 | r+1=>by
  have h1:=stt_le mask h r;have h2:=(run_le mask _ (rs_le mask h r)).2.2;show stt mask h r+(runEnd mask (rs mask h r).1 - (rs mask h r).1+1)<=_;lia
theorem adv_more (mask:Nat) (p:Probe) (h:p.more>0):(Tb mask).advance p={p with j:=p.j+1,more:=p.more - 1}:=by
 unfold advance;rw [qAC h]
theorem adv_leap (mask:Nat) (p:Probe) (h:p.more=0):(Tb mask).advance p={p with j:=(leap mask p.i p.perturb).1,more:=runEnd mask (leap mask p.i p.perturb).1 - (leap mask p.i p.perturb).1,i:=(leap mask p.i p.perturb).1,perturb:=(leap mask p.i p.perturb).2}:=by
 unfold advance;rw [qAB (by lia)];rfl
theorem zE1 (mask:Nat) (h:Int):∀(r k:Nat),k<=runEnd mask (rs mask h r).1 - (rs mask h r).1 ->
  pr mask h (stt mask h r+k)={j:=(rs mask h r).1+k,more:=runEnd mask (rs mask h r).1 - (rs mask h r).1 - k,i:=(rs mask h r).1,perturb:=(rs mask h r).2,dummy:=none}
 | 0,0,_=>rfl
 | r+1,0,_=>by
  have ih:=zE1 mask h r (runEnd mask (rs mask h r).1 - (rs mask h r).1) (qAG _);show pr mask h (stt mask h r+(runEnd mask (rs mask h r).1 - (rs mask h r).1)+1)=_;show (Tb mask).advance (pr mask h (stt mask h r+(runEnd mask (rs mask h r).1 - (rs mask h r).1)))=_;rw [ih,adv_leap _ _ (by simp)];rfl
 | r,k+1,hk=>by
  have ih:=zE1 mask h r k (by lia);show (Tb mask).advance (pr mask h (stt mask h r+k))=_;rw [ih,adv_more _ _ (by show _ - k>0;lia)];simp only [Probe.mk.injEq];exact ⟨by lia,by lia,trivial,trivial,trivial⟩
theorem pr_at (mask:Nat) (h:Int) (n:Nat):∃r k,n=stt mask h r+k/\k<=runEnd mask (rs mask h r).1 - (rs mask h r).1:=by
 induction n with
 | zero=>exact ⟨0,0,rfl,qAj _⟩
 | succ n ih =>
  obtain ⟨r,k,e,hk⟩:=ih
  by_cases c:k<runEnd mask (rs mask h r).1 - (rs mask h r).1
  ·exact ⟨r,k+1,by lia,c⟩
  ·refine ⟨r+1,0,?_,qAj _⟩;show n+1=stt mask h r+(runEnd mask (rs mask h r).1 - (rs mask h r).1+1)+0;lia
theorem pr_le (mask:Nat) (h:Int) (n:Nat):(pr mask h n).j<=mask:=by
 obtain ⟨r,k,e,hk⟩:=pr_at mask h n;rw [e,zE1 mask h r k hk];have:=run_le mask _ (rs_le mask h r);show (rs mask h r).1+k<=mask;lia
theorem pr_dummy (mask:Nat) (h:Int) (n:Nat):(pr mask h n).dummy=none:=by
 obtain ⟨r,k,e,hk⟩:=pr_at mask h n;rw [e,zE1 mask h r k hk]
theorem bits_lt (h:Int):bits h<2^64:=by
 unfold bits;have h1:=qCM h (show (2^64:Int)≠0 by decide);have h2:=qCN h (show (0:Int)<2^64 by decide);lia
theorem rs_pert (mask:Nat) (h:Int):∀r,(rs mask h r).2=bits h / 32^r
 | 0=>by simp [rs]
 | r+1=>by
  show (rs mask h r).2 / 32=_;rw [rs_pert mask h r,Nat.div_div_eq_div_mul,Nat.pow_succ]
theorem rs_pert0 (mask:Nat) (h:Int) (r:Nat) (hr:13<=r):(rs mask h r).2=0:=by
 rw [rs_pert];have h1:=bits_lt h;have h2:32^13<=32^r:=Nat.pow_le_pow_right (by decide) hr;have h3:(2:Nat)^64<32^13:=by decide
 exact Nat.div_eq_of_lt (by lia)
def f5 (mask i:Nat):Nat:=(i*5+1) % (mask+1)
def it5 (mask:Nat):Nat->Nat->Nat
 | 0,i=>i
 | n+1,i=>it5 mask n (f5 mask i)
theorem zHj (mask:Nat):∀(a b i:Nat),it5 mask (a+b) i=it5 mask b (it5 mask a i)
 | 0,b,i=>by rw [qCK];rfl
 | a+1,b,i=>by
  rw [show a+1+b=(a+b)+1 by lia];show it5 mask (a+b) (f5 mask i)=it5 mask b (it5 mask a (f5 mask i));exact zHj mask a b _
theorem rs_it5 (mask:Nat) (h:Int) (n:Nat):(rs mask h (13+n)).1=it5 mask n (rs mask h 13).1:=by
 induction n with
 | zero=>rfl
 | succ n ih =>
  show (leap mask (rs mask h (13+n)).1 (rs mask h (13+n)).2).1=_;rw [rs_pert0 mask h (13+n) (by lia),ih,show n+1=n+1 from rfl,zHj mask n 1];show ((it5 mask n _)*5+1+0 / 32) % (mask+1)=f5 mask (it5 mask n _);unfold f5;simp
def Msk (mask:Nat):Prop:=mask=7\/mask=31\/mask=127\/mask=511
def orb (mask:Nat):Nat->Nat->List Nat
 | 0,_=>[]
 | n+1,i=>i::orb mask n (f5 mask i)
theorem orb_mem (mask:Nat):∀(n i s:Nat),s∈orb mask n i->∃a,a<n/\it5 mask a i=s
 | 0,i,s,h=>by simp [orb] at h
 | n+1,i,s,h=>by
  rcases qAP.mp h with z| z
  ·exact ⟨0,by lia,z.symm⟩
  ·obtain ⟨a,ha,e⟩:=orb_mem mask n (f5 mask i) s z;exact ⟨a+1,by lia,e⟩
theorem orb_all (hm:Msk mask):(List.range (mask+1)).all (fun s=>(orb mask (mask+1) 0).contains s)=true/\it5 mask (mask+1) 0=0:=by
 rcases hm with rfl| rfl| rfl| rfl
 ·exact ⟨by decide +kernel,by decide +kernel⟩
 ·exact ⟨by decide +kernel,by decide +kernel⟩
 ·exact ⟨by decide +kernel,by decide +kernel⟩
 ·exact ⟨by decide +kernel,by decide +kernel⟩
theorem cyc (hm:Msk mask) (i s:Nat) (hi:i<=mask) (hs:s<=mask):∃r,r<=mask/\it5 mask r i=s:=by
 obtain ⟨h1,h2⟩:=orb_all hm
 have get:∀x,x<=mask->∃a,a<mask+1/\it5 mask a 0=x:=fun x hx=>by
  have:=qBv.mp h1 x (qBF.mpr (by lia));exact orb_mem mask (mask+1) 0 x (by simpa using this)
 obtain ⟨a,ha,ea⟩:=get i hi;obtain ⟨b,hb,eb⟩:=get s hs
 by_cases c:a<=b
 ·refine ⟨b - a,by lia,?_⟩;rw [<-ea,<-zHj,show a+(b - a)=b by lia,eb]
 ·refine ⟨mask+1 - a+b,by lia,?_⟩;rw [<-ea,<-zHj,show a+(mask+1 - a+b)=mask+1+b by lia,zHj,h2,eb]
theorem pr_all (hm:Msk mask) (h:Int) (s:Nat) (hs:s<=mask):∃r,r<=13+mask/\(rs mask h r).1=s:=by
 obtain ⟨r,hr,e⟩:=cyc hm (rs mask h 13).1 s (rs_le mask h 13) hs;exact ⟨13+r,by lia,by rw [rs_it5,e]⟩
theorem free_slot {L:List Nat} (hL:L.length<=mask):∃s,s<=mask/\s∉L:=by
 apply qA3;intro h
 have sub:∀s,s∈List.range (mask+1)->s∈L:=fun s hs=>by
  apply qA3;intro q;exact h ⟨s,by have:=qBF.mp hs;lia,q⟩
 have:=(List.nodup_range (n:=mask+1)).length_le_of_subset sub;rw [List.length_range] at this;lia
theorem pr_free (hm:Msk mask) (h:Int) {L:List Nat} (hL:L.length<=mask):∃n,n<10*turns mask/\(pr mask h n).j∉L:=by
 obtain ⟨s,hs,q⟩:=free_slot hL;obtain ⟨r,hr,e⟩:=pr_all hm h s hs;refine ⟨stt mask h r,?_,?_⟩
 ·have:=stt_le mask h r;unfold turns;lia
 ·have:=zE1 mask h r 0 (qAj _);rw [qCj] at this;rw [this];show (rs mask h r).1+0∉L;rw [qCj,e];exact q
theorem zIi (hm:Msk mask) (h:Int) {L:List Nat} (hL:L.length<=mask):∃n,n<10*turns mask/\(pr mask h n).j∉L/\∀m,m<n->(pr mask h m).j∈L:=by
 obtain ⟨n,hn,q⟩:=pr_free hm h hL
 induction n using Nat.strongRecOn with
 | _ n ih =>
  by_cases c:∃m,m<n/\(pr mask h m).j∉L
  ·obtain ⟨m,hm',qm⟩:=c;exact ih m hm' (by lia) qm
  ·refine ⟨n,hn,q,fun m hmn=>?_⟩;apply qA3;intro z;exact c ⟨m,hmn,z⟩
structure TOk (t:SetTable) (hs:List Int):Prop where
 m:Msk t.mask
 d:t.dummies=#[]
 r:Rise t.place.toList
 l:∀j∈t.place.toList,j<=t.mask
 n:t.place.size=hs.length
 f:t.place.size<=t.mask
 reach:∀(i j:Nat) (h:Int),t.place[i]?=some j->hs[i]?=some h->∃n,(pr t.mask h n).j=j/\∀m,m<n->(pr t.mask h m).j∈t.place.toList
theorem fresh_ok (fi mo:Nat) (led:Bool):TOk (SetTable.fresh fi mo led) [] :=
 ⟨.inl rfl,rfl,List.Pairwise.nil,(fun j h=>absurd (show j∈([]:List Nat) from h) (by simp)),rfl,qAj _,(fun i j h _ e=>by simp at e)⟩
theorem has_nil (j:Nat):has #[] j=false:=by
 unfold SetTable.has;simp
section
variable {t:SetTable} {hs:List Int}
theorem slot_live (T:TOk t hs) (e:t.place[i]?=some j):t.slot j= .live i:=by
 have b:=(zEh T.r j).at T.r e;unfold slot;rw [b];show (if (t.place[i]?==some j)=true then _ else _)=_;rw [e];simp
theorem slot_empty (T:TOk t hs) (h:j∉t.place.toList):t.slot j= .empty:=by
 unfold slot
 have e:(t.place[below t.place j]?==some j)=false:=by
  rw [qBE];intro z;exact h (qAI (i:=below t.place j) (by rw [qAo];exact z))
 simp only [e,T.d,has_nil];simp
theorem mem_at (h:j∈xs.toList):∃i:Nat,xs[i]?=some j:=by
 obtain ⟨i,hi,e⟩:=qAt.mp h;exact ⟨i,by rw [<-qAo];exact qAV.mpr ⟨hi,e⟩⟩
def Oth (t:SetTable) (hashAt:Nat->Int) (h:Int) (m:Nat):Prop:=∃i:Nat,t.place[i]?=some (pr t.mask h m).j/\hashAt i≠h
theorem adv_pr (t:SetTable) (h:Int) (n:Nat):t.advance (pr t.mask h n)=pr t.mask h (n+1):=rfl
theorem go_ok (T:TOk t hs) (hashAt:Nat->Int) (h:Int) (hN:(pr t.mask h N).j∉t.place.toList) (hb:∀m,m<N->(pr t.mask h m).j∈t.place.toList):∀(d n fuel:Nat),N=n+d->d<fuel ->
  (probe.go t hashAt h fuel (pr t.mask h n)=some (.empty (pr t.mask h N).j none)/\∀m,n<=m->m<N->Oth t hashAt h m) \/
  ∃m i,n<=m/\m<N/\t.place[i]?=some (pr t.mask h m).j/\hashAt i=h/\probe.go t hashAt h fuel (pr t.mask h n)=some (.candidate (pr t.mask h m).j i (pr t.mask h (m+1)))/\∀m',n<=m'->m'<m->Oth t hashAt h m'
 | 0,n,fuel+1,e,_=>by
  have e:N=n:=by lia
  subst e;left;refine ⟨?_,fun m h1 h2=>by lia⟩;unfold probe.go;rw [slot_empty T hN];show some (Met.empty _ (pr t.mask h N).dummy)=_;rw [pr_dummy]
 | d+1,n,fuel+1,e,hf=>by
  obtain ⟨i,ei⟩:=mem_at (hb n (by lia));unfold probe.go;rw [slot_live T ei]
  by_cases c:hashAt i=h
  ·right;refine ⟨n,i,qAG _,by lia,ei,c,?_,fun m' h1 h2=>by lia⟩;show (if (hashAt i==h)=true then _ else _)=_;rw [qAC (by simpa using c),adv_pr]
  ·have q:(if (hashAt i==h)=true then some (Met.candidate (pr t.mask h n).j i (t.advance (pr t.mask h n))) else probe.go t hashAt h fuel (t.advance (pr t.mask h n)))=probe.go t hashAt h fuel (pr t.mask h (n+1)):=by
    rw [qAB (by simpa using c),adv_pr]
   rcases go_ok T hashAt h hN hb d (n+1) fuel (by lia) (by lia) with ⟨z1,z2⟩| ⟨m,i',z1,z2,z3,z4,z5,z6⟩
   ·left;refine ⟨q.trans z1,fun m h1 h2=>?_⟩
    by_cases cm:m=n
    ·subst cm;exact ⟨i,ei,c⟩
    ·exact z2 m (by lia) h2
   ·right;refine ⟨m,i',by lia,z2,z3,z4,q.trans z5,fun m' h1 h2=>?_⟩
    by_cases cm:m'=n
    ·subst cm;exact ⟨i,ei,c⟩
    ·exact z6 m' (by lia) h2
 | _,_,0,_,h=>by lia
theorem zJd (xs:Array α) (p:Nat) (x:α) (hp:p<=xs.size):(insertAt xs p x).toList=xs.toList.take p++x::xs.toList.drop p:=by
 unfold insertAt;rw [qAm,qBK,qBb,qBb,List.extract_eq_drop_take,List.extract_eq_drop_take];rw [qBD (l:=xs.toList.drop p) (by simp)];simp
theorem ins_rise (hr:Rise xs.toList) (hj:j∉xs.toList):Rise (insertAt xs (below xs j) j).toList:=by
 have B:=zEh hr j;rw [zJd _ _ _ B.le];refine qAz.mpr ⟨hr.sublist (List.take_sublist _ _),qCG.mpr ⟨fun y hy=>?_,hr.sublist (List.drop_sublist _ _)⟩,fun x hx y hy=>?_⟩
 ·obtain ⟨i,hi,rfl⟩:=qAt.mp hy;rw [qBO] at hi
  have e:xs[below xs j+i]?=some (xs.toList.drop (below xs j))[i]:=by
   rw [<-qAo,<-qBc];simp
  have h1:=B.hi _ _ (qBm _ i) e;have h2:(xs.toList.drop (below xs j))[i]≠j:=fun z=>hj (z▸qDU hy);lia
 ·have hxj:x<j:=by
   obtain ⟨i,hi,rfl⟩:=qAt.mp hx;rw [qAW] at hi
   have e:xs[i]?=some (xs.toList.take (below xs j))[i]:=by
    rw [<-qAo,<-qCV (show i<below xs j by lia)];exact qAn _
   exact B.lo i _ (by lia) e
  rcases qAP.mp hy with z| z
  ·rw [z];exact hxj
  ·obtain ⟨i,hi,rfl⟩:=qAt.mp z;rw [qBO] at hi
   have e:xs[below xs j+i]?=some (xs.toList.drop (below xs j))[i]:=by
    rw [<-qAo,<-qBc];simp
   have h1:=B.hi _ _ (qBm _ i) e;lia
theorem zFu {β:Type} {L:List α} {M:List β} (hl:L.length=M.length) {p:Nat} (hp:p<=L.length) {x:α} {y:β} {u:α} {v:β} (h1:(L.take p++x::L.drop p)[i]?=some u) (h2:(M.take p++y::M.drop p)[i]?=some v) :
  (u=x/\v=y)\/∃i':Nat,L[i']?=some u/\M[i']?=some v:=by
 have l1:(L.take p).length=p:=by rw [qAW];lia
 have l2:(M.take p).length=p:=by rw [qAW];lia
 by_cases c:i<p
 ·rw [qA6 (by lia),qCV c] at h1 h2;exact .inr ⟨i,h1,h2⟩
 ·rw [qBT (by lia)] at h1 h2;rw [l1] at h1;rw [l2] at h2
  cases e:i - p with
  | zero =>
   rw [e] at h1 h2;exact .inl ⟨(by simpa using h1.symm),(by simpa using h2.symm)⟩
  | succ k =>
   rw [e] at h1 h2;rw [qCk,qBc] at h1 h2;exact .inr ⟨p+k,h1,h2⟩
theorem put_ok (T:TOk t hs) (h:Int) (hN:(pr t.mask h N).j∉t.place.toList) (hb:∀m,m<N->(pr t.mask h m).j∈t.place.toList) (hf:t.place.size+1<=t.mask) :
  TOk (t.put (pr t.mask h N).j).1 (hs.take (t.put (pr t.mask h N).j).2++h::hs.drop (t.put (pr t.mask h N).j).2):=by
 have B:=zEh T.r (pr t.mask h N).j;have ep:(t.put (pr t.mask h N).j).2=below t.place (pr t.mask h N).j:=rfl;have el:(t.put (pr t.mask h N).j).1.place=insertAt t.place (below t.place (pr t.mask h N).j) (pr t.mask h N).j:=rfl;have em:(t.put (pr t.mask h N).j).1.mask=t.mask:=rfl;have tl:=zJd t.place (below t.place (pr t.mask h N).j) (pr t.mask h N).j B.le
 have mem:∀j,j∈t.place.toList->j∈(insertAt t.place (below t.place (pr t.mask h N).j) (pr t.mask h N).j).toList:=fun j hj=>by
  rw [tl];have:j∈t.place.toList.take (below t.place (pr t.mask h N).j)++t.place.toList.drop (below t.place (pr t.mask h N).j):=by rw [qCL];exact hj
  rcases qAK.mp this with z| z
  ·exact qAc _ z
  ·exact qAq _ (qAT _ z)
 have sz:(insertAt t.place (below t.place (pr t.mask h N).j) (pr t.mask h N).j).size=t.place.size+1:=by
  have:=qAg List.length tl;simp only [qBM,qAU,qAb,qAW,qBO] at this;have:=B.le;lia
 refine ⟨T.m,?_,ins_rise T.r hN,fun j hj=>?_,?_,?_,fun i j h' e1 e2=>?_⟩
 ·show (if has t.dummies (pr t.mask h N).j then _ else t.dummies)=#[];rw [T.d,has_nil];rfl
 ·rw [em];rw [el,tl] at hj;rcases qAK.mp hj with z| z
  ·exact T.l j (qBS z)
  ·rcases qAP.mp z with z| z
   ·rw [z];exact pr_le _ _ _
   ·exact T.l j (qDU z)
 ·rw [el,sz,ep,qAU,qAb,qAW,qBO];have:=B.le;have:=T.n;lia
 ·rw [el,sz];exact hf
 ·rw [em];rw [el,<-qAo,tl] at e1;rw [ep] at e2;rw [el];rcases zFu (L:=t.place.toList) (M:=hs) (by simpa using T.n) (by simpa using B.le) e1 e2 with ⟨z1,z2⟩| ⟨i',z1,z2⟩
  ·subst z1 z2;exact ⟨N,rfl,fun m hm=>mem _ (hb m hm)⟩
  ·obtain ⟨n,q1,q2⟩:=T.reach i' j h' (by rw [<-qAo];exact z1) z2;exact ⟨n,q1,fun m hm=>mem _ (q2 m hm)⟩
end
structure Ow (mask:Nat) (hs:List Int) (owner:Array (Option Nat)) (sl:List Nat):Prop where
 z:owner.size=mask+1
 n:sl.length=hs.length
 nd:sl.Nodup
 l:∀j∈sl,j<=mask
 a:∀(k j:Nat),sl[k]?=some j->owner[j]?=some (some k)
 e:∀j,j<=mask->j∉sl->owner[j]?=some none
 reach:∀(k j:Nat) (h:Int),sl[k]?=some j->hs[k]?=some h->∃n,(pr mask h n).j=j/\∀m,m<n->(pr mask h m).j∈sl
theorem zI7 {owner:Array (Option Nat)} {sl:List Nat} (O:Ow mask hs owner sl) (hj:j<=mask):((owner.getD j (some 0)).isNone=true)↔j∉sl:=by
 have hz:j<owner.size:=by rw [O.z];lia
 have eD:owner.getD j (some 0)=owner[j]:=by simp [Array.getD,hz]
 rw [eD];constructor
 ·intro h q;obtain ⟨k,hk,e⟩:=qAt.mp q;have:=O.a k j (qAV.mpr ⟨hk,e⟩);rw [qCl hz] at this;rw [qAZ this] at h;simp at h
 ·intro q;have:=O.e j hj q;rw [qCl hz] at this;rw [qAZ this];rfl
theorem free_go {owner:Array (Option Nat)} {sl:List Nat} (hm:Msk mask) (O:Ow mask hs owner sl) (hl:sl.length<=mask) (h:Int) (hN:(pr mask h N).j∉sl) (hb:∀m,m<N->(pr mask h m).j∈sl) {R:Nat} (hR:(rs mask h R).1∉sl) :
  ∀(fuel r:Nat),stt mask h r<=N->R<r+fuel->layClean.free mask owner fuel (rs mask h r).1 (rs mask h r).2=some (pr mask h N).j
 | 0,r,h1,h2=>by
  exfalso
  have key:∀d,stt mask h R<=stt mask h (R+d)/\(0<d->stt mask h R<stt mask h (R+d)):=by
   intro d
   induction d with
   | zero=>exact ⟨qAG _,fun z=>by lia⟩
   | succ d ih =>
    have e:stt mask h (R+(d+1))=stt mask h (R+d)+(runEnd mask (rs mask h (R+d)).1 - (rs mask h (R+d)).1+1):=rfl;exact ⟨by lia,fun _=>by lia⟩
  obtain ⟨d,rfl⟩:∃d,r=R+d:=⟨r - R,by lia⟩;have hd:0<d:=by lia
  have:=(key d).2 hd;have q:=hb (stt mask h R) (by lia);have e:=zE1 mask h R 0 (qAj _);rw [qCj] at e;rw [e] at q;exact hR (by simpa using q)
 | fuel+1,r,h1,h2=>by
  have rl:=run_le mask _ (rs_le mask h r);unfold layClean.free
  cases q:(List.range (runEnd mask (rs mask h r).1+1 - (rs mask h r).1)).find? fun k=>(owner.getD ((rs mask h r).1+k) (some 0)).isNone with
  | some k =>
   have q1:=qC7 q;have q2:=qC8 q;rw [qBF] at q2;have q1:((owner.getD ((rs mask h r).1+k) (some 0)).isNone)=true:=q1;rw [zI7 O (by lia)] at q1;have e:=zE1 mask h r k (by lia);have hk:(pr mask h (stt mask h r+k)).j=(rs mask h r).1+k:=by rw [e]
   have c1:¬stt mask h r+k<N:=fun z=>q1 (hk▸hb _ z)
   have c2:¬N<stt mask h r+k:=fun z=>by
    obtain ⟨d,hd⟩:∃d,N=stt mask h r+d:=⟨N - stt mask h r,by lia⟩;have hdk:d<k:=by lia
    rw [List.find?_eq_some_iff_append] at q;obtain ⟨_,as,bs,e1,e2⟩:=q
    have la:as.length=k:=by
     have:=qAg (fun l=>l[as.length]?) e1;simp at this
     by_cases cc:as.length<runEnd mask (rs mask h r).1+1 - (rs mask h r).1
     ·rw [List.getElem?_range cc] at this;exact qAZ this
     ·rw [List.getElem?_eq_none (by simp;lia)] at this
      cases this
    have mem:d∈as:=by
     have hd':(List.range (runEnd mask (rs mask h r).1+1 - (rs mask h r).1))[d]?=some d:=List.getElem?_range (by lia);rw [e1,qA6 (by lia)] at hd';exact qAI hd'
    have z1:=e2 d mem;have ed:=zE1 mask h r d (by lia);have hjd:(pr mask h N).j=(rs mask h r).1+d:=by rw [hd,ed]
    have z2:((owner.getD ((rs mask h r).1+d) (some 0)).isNone)=true:=(zI7 O (by lia)).mpr (hjd▸hN);rw [z2] at z1;simp at z1
   have eN:N=stt mask h r+k:=by lia
   show some ((rs mask h r).1+k)=_;rw [eN,hk]
  | none =>
   have q1:=List.find?_eq_none.mp q;refine free_go hm O hl h hN hb hR fuel (r+1) ?_ (by lia);show stt mask h r+(runEnd mask (rs mask h r).1 - (rs mask h r).1+1)<=N;apply qA3;intro c;obtain ⟨d,hd⟩:∃d,N=stt mask h r+d:=⟨N - stt mask h r,by lia⟩;have ed:=zE1 mask h r d (by lia);have hjd:(pr mask h N).j=(rs mask h r).1+d:=by rw [hd,ed]
   have z1:=q1 d (qBF.mpr (by lia));have z2:((owner.getD ((rs mask h r).1+d) (some 0)).isNone)=true:=(zI7 O (by lia)).mpr (hjd▸hN);exact z1 z2
theorem free_ok {owner:Array (Option Nat)} {sl:List Nat} (hm:Msk mask) (O:Ow mask hs owner sl) (hl:sl.length<=mask) (h:Int) :
  ∃N,(pr mask h N).j∉sl/\(∀m,m<N->(pr mask h m).j∈sl)/\layClean.free mask owner (turns mask) (bits h % (mask+1)) (bits h)=some (pr mask h N).j:=by
 obtain ⟨N,_,hN,hb⟩:=zIi hm h hl;obtain ⟨s,hs',q⟩:=free_slot hl;obtain ⟨R,hR,e⟩:=pr_all hm h s hs';exact ⟨N,hN,hb,free_go hm O hl h hN hb (R:=R) (by rw [e];exact q) (turns mask) 0 (qAj _) (by unfold turns;lia)⟩
theorem Ow.more {owner:Array (Option Nat)} {sl:List Nat} (O:Ow mask hs owner sl) (h:Int) (hN:(pr mask h N).j∉sl) (hb:∀m,m<N->(pr mask h m).j∈sl) :
  Ow mask (hs++[h]) (owner.setIfInBounds (pr mask h N).j (some hs.length)) (sl++[(pr mask h N).j]):=by
 have hj:=pr_le mask h N;have hz:(pr mask h N).j<owner.size:=by rw [O.z];lia
 have one:∀{k j:Nat},(sl++[(pr mask h N).j])[k]?=some j->(k<sl.length/\sl[k]?=some j)\/(k=sl.length/\j=(pr mask h N).j):=fun {k j} e=>by
  by_cases c:k<sl.length
  ·rw [qA6 c] at e;exact .inl ⟨c,e⟩
  ·rw [qBT (by lia)] at e
   have hk:k=sl.length:=by
    have:=(qAV.mp e).1;simp at this;lia
   subst hk;exact .inr ⟨rfl,by simpa using e.symm⟩
 refine ⟨by rw [qDV];exact O.z,by simp [O.n],?_,fun j hj'=>?_,fun k j e=>?_,fun j hj1 hj2=>?_,fun k j h' e1 e2=>?_⟩
 ·refine qBd.mpr ⟨O.nd,qA1.mpr ⟨by simp,qBL⟩,fun a ha b hb'=>?_⟩;have:b=(pr mask h N).j:=by simpa using hb'
  subst this;intro z;subst z;exact hN ha
 ·rcases qAK.mp hj' with z| z
  ·exact O.l j z
  ·have:j=(pr mask h N).j:=by simpa using z
   rw [this];exact hj
 ·rcases one e with ⟨_,z⟩| ⟨z1,z2⟩
  ·have hne:j≠(pr mask h N).j:=fun q=>hN (q▸qAI z);rw [Array.getElem?_setIfInBounds_ne (qAu hne)];exact O.a k j z
  ·subst z1 z2;rw [Array.getElem?_setIfInBounds_self_of_lt hz,O.n]
 ·have h1:j∉sl:=fun q=>hj2 (qAc _ q);have h2:j≠(pr mask h N).j:=fun q=>hj2 (qAq _ (by simp [q]));rw [Array.getElem?_setIfInBounds_ne (qAu h2)];exact O.e j hj1 h1
 ·rcases one e1 with ⟨c,z⟩| ⟨z1,z2⟩
  ·rw [qA6 (by rw [<-O.n];exact c)] at e2;obtain ⟨n,q1,q2⟩:=O.reach k j h' z e2;exact ⟨n,q1,fun m hm=>qAc _ (q2 m hm)⟩
  ·subst z1 z2;rw [qBT (by rw [O.n];exact qAG _),O.n] at e2;have:h'=h:=by simpa using e2.symm
   subst this;exact ⟨N,rfl,fun m hm=>qAc _ (hb m hm)⟩
theorem lay_ok (hm:Msk mask) (hs:List Int) (hl:hs.length<=mask):∃owner sl,Ow mask hs owner sl/\layClean mask hs.toArray=some owner:=by
 have key:∀(rest done:List Int) (owner:Array (Option Nat)) (sl:List Nat),Ow mask done owner sl->done.length+rest.length<=mask ->
   ∃owner' sl',Ow mask (done++rest) owner' sl'/\rest.foldl (fun (acc:Option (Array (Option Nat)×Nat)) h=>do
    let (owner,k)<-acc
    let j<-layClean.free mask owner (turns mask) (bits h % (mask+1)) (bits h)
    pure (owner.setIfInBounds j (some k),k+1)) (some (owner,done.length))=some (owner',(done++rest).length):=by
  intro rest
  induction rest with
  | nil=>intro done owner sl O _;exact ⟨owner,sl,by rw [qAs];exact O,by rw [qAs];rfl⟩
  | cons h rest ih =>
   intro done owner sl O hl;rw [qAb] at hl;obtain ⟨N,hN,hb,ef⟩:=free_ok hm O (by rw [O.n];lia) h;have O2:=O.more h hN hb;obtain ⟨o',s',O3,e3⟩:=ih (done++[h]) _ _ O2 (by rw [qAU];simp;lia);refine ⟨o',s',by simpa using O3,?_⟩;rw [qBi]
   have e4:(do
    let (owner,k)<-(some (owner,done.length):Option (Array (Option Nat)×Nat))
    let j<-layClean.free mask owner (turns mask) (bits h % (mask+1)) (bits h)
    pure (owner.setIfInBounds j (some k),k+1))=some (owner.setIfInBounds (pr mask h N).j (some done.length),(done++[h]).length):=by
    show (do
     let j<-layClean.free mask owner (turns mask) (bits h % (mask+1)) (bits h)
     pure (owner.setIfInBounds j (some done.length),done.length+1))=_
    rw [ef];simp
   rw [e4,e3];simp
 have O0:Ow mask [] (Array.replicate (mask+1) none) []:=⟨Array.size_replicate,rfl,qBL,(fun j h=>absurd h qCm),(fun k j e=>by rw [List.getElem?_nil] at e;cases e),(fun j hj _=>by rw [Array.getElem?_replicate,qAC (by lia)]),(fun k j h e=>by rw [List.getElem?_nil] at e;cases e)⟩;obtain ⟨o,sl,O,e⟩:=key hs [] _ _ O0 (by simpa using hl);refine ⟨o,sl,by simpa using O,?_⟩;unfold layClean;rw [List.foldl_toArray];have e':=e;simp only [qBj,qBH] at e';show Option.map _ (hs.foldl _ (some (Array.replicate (mask+1) none,0)))=_;rw [e'];rfl
theorem laid_ok (hm:Msk mask) (hs:List Int) (hl:hs.length<=mask) (fi mo:Nat) (led plain:Bool):∃t order,laid mask fi mo led plain hs.toArray=some (t,order)/\t.mask=mask/\t.led=led/\t.plain=plain/\order.toList.Perm (List.range hs.length) /\
  TOk t (order.toList.map fun k=>hs.getD k 0):=by
 obtain ⟨owner,sl,O,e⟩:=lay_ok hm hs hl
 have hg:∀j,j<=mask->owner.getD j none=(owner[j]?).getD none:=fun j hj=>by
  have hz:j<owner.size:=by rw [O.z];lia
  simp [Array.getD,hz]
 have el:∀j,j<=mask->((owner.getD j none).map (j,·)=none↔j∉sl):=fun j hj=>by
  rw [hg j hj];constructor
  ·intro q z;obtain ⟨k,hk,ek⟩:=qAt.mp z;rw [O.a k j (qAV.mpr ⟨hk,ek⟩)] at q
   cases q
  ·intro q;rw [O.e j hj q];rfl
 have es:∀j k,j<=mask->((owner.getD j none).map (j,·)=some (j,k)↔sl[k]?=some j):=fun j k hj=>by
  rw [hg j hj];constructor
  ·intro q
   by_cases c:j∈sl
   ·obtain ⟨k',hk,ek⟩:=qAt.mp c;have ek':=qAV.mpr ⟨hk,ek⟩;rw [O.a k' j ek'] at q;have q:some (j,k')=some (j,k):=q;injection q with q;injection q with _ q;rw [<-q];exact ek'
   ·rw [O.e j hj c] at q;cases q
  ·intro q;rw [O.a k j q];rfl
 generalize hlive:(List.range (mask+1)).filterMap (fun j=>(owner.getD j none).map (j,·))=live
 have mem:∀p,p∈live↔sl[p.2]?=some p.1:=fun p=>by
  rw [<-hlive,List.mem_filterMap];constructor
  ·rintro ⟨j,hj,q⟩;have hj':j<=mask:=by have:=qBF.mp hj;lia
   have:p.1=j:=by
    cases h:owner.getD j none with
    | none=>rw [h] at q;cases q
    | some k=>rw [h] at q;have q:some (j,k)=some p:=q;injection q with q;rw [<-q]
   subst this;exact (es p.1 p.2 hj').mp q
  ·intro q;have hj:p.1<=mask:=O.l _ (qAI q);exact ⟨p.1,qBF.mpr (by lia),(es p.1 p.2 hj).mpr q⟩
 have rise:Rise (live.map (·.1)):=by
  have h1:(List.range (mask+1)).Pairwise (·<·):=List.pairwise_lt_range;rw [<-hlive,List.map_filterMap];refine List.Pairwise.filterMap _ (fun a b hab x hx y hy=>?_) h1
  cases ha:owner.getD a none with
  | none=>rw [ha] at hx;cases hx
  | some k =>
   rw [ha] at hx;have hx:some a=some x:=hx
   cases hb:owner.getD b none with
   | none=>rw [hb] at hy;cases hy
   | some k' =>
    rw [hb] at hy;have hy:some b=some y:=hy;injection hx with hx;injection hy with hy;lia
 have nd2:(live.map (·.2)).Nodup:=by
  have hr:live.Pairwise (fun a b=>a.1<b.1):=qBx.mp rise;refine qBx.mpr (hr.imp_of_mem fun {a b} ha hb hab q=>?_);have h1:=(mem a).mp ha;have h2:=(mem b).mp hb;rw [q] at h1;rw [h1] at h2;have:=qAZ h2;lia
 have perm:(live.map (·.2)).Perm (List.range hs.length):=by
  refine (qC9 nd2 List.nodup_range).mpr fun k=>?_;rw [qBF,qAM];constructor
  ·rintro ⟨p,hp,rfl⟩;have:=(qAV.mp ((mem p).mp hp)).1;rw [O.n] at this;exact this
  ·intro hk;have hk':k<sl.length:=by rw [O.n];exact hk
   exact ⟨(sl[k],k),(mem _).mpr (by simp),rfl⟩
 have pmem:∀j,j∈live.map (·.1)↔j∈sl:=fun j=>by
  rw [qAM];constructor
  ·rintro ⟨p,hp,rfl⟩;exact qAI ((mem p).mp hp)
  ·intro q;obtain ⟨k,hk,ek⟩:=qAt.mp q;exact ⟨(j,k),(mem _).mpr (qAV.mpr ⟨hk,ek⟩),rfl⟩
 have llen:live.length=hs.length:=by
  have:=perm.length_eq;simpa using this
 refine ⟨{mask,place:=(live.map (·.1)).toArray,dummies:=#[],finger:=fi,led,moves:=mo,plain},(live.map (·.2)).toArray,?_,rfl,rfl,rfl,by simpa using perm,?_⟩
 ·unfold laid;rw [e];show some (_,_)=some (_,_);rw [hlive]
 ·refine ⟨hm,rfl,by simpa using rise,fun j hj=>?_,by simp [llen],by simp [llen];exact hl,fun i j h e1 e2=>?_⟩
  ·exact O.l j ((pmem j).mp (by simpa using hj))
  ·have e1:(live.map (·.1))[i]?=some j:=by simpa using e1
   have e2:((live.map (·.2)).map fun k=>hs.getD k 0)[i]?=some h:=by simpa using e2
   cases q:live[i]? with
   | none=>rw [qAX,q] at e1;cases e1
   | some p =>
    rw [qAX,q] at e1;rw [qAX,qAX,q] at e2;have e1:p.1=j:=by simpa using e1
    have e2:hs.getD p.2 0=h:=by simpa using e2
    have hp:=(mem p).mp (qAI q);rw [e1] at hp;have hk:p.2<hs.length:=by rw [<-O.n];exact (qAV.mp hp).1
    have hh:hs[p.2]?=some h:=by
     rw [<-e2,qBJ];simp [hk]
    obtain ⟨n,q1,q2⟩:=O.reach p.2 j h hp hh
    exact ⟨n,q1,fun m hm=>by
     have:=(pmem _).mpr (q2 m hm);simpa using this⟩
section
variable {prog:Program} {w:World} {K:Type} [DecidableEq K] {knd:KeyKind prog w K} {A:Around} {E:Value->Shared->Prop} {s:Shared}
theorem byv_noref {v:Value} (h:carriedByValue v=true):∀a,v≠.ref a:=by
 intro a e;subst e;simp [carriedByValue] at h
theorem cls_byv (n:Nat) {v:Value} (h:carriedByValue v=true):ofAClassStatement n v=pure false:=by
 cases v with
 | ref a=>exact absurd rfl (byv_noref h a)
 | _=>cases n<;>(unfold ofAClassStatement;rfl)
theorem w_cls {k:List K} {Q:Bool->Shared->Prop} (hk:IsTupleKey knd s.heap k b) (h:Q false s):wpAny (model prog w) A (ofAClassStatement 8 (.ref b)) Q E s:=by
 have hT:=hk.typeIs;obtain ⟨o,items,n,ho,_,hd,hi⟩:=hk;unfold ofAClassStatement;refine qAA (wpAny_typeOf hT ?_);show wpAny _ _ (if ("tuple" == "tuple")=true then _ else _) _ _ _;rw [qAC (by decide)];refine qAA (qAE ?_);show wpAny _ _ (if (!true)=true then _ else _) _ _ _;rw [qAB (by decide)];show wpAny _ _ (seqItems? (.ref b) >>= _) _ _ _;refine qAA ?_;show wpAny _ _ (load b >>= _) _ _ _;refine qAA (qBr ho ?_);rw [hd];refine qAE ?_;dsimp only;refine qAA ?_;show wpAny _ _ (forIn items _ _) _ _ s;rw [<-qDA];refine qDB _ (fun rest r s'=>r.1=none/\s'=s/\∀v∈rest,carriedByValue v=true) _ ?_ ?_ _ _ ⟨rfl,rfl,hi.byValue⟩
 ·rintro v rest r s' ⟨hr,rfl,hall⟩;refine qAA (wpAny_of_eq (cls_byv _ (hall v qAa)) ?_);rw [qAB (by decide)];exact qAE ⟨rfl,rfl,fun u hu'=>hall u (qAT _ hu')⟩
 ·rintro ⟨r1,r2⟩ s' ⟨hr,rfl,_⟩;have hr:r1=none:=hr;subst hr;exact qAE h
theorem w_seen {k:List K} {stored:List Value} {Q:Bool->Shared->Prop} (hk:IsTupleKey knd s.heap k b) (hs:∀v∈stored,∃k' b',v= .ref b'/\IsTupleKey knd s.heap k' b') (h:Q false s):wpAny (model prog w) A (searchCouldBeSeen (.ref b) stored) Q E s:=by
 unfold searchCouldBeSeen;refine qAA ?_;refine qDB _ (fun rest r s'=>r.1=none/\s'=s/\∀v∈rest,∃k' b',v= .ref b'/\IsTupleKey knd s.heap k' b') _ ?_ ?_ _ _ ⟨rfl,rfl,hs⟩
 ·rintro v rest r s' ⟨hr,rfl,hall⟩;obtain ⟨k',b',rfl,hk'⟩:=hall v qAa;have hall':∀u∈rest,∃k' b',u= .ref b'/\IsTupleKey knd s'.heap k' b':=fun u hu'=>hall u (qAT _ hu');dsimp only
  by_cases c:((b==b')||(carriedByValue (.ref b)&&carriedByValue (.ref b')))=true
  ·rw [qAC c];exact qAE ⟨rfl,rfl,hall'⟩
  ·rw [qAB c];refine qAA (wpAny_eqIsQuiet_tuple hk ?_);rw [qAB (by decide)];refine qAA (wpAny_eqIsQuiet_tuple hk' ?_);rw [qAB (by decide)];refine qAA (w_cls hk ?_);rw [qAB (by decide)];refine qAA (w_cls hk' ?_);rw [qAB (by decide)];exact qAE ⟨rfl,rfl,hall'⟩
 ·rintro ⟨r1,r2⟩ s' ⟨hr,rfl,_⟩;have hr:r1=none:=hr;subst hr;exact qAE h
theorem hbv_byv (n:Nat) {v:Value} (h:carriedByValue v=true):∃c,hashByValue n v=pure c:=by
 cases v with
 | ref a=>exact absurd rfl (byv_noref h a)
 | _=>cases n<;>(unfold hashByValue;exact ⟨_,rfl⟩)
theorem w_hbv {k:List K} {Q:Bool->Shared->Prop} (hk:IsTupleKey knd s.heap k b) (h:∀c,Q c s):wpAny (model prog w) A (hashByValue 8 (.ref b)) Q E s:=by
 have hT:=hk.typeIs;obtain ⟨o,items,n,ho,_,hd,hi⟩:=hk;unfold hashByValue;refine qAA (wpAny_specialOf hT F.slot_tuple_hash.lookup ?_);show wpAny _ _ (seqItems? (.ref b) >>= _) _ _ _;refine qAA ?_;show wpAny _ _ (load b >>= _) _ _ _;refine qAA (qBr ho ?_);rw [hd];refine qAE ?_;dsimp only;refine qAA ?_;show wpAny _ _ (forIn items _ _) _ _ s;rw [<-qDA];refine qDB _ (fun rest r s'=>s'=s/\∀v∈rest,carriedByValue v=true) _ ?_ ?_ _ _ ⟨rfl,hi.byValue⟩
 ·rintro v rest r s' ⟨rfl,hall⟩;obtain ⟨c,ec⟩:=hbv_byv 7 (hall v qAa);rw [ec];refine qAA (qAE ?_);split
  ·exact qAE (qAE (h _))
  ·exact qAE ⟨rfl,fun u hu'=>hall u (qAT _ hu')⟩
 ·rintro ⟨r1,r2⟩ s' ⟨rfl,_⟩
  cases r1 with
  | none=>exact qAE (h _)
  | some c=>exact qAE (h _)
end
section
variable {prog:Program} {w:World} {K:Type} [DecidableEq K] {knd:KeyKind prog w K} {A:Around} {E:Value->Shared->Prop} {s:Shared}
def en (knd:KeyKind prog w K) (p:List K×Addr):Int×Value:=(tupleKeyHash knd p.1,.ref p.2)
def byt (w:World):Bool:=w.params.followText "set-order"
structure SetX (knd:KeyKind prog w K) (h:Heap) (a:Addr) (xs:List (List K×Addr)) (o:Obj) (es:Array (Int×Value)) (ep:Nat) (t:SetTable):Prop where
 ho:h.get? a=some o
 ex:o.ExactSet
 hd:o.data= .set es ep t
 el:es.toList=xs.map (en knd)
 ok:TOk t (xs.map fun p=>tupleKeyHash knd p.1)
 room:xs.length*5<t.mask*3
 nd:(xs.map (·.1)).Nodup
 ky:∀p∈xs,IsTupleKey knd h p.1 p.2
 ld:t.led= !byt w
section
variable {a:Addr} {xs:List (List K×Addr)} {o:Obj} {es:Array (Int×Value)} {ep:Nat} {t:SetTable}
theorem SetX.at (X:SetX knd s.heap a xs o es ep t) (i:Nat):es[i]?=(xs[i]?).map (en knd):=by
 rw [<-qAo,X.el,qAX]
theorem SetX.size (X:SetX knd s.heap a xs o es ep t):es.size=xs.length:=by
 have:=qAg List.length X.el;simpa using this
theorem SetX.fits (X:SetX knd s.heap a xs o es ep t):t.fits es.size=true:=by
 unfold SetTable.fits;have h1:t.place.size=es.size:=by rw [X.ok.n,X.size];simp
 have h2:t.fill<=t.mask:=by
  unfold fill;rw [X.ok.d];exact X.ok.f
 rw [h1];simp [h2]
theorem SetX.state (X:SetX knd s.heap a xs o es ep t) {Q:(Array (Int×Value)×Nat×SetTable)->Shared->Prop} (h:Q (es,ep,t) s):wpAny (model prog w) A (setState a) Q E s:=wpAny_setState_of X.ho X.hd X.fits h
theorem msk_odd {m:Nat} (h:Msk m):(m % 2==0)=false:=by
 rcases h with rfl| rfl| rfl| rfl<;>decide
theorem SetX.has (X:SetX knd s.heap a xs o es ep t) (e:t.place[i]?=some j):∃p,xs[i]?=some p:=by
 have h1:i<t.place.size:=(qBw.mp e).1;have h2:=X.ok.n;rw [qAD] at h2;exact ⟨xs[i]'(by lia),by simp⟩
theorem split_seen {c:Bool} {m:Sem Bool} {u:String} {jp:Unit->Sem α} {Q:α->Shared->Prop} (hm:∀f:Bool->Sem α,wpAny (model prog w) A (f false) Q E s->wpAny (model prog w) A (m >>= f) Q E s) (h:wpAny (model prog w) A (jp ()) Q E s) :
  wpAny (model prog w) A (if c=true then (m >>= fun l=>if l=true then (unsupported u >>= jp) else jp ()) else jp ()) Q E s:=by
 by_cases z:c=true
 ·rw [qAC z];exact hm _ h
 ·rw [qAB z];exact h
theorem w_search (hu:A.units<cLine) (X:SetX knd s.heap a xs o es ep t) {k:List K} (hk:IsTupleKey knd s.heap k b) (hN:(pr t.mask (tupleKeyHash knd k) N).j∉t.place.toList) (hb:∀m,m<N->(pr t.mask (tupleKeyHash knd k) m).j∈t.place.toList) (hNf:N<10*turns t.mask)
  {Q:SetFound->Shared->Prop} (h1:k∈xs.map (·.1)->Q (.there none) s) (h2:k∉xs.map (·.1)->Q (.free (pr t.mask (tupleKeyHash knd k) N).j false) s) :
  ∀(d n fuel:Nat) (stand:Option Probe),N=n+d->d<fuel->stand.getD (t.probeStart (tupleKeyHash knd k))=pr t.mask (tupleKeyHash knd k) n ->
   (∀m,m<n->∃(i:Nat) (p:List K×Addr),t.place[i]?=some (pr t.mask (tupleKeyHash knd k) m).j/\xs[i]?=some p/\p.1≠k)->wpAny (model prog w) A (setSearchFrom a (.ref b) (tupleKeyHash knd k) true fuel stand) Q E s:=by
 intro d
 induction d using Nat.strongRecOn with
 | _ d ih =>
  intro n fuel stand e hf hst hseen;obtain ⟨fuel,rfl⟩:∃f,fuel=f+1:=⟨fuel - 1,by lia⟩;unfold setSearchFrom;refine qAA (X.state ?_);show wpAny _ _ (if (t.mask % 2==0)=true then _ else _) _ _ _;rw [msk_odd X.ok.m,qAB (by decide)]
  have oth:∀m,Oth t (fun i=>(es[i]?.map (·.1)).getD 0) (tupleKeyHash knd k) m->∃(i:Nat) (p:List K×Addr),t.place[i]?=some (pr t.mask (tupleKeyHash knd k) m).j/\xs[i]?=some p/\p.1≠k:=fun m ⟨i,ei,hi⟩=>by
   obtain ⟨p,ep'⟩:=X.has ei;refine ⟨i,p,ei,ep',fun z=>hi ?_⟩;show (es[i]?.map (·.1)).getD 0=_;rw [X.at i,ep',<-z];rfl
  rw [hst];rcases go_ok X.ok (fun i=>(es[i]?.map (·.1)).getD 0) (tupleKeyHash knd k) hN hb d n (10*turns t.mask) e (by lia) with ⟨z1,z2⟩| ⟨m,i,z1,z2,z3,z4,z5,z6⟩
  ·have z1:t.probe (fun i=>(es[i]?.map (·.1)).getD 0) (tupleKeyHash knd k) (pr t.mask (tupleKeyHash knd k) n)=some (.empty (pr t.mask (tupleKeyHash knd k) N).j none):=z1
   erw [z1]
   refine qAE (h2 fun hm=>?_);obtain ⟨p,hp,rfl⟩:=qAM.mp hm;obtain ⟨i,hi,ei⟩:=qAt.mp hp;have exi:xs[i]?=some p:=qAV.mpr ⟨hi,ei⟩;have hpl:i<t.place.size:=by rw [X.ok.n,qAD];exact hi
   have epl:t.place[i]?=some t.place[i]:=by simp
   obtain ⟨q,q1,q2⟩:=X.ok.reach i t.place[i] (tupleKeyHash knd p.1) epl (by rw [qAX,exi];rfl)
   have hqN:q<N:=by
    apply qA3;intro c
    by_cases cq:q=N
    ·subst cq;exact hN (by rw [q1];exact qAI (i:=i) (by rw [qAo];exact epl))
    ·exact hN (q2 N (by lia))
   have:∃(i':Nat) (p':List K×Addr),t.place[i']?=some (pr t.mask (tupleKeyHash knd p.1) q).j/\xs[i']?=some p'/\p'.1≠p.1:=by
    by_cases c:q<n
    ·exact hseen q c
    ·exact oth q (z2 q (by lia) hqN)
   obtain ⟨i',p',w1,w2,w3⟩:=this;rw [q1] at w1
   have:i'=i:=by
    rcases Nat.lt_trichotomy i' i with z| z| z
    ·have:=zEd X.ok.r z w1 epl;lia
    ·exact z
    ·have:=zEd X.ok.r z epl w1;lia
   subst this;rw [exi] at w2
   cases w2
   exact w3 rfl
  ·have z5:t.probe (fun i=>(es[i]?.map (·.1)).getD 0) (tupleKeyHash knd k) (pr t.mask (tupleKeyHash knd k) n)=some (.candidate (pr t.mask (tupleKeyHash knd k) m).j i (pr t.mask (tupleKeyHash knd k) (m+1))):=z5
   erw [z5]
   obtain ⟨p,exi⟩:=X.has z3;have hp:=X.ky p (qAI exi);have eei:es[i]?=some (tupleKeyHash knd p.1,.ref p.2):=by rw [X.at i,exi];rfl
   refine split_seen (fun f hf=>qAA (w_seen hk ?_ hf)) ?_
   ·intro v hv;obtain ⟨q,hq,rfl⟩:=qAM.mp hv
    have hq:q∈es.toList:=by
     have:=(Array.mem_filter.mp (qDS.mp hq)).1;exact qDS.mpr this
    rw [X.el] at hq;obtain ⟨p',hp',rfl⟩:=qAM.mp hq;exact ⟨p'.1,p'.2,rfl,X.ky p' hp'⟩
   dsimp only;rw [eei];dsimp only;refine qAA (qA0 (wpAny_eqBool_tuple hu hp hk ?_));refine qAA (X.state ?_);dsimp only
   by_cases c:p.1=k
   ·rw [qAC (by simp [c])];exact qAE (h1 (qAM.mpr ⟨p,qAI exi,c⟩))
   ·rw [qAB (by simp [c])];have esm:t.sameMemory t.moves t.mask=some true:=by unfold SetTable.sameMemory;simp
    rw [esm];dsimp only;rw [qAC rfl,slot_live X.ok z3];dsimp only;rw [eei];dsimp only;refine qAA (wpAny_isSame_ref_self ?_);rw [qAC rfl];refine qAA (qAE ?_);dsimp only;rw [qAB (by simp [c])];refine ih (N - (m+1)) (by lia) (m+1) fuel (some _) (by lia) (by lia) rfl ?_;intro q hq
    by_cases cq:q<n
    ·exact hseen q cq
    by_cases cm:q=m
    ·subst cm;exact ⟨i,p,z3,exi,c⟩
    ·exact oth q (z6 q (by lia) (by lia))
end
end
section
variable {prog:Program} {w:World} {K:Type} [DecidableEq K] {knd:KeyKind prog w K} {A:Around} {E:Value->Shared->Prop} {s:Shared}
variable {a:Addr} {xs:List (List K×Addr)} {o:Obj} {es:Array (Int×Value)} {ep:Nat} {t:SetTable}
theorem key_but {h h':Heap} {k:List K} (x:IsTupleKey knd h k b) (ho:h.get? a=some o) (hd:o.data= .set es ep t) (hs:Heap.SameBut a h h'):IsTupleKey knd h' k b:=by
 obtain ⟨o1,its,n,p1,p2,p3,p4⟩:=x;refine ⟨o1,its,n,(hs.2 b fun z=>?_).trans p1,p2,p3,p4⟩;subst z;have:=qAZ (p1.symm.trans ho);subst this;rw [hd] at p3;exact nomatch p3
theorem put_get {h:Heap} (ho:h.get? a=some o) (hd:o.data= .set es ep t) (es':Array (Int×Value)) (t':SetTable):(h.update a (Obj.putSet es' t')).get? a=some {o with data:=.set es' (ep+1) t'}:=by
 have:=qBU (Obj.putSet es' t') ho (by rw [putSet_of es' t' hd];rfl)
 rwa [putSet_of es' t' hd] at this
theorem put_X {h:Heap} (ho:h.get? a=some o) (ex:o.ExactSet) (hd:o.data= .set es ep t) {es':Array (Int×Value)} {t':SetTable} {ys:List (List K×Addr)} (e1:es'.toList=ys.map (en knd)) (e2:TOk t' (ys.map fun p=>tupleKeyHash knd p.1)) (e3:ys.length*5<t'.mask*3) (e4:(ys.map (·.1)).Nodup) (e5:∀p∈ys,IsTupleKey knd h p.1 p.2) (e6:t'.led= !byt w) :
  SetX knd (h.update a (Obj.putSet es' t')) a ys {o with data:=.set es' (ep+1) t'} es' (ep+1) t' :=
 ⟨put_get ho hd es' t',ex,rfl,e1,e2,e3,e4,fun p hp=>key_but (e5 p hp) ho hd (qAr h a _),e6⟩
theorem not_scan (b:Addr) (es:Array (Int×Value)):byScan (.ref b) es=false:=by
 unfold byScan;rfl
theorem grow_mask {m n:Nat} (hm:Msk m) (h0:n*5<m*3) (h1:m*3<=(n+1)*5) (hc:n+1<=306):Msk (sizeAbove (grown (n+1)) - 1)/\n+1<=sizeAbove (grown (n+1)) - 1/\(n+1)*5<(sizeAbove (grown (n+1)) - 1)*3/\sizeAbove (grown (n+1))<=512:=by
 rcases hm with rfl| rfl| rfl| rfl
 ·obtain rfl:n=4:=by lia
  refine ⟨by unfold Msk;decide +kernel,by decide +kernel,by decide +kernel,by decide +kernel⟩
 ·obtain rfl:n=18:=by lia
  refine ⟨by unfold Msk;decide +kernel,by decide +kernel,by decide +kernel,by decide +kernel⟩
 ·obtain rfl:n=76:=by lia
  refine ⟨by unfold Msk;decide +kernel,by decide +kernel,by decide +kernel,by decide +kernel⟩
 ·lia
theorem getD_hash (ys:List (List K×Addr)) (order:List Nat) (hp:order.Perm (List.range ys.length)):(order.filterMap (ys[·]?)).map (fun p=>tupleKeyHash knd p.1)=order.map (fun k=>(ys.map fun p=>tupleKeyHash knd p.1).getD k 0):=by
 have hall:∀k∈order,k<ys.length:=fun k hk=>qBF.mp (hp.mem_iff.mp hk);clear hp
 induction order with
 | nil=>rfl
 | cons k ks ih =>
  have hk:=hall k qAa;have e:ys[k]?=some ys[k]:=by simp [hk]
  rw [qBp,e];show tupleKeyHash knd ys[k].1::_=_::_;rw [ih (fun q hq=>hall q (qAT _ hq))];congr 1;show _=(List.map (fun p=>tupleKeyHash knd p.fst) ys).getD k 0;rw [qBJ,qAX,e];rfl
theorem range_get (ys:List α):(List.range ys.length).filterMap (ys[·]?)=ys:=by
 induction ys with
 | nil=>rfl
 | cons y ys ih =>
  rw [qAb,List.range_succ_eq_map,qBp];show y::_=_;rw [List.filterMap_map];congr 1
theorem perm_get (ys:List α) {order:List Nat} (hp:order.Perm (List.range ys.length)):(order.filterMap (ys[·]?)).Perm ys:=by
 have:=hp.filterMap (ys[·]?)
 rwa [range_get] at this
theorem w_relay {s:Shared} {m n:Nat} (ho:s.heap.get? a=some o) (ex:o.ExactSet) (hd:o.data= .set es ep t) (e1:es.toList=xs.map (en knd)) (e2:TOk t (xs.map fun p=>tupleKeyHash knd p.1)) (hn:xs.length=n+1) (h0:n*5<t.mask*3) (h1:t.mask*3<=(n+1)*5) (hc:n+1<=306)
  (e4:(xs.map (·.1)).Nodup) (e5:∀p∈xs,IsTupleKey knd s.heap p.1 p.2) (e6:t.led= !byt w) {Q:Unit->Shared->Prop} (h:∀h' ys o' es' ep' t',Heap.SameBut a s.heap h'->ys.Perm xs->SetX knd h' a ys o' es' ep' t'->Q () {s with heap:=h'}) :
  wpAny (model prog w) A (setRelay a (grown (n+1))) Q E s:=by
 obtain ⟨g1,g2,g3,g4⟩:=grow_mask e2.m h0 h1 hc;have ez:es.size=xs.length:=by have:=qAg List.length e1;simpa using this
 have hfit:t.fits es.size=true:=by
  unfold SetTable.fits;have z1:t.place.size=es.size:=by rw [e2.n,ez];simp
  have z2:t.fill<=t.mask:=by unfold fill;rw [e2.d];exact e2.f
  rw [z1];simp [z2]
 unfold setRelay;refine qAA (wpAny_setState_of ho hd hfit ?_);dsimp only;have hsl:sizeAbove (grown (n+1))<=sizeLine:=qAY g4 (by decide +kernel);rw [qAB (qCn.mpr hsl)];obtain ⟨t',order,l1,l2,l3,l4,l5,l6⟩:=laid_ok g1 (xs.map fun p=>tupleKeyHash knd p.1) (by rw [qAD];lia) t.finger (t.movedTo (sizeAbove (grown (n+1)) - 1)) t.led t.plain
 have lr:t.relaid (es.map (·.1)) (grown (n+1))=some (t',order):=by
  unfold relaid
  have:es.map (·.1)=(xs.map fun p=>tupleKeyHash knd p.1).toArray:=by
   apply Array.ext';rw [Array.toList_map,e1,qA4];rfl
  rw [this];exact l1
 rw [lr];rw [qAD] at l5;have lp:=perm_get xs l5
 have el':(order.filterMap (es[·]?)).toList=(order.toList.filterMap (xs[·]?)).map (en knd):=by
  rw [Array.toList_filterMap,List.map_filterMap];congr 1;funext k;rw [<-qAo,e1,qAX]
 have ez':(order.filterMap (es[·]?)).size=es.size:=by
  rw [<-qBM,el',qAD,lp.length_eq,ez]
 refine qAA ?_;show wpAny _ _ (if ((order.filterMap (es[·]?)).size != es.size)=true then _ else _) _ _ _;rw [qAB (by rw [ez'];simp)];refine qAE ?_;dsimp only;refine wpAny_storeSet_of ho hd ?_ (by rw [ez',ez,hn];exact qAY hc (by decide +kernel));refine h _ _ _ _ _ _ (qAr _ a _) lp (put_X ho ex hd el' ?_ ?_ ?_ (fun p hp=>e5 p (lp.mem_iff.mp hp)) (l3.trans e6))
 ·rw [getD_hash xs order.toList l5];exact l6
 ·rw [lp.length_eq,hn,l2];exact g3
 ·exact (lp.map (·.1)).nodup_iff.mpr e4
theorem ins_perm (L:List α) (p:Nat) (x:α):(L.take p++x::L.drop p).Perm (x::L):=by
 have h1:(L.take p++x::L.drop p).Perm (x::(L.take p++L.drop p)):=List.perm_middle
 rwa [qCL] at h1
theorem plain_off {t:SetTable} (T:TOk t hs) (c:Bool):TOk (if c=true then t else {t with plain:=false}) hs/\(if c=true then t else {t with plain:=false}).mask=t.mask/\(if c=true then t else {t with plain:=false}).tooFull=t.tooFull/\(if c=true then t else {t with plain:=false}).led=t.led:=by
 cases c
 ·exact ⟨⟨T.m,T.d,T.r,T.l,T.n,T.f,T.reach⟩,rfl,rfl,rfl⟩
 ·exact ⟨T,rfl,rfl,rfl⟩
theorem w_add (hu:A.units<cLine) (X:SetX knd s.heap a xs o es ep t) {k:List K} (hk:IsTupleKey knd s.heap k b) (hc:xs.length+1<=306) {Q:Bool->Shared->Prop} (h1:k∈xs.map (·.1)->Q false s)
  (h2:k∉xs.map (·.1)->∀h' ys o' es' ep' t',Heap.SameBut a s.heap h'->ys.Perm ((k,b)::xs)->SetX knd h' a ys o' es' ep' t'->Q true {s with heap:=h'}) :
  wpAny (model prog w) A (setAddHashed a (.ref b) (tupleKeyHash knd k)) Q E s:=by
 unfold setAddHashed setAddHashedIn;refine qA0 (qAA (X.state ?_));dsimp only;rw [not_scan,qAB (by decide)]
 have hpl:t.place.toList.length=xs.length:=by
  have:=X.ok.n;rw [qAD] at this;simpa using this
 have hroom:=X.room;obtain ⟨N,hNf,hN,hb⟩:=zIi X.ok.m (tupleKeyHash knd k) (L:=t.place.toList) (by rw [hpl];lia)
 have hT:10*turns t.mask<100000:=by
  rcases X.ok.m with z| z| z| z<;>rw [z]<;>decide +kernel
 unfold setSearch;refine qAA (w_search hu X hk hN hb hNf ?_ ?_ N 0 100000 none (by lia) (by lia) rfl (fun m hm=>absurd hm (qDC m)))
 ·intro z;exact qAE (h1 z)
 ·intro z;dsimp only;refine qAA (X.state ?_);dsimp only
  have hf1:t.place.size+1<=t.mask:=by
   have:t.place.size=xs.length:=by simpa using hpl
   rcases X.ok.m with z| z| z| z<;>lia
  have T1:=put_ok X.ok (tupleKeyHash knd k) hN hb hf1;have em:(t.put (pr t.mask (tupleKeyHash knd k) N).j).1.mask=t.mask:=rfl;have ed:(t.put (pr t.mask (tupleKeyHash knd k) N).j).1.led=t.led:=rfl;have B:=(zEh X.ok.r (pr t.mask (tupleKeyHash knd k) N).j).le;have ep2:(t.put (pr t.mask (tupleKeyHash knd k) N).j).2=below t.place (pr t.mask (tupleKeyHash knd k) N).j:=rfl
  have fin:∀c:Bool,wpAny (model prog w) A (do
    storeSet a (SetTable.insertAt es (t.put (pr t.mask (tupleKeyHash knd k) N).j).2 (tupleKeyHash knd k,.ref b)) (if c=true then (t.put (pr t.mask (tupleKeyHash knd k) N).j).1 else {(t.put (pr t.mask (tupleKeyHash knd k) N).j).1 with plain:=false})
    if (!false&&(if c=true then (t.put (pr t.mask (tupleKeyHash knd k) N).j).1 else {(t.put (pr t.mask (tupleKeyHash knd k) N).j).1 with plain:=false}).tooFull)=true then do
     setRelay a (SetTable.grown (es.size+1))
     pure true
    else pure true) Q E s:=by
   intro c;generalize hp:(t.put (pr t.mask (tupleKeyHash knd k) N).j).2=p at *
   generalize ht:(t.put (pr t.mask (tupleKeyHash knd k) N).j).1=t1 at *
   have hple:p<=es.size:=by
    rw [X.size,ep2];have:t.place.size=xs.length:=by simpa using hpl
    lia
   obtain ⟨T2,m2,f2,d2⟩:=plain_off T1 c;generalize ht2:(if c=true then t1 else {t1 with plain:=false})=t2 at *
   have el:(SetTable.insertAt es p (tupleKeyHash knd k,Value.ref b)).toList=(xs.take p++(k,b)::xs.drop p).map (en knd):=by
    rw [zJd es p _ hple,X.el,qAQ,qAk,qDD,qDE];rfl
   have ip:=ins_perm xs p (k,b)
   have eT:(xs.map fun p=>tupleKeyHash knd p.1).take p++tupleKeyHash knd k::(xs.map fun p=>tupleKeyHash knd p.1).drop p=(xs.take p++(k,b)::xs.drop p).map fun p=>tupleKeyHash knd p.1:=by
    rw [qAQ,qAk,qDD,qDE]
   rw [eT] at T2;have len:(xs.take p++(k,b)::xs.drop p).length=xs.length+1:=by rw [ip.length_eq];rfl
   have nd:((xs.take p++(k,b)::xs.drop p).map (·.1)).Nodup:=by
    refine (ip.map (·.1)).nodup_iff.mpr ?_;exact qA1.mpr ⟨z,X.nd⟩
   have ky:∀q∈xs.take p++(k,b)::xs.drop p,IsTupleKey knd s.heap q.1 q.2:=fun q hq=>by
    rcases qAP.mp (ip.mem_iff.mp hq) with y| y
    ·subst y;exact hk
    ·exact X.ky q y
   have sz:(SetTable.insertAt es p (tupleKeyHash knd k,Value.ref b)).size=xs.length+1:=by
    have:=qAg List.length el;rw [qAD,len] at this;simpa using this
   refine qAA (wpAny_storeSet_of X.ho X.hd ?_ (by rw [sz];exact qAY hc (by decide +kernel)))
   have fl:t2.tooFull=decide (t.mask*3<=(xs.length+1)*5):=by
    unfold tooFull fill;rw [T2.d,T2.n,qAD,len,m2,em];rfl
   by_cases cf:t.mask*3<=(xs.length+1)*5
   ·rw [qAC (by rw [fl];simp [cf])];rw [X.size];refine qAA ?_;refine w_relay (m:=0) (o:={o with data:=.set (insertAt es p (tupleKeyHash knd k,Value.ref b)) (ep+1) t2}) (put_get X.ho X.hd _ _) X.ex rfl el T2 len ?_ ?_ hc nd ?_ (d2.trans (ed.trans X.ld)) ?_
    ·rw [m2,em];exact hroom
    ·rw [m2,em];exact cf
    ·intro q hq;exact key_but (ky q hq) X.ho X.hd (qAr _ a _)
    ·intro h' ys o' es' ep' t' q1 q2 q3;exact qAE (h2 z h' ys o' es' ep' t' ((qAr _ a _).trans q1) (q2.trans ip) q3)
   ·rw [qAB (by rw [fl];simp [cf])];refine qAE (h2 z _ _ _ _ _ _ (qAr _ a _) ip (put_X X.ho X.ex X.hd el T2 ?_ nd ky (d2.trans (ed.trans X.ld))));rw [len,m2,em];lia
  by_cases cp:(t.put (pr t.mask (tupleKeyHash knd k) N).j).1.plain=true
  ·rw [qAC cp];exact qAA (w_hbv hk fin)
  ·rw [qAB cp];exact qAA (qAE (fin true))
end
end ST
namespace ST
open PySem PySem.SetTable PyProof.Rows
variable {h:Heap}{α:Type}
section
variable {prog:Program} {w:World} {K:Type} [DecidableEq K] {knd:KeyKind prog w K} {A:Around} {E:Value->Shared->Prop} {s:Shared}
variable {a:Addr} {xs:List (List K×Addr)} {o:Obj} {es:Array (Int×Value)} {ep:Nat} {t:SetTable}
theorem key_kept {h':Heap} {k:List K} {b:Addr} (x:IsTupleKey knd h k b) (e:∀o,h.get? b=some o->h'.get? b=some o):IsTupleKey knd h' k b :=
 let ⟨o,its,n,p1,r⟩:=x;⟨o,its,n,e o p1,r⟩
theorem SetX.kept {h h':Heap} (X:SetX knd h a xs o es ep t) (e:∀b o,(b=a\/∃p∈xs,p.2=b)->h.get? b=some o->h'.get? b=some o):SetX knd h' a xs o es ep t :=
 ⟨e a o (.inl rfl) X.ho,X.ex,X.hd,X.el,X.ok,X.room,X.nd,fun p hp=>key_kept (X.ky p hp) fun o q=>e _ o (.inr ⟨p,hp,rfl⟩) q,X.ld⟩
def Got (knd:KeyKind prog w K) (h:Heap) (a:Addr) (ks:List (List K×Addr)):Prop :=
 ∃xs o es ep t,SetX knd h a xs o es ep t/\(∀p∈xs,p∈ks)/\(∀p∈ks,p.1∈xs.map (·.1))/\xs.length<=ks.length
theorem Got.kept {h h':Heap} {ks:List (List K×Addr)} (g:Got knd h a ks) (e:∀b o,(b=a\/∃p∈ks,p.2=b)->h.get? b=some o->h'.get? b=some o):Got knd h' a ks:=by
 obtain ⟨xs,o,es,ep,t,X,g1,g2,g3⟩:=g;exact ⟨xs,o,es,ep,t,X.kept fun b o hb=>e b o (hb.imp id fun ⟨p,hp,q⟩=>⟨p,g1 p hp,q⟩),g1,g2,g3⟩
theorem Got.fresh {a:Addr} (ho:h.get? a=some {cls:=.type "set",dict:=none,data:=.set #[] 0 (.fresh 0 0 (!byt w))}):Got knd h a [] :=
 ⟨[],_,_,_,_,⟨ho,⟨rfl,rfl,rfl⟩,rfl,rfl,fresh_ok 0 0 _,(show 0*5<7*3 by decide),qBL,(fun p hp=>nomatch hp),rfl⟩,(fun p hp=>nomatch hp),(fun p hp=>nomatch hp),qAG _⟩
theorem w_more {ks:List (List K×Addr)} {k:List K} {b:Addr} (hu:A.units<cLine) (g:Got knd s.heap a ks) (hk:IsTupleKey knd s.heap k b) (hc:ks.length+1<=306) {Q:Bool->Shared->Prop}
  (h:∀c h',Heap.SameBut a s.heap h'->Got knd h' a (ks++[(k,b)])->Q c {s with heap:=h',toks:=s.toks+(k.length+1)}):wpAny (model prog w) A (setAdd a (.ref b)) Q E s:=by
 obtain ⟨xs,o,es,ep,t,X,g1,g2,g3⟩:=g;unfold setAdd;refine qA0 (qAA (wpAny_pyHash_tuple hu hk ?_));refine w_add (s:={s with toks:=s.toks+(k.length+1)}) hu X hk (by lia) (fun z=>?_) fun z h' ys o' es' ep' t' q1 q2 q3=>?_
 ·refine h false s.heap (Heap.SameBut.refl a s.heap) ⟨xs,o,es,ep,t,X,fun p hp=>qAc _ (g1 p hp),fun p hp=>?_,by rw [qAU];exact Nat.le_succ_of_le g3⟩;rcases qAK.mp hp with y| y
  ·exact g2 p y
  ·rw [qAR.mp y];exact z
 ·refine h true h' q1 ⟨ys,o',es',ep',t',q3,fun p hp=>?_,fun p hp=>?_,?_⟩
  ·rcases qAP.mp (q2.mem_iff.mp hp) with y| y
   ·rw [y];exact qAq _ (qAR.mpr rfl)
   ·exact qAc _ (g1 p y)
  ·have m:=(q2.map (·.1)).mem_iff (a:=p.1);refine m.mpr ?_;rcases qAK.mp hp with y| y
   ·exact qAT _ (g2 p y)
   ·rw [qAR.mp y];exact qAa
  ·rw [q2.length_eq,qAU];exact Nat.succ_le_succ g3
end
section
variable {prog:Program} {w:World} {K:Type} [DecidableEq K] {knd:KeyKind prog w K} {A:Around} {R:Result->Shared->Prop} {I:Addr} {fp wr:List Addr} {G:Array GenState->Array GenState->Prop} {P:Nat->Value->Prop} {St:Nat->Shared->Prop}
theorem c_fill {ks:List (List K×Addr)} (hu:A.in1.units<cLine) (W:WalksS prog w A.in1 I fp wr G ks.length P St) (a:Addr) (haf:a∉fp) (hP:∀i v,P i v->∃p,ks[i]?=some p/\v= .ref p.2) (hka:∀p∈ks,p.2≠a/\p.2∉wr) (hc:ks.length<=306) :
  ∀(k i:Nat) (s:Shared),ks.length=i+k->St i s->Got knd s.heap a (ks.take i)->(∀p∈ks,IsTupleKey knd s.heap p.1 p.2) ->
   (∀s',Moved (a::wr) G s s'->Got knd s'.heap a ks->R (.ok (.ret .none)) s')->codeAny (model prog w) A (.builtin "set.update.loop" ⟨[.ref a,.ref I],[]⟩) R s:=by
 have haw:a∉wr:=fun z=>haf (W.sub a z);intro k
 induction k with
 | zero =>
  intro i s e st g ky hR;have e:i=ks.length:=by lia
  subst e;rw [qAd] at g;refine qBW PyProof.Rows.F.entry_set_update_loop ?_;rw [qBe qDW _];change wpAny _ A.in1 (pyNext (Value.ref I) >>= _) _ _ s;refine qAA (W.done s _ _ st fun s1 mv=>?_);refine qAE (hR s1 (mv.mono fun b hb=>qAT a hb) (g.kept fun b o hb q=>mv.heap b o ?_ q));rcases hb with rfl| ⟨p,hp,rfl⟩
  ·exact haw
  ·exact (hka p hp).2
 | succ k ih =>
  intro i s e st g ky hR;have hi:i<ks.length:=by lia
  refine qBW PyProof.Rows.F.entry_set_update_loop ?_;rw [qBe qDW _];change wpAny _ A.in1 (pyNext (Value.ref I) >>= _) _ _ s;refine qAA (W.item i s _ _ hi st fun v s1 pv st1 mv=>?_);obtain ⟨p,ep,rfl⟩:=hP i v pv;have pm:p∈ks:=qAI ep
  have up:∀b o,(b=a\/∃q∈ks,q.2=b)->s.heap.get? b=some o->s1.heap.get? b=some o:=fun b o hb q=>mv.heap b o (by
   rcases hb with rfl| ⟨p,hp,rfl⟩
   ·exact haw
   ·exact (hka p hp).2) q
  have g1:=g.kept (h':=s1.heap) fun b o hb=>up b o (hb.imp id fun ⟨q,hq,z⟩=>⟨q,qBS hq,z⟩);have ky1:∀q∈ks,IsTupleKey knd s1.heap q.1 q.2:=fun q hq=>key_kept (ky q hq) fun o=>up _ o (.inr ⟨q,hq,rfl⟩);change wpAny _ A.in1 (holding [Value.ref p.2] (setAdd a (.ref p.2)) >>= _) _ _ s1;refine qAA (qA0 (w_more (knd:=knd) hu g1 (ky1 p pm) (by rw [qAW];lia) fun c h' sb g2=>?_))
  have et:ks.take i++[(p.1,p.2)]=ks.take (i+1):=by
   rw [qCH,ep];rfl
  rw [et] at g2
  have st2:=W.frame (i+1) s1 h' (s1.toks+(p.1.length+1)) st1 (qBm _ _) fun b hb o q=>by
   rw [sb.2 b fun z=>haf (z▸hb)];exact q
  refine qAE ⟨qDF qDW _,ih (i+1) _ (by lia) st2 g2 (fun q hq=>key_kept (ky1 q hq) fun o z=>(sb.2 _ (hka q hq).1).trans z) fun s2 mv2 g3=>hR s2 ?_ g3⟩;refine Moved.trans W.gtrans ((mv.mono fun b hb=>qAT a hb).then_heap (qBm _ _) fun b o hb z=>?_) mv2;exact (sb.2 b fun y=>hb (y▸qAa)).trans z
end
section
variable {prog:Program} {w:World} {K:Type} [DecidableEq K] {knd:KeyKind prog w K} {A:Around} {E:Value->Shared->Prop} {s:Shared}
def set0 (w:World):Obj:={cls:=.type "set",dict:=none,data:=.set #[] 0 (.fresh 0 0 (!byt w))}
theorem c_new (v:Value) {Q:Value->Shared->Prop} (h:Q (.ref s.heap.objs.size) {s with heap:=s.heap.push (set0 w)}):codeAny (model prog w) A (.call (.builtin "set.__new__") ⟨[.type "set",v],[]⟩) (wants Q E) s:=by
 refine codeAny_of_tree ?_;change wpAny _ A.in1 (checkBuiltinCall "set.__new__" ⟨[.type "set",v],[]⟩ >>= fun _=>again (.builtin "set.__new__" ⟨[.type "set",v],[]⟩)) _ _ s;refine qAA (wpAny_of_eq (F.newCall_set_1 v) (qAE ⟨qDF F.plain_set_new _,qBW F.entry_set_new ?_⟩));rw [qBe F.plain_set_new _];unfold Builtin.«set.__new__» Builtin.Frozenset.newClass;have q:=sub_set_self;obtain ⟨hp,g,d,tk,os⟩:=s;dsimp only
 wp_walk
 refine qBX (qAE ?_);dsimp only;simp only [newObj];refine qAA (wpAny_alloc (qAE (qAE ?_)));exact h
theorem w_setBy {l:Addr} {its:Array Value} {Z:Heap->Prop} {Q:Value->Shared->Prop} (hh:A.handled=none) (hl:s.heap.IsList l its)
  (fill:∀(A1:Around) (R:Result->Shared->Prop) (s3:Shared) (fp:List Addr) (G:Array GenState->Array GenState->Prop) (St:Nat->Shared->Prop),A1.in1.units<=A.units+3->WalksS prog w A1.in1 (s.heap.objs.size+1) fp [s.heap.objs.size+1] G its.size (fun i v=>its[i]?=some v) St->s.heap.objs.size∉fp ->
   s3.heap.get? s.heap.objs.size=some (set0 w)->(∀b o,s.heap.get? b=some o->s3.heap.get? b=some o)->St 0 s3->(∀s',Moved [s.heap.objs.size,s.heap.objs.size+1] G s3 s'->Z s'.heap->R (.ok (.ret .none)) s') ->
   codeAny (model prog w) A1 (.builtin "set.update.loop" ⟨[.ref s.heap.objs.size,.ref (s.heap.objs.size+1)],[]⟩) R s3)
  (h:∀(h':Heap) (tk:Nat),s.toks<=tk->Z h'->(∀b o,s.heap.get? b=some o->h'.get? b=some o)->Q (.ref s.heap.objs.size) {s with heap:=h',toks:=tk}) :
  wpAny (model prog w) A (call (.type "set") [.ref l]) Q E s:=by
 obtain ⟨c,tl,hmro⟩:=qBn.mro;have k1:=qBn.made;have k2:=qBn.sub;refine qCU (codeAny_of_tree ?_);change wpAny _ _ (callAny (.type "set") _) _ _ _;refine qAE ⟨Code.quiet_builtin _ (by decide +kernel),qBW F.entry_type_call ?_⟩;rw [Around.under_plain (weight_type_call_type "set" [.ref l] []) rfl];have k3:=qBn.notType;have k4:=qBn.canCreate;have k5:=F.typeCall_set_1 (.ref l)
 repeat (any_goals (first| assumption| wp_step))
 have hne:∀b o,s.heap.get? b=some o->b≠s.heap.objs.size:=fun b o q=>qAS (qAN q);refine qB7 (c_new (w:=w) (.ref l) (E:=E) (Q:=fun ob s1=>ob= .ref s.heap.objs.size/\s1={s with heap:=s.heap.push (set0 w)}) ⟨rfl,rfl⟩) fun r s1 hr=>?_
 cases r with
 | error e=>exact hr
 | ok fl =>
  cases fl with
  | ret ob =>
   obtain ⟨rfl,rfl⟩:=hr;have hS:(s.heap.push (set0 w)).get? s.heap.objs.size=some (set0 w):=qAh _ rfl;have hT:Shared.TypeIs {s with heap:=s.heap.push (set0 w)} (.ref s.heap.objs.size) "set" := ⟨_,hS,rfl⟩;have k6:=qBn.init.lookup;have k7:=qBn.init.bind (.ref s.heap.objs.size)
   repeat (any_goals (first| assumption| wp_step))
   refine qB7 (codeAny_call_builtin (R:=wants (fun r s2=>r= .none/\∃h' tk,s2={s with heap:=h',toks:=tk}/\s.toks<=tk/\Z h'/\(∀b o,s.heap.get? b=some o->h'.get? b=some o)) E) qBn.init.plain F.entry_set_init (check_set_init_1 hT ?_)) fun r2 s2 hr2=>?_
   ·obtain ⟨ol,hol,hcl,nl,hdl⟩:=hl;obtain ⟨o1,o2,o3,o4⟩:=ol;simp only at hcl hdl;subst hcl hdl;have hol1:(s.heap.push (set0 w)).get? l=some {cls:=.type "list",dict:=o2,data:=.seq its nl,slots:=o4}:=qAL _ hol;have k8:=F.sub_list_set;have k9:=F.sub_list_frozenset;have k10:(Value.type "list" == Value.type "dict")=false:=by decide
    have hl1:(s.heap.push (set0 w)).IsList l its:=⟨_,hol1,rfl,nl,rfl⟩;unfold Builtin.«set.__init__» noKeywords Builtin.Frozenset.updateFrom;generalize hPI:pyIter=PI
    wp_walk
    subst hPI;refine wpAny_pyIter_list hl1 ?_;refine qAA (wpAny_runValue ?_);have esz:(s.heap.push (set0 w)).objs.size=s.heap.objs.size+1:=qBg _ _;have hls:l<s.heap.objs.size:=qAN hol;have W:=(Walks.list (prog:=prog) (w:=w) (A:=A.in1.in1.in1) (by simpa using hh) (s.heap.push (set0 w)).objs.size l (by rw [esz];exact qAS (qBu hls)) its).toS;rw [esz] at W;rw [esz];refine fill A.in1.in1 _ _ _ _ _ (by show A.units+1+1+1<=A.units+3;lia) W ?_ (qAL _ hS) (fun b o q=>qAL _ (qAL _ q)) ⟨⟨_,by rw [<-esz];exact qAh _ rfl,rfl,rfl⟩,hl1.push _⟩ ?_
    ·simp only [qAP,qCm,or_false,not_or];exact ⟨qAS (qBs _),qBB hls⟩
    ·intro s1 mv g;obtain ⟨h1,g1,d1,tk1,os1⟩:=s1;have e1:g1=s.gens:=mv.gens;have e2:d1=s.drawn:=mv.drawn;have e3:os1=s.os:=mv.os;subst e1 e2 e3;show wpAny _ _ _ _ _ _;refine qAE (qAE ⟨rfl,h1,tk1,rfl,mv.toks,g,fun b o q=>?_⟩);have:=qAN q
     exact mv.heap b o (by
      simp only [qAP,qCm,or_false,not_or];exact ⟨qAS this,qAS (qBu this)⟩) (qAL _ (qAL _ q))
   ·cases r2 with
    | error e=>exact hr2
    | ok f2 =>
     cases f2 with
     | ret r =>
      obtain ⟨rfl,h',tk,rfl,q1,q2,q3⟩:=hr2
      repeat (any_goals (first| assumption| wp_step))
      exact h _ _ q1 q2 q3
     | _=>exact hr2.elim
  | _=>exact hr.elim
theorem w_mkset {l:Addr} {its:Array Value} {ks:List (List K×Addr)} {Q:Value->Shared->Prop} (hh:A.handled=none) (hu:A.units+8<cLine) (hl:s.heap.IsList l its) (ei:its.toList=ks.map fun p=>.ref p.2) (ky:∀p∈ks,IsTupleKey knd s.heap p.1 p.2) (hc:ks.length<=306)
  (h:∀(h':Heap) (tk:Nat),s.toks<=tk->Got knd h' s.heap.objs.size ks->(∀b o,s.heap.get? b=some o->h'.get? b=some o)->Q (.ref s.heap.objs.size) {s with heap:=h',toks:=tk}) :
  wpAny (model prog w) A (call (.type "set") [.ref l]) Q E s:=by
 refine w_setBy hh hl (fun A1 R s3 fp G St hv W hf hS kp st hR=>?_) h
 have ez:its.size=ks.length:=by
  have:=qAg List.length ei;simpa using this
 rw [ez] at W;refine c_fill (knd:=knd) (by lia) W s.heap.objs.size hf (fun i v hv=>?_) (fun p hp=>?_) hc ks.length 0 _ (by lia) st (Got.fresh hS) (fun p hp=>key_kept (ky p hp) fun o q=>kp _ o q) hR
 ·have:its.toList[i]?=some v:=by rw [qAo];exact hv
  rw [ei,qAX] at this
  cases hk:ks[i]? with
  | none=>rw [hk] at this;exact nomatch this
  | some p=>rw [hk] at this;exact ⟨p,rfl,(qAZ this).symm⟩
 ·obtain ⟨o,_,_,ho,_⟩:=ky p hp;have:=qAN ho;simp only [qAP,qCm,or_false];exact ⟨qAS this,qAS (qBu this)⟩
end
theorem zEl:Slot "set_iterator" "__next__" "set_iterator.__next__" :=
 .of (owner:= "set_iterator") (n:= "__next__") (by rw [typeLookup_type,qDX];kernel_rfl) (by decide +kernel) (by decide +kernel) (by decide +kernel) (by first| exact .inl (by decide +kernel)| exact .inr (by decide +kernel)) (by rw [isSubtype_type];kernel_rfl)
theorem sl_self:Slot "set_iterator" "__iter__" "set_iterator.__iter__" :=
 .of (owner:= "set_iterator") (n:= "__iter__") (by rw [typeLookup_type,qDX];kernel_rfl) (by decide +kernel) (by decide +kernel) (by decide +kernel) (by first| exact .inl (by decide +kernel)| exact .inr (by decide +kernel)) (by rw [isSubtype_type];kernel_rfl)
theorem en_next:entryFor table "set_iterator.__next__" = some Builtin.«set_iterator.__next__»:=entryFor_of_fast (by kernel_rfl)
theorem en_self:entryFor table "set_iterator.__iter__" = some Builtin.«dict_keyiterator.__iter__»:=entryFor_alias (id':= "dict_keyiterator.__iter__") (by kernel_rfl) rfl (by decide +kernel) (by kernel_rfl)
theorem en_iter:entryFor table "set.__iter__" = some Builtin.«frozenset.__iter__»:=entryFor_alias (id':= "frozenset.__iter__") (by kernel_rfl) rfl (by decide +kernel) (by kernel_rfl)
theorem ar_next (a:Value):argsOk "set_iterator.__next__" ⟨[a],[]⟩:=by unfold argsOk;kernel_rfl
theorem ar_self (a:Value):argsOk "set_iterator.__iter__" ⟨[a],[]⟩:=by unfold argsOk;kernel_rfl
theorem zCy {M:Model} {A:Around} {E:Value->Shared->Prop} {s:Shared} {c:Prop} [Decidable c] {x y:Sem α} {Q:α->Shared->Prop} (hc:¬c) (h:wpAny M A y Q E s):wpAny M A (if c then x else y) Q E s:=by rw [qAB hc];exact h
theorem zEr {M:Model} {A:Around} {E:Value->Shared->Prop} {s:Shared} {c:Prop} [Decidable c] {x y:Sem α} {Q:α->Shared->Prop} (hc:c) (h:wpAny M A x Q E s):wpAny M A (if c then x else y) Q E s:=by rw [qAC hc];exact h
theorem zFx :∀{L:List α} {i:Nat} {x:α},L[i]?=some x->(x::L.eraseIdx i).Perm L
 | [],i,x,h=>by simp at h
 | y::r,0,x,h=>by
  have:y=x:=qAZ h;subst this;exact qCI _
 | y::r,i+1,x,h=>by
  rw [qCk] at h;exact (List.Perm.swap y x _).trans (List.Perm.cons y (zFx h))
theorem pick_go (next:Nat->Nat):∀(fuel k:Nat) (left:List α) (out:Array α),left.length<=fuel->(pickOrder.go next fuel k left out).toList.Perm (out.toList++left)
 | 0,k,left,out,h=>by
  have:left=[]:=qBy.mp (Nat.le_zero.mp h);subst this;unfold pickOrder.go;rw [qAs]
 | fuel+1,k,left,out,h=>by
  unfold pickOrder.go
  cases e:left[next k % left.length]? with
  | none =>
   have:left=[]:=by
    cases left with
    | nil=>rfl
    | cons x r =>
     have:=qDY.mp e;have h2:=Nat.mod_lt (next k) (show 0<(x::r).length from Nat.succ_pos _);exact absurd h2 (qCn.mpr this)
   subst this;dsimp only;rw [qAs]
  | some x =>
   dsimp only;have p:=zFx e;have hl:=p.length_eq;rw [qAb] at hl;refine (pick_go next fuel (k+1) _ _ (by lia)).trans ?_;rw [qBK,qAy];exact qCd _ p
theorem pick_perm (next:Nat->Nat) (xs:Array α):(pickOrder next xs).toList.Perm xs.toList:=by
 have:=pick_go next xs.size 0 xs.toList #[] (by simp);show (pickOrder.go next xs.size 0 xs.toList #[]).toList.Perm _;simpa using this
section
variable {prog:Program} {w:World} {K:Type} [DecidableEq K] {knd:KeyKind prog w K} {A:Around} {E:Value->Shared->Prop}
theorem w_choose {s:Shared} {src:Source} {n:Nat} (hn:n≠0) {Q:Nat->Shared->Prop} (h:∀i d,i<n->Q i {s with drawn:=d}):wpAny (model prog w) A (choose src n) Q E s:=fun _ _ _=>⟨hn,h _ _ (Nat.mod_lt _ (Nat.pos_of_ne_zero hn))⟩
theorem w_draw :∀(n:Nat) (L:List α) (s:Shared) (Q:List α->Shared->Prop),L.length=n->(∀M d,M.Perm L->Q M {s with drawn:=d})->wpAny (model prog w) A (drawOrder n L) Q E s
 | 0,L,s,Q,hl,h=>by
  have:L=[]:=qBy.mp hl;subst this;unfold drawOrder;exact qAE (h [] s.drawn (qCI _))
 | n+1,[],s,Q,hl,h=>nomatch hl
 | n+1,x::r,s,Q,hl,h=>by
  unfold drawOrder;refine qAA (w_choose (by rw [hl];exact Nat.succ_ne_zero n) fun i d hi=>?_);obtain ⟨y,ey⟩:∃y,(x::r)[i]?=some y:=⟨(x::r)[i],qAn hi⟩;rw [ey];dsimp only;have p:=zFx ey;have hl2:=p.length_eq;rw [qAb] at hl2;refine qAA (w_draw n _ _ _ (by lia) fun M d' hM=>qAE ?_);exact h (y::M) d' ((List.Perm.cons y hM).trans p)
end
def dr (es:Array (Int×Value)) (t:SetTable):Bool:=!t.plain&&decide (es.size>1)
def ItM (w:World) (h:Heap) (a:Addr) (es:Array (Int×Value)) (ep:Nat) (t:SetTable) (ord:List Value) (i:Nat) (first:Value):Prop :=
 (byt w=true/\(∃j:Nat,first= .int j 0)/\ord=(pickOrder (w.params.setOrder a ep) es).toList.map (·.2)) \/
 (byt w=false/\∃(T:Addr) (oT:Obj) (c:Nat) (pl:List Nat),first= .ref T/\h.get? T=some oT/\oT.data= .seq (pl.map fun (p:Nat)=>Value.int p 0).toArray c/\pl.Perm (List.range es.size)/\ord=pl.filterMap fun p=>(es[p]?).map (·.2)) \/
 (byt w=false/\dr es t=false/\∃slot:Nat,first= .int slot 0/\below t.place slot=i/\ord=es.toList.map (·.2))
structure ItS (w:World) (h:Heap) (I a:Addr) (es:Array (Int×Value)) (ep:Nat) (t:SetTable) (ord:List Value) (i:Nat) (o:Obj) (first:Value):Prop where
 ho:h.get? I=some o
 hc:o.cls= .type "set_iterator"
 hd:o.data= .fields #[first,.int i 0,.ref a,.int es.size 0,.int ep 0]
 hm:ItM w h a es ep t ord i first
section
variable {prog:Program} {w:World} {K:Type} [DecidableEq K] {knd:KeyKind prog w K} {A:Around} {E:Value->Shared->Prop} {s:Shared}
variable {a I:Addr} {xs:List (List K×Addr)} {o oI:Obj} {es:Array (Int×Value)} {ep i:Nat} {t:SetTable} {ord:List Value} {first:Value}
theorem below_zero (hr:Rise t.place.toList):below t.place 0=0:=by
 have B:=zEh hr 0;rcases Nat.eq_zero_or_pos (below t.place 0) with z| z
 ·exact z
 ·have hs:0<t.place.size:=qAp z B.le;have e:t.place[0]?=some t.place[0]:=by simp [hs]
  exact absurd (B.lo 0 _ z e) (qDC _)
theorem below_next (hr:Rise t.place.toList) {i j:Nat} (e:t.place[i]?=some j):below t.place (j+1)=i+1:=by
 have B:=zEh hr (j+1);have hi:i<t.place.size:=(qBw.mp e).1;have h1:i<below t.place (j+1):=Nat.lt_of_not_le fun z=>by have:=B.hi i j z e;lia
 rcases Nat.lt_or_ge (i+1) (below t.place (j+1)) with z| z
 ·have hs:i+1<t.place.size:=qAp z B.le;have e2:t.place[i+1]?=some t.place[i+1]:=by simp [hs]
  have q1:=B.lo (i+1) _ z e2;have q2:=zEd hr (qBs i) e e2;lia
 ·lia
theorem ItM.perm (m:ItM w h a es ep t ord i first):ord.Perm (es.toList.map (·.2)):=by
 rcases m with ⟨_,_,rfl⟩| ⟨_,T,oT,c,pl,_,_,_,hp,rfl⟩| ⟨_,_,slot,_,_,rfl⟩
 ·exact (pick_perm _ es).map _
 ·have:=hp.filterMap fun p=>(es[p]?).map (·.2);refine this.trans (List.Perm.of_eq ?_);rw [<-List.map_filterMap];congr 1;have:=range_get es.toList;rw [qBM] at this;simpa using this
 ·exact qCI _
theorem ItM.len (m:ItM w h a es ep t ord i first):ord.length=es.size:=by
 rw [m.perm.length_eq];simp
theorem ItS.typeIs (it:ItS w s.heap I a es ep t ord i oI first):s.TypeIs (.ref I) "set_iterator" := ⟨_,it.ho,it.hc⟩
theorem fm_at {pl:List Nat} (hp:pl.Perm (List.range es.size)) (i:Nat):(pl.filterMap fun p=>(es[p]?).map (·.2))[i]?=(pl[i]?).bind fun p=>(es[p]?).map (·.2):=by
 have hall:∀k∈pl,k<es.size:=fun k hk=>qBF.mp (hp.mem_iff.mp hk);clear hp
 induction pl generalizing i with
 | nil=>simp
 | cons k ks ih =>
  have hk:=hall k qAa;have e:es[k]?=some es[k]:=by simp [hk]
  have ih':=fun i=>ih i fun q hq=>hall q (qAT _ hq);rw [qBp,e]
  cases i with
  | zero=>simp [e]
  | succ i =>
   show (_::_)[i+1]?=_;rw [qCk,ih' i,qCk]
theorem w_item (X:SetX knd s.heap a xs o es ep t) (it:ItS w s.heap I a es ep t ord i oI first) (hne:I≠a) {v:Value} (hv:ord[i]?=some v) {Q:Option Value->Shared->Prop}
  (h:∀h' o' f',Heap.SameBut I s.heap h'->ItS w h' I a es ep t ord (i+1) o' f'->(∀T,f'= .ref T->first= .ref T)->Q (some v) {s with heap:=h'}):wpAny (model prog w) A (pyNext (.ref I)) Q E s:=by
 unfold pyNext;refine qAA (qC3 (wpAny_callSpecial?_slot (name:=Str.ofString "__next__") it.typeIs zEl (qCo zEl it.typeIs en_next ?_ (ar_next _))));unfold Builtin.«set_iterator.__next__»;refine qAA (m:=slotArgs "__next__" 0 _) (qAE ?_);refine qAA (wpAny_fieldsOf it.ho it.hd ?_);dsimp only;refine qAA (wpAny_setEntries_of X.ho X.hd X.fits ?_);refine zCy (by simp) ?_;rcases it.hm with ⟨m1,⟨j,rfl⟩,m3⟩| ⟨m1,T,oT,c,pl,rfl,m3,m4,m5,m6⟩| ⟨m1,m2,slot,rfl,m4,m5⟩
 ·dsimp only;refine qAA ?_;unfold setNext;refine qAA (X.state ?_);dsimp only;refine qAA (qAA (qBX (qAE ?_)));refine zEr m1 ?_;refine zCy (by simp) ?_;refine qAA ?_;unfold setWalk;refine qAA (X.state ?_);dsimp only;refine qAA (qAA (qBX (qAE ?_)));refine zEr m1 ?_;refine qAA (qBX (qAE (qAE ?_)))
  have e1:(pickOrder (w.params.setOrder a ep) es)[i]?.map (·.2)=some v:=by
   rw [m3,qAX] at hv;rw [<-qAo];exact hv
  obtain ⟨q,q1,q2⟩:=qBC.mp e1;subst q2;have e2:(pickOrder ((model prog w).w.params.setOrder a ep) es)[(i:Int).toNat]?=some q:=q1
  erw [e2]
  show wpAny _ _ (setField (.ref I) 0 (rawInt _) >>= _) _ _ _;refine qAA (qBf it.ho it.hd (by simp) ?_);have g1:=qBU (Obj.mapFields (·.setIfInBounds 0 (rawInt (j:Int).toNat))) it.ho (qCO (qA7 it.hd _));refine qAA (qBf g1 (qA7 it.hd _) (by simp) ?_);refine qAE ⟨_,rfl,qAE (h _ _ _ ((qAr ..).trans (qAr ..)) ⟨qBU _ g1 (qCO (qA7 (qA7 it.hd _) _)),?_,?_,.inl ⟨m1,⟨j,rfl⟩,m3⟩⟩ (fun T z=>nomatch z))⟩
  ·rw [qCp,qCp];exact it.hc
  ·rw [qA7 (qA7 it.hd _)];simp [rawInt]
 ·dsimp only
  have hTI:T≠I:=fun z=>by
   subst z;have:=qAZ (m3.symm.trans it.ho);subst this;rw [it.hd] at m4;exact nomatch m4
  refine qAA (m:=seqItems? (.ref T)) (wpAny_seqItems m3 m4 ?_);dsimp only;rw [m6,fm_at m5] at hv;obtain ⟨p,p1,p2⟩:=Option.bind_eq_some_iff.mp hv;obtain ⟨q,q1,q2⟩:=qBC.mp p2;subst q2
  have e1:(pl.map fun (p:Nat)=>Value.int p 0).toArray[(i:Int).toNat]?=some (.int p 0):=by
   simp [p1]
  rw [e1];dsimp only;refine qAA ?_;unfold setNextDrawn;refine qAA (X.state ?_);dsimp only;refine zCy (by simp) ?_;have e2:es[(p:Int).toNat]?=some q:=q1;rw [e2];refine qAE ?_;refine qAA (qBf it.ho it.hd (by simp) ?_);refine qAE ⟨_,rfl,qAE (h _ _ _ (qAr ..) ⟨qBU _ it.ho (qCO (qA7 it.hd _)),(qCp ..).trans it.hc,?_,.inr (.inl ⟨m1,T,oT,c,pl,rfl,?_,m4,m5,m6⟩)⟩ (fun T z=>z))⟩
  ·rw [qA7 it.hd];simp [rawInt]
  ·exact ((qAr s.heap I _).2 T hTI).trans m3
 ·dsimp only;refine qAA ?_;unfold setNext;refine qAA (X.state ?_);dsimp only;refine qAA (qAA (qBX (qAE ?_)));refine zCy (by show¬(byt w=true);rw [m1];decide) ?_;refine zCy (show¬(dr es t=true) by rw [m2];decide) ?_;refine qAA (zCy (show¬((!t.led&& !es.isEmpty)=true) by rw [X.ld,m1];simp) (qAE ?_))
  have hl:i<es.size:=by
   rw [<-it.hm.len];exact (qAV.mp hv).1
  have hl2:i<t.place.size:=by
   rw [X.ok.n,qAD,<-X.size];exact hl
  have e1:es[i]?=some es[i]:=by simp [hl]
  have e2:t.place[i]?=some t.place[i]:=by simp [hl2]
  have e3:es[i].2=v:=by
   rw [m5,qAX,qAo,e1] at hv;exact qAZ hv
  have e4:below t.place (slot:Int).toNat=i:=m4;rw [e4,e1,e2];refine qAE ?_;show wpAny _ _ (setField (.ref I) 0 (rawInt _) >>= _) _ _ _;refine qAA (qBf it.ho it.hd (by simp) ?_);have g1:=qBU (Obj.mapFields (·.setIfInBounds 0 (rawInt ((t.place[i]+1:Nat):Int)))) it.ho (qCO (qA7 it.hd _));refine qAA (qBf g1 (qA7 it.hd _) (by simp) ?_);subst e3;refine qAE ⟨_,rfl,qAE (h _ _ _ ((qAr ..).trans (qAr ..)) ⟨qBU _ g1 (qCO (qA7 (qA7 it.hd _) _)),?_,?_,.inr (.inr ⟨m1,m2,t.place[i]+1,rfl,below_next X.ok.r e2,m5⟩)⟩ (fun T z=>nomatch z))⟩
  ·rw [qCp,qCp];exact it.hc
  ·rw [qA7 (qA7 it.hd _)];simp [rawInt]
theorem w_stop {s:Shared} {Q:Option Value->Shared->Prop} (hh:A.handled=none) (h:∀h',(∀b o,s.heap.get? b=some o->h'.get? b=some o)->Q none {s with heap:=h'}) :
  wpAny (model prog w) A.in1 (newExc (.type "StopIteration") [] >>= fun e=>(raiseNew e:Sem Fin)) (fun fin s'=>∃r,fin= .done (.ret r)/\wpAny (model prog w) A (pure (some r)) Q E s')
   (fun e s'=>wpAny (model prog w) A (isInstance e (.type "StopIteration") >>= fun b=>if b=true then pure none else throw e) Q E s') s:=by
 refine qAA ?_;simp only [newExc,newTuple];refine qAA (qCE ?_ (by size_fits));refine qAA (m:=firstArgMember _ _) (wpAny_of_eq (a:=Value.none) (by first| rfl| (simp only [firstArgMember];rfl)) ?_);refine qCE ?_ (by size_fits);simp only [raiseNew];refine qAA (wpAny_handled ?_);rw [show A.in1.handled=none from hh];refine qAA (qAE (wpAny_throw ?_));refine qAA (wpAny_isInstance (T:= "StopIteration") (b:=true) ⟨_,qAh _ rfl,rfl⟩ isSubtype_stop ?_);exact qAE (h _ fun b o q=>qAL _ (qAL _ q))
theorem w_done (hh:A.handled=none) (X:SetX knd s.heap a xs o es ep t) (it:ItS w s.heap I a es ep t ord i oI first) (hv:ord[i]?=none) {Q:Option Value->Shared->Prop}
  (h:∀h',(∀b o,b≠I->s.heap.get? b=some o->h'.get? b=some o)->Q none {s with heap:=h'}):wpAny (model prog w) A (pyNext (.ref I)) Q E s:=by
 unfold pyNext;refine qAA (qC3 (wpAny_callSpecial?_slot (name:=Str.ofString "__next__") it.typeIs zEl (qCo zEl it.typeIs en_next ?_ (ar_next _))));unfold Builtin.«set_iterator.__next__»;refine qAA (m:=slotArgs "__next__" 0 _) (qAE ?_);refine qAA (wpAny_fieldsOf it.ho it.hd ?_);dsimp only;refine qAA (wpAny_setEntries_of X.ho X.hd X.fits ?_);refine zCy (by simp) ?_;have up:∀h1,Heap.SameBut I s.heap h1->∀h',(∀b o,h1.get? b=some o->h'.get? b=some o)->Q none {s with heap:=h'}:=fun h1 sb h' q=>h h' fun b o hb z=>q b o ((sb.2 b hb).trans z);rcases it.hm with ⟨m1,⟨j,rfl⟩,m3⟩| ⟨m1,T,oT,c,pl,rfl,m3,m4,m5,m6⟩| ⟨m1,m2,slot,rfl,m4,m5⟩
 ·dsimp only;refine qAA ?_;unfold setNext;refine qAA (X.state ?_);dsimp only;refine qAA (qAA (qBX (qAE ?_)));refine zEr m1 ?_;refine zCy (by simp) ?_;refine qAA ?_;unfold setWalk;refine qAA (X.state ?_);dsimp only;refine qAA (qAA (qBX (qAE ?_)));refine zEr m1 ?_;refine qAA (qBX (qAE (qAE ?_)))
  have e1:(pickOrder (w.params.setOrder a ep) es)[i]?.map (·.2)=none:=by
   rw [m3,qAX] at hv;rw [<-qAo];exact hv
  have e2:(pickOrder ((model prog w).w.params.setOrder a ep) es)[(i:Int).toNat]?=none:=qDZ.mp e1
  erw [e2]
  show wpAny _ _ (setField (.ref I) 2 Value.none >>= _) _ _ _;refine qAA (qBf it.ho it.hd (by simp) ?_);refine w_stop hh ?_;exact up _ (qAr ..)
 ·dsimp only;refine qAA (m:=seqItems? (.ref T)) (wpAny_seqItems m3 m4 ?_);dsimp only
  have e1:(pl.map fun (p:Nat)=>Value.int p 0).toArray[(i:Int).toNat]?=none:=by
   have h1:ord.length<=i:=qDY.mp hv;rw [it.hm.len] at h1;have h2:=m5.length_eq;rw [List.length_range] at h2;simp only [Int.toNat_natCast,qDG,qAX,qDZ,qDY];lia
  rw [e1];dsimp only;refine qAA (qBf it.ho it.hd (by simp) ?_);have g1:=qBU (Obj.mapFields (·.setIfInBounds 0 (rawInt 0))) it.ho (qCO (qA7 it.hd _));refine qAA (qBf g1 (qA7 it.hd _) (by simp) ?_);refine w_stop hh ?_;exact up _ ((qAr ..).trans (qAr ..))
 ·dsimp only;refine qAA ?_;unfold setNext;refine qAA (X.state ?_);dsimp only;refine qAA (qAA (qBX (qAE ?_)));refine zCy (by show¬(byt w=true);rw [m1];decide) ?_;refine zCy (show¬(dr es t=true) by rw [m2];decide) ?_;refine qAA (zCy (show¬((!t.led&& !es.isEmpty)=true) by rw [X.ld,m1];simp) (qAE ?_))
  have e1:es[i]?=none:=by
   rw [m5,qAX,qAo] at hv;exact qDZ.mp hv
  have e4:below t.place (slot:Int).toNat=i:=m4;rw [e4,e1];refine qAE ?_;show wpAny _ _ (setField (.ref I) 2 Value.none >>= _) _ _ _;refine qAA (qBf it.ho it.hd (by simp) ?_);refine w_stop hh ?_;exact up _ (qAr ..)
theorem w_self (it:ItS w s.heap I a es ep t ord i oI first) {Q:Value->Shared->Prop} (h:Q (.ref I) s):wpAny (model prog w) A (pyIter (.ref I)) Q E s:=by
 refine wpAny_pyIter_slot it.typeIs sl_self (qCo sl_self it.typeIs en_self ?_ (ar_self _));show wpAny _ _ (ret (.ref I)) _ _ s;exact qAE ⟨_,rfl, "set_iterator",_,it.typeIs,zEl.lookup,h⟩
theorem SetX.typeIs (X:SetX knd s.heap a xs o es ep t):s.TypeIs (.ref a) "set" := ⟨_,X.ho,X.ex.1⟩
theorem w_iter (X:SetX knd s.heap a xs o es ep t) (hn:xs.length<=306) {Q:Value->Shared->Prop}
  (h:∀I h' d ord oI first,(∀b o,s.heap.get? b=some o->h'.get? b=some o)->s.heap.objs.size<=I->ItS w h' I a es ep t ord 0 oI first->(∀T,first= .ref T->s.heap.objs.size<=T)->Q (.ref I) {s with heap:=h',drawn:=d}):wpAny (model prog w) A (pyIter (.ref a)) Q E s:=by
 refine wpAny_pyIter_slot X.typeIs F.slot_set_iter (qCo F.slot_set_iter X.typeIs en_iter ?_ (F.args_set_iter_1 _));unfold Builtin.«frozenset.__iter__» Builtin.Frozenset.slot0;refine qAA (qAA (m:=slotArgs "__iter__" 0 _) (qAE (qAE ?_)));dsimp only;unfold Builtin.Frozenset.sizeOf;refine qAA (qAA (wpAny_setEntries_of X.ho X.hd X.fits (qAE ?_)));unfold setDrawn;refine qAA (qAA (X.state (qAA (qAA (qBX (qAE (qAE ?_)))))));have hsz:es.size<=306:=by rw [X.size];exact hn
 by_cases c:(!byt w&&dr es t)=true
 ·refine zEr c ?_;have c1:byt w=false:=by cases z:byt w<;>simp [z] at c ⊢
  refine qAA (w_draw es.size (List.range es.size) s _ (by simp) fun pl d hp=>?_);have hpl:pl.length=es.size:=by rw [hp.length_eq];simp
  refine qAA (wpAny_newTuple ?_ (by rw [qAD,hpl];exact qAY hsz (by decide +kernel)));refine qAA (wpAny_setEpoch_of (qAL _ X.ho) X.hd X.fits ?_);refine qAA (qCE (qAE ⟨_,rfl, "set_iterator",_,⟨_,qAh _ rfl,rfl⟩,zEl.lookup,?_⟩));refine h _ _ d (pl.filterMap fun p=>(es[p]?).map (·.2)) _ (.ref s.heap.objs.size) (fun b o q=>qAL _ (qAL _ q)) ?_ ⟨qAh _ rfl,rfl,rfl,.inr (.inl ⟨c1,_,_,_,pl,rfl,qAL _ (qAh _ rfl),rfl,hp,rfl⟩)⟩ (fun T z=>by cases z;exact qAG _);show s.heap.objs.size<=(s.heap.push _).objs.size;rw [qBg];exact qB9 _
 ·refine zCy c ?_;refine qAA (qAE ?_);refine qAA (wpAny_setEpoch_of X.ho X.hd X.fits ?_);refine qAA (qCE (qAE ⟨_,rfl, "set_iterator",_,⟨_,qAh _ rfl,rfl⟩,zEl.lookup,?_⟩))
  cases z:byt w with
  | true =>
   exact h _ _ s.drawn ((pickOrder (w.params.setOrder a ep) es).toList.map (·.2)) _ (.int 0 0) (fun b o q=>qAL _ q) (qAG _) ⟨qAh _ rfl,rfl,rfl,.inl ⟨z,⟨0,rfl⟩,rfl⟩⟩ (fun T z=>nomatch z)
  | false =>
   have c2:dr es t=false:=by rw [z] at c;simpa using c
   exact h _ _ s.drawn (es.toList.map (·.2)) _ (.int 0 0) (fun b o q=>qAL _ q) (qAG _) ⟨qAh _ rfl,rfl,rfl,.inr (.inr ⟨z,c2,0,rfl,below_zero X.ok.r,rfl⟩)⟩ (fun T z=>nomatch z)
end
theorem len_set:typeLookup (.type "set") "__len__" = pure (some (.builtin "set.__len__")):=by rw [typeLookup_type,qDX];kernel_rfl
section
variable {prog:Program} {w:World} {K:Type} [DecidableEq K] {knd:KeyKind prog w K} {A:Around} {E:Value->Shared->Prop} {s:Shared}
variable {a I:Addr} {xs:List (List K×Addr)} {o oI:Obj} {es:Array (Int×Value)} {ep i:Nat} {t:SetTable} {ord:List Value} {first:Value}
def WSt (knd:KeyKind prog w K) (a I:Addr) (xs:List (List K×Addr)) (o:Obj) (es:Array (Int×Value)) (ep:Nat) (t:SetTable) (ord:List Value) (Ts:List Addr) (i:Nat) (s:Shared):Prop :=
 ∃oI first,SetX knd s.heap a xs o es ep t/\ItS w s.heap I a es ep t ord i oI first/\∀T,first= .ref T->T∈Ts
theorem w_walks (hh:A.handled=none) (a I:Addr) (hne:I≠a) (xs:List (List K×Addr)) (hx:∀p∈xs,p.2≠I) (o:Obj) (es:Array (Int×Value)) (ep:Nat) (t:SetTable) (ord:List Value) (Ts:List Addr) (hT:I∉Ts) :
  WalksS prog w A I (I::a::(xs.map (·.2)++Ts)) [I] (fun a b=>b=a) ord.length (fun i v=>ord[i]?=some v) (WSt knd a I xs o es ep t ord Ts) where
 sub:=fun b hb=>by rw [qAR.mp hb];exact qAa
 grefl:=fun _=>rfl
 gtrans:=fun _ _ _ x y=>y.trans x
 frame:=fun i s h' tk ⟨oI,first,X,it,hf⟩ _ hk=>by
  refine ⟨oI,first,X.kept fun b o hb q=>hk b ?_ o q,⟨hk I qAa _ it.ho,it.hc,it.hd,?_⟩,hf⟩
  ·rcases hb with rfl| ⟨p,hp,rfl⟩
   ·exact qAT _ qAa
   ·exact qAT _ (qAT _ (qAc _ (qAM.mpr ⟨p,hp,rfl⟩)))
  ·rcases it.hm with m| ⟨m1,T,oT,c,pl,m2,m3,m4⟩| m
   ·exact .inl m
   ·exact .inr (.inl ⟨m1,T,oT,c,pl,m2,hk T (qAT _ (qAT _ (qAq _ (hf T m2)))) _ m3,m4⟩)
   ·exact .inr (.inr m)
 item:=fun i s Q E hi ⟨oI,first,X,it,hf⟩ hQ=>by
  refine w_item X it hne (v:=ord[i]) (by simp [hi]) fun h' o' f' sb it' hf'=>hQ _ _ (by simp [hi]) ⟨o',f',X.kept fun b o hb q=>?_,it',fun T z=>hf T (hf' T z)⟩ ⟨fun b o hb q=>(sb.2 b fun z=>hb (z▸qAa)).trans q,rfl,rfl,rfl,qAG _⟩;rcases hb with rfl| ⟨p,hp,rfl⟩
  ·exact (sb.2 _ (qAu hne)).trans q
  ·exact (sb.2 _ (hx p hp)).trans q
 done:=fun s Q E ⟨oI,first,X,it,hf⟩ hQ=>w_done hh X it (by simp) fun h' q=>hQ _ ⟨fun b o hb=>q b o fun z=>hb (z▸qAa),rfl,rfl,rfl,qAG _⟩
 self:=fun i s Q E ⟨oI,first,X,it,hf⟩ hQ=>w_self it hQ
theorem items_ord {acc:Array Value} (h:ItemsOf (fun i v=>ord[i]?=some v) acc ord.length):acc.toList=ord:=by
 refine List.ext_getElem? fun i=>?_;rw [qAo]
 cases e:acc[i]? with
 | some v=>exact (h.2 i v e).symm
 | none =>
  have:=Array.getElem?_eq_none_iff.mp e;rw [h.1] at this;exact (List.getElem?_eq_none this).symm
theorem w_collect (hh:A.handled=none) (X:SetX knd s.heap a xs o es ep t) (hn:xs.length<=306) {Q:List Value->Shared->Prop}
  (h:∀s' vs,vs.Perm (xs.map fun p=>.ref p.2)->(∀b o,s.heap.get? b=some o->s'.heap.get? b=some o)->s'.gens=s.gens->s'.os=s.os->s.toks<=s'.toks->Q vs s'):wpAny (model prog w) A (collect (.ref a)) Q E s:=by
 unfold collect;refine qAA (wpAny_runValue (qBW F.entry_proto_collect ?_));rw [qBe F.plain_proto_collect _];change wpAny _ A.in1 (newList [] >>= fun l=>again (.builtin "list.__iadd__" ⟨[l,Value.ref a],[]⟩)) _ _ s;refine qAA (qCE ?_);refine qAE ⟨qDF F.plain_list_iadd _,qBW F.entry_list_iadd ?_⟩;rw [qBe F.plain_list_iadd _];generalize hL:s.heap.objs.size=L;have hS1:(s.heap.push {cls:=.type "list",data:=.seq ([]:List Value).toArray}).get? L=some {cls:=.type "list",data:=.seq ([]:List Value).toArray}:=by rw [<-hL];exact qAh _ rfl
 generalize hH1:s.heap.push {cls:=.type "list",data:=.seq ([]:List Value).toArray}=H1 at hS1 ⊢;have up1:∀b o,s.heap.get? b=some o->H1.get? b=some o:=fun b o q=>by rw [<-hH1];exact qAL _ q
 have sz1:H1.objs.size=L+1:=by rw [<-hH1,qBg,hL]
 have below:∀b o,s.heap.get? b=some o->b<L:=fun b o q=>by rw [<-hL];exact qAN q
 have X1:SetX knd H1 a xs o es ep t:=X.kept fun b o _ q=>up1 b o q;have haL:a≠L:=qAS (below a _ X.ho);change wpAny _ A.in1 (Builtin.List.listExtendWith (Value.ref L) (.ref a) (.ref L)) _ _ _;unfold Builtin.List.listExtendWith;refine qAA (wpAny_typeOf (T:= "set") ⟨_,X1.ho,X1.ex.1⟩ ?_);have n1:Builtin.List.listSameRef (.ref L) (.ref a)=false:=by simp [Builtin.List.listSameRef,qAu haL]
 refine zCy (by rw [n1];decide) ?_;refine qAA (w_iter (s:={s with heap:=H1}) X1 hn fun I h2 d ord oI first up2 hI it hf=>?_);have hI:L+1<=I:=by rw [<-sz1];exact hI
 have X2:SetX knd h2 a xs o es ep t:=X1.kept fun b o _ q=>up2 b o q;refine qAA (qA0 ?_);unfold Builtin.List.listLengthHint;have T2:Shared.TypeIs {s with heap:=h2,drawn:=d} (.ref a) "set" := ⟨_,X2.ho,X2.ex.1⟩;refine qAA (wpAny_specialOf T2 len_set ?_);generalize hid:("set.__len__" : String)=id0;dsimp only;rw [show splitId id0=some ("set", "__len__") from by subst hid;decide +kernel];subst hid;dsimp only;refine qAA (wpAny_isInstance (b:=true) T2 sub_set_self ?_);refine zCy (by decide) ?_;refine zEr (by decide +kernel) ?_;refine qAA (wpAny_typeOf T2 ?_);refine qAE ?_;refine zEr (by decide +kernel) ?_;refine qAA (qBR ?_);have hS2:=up2 L _ hS1;refine qAA ?_;change wpAny _ A.in1 (updateSeq L (·.push Value.none) >>= fun _=>updateSeq L (·.pop)) _ _ _;refine qAA (qCq hS2 rfl ?_);have hS3:=qBU (Obj.mapSeq (·.push Value.none)) hS2 rfl;refine qCq hS3 rfl ?_;have hS4:=qBU (Obj.mapSeq (·.pop)) hS3 rfl;dsimp only;have sb:Heap.SameBut L h2 ((h2.update L (Obj.mapSeq (·.push Value.none))).update L (Obj.mapSeq (·.pop))):=(qAr ..).trans (qAr ..);generalize hH4:(h2.update L (Obj.mapSeq (·.push Value.none))).update L (Obj.mapSeq (·.pop))=H4 at hS4 sb ⊢
 have hIa:I≠a:=fun z=>by
  have:=below a _ X.ho;rw [<-z] at this;exact absurd this (qCn.mpr (qCf hI))
 have hxI:∀p∈xs,p.2≠I:=fun p hp z=>by
  obtain ⟨ob,_,_,q,_⟩:=X.ky p hp;have:=below _ _ q;rw [z] at this;exact absurd this (qCn.mpr (qCf hI))
 obtain ⟨Ts,hTs,hT1⟩:∃Ts:List Addr,(∀T,first= .ref T->T∈Ts)/\∀T∈Ts,first= .ref T:=by
  cases first with
  | ref T=>exact ⟨[T],fun T' z=>by cases z;exact qAR.mpr rfl,fun T' z=>by rw [qAR.mp z]⟩
  | _=>exact ⟨[],(fun T z=>nomatch z),(fun T z=>nomatch z)⟩
 have hTge:∀T∈Ts,L+1<=T:=fun T hT=>by rw [<-sz1];exact hf T (hT1 T hT)
 have hTI:I∉Ts:=fun z=>by
  rcases it.hm with ⟨_,⟨j,e⟩,_⟩| ⟨_,T,oT,c,pl,e,m3,m4,_⟩| ⟨_,_,j,e,_⟩
  ·have:=(hT1 _ z).symm.trans e;exact nomatch this
  ·have:=(hT1 _ z).symm.trans e
   cases this
   have:=qAZ (m3.symm.trans it.ho);subst this;rw [it.hd] at m4;exact nomatch m4
  ·have:=(hT1 _ z).symm.trans e;exact nomatch this
 have W:=w_walks (prog:=prog) (w:=w) (knd:=knd) (A:=A.in1) hh a I hIa xs hxI o es ep t ord Ts hTI
 have hLf:L∉I::a::(xs.map (·.2)++Ts):=fun z=>by
  rcases qAP.mp z with z| z
  ·rw [<-z] at hI;exact absurd hI (Nat.not_succ_le_self L)
  rcases qAP.mp z with z| z
  ·exact haL z.symm
  rcases qAK.mp z with z| z
  ·obtain ⟨p,hp,e⟩:=qAM.mp z;obtain ⟨ob,_,_,q,_⟩:=X.ky p hp;have:=below _ _ q;rw [e] at this;exact qAx _ this
  ·exact absurd (hTge _ z) (Nat.not_succ_le_self L)
 have hol:ord.length<=sizeLine:=by
  rw [it.hm.len,X.size];exact qAY hn (by decide +kernel)
 have st2:WSt knd a I xs o es ep t ord Ts 0 {s with heap:=h2,drawn:=d}:=⟨oI,first,X2,it,hTs⟩;have st4:=W.frame 0 _ H4 s.toks st2 (qAG _) fun b hb ob q=>(sb.2 b fun z=>hLf (z▸hb)).trans q;refine qAE ⟨qDF F.plain_extend_loop _,codeAny_extend_loopS W hol L hLf _ ord.length 0 _ _ _ rfl (qAj _) st4 hS4 (ItemsOf.nil _) fun s' acc c' mv hS' hacc=>?_⟩;change wpAny _ A (load L >>= _) _ _ s';refine qAA (qBr hS' ?_);refine qAE (h s' acc.toList ?_ (fun b ob q=>?_) mv.gens mv.os mv.toks)
 ·rw [items_ord hacc];refine it.hm.perm.trans (List.Perm.of_eq ?_);rw [X.el,qA4];rfl
 ·have hb:=below b ob q;refine mv.heap b ob ?_ ((sb.2 b (qAS hb)).trans (up2 b ob (up1 b ob q)));intro z;rcases qAP.mp z with z| z
  ·exact qAS hb z
  ·rw [qAR.mp z] at hb;exact absurd hb (qCn.mpr (qCf hI))
end
end ST
namespace ST
open PySem PyProof.Rows PySem.W
variable {vs:List Value}
abbrev sg (x:Str):List Nat:=x.cps.toList
theorem sg_inj {x y:Str} (h:sg x=sg y):x=y:=by
 cases x;cases y
 exact qAg Str.mk (Array.toList_inj.mp h)
def tlt:List Str->List Str->Bool
 | [],[]=>false
 | [],_::_=>true
 | _::_,[]=>false
 | x::r,y::q=>if x=y then tlt r q else decide (sg x<sg y)
theorem sg_tri (x y:Str):sg x<sg y\/x=y\/sg y<sg x:=by
 by_cases h1:sg x<sg y
 ·exact .inl h1
 by_cases h2:sg y<sg x
 ·exact .inr (.inr h2)
 ·exact .inr (.inl (sg_inj (List.le_antisymm (List.not_lt.mp h2) (List.not_lt.mp h1))))
theorem zGt:∀a,tlt a a=false
 | []=>rfl
 | x::r=>by unfold tlt;rw [qAC rfl];exact zGt r
theorem zEt:∀a b c,tlt a b=true->tlt b c=true->tlt a c=true
 | [],[],c,h1,h2=>h2
 | [],_::_,[],h1,h2=>by simp [tlt] at h2
 | [],_::_,_::_,h1,h2=>rfl
 | _::_,[],c,h1,h2=>by simp [tlt] at h1
 | x::r,y::q,[],h1,h2=>by simp [tlt] at h2
 | x::r,y::q,z::p,h1,h2=>by
  unfold tlt at h1 h2 ⊢
  by_cases e1:x=y
  ·subst e1;rw [qAC rfl] at h1
   by_cases e2:x=z
   ·subst e2;rw [qAC rfl] at h2 ⊢;exact zEt r q p h1 h2
   ·rw [qAB e2] at h2 ⊢;exact h2
  ·rw [qAB e1] at h1
   by_cases e2:y=z
   ·subst e2;rw [qAB e1];exact h1
   ·rw [qAB e2] at h2;have q1:=qBY h1;have q2:=qBY h2;have q3:=List.lt_trans q1 q2;rw [qAB fun e=>by subst e;exact List.lt_irrefl _ q3];exact qAf q3
theorem zIm:∀a b,tlt a b=false->tlt b a=false->a=b
 | [],[],_,_=>rfl
 | [],_::_,h,_=>by simp [tlt] at h
 | _::_,[],_,h=>by simp [tlt] at h
 | x::r,y::q,h1,h2=>by
  unfold tlt at h1 h2
  by_cases e:x=y
  ·subst e;rw [qAC rfl] at h1 h2;rw [zIm r q h1 h2]
  ·rw [qAB e] at h1;rw [qAB (qAu e)] at h2;rcases sg_tri x y with z| z| z
   ·exact absurd z (of_decide_eq_false h1)
   ·exact absurd z e
   ·exact absurd z (of_decide_eq_false h2)
theorem tlt_neg (a b c:List Str) (h:tlt a c=true):tlt a b=true\/tlt b c=true:=by
 cases h1:tlt a b with
 | true=>exact .inl rfl
 | false =>
  right
  cases h2:tlt b a with
  | true=>exact zEt b a c h2 h
  | false=>rw [<-zIm a b h1 h2];exact h
@[reducible] def tupK (f:Addr->Option (List Str)):PyProof.Rows.KeyKind where
 α:=List Str
 blt:=tlt
 irrefl:=zGt
 trans:=zEt
 negTrans:=tlt_neg
 total:=zIm
 keyOf v:=match v with| .ref b=>f b| _=>none
 dflt:=[]
section
variable {prog:Program} {w:World} {A:Around} {E:Value->Shared->Prop} {s:Shared}
theorem zFt {ks:List Str} (h:ItemsAre (PySem.strKind prog w) ks vs):StrsAre vs ks:=by
 induction h with
 | nil=>exact .nil
 | @cons k v ks vs h1 _ ih =>
  obtain ⟨t,rfl⟩:=Value.isStrOf_shape h1;exact .cons k t ih
theorem kat_strs {b fin:Bool} {Q:Bool->Shared->Prop}:∀{xs ys:List Value} {ax ay:List Str},StrsAre xs ax->StrsAre ys ay->∀i,fin=decide (xs.length<ys.length)->Q (tlt ax ay) s->KatLex prog w A b fin Q (xs.zip ys) i s
 | _,_,_,_,.nil,.nil,i,e,h=>by subst e;exact kat_nil h
 | _,_,_,_,.nil,.cons y t hy,i,e,h=>by subst e;exact kat_nil h
 | _,_,_,_,.cons x t hx,.nil,i,e,h=>by subst e;exact kat_nil h
 | _,_,_,_,.cons x t hx,.cons y u hy,i,e,h=>by
  rw [List.zip_cons_cons];refine kat_cons (wpAny_eqBool_str ?_);unfold tlt at h
  by_cases c:x=y
  ·rw [qAC c] at h;rw [qAf c];refine kat_yes (kat_strs hx hy (i+1) ?_ h);rw [e];simp
  ·rw [qAB c] at h;rw [qAe c];refine kat_no ?_
   cases z:(b&&i==0) with
   | true=>exact oneLt_str h
   | false=>exact kat_one _ _ (lt_str h)
theorem strs_len {ss:List Str} (h:StrsAre vs ss):vs.length=ss.length:=by
 induction h with
 | nil=>rfl
 | cons _ _ _ ih=>simp [ih]
theorem tup_cmp (f:Addr->Option (List Str)) (hf:∀b k,f b=some k->IsTupleKey (PySem.strKind prog w) s.heap k b) (b:Bool):Tim.CmpOk prog w A s (tuples' b) (tupK f):=by
 intro E x y a c Q hx hy h
 cases x<;>simp only [reduceCtorEq] at hx
 cases y<;>simp only [reduceCtorEq] at hy
 obtain ⟨ox,ix,nx,x1,_,x2,x3⟩:=hf _ _ hx;obtain ⟨oy,iy,ny,y1,_,y2,y3⟩:=hf _ _ hy;exact kat_lt x1 x2 y1 y2 (kat_strs (zFt x3) (zFt y3) 0 (by simp) h)
end
theorem zGj {xs:Array Keyed} (hp:xs.Perm (pairsOf vs)):(xs.map (·.2)).toList.Perm vs:=by
 have hl:xs.toList.Perm (vs.zip vs):=by rw [<-pairsOf_toList];exact qCh.mp hp
 have:=hl.map (·.2);rw [List.map_snd_zip (qAG _)] at this
 rwa [Array.toList_map]
theorem snd_srt {κ:PyProof.Rows.KeyKind} {xs:Array Keyed} (hp:xs.Perm (pairsOf vs)) (hs:Tim.Srt κ xs.toList):(xs.map (·.2)).toList.Pairwise fun x y=>κ.kle ((κ.keyOf x).getD κ.dflt) ((κ.keyOf y).getD κ.dflt):=by
 have hl:xs.toList.Perm (vs.zip vs):=by rw [<-pairsOf_toList];exact qCh.mp hp
 have hm:∀p∈xs.toList,p.1=p.2:=fun p h=>(mem_zip_self (hl.mem_iff.mp h)).1
 have e:(xs.map (·.2)).toList=xs.toList.map (·.1):=by
  rw [Array.toList_map];exact qDH fun p h=>(hm p h).symm
 rw [e,qBx];exact hs
theorem pw_small {α:Type} {R:α->α->Prop} {l:List α} (h:l.length<2):l.Pairwise R:=by
 match l,h with
 | [],_=>exact List.Pairwise.nil
 | [x],_=>exact qCe _ _
section
variable {prog:Program} {w:World} {A:Around} {E:Value->Shared->Prop} {s:Shared}
structure Sortable (prog:Program) (w:World) (A:Around) (κ:PyProof.Rows.KeyKind) (kd:SortKind) (vs:List Value) (s:Shared):Prop where
 cmp:Tim.CmpOk prog w A s kd κ
 kind:2<=vs.length->∀(E:Value->Shared->Prop) (Q:SortKind->Shared->Prop),Q kd s->wpAny (model prog w) A (keyKind' vs.toArray) Q E s
 has:∀v∈vs,∃k,κ.keyOf v=some k
theorem srt_heap {h:Heap} {a:Addr} {n:Nat} {out:Array Value} (ho:h.get? a=some (seqObj "list" vs.toArray n)):(∃c,(sortedHeap h a vs out).get? a=some (seqObj "list" out c))/\∀b o,b≠a->h.get? b=some o->(sortedHeap h a vs out).get? b=some o:=by
 have ha:a<h.objs.size:=qAN ho;have h1:(h.update a (Obj.mapSeq fun _=>#[])).get? a=some (seqObj "list" #[] _):=qBo ho fun _=>#[];have h2:=qAL (seqObj "list" #[] 0) (qAL (seqObj "tuple" vs.toArray 0) h1);refine ⟨⟨_,qBo h2 fun _=>out⟩,fun b o hb q=>?_⟩;unfold sortedHeap;rw [qCA _ _ (qAu hb)];refine qAL _ (qAL _ ?_);rw [qCA _ _ (qAu hb)];exact q
theorem w_lsort {κ:PyProof.Rows.KeyKind} {kd:SortKind} {a:Addr} {n:Nat} {P:Fin->Shared->Prop} (ho:s.heap.get? a=some (seqObj "list" vs.toArray n)) (hz:vs.length<=4096)
  (hS:∀h',(∀b o,b≠a->s.heap.get? b=some o->h'.get? b=some o)->Sortable prog w A κ kd vs {s with heap:=h'})
  (h:∀out:Array Value,out.toList.Perm vs->(out.toList.Pairwise fun x y=>κ.kle ((κ.keyOf x).getD κ.dflt) ((κ.keyOf y).getD κ.dflt))->P (.done (.ret .none)) {s with heap:=sortedHeap s.heap a vs out}) :
  wpAny (model prog w) A (Builtin.«list.sort» ⟨[.ref a],[]⟩) P E s:=by
 rw [list_sort_plain];have hsl:(4096:Nat)<=sizeLine:=by decide +kernel
 have ha:a<s.heap.objs.size:=qAN ho;have hsz:vs.toArray.size=vs.length:=by simp
 refine qAA (listItems_at ho rfl ?_);refine qAA (qBz ho rfl ?_ (by lia) (qAj _));have h1:(s.heap.update a (Obj.mapSeq fun _=>#[])).get? a=some (seqObj "list" #[] _):=qBo ho fun _=>#[];refine qAA (qCr h1 rfl ?_);refine qAA (wpAny_newTuple ?_ (by show vs.toArray.toList.length<=_;simp;lia));refine qAA (qCs ?_ (qAj _));refine qA0 ?_;have h6:=qAL (seqObj "list" #[] 0) (qAL (seqObj "tuple" vs.toArray 0) h1);change wpAny (model prog w) A _ P E {s with heap:=((s.heap.update a (Obj.mapSeq fun _=>#[])).push (seqObj "tuple" vs.toArray 0)).push (seqObj "list" #[] 0)};dsimp only
 have S6:=hS (((s.heap.update a (Obj.mapSeq fun _=>#[])).push (seqObj "tuple" vs.toArray 0)).push (seqObj "list" #[] 0)) fun b o hb q=>by
  refine qAL _ (qAL _ ?_);rw [qCA _ _ (qAu hb)];exact q
 by_cases c:vs.toArray.size<2
 ·rw [qAC c,qAC c];refine qAA (qAE ?_);rw [StateT.run_pure];refine qAA (qAE ?_);dsimp only;refine qAA (qCr h6 rfl ?_);refine qAA (qBz h6 rfl ?_ (qAj _) (by rw [Array.size_map];show (pairsOf vs).size<=_;rw [pairsOf_size];lia));simp only [bne_self_eq_false,qCt,qBt];have e:(arrOf (SortSt.mk' general' (vs.toArray.zip vs.toArray) #[] 7 none)).Perm (pairsOf vs):=qCg _;refine qAE (h _ (zGj e) ?_);exact pw_small (by rw [(zGj e).length_eq];lia)
 ·rw [qAB c,qAB c];refine qAA (S6.kind (by lia) _ _ ?_)
  have W:=Tim.w_sort (E:=E) (a₀:=pairsOf vs) (st:=SortSt.mk' kd (vs.toArray.zip vs.toArray) #[] 7 none) (Q:=fun _ st'=>failedOf st'=none/\(arrOf st').Perm (pairsOf vs)/\Tim.Srt κ (arrOf st').toList) S6.cmp (fun p hp=>by
   rw [pairsOf_toList] at hp;exact S6.has _ (mem_zip_self hp).2) rfl rfl (qCg _) rfl (by rw [pairsOf_size];lia) fun st' q1 q2 q3=>⟨q1,q2,q3⟩
  refine qAA (qAw W ?_ fun _ _ e=>e);rintro ⟨⟨⟩,st'⟩ s' ⟨rfl,q1,q2,q3⟩;dsimp only;refine qAA (qCr h6 rfl ?_);have zz:=(zGj q2).length_eq;refine qAA (qBz h6 rfl ?_ (qAj _) (by simp at zz ⊢;lia));rw [q1];simp only [bne_self_eq_false,qCt,qBt];exact qAE (h _ (zGj q2) (snd_srt q2 q3))
end
section
variable {prog:Program} {w:World} {A:Around} {E:Value->Shared->Prop} {s:Shared}
abbrev Up (h h':Heap):Prop:=∀b o,h.get? b=some o->h'.get? b=some o
theorem w_sortedC {κ:PyProof.Rows.KeyKind} {kd:SortKind} {v:Value} {Q:Value->Shared->Prop} {J:List Value->Shared->Prop} (hc:wpAny (model prog w) A.in1 (collect v) J E s)
  (hJ:∀vs s1,J vs s1->vs.length<=4096/\(∀h',Up s1.heap h'->Sortable prog w A.in1.in1 κ kd vs {s1 with heap:=h'}) /\
   ∀(out:List Value) c h',out.Perm vs->(out.Pairwise fun x y=>κ.kle ((κ.keyOf x).getD κ.dflt) ((κ.keyOf y).getD κ.dflt))->h'.get? s1.heap.objs.size=some (seqObj "list" out.toArray c)->Up s1.heap h'->Q (.ref s1.heap.objs.size) {s1 with heap:=h'}) :
  wpAny (model prog w) A (call (.builtin "sorted") [v]) Q E s:=by
 refine Calls.call_function_entry kind_sorted plain_sorted entry_sorted (args_sorted1 _) ?_;unfold Builtin.«sorted»;refine qAA (m:=checkCount "sorted" 1 1 _) (qAE ?_);refine qAA (qAw hc (fun vs s1 j=>?_) fun _ _ x=>x);obtain ⟨j1,j2,j3⟩:=hJ vs s1 j;have hsl:(4096:Nat)<=sizeLine:=by decide +kernel
 refine qAA (qCs ?_ (by lia));have hD:(s1.heap.push (seqObj "list" vs.toArray 0)).get? s1.heap.objs.size=some (seqObj "list" vs.toArray 0):=qAh _ rfl;change wpAny _ _ _ _ _ {s1 with heap:=s1.heap.push (seqObj "list" vs.toArray 0)};have ne:∀b o,s1.heap.get? b=some o->b≠s1.heap.objs.size:=fun b o q=>qAS (qAN q);refine qAA (qA0 (qCo slot_list_sort ⟨_,hD,rfl⟩ entry_list_sort ?body (args_list_sort _)))
 case body =>
  refine w_lsort (s:={s1 with heap:=s1.heap.push (seqObj "list" vs.toArray 0)}) hD j1 (fun h' q=>j2 h' fun b o e=>q b o (ne b o e) (qAL _ e)) fun out p1 p2=>?_;obtain ⟨⟨c,g1⟩,g2⟩:=srt_heap (out:=out) hD;refine ⟨_,rfl,qAE ⟨_,rfl,j3 out.toList c _ p1 p2 (by simpa using g1) fun b o e=>g2 b o (ne b o e) (qAL _ e)⟩⟩
end
section
variable {prog:Program} {w:World} {A:Around} {E:Value->Shared->Prop} {s:Shared}
theorem tups_sortable {ks:List (List Str×Addr)} (hv:vs.Perm (ks.map fun p=>.ref p.2)) (ky:∀p∈ks,IsTupleKey (PySem.strKind prog w) s.heap p.1 p.2) (hne:∀p∈ks,p.1≠[]) :
  Sortable prog w A (tupK fun b=>(ks.find? fun p=>p.2==b).map (·.1)) (tuples' true) vs s:=by
 have look:∀p∈ks,∃q∈ks,(ks.find? fun p'=>p'.2==p.2)=some q/\q.2=p.2:=fun p hp=>by
  cases e:ks.find? fun p'=>p'.2==p.2 with
  | none=>exact absurd (List.find?_eq_none.mp e p hp) (by simp)
  | some q=>exact ⟨q,qC8 e,rfl,by simpa using qC7 e⟩
 refine ⟨tup_cmp _ (fun b k e=>?_) true,fun h2 E Q h=>?_,fun v hvm=>?_⟩
 ·obtain ⟨p,p1,p2⟩:=qBC.mp e;have p3:p.2=b:=by simpa using qC7 p1
  rw [<-p2,<-p3];exact ky p (qC8 p1)
 ·have go:∀(us:List Value),(∀u∈us,∃p∈ks,u= .ref p.2)->∃fs:List Value,KatTups s.heap us fs/\fs.length=us.length/\∀f∈fs,∃x t,f= .str x t:=by
   intro us
   induction us with
   | nil=>intro _;exact ⟨[],.nil,rfl,(fun f hf=>nomatch hf)⟩
   | cons u us ih =>
    intro hu;obtain ⟨fs,t1,t2,t3⟩:=ih fun u hu'=>hu u (qAT _ hu');obtain ⟨p,hp,rfl⟩:=hu u qAa;obtain ⟨ob,its,n,q1,q2,q3,q4⟩:=ky p hp;have q5:=zFt q4;have q6:=hne p hp;generalize hk:p.1=k at q5 q6;generalize hl:its.toList=l at q5
    cases q5 with
    | nil=>exact absurd rfl q6
    | cons x t r =>
     refine ⟨.str x t::fs,.cons q1 q2 q3 ?_ t1,by simp [t2],fun f hf=>?_⟩
     ·rw [<-qAo,hl];rfl
     ·rcases qAP.mp hf with z| z
      ·exact ⟨x,t,z⟩
      ·exact t3 f z
  obtain ⟨fs,t1,t2,t3⟩:=go vs fun u hu=>by
   obtain ⟨p,hp,e⟩:=qAM.mp (hv.mem_iff.mp hu);exact ⟨p,hp,e.symm⟩
  refine kat_kind (T:=.type "str") t1 (by lia) (fun f hf=>?_) (by decide) h;obtain ⟨x,t,rfl⟩:=t3 f hf;exact .now
 ·obtain ⟨p,hp,rfl⟩:=qAM.mp (hv.mem_iff.mp hvm);obtain ⟨q,hq,e,_⟩:=look p hp;exact ⟨q.1,by show Option.map _ _=_;rw [e];rfl⟩
end
end ST
namespace L2
open PySem PySem.Spec PyProof.Rows
def TSt (P:Program) (w:World) (a:Addr) (xs:List (List Str×Addr)):HO :=
 .ext fun h=>∃o es ep t,h.get? a=some o/\o.ExactSet/\o.data= .set es ep t/\es.toList=xs.map (ST.en (PySem.strKind P w))/\ST.TOk t (xs.map fun p=>tupleKeyHash (PySem.strKind P w) p.1)/\xs.length*5<t.mask*3/\(xs.map (·.1)).Nodup/\t.led= !ST.byt w
def RowT (K:PySem.W.Frag) (H:Hp) (p:List Str×Addr):Prop:=SqT K H p.2 (p.1.map V.str)
section
variable {X:Cx} {pins:List (Addr×Obj)} {σ:St} {H:Hp} {s:Shared}
theorem zH4 {prog:Program} {w:World}:∀{ks:List Str} {its:List Value},Vals (ks.map V.str) its->ItemsAre (PySem.strKind prog w) ks its
 | [],_,.nil=>.nil
 | k::ks,_,.cons ⟨t,e⟩ r=>by
  subst e;exact .cons (by show Value.isStrOf k (.str k t)=true;simp [Value.isStrOf]) (zH4 r)
theorem Inv.rowT (I:Inv X pins σ H s) {p:List Str×Addr} (h:RowT X.K H p):IsTupleKey (PySem.strKind X.prog X.w) s.heap p.1 p.2:=by
 obtain ⟨its,r,⟨o,ho,hc,n,hd⟩,_⟩:=I.tuple h;exact ⟨o,its.toArray,n,ho,hc,hd,by simpa using zH4 r⟩
theorem vals_refs:∀{ks:List (List Str×Addr)} {its:List Value},Vals (ks.map fun p=>V.ref p.2) its->its=ks.map fun p=>Value.ref p.2
 | [],_,.nil=>rfl
 | k::ks,_,.cons e r=>by
  have e:_=Value.ref k.2:=e;subst e;rw [vals_refs r];rfl
theorem refs_vals:∀(ks:List (List Str×Addr)),Vals (ks.map fun p=>V.ref p.2) (ks.map fun p=>Value.ref p.2)
 | []=>.nil
 | k::ks=>.cons rfl (refs_vals ks)
theorem got_ok {h:Heap} {H:Hp} {a:Addr} {xs:List (List Str×Addr)} {o:Obj} {es:Array (Int×Value)} {ep:Nat} {t:SetTable} (Z:ST.SetX (PySem.strKind X.prog X.w) h a xs o es ep t):zA7 X.prog X.w H h a (TSt X.prog X.w a xs) :=
 ⟨⟨o,es,ep,t,Z.ho,Z.ex,Z.hd,Z.el,Z.ok,Z.room,Z.nd,Z.ld⟩,⟨o,Z.ho⟩,fun h1 h2 ⟨o,es,ep,t,q,r⟩ k=>⟨o,es,ep,t,k o q,r⟩⟩
theorem call_setT {k:Nat} (hr:Room k X.A):zDt X (.type "set") (fun xs H Q=>∃(l:Addr) (ks:List (List Str×Addr)),xs=[.ref l]/\SqL X.K H l (ks.map fun p=>V.ref p.2)/\(∀p∈ks,RowT X.K H p)/\ks.length<=306 /\
  ∀a ys,H a=none->(∀p∈ys,p∈ks)->(∀p∈ks,p.1∈ys.map (·.1))->(ys.map (·.1)).Nodup->ys.length<=ks.length->Q (.ref a) (upd H a (TSt X.prog X.w a ys))):=by
 intro pins s σ H xs us Q I r h;obtain ⟨l,ks,rfl,hl,hk,hc,q⟩:=h;obtain ⟨u,rfl,rx⟩:=vals1 r
 cases rx
 obtain ⟨its,r',pl,hz⟩:=I.list hl;have ei:=vals_refs r';refine ST.w_mkset (knd:=PySem.strKind X.prog X.w) (ks:=ks) hr.hd (by have:=hr.un;lia) pl.isList (by rw [ei]) (fun p hp=>I.rowT (hk p hp)) hc fun h' tk _ g kp=>?_;obtain ⟨ys,o,es,ep,t,Z,g1,g2,g3⟩:=g;exact ⟨.ref s.heap.objs.size,_,I.laid (t':=tk) kp (qAG _) (got_ok Z),rfl,q _ ys (I.hok.fresh (qAG _)) g1 g2 Z.nd g3⟩
theorem perm_back {α β:Type} (f:α->β):∀{vs:List β} {ks:List α},vs.Perm (ks.map f)->∃zs:List α,zs.Perm ks/\vs=zs.map f:=by
 intro vs ks h;generalize hm:ks.map f=ms at h
 induction h generalizing ks with
 | nil=>exact ⟨[],by rw [qB0.mp hm],rfl⟩
 | @cons x l₁ l₂ _ ih =>
  cases ks with
  | nil=>exact nomatch hm
  | cons k ks =>
   rw [qAk] at hm;obtain ⟨e1,e2⟩:=List.cons.inj hm;obtain ⟨zs,p,e⟩:=ih e2;exact ⟨k::zs,.cons k p,by rw [qAk,<-e,e1]⟩
 | swap x y l =>
  match ks,hm with
  | a::b::ks,hm =>
   simp only [qAk,List.cons.injEq] at hm;obtain ⟨e1,e2,e3⟩:=hm;exact ⟨b::a::ks,.swap a b ks,by simp [e1,e2,e3]⟩
 | trans _ _ ih1 ih2 =>
  obtain ⟨zs,p,e⟩:=ih2 hm;obtain ⟨zs',p',e'⟩:=ih1 e.symm;exact ⟨zs',p'.trans p,e'⟩
def RiseT (zs:List (List Str×Addr)):Prop:=zs.Pairwise fun p q=>ST.tlt q.1 p.1=false
theorem rise_of {prog:Program} {w:World} {h:Heap} {ys zs:List (List Str×Addr)} (hp:zs.Perm ys) (ky:∀p∈ys,IsTupleKey (PySem.strKind prog w) h p.1 p.2)
  (hs:(zs.map fun p=>Value.ref p.2).Pairwise fun x y=>(ST.tupK fun b=>(ys.find? fun p=>p.2==b).map (·.1)).kle (((ST.tupK fun b=>(ys.find? fun p=>p.2==b).map (·.1)).keyOf x).getD []) (((ST.tupK fun b=>(ys.find? fun p=>p.2==b).map (·.1)).keyOf y).getD [])):RiseT zs:=by
 rw [qBx] at hs
 have key:∀p∈zs,((ys.find? fun q=>q.2==p.2).map (·.1)).getD []=p.1:=fun p hpz=>by
  have hpy:=hp.mem_iff.mp hpz
  cases e:ys.find? fun q=>q.2==p.2 with
  | none=>exact absurd (List.find?_eq_none.mp e p hpy) (by simp)
  | some q =>
   have q1:q.2=p.2:=by simpa using qC7 e
   have k1:=ky q (qC8 e);rw [q1] at k1;exact k1.inj (ky p hpy)
 refine hs.imp_of_mem fun {p q} hp' hq' z=>?_;have z:ST.tlt (((ys.find? fun r=>r.2==q.2).map (·.1)).getD []) (((ys.find? fun r=>r.2==p.2).map (·.1)).getD [])=false:=z;rw [key p hp',key q hq'] at z;exact z
theorem zJj {k:Nat} (hr:Room k X.A):zDt X (.builtin "sorted") (fun xs H Q=>∃(a:Addr) (ys:List (List Str×Addr)),xs=[.ref a]/\H a=some (TSt X.prog X.w a ys)/\(∀p∈ys,RowT X.K H p)/\(∀p∈ys,p.1≠[])/\ys.length<=306 /\
  ∀b zs,H b=none->zs.Perm ys->RiseT zs->Q (.ref b) (upd H b (.lst (zs.map fun p=>V.ref p.2)))):=by
 intro pins s σ H xs us Q I r h;obtain ⟨a,ys,rfl,ha,hk,hne,hc,q⟩:=h;obtain ⟨u,rfl,rx⟩:=vals1 r
 cases rx
 obtain ⟨⟨o,es,ep,t,z1,z2,z3,z4,z5,z6,z7,z8⟩,_⟩:=I.hok a _ ha;have Z:ST.SetX (PySem.strKind X.prog X.w) s.heap a ys o es ep t:=⟨z1,z2,z3,z4,z5,z6,z7,fun p hp=>I.rowT (hk p hp),z8⟩
 refine ST.w_sortedC (kd:=tuples' true) (κ:=ST.tupK fun b=>(ys.find? fun p=>p.2==b).map (·.1))
  (J:=fun vs s1=>vs.Perm (ys.map fun p=>Value.ref p.2)/\(∀b o,s.heap.get? b=some o->s1.heap.get? b=some o)/\s1.gens=s.gens/\s1.os=s.os)
  (ST.w_collect (A:=X.A.in1) hr.hd Z hc fun s' vs v1 v2 v3 v4 _=>⟨v1,v2,v3,v4⟩) fun vs s1 ⟨v1,v2,v3,v4⟩=>?_
 have hvl:vs.length=ys.length:=by rw [v1.length_eq,qAD]
 refine ⟨by lia,fun h' up=>ST.tups_sortable v1 (fun p hp=>ST.key_kept (I.rowT (hk p hp)) fun o e=>up _ o (v2 _ o e)) hne,fun out c h' p1 p2 p3 up=>?_⟩;obtain ⟨zs,e1,e2⟩:=perm_back _ (p1.trans v1);subst e2;have I1:Inv X pins σ H s1:=I.call' (ch:=[]) v4 (Un.kept v2) (I.hok.kept v2) (by rw [v3];exact I.bare) (fun _ z=>nomatch z)
 have hz:(zs.map fun p=>V.ref p.2).length<=sizeLine:=by
  rw [qAD,e1.length_eq];exact qAY hc (by decide +kernel)
 exact ⟨.ref s1.heap.objs.size,_,I1.laid (t':=s1.toks) up (qAG _) (show zA7 X.prog X.w _ h' _ (.lst (zs.map fun p=>V.ref p.2)) from ⟨hz,_,c,refs_vals zs,p3⟩),rfl,q _ zs (I1.hok.fresh (qAG _)) e1 (rise_of (h:=s.heap) e1 (fun p hp=>I.rowT (hk p hp)) p2)⟩
end
end L2
namespace ST
theorem rows_one:∀{xs ys:List (List PySem.Str)},xs.Pairwise (fun a b=>tlt a b=true)->ys.Pairwise (fun a b=>tlt a b=true)->(∀k,k∈xs↔k∈ys)->xs=ys
 | [],[],_,_,_=>rfl
 | [],y::ys,_,_,h=>absurd ((h y).mpr qAa) (by simp)
 | x::xs,[],_,_,h=>absurd ((h x).mp qAa) (by simp)
 | x::xs,y::ys,h1,h2,h=>by
  obtain ⟨a1,a2⟩:=qCG.mp h1;obtain ⟨b1,b2⟩:=qCG.mp h2
  have ex:x=y:=by
   rcases qAP.mp ((h x).mp qAa) with z| z
   ·exact z
   rcases qAP.mp ((h y).mpr qAa) with z'| z'
   ·exact z'.symm
   ·have:=zEt _ _ _ (b1 x z) (a1 y z');rw [zGt] at this;exact nomatch this
  subst ex;have nx:x∉xs:=fun z=>by have:=a1 x z;rw [zGt] at this;exact nomatch this
  have ny:x∉ys:=fun z=>by have:=b1 x z;rw [zGt] at this;exact nomatch this
  rw [rows_one a2 b2 fun k=>⟨fun z=>?_,fun z=>?_⟩]
  ·rcases qAP.mp ((h k).mp (qAT _ z)) with q| q
   ·subst q;exact absurd z nx
   ·exact q
  ·rcases qAP.mp ((h k).mpr (qAT _ z)) with q| q
   ·subst q;exact absurd z ny
   ·exact q
theorem strict_of {xs:List (List PySem.Str)} (h:xs.Pairwise fun p q=>tlt q p=false) (hn:xs.Nodup):xs.Pairwise fun a b=>tlt a b=true:=by
 refine (List.pairwise_and_iff.mpr ⟨h,hn⟩).imp fun {a b} ⟨q1,q2⟩=>?_
 cases z:tlt a b with
 | true=>rfl
 | false=>exact absurd (zIm a b z q1) q2
section
open PySem PyProof.Rows
variable {prog:Program} {w:World} {A:Around} {s:Shared}
end
end ST
namespace L2
open PySem PySem.Spec PyProof.Rows
variable {a:Addr}{ep n:Nat}
section
variable {X:Cx} {pins:List (Addr×Obj)} {σ:St} {H:Hp} {s:Shared}
theorem vals_strs:∀{xs:List Str} {its:List Value},Vals (xs.map V.str) its->StrsAre its xs
 | [],_,.nil=>.nil
 | k::ks,_,.cons ⟨t,e⟩ r=>by subst e;exact .cons k t (vals_strs r)
theorem strs_vals:∀{xs:List Str} {its:List Value},StrsAre its xs->Vals (xs.map V.str) its
 | _,_,.nil=>.nil
 | _,_,.cons y t r=>.cons ⟨t,rfl⟩ (strs_vals r)
end
section
variable {X:Cx}
def rInsert:V->List V->Hp->VK->Prop:=fun x vs H Q=>∃l xs i y,x= .ref l/\vs=[.int i,y]/\H l=some (.lst xs)/\xs.length<sizeLine/\0<=i/\i<=xs.length/\Q .non (upd H l (.lst (xs.take i.toNat++y::xs.drop i.toNat)))
theorem zHc:MtM X "list.insert" rInsert:=by
 intro pins s σ H x vs v us Q I rx rv h;obtain ⟨l,xs,i,y,rfl,rfl,hH,hz,h0,h1,q⟩:=h
 cases rx
 obtain ⟨u1,u,rfl,r1,ru⟩:=rv.two;obtain ⟨t,rfl⟩:=r1;obtain ⟨z,its,n,r,hl,e⟩:=I.lstM hH;have hsl:sizeLine<2^62:=by decide +kernel
 have hfit:¬(!Builtin.List.listFitsIndex i)=true:=by
  unfold Builtin.List.listFitsIndex;have a1:-(2^63:Int)<=i:=by lia
  have a2:i<2^63:=by lia
  rw [qAf a1,qAf a2];decide
 refine qCC F.slot_list_insert ⟨_,e,rfl⟩ F.entry_list_insert (F.args_list_insert_3 _ _ _) (PySem.AutoListH.list_insert_list_int_val_1 l its.toArray n i t u hfit (by rw [qAO];lia)) ⟨e,?_⟩;refine ⟨.non,_,I.lset (its':=its.take i.toNat++u::its.drop i.toNat) hH e ?_ ((r.take _).append (.cons ru (r.drop _))) ?_,rfl,q⟩
 ·have hk:(if i<0 then (i+((its.toArray.size:Nat):Int)).toNat else min i.toNat its.toArray.size)=i.toNat:=by
   rw [qAB (by lia),qAO];lia
  show (its.toArray.extract 0 _).push u++its.toArray.extract _=_;rw [hk];apply Array.ext';rw [qAm,qBK,qBb,qBb,qAy];simp [List.extract_eq_drop_take,qBD]
 ·rw [qAU,qAb,qAW,qBO];lia
def mrg (kvs more:List (Key×V)):List (Key×V):=more.foldl (fun acc p=>putK acc p.1 p.2) kvs
theorem KV.mrg {kvs:List (Key×V)} {vs:List (Key×Value)} (r:KV kvs vs):∀{more:List (Key×V)} {ms:List (Key×Value)},KV more ms->KV (mrg kvs more) (merged vs ms):=by
 intro more ms r2;unfold L2.mrg merged;unfold KV at r2
 induction r2 generalizing kvs vs with
 | nil=>exact r
 | @cons p q l₁ l₂ h _ ih =>
  rw [qBi,qBi,h.1];exact ih (r.put q.1 h.2)
theorem mrg_len (kvs more:List (Key×V)):(mrg kvs more).length<=kvs.length+more.length:=by
 unfold mrg
 induction more generalizing kvs with
 | nil=>exact qAG _
 | cons p r ih =>
  rw [qBi,qAb];have h1:=ih (putK kvs p.1 p.2);have h2:=zDn kvs p.1 p.2;lia
def rDUpd:V->List V->Hp->VK->Prop:=fun x vs H Q=>∃a b kvs more,x= .ref a/\vs=[.ref b]/\H a=some (.dK kvs)/\H b=some (.dK more)/\a≠b/\kvs.length+more.length<=sizeLine/\Q .non (upd H a (.dK (mrg kvs more)))
theorem mt_dupd:MtR X "dict.update" rDUpd:=by
 intro pins s σ H x vs v us Q I rx rv h;obtain ⟨a,b,kvs,more,rfl,rfl,hA,hB,hne,hz,q⟩:=h
 cases rx
 obtain ⟨u,rfl,ru⟩:=rv.one
 cases ru
 obtain ⟨_,a2,vs1,a3,a4⟩:=I.hok a _ hA;obtain ⟨_,b2,vs2,b3,b4⟩:=I.hok b _ hB;have l1:kvs.length=vs1.length:=qB3 a3;have l2:more.length=vs2.length:=qB3 b3;refine call_meetsIn F.slot_dict_update a4.typeIs F.entry_dict_update (F.args_dict_update_2 _ _) (meets_dict_update (zAt X.prog X.w) a b hne b2) ⟨vs1,vs2,a4,b4,by lia,fun h' d1 d2 sb=>?_⟩;have new:zA7 X.prog X.w (upd H a (.dK (mrg kvs more))) h' a (.dK (mrg kvs more)):=⟨qAY (mrg_len kvs more) hz,a2,_,a3.mrg b3,d1⟩;refine ⟨.non,_,I.write (x:=a) (e:=a) (t':=s.toks) (by rw [hA];exact trivial) (.inl rfl) (fun c o hc z=>(sb.2 c hc).trans z) ?_ new,rfl,q⟩;obtain ⟨o,_,_,e,_⟩:=d1;exact ⟨o,e⟩
end
section
variable {X:Cx}
theorem op_neU (hu:X.A.units<cLine):OpR X (compareOp .NotEq) (zF2 X.K true):=by
 intro pins s σ H x y v u Q I rx ry h;obtain ⟨a,c,xs,ys,rfl,rfl,hx,hy,hl,q⟩:=h
 cases rx
 cases ry
 obtain ⟨its,r,pl,hz⟩:=I.list hx;obtain ⟨its2,r2,pl2,hz2⟩:=I.list hy;have e1:=r.length;have e2:=r2.length;exact SeqAt.RcNeAt.lists_lengths pl.isList pl2.isList (by rw [qAO,qAO];simp;lia) hu X.prog X.w X.xe _ ⟨.bl true,H,I,rfl,q⟩
end
theorem zI2 {X:Cx} {k:Nat} (hr:Room k X.A):OpR X (compareOp .NotEq) (fun x y H Q=>zF3 X.K 8 false x y H Q\/zF2 X.K true x y H Q):=(op_neA (hu2 hr)).either (op_neU (hu0 hr))
theorem ints_of {ns:List Int}:∀{its:List Value},Vals (ns.map V.int) its->∃xs:List (Int×Tok),its=(xs.map fun p=>Value.int p.1 p.2)/\xs.map (·.1)=ns:=by
 induction ns with
 | nil =>
  intro its r
  cases r
  exact ⟨[],rfl,rfl⟩
 | cons n ns ih =>
  intro its r
  cases r with
  | cons r1 r2 =>
   obtain ⟨t,rfl⟩:=r1;obtain ⟨xs,rfl,e⟩:=ih r2;exact ⟨(n,t)::xs,rfl,by rw [qAk,e]⟩
theorem numAt_of {xs:List (Int×Tok)} {i:Nat} (h:i<xs.length):numAt xs.toArray i∈xs.map (·.1)/\(xs.map (·.1))[i]?=some (numAt xs.toArray i):=by
 have e:numAt xs.toArray i=(xs[i]).1:=by
  unfold numAt;rw [qDG,qAn h];rfl
 rw [e];exact ⟨qAM.mpr ⟨xs[i],qCb h,rfl⟩,by rw [qAX,qAn h];rfl⟩
section
variable {X:Cx}
theorem call_max1 (hc:X.calm=true):zDt X (.builtin "max") (fun xs H Q=>∃(p:Addr) (ns:List Int),xs=[.ref p]/\SqL X.K H p (ns.map V.int)/\ns≠[]/\∀M,M∈ns->(∀a∈ns,a<=M)->Q (.int M) H):=by
 intro pins s σ H xs us Q I rv h;obtain ⟨p,ns,rfl,hq,hne,q⟩:=h;obtain ⟨u,rfl,ru⟩:=rv.one
 cases ru
 obtain ⟨its,r,pl,hz⟩:=I.list hq;obtain ⟨xs,rfl,e⟩:=ints_of r
 have hpos:0<xs.length:=by
  have:=qDI.mpr hne;rw [<-e,qAD] at this;exact this
 have hI:s.heap.IsList p (intItems xs.toArray):=by
  have:=pl.isList
  rwa [show (xs.map fun p=>Value.int p.1 p.2).toArray=intItems xs.toArray from by unfold intItems;simp] at this
 refine max_intList (I.ok.hd hc) hI (by simpa using hpos) fun v h' tk hv hk=>?_;obtain ⟨t,rfl⟩:=intItems_at hv;obtain ⟨b1,b2⟩:=argBest_gt (numAt xs.toArray) (xs.toArray.size - 1);rw [qAO] at b1 b2;have hb:argBest (fun i j=>decide (numAt xs.toArray i>numAt xs.toArray j)) (xs.length - 1)<xs.length:=by lia
 refine ⟨.int _,H,I.kept (t':=tk) hk,⟨t,rfl⟩,q _ ?_ fun a ha=>?_⟩
 ·rw [<-e,qAO];exact (numAt_of hb).1
 ·rw [<-e] at ha;obtain ⟨i,hi,rfl⟩:=qAt.mp ha;rw [qAD] at hi;have h1:=(numAt_of hi).2;rw [qAn (by rw [qAD];exact hi)] at h1;rw [qAZ h1,qAO];exact b2 i (by lia)
end
theorem un_laid {fs ex:List Addr} {H:Hp} {h h':Heap} {o:HO} (k:∀b u,b∉ex->h.get? b=some u->h'.get? b=some u) (hp:h.objs.size<=a) (hn:H a=none):Un fs ex H (upd H a o) h h' where
 keep:=fun b u q _ _ hx=>k b u hx q
 slot:=fun b u q _ _ hx=>⟨u.slots,k b u hx q⟩
 free:=fun b u q n _=>by rw [upd_ne (qAS (qAp (qAN q) hp))];exact n
 there:=fun b u q hx=>⟨u,k b u hx q⟩
 tups:=fun b xs q=>by rw [upd_ne (zA0 q hn)];exact q
 frzs:=fun b u xs q=>by rw [upd_ne (zA0 q hn)];exact q
 tbls:=fun b ps q=>⟨#[],by rw [upd_ne (zA0 q hn),q];simp⟩
theorem hok_laid {P:Program} {w:World} {H:Hp} {h h':Heap} {ex:List Addr} {o:HO} (x:HOk P w H h) (k:∀b u,b∉ex->h.get? b=some u->h'.get? b=some u) (hex:∀b∈ex,H b=none) (hp:h.objs.size<=a) (new:zA7 P w (upd H a o) h' a o):HOk P w (upd H a o) h':=fun b u e=>by
 have hn:=x.fresh hp
 by_cases hb:b=a
 ·subst hb;rw [upd_same] at e;cases e;exact new
 ·rw [upd_ne hb] at e;refine (x b u e).stay (fun c v hc q=>k c v (fun z=>?_) q) (fun c q=>by rw [upd_ne (zA0 q hn)];exact q) fun c xs q=>by rw [upd_ne (zA0 q hn)];exact q
  have hz:=hex c z;rcases hc with y| y
  ·rw [y,e] at hz;cases hz
  ·rw [y] at hz;cases hz
def zC8 (es:Array DictEntry):Prop:=∀e∈es,∃x t,e.key= .str x t
theorem zC8.all {es:Array DictEntry} (h:zC8 es):(es.all fun e=>isExactStrKey e.key)=true:=by
 rw [Array.all_eq_true];intro i hi;obtain ⟨x,t,e⟩:=h es[i] (Array.getElem_mem hi);rw [e];rfl
section
variable {P:Program} {w:World} {A:Around} {E:Value->Shared->Prop} {s:Shared}
theorem find_str {d:Addr} {o:Obj} {es:Array DictEntry} {x:Str} {t:Tok} {hs:Int} {Q:Option Nat->Shared->Prop} (ho:s.heap.get? d=some o) (hd:o.data= .dict es ep) (sk:zC8 es)
  (q:Q (es.findIdx? fun e=>e.key.isStr x) s):wpAny (model P w) A (dictFind d (.str x t) hs) Q E s:=by
 unfold dictFind;refine qA0 (qAA (qCu ho hd ?_));dsimp only;rw [qAC sk.all];unfold foundByValue
 cases hf:es.findIdx? (fun e=>e.key.isStr x) with
 | none=>rw [hf] at q;exact qAE q
 | some i =>
  rw [hf] at q;obtain ⟨lt,hi,_⟩:=Array.findIdx?_eq_some_iff_getElem.mp hf;obtain ⟨y,u,ey⟩:=sk es[i] (Array.getElem_mem lt);simp only [qCl lt]
  have xy:y=x:=by
   have:=hi;rw [ey] at this;simpa [Value.isStr] using this
  subst xy;rw [ey]
  have tt:SeqAt.EqAt A s (.str y u) (.str y t) true:=by
   have:=SeqAt.EqAt.str_str (A:=A) (s:=s) y u y t
   rwa [beq_self_eq_true] at this
  refine qAA (qDJ ho hd (qAA (tt P w E _ (qAA (qDJ ho hd ?_)))));rw [qAB (by simp)];exact qAA (qBR (qAE q))
theorem walk_range {β:Type} {b0:β} {f:Nat->β->Sem (ForInStep β)} {Q:β->Shared->Prop} (turn:∀i,i<n->wpAny (model P w) A (f i b0) (fun r s'=>r= .yield b0/\s'=s) E s) (fin:Q b0 s):wpAny (model P w) A (forIn [:n] b0 f) Q E s:=by
 rw [Std.Legacy.Range.forIn_eq_forIn_range'];simp only [Std.Legacy.Range.size,Nat.sub_zero,Nat.add_sub_cancel,Nat.div_one];refine qDB _ (fun rest b s'=>b=b0/\s'=s/\∀i∈rest,i<n) _ ?_ ?_ _ _ ⟨rfl,rfl,fun i hi=>by simpa using hi⟩
 ·rintro i rest b s' ⟨rfl,rfl,hb⟩;refine thn (turn i (hb i (by simp))) fun r s2 ⟨e1,e2⟩=>?_;subst e1 e2;exact ⟨rfl,rfl,fun j hj=>hb j (by simp [hj])⟩
 ·rintro b s' ⟨rfl,rfl,_⟩;exact fin
theorem same_pairs {nm:String} {b:Addr} {oa ob:Obj} {es fs:Array DictEntry} {fp:Nat} {Q:Bool->Shared->Prop} (na:(a==sysModules)=false) (nb:(b==sysModules)=false) (ha:s.heap.get? a=some oa) (da:oa.data= .dict es ep) (hb:s.heap.get? b=some ob) (db:ob.data= .dict fs fp)
  (ka:zC8 es) (kb:zC8 fs) (sz:es.size=fs.size) (al:∀i (h:i<es.size) x t,es[i].key= .str x t->∃j,∃hj:j<fs.size,(fs.findIdx? fun e=>e.key.isStr x)=some j/\SeqAt.EqAt A s es[i].val fs[j].val true)
  (q:Q true s):wpAny (model P w) A (Builtin.Dict.samePairs nm a b) Q E s:=by
 unfold Builtin.Dict.samePairs Builtin.Dict.showsAll;rw [qAB (by rw [na];exact qAl)];refine qAA (qAE ?_);rw [qAB (by rw [nb];exact qAl)];refine qAA (qAE (qAA (qCu ha da (qAA (qCu hb db ?_)))));rw [qAB (by simp [sz])];refine qAA (qDJ ha da ?_);refine qAA (walk_range (fun i hi=>?_) (qAE q));refine qAA (qCu ha da ?_);obtain ⟨x,t,ex⟩:=ka es[i] (Array.getElem_mem hi);obtain ⟨j,hj,ej,eq⟩:=al i hi x t ex;simp only [qCl hi];refine qAA (qA0 (qAA ?_));rw [ex];refine find_str hb db kb ?_;rw [ej];refine qAA (qCu hb db ?_);simp only [qCl hj];refine qA0 (eq P w E _ ?_);rw [qAB (by simp)];refine qAA (qDJ ha da ?_);rw [qAB (by simp)];exact qAE ⟨rfl,rfl⟩
end
open AutoSeq1 (wpAny_loadPart')
theorem dict_eqM (a b:Addr) (oa ob:Obj) (es fs:Array DictEntry) (ep fp:Nat) (ka:zC8 es) (kb:zC8 fs) (sz:es.size=fs.size) (na:(a==sysModules)=false) (nb:(b==sysModules)=false) (ca:oa.cls= .type "dict") (cb:ob.cls= .type "dict") (da:oa.data= .dict es ep) (db:ob.data= .dict fs fp) :
  Meets (Builtin.«dict.__eq__» ⟨[.ref a,.ref b],[]⟩) (fun A R s=>s.heap.get? a=some oa/\s.heap.get? b=some ob /\
   (∀i (h:i<es.size) x t,es[i].key= .str x t->∃j,∃hj:j<fs.size,(fs.findIdx? fun e=>e.key.isStr x)=some j/\SeqAt.EqAt A.in1 s es[i].val fs[j].val true)/\R (.ok (.ret (.bool true))) s) :=
 .of_wp fun P w A R s ⟨ha,hb,al,q⟩=>by
  have ta:s.TypeIs (.ref a) "dict" := ⟨_,ha,ca⟩;have tb:s.TypeIs (.ref b) "dict" := ⟨_,hb,cb⟩;unfold Builtin.«dict.__eq__»;show wpAny _ _ (Builtin.Dict.dictSlotArgs "__eq__" ⟨[.ref a,.ref b],[]⟩ >>= _) _ _ s;unfold Builtin.Dict.dictSlotArgs;refine qAA (qAA (wpAny_notOrdered_dict ta ?_));show wpAny _ _ (pure ((Value.ref a,[Value.ref b]):Value×List Value) >>= _) _ _ s;refine qAA (qAE (qAE ?_));refine qAA (wpAny_isInstance tb isSubtype_dict_dict ?_);rw [qAB (by simp)];show wpAny _ _ (pure a >>= _) _ _ s;refine qAA (qAE ?_);show wpAny _ _ (pure b >>= _) _ _ s;refine qAA (qAE (qAA (same_pairs na nb ha da hb db ka kb sz al ?_)));exact qAE ⟨_,rfl,q⟩
theorem rc_dicts {A:Around} {s:Shared} {b:Addr} {oa ob:Obj} {es fs:Array DictEntry} {fp:Nat} (ka:zC8 es) (kb:zC8 fs) (sz:es.size=fs.size) (na:(a==sysModules)=false) (nb:(b==sysModules)=false) (ca:oa.cls= .type "dict") (cb:ob.cls= .type "dict") (da:oa.data= .dict es ep) (db:ob.data= .dict fs fp)
  (ha:s.heap.get? a=some oa) (hb:s.heap.get? b=some ob) (hu:A.units<cLine) (al:∀i (h:i<es.size) x t,es[i].key= .str x t->∃j,∃hj:j<fs.size,(fs.findIdx? fun e=>e.key.isStr x)=some j/\SeqAt.EqAt A.in1 s es[i].val fs[j].val true) :
  SeqAt.RcAt A s (.ref a) (.ref b) true:=fun P w E Q q =>
 richCompare_meets_room (op:=.Eq) ⟨_,ha,ca⟩ ⟨_,hb,cb⟩ F.slot_dict_eq F.entry_dict_eq (F.args_dict_eq_2 _ _) (dict_eqM a b oa ob es fs ep fp ka kb sz na nb ca cb da db) ⟨ha,hb,al,show Value.bool true≠Value.notImplemented/\Q (.bool true) s from ⟨(fun z=>nomatch z),q⟩⟩ hu
def TxtKeys (kvs:List (Key×V)):Prop:=∀kv∈kvs,∃x:Str,kv.1= .inr x
section
variable {X:Cx} {pins:List (Addr×Obj)} {σ:St} {H:Hp} {s:Shared}
theorem pair_at {P:Program} {w:World}:∀{es:List DictEntry} {vs:List (Key×Value)} {kvs:List (Key×V)},Pairs (zAt P w) es vs->KV kvs vs->∀i (h:i<es.length),∃k v,kvs[i]?=some (k,v)/\zJb k es[i].key=true/\RelV v es[i].val:=by
 intro es vs kvs p
 induction p generalizing kvs with
 | nil=>intro _ i h;exact absurd h (qDC _)
 | @cons e kv es vs h1 h2 p ih =>
  intro r i h
  cases r with
  | @cons a _ as _ ra rr =>
   cases i with
   | zero=>exact ⟨a.1,a.2,rfl,by rw [ra.1];exact h1,by show RelV a.2 e.val;rw [h2];exact ra.2⟩
   | succ i=>exact ih rr i (by simpa using h)
theorem txt_at {P:Program} {w:World} {es:Array DictEntry} {vs:List (Key×Value)} {kvs:List (Key×V)} (p:Pairs (zAt P w) es.toList vs) (r:KV kvs vs) (t:TxtKeys kvs):zC8 es:=fun e he=>by
 obtain ⟨i,hi,rfl⟩:=Array.mem_iff_getElem.mp he;obtain ⟨k,v,e1,e2,_⟩:=pair_at p r i (by simpa using hi);obtain ⟨x,ex⟩:=t _ (qAI e1);have ex:k= .inr x:=ex;subst ex;rcases zAu e2 with ⟨_,_,z,_⟩| ⟨y,t,_,z⟩
 ·cases z
 ·exact ⟨y,t,by simpa using z⟩
theorem at_text {P:Program} {w:World} {fs:Array DictEntry} {ws:List (Key×Value)} {lvs:List (Key×V)} {x:Str} {u:V} (p:Pairs (zAt P w) fs.toList ws) (r:KV lvs ws) (h:valV lvs (.inr x)=some u):∃j,∃hj:j<fs.size,(fs.findIdx? fun e=>e.key.isStr x)=some j/\RelV u fs[j].val:=by
 have hf:(fun e:DictEntry=>e.key.isStr x)=fun e=>(zAt P w).is (.inr x) e.key:=funext fun e=>((zAt P w).strs (.inr x) x 0 e.key (keyIs_str x 0)).symm;have f1:=p.find (.inr x);have f2:=r.val (.inr x);rw [h,<-f1] at f2
 cases q:fs.toList.find? (fun e=>(zAt P w).is (.inr x) e.key) with
 | none=>rw [q] at f2;exact absurd f2 (by intro z;cases z)
 | some f =>
  rw [q] at f2;obtain ⟨q1,j,hj,q2,q3⟩:=List.find?_eq_some_iff_getElem.mp q;have hj':j<fs.size:=by simpa using hj
  have q2':fs[j]=f:=by simpa using q2
  refine ⟨j,hj',?_,by rw [q2'];exact f2⟩;rw [hf];refine Array.findIdx?_eq_some_iff_getElem.mpr ⟨hj',by rw [q2'];exact q1,fun i hi=>?_⟩;have:=q3 i hi;simpa using this
def DAlike (K:PySem.W.Frag) (H:Hp) (n:Nat) (kvs lvs:List (Key×V)):Prop:=TxtKeys kvs/\TxtKeys lvs/\kvs.length=lvs.length/\∀k v,(k,v)∈kvs->∃u,valV lvs k=some u/\Alike K H n v u
theorem dalike_at (I:Inv X pins σ H s) {b:Addr} {A:Around} {kvs lvs:List (Key×V)} (hu:A.units+1+n<cLine) (ea:Rd H a (.dK kvs)) (eb:Rd H b (.dK lvs)) (al:DAlike X.K H n kvs lvs):SeqAt.RcAt A s (.ref a) (.ref b) true:=by
 obtain ⟨z1,n1,vs,r1,o1,es,ep,g1,c1,d1,k1,p1,nd1⟩:=dk_rd I.hok ea;obtain ⟨z2,n2,ws,r2,o2,fs,fp,g2,c2,d2,k2,p2,nd2⟩:=dk_rd I.hok eb;obtain ⟨t1,t2,len,al⟩:=al;have l1:=p1.length;have l2:=p2.length;have l3:=r1.length;have l4:=r2.length;refine rc_dicts (txt_at p1 r1 t1) (txt_at p2 r2 t2) (by simp only [qBM] at l1 l2;lia) n1 n2 c1.1 c2.1 d1 d2 g1 g2 (by lia) fun i hi x t ex=>?_;obtain ⟨k,v,e1,e2,e3⟩:=pair_at p1 r1 i (by simpa using hi);have e2:zJb k es[i].key=true:=by simpa using e2
 have e3:RelV v es[i].val:=by simpa using e3
 have ek:k= .inr x:=by
  rw [ex] at e2;rcases zAu e2 with ⟨_,_,_,z⟩| ⟨y,t',z1,z2⟩
  ·cases z
  ·cases z2;exact z1
 subst ek;obtain ⟨u,hu1,hu2⟩:=al _ _ (qAI e1);obtain ⟨j,hj,ej,rj⟩:=at_text p2 r2 hu1;exact ⟨j,hj,ej,zJl I hu2 e3 rj (by show A.units+1+n<cLine;lia)⟩
end
section
variable {X:Cx} {pins:List (Addr×Obj)} {σ:St} {H:Hp} {s:Shared}
def AlD (K:PySem.W.Frag) (H:Hp) (n:Nat) (x y:V):Prop:=Alike K H n x y\/∃a b kvs lvs,x= .ref a/\y= .ref b/\Rd H a (.dK kvs)/\Rd H b (.dK lvs)/\DAlike K H n kvs lvs
theorem ald_at (I:Inv X pins σ H s) {x y:V} (h:AlD X.K H n x y) {u v:Value} {A:Around} (ru:RelV x u) (rv:RelV y v) (hu:A.units+1+n<cLine):SeqAt.EqAt A s u v true:=by
 rcases h with h| ⟨a,b,kvs,lvs,rfl,rfl,e1,e2,al⟩
 ·exact zJl I h ru rv (by lia)
 ·cases ru
  cases rv
  by_cases ab:a=b
  ·subst ab;exact qCW _
  ·exact SeqAt.EqAt.of_refs ab (dalike_at I hu e1 e2 al)
theorem ald_items (I:Inv X pins σ H s) {xs ys:List V} {its its2:List Value} {A:Around} (r:Vals xs its) (r2:Vals ys its2) (he:∀(i:Nat) (x y:V),xs[i]?=some x->ys[i]?=some y->AlD X.K H n x y) (hu:A.units+1+n<cLine) :
  ∀j (h1:j<its.toArray.size) (h2:j<its2.toArray.size),SeqAt.EqAt A s its.toArray[j] its2.toArray[j] true:=fun j h1 h2=>by
 have e1:=r.length;have e2:=r2.length;rw [qAO] at h1 h2;have hjx:xs[j]?=some (xs[j]'(by lia)):=by simp
 have hjy:ys[j]?=some (ys[j]'(by lia)):=by simp
 obtain ⟨u1,q1,ru1⟩:=r.get hjx;obtain ⟨v1,q2,rv1⟩:=r2.get hjy
 have e3:its.toArray[j]=u1:=by
  have:its[j]?=some its[j]:=by simp
  rw [this] at q1;simpa using q1
 have e4:its2.toArray[j]=v1:=by
  have:its2[j]?=some its2[j]:=by simp
  rw [this] at q2;simpa using q2
 rw [e3,e4];exact ald_at I (he j _ _ hjx hjy) ru1 rv1 hu
end
section
variable {X:Cx}
def rAlT (K:PySem.W.Frag) (n:Nat) (b:Bool):R2:=fun x y H Q=>∃a c xs ys,x= .ref a/\y= .ref c/\SqT K H a xs/\SqT K H c ys/\xs.length=ys.length/\(∀(i:Nat) (x y:V),xs[i]?=some x->ys[i]?=some y->AlD K H n x y)/\Q (.bl b) H
theorem op_neT {n:Nat} (hu:X.A.units+2+n<cLine):OpR X (compareOp .NotEq) (rAlT X.K n false):=by
 intro pins s σ H x y v u Q I rx ry h;obtain ⟨a,c,xs,ys,rfl,rfl,hx,hy,hl,he,q⟩:=h
 cases rx
 cases ry
 obtain ⟨its,r,pl,hz⟩:=I.tuple hx;obtain ⟨its2,r2,pl2,hz2⟩:=I.tuple hy;have e1:=r.length;have e2:=r2.length;refine SeqAt.RcNeAt.tuples (e:=fun _=>true) (show s.heap.IsTuple a its.toArray from pl) (show s.heap.IsTuple c its2.toArray from pl2) (by lia) (ald_items I r r2 he (by show X.A.units+1+1+n<cLine;lia)) X.prog X.w X.xe _ ?_;rw [zFj,Bool.true_and,qAO,qAO,<-e1,<-e2,hl,beq_self_eq_true];exact ⟨.bl false,H,I,rfl,q⟩
end
end L2
namespace L2
open PySem PySem.Spec PyProof.Rows PySem.W PySem.Builtin PySem.Builtin.ObjectAttr PySem.Builtin.Getset_descriptor
end L2
namespace L2
open PySem PySem.Spec PyProof.Rows
theorem cut_to (xs:List V) {b:Int} (h:0<=b):cutV xs none (some b)=xs.take b.toNat:=by
 obtain ⟨k,rfl⟩:∃k:Nat,b=k:=⟨b.toNat,by lia⟩;unfold cutV;rw [HT.sIx_nat,HT.sIx_none,List.drop_zero,Nat.sub_zero];show xs.take (min k xs.length)=xs.take k;rw [List.take_eq_take_min (i:=k)]
theorem cut_from (xs:List V) {b:Int} (h:0<=b):cutV xs (some b) none=xs.drop b.toNat:=by
 obtain ⟨k,rfl⟩:∃k:Nat,b=k:=⟨b.toNat,by lia⟩;unfold cutV;rw [HT.sIx_nat,HT.sIx_none];show (xs.drop (min k xs.length)).take (xs.length - min k xs.length)=xs.drop k;rw [qBD (by rw [qBO];lia)]
 by_cases z:k<=xs.length
 ·rw [Nat.min_eq_left z]
 ·rw [Nat.min_eq_right (by lia),List.drop_of_length_le (by lia),List.drop_of_length_le (by lia)]
open AutoSeq1 (wpAny_loadPart')
def zI6:Expr->Bool
 | .Starred ..=>false
 | _=>true
theorem zGu {e:Expr} {es:List Expr} {env:Env} (h:zI6 e=true):starEach (e::es) env=(false,eval e env)::starEach es env:=by
 cases e<;>first| rfl| cases h
section
variable {X:Cx}
theorem zE4:OpR X (binaryOp .FloorDiv) (rI (fun _ j=>0<j/\j<10^100) fun i j=>.int (i / j)):=opI fun i j _ _ _ _ _ hc q=>by
 have h1:(0:Int)<j:=hc.1;have h2:j<10^100:=hc.2;refine floordiv_int (by lia) (by rw [Int.fdiv_eq_ediv_of_nonneg i (by lia)];exact q) (.inl (PyProof.noPylong_of_log2 ?_));have hj:j.natAbs≠0:=by lia
 rw [Nat.log2_lt hj];have:j.natAbs<10^100:=by lia
 exact qAp this (by decide +kernel)
end
end L2
namespace RV
open PySem
end RV
namespace L2
open PySem PySem.Spec PyProof.Rows
section
variable {X:Cx}
theorem rel_key {P:Program} {w:World} {k:Key} {u:Value} (h:(zAt P w).is k u=true):RelV (kV k) u:=by
 rcases zAu (show zJb k u=true from h) with ⟨i,t,rfl,rfl⟩| ⟨x,t,rfl,rfl⟩
 ·exact ⟨t,rfl⟩
 ·exact ⟨t,rfl⟩
theorem kv_at:∀{kvs:List (Key×V)} {vs:List (Key×Value)} {j:Nat} {k:Key} {v:V},KV kvs vs->kvs[j]?=some (k,v)->∃u,vs[j]?=some (k,u)/\RelV v u
 | _,_,j,_,_,.nil,h=>by simp at h
 | _,_,0,k,v,.cons (a:=a) (b:=b) r _,h=>by
  have e:a=(k,v):=by simpa using h
  subst e;exact ⟨b.2,by simp;exact Prod.ext r.1.symm rfl,r.2⟩
 | _,_,j+1,k,v,.cons r rr,h=>by
  obtain ⟨u,h1,h2⟩:=kv_at rr (show _=some (k,v) by simpa using h);exact ⟨u,by simpa using h1,h2⟩
end
section
variable {X:Cx} {pins:List (Addr×Obj)} {σ:St} {H:Hp} {s:Shared} {a:Addr} {u o':HO}
theorem Inv.retell (I:Inv X pins σ H s) (e:H a=some u) (nt:∀xs,u≠.tup xs) (no:∀x,u≠.own x) (nb:∀ps,u≠.tbl ps) (nf:∀o v,X.H₀ a≠some (.frz o v)) (new:zA7 X.prog X.w (upd H a o') s.heap a o'):Inv X pins σ (upd H a o') s:=by
 have ne:∀b,H b=none->b≠a:=fun b h z=>by rw [z,e] at h;cases h
 refine ⟨I.ok,I.os,I.bare,⟨I.base.keep,I.base.slot,fun b o q n x=>?_,I.base.there,fun b xs q=>?_,fun b o v q=>?_,fun b ps q=>?_⟩,I.loc,I.cell,?_,fun x c h=>?_,fun p hp=>?_,fun b o q=>?_,I.len⟩
 ·have:=I.base.free b o q n x;rw [upd_ne (ne b this)];exact this
 ·have:=I.base.tups b xs q;rw [upd_ne (fun z=>by rw [z,e] at this;exact nt xs (qAZ this))];exact this
 ·have:=I.base.frzs b o v q;rw [upd_ne (fun z=>nf o v (by rw [<-z];exact q))];exact this
 ·obtain ⟨more,this⟩:=I.base.tbls b ps q;exact ⟨more,by rw [upd_ne (fun z=>by rw [z,e] at this;exact nb _ (qAZ this))];exact this⟩
 ·rw [upd_ne (ne _ I.free)];exact I.free
 ·rw [upd_ne (ne _ (I.freeC x c h))];exact I.freeC x c h
 ·obtain ⟨h1,h2,h3⟩:=I.pin p hp;exact ⟨h1,by rw [upd_ne (ne _ h2)];exact h2,h3⟩
 ·by_cases z:b=a
  ·subst z;rw [upd_same] at q;cases q;exact new
  ·rw [upd_ne z] at q;refine (I.hok b o q).stay (fun c v _ y=>y) (fun c y=>?_) fun c xs y=>?_
   ·rw [upd_ne (fun z=>by rw [z,e] at y;exact no _ (qAZ y))];exact y
   ·rw [upd_ne (fun z=>by rw [z,e] at y;exact nt _ (qAZ y))];exact y
end
def thawE (D:Ends) (a:Addr) (o:Obj) (kvs:List (Key×V)):Ends where
 nx:=fun σ H=>H a=some (.frz o (.dK kvs))/\D.nx σ (upd H a (.dK kvs))
 rt:=fun v H=>H a=some (.frz o (.dK kvs))/\D.rt v (upd H a (.dK kvs))
 bk:=fun σ H=>H a=some (.frz o (.dK kvs))/\D.bk σ (upd H a (.dK kvs))
 ct:=fun σ H=>H a=some (.frz o (.dK kvs))/\D.ct σ (upd H a (.dK kvs))
section
variable {X:Cx}
theorem Inv.thaw {pins:List (Addr×Obj)} {σ:St} {H:Hp} {s:Shared} {a:Addr} {o:Obj} {kvs:List (Key×V)} (I:Inv X pins σ H s) (e:H a=some (.frz o (.dK kvs))) (nf:∀o v,X.H₀ a≠some (.frz o v)):Inv X pins σ (upd H a (.dK kvs)) s:=by
 obtain ⟨_,z⟩:zA7 X.prog X.w H s.heap a (.frz o (.dK kvs)):=I.hok a _ e;exact I.retell e (fun _ h=>nomatch h) (fun _ h=>nomatch h) (fun _ h=>nomatch h) nf z
theorem ps_frz {st:Stmt} {t:TS} (h:PS X st t):PS X st (fun D σ H=>∃a kvs,H a=some (.dK kvs)/\∀o,t (thawE D a o kvs) σ (upd H a (.frz o (.dK kvs)))):=by
 intro pins s σ H D I ⟨a,kvs,e,q⟩;have ok:zA7 X.prog X.w H s.heap a (.dK kvs):=I.hok a _ e;obtain ⟨_,_,_,_,o,_,_,ho,_⟩:=id ok
 have nf:∀o v,X.H₀ a≠some (.frz o v):=fun o v z=>by
  have:=I.base.frzs a o v z;rw [e] at this;cases this
 have I1:Inv X pins σ (upd H a (.frz o (.dK kvs))) s:=I.retell e (fun _ h=>nomatch h) (fun _ h=>nomatch h) (fun _ h=>nomatch h) nf ⟨ho,ok⟩;refine thn (h pins s σ _ _ I1 (q o)) fun f s' r=>?_
 cases f with
 | next=>obtain ⟨σ',H',I',e',d'⟩:=r;exact ⟨σ',_,I'.thaw e' nf,d'⟩
 | brk=>obtain ⟨σ',H',I',e',d'⟩:=r;exact ⟨σ',_,I'.thaw e' nf,d'⟩
 | cont=>obtain ⟨σ',H',I',e',d'⟩:=r;exact ⟨σ',_,I'.thaw e' nf,d'⟩
 | ret u=>obtain ⟨v,σ',H',I',rv,e',d'⟩:=r;exact ⟨v,σ',_,I'.thaw e' nf,rv,d'⟩
end
end L2
namespace RV
open PySem
end RV
namespace L2
open PySem PySem.Spec PyProof.Rows
theorem frz_at {X:Cx} {pins:List (Addr×Obj)} {σ:St} {H:Hp} {s:Shared} {a:Addr} {o:Obj} {kvs:List (Key×V)} (I:Inv X pins σ H s) (e:H a=some (.frz o (.dK kvs))) :
  ∃vs es ep,KV kvs vs/\o.data= .dict es ep/\es.size=kvs.length/\s.heap.DictAt (zAt X.prog X.w) a vs ep/\(a==sysModules)=false/\kvs.length<=sizeLine/\s.heap.get? a=some o/\o.ExactDict:=by
 obtain ⟨ho,z,hd,vs,rel,o1,es,ep,y1,y2,y3,y4,y5,y6⟩:zA7 X.prog X.w H s.heap a (.frz o (.dK kvs)):=I.hok a _ e;rw [ho] at y1
 cases y1
 have l1:=y5.length;have l2:=rel.length;exact ⟨vs,es,ep,rel,y3,by simp only [qBM] at l1;lia,⟨o,es,ho,y2,y3,y4,y5,y6⟩,hd,z,ho,y2⟩
end L2
namespace ST
open PySem PyProof.Rows PySem.W
end ST
namespace L2
open PySem PySem.Spec PyProof.Rows
variable {c:Addr}
section
variable {X:Cx}
theorem op_mulB:OpR X (binaryOp .Mult) (rI (fun i j=>i.natAbs<10^100/\j.natAbs<10^100) fun i j=>.int (i*j)):=opI fun i j _ _ _ _ _ hc q=>mul_int q (by
 have h1:Builtin.Int.intBits i<=340:=PyProof.Rows.intBits_le (qAp hc.1 (by decide +kernel));have h2:Builtin.Int.intBits j<=340:=PyProof.Rows.intBits_le (qAp hc.2 (by decide +kernel))
 have h':Builtin.Int.intTooBig (Builtin.Int.intBits i+Builtin.Int.intBits j)=false:=by
  unfold Builtin.Int.intTooBig bitsLine;exact qAe (by lia)
 unfold IntMulOk;rw [h'];simp)
end
def Itk (a:Addr) (o:Obj) (kvs:List (Key×V)):It :=
 ⟨fun i H=>H a=some (.frz o (.dK kvs))/\i<kvs.length,fun i H v H'=>H'=H/\∃k x,kvs[i]?=some (k,x)/\v=kV k,fun i H=>H a=some (.frz o (.dK kvs))/\kvs.length<=i⟩
theorem turn_keys {P:Program} {w:World} {K:PySem.W.Frag} {tg:Expr} (a it:Addr) (o:Obj) (es:Array DictEntry) (ep:Nat) (kvs:List (Key×V)) (hd:o.data= .dict es ep):Turn P w K tg (Itk a o kvs) [it] it (fun i h=>h.IsKeyIter it a i kvs.length ep) where
 mem:=by simp
 obj:=fun i h ⟨o,st,c,dt⟩ b hb=>by
  have:b=it:=by simpa using hb
  subst this;exact ⟨_,st,fun v y=>by rw [dt] at y;cases y⟩
 keep:=fun i h h' st k=>st.at fun o e=>k it (by simp) o e
 item:=by
  intro X hP hw hK hc i pins s σ H E I hf st hg;subst hP hw hK;obtain ⟨e,hi⟩:=hg;obtain ⟨vs,es',ep',rel,hd',_,da,_,_,ho,_⟩:=frz_at I e;have ee:ep'=ep:=by rw [hd] at hd';cases hd';rfl
  subst ee;have len:=rel.length;have ek:kvs[i]?=some (kvs[i].1,kvs[i].2):=qAn hi;obtain ⟨v,ev,rv⟩:=kv_at rel ek;rw [len] at st;obtain ⟨f0,f1,f2,f3,f4,f5⟩:=hf it (by simp);refine wpAny_pyNext_dict_item st da ev fun key h' hk st' sb=>?_;have I1:Inv X pins σ H {s with heap:=h',toks:=s.toks}:=I.turned (t':=s.toks) (fun b o hb y=>sb.extBut b o hb y) f0 f1 f3 f4 f5;rw [<-len] at st';obtain ⟨o2,g1,g2,g3⟩:=id st';exact ⟨_,rfl,go_of (s:={s with heap:=h'}) (n:= "dict_keyiterator") g1 g2 g3 (by decide) ⟨kV kvs[i].1,H,I1,rel_key hk,⟨rfl,_,_,ek,rfl⟩,st',fun b hb=>(hf b hb).1⟩⟩
 done:=by
  intro X hP hw hK hc i pins s σ H E I hf st hg;subst hP hw hK;obtain ⟨e,hi⟩:=hg;obtain ⟨vs,es',ep',rel,hd',_,da,_,_,ho,_⟩:=frz_at I e;have ee:ep'=ep:=by rw [hd] at hd';cases hd';rfl
  subst ee;have len:=rel.length;rw [len] at st;obtain ⟨f0,f1,f2,f3,f4,f5⟩:=hf it (by simp);exact wpAny_pyNext_dict_end (I.ok.hd hc) st da (by simp;lia) fun h' eb=>⟨rfl,I.turned (t':=s.toks) (fun b o hb y=>eb b o hb y) f0 f1 f3 f4 f5⟩
 self:=fun _ _ _ _ _ st h=>wpAny_pyIter_keyiter st h
section
variable {X:Cx}
theorem pi_keys {tg o:Expr} {to:TE} (ho:PE X o to):PI X tg o (fun σ H R=>to σ H fun x H1=>∃a ob kvs,x= .ref a/\H1 a=some (.frz ob (.dK kvs))/\R (Itk a ob kvs) H1):=by
 intro pins s σ H R I h;refine thn (ho pins s σ H _ I h) fun v s1 ⟨x,H1,I1,r1,a,ob,kvs,ex,e,q⟩=>?_;subst ex
 cases r1
 obtain ⟨vs,es,ep,rel,hd,sz,da,nsys,z,hget,exd⟩:=frz_at I1 e;have len:=rel.length;refine wpAny_pyIter_dict nsys da ?_;refine ⟨s1.heap.objs.size,[s1.heap.objs.size],_,_,H1,rfl,I1.kept (t':=s1.toks) fun b o e=>qAL _ e,turn_keys a _ ob es ep kvs hd,⟨_,qAh _ rfl,rfl,by rw [len];rfl⟩,fun b hb=>?_,q⟩;have e:b=s1.heap.objs.size:=by simpa using hb
 subst e;exact I1.fpOk (qAG _) (I1.hok.fresh (qAG _))
theorem zHn {a:Addr} {o:Obj} {kvs:List (Key×V)} {ix:List (Option Nat)} {g:TG} {tt:TT} {te:TE} {QD:Hp->Prop} {σ:St} {H1:Hp} {D:Addr} (Pv:Nat->List V->St->Hp->Prop) (h0:Pv 0 [] (zC7 σ ix) (upd H1 D (.lst [])))
  (hl:∀i ys τ H,Pv i ys τ H->H a=some (.frz o (.dK kvs)))
  (hs:∀i k v ys τ H,kvs[i]?=some (k,v)->Pv i ys τ H->g (kV k) τ H fun τ' H4=>tt τ' H4 fun b H5=>if b=true then te τ' H5 fun v H6=>H6 D=some (.lst ys)/\ys.length<sizeLine/\Pv (i+1) (ys++[v]) τ' (upd H6 D (.lst (ys++[v]))) else Pv (i+1) ys τ' H5)
  (hd:∀ys τ H,Pv kvs.length ys τ H->QD H) :
  ∃W:Nat->Nat->List V->St->Hp->Prop,(∃m,W 0 m [] (zC7 σ ix) (upd H1 D (.lst [])))/\∀i m ys τ H2,W i m ys τ H2 ->
   ((Itk a o kvs).stop i H2/\QD H2)\/((Itk a o kvs).go i H2/\∃N:List V->St->Hp->Prop,(∀ys' τ' H',N ys' τ' H'->∃m',m'<m/\W (i+1) m' ys' τ' H')/\∀x H3,(Itk a o kvs).yld i H2 x H3->g x τ H3 fun τ' H4=>tt τ' H4 fun b H5 =>
    if b=true then te τ' H5 fun v H6=>H6 D=some (.lst ys)/\ys.length<sizeLine/\N (ys++[v]) τ' (upd H6 D (.lst (ys++[v])))
    else N ys τ' H5):=by
 refine ⟨fun i m ys τ H=>m=kvs.length - i/\i<=kvs.length/\Pv i ys τ H,⟨kvs.length,by simp,qAj _,h0⟩,?_⟩;rintro i m ys τ H ⟨rfl,hi,p⟩
 by_cases hlt:i<kvs.length
 ·refine .inr ⟨⟨hl i ys τ H p,hlt⟩,Pv (i+1),fun ys' τ' H' p'=>⟨_,?_,rfl,hlt,p'⟩,fun x H' y=>?_⟩
  ·show kvs.length - (i+1)<kvs.length - i;lia
  ·obtain ⟨rfl,k,v,ek,rfl⟩:=y;exact hs i k v ys τ H' ek p
 ·have e:i=kvs.length:=by lia
  subst e;exact .inl ⟨⟨hl _ ys τ H p,qAG _⟩,hd ys τ H p⟩
end
def cxLam (X:Cx) (N:List Str) (qual:Str) (scope:Scope) (f:Addr) (cd:Value) (cl:List (Str×Addr)) (A:Around) (s:Shared) (H:Hp):Cx where
 prog:=X.prog
 w:=X.w
 K:=X.K
 mg:=X.mg
 base:=X.base
 A:=A.deeper (PySem.W.envX qual scope s.heap.objs.size f cd cl)
 N:=N
 s₀:=s
 H₀:=H
 env:=PySem.W.envX qual scope s.heap.objs.size f cd cl
 outer:=X.stack
 stack:=PySem.W.envX qual scope s.heap.objs.size f cd cl::X.stack
 ex:=[]
 calm:=true
 fn:=fun _=>false
 pn:=[]
 xe:=fun _ _=>False
structure LamScope (x y:Str) (sc:Scope):Prop where
 kind:sc.kind= .function
 co:sc.isCoroutine=false
 gen:sc.isGenerator=false
 px:sc.names.lookup x=some .local
 fy:sc.names.lookup y=some .free
 nocell:∀z∈sc.names,z.2≠.cell
 onlyy:∀z∈sc.names,z.2= .free->z.1=y
section
variable {X:Cx} {pins:List (Addr×Obj)} {σ:St} {H:Hp} {s:Shared}
theorem zF7 {h h':Heap} {v:Option Value} (x:h.IsCell c v) (k:∀b o,h.get? b=some o->h'.get? b=some o):h'.IsCell c v:=by
 obtain ⟨o,e,r⟩:=x;exact ⟨o,k _ _ e,r⟩
theorem look1 {y z:Str} {d:Addr} (h:([(y,c)]:List (Str×Addr)).lookup z=some d):z=y/\d=c:=by
 rw [qBI] at h
 cases e:(z==y) with
 | true=>rw [e] at h;cases h;exact ⟨by simpa using e,rfl⟩
 | false=>rw [e] at h;cases h
theorem inv_lam {A:Around} {f c:Addr} {cd:Value} {qual x y:Str} {scope:Scope} {vx vy:V} {ux uy:Value} {h₁:Heap} {tk:Nat} (I:Inv X pins σ H s) (hA:A.frames=some X.stack) (hh:A.handled=none) (S:LamScope x y scope) (ne:x≠y)
  {y':Str} (hy:X.env.cells.lookup y'=some c) (iy:s.heap.IsCell c (some uy)) (ry:RelV vy uy) (rx:RelV vx ux) (hns:h₁.Ns s.heap.objs.size (fun z=>([(x,ux)]:List (Str×Value)).reverse.lookup z)) (hk:∀b o,s.heap.get? b=some o->h₁.get? b=some o) :
  Inv (cxLam X [x,y] qual scope f cd [(y,c)] A s H) [] [some vx,some vy] H {s with heap:=h₁,toks:=tk}:=by
 have e0:=I.env0;have noA:∀b:Addr,b∉(cxLam X [x,y] qual scope f cd [(y,c)] A s H).ex:=fun b z=>absurd (show b∈([]:List Addr) from z) (by simp);have hc0:=I.freeC y' c hy
 refine ⟨⟨e0.mod,S.kind,rfl,rfl,qAG _,fun a b d h1 h2=>?_,fun z hz=>?_,fun z d h _=>Bool.noConfusion h,fun _=>hh,Around.frames_deeper hA,.inr ⟨rfl,rfl⟩,fun b z=>absurd z (noA b),e0.bs,e0.bsz,fun b _ _=>noA b,fun b z=>absurd z (noA b),e0.funs,e0.frf⟩,
  rfl,e0.bare,Un.kept hk,⟨_,hns,fun i z v h1 h2 h3=>?_⟩,fun z d h=>?_,e0.hok.fresh (qAG _),fun z d h=>?_,fun p hp=>absurd (show p∈([]:List (Addr×Obj)) from hp) (by simp),e0.hok.kept hk,rfl⟩
 ·rw [(look1 h1).1,(look1 h2).1]
 ·have hz:scope.names.lookup z=some .cell\/scope.names.lookup z=some .free:=hz;rcases hz with hz| hz
  ·exact absurd rfl (S.nocell _ (qBh hz))
  ·have:z=y:=S.onlyy _ (qBh hz) rfl;subst this;exact ⟨c,by show ([(z,c)]:List (Str×Addr)).lookup z=some c;simp⟩
 ·match i,h1,h2 with
  | 0,h1,h2 =>
   have h1:some x=some z:=h1;have h2:some (some vx)=some (some v):=h2
   cases h1
   cases h2
   exact ⟨ux,rx,.inl ⟨S.px,by simp⟩⟩
  | 1,h1,h2 =>
   have h1:some y=some z:=h1;have h2:some (some vy)=some (some v):=h2
   cases h1
   cases h2
   exact ⟨uy,ry,.inr ⟨.inr S.fy,c,by show ([(y,c)]:List (Str×Addr)).lookup y=some c;simp,zF7 iy hk⟩⟩
  | n+2,h1,_=>exact absurd (show ([]:List Str)[n]?=some z from h1) (by simp)
 ·obtain ⟨_,rfl⟩:=look1 h;exact ⟨_,zF7 iy hk⟩
 ·obtain ⟨_,rfl⟩:=look1 h;exact hc0
theorem lam_call {A:Around} {f c':Addr} {qual x y:Str} {params:Arguments} {body:Expr} {scope:Scope} {pm ctv:Value} {vx vy:V} {ux uy:Value} {te:TE} {Q:VK} (I:Inv X pins σ H s) (hA:A.frames=some X.stack) (hh:A.handled=none) (room:A.depth<recursionLimit)
  (ho:s.heap.get? f=some (PySem.W.kla_obj "<lambda>" qual params body scope [(y,c)] pm c' ctv)) (hcd:s.heap.CodeRec (.ref c') qual) (S:LamScope x y scope) (ne:x≠y)
  (hb:bindArgs (PySem.W.kla_fn "<lambda>" qual params body scope [(y,c)] pm (.ref c') ctv) ⟨[ux],[]⟩=pure [(x,ux)])
  {y':Str} (hy:X.env.cells.lookup y'=some c) (iy:s.heap.IsCell c (some uy)) (ry:RelV vy uy) (rx:RelV vx ux)
  (ht:PE (cxLam X [x,y] qual scope f (.ref c') [(y,c)] A s H) body te) (hq:te [some vx,some vy] H Q) :
  wpAny (model X.prog X.w) A (call (.ref f) [ux]) (CE X.stack X.prog X.w H s Q) (fun _ _=>False) s:=by
 refine qCU (PySem.W.kla_callFunE room ho rfl S.co S.gen rfl hcd ?_);rw [hb];refine qAE (wpAny_newFunctionEnv S.nocell (fun z hz=>?_) (fun h₁ hns hsb=>⟨I.nolimit.fresh _ hsb,?_⟩) S.kind)
 ·have:z=(x,ux):=by simpa using hz
  subst this;exact S.px
 ·show codeAny _ _ (.expr body (PySem.W.envX qual scope s.heap.objs.size f (.ref c') [(y,c)])) _ _;have hk₁:∀b o,s.heap.get? b=some o->h₁.get? b=some o:=fun b o e=>hsb.extBut b o (qAS (qAN e)) (qAL _ e);have J:=inv_lam (qual:=qual) (f:=f) (cd:=.ref c') (tk:=s.toks+[(x,ux)].length) I hA hh S ne hy iy ry rx hns hk₁;refine PySem.W.kla_codeExpr (qAw (ht [] _ _ H _ J hq) (fun v s' hs=>?_) fun _ _ h=>h.elim);obtain ⟨v',H',J',rv,q⟩:=hs;exact ⟨v',H',J'.os,J'.bare,J'.base,J'.hok,rv,q⟩
end
end L2
namespace ST
open PySem PyProof.Rows
end ST
namespace L2
open PySem PySem.Spec PyProof.Rows
variable {qual:Str}
def zJm (mg:Str->Option Value) (h:Heap):Prop:=∃bm o,mg "__builtins__" = some (.ref bm)/\bm≠builtinsNs/\h.get? bm=some o/\o.cls= .type "module" /\o.dict=some builtinsNs/\o.data= .plain
def zFe (c:Addr) (qual:Str):HO:=.ext fun h=>h.CodeRec (.ref c) qual
def Tab1 (H:Hp) (P:Addr) (qual:Str) (pos:Pos):Prop:=∃c',H P=some (.tbl #[rawInt pos.line,rawInt pos.col,.ref c'])/\H c'=some (zFe c' qual)
def Tab0 (H:Hp) (P:Addr) (qual:Str) (pos:Pos):Prop:=H P=some (.tbl #[])\/Tab1 H P qual pos
section
variable {X:Cx} {pins:List (Addr×Obj)} {σ:St} {H:Hp} {s:Shared}
theorem codeO_rec (I:Inv X pins σ H s) {c:Addr} (e:H c=some (zFe c qual)):s.heap.CodeRec (.ref c) qual:=by
 obtain ⟨x,_,_⟩:zA7 X.prog X.w H s.heap c (zFe c qual):=I.hok c _ e;exact x
theorem codeO_ok {P:Program} {w:World} {c:Addr} {h:Heap} (x:h.CodeRec (.ref c) qual):zA7 P w H h c (zFe c qual):=by
 refine ⟨x,?_,fun h1 h2 y k=>?_⟩
 ·obtain ⟨d,o,vs,t,e,g,_⟩:=x
  cases e
  exact ⟨o,g⟩
 ·obtain ⟨d,o,vs,t,e,g,r⟩:=y
  cases e
  exact ⟨c,o,vs,t,rfl,k o g,r⟩
theorem among1 (pos:Pos) (c:Addr):codeAmong pos [rawInt pos.line,rawInt pos.col,.ref c]=some (.ref c):=by
 unfold rawInt codeAmong;simp
theorem lam_make {E:Value->Shared->Prop} {params:Arguments} {body:Expr} {scope:Scope} {clos:List (Str×Addr)} {c0 P:Addr} {pos:Pos} {Q:Value->Shared->Prop} (I:Inv X pins σ H s) (hcl:closureFor scope X.env=pure clos) (hcode:X.env.code= .ref c0) (C:PySem.W.CodeHd X.base c0 P) (B:zJm X.mg X.base) (T:Tab0 H P qual pos)
  (h:∀f c' ctv pm H2 s2,Inv X pins σ H2 s2->Kp [P] H H2->Tab1 H2 P qual pos->H2 c'=some (zFe c' qual)->s2.heap.get? f=some (PySem.W.kla_obj "<lambda>" qual params body scope clos pm c' ctv)->FpOk X pins H2 f->Q (.ref f) s2) :
  wpAny (model X.prog X.w) X.A (makeFunction "<lambda>" qual params (.expr body) scope X.env [] [] [] pos pos.line) Q E s:=by
 obtain ⟨bm,ob,b1,b2,b3,b4,b5,b6⟩:=B
 have tbl:∃ps,H P=some (.tbl ps):=by
  rcases T with e| ⟨c',e,_⟩
  ·exact ⟨_,e⟩
  ·exact ⟨_,e⟩
 obtain ⟨ps0,eP⟩:=tbl;have pP:s.heap.get? P=some (PySem.W.tabObj ps0):=I.hok P _ eP;have hgs:s.heap.Ns mainGlobals X.mg:=I.mod.glob.keeps I.bk
 have hgP:mainGlobals≠P:=fun q=>by
  obtain ⟨o,es,ep,e,hd,_⟩:=hgs;rw [q,pP] at e;cases e;cases hd
 have hbP:bm≠P:=fun q=>by
  have e:=I.bk _ _ b3;rw [q,pP] at e;cases e;cases b4
 have hbG:bm≠mainGlobals:=fun q=>by
  obtain ⟨o,es,ep,e,hd,_⟩:=I.mod.glob;rw [q,e] at b3;cases b3;rw [hd] at b6;cases b6
 have hB:s.heap.BuiltinsAt X.mg P:=⟨bm,ob,b1,b2,hbG,hbP,I.bk _ _ b3,b4,b5,b6⟩;rcases T with e| ⟨c',e,ec⟩
 ·rw [e] at eP
  cases eP
  refine PySem.W.kla_makeFunction (mg:=X.mg) hcl I.ok.glob hgs hcode (C.keeps I.bk) pP trivial rfl hgP hB fun c' ctv h' tk hx hge hlt hrec htb=>?_;have htb:h'.get? P=some (PySem.W.tabObj #[rawInt pos.line,rawInt pos.col,.ref c']):=by simpa using htb
  have fc:H c'=none:=I.hok.fresh hge;have nPc:c'≠P:=fun z=>by rw [z,e] at fc;cases fc
  have hk:∀b o,b≠P->s.heap.get? b=some o->(h'.push (PySem.W.kla_obj "<lambda>" qual params body scope clos ((X.mg "__name__").getD .none) c' ctv)).get? b=some o:=fun b o n q=>qAL _ (hx b o n q);have nP:∀b,H b=none->b≠P:=fun b n z=>by rw [z,e] at n;cases n
  have old:∀b,b≠P->b≠c'->upd (upd H P (.tbl #[rawInt pos.line,rawInt pos.col,.ref c'])) c' (zFe c' qual) b=H b:=fun b n1 n2=>by rw [upd_ne n2,upd_ne n1]
  have eP2:upd (upd H P (.tbl #[rawInt pos.line,rawInt pos.col,.ref c'])) c' (zFe c' qual) P=some (.tbl #[rawInt pos.line,rawInt pos.col,.ref c']):=by rw [upd_ne nPc.symm,upd_same]
  have ec2:upd (upd H P (.tbl #[rawInt pos.line,rawInt pos.col,.ref c'])) c' (zFe c' qual) c'=some (zFe c' qual):=upd_same
  have un:Un (frs X.stack) [] H (upd (upd H P (.tbl #[rawInt pos.line,rawInt pos.col,.ref c'])) c' (zFe c' qual)) s.heap (h'.push (PySem.W.kla_obj "<lambda>" qual params body scope clos ((X.mg "__name__").getD .none) c' ctv)):=by
   refine ⟨fun b o q n _ _=>hk b o (nP b n) q,fun b o q n _ _=>⟨o.slots,hk b o (nP b n) q⟩,fun b o q n _=>?_,fun b o q _=>?_,fun b xs q=>?_,fun b o u q=>?_,fun b ps q=>?_⟩
   ·rw [old b (nP b n) (qAS (qAp (qAN q) hge))];exact n
   ·by_cases z:b=P
    ·rw [z];exact ⟨_,qAL _ htb⟩
    ·exact ⟨o,hk b o z q⟩
   ·rw [old b (fun z=>by rw [z,e] at q;cases q) (fun z=>by rw [z,fc] at q;cases q)];exact q
   ·rw [old b (fun z=>by rw [z,e] at q;cases q) (fun z=>by rw [z,fc] at q;cases q)];exact q
   ·by_cases z:b=P
    ·rw [z,e] at q
     cases q
     exact ⟨#[rawInt pos.line,rawInt pos.col,.ref c'],by rw [z,eP2];simp⟩
    ·exact ⟨#[],by rw [old b z (fun z=>by rw [z,fc] at q;cases q),q];simp⟩
  have hok:HOk X.prog X.w (upd (upd H P (.tbl #[rawInt pos.line,rawInt pos.col,.ref c'])) c' (zFe c' qual)) (h'.push (PySem.W.kla_obj "<lambda>" qual params body scope clos ((X.mg "__name__").getD .none) c' ctv)):=fun b o q=>by
   by_cases z1:b=c'
   ·subst z1;rw [ec2] at q;cases q;obtain ⟨d,oc,vs,t,e3,g,r⟩:=hrec;exact codeO_ok ⟨d,oc,vs,t,e3,qAL _ g,r⟩
   ·by_cases z2:b=P
    ·subst z2;rw [eP2] at q;cases q;exact qAL _ htb
    ·rw [old b z2 z1] at q;refine (I.hok b o q).stay (fun c v hc y=>hk c v (fun z=>?_) y) (fun c y=>?_) fun c xs y=>?_
     ·rcases hc with hc| hc
      ·exact z2 (hc.symm.trans z)
      ·rw [z,e] at hc;cases hc
     ·rw [old c (fun z=>by rw [z,e] at y;cases y) (fun z=>by rw [z,fc] at y;cases y)];exact y
     ·rw [old c (fun z=>by rw [z,e] at y;cases y) (fun z=>by rw [z,fc] at y;cases y)];exact y
  have J:Inv X pins σ (upd (upd H P (.tbl #[rawInt pos.line,rawInt pos.col,.ref c'])) c' (zFe c' qual)) {s with heap:=h'.push (PySem.W.kla_obj "<lambda>" qual params body scope clos ((X.mg "__name__").getD .none) c' ctv),toks:=tk}:=I.call' rfl un hok I.bare fun b z=>nomatch z
  have kp:Kp [P] H (upd (upd H P (.tbl #[rawInt pos.line,rawInt pos.col,.ref c'])) c' (zFe c' qual)):=fun b o q n=>by
   rw [old b (fun z=>n (by simp [z])) (fun z=>by rw [z,fc] at q;cases q)];exact q
  have fs:s.heap.objs.size<=h'.objs.size:=qAY hge (qB4 hlt)
  have ff:upd (upd H P (.tbl #[rawInt pos.line,rawInt pos.col,.ref c'])) c' (zFe c' qual) h'.objs.size=none:=by
   have n1:h'.objs.size≠P:=fun z=>by
    have:=qAN htb;rw [<-z] at this;exact qAx _ this
   rw [old _ n1 (qBB hlt)];exact I.hok.fresh fs
  exact h h'.objs.size c' ctv _ _ _ J kp ⟨c',eP2,ec2⟩ ec2 (qAh _ rfl) (I.fpOk fs ff)
 ·rw [e] at eP
  cases eP
  refine PySem.W.kla_makeFunctionHit (mg:=X.mg) hcl I.ok.glob hgs hcode (C.keeps I.bk) pP trivial (among1 pos c') hB fun ctv h' tk hk hsz=>?_;have J:Inv X pins σ H {s with heap:=h'.push (PySem.W.kla_obj "<lambda>" qual params body scope clos ((X.mg "__name__").getD .none) c' ctv),toks:=tk}:=I.kept fun b o q=>qAL _ (hk b o q);exact h h'.objs.size c' ctv _ _ _ J Kp.refl ⟨c',e,ec⟩ ec (qAh _ rfl) (I.fpOk hsz (I.hok.fresh hsz))
end
section
variable {X:Cx} {pins:List (Addr×Obj)} {σ:St} {H:Hp} {s:Shared}
theorem Inv.adopt {a:Addr} {o':HO} (I:Inv X pins σ H s) (f:FpOk X pins H a) (new:zA7 X.prog X.w (upd H a o') s.heap a o'):Inv X pins σ (upd H a o') s:=by
 obtain ⟨f0,f1,f2,f3,f4,f5⟩:=f;have ne:∀b u,H b=some u->b≠a:=fun b u q z=>by rw [z,f0] at q;cases q
 refine ⟨I.ok,I.os,I.bare,⟨I.base.keep,I.base.slot,fun b o q n x=>?_,I.base.there,fun b xs q=>?_,fun b o v q=>?_,fun b ps q=>?_⟩,I.loc,I.cell,?_,fun x c h=>?_,fun p hp=>?_,fun b o q=>?_,I.len⟩
 ·have:=I.base.free b o q n x
  have nb:b≠a:=fun z=>by
   rcases f3 with y| y
   ·exact x (by rw [z];exact y)
   ·exact absurd (qAp (qAN q) (by rw [z];exact y)) (qAx _)
  rw [upd_ne nb];exact this
 ·have:=I.base.tups b xs q;rw [upd_ne (ne b _ this)];exact this
 ·have:=I.base.frzs b o v q;rw [upd_ne (ne b _ this)];exact this
 ·obtain ⟨more,this⟩:=I.base.tbls b ps q;exact ⟨more,by rw [upd_ne (ne b _ this)];exact this⟩
 ·rw [upd_ne f1.symm];exact I.free
 ·rw [upd_ne (f4 x c h)];exact I.freeC x c h
 ·obtain ⟨h1,h2,h3⟩:=I.pin p hp;exact ⟨h1,by rw [upd_ne (f5 p hp)];exact h2,h3⟩
 ·by_cases z:b=a
  ·subst z;rw [upd_same] at q;cases q;exact new
  ·rw [upd_ne z] at q;refine (I.hok b o q).stay (fun c v _ y=>y) (fun c y=>?_) fun c xs y=>?_
   ·rw [upd_ne (ne c _ y)];exact y
   ·rw [upd_ne (ne c _ y)];exact y
theorem FpOk.nstk {b:Addr} (I:Inv X pins σ H s) (f:FpOk X pins H b):b∉frs X.stack:=fun z=>by
 obtain ⟨f0,f1,f2,_⟩:=f;rcases qAP.mp (I.stkSub b z) with y| y
 ·exact f1 y
 ·exact f2 y
theorem Inv.cellAt {iy:Nat} {y:Str} {c:Addr} {vy:V} (I:Inv X pins σ H s) (hN:X.N[iy]?=some y) (hσ:σ[iy]?=some (some vy)) (hk:X.env.kindOf y=some .cell) (hy:X.env.cells.lookup y=some c):∃u,RelV vy u/\s.heap.IsCell c (some u):=by
 obtain ⟨m,_,l⟩:=I.loc;obtain ⟨u,r,lk⟩:=l iy y vy hN hσ (.inr (.inl hk));rcases lk with ⟨z,_⟩| ⟨_,d,e,ic⟩
 ·rw [hk] at z;cases z
 ·rw [hy] at e;cases e;exact ⟨u,r,ic⟩
theorem zip_strs {g:Str->Int}:∀{vs:List Value} {ks:List Str},StrsAre vs ks->∀p∈(ks.map g).zip vs,∃x t,x∈ks/\p=(g x,.str x t)
 | _,_,.nil,p,hp=>by simp at hp
 | _,_,.cons x t h,p,hp=>by
  rw [qAk,List.zip_cons_cons] at hp;rcases qAP.mp hp with z| z
  ·exact ⟨x,t,qAa,z⟩
  ·obtain ⟨x',t',h1,h2⟩:=zip_strs h p z;exact ⟨x',t',qAT _ h1,h2⟩
end
theorem law_callT {P:Program} {w:World} {K:PySem.W.Frag} {mg mb:Str->Option Value} {CX:CXT} {k:Nat} {fa a:Addr} {fd:FuncData} {x:Str} {sp:Sp} {s₁:Shared} {vs:List Value} {ns:List Int} {tabs:List (Addr×Addr)}
  (KX:K.In s₁.heap) (hns:s₁.heap.Ns mainGlobals mg) (hb:s₁.heap.Ns builtinsNs mb) (hbb:∀x:Str,x≠ "__name__" ->mb x=bootBuiltins x) (hlim:s₁.heap.NoLimit) (hg:s₁.gens=#[]) (hB:zJm mg s₁.heap) (hT:PySem.W.TabsAt tabs s₁.heap) (hKT:∀q∈tabs,K.lookup q.2=none)
  (ha:s₁.heap.get? a=some {cls:=.type "list",data:=.seq vs.toArray}) (hi:IntsAre vs ns) (hl:ns.length<=sizeLine) (hr:Room k callerA)
  (F:∀base:Heap,K.In base->base.Ns mainGlobals mg->zJm mg base->(∀q∈tabs,PySem.W.CodeHd base q.1 q.2)->FnOk P w K mg base CX k fa fd [x] sp) (hbind:∀(s:Shared) (u:Value),BindsTo s fd ⟨[u],[]⟩ [(x,u)])
  (hsp:∀H:Hp,SqL K H a (ns.map V.int)->(∀q∈tabs,H q.2=some (.tbl #[]))->sp [.ref a] H (fun v _=>v= .bl true) fun _ _ _=>False)
  (hCX:∀H e s',CX [] H s₁ (fun _ _ _=>False) e s'->False) :
  codeAny (model P w) callerA (.call (.ref fa) ⟨[.ref a],[]⟩) (fun r s'=>r= .ok (.ret (.bool true))/\OldK s₁.heap s'.heap/\s'.os=s₁.os/\AllBare s'.gens) s₁:=by
 have rv:=vals_ints hi;have lenV:=hi.length
 have naT:∀q∈tabs,q.2≠a:=fun q hq z=>by
  have:=(hT q hq).2;rw [z,ha] at this;cases this
 have core:∀H:Hp,(∀b,H b=none\/(∃o xs,H b=some (.frz o (.lst xs)))\/(H b=some (.tbl #[])/\∃q∈tabs,q.2=b))->SqL K H a (ns.map V.int)->(∀q∈tabs,H q.2=some (.tbl #[]))->HOk P w H s₁.heap->(∀b,H b≠none->b=a\/∃q∈tabs,q.2=b)->(H a≠none->K.lookup a=none) ->
   codeAny (model P w) callerA (.call (.ref fa) ⟨[.ref a],[]⟩) (fun r s'=>r= .ok (.ret (.bool true))/\OldK s₁.heap s'.heap/\s'.os=s₁.os/\AllBare s'.gens) s₁:=by
  intro H hO hS hH hok hA hK;have base_of:∀{b:Addr} {o:Obj},s₁.heap.get? b=some o->H b=none->(hidT s₁.heap H).get? b=some o:=fun e n=>hidT_get e n
  have non:∀{b:Addr} {o:Obj},s₁.heap.get? b=some o->(∀xs n,o.data≠.seq xs n)->(∀ps,o.data≠.fields ps\/o.cls≠.none)->H b=none:=fun {b o} e n1 n2=>by
   cases q:H b with
   | none=>rfl
   | some u =>
    rcases hA b (by rw [q];simp) with z| ⟨r,hr,z⟩
    ·subst z;rw [ha] at e;cases e;exact absurd rfl (n1 _ _)
    ·subst z;rw [(hT r hr).2] at e;cases e;rcases n2 #[] with z| z<;>exact absurd rfl z
  have noA:∀{b:Addr} {o:Obj} {es:Array DictEntry} {ep:Nat},s₁.heap.get? b=some o->o.data= .dict es ep->H b=none:=fun {b o es ep} e d=>non e (fun xs n z=>by rw [d] at z;cases z) fun ps=>.inl fun z=>by rw [d] at z;cases z
  have nsK:∀{b:Addr} {m:Str->Option Value},s₁.heap.Ns b m->(hidT s₁.heap H).Ns b m:=fun {b m} ⟨o,es,ep,e,d,r⟩=>⟨o,es,ep,base_of e (noA e d),d,r⟩
  have hKb:K.In (hidT s₁.heap H):=fun b o e=>base_of (KX b o e) (by
   cases q:H b with
   | none=>rfl
   | some u =>
    rcases hA b (by rw [q];simp) with z| ⟨r,hr,z⟩
    ·subst z;rw [hK (by rw [q];simp)] at e;cases e
    ·subst z;rw [hKT r hr] at e;cases e)
  have hBb:zJm mg (hidT s₁.heap H):=by
   obtain ⟨bm,o,b1,b2,b3,b4,b5,b6⟩:=hB;exact ⟨bm,o,b1,b2,base_of b3 (non b3 (fun xs n z=>by rw [b6] at z;cases z) fun ps=>.inl fun z=>by rw [b6] at z;cases z),b4,b5,b6⟩
  have hCb:∀q∈tabs,PySem.W.CodeHd (hidT s₁.heap H) q.1 q.2:=fun q hq=>by
   obtain ⟨o,vs',file,tf,flags,tg,inF,text,tt,c1,c2,c3,c4⟩:=(hT q hq).1;exact ⟨o,vs',file,tf,flags,tg,inF,text,tt,base_of c1 (non c1 (fun xs n z=>by rw [c3] at z;cases z) fun ps=>.inr fun z=>by rw [c2] at z;cases z),c2,c3,c4⟩
  have hM:Mod K mg (hidT s₁.heap H):=⟨hKb,nsK hns,⟨mb,nsK hb,hbb⟩,let ⟨mc,h1,h2⟩:=hlim;⟨mc,nsK h1,h2⟩⟩;have e0:Env0 P w K mg (hidT s₁.heap H) callerA [] s₁ H:=⟨rfl,hM,fun b o e=>of_hidT e,qB6 (hidT_size _ _),trivial,fun b hb=>absurd (show b∈([]:List Addr) from hb) (by simp),hok,.of_eq hg⟩;refine qB7 ((F _ hKb (nsK hns) hBb hCb).run callerA [] s₁ H ⟨[.ref a],[]⟩ [.ref a] [.ref a] _ _ hr e0 (hbind s₁ (.ref a)) (.cons rfl .nil) (hsp H hS hH)) fun r s' h=>?_
  cases r with
  | error e=>exact (hCX H e s' h).elim
  | ok fl =>
   cases fl with
   | next=>exact False.elim h
   | brk=>exact False.elim h
   | cont=>exact False.elim h
   | ret u =>
    obtain ⟨v,H',os,bare,un,hok',r',q⟩:=h;have q':v= .bl true:=q;subst q';obtain rfl:u=Value.bool true:=r'
    have kept:∀b o,s₁.heap.get? b=some o->(∀r∈tabs,r.2≠b)->s'.heap.get? b=some o:=fun b o e nt=>by
     cases q:H b with
     | none=>exact un.keep b o e q (by intro z;exact absurd (show b∈([]:List Addr) from z) (by simp)) (by simp)
     | some u =>
      rcases hO b with z| ⟨ob,xs,z⟩| ⟨z,r,hr,y⟩
      ·rw [q] at z;cases z
      ·have z2:=un.frzs b ob _ z;obtain ⟨e1,_⟩:=hok b _ z;obtain ⟨e2,_⟩:=hok' b _ z2;rw [e] at e1;cases e1;exact e2
      ·exact absurd y (nt r hr)
    refine ⟨rfl,⟨fun b o e=>?_,fun b o e=>?_⟩,os,bare⟩
    ·by_cases t:∃r∈tabs,r.2=b
     ·obtain ⟨r,hr,rfl⟩:=t;obtain ⟨c1,c2⟩:=hT r hr;rw [c2] at e;cases e;obtain ⟨more,z⟩:=un.tbls _ _ (hH r hr);have z2:s'.heap.get? r.2=some {cls:=.none,data:=.fields (#[]++more)}:=hok' _ _ z;exact .inr (.inl ⟨(c1.tab c2).isCodeTable,rfl,#[],more,rfl,z2⟩)
     ·exact .inl (kept b o e fun r hr z=>t ⟨r,hr,z⟩)
    ·by_cases t:∃r∈tabs,r.2=b
     ·obtain ⟨r,hr,rfl⟩:=t;obtain ⟨more,z⟩:=un.tbls _ _ (hH r hr);exact ⟨_,hok' _ _ z⟩
     ·exact ⟨o,kept b o e fun r hr z=>t ⟨r,hr,z⟩⟩
 have hTb:∀b:Addr,(∃q∈tabs,q.2=b)->s₁.heap.get? b=some (PySem.W.tabObj #[]):=fun b ⟨q,hq,e⟩=>by rw [<-e];exact (hT q hq).2
 open Classical in
 cases hk:K.lookup a with
 | some o =>
  have e:=KX a o hk;rw [ha] at e
  cases e
  refine core (fun b=>if (∃q∈tabs,q.2=b) then some (.tbl #[]) else none) (fun b=>?_) (.inr ⟨_,vs.toArray,_,hk,rfl,rfl,rfl,by rw [qAO,lenV];exact hl,by simpa using rv⟩) (fun q hq=>qAC ⟨q,hq,rfl⟩) (fun b u z=>?_) (fun b z=>?_) fun z=>?_
  ·by_cases t:∃q∈tabs,q.2=b
   ·exact .inr (.inr ⟨qAC t,t⟩)
   ·exact .inl (qAB t)
  ·by_cases t:∃q∈tabs,q.2=b
   ·have z':=(qAC t).symm.trans z
    cases z'
    exact hTb b t
   ·have z':=(qAB t).symm.trans z
    cases z'
  ·by_cases t:∃q∈tabs,q.2=b
   ·exact .inr t
   ·exact absurd (qAB t) z
  ·by_cases t:∃q∈tabs,q.2=a
   ·obtain ⟨q,hq,e⟩:=t;exact absurd e (naT q hq)
   ·exact absurd (qAB t) z
 | none =>
  have nta:¬∃q∈tabs,q.2=a:=fun ⟨q,hq,e⟩=>naT q hq e;refine core (fun b=>if b=a then some (.frz {cls:=.type "list",data:=.seq vs.toArray} (.lst (ns.map V.int))) else if (∃q∈tabs,q.2=b) then some (.tbl #[]) else none) (fun b=>?_) (.inl (.inr ⟨{cls:=.type "list",data:=.seq vs.toArray},qAC rfl⟩)) (fun q hq=>(qAB (naT q hq)).trans (qAC ⟨q,hq,rfl⟩)) (fun b u z=>?_) (fun b z=>?_) fun _=>hk
  ·by_cases hb:b=a
   ·exact .inr (.inl ⟨_,_,qAC hb⟩)
   ·by_cases t:∃q∈tabs,q.2=b
    ·exact .inr (.inr ⟨(qAB hb).trans (qAC t),t⟩)
    ·exact .inl ((qAB hb).trans (qAB t))
  ·by_cases hb:b=a
   ·have z':=(qAC hb).symm.trans z
    cases z'
    subst hb;exact ⟨ha,by rw [qAD];exact hl,vs,_,rv,ha⟩
   ·by_cases t:∃q∈tabs,q.2=b
    ·have z':=((qAB hb).trans (qAC t)).symm.trans z
     cases z'
     exact hTb b t
    ·have z':=((qAB hb).trans (qAB t)).symm.trans z
     cases z'
  ·by_cases hb:b=a
   ·exact .inl hb
   ·by_cases t:∃q∈tabs,q.2=b
    ·exact .inr t
    ·exact absurd ((qAB hb).trans (qAB t)) z
theorem walk_ofT {l:PySem.W.OpenLaw} {n k:Nat} {q:Program} {loose:List Str} {XP:(Str->Option Value)->Heap->Prop} {YP:World->Heap->Prop} {d:DefRec} {K:Params->PySem.W.Frag} {CX:World->CXT} {sp:World->Sp} {x:Str} {tabs:List (Addr×Addr)}
  (hn:l.most=some n) (hn2:n<=sizeLine) (hdf:d.params.defaults=[]) (hr:Room k callerA)
  (hY:∀(w:World) (h:Heap),YP w h->(K w.params).In h) (hT:∀(w:World) (h:Heap),YP w h->PySem.W.TabsAt tabs h) (hKT:∀(w:World),∀q∈tabs,(K w.params).lookup q.2=none)
  (F:∀(w:World) (mg:Str->Option Value) (fa:Addr) (h:Heap),(K w.params).In h->h.Ns mainGlobals mg->mg d.name=some (.ref fa) ->
   ∃fd:FuncData,(∀(s:Shared) (u:Value),BindsTo s fd ⟨[u],[]⟩ [(x,u)]) /\
    ∀base:Heap,(K w.params).In base->base.Ns mainGlobals mg->zJm mg base->(∀q∈tabs,PySem.W.CodeHd base q.1 q.2)->FnOk l.prog w (K w.params) mg base (CX w) k fa fd [x] (sp w))
  (hsp:∀(w:World) (H:Hp) (a:Addr) (ns:List Int),ns.length<=n->SqL (K w.params) H a (ns.map V.int)->(∀q∈tabs,H q.2=some (.tbl #[]))->sp w [.ref a] H (fun v _=>v= .bl true) fun _ _ _=>False)
  (hCX:∀(w:World) (H:Hp) (s:Shared) (e:Value) (s':Shared),CX w [] H s (fun _ _ _=>False) e s'->False) :
  PySem.W.WalkO q loose XP YP l.row.toRowW d [] (fun f vs=>PySem.call f vs):=by
 refine Att.attach_call hn hdf fun w s₀ s₁ mg mb fa o pm cd doc a vs ns G Y ho hd hcd hmg hobj hints hlen hg=>?_;have KX:=hY w _ Y;obtain ⟨fd,hb,hF⟩:=F w mg fa _ KX G.T.g hmg;exact law_callT KX G.T.g G.T.b G.T.builtins G.T.nolimit hg G.T.bmain (hT w _ Y) (hKT w) hobj hints (qAY hlen hn2) hr hF hb (fun H hS hH=>hsp w H a ns hlen hS hH) fun H e s'=>hCX w H s₁ e s'
end L2
namespace RV
open PySem
end RV
namespace L2
open PySem PySem.Spec PyProof.Rows
end L2
local macro_rules| `(tactic| walk_at "lc")=>`(tactic| first| exact Or.inl rfl| exact Or.inr rfl)
local macro_rules| `(tactic| walk_at "nm")=>`(tactic| first| assumption| exact qCm| (refine L2.nm1 ?_;walk_at "ne")| (refine L2.nm2 ?_ ?_<;>walk_at "ne")| (refine L2.nm3 ?_ ?_ ?_<;>walk_at "ne"))
local macro_rules| `(tactic| walk_at "lk")=>`(tactic| first| assumption| exact L2.upd_same| (refine (L2.upd_ne ?_).trans ?_;walk_at "ne";walk_at "lk")| (refine L2.Kp.look (by assumption) ?_ ?_;walk_at "lk";walk_at "nm"))
local macro_rules| `(tactic| walk_at "ne")=>`(tactic| first| assumption| (refine qAu ?_;assumption)| (refine L2.ne_fre (by assumption) ?_;walk_at "lk")| (refine qAu (L2.ne_fre (by assumption) ?_);walk_at "lk"))
local macro_rules| `(tactic| walk_at "bd")=>`(tactic| first| decide| lia| (dsimp only;first| decide| lia))
local macro_rules| `(tactic| walk_at "ml")=>`(tactic| first| exact Or.inr ⟨by decide,by decide⟩| exact Or.inl ⟨by lia,by lia⟩| exact Or.inr ⟨by lia,by lia⟩)
local macro_rules| `(tactic| walk_at "ln")=>`(tactic| first| decide| (have hsz:=PySem.sizeLine_eq;simp only [qAb,qBH,qAD,qAU] at *;lia))
local macro_rules| `(tactic| walk_at "ix")=>`(tactic| first| rfl| assumption| (refine L2.atI_natc ?_;assumption))
local macro_rules| `(tactic| walk_at "vs")=>`(tactic| first| exact Or.inl rfl| exact Or.inr (Or.inl rfl)| exact Or.inr (Or.inr rfl))
local macro_rules| `(tactic| walk_at "vk")=>`(tactic| first| exact Or.inl rfl| exact Or.inr rfl)
local macro_rules| `(tactic| walk_at "vf")=>`(tactic| first| decide +kernel| (simp only [qAP];decide))
namespace My
open PySem L2
variable {P:Program}{w:World}{K:PySem.W.Frag}{mg:Str->Option Value}{base:Heap}{C:Addr}
variable {H H' H0:Hp}{fd:FuncData}{n x y b a:Str}{d l e C j:Addr}{ns:List Str}{α:Type}{i:Nat}{v:V}{qs:List (List Str×Addr)}{X:Cx}{ta:TE}{sp:Sp}
section
variable {X:Cx} {scope sc:Scope} {C:Addr} {s₀:Shared} {H₀:Hp} {ex:List Addr} {N P:List Str} {i:Nat} {x:Str} {e:Expr} {te:TE} {pos pos':Pos} {ix:List (Option Nat)}
theorem psS (hN:X.N.Nodup) (he:PE X e te) (hi:X.N[i]?=some x:=by rfl) (hx:Loc X.env.scope x:=by walk_at "lc") (hs:swapsWith e (some (.Name x pos')) pos.line X.env=pure false:=by rfl) (hf:X.fn x=true\/X.env.scope.names.lookup x=some .local:=by first| exact .inl rfl| exact .inr rfl| assumption):PS X (.Assign [.Name x pos'] e pos) (tAsg te (zH2 i)):=ps_set hN hi hx he hs hf
theorem pgN (hN:X.N.Nodup) (hi:X.N[i]?=some x:=by rfl) (hx:Loc X.env.scope x:=by walk_at "lc") (hf:X.fn x=true\/X.env.scope.names.lookup x=some .local:=by first| exact .inl rfl| exact .inr rfl| assumption):PG X (.Name x pos) (zH2 i):=pg_name hN hi hx hf
theorem pgB (hi:(X.block scope C s₀ H₀ ex N).N[i]?=some x:=by rfl) (hN:N.Nodup:=by decide +kernel) (hx:Loc (X.block scope C s₀ H₀ ex N).env.scope x:=by walk_at "lc") (hf:(X.block scope C s₀ H₀ ex N).fn x=true\/(X.block scope C s₀ H₀ ex N).env.scope.names.lookup x=some .local:=by first| exact .inl rfl| exact .inr rfl| assumption):PG (X.block scope C s₀ H₀ ex N) (.Name x pos) (zH2 i):=pg_name hN hi hx hf
theorem dtk (hN:X.N[i]?=some x) (D:Draws X scope N ix) (hv:Vis X.env.scope x:=by walk_at "vs") (hk:(relabel scope X.env).names.lookup x=some .cell\/(relabel scope X.env).names.lookup x=some .free:=by walk_at "vk") (hf:(x,NameKind.free)∈scope.names:=by walk_at "vf"):Draws X scope (x::N) (some i::ix):=.tk hN hv hk hf D
theorem fnS (a:sc.kind= .function:=by rfl) (b:sc.isCoroutine=false:=by rfl) (c:sc.isGenerator=false:=by rfl) (d:N.Nodup:=by decide +kernel) (e:N.take P.length=P:=by rfl) (f:∀x∈P,sc.names.lookup x=some .local\/sc.names.lookup x=some .cell:=by decide +kernel) (g:∀y∈sc.names,y.2≠.free:=by decide +kernel):FnScope N P sc:=⟨a,b,c,d,e,f,g⟩
end
def top (i:Nat):Stmt:=PySem.Challenge.pw_levelbench_k81_papers_counted.main.body.getD i (.Pass ⟨0,0,0,0⟩)
structure Txt (K:PySem.W.Frag) (mg:Str->Option Value):Prop where
 z_len:mg "len" = none
 z_max:mg "max" = none
 z_range:mg "range" = none
 z_int:mg "int" = none
 z_str:mg "str" = none
 z_list:mg "list" = none
 z_all:mg "all" = none
 z_min:mg "min" = none
 z_dict:mg "dict" = none
 z_bool:mg "bool" = none
 z_abs:mg "abs" = none
 z_reversed:mg "reversed" = none
 z_enumerate:mg "enumerate" = none
 z_any:mg "any" = none
 z_sum:mg "sum" = none
 z_zip:mg "zip" = none
 z_isinstance:mg "isinstance" = none
 z_sorted:mg "sorted" = none
 z_set:mg "set" = none
 z_tuple:mg "tuple" = none
 c_MOST_JOBS:∃t,mg "MOST_JOBS" = some (.int 20 t)
 c_LONGEST_NAME:∃t,mg "LONGEST_NAME" = some (.int 8 t)
section
def zA6 (H:Hp) (p:Addr):Prop:=∃a b:Int,H p=some (.lst [.int a,.int b])/\0<=a/\0<=b/\b<2147483629
theorem zA6.kp {M:List Addr} {p:Addr} (h:zA6 H p) (k:Kp M H H') (n:p∉M):zA6 H' p:=by
 obtain ⟨a,b,e,r⟩:=h;exact ⟨a,b,k p _ e n,r⟩
def zGx:Sp:=fun vs H Q _=>∃(p:Addr) (m:Int),vs=[.ref p,.int m]/\zA6 H p/\1<=m/\m<10^100/\∀(d:Int) (H':Hp),0<=d->d<m->zA6 H' p->Kp [p] H H'->Q (.int d) H'
abbrev s_take:Stmt:=top 46
theorem sc_take:FnScope ["_law_purse_here", "_law_many", "_law_digit"] ["_law_purse_here", "_law_many"] (zAd s_take):=fnS
theorem ok_take {f:Addr} (F:Fun K "_law_take" "_law_take" s_take f fd):FnOk P w K mg base CX0 1 f fd ["_law_purse_here", "_law_many"] zGx:=by
 refine F.ok sc_take (fun vs H Q E h=>?_) (fun cdv A outer s H vs Q E hr h=>?_)
 ·obtain ⟨p,m,rfl,_⟩:=h;rfl
 ·obtain ⟨p,m,rfl,⟨a,b,hp,ha,hb,hb'⟩,hm,hm',k⟩:=h
  refine ⟨_,(zAc (zA9 (zAj op_gt (zAy zBb (pv 0) zAf (fun _ _=>rfl)) zAf (zAl _))
    (zAc (psS (i:=2) sc_take.nd (zAp zE3 (zAy zBb (pv 0) zAf (fun _ _=>rfl)) (pv 1)))
    (zAc (ps_asg (zAp zE4 (zAy zBb (pv 0) zAf (fun _ _=>rfl)) (pv 1)) (pg_sub (pv 0) zAf set_list))
    (zAe (zAk (pv 2)))))
    zAn)
   (zAc (ps_asg (zAp zE3 (zAp zBj (zAp zE2 (zAy zBb (pv 0) zAf (fun _ _=>rfl)) zAf) zAf) zAf) (pg_sub (pv 0) zAf set_list))
   (zAe (zAk (zAp zE3 (zAp zI3 (zAp zE3 (zAp zE2 (zAy zBb (pv 0) zAf (fun _ _=>rfl)) (zAy zBb (pv 0) zAf (fun _ _=>rfl))) zAf) zAf) (pv 1)))))),?_⟩
  refine ⟨_,rfl,_,_,_,_,rfl,rfl,SqL.of (by walk_at "lk"),(by walk_at "ix"),_,_,rfl,rfl,_,rfl,?_⟩;refine ite2 (fun c=>?_) (fun c=>?_)
  ·have c':0<a:=by simpa using c
   refine ⟨_,rfl,_,_,_,_,rfl,rfl,SqL.of (by walk_at "lk"),(by walk_at "ix"),_,rfl,_,_,rfl,rfl,(by walk_at "bd"),?_⟩;refine ⟨_,rfl,_,_,_,_,rfl,rfl,SqL.of (by walk_at "lk"),(by walk_at "ix"),_,rfl,_,_,rfl,rfl,⟨by walk_at "bd",hm'⟩,_,rfl,_,_,_,_,rfl,rfl,(by walk_at "lk"),(by walk_at "ix"),?_⟩;refine ⟨_,rfl,?_⟩;refine k _ _ (qCM _ (by lia)) (qCN _ (by lia)) ⟨a / m,b,upd_same,Int.ediv_nonneg ha (by lia),hb,hb'⟩ (Kp.put Kp.refl (by simp))
  ·refine ⟨_,rfl,_,_,_,_,rfl,rfl,SqL.of (by walk_at "lk"),(by walk_at "ix"),_,_,rfl,rfl,(by walk_at "ml"),_,_,rfl,rfl,_,_,rfl,rfl,(by walk_at "bd"),_,rfl,_,_,_,_,rfl,rfl,(by walk_at "lk"),(by walk_at "ix"),?_⟩;have h1:=qCM (b*39373+7919) (show (2147483629:Int)≠0 by decide);have h2:=qCN (b*39373+7919) (show (0:Int)<2147483629 by decide);refine ⟨_,rfl,_,_,_,_,rfl,rfl,SqL.of (by walk_at "lk"),(by walk_at "ix"),_,rfl,_,_,_,_,rfl,rfl,SqL.of (by walk_at "lk"),(by walk_at "ix"),_,_,rfl,rfl,(by walk_at "ml"),_,_,rfl,rfl,(by walk_at "bd"),_,_,rfl,rfl,⟨by walk_at "bd",by walk_at "bd"⟩,_,rfl,_,_,rfl,rfl,(by walk_at "bd"),?_⟩;refine k _ _ (qCM _ (by lia)) (qCN _ (by lia)) ⟨a,_,upd_same,ha,h1,h2⟩ (Kp.put Kp.refl (by simp))
def spPurse:Sp:=fun vs H Q _=>∃(c k:Int),vs=[.int c,.int k]/\-(2^31)<k/\k<2^31/\∀(p:Addr) (H':Hp),Fre H p->zA6 H' p->Kp [] H H'->Q (.ref p) H'
abbrev s_purse:Stmt:=top 45
theorem sc_purse:FnScope ["_law_cell_here", "_law_k", "_law_number"] ["_law_cell_here", "_law_k"] (zAd s_purse):=fnS
theorem ok_purse {f:Addr} (F:Fun K "_law_purse" "_law_purse" s_purse f fd) (T:Txt K mg):FnOk P w K mg base CX0 1 f fd ["_law_cell_here", "_law_k"] spPurse:=by
 refine F.ok sc_purse (fun vs H Q E h=>?_) (fun cdv A outer s H vs Q E hr h=>?_)
 ·obtain ⟨p,m,rfl,_⟩:=h;rfl
 ·obtain ⟨c,n,rfl,hn,hn',k⟩:=h
  refine ⟨_,(zAc (psS (i:=2) sc_purse.nd (zAp zE3 (zAp zBj (zAp zBj (zAp zE2 (zAp zE3 (pv 0) zAf) zAf) (zAp zE2 (zAp zE2 (pv 1) (pv 1)) zAf)) zAf) zAf))
   (zAe (zAk (zBe (zAa (zAi (call_max2 rfl) (by rfl) T.z_max bo_max (zAa zAf (zAa (zAp zD1 (pv 0) (zAp op_pow zAf zAf)) zAb))) (zAa (zAp zE3 (zAp zE2 (pv 2) (pv 2)) zAf) zAb)))))),?_⟩
  refine ⟨_,rfl,_,_,rfl,rfl,(by walk_at "bd"),_,_,rfl,rfl,(by walk_at "ml"),_,rfl,_,rfl,_,_,rfl,rfl,(by walk_at "ml"),_,_,rfl,rfl,(by walk_at "ml"),_,_,rfl,rfl,_,_,rfl,rfl,_,_,rfl,rfl,(by walk_at "bd"),?_⟩;generalize c % 2147483629*48271+n*n*69623+11=y;have h1:=qCM y (show (2147483647:Int)≠0 by decide);have h2:=qCN y (show (0:Int)<2147483647 by decide);refine ⟨_,rfl,_,_,rfl,rfl,⟨by decide,by decide,by decide⟩,_,_,rfl,rfl,_,_,rfl,_,rfl,_,rfl,_,_,rfl,rfl,(by walk_at "ml"),_,_,rfl,rfl,(by walk_at "bd"),(by walk_at "ln"),fun p hp=>?_⟩;refine k p _ hp ⟨_,_,upd_same,?_,qCM _ (by decide),qCN _ (by decide)⟩ (Kp.new Kp.refl hp);split<;>lia
def spCell (K:PySem.W.Frag):Sp:=fun vs H Q _=>∃(a:Addr) (ns:List Int) (k:Int),vs=[.ref a,.int k]/\SqL K H a (ns.map V.int)/\0<=k/\∀c:Int,Q (.int c) H
abbrev s_cell:Stmt:=top 44
theorem sc_cell:FnScope ["_law_script", "_law_k"] ["_law_script", "_law_k"] (zAd s_cell):=fnS
theorem ok_cell {f:Addr} (F:Fun K "_law_cell" "_law_cell" s_cell f fd) (T:Txt K mg):FnOk P w K mg base CX0 1 f fd ["_law_script", "_law_k"] (spCell K):=by
 refine F.ok sc_cell (fun vs H Q E h=>?_) (fun cdv A outer s H vs Q E hr h=>?_)
 ·obtain ⟨p,m,n,rfl,_⟩:=h;rfl
 ·obtain ⟨a,ns,n,rfl,hS,hn,k⟩:=h;refine ⟨_,(zAe (zAk (pe_ifExp (zAj op_lt (pv 1) (zAi zAm (by rfl) T.z_len zBt (zAa (pv 0) zAb)) (zAl _)) (zAy zBb (pv 0) (pv 1) (fun _ _=>rfl)) zAf))),?_⟩;refine ⟨_,rfl,_,rfl,_,_,rfl,.inl hS,_,_,rfl,rfl,_,rfl,?_⟩;refine ite2 (fun c=>?_) (fun c=>?_)
  ·have c':n<ns.length:=by simpa using c
   have hx:(ns.map V.int)[n.toNat]?=some (V.int (ns[n.toNat]'(by lia))):=by simp
   refine ⟨_,rfl,_,rfl,_,_,_,_,rfl,rfl,hS,zFi hn hx,k _⟩
  ·exact k _
end
def zH3 (s:Str):Prop:=1<=s.length/\s.length<=8/\∀c∈s.cps.toList,97<=c/\c<=122
def WordS (n:Nat) (s:Str):Prop:=s.length=n/\∀c∈s.cps.toList,97<=c/\c<=122
theorem len_app (a b:Str):(a++b).length=a.length+b.length:=by
 show (a++b).cps.size=_;rw [Str.cps_append,Array.size_append];rfl
theorem WordS.more {n:Nat} {s:Str} (h:WordS n s) {c:Nat} (h1:97<=c) (h2:c<=122):WordS (n+1) (s++⟨#[c]⟩):=by
 refine ⟨by rw [len_app,h.1];rfl,fun x hx=>?_⟩;rw [Str.cps_append,qAm] at hx;rcases qAK.mp hx with z| z
 ·exact h.2 x z
 ·have:x=c:=by simpa using z
  lia
def zD4:Str:= "abcdefghijklmnopqrstuvwxyz"
theorem zD3:zD4.cps.toList=(List.range 26).map (97+·):=by decide +kernel
theorem letters_at {d:Int} (h0:0<=d) (h1:d<26):atI zD4.cps.toList d=some (97+d.toNat):=by
 refine zFi h0 ?_;have:d.toNat<26:=by lia
 rw [zD3,qAX,List.getElem?_range this];rfl
theorem zEp (a c:Nat):(!(decide (([c]:List Nat)<[a])))=decide (a<=c):=by
 have:(([c]:List Nat)<[a])↔c<a:=by
  constructor
  ·intro h
   cases h with
   | rel h=>exact h
   | cons h=>cases h
  ·intro h;exact List.Lex.rel h
 by_cases h:c<a
 ·rw [qAf (this.mpr h),qAe (by lia)];rfl
 ·rw [qAe (fun z=>h (this.mp z)),qAf (by lia)];rfl
section
def zI8 (s:Str):Bool:=decide (1<=s.length)&&decide (s.length<=8)&&s.cps.toList.all fun c=>decide (97<=c)&&decide (c<=122)
theorem nameB_iff (s:Str):zI8 s=true↔zH3 s:=by
 unfold zI8 zH3;simp only [qCX,qCP,qBv];exact ⟨fun ⟨⟨a,b⟩,c⟩=>⟨a,b,c⟩,fun ⟨a,b,c⟩=>⟨⟨a,b⟩,c⟩⟩
def spIsName:Sp:=fun vs H Q _=>∃(x:Str),vs=[.str x]/\x.length<=1000000/\∀H',Kp [] H H'->Q (.bl (zI8 x)) H'
abbrev zEx:Stmt:=top 18
theorem sc_is_name:FnScope ["thing"] ["thing"] (zAd zEx):=fnS
theorem ok_is_name {f:Addr} (F:Fun K "is_name" "is_name" zEx f fd) (T:Txt K mg):FnOk P w K mg base CX0 1 f fd ["thing"] spIsName:=by
 refine F.ok sc_is_name (fun vs H Q E h=>?_) (fun cdv A outer s H vs Q E hr h=>?_)
 ·obtain ⟨x,rfl,_⟩:=h;rfl
 ·obtain ⟨x,rfl,hx,k⟩:=h;obtain ⟨tL,hL⟩:=T.c_LONGEST_NAME
  refine ⟨_,(zAc (zA9 (PW.pt (pw_or (zCf (zCo (zAi zCa (by rfl) T.z_isinstance zAr (zAa (pv 0) (zAa (zC2 (by rfl) T.z_str bo_str (v:=.ty "str") rfl) zAb))))) (zH9 (zCf (pt_chain op_le op_le zAf (zAi call_len_str (by rfl) T.z_len zBt (zAa (pv 0) zAb)) (pe_glob rfl hL (v:=.int 8) ⟨_,rfl⟩))))))
    (zAe (zAk pe_bl))
    zAn)
   (zAe (zAk (zAi (zGs _ rfl) (by rfl) T.z_all bo_all (zAa (zA3 rfl (zA4 (sc:=zAd zEx) rfl (by decide +kernel)) (Draws.own (x:= "sign") Draws.nil) (pi_str (pv 0)) (fun _ _ _ _=>(pgB (i:=0))) (fun _ _ _ _=>zB4) (fun _ _ _ _=>(pe_chain op_le_str op_le_str zB1 (pv 0) zB1))) zAb))))),?_⟩
  refine ⟨_,rfl,_,_,_,_,rfl,TyOf.str x,zCx,_,rfl,iteF ?_⟩;refine ⟨_,rfl,_,rfl,?_,_,_,rfl,rfl,_,rfl,?_⟩
  ·rw [qAJ];lia
  refine ite2 (fun c=>?_) (fun c=>?_)
  ·have c1:1<=x.length:=by
    have:=qBY c;lia
   refine ⟨_,_,rfl,rfl,_,rfl,?_⟩;refine ite2 (fun c=>?_) (fun c=>?_)
   ·-- too long
    have c2:¬(x.length<=8):=fun z=>by
     have:decide ((x.length:Int)<=8)=true:=qAf (by lia);rw [this] at c;cases c
    have e:zI8 x=false:=by
     unfold zI8;rw [qAe c2];simp
    rw [<-e];exact k H Kp.refl
   ·have c2:x.length<=8:=by
     by_cases z:(x.length:Int)<=8
     ·lia
     ·rw [qAe z] at c;exact absurd rfl c
    refine ⟨_,rfl,_,rfl,fun D hD=>comp_str0 (z:=x) (fun i ys τ H'=>(∃o0,τ=[o0])/\ys=((x.cps.toList.take i).map fun c=>V.bl (decide (97<=c)&&decide (c<=122)))/\H'=upd H D (.lst ys)) ⟨⟨_,rfl⟩,rfl,rfl⟩ ?_ ?_⟩
    ·rintro i c ys τ H' hc ⟨⟨o0,rfl⟩,rfl,rfl⟩;have ei:x.cps.toList.take (i+1)=x.cps.toList.take i++[c]:=by rw [qCH,hc];rfl
     have hi:i<x.cps.toList.length:=(qAV.mp hc).1;have hlen:x.cps.toList.length=x.length:=by simp [Str.length]
     have fin:∀b:Bool,b=(decide (97<=c)&&decide (c<=122))->(upd H D (.lst ((x.cps.toList.take i).map fun c=>V.bl (decide (97<=c)&&decide (c<=122))))) D=some (.lst ((x.cps.toList.take i).map fun c=>V.bl (decide (97<=c)&&decide (c<=122))))/\((x.cps.toList.take i).map fun c=>V.bl (decide (97<=c)&&decide (c<=122))).length<sizeLine /\
       ((∃o0,([some (V.str ⟨#[c]⟩)]:St)=[o0])/\((x.cps.toList.take i).map fun c=>V.bl (decide (97<=c)&&decide (c<=122)))++[V.bl b]=((x.cps.toList.take (i+1)).map fun c=>V.bl (decide (97<=c)&&decide (c<=122))) /\
       upd (upd H D (.lst ((x.cps.toList.take i).map fun c=>V.bl (decide (97<=c)&&decide (c<=122))))) D (.lst (((x.cps.toList.take i).map fun c=>V.bl (decide (97<=c)&&decide (c<=122)))++[V.bl b]))=upd H D (.lst (((x.cps.toList.take i).map fun c=>V.bl (decide (97<=c)&&decide (c<=122)))++[V.bl b]))):=fun b hb=>by
      refine ⟨upd_same,?_,⟨_,rfl⟩,?_,zBh⟩
      ·rw [qAD,qAW,qAJ];lia
      ·rw [ei,qAQ,hb];rfl
     refine ⟨_,rfl,_,_,rfl,rfl,_,rfl,?_⟩;refine ite2 (fun c1=>?_) (fun c1=>?_)
     ·refine ⟨_,_,rfl,rfl,fin _ ?_⟩;have c1:(!(decide (([c]:List Nat)<[97])))=true:=c1;rw [zEp] at c1;show (!(decide (([122]:List Nat)<[c])))=_;rw [zEp,c1];rfl
     ·refine fin _ ?_;have c1:¬(!(decide (([c]:List Nat)<[97])))=true:=c1;rw [zEp] at c1;rw [Bool.not_eq_true] at c1;rw [c1];rfl
    ·rintro ys τ H' ⟨⟨o0,rfl⟩,rfl,rfl⟩;have hlen:x.cps.toList.take x.length=x.cps.toList:=qBD (by simp [Str.length]);refine ⟨D,x.cps.toList.map (fun c=>decide (97<=c)&&decide (c<=122)),rfl,SqL.of ?_,?_⟩
     ·rw [upd_same,hlen,qA4];rfl
     ·have e:((x.cps.toList.map (fun c=>decide (97<=c)&&decide (c<=122))).all id)=zI8 x:=by
       unfold zI8;rw [qAf c1,qAf c2,qDK];rfl
      rw [e];exact k _ (Kp.new Kp.refl hD)
  ·-- empty
   have c1:¬(1<=x.length):=fun z=>c (qAf (by lia));refine ⟨_,rfl,?_⟩;refine iteT ?_
   have e:zI8 x=false:=by
    unfold zI8;rw [qAe c1];simp
   rw [<-e];exact k H Kp.refl
end
abbrev Txs (H:Hp) (l:Addr) (ns:List Str):Prop:=H l=some (.lst (ns.map V.str))
structure Ords (H:Hp) (l:Addr) (qs:List (List Str×Addr)):Prop where
 top:H l=some (.lst (qs.map fun q=>V.ref q.2))
 row:∀q∈qs,H q.2=some (.tup (q.1.map V.str))
 two:∀q∈qs,∃a b,q.1=[a,b]
theorem zJe (x:Str) (ns:List Str):inV (.str x) (ns.map V.str)=decide (x∈ns):=by
 unfold inV
 induction ns with
 | nil=>rfl
 | cons n r ih =>
  rw [qAk,qCB,ih];show ((n==x)||_)=_
  by_cases e:n=x
  ·subst e;simp
  ·have e':¬x=n:=fun z=>e z.symm;rw [qBE.mpr e];simp [e']
theorem zFc (ns:List Str):(ns.map V.str).all zFw=true:=by simp [zFw]
section
def zGy:Sp:=fun vs H Q _=>∃(x:Str) (l:Addr) (ns:List Str),vs=[.str x,.ref l]/\Txs H l ns/\Q (.bl (decide (x∈ns))) H
abbrev zDi:Stmt:=top 19
theorem zF0:FnScope ["thing", "names"] ["thing", "names"] (zAd zDi):=fnS
theorem ok_is_one_of {f:Addr} (F:Fun K "is_one_of" "is_one_of" zDi f fd) (T:Txt K mg):FnOk P w K mg base CX0 1 f fd ["thing", "names"] zGy:=by
 refine F.ok zF0 (fun vs H Q E h=>?_) (fun cdv A outer s H vs Q E hr h=>?_)
 ·obtain ⟨x,l,ns,rfl,_⟩:=h;rfl
 ·obtain ⟨x,l,ns,rfl,hl,k⟩:=h;refine ⟨_,(zAe (zAk (zIb (zAi zCa (by rfl) T.z_isinstance zAr (zAa (pv 0) (zAa (zC2 (by rfl) T.z_str bo_str (v:=.ty "str") rfl) zAb))) (zG6 (zBz zG7 (pv 0) (pv 1) (by rfl)))))),?_⟩;refine ⟨_,rfl,_,_,_,_,rfl,TyOf.str x,zCx,_,rfl,iteT ?_⟩;refine ⟨_,rfl,_,rfl,_,_,rfl,.inl (SqL.of hl),rfl,zFc ns,?_⟩;rw [zJe];exact k
def zEa:Sp:=fun vs H Q _=>∃(x:Str) (l:Addr) (ns:List Str),vs=[.ref l,.str x]/\Txs H l ns/\x∈ns/\Q .non H
abbrev zEn:Stmt:=top 36
theorem sc_check_job:FnScope ["names", "thing"] ["names", "thing"] (zAd zEn):=fnS
theorem ok_check_job {f:Addr} (F:Fun K "check_job" "check_job" zEn f fd) (T:Txt K mg) (C_is_one_of:Cal P w K mg base "is_one_of" 1 ["thing", "names"] zGy):FnOk P w K mg base CX0 2 f fd ["names", "thing"] zEa:=by
 refine F.ok sc_check_job (fun vs H Q E h=>?_) (fun cdv A outer s H vs Q E hr h=>?_)
 ·obtain ⟨x,l,ns,rfl,_⟩:=h;rfl
 ·obtain ⟨x,l,ns,rfl,hl,hx,k⟩:=h;have HR_is_one_of:=hr
  refine ⟨_,(zAe (zA9 (zCf (zCo (zAg C_is_one_of HR_is_one_of rfl (zAa (pv 1) (zAa (pv 0) zAb)))))
    (zAe zBp)
    zAn)),?_⟩
  refine ⟨_,rfl,_,rfl,x,l,ns,rfl,hl,?_⟩;rw [qAf hx];exact ⟨_,rfl,iteF k⟩
end
abbrev dT1 (ns:List Str) (g:Str->V):List (Key×V):=ns.map fun n=>(Sum.inr n,g n)
theorem zBr (g:Str->V) (x:Str):∀ns:List Str,valV (dT1 ns g) (.inr x)=if x∈ns then some (g x) else none
 | []=>rfl
 | n::r=>by
  by_cases e:n=x
  ·subst e;have h1:valV (dT1 (n::r) g) (.inr n)=some (g n):=zGe rfl;rw [h1];simp
  ·have h1:valV (dT1 (n::r) g) (.inr x)=valV (dT1 r g) (.inr x):=zGf fun z=>e (Sum.inr.inj z);rw [h1,zBr g x r];have e':¬x=n:=fun z=>e z.symm;simp [e']
theorem zC1 {g:Str->V} (v:V) (h:x∉ns):putK (dT1 ns g) (.inr x) v=dT1 ns g++[(.inr x,v)]:=putK_new v (by rw [zBr];simp [h])
theorem zAh {xs:List α} {x:α} (h:xs[i]?=some x):xs.take (i+1)=xs.take i++[x]:=by rw [qCH,h];rfl
theorem zAw (h:(ns.map V.str)[i]?=some v):∃n,ns[i]?=some n/\v= .str n:=by
 rw [qAX] at h;obtain ⟨n,e,r⟩:=qBC.mp h;exact ⟨n,e,r.symm⟩
theorem zCw {xs:List α} (h:xs.Nodup) {x:α} (e:xs[i]?=some x):x∉xs.take i:=fun z=>by
 obtain ⟨hi,rfl⟩:=qAV.mp e;obtain ⟨j,hj,e2⟩:=qAt.mp z;rw [qAW] at hj;rw [List.getElem_take] at e2;have:=(List.getElem_inj h).mp e2;lia
section
def zFz:Sp:=fun vs H Q _=>∃(l:Addr) (ns:List Str),vs=[.ref l]/\Txs H l ns/\ns.length<=20/\(∀n∈ns,zH3 n)/\ns.Nodup/\∀H',Kp [] H H'->Q .non H'
abbrev zDk:Stmt:=top 34
theorem zB7:FnScope ["names", "thing", "seen", "name"] ["names"] (zAd zDk):=fnS
theorem zHw {f:Addr} (F:Fun K "check_names" "check_names" zDk f fd) (T:Txt K mg) (C_is_name:Cal P w K mg base "is_name" 1 ["thing"] spIsName):FnOk P w K mg base CX0 2 f fd ["names"] zFz:=by
 refine F.ok zB7 (fun vs H Q E h=>?_) (fun cdv A outer s H vs Q E hr h=>?_)
 ·obtain ⟨l,ns,rfl,_⟩:=h;rfl
 ·obtain ⟨l,ns,rfl,hl,hn,hN,hD,k⟩:=h;have HR_is_name:=hr;have hu:=zD6 hr;obtain ⟨tM,hM⟩:=T.c_MOST_JOBS
  refine ⟨_,(zAc (zA9 (zAj op_gt (zAi zAm (by rfl) T.z_len zBt (zAa (pv 0) zAb)) (pe_glob rfl hM (v:=.int 20) ⟨_,rfl⟩) (zAl _))
    (zAe zBp)
    zAn)
   (zAc (zA8 qAi rfl (zAo (pv 0)) (pgN (i:=1) zB7.nd)
    (zAe (zA9 (zCf (zCo (zAg C_is_name HR_is_name rfl (zAa (pv 1) zAb))))
     (zAe zBp)
     zAn)))
   (zAc (psS (i:=2) zB7.nd zBw)
   (zAe (zA8 qAi rfl (zAo (pv 0)) (pgN (i:=3) zB7.nd)
    (zAc (zA9 (zD0 (zIc hu (pv 3) (pv 2)))
     (zAe zBp)
     zAn)
    (zAe (zCd hu (pv 2) (pv 3) pe_bl rfl)))))))),?_⟩
  refine ⟨_,rfl,_,_,rfl,.inl (SqL.of hl),_,_,rfl,rfl,_,rfl,?_⟩;rw [qAe (by rw [qAD];lia)];refine iteF ?_;refine ⟨_,rfl,_,rfl,⟨_,SqL.of hl⟩,zA5 (fun i σ H2=>(∃o1 o2 o3:Option V,σ=[some (.ref l),o1,o2,o3])/\Kp [] H H2) ⟨⟨_,_,_,rfl⟩,Kp.refl⟩ (fun i σ H2 _ ⟨_,k2⟩=>SqL.of (k2 l _ hl (by simp))) ?_ ?_⟩
  ·rintro i v σ H2 hv ⟨⟨o1,o2,o3,rfl⟩,k2⟩;obtain ⟨n,en,rfl⟩:=zAw hv;have nn:=hN n (qAI en);refine ⟨_,rfl,n,rfl,by have:=nn.2.1;lia,fun H3 k3=>?_⟩;rw [(nameB_iff n).mpr nn];exact ⟨_,rfl,iteF ⟨⟨_,_,_,rfl⟩,k2.trans k3⟩⟩
  ·rintro σ H2 ⟨⟨o1,o2,o3,rfl⟩,k2⟩;have hl2:Txs H2 l ns:=k2 l _ hl (by simp);refine fun d hd=>?_;have fd:Fre H2 d:=hd;have fdH:Fre H d:=k2.fre fd (by simp);refine ⟨_,rfl,_,rfl,⟨_,SqL.of ((Kp.new (M:=[]) Kp.refl fd) l _ hl2 (by simp))⟩,zA5 (fun i σ H3=>(∃o1 o3:Option V,σ=[some (.ref l),o1,some (.ref d),o3])/\Kp [] H H3/\H3 d=some (.dK (dT1 (ns.take i) fun _=>.bl true))) ⟨⟨_,_,rfl⟩,Kp.new k2 fdH,upd_same⟩ (fun i σ H3 _ ⟨_,k3,_⟩=>SqL.of (k3 l _ hl (by simp))) ?_ ?_⟩
   ·rintro i v σ H3 hv ⟨⟨o1,o3,rfl⟩,k3,h3⟩;obtain ⟨n,en,rfl⟩:=zAw hv;have ni:=zCw hD en;refine ⟨_,rfl,_,rfl,_,_,rfl,DGet.k (k:=Sum.inr n) h3,_,rfl,?_⟩;rw [zBr,qAB ni];refine iteF ?_;refine ⟨_,rfl,_,rfl,_,_,rfl,DPut.k (k:=Sum.inr n) h3 ?_,?_⟩
    ·rw [qAD,qAW,qAJ];lia
    ·refine ⟨⟨_,_,rfl⟩,Kp.new k3 fdH,?_⟩;rw [upd_same,zC1 _ ni,zAh en];unfold dT1;rw [qAQ];rfl
   ·rintro σ H3 ⟨⟨o1,o3,rfl⟩,k3,h3⟩;exact k H3 k3
end
theorem zG5 (h:(qs.map fun q=>V.ref q.2)[i]?=some v):∃q,qs[i]?=some q/\v= .ref q.2:=by
 rw [qAX] at h;obtain ⟨n,e,r⟩:=qBC.mp h;exact ⟨n,e,r.symm⟩
theorem Ords.kp {M:List Addr} (o:Ords H l qs) (k:Kp M H H') (h1:l∉M) (h2:∀q∈qs,q.2∉M):Ords H' l qs:=⟨k l _ o.top h1,fun q hq=>k _ _ (o.row q hq) (h2 q hq),o.two⟩
section
def zFy:Sp:=fun vs H Q _=>∃(l m:Addr) (ns:List Str) (qs:List (List Str×Addr)),vs=[.ref l,.ref m]/\Txs H l ns/\Ords H m qs/\(∀q∈qs,∀x∈q.1,x∈ns)/\Q .non H
abbrev zDj:Stmt:=top 35
theorem zCz:FnScope ["names", "orders", "order", "part"] ["names", "orders"] (zAd zDj):=fnS
theorem zHv {f:Addr} (F:Fun K "check_parts" "check_parts" zDj f fd) (T:Txt K mg) (C_check_job:Cal P w K mg base "check_job" 2 ["names", "thing"] zEa):FnOk P w K mg base CX0 3 f fd ["names", "orders"] zFy:=by
 refine F.ok zCz (fun vs H Q E h=>?_) (fun cdv A outer s H vs Q E hr h=>?_)
 ·obtain ⟨l,m,ns,qs,rfl,_⟩:=h;rfl
 ·obtain ⟨l,m,ns,qs,rfl,hl,hm,hq,k⟩:=h;have HR_check_job:=hr
  refine ⟨_,(zAe (zA8 qAi rfl (zAo (pv 1)) (pgN (i:=2) zCz.nd)
    (zAe (zA8 qAi rfl (pi_tup (pv 2)) (pgN (i:=3) zCz.nd)
     (zAe (zA2 (zAg C_check_job HR_check_job rfl (zAa (pv 0) (zAa (pv 3) zAb))))))))),?_⟩
  refine ⟨_,rfl,_,rfl,⟨_,SqL.of hm.top⟩,zA5 (fun i σ H2=>(∃o2 o3:Option V,σ=[some (.ref l),some (.ref m),o2,o3])/\H2=H) ⟨⟨_,_,rfl⟩,rfl⟩ (fun i σ H2 _ ⟨_,e⟩=>by subst e;exact SqL.of hm.top) ?_ ?_⟩
  ·rintro i v σ H2 hv ⟨⟨o2,o3,rfl⟩,rfl⟩;obtain ⟨q,eq,rfl⟩:=zG5 hv;have mq:=qAI eq;refine ⟨_,rfl,_,rfl,⟨_,.inl (.inl (hm.row q mq))⟩,for_tup (fun j σ H3=>(∃o3:Option V,σ=[some (.ref l),some (.ref m),some (.ref q.2),o3])/\H3=H2) ⟨⟨_,rfl⟩,rfl⟩ (fun j σ H3 _ ⟨_,e⟩=>by subst e;exact .inl (.inl (hm.row q mq))) ?_ ?_⟩
   ·rintro j v σ H3 hv ⟨⟨o3,rfl⟩,rfl⟩;obtain ⟨x,ex,rfl⟩:=zAw hv;exact ⟨_,rfl,_,rfl,x,l,ns,rfl,hl,hq q mq x (qAI ex),⟨_,rfl⟩,rfl⟩
   ·rintro σ H3 ⟨⟨o3,rfl⟩,rfl⟩;exact ⟨⟨_,_,rfl⟩,rfl⟩
  ·rintro σ H2 ⟨⟨o2,o3,rfl⟩,rfl⟩;exact k
end
def fst (q:List Str×Addr):Str:=q.1.getD 0 Str.empty
def snd (q:List Str×Addr):Str:=q.1.getD 1 Str.empty
def told (qs:List (List Str×Addr)) (n:Str):List Str:=(qs.filter fun q=>decide (snd q=n)).map fst
theorem told_snoc (qs:List (List Str×Addr)) (q:List Str×Addr) (n:Str):told (qs++[q]) n=if snd q=n then told qs n++[fst q] else told qs n:=by
 unfold told;rw [qB1]
 by_cases e:snd q=n
 ·rw [qAC e];simp [e]
 ·rw [qAB e];simp [e]
theorem told_len (qs:List (List Str×Addr)) (n:Str):(told qs n).length<=qs.length:=by
 unfold told;rw [qAD];exact qBZ _ _
structure DL (H0 H:Hp) (d:Addr) (ns:List Str) (la:Str->Addr) (f:Str->List Str):Prop where
 top:H d=some (.dK (dT1 ns fun n=>.ref (la n)))
 row:∀n∈ns,Txs H (la n) (f n)
 ne:∀n∈ns,la n≠d
 inj:∀n∈ns,∀m∈ns,la n=la m->n=m
 fr:Fre H0 d
 frs:∀n∈ns,Fre H0 (la n)
theorem zFd {g g':Str->V} (h:∀n∈ns,g n=g' n):dT1 ns g=dT1 ns g':=qDH fun n hn=>by rw [h n hn]
section
def zGw:Sp:=fun vs H Q _=>∃(l m:Addr) (ns:List Str) (qs:List (List Str×Addr)),vs=[.ref l,.ref m]/\Txs H l ns/\Ords H m qs/\ns.Nodup/\ns.length<=20/\qs.length<=4096/\(∀q∈qs,∀x∈q.1,x∈ns) /\
 ∀d la H',DL H H' d ns la (told qs)->Kp [] H H'->Q (.ref d) H'
abbrev zDy:Stmt:=top 37
theorem zB2:FnScope ["names", "orders", "told", "name", "one", "other"] ["names", "orders"] (zAd zDy):=fnS
theorem zI4 {f:Addr} (F:Fun K "told_ahead" "told_ahead" zDy f fd):FnOk P w K mg base CX0 1 f fd ["names", "orders"] zGw:=by
 refine F.ok zB2 (fun vs H Q E h=>?_) (fun cdv A outer s H vs Q E hr h=>?_)
 ·obtain ⟨l,m,ns,qs,rfl,_⟩:=h;rfl
 ·obtain ⟨l,m,ns,qs,rfl,hl,hm,hN,hn,hz,hq,k⟩:=h;have hu:=zD6 hr
  refine ⟨_,(zAc (psS (i:=2) zB2.nd zBw)
   (zAc (zA8 qAi rfl (zAo (pv 0)) (pgN (i:=3) zB2.nd)
    (zAe (zCd hu (pv 2) (pv 3) (zBe zAb) rfl)))
   (zAc (zA8 qAi rfl (zAo (pv 1)) (pg_tup rfl (zBd (pgN (i:=4) zB2.nd) (zBd (pgN (i:=5) zB2.nd) zEo)))
    (zAe (zA2 (zGb qBA qCv qCw zDe (zAz hu (pv 2) (pv 5) (fun _ _=>rfl)) (zAa (pv 4) zAb)))))
   (zAe (zAk (pv 2)))))),?_⟩
  refine fun d hd=>?_;have fd:Fre H d:=hd
  refine ⟨_,rfl,_,rfl,⟨_,SqL.of ((Kp.new (M:=[]) Kp.refl fd) l _ hl (by simp))⟩,zA5 (fun i σ H2=>(∃o3 o4 o5:Option V,σ=[some (.ref l),some (.ref m),some (.ref d),o3,o4,o5])/\Kp [] H H2/\∃la,DL H H2 d (ns.take i) la fun _=>[])
   ⟨⟨_,_,_,rfl⟩,Kp.new Kp.refl fd,fun _=>0,upd_same,(fun n h=>nomatch h),(fun n h=>nomatch h),(fun n h=>nomatch h),fd,(fun n h=>nomatch h)⟩ (fun i σ H2 _ ⟨_,k2,_⟩=>SqL.of (k2 l _ hl (by simp))) ?_ ?_⟩
  ·rintro i v σ H2 hv ⟨⟨o3,o4,o5,rfl⟩,k2,la,D⟩;obtain ⟨n,en,rfl⟩:=zAw hv;have ni:=zCw hN en;refine ⟨(by walk_at "ln"),fun b hb=>?_⟩;have fb:Fre H2 b:=hb;have ndb:d≠b:=ne_fre fb D.top;have fbH:Fre H b:=k2.fre fb (by simp);refine ⟨_,rfl,_,rfl,_,_,rfl,DPut.k (k:=Sum.inr n) ((upd_ne ndb).trans D.top) ?_,?_⟩
   ·rw [qAD,qAW,qAJ];lia
   ·have nlb:∀x∈ns.take i,la x≠b:=fun x hx=>ne_fre fb (D.row x hx);refine ⟨⟨_,_,_,rfl⟩,Kp.new (Kp.new k2 fbH) fd,fun x=>if x=n then b else la x,?_,fun x hx=>?_,fun x hx=>?_,fun x hx y hy e=>?_,fd,fun x hx=>?_⟩
    ·rw [upd_same,zC1 _ ni,zAh en];have:dT1 (ns.take i) (fun n=>V.ref (la n))=dT1 (ns.take i) (fun x=>V.ref (if x=n then b else la x)):=zFd fun x hx=>by rw [qAB fun (z:x=n)=>ni (z▸hx)]
     rw [this];unfold dT1;rw [qAQ];simp
    ·rw [zAh en] at hx
     by_cases z:x=n
     ·rw [qAC z];exact (upd_ne ndb.symm).trans upd_same
     ·rw [qAB z]
      have hx':x∈ns.take i:=by
       rcases qAK.mp hx with y| y
       ·exact y
       ·exact absurd (qAR.mp y) z
      exact (upd_ne (D.ne x hx')).trans ((upd_ne (nlb x hx')).trans (D.row x hx'))
    ·rw [zAh en] at hx
     by_cases z:x=n
     ·rw [qAC z];exact ndb.symm
     ·rw [qAB z];rcases qAK.mp hx with y| y
      ·exact D.ne x y
      ·exact absurd (qAR.mp y) z
    ·rw [zAh en] at hx hy
     have mem:∀x,x∈ns.take i++[n]->x≠n->x∈ns.take i:=fun x hx z=>by
      rcases qAK.mp hx with y| y
      ·exact y
      ·exact absurd (qAR.mp y) z
     by_cases z:x=n
     ·by_cases z':y=n
      ·rw [z,z']
      ·rw [qAC z,qAB z'] at e;exact absurd e.symm (nlb y (mem y hy z'))
     ·by_cases z':y=n
      ·rw [qAB z,qAC z'] at e;exact absurd e (nlb x (mem x hx z))
      ·rw [qAB z,qAB z'] at e;exact D.inj x (mem x hx z) y (mem y hy z') e
    ·rw [zAh en] at hx
     by_cases z:x=n
     ·rw [qAC z];exact fbH
     ·rw [qAB z];rcases qAK.mp hx with y| y
      ·exact D.frs x y
      ·exact absurd (qAR.mp y) z
  ·rintro σ H2 ⟨⟨o3,o4,o5,rfl⟩,k2,la,D⟩;have eN:ns.take (ns.map V.str).length=ns:=by rw [qAD,qAd]
   rw [eN] at D
   refine ⟨_,rfl,_,rfl,⟨_,SqL.of (k2 m _ hm.top (by simp))⟩,zA5 (fun i σ H3=>(∃o3 o4 o5:Option V,σ=[some (.ref l),some (.ref m),some (.ref d),o3,o4,o5])/\Kp [] H H3/\DL H H3 d ns la (told (qs.take i)))
    ⟨⟨_,_,_,rfl⟩,k2,D⟩ (fun i σ H3 _ ⟨_,k3,_⟩=>SqL.of (k3 m _ hm.top (by simp))) ?_ ?_⟩
   ·rintro i v σ H3 hv ⟨⟨o3,o4,o5,rfl⟩,k3,D⟩;obtain ⟨q,eq,rfl⟩:=zG5 hv;have mq:=qAI eq;obtain ⟨a,b,eab⟩:=hm.two q mq
    have hrow:H3 q.2=some (.tup [.str a,.str b]):=by
     have:=k3 q.2 _ (hm.row q mq) (by simp);rw [eab] at this;exact this
    have hb:b∈ns:=hq q mq b (by rw [eab];simp);have esnd:snd q=b:=by unfold snd;rw [eab];rfl
    have efst:fst q=a:=by unfold fst;rw [eab];rfl
    refine ⟨_,_,rfl,.inl (.inl hrow),rfl,_,_,rfl,_,_,rfl,rfl,?_⟩;refine ⟨_,rfl,_,rfl,_,.ref (la b),rfl,?_,.inl ⟨rfl,_,SqL.of (D.row b hb)⟩,_,rfl,_,_,_,rfl,rfl,D.row b hb,?_,?_⟩
    ·have:=DGet.k (k:=Sum.inr b) D.top;rw [zBr,qAC hb] at this;exact this
    ·have:=told_len (qs.take i) b;rw [qAW] at this;rw [qAD,qAJ];lia
    ·refine ⟨⟨_,_,_,rfl⟩,Kp.new k3 (D.frs b hb),?_⟩;rw [zAh eq];refine ⟨(upd_ne (D.ne b hb).symm).trans D.top,fun x hx=>?_,D.ne,D.inj,D.fr,D.frs⟩;show upd H3 (la b) _ (la x)=some (.lst ((told (qs.take i++[q]) x).map V.str));rw [told_snoc,esnd,efst]
     by_cases z:b=x
     ·subst z;rw [qAC rfl,upd_same,qAQ];rfl
     ·rw [qAB z,upd_ne fun y=>z (D.inj b hb x hx y.symm)];exact D.row x hx
   ·rintro σ H3 ⟨⟨o3,o4,o5,rfl⟩,k3,D⟩;have eQ:qs.take (qs.map fun q=>V.ref q.2).length=qs:=by rw [qAD,qAd]
    rw [eQ] at D;exact ⟨_,rfl,k d la H3 D k3⟩
end
def addA (A:List Str) (x:Str):List Str:=if x∈A then A else A++[x]
theorem mem_addA {A:List Str} :y∈addA A x↔y∈A\/y=x:=by
 unfold addA
 by_cases h:x∈A
 ·rw [qAC h];exact ⟨.inl,fun z=>z.elim id fun e=>e▸h⟩
 ·rw [qAB h];simp
theorem zId {A:List Str} (h:A.Nodup):(addA A x).Nodup:=by
 unfold addA
 by_cases hx:x∈A
 ·rw [qAC hx];exact h
 ·rw [qAB hx];refine qBd.mpr ⟨h,by simp,fun a ha b hb=>?_⟩;rw [qAR.mp hb];rintro rfl;exact hx ha
theorem mem_foldA :∀(B A:List Str),y∈B.foldl addA A↔y∈A\/y∈B
 | [],A=>by simp
 | b::B,A=>by
  rw [qBi,mem_foldA B (addA A b),mem_addA,qAP,or_assoc]
theorem zHb:∀(B A:List Str),A.Nodup->(B.foldl addA A).Nodup
 | [],A,h=>h
 | b::B,A,h=>zHb B _ (zId h)
def zB5 (S:Str->List Str) (ms:List Str):List Str:=ms.foldl (fun A m=>(S m).foldl addA (addA A m)) []
theorem joinA_snoc (S:Str->List Str) (ms:List Str) (m:Str):zB5 S (ms++[m])=(S m).foldl addA (addA (zB5 S ms) m):=by unfold zB5;rw [List.foldl_append];rfl
theorem zIe {S:Str->List Str} :∀(ms A:List Str),y∈ms.foldl (fun A m=>(S m).foldl addA (addA A m)) A↔y∈A\/y∈ms\/∃m∈ms,y∈S m
 | [],A=>by simp
 | m::ms,A=>by
  rw [qBi,zIe ms,mem_foldA,mem_addA];constructor
  ·rintro (((h| h)| h)| h| ⟨q,h1,h2⟩)
   ·exact .inl h
   ·exact .inr (.inl (h▸qAa))
   ·exact .inr (.inr ⟨m,qAa,h⟩)
   ·exact .inr (.inl (qAT _ h))
   ·exact .inr (.inr ⟨q,qAT _ h1,h2⟩)
  ·rintro (h| h| ⟨q,h1,h2⟩)
   ·exact .inl (.inl (.inl h))
   ·rcases qAP.mp h with e| e
    ·exact .inl (.inl (.inr e))
    ·exact .inr (.inl e)
   ·rcases qAP.mp h1 with e| e
    ·exact .inl (.inr (e▸h2))
    ·exact .inr (.inr ⟨q,e,h2⟩)
theorem zHe {S:Str->List Str} {ms:List Str} :y∈zB5 S ms↔y∈ms\/∃m∈ms,y∈S m:=by
 unfold zB5;rw [zIe];simp
theorem zF5 {S:Str->List Str}:∀(ms A:List Str),A.Nodup->(ms.foldl (fun A m=>(S m).foldl addA (addA A m)) A).Nodup
 | [],A,h=>h
 | m::ms,A,h=>zF5 ms _ (zHb _ _ (zId h))
theorem zHa (S:Str->List Str) (ms:List Str):(zB5 S ms).Nodup:=zF5 ms [] qBL
theorem zAs:∀{A B:List Str},A.Nodup->(∀x∈A,x∈B)->A.length<=B.length
 | [],B,_,_=>qAj _
 | a::A,B,h,hs=>by
  obtain ⟨h1,h2⟩:=qA1.mp h;have hb:=hs a qAa;have:=zAs (B:=B.erase a) h2 fun x hx=>(List.mem_erase_of_ne fun e=>h1 (by rw [<-e];exact hx)).mpr (hs x (qAT _ hx));rw [List.length_erase_of_mem hb] at this;have:=List.length_pos_of_mem hb;rw [qAb];lia
abbrev SetD (H:Hp) (e:Addr) (A:List Str):Prop:=H e=some (.dK (dT1 A fun _=>.bl true))
theorem put_set (A:List Str) (x:Str):putK (dT1 A fun _=>.bl true) (.inr x) (.bl true)=dT1 (addA A x) fun _=>.bl true:=by
 unfold addA
 by_cases h:x∈A
 ·rw [qAC h];unfold putK;rw [zGg,zBr,qAC h];refine (qAC (by rfl)).trans ?_;unfold dT1;rw [qA4];refine qDH fun y _=>?_;show (if (Sum.inr y:Key)=Sum.inr x then ((Sum.inr y:Key),V.bl true) else (Sum.inr y,V.bl true))=_;split<;>rfl
 ·rw [qAB h,zC1 _ h];unfold dT1;rw [qAQ];rfl
theorem mrg_set:∀(B A:List Str),mrg (dT1 A fun _=>.bl true) (dT1 B fun _=>.bl true)=dT1 (B.foldl addA A) fun _=>.bl true
 | [],A=>rfl
 | b::B,A=>by
  show mrg (putK (dT1 A fun _=>.bl true) (.inr b) (.bl true)) (dT1 B fun _=>.bl true)=_;rw [put_set,mrg_set B];rfl
section
def spHasAll:Sp:=fun vs H Q _=>∃(d l:Addr) (kvs:List (Key×V)) (ms:List Str),vs=[.ref d,.ref l]/\H d=some (.dK kvs)/\Txs H l ms/\ms.length<=4096/\∀H',Kp [] H H'->Q (.bl (ms.all fun m=>(valV kvs (.inr m)).isSome)) H'
abbrev zEz:Stmt:=top 38
theorem sc_has_all:FnScope ["done", "names"] ["done", "names"] (zAd zEz):=fnS
theorem ok_has_all {f:Addr} (F:Fun K "has_all" "has_all" zEz f fd) (T:Txt K mg):FnOk P w K mg base CX0 1 f fd ["done", "names"] spHasAll:=by
 refine F.ok sc_has_all (fun vs H Q E h=>?_) (fun cdv A outer s H vs Q E hr h=>?_)
 ·obtain ⟨d,l,kvs,ms,rfl,_⟩:=h;rfl
 ·obtain ⟨d,l,kvs,ms,rfl,hd,hl,hz,k⟩:=h;have hu:=zD6 hr;refine ⟨_,(zAe (zAk (zAi (zGs _ rfl) (by rfl) T.z_all bo_all (zAa (zA3 rfl (zA4 (sc:=zAd zEz) rfl (by decide +kernel)) (Draws.own (x:= "name") (dtk (i:=0) rfl Draws.nil)) (zAo (pv 1)) (fun _ _ _ _=>(pgB (i:=0))) (fun _ _ _ _=>zB4) (fun _ _ _ _=>(pe_cmp (zIc hu (pv 0) (pv 1))))) zAb)))),?_⟩;refine ⟨_,rfl,_,rfl,⟨_,SqL.of hl⟩,fun D hD=>zA1 (ms.map V.str) (fun i ys τ H'=>(∃o0,τ=[o0,some (.ref d)])/\ys=((ms.take i).map fun m=>V.bl (valV kvs (.inr m)).isSome)/\H'=upd H D (.lst ys)) ⟨⟨_,rfl⟩,rfl,rfl⟩ (fun i ys τ H' ⟨_,_,e⟩=>by subst e;exact SqL.of ((upd_ne (ne_fre (show Fre H D from hD) hl)).trans hl)) ?_ ?_⟩
  ·rintro i v ys τ H' hv ⟨⟨o0,rfl⟩,rfl,rfl⟩;obtain ⟨m,em,rfl⟩:=zAw hv;refine ⟨_,rfl,_,rfl,_,_,rfl,DGet.k (k:=Sum.inr m) ((upd_ne (ne_fre (show Fre H D from hD) hd)).trans hd),upd_same,?_,⟨_,rfl⟩,?_,zBh⟩
   ·rw [qAD,qAW,qAJ];lia
   ·rw [zAh em,qAQ];rfl
  ·rintro ys τ H' ⟨_,rfl,rfl⟩;have eM:ms.take (ms.map V.str).length=ms:=by rw [qAD,qAd]
   refine ⟨D,ms.map fun m=>(valV kvs (.inr m)).isSome,rfl,SqL.of ?_,?_⟩
   ·rw [upd_same,eM,qA4];rfl
   ·rw [qDK];exact k _ (Kp.new Kp.refl hD)
def spJoined:Sp:=fun vs H Q _=>∃(l d:Addr) (ms D0 ns:List Str) (fa:Str->Addr) (S:Str->List Str),vs=[.ref l,.ref d]/\Txs H l ms/\H d=some (.dK (dT1 D0 fun n=>.ref (fa n)))/\(∀m∈ms,m∈D0/\m∈ns/\SetD H (fa m) (S m)/\∀x∈S m,x∈ns)/\ns.length<=20/\(∀m∈ms,(S m).length<=20) /\
 ∀e H',Fre H e->SetD H' e (zB5 S ms)->Kp [] H H'->Q (.ref e) H'
abbrev zIv:Stmt:=top 40
theorem zG2:FnScope ["near", "far", "found", "name"] ["near", "far"] (zAd zIv):=fnS
theorem ok_joined {f:Addr} (F:Fun K "joined" "joined" zIv f fd):FnOk P w K mg base CX0 1 f fd ["near", "far"] spJoined:=by
 refine F.ok zG2 (fun vs H Q E h=>?_) (fun cdv A outer s H vs Q E hr h=>?_)
 ·obtain ⟨l,d,ms,D0,ns,fa,S,rfl,_⟩:=h;rfl
 ·obtain ⟨l,d,ms,D0,ns,fa,S,rfl,hl,hd,hm,hn,hS,k⟩:=h;have hu:=zD6 hr
  refine ⟨_,(zAc (psS (i:=2) zG2.nd zBw)
   (zAc (zA8 qAi rfl (zAo (pv 0)) (pgN (i:=3) zG2.nd)
    (zAc (zCd hu (pv 2) (pv 3) pe_bl rfl)
    (zAe (zA2 (zGb PySem.F.plainAttrs_dict PySem.F.slot_dict_update PySem.F.type_dict_update mt_dupd (pv 2) (zAa (zAz hu (pv 1) (pv 3) (fun _ _=>rfl)) zAb))))))
   (zAe (zAk (pv 2))))),?_⟩
  refine fun e he=>?_;have fe:Fre H e:=he
  have hsub:∀i x,x∈zB5 S (ms.take i)->x∈ns:=fun i x hx=>by
   rcases zHe.mp hx with z| ⟨m,z,z'⟩
   ·exact (hm x (qBS z)).2.1
   ·exact (hm m (qBS z)).2.2.2 x z'
  have hlen:∀i,(zB5 S (ms.take i)).length<=20:=fun i=>qAY (zAs (zHa S _) (hsub i)) hn
  refine ⟨_,rfl,_,rfl,⟨_,SqL.of ((Kp.new (M:=[]) Kp.refl fe) l _ hl (by simp))⟩,zA5 (fun i σ H2=>(∃o3:Option V,σ=[some (.ref l),some (.ref d),some (.ref e),o3])/\Kp [] H H2/\SetD H2 e (zB5 S (ms.take i)))
   ⟨⟨_,rfl⟩,Kp.new Kp.refl fe,upd_same⟩ (fun i σ H2 _ ⟨_,k2,_⟩=>SqL.of (k2 l _ hl (by simp))) ?_ ?_⟩
  ·rintro i v σ H2 hv ⟨⟨o3,rfl⟩,k2,h2⟩;obtain ⟨m,em,rfl⟩:=zAw hv;obtain ⟨m1,m2,m3,m4⟩:=hm m (qAI em);have l2:=hlen i;refine ⟨_,rfl,_,rfl,_,_,rfl,DPut.k (k:=Sum.inr m) h2 (by rw [qAD,qAJ];lia),?_⟩;rw [put_set];have k3:Kp [] H (upd H2 e (.dK (dT1 (addA (zB5 S (ms.take i)) m) fun _=>.bl true))):=Kp.new k2 fe;have nfa:fa m≠e:=ne_fre fe m3;refine ⟨_,rfl,.inr (.inr (.inl ⟨rfl,.inl ⟨_,upd_same⟩⟩)),_,rfl,_,rfl,_,.ref (fa m),rfl,?_,_,fa m,_,_,rfl,rfl,upd_same,k3 _ _ m3 (by simp),nfa.symm,?_,?_⟩
   ·have:=DGet.k (k:=Sum.inr m) (k3 d _ hd (by simp));rw [zBr,qAC m1] at this;exact this
   ·have:=hS m (qAI em);rw [qAD,qAD,qAJ]
    have:(addA (zB5 S (ms.take i)) m).length<=(zB5 S (ms.take i)).length+1:=by
     unfold addA;split
     ·lia
     ·rw [qAU];exact qAG _
    lia
   ·rw [mrg_set];refine ⟨⟨_,rfl⟩,Kp.new k3 fe,?_⟩;rw [zAh em,joinA_snoc];exact upd_same
  ·rintro σ H2 ⟨⟨o3,rfl⟩,k2,h2⟩;have eM:ms.take (ms.map V.str).length=ms:=by rw [qAD,qAd]
   rw [eM] at h2;exact ⟨_,rfl,k e H2 fe h2 k2⟩
end
structure Fp (H0 H:Hp) (e:Addr) (ns D:List Str) (fa:Str->Addr) (S f:Str->List Str):Prop where
 top:H e=some (.dK (dT1 D fun n=>.ref (fa n)))
 nd:D.Nodup
 sub:∀n∈D,n∈ns
 row:∀n∈D,SetD H (fa n) (S n)
 snd:∀n∈D,(S n).Nodup
 sns:∀n∈D,∀x∈S n,x∈ns
 mem:∀n∈D,∀x,x∈S n↔x∈f n\/∃m∈f n,x∈S m
 cl:∀n∈D,∀x∈f n,x∈D
 ne:∀n∈D,fa n≠e
 fr:Fre H0 e
 frs:∀n∈D,Fre H0 (fa n)
theorem Fp.kp {D:List Str} {fa:Str->Addr} {S f:Str->List Str} (F:Fp H0 H e ns D fa S f) (k:Kp [] H H'):Fp H0 H' e ns D fa S f :=
 ⟨k e _ F.top (by simp),F.nd,F.sub,fun n hn=>k _ _ (F.row n hn) (by simp),F.snd,F.sns,F.mem,F.cl,F.ne,F.fr,F.frs⟩
theorem Fp.more {b:Addr} {D:List Str} {fa:Str->Addr} {S f:Str->List Str} (F:Fp H0 H e ns D fa S f) (hn:n∈ns) (hD:n∉D) (hf:∀x∈f n,x∈D) (hs:∀x∈f n,x∈ns) (hb:SetD H b (zB5 S (f n))) (nb:b≠e) (fb:Fre H0 b) :
  Fp H0 (upd H e (.dK (putK (dT1 D fun n=>.ref (fa n)) (.inr n) (.ref b)))) e ns (D++[n]) (fun x=>if x=n then b else fa x) (fun x=>if x=n then zB5 S (f n) else S x) f:=by
 have hx:∀x∈D,¬x=n:=fun x h z=>hD (z▸h)
 have cs:∀x,x∈D++[n]->x∈D\/x=n:=fun x h=>by
  rcases qAK.mp h with z| z
  ·exact .inl z
  ·exact .inr (qAR.mp z)
 have eqS:∀{x},x∈D->(if x=n then zB5 S (f n) else S x)=S x:=fun {x} h=>qAB (hx x h);have eqn:(if n=n then zB5 S (f n) else S n)=zB5 S (f n):=qAC rfl;refine ⟨?_,?_,fun x h=>?_,fun x h=>?_,fun x h=>?_,fun x h y hy=>?_,fun x h y=>?_,fun x h y hy=>?_,fun x h=>?_,F.fr,fun x h=>?_⟩
 ·rw [upd_same,zC1 _ hD];have:dT1 D (fun n=>V.ref (fa n))=dT1 D (fun x=>V.ref (if x=n then b else fa x)):=zFd fun x h=>by rw [qAB (hx x h)]
  rw [this];unfold dT1;rw [qAQ];simp
 ·refine qBd.mpr ⟨F.nd,by simp,fun a ha c hc=>?_⟩;rw [qAR.mp hc];exact hx a ha
 ·rcases cs x h with z| z
  ·exact F.sub x z
  ·rw [z];exact hn
 ·rcases cs x h with z| z
  ·show upd H e _ (if x=n then b else fa x)=some (.dK (dT1 (if x=n then zB5 S (f n) else S x) fun _=>.bl true));rw [qAB (hx x z),qAB (hx x z),upd_ne (F.ne x z)];exact F.row x z
  ·subst z;show upd H e _ (if x=x then b else fa x)=some (.dK (dT1 (if x=x then zB5 S (f x) else S x) fun _=>.bl true));rw [qAC rfl,qAC rfl,upd_ne nb];exact hb
 ·rcases cs x h with z| z
  ·show (if x=n then zB5 S (f n) else S x).Nodup;rw [eqS z];exact F.snd x z
  ·subst z;show (if x=x then zB5 S (f x) else S x).Nodup;rw [qAC rfl];exact zHa _ _
 ·rcases cs x h with z| z
  ·have hy:y∈(if x=n then zB5 S (f n) else S x):=hy;rw [eqS z] at hy;exact F.sns x z y hy
  ·subst z;have hy:y∈(if x=x then zB5 S (f x) else S x):=hy;rw [qAC rfl] at hy;rcases zHe.mp hy with q| ⟨m,q1,q2⟩
   ·exact hs y q
   ·exact F.sns m (hf m q1) y q2
 ·rcases cs x h with z| z
  ·show y∈(if x=n then zB5 S (f n) else S x)↔y∈f x\/∃m∈f x,y∈(if m=n then zB5 S (f n) else S m);rw [eqS z,F.mem x z y];constructor
   ·rintro (q| ⟨m,q1,q2⟩)
    ·exact .inl q
    ·exact .inr ⟨m,q1,by rw [eqS (F.cl x z m q1)];exact q2⟩
   ·rintro (q| ⟨m,q1,q2⟩)
    ·exact .inl q
    ·rw [eqS (F.cl x z m q1)] at q2;exact .inr ⟨m,q1,q2⟩
  ·subst z;show y∈(if x=x then zB5 S (f x) else S x)↔y∈f x\/∃m∈f x,y∈(if m=x then zB5 S (f x) else S m);rw [qAC rfl,zHe];constructor
   ·rintro (q| ⟨m,q1,q2⟩)
    ·exact .inl q
    ·exact .inr ⟨m,q1,by rw [eqS (hf m q1)];exact q2⟩
   ·rintro (q| ⟨m,q1,q2⟩)
    ·exact .inl q
    ·rw [eqS (hf m q1)] at q2;exact .inr ⟨m,q1,q2⟩
 ·rcases cs x h with z| z
  ·exact qAc _ (F.cl x z y hy)
  ·subst z;exact qAc _ (hf y hy)
 ·rcases cs x h with z| z
  ·show (if x=n then b else fa x)≠e;rw [qAB (hx x z)];exact F.ne x z
  ·subst z;show (if x=x then b else fa x)≠e;rw [qAC rfl];exact nb
 ·rcases cs x h with z| z
  ·show Fre H0 (if x=n then b else fa x);rw [qAB (hx x z)];exact F.frs x z
  ·subst z;show Fre H0 (if x=x then b else fa x);rw [qAC rfl];exact fb
theorem least_one (r:Str->Nat):∀(L:List Str),L≠[]->∃n∈L,∀m∈L,r n<=r m
 | [],h=>absurd rfl h
 | [x],_=>⟨x,by simp,fun m hm=>by rw [qAR.mp hm];exact qAG _⟩
 | x::y::L,_=>by
  obtain ⟨n,hn,h⟩:=least_one r (y::L) (by simp)
  by_cases c:r x<=r n
  ·refine ⟨x,qAa,fun m hm=>?_⟩;rcases qAP.mp hm with z| z
   ·rw [z];exact qAG _
   ·exact qAY c (h m z)
  ·refine ⟨n,qAT _ hn,fun m hm=>?_⟩;rcases qAP.mp hm with z| z
   ·rw [z];lia
   ·exact h m z
theorem filter_lt {p:α->Bool} {x:α}:∀{L:List α},x∈L->p x=false->(L.filter p).length<L.length
 | a::L,h,hp=>by
  rcases qAP.mp h with z| z
  ·subst z;rw [qBa,qAB (by rw [hp];decide),qAb];exact Nat.lt_succ_of_le (qBZ _ _)
  ·have:=filter_lt z hp;rw [qBa,qAb];split
   ·rw [qAb];lia
   ·lia
theorem zHm (D:List Str) (g:Str->V) (x:Str):(valV (dT1 D g) (.inr x)).isSome=decide (x∈D):=by
 rw [zBr]
 by_cases h:x∈D
 ·rw [qAC h,qAf h];rfl
 ·rw [qAB h,qAe h];rfl
section
def zH7:Sp:=fun vs H Q _=>∃(l d:Addr) (ns:List Str) (la:Str->Addr) (f:Str->List Str) (r:Str->Nat),vs=[.ref l,.ref d]/\Txs H l ns/\ns.Nodup/\ns.length<=20/\H d=some (.dK (dT1 ns fun n=>.ref (la n)))/\(∀n∈ns,Txs H (la n) (f n)/\(f n).length<=4096/\∀x∈f n,x∈ns/\r x<r n) /\
 ∀e D fa S H',Fp H H' e ns D fa S f->(∀n∈ns,n∈D)->Kp [] H H'->Q (.ref e) H'
abbrev zCm:Stmt:=top 39
theorem zB0:FnScope ["names", "told", "far", "left", "free", "name"] ["names", "told"] (zAd zCm):=fnS
def leftN (σ:St) (H:Hp):Nat:=match (σ[3]?:Option (Option V)) with
 | some (some (.ref a))=>match H a with
  | some (.lst xs)=>xs.length
  | _=>0
 | _=>0
theorem ok_all_ahead {f:Addr} (F:Fun K "all_ahead" "all_ahead" zCm f fd) (T:Txt K mg) (C_has_all:Cal P w K mg base "has_all" 1 ["done", "names"] spHasAll) (C_joined:Cal P w K mg base "joined" 1 ["near", "far"] spJoined):FnOk P w K mg base CX0 2 f fd ["names", "told"] zH7:=by
 refine F.ok zB0 (fun vs H Q E h=>?_) (fun cdv A outer s H vs Q E hr h=>?_)
 ·obtain ⟨l,d,ns,la,f,r,rfl,_⟩:=h;rfl
 ·obtain ⟨l,d,ns,la,f,r,rfl,hl,hN,hn,hd,hf,k⟩:=h;have hu:=zD6 hr;have HR_has_all:=hr;have HR_joined:=hr
  refine ⟨_,(zAc (psS (i:=2) zB0.nd zBw)
   (zAc (psS (i:=3) zB0.nd (zAv zBm (by rfl) T.z_list zCr (zAa (pv 0) zAb)))
   (zAc (zE0 qAi (zIy (pv 3) (fun _=>rfl))
    (zAc (zFq (i:=4) rfl (zA4 (sc:=zAd zCm) rfl (by decide +kernel)) (Draws.own (x:= "name") (dtk (i:=2) rfl (dtk (i:=1) rfl Draws.nil))) (zAo (pv 3)) (fun _ _ _ _=>(pgB (i:=0))) (fun _ _ _ _=>(zB6 (zCo (zAg C_has_all HR_has_all rfl (zAa (pv 1) (zAa (zAz hu (pv 2) (pv 0) (fun _ _=>rfl)) zAb)))))) (fun _ _ _ _=>(pv 0)) zB0.nd rfl rfl)
    (zAc (zA9 (zCf (zIy (pv 4) (fun _=>rfl)))
     (zAe zBp)
     zAn)
    (zAc (zA8 qAi rfl (zAo (pv 4)) (pgN (i:=5) zB0.nd)
     (zAe (zCd hu (pv 2) (pv 5) (zAg C_joined HR_joined rfl (zAa (zAz hu (pv 1) (pv 5) (fun _ _=>rfl)) (zAa (pv 2) zAb))) rfl)))
    (zAe (zFq (i:=3) rfl (zA4 (sc:=zAd zCm) rfl (by decide +kernel)) (Draws.own (x:= "name") (dtk (i:=2) rfl Draws.nil)) (zAo (pv 3)) (fun _ _ _ _=>(pgB (i:=0))) (fun _ _ _ _=>(zB6 (zD0 (zCp hu (pv 0) (pv 1))))) (fun _ _ _ _=>(pv 0)) zB0.nd rfl rfl))))))
   (zAe (zAk (pv 2)))))),?_⟩
  refine fun e he=>?_;have fe:Fre H e:=he;refine ⟨_,rfl,_,_,rfl,.inl (SqL.of ((Kp.new (M:=[]) Kp.refl fe) l _ hl (by simp))),fun lf hlf=>?_⟩;have k0:Kp [] H (upd H e (.dK [])):=Kp.new Kp.refl fe;have flf:Fre H lf:=k0.fre hlf (by simp);have nel:e≠lf:=ne_fre (show Fre (upd H e (.dK [])) lf from hlf) upd_same;show tWhile (fun σ H Q=>tVar 3 σ H fun x H'=>∃k,TruV K x H' k/\Q k H') _ _ _ _
  refine while_by (fun σ H2=>∃(lf:Addr) (D:List Str) (fa:Str->Addr) (S:Str->List Str) (o4 o5:Option V),σ=[some (.ref l),some (.ref d),some (.ref e),some (.ref lf),o4,o5]/\Kp [] H H2/\Fp H H2 e ns D fa S f/\Txs H2 lf (ns.filter fun n=>decide (n∉D))) leftN
   ⟨lf,[],fun _=>0,fun _=>[],none,none,rfl,Kp.new k0 flf,⟨(upd_ne nel).trans upd_same,qBL,(fun n h=>nomatch h),(fun n h=>nomatch h),(fun n h=>nomatch h),(fun n h=>nomatch h),(fun n h=>nomatch h),(fun n h=>nomatch h),(fun n h=>nomatch h),fe,(fun n h=>nomatch h)⟩,by
    have ef:(ns.filter fun n=>decide (n∉([]:List Str)))=ns:=by simp
    show upd _ lf _ lf=some (.lst ((ns.filter fun n=>decide (n∉([]:List Str))).map V.str));rw [ef];exact upd_same⟩ ?_ (fun σ H Q Q' hq hc=>by
    obtain ⟨x,e,b,t,q⟩:=hc;exact ⟨x,e,b,t,hq _ _ q⟩)
  rintro σ H2 ⟨lf,D,fa,S,o4,o5,rfl,k2,FP,hlf⟩;refine ⟨_,rfl,_,.inl ⟨_,SqL.of hlf,rfl⟩,?_⟩;have hLs:∀n,n∈(ns.filter fun n=>decide (n∉D))↔n∈ns/\n∉D:=fun n=>by simp [qA5]
  have hLl:(ns.filter fun n=>decide (n∉D)).length<=20:=qAY (qBZ _ _) hn;generalize hL:(ns.filter fun n=>decide (n∉D))=L at *
  refine ite2 (fun c=>?_) (fun c=>?_)
  ·have cL:L≠[]:=fun z=>by rw [z] at c;simp at c
   refine ⟨_,rfl,_,rfl,⟨_,SqL.of hlf⟩,fun B hB=>zBl (L.map V.str) (fun i ys τ H3=>(∃o0,τ=[o0,some (.ref e),some (.ref d)])/\ys=((L.take i).filter fun n=>(f n).all fun m=>decide (m∈D)).map V.str/\Kp [] H2 H3/\H3 B=some (.lst ys))
    ⟨⟨_,rfl⟩,rfl,Kp.new Kp.refl hB,upd_same⟩ (fun i ys τ H3 ⟨_,_,k3,_⟩=>SqL.of (k3 lf _ hlf (by simp))) ?_ ?_⟩
   ·rintro i v ys τ H3 hv ⟨⟨o0,rfl⟩,rfl,k3,h3⟩;obtain ⟨n,en,rfl⟩:=zAw hv;have mn:=(hLs n).mp (qAI en);obtain ⟨n1,n2,n3⟩:=hf n mn.1;have k23:=k2.trans k3;refine ⟨_,rfl,_,rfl,_,rfl,_,.ref (la n),rfl,?_,e,la n,_,f n,rfl,k3 e _ FP.top (by simp),k23 _ _ n1 (by simp),n2,fun H4 k4=>?_⟩
    ·have:=DGet.k (k:=Sum.inr n) (k23 d _ hd (by simp));rw [zBr,qAC mn.1] at this;exact this
    have eall:((f n).all fun m=>(valV (dT1 D fun n=>V.ref (fa n)) (.inr m)).isSome)=(f n).all fun m=>decide (m∈D):=by
     congr 1;funext m;exact zHm D _ m
    rw [eall];have h4:=k4 B _ h3 (by simp);have et:=zAh en;refine ⟨_,rfl,ite2 (fun c=>?_) (fun c=>?_)⟩
    ·refine ⟨_,rfl,h4,?_,⟨_,rfl⟩,?_,Kp.new (k3.trans k4) hB,upd_same⟩
     ·rw [qAD,qAJ];have h1:=qBZ (fun n=>(f n).all fun m=>decide (m∈D)) (L.take i);rw [qAW] at h1;lia
     ·rw [et,qB1,qAQ];have:[n].filter (fun n=>(f n).all fun m=>decide (m∈D))=[n]:=by rw [qBa,qAC c];rfl
      rw [this];rfl
    ·refine ⟨⟨_,rfl⟩,?_,k3.trans k4,?_⟩
     ·rw [et,qB1];have:[n].filter (fun n=>(f n).all fun m=>decide (m∈D))=[]:=by rw [qBa,qAB c];rfl
      rw [this,qAs]
     ·exact h4
   ·rintro ys τ H3 ⟨_,rfl,k3,h3⟩;have eT:L.take (L.map V.str).length=L:=by rw [qAD,qAd]
    rw [eT] at h3;have hFr:∀n,n∈(L.filter fun n=>(f n).all fun m=>decide (m∈D))↔n∈L/\∀m∈f n,m∈D:=fun n=>by simp [qA5]
    have hFl:(L.filter fun n=>(f n).all fun m=>decide (m∈D)).length<=20:=qAY (qBZ _ _) hLl
    have hFn:(L.filter fun n=>(f n).all fun m=>decide (m∈D)).Nodup:=by
     have:L.Nodup:=by rw [<-hL];exact hN.sublist List.filter_sublist
     exact this.sublist List.filter_sublist
    have hF0:(L.filter fun n=>(f n).all fun m=>decide (m∈D))≠[]:=by
     obtain ⟨n,n1,n2⟩:=least_one r L cL;refine List.ne_nil_of_mem ((hFr n).mpr ⟨n1,fun m hm=>?_⟩);have mn:=(hLs n).mp n1;obtain ⟨q1,q2⟩:=(hf n mn.1).2.2 m hm;apply qA3;intro z;have:=n2 m ((hLs m).mpr ⟨q1,z⟩);lia
    generalize hFE:(L.filter fun n=>(f n).all fun m=>decide (m∈D))=FR at *
    have k23:=k2.trans k3;refine ⟨_,rfl,_,.inl ⟨_,SqL.of h3,rfl⟩,?_⟩
    have e0:(!(FR.map V.str).isEmpty)=true:=by
     cases FR with
     | nil=>exact absurd rfl hF0
     | cons _ _=>rfl
    rw [e0];refine iteF ?_
    refine ⟨_,rfl,_,rfl,⟨_,SqL.of h3⟩,zA5 (fun i σ H4=>∃(fa:Str->Addr) (S:Str->List Str) (o5:Option V),σ=[some (.ref l),some (.ref d),some (.ref e),some (.ref lf),some (.ref B),o5]/\Kp [] H H4/\Fp H H4 e ns (D++FR.take i) fa S f/\Txs H4 lf L/\Txs H4 B FR)
     ⟨fa,S,_,rfl,k23,by rw [qBV,qAs];exact FP.kp k3,k3 lf _ hlf (by simp),h3⟩ (fun i σ H4 _ ⟨_,_,_,_,_,_,_,h⟩=>SqL.of h) ?_ ?_⟩
    ·rintro i v σ H4 hv ⟨fa4,S4,o5',rfl,k4,F4,hlf4,hB4⟩;obtain ⟨n,en,rfl⟩:=zAw hv;have mF:=(hFr n).mp (qAI en);have mn:=(hLs n).mp mF.1;obtain ⟨n1,n2,n3⟩:=hf n mn.1
     have nD:n∉D++FR.take i:=fun z=>by
      rcases qAK.mp z with y| y
      ·exact mn.2 y
      ·exact zCw hFn en y
     have fD:∀x∈f n,x∈D++FR.take i:=fun x hx=>qAc _ (mF.2 x hx);refine ⟨_,rfl,_,rfl,_,.ref (la n),rfl,?_,_,rfl,la n,e,f n,D++FR.take i,ns,fa4,S4,rfl,k4 _ _ n1 (by simp),F4.top,fun m hm=>⟨fD m hm,(n3 m hm).1,F4.row m (fD m hm),F4.sns m (fD m hm)⟩,hn,fun m hm=>qAY (zAs (F4.snd m (fD m hm)) (F4.sns m (fD m hm))) hn,fun b H5 fb hb k5=>?_⟩
     ·have:=DGet.k (k:=Sum.inr n) (k4 d _ hd (by simp));rw [zBr,qAC mn.1] at this;exact this
     have F5:=F4.kp k5;have fbH:Fre H b:=k4.fre fb (by simp);refine ⟨_,rfl,_,rfl,_,_,rfl,DPut.k (k:=Sum.inr n) F5.top ?_,?_⟩
     ·have:=zAs F5.nd F5.sub;rw [qAD,qAJ];lia
     ·have FM:=F5.more mn.1 nD fD (fun x hx=>(n3 x hx).1) hb (qAu (ne_fre fb F4.top)) fbH;rw [qAy,<-zAh en] at FM;exact ⟨_,_,_,rfl,Kp.new (k4.trans k5) fe,FM,(upd_ne (zBq hlf4 F4.top (fun z=>nomatch z))).trans (k5 lf _ hlf4 (by simp)),(upd_ne (zBq hB4 F4.top (fun z=>nomatch z))).trans (k5 B _ hB4 (by simp))⟩
    ·rintro σ H4 ⟨fa4,S4,o5',rfl,k4,F4,hlf4,hB4⟩;have eF:FR.take (FR.map V.str).length=FR:=by rw [qAD,qAd]
     rw [eF] at F4
     refine ⟨_,rfl,_,rfl,⟨_,SqL.of hlf4⟩,fun G hG=>zBl (L.map V.str) (fun i ys τ H5=>(∃o0,τ=[o0,some (.ref e)])/\ys=((L.take i).filter fun n=>decide (n∉D++FR)).map V.str/\H5=upd H4 G (.lst ys))
      ⟨⟨_,rfl⟩,rfl,rfl⟩ (fun i ys τ H5 ⟨_,_,z⟩=>by subst z;exact SqL.of ((upd_ne (ne_fre (show Fre H4 G from hG) hlf4)).trans hlf4)) ?_ ?_⟩
     ·rintro i v ys τ H5 hv ⟨⟨o0,rfl⟩,rfl,rfl⟩;obtain ⟨n,en,rfl⟩:=zAw hv;refine ⟨_,rfl,_,rfl,_,_,rfl,DGet.k (k:=Sum.inr n) ((upd_ne (ne_fre (show Fre H4 G from hG) F4.top)).trans F4.top),_,rfl,?_⟩;rw [zHm];have et:=zAh en;refine ite2 (fun c=>?_) (fun c=>?_)
      ·have c':n∉D++FR:=fun z=>by rw [qAf z] at c;exact nomatch c
       refine ⟨_,rfl,upd_same,?_,⟨_,rfl⟩,?_,zBh⟩
       ·rw [qAD,qAJ];have h1:=qBZ (fun n=>decide (n∉D++FR)) (L.take i);rw [qAW] at h1;lia
       ·rw [et,qB1,qAQ];have:[n].filter (fun n=>decide (n∉D++FR))=[n]:=by rw [qBa,qAC (qAf c')];rfl
        rw [this];rfl
      ·have c':n∈D++FR:=by
        apply qA3;intro z;rw [qAe z] at c;exact c rfl
       have e2:(L.take (i+1)).filter (fun n=>decide (n∉D++FR))=(L.take i).filter (fun n=>decide (n∉D++FR)):=by
        rw [et,qB1];have:[n].filter (fun n=>decide (n∉D++FR))=[]:=by rw [qBa,qAB (by rw [qAe (fun z=>z c')];decide)];rfl
        rw [this,qAs]
       refine ⟨⟨_,rfl⟩,?_,?_⟩
       ·rw [e2]
       ·rfl
     ·rintro ys τ H5 ⟨_,rfl,rfl⟩;have eT:L.take (L.map V.str).length=L:=by rw [qAD,qAd]
      rw [eT];have nGe:e≠G:=ne_fre (show Fre H4 G from hG) F4.top
      have eFF:(L.filter fun n=>decide (n∉D++FR))=ns.filter fun n=>decide (n∉D++FR):=by
       rw [<-hL,List.filter_filter];refine List.filter_congr fun n _=>?_
       by_cases z:n∈D
       ·have:n∈D++FR:=qAc _ z;rw [qAe (fun y=>y this)];rfl
       ·rw [qAf z,Bool.and_true]
      refine ⟨⟨G,D++FR,fa4,S4,_,_,rfl,Kp.new k4 (k4.fre (show Fre H4 G from hG) (by simp)),F4.kp (Kp.new Kp.refl hG),?_⟩,?_⟩
      ·rw [<-eFF];exact upd_same
      ·have m1:leftN [some (V.ref l),some (.ref d),some (.ref e),some (.ref lf),o4,o5] H2=L.length:=by
        show (match H2 lf with| some (.lst xs)=>xs.length| _=>0)=_;rw [hlf];simp
       have m2:∀o4 o5,leftN [some (V.ref l),some (.ref d),some (.ref e),some (.ref G),o4,o5] (upd H4 G (.lst ((L.filter fun n=>decide (n∉D++FR)).map V.str)))=(L.filter fun n=>decide (n∉D++FR)).length:=fun o4 o5=>by
        show (match upd H4 G (.lst ((L.filter fun n=>decide (n∉D++FR)).map V.str)) G with| some (.lst xs)=>xs.length| _=>0)=_;rw [upd_same];simp
       rw [m1];refine Nat.lt_of_le_of_lt (qB6 (m2 _ _)) ?_;obtain ⟨n,hnF⟩:=List.exists_mem_of_ne_nil FR hF0;have hnL:=((hFr n).mp hnF).1;exact filter_lt hnL (qAe fun z=>z (qAq _ hnF))
  ·have cL:L=[]:=by
    cases L with
    | nil=>rfl
    | cons _ _=>exact absurd rfl c
   refine ⟨_,rfl,k e D fa S H2 FP (fun n hn'=>?_) k2⟩;apply qA3;intro z;have:=(hLs n).mpr ⟨hn',z⟩;rw [cL] at this;exact nomatch this
end
def jf (r p e:Addr):List (Str×V):=putF "above" (.ref e) (putF "pairs" (.ref p) (putF "row" (.ref r) []))
theorem zIf (r p e:Addr):(jf r p e).lookup ("row" : Str)=some (.ref r):=by
 unfold jf;rw [zAq,qAB (by decide +kernel),zAq,qAB (by decide +kernel),zAq,qAC rfl]
theorem jf_pairs (r p e:Addr):(jf r p e).lookup ("pairs" : Str)=some (.ref p):=by
 unfold jf;rw [zAq,qAB (by decide +kernel),zAq,qAC rfl]
theorem jf_above (r p e:Addr):(jf r p e).lookup ("above" : Str)=some (.ref e):=by
 unfold jf;rw [zAq,qAC rfl]
theorem zJc (r p e:Addr) {m:Str} (h1:¬m= "above") (h2:¬m= "pairs") (h3:¬m= "row"):(jf r p e).lookup m=none:=by
 unfold jf;rw [zAq,qAB h1,zAq,qAB h2,zAq,qAB h3];rfl
structure JC (K:PySem.W.Frag) (mg:Str->Option Value) (C:Addr):Prop where
 cl:Cls K C
 n_row:zFk K C "row"
 n_pairs:zFk K C "pairs"
 n_above:zFk K C "above"
 mgC:mg "Jobs" = some (.ref C)
structure JR where
 dx:Addr
 r:Addr
 p:Addr
 e:Addr
 ns:List Str
 zs:List (List Str×Addr)
 D:List Str
 fa:Str->Addr
 S:Str->List Str
variable {J:JR}
structure JobsAt (C:Addr) (H:Hp) (j:Addr) (J:JR):Prop where
 ob:H j=some (.ins C J.dx (jf J.r J.p J.e))
 row:Txs H J.r J.ns
 prs:Ords H J.p J.zs
 abv:H J.e=some (.dK (dT1 J.D fun n=>.ref (J.fa n)))
 all:∀n∈J.ns,n∈J.D
 sets:∀n∈J.D,SetD H (J.fa n) (J.S n)
 few:J.ns.length<=20
 zfew:J.zs.length<=306
 nd:J.ns.Nodup
 rise:(J.zs.map (·.1)).Pairwise fun a b=>ST.tlt a b=true
 zin:∀q∈J.zs,∀x∈q.1,x∈J.ns
 mem:∀n∈J.ns,∀x,x∈J.S n↔x∈told J.zs n\/∃m∈told J.zs n,x∈J.S m
theorem JobsAt.kp {M:List Addr} (A:JobsAt C H j J) (k:Kp M H H') (h:∀a o,H a=some o->a∈M->a≠j/\a≠J.r/\a≠J.p/\a≠J.e/\(∀q∈J.zs,a≠q.2)/\∀n∈J.D,a≠J.fa n):JobsAt C H' j J where
 ob:=k _ _ A.ob fun z=>(h _ _ A.ob z).1 rfl
 row:=k _ _ A.row fun z=>(h _ _ A.row z).2.1 rfl
 prs:=⟨k _ _ A.prs.top fun z=>(h _ _ A.prs.top z).2.2.1 rfl,fun q hq=>k _ _ (A.prs.row q hq) fun z=>(h _ _ (A.prs.row q hq) z).2.2.2.2.1 q hq rfl,A.prs.two⟩
 abv:=k _ _ A.abv fun z=>(h _ _ A.abv z).2.2.2.1 rfl
 all:=A.all
 sets:=fun n hn=>k _ _ (A.sets n hn) fun z=>(h _ _ (A.sets n hn) z).2.2.2.2.2 n hn rfl
 few:=A.few
 zfew:=A.zfew
 nd:=A.nd
 rise:=A.rise
 zin:=A.zin
 mem:=A.mem
theorem JobsAt.kp0 (A:JobsAt C H j J) (k:Kp [] H H'):JobsAt C H' j J:=A.kp k fun _ _ _ z=>nomatch z
section
def zIq (C:Addr):Sp:=fun vs H Q _=>∃(j:Addr) (J:JR),vs=[.ref j]/\JobsAt C H j J/\∀l H',Fre H l->Txs H' l J.ns->Kp [] H H'->Q (.ref l) H'
abbrev zDz:Stmt:=zFv (top 42) 1
theorem zIt:FnScope ["self"] ["self"] (zAd zDz):=fnS
theorem zI5 {f:Addr} (F:Fun K "names" "Jobs.names" zDz f fd) (T:Txt K mg) (U:JC K mg C):FnOk P w K mg base CX0 1 f fd ["self"] (zIq C):=by
 refine F.ok zIt (fun vs H Q E h=>?_) (fun cdv A outer s H vs Q E hr h=>?_)
 ·obtain ⟨j,J,rfl,_⟩:=h;rfl
 ·obtain ⟨j,J,rfl,A0,k⟩:=h;refine ⟨_,(zAe (zAk (zAv zBm (by rfl) T.z_list zCr (zAa (zDc (pv 0) rfl) zAb)))),?_⟩;refine ⟨_,rfl,_,_,_,_,_,rfl,A0.ob,U.cl,U.n_row,zIf _ _ _,_,_,rfl,.inl (SqL.of A0.row),fun l hl=>?_⟩;exact k l _ hl upd_same (Kp.new Kp.refl hl)
def spOrders (C:Addr):Sp:=fun vs H Q _=>∃(j:Addr) (J:JR),vs=[.ref j]/\JobsAt C H j J/\∀l H',Fre H l->Ords H' l J.zs->Kp [] H H'->Q (.ref l) H'
abbrev zDm:Stmt:=zFv (top 42) 2
theorem zHt:FnScope ["self"] ["self"] (zAd zDm):=fnS
theorem zHz {f:Addr} (F:Fun K "orders" "Jobs.orders" zDm f fd) (T:Txt K mg) (U:JC K mg C):FnOk P w K mg base CX0 1 f fd ["self"] (spOrders C):=by
 refine F.ok zHt (fun vs H Q E h=>?_) (fun cdv A outer s H vs Q E hr h=>?_)
 ·obtain ⟨j,J,rfl,_⟩:=h;rfl
 ·obtain ⟨j,J,rfl,A0,k⟩:=h;refine ⟨_,(zAe (zAk (zAv zBm (by rfl) T.z_list zCr (zAa (zDc (pv 0) rfl) zAb)))),?_⟩;refine ⟨_,rfl,_,_,_,_,_,rfl,A0.ob,U.cl,U.n_pairs,jf_pairs _ _ _,_,_,rfl,.inl (SqL.of A0.prs.top),fun l hl=>?_⟩;exact k l _ hl ⟨upd_same,fun q hq=>(Kp.new (M:=[]) Kp.refl hl) _ _ (A0.prs.row q hq) (by simp),A0.prs.two⟩ (Kp.new Kp.refl hl)
theorem abv_get (A:JobsAt C H j J) (hy:y∈J.ns):DGet H J.e (.str y) (some (.ref (J.fa y))):=by
 have:=DGet.k (k:=Sum.inr y) A.abv;rw [zBr,qAC (A.all y hy)] at this;exact this
theorem zG0 {B:List Str} (h:SetD H e B) (x:Str):∃o,DGet H e (.str x) o/\o.isSome=decide (x∈B):=⟨_,DGet.k (k:=Sum.inr x) h,zHm B _ x⟩
def spIsAhead (C:Addr):Sp:=fun vs H Q _=>∃(j:Addr) (J:JR) (x y:Str),vs=[.ref j,.str x,.str y]/\JobsAt C H j J/\x∈J.ns/\y∈J.ns/\Q (.bl (decide (x∈J.S y))) H
abbrev zCn:Stmt:=zFv (top 42) 3
theorem zF9:FnScope ["self", "one", "other"] ["self", "one", "other"] (zAd zCn):=fnS
theorem zGd {f:Addr} (F:Fun K "is_ahead" "Jobs.is_ahead" zCn f fd) (T:Txt K mg) (U:JC K mg C) (C_check_job:Cal P w K mg base "check_job" 2 ["names", "thing"] zEa):FnOk P w K mg base CX0 3 f fd ["self", "one", "other"] (spIsAhead C):=by
 refine F.ok zF9 (fun vs H Q E h=>?_) (fun cdv A outer s H vs Q E hr h=>?_)
 ·obtain ⟨j,J,x,y,rfl,_⟩:=h;rfl
 ·obtain ⟨j,J,x,y,rfl,A0,hx,hy,k⟩:=h;have HR_check_job:=hr;have hu:=zD6 hr
  refine ⟨_,(zAc (zA2 (zAg C_check_job HR_check_job rfl (zAa (zDc (pv 0) rfl) (zAa (pv 1) zAb))))
   (zAc (zA2 (zAg C_check_job HR_check_job rfl (zAa (zDc (pv 0) rfl) (zAa (pv 2) zAb))))
   (zAe (zAk (pe_cmp (zIc hu (pv 1) (zAz hu (zDc (pv 0) rfl) (pv 2) (fun _ _=>rfl)))))))),?_⟩
  refine ⟨_,rfl,_,_,_,_,_,rfl,A0.ob,U.cl,U.n_row,zIf _ _ _,_,rfl,x,_,_,rfl,A0.row,hx,?_⟩;refine ⟨_,rfl,_,_,_,_,_,rfl,A0.ob,U.cl,U.n_row,zIf _ _ _,_,rfl,y,_,_,rfl,A0.row,hy,?_⟩;obtain ⟨o,g1,g2⟩:=zG0 (A0.sets y (A0.all y hy)) x;refine ⟨_,rfl,_,rfl,_,_,_,_,_,rfl,A0.ob,U.cl,U.n_above,jf_above _ _ _,_,rfl,_,_,rfl,abv_get A0 hy,_,o,rfl,g1,?_⟩;rw [g2];exact k
end
section
theorem pe_fldK {K:PySem.W.Frag} {e:Expr} {f:Str} {pos:Pos} (he:PE X e ta) (hb:attributeBase e f X.env (eval e X.env)=eval e X.env) (hK:X.K=K:=by rfl):PE X (.Attribute e f pos) (tFld K ta f):=by
 subst hK;exact zDc he hb
theorem zB9 {p:α->Bool} {xs:List α} {x:α} (e:xs[i]?=some x) (h:p x=true):(xs.take (i+1)).filter p=(xs.take i).filter p++[x]:=by
 rw [zAh e,qB1,qBa,qAC h];rfl
theorem zC4 {p:α->Bool} {xs:List α} {x:α} (e:xs[i]?=some x) (h:¬p x=true):(xs.take (i+1)).filter p=(xs.take i).filter p:=by
 rw [zAh e,qB1,qBa,qAB h];simp
theorem zCi {p:α->Bool} {xs:List α} (h:xs.length<=4096):(((xs.take i).filter p)).length<sizeLine:=by
 have h1:=qBZ p (xs.take i);rw [qAW] at h1;rw [qAJ];lia
def zIr (C:Addr):Sp:=fun vs H Q _=>∃(j:Addr) (J:JR) (x:Str),vs=[.ref j,.str x]/\JobsAt C H j J/\x∈J.ns/\∀l H',Fre H l->Txs H' l (J.ns.filter fun n=>decide (x∈J.S n))->Kp [] H H'->Q (.ref l) H'
abbrev zCh:Stmt:=zFv (top 42) 4
theorem zHu:FnScope ["self", "name"] ["self", "name"] (zAd zCh):=fnS
theorem zH0 {f:Addr} (F:Fun K "behind" "Jobs.behind" zCh f fd) (T:Txt K mg) (U:JC K mg C) (C_check_job:Cal P w K mg base "check_job" 2 ["names", "thing"] zEa):FnOk P w K mg base CX0 3 f fd ["self", "name"] (zIr C):=by
 refine F.ok zHu (fun vs H Q E h=>?_) (fun cdv A outer s H vs Q E hr h=>?_)
 ·obtain ⟨j,J,x,rfl,_⟩:=h;rfl
 ·obtain ⟨j,J,x,rfl,A0,hx,k⟩:=h;have HR_check_job:=hr;have hu:=zD6 hr
  refine ⟨_,(zAc (zA2 (zAg C_check_job HR_check_job rfl (zAa (zDc (pv 0) rfl) (zAa (pv 1) zAb))))
   (zAe (zAk (zA3 rfl (zA4 (sc:=zAd zCh) rfl (by decide +kernel)) (Draws.own (x:= "other") (dtk (i:=1) rfl (dtk (i:=0) rfl Draws.nil))) (zAo (zDc (pv 0) rfl)) (fun _ _ _ _=>(pgB (i:=0))) (fun _ _ _ _=>(zB6 (zD0 (zIc hu (pv 1) (zAz hu (pe_fldK (K:=K) (pv 2) rfl) (pv 0) (fun _ _=>rfl)))))) (fun _ _ _ _=>(pv 0)))))),?_⟩
  refine ⟨_,rfl,_,_,_,_,_,rfl,A0.ob,U.cl,U.n_row,zIf _ _ _,_,rfl,x,_,_,rfl,A0.row,hx,?_⟩
  refine ⟨_,rfl,_,_,_,_,_,rfl,A0.ob,U.cl,U.n_row,zIf _ _ _,_,rfl,⟨_,SqL.of A0.row⟩,fun B hB=>zBl (J.ns.map V.str) (fun i ys τ H3=>(∃o0,τ=[o0,some (.str x),some (.ref j)])/\ys=((J.ns.take i).filter fun n=>decide (x∈J.S n)).map V.str/\H3=upd H B (.lst ys))
   ⟨⟨_,rfl⟩,rfl,rfl⟩ (fun i ys τ H3 ⟨_,_,z⟩=>by subst z;exact SqL.of ((Kp.new (M:=[]) Kp.refl hB) _ _ A0.row (by simp))) ?_ ?_⟩
  ·rintro i v ys τ H3 hv ⟨⟨o0,rfl⟩,rfl,rfl⟩;obtain ⟨n,en,rfl⟩:=zAw hv;have mn:=qAI en;have A3:=A0.kp0 (Kp.new (l:=B) (o:=.lst (((J.ns.take i).filter fun n=>decide (x∈J.S n)).map V.str)) Kp.refl hB);obtain ⟨o,g1,g2⟩:=zG0 (A3.sets n (A3.all n mn)) x;refine ⟨_,rfl,_,rfl,_,_,_,_,_,rfl,A3.ob,U.cl,U.n_above,jf_above _ _ _,_,rfl,_,_,rfl,abv_get A3 mn,_,o,rfl,g1,_,rfl,?_⟩;rw [g2];refine ite2 (fun c=>?_) (fun c=>?_)
   ·refine ⟨_,rfl,upd_same,?_,⟨_,rfl⟩,?_,zBh⟩
    ·rw [qAD];exact zCi (by have:=A0.few;lia)
    ·rw [zB9 en c,qAQ];rfl
   ·refine ⟨⟨_,rfl⟩,?_,?_⟩
    ·rw [zC4 en c]
    ·rfl
  ·rintro ys τ H3 ⟨_,rfl,rfl⟩;have eT:J.ns.take (J.ns.map V.str).length=J.ns:=by rw [qAD,qAd]
   rw [eT];exact k B _ hB upd_same (Kp.new Kp.refl hB)
end
theorem zGo (f:Str) (v:V):∀fs:List (Str×V),(putF f v fs).length<=fs.length+1
 | []=>qAG _
 | (g,x)::r=>by
  unfold putF;split
  ·exact qB9 _
  ·have:=zGo f v r;simp only [qAb];lia
theorem zIk {P:Program} {w:World} {K:PySem.W.Frag} {k:Nat} (hr:Room k X.A) (hP:X.prog=P:=by rfl) (hw:X.w=w:=by rfl) (hK:X.K=K:=by rfl):zDt X (.type "set") (fun xs H Q=>∃(l:Addr) (ks:List (List Str×Addr)),xs=[.ref l]/\SqL K H l (ks.map fun p=>V.ref p.2)/\(∀p∈ks,RowT K H p)/\ks.length<=306 /\
  ∀a ys,H a=none->(∀p∈ys,p∈ks)->(∀p∈ks,p.1∈ys.map (·.1))->(ys.map (·.1)).Nodup->ys.length<=ks.length->Q (.ref a) (upd H a (TSt P w a ys))):=by
 subst hP hw hK;exact call_setT hr
theorem zEk {P:Program} {w:World} {K:PySem.W.Frag} {k:Nat} (hr:Room k X.A) (hP:X.prog=P:=by rfl) (hw:X.w=w:=by rfl) (hK:X.K=K:=by rfl):zDt X (.builtin "sorted") (fun xs H Q=>∃(a:Addr) (ys:List (List Str×Addr)),xs=[.ref a]/\H a=some (TSt P w a ys)/\(∀p∈ys,RowT K H p)/\(∀p∈ys,p.1≠[])/\ys.length<=306 /\
  ∀b zs,H b=none->zs.Perm ys->RiseT zs->Q (.ref b) (upd H b (.lst (zs.map fun p=>V.ref p.2)))):=by
 subst hP hw hK;exact zJj hr
theorem zIz {K:PySem.W.Frag} {es:List Expr} {k:Nat} {t:TGs} {n:Nat} {pos:Pos} (hc:X.calm=true) (h:PGs X es t)
  (hn:(assignEach es X.env).length=n:=by rfl) (hst:(assignEach es X.env).findIdx? (·.1)=none:=by rfl) (hK:X.K=K:=by rfl):PG X (.Tuple es k pos) (gTup K n t):=by
 subst hK;exact pg_tup hc h hn hst
theorem zGq :x∈told qs n↔∃q∈qs,snd q=n/\fst q=x:=by
 unfold told;simp only [qAM,qA5,qCP];exact ⟨fun ⟨q,⟨a,b⟩,c⟩=>⟨q,a,b,c⟩,fun ⟨q,a,b,c⟩=>⟨q,⟨a,b⟩,c⟩⟩
theorem fst_of {q q':List Str×Addr} (h:q.1=q'.1):fst q=fst q'/\snd q=snd q':=by unfold fst snd;rw [h];exact ⟨rfl,rfl⟩
section
structure Good (ns:List Str) (qs:List (List Str×Addr)) (r:Str->Nat):Prop where
 nm:∀n∈ns,zH3 n
 nd:ns.Nodup
 few:ns.length<=20
 qfew:qs.length<=306
 qin:∀q∈qs,∀x∈q.1,x∈ns
 rk:∀q∈qs,r (fst q)<r (snd q)
structure JNew (H:Hp) (J:JR):Prop where
 r:Fre H J.r
 p:Fre H J.p
 e:Fre H J.e
 z:∀q∈J.zs,Fre H q.2
 s:∀n∈J.D,Fre H (J.fa n)
def spInit (C:Addr):Sp:=fun vs H Q _=>∃(x dx l m:Addr) (ns:List Str) (qs:List (List Str×Addr)) (r:Str->Nat),vs=[.ref x,.ref l,.ref m]/\H x=some (.ins C dx [])/\Txs H l ns/\Ords H m qs/\Good ns qs r /\
 ∀J H',JobsAt C H' x J->JNew H J->J.ns=ns->(∀k,k∈J.zs.map (·.1)↔k∈qs.map (·.1))->Kp [x] H H'->Q .non H'
abbrev zB3:Stmt:=zFv (top 42) 0
theorem zGa:FnScope ["self", "names", "orders"] ["self", "names", "orders"] (zAd zB3):=fnS
theorem ok_Jobs_init {f:Addr} (F:Fun K "__init__" "Jobs.__init__" zB3 f fd) (T:Txt K mg) (U:JC K mg C) (C_check_names:Cal P w K mg base "check_names" 2 ["names"] zFz) (C_check_parts:Cal P w K mg base "check_parts" 3 ["names", "orders"] zFy)
  (C_all_ahead:Cal P w K mg base "all_ahead" 2 ["names", "told"] zH7) (C_told_ahead:Cal P w K mg base "told_ahead" 1 ["names", "orders"] zGw):FnOk P w K mg base CX0 4 f fd ["self", "names", "orders"] (spInit C):=by
 refine F.ok zGa (fun vs H Q E h=>?_) (fun cdv A outer s H vs Q E hr h=>?_)
 ·obtain ⟨x,dx,l,m,ns,qs,r,rfl,_⟩:=h;rfl
 ·obtain ⟨x,dx,l,m,ns,qs,r,rfl,hx,hl,hm,G,k⟩:=h;have HR_check_parts:=hr;have HR_check_names:=hr.mono (j:=2) (by decide);have HR_all_ahead:=hr.mono (j:=2) (by decide);have HR_told_ahead:=hr.mono (j:=1) (by decide)
  refine ⟨_,(zAc (zA2 (zAg C_check_names HR_check_names rfl (zAa (pv 1) zAb)))
   (zAc (zA2 (zAg C_check_parts HR_check_parts rfl (zAa (pv 1) (zAa (pv 2) zAb))))
   (zAc (ps_fld (pv 0) (zAv zBm (by rfl) T.z_list zCr (zAa (pv 1) zAb)) rfl)
   (zAc (ps_fld (pv 0) (zAi (zEk (P:=P) (w:=w) (K:=K) HR_told_ahead) (by rfl) T.z_sorted zFh (zAa (zAv (zIk (P:=P) (w:=w) (K:=K) HR_told_ahead) (by rfl) T.z_set bo_set (zAa (zA3 rfl (zA4 (sc:=zAd zB3) rfl (by decide +kernel)) (Draws.own (x:= "one") (Draws.own (x:= "other") Draws.nil)) (zAo (pv 2)) (fun _ _ _ _=>(zIz (K:=K) (n:=2) rfl (zBd (pgB (i:=0)) (zBd (pgB (i:=1)) zEo)))) (fun _ _ _ _=>zB4) (fun _ _ _ _=>(zDv (zAa (pv 0) (zAa (pv 1) zAb))))) zAb)) zAb)) rfl)
   (zAe (ps_fld (pv 0) (zAg C_all_ahead HR_all_ahead rfl (zAa (zDc (pv 0) rfl) (zAa (zAg C_told_ahead HR_told_ahead rfl (zAa (zDc (pv 0) rfl) (zAa (zDc (pv 0) rfl) zAb))) zAb))) rfl)))))),?_⟩
  refine ⟨_,rfl,l,ns,rfl,hl,G.few,G.nm,G.nd,fun H1 k1=>?_⟩;have hm1:=hm.kp k1 (by simp) (by simp);refine ⟨_,rfl,_,rfl,l,m,ns,qs,rfl,k1 l _ hl (by simp),hm1,G.qin,?_⟩;have hx1:=k1 x _ hx (by simp);refine ⟨_,rfl,_,_,rfl,.inl (SqL.of (k1 l _ hl (by simp))),fun r1 hr1=>?_⟩;have nxr:x≠r1:=ne_fre hr1 hx1;refine ⟨_,rfl,_,_,_,_,rfl,(upd_ne nxr).trans hx1,U.cl,U.n_row,(by decide),?_⟩
  have hm2:∀o1 o2,Ords (upd (upd H1 r1 o1) x o2) m qs:=fun o1 o2 =>
   ⟨(upd_ne (zBq hm1.top hx1 (fun z=>nomatch z))).trans ((upd_ne (ne_fre hr1 hm1.top)).trans hm1.top),fun q hq=>(upd_ne (zBq (hm1.row q hq) hx1 (fun z=>nomatch z))).trans ((upd_ne (ne_fre hr1 (hm1.row q hq))).trans (hm1.row q hq)),hm1.two⟩
  have hrow2:∀o2,Txs (upd (upd H1 r1 (.lst (ns.map V.str))) x o2) r1 ns:=fun o2=>(upd_ne nxr.symm).trans upd_same;have k2:∀o1 o2,Kp [x] H (upd (upd H1 r1 o1) x o2):=fun o1 o2=>Kp.put (Kp.new (k1.weak (by simp)) (k1.fre hr1 (by simp))) (by simp);have hx2:∀o1 o2,(upd (upd H1 r1 o1) x o2) x=some o2:=fun o1 o2=>upd_same;have hm2:=hm2 (.lst (ns.map V.str)) (.ins C dx (putF "row" (.ref r1) []));have hrow2:=hrow2 (.ins C dx (putF "row" (.ref r1) []));have k2:=k2 (.lst (ns.map V.str)) (.ins C dx (putF "row" (.ref r1) []));have hx2:=hx2 (.lst (ns.map V.str)) (.ins C dx (putF "row" (.ref r1) []));generalize hH2:upd (upd H1 r1 (.lst (ns.map V.str))) x (.ins C dx (putF "row" (.ref r1) []))=H2 at hm2 hrow2 k2 hx2 ⊢
  refine ⟨_,rfl,_,rfl,⟨_,SqL.of hm2.top⟩,fun B hB=>zA1 (qs.map fun q=>V.ref q.2) (fun i ys τ H3=>∃ks:List (List Str×Addr),(∃o0 o1,τ=[o0,o1])/\ys=(ks.map fun q=>V.ref q.2)/\ks.map (·.1)=(qs.take i).map (·.1)/\(∀q∈ks,H3 q.2=some (.tup (q.1.map V.str)))/\(∀q∈ks,Fre H2 q.2)/\Kp [] H2 H3/\H3 B=some (.lst ys))
   ⟨[],⟨_,_,rfl⟩,rfl,rfl,(fun q h=>nomatch h),(fun q h=>nomatch h),Kp.new Kp.refl hB,upd_same⟩ (fun i ys τ H3 ⟨_,_,_,_,_,_,k3,_⟩=>SqL.of (k3 m _ hm2.top (by simp))) ?_ ?_⟩
  ·rintro i v ys τ H3 hv ⟨ks,⟨o0,o1,rfl⟩,rfl,ek,hk,fk,k3,h3⟩;obtain ⟨q,eq,rfl⟩:=zG5 hv;have mq:=qAI eq;obtain ⟨a,b,eab⟩:=hm2.two q mq
   have hrow:H3 q.2=some (.tup [.str a,.str b]):=by
    have:=k3 q.2 _ (hm2.row q mq) (by simp);rw [eab] at this;exact this
   refine ⟨_,_,rfl,.inl (.inl hrow),rfl,_,_,rfl,_,_,rfl,rfl,?_⟩;have hlen:ks.length=(qs.take i).length:=by have:=qAg List.length ek;simpa using this
   refine ⟨_,rfl,_,rfl,(by walk_at "ln"),fun t ht=>?_⟩;have ft:Fre H3 t:=ht;have nBt:B≠t:=ne_fre ft h3;refine ⟨(upd_ne nBt).trans h3,?_,ks++[([a,b],t)],⟨_,_,rfl⟩,?_,?_,fun q' hq'=>?_,fun q' hq'=>?_,?_,?_⟩
   ·rw [qAD,hlen,qAW,qAJ];have:=G.qfew;lia
   ·rw [qAQ];rfl
   ·rw [qAQ,ek,zAh eq,qAQ,qAk,qAk,eab]
   ·rcases qAK.mp hq' with z| z
    ·exact (upd_ne (zBq (hk q' z) h3 (fun y=>nomatch y))).trans ((upd_ne (ne_fre ft (hk q' z))).trans (hk q' z))
    ·rw [qAR.mp z];exact (upd_ne nBt.symm).trans upd_same
   ·rcases qAK.mp hq' with z| z
    ·exact fk q' z
    ·rw [qAR.mp z];exact k3.fre ft (by simp)
   ·exact Kp.new (Kp.new k3 (k3.fre ft (by simp))) hB
   ·exact upd_same
  ·rintro ys τ H3 ⟨ks,_,rfl,ek,hk,fk,k3,h3⟩;have eT:qs.take (qs.map fun q=>V.ref q.2).length=qs:=by rw [qAD,qAd]
   rw [eT] at ek;have hlen:ks.length=qs.length:=by have:=qAg List.length ek;simpa using this
   have ktwo:∀q∈ks,∃a b,q.1=[a,b]:=fun q hq=>by
    have:q.1∈ks.map (·.1):=qAM.mpr ⟨q,hq,rfl⟩;rw [ek] at this;obtain ⟨q',hq',e⟩:=qAM.mp this;rw [<-e];exact hm2.two q' hq'
   refine ⟨B,ks,rfl,SqL.of h3,fun q hq=>.inl (.inl (hk q hq)),by rw [hlen];exact G.qfew,fun sa yk hsa y1 y2 y3 y4=>?_⟩;have fsa:Fre H3 sa:=hsa;refine ⟨sa,yk,rfl,upd_same,fun q hq=>.inl (.inl ((upd_ne (ne_fre fsa (hk q (y1 q hq)))).trans (hk q (y1 q hq)))),fun q hq=>?_,by have:=G.qfew;lia,fun p zs hp z1 z2=>?_⟩
   ·obtain ⟨a,b,e⟩:=ktwo q (y1 q hq);rw [e];simp
   have fp:Fre (upd H3 sa (TSt P w sa yk)) p:=hp;have zk:∀q∈zs,q∈ks:=fun q hq=>y1 q (z1.mem_iff.mp hq)
   have zq:∀q∈zs,∃q'∈qs,q'.1=q.1:=fun q hq=>by
    have:q.1∈ks.map (·.1):=qAM.mpr ⟨q,zk q hq,rfl⟩;rw [ek] at this;exact qAM.mp this
   have zin:∀q∈zs,∀x∈q.1,x∈ns:=fun q hq x hx=>by
    obtain ⟨q',h1,h2⟩:=zq q hq;exact G.qin q' h1 x (by rw [h2];exact hx)
   have zrk:∀q∈zs,r (fst q)<r (snd q):=fun q hq=>by
    obtain ⟨q',h1,h2⟩:=zq q hq;obtain ⟨e1,e2⟩:=fst_of h2;rw [<-e1,<-e2];exact G.rk q' h1
   have zlen:zs.length<=306:=by rw [z1.length_eq];have:=G.qfew;lia
   have z3:(zs.map (·.1)).Pairwise fun a b=>ST.tlt a b=true:=ST.strict_of (qBx.mpr z2) ((z1.map (·.1)).nodup_iff.mpr y3)
   have zset:∀k,k∈zs.map (·.1)↔k∈qs.map (·.1):=fun k=>by
    rw [<-ek,(z1.map (·.1)).mem_iff]
    exact ⟨fun h=>by
     obtain ⟨q,h1,h2⟩:=qAM.mp h;exact qAM.mpr ⟨q,y1 q h1,h2⟩,fun h=>by
     obtain ⟨q,h1,h2⟩:=qAM.mp h;rw [<-h2];exact y2 q h1⟩
   have k4:Kp [] H2 (upd (upd H3 sa (TSt P w sa yk)) p (.lst (zs.map fun q=>V.ref q.2))):=by
    have h1:Kp [] H2 (upd H3 sa (TSt P w sa yk)):=Kp.new k3 (k3.fre fsa (by simp));exact Kp.new h1 (h1.fre fp (by simp))
   have hzs4:Ords (upd (upd H3 sa (TSt P w sa yk)) p (.lst (zs.map fun q=>V.ref q.2))) p zs:=⟨upd_same,fun q hq=>by
    have h1:upd H3 sa (TSt P w sa yk) q.2=some (.tup (q.1.map V.str)):=(upd_ne (ne_fre fsa (hk q (zk q hq)))).trans (hk q (zk q hq));exact (upd_ne (ne_fre fp h1)).trans h1,fun q hq=>ktwo q (zk q hq)⟩
   generalize hH4:upd (upd H3 sa (TSt P w sa yk)) p (.lst (zs.map fun q=>V.ref q.2))=H4 at k4 hzs4 ⊢;have hx4:=k4 x _ hx2 (by simp);refine ⟨_,rfl,_,_,_,_,rfl,hx4,U.cl,U.n_pairs,(by have:=zGo "row" (V.ref r1) [];simp only [qBH] at this;lia),?_⟩;have hx5:(upd H4 x (.ins C dx (putF "pairs" (.ref p) (putF "row" (.ref r1) [])))) x=some (.ins C dx (putF "pairs" (.ref p) (putF "row" (.ref r1) []))):=upd_same;have hrow5:Txs (upd H4 x (.ins C dx (putF "pairs" (.ref p) (putF "row" (.ref r1) [])))) r1 ns:=(upd_ne nxr.symm).trans (k4 r1 _ hrow2 (by simp));have hzs5:Ords (upd H4 x (.ins C dx (putF "pairs" (.ref p) (putF "row" (.ref r1) [])))) p zs:=⟨(upd_ne (zBq hzs4.top hx4 (fun z=>nomatch z))).trans hzs4.top,fun q hq=>(upd_ne (zBq (hzs4.row q hq) hx4 (fun z=>nomatch z))).trans (hzs4.row q hq),hzs4.two⟩;have k5:Kp [x] H (upd H4 x (.ins C dx (putF "pairs" (.ref p) (putF "row" (.ref r1) [])))):=Kp.put (k2.trans (k4.weak (by simp))) (by simp);generalize hH5:upd H4 x (.ins C dx (putF "pairs" (.ref p) (putF "row" (.ref r1) [])))=H5 at hx5 hrow5 hzs5 k5 ⊢
   have e_row:(putF "pairs" (.ref p) (putF "row" (.ref r1) [])).lookup ("row" : Str)=some (.ref r1):=by
    rw [zAq,qAB (by decide +kernel),zAq,qAC rfl]
   have e_prs:(putF "pairs" (.ref p) (putF "row" (.ref r1) [])).lookup ("pairs" : Str)=some (.ref p):=by
    rw [zAq,qAC rfl]
   refine ⟨_,rfl,_,_,_,_,_,rfl,hx5,U.cl,U.n_row,e_row,_,rfl,_,_,_,_,_,rfl,hx5,U.cl,U.n_row,e_row,_,rfl,_,_,_,_,_,rfl,hx5,U.cl,U.n_pairs,e_prs,r1,p,ns,zs,rfl,hrow5,hzs5,G.nd,G.few,by lia,zin,fun d la H6 DD k6=>?_⟩;refine ⟨r1,d,ns,la,told zs,r,rfl,k6 r1 _ hrow5 (by simp),G.nd,G.few,DD.top,fun n hn=>⟨DD.row n hn,qAY (told_len zs n) (by lia),fun y hy=>?_⟩,fun e D fa S H7 FF all k7=>?_⟩
   ·obtain ⟨q,h1,h2,h3⟩:=zGq.mp hy;obtain ⟨a,b,eab⟩:=hzs5.two q h1;refine ⟨?_,by rw [<-h2,<-h3];exact zrk q h1⟩;rw [<-h3];refine zin q h1 _ ?_;unfold fst;rw [eab];simp
   have k57:Kp [] H5 H7:=k6.trans k7;have hx7:=k57 x _ hx5 (by simp);refine ⟨_,rfl,_,_,_,_,rfl,hx7,U.cl,U.n_above,?_,?_⟩
   ·have h1:=zGo "row" (V.ref r1) [];have h2:=zGo "pairs" (V.ref p) (putF "row" (V.ref r1) []);simp only [qBH] at h1;lia
   have f2H:∀a,Fre H2 a->Fre H a:=fun a ha=>k2.fre ha (nm1 fun z=>by
    subst z;have:H2 a=some _:=hx2;unfold Fre at ha;rw [ha] at this;exact nomatch this)
   have k3p:Kp [] H2 (upd H3 sa (TSt P w sa yk)):=Kp.new k3 (k3.fre fsa (by simp));have fpx:Fre H2 p:=k3p.fre fp (by simp)
   have f52:∀a,Fre H5 a->Fre H2 a:=fun a ha=>by
    have h1:Fre H4 a:=by
     have nax:a≠x:=fun z=>by
      subst z;unfold Fre at ha;rw [ha] at hx5;exact nomatch hx5
     have:H5 a=H4 a:=by rw [<-hH5];exact upd_ne nax
     unfold Fre at ha ⊢;rw [<-this];exact ha
    exact k4.fre h1 (by simp)
   have fex:Fre H2 e:=f52 e (k6.fre FF.fr (by simp));have ffx:∀n∈D,Fre H2 (fa n):=fun n hn=>f52 _ (k6.fre (FF.frs n hn) (by simp));refine k ⟨dx,r1,p,e,ns,zs,D,fa,S⟩ _ ⟨upd_same,?_,⟨?_,fun q hq=>?_,hzs5.two⟩,?_,all,fun n hn=>?_,G.few,zlen,G.nd,z3,zin,fun n hn y=>FF.mem n (all n hn) y⟩ ⟨k1.fre hr1 (by simp),f2H p fpx,f2H e fex,fun q hq=>f2H q.2 (fk q (zk q hq)),fun n hn=>f2H _ (ffx n hn)⟩ rfl zset (Kp.put (k5.trans (k57.weak (by simp))) (by simp))
   ·exact (upd_ne nxr.symm).trans (k57 r1 _ hrow5 (by simp))
   ·have h1:=k57 p _ hzs5.top (by simp);exact (upd_ne (zBq h1 hx7 (fun z=>nomatch z))).trans h1
   ·have h1:=k57 _ _ (hzs5.row q hq) (by simp);exact (upd_ne (zBq h1 hx7 (fun z=>nomatch z))).trans h1
   ·exact (upd_ne (zBq FF.top hx7 (fun z=>nomatch z))).trans FF.top
   ·exact (upd_ne (zBq (FF.row n hn) hx7 (fun z=>nomatch z))).trans (FF.row n hn)
end
def zBy:List Str:=zD4.cps.toList.map fun c=>⟨#[c]⟩
theorem zEm:zBy.length=26:=by
 unfold zBy;rw [zD3];simp
theorem singles_nd:zBy.Nodup:=by decide +kernel
theorem single_ok (h:x∈zBy):zH3 x:=by
 unfold zBy at h;rw [zD3] at h;obtain ⟨c,hc,rfl⟩:=qAM.mp h;obtain ⟨i,hi,rfl⟩:=qAM.mp hc;have:=qBF.mp hi;refine ⟨qAG 1,by show 1<=8;decide,fun d hd=>?_⟩;have:d=97+i:=by simpa using hd
 lia
theorem some_single {found:List Str} (h:found.length<=20):(zBy.filter fun x=>decide (x∉found))≠[]:=fun z=>by
 have:zBy.length<=found.length:=zAs singles_nd fun x hx=>by
  apply qA3;intro y;have:x∈zBy.filter fun x=>decide (x∉found):=qA5.mpr ⟨hx,qAf y⟩;rw [z] at this;exact nomatch this
 rw [zEm] at this;lia
section
def spLNames:Sp:=fun vs H Q _=>∃(p:Addr) (m:Int),vs=[.ref p,.int m]/\zA6 H p/\0<=m/\m<=20/\∀(l:Addr) (ns:List Str) (H':Hp),Fre H l->Txs H' l ns->ns.length=m.toNat->ns.Nodup->(∀n∈ns,zH3 n)->zA6 H' p->Kp [p] H H'->Q (.ref l) H'
abbrev zIu:Stmt:=top 47
theorem zCu:FnScope ["_law_purse_here", "_law_many", "_law_letters", "_law_found", "_law_k", "_law_word", "_law_j"] ["_law_purse_here", "_law_many"] (zAd zIu):=fnS
theorem ok_names {f:Addr} (F:Fun K "_law_names" "_law_names" zIu f fd) (T:Txt K mg) (C_take:Cal P w K mg base "_law_take" 1 ["_law_purse_here", "_law_many"] zGx):FnOk P w K mg base CX0 2 f fd ["_law_purse_here", "_law_many"] spLNames:=by
 refine F.ok zCu (fun vs H Q E h=>?_) (fun cdv A outer s H vs Q E hr h=>?_)
 ·obtain ⟨p,m,rfl,_⟩:=h;rfl
 ·obtain ⟨p,m,rfl,hP,h0,h1,k⟩:=h;have HR_take:=hr
  refine ⟨_,(zAc (psS (i:=2) zCu.nd zB1)
   (zAc (psS (i:=3) zCu.nd (zBe zAb))
   (zAc (zA8 qAi rfl (zDa rfl T.z_range (zAa (pv 1) zAb)) (pgN (i:=4) zCu.nd)
    (zAc (psS (i:=5) zCu.nd zB1)
    (zAc (zA8 qAi rfl (zDa rfl T.z_range (zAa (zAp zBj zAf (zAp zE2 (zAg C_take HR_take rfl (zAa (pv 0) (zAa zAf zAb))) (zAg C_take HR_take rfl (zAa (pv 0) (zAa zAf zAb))))) zAb)) (pgN (i:=6) zCu.nd)
     (zAe (psS (i:=5) zCu.nd (zAp op_add_str (pv 5) (zAy ix_str (pv 2) (zAg C_take HR_take rfl (zAa (pv 0) (zAa zAf zAb))) (fun _ _=>rfl))))))
    (zAc (zA9 (zAj zG7 (pv 5) (pv 3) (by rfl))
     (zAe (psS (i:=5) zCu.nd (zAy zBb (zA3 rfl (zA4 (sc:=zAd zIu) rfl (by decide +kernel)) (Draws.own (x:= "_law_letter") (dtk (i:=3) rfl Draws.nil)) (pi_str (pv 2)) (fun _ _ _ _=>(pgB (i:=0))) (fun _ _ _ _=>(zB6 (zAj (zI1 (K:=K)) (pv 0) (pv 1) (by rfl)))) (fun _ _ _ _=>(pv 0))) zAf (fun _ _=>rfl))))
     zAn)
    (zAe (zA2 (zGb qBA qCv qCw zDe (pv 3) (zAa (pv 5) zAb))))))))
   (zAe (zAk (pv 3)))))),?_⟩
  refine ⟨(by walk_at "ln"),fun l hl=>?_⟩;have fl:Fre H l:=hl;have npl:p≠l:=by obtain ⟨a,b,e,_⟩:=hP;exact ne_fre fl e
  have hP1:zA6 (upd H l (.lst [])) p:=hP.kp (M:=[]) (Kp.new Kp.refl fl) (by simp)
  refine ⟨_,rfl,_,rfl,by lia,by lia,zCb (lo:=0) (n:=m.toNat) (fun i σ H2=>∃(o4 o5 o6:Option V) (ws:List Str),σ=[some (.ref p),some (.int m),some (.str zD4),some (.ref l),o4,o5,o6]/\zA6 H2 p/\Kp [p] H H2/\Txs H2 l ws/\ws.length=i/\ws.Nodup/\∀s∈ws,zH3 s)
   ⟨none,none,none,[],rfl,hP1,Kp.new Kp.refl fl,upd_same,rfl,qBL,fun s h=>nomatch h⟩ ?_ ?_⟩
  ·rintro i σ H2 hi ⟨o4,o5,o6,ws,rfl,P2,K2,R2,e2,n2,q2⟩;refine ⟨_,rfl,p,2,rfl,P2,by decide,by decide,fun d1 H3 a0 a1 P3 K3=>?_⟩;refine ⟨_,rfl,p,8,rfl,P3,by decide,by decide,fun d2 H4 b0 b1 P4 K4=>?_⟩;have hm0:0<=d1*d2:=Int.mul_nonneg a0 b0
   have hm1:d1*d2<=7:=by
    have:d1*d2<=1*7:=Int.mul_le_mul (by lia) (by lia) b0 (by decide);lia
   have K24:Kp [p] H2 H4:=K3.trans K4
   refine ⟨_,_,rfl,rfl,(by walk_at "ml"),_,_,rfl,rfl,_,rfl,by lia,by lia,zCb (lo:=0) (n:=(1+d1*d2).toNat) (fun n σ H7=>∃(o4 o6:Option V) (x:Str),σ=[some (.ref p),some (.int m),some (.str zD4),some (.ref l),o4,some (.str x),o6]/\zA6 H7 p/\Kp [p] H2 H7/\WordS n x)
    ⟨_,_,_,rfl,P4,K24,rfl,(fun c h=>absurd (show c∈([]:List Nat) from h) (by simp))⟩ ?_ ?_⟩
   ·rintro n σ H7 hn ⟨o4,o6,x,rfl,P8,K7,W⟩;refine ⟨_,rfl,_,rfl,_,rfl,p,26,rfl,P8,by decide,by decide,fun d4 H8 e0 e1 P9 K8=>?_⟩;refine ⟨_,_,_,rfl,rfl,by decide,letters_at e0 e1,_,_,rfl,rfl,?_,?_⟩
    ·rw [W.1];show n+1<=sizeLine;rw [qAJ];lia
    ·exact ⟨_,_,_,rfl,P9,K7.trans K8,W.more (by lia) (by lia)⟩
   ·rintro σ H7 ⟨o4,o6,x,rfl,P8,K7,W⟩;have h7:Txs H7 l ws:=K7 l _ R2 (nm1 npl.symm);have NX:zH3 x:=⟨by have:=W.1;lia,by have:=W.1;lia,W.2⟩;refine ⟨_,rfl,_,rfl,_,_,rfl,.inl (SqL.of h7),rfl,zFc ws,_,rfl,?_⟩;rw [qAB (by decide),zJe];refine if_mid (fun σ H8=>∃(y:Str),σ=[some (.ref p),some (.int m),some (.str zD4),some (.ref l),o4,some (.str y),o6]/\Kp [] H7 H8/\zH3 y/\y∉ws) (fun N hN=>ite2 (fun c=>?_) (fun c=>?_)) ?_
    ·-- _law_word=[..][0]
     refine ⟨_,rfl,_,rfl,fun B hB=>comp_str (z:=zD4) (fun i ys τ H8=>(∃o0,τ=[o0,some (.ref l)])/\ys=((zBy.take i).filter fun x=>decide (x∉ws)).map V.str/\H8=upd H7 B (.lst ys)) ⟨⟨_,rfl⟩,rfl,rfl⟩ ?_ ?_⟩
     ·rintro i c ys τ H8 hc ⟨⟨o0,rfl⟩,rfl,rfl⟩;have en:zBy[i]?=some ⟨#[c]⟩:=by unfold zBy;rw [qAX,hc];rfl
      refine ⟨_,rfl,_,rfl,_,_,rfl,.inl (SqL.of ((upd_ne (ne_fre (show Fre H7 B from hB) h7)).trans h7)),rfl,zFc ws,_,rfl,?_⟩;rw [qAC rfl,zJe]
      have ed:(!decide ((⟨#[c]⟩:Str)∈ws))=decide ((⟨#[c]⟩:Str)∉ws):=by
       by_cases z:(⟨#[c]⟩:Str)∈ws
       ·simp [z]
       ·simp [z]
      rw [ed];refine ite2 (fun c=>?_) (fun c=>?_)
      ·refine ⟨_,rfl,upd_same,?_,⟨_,rfl⟩,?_,zBh⟩
       ·rw [qAD];exact zCi (by rw [zEm];decide)
       ·rw [zB9 (p:=fun x=>decide (x∉ws)) en c,qAQ];rfl
      ·refine ⟨⟨_,rfl⟩,?_,?_⟩
       ·rw [zC4 (p:=fun x=>decide (x∉ws)) en c]
       ·rfl
     ·rintro ys τ H8 ⟨_,rfl,rfl⟩;have eT:zBy.take zD4.length=zBy:=qBD (by rw [zEm];decide);rw [eT];have hne:=some_single (found:=ws) (by lia)
      have hmm:∀y,y∈(zBy.filter fun x=>decide (x∉ws))->zH3 y/\y∉ws:=fun y hy=>by
       have:=qA5.mp hy;exact ⟨single_ok this.1,qBY this.2⟩
      generalize (zBy.filter fun x=>decide (x∉ws))=L at hne hmm
      obtain ⟨y,r,rfl⟩:∃y r,L=y::r:=by
       cases L with
       | nil=>exact absurd rfl hne
       | cons y r=>exact ⟨y,r,rfl⟩
      refine ⟨_,_,_,.str y,rfl,rfl,SqL.of upd_same,zFi (by decide) rfl,?_⟩;exact hN _ _ ⟨y,rfl,Kp.new Kp.refl hB,(hmm y qAa).1,(hmm y qAa).2⟩
    ·exact hN _ _ ⟨x,rfl,Kp.refl,NX,fun z=>c (qAf z)⟩
    ·rintro σ H8 ⟨y,rfl,K8,NY,ny⟩;have h8:Txs H8 l ws:=K8 l _ h7 (by simp);refine ⟨_,rfl,.inl ⟨rfl,_,SqL.of h8⟩,_,rfl,_,_,_,rfl,rfl,h8,?_,?_⟩
     ·rw [qAJ,qAD];lia
     ·refine ⟨_,_,_,ws++[y],rfl,(P8.kp K8 (by simp)).kp (M:=[l]) (Kp.put Kp.refl (by simp)) (nm1 npl),Kp.new (K2.trans (K7.trans (K8.weak (by simp)))) fl,?_,by simp [e2],?_,fun s hs=>?_⟩
      ·show upd H8 l _ l=some (.lst ((ws++[y]).map V.str));rw [upd_same,qAQ];rfl
      ·refine qBd.mpr ⟨n2,by simp,fun a ha b hb=>?_⟩;rw [qAR.mp hb];rintro rfl;exact ny ha
      ·rcases qAK.mp hs with z| z
       ·exact q2 s z
       ·rw [qAR.mp z];exact NY
  ·rintro σ H2 ⟨o4,o5,o6,ws,rfl,P2,K2,R2,e2,n2,q2⟩;exact ⟨_,rfl,k l ws H2 fl R2 e2 n2 q2 P2 K2⟩
end
structure ITs (H:Hp) (l:Addr) (ts:List ((Int×Int)×Addr)):Prop where
 top:H l=some (.lst (ts.map fun t=>V.ref t.2))
 row:∀t∈ts,H t.2=some (.tup [.int t.1.1,.int t.1.2])
theorem ITs.kp {M:List Addr} {ts:List ((Int×Int)×Addr)} (I:ITs H l ts) (k:Kp M H H') (h1:l∉M) (h2:∀t∈ts,t.2∉M):ITs H' l ts:=⟨k l _ I.top h1,fun t ht=>k _ _ (I.row t ht) (h2 t ht)⟩
theorem ITs.more {t:Addr} {a b:Int} {ts:List ((Int×Int)×Addr)} (I:ITs H l ts) (ht:H t=some (.tup [.int a,.int b])):ITs (upd H l (.lst (ts.map (fun t=>V.ref t.2)++[.ref t]))) l (ts++[((a,b),t)]):=by
 refine ⟨by rw [upd_same,qAQ];rfl,fun q hq=>?_⟩;rcases qAK.mp hq with z| z
 ·exact (upd_ne (zBq (I.row q z) I.top (fun y=>nomatch y))).trans (I.row q z)
 ·rw [qAR.mp z];exact (upd_ne (zBq ht I.top (fun y=>nomatch y))).trans ht
theorem ITs.same {ts:List ((Int×Int)×Addr)} (I:ITs H l ts):ITs (upd H l (.lst (ts.map (fun t=>V.ref t.2)++[]))) l ts:=by
 rw [qAs];exact ⟨upd_same,fun q z=>(upd_ne (zBq (I.row q z) I.top (fun y=>nomatch y))).trans (I.row q z)⟩
theorem tri_step (i:Nat):i*(i+1)+2*(i+1)=(i+1)*(i+2):=by
 rw [<-Nat.add_mul,Nat.mul_comm]
theorem inV12 (w:Int):inV (.int w) [.int 1,.int 2]=(decide (w=1)||decide (w=2)):=by
 show ((1==w)||((2==w)||false))=_
 by_cases h1:w=1
 ·subst h1;rfl
 ·by_cases h2:w=2
  ·subst h2;rfl
  ·rw [qAe h1,qAe h2,qBE.mpr (qAu h1),qBE.mpr (qAu h2)];rfl
def zC9 (m:Int) (ts:List ((Int×Int)×Addr)):Prop:=∀t∈ts,0<=t.1.1/\t.1.1<t.1.2/\t.1.2<m
theorem zC9.more {m a b:Int} {t:Addr} {ts:List ((Int×Int)×Addr)} (h:zC9 m ts) (h1:0<=a) (h2:a<b) (h3:b<m):zC9 m (ts++[((a,b),t)]):=fun q hq=>by
 rcases qAK.mp hq with z| z
 ·exact h q z
 ·rw [qAR.mp z];exact ⟨h1,h2,h3⟩
section
def spLPairs:Sp:=fun vs H Q _=>∃(p:Addr) (m way thin:Int),vs=[.ref p,.int m,.int way,.int thin]/\zA6 H p/\0<=m/\m<=20/\2<=thin/\thin<=12/\∀(l:Addr) (ts:List ((Int×Int)×Addr)) (H':Hp),Fre H l->ITs H' l ts->(∀t∈ts,Fre H t.2)->ts.length<=190->zC9 m ts->zA6 H' p->Kp [p] H H'->Q (.ref l) H'
abbrev s_pairs:Stmt:=top 48
theorem zCt:FnScope ["_law_purse_here", "_law_many", "_law_way", "_law_thin", "_law_pairs_here", "_law_j", "_law_far", "_law_i", "_law_near"] ["_law_purse_here", "_law_many", "_law_way", "_law_thin"] (zAd s_pairs):=fnS
theorem ok_pairs {f:Addr} (F:Fun K "_law_pairs" "_law_pairs" s_pairs f fd) (T:Txt K mg) (C_take:Cal P w K mg base "_law_take" 1 ["_law_purse_here", "_law_many"] zGx):FnOk P w K mg base CX0 2 f fd ["_law_purse_here", "_law_many", "_law_way", "_law_thin"] spLPairs:=by
 refine F.ok zCt (fun vs H Q E h=>?_) (fun cdv A outer s H vs Q E hr h=>?_)
 ·obtain ⟨p,m,way,thin,rfl,_⟩:=h;rfl
 ·obtain ⟨p,m,way,thin,rfl,hP,h0,h1,t0,t1,k⟩:=h;have HR_take:=hr
  refine ⟨_,(zAc (psS (i:=4) zCt.nd (zBe zAb))
   (zAc (zA8 qAi rfl (pi_range2 rfl T.z_range (zAa zAf (zAa (pv 1) zAb))) (pgN (i:=5) zCt.nd)
    (zAc (psS (i:=6) zCt.nd zAf)
    (zAc (zA9 (zAj zDd (pv 2) zAf (zAl _))
     (zAc (psS (i:=6) zCt.nd (zAg C_take HR_take rfl (zAa (pv 0) (zAa (zAp zBj (zAp zD1 (pv 1) (pv 5)) zAf) zAb))))
     (zAe (zA2 (zGb qBA qDa qDb zHd (pv 4) (zAa (zAp op_rep (zBe (zAa (zDv (zAa (zAp zD1 (pv 5) zAf) (zAa (zAp zBj (zAp zD1 (pv 5) zAf) (pv 6)) zAb))) zAb)) (zAv zD8 (by rfl) T.z_int zHo (zAa (zBz op_gt (pv 6) zAf (zAl _)) zAb))) zAb)))))
     zAn)
    (zAc (zA9 (zAj zDd (pv 2) zAf (zAl _))
     (zAc (psS (i:=6) zCt.nd (zAg C_take HR_take rfl (zAa (pv 0) (zAa (zAp zBj (pv 5) zAf) zAb))))
     (zAe (zA2 (zGb qBA qDa qDb zHd (pv 4) (zAa (zAp op_rep (zBe (zAa (zDv (zAa (zAp zD1 (pv 5) (pv 6)) (zAa (pv 5) zAb))) zAb)) (zAv zD8 (by rfl) T.z_int zHo (zAa (zBz op_gt (pv 6) zAf (zAl _)) zAb))) zAb)))))
     zAn)
    (zAe (zA8 qAi rfl (zDa rfl T.z_range (zAa (zAp zE2 (pv 5) (zAv zD8 (by rfl) T.z_int zHo (zAa (zBz zF4 (pv 2) (zBe (zAa zAf (zAa zAf zAb))) (by rfl)) zAb))) zAb)) (pgN (i:=7) zCt.nd)
     (zAc (psS (i:=8) zCt.nd (pe_or (zBz op_ne (pv 2) zAf (zAl _)) (zG6 (zBz zDd (zAp zBj (zAp zI3 (pv 7) (pv 3)) zAf) (zAp zI3 (pv 5) (pv 3)) (zAl _)))))
     (zAe (zA9 (PW.pt (zIa (zCo (pv 8)) (zFp (zAj zDd (zBz zDd (zAg C_take HR_take rfl (zAa (pv 0) (zAa (pv 3) zAb))) zAf (zAl _)) (zBz op_ne (pv 2) zAf (zAl _)) (zAl _)))))
      (zAe (zA2 (zGb qBA qCv qCw zDe (pv 4) (zAa (zDv (zAa (pv 7) (zAa (pv 5) zAb))) zAb))))
      zAn)))))))))
   (zAe (zAk (pv 4))))),?_⟩
  refine ⟨(by walk_at "ln"),fun l hl=>?_⟩;have fl:Fre H l:=hl;have npl:p≠l:=by obtain ⟨a,b,e,_⟩:=hP;exact ne_fre fl e
  have hP1:zA6 (upd H l (.lst [])) p:=hP.kp (M:=[]) (Kp.new Kp.refl fl) (by simp)
  refine ⟨_,rfl,_,_,rfl,?_,zCb (lo:=1) (n:=(m - 1).toNat) (fun i σ H2=>∃(o5 o6 o7 o8:Option V) (ts:List ((Int×Int)×Addr)),σ=[some (.ref p),some (.int m),some (.int way),some (.int thin),some (.ref l),o5,o6,o7,o8]/\zA6 H2 p/\Kp [p] H H2/\ITs H2 l ts/\(∀t∈ts,Fre H t.2)/\ts.length*2<=i*(i+1)/\zC9 m ts)
   ⟨none,none,none,none,[],rfl,hP1,Kp.new Kp.refl fl,⟨upd_same,(fun t h=>nomatch h)⟩,(fun t h=>nomatch h),qAj _,(fun t h=>nomatch h)⟩ ?_ ?_⟩
  ·exact ⟨by decide,by decide,by lia,by lia⟩
  ·rintro i σ H2 hi ⟨o5,o6,o7,o8,ts,rfl,P2,K2,R2,f2,e2,q2⟩;have hi19:i<=18:=by lia
   refine ⟨_,rfl,rfl,_,rfl,if_mid (fun σ H3=>∃(v6:Int) (ts1:List ((Int×Int)×Addr)),σ=[some (.ref p),some (.int m),some (.int way),some (.int thin),some (.ref l),some (.int (1+(i:Int))),some (.int v6),o7,o8]/\zA6 H3 p/\Kp [p] H H3/\ITs H3 l ts1/\(∀t∈ts1,Fre H t.2)/\ts1.length<=ts.length+(if way=1 then 1 else 0)/\zC9 m ts1) (fun N hN=>ite2 (fun c=>?_) (fun c=>?_)) ?_⟩
   ·have cw:way=1:=by simpa using c
    refine ⟨_,rfl,_,rfl,_,rfl,_,_,rfl,rfl,_,_,rfl,rfl,p,m - (1+(i:Int))+1,rfl,P2,by lia,by lia,fun d H3 d0 d1 P3 K3=>?_⟩;have K23:=K2.trans K3;have R3:ITs H3 l ts:=R2.kp K3 (nm1 npl.symm) fun t ht=>nm1 (by obtain ⟨a,b,e,_⟩:=hP;exact (ne_fre (f2 t ht) e).symm);refine ⟨_,rfl,.inl ⟨rfl,_,SqL.of R3.top⟩,_,rfl,_,_,rfl,rfl,_,rfl,_,_,rfl,rfl,_,rfl,_,_,rfl,rfl,(by walk_at "ln"),fun t ht=>?_⟩;have ft:Fre H3 t:=ht;refine ⟨(by walk_at "ln"),fun q hq=>?_⟩;have fq:Fre (upd H3 t _) q:=hq;have ntq:t≠q:=ne_fre fq upd_same;refine ⟨_,rfl,_,_,rfl,rfl,.inr ⟨_,rfl,?_⟩⟩;have nlt:l≠t:=ne_fre ft R3.top;have h4:∀o,(upd H3 t o) l=some (.lst (ts.map fun t=>V.ref t.2)):=fun o=>(upd_ne nlt).trans R3.top;have nlq:l≠q:=ne_fre fq (h4 _)
    have fin:∀(b:Bool) (r:Addr),b=decide (0<d)->(upd (upd H3 t (.tup [.int (1+(i:Int) - 1),.int (1+(i:Int) - 1+d)])) q (.lst [.ref t])) r=none ->
      ∃ts1:List ((Int×Int)×Addr),zA6 (upd (upd (upd (upd H3 t (.tup [.int (1+(i:Int) - 1),.int (1+(i:Int) - 1+d)])) q (.lst [.ref t])) r (.lst (List.replicate (if b=true then (1:Int) else 0).toNat [V.ref t]).flatten)) l (.lst (ts.map (fun t=>V.ref t.2)++(List.replicate (if b=true then (1:Int) else 0).toNat [V.ref t]).flatten))) p /\
       Kp [p] H (upd (upd (upd (upd H3 t (.tup [.int (1+(i:Int) - 1),.int (1+(i:Int) - 1+d)])) q (.lst [.ref t])) r (.lst (List.replicate (if b=true then (1:Int) else 0).toNat [V.ref t]).flatten)) l (.lst (ts.map (fun t=>V.ref t.2)++(List.replicate (if b=true then (1:Int) else 0).toNat [V.ref t]).flatten))) /\
       ITs (upd (upd (upd (upd H3 t (.tup [.int (1+(i:Int) - 1),.int (1+(i:Int) - 1+d)])) q (.lst [.ref t])) r (.lst (List.replicate (if b=true then (1:Int) else 0).toNat [V.ref t]).flatten)) l (.lst (ts.map (fun t=>V.ref t.2)++(List.replicate (if b=true then (1:Int) else 0).toNat [V.ref t]).flatten))) l ts1 /\
       (∀t∈ts1,Fre H t.2)/\ts1.length<=ts.length+1/\zC9 m ts1:=fun b r hb hr'=>by
     have fr:Fre (upd (upd H3 t (.tup [.int (1+(i:Int) - 1),.int (1+(i:Int) - 1+d)])) q (.lst [.ref t])) r:=hr'
     have kA:Kp [] H3 (upd (upd (upd H3 t (.tup [.int (1+(i:Int) - 1),.int (1+(i:Int) - 1+d)])) q (.lst [.ref t])) r (.lst (List.replicate (if b=true then (1:Int) else 0).toNat [V.ref t]).flatten)):=by
      have a1:Kp [] H3 (upd H3 t (.tup [.int (1+(i:Int) - 1),.int (1+(i:Int) - 1+d)])):=Kp.new Kp.refl ft;have a2:Kp [] H3 (upd (upd H3 t (.tup [.int (1+(i:Int) - 1),.int (1+(i:Int) - 1+d)])) q (.lst [.ref t])):=Kp.new a1 (a1.fre fq (by simp));exact Kp.new a2 (a2.fre fr (by simp))
     have RA:=R3.kp kA (by simp) (by simp)
     have hTt:(upd (upd (upd H3 t (.tup [.int (1+(i:Int) - 1),.int (1+(i:Int) - 1+d)])) q (.lst [.ref t])) r (.lst (List.replicate (if b=true then (1:Int) else 0).toNat [V.ref t]).flatten)) t=some (.tup [.int (1+(i:Int) - 1),.int (1+(i:Int) - 1+d)]):=by
      have b1:(upd (upd H3 t (.tup [.int (1+(i:Int) - 1),.int (1+(i:Int) - 1+d)])) q (.lst [.ref t])) t=some (.tup [.int (1+(i:Int) - 1),.int (1+(i:Int) - 1+d)]):=(upd_ne ntq).trans upd_same;exact (upd_ne (ne_fre fr b1)).trans b1
     have pA:=P3.kp kA (by simp);have kH:Kp [p] H (upd (upd (upd H3 t (.tup [.int (1+(i:Int) - 1),.int (1+(i:Int) - 1+d)])) q (.lst [.ref t])) r (.lst (List.replicate (if b=true then (1:Int) else 0).toNat [V.ref t]).flatten)):=K23.trans (kA.weak (by simp));have ntp:t≠p:=by obtain ⟨a,b,e,_⟩:=P3;exact (ne_fre ft e).symm
     have ftH:Fre H t:=K23.fre ft (nm1 ntp)
     by_cases c2:0<d
     ·have eb:b=true:=by rw [hb];exact qAf c2
      subst eb;refine ⟨ts++[(((1+(i:Int) - 1),(1+(i:Int) - 1+d)),t)],pA.kp (M:=[l]) (Kp.put Kp.refl (by simp)) (nm1 npl),Kp.new kH fl,RA.more hTt,fun u hu=>?_,by rw [qAU];exact qAG _,q2.more (by lia) (by lia) (by lia)⟩;rcases qAK.mp hu with z| z
      ·exact f2 u z
      ·rw [qAR.mp z];exact ftH
     ·have eb:b=false:=by rw [hb];exact qAe c2
      subst eb;exact ⟨ts,pA.kp (M:=[l]) (Kp.put Kp.refl (by simp)) (nm1 npl),Kp.new kH fl,RA.same,f2,qB9 _,q2⟩
    refine ⟨_,_,_,rfl,rfl,upd_same,by split<;>decide,by split<;>decide,?_,fun r hr'=>?_⟩
    ·rw [qAJ];show 1*_<=_;split<;>decide
    have hl6:∀o2 o3,(upd (upd (upd H3 t (.tup [.int (1+(i:Int) - 1),.int (1+(i:Int) - 1+d)])) q o2) r o3) l=some (.lst (ts.map fun t=>V.ref t.2))\/l=r:=fun o2 o3=>by
     by_cases z:l=r
     ·exact .inr z
     ·exact .inl ((upd_ne z).trans ((upd_ne nlq).trans (h4 _)))
    have nlr:l≠r:=ne_fre (show Fre _ r from hr') ((upd_ne nlq).trans (h4 _));obtain ⟨ts1,g1,g2,g3,g4,g5,g6⟩:=fin _ r rfl hr';refine ⟨_,_,_,_,rfl,rfl,(upd_ne nlr).trans ((upd_ne nlq).trans (h4 _)),upd_same,?_,hN _ _ ⟨d,ts1,rfl,g1,g2,g3,g4,?_,g6⟩⟩
    ·have hl3:ts.length*2<=19*20:=qAY e2 (Nat.mul_le_mul (by lia) (by lia));rw [qAD,len_rep,qAJ];have:(if decide (0<d)=true then (1:Int) else 0).toNat<=1:=by split<;>decide
     simp only [qAb,qBH];lia
    ·rw [qAC cw];exact g5
   ·have cw:¬way=1:=by simpa using c
    exact hN _ _ ⟨0,ts,rfl,P2,K2,R2,f2,qBm _ _,q2⟩
   ·rintro σ H4 ⟨v6,ts1,rfl,P4,K4,R4,f3,e3,q3⟩;have hle:ts.length*2<=19*20:=qAY e2 (Nat.mul_le_mul (by lia) (by lia))
    have hl1:ts1.length<=191:=by
     have:(if way=1 then 1 else 0)<=1:=by split<;>decide
     lia
    refine ⟨_,rfl,rfl,_,rfl,if_mid (fun σ H3=>∃(v6:Int) (ts2:List ((Int×Int)×Addr)),σ=[some (.ref p),some (.int m),some (.int way),some (.int thin),some (.ref l),some (.int (1+(i:Int))),some (.int v6),o7,o8]/\zA6 H3 p/\Kp [p] H H3/\ITs H3 l ts2/\(∀t∈ts2,Fre H t.2)/\ts2.length<=ts.length+(if way=1\/way=2 then 1 else 0)/\zC9 m ts2) (fun N hN=>ite2 (fun c=>?_) (fun c=>?_)) ?_⟩
    ·have cw:way=2:=by simpa using c
     refine ⟨_,rfl,_,rfl,_,_,rfl,rfl,p,1+(i:Int)+1,rfl,P4,by lia,by lia,fun d H5 d0 d1 P5 K5=>?_⟩;have K25:=K4.trans K5;have R5:ITs H5 l ts1:=R4.kp K5 (nm1 npl.symm) fun t ht=>nm1 (by obtain ⟨a,b,e,_⟩:=hP;exact (ne_fre (f3 t ht) e).symm);refine ⟨_,rfl,.inl ⟨rfl,_,SqL.of R5.top⟩,_,rfl,_,rfl,_,_,rfl,rfl,_,rfl,(by walk_at "ln"),fun t ht=>?_⟩;have ft:Fre H5 t:=ht;refine ⟨(by walk_at "ln"),fun q hq=>?_⟩;have fq:Fre (upd H5 t _) q:=hq;have ntq:t≠q:=ne_fre fq upd_same;refine ⟨_,rfl,_,_,rfl,rfl,.inr ⟨_,rfl,?_⟩⟩;have nlt:l≠t:=ne_fre ft R5.top;have h4:∀o,(upd H5 t o) l=some (.lst (ts1.map fun t=>V.ref t.2)):=fun o=>(upd_ne nlt).trans R5.top;have nlq:l≠q:=ne_fre fq (h4 _)
     have fin:∀(b:Bool) (r:Addr),b=decide (0<d)->(upd (upd H5 t (.tup [.int (1+(i:Int) - d),.int (1+(i:Int))])) q (.lst [.ref t])) r=none ->
       ∃ts2:List ((Int×Int)×Addr),zA6 (upd (upd (upd (upd H5 t (.tup [.int (1+(i:Int) - d),.int (1+(i:Int))])) q (.lst [.ref t])) r (.lst (List.replicate (if b=true then (1:Int) else 0).toNat [V.ref t]).flatten)) l (.lst (ts1.map (fun t=>V.ref t.2)++(List.replicate (if b=true then (1:Int) else 0).toNat [V.ref t]).flatten))) p /\
        Kp [p] H (upd (upd (upd (upd H5 t (.tup [.int (1+(i:Int) - d),.int (1+(i:Int))])) q (.lst [.ref t])) r (.lst (List.replicate (if b=true then (1:Int) else 0).toNat [V.ref t]).flatten)) l (.lst (ts1.map (fun t=>V.ref t.2)++(List.replicate (if b=true then (1:Int) else 0).toNat [V.ref t]).flatten))) /\
        ITs (upd (upd (upd (upd H5 t (.tup [.int (1+(i:Int) - d),.int (1+(i:Int))])) q (.lst [.ref t])) r (.lst (List.replicate (if b=true then (1:Int) else 0).toNat [V.ref t]).flatten)) l (.lst (ts1.map (fun t=>V.ref t.2)++(List.replicate (if b=true then (1:Int) else 0).toNat [V.ref t]).flatten))) l ts2 /\
        (∀t∈ts2,Fre H t.2)/\ts2.length<=ts1.length+1/\zC9 m ts2:=fun b r hb hr'=>by
      have fr:Fre (upd (upd H5 t (.tup [.int (1+(i:Int) - d),.int (1+(i:Int))])) q (.lst [.ref t])) r:=hr'
      have kA:Kp [] H5 (upd (upd (upd H5 t (.tup [.int (1+(i:Int) - d),.int (1+(i:Int))])) q (.lst [.ref t])) r (.lst (List.replicate (if b=true then (1:Int) else 0).toNat [V.ref t]).flatten)):=by
       have a1:Kp [] H5 (upd H5 t (.tup [.int (1+(i:Int) - d),.int (1+(i:Int))])):=Kp.new Kp.refl ft;have a2:Kp [] H5 (upd (upd H5 t (.tup [.int (1+(i:Int) - d),.int (1+(i:Int))])) q (.lst [.ref t])):=Kp.new a1 (a1.fre fq (by simp));exact Kp.new a2 (a2.fre fr (by simp))
      have RA:=R5.kp kA (by simp) (by simp)
      have hTt:(upd (upd (upd H5 t (.tup [.int (1+(i:Int) - d),.int (1+(i:Int))])) q (.lst [.ref t])) r (.lst (List.replicate (if b=true then (1:Int) else 0).toNat [V.ref t]).flatten)) t=some (.tup [.int (1+(i:Int) - d),.int (1+(i:Int))]):=by
       have b1:(upd (upd H5 t (.tup [.int (1+(i:Int) - d),.int (1+(i:Int))])) q (.lst [.ref t])) t=some (.tup [.int (1+(i:Int) - d),.int (1+(i:Int))]):=(upd_ne ntq).trans upd_same;exact (upd_ne (ne_fre fr b1)).trans b1
      have pA:=P5.kp kA (by simp);have kH:Kp [p] H (upd (upd (upd H5 t (.tup [.int (1+(i:Int) - d),.int (1+(i:Int))])) q (.lst [.ref t])) r (.lst (List.replicate (if b=true then (1:Int) else 0).toNat [V.ref t]).flatten)):=K25.trans (kA.weak (by simp));have ntp:t≠p:=by obtain ⟨a,b,e,_⟩:=P5;exact (ne_fre ft e).symm
      have ftH:Fre H t:=K25.fre ft (nm1 ntp)
      by_cases c2:0<d
      ·have eb:b=true:=by rw [hb];exact qAf c2
       subst eb;refine ⟨ts1++[(((1+(i:Int) - d),(1+(i:Int))),t)],pA.kp (M:=[l]) (Kp.put Kp.refl (by simp)) (nm1 npl),Kp.new kH fl,RA.more hTt,fun u hu=>?_,by rw [qAU];exact qAG _,q3.more (by lia) (by lia) (by lia)⟩;rcases qAK.mp hu with z| z
       ·exact f3 u z
       ·rw [qAR.mp z];exact ftH
      ·have eb:b=false:=by rw [hb];exact qAe c2
       subst eb;exact ⟨ts1,pA.kp (M:=[l]) (Kp.put Kp.refl (by simp)) (nm1 npl),Kp.new kH fl,RA.same,f3,qB9 _,q3⟩
     refine ⟨_,_,_,rfl,rfl,upd_same,by split<;>decide,by split<;>decide,?_,fun r hr'=>?_⟩
     ·rw [qAJ];show 1*_<=_;split<;>decide
     have hl6:∀o2 o3,(upd (upd (upd H5 t (.tup [.int (1+(i:Int) - d),.int (1+(i:Int))])) q o2) r o3) l=some (.lst (ts1.map fun t=>V.ref t.2))\/l=r:=fun o2 o3=>by
      by_cases z:l=r
      ·exact .inr z
      ·exact .inl ((upd_ne z).trans ((upd_ne nlq).trans (h4 _)))
     have nlr:l≠r:=ne_fre (show Fre _ r from hr') ((upd_ne nlq).trans (h4 _));obtain ⟨ts2,g1,g2,g3,g4,g5,g6⟩:=fin _ r rfl hr';refine ⟨_,_,_,_,rfl,rfl,(upd_ne nlr).trans ((upd_ne nlq).trans (h4 _)),upd_same,?_,hN _ _ ⟨d,ts2,rfl,g1,g2,g3,g4,?_,g6⟩⟩
     ·have hl3:ts1.length<=191:=hl1;rw [qAD,len_rep,qAJ];have:(if decide (0<d)=true then (1:Int) else 0).toNat<=1:=by split<;>decide
      simp only [qAb,qBH];lia
     ·rw [qAC (Or.inr cw)];rw [qAB (by lia)] at e3;lia
    ·have cw:¬way=2:=by simpa using c
     refine hN _ _ ⟨v6,ts1,rfl,P4,K4,R4,f3,?_,q3⟩
     by_cases z:way=1
     ·rw [qAC z] at e3;rw [qAC (Or.inl z)];exact e3
     ·rw [qAB z] at e3;lia
    ·rintro σ H5 ⟨v6,ts2,rfl,P5,K5,R5,f4,e4,q4⟩;refine ⟨_,rfl,_,rfl,(by walk_at "ln"),fun b hb=>?_⟩;have fb:Fre H5 b:=hb;refine ⟨_,_,rfl,.inl (SqL.of upd_same),rfl,rfl,.inr ⟨_,rfl,?_⟩⟩;rw [qAC rfl,inV12];have npb:p≠b:=by obtain ⟨x,y,e,_⟩:=P5;exact ne_fre fb e
     have nlb:l≠b:=ne_fre fb R5.top
     have hb2:(if (!(decide (way=1)||decide (way=2)))=true then (1:Int) else 0)=0\/((if (!(decide (way=1)||decide (way=2)))=true then (1:Int) else 0)=1/\¬(way=1\/way=2)):=by
      by_cases z:way=1\/way=2
      ·left
       have:(decide (way=1)||decide (way=2))=true:=by
        rcases z with z| z<;>simp [z]
       rw [this];rfl
      ·right;refine ⟨?_,z⟩
       have:(decide (way=1)||decide (way=2))=false:=by
        rw [qAe fun y=>z (.inl y),qAe fun y=>z (.inr y)];rfl
       rw [this];rfl
     generalize (if (!(decide (way=1)||decide (way=2)))=true then (1:Int) else 0)=nn at hb2 ⊢
     have hnn:(1+(i:Int))*nn=0\/((1+(i:Int))*nn=1+i/\¬(way=1\/way=2)):=by
      rcases hb2 with z| ⟨z,z'⟩
      ·left;rw [z];lia
      ·right;rw [z];exact ⟨by lia,z'⟩
     have hmul:(1+(i:Int))*nn=0\/(1+(i:Int))*nn=1+i:=hnn.imp id And.left;have k5b:Kp [] H5 (upd H5 b (.lst [.int 1,.int 2])):=Kp.new Kp.refl fb
     refine ⟨_,_,rfl,rfl,?_,_,rfl,by lia,by lia,zCb (lo:=0) (n:=((1+(i:Int))*nn).toNat) (fun a σ H6=>∃(o7 o8:Option V) (ts3:List ((Int×Int)×Addr)),σ=[some (.ref p),some (.int m),some (.int way),some (.int thin),some (.ref l),some (.int (1+(i:Int))),some (.int v6),o7,o8]/\zA6 H6 p/\Kp [p] H H6/\ITs H6 l ts3/\(∀t∈ts3,Fre H t.2)/\ts3.length<=ts2.length+a/\zC9 m ts3)
      ⟨_,_,ts2,rfl,P5.kp k5b (by simp),K5.trans (k5b.weak (by simp)),R5.kp k5b (by simp) (by simp),f4,qAG _,q4⟩ ?_ ?_⟩
     ·rcases hb2 with z| ⟨z,_⟩
      ·rw [z];exact Or.inl ⟨by lia,by lia⟩
      ·rw [z];exact Or.inl ⟨by lia,by lia⟩
     ·rintro a σ H6 ha ⟨o7',o8',ts3,rfl,P6,K6,R6,f5,e5,q5⟩;have ha':(a:Int)<1+i:=by lia
      refine seq_mid (fun σ H7=>∃bN:Bool,σ=[some (.ref p),some (.int m),some (.int way),some (.int thin),some (.ref l),some (.int (1+(i:Int))),some (.int v6),some (.int (0+(a:Int))),some (.bl bN)]/\H7=H6) (fun N hN=>?_) ?_
      ·refine ⟨_,rfl,rfl,_,rfl,ite2 (fun c=>?_) (fun c=>?_)⟩
       ·exact hN _ _ ⟨true,rfl,rfl⟩
       ·refine ⟨_,rfl,_,rfl,_,_,rfl,rfl,⟨by lia,by lia⟩,_,_,rfl,rfl,_,rfl,_,rfl,_,_,rfl,rfl,⟨by lia,by lia⟩,rfl,?_⟩;exact hN _ _ ⟨_,rfl,rfl⟩
      ·rintro σ H7 ⟨bN,rfl,rfl⟩;refine ⟨_,rfl,_,rfl,ite2 (fun c=>?_) (fun c=>?_)⟩
       ·refine ⟨_,rfl,_,rfl,p,thin,rfl,P6,by lia,by lia,fun d H8 d0 d1 P8 K8=>?_⟩;have R8:ITs H8 l ts3:=R6.kp K8 (nm1 npl.symm) fun t ht=>nm1 (by obtain ⟨x,y,e,_⟩:=hP;exact (ne_fre (f5 t ht) e).symm);have K68:=K6.trans K8;refine ⟨rfl,_,rfl,rfl,rfl,_,rfl,ite2 (fun c=>?_) (fun c=>?_)⟩
        ·-- _law_pairs_here.append((_law_i,_law_j))
         refine ⟨_,rfl,.inl ⟨rfl,_,SqL.of R8.top⟩,_,rfl,_,rfl,(by walk_at "ln"),fun t ht=>?_⟩;have ft:Fre H8 t:=ht;have nlt:l≠t:=ne_fre ft R8.top;have ntp:t≠p:=by obtain ⟨x,y,e,_⟩:=P8;exact (ne_fre ft e).symm
         have k8:Kp [] H8 (upd H8 t (.tup [.int (0+(a:Int)),.int (1+(i:Int))])):=Kp.new Kp.refl ft;refine ⟨_,_,_,rfl,rfl,(upd_ne nlt).trans R8.top,?_,_,_,ts3++[((0+(a:Int),1+(i:Int)),t)],rfl,(P8.kp k8 (by simp)).kp (M:=[l]) (Kp.put Kp.refl (by simp)) (nm1 npl),Kp.new (K68.trans (k8.weak (by simp))) fl,(R8.kp k8 (by simp) (by simp)).more upd_same,fun u hu=>?_,?_,q5.more (by lia) (by lia) (by lia)⟩
         ·rw [qAD,qAJ];have:(if way=1\/way=2 then 1 else 0)<=1:=by split<;>decide
          lia
         ·rcases qAK.mp hu with z| z
          ·exact f5 u z
          ·rw [qAR.mp z];exact K68.fre ft (nm1 ntp)
         ·rw [qAU];simp only [qAb,qBH];lia
        ·exact ⟨_,_,ts3,rfl,P8,K68,R8,f5,by lia,q5⟩
       ·exact ⟨_,_,ts3,rfl,P6,K6,R6,f5,by lia,q5⟩
     ·rintro σ H6 ⟨o7',o8',ts3,rfl,P6,K6,R6,f5,e5,q5⟩;refine ⟨_,_,_,_,ts3,rfl,P6,K6,R6,f5,?_,q5⟩;have:=tri_step i
      have e6:ts3.length<=ts.length+(i+1):=by
       rcases hnn with z| ⟨z,z'⟩
       ·have:(if way=1\/way=2 then 1 else 0)<=1:=by split<;>decide
        rw [z] at e5;have e5:ts3.length<=ts2.length+0:=e5;lia
       ·rw [qAB z'] at e4;rw [z] at e5;have:(1+(i:Int)).toNat=i+1:=by lia
        lia
      have e7:(i+1)*(i+1+1)=(i+1)*(i+2):=rfl;rw [e7,<-this];lia
  ·rintro σ H2 ⟨o5,o6,o7,o8,ts,rfl,P2,K2,R2,f2,e2,q2⟩;have hle:(m - 1).toNat*((m - 1).toNat+1)<=19*20:=Nat.mul_le_mul (by lia) (by lia);exact ⟨_,rfl,k l ts H2 fl R2 f2 (by lia) q2 P2 K2⟩
end
theorem zHl [BEq α] [LawfulBEq α]:∀{L:List α} {i:Nat} {x:α},L.Nodup->L[i]?=some x->L.idxOf x=i
 | [],i,x,_,h=>by simp at h
 | y::L,0,x,_,h=>by
  have:y=x:=qAZ h;subst this;simp
 | y::L,i+1,x,hn,h=>by
  rw [qCk] at h;obtain ⟨h1,h2⟩:=qA1.mp hn;have hne:y≠x:=fun z=>h1 (z▸qAI h);rw [List.idxOf_cons,qBE.mpr hne];show L.idxOf x+1=i+1;rw [zHl h2 h]
theorem map_nodup {β:Type} {f:α->β}:∀{L:List α},L.Nodup->(∀a∈L,∀b∈L,f a=f b->a=b)->(L.map f).Nodup
 | [],_,_=>qBL
 | x::L,h,hi=>by
  obtain ⟨h1,h2⟩:=qA1.mp h;rw [qAk];refine qA1.mpr ⟨fun z=>?_,map_nodup h2 fun a ha b hb=>hi a (qAT _ ha) b (qAT _ hb)⟩;obtain ⟨y,hy,e⟩:=qAM.mp z;rw [hi y (qAT _ hy) x qAa e] at hy;exact h1 hy
theorem zEq {K:PySem.W.Frag} {c:Addr} {xs:List V} {Q:VK} (h1:SqL K H c xs) (h2:SqL K H e []) (h:∀bb:Bool,(bb=true->xs≠[])->Q (.bl bb) H):zF3 K 8 false (.ref c) (.ref e) H Q\/zF2 K true (.ref c) (.ref e) H Q:=by
 by_cases z:xs=[]
 ·subst z;exact .inl ⟨c,e,_,_,rfl,rfl,h1,h2,rfl,(fun i x y h=>by simp at h),h false (fun z=>nomatch z)⟩
 ·refine .inr ⟨c,e,_,_,rfl,rfl,h1,h2,fun y=>z (qBy.mp y),h true fun _=>z⟩
structure Spots (Is:List Int) (m:Nat):Prop where
 len:Is.length=m
 nd:Is.Nodup
 lt:∀x∈Is,0<=x/\x<m
theorem Spots.put {Is:List Int} {m:Nat} (S:Spots Is m) (d:Nat):Spots (Is.take d++(m:Int)::Is.drop d) (m+1):=by
 have hp:=ST.ins_perm Is d (m:Int);refine ⟨by rw [hp.length_eq,qAb,S.len],hp.nodup_iff.mpr (qA1.mpr ⟨fun z=>?_,S.nd⟩),fun x hx=>?_⟩
 ·have:=(S.lt _ z).2;lia
 ·rcases qAP.mp (hp.mem_iff.mp hx) with z| z
  ·subst z;lia
  ·have:=S.lt x z;lia
def rowOf (ns:List Str) (Is:List Int):List Str:=Is.map fun k=>ns.getD k.toNat Str.empty
theorem rowOf_nd {Is:List Int} (hn:ns.Nodup) (S:Spots Is ns.length):(rowOf ns Is).Nodup:=by
 refine map_nodup S.nd fun a ha b hb e=>?_;have h1:=S.lt a ha;have h2:=S.lt b hb;have e1:ns.getD a.toNat Str.empty=ns[a.toNat]'(by lia):=by rw [qBJ,qAn (by lia)];rfl
 have e2:ns.getD b.toNat Str.empty=ns[b.toNat]'(by lia):=by rw [qBJ,qAn (by lia)];rfl
 rw [e1,e2] at e;have:=(List.getElem_inj hn).mp e;lia
theorem rowOf_at {Is:List Int} (S:Spots Is ns.length) {i:Int} (h0:0<=i) (h1:i<ns.length):∃s n,Is[i.toNat]?=some s/\0<=s/\ns[s.toNat]?=some n/\(rowOf ns Is)[i.toNat]?=some n:=by
 have hi:i.toNat<Is.length:=by rw [S.len];lia
 have hs:=S.lt Is[i.toNat] (qCb hi);have hs':Is[i.toNat].toNat<ns.length:=by lia
 refine ⟨Is[i.toNat],ns[Is[i.toNat].toNat],qAn hi,hs.1,qAn hs',?_⟩;unfold rowOf;rw [qAX,qAn hi];show some (ns.getD _ _)=_;rw [qBJ,qAn hs'];rfl
theorem ins_map {β:Type} (f:α->β) (L:List α) (d:Nat) (x:α):(L.map f).take d++f x::(L.map f).drop d=(L.take d++x::L.drop d).map f:=by
 rw [qAQ,qAk,qDD,qDE]
theorem it_at {ts:List ((Int×Int)×Addr)} (h:(ts.map fun q=>V.ref q.2)[i]?=some v):∃q,ts[i]?=some q/\v= .ref q.2:=by
 rw [qAX] at h;obtain ⟨n,e,r⟩:=qBC.mp h;exact ⟨n,e,r.symm⟩
section
def spLJobs:Sp:=fun vs H Q _=>∃(p:Addr) (mo:Int),vs=[.ref p,.int mo]/\0<=mo/\mo<=20/\zA6 H p/\∀(t l m:Addr) (ns:List Str) (qs:List (List Str×Addr)) (r:Str->Nat) (H':Hp),(ns.length:Int)<=mo->qs.length<=192->H' t=some (.tup [.ref l,.ref m])->Fre H t->Fre H l->Fre H m->(∀q∈qs,Fre H q.2)->Txs H' l ns->Ords H' m qs->Good ns qs r->zA6 H' p->Kp [p] H H'->Q (.ref t) H'
abbrev s_jobs:Stmt:=top 49
theorem zDh:FnScope ["_law_purse_here", "_law_most", "_law_many", "_law_names_here", "_law_way", "_law_thin", "_law_pairs_here", "_law_k", "_law_spots"] ["_law_purse_here", "_law_most"] (zAd s_jobs):=fnS
theorem ok_jobs {f:Addr} (F:Fun K "_law_jobs" "_law_jobs" s_jobs f fd) (T:Txt K mg) (C_take:Cal P w K mg base "_law_take" 1 ["_law_purse_here", "_law_many"] zGx) (C_names:Cal P w K mg base "_law_names" 2 ["_law_purse_here", "_law_many"] spLNames)
  (C_pairs:Cal P w K mg base "_law_pairs" 2 ["_law_purse_here", "_law_many", "_law_way", "_law_thin"] spLPairs):FnOk P w K mg base CX0 3 f fd ["_law_purse_here", "_law_most"] spLJobs:=by
 refine F.ok zDh (fun vs H Q E h=>?_) (fun cdv A outer s H vs Q E hr h=>?_)
 ·obtain ⟨p,mo,rfl,_⟩:=h;rfl
 ·obtain ⟨p,mo,rfl,mo0,mo1,hP,k⟩:=h;have HR_names:=hr;have HR_pairs:=hr;have HR_take:=hr.mono (j:=1) (by decide)
  refine ⟨_,(zAc (psS (i:=2) zDh.nd (zAg C_take HR_take rfl (zAa (pv 0) (zAa (zAp zBj (pv 1) zAf) zAb))))
   (zAc (psS (i:=3) zDh.nd (zAg C_names HR_names rfl (zAa (pv 0) (zAa (pv 2) zAb))))
   (zAc (psS (i:=4) zDh.nd (zAg C_take HR_take rfl (zAa (pv 0) (zAa zAf zAb))))
   (zAc (psS (i:=5) zDh.nd (zAy zBb (zBe (zAa zAf (zAa zAf (zAa zAf (zAa zAf (zAa zAf zAb)))))) (zAg C_take HR_take rfl (zAa (pv 0) (zAa zAf zAb))) (fun _ _=>rfl)))
   (zAc (psS (i:=6) zDh.nd (zAg C_pairs HR_pairs rfl (zAa (pv 0) (zAa (pv 2) (zAa (pv 4) (zAa (pv 5) zAb))))))
   (zAc (zA8 qAi rfl (zDa rfl T.z_range (zAa (zAp zE2 (zAv zD8 (by rfl) T.z_int zHo (zAa (zBz (zI2 HR_take) (pv 6) (zBe zAb) (zAl _)) zAb)) (zAg C_take HR_take rfl (zAa (pv 0) (zAa zAf zAb)))) zAb)) (pgN (i:=7) zDh.nd)
    (zAe (zA2 (zGb qBA qDc qDd zHc (pv 6) (zAa (zAg C_take HR_take rfl (zAa (pv 0) (zAa (zAp zBj (zAi zAm (by rfl) T.z_len zBt (zAa (pv 6) zAb)) zAf) zAb))) (zAa (zAy zBb (pv 6) (zAg C_take HR_take rfl (zAa (pv 0) (zAa (zAi zAm (by rfl) T.z_len zBt (zAa (pv 6) zAb)) zAb))) (fun _ _=>rfl)) zAb))))))
   (zAc (psS (i:=8) zDh.nd (zBe zAb))
   (zAc (zA8 qAi rfl (zDa rfl T.z_range (zAa (pv 2) zAb)) (pgN (i:=7) zDh.nd)
    (zAe (zA2 (zGb qBA qDc qDd zHc (pv 8) (zAa (zAg C_take HR_take rfl (zAa (pv 0) (zAa (zAp zBj (pv 7) zAf) zAb))) (zAa (pv 7) zAb))))))
   (zAe (zAk (zDv (zAa (pv 3) (zAa (zA3 rfl (zA4 (sc:=zAd s_jobs) rfl (by decide +kernel)) (Draws.own (x:= "_law_i") (Draws.own (x:= "_law_j") (dtk (i:=3) rfl (dtk (i:=8) rfl Draws.nil)))) (zAo (pv 6)) (fun _ _ _ _=>(zIz (K:=K) (n:=2) rfl (zBd (pgB (i:=0)) (zBd (pgB (i:=1)) zEo)))) (fun _ _ _ _=>zB4) (fun _ _ _ _=>(zDv (zAa (zAy (zGr (K:=K)) (pv 2) (zAy (zGr (K:=K)) (pv 3) (pv 0) (fun _ _=>rfl)) (fun _ _=>rfl)) (zAa (zAy (zGr (K:=K)) (pv 2) (zAy (zGr (K:=K)) (pv 3) (pv 1) (fun _ _=>rfl)) (fun _ _=>rfl)) zAb))))) zAb))))))))))))),?_⟩
  refine ⟨_,rfl,_,rfl,_,_,rfl,rfl,p,mo+1,rfl,hP,by lia,by lia,fun m H1 m0 m1 P1 K1=>?_⟩;refine ⟨_,rfl,_,rfl,p,m,rfl,P1,m0,by lia,fun l ns H2 fl hl en nd nm P2 K2=>?_⟩;have npl:p≠l:=by obtain ⟨a,b,e,_⟩:=P1;exact ne_fre fl e
  refine ⟨_,rfl,p,6,rfl,P2,by decide,by decide,fun way H3 w0 w1 P3 K3=>?_⟩;refine ⟨(by walk_at "ln"),fun b hb=>?_⟩;have fb:Fre H3 b:=hb;have npb:p≠b:=by obtain ⟨x,y,e,_⟩:=P3;exact ne_fre fb e
  refine ⟨_,rfl,p,5,rfl,P3.kp (M:=[]) (Kp.new Kp.refl fb) (by simp),by decide,by decide,fun d H4 d0 d1 P4 K4=>?_⟩
  obtain ⟨th,hth,th2,th12⟩:∃th:Int,([V.int 2,.int 3,.int 4,.int 6,.int 12])[d.toNat]?=some (.int th)/\2<=th/\th<=12:=by
   have:d=0\/d=1\/d=2\/d=3\/d=4:=by lia
   rcases this with rfl| rfl| rfl| rfl| rfl
   ·exact ⟨2,rfl,by decide,by decide⟩
   ·exact ⟨3,rfl,by decide,by decide⟩
   ·exact ⟨4,rfl,by decide,by decide⟩
   ·exact ⟨6,rfl,by decide,by decide⟩
   ·exact ⟨12,rfl,by decide,by decide⟩
  refine ⟨_,_,_,.int th,rfl,rfl,SqL.of (K4 b _ upd_same (nm1 npb.symm)),zFi d0 hth,?_⟩;have K34:Kp [p] H3 H4:=Kp.trans (Kp.new Kp.refl fb) K4;have K14:Kp [p] H1 H4:=K2.trans (K3.trans K34);have hl4:Txs H4 l ns:=(K3.trans K34) l _ hl (nm1 npl.symm);refine ⟨_,rfl,_,rfl,_,rfl,_,rfl,p,m,way,th,rfl,P4,m0,by lia,th2,th12,fun c ts H5 fc I5 ft5 tl5 ok5 P5 K5=>?_⟩;have npc:p≠c:=by obtain ⟨x,y,e,_⟩:=P4;exact ne_fre fc e
  have hl5:Txs H5 l ns:=K5 l _ hl4 (nm1 npl.symm);have nlc:l≠c:=ne_fre fc hl4;have K05:Kp [p] H H5:=K1.trans (K14.trans K5);have fcH:Fre H c:=(K1.trans K14).fre fc (nm1 npc.symm);have flH:Fre H l:=K1.fre fl (nm1 npl.symm);refine ⟨_,rfl,(by walk_at "ln"),fun e he=>?_⟩;have fe:Fre H5 e:=he;have npe:p≠e:=by obtain ⟨x,y,q,_⟩:=P5;exact ne_fre fe q
  have k5e:Kp [] H5 (upd H5 e (.lst [])):=Kp.new Kp.refl fe;have I5e:=I5.kp k5e (by simp) (by simp);refine zEq (xs:=ts.map fun t=>V.ref t.2) (SqL.of I5e.top) (SqL.of upd_same) fun bb hbb=>?_;refine .inr ⟨bb,rfl,?_⟩;refine ⟨_,rfl,p,3,rfl,P5.kp k5e (by simp),by decide,by decide,fun dd H6 dd0 dd1 P6 K6=>?_⟩;have K56:Kp [p] H5 H6:=Kp.trans (k5e.weak (by simp)) K6;have ntp:∀t∈ts,t.2∉[p]:=fun t ht=>nm1 (by obtain ⟨x,y,q,_⟩:=P4;exact (ne_fre (ft5 t ht) q).symm);have I6:ITs H6 c ts:=I5e.kp K6 (nm1 npc.symm) ntp
  have hmul:(if bb=true then (1:Int) else 0)*dd=0\/((if bb=true then (1:Int) else 0)*dd=dd/\ts≠[]):=by
   cases bb with
   | false=>left;rw [qAB (by decide)];lia
   | true=>right;rw [qAC rfl];exact ⟨by lia,fun z=>hbb rfl (by rw [z];rfl)⟩
  have hml:(if bb=true then (1:Int) else 0)=0\/(if bb=true then (1:Int) else 0)=1:=by cases bb<;>simp
  generalize (if bb=true then (1:Int) else 0)=n01 at hmul hml ⊢
  refine ⟨_,_,rfl,rfl,?_,_,rfl,by rcases hmul with z| ⟨z,_⟩<;>lia,by rcases hmul with z| ⟨z,_⟩<;>lia,zCb (lo:=0) (n:=(n01*dd).toNat) (fun i σ H7=>∃(o7 o8:Option V) (ts':List ((Int×Int)×Addr)),σ=[some (.ref p),some (.int mo),some (.int m),some (.ref l),some (.int way),some (.int th),some (.ref c),o7,o8]/\zA6 H7 p/\Kp [p] H H7/\Txs H7 l ns/\ITs H7 c ts'/\(∀t∈ts',t∈ts)/\ts'.length=ts.length+i)
   ⟨_,_,ts,rfl,P6,K05.trans K56,K56 l _ hl5 (nm1 npl.symm),I6,fun t h=>h,rfl⟩ ?_ ?_⟩
  ·rcases hml with z| z
   ·exact Or.inl ⟨by lia,by lia⟩
   ·exact Or.inl ⟨by lia,by lia⟩
  ·rintro i σ H7 hi ⟨o7,o8,ts',rfl,P7,K7,hl7,I7,s7,e7⟩
   have ne:ts≠[]:=by
    rcases hmul with z| ⟨_,z⟩
    ·rw [z] at hi;exact absurd hi (qDC _)
    ·exact z
   have pos:0<ts'.length:=by
    have:=qDI.mpr ne;lia
   have ntp':∀t∈ts',t.2∉[p]:=fun t ht=>ntp t (s7 t ht);have nlc':l≠c:=nlc;refine ⟨_,rfl,.inl ⟨rfl,_,SqL.of I7.top⟩,_,rfl,_,rfl,_,_,rfl,.inl (SqL.of I7.top),_,_,rfl,rfl,p,_,rfl,P7,?_,?_,fun d1 H8 x0 x1 P8 K8=>?_⟩
   ·lia
   ·rw [qAD];have:i<3:=by rcases hmul with z| ⟨z,_⟩<;>lia
    lia
   have I8:ITs H8 c ts':=I7.kp K8 (nm1 npc.symm) ntp';refine ⟨_,rfl,_,rfl,_,rfl,_,_,rfl,.inl (SqL.of I8.top),p,_,rfl,P8,?_,?_,fun d2 H9 y0 y1 P9 K9=>?_⟩
   ·rw [qAD];lia
   ·rw [qAD];have:i<3:=by rcases hmul with z| ⟨z,_⟩<;>lia
    lia
   have I9:ITs H9 c ts':=I8.kp K9 (nm1 npc.symm) ntp';rw [qAD] at x1 y1;obtain ⟨t,et⟩:∃t,ts'[d2.toNat]?=some t:=⟨ts'[d2.toNat]'(by lia),qAn (by lia)⟩;have evt:(ts'.map fun t=>V.ref t.2)[d2.toNat]?=some (V.ref t.2):=by rw [qAX,et];rfl
   refine ⟨_,_,_,.ref t.2,rfl,rfl,SqL.of I9.top,zFi y0 evt,_,_,_,_,rfl,rfl,I9.top,?_,x0,?_,?_⟩
   ·rw [qAD,qAJ];have:i<3:=by rcases hmul with z| ⟨z,_⟩<;>lia
    lia
   ·rw [qAD];lia
   ·have hp:=ST.ins_perm ts' d1.toNat t;refine ⟨_,_,ts'.take d1.toNat++t::ts'.drop d1.toNat,rfl,P9.kp (M:=[c]) (Kp.put Kp.refl (by simp)) (nm1 npc),Kp.new (K7.trans (K8.trans K9)) fcH,(upd_ne nlc).trans ((K8.trans K9) l _ hl7 (nm1 npl.symm)),⟨?_,fun u hu=>?_⟩,fun u hu=>?_,?_⟩
    ·rw [upd_same,ins_map (fun t:(Int×Int)×Addr=>V.ref t.2)]
    ·have hu':u∈ts':=by
      rcases qAP.mp (hp.mem_iff.mp hu) with z| z
      ·rw [z];exact qAI et
      ·exact z
     exact (upd_ne (zBq (I9.row u hu') I9.top (fun y=>nomatch y))).trans (I9.row u hu')
    ·rcases qAP.mp (hp.mem_iff.mp hu) with z| z
     ·rw [z];exact s7 t (qAI et)
     ·exact s7 u z
    ·rw [hp.length_eq,qAb,e7];lia
  ·rintro σ H7 ⟨o7,o8,ts',rfl,P7,K7,hl7,I7,s7,e7⟩;have hts:ts'.length<=192:=by rcases hmul with z| ⟨z,_⟩<;>lia
   refine ⟨(by walk_at "ln"),fun g hg=>?_⟩;have fg:Fre H7 g:=hg;have npg:p≠g:=by obtain ⟨x,y,q,_⟩:=P7;exact ne_fre fg q
   have nlg:l≠g:=ne_fre fg hl7;have ncg:c≠g:=ne_fre fg I7.top;have fgH:Fre H g:=K7.fre fg (nm1 npg.symm);have k7g:Kp [] H7 (upd H7 g (.lst [])):=Kp.new Kp.refl fg;have ntp':∀t∈ts',t.2∉[p]:=fun t ht=>ntp t (s7 t ht)
   refine ⟨_,rfl,_,rfl,by lia,by lia,zCb (lo:=0) (n:=m.toNat) (fun i σ H8=>∃(o7:Option V) (Is:List Int),σ=[some (.ref p),some (.int mo),some (.int m),some (.ref l),some (.int way),some (.int th),some (.ref c),o7,some (.ref g)]/\zA6 H8 p/\Kp [p] H H8/\Txs H8 l ns/\ITs H8 c ts'/\H8 g=some (.lst (Is.map V.int))/\Spots Is i)
    ⟨_,[],rfl,P7.kp k7g (by simp),Kp.new K7 fgH,k7g l _ hl7 (by simp),I7.kp k7g (by simp) (by simp),upd_same,rfl,qBL,(fun x h=>nomatch h)⟩ ?_ ?_⟩
   ·rintro i σ H8 hi ⟨o7,Is,rfl,P8,K8,hl8,I8,hg8,S8⟩;refine ⟨_,rfl,.inl ⟨rfl,_,SqL.of hg8⟩,_,rfl,_,rfl,_,_,rfl,rfl,p,_,rfl,P8,?_,?_,fun d1 H9 x0 x1 P9 K9=>?_⟩
    ·lia
    ·lia
    have hg9:=K9 g _ hg8 (nm1 npg.symm);refine ⟨_,rfl,_,_,_,_,rfl,rfl,hg9,?_,x0,?_,?_⟩
    ·rw [qAD,S8.len,qAJ];lia
    ·rw [qAD,S8.len];lia
    ·have e1:(Is.map V.int).take d1.toNat++V.int (0+(i:Int))::(Is.map V.int).drop d1.toNat=(Is.take d1.toNat++(i:Int)::Is.drop d1.toNat).map V.int:=by
      rw [Int.zero_add];exact ins_map V.int Is d1.toNat (i:Int)
     rw [e1];have hl9:=K9 l _ hl8 (nm1 npl.symm);have I9:=I8.kp K9 (nm1 npc.symm) ntp';exact ⟨_,_,rfl,P9.kp (M:=[g]) (Kp.put Kp.refl (by simp)) (nm1 npg),Kp.new (K8.trans K9) fgH,(upd_ne nlg).trans hl9,⟨(upd_ne ncg).trans I9.top,fun u hu=>(upd_ne (zBq (I9.row u hu) hg9 (fun y=>nomatch y))).trans (I9.row u hu)⟩,upd_same,S8.put _⟩
   ·rintro σ H8 ⟨o7,Is,rfl,P8,K8,hl8,I8,hg8,S8⟩;rw [<-en] at S8;have hmn:(ns.length:Int)=m:=by rw [en];lia
    refine ⟨_,rfl,_,rfl,_,rfl,⟨_,SqL.of I8.top⟩,fun B hB=>zA1 (ts'.map fun t=>V.ref t.2) (fun i ys τ H9=>∃ks:List (List Str×Addr),(∃o0 o1,τ=[o0,o1,some (.ref l),some (.ref g)])/\ys=(ks.map fun q=>V.ref q.2)/\ks.length=i/\(∀q∈ks,H9 q.2=some (.tup (q.1.map V.str))/\Fre H q.2/\∃(a b:Str) (x y:Nat),q.1=[a,b]/\x<y/\(rowOf ns Is)[x]?=some a/\(rowOf ns Is)[y]?=some b)/\Kp [] H8 H9/\H9 B=some (.lst ys))
     ⟨[],⟨_,_,rfl⟩,rfl,rfl,(fun q h=>nomatch h),Kp.new Kp.refl hB,upd_same⟩ (fun i ys τ H9 ⟨_,_,_,_,_,k9,_⟩=>SqL.of (k9 c _ I8.top (by simp))) ?_ ?_⟩
    ·rintro i v ys τ H9 hv ⟨ks,⟨o0,o1,rfl⟩,rfl,ek,hk,k9,h9⟩;obtain ⟨t,eq,rfl⟩:=it_at hv;have mt:=qAI eq;have okt:=ok5 t (s7 t mt);have hrow:H9 t.2=some (.tup [.int t.1.1,.int t.1.2]):=k9 t.2 _ (I8.row t mt) (by simp);refine ⟨_,_,rfl,.inl (.inl hrow),rfl,_,_,rfl,_,_,rfl,rfl,?_⟩;obtain ⟨s1,n1,a1,a2,a3,a4⟩:=rowOf_at S8 okt.1 (by lia);obtain ⟨s2,n2,b1,b2,b3,b4⟩:=rowOf_at S8 (i:=t.1.2) (by lia) (by lia);have hl9:=k9 l _ hl8 (by simp);have hg9:=k9 g _ hg8 (by simp);have ai:∀{x:Int} {s:Int},0<=x->Is[x.toNat]?=some s->atI (Is.map V.int) x=some (.int s):=fun h0 h=>zFi h0 (by rw [qAX,h];rfl);have an:∀{x:Int} {n:Str},0<=x->ns[x.toNat]?=some n->atI (ns.map V.str) x=some (.str n):=fun h0 h=>zFi h0 (by rw [qAX,h];rfl);refine ⟨_,rfl,_,rfl,_,rfl,_,_,_,_,rfl,rfl,SqL.of hg9,ai okt.1 a1,_,_,_,_,rfl,rfl,SqL.of hl9,an a2 a3,_,rfl,_,rfl,_,rfl,_,_,_,_,rfl,rfl,SqL.of hg9,ai (by lia) b1,_,_,_,_,rfl,rfl,SqL.of hl9,an b2 b3,(by walk_at "ln"),fun u hu=>?_⟩;have fu:Fre H9 u:=hu;have nBu:B≠u:=ne_fre fu h9;have hu8:Fre H8 u:=k9.fre fu (by simp);have npu:p≠u:=by obtain ⟨x,y,q,_⟩:=P8;exact ne_fre hu8 q
     have fuH:Fre H u:=K8.fre hu8 (nm1 npu.symm);refine ⟨(upd_ne nBu).trans h9,?_,ks++[([n1,n2],u)],⟨_,_,rfl⟩,?_,by rw [qAU,ek];rfl,fun q hq=>?_,Kp.new (Kp.new k9 (k9.fre fu (by simp))) hB,upd_same⟩
     ·have:=(qAV.mp eq).1;rw [qAD,ek,qAJ];lia
     ·rw [qAQ];rfl
     ·rcases qAK.mp hq with z| z
      ·obtain ⟨z1,z2⟩:=hk q z;exact ⟨(upd_ne (zBq z1 h9 (fun y=>nomatch y))).trans ((upd_ne (ne_fre fu z1)).trans z1),z2⟩
      ·rw [qAR.mp z];exact ⟨(upd_ne nBu.symm).trans upd_same,fuH,n1,n2,t.1.1.toNat,t.1.2.toNat,rfl,by lia,a4,b4⟩
    ·rintro ys τ H9 ⟨ks,_,rfl,ek,hk,k9,h9⟩;rw [qAD] at ek;refine ⟨(by walk_at "ln"),fun t ht=>?_⟩;have ft:Fre H9 t:=ht;have k10:Kp [] H9 (upd H9 t (.tup [.ref l,.ref B])):=Kp.new Kp.refl ft;have ft8:Fre H8 t:=k9.fre ft (by simp);have npt:p≠t:=by obtain ⟨x,y,q,_⟩:=P8;exact ne_fre ft8 q
     have npB:p≠B:=by obtain ⟨x,y,q,_⟩:=P8;exact ne_fre (show Fre H8 B from hB) q
     have rnd:=rowOf_nd nd S8
     have rin:∀{x:Nat} {a:Str},(rowOf ns Is)[x]?=some a->a∈ns:=fun {x a} h=>by
      obtain ⟨s,hs,e⟩:=qAM.mp (qAI h);have:=S8.lt s hs;rw [<-e,qBJ,qAn (by lia)];exact qCb _
     refine k t l B ns ks (fun n=>(rowOf ns Is).idxOf n) _ (by rw [en];lia) (by lia) upd_same (K8.fre ft8 (nm1 npt.symm)) flH (K8.fre (show Fre H8 B from hB) (nm1 npB.symm)) (fun q hq=>(hk q hq).2.1) ((k9.trans k10) l _ hl8 (by simp)) ⟨k10 B _ h9 (by simp),fun q hq=>k10 _ _ (hk q hq).1 (by simp),fun q hq=>?_⟩ ⟨nm,nd,by rw [en];lia,by lia,fun q hq x hx=>?_,fun q hq=>?_⟩ (P8.kp (k9.trans k10) (by simp)) (K8.trans ((k9.trans k10).weak (by simp)))
     ·obtain ⟨a,b,x,y,e,_⟩:=(hk q hq).2.2;exact ⟨a,b,e⟩
     ·obtain ⟨a,b,i,j,e,_,h1,h2⟩:=(hk q hq).2.2;rw [e] at hx;rcases qAP.mp hx with z| z
      ·rw [z];exact rin h1
      ·rw [qAR.mp z];exact rin h2
     ·obtain ⟨a,b,i,j,e,hij,h1,h2⟩:=(hk q hq).2.2;have e1:fst q=a:=by unfold fst;rw [e];rfl
      have e2:snd q=b:=by unfold snd;rw [e];rfl
      rw [e1,e2,zHl rnd h1,zHl rnd h2];exact hij
end
structure Mth (P:Program) (w:World) (K:PySem.W.Frag) (mg:Str->Option Value) (base:Heap) (C:Addr) (m:Str) (k:Nat) (ps:List Str) (sp:Sp):Prop where
 to:∃(f:Addr) (fd:FuncData),Meth K C m f/\zDu K fd ps []/\FnOk P w K mg base CX0 k f fd ps sp
theorem zI0 {m:Str} {k:Nat} {ps:List Str} {o e:Expr} {es:List Expr} {apos pos:Pos} {t:TA} {pl:Sem Bool} (M:Mth X.prog X.w X.K X.mg X.base C m k ps sp) (c:Cls X.K C) (hr:Room k X.A) (he:PE X o ta) (ha:PA X (e::es) t)
  (hst:starEach (e::es) X.env=(false,eval e X.env)::starEach es X.env:=by rfl) (hpl:(backTo pos (starEach es X.env)).any (·.1)=false:=by rfl)
  (ht:eval (.Call (.Attribute o m apos) (e::es) [] pos) X.env=(do
   let ov<-eval o X.env
   standAt apos.atName
   let (f,first)<-holding [ov] (getMethod ov m pl)
   callWith pos f first (backTo pos (starEach (e::es) X.env)) (backToKw pos (keywordEach [] X.env))):=by rfl):PE X (.Call (.Attribute o m apos) (e::es) [] pos) (tMeth C m sp [] E0 ta t):=by
 obtain ⟨f,fd,h1,h2,h3⟩:=M.to;exact pe_meth he c h1 h3 hr h2 .nil pass0 ha hst hpl ht
theorem zDb {m:Str} {k:Nat} {ps:List Str} {o:Expr} {apos pos:Pos} {pl:Sem Bool} (M:Mth X.prog X.w X.K X.mg X.base C m k ps sp) (c:Cls X.K C) (hr:Room k X.A) (he:PE X o ta)
  (ht:eval (.Call (.Attribute o m apos) [] [] pos) X.env=(do
   let ov<-eval o X.env
   standAt apos.atName
   let (f,first)<-holding [ov] (getMethod ov m pl)
   callWith pos f first (backTo pos (starEach [] X.env)) (backToKw pos (keywordEach [] X.env))):=by rfl):PE X (.Call (.Attribute o m apos) [] [] pos) (tMeth C m sp [] E0 ta tNil):=by
 obtain ⟨f,fd,h1,h2,h3⟩:=M.to;exact pe_meth0 he c h1 h3 hr h2 .nil pass0 ht
theorem S_rank {r:Str->Nat} (A:JobsAt C H j J) (G:Good J.ns qs r) (hz:∀k,k∈J.zs.map (·.1)↔k∈qs.map (·.1)):∀(b:Nat) (n x:Str),r n<=b->n∈J.ns->x∈J.S n->r x<r n:=by
 have tk:∀n x,x∈told J.zs n->x∈J.ns/\r x<r n:=fun n x hx=>by
  obtain ⟨q,q1,q2,q3⟩:=zGq.mp hx;have:q.1∈qs.map (·.1):=(hz q.1).mp (qAM.mpr ⟨q,q1,rfl⟩);obtain ⟨q',h1,h2⟩:=qAM.mp this;obtain ⟨e1,e2⟩:=fst_of h2;obtain ⟨a,b,eab⟩:=A.prs.two q q1;refine ⟨?_,by rw [<-q2,<-q3,<-e1,<-e2];exact G.rk q' h1⟩;rw [<-q3];refine A.zin q q1 _ ?_;unfold fst;rw [eab];simp
 intro b
 induction b with
 | zero =>
  intro n x hb hn hx;rcases (A.mem n hn x).mp hx with z| ⟨m,z,_⟩
  ·exact (tk n x z).2
  ·have:=(tk n m z).2;lia
 | succ b ih =>
  intro n x hb hn hx;rcases (A.mem n hn x).mp hx with z| ⟨m,z,z'⟩
  ·exact (tk n x z).2
  ·have h1:=tk n m z;exact qCa (ih m x (by lia) h1.1 z') h1.2
structure Mkr (P:Program) (w:World) (K:PySem.W.Frag) (mg:Str->Option Value) (base:Heap) (C:Addr) (x:Str) (k:Nat) (ps:List Str) (sp:Sp):Prop where
 to:∃(f:Addr) (fd:FuncData),Mk K C f/\mg x=some (.ref C)/\zDu K fd ps []/\FnOk P w K mg base CX0 k f fd ps sp
theorem pe_makeC {k:Nat} {ps:List Str} {e:Expr} {es:List Expr} {p pos:Pos} {t:TA} (M:Mkr X.prog X.w X.K X.mg X.base C x k (("self" : Str)::ps) sp) (hr:Room (k+1) X.A) (hg:Gl X x) (ha:PA X (e::es) t)
  (hdb:(x==("__debug__" : Str))=false:=by decide) (he:starEach (e::es) X.env=(false,eval e X.env)::starEach es X.env:=by rfl) (hpl:(backTo pos (starEach es X.env)).any (·.1)=false:=by rfl):PE X (.Call (.Name x p) (e::es) [] pos) (tMake C sp [] E0 t):=by
 obtain ⟨f,fd,h1,h2,h3,h4⟩:=M.to;exact pe_make h1 h4 hr hg h2 h3 .nil pass0 ha hdb he hpl
def TA (qs:List (List Str×Addr)) (a b:Str):Prop:=∃q∈qs,fst q=a/\snd q=b
inductive Way (qs:List (List Str×Addr)):Str->Str->Prop
 | one {a b:Str}:TA qs a b->Way qs a b
 | more {a b c:Str}:Way qs a b->TA qs b c->Way qs a c
theorem Way.lead {c:Str} (h:TA qs a b) (w:Way qs b c):Way qs a c:=by
 induction w with
 | one h'=>exact .more (.one h) h'
 | more _ h' ih=>exact .more ih h'
theorem Way.trans {c:Str} (h:Way qs a b) (w:Way qs b c):Way qs a c:=by
 induction w with
 | one h'=>exact .more h h'
 | more _ h' ih=>exact .more ih h'
theorem TA.to (two:∀q∈qs,∃a b,q.1=[a,b]) (qin:∀q∈qs,∀x∈q.1,x∈ns) (h:TA qs a b):a∈ns/\b∈ns:=by
 obtain ⟨q,hq,rfl,rfl⟩:=h;obtain ⟨a,b,e⟩:=two q hq;unfold fst snd;rw [e];exact ⟨qin q hq a (by rw [e];simp),qin q hq b (by rw [e];simp)⟩
theorem Way.to (two:∀q∈qs,∃a b,q.1=[a,b]) (qin:∀q∈qs,∀x∈q.1,x∈ns) (h:Way qs a b):a∈ns/\b∈ns:=by
 induction h with
 | one h=>exact h.to two qin
 | more _ h ih=>exact ⟨ih.1,(h.to two qin).2⟩
theorem S_way {r:Str->Nat} (A:JobsAt C H j J) (G:Good J.ns qs r) (hz:∀k,k∈J.zs.map (·.1)↔k∈qs.map (·.1)) (hn:n∈J.ns):x∈J.S n↔Way qs x n:=by
 have tk:∀n x,x∈told J.zs n↔TA qs x n:=fun n x=>by
  rw [zGq];constructor
  ·rintro ⟨q,h1,h2,h3⟩;obtain ⟨q',h4,h5⟩:=qAM.mp ((hz q.1).mp (qAM.mpr ⟨q,h1,rfl⟩));obtain ⟨e1,e2⟩:=fst_of h5;exact ⟨q',h4,e1.trans h3,e2.trans h2⟩
  ·rintro ⟨q,h1,h2,h3⟩;obtain ⟨q',h4,h5⟩:=qAM.mp ((hz q.1).mpr (qAM.mpr ⟨q,h1,rfl⟩));obtain ⟨e1,e2⟩:=fst_of h5;exact ⟨q',h4,e2.trans h3,e1.trans h2⟩
 have tin:∀n x,TA qs x n->x∈J.ns/\r x<r n:=fun n x h=>by
  have hT:=(tk n x).mpr h;obtain ⟨q,q1,q2,q3⟩:=zGq.mp hT;obtain ⟨a,b,e⟩:=A.prs.two q q1;refine ⟨?_,?_⟩
  ·rw [<-q3];refine A.zin q q1 _ ?_;unfold fst;rw [e];simp
  ·obtain ⟨q',h1,h2,h3⟩:=h;rw [<-h2,<-h3];exact G.rk q' h1
 constructor
 ·have:∀(b:Nat) (n:Str),r n<=b->n∈J.ns->∀x,x∈J.S n->Way qs x n:=by
   intro b
   induction b with
   | zero =>
    intro n hb hn x hx;rcases (A.mem n hn x).mp hx with z| ⟨m,z,_⟩
    ·exact .one ((tk n x).mp z)
    ·have:=(tin n m ((tk n m).mp z)).2;lia
   | succ b ih =>
    intro n hb hn x hx;rcases (A.mem n hn x).mp hx with z| ⟨m,z,z'⟩
    ·exact .one ((tk n x).mp z)
    ·have h1:=tin n m ((tk n m).mp z);exact .more (ih m (by lia) h1.1 x z') ((tk n m).mp z)
  exact this (r n) n (qAG _) hn x
 ·intro w
  induction w with
  | one h=>exact (A.mem _ hn _).mpr (.inl ((tk _ _).mpr h))
  | more _ h ih=>exact (A.mem _ hn _).mpr (.inr ⟨_,(tk _ _).mpr h,ih (tin _ _ h).1⟩)
structure DS (H0 H:Hp) (d:Addr) (ns:List Str) (la:Str->Addr) (L:Str->List Str):Prop where
 top:H d=some (.dK (dT1 ns fun n=>.ref (la n)))
 row:∀n∈ns,SetD H (la n) (L n)
 ne:∀n∈ns,la n≠d
 fr:Fre H0 d
 frs:∀n∈ns,Fre H0 (la n)
theorem ne_nil_is {K:PySem.W.Frag} {c:Addr} {xs:List V} {Q:VK} (h1:SqL K H c xs) (h2:SqL K H e []) (h:Q (.bl (decide (xs≠[]))) H):zF3 K 8 false (.ref c) (.ref e) H Q\/zF2 K true (.ref c) (.ref e) H Q:=by
 by_cases z:xs=[]
 ·subst z;exact .inl ⟨c,e,_,_,rfl,rfl,h1,h2,rfl,(fun i x y h=>by simp at h),h⟩
 ·rw [qAf z] at h;exact .inr ⟨c,e,_,_,rfl,rfl,h1,h2,fun y=>z (qBy.mp y),h⟩
def szAt (H:Hp) (a:Addr):Nat:=match H a with
 | some (.lst xs)=>xs.length
 | some (.dK kvs)=>kvs.length
 | _=>0
theorem zIo {a:Addr} {xs:List V} (h:H a=some (.lst xs)):szAt H a=xs.length:=by unfold szAt;rw [h]
theorem szAt_dK {a:Addr} {kvs:List (Key×V)} (h:H a=some (.dK kvs)):szAt H a=kvs.length:=by unfold szAt;rw [h]
theorem dT1_snoc (B:List Str) (x:Str) (g:Str->V):dT1 (B++[x]) g=dT1 B g++[(.inr x,g x)]:=by unfold dT1;rw [qAQ];rfl
theorem zC5 (B:List Str) (g:Str->V):(dT1 B g).length=B.length:=by unfold dT1;rw [qAD]
structure DR (H:Hp) (d:Addr) (ns:List Str) (la:Str->Addr) (L:Str->List Str):Prop where
 top:H d=some (.dK (dT1 ns fun n=>.ref (la n)))
 row:∀n∈ns,SetD H (la n) (L n)
theorem DS.rd {la:Str->Addr} {L:Str->List Str} (D:DS H0 H d ns la L):DR H d ns la L:=⟨D.top,D.row⟩
theorem DR.kp0 {la:Str->Addr} {L:Str->List Str} (D:DR H d ns la L) (k:Kp [] H H'):DR H' d ns la L:=⟨k d _ D.top (by simp),fun n hn=>k _ _ (D.row n hn) (by simp)⟩
theorem DR.get {la:Str->Addr} {L:Str->List Str} (D:DR H d ns la L) (hy:y∈ns):DGet H d (.str y) (some (.ref (la y))):=by
 have:=DGet.k (k:=Sum.inr y) D.top;rw [zBr,qAC hy] at this;exact this
def ahL (ns:List Str) (L:Str->List Str) (x:Str):List Str:=ns.filter fun o=>decide (x∈L o)
theorem JNew.back (N:JNew H' J) (k:Kp [] H H'):JNew H J:=⟨k.fre N.r (by simp),k.fre N.p (by simp),k.fre N.e (by simp),fun q hq=>k.fre (N.z q hq) (by simp),fun n hn=>k.fre (N.s n hn) (by simp)⟩
theorem Good.keys {zs:List (List Str×Addr)} {r:Str->Nat} (G:Good ns qs r) (hz:∀k,k∈zs.map (·.1)↔k∈qs.map (·.1)) (hl:zs.length<=306):Good ns zs r:=by
 have bk:∀q∈zs,∃q'∈qs,q'.1=q.1:=fun q hq=>qAM.mp ((hz q.1).mp (qAM.mpr ⟨q,hq,rfl⟩));refine ⟨G.nm,G.nd,G.few,hl,fun q hq x hx=>?_,fun q hq=>?_⟩
 ·obtain ⟨q',h1,h2⟩:=bk q hq;exact G.qin q' h1 x (by rw [h2];exact hx)
 ·obtain ⟨q',h1,h2⟩:=bk q hq;obtain ⟨e1,e2⟩:=fst_of h2;rw [<-e1,<-e2];exact G.rk q' h1
def topR (r:Str->Nat) (ns:List Str):Nat:=(ns.map r).sum
theorem le_topR (r:Str->Nat):∀{ns:List Str} {x:Str},x∈ns->r x<=topR r ns
 | y::ns,x,h=>by
  unfold topR;rw [qAk,qCQ];rcases qAP.mp h with z| z
  ·rw [z];lia
  ·have:=le_topR r z;unfold topR at this;lia
theorem zC3 {q:List Str×Addr} (e:q.1=[a,b]):fst q=a/\snd q=b:=by unfold fst snd;rw [e];exact ⟨rfl,rfl⟩
theorem Good.rev {ks:List (List Str×Addr)} {r:Str->Nat} (G:Good ns qs r) (two:∀q∈qs,∃a b,q.1=[a,b]) (e:ks.map (·.1)=qs.map fun q=>q.1.reverse):Good ns ks fun x=>topR r ns - r x:=by
 have bk:∀k∈ks,∃q∈qs,q.1.reverse=k.1:=fun k hk=>by
  have:k.1∈ks.map (·.1):=qAM.mpr ⟨k,hk,rfl⟩;rw [e] at this;exact qAM.mp this
 refine ⟨G.nm,G.nd,G.few,?_,fun k hk x hx=>?_,fun k hk=>?_⟩
 ·have:=qAg List.length e;rw [qAD,qAD] at this;rw [this];exact G.qfew
 ·obtain ⟨q,h1,h2⟩:=bk k hk;rw [<-h2] at hx;exact G.qin q h1 x (List.mem_reverse.mp hx)
 ·obtain ⟨q,h1,h2⟩:=bk k hk;obtain ⟨a,b,eab⟩:=two q h1;have e1:=zC3 eab;have e2:k.1=[b,a]:=by rw [<-h2,eab];rfl
  have e3:=zC3 e2;have hb:b∈ns:=G.qin q h1 b (by rw [eab];simp);have:=G.rk q h1;rw [e1.1,e1.2] at this;rw [e3.1,e3.2];have:=le_topR r hb;lia
section
def zIp (C:Addr):Sp:=fun vs H Q _=>∃(j:Addr) (J:JR) (r:Str->Nat),vs=[.ref j]/\JobsAt C H j J/\Good J.ns J.zs r/\∀x J' H',Fre H x->JobsAt C H' x J'->JNew H J'->J'.ns=J.ns->(∀k,k∈J'.zs.map (·.1)↔k∈J.zs.map fun q=>q.1.reverse)->Kp [] H H'->Q (.ref x) H'
abbrev zCg:Stmt:=zFv (top 42) 8
theorem zHs:FnScope ["self"] ["self"] (zAd zCg):=fnS
theorem zHy {f:Addr} (F:Fun K "turned" "Jobs.turned" zCg f fd) (T:Txt K mg) (U:JC K mg C) (M_Jobs:Mkr P w K mg base C "Jobs" 4 ["self", "names", "orders"] (spInit C)):FnOk P w K mg base CX0 6 f fd ["self"] (zIp C):=by
 refine F.ok zHs (fun vs H Q E h=>?_) (fun cdv A outer s H vs Q E hr h=>?_)
 ·obtain ⟨j,J,r,rfl,_⟩:=h;rfl
 ·obtain ⟨j,J,r,rfl,A0,G,k⟩:=h;refine ⟨_,(zAe (zAk (pe_makeC M_Jobs hr rfl (zAa (zDc (pv 0) rfl) (zAa (zA3 rfl (zA4 (sc:=zAd zCg) rfl (by decide +kernel)) (Draws.own (x:= "one") (Draws.own (x:= "other") Draws.nil)) (zAo (zDc (pv 0) rfl)) (fun _ _ _ _=>(zIz (K:=K) (n:=2) rfl (zBd (pgB (i:=0)) (zBd (pgB (i:=1)) zEo)))) (fun _ _ _ _=>zB4) (fun _ _ _ _=>(zDv (zAa (pv 1) (zAa (pv 0) zAb))))) zAb))))),?_⟩
  refine ⟨_,rfl,_,_,_,_,_,rfl,A0.ob,U.cl,U.n_row,zIf _ _ _,_,rfl,_,_,_,_,_,rfl,A0.ob,U.cl,U.n_pairs,jf_pairs _ _ _,_,rfl,⟨_,SqL.of A0.prs.top⟩,fun B hB=>zA1 (J.zs.map fun q=>V.ref q.2) (fun i ys τ H3=>∃ks:List (List Str×Addr),(∃o0 o1,τ=[o0,o1])/\ys=(ks.map fun q=>V.ref q.2)/\ks.map (·.1)=(J.zs.take i).map (fun q=>q.1.reverse)/\(∀q∈ks,H3 q.2=some (.tup (q.1.map V.str)))/\Kp [] H H3/\H3 B=some (.lst ys))
   ⟨[],⟨_,_,rfl⟩,rfl,rfl,(fun q h=>nomatch h),Kp.new Kp.refl hB,upd_same⟩ (fun i ys τ H3 ⟨_,_,_,_,_,k3,_⟩=>SqL.of (k3 _ _ A0.prs.top (by simp))) ?_ ?_⟩
  ·rintro i v ys τ H3 hv ⟨ks,⟨o0,o1,rfl⟩,rfl,ek,hk,k3,h3⟩;obtain ⟨q,eq,rfl⟩:=zG5 hv;have mq:=qAI eq;obtain ⟨a,b,eab⟩:=A0.prs.two q mq
   have hrow:H3 q.2=some (.tup [.str a,.str b]):=by
    have:=k3 q.2 _ (A0.prs.row q mq) (by simp);rw [eab] at this;exact this
   refine ⟨_,_,rfl,.inl (.inl hrow),rfl,_,_,rfl,_,_,rfl,rfl,?_⟩;have hlen:ks.length=(J.zs.take i).length:=by have:=qAg List.length ek;simpa using this
   refine ⟨_,rfl,_,rfl,(by walk_at "ln"),fun t ht=>?_⟩;have ft:Fre H3 t:=ht;have nBt:B≠t:=ne_fre ft h3;refine ⟨(upd_ne nBt).trans h3,?_,ks++[([b,a],t)],⟨_,_,rfl⟩,?_,?_,fun q' hq'=>?_,?_,?_⟩
   ·rw [qAD,hlen,qAW,qAJ];have:=A0.zfew;lia
   ·rw [qAQ];rfl
   ·rw [qAQ,ek,zAh eq,qAQ,qAk,qAk,eab];rfl
   ·rcases qAK.mp hq' with z| z
    ·exact (upd_ne (zBq (hk q' z) h3 (fun y=>nomatch y))).trans ((upd_ne (ne_fre ft (hk q' z))).trans (hk q' z))
    ·rw [qAR.mp z];exact (upd_ne nBt.symm).trans upd_same
   ·exact Kp.new (Kp.new k3 (k3.fre ft (by simp))) hB
   ·exact upd_same
  ·rintro ys τ H3 ⟨ks,_,rfl,ek,hk,k3,h3⟩;have eT:J.zs.take (J.zs.map fun q=>V.ref q.2).length=J.zs:=by rw [qAD,qAd]
   rw [eT] at ek
   have ktwo:∀q∈ks,∃a b,q.1=[a,b]:=fun q hq=>by
    have:q.1∈ks.map (·.1):=qAM.mpr ⟨q,hq,rfl⟩;rw [ek] at this;obtain ⟨q',hq',e⟩:=qAM.mp this;obtain ⟨a,b,eab⟩:=A0.prs.two q' hq';exact ⟨b,a,by rw [<-e,eab];rfl⟩
   refine fun x dx hx hdx nxd=>?_;have fx:Fre H3 x:=hx;have k4:Kp [] H3 (upd (upd H3 dx (.own x)) x (.ins C dx [])):=Kp.new (Kp.new Kp.refl hdx) fx;have hx4:(upd (upd H3 dx (.own x)) x (.ins C dx [])) x=some (.ins C dx []):=upd_same;generalize upd (upd H3 dx (.own x)) x (.ins C dx [])=H4 at k4 hx4 ⊢;have k04:=k3.trans k4;refine ⟨x,dx,J.r,B,J.ns,ks,_,rfl,hx4,k04 _ _ A0.row (by simp),⟨k4 B _ h3 (by simp),fun q hq=>k4 _ _ (hk q hq) (by simp),ktwo⟩,G.rev A0.prs.two ek,fun J' H5 A5 N5 ens ezs K5=>⟨rfl,?_⟩⟩;refine k x J' H5 (k3.fre fx (by simp)) A5 (N5.back k04) ens (fun q=>?_) (k3.trans (Kp.drop k4 fx K5));rw [ezs q,ek]
end
def zBa (qs:List (List Str×Addr)) (n:Str):List Str:=(qs.filter fun q=>decide (fst q=n)).map snd
theorem zE8 :y∈zBa qs n↔TA qs n y:=by
 unfold zBa TA;simp only [qAM,qA5,qCP];exact ⟨fun ⟨q,⟨a,b⟩,c⟩=>⟨q,a,b,c⟩,fun ⟨q,a,b,c⟩=>⟨q,⟨a,b⟩,c⟩⟩
theorem zE7 (qs:List (List Str×Addr)) (n:Str):(zBa qs n).length<=qs.length:=by
 unfold zBa;rw [qAD];exact qBZ _ _
structure NR (H:Hp) (d:Addr) (ns:List Str) (na:Str->Addr) (f:Str->List Str):Prop where
 top:H d=some (.dK (dT1 ns fun n=>.ref (na n)))
 row:∀n∈ns,Txs H (na n) (f n)
theorem NR.kp {M:List Addr} {na:Str->Addr} {f:Str->List Str} (D:NR H d ns na f) (k:Kp M H H') (h1:d∉M) (h2:∀n∈ns,na n∉M):NR H' d ns na f:=⟨k d _ D.top h1,fun n hn=>k _ _ (D.row n hn) (h2 n hn)⟩
theorem NR.get {na:Str->Addr} {f:Str->List Str} (D:NR H d ns na f) (hy:y∈ns):DGet H d (.str y) (some (.ref (na y))):=by
 have:=DGet.k (k:=Sum.inr y) D.top;rw [zBr,qAC hy] at this;exact this
structure BK (qs:List (List Str×Addr)) (ns:List Str) (n:Str) (B W:List Str):Prop where
 nd:B.Nodup
 sub:∀x∈B,x∈ns
 way:∀x∈B,Way qs n x
 wl:∀x∈W,Way qs n x
 c0:∀y,TA qs n y->y∈B\/y∈W
 cl:∀x∈B,∀y,TA qs x y->y∈B\/y∈W
 cap:W.length+307*(20 - B.length)<=6447
theorem BK.start (h:qs.length<=306):BK qs ns n [] (zBa qs n) :=
 ⟨qBL,(fun x h=>nomatch h),(fun x h=>nomatch h),fun x h=>.one (zE8.mp h),fun y h=>.inr (zE8.mpr h),(fun x h=>nomatch h),by
  have:=zE7 qs n;simp only [qBH];lia⟩
theorem BK.old {x0:Str} {B W:List Str} (b:BK qs ns n B (W++[x0])) (h:x0∈B):BK qs ns n B W:=by
 have mv:∀y,(y∈B\/y∈W++[x0])->y∈B\/y∈W:=fun y hy=>by
  rcases hy with z| z
  ·exact .inl z
  ·rcases qAK.mp z with z| z
   ·exact .inr z
   ·rw [qAR.mp z];exact .inl h
 refine ⟨b.nd,b.sub,b.way,fun x hx=>b.wl x (qAc _ hx),fun y hy=>mv y (b.c0 y hy),fun x hx y hy=>mv y (b.cl x hx y hy),?_⟩;have:=b.cap;rw [qAU,qA8] at this;lia
theorem BK.new {x0:Str} {B W:List Str} (b:BK qs ns n B (W++[x0])) (h:x0∉B) (hx:x0∈ns) (hn:ns.length<=20) (hq:qs.length<=306):BK qs ns n (B++[x0]) (W++zBa qs x0)/\(W++zBa qs x0).length+307*(20 - (B++[x0]).length)<W.length+1+307*(20 - B.length):=by
 have nd:(B++[x0]).Nodup:=qBd.mpr ⟨b.nd,by simp,fun a ha d hd=>by
  rw [qAR.mp hd];exact fun z=>h (z▸ha)⟩
 have sub:∀x∈B++[x0],x∈ns:=fun x h=>by
  rcases qAK.mp h with z| z
  ·exact b.sub x z
  ·rw [qAR.mp z];exact hx
 have w0:Way qs n x0:=b.wl x0 (by simp)
 have mv:∀y,(y∈B\/y∈W++[x0])->y∈B++[x0]\/y∈W++zBa qs x0:=fun y hy=>by
  rcases hy with z| z
  ·exact .inl (qAc _ z)
  ·rcases qAK.mp z with z| z
   ·exact .inr (qAc _ z)
   ·exact .inl (qAq _ z)
 have less:(W++zBa qs x0).length+307*(20 - (B++[x0]).length)<W.length+1+307*(20 - B.length):=by
  have h1:=zAs nd sub;have h2:=zE7 qs x0;simp only [qAU,qA8] at *
  lia
 refine ⟨⟨nd,sub,fun x hx=>?_,fun x hx=>?_,fun y hy=>mv y (b.c0 y hy),fun x hx y hy=>?_,?_⟩,less⟩
 ·rcases qAK.mp hx with z| z
  ·exact b.way x z
  ·rw [qAR.mp z];exact w0
 ·rcases qAK.mp hx with z| z
  ·exact b.wl x (qAc _ z)
  ·exact .more w0 (zE8.mp z)
 ·rcases qAK.mp hx with z| z
  ·exact mv y (b.cl x z y hy)
  ·rw [qAR.mp z] at hy;exact .inr (qAq _ (zE8.mpr hy))
 ·have:=b.cap;rw [qAU,qA8] at this;lia
theorem BK.all {B:List Str} (b:BK qs ns n B []) (x:Str):x∈B↔Way qs n x:=by
 refine ⟨b.way x,fun h=>?_⟩
 induction h with
 | one h=>exact (b.c0 _ h).elim id (fun z=>nomatch z)
 | more _ h ih=>exact (b.cl _ ih _ h).elim id (fun z=>nomatch z)
theorem zJh {b:Addr} {la:Str->Addr} (h:n∉ns):dT1 ns (fun n=>V.ref (la n))++[(Sum.inr n,V.ref b)]=dT1 (ns++[n]) (fun x=>V.ref (if x=n then b else la x)):=by
 rw [dT1_snoc,qAC rfl];congr 1;exact zFd fun x hx=>by rw [qAB (show¬x=n from fun z=>h (z▸hx))]
section
def spLBehind:Sp:=fun vs H Q _=>∃(l m:Addr) (ns:List Str) (qs:List (List Str×Addr)),vs=[.ref l,.ref m]/\Txs H l ns/\Ords H m qs/\ns.Nodup/\ns.length<=20/\qs.length<=306/\(∀q∈qs,∀x∈q.1,x∈ns) /\
 ∀d la L H',DS H H' d ns la L->(∀n∈ns,(L n).Nodup/\∀x,x∈L n↔Way qs n x)->Kp [] H H'->Q (.ref d) H'
abbrev zGm:Stmt:=top 50
theorem zCk:FnScope ["_law_names_here", "_law_orders", "_law_near", "_law_name", "_law_found", "_law_waiting", "_law_here"] ["_law_names_here", "_law_orders"] (zAd zGm):=fnS
theorem ok_behind {f:Addr} (F:Fun K "_law_behind" "_law_behind" zGm f fd) (T:Txt K mg):FnOk P w K mg base CX0 1 f fd ["_law_names_here", "_law_orders"] spLBehind:=by
 refine F.ok zCk (fun vs H Q E h=>?_) (fun cdv A outer s H vs Q E hr h=>?_)
 ·obtain ⟨l,m,ns,qs,rfl,_⟩:=h;rfl
 ·obtain ⟨l,m,ns,qs,rfl,hl,hm,hN,hn,hz,hq,k⟩:=h;have hu:=zD6 hr
  refine ⟨_,(zAc (psS (i:=2) zCk.nd zBw)
   (zAc (zA8 qAi rfl (zAo (pv 0)) (pgN (i:=3) zCk.nd)
    (zAe (zCd hu (pv 2) (pv 3) (zA3 rfl (zA4 (sc:=zAd zGm) rfl (by decide +kernel)) (Draws.own (x:= "_law_one") (Draws.own (x:= "_law_other") (dtk (i:=3) rfl Draws.nil))) (zAo (pv 1)) (fun _ _ _ _=>(zIz (K:=K) (n:=2) rfl (zBd (pgB (i:=0)) (zBd (pgB (i:=1)) zEo)))) (fun _ _ _ _=>(zB6 (zAj zDd (pv 0) (pv 2) (zAl _)))) (fun _ _ _ _=>(pv 1))) rfl)))
   (zAc (psS (i:=4) zCk.nd zBw)
   (zAc (zA8 qAi rfl (zAo (pv 0)) (pgN (i:=3) zCk.nd)
    (zAc (zCd hu (pv 4) (pv 3) zBw rfl)
    (zAc (psS (i:=5) zCk.nd (zAv zBm (by rfl) T.z_list zCr (zAa (zAz hu (pv 2) (pv 3) (fun _ _=>rfl)) zAb)))
    (zAe (zE0 qAi (zAj (zI2 hr) (pv 5) (zBe zAb) (zAl _))
     (zAc (psS (i:=6) zCk.nd (pe_bm0 qBA qDe qDf mt_pop (pv 5)))
     (zAe (zA9 (zD0 (zCp hu (pv 6) (zAz hu (pv 4) (pv 3) (fun _ _=>rfl))))
      (zAc (zCd hu (zAz hu (pv 4) (pv 3) (fun _ _=>rfl)) (pv 6) pe_bl rfl)
      (zAe (zA2 (zGb qBA qDa qDb zHd (pv 5) (zAa (zAz hu (pv 2) (pv 6) (fun _ _=>rfl)) zAb)))))
      zAn))))))))
   (zAe (zAk (pv 4))))))),?_⟩
  refine fun d0 hd0=>?_;have fd0:Fre H d0:=hd0
  refine ⟨_,rfl,_,rfl,⟨_,SqL.of ((Kp.new (M:=[]) Kp.refl fd0) l _ hl (by simp))⟩,zA5 (fun i σ H2=>(∃o3 o4 o5 o6:Option V,σ=[some (.ref l),some (.ref m),some (.ref d0),o3,o4,o5,o6])/\Kp [] H H2/\∃na,NR H2 d0 (ns.take i) na (zBa qs))
   ⟨⟨_,_,_,_,rfl⟩,Kp.new Kp.refl fd0,fun _=>0,upd_same,(fun n h=>nomatch h)⟩ (fun i σ H2 _ ⟨_,k2,_⟩=>SqL.of (k2 l _ hl (by simp))) ?_ ?_⟩
  ·rintro i v σ H2 hv ⟨⟨o3,o4,o5,o6,rfl⟩,k2,na,N⟩;obtain ⟨n,en,rfl⟩:=zAw hv;have ni:=zCw hN en;have hm2:=hm.kp k2 (by simp) (by simp)
   refine ⟨_,rfl,_,rfl,⟨_,SqL.of hm2.top⟩,fun B hB=>zBl (qs.map fun q=>V.ref q.2) (fun i ys τ H3=>(∃o0 o1,τ=[o0,o1,some (.str n)])/\ys=(zBa (qs.take i) n).map V.str/\H3=upd H2 B (.lst ys))
    ⟨⟨_,_,rfl⟩,rfl,rfl⟩ (fun i ys τ H3 ⟨_,_,z⟩=>by subst z;exact SqL.of ((Kp.new (M:=[]) Kp.refl hB) _ _ hm2.top (by simp))) ?_ ?_⟩
   ·rintro i v ys τ H3 hv ⟨⟨o0,o1,rfl⟩,rfl,rfl⟩;obtain ⟨q,eq,rfl⟩:=zG5 hv;have mq:=qAI eq;obtain ⟨x,y,exy⟩:=hm.two q mq
    have hrow:(upd H2 B (.lst ((zBa (qs.take i) n).map V.str))) q.2=some (.tup [.str x,.str y]):=by
     have:=(Kp.new (l:=B) (o:=.lst ((zBa (qs.take i) n).map V.str)) (M:=[]) Kp.refl hB) q.2 _ (hm2.row q mq) (by simp);rw [exy] at this;exact this
    have e1:fst q=x:=(by unfold fst;rw [exy];rfl);have e2:snd q=y:=(by unfold snd;rw [exy];rfl);refine ⟨_,_,rfl,.inl (.inl hrow),rfl,_,_,rfl,_,_,rfl,rfl,?_⟩;refine ⟨_,rfl,_,rfl,rfl,_,rfl,ite2 (fun c=>?_) (fun c=>?_)⟩
    ·have c':x=n:=by simpa using c
     refine ⟨_,rfl,upd_same,?_,⟨_,_,rfl⟩,?_,zBh⟩
     ·have:=zE7 (qs.take i) n;rw [qAW] at this;rw [qAD,qAJ];lia
     ·have:zBa (qs.take (i+1)) n=zBa (qs.take i) n++[y]:=by
       unfold zBa;rw [zB9 eq (qAf (e1.trans c')),qAQ,qAk,e2];rfl
      rw [this,qAQ];rfl
    ·have c':¬x=n:=fun z=>c (by simpa using z);refine ⟨⟨_,_,rfl⟩,?_,?_⟩
     ·have:zBa (qs.take (i+1)) n=zBa (qs.take i) n:=by
       unfold zBa;rw [zC4 eq (by rw [e1];simpa using c')]
      rw [this]
     ·rfl
   ·rintro ys τ H3 ⟨_,rfl,rfl⟩;have eT:qs.take (qs.map fun q=>V.ref q.2).length=qs:=by rw [qAD,qAd]
    rw [eT];have fB:Fre H2 B:=hB;have nB:d0≠B:=ne_fre fB N.top;have k3:Kp [] H2 (upd H2 B (.lst ((zBa qs n).map V.str))):=Kp.new Kp.refl fB;have hd3:=k3 d0 _ N.top (by simp);refine ⟨_,rfl,_,rfl,_,_,rfl,DPut.k (k:=Sum.inr n) hd3 ?_,?_⟩
    ·rw [zC5,qAW,qAJ];lia
    rw [zC1 _ ni,zJh ni,<-zAh en];refine ⟨⟨_,_,_,_,rfl⟩,Kp.new (k2.trans k3) fd0,fun x=>if x=n then B else na x,upd_same,fun x hx=>?_⟩;show Txs _ (if x=n then B else na x) (zBa qs x)
    by_cases z:x=n
    ·rw [qAC z,z];exact (upd_ne nB.symm).trans upd_same
    ·rw [qAB z];rw [zAh en] at hx;rcases qAK.mp hx with y| y
     ·have h1:=k3 _ _ (N.row x y) (by simp);exact (upd_ne (zBq h1 hd3 (fun z=>nomatch z))).trans h1
     ·exact absurd (qAR.mp y) z
  ·rintro σ H1 ⟨⟨o3,o4,o5,o6,rfl⟩,k1,na,N⟩;have eT:ns.take (ns.map V.str).length=ns:=by rw [qAD,qAd]
   rw [eT] at N;refine fun d hd=>?_;have fd1:Fre H1 d:=hd;have fd:Fre H d:=k1.fre fd1 (by simp);have nd0:d0≠d:=ne_fre fd1 N.top;have N1:NR (upd H1 d (.dK [])) d0 ns na (zBa qs):=N.kp (M:=[]) (Kp.new Kp.refl fd1) (by simp) (by simp)
   refine ⟨_,rfl,_,rfl,⟨_,SqL.of ((Kp.new (M:=[]) k1 fd) l _ hl (by simp))⟩,zA5 (fun i σ H2=>(∃o3 o5 o6:Option V,σ=[some (.ref l),some (.ref m),some (.ref d0),o3,some (.ref d),o5,o6])/\Kp [] H H2/\Kp [d] H1 H2/\∃la L,DS H H2 d (ns.take i) la L/\∀n∈ns.take i,(L n).Nodup/\∀x,x∈L n↔Way qs n x)
    ⟨⟨_,_,_,rfl⟩,Kp.new k1 fd,Kp.put Kp.refl (by simp),fun _=>0,fun _=>[],⟨upd_same,(fun n h=>nomatch h),(fun n h=>nomatch h),fd,(fun n h=>nomatch h)⟩,(fun n h=>nomatch h)⟩ (fun i σ H2 _ ⟨_,k2,_⟩=>SqL.of (k2 l _ hl (by simp))) ?_ ?_⟩
   ·rintro i0 v σ H2 hv ⟨⟨o3,o5,o6,rfl⟩,k2,q2,la,L,D,hL⟩;obtain ⟨n,en,rfl⟩:=zAw hv;have mn:=qAI en;have ni:=zCw hN en;have nnd:∀x∈ns,na x≠d:=fun x hx=>ne_fre fd1 (N.row x hx);have N2:NR H2 d0 ns na (zBa qs):=N.kp q2 (nm1 nd0) (fun x hx=>nm1 (nnd x hx));refine fun b hb=>?_;have fb:Fre H2 b:=hb;have ndb:d≠b:=ne_fre fb D.top;have fbH:Fre H b:=k2.fre fb (by simp);refine ⟨_,rfl,_,rfl,_,_,rfl,DPut.k (k:=Sum.inr n) ((upd_ne ndb).trans D.top) ?_,?_⟩
    ·rw [zC5,qAW,qAJ];lia
    rw [zC1 _ ni,zJh ni,<-zAh en];have k3:Kp [] H (upd (upd H2 b (.dK [])) d (.dK (dT1 (ns.take (i0+1)) (fun x=>.ref (if x=n then b else la x))))):=Kp.new (Kp.new k2 fbH) fd;have q3:Kp [d] H2 (upd (upd H2 b (.dK [])) d (.dK (dT1 (ns.take (i0+1)) (fun x=>.ref (if x=n then b else la x))))):=Kp.put (Kp.new Kp.refl fb) (by simp);have hd3:(upd (upd H2 b (.dK [])) d (.dK (dT1 (ns.take (i0+1)) (fun x=>.ref (if x=n then b else la x))))) d=some (.dK (dT1 (ns.take (i0+1)) (fun x=>.ref (if x=n then b else la x)))):=upd_same;have hb3:(upd (upd H2 b (.dK [])) d (.dK (dT1 (ns.take (i0+1)) (fun x=>.ref (if x=n then b else la x))))) b=some (.dK []):=(upd_ne ndb.symm).trans upd_same;generalize upd (upd H2 b (.dK [])) d (.dK (dT1 (ns.take (i0+1)) (fun x=>.ref (if x=n then b else la x))))=H3 at k3 q3 hd3 hb3 ⊢;have N3:NR H3 d0 ns na (zBa qs):=N2.kp q3 (nm1 nd0) (fun x hx=>nm1 (nnd x hx));have hs3:∀x∈ns.take i0,SetD H3 (la x) (L x):=fun x hx=>q3 _ _ (D.row x hx) (nm1 (D.ne x hx));have nlb:∀x∈ns.take i0,la x≠b:=fun x hx=>ne_fre fb (D.row x hx);refine ⟨_,rfl,_,rfl,_,_,rfl,N3.get mn,_,_,rfl,.inl (SqL.of (N3.row n mn)),fun wa hwa=>?_⟩;have fw:Fre H3 wa:=hwa;have k4:Kp [] H3 (upd H3 wa (.lst ((zBa qs n).map V.str))):=Kp.new Kp.refl fw;have hw4:Txs (upd H3 wa (.lst ((zBa qs n).map V.str))) wa (zBa qs n):=upd_same;have nwb:b≠wa:=ne_fre fw hb3;have nwd:d≠wa:=ne_fre fw hd3;have fwH:Fre H wa:=k3.fre fw (by simp);generalize upd H3 wa (.lst ((zBa qs n).map V.str))=H4 at k4 hw4 ⊢;have hb4:SetD H4 b []:=k4 b _ hb3 (by simp);have hd4:=k4 d _ hd3 (by simp);have N4:NR H4 d0 ns na (zBa qs):=N3.kp k4 (by simp) (by simp);have k04:=k3.trans k4;have nab:∀x∈ns,na x∉[b,wa]:=fun x hx=>nm2 (zBq (N3.row x hx) hb3 (fun z=>nomatch z)) (ne_fre fw (N3.row x hx));have n0b:d0∉[b,wa]:=nm2 (ne_fre fb N2.top) (ne_fre fw N3.top)
    have gd:∀{Hx:Hp},Hx d=some (.dK (dT1 (ns.take (i0+1)) (fun x=>.ref (if x=n then b else la x))))->DGet Hx d (.str n) (some (.ref b)):=fun h=>by
     have h1:=DGet.k (k:=Sum.inr n) h;rw [zBr,qAC (by rw [zAh en];simp),qAC rfl] at h1;exact h1
    refine while_by (fun σ H5=>(∃o6:Option V,σ=[some (.ref l),some (.ref m),some (.ref d0),some (.str n),some (.ref d),some (.ref wa),o6])/\Kp [b,wa] H4 H5/\∃B W,SetD H5 b B/\Txs H5 wa W/\BK qs ns n B W) (fun _ H5=>307*(20 - szAt H5 b)+szAt H5 wa)
     ⟨⟨_,rfl⟩,Kp.refl,[],zBa qs n,hb4,hw4,BK.start hz⟩ ?_ (fun σ H Q Q' hq hc=>?_)
    ·rintro σ H5 ⟨⟨o6',rfl⟩,k5,B,W,hB,hW,I5⟩;refine ⟨_,rfl,(by walk_at "ln"),fun e he=>?_⟩;have fe:Fre H5 e:=he;have k5e:Kp [] H5 (upd H5 e (.lst [])):=Kp.new Kp.refl fe;have hB6:SetD (upd H5 e (.lst [])) b B:=k5e b _ hB (by simp);have hW6:Txs (upd H5 e (.lst [])) wa W:=k5e wa _ hW (by simp);have hE6:(upd H5 e (.lst [])) e=some (.lst []):=upd_same;have k46:Kp [b,wa] H4 (upd H5 e (.lst [])):=fun c o h z=>k5e c o (k5 c o h z) (by simp);generalize upd H5 e (.lst [])=H6 at k5e hB6 hW6 hE6 k46 ⊢;refine ne_nil_is (SqL.of hW6) (SqL.of hE6) ?_;refine ⟨_,rfl,ite2 (fun c=>?_) (fun c=>?_)⟩
     ·obtain ⟨W0,x0,rfl⟩:∃W0 x0,W=W0++[x0]:=by
       have:W≠[]:=fun z=>by rw [z] at c;exact absurd c (by decide)
       exact ⟨W.dropLast,W.getLast this,(qDL this).symm⟩
      have eW:(W0++[x0]).map V.str=W0.map V.str++[.str x0]:=by rw [qAQ];rfl
      have hW6:H6 wa=some (.lst (W0.map V.str++[.str x0])):=by rw [<-eW];exact hW6
      have cap0:=I5.cap;rw [qAU,qA8] at cap0;have hx0:x0∈ns:=((I5.wl x0 (by simp)).to hm.two hq).2;refine ⟨_,rfl,.inl ⟨rfl,_,SqL.of hW6⟩,_,_,.str x0,rfl,rfl,hW6,(by simp),?_⟩;rw [List.dropLast_concat];have k7:Kp [b,wa] H4 (upd H6 wa (.lst (W0.map V.str))):=Kp.put k46 (by simp);have hW7:Txs (upd H6 wa (.lst (W0.map V.str))) wa W0:=upd_same;have hB7:SetD (upd H6 wa (.lst (W0.map V.str))) b B:=(upd_ne nwb).trans hB6;generalize upd H6 wa (.lst (W0.map V.str))=H7 at k7 hW7 hB7 ⊢;have s3:szAt H5 b=B.length:=by rw [szAt_dK hB,zC5]
      have s4:szAt H5 wa=W0.length+1:=by rw [zIo hW,qAD,qAU];rfl
      obtain ⟨o,g1,g2⟩:=zG0 hB7 x0;have hd7:=k7 d _ hd4 (nm2 ndb nwd);refine ⟨_,rfl,_,rfl,_,rfl,_,_,rfl,gd hd7,_,o,rfl,g1,_,rfl,?_⟩;rw [g2];refine ite2 (fun c2=>?_) (fun c2=>?_)
      ·have c2':x0∉B:=by simpa using c2
       obtain ⟨I7,less⟩:=I5.new c2' hx0 hn hz;refine ⟨_,rfl,_,rfl,_,_,rfl,gd hd7,_,rfl,_,_,rfl,DPut.k (k:=Sum.inr x0) hB7 ?_,?_⟩
       ·have:=zAs I5.nd I5.sub;rw [zC5,qAJ];lia
       rw [zC1 _ c2',<-dT1_snoc B x0 fun _=>.bl true];have hW8:Txs (upd H7 b (.dK (dT1 (B++[x0]) fun _=>.bl true))) wa W0:=(upd_ne nwb.symm).trans hW7;have k8:Kp [b,wa] H4 (upd H7 b (.dK (dT1 (B++[x0]) fun _=>.bl true))):=Kp.put k7 (by simp);have hB8:SetD (upd H7 b (.dK (dT1 (B++[x0]) fun _=>.bl true))) b (B++[x0]):=upd_same;generalize upd H7 b (.dK (dT1 (B++[x0]) fun _=>.bl true))=H8 at k8 hW8 hB8 ⊢;have N8:NR H8 d0 ns na (zBa qs):=N4.kp k8 n0b nab;refine ⟨_,rfl,.inl ⟨rfl,_,SqL.of hW8⟩,_,rfl,_,rfl,_,_,rfl,N8.get hx0,_,_,_,_,rfl,rfl,hW8,N8.row x0 hx0,?_,?_⟩
       ·have:=zE7 qs x0;rw [qAD,qAD,qAJ];lia
       have hW9:∀Hx:Hp,Txs (upd Hx wa (.lst (W0.map V.str++(zBa qs x0).map V.str))) wa (W0++zBa qs x0):=fun Hx=>by
        show upd _ wa _ wa=some (.lst ((W0++zBa qs x0).map V.str));rw [upd_same,qAQ]
       refine ⟨⟨⟨_,rfl⟩,Kp.put k8 (by simp),B++[x0],W0++zBa qs x0,(upd_ne nwb).trans hB8,hW9 _,I7⟩,?_⟩;have s1:∀o,szAt (upd H8 wa o) b=(B++[x0]).length:=fun o=>by rw [szAt_dK ((upd_ne nwb).trans hB8),zC5]
       have s2:szAt (upd H8 wa (.lst (W0.map V.str++(zBa qs x0).map V.str))) wa=(W0++zBa qs x0).length:=by rw [zIo (hW9 H8),qAD]
       show 307*(20 - szAt _ b)+szAt _ wa<307*(20 - szAt H5 b)+szAt H5 wa;rw [s1,s2,s3,s4];lia
      ·have c2':x0∈B:=by simpa using c2
       refine ⟨⟨⟨_,rfl⟩,k7,B,W0,hB7,hW7,I5.old c2'⟩,?_⟩;have s1:szAt H7 b=B.length:=by rw [szAt_dK hB7,zC5]
       have s2:szAt H7 wa=W0.length:=by rw [zIo hW7,qAD]
       show 307*(20 - szAt H7 b)+szAt H7 wa<307*(20 - szAt H5 b)+szAt H5 wa;rw [s1,s2,s3,s4];lia
     ·have eW:W=[]:=by
       cases W with
       | nil=>rfl
       | cons _ _=>exact absurd (qAf (by simp)) c
      subst eW;have k6:Kp [] H H6:=fun c o h _=>k46 c o (k04 c o h (by simp)) (nm2 (ne_fre fbH h) (ne_fre fwH h))
      have q6:Kp [d] H1 H6:=fun c o h z=>by
       have h2:=q2 c o h z;have h3:=q3 c o h2 z;exact k46 c o (k4 c o h3 (by simp)) (nm2 (ne_fre fb h2) (ne_fre fw h3))
      have hd6:=k46 d _ hd4 (nm2 ndb nwd)
      have cs:∀x,x∈ns.take (i0+1)->(x∈ns.take i0/\x≠n)\/x=n:=fun x h=>by
       rw [zAh en] at h;rcases qAK.mp h with z| z
       ·exact .inl ⟨z,fun y=>ni (y▸z)⟩
       ·exact .inr (qAR.mp z)
      refine ⟨⟨_,_,_,rfl⟩,k6,q6,fun x=>if x=n then b else la x,fun x=>if x=n then B else L x,⟨hd6,fun x hx=>?_,fun x hx=>?_,D.fr,fun x hx=>?_⟩,fun x hx=>?_⟩
      ·show SetD H6 (if x=n then b else la x) (if x=n then B else L x);rcases cs x hx with ⟨z1,z2⟩| z
       ·rw [qAB z2,qAB z2];have h3:=hs3 x z1;exact k46 _ _ (k4 _ _ h3 (by simp)) (nm2 (nlb x z1) (ne_fre fw h3))
       ·rw [qAC z,qAC z];exact hB6
      ·show (if x=n then b else la x)≠d;rcases cs x hx with ⟨z1,z2⟩| z
       ·rw [qAB z2];exact D.ne x z1
       ·rw [qAC z];exact ndb.symm
      ·show Fre H (if x=n then b else la x);rcases cs x hx with ⟨z1,z2⟩| z
       ·rw [qAB z2];exact D.frs x z1
       ·rw [qAC z];exact fbH
      ·show (if x=n then B else L x).Nodup/\∀y,y∈(if x=n then B else L x)↔_;rcases cs x hx with ⟨z1,z2⟩| z
       ·rw [qAB z2];exact hL x z1
       ·rw [qAC z,z];exact ⟨I5.nd,I5.all⟩
    ·obtain ⟨x,e,h1,h2⟩:=hc;refine ⟨x,e,h1,fun l hl=>?_⟩;rcases h2 l hl with ⟨a,c,xs,ys,q1,q2,q3,q4,q5,q6,b,q7,q8⟩| ⟨a,c,xs,ys,q1,q2,q3,q4,q5,b,q7,q8⟩
     ·exact .inl ⟨a,c,xs,ys,q1,q2,q3,q4,q5,q6,b,q7,hq _ _ q8⟩
     ·exact .inr ⟨a,c,xs,ys,q1,q2,q3,q4,q5,b,q7,hq _ _ q8⟩
   ·rintro σ H2 ⟨⟨o3,o5,o6,rfl⟩,k2,q2,la,L,D,hL⟩;rw [eT] at D hL;exact ⟨_,rfl,k d la L H2 D hL k2⟩
end
end My
namespace SM
open PySem PyProof.Rows ST
section
variable {prog:Program} {w:World} {A:Around} {E:Value->Shared->Prop} {s:Shared} {a kS:Addr} {vs:List Value} {kz:List Int} {keys:Array Value} {e e1:Nat} {P:PySem.Fin->Shared->Prop}
theorem k_tail {st:SortSt} (nk:s.heap.get? kS=some (seqObj "list" keys e)) (na:s.heap.get? a=some (seqObj "list" #[] e1)) (hka:kS≠a)
  (hk:IntsAre keys.toList kz) (hlen:kz.length=vs.length) (h64:vs.length<64) (hp:(arrOf st).Perm (keys.zip vs.toArray)) (hs:SortedTo (arrOf st) (arrOf st).size) (hfl:failedOf st=none)
  (h:∀h' tk out c,(∀b o,b≠kS->b≠a->s.heap.get? b=some o->h'.get? b=some o)->h'.get? a=some (seqObj "list" out c)->KskOut false kz vs out.toList->P (.done (.ret .none)) {s with heap:=h',toks:=tk}) :
  wpAny (model prog w) A (ksk_tail a false e1 (.ref kS) st) P E s:=by
 have hsz:keys.size=vs.length:=by
  have h1:=hk.length;rw [qBM] at h1;lia
 have hsz2:(arrOf st).size=vs.length:=by rw [hp.size_eq,Array.size_zip,hsz,qAO,Nat.min_self]
 have hout:((arrOf st).map (·.2)).size=vs.length:=by rw [Array.size_map];exact hsz2
 have ko:KskOut false kz vs ((arrOf st).map (·.2)).toList:=ksk_out (b:=false) hk hp hs;unfold ksk_tail;simp only [qCt,qBt];generalize (arrOf st).map (·.2)=out at hout ko;have s1:=qAr s.heap kS (Obj.mapSeq fun _=>(#[]:Array Value));have na1:(s.heap.update kS (Obj.mapSeq fun _=>(#[]:Array Value))).get? a=some (seqObj "list" #[] e1):=(s1.2 a hka.symm).trans na;have s2:=qAr (s.heap.update kS (Obj.mapSeq fun _=>(#[]:Array Value))) a (Obj.mapSeq fun _=>out);have hc2:=qBo na1 fun _=>out;refine qAA (qBz nk rfl ?_ (by rw [hsz,qAJ];lia) (qAj _));refine qAA (qCx ?_);refine qAA (qCr na1 rfl ?_);refine qAA (qBz na1 rfl ?_ (qAj _) (qAY (qB6 hout) (by rw [qAJ];lia)));rw [hfl];simp only [bne_self_eq_false,qCt,qBt];exact qAE (h _ _ out _ (fun b o n1 n2 q=>(s2.2 b n2).trans ((s1.2 b n1).trans q)) hc2 ko)
theorem k_end (nk:s.heap.get? kS=some (seqObj "list" keys e)) (na:s.heap.get? a=some (seqObj "list" #[] e1)) (hka:kS≠a)
  (hk:IntsAre keys.toList kz) (hlen:kz.length=vs.length) (h64:vs.length<64)
  (h:∀h' tk out c,(∀b o,b≠kS->b≠a->s.heap.get? b=some o->h'.get? b=some o)->h'.get? a=some (seqObj "list" out c)->KskOut false kz vs out.toList->P (.done (.ret .none)) {s with heap:=h',toks:=tk}) :
  wpAny (model prog w) A (ksk_end a false vs.toArray e1 (.ref kS) keys) P E s:=by
 have hsz:keys.size=vs.length:=by
  have h1:=hk.length;rw [qBM] at h1;lia
 have hzs:(keys.zip vs.toArray).size=vs.length:=by rw [Array.size_zip,hsz,qAO,Nat.min_self]
 unfold ksk_end;simp only [qCt,qBt]
 by_cases h2:vs.toArray.size<2
 ·rw [qAC h2,qAC h2];refine qAA (qAE ?_);rw [StateT.run_pure];refine qAA (qAE ?_)
  try dsimp only
  refine k_tail (st:=SortSt.mk' general' (keys.zip vs.toArray) #[] 7 none) nk na hka hk hlen h64 (qCg _) ?_ rfl h;intro i j hij hj;have hj2:j<(keys.zip vs.toArray).size:=hj;rw [hzs] at hj2;rw [qAO] at h2;have:i=j:=by lia
  subst this;exact Int.le_refl _
 ·rw [qAB h2,qAB h2];rw [qAO] at h2;rw [ksk_kind hk (by rw [hsz];lia)];refine qAA (qAE ?_)
  refine qAA (qAw (wpS_sortRuns (a₀:=keys.zip vs.toArray) (st:=SortSt.mk' oneType' (keys.zip vs.toArray) #[] 7 none)
   (Q:=fun _ st'=>(arrOf st').Perm (keys.zip vs.toArray)/\failedOf st'=none/\SortedTo (arrOf st') (keys.zip vs.toArray).size)
   (ksk_intKeys hk) ⟨qCg _,rfl,rfl,rfl⟩ (by rw [hzs];lia) (by rw [hzs];exact h64) fun st' a1 a2 a3=>⟨a1,a2,a3⟩) ?_ fun _ _ e=>e)
  rintro ⟨⟨⟩,st'⟩ s' ⟨rfl,hp,hf,hs⟩
  try dsimp only
  exact k_tail nk na hka hk hlen h64 hp (by rw [hp.size_eq];exact hs) hf h
theorem k_rest {f:Value} (J:Shared->Prop) (hJ:J s) (nk:s.heap.get? kS=some (seqObj "list" #[] 0)) (na:s.heap.get? a=some (seqObj "list" #[] e1)) (hka:kS≠a) (hlen:kz.length=vs.length) (h64:vs.length<64)
  (turn:∀(i:Nat) (v:Value) (k:Int),vs[i]?=some v->kz[i]?=some k->∀s',J s' ->
   wpAny (model prog w) A (call f [v]) (fun r s2=>(∃t,r= .int k t)/\J s2/\∀b,b=kS\/b=a->∀o,s'.heap.get? b=some o->s2.heap.get? b=some o) (fun _ _=>False) s')
  (put:∀s' h',J s'->(∀b o,b≠kS->s'.heap.get? b=some o->h'.get? b=some o)->(∃o,h'.get? kS=some o)->J {s' with heap:=h'})
  (h:∀s' h' tk out c,J s'->(∀b o,b≠kS->b≠a->s'.heap.get? b=some o->h'.get? b=some o)->h'.get? a=some (seqObj "list" out c)->KskOut false kz vs out.toList->P (.done (.ret .none)) {s' with heap:=h',toks:=tk}) :
  wpAny (model prog w) A (ksk_rest a f false vs.toArray e1 (.ref kS)) P E s:=by
 unfold ksk_rest;refine qAA (qBR ?_)
 first
  | rw [List.forIn_toArray]
  | (rw [<-qDA];simp only [List.toList_toArray])
  | rw [<-qDA]
 refine qAA (ksk_fold (fun i s'=>J s'/\∃kA e,s'.heap.get? kS=some (seqObj "list" kA e)/\s'.heap.get? a=some (seqObj "list" #[] e1)/\IntsAre kA.toList (kz.take i)) vs 0 s
  ⟨hJ,#[],0,nk,na,by simpa using IntsAre.nil⟩ ?step ?done)
 case step =>
  rintro j x s' hx ⟨hJ',kA,e,nk',na',hk⟩;simp only [qCK] at hk ⊢;have hj:j<vs.length:=(qAV.mp hx).1;obtain ⟨k,hkj⟩:∃k,kz[j]?=some k:=⟨_,qAn (by lia)⟩
  have hz:kA.size<=vs.length:=by
   have h1:=hk.length;rw [qBM,qAW] at h1;lia
  refine qAA (qC3 (qAw (turn j x k hx hkj s' hJ') (fun v s'' he=>?_) fun _ _ hF=>hF.elim));obtain ⟨⟨t2,rfl⟩,J2,kp⟩:=he
  try dsimp only
  have nk2:=kp kS (.inl rfl) _ nk';have na2:=kp a (.inr rfl) _ na';have s1:=qAr s''.heap kS (Obj.mapSeq (·.push (.int k t2)));obtain ⟨c2,hc2⟩:∃c2,(s''.heap.update kS (Obj.mapSeq (·.push (.int k t2)))).get? kS=some (seqObj "list" (kA.push (.int k t2)) c2):=⟨_,qBo nk2 (·.push (.int k t2))⟩;have ek:kz.take (j+1)=kz.take j++[k]:=by rw [List.take_add_one,hkj];simp
  have ea:(kA.push (Value.int k t2)).toList=kA.toList++[Value.int k t2]:=by simp
  refine qAA (qBz nk2 rfl ?_ (by rw [qAJ];lia) (qAY (qB6 (Array.size_push ..)) (by rw [qAJ];lia)));exact qAE ⟨rfl,put s'' _ J2 (fun b o n q=>(s1.2 b n).trans q) ⟨_,hc2⟩,kA.push (.int k t2),c2,hc2,(s1.2 a hka.symm).trans na2,by rw [ea,ek];exact ksk_snoc hk⟩
 case done =>
  rintro s' ⟨hJ',kA,e,nk',na',hk⟩
  have hk':IntsAre kA.toList kz:=by
   have e3:kz.take (0+vs.length)=kz:=qBD (by lia);rw [e3] at hk;exact hk
  try dsimp only
  refine qAA (listItems_at nk' rfl ?_);exact k_end nk' na' hka hk' hlen h64 fun h3 tk3 out c k3 g3 o3=>h s' h3 tk3 out c hJ' k3 g3 o3
theorem w_sortedK {f:Addr} {v:Value} {Q:Value->Shared->Prop} {Jc:List Value->Shared->Prop} (hc:wpAny (model prog w) A.in1 (collect v) Jc E s)
  (hJ:∀vs s1,Jc vs s1->vs.length<64/\∃(kz:List Int) (J:Shared->Prop),kz.length=vs.length /\
   (∀h',(∀b o,s1.heap.get? b=some o->h'.get? b=some o)->(∃o,h'.get? s1.heap.objs.size=some o)->(∃o,h'.get? (s1.heap.objs.size+2)=some o)->J {s1 with heap:=h'}) /\
   (∀(i:Nat) (v:Value) (k:Int),vs[i]?=some v->kz[i]?=some k->∀s',J s'->wpAny (model prog w) A.in1.in1 (call (.ref f) [v]) (fun r s2=>(∃t,r= .int k t)/\J s2/\∀b,b=s1.heap.objs.size+2\/b=s1.heap.objs.size->∀o,s'.heap.get? b=some o->s2.heap.get? b=some o) (fun _ _=>False) s') /\
   (∀s' h',J s'->(∀b o,b≠s1.heap.objs.size+2->s'.heap.get? b=some o->h'.get? b=some o)->(∃o,h'.get? (s1.heap.objs.size+2)=some o)->J {s' with heap:=h'}) /\
   ∀s' h' tk out c,J s'->(∀b o,b≠s1.heap.objs.size+2->b≠s1.heap.objs.size->s'.heap.get? b=some o->h'.get? b=some o)->h'.get? s1.heap.objs.size=some (seqObj "list" out c)->KskOut false kz vs out.toList->Q (.ref s1.heap.objs.size) {s' with heap:=h',toks:=tk}) :
  wpAny (model prog w) A (call (.builtin "sorted") [v] [(Str.ofString "key",.ref f)]) Q E s:=by
 refine call_function_entry_kw kind_sorted plain_sorted entry_sorted (ksk_s1 _ _) ?_;unfold Builtin.«sorted»;refine qAA (m:=checkCount "sorted" 1 1 _) (qAE ?_);refine qAA (qAw hc (fun vs s1 j=>?_) fun _ _ x=>x);obtain ⟨j1,kz,J,j2,j3,j4,j5,j6⟩:=hJ vs s1 j;refine qAA (qCs ?_ (by rw [qAJ];lia));have hD:(s1.heap.push (seqObj "list" vs.toArray 0)).get? s1.heap.objs.size=some (seqObj "list" vs.toArray 0):=qAh _ rfl;change wpAny _ _ _ _ _ {s1 with heap:=s1.heap.push (seqObj "list" vs.toArray 0)};have ne:∀b o,s1.heap.get? b=some o->b≠s1.heap.objs.size:=fun b o q=>qAS (qAN q);refine qAA (qA0 (wpAny_call_entry_kw slot_list_sort ⟨_,hD,rfl⟩ entry_list_sort ?body (ksk_l1 _ _)))
 case body =>
  rw [ksk_t1];have ha:s1.heap.objs.size<(s1.heap.push (seqObj "list" vs.toArray 0)).objs.size:=qAN hD;have s2:=qAr (s1.heap.push (seqObj "list" vs.toArray 0)) s1.heap.objs.size (Obj.mapSeq fun _=>(#[]:Array Value));obtain ⟨e1,ho1⟩:∃e1,((s1.heap.push (seqObj "list" vs.toArray 0)).update s1.heap.objs.size (Obj.mapSeq fun _=>(#[]:Array Value))).get? s1.heap.objs.size=some (seqObj "list" #[] e1):=⟨_,qBo hD fun _=>#[]⟩;have hkS:(((s1.heap.push (seqObj "list" vs.toArray 0)).update s1.heap.objs.size (Obj.mapSeq fun _=>(#[]:Array Value))).push (seqObj "tuple" vs.toArray 0)).objs.size=s1.heap.objs.size+2:=by rw [size_push',Heap.size_update,size_push']
  unfold ksk_tree;refine qAA (listItems_at hD rfl ?_);refine qAA (qBz hD rfl ?_ (by rw [qAO,qAJ];lia) (qAj _));refine qAA (qCr ho1 rfl ?_);refine qAA (wpAny_newTuple ?_ (by show vs.length<=_;rw [qAJ];lia));refine qAA (qCs ?_ (qAj _));refine qA0 ?_;rw [hkS];refine k_rest (kS:=s1.heap.objs.size+2) (a:=s1.heap.objs.size) (s:={s1 with heap:=(((s1.heap.push (seqObj "list" vs.toArray 0)).update s1.heap.objs.size (Obj.mapSeq fun _=>(#[]:Array Value))).push (seqObj "tuple" vs.toArray 0)).push (seqObj "list" #[] 0)}) J (j3 _ (fun b o q=>?_) ⟨_,qAL _ (qAL _ ho1)⟩ ⟨seqObj "list" #[] 0,by rw [<-hkS];exact qAh _ rfl⟩) (by rw [<-hkS];exact qAh _ rfl) (qAL _ (qAL _ ho1)) (qBB (qBu (qBs _))) j2 j1 j4 j5 fun s' h' tk out c jj kk gg oo=>?_
  ·exact qAL _ (qAL _ ((s2.2 b (ne b o q)).trans (qAL _ q)))
  ·exact ⟨_,rfl,qAE ⟨_,rfl,j6 s' h' tk out c jj kk gg oo⟩⟩
end
end SM
namespace L2
open PySem PySem.Spec PyProof.Rows
section
variable {X:Cx} {pins:List (Addr×Obj)} {σ:St} {H:Hp} {s:Shared}
def tSortM (ta:TA) (iy:Nat) (P:Addr) (qual:Str) (lp:Pos) (te:TE):TE:=fun σ H Q=>ta σ H fun xs H1=>∃(a:Addr) (ks:List Str) (g:Str->Int) (vy:V),xs=[.ref a]/\σ[iy]?=some (some vy)/\H1 a=some (.lst (ks.map V.str))/\ks.length<64/\Tab0 H1 P qual lp /\
 ∀H2,Kp [P] H1 H2->Tab1 H2 P qual lp->(∀x∈ks,∀H',Kp [] H2 H'->te [some (.str x),some vy] H' fun r H3=>r= .int (g x)/\Kp [] H' H3)/\∀(b:Addr) (zs:List Str) (H3:Hp),Kp [] H2 H3->H3 b=none->zs.Perm ks->zs.Pairwise (fun x y=>g x<=g y)->Q (.ref b) (upd H3 b (.lst (zs.map V.str)))
theorem pe_sortedM {e:Expr} {ta:TA} {p pos kp lp:Pos} {params:Arguments} {body:Expr} {scope:Scope} {x y qual:Str} {c c0 P:Addr} {iy:Nat} {te:TE} {k:Nat} (hr:Room (k+3) X.A) (hc':X.calm=true) (hg:Gl X "sorted") (hm:X.mg "sorted" = none) (hb:bootBuiltins "sorted" = some (.builtin "sorted")) (ha:PA X [e] ta)
  (S:LamScope x y scope) (ne:x≠y) (hN:X.N[iy]?=some y) (hk:X.env.kindOf y=some .cell) (hy:X.env.cells.lookup y=some c) (hcl:closureFor scope X.env=pure [(y,c)]) (hq:X.env.qual++ "<lambda>" = qual) (hcode:X.env.code= .ref c0) (C:PySem.W.CodeHd X.base c0 P) (B:zJm X.mg X.base)
  (hdef:defaultsOf params X.env=([],[])) (hbind:∀(pm:Value) (c':Addr) (ctv u:Value),bindArgs (PySem.W.kla_fn "<lambda>" qual params body scope [(y,c)] pm (.ref c') ctv) ⟨[u],[]⟩=pure [(x,u)])
  (ht:∀(f:Addr) (cd:Value) (A:Around) (s:Shared) (H:Hp),Room k (A.deeper (PySem.W.envX qual scope s.heap.objs.size f cd [(y,c)]))->PE (cxLam X [x,y] qual scope f cd [(y,c)] A s H) body te) (hs:starEach [e] X.env=[(false,eval e X.env)]:=by rfl) :
  PE X (.Call (.Name "sorted" p) [e] [⟨some (Str.ofString "key"),.Lambda params body scope lp,kp⟩] pos) (tSortM ta iy P qual lp te):=by
 intro pins s σ H Q I h;refine qB8 (zF6 I hg hm hb ?_);refine callWith_builtin_kwB (by rw [hs];rfl) rfl ?_;have ha':=ha pos pins s σ H _ I h;have e0:backTo pos (starEach [e] X.env)=(false,eval e X.env)::[]:=by rw [hs];rfl
 rw [e0] at ha' ⊢;refine evalArgs_kwB rfl (thn ha' fun us s1 ⟨vs,H1,I1,r1,q1⟩=>?_);obtain ⟨a,ks,g,vy,e1,hσ,ea,hl64,T,q⟩:=q1;subst e1;obtain ⟨u,rfl,ru⟩:=r1.one
 cases ru
 show wpAny _ _ (evalAll ((do let v<-eval (.Lambda params body scope lp) X.env;standAt pos;pure v)::[])) _ _ s1;refine wpAny_evalAll_cons (qAA (PySem.W.kla_eval hdef ?_));rw [hq];refine lam_make I1 hcl hcode C B T fun f c' ctv pm H2 s2 I2 k2 T2 ec fo ff=>?_;refine qAA (qCS (qAE (wpAny_evalAll_nil ?_)));obtain ⟨qb,qr⟩:=q H2 k2 T2
 have naP:a≠P:=fun z=>by
  rcases T with t| ⟨_,t,_⟩
  ·rw [z,t] at ea;cases ea
  ·rw [z,t] at ea;cases ea
 have ea2:H2 a=some (.lst (ks.map V.str)):=k2 a _ ea (by simp [naP]);obtain ⟨its0,r',pl,hz0⟩:=I2.list (SqL.of (K:=X.K) ea2);have hS0:=vals_strs r';have hln0:its0.length=ks.length:=ST.strs_len hS0
 refine SM.w_sortedK
  (Jc:=fun its s1=>StrsAre its ks/\∃h1 tk,s1={s2 with heap:=h1,toks:=tk}/\∀b o,s2.heap.get? b=some o->h1.get? b=some o)
  (collect_list pl.isList ⟨hS0,_,_,rfl,fun b o e=>?_⟩ (by rw [qAJ];lia)) fun its s3 ⟨hS,h1,tk,v2,v3⟩=>?_
 ·have hlt:=qAN e;rw [qCA _ _ (qBB hlt)];exact qAL _ e
 ·subst v2;have hln:its.length=ks.length:=ST.strs_len hS;have I3:Inv X pins σ H2 {s2 with heap:=h1,toks:=tk}:=I2.kept v3;have fo3:h1.get? f=some _:=v3 _ _ fo;have flt:f<h1.objs.size:=qAN fo3;have fa:FpOk X pins H2 h1.objs.size:=I3.fpOk (qAG _) (I3.hok.fresh (qAG _));have fk:FpOk X pins H2 (h1.objs.size+2):=I3.fpOk (qBm _ _) (I3.hok.fresh (qBm _ _));have ff3:H2 f=none:=ff.1;refine ⟨by lia,ks.map g,fun s'=>∃H',Kp [] H2 H'/\Inv X pins σ H' s'/\s'.heap.get? f=some (PySem.W.kla_obj "<lambda>" qual params body scope [(y,c)] pm c' ctv)/\H' f=none/\H' h1.objs.size=none/\H' (h1.objs.size+2)=none/\(∃o,s'.heap.get? h1.objs.size=some o)/\∃o,s'.heap.get? (h1.objs.size+2)=some o,by rw [qAD,hln],fun h' up ha hk=>⟨H2,Kp.refl,I3.kept (t':=tk) up,up _ _ fo3,ff3,fa.1,fk.1,ha,hk⟩,?_,?_,?_⟩
  ·rintro i v kx hv hkx s' ⟨H4,k4,I4,fo4,ff4,fa4,fk4,⟨oa,ha4⟩,ok',hk4⟩;rw [qAX] at hkx;obtain ⟨x',ex',rfl⟩:=qBC.mp hkx
   obtain ⟨t,rfl⟩:∃t,v= .str x' t:=by
    have h1:=hS.all v (qAI hv);obtain ⟨x2,t,rfl⟩:=h1;have h2:(its.map strOf)[i]?=some x2:=by rw [qAX,hv];rfl
    rw [hS.strs,ex'] at h2
    cases h2
    exact ⟨t,rfl⟩
   obtain ⟨uy,ry,iy'⟩:=I4.cellAt hN hσ hk hy;have hr2:Room (k+1) X.A.in1.in1:=Room.in1 (Room.in1 hr);have fa':FpOk X pins H4 h1.objs.size:=⟨fa4,fa.2⟩;have fk':FpOk X pins H4 (h1.objs.size+2):=⟨fk4,fk.2⟩;have ff':FpOk X pins H4 f:=⟨ff4,ff.2⟩;refine qAw (lam_call (A:=X.A.in1.in1) (vx:=.str x') I4 I4.ok.frames hr2.hd hr2.depth fo4 (codeO_rec I4 (k4 _ _ ec (by simp))) S ne (hbind _ _ _ _) hy iy' ry ⟨t,rfl⟩ (ht _ _ _ _ _ (hr2.deeper _)) (qb x' (qAI ex') H4 k4)) (fun r s5 hE=>?_) fun _ _ hF=>hF;obtain ⟨v,H5,os,bare,un,hok5,rv,qv,qh⟩:=hE;subst qv;obtain ⟨t',rfl⟩:=rv;have keepA:=un.keep _ _ ha4 fa'.1 (fa'.nstk I4) (by simp);have keepK:=un.keep _ _ hk4 fk'.1 (fk'.nstk I4) (by simp);refine ⟨⟨t',rfl⟩,⟨H5,k4.trans qh,I4.call' os un hok5 bare (fun b z=>nomatch z),un.keep _ _ fo4 ff'.1 (ff'.nstk I4) (by simp),un.free _ _ fo4 ff'.1 (by simp),un.free _ _ ha4 fa'.1 (by simp),un.free _ _ hk4 fk'.1 (by simp),⟨_,keepA⟩,_,keepK⟩,fun b hb o qo=>?_⟩;rcases hb with rfl| rfl
   ·exact un.keep _ _ qo fk'.1 (fk'.nstk I4) (by simp)
   ·exact un.keep _ _ qo fa'.1 (fa'.nstk I4) (by simp)
  ·rintro s' h' ⟨H4,k4,I4,fo4,ff4,fa4,fk4,⟨oa,ha4⟩,ok',hk4⟩ kk hex;exact ⟨H4,k4,I4.turned (t':=s'.toks) kk fk4 fk.2.1 fk.2.2.2.1 fk.2.2.2.2.1 fk.2.2.2.2.2,kk _ _ (qAS (qAp flt (qBm _ _))) fo4,ff4,fa4,fk4,⟨_,kk _ _ (qAS (Nat.lt_add_of_pos_right (by decide))) ha4⟩,hex⟩
  ·rintro s' h' tk' out c2 ⟨H4,k4,I4,fo4,ff4,fa4,fk4,_,_⟩ kk gg ⟨ps,pp,po,pw⟩;have hp':∀p∈ps,∃x t,x∈ks/\p=(g x,.str x t):=fun p hp=>zip_strs hS p (pp.mem_iff.mp hp)
   have hall:∀v∈out.toList,∃x t,v= .str x t:=fun v hv=>by
    rw [po] at hv;obtain ⟨p,hp,rfl⟩:=qAM.mp hv;obtain ⟨x,t,_,e⟩:=hp' p hp;exact ⟨x,t,by rw [e]⟩
   have hO:=strsAre_map out.toList hall
   have hpz:(out.toList.map strOf).Perm ks:=by
    have h1:(ps.map Prod.snd).Perm its:=by
     have:=pp.map Prod.snd
     rwa [List.map_snd_zip (by rw [qAD,hln];exact qAG _)] at this
    rw [po];have:=h1.map strOf
    rwa [hS.strs] at this
   have hsr:(out.toList.map strOf).Pairwise (fun x y=>g x<=g y):=by
    rw [po,qA4,qBx];refine pw.imp_of_mem fun {p q} hp hq z=>?_;obtain ⟨x,t,_,e⟩:=hp' p hp;obtain ⟨x',t',_,e'⟩:=hp' q hq;subst e e';exact z
   have hz:((out.toList.map strOf).map V.str).length<=sizeLine:=by rw [qAD,hpz.length_eq,qAJ];lia
   have un:Un (frs X.stack) [h1.objs.size+2,h1.objs.size] H4 H4 s'.heap h':=by
    have k':∀b o,b∉([h1.objs.size+2,h1.objs.size]:List Addr)->s'.heap.get? b=some o->h'.get? b=some o:=fun b o n q=>kk b o (fun z=>n (by simp [z])) (fun z=>n (by simp [z])) q;exact ⟨fun b o q n _ x=>k' b o x q,fun b o q n _ x=>⟨o.slots,k' b o x q⟩,fun b o q n _=>n,fun b o q x=>⟨o,k' b o x q⟩,fun _ _ q=>q,fun _ _ _ q=>q,fun b ps q=>⟨#[],by rw [q];simp⟩⟩
   have hok2:HOk X.prog X.w H4 h':=fun b o q=>by
    refine (I4.hok b o q).stay (fun d v hd y=>?_) (fun _ y=>y) fun _ _ y=>y
    have nn:H4 d≠none:=by
     rcases hd with rfl| hd
     ·rw [q];simp
     ·rw [hd];simp
    exact kk d v (fun z=>nn (by rw [z];exact fk4)) (fun z=>nn (by rw [z];exact fa4)) y
   have I5:Inv X pins σ H4 {s' with heap:=h',toks:=tk'}:=I4.call' rfl un hok2 I4.bare fun b hb=>by
    have:b=h1.objs.size+2\/b=h1.objs.size:=by simpa using hb
    rcases this with rfl| rfl
    ·exact ⟨fk.2.2.2.1,fk.2.1,fk.2.2.2.2.1,fk.2.2.2.2.2⟩
    ·exact ⟨fa.2.2.2.1,fa.2.1,fa.2.2.2.2.1,fa.2.2.2.2.2⟩
   have new:zA7 X.prog X.w (upd H4 h1.objs.size (.lst ((out.toList.map strOf).map V.str))) h' h1.objs.size (.lst ((out.toList.map strOf).map V.str)):=⟨hz,out.toList,c2,strs_vals hO,by simpa using gg⟩;exact ⟨.ref h1.objs.size,_,I5.adopt (⟨fa4,fa.2⟩:FpOk X pins H4 h1.objs.size) new,rfl,qr _ _ H4 k4 fa4 hpz hsr⟩
end
section
variable {prog:Program} {w:World} {A:Around} {R:Result->Shared->Prop} {I:Addr} {fp wr:List Addr} {n:Nat} {P:Nat->Value->Prop} {St:Nat->Heap->Prop} {d:Value}
theorem maxD_loop (W:Walks prog w A.in1 I fp wr n P St) (bt:Nat->Nat->Bool) (C:CmpOf prog w A.in1 .Gt P bt) (S:Addr) (hS:S∉fp):∀(k j:Nat) (s:Shared) (vb:Value) (c:Nat),n - (j+1)=k->j+1<=n->St (j+1) s.heap->P (argBest bt j) vb ->
  s.heap.get? S=some {cls:=Value.type "list",data:=Data.seq #[vb,vb] c}->(∀(v:Value) (h':Heap) (tk:Nat),P (argBest bt (n - 1)) v->(∀(b:Addr) (o:Obj),b∉wr->b≠S->s.heap.get? b=some o->h'.get? b=some o)->R (Except.ok (Flow.ret v)) {s with heap:=h',toks:=tk}) ->
  codeAny (model prog w) A (Code.builtin "max.loop" {pos:=[.ref I,.none,.ref S],kw:=[(Str.ofString "default",d)]}) R s:=by
 intro k
 induction k with
 | zero =>
  intro j s vb c hk hj hst hp hget h;refine qBW F.entry_max_loop ?_;rw [qBe F.plain_max_loop _];refine qAA (m:=seqItems? (.ref S)) ?_;rw [seqItems?.eq_1];refine qAA (qBr hget ?_);refine qAE ?_;have en:j+1=n:=by lia
  rw [en] at hst;refine qAA (qCy (W.done s _ _ hst fun h' tk hk'=>?_));have g2:=hk' S _ (fun z=>hS (W.sub S z)) hget;have sb:=qAr h' S (Obj.mapSeq fun _=>(#[]:Array Value));refine qAA (qCq (s:={s with heap:=h',toks:=tk}) g2 rfl (qAA (qCx (qAE ?_))) (by rw [qAJ];simp) (by rw [qAJ];simp));refine h vb _ tk (by rw [<-en];exact hp) fun b o n1 n2 q=>(sb.2 b n2).trans (hk' b o n1 q)
 | succ k ih =>
  intro j s vb c hk hj hst hp hget h;refine qBW F.entry_max_loop ?_;rw [qBe F.plain_max_loop _];refine qAA (m:=seqItems? (.ref S)) ?_;rw [seqItems?.eq_1];refine qAA (qBr hget ?_);refine qAE ?_;refine qAA (qCy (W.item (j+1) s _ _ (by lia) hst fun v h' tk hv st' hk'=>?_));have g2:=hk' S _ (fun z=>hS (W.sub S z)) hget;refine qAA (qAE ?_);refine qAA (qCy (qA0 (qAA (C (j+1) (argBest bt j) v vb _ _ _ hv hp ?_))));refine qAA (qA0 (qBG ?_));refine qAA (qCx (qAE ?_))
  cases e:bt (j+1) (argBest bt j) with
  | true =>
   show wpAny _ _ (if true=true then _ else _) _ _ _;rw [qAC rfl];have sb:=qAr h' S (Obj.mapSeq fun _=>(#[v,v]:Array Value));refine qAA (qCq (s:={s with heap:=h',toks:=tk}) g2 rfl (qAA (qCx (qAE ?_))) (by rw [qAJ];simp) (by rw [qAJ];simp));refine ⟨rfl,ih (j+1) _ v _ (by lia) (by lia) (W.frame _ _ _ st' fun b hb o q=>(sb.2 b (fun z=>hS (by rw [<-z];exact hb))).trans q) ?_ (qBo g2 fun _=>#[v,v]) fun v2 h2 tk2 p2 k2=>h v2 h2 tk2 p2 fun b o n1 n2 q=>k2 b o n1 n2 ((sb.2 b n2).trans (hk' b o n1 q))⟩;show P (if bt (j+1) (argBest bt j)=true then j+1 else argBest bt j) v;rw [e,qAC rfl];exact hv
  | false =>
   show wpAny _ _ (if false=true then _ else _) _ _ _;rw [qAB (by decide)];refine qAA (qCx (qAE ?_));refine ⟨rfl,ih (j+1) _ vb c (by lia) (by lia) st' ?_ g2 fun v2 h2 tk2 p2 k2=>h v2 h2 tk2 p2 fun b o n1 n2 q=>k2 b o n1 n2 (hk' b o n1 q)⟩;show P (if bt (j+1) (argBest bt j)=true then j+1 else argBest bt j) vb;rw [e,qAB (by decide)];exact hp
theorem maxD_first (W:Walks prog w A.in1 I fp wr n P St) (bt:Nat->Nat->Bool) (C:CmpOf prog w A.in1 .Gt P bt) (S:Addr) (hS:S∉fp) {s:Shared} {c:Nat} (hst:St 0 s.heap) (hget:s.heap.get? S=some {cls:=Value.type "list",data:=Data.seq #[] c})
  (h0:n=0->∀(h':Heap) (tk:Nat),(∀(b:Addr) (o:Obj),b∉wr->b≠S->s.heap.get? b=some o->h'.get? b=some o)->R (Except.ok (Flow.ret d)) {s with heap:=h',toks:=tk})
  (h:0<n->∀(v:Value) (h':Heap) (tk:Nat),P (argBest bt (n - 1)) v->(∀(b:Addr) (o:Obj),b∉wr->b≠S->s.heap.get? b=some o->h'.get? b=some o)->R (Except.ok (Flow.ret v)) {s with heap:=h',toks:=tk}) :
  codeAny (model prog w) A (Code.builtin "max.loop" {pos:=[.ref I,.none,.ref S],kw:=[(Str.ofString "default",d)]}) R s:=by
 refine qBW F.entry_max_loop ?_;rw [qBe F.plain_max_loop _];refine qAA (m:=seqItems? (.ref S)) ?_;rw [seqItems?.eq_1];refine qAA (qBr hget ?_);refine qAE ?_
 by_cases c0:n=0
 ·have hst0:St n s.heap:=by rw [c0];exact hst
  refine qAA (qCy (W.done s _ _ hst0 fun h' tk hk'=>?_));exact qAA (qBR (qAE (h0 c0 h' tk fun b o n1 _ q=>hk' b o n1 q)))
 ·refine qAA (qCy (W.item 0 s _ _ (by lia) hst fun v h' tk hv st' hk'=>?_));have g2:=hk' S _ (fun z=>hS (W.sub S z)) hget;refine qAA (qAE ?_);have sb:=qAr h' S (Obj.mapSeq fun _=>(#[v,v]:Array Value));refine qAA (qCq (s:={s with heap:=h',toks:=tk}) g2 rfl (qAE ?_) (by rw [qAJ];simp) (by rw [qAJ];simp));exact ⟨rfl,maxD_loop W bt C S hS (n - 1) 0 _ v _ (by lia) (by lia) (W.frame _ _ _ st' fun b hb o q=>(sb.2 b (fun z=>hS (by rw [<-z];exact hb))).trans q) hv (qBo g2 fun _=>#[v,v]) fun v2 h2 tk2 p2 k2=>h (by lia) v2 h2 tk2 p2 fun b o n1 n2 q=>k2 b o n1 n2 ((sb.2 b n2).trans (hk' b o n1 q))⟩
end
section
variable {X:Cx}
def tMaxD (ta:TA) (dv:Int):TE:=fun σ H Q=>ta σ H fun xs H1=>∃(p:Addr) (ns:List Int),xs=[.ref p]/\SqL X.K H1 p (ns.map V.int)/\(ns=[]->Q (.int dv) H1)/\∀M,M∈ns->(∀a∈ns,a<=M)->Q (.int M) H1
theorem pe_maxD {a:Expr} {ta:TA} {p pos kp ip:Pos} {jj:Nat} {dv:Int} (hc':X.calm=true) (hg:Gl X "max") (hm:X.mg "max" = none) (hb:bootBuiltins "max" = some (.builtin "max")) (ha:PA X [a] ta) (hs:starEach [a] X.env=[(false,eval a X.env)]:=by rfl) :
  PE X (.Call (.Name "max" p) [a] [⟨some (Str.ofString "default"),.Constant (.int dv) jj ip,kp⟩] pos) (tMaxD (X:=X) ta dv):=by
 intro pins s σ H Q I h;refine qB8 (zF6 I hg hm hb ?_);refine callWith_builtin_kwB (by rw [hs];rfl) rfl ?_;have ha':=ha pos pins s σ H _ I h;have e0:backTo pos (starEach [a] X.env)=(false,eval a X.env)::[]:=by rw [hs];rfl
 rw [e0] at ha' ⊢;refine evalArgs_kwB rfl (thn ha' fun us s1 ⟨vs,H1,I1,r1,q1⟩=>?_);refine thn (pk_cons zAf pk_nil pos pins s1 σ H1 (fun zs H2=>zs=[.int dv]/\H2=H1) I1 ⟨rfl,rfl⟩) fun ws s2 ⟨zs,H2,I2,rz,ez,eh⟩=>?_;subst ez eh;obtain ⟨p,ns,e,hq,q0,q⟩:=q1;subst e;obtain ⟨u,rfl,ru⟩:=r1.one
 cases ru
 obtain ⟨w1,rfl,rw1⟩:=rz.one;obtain ⟨t1,rfl⟩:=rw1;obtain ⟨its,r,pl,hz⟩:=I2.list hq;obtain ⟨xs,rfl,e⟩:=ints_of r;have hd:=I2.ok.hd hc';have hI:=pl.isList;have ck:checkBuiltinCall "max" {pos:=[.ref p],kw:=[(Str.ofString "default",.int dv t1)]}=pure ():=rfl;refine qCU (f:=.builtin "max") (pos:=[.ref p]) (kw:=[(Str.ofString "default",.int dv t1)]) (codeAny_call_builtin_code rfl ?_);rw [ck];refine qAE (qBW F.entry_max ?_);rw [qBe F.plain_max _];refine qAA (m:=Builtin.Builtins.bindParams "max" ["key", "default"] 0 {kw:=[(Str.ofString "default",.int dv t1)]}) (qAE ?_);refine qAA (qAE ?_);refine qAA (Flt.iter_list_ hI fun s3 e3 ⟨w1,w2⟩ w3 w4=>?_);refine qAA (qCs ?_ (qAj _));refine qAE ⟨rfl,?_⟩;have k3:∀b o,s2.heap.get? b=some o->s3.heap.get? b=some o:=fun b o q=>by rw [e3];exact qAL _ q
 have W:=Walks.list (prog:=X.prog) (w:=X.w) (A:=X.A.in1) hd s2.heap.objs.size p w4 (xs.map fun p=>Value.int p.1 p.2).toArray
 have hat:∀(i:Nat) (v:Value),(xs.map fun p=>Value.int p.1 p.2).toArray[i]?=some v->∃t,v= .int ((xs.map (·.1)).getD i 0) t:=fun i v hv=>by
  rw [qDG,qAX] at hv;obtain ⟨y,ey,rfl⟩:=qBC.mp hv;exact ⟨y.2,by rw [qBJ,qAX,ey];rfl⟩
 have C:=CmpOf.ints_gt (prog:=X.prog) (w:=X.w) (A:=X.A.in1) (P:=fun i v=>(xs.map fun p=>Value.int p.1 p.2).toArray[i]?=some v) (fun i=>(xs.map (·.1)).getD i 0) hat;have hnew:(s3.heap.push {cls:=.type "list",data:=.seq #[]}).get? s3.heap.objs.size=some {cls:=.type "list",data:=.seq #[] 0}:=qAh _ rfl;have up:∀b o,s3.heap.get? b=some o->(s3.heap.push {cls:=.type "list",data:=.seq #[]}).get? b=some o:=fun b o q=>qAL _ q;have hnn:s3.heap.objs.size∉[s2.heap.objs.size,p]:=fun z=>qAx _ (w3 _ z);refine maxD_first (A:=X.A) W _ C s3.heap.objs.size hnn ?_ hnew (fun n0 h' tk kk=>?_) (fun n0 v h' tk pv kk=>?_)
 ·exact W.frame 0 s3.heap _ ⟨w1,w2⟩ fun b hb o q=>up b o q
 ·have xn:xs=[]:=by
   have:xs.length=0:=by simpa using n0
   exact qBy.mp this
  have lk:∀b o,s2.heap.get? b=some o->h'.get? b=some o:=fun b o q=>kk b o (by
   have:=qAN q;intro z;have z:b=s2.heap.objs.size:=by simpa using z
   exact absurd this (by rw [z];exact qAx _)) (fun z=>by
    have:=qAN (k3 b o q);exact absurd this (by rw [z];exact qAx _)) (up b o (k3 b o q))
  subst e3;exact ⟨.int dv,H2,I2.kept (t':=tk) lk,⟨t1,rfl⟩,q0 (by rw [<-e,xn];rfl)⟩
 ·have n0:0<xs.length:=by simpa using n0
  have lk:∀b o,s2.heap.get? b=some o->h'.get? b=some o:=fun b o q=>kk b o (by
   have:=qAN q;intro z;have z:b=s2.heap.objs.size:=by simpa using z
   exact absurd this (by rw [z];exact qAx _)) (fun z=>by
    have:=qAN (k3 b o q);exact absurd this (by rw [z];exact qAx _)) (up b o (k3 b o q))
  have hz:(xs.map fun p=>Value.int p.1 p.2).toArray.size=xs.length:=by simp
  rw [hz] at pv;obtain ⟨b1,b2⟩:=argBest_gt (fun i=>(xs.map (·.1)).getD i 0) (xs.length - 1);obtain ⟨t,rfl⟩:=hat _ _ pv;subst e3;refine ⟨.int _,H2,I2.kept (t':=tk) lk,⟨t,rfl⟩,q _ ?_ fun a ha=>?_⟩
  ·rw [<-e];have hl:argBest (fun i j=>decide ((xs.map (·.1)).getD i 0>(xs.map (·.1)).getD j 0)) (xs.length - 1)<(xs.map (·.1)).length:=by rw [qAD];lia
   rw [qBJ,qAn hl];exact qCb hl
  ·rw [<-e] at ha;obtain ⟨i,hi,rfl⟩:=qAt.mp ha;have:=b2 i (by rw [qAD] at hi;lia);have e5:(xs.map (·.1)).getD i 0=(xs.map (·.1))[i]:=by rw [qBJ,qAn hi];rfl
   rw [e5] at this;exact this
end
end L2
namespace My
open PySem L2
variable {F:List Str}{x:Str}{J:JR}{H H':Hp}{Pt:Addr}
def mx0:List Int->Int
 | []=>0
 | x::l=>if x>mx0 l then x else mx0 l
theorem mx0_nn:∀l:List Int,0<=mx0 l
 | []=>Int.le_refl _
 | x::l=>by
  have:=mx0_nn l;show 0<=if x>mx0 l then x else mx0 l;split<;>lia
theorem mx0_ge:∀{l:List Int} {x:Int},x∈l->x<=mx0 l
 | y::l,x,h=>by
  show x<=if y>mx0 l then y else mx0 l;rcases qAP.mp h with z| z
  ·subst z;split<;>lia
  ·have:=mx0_ge z;split<;>lia
theorem mx0_is:∀(l:List Int),mx0 l=0\/mx0 l∈l
 | []=>.inl rfl
 | x::l=>by
  show (if x>mx0 l then x else mx0 l)=0\/(if x>mx0 l then x else mx0 l)∈x::l;split
  ·exact .inr qAa
  ·rcases mx0_is l with z| z
   ·exact .inl z
   ·exact .inr (qAT _ z)
theorem mx0_eq {l:List Int} (h:∀x∈l,0<=x) {M:Int} (hM:M∈l) (hb:∀a∈l,a<=M):mx0 l=M:=by
 have h1:=mx0_ge hM;have h2:=h M hM;rcases mx0_is l with z| z
 ·lia
 ·have:=hb _ z;lia
theorem mx0_le {l m:List Int} (h:∀x∈l,x∈m):mx0 l<=mx0 m:=by
 rcases mx0_is l with z| z
 ·rw [z];exact mx0_nn m
 ·exact mx0_ge (h _ z)
theorem zI9 {l m:List Str} {f g:Str->Int} (h1:∀y,y∈l↔y∈m) (h2:∀y∈l,f y=g y):mx0 (l.map f)=mx0 (m.map g):=by
 refine Int.le_antisymm (mx0_le fun x hx=>?_) (mx0_le fun x hx=>?_)
 ·obtain ⟨y,hy,rfl⟩:=qAM.mp hx;exact qAM.mpr ⟨y,(h1 y).mp hy,(h2 y hy).symm⟩
 ·obtain ⟨y,hy,rfl⟩:=qAM.mp hx;exact qAM.mpr ⟨y,(h1 y).mpr hy,h2 y ((h1 y).mpr hy)⟩
structure HF (beh:Str->List Str) (F:List Str) (f:Str->Int):Prop where
 nd:F.Nodup
 sub:∀x∈F,∀y∈beh x,y∈F
 eq:∀x∈F,f x=1+mx0 ((beh x).map f)
theorem HF.nil (beh:Str->List Str) (f:Str->Int):HF beh [] f:=⟨qBL,(fun _ h=>nomatch h),(fun _ h=>nomatch h)⟩
theorem HF.pos {beh:Str->List Str} {f:Str->Int} (h:HF beh F f) (hx:x∈F):1<=f x:=by
 have:=mx0_nn ((beh x).map f);rw [h.eq x hx];lia
def addF (f:Str->Int) (x:Str) (v:Int):Str->Int:=fun y=>if y=x then v else f y
theorem HF.more {beh:Str->List Str} {f:Str->Int} (h:HF beh F f) (hx:x∉F) (hb:∀y∈beh x,y∈F):HF beh (F++[x]) (addF f x (1+mx0 ((beh x).map f))):=by
 have old:∀y∈F,addF f x (1+mx0 ((beh x).map f)) y=f y:=fun y hy=>by
  unfold addF;rw [qAB (fun z=>hx (by rw [<-z];exact hy))]
 have xs:addF f x (1+mx0 ((beh x).map f)) x=1+mx0 ((beh x).map f):=by unfold addF;rw [qAC rfl]
 refine ⟨?_,fun y hy z hz=>?_,fun y hy=>?_⟩
 ·rw [qBd];refine ⟨h.nd,by simp,fun a ha b hb' e=>hx ?_⟩;have:b=x:=by simpa using hb'
  rw [<-this,<-e];exact ha
 ·rcases qAK.mp hy with w| w
  ·exact qAc _ (h.sub y w z hz)
  ·have:y=x:=by simpa using w
   subst this;exact qAc _ (hb z hz)
 ·rcases qAK.mp hy with w| w
  ·rw [old y w,h.eq y w];exact qAg (1+·) (zI9 (fun _=>Iff.rfl) fun z hz=>(old z (h.sub y w z hz)).symm)
  ·have:y=x:=by simpa using w
   subst this;rw [xs];exact qAg (1+·) (zI9 (fun _=>Iff.rfl) fun z hz=>(old z (hb z hz)).symm)
def Dec (ns:List Str) (beh:Str->List Str):Prop:=∀x∈ns,∀y∈beh x,y∈ns/\(beh y).length<(beh x).length
theorem HF.same {ns:List Str} {beh beh':Str->List Str} (D:Dec ns beh) (hb:∀x∈ns,∀y,y∈beh x↔y∈beh' x) {G:List Str} {f g:Str->Int} (hf:HF beh F f) (hg:HF beh' G g) (hF:∀x∈ns,x∈F) (hG:∀x∈ns,x∈G):∀x∈ns,f x=g x:=by
 have:∀(k:Nat) (x:Str),(beh x).length<=k->x∈ns->f x=g x:=by
  intro k
  induction k with
  | zero =>
   intro x hk hx;rw [hf.eq x (hF x hx),hg.eq x (hG x hx)];refine qAg (1+·) (zI9 (hb x hx) fun y hy=>?_);have:=(D x hx y hy).2;lia
  | succ k ih =>
   intro x hk hx;rw [hf.eq x (hF x hx),hg.eq x (hG x hx)];refine qAg (1+·) (zI9 (hb x hx) fun y hy=>?_);have:=D x hx y hy;exact ih y (by lia) this.1
 exact fun x hx=>this _ x (qAG _) hx
theorem sort_ahead {zs:List Str} {g:Str->Int} (h:zs.Pairwise fun x y=>g x<=g y) {i:Nat} {y:Str} (e:zs[i]?=some x) (hy:y∈zs) (hg:g y<g x):y∈zs.take i:=by
 obtain ⟨j,hj,ej⟩:=qAt.mp hy;have hi:=(qAV.mp e).1;have ex:=(qAV.mp e).2
 by_cases c:j<i
 ·rw [List.mem_take_iff_getElem];exact ⟨j,by lia,by rw [<-ej]⟩
 ·by_cases c2:j=i
  ·subst c2;rw [ej] at ex;rw [ex] at hg;lia
  ·have:=qC6.mp h i j hi hj (by lia);rw [ex,ej] at this;lia
def behJ (J:JR) (x:Str):List Str:=J.ns.filter fun n=>decide (x∈J.S n)
theorem zFa {y:Str}:y∈behJ J x↔y∈J.ns/\x∈J.S y:=by
 unfold behJ;rw [qA5];simp
theorem dec_J {C:Addr} {j:Addr} {qs:List (List Str×Addr)} {r:Str->Nat} (A:JobsAt C H j J) (G:Good J.ns qs r) (hz:∀k,k∈J.zs.map (·.1)↔k∈qs.map (·.1)):Dec J.ns (behJ J):=fun x hx y hy=>by
 obtain ⟨y1,y2⟩:=zFa.mp hy;refine ⟨y1,?_⟩
 have tr:∀z,z∈behJ J y->z∈behJ J x:=fun z hz'=>by
  obtain ⟨z1,z2⟩:=zFa.mp hz';exact zFa.mpr ⟨z1,(S_way A G hz z1).mpr (((S_way A G hz y1).mp y2).trans ((S_way A G hz z1).mp z2))⟩
 have ny:y∉behJ J y:=fun z=>by
  obtain ⟨_,z2⟩:=zFa.mp z;exact absurd (S_rank A G hz _ y y (qAG _) y1 z2) (qAx _)
 unfold behJ at tr ny hy ⊢;generalize J.ns=ns at tr ny hy
 have key:∀(l:List Str),(∀z∈l,y∈J.S z->x∈J.S z)->y∈l->x∈J.S y->y∉J.S y->(l.filter fun n=>decide (y∈J.S n)).length<(l.filter fun n=>decide (x∈J.S n)).length:=by
  intro l
  have le:∀(l:List Str),(∀z∈l,y∈J.S z->x∈J.S z)->(l.filter fun n=>decide (y∈J.S n)).length<=(l.filter fun n=>decide (x∈J.S n)).length:=fun l h=>by
   rw [<-qDM,<-qDM];exact List.countP_mono_left fun z hz' w=>qAf (h z hz' (qBY w))
  induction l with
  | nil=>intro _ h;cases h
  | cons a l ih =>
   intro h hy' h1 h2;have hl:∀z∈l,y∈J.S z->x∈J.S z:=fun z hz'=>h z (qAT _ hz');rw [qBa,qBa];rcases qAP.mp hy' with e| e
   ·subst e;rw [qAB (by simpa using h2),qAC (by simpa using h1),qAb];have:=le l hl;lia
   ·have:=ih hl e h1 h2
    by_cases c:y∈J.S a
    ·rw [qAC (by simpa using c),qAC (by simpa using h a qAa c),qAb,qAb];lia
    ·rw [qAB (by simpa using c)];split
     ·rw [qAb];lia
     ·exact this
 refine key ns (fun z hz' w=>?_) (qA5.mp hy).1 y2 (fun w=>ny (qA5.mpr ⟨(qA5.mp hy).1,qAf w⟩));have:=tr z (qA5.mpr ⟨hz',qAf w⟩);exact qBY (qA5.mp this).2
def lamQ:Str:=Str.ofString "last_ones_first" ++ ".<locals>." ++ "<lambda>"
def lamPos:Pos:=⟨39,36,39,71⟩
abbrev TabA (H:Hp) (Pt:Addr):Prop:=Tab0 H Pt lamQ lamPos
theorem TabA.kp (h:TabA H Pt) (k:Kp [] H H'):TabA H' Pt:=by
 rcases h with e| ⟨c,e,ec⟩
 ·exact .inl (k _ _ e (by simp))
 ·exact .inr ⟨c,k _ _ e (by simp),k _ _ ec (by simp)⟩
theorem TabA.tbl (h:TabA H Pt):∃ps,H Pt=some (.tbl ps):=by
 rcases h with e| ⟨c,e,_⟩
 ·exact ⟨_,e⟩
 ·exact ⟨_,e⟩
theorem TabA.off {a:Addr} {o:HO} (t:TabA H Pt) (h:H a=some o) (no:∀ps,o≠.tbl ps):a≠Pt:=fun z=>by
 obtain ⟨ps,e⟩:=t.tbl;rw [z,e] at h;exact no ps (qAZ h).symm
theorem JobsAt.kpT {C:Addr} {j:Addr} (A:JobsAt C H j J) (k:Kp [Pt] H H') (t:TabA H Pt):JobsAt C H' j J:=by
 refine A.kp k fun a o ha hm=>?_;have e:a=Pt:=by simpa using hm
 subst e;exact ⟨(t.off A.ob fun _ z=>nomatch z).symm,(t.off A.row fun _ z=>nomatch z).symm,(t.off A.prs.top fun _ z=>nomatch z).symm,(t.off A.abv fun _ z=>nomatch z).symm,fun q hq=>(t.off (A.prs.row q hq) fun _ z=>nomatch z).symm,fun n hn=>(t.off (A.sets n hn) fun _ z=>nomatch z).symm⟩
theorem okC {P:Program} {w:World} {K:PySem.W.Frag} {mg:Str->Option Value} {base:Heap} {qual:Str} {st:Stmt} {f c0:Addr} {oc:Value} {od an:Option Addr} {osl:Array (Option Value)} {kV doc pm ct:Value} {N ps:List Str} {k:Nat} {sp:Sp}
  (lk:K.lookup f=some ⟨oc,od,.func (PySem.W.fnOf x qual (zBs st) (zBc st) (zAd st) .none kV doc pm an (.ref c0) ct),osl⟩) (hcd:PySem.W.codeIn K (.ref c0) qual=true) (S:FnScope N ps (zAd st)) (len:∀vs H Q E,sp vs H Q E->vs.length=ps.length)
  (hbody:∀(A:Around) (outer:List Env) (s:Shared) (H:Hp) (vs:List V) (Q:VK) (E:XK),Room k (A.deeper (PyProof.Rows.envOfC qual (zAd st) s.heap.objs.size f (.ref c0)))->sp vs H Q E ->
   ∃t,PSs (cxOf CX0 P w K mg base N qual (zAd st) f (.ref c0) A outer s H E).nox (zBc st) t/\t {nx:=fun _ H'=>Q .non H',rt:=Q} (L2.start N vs) H):FnOk P w K mg base CX0 (k+1) f (PySem.W.fnOf x qual (zBs st) (zBc st) (zAd st) .none kV doc pm an (.ref c0) ct) ps sp:=by
 refine fn_of lk hcd S len fun A outer s H vs Q E hr hsp=>?_;obtain ⟨t,h,q⟩:=hbody A outer s H vs Q E hr hsp;exact ⟨t,h.nox,q⟩
theorem zFs {M:List Addr} {e:Addr} {H1 H2:Hp} (a:Kp M H H1) (f:Fre H e) (b:Kp [e] H1 H2):Kp M H H2:=fun c o h n=>b c o (a c o h n) (nm1 (ne_fre f h))
def kvI (F:List Str) (f:Str->Int):List (Key×V):=dT1 F fun n=>.int (f n)
theorem kvI_put {f:Str->Int} {v:Int} (h:x∉F):putK (kvI F f) (Sum.inr x) (.int v)=kvI (F++[x]) (addF f x v):=by
 unfold kvI;rw [zC1 _ h];have e:dT1 (F++[x]) (fun n=>V.int (addF f x v n))=dT1 F (fun n=>V.int (addF f x v n))++[(.inr x,.int (addF f x v x))]:=by unfold dT1;rw [qAQ];rfl
 rw [e]
 have e2:dT1 F (fun n=>V.int (addF f x v n))=dT1 F (fun n=>V.int (f n)):=zFd fun n hn=>by
  unfold addF;rw [qAB (fun z=>h (by rw [<-z];exact hn))]
 rw [e2];unfold addF;rw [qAC rfl]
theorem zHh {f:Str->Int} (h:x∈F):valV (kvI F f) (Sum.inr x)=some (.int (f x)):=by
 unfold kvI;rw [zBr,qAC h]
theorem zD5 (F:List Str) (f:Str->Int):(kvI F f).length=F.length:=by unfold kvI dT1;rw [qAD]
section
variable {P:Program} {w:World} {K:PySem.W.Frag} {mg:Str->Option Value} {base:Heap} {C:Addr}
def spLast (C Pt:Addr):Sp:=fun vs H Q _=>∃(j:Addr) (J:JR),vs=[.ref j]/\JobsAt C H j J/\TabA H Pt/\∀(l:Addr) (zs:List Str) (H':Hp),Kp [Pt] H H'->TabA H' Pt->Txs H' l zs->zs.Perm J.ns->zs.Pairwise (fun x y=>((behJ J x).length:Int)<=(behJ J y).length)->Q (.ref l) H'
abbrev zEw:Stmt:=top 12
theorem sc_last:FnScope ["jobs"] ["jobs"] (zAd zEw):=fnS
theorem zFh:bootBuiltins "sorted" = some (.builtin "sorted"):=by decide +kernel
theorem ok_last {f c0:Addr} {oc:Value} {od an:Option Addr} {osl:Array (Option Value)} {kV doc pm ct:Value} (lk:K.lookup f=some ⟨oc,od,.func (PySem.W.fnOf "last_ones_first" "last_ones_first" (zBs zEw) (zBc zEw) (zAd zEw) .none kV doc pm an (.ref c0) ct),osl⟩) (hcd:PySem.W.codeIn K (.ref c0) "last_ones_first" = true) (T:Txt K mg) (U:JC K mg C) (B:zJm mg base) (CH:PySem.W.CodeHd base c0 Pt)
  (M_names:Mth P w K mg base C "names" 1 ["self"] (zIq C)) (M_behind:Mth P w K mg base C "behind" 3 ["self", "name"] (zIr C)):FnOk P w K mg base CX0 7 f (PySem.W.fnOf "last_ones_first" "last_ones_first" (zBs zEw) (zBc zEw) (zAd zEw) .none kV doc pm an (.ref c0) ct) ["jobs"] (spLast C Pt):=by
 refine okC lk hcd sc_last (fun vs H Q E h=>?_) (fun A outer s H vs Q E hr h=>?_)
 ·obtain ⟨j,J,rfl,_⟩:=h;rfl
 ·obtain ⟨j,J,rfl,A0,T0,k⟩:=h;have hr1:=hr.mono (j:=1) (by decide);refine ⟨_,(zAe (zAk (pe_sortedM (x:= "name") (y:= "jobs") (iy:=0) (P:=Pt) (c0:=c0) (qual:=lamQ) (k:=3) hr rfl (by rfl) T.z_sorted zFh (zAa (zDb M_names U.cl hr1 (pv 0)) zAb) (by exact ⟨rfl,rfl,rfl,rfl,rfl,by decide +kernel,by decide +kernel⟩) (by decide) rfl rfl rfl rfl rfl rfl CH B rfl (fun _ _ _ _=>rfl) (fun f' cd' A' s' H' hA=>zAi (zDs (K:=K)) (by rfl) T.z_len zBt (zAa (zI0 M_behind U.cl hA (pv 1) (zAa (pv 0) zAb)) zAb))))),?_⟩;refine ⟨_,rfl,j,J.dx,_,rfl,A0.ob,zJc _ _ _ (by decide +kernel) (by decide +kernel) (by decide +kernel),j,J,rfl,A0,fun l H1 fl hl k1=>?_⟩;have A1:=A0.kp0 k1;have T1:=T0.kp k1;have few:=A0.few;refine ⟨l,J.ns,fun x=>(behJ J x).length,.ref j,rfl,rfl,hl,by lia,T1,fun H2 k2 T2=>⟨fun x hx H3 k3=>?_,fun b zs H3 k3 hb pz sz=>?_⟩⟩
  ·have A3:=(A1.kpT k2 T1).kp0 k3;refine ⟨_,rfl,j,J.dx,_,rfl,A3.ob,zJc _ _ _ (by decide +kernel) (by decide +kernel) (by decide +kernel),_,rfl,j,J,x,rfl,A3,hx,fun m H4 fm hm k4=>?_⟩;refine ⟨_,_,rfl,.inl (SqL.of hm),?_,k4⟩;rw [qAD];rfl
  ·have fb:Fre H3 b:=hb;have kb:Kp [] H3 (upd H3 b (.lst (zs.map V.str))):=Kp.new Kp.refl fb;have T3:TabA H3 Pt:=TabA.kp (.inr T2) k3;exact k b zs _ (((k1.weak (by simp)).trans k2).trans ((k3.trans kb).weak (by simp))) (T3.kp kb) upd_same pz sz
def zGz (C Pt:Addr):Sp:=fun vs H Q _=>∃(j:Addr) (J:JR) (qs:List (List Str×Addr)) (r:Str->Nat),vs=[.ref j]/\JobsAt C H j J/\Good J.ns qs r/\(∀k,k∈J.zs.map (·.1)↔k∈qs.map (·.1))/\TabA H Pt/\∀(d:Addr) (F:List Str) (f:Str->Int) (H':Hp),Kp [Pt] H H'->TabA H' Pt->Fre H d->H' d=some (.dK (kvI F f))->HF (behJ J) F f->F.Perm J.ns->Q (.ref d) H'
abbrev zEy:Stmt:=top 13
theorem zFl:FnScope ["jobs", "found", "name"] ["jobs"] (zAd zEy):=fnS
theorem ok_heights {f:Addr} {fd:FuncData} (F:Fun K "heights" "heights" zEy f fd) (T:Txt K mg) (U:JC K mg C) (C_last:Cal P w K mg base "last_ones_first" 7 ["jobs"] (spLast C Pt)) (M_behind:Mth P w K mg base C "behind" 3 ["self", "name"] (zIr C)):FnOk P w K mg base CX0 8 f fd ["jobs"] (zGz C Pt):=by
 refine F.ok zFl (fun vs H Q E h=>?_) (fun cdv A outer s H vs Q E hr h=>?_)
 ·obtain ⟨j,J,qs,r,rfl,_⟩:=h;rfl
 ·obtain ⟨j,J,qs,r,rfl,A0,G,hz,T0,k⟩:=h;have hr3:=hr.mono (j:=3) (by decide);have hu:=zD6 hr
  refine ⟨_,(zAc (psS (i:=1) zFl.nd zBw)
   (zAc (zA8 qAi rfl (zAo (zAg C_last hr rfl (zAa (pv 0) zAb))) (pgN (i:=2) zFl.nd)
    (zAe (zCd hu (pv 1) (pv 2) (zAp zBj zAf (pe_maxD rfl (by rfl) T.z_max bo_max (zAa (zA3 rfl (zA4 (sc:=zAd zEy) rfl (by decide +kernel)) (Draws.own (x:= "other") (dtk (i:=1) rfl Draws.nil)) (zAo (zI0 M_behind U.cl hr3 (pv 0) (zAa (pv 2) zAb))) (fun _ _ _ _=>(pgB (i:=0))) (fun _ _ _ _=>zB4) (fun _ _ _ _=>(zAz hu (pv 1) (pv 0) (fun _ _=>rfl)))) zAb))) rfl)))
   (zAe (zAk (pv 1))))),?_⟩
  have few:=A0.few;have D:=dec_J A0 G hz;refine fun d hd=>?_;have fd0:Fre H d:=hd;have k1:Kp [] H (upd H d (.dK [])):=Kp.new Kp.refl fd0;have e1:upd H d (.dK []) d=some (.dK []):=upd_same;generalize upd H d (.dK [])=H1 at k1 e1;refine ⟨_,rfl,j,J,rfl,A0.kp0 k1,T0.kp k1,fun l zs H2 k2 T2 hl pz sz=>?_⟩;have T1:=T0.kp k1;have e2:=k2 d _ e1 (nm1 (T1.off e1 fun _ z=>nomatch z));have A2:=(A0.kp0 k1).kpT k2 T1;have K2:Kp [Pt] H H2:=(k1.weak (by simp)).trans k2;have zn:zs.Nodup:=pz.nodup_iff.mpr A0.nd;have zl:zs.length<=20:=by rw [pz.length_eq];exact few
  refine ⟨_,rfl,⟨_,SqL.of hl⟩,zA5 (xs:=zs.map V.str) (fun i σ H3=>∃(o2:Option V) (g:Str->Int),σ=[some (.ref j),some (.ref d),o2]/\Kp [d] H2 H3/\H3 d=some (.dK (kvI (zs.take i) g))/\HF (behJ J) (zs.take i) g) ⟨none,fun _=>0,rfl,Kp.refl,e2,HF.nil _ _⟩ (fun i σ H3 _ ⟨_,_,_,k3,_⟩=>SqL.of (k3 _ _ hl (nm1 fun z=>by have h:H2 l=_:=hl;rw [z,e2] at h;cases h))) ?_ ?_⟩
  ·rintro i v σ H3 hv ⟨o2,g,rfl,k3,h3,hf⟩;obtain ⟨x,ex,rfl⟩:=zAw hv;have xz:x∈zs:=qAI ex;have xn:x∈J.ns:=pz.mem_iff.mp xz
   have A3:JobsAt C H3 j J:=A2.kp k3 fun a o ha hm=>by
    have e:a=d:=by simpa using hm
    subst e;have nof:∀b,Fre H a->H b≠none->a≠b:=fun b h1 h2 e=>h2 (by rw [<-e];exact h1);refine ⟨nof _ fd0 (by rw [A0.ob];simp),nof _ fd0 (by rw [A0.row];simp),nof _ fd0 (by rw [A0.prs.top];simp),nof _ fd0 (by rw [A0.abv];simp),fun q hq=>nof _ fd0 (by rw [A0.prs.row q hq];simp),fun n hn=>nof _ fd0 (by rw [A0.sets n hn];simp)⟩
   have bs:∀y∈behJ J x,y∈zs.take i:=fun y hy=>by
    obtain ⟨h1,h2⟩:=D x xn y hy;exact sort_ahead sz ex (pz.mem_iff.mpr h1) (by lia)
   have nx:x∉zs.take i:=zCw zn ex;refine ⟨_,rfl,j,J.dx,_,rfl,A3.ob,zJc _ _ _ (by decide +kernel) (by decide +kernel) (by decide +kernel),_,rfl,j,J,x,rfl,A3,xn,fun m H4 fm hm k4=>?_⟩;have hm:Txs H4 m (behJ J x):=hm;have h4:=k4 _ _ h3 (by simp);refine ⟨_,rfl,⟨_,SqL.of hm⟩,fun E' hE'=>zA1 ((behJ J x).map V.str) (fun n ys τ H5=>(∃o0,τ=[o0,some (.ref d)])/\ys=(((behJ J x).take n).map fun y=>V.int (g y))/\H5=upd H4 E' (.lst ys)) ⟨⟨_,rfl⟩,rfl,rfl⟩ (fun n ys τ H5 ⟨_,_,z⟩=>by subst z;exact SqL.of ((Kp.new (M:=[]) Kp.refl hE') _ _ hm (by simp))) ?_ ?_⟩
   ·rintro n v ys τ H5 hv ⟨⟨o0,rfl⟩,rfl,rfl⟩;obtain ⟨y,ey,rfl⟩:=zAw hv;have yb:=qAI ey;have h5:=(Kp.new (M:=[]) (l:=E') (o:=.lst (((behJ J x).take n).map fun y=>V.int (g y))) Kp.refl hE') _ _ h4 (by simp);have bl:(behJ J x).length<=J.ns.length:=qBZ _ _;refine ⟨_,rfl,_,rfl,d,_,rfl,by have:=DGet.k (k:=Sum.inr y) h5;rw [zHh (bs y yb)] at this;exact this,upd_same,by rw [qAD,qAW,qAJ];lia,⟨_,rfl⟩,?_,zBh⟩;rw [zAh ey,qAQ];rfl
   ·rintro ys τ H5 ⟨_,rfl,rfl⟩;have eT:(behJ J x).take ((behJ J x).map V.str).length=behJ J x:=by rw [qAD,qAd]
    rw [eT];have fE:Fre H4 E':=hE';have k5:Kp [] H4 (upd H4 E' (.lst ((behJ J x).map fun y=>V.int (g y)))):=Kp.new Kp.refl fE;have e5:upd H4 E' (.lst ((behJ J x).map fun y=>V.int (g y))) E'=some (.lst (((behJ J x).map g).map V.int)):=by rw [upd_same,qA4];rfl
    generalize upd H4 E' (.lst ((behJ J x).map fun y=>V.int (g y)))=H5 at k5 e5;have h5:=k5 _ _ h4 (by simp)
    have fin:∀M:Int,M=mx0 ((behJ J x).map g)->DPut H5 d (.str x) (.int (1+M)) (upd H5 d (.dK (kvI (zs.take (i+1)) (addF g x (1+mx0 ((behJ J x).map g)))))):=fun M hM=>by
     have:=DPut.k (k:=Sum.inr x) (v:=.int (1+M)) h5 (by rw [zD5,qAW,qAJ];lia);rw [hM,kvI_put nx,<-zAh ex] at this;rw [hM];exact this
    have last:∀o2:Option V,∃(o2':Option V) (g':Str->Int),([some (V.ref j),some (V.ref d),o2]:St)=[some (.ref j),some (.ref d),o2']/\Kp [d] H2 (upd H5 d (.dK (kvI (zs.take (i+1)) (addF g x (1+mx0 ((behJ J x).map g))))))/\(upd H5 d (.dK (kvI (zs.take (i+1)) (addF g x (1+mx0 ((behJ J x).map g)))))) d=some (.dK (kvI (zs.take (i+1)) g'))/\HF (behJ J) (zs.take (i+1)) g':=fun o2=>by
     refine ⟨o2,_,rfl,Kp.put (k3.trans ((k4.trans k5).weak (by simp))) (by simp),upd_same,?_⟩;rw [zAh ex];exact hf.more nx bs
    refine ⟨_,_,rfl,SqL.of e5,fun en=>?_,fun M hM bM=>?_⟩
    ·have:mx0 ((behJ J x).map g)=0:=by rw [en];rfl
     exact ⟨_,_,rfl,rfl,_,rfl,_,rfl,_,_,rfl,fin 0 this.symm,last _⟩
    ·have:mx0 ((behJ J x).map g)=M:=mx0_eq (fun a ha=>by
      obtain ⟨y,hy,rfl⟩:=qAM.mp ha;have:=hf.pos (bs y hy);lia) hM bM
     exact ⟨_,_,rfl,rfl,_,rfl,_,rfl,_,_,rfl,fin M this.symm,last _⟩
  ·rintro σ H3 ⟨o2,g,rfl,k3,h3,hf⟩;have eT:zs.take (zs.map V.str).length=zs:=by rw [qAD,qAd]
   rw [eT] at h3 hf
   have T3:TabA H3 Pt:=by
    have nd:∀a o,H2 a=some o->(∀kv,o≠.dK kv)->a∉[d]:=fun a o h no=>nm1 fun z=>by rw [z,e2] at h;exact no _ (qAZ h).symm
    rcases T2 with e| ⟨c,e,ec⟩
    ·exact .inl (k3 _ _ e (nd _ _ e fun _ z=>nomatch z))
    ·exact .inr ⟨c,k3 _ _ e (nd _ _ e fun _ z=>nomatch z),k3 _ _ ec (nd _ _ ec fun _ z=>nomatch z)⟩
   exact ⟨_,rfl,k d zs g H3 (zFs K2 fd0 k3) T3 fd0 h3 hf pz⟩
end
theorem fre_old' {d:Addr} (k:Kp [] H H') (f:Fre H' d):Fre H d:=k.fre f (by simp)
theorem rev_keys {zs zs' qs ks:List (List Str×Addr)} (h1:∀k,k∈zs'.map (·.1)↔k∈zs.map fun q=>q.1.reverse) (h2:∀k,k∈zs.map (·.1)↔k∈qs.map (·.1)) (e:ks.map (·.1)=qs.map fun q=>q.1.reverse) (k:List Str):k∈zs'.map (·.1)↔k∈ks.map (·.1):=by
 rw [h1,e];constructor
 ·intro h;obtain ⟨q,hq,rfl⟩:=qAM.mp h;obtain ⟨q',hq',e'⟩:=qAM.mp ((h2 q.1).mp (qAM.mpr ⟨q,hq,rfl⟩));exact qAM.mpr ⟨q',hq',by rw [e']⟩
 ·intro h;obtain ⟨q,hq,rfl⟩:=qAM.mp h;obtain ⟨q',hq',e'⟩:=qAM.mp ((h2 q.1).mpr (qAM.mpr ⟨q,hq,rfl⟩));exact qAM.mpr ⟨q',hq',by rw [e']⟩
structure ToldH (ns:List Str) (qs:List (List Str×Addr)) (F:List Str) (f:Str->Int):Prop where
 pm:F.Perm ns
 is:∃beh,HF beh F f/\Dec ns beh/\∀x∈ns,∀y,y∈beh x↔Way qs x y
theorem beh_way {C:Addr} {j:Addr} {qs:List (List Str×Addr)} {r:Str->Nat} (A:JobsAt C H j J) (G:Good J.ns qs r) (hz:∀k,k∈J.zs.map (·.1)↔k∈qs.map (·.1)) (two:∀q∈qs,∃a b,q.1=[a,b]):∀x∈J.ns,∀y,y∈behJ J x↔Way qs x y:=fun x hx y=>by
 rw [zFa];constructor
 ·rintro ⟨h1,h2⟩;exact (S_way A G hz h1).mp h2
 ·intro h;have:=(Way.to two G.qin h).2;exact ⟨this,(S_way A G hz this).mpr h⟩
structure DueH (ns:List Str) (qs:List (List Str×Addr)) (G:List Str) (g:Str->Int):Prop where
 mem:∀x,x∈G↔x∈ns
 is:∃L,HF L G g/\∀x∈ns,∀y,y∈L x↔Way qs x y
theorem told_due {ns:List Str} {qs:List (List Str×Addr)} {G:List Str} {f g:Str->Int} (nd:ns.Nodup) (a:ToldH ns qs F f) (b:DueH ns qs G g):F.length=G.length/\∀x∈F,x∈G/\f x=g x:=by
 obtain ⟨beh,h1,D,w1⟩:=a.is;obtain ⟨L,h2,w2⟩:=b.is;have e:=h1.same D (fun x hx y=>(w1 x hx y).trans (w2 x hx y).symm) h2 (fun x hx=>a.pm.mem_iff.mpr hx) (fun x hx=>(b.mem x).mpr hx);refine ⟨?_,fun x hx=>?_⟩
 ·have p:G.Perm ns:=(qC9 h2.nd nd).mpr b.mem;rw [a.pm.length_eq,p.length_eq]
 ·have hx:=a.pm.mem_iff.mp hx;exact ⟨(b.mem x).mpr hx,e x hx⟩
section
variable {P:Program} {w:World} {K:PySem.W.Frag} {mg:Str->Option Value} {base:Heap} {C:Addr}
def spDepths (C Pt:Addr):Sp:=fun vs H Q _=>∃(j:Addr) (J:JR) (qs ks:List (List Str×Addr)) (r:Str->Nat),vs=[.ref j]/\JobsAt C H j J/\Good J.ns qs r/\(∀k,k∈J.zs.map (·.1)↔k∈qs.map (·.1))/\(∀q∈qs,∃a b,q.1=[a,b])/\ks.map (·.1)=(qs.map fun q=>q.1.reverse)/\TabA H Pt /\
 ∀(d:Addr) (F:List Str) (f:Str->Int) (H':Hp),Kp [Pt] H H'->TabA H' Pt->Fre H d->H' d=some (.dK (kvI F f))->ToldH J.ns ks F f->Q (.ref d) H'
abbrev zIw:Stmt:=top 14
theorem sc_depths:FnScope ["jobs"] ["jobs"] (zAd zIw):=fnS
theorem ok_depths {f:Addr} {fd:FuncData} (F:Fun K "depths" "depths" zIw f fd) (U:JC K mg C) (C_heights:Cal P w K mg base "heights" 8 ["jobs"] (zGz C Pt)) (M_turned:Mth P w K mg base C "turned" 6 ["self"] (zIp C)):FnOk P w K mg base CX0 9 f fd ["jobs"] (spDepths C Pt):=by
 refine F.ok sc_depths (fun vs H Q E h=>?_) (fun cdv A outer s H vs Q E hr h=>?_)
 ·obtain ⟨j,J,qs,ks,r,rfl,_⟩:=h;rfl
 ·obtain ⟨j,J,qs,ks,r,rfl,A0,G,hz,two,ek,T0,k⟩:=h;have hr6:=hr.mono (j:=6) (by decide);refine ⟨_,(zAe (zAk (zAg C_heights hr rfl (zAa (zDb M_turned U.cl hr6 (pv 0)) zAb)))),?_⟩;refine ⟨_,rfl,j,J.dx,_,rfl,A0.ob,zJc _ _ _ (by decide +kernel) (by decide +kernel) (by decide +kernel),j,J,r,rfl,A0,G.keys hz A0.zfew,fun x J' H1 fx A1 _ en hz' k1=>?_⟩;have G':=G.rev two ek;have hk:=rev_keys hz' hz ek
  have two':∀q∈ks,∃a b,q.1=[a,b]:=fun q hq=>by
   have h1:q.1∈ks.map (·.1):=qAM.mpr ⟨q,hq,rfl⟩;rw [ek] at h1;obtain ⟨q',hq',e⟩:=qAM.mp h1;obtain ⟨a,b,e'⟩:=two q' hq';exact ⟨b,a,by rw [<-e,e'];rfl⟩
  rw [<-en] at G';refine ⟨x,J',ks,_,rfl,A1,G',hk,T0.kp k1,fun d F f H2 k2 T2 fd hd hf pm=>?_⟩;refine k d F f H2 ((k1.weak (by simp)).trans k2) T2 (fre_old' k1 fd) hd ⟨by rw [<-en];exact pm,behJ J',hf,?_,?_⟩
  ·rw [<-en];exact dec_J A1 G' hk
  ·rw [<-en];exact beh_way A1 G' hk two'
end
end My
namespace L2
open PySem PySem.Spec PyProof.Rows
def Itz (K:PySem.W.Frag) (a b:Addr):It :=
 ⟨fun i H=>∃xs ys x y,SqL K H a xs/\SqL K H b ys/\xs[i]?=some x/\ys[i]?=some y,fun i H v H'=>∃t x y,v= .ref t/\H t=none/\H'=upd H t (.tup [x,y])/\(∀xs,SqL K H a xs->xs[i]?=some x)/\∀ys,SqL K H b ys->ys[i]?=some y,fun i H=>∃xs ys,SqL K H a xs/\SqL K H b ys/\(xs.length<=i\/ys.length<=i)⟩
theorem un_but {fs ex:List Addr} {H:Hp} {h h':Heap} (k:∀b u,b∉ex->h.get? b=some u->h'.get? b=some u):Un fs ex H H h h' :=
 ⟨fun b ob q _ _ hx=>k b ob hx q,fun b ob q _ _ hx=>⟨ob.slots,k b ob hx q⟩,fun _ _ _ n _=>n,fun b ob q hx=>⟨ob,k b ob hx q⟩,fun _ _ q=>q,fun _ _ _ q=>q,fun _ ps q=>⟨#[],by rw [q];simp⟩⟩
theorem hok_but {P:Program} {w:World} {H:Hp} {h h':Heap} {ex:List Addr} (x:HOk P w H h) (k:∀b u,b∉ex->h.get? b=some u->h'.get? b=some u) (hex:∀b∈ex,H b=none):HOk P w H h':=fun b u e =>
 (x b u e).stay (fun c v hc q=>k c v (fun z=>by
  have hz:=hex c z;rcases hc with y| y
  ·rw [y,e] at hz;cases hz
  ·rw [y] at hz;cases hz) q) (fun _ q=>q) fun _ _ q=>q
structure Apart (z TI TO i1 i2:Addr):Prop where
 TIz:TI≠z
 TOz:TO≠z
 i1z:i1≠z
 i2z:i2≠z
 TITO:TI≠TO
 TIi1:TI≠i1
 TIi2:TI≠i2
 TOi1:TO≠i1
 TOi2:TO≠i2
 i12:i1≠i2
theorem apart_at (n:Nat):Apart (n+4) (n+2) (n+3) n (n+1):=⟨qAS (by lia),qAS (by lia),qAS (by lia),qAS (by lia),qAS (by lia),qBB (by lia),qBB (by lia),qBB (by lia),qBB (by lia),qAS (by lia)⟩
def ZipAt (z TI TO i1 i2 a b:Addr) (i:Nat) (h:Heap):Prop:=IsZip h z TI TO .none/\IsPair h TI (.ref i1) (.ref i2)/\(∃p q,IsPair h TO p q)/\h.IsListIter i1 a i/\h.IsListIter i2 b i
theorem ZipAt.apart {z TI TO i1 i2 a b:Addr} {i:Nat} {h:Heap} {xs ys:Array Value} (D:Apart z TI TO i1 i2) (Z:ZipAt z TI TO i1 i2 a b i h) (ha:h.IsList a xs) (hb:h.IsList b ys):ZipApart z TI TO i1 i2 a b:=by
 obtain ⟨s1,_,⟨p,q,s3⟩,⟨o4,s4,c4,_⟩,⟨o5,s5,c5,_⟩⟩:=Z;obtain ⟨oa,ga,ca,_⟩:=ha;obtain ⟨ob,gb,cb,_⟩:=hb;refine ⟨D.TIz,D.TOz,D.i1z,D.i2z,D.TITO,D.TIi1,D.TIi2,D.TOi1,D.TOi2,D.i12,?_,?_,?_,?_,?_,?_,?_,?_⟩
 ·exact fun e=>by rw [e,s1] at ga;cases ga;simp at ca
 ·exact fun e=>by rw [e,s3] at ga;cases ga;simp at ca
 ·exact fun e=>by rw [e,s4] at ga;cases ga;rw [c4] at ca;simp at ca
 ·exact fun e=>by rw [e,s5] at ga;cases ga;rw [c5] at ca;simp at ca
 ·exact fun e=>by rw [e,s1] at gb;cases gb;simp at cb
 ·exact fun e=>by rw [e,s3] at gb;cases gb;simp at cb
 ·exact fun e=>by rw [e,s4] at gb;cases gb;rw [c4] at cb;simp at cb
 ·exact fun e=>by rw [e,s5] at gb;cases gb;rw [c5] at cb;simp at cb
theorem turn_zip {P:Program} {w:World} {K:PySem.W.Frag} {elts:List Expr} {kk:Nat} {tp:Pos} (a b z TI TO i1 i2:Addr) (D:Apart z TI TO i1 i2):Turn P w K (.Tuple elts kk tp) (Itz K a b) [z,TI,TO,i1,i2] z (ZipAt z TI TO i1 i2 a b) where
 mem:=by simp
 obj:=fun i h st c hc=>by
  obtain ⟨s1,s2,⟨p,q,s3⟩,⟨o4,s4,_,d4⟩,⟨o5,s5,_,d5⟩⟩:=st;have cs:c=z\/c=TI\/c=TO\/c=i1\/c=i2:=by simpa using hc
  rcases cs with e| e| e| e| e
  ·rw [e];exact ⟨_,s1,fun v y=>by cases y⟩
  ·rw [e];exact ⟨_,s2,fun v y=>by cases y⟩
  ·rw [e];exact ⟨_,s3,fun v y=>by cases y⟩
  ·rw [e];exact ⟨o4,s4,fun v y=>by rw [d4] at y;cases y⟩
  ·rw [e];exact ⟨o5,s5,fun v y=>by rw [d5] at y;cases y⟩
 keep:=fun i h h' ⟨s1,s2,⟨p,q,s3⟩,s4,s5⟩ k=>⟨k z (by simp) _ s1,k TI (by simp) _ s2,⟨p,q,k TO (by simp) _ s3⟩,s4.at fun o y=>k i1 (by simp) o y,s5.at fun o y=>k i2 (by simp) o y⟩
 item:=by
  intro X hP hw hK hc i pins s σ H E I hf st hg;subst hP hw hK;obtain ⟨xs,ys,x,y,hq1,hq2,hx,hy⟩:=hg;obtain ⟨its1,rv1,p1,_⟩:=I.list hq1;obtain ⟨its2,rv2,p2,_⟩:=I.list hq2;obtain ⟨u,hu,ru⟩:=rv1.get hx;obtain ⟨v,hv,rv⟩:=rv2.get hy;have D':=st.apart D p1.isList p2.isList;obtain ⟨s1,s2,⟨p,q,s3⟩,s4,s5⟩:=st;have hn:∀c∈[z,TI,TO,i1,i2],H c=none:=fun c hc=>(hf c hc).1;refine wpAny_pyNext_zip_item D' s1 s2 s3 s4 s5 p1.isList p2.isList (x:=u) (y:=v) (by simpa using hu) (by simpa using hv) fun k a1 a2 a3 a4 a5 a6 a7=>?_;refine ⟨_,rfl,wpAny_letOwnedTupleGo_zip a1 fun k2 z2 b2=>?_⟩;have b2:Heap.SameBut z k k2:=b2;have zsz:z<s.heap.objs.size:=qAN s1
  have lts:∀c∈[z,TI,TO,i1,i2],c≠s.heap.objs.size:=fun c hc=>by
   have cs:c=z\/c=TI\/c=TO\/c=i1\/c=i2:=by simpa using hc
   rcases cs with e| e| e| e| e
   ·rw [e];exact qAS zsz
   ·rw [e];exact qAS (qAN s2)
   ·rw [e];exact qAS (qAN s3)
   ·obtain ⟨o,g,_⟩:=s4;rw [e];exact qAS (qAN g)
   ·obtain ⟨o,g,_⟩:=s5;rw [e];exact qAS (qAN g)
  have t2:k2.get? s.heap.objs.size=some {cls:=.type "tuple",data:=.seq #[u,v]}:=b2.extBut _ _ (qBB zsz) a5;have on:∀c o,c∉[z,TI,TO,i1,i2]->s.heap.get? c=some o->k2.get? c=some o:=fun c o nc g=>b2.extBut c o (fun e=>nc (by simp [e])) (a7 c o (fun e=>nc (by simp [e])) (fun e=>nc (by simp [e])) (fun e=>nc (by simp [e])) (fun e=>nc (by simp [e])) g);have new:zA7 X.prog X.w (upd H s.heap.objs.size (.tup [x,y])) k2 s.heap.objs.size (.tup [x,y]):=⟨by show (2:Nat)<=sizeLine;decide,[u,v],.cons ru (.cons rv .nil),⟨_,t2,rfl,_,rfl⟩⟩
  have I2:Inv X pins σ (upd H s.heap.objs.size (.tup [x,y])) {s with heap:=k2}:=I.call' (ch:=[z,TI,TO,i1,i2]) rfl (un_laid on (qAG _) (I.hok.fresh (qAG _))) (hok_laid I.hok on hn (qAG _) new) I.bare fun c hc=>by
   obtain ⟨_,f1,_,f3,f4,f5⟩:=hf c hc;exact ⟨f3,f1,f4,f5⟩
  refine ⟨.ref s.heap.objs.size,_,I2,rfl,⟨_,x,y,rfl,I.hok.fresh (qAG _),rfl,fun zs hz=>by rw [I.list_inj hz hq1];exact hx,fun zs hz=>by rw [I.list_inj hz hq2];exact hy⟩,⟨z2,b2.extBut _ _ D.TIz (a7 _ _ D.TIz D.TITO D.TIi1 D.TIi2 s2),⟨u,v,b2.extBut _ _ D.TOz a2⟩,a3.extBut b2.extBut D.i1z,a4.extBut b2.extBut D.i2z⟩,fun c hc=>?_⟩;rw [upd_ne (lts c hc)];exact hn c hc
 done:=by
  intro X hP hw hK hc i pins s σ H E I hf st hg;subst hP hw hK;obtain ⟨xs,ys,hq1,hq2,hx⟩:=hg;obtain ⟨its1,rv1,p1,_⟩:=I.list hq1;obtain ⟨its2,rv2,p2,_⟩:=I.list hq2;have l1:=rv1.length;have l2:=rv2.length;have D':=st.apart D p1.isList p2.isList;obtain ⟨s1,s2,⟨p,q,s3⟩,s4,s5⟩:=st;have hn:∀c∈[z,TI,TO,i1,i2],H c=none:=fun c hc=>(hf c hc).1;refine wpAny_pyNext_zip_end (I.ok.hd hc) D' s1 s2 s3 s4 s5 p1.isList p2.isList ?_ fun h' eb=>⟨rfl,?_⟩
  ·rcases hx with z| z
   ·exact .inl (by simp;lia)
   ·exact .inr (by simp;lia)
  ·have on:∀c o,c∉[z,TI,TO,i1,i2]->s.heap.get? c=some o->h'.get? c=some o:=fun c o nc g=>eb c o (fun e=>nc (by simp [e])) (fun e=>nc (by simp [e])) (fun e=>nc (by simp [e])) (fun e=>nc (by simp [e])) g
   exact I.call' (s':={s with heap:=h'}) (ch:=[z,TI,TO,i1,i2]) rfl (un_but on) (hok_but I.hok on hn) I.bare fun c hc=>by
    obtain ⟨_,f1,_,f3,f4,f5⟩:=hf c hc;exact ⟨f3,f1,f4,f5⟩
 self:=fun _ _ _ _ _ ⟨s1,_⟩ h=>wpAny_pyIter_zip s1 h
section
variable {X:Cx} {elts:List Expr} {kk:Nat} {tp:Pos}
def iZip (K:PySem.W.Frag) (ta:TA):TI:=fun σ H R=>ta σ H fun vs H1=>∃a b,vs=[.ref a,.ref b]/\(∃xs,SqL K H1 a xs)/\(∃ys,SqL K H1 b ys)/\R (Itz K a b) H1
theorem boot_zip:bootBuiltins "zip" = some (.type "zip"):=by decide +kernel
theorem pi_zip {a b:Expr} {ta:TA} {p pos:Pos} (hg:Gl X "zip") (hm:X.mg "zip" = none) (ha:PA X [a,b] ta) (he:starEach [a,b] X.env=(false,eval a X.env)::starEach [b] X.env:=by rfl) (hpl:(backTo pos (starEach [b] X.env)).any (·.1)=false:=by rfl):PI X (.Tuple elts kk tp) (.Call (.Name "zip" p) [a,b] [] pos) (iZip X.K ta):=by
 intro pins s σ H R I h;refine Call_ (zF6 I hg hm boot_zip (qC1 (thn (ha pos pins s σ H _ I h) fun us s1 ⟨vs,H1,I1,r1,q1⟩=>?_) he hpl));obtain ⟨a,b,e,⟨xs,hq1⟩,⟨ys,hq2⟩,q⟩:=q1;subst e
 obtain ⟨u,v,rfl,ru,rv⟩:∃u v,us=[u,v]/\RelV (.ref a) u/\RelV (.ref b) v:=by
  cases r1 with
  | cons ra r2=>cases r2 with
   | cons rb r3=>cases r3;exact ⟨_,_,rfl,ra,rb⟩
 cases ru
 cases rv
 obtain ⟨its1,r1,p1,_⟩:=I1.list hq1;obtain ⟨its2,r2,p2,_⟩:=I1.list hq2;refine call_zip_2 p1.isList p2.isList fun h' e1 e2 e3 e4 e5 e6 e7=>wpAny_pyIter_zip e1 ?_;refine ⟨s1.heap.objs.size+4,[s1.heap.objs.size+4,s1.heap.objs.size+2,s1.heap.objs.size+3,s1.heap.objs.size,s1.heap.objs.size+1],_,_,H1,rfl,I1.kept (t':=s1.toks) e7,turn_zip a b (s1.heap.objs.size+4) (s1.heap.objs.size+2) (s1.heap.objs.size+3) s1.heap.objs.size (s1.heap.objs.size+1) (apart_at _),⟨e1,e2,⟨_,_,e3⟩,e4,e5⟩,fun c hc=>?_,q⟩;have cs:c=s1.heap.objs.size+4\/c=s1.heap.objs.size+2\/c=s1.heap.objs.size+3\/c=s1.heap.objs.size\/c=s1.heap.objs.size+1:=by simpa using hc
 have ge:s1.heap.objs.size<=c:=by
  rcases cs with e| e| e| e| e<;>(rw [e];lia)
 exact I1.fpOk ge (I1.hok.fresh ge)
theorem for_zip {K:PySem.W.Frag} {a b:Addr} {xs ys:List V} {g:TG} {tb:TS} {D:Ends} {σ:St} {H:Hp} (Pv:Nat->St->Hp->Prop) (h0:Pv 0 σ H) (hl:∀i σ H,Pv i σ H->SqL K H a xs/\SqL K H b ys)
  (hs:∀i x y σ H t,xs[i]?=some x->ys[i]?=some y->Pv i σ H->H t=none->g (.ref t) σ (upd H t (.tup [x,y])) fun σ2 H2=>tb {D with nx:=Pv (i+1),ct:=Pv (i+1),bk:=D.nx} σ2 H2) (hd:∀i σ H,(xs.length<=i\/ys.length<=i)->Pv i σ H->D.nx σ H) :
  ∃W:Nat->Nat->St->Hp->Prop,(∃m,W 0 m σ H)/\∀i m σ H,W i m σ H ->
   ((Itz K a b).stop i H/\D.nx σ H)\/((Itz K a b).go i H/\∃N:St->Hp->Prop,(∀σ' H',N σ' H'->∃m',m'<m/\W (i+1) m' σ' H')/\∀x H',(Itz K a b).yld i H x H'->g x σ H' fun σ2 H2=>tb {D with nx:=N,ct:=N,bk:=D.nx} σ2 H2):=by
 refine ⟨fun i m σ H=>m=xs.length - i/\Pv i σ H,⟨xs.length,by simp,h0⟩,?_⟩;rintro i m σ H ⟨rfl,p⟩;obtain ⟨q1,q2⟩:=hl i σ H p
 by_cases h1:i<xs.length
 ·by_cases h2:i<ys.length
  ·refine .inr ⟨⟨xs,ys,xs[i],ys[i],q1,q2,by simp [h1],by simp [h2]⟩,Pv (i+1),fun σ' H' p'=>⟨xs.length - (i+1),by lia,rfl,p'⟩,fun v H' y=>?_⟩;obtain ⟨t,x,y,rfl,hn,rfl,y1,y2⟩:=y;exact hs i x y σ H t (y1 xs q1) (y2 ys q2) p hn
  ·exact .inl ⟨⟨xs,ys,q1,q2,.inr (by lia)⟩,hd i σ H (.inr (by lia)) p⟩
 ·exact .inl ⟨⟨xs,ys,q1,q2,.inl (by lia)⟩,hd i σ H (.inl (by lia)) p⟩
end
section
variable {X:Cx}
theorem call_sum1 (hc:X.calm=true):zDt X (.builtin "sum") (fun xs H Q=>∃(p:Addr) (ns:List Int),xs=[.ref p]/\SqL X.K H p (ns.map V.int)/\Q (.int ns.sum) H):=by
 intro pins s σ H xs us Q I rv h;obtain ⟨p,ns,rfl,hq,q⟩:=h;obtain ⟨u,rfl,ru⟩:=rv.one
 cases ru
 obtain ⟨its,r,pl,hz⟩:=I.list hq;obtain ⟨xs,rfl,e⟩:=ints_of r
 have hI:s.heap.IsList p (intItems xs.toArray):=by
  have:=pl.isList
  rwa [show (xs.map fun p=>Value.int p.1 p.2).toArray=intItems xs.toArray from by unfold intItems;simp] at this
 refine sum_intListG (I.ok.hd hc) hI fun h' tk tk' hk=>?_
 have es:preSum (numAt xs.toArray) xs.toArray.size=ns.sum:=by
  rw [PySem.preSum_eq,<-e,qAO,qBD (by simp)]
 exact ⟨.int ns.sum,H,I.kept (t':=tk) hk,⟨_,by rw [es]⟩,q⟩
end
end L2
namespace My
open PySem L2
variable {P:Program}{w:World}{K:PySem.W.Frag}{mg:Str->Option Value}{base:Heap}{C:Addr}
variable {H H' H2:Hp}{l t Pt:Addr}{J:JR}{fd:FuncData}{X:Cx}{m:Nat}{v:V}{b:Int}{p:Pp}{ns:List Str}
structure RowsR (H:Hp) (l:Addr) (as:List Addr) (rs:List (List Str)):Prop where
 top:H l=some (.lst (as.map V.ref))
 len:as.length=rs.length
 row:∀(i:Nat) (a:Addr) (r:List Str),as[i]?=some a->rs[i]?=some r->H a=some (.lst (r.map V.str))
theorem RowsR.kp {as:List Addr} {rs:List (List Str)} (R:RowsR H l as rs) (k:Kp [] H H'):RowsR H' l as rs :=
 ⟨k l _ R.top (by simp),R.len,fun i a r e1 e2=>k a _ (R.row i a r e1 e2) (by simp)⟩
theorem RowsR.at {as:List Addr} {rs:List (List Str)} (R:RowsR H l as rs) {i:Nat} (h:i<rs.length):∃a r,as[i]?=some a/\rs[i]?=some r/\(as.map V.ref)[i]?=some (.ref a)/\H a=some (.lst (r.map V.str)):=by
 have h':i<as.length:=by rw [R.len];exact h
 exact ⟨_,_,qAn h',qAn h,by rw [qAX,qAn h'];rfl,R.row i _ _ (qAn h') (qAn h)⟩
structure BlkG (J:JR) (bs:List (List Str)):Prop where
 ne:∀B∈bs,B≠[]
 ns:∀B∈bs,∀x∈B,x∈J.ns
 nd:bs.flatten.Nodup
 nx:∀(i:Nat) (B B':List Str),bs[i]?=some B->bs[i+1]?=some B'->∀x∈B,∀y∈B',x∈J.S y
theorem nd_of {bs:List (List Str)} {B:List Str} (nd:bs.flatten.Nodup) (h:B∈bs):B.Nodup:=nd.sublist (List.sublist_flatten_of_mem h)
theorem nd_at {bs:List (List Str)} {i:Nat} {B:List Str} (nd:bs.flatten.Nodup) (h:bs[i]?=some B):∀x∈B,x∉(bs.take i).flatten:=by
 have hi:=(qAV.mp h).1
 have e:bs=bs.take i++(B::bs.drop (i+1)):=by
  have h1:=(qCL i bs).symm;rw [List.drop_eq_getElem_cons hi] at h1;rw [(qAV.mp h).2] at h1;exact h1
 rw [e,qB2,qBP] at nd;intro x hx hm;exact (qBd.mp nd).2.2 x hm x (qAc _ hx) rfl
theorem flat_len {bs:List (List Str)} (G:BlkG J bs) (few:J.ns.length<=20) (i:Nat):((bs.take i).flatten).length<=20:=by
 have s1:((bs.take i).flatten).Sublist bs.flatten:=by
  have e:bs.flatten=(bs.take i).flatten++(bs.drop i).flatten:=by rw [<-qB2,qCL]
  rw [e];exact List.sublist_append_left _ _
 refine qAY (zAs (G.nd.sublist s1) fun x hx=>?_) few;obtain ⟨B,hB,hx⟩:=List.mem_flatten.mp hx;exact G.ns B (qBS hB) x hx
def tf (m b:Int):Int:=(m+b - 1) / b
section
def spTf:Sp:=fun vs H Q _=>∃m b:Int,vs=[.int m,.int b]/\1<=b/\b<10^100/\Q (.int (tf m b)) H
abbrev zC0:Stmt:=top 23
theorem zG1:FnScope ["many", "benches"] ["many", "benches"] (zAd zC0):=fnS
theorem zG8 {f:Addr} (F:Fun K "turns_filled" "turns_filled" zC0 f fd):FnOk P w K mg base CX0 1 f fd ["many", "benches"] spTf:=by
 refine F.ok zG1 (fun vs H Q E h=>?_) (fun cdv A outer s H vs Q E hr h=>?_)
 ·obtain ⟨m,b,rfl,_⟩:=h;rfl
 ·obtain ⟨m,b,rfl,h1,h2,k⟩:=h;exact ⟨_,(zAe (zAk (zAp zE4 (zAp zD1 (zAp zBj (pv 0) (pv 1)) zAf) (pv 1)))),⟨_,rfl,_,rfl,_,_,rfl,rfl,_,_,rfl,rfl,_,rfl,_,_,rfl,rfl,⟨by lia,h2⟩,k⟩⟩
def spHab (C:Addr):Sp:=fun vs H Q _=>∃(j r:Addr) (J:JR) (x:Str) (row:List Str),vs=[.ref j,.str x,.ref r]/\JobsAt C H j J/\x∈J.ns/\Txs H r row/\row.length<=20/\(∀y∈row,y∈J.ns/\x∈J.S y)/\∀H',Kp [] H H'->Q (.bl true) H'
abbrev zBv:Stmt:=top 31
theorem zFm:FnScope ["jobs", "name", "row"] ["jobs", "name", "row"] (zAd zBv):=fnS
theorem zFr {f:Addr} (F:Fun K "has_all_behind" "has_all_behind" zBv f fd) (T:Txt K mg) (U:JC K mg C) (M_is_ahead:Mth P w K mg base C "is_ahead" 3 ["self", "one", "other"] (spIsAhead C)):FnOk P w K mg base CX0 4 f fd ["jobs", "name", "row"] (spHab C):=by
 refine F.ok zFm (fun vs H Q E h=>?_) (fun cdv A outer s H vs Q E hr h=>?_)
 ·obtain ⟨j,r,J,x,row,rfl,_⟩:=h;rfl
 ·obtain ⟨j,r,J,x,row,rfl,A0,hx,hrw,lr,ok,k⟩:=h;refine ⟨_,(zAe (zAk (zAi (zGs _ rfl) (by rfl) T.z_all bo_all (zAa (zA3 rfl (zA4 (sc:=zAd zBv) rfl (by decide +kernel)) (Draws.own (x:= "other") (dtk (i:=1) rfl (dtk (i:=0) rfl Draws.nil))) (zAo (pv 2)) (fun _ _ _ _=>(pgB (i:=0))) (fun _ _ _ _=>zB4) (fun C₀ s₀ H₀ ex=>(zI0 M_is_ahead U.cl hr (pv 2) (zAa (pv 1) (zAa (pv 0) zAb))))) zAb)))),?_⟩
  refine ⟨_,rfl,_,rfl,⟨_,SqL.of hrw⟩,fun B hB=>zA1 (row.map V.str) (fun i ys τ H3=>(∃o0,τ=[o0,some (.str x),some (.ref j)])/\ys=((row.take i).map fun _=>V.bl true)/\Kp [] H H3/\H3 B=some (.lst ys))
   ⟨⟨_,rfl⟩,rfl,Kp.new Kp.refl hB,upd_same⟩ (fun i ys τ H3 ⟨_,_,k3,_⟩=>SqL.of (k3 r _ hrw (by simp))) ?_ ?_⟩
  ·rintro i v ys τ H3 hv ⟨⟨o0,rfl⟩,rfl,k3,h3⟩;obtain ⟨y,ey,rfl⟩:=zAw hv;obtain ⟨yn,xs⟩:=ok y (qAI ey);have A3:=A0.kp0 k3;refine ⟨_,rfl,j,J.dx,_,rfl,A3.ob,zJc _ _ _ (by decide +kernel) (by decide +kernel) (by decide +kernel),_,rfl,_,rfl,j,J,x,y,rfl,A3,hx,yn,?_⟩;refine ⟨h3,?_,⟨_,rfl⟩,?_,Kp.new k3 hB,upd_same⟩
   ·rw [qAD,qAW,qAJ];lia
   ·rw [zAh ey,qAQ,qAf xs];rfl
  ·rintro ys τ H3 ⟨_,rfl,k3,h3⟩;rw [qAD,qAd] at h3;refine ⟨B,row.map fun _=>true,rfl,SqL.of ?_,?_⟩
   ·rw [h3,qA4];rfl
   ·have e:((row.map fun _=>true).all id)=true:=by rw [qDK];exact qBv.mpr fun _ _=>rfl
    rw [e];exact k _ k3
def spCb:Sp:=fun vs H Q _=>∃(l st r:Addr) (ns B row:List Str),vs=[.ref l,.ref st,.ref r]/\Txs H l ns/\SetD H st B/\Txs H r row/\row≠[]/\(∀x∈row,x∈ns/\x∉B)/\row.Nodup/\row.length<=20/\B.length<=20/\∀H',Kp [st] H H'->SetD H' st (B++row)->Q .non H'
abbrev zDl:Stmt:=top 30
theorem zEj:FnScope ["names", "stood", "block", "thing"] ["names", "stood", "block"] (zAd zDl):=fnS
theorem zHx {f:Addr} (F:Fun K "check_block" "check_block" zDl f fd) (T:Txt K mg) (C_is_one_of:Cal P w K mg base "is_one_of" 1 ["thing", "names"] zGy):FnOk P w K mg base CX0 2 f fd ["names", "stood", "block"] spCb:=by
 refine F.ok zEj (fun vs H Q E h=>?_) (fun cdv A outer s H vs Q E hr h=>?_)
 ·obtain ⟨l,st,r,ns,B,row,rfl,_⟩:=h;rfl
 ·obtain ⟨l,st,r,ns,B,row,rfl,hl,hst,hrw,ne,ok,nd,lr,lB,k⟩:=h;have hu:=zD6 hr
  refine ⟨_,(zAc (zA9 (PW.pt (pw_or (zCf (zCo (zAi zCa (by rfl) T.z_isinstance zAr (zAa (pv 2) (zAa (zC2 (by rfl) T.z_list zCr (v:=.ty "list") rfl) zAb))))) (zH9 (zCf (zIy (pv 2) (fun _=>rfl))))))
    (zAe zBp)
    zAn)
   (zAe (zA8 qAi rfl (zAo (pv 2)) (pgN (i:=3) zEj.nd)
    (zAc (zA9 (zCf (zCo (zAg C_is_one_of hr rfl (zAa (pv 3) (zAa (pv 0) zAb)))))
     (zAe zBp)
     zAn)
    (zAc (zA9 (zD0 (zIc hu (pv 3) (pv 1)))
     (zAe zBp)
     zAn)
    (zAe (zCd hu (pv 1) (pv 3) pe_bl rfl))))))),?_⟩
  refine ⟨_,rfl,_,_,_,_,rfl,TyOf.lst hrw,zCx,_,rfl,iteF ?_⟩
  refine ⟨_,rfl,true,.inl ⟨_,SqL.of hrw,by cases row with
   | nil=>exact absurd rfl ne
   | cons a b=>rfl⟩,iteF ?_⟩
  refine ⟨_,rfl,_,rfl,⟨_,SqL.of hrw⟩,zA5 (xs:=row.map V.str) (fun i σ H2=>(∃o3:Option V,σ=[some (.ref l),some (.ref st),some (.ref r),o3])/\Kp [st] H H2/\SetD H2 st (B++row.take i)) ⟨⟨_,rfl⟩,Kp.refl,by rw [qBV,qAs];exact hst⟩ (fun i σ H2 _ ⟨_,k2,_⟩=>SqL.of (k2 _ _ hrw (nm1 (zBq hrw hst fun z=>nomatch z)))) ?_ ?_⟩
  ·rintro i v σ H2 hv ⟨⟨o3,rfl⟩,k2,h2⟩;obtain ⟨x,ex,rfl⟩:=zAw hv;obtain ⟨xn,xB⟩:=ok x (qAI ex);have nx:x∉B++row.take i:=fun z=>(qAK.mp z).elim xB (zCw nd ex);refine ⟨_,rfl,_,rfl,x,l,ns,rfl,k2 _ _ hl (nm1 (zBq hl hst fun z=>nomatch z)),_,rfl,?_⟩;rw [qAf xn];refine iteF ?_;obtain ⟨o,g1,g2⟩:=zG0 h2 x;refine ⟨_,rfl,_,rfl,_,_,rfl,g1,_,rfl,?_⟩;rw [g2,qAe nx];refine iteF ?_;refine ⟨_,rfl,_,rfl,_,_,rfl,DPut.k (k:=Sum.inr x) h2 ?_,?_⟩
   ·rw [zC5,qAU,qAW,qAJ];lia
   refine ⟨⟨_,rfl⟩,Kp.put k2 (by simp),?_⟩;show upd _ _ _ _=_;rw [upd_same,zC1 _ nx,zAh ex,<-qAy];unfold dT1;rw [qAQ (l₁:=B++row.take i)];rfl
  ·rintro σ H2 ⟨_,k2,h2⟩;rw [qAD,qAd] at h2;exact k _ k2 h2
def spCbs (C:Addr):Sp:=fun vs H Q _=>∃(j bl:Addr) (J:JR) (as:List Addr) (bs:List (List Str)),vs=[.ref j,.ref bl]/\JobsAt C H j J/\RowsR H bl as bs/\bs.length<=20/\BlkG J bs/\∀H',Kp [] H H'->Q .non H'
abbrev zB8:Stmt:=top 29
theorem zBi:FnScope ["jobs", "blocks", "stood", "block", "one", "other"] ["jobs", "blocks"] (zAd zB8):=fnS
theorem zG9 {f:Addr} (F:Fun K "check_blocks" "check_blocks" zB8 f fd) (T:Txt K mg) (U:JC K mg C) (M_names:Mth P w K mg base C "names" 1 ["self"] (zIq C)) (C_check_block:Cal P w K mg base "check_block" 2 ["names", "stood", "block"] spCb) (C_hab:Cal P w K mg base "has_all_behind" 4 ["jobs", "name", "row"] (spHab C)):FnOk P w K mg base CX0 5 f fd ["jobs", "blocks"] (spCbs C):=by
 refine F.ok zBi (fun vs H Q E h=>?_) (fun cdv A outer s H vs Q E hr h=>?_)
 ·obtain ⟨j,bl,J,as,bs,rfl,_⟩:=h;rfl
 ·obtain ⟨j,bl,J,as,bs,rfl,A0,R,l20,G,k⟩:=h;have hr1:=hr.mono (j:=1) (by decide);have hr2:=hr.mono (j:=2) (by decide)
  refine ⟨_,(zAc (zA9 (zCf (zCo (zAi zCa (by rfl) T.z_isinstance zAr (zAa (pv 1) (zAa (zC2 (by rfl) T.z_list zCr (v:=.ty "list") rfl) zAb)))))
    (zAe zBp)
    zAn)
   (zAc (psS (i:=2) zBi.nd zBw)
   (zAc (zA8 qAi rfl (zAo (pv 1)) (pgN (i:=3) zBi.nd)
    (zAe (zA2 (zAg C_check_block hr2 rfl (zAa (zDb M_names U.cl hr1 (pv 0)) (zAa (pv 2) (zAa (pv 3) zAb)))))))
   (zAe (zA8 qAi rfl (pi_zip rfl T.z_zip (zAa (pv 1) (zAa (pe_slice sl_list (pv 1) (po_some zAf) po_none) zAb))) (pg_tup rfl (zBd (pgN (i:=4) zBi.nd) (zBd (pgN (i:=5) zBi.nd) zEo)))
    (zAe (zA9 (zCf (zCo (zAi (zGs _ rfl) (by rfl) T.z_all bo_all (zAa (zA3 rfl (zA4 (sc:=zAd zB8) rfl (by decide +kernel)) (Draws.own (x:= "name") (dtk (i:=0) rfl (dtk (i:=5) rfl Draws.nil))) (zAo (pv 4)) (fun _ _ _ _=>(pgB (i:=0))) (fun _ _ _ _=>zB4) (fun C₀ s₀ H₀ ex=>(zAg C_hab hr rfl (zAa (pv 1) (zAa (pv 0) (zAa (pv 2) zAb)))))) zAb))))
     (zAe zBp)
     zAn))))))),?_⟩
  have rlen:∀B∈bs,B.length<=20:=fun B hB=>qAY (zAs (nd_of G.nd hB) (G.ns B hB)) A0.few;refine ⟨_,rfl,_,_,_,_,rfl,TyOf.lst R.top,zCx,_,rfl,iteF ?_⟩;refine fun st hst=>?_;have fs:Fre H st:=hst;have k1:Kp [] H (upd H st (.dK [])):=Kp.new Kp.refl fs;have e1:SetD (upd H st (.dK [])) st (bs.take 0).flatten:=upd_same;generalize upd H st (.dK [])=H1 at k1 e1;refine ⟨_,rfl,_,rfl,⟨_,SqL.of (k1 _ _ R.top (by simp))⟩,zA5 (xs:=as.map V.ref) (fun i σ H2=>(∃o3:Option V,σ=[some (.ref j),some (.ref bl),some (.ref st),o3,none,none])/\Kp [] H H2/\SetD H2 st (bs.take i).flatten) ⟨⟨_,rfl⟩,k1,e1⟩ (fun i σ H2 _ ⟨_,k2,_⟩=>SqL.of (k2 _ _ R.top (by simp))) ?_ ?_⟩
  ·rintro i v σ H2 hv ⟨⟨o3,rfl⟩,k2,h2⟩
   have hi:i<bs.length:=by
    have:=(qAV.mp hv).1;rw [qAD,R.len] at this;exact this
   obtain ⟨a,B,ea,eB,ev,ha⟩:=R.at hi;rw [ev] at hv
   cases hv
   have mB:=qAI eB;have A2:=A0.kp0 k2;refine ⟨_,rfl,j,J.dx,_,rfl,A2.ob,zJc _ _ _ (by decide +kernel) (by decide +kernel) (by decide +kernel),j,J,rfl,A2,fun n H3 fn hn k3=>?_⟩;refine ⟨_,rfl,_,rfl,n,st,a,J.ns,(bs.take i).flatten,B,rfl,hn,k3 _ _ h2 (by simp),(k2.trans k3) _ _ ha (by simp),G.ne B mB,fun x hx=>⟨G.ns B mB x hx,nd_at G.nd eB x hx⟩,nd_of G.nd mB,rlen B mB,flat_len G A0.few i,fun H4 k4 h4=>?_⟩;refine ⟨⟨_,rfl⟩,zFs (k2.trans k3) fs k4,?_⟩;rw [zAh eB,qB2,qBP,qDN,qAs];exact h4
  rintro σ H2 ⟨⟨o3,rfl⟩,k2,_⟩;refine ⟨_,rfl,_,rfl,_,rfl,_,_,rfl,SqL.of (k2 _ _ R.top (by simp)),fun (sl:Addr) hsl=>?_⟩;have ec:cutV (as.map V.ref) (some 1) none=(as.drop 1).map V.ref:=by rw [cut_from _ (by decide),qDE];rfl
  rw [ec];have k3:Kp [] H2 (upd H2 sl (.lst ((as.drop 1).map V.ref))):=Kp.new Kp.refl hsl;have e3:upd H2 sl (.lst ((as.drop 1).map V.ref)) sl=some (.lst ((as.drop 1).map V.ref)):=upd_same;generalize upd H2 sl (.lst ((as.drop 1).map V.ref))=H3 at k3 e3;have K3:=k2.trans k3;refine ⟨bl,sl,rfl,⟨_,SqL.of (K3 _ _ R.top (by simp))⟩,⟨_,SqL.of e3⟩,for_zip (xs:=as.map V.ref) (ys:=(as.drop 1).map V.ref) (fun i σ H4=>(∃o4 o5:Option V,σ=[some (.ref j),some (.ref bl),some (.ref st),o3,o4,o5])/\Kp [] H3 H4) ⟨⟨_,_,rfl⟩,Kp.refl⟩ (fun i σ H4 ⟨_,k4⟩=>⟨SqL.of ((K3.trans k4) _ _ R.top (by simp)),SqL.of (k4 _ _ e3 (by simp))⟩) ?_ ?_⟩
  ·rintro i v1 v2 σ H4 t hv1 hv2 ⟨⟨o4,o5,rfl⟩,k4⟩ ht
   have hi:i<bs.length:=by
    have:=(qAV.mp hv1).1;rw [qAD,R.len] at this;exact this
   have hi1:i+1<bs.length:=by
    have:=(qAV.mp hv2).1;rw [qAD,qBO,R.len] at this;lia
   obtain ⟨a,B,ea,eB,ev,ha⟩:=R.at hi;obtain ⟨a',B',ea',eB',ev',ha'⟩:=R.at hi1;rw [ev] at hv1
   cases hv1
   have e2:((as.drop 1).map V.ref)[i]?=some (.ref a'):=by
    rw [qAX,qBc,Nat.add_comm,ea'];rfl
   rw [e2] at hv2
   cases hv2
   have kt:Kp [] H4 (upd H4 t (.tup [.ref a,.ref a'])):=Kp.new Kp.refl ht;refine ⟨_,_,rfl,.inl (.inl upd_same),rfl,_,_,rfl,_,_,rfl,rfl,?_⟩;generalize upd H4 t (.tup [.ref a,.ref a'])=H5 at kt;have K5:=(K3.trans k4).trans kt;have ha5:=K5 _ _ ha (by simp);have mB:=qAI eB;have mB':=qAI eB';refine ⟨_,rfl,_,rfl,⟨_,SqL.of ha5⟩,fun Y hY=>zA1 (B.map V.str) (fun p ys τ H6=>(∃o0,τ=[o0,some (.ref j),some (.ref a')])/\ys=((B.take p).map fun _=>V.bl true)/\Kp [] H5 H6/\H6 Y=some (.lst ys)) ⟨⟨_,rfl⟩,rfl,Kp.new Kp.refl hY,upd_same⟩ (fun p ys τ H6 ⟨_,_,k6,_⟩=>SqL.of (k6 _ _ ha5 (by simp))) ?_ ?_⟩
   ·rintro p v ys τ H6 hv ⟨⟨o0,rfl⟩,rfl,k6,h6⟩;obtain ⟨x,ex,rfl⟩:=zAw hv;have mx:=qAI ex;have K6:=K5.trans k6;have lb:=rlen B mB;refine ⟨_,rfl,_,rfl,_,rfl,j,a',J,x,B',rfl,A0.kp0 K6,G.ns B mB x mx,K6 _ _ ha' (by simp),rlen B' mB',fun y hy=>⟨G.ns B' mB' y hy,G.nx i B B' eB eB' x mx y hy⟩,fun H7 k7=>?_⟩;refine ⟨k7 _ _ h6 (by simp),?_,⟨_,rfl⟩,?_,Kp.new (k6.trans k7) hY,upd_same⟩
    ·rw [qAD,qAW,qAJ];lia
    ·rw [zAh ex,qAQ];rfl
   ·rintro ys τ H6 ⟨_,rfl,k6,h6⟩;rw [qAD,qAd] at h6;refine ⟨Y,B.map fun _=>true,rfl,SqL.of (by rw [h6,qA4];rfl),_,rfl,?_⟩;rw [show ((B.map fun _=>true).all id)=true by rw [qDK];exact qBv.mpr fun _ _=>rfl];refine iteF ?_;exact ⟨⟨_,_,rfl⟩,(k4.trans kt).trans k6⟩
  ·rintro i σ H4 _ ⟨_,k4⟩;exact k _ (K3.trans k4)
def blkN (b:Int) (bs:List (List Str)):Int:=(bs.map fun B=>tf (B.length:Int) b).sum
def spSbb (C:Addr):Sp:=fun vs H Q _=>∃(j bl:Addr) (b:Int) (J:JR) (as:List Addr) (bs:List (List Str)),vs=[.ref j,.int b,.ref bl]/\JobsAt C H j J/\RowsR H bl as bs/\bs.length<=20/\BlkG J bs/\1<=b/\b<10^100/\∀H',Kp [] H H'->Q (.int (blkN b bs)) H'
abbrev zBo:Stmt:=top 28
theorem zEv:FnScope ["jobs", "benches", "blocks"] ["jobs", "benches", "blocks"] (zAd zBo):=fnS
theorem zE6 {f:Addr} (F:Fun K "shown_by_blocks" "shown_by_blocks" zBo f fd) (T:Txt K mg) (C_check_blocks:Cal P w K mg base "check_blocks" 5 ["jobs", "blocks"] (spCbs C)) (C_turns_filled:Cal P w K mg base "turns_filled" 1 ["many", "benches"] spTf):FnOk P w K mg base CX0 6 f fd ["jobs", "benches", "blocks"] (spSbb C):=by
 refine F.ok zEv (fun vs H Q E h=>?_) (fun cdv A outer s H vs Q E hr h=>?_)
 ·obtain ⟨j,bl,b,J,as,bs,rfl,_⟩:=h;rfl
 ·obtain ⟨j,bl,b,J,as,bs,rfl,A0,R,l20,G,b1,b2,k⟩:=h;have hr1:=hr.mono (j:=1) (by decide)
  refine ⟨_,(zAc (zA2 (zAg C_check_blocks hr rfl (zAa (pv 0) (zAa (pv 2) zAb))))
   (zAe (zAk (zAi (call_sum1 rfl) (by rfl) T.z_sum bo_sum (zAa (zA3 rfl (zA4 (sc:=zAd zBo) rfl (by decide +kernel)) (Draws.own (x:= "block") (dtk (i:=1) rfl Draws.nil)) (zAo (pv 2)) (fun _ _ _ _=>(pgB (i:=0))) (fun _ _ _ _=>zB4) (fun C₀ s₀ H₀ ex=>(zAg C_turns_filled hr1 rfl (zAa (zAi (zDs (K:=K)) (by rfl) T.z_len zBt (zAa (pv 0) zAb)) (zAa (pv 1) zAb))))) zAb))))),?_⟩
  refine ⟨_,rfl,_,rfl,j,bl,J,as,bs,rfl,A0,R,l20,G,fun H1 k1=>?_⟩;have R1:=R.kp k1;refine ⟨_,rfl,_,rfl,⟨_,SqL.of R1.top⟩,fun Y hY=>zA1 (as.map V.ref) (fun i ys τ H3=>(∃o0,τ=[o0,some (.int b)])/\ys=((bs.take i).map fun B=>V.int (tf (B.length:Int) b))/\H3=upd H1 Y (.lst ys)) ⟨⟨_,rfl⟩,rfl,rfl⟩ (fun i ys τ H3 ⟨_,_,z⟩=>by subst z;exact SqL.of ((Kp.new (M:=[]) Kp.refl hY) _ _ R1.top (by simp))) ?_ ?_⟩
  ·rintro i v ys τ H3 hv ⟨⟨o0,rfl⟩,rfl,rfl⟩
   have hi:i<bs.length:=by
    have:=(qAV.mp hv).1;rw [qAD,R.len] at this;exact this
   obtain ⟨a,B,ea,eB,ev,ha⟩:=R1.at hi;rw [ev] at hv
   cases hv
   have kY:Kp [] H1 (upd H1 Y (.lst ((bs.take i).map fun B=>V.int (tf (B.length:Int) b)))):=Kp.new Kp.refl hY;refine ⟨_,rfl,_,_,rfl,.inl (SqL.of (kY _ _ ha (by simp))),_,rfl,_,b,rfl,b1,b2,?_⟩;refine ⟨upd_same,?_,⟨_,rfl⟩,?_,zBh⟩
   ·rw [qAD,qAW,qAJ];lia
   ·rw [zAh eB,qAQ,qAD];rfl
  ·rintro ys τ H3 ⟨_,rfl,rfl⟩;have eT:bs.take (as.map V.ref).length=bs:=by rw [qAD,R.len,qAd]
   rw [eT];refine ⟨Y,bs.map fun B=>tf (B.length:Int) b,rfl,SqL.of (by rw [upd_same,qA4];rfl),?_⟩;exact k _ (k1.trans (Kp.new Kp.refl hY))
end
theorem kit_ib {K:PySem.W.Frag}:PySem.W.kitOne K (.type "int") (.type "bool")=some false:=by rfl
def tFrz (t:TS):TS:=fun D σ H=>∃a kvs,H a=some (.dK kvs)/\∀o,t (thawE D a o kvs) σ (upd H a (.frz o (.dK kvs)))
theorem ps_frzN {st:Stmt} {t:TS} (h:PS X st t):PS X st (tFrz t):=ps_frz h
theorem thaw_kp {d:Addr} {kvs:List (Key×V)} (hd:H d=some (.dK kvs)) (k:Kp [d] H H2):Kp [] H (upd H2 d (.dK kvs)):=fun c o h n=>by
 by_cases e:c=d
 ·subst e;rw [upd_same,<-h];exact hd.symm
 ·rw [upd_ne e];exact k c o h (nm1 e)
theorem tbl_ne {Q a:Addr} {o:HO} (t:∃xs,H Q=some (.tbl xs)) (h:H a=some o) (no:∀ps,o≠.tbl ps):a≠Q:=fun z=>by
 obtain ⟨xs,e⟩:=t;rw [<-z,h] at e;exact no xs (qAZ e)
def zH1 (F:List Str) (f:Str->Int) (h:Int):Nat:=(F.filter fun x=>decide (f x>h)).length
def numN (F:List Str) (f:Str->Int) (b n:Int):Int:=if zH1 F f n=0 then 0 else tf (zH1 F f n) b+n
theorem DGet.f {a:Addr} {kvs:List (Key×V)} {k:Key} {o:Obj} (e:H a=some (.frz o (.dK kvs))):DGet H a (kV k) (valV kvs k):=.inl ⟨kvs,k,.inr ⟨o,e⟩,rfl,rfl⟩
theorem kvI_at {F:List Str} {f:Str->Int} {kk:Key} (h:(kvI F f)[m]?=some (kk,v)):∃y,F[m]?=some y/\kk=Sum.inr y:=by
 unfold kvI dT1 at h;rw [qAX] at h;obtain ⟨y,e,r⟩:=qBC.mp h
 cases r
 exact ⟨y,e,rfl⟩
structure Wds (K:PySem.W.Frag) (mg:Str->Option Value) (W:Addr):Prop where
 g:mg "WORDS" = some (.ref W)
 s:∀H,SqT K H W ((["blocks", "behind", "ahead"]:List Str).map V.str)
section
def spOneW (K:PySem.W.Frag):Sp:=fun vs H Q _=>∃(x:Str) (l:Addr) (ns:List Str),vs=[.str x,.ref l]/\SqT K H l (ns.map V.str)/\Q (.bl (decide (x∈ns))) H
theorem ok_one_w {f:Addr} (F:Fun K "is_one_of" "is_one_of" zDi f fd) (T:Txt K mg):FnOk P w K mg base CX0 1 f fd ["thing", "names"] (spOneW K):=by
 refine F.ok zF0 (fun vs H Q E h=>?_) (fun cdv A outer s H vs Q E hr h=>?_)
 ·obtain ⟨v,l,ns,rfl,_⟩:=h;rfl
 ·obtain ⟨x,l,ns,rfl,hl,k⟩:=h;refine ⟨_,(zAe (zAk (zIb (zAi zCa (by rfl) T.z_isinstance zAr (zAa (pv 0) (zAa (zC2 (by rfl) T.z_str bo_str (v:=.ty "str") rfl) zAb))) (zG6 (zBz zG7 (pv 0) (pv 1) (by rfl)))))),?_⟩;refine ⟨_,rfl,_,_,_,_,rfl,TyOf.str x,zCx,_,rfl,iteT ?_⟩;refine ⟨_,rfl,_,rfl,_,_,rfl,.inr hl,rfl,zFc ns,?_⟩;rw [qAB (by decide),zJe];exact k
def zGv:Sp:=fun vs H Q _=>∃n:Int,vs=[.int n]/\Q (.bl true) H
abbrev zFo:Stmt:=top 17
theorem sc_is_whole:FnScope ["thing"] ["thing"] (zAd zFo):=fnS
theorem ok_is_whole {f:Addr} (F:Fun K "is_whole" "is_whole" zFo f fd) (T:Txt K mg):FnOk P w K mg base CX0 1 f fd ["thing"] zGv:=by
 refine F.ok sc_is_whole (fun vs H Q E h=>?_) (fun cdv A outer s H vs Q E hr h=>?_)
 ·obtain ⟨n,rfl,_⟩:=h;rfl
 ·obtain ⟨n,rfl,k⟩:=h;refine ⟨_,(zAe (zAk (zIb (zAi zCa (by rfl) T.z_isinstance zAr (zAa (pv 0) (zAa (zC2 (by rfl) T.z_int zHo (v:=.ty "int") rfl) zAb))) (zG6 (pe_not (zAi zCa (by rfl) T.z_isinstance zAr (zAa (pv 0) (zAa (zC2 (by rfl) T.z_bool bo_bool (v:=.ty "bool") rfl) zAb)))))))),?_⟩;exact ⟨_,rfl,_,_,_,_,rfl,TyOf.int n,zCx,_,rfl,iteT ⟨_,rfl,_,_,_,_,rfl,TyOf.int n,kit_ib,_,rfl,k⟩⟩
def spBench:Sp:=fun vs H Q _=>∃b:Int,vs=[.int b]/\1<=b/\Q .non H
abbrev zCl:Stmt:=top 20
theorem zF8:FnScope ["benches"] ["benches"] (zAd zCl):=fnS
theorem zGc {f:Addr} (F:Fun K "check_benches" "check_benches" zCl f fd) (C_is_whole:Cal P w K mg base "is_whole" 1 ["thing"] zGv):FnOk P w K mg base CX0 2 f fd ["benches"] spBench:=by
 refine F.ok zF8 (fun vs H Q E h=>?_) (fun cdv A outer s H vs Q E hr h=>?_)
 ·obtain ⟨n,rfl,_⟩:=h;rfl
 ·obtain ⟨n,rfl,h1,k⟩:=h
  refine ⟨_,(zAe (zA9 (PW.pt (pw_or (zCf (zCo (zAg C_is_whole hr rfl (zAa (pv 0) zAb)))) (zH9 (zAj op_lt (pv 0) zAf (zAl _)))))
    (zAe zBp)
    zAn)),?_⟩
  refine ⟨_,rfl,n,rfl,_,rfl,iteF ⟨_,rfl,_,_,rfl,rfl,_,rfl,?_⟩⟩;rw [qAe (by lia)];exact iteF k
def spSbn:Sp:=fun vs H Q _=>∃(d:Addr) (b n:Int) (F:List Str) (f:Str->Int),vs=[.ref d,.int b,.int n]/\H d=some (.dK (kvI F f))/\F.length<=20/\1<=b/\b<10^100/\∀H',Kp [] H H'->Q (.int (numN F f b n)) H'
abbrev zBn:Stmt:=top 27
theorem zCs:FnScope ["high", "benches", "number", "many"] ["high", "benches", "number"] (zAd zBn):=fnS
theorem zE5 {f:Addr} (F:Fun K "shown_by_number" "shown_by_number" zBn f fd) (T:Txt K mg) (C_turns_filled:Cal P w K mg base "turns_filled" 1 ["many", "benches"] spTf):FnOk P w K mg base CX0 2 f fd ["high", "benches", "number"] spSbn:=by
 refine F.ok zCs (fun vs H Q E h=>?_) (fun cdv A outer s H vs Q E hr h=>?_)
 ·obtain ⟨d,b,n,F,f,rfl,_⟩:=h;rfl
 ·obtain ⟨d,b,n,F,f,rfl,hd,lF,b1,b2,k⟩:=h;have hu:=zD6 hr
  refine ⟨_,(zAc (ps_frzN (psS (i:=3) zCs.nd (zAi zAm (by rfl) T.z_len zBt (zAa (zA3 rfl (zA4 (sc:=zAd zBn) rfl (by decide +kernel)) (Draws.own (x:= "name") (dtk (i:=2) rfl (dtk (i:=0) rfl Draws.nil))) (pi_keys (pv 0)) (fun _ _ _ _=>(pgB (i:=0))) (fun _ _ _ _=>(zB6 (zAj op_gt (zAz hu (pv 2) (pv 0) (fun _ _=>rfl)) (pv 1) (zAl _)))) (fun _ _ _ _=>(pv 0))) zAb))))
   (zAc (zA9 (zAj zDd (pv 3) zAf (zAl _))
    (zAe (zAk zAf))
    zAn)
   (zAe (zAk (zAp zBj (zAg C_turns_filled hr rfl (zAa (pv 3) (zAa (pv 1) zAb))) (pv 2)))))),?_⟩
  refine ⟨d,kvI F f,hd,fun o=>?_⟩;have kf:Kp [d] H (upd H d (.frz o (.dK (kvI F f)))):=Kp.put Kp.refl (by simp);have ff:upd H d (.frz o (.dK (kvI F f))) d=some (.frz o (.dK (kvI F f))):=upd_same;generalize upd H d (.frz o (.dK (kvI F f)))=H4 at kf ff;refine ⟨_,rfl,d,o,_,rfl,ff,fun B hB=>zHn (fun m ys τ H5=>(∃o0,τ=[o0,some (.int n),some (.ref d)])/\ys=(((F.take m).filter fun x=>decide (f x>n)).map V.str)/\H5=upd H4 B (.lst ys)) ⟨⟨_,rfl⟩,rfl,rfl⟩ (fun m ys τ H5 ⟨_,_,z⟩=>by subst z;exact (Kp.new (M:=[]) Kp.refl hB) _ _ ff (by simp)) ?_ ?_⟩
  ·rintro m kk v ys τ H5 hv ⟨⟨o0,rfl⟩,rfl,rfl⟩;obtain ⟨y,ey,rfl⟩:=kvI_at hv;have yb:=qAI ey;have f5:=(Kp.new (M:=[]) (l:=B) (o:=.lst (((F.take m).filter fun x=>decide (f x>n)).map V.str)) Kp.refl hB) _ _ ff (by simp);unfold zH2;refine ⟨_,rfl,_,rfl,d,_,rfl,by have:=DGet.f (k:=Sum.inr y) f5;rw [zHh yb] at this;exact this,_,rfl,_,_,rfl,rfl,_,rfl,ite2 (fun c=>?_) (fun c=>?_)⟩
   ·refine ⟨_,rfl,upd_same,?_,⟨_,rfl⟩,?_,zBh⟩
    ·rw [qAD];exact zCi (by lia)
    ·rw [zB9 ey c,qAQ];rfl
   ·refine ⟨⟨_,rfl⟩,?_,rfl⟩;rw [zC4 ey c]
  ·rintro ys τ H5 ⟨_,rfl,rfl⟩;have eT:F.take (kvI F f).length=F:=by rw [zD5,qAd]
   rw [eT];have fB:Fre H4 B:=hB;refine ⟨_,_,rfl,.inl (SqL.of upd_same),?_⟩;have k5:Kp [] H4 (upd H4 B (.lst ((F.filter fun x=>decide (f x>n)).map V.str))):=Kp.new Kp.refl fB;generalize upd H4 B (.lst ((F.filter fun x=>decide (f x>n)).map V.str))=H5 at k5;refine ⟨k5 _ _ ff (by simp),?_⟩;have k6:Kp [] H (upd H5 d (.dK (kvI F f))):=thaw_kp hd (kf.trans (k5.weak (by simp)));generalize upd H5 d (.dK (kvI F f))=H6 at k6;rw [qAD,show (F.filter fun x=>decide (f x>n)).length=zH1 F f n from rfl];refine ⟨_,rfl,rfl,_,rfl,ite2 (fun c=>?_) (fun c=>?_)⟩
   ·have c:V.int (zH1 F f n:Int)=V.int 0:=qBY c;injection c with c;have:=k H6 k6;unfold numN at this;rw [qAC (by lia)] at this;exact this
   ·have c:¬zH1 F f n=0:=fun z=>c (by rw [z];rfl);have:=k H6 k6;unfold numN at this;rw [qAB c] at this;exact ⟨_,rfl,_,rfl,_,b,rfl,b1,b2,_,rfl,_,_,rfl,rfl,this⟩
def Pap (H:Hp) (J:JR) (ks:List (List Str×Addr)) (b:Int) (t:Addr) (Q:Int->Prop):Prop :=
 (∃(bl:Addr) (as:List Addr) (bs:List (List Str)),H t=some (.tup [.str "blocks",.ref bl])/\RowsR H bl as bs/\bs.length<=20/\BlkG J bs/\Q (blkN b bs)) \/
 (∃n:Int,0<=n/\H t=some (.tup [.str "behind",.int n])/\∀(F:List Str) (f:Str->Int),HF (behJ J) F f->F.Perm J.ns->Q (numN F f b n)) \/
 (∃n:Int,0<=n/\H t=some (.tup [.str "ahead",.int n])/\∀(F:List Str) (f:Str->Int),ToldH J.ns ks F f->Q (numN F f b n))
def spShown (C Pt:Addr):Sp:=fun vs H Q _=>∃(j t:Addr) (b:Int) (J:JR) (qs ks:List (List Str×Addr)) (r:Str->Nat),vs=[.ref j,.int b,.ref t]/\JobsAt C H j J/\Good J.ns qs r/\(∀k,k∈J.zs.map (·.1)↔k∈qs.map (·.1))/\(∀q∈qs,∃a b,q.1=[a,b])/\ks.map (·.1)=(qs.map fun q=>q.1.reverse)/\1<=b/\b<10^100/\TabA H Pt/\Pap H J ks b t fun z=>∀H',Kp [Pt] H H'->TabA H' Pt->Q (.int z) H'
abbrev s_shown:Stmt:=top 26
theorem sc_shown:FnScope ["jobs", "benches", "paper"] ["jobs", "benches", "paper"] (zAd s_shown):=fnS
theorem ok_shown {f W:Addr} (F:Fun K "shown" "shown" s_shown f fd) (T:Txt K mg) (WD:Wds K mg W) (C_check_benches:Cal P w K mg base "check_benches" 2 ["benches"] spBench) (C_is_one_of:Cal P w K mg base "is_one_of" 1 ["thing", "names"] (spOneW K)) (C_sbb:Cal P w K mg base "shown_by_blocks" 6 ["jobs", "benches", "blocks"] (spSbb C)) (C_is_whole:Cal P w K mg base "is_whole" 1 ["thing"] zGv)
  (C_sbn:Cal P w K mg base "shown_by_number" 2 ["high", "benches", "number"] spSbn) (C_heights:Cal P w K mg base "heights" 8 ["jobs"] (zGz C Pt)) (C_depths:Cal P w K mg base "depths" 9 ["jobs"] (spDepths C Pt)):FnOk P w K mg base CX0 10 f fd ["jobs", "benches", "paper"] (spShown C Pt):=by
 refine F.ok sc_shown (fun vs H Q E h=>?_) (fun cdv A outer s H vs Q E hr h=>?_)
 ·obtain ⟨j,t,b,J,qs,ks,r,rfl,_⟩:=h;rfl
 ·obtain ⟨j,t,b,J,qs,ks,r,rfl,A0,G,ezs,two,ek,b1,b2,T0,pp⟩:=h;have hr1:=hr.mono (j:=1) (by decide);have hr2:=hr.mono (j:=2) (by decide);have hr6:=hr.mono (j:=6) (by decide);have hr8:=hr.mono (j:=8) (by decide)
  refine ⟨_,(zAc (zA2 (zAg C_check_benches hr2 rfl (zAa (pv 1) zAb)))
   (zAc (zA9 (PW.pt (pw_or (zCf (zCo (zAi zCa (by rfl) T.z_isinstance zAr (zAa (pv 2) (zAa (zC2 (by rfl) T.z_tuple bo_tuple (v:=.ty "tuple") rfl) zAb))))) (pw_or (zAj op_ne (zAi zAm (by rfl) T.z_len zBt (zAa (pv 2) zAb)) zAf (zAl _)) (zH9 (zCf (zCo (zAg C_is_one_of hr1 rfl (zAa (zAy zBk (pv 2) zAf (fun _ _=>rfl)) (zAa (pe_glob (v:=.ref W) (by rfl) WD.g rfl) zAb)))))))))
    (zAe zBp)
    zAn)
   (zAc (zA9 (zAj zDd (zAy zBk (pv 2) zAf (fun _ _=>rfl)) zB1 (zAl _))
    (zAe (zAk (zAg C_sbb hr6 rfl (zAa (pv 0) (zAa (pv 1) (zAa (zAy zBk (pv 2) zAf (fun _ _=>rfl)) zAb))))))
    zAn)
   (zAc (zA9 (PW.pt (pw_or (zCf (zCo (zAg C_is_whole hr1 rfl (zAa (zAy zBk (pv 2) zAf (fun _ _=>rfl)) zAb)))) (zH9 (zAj op_lt (zAy zBk (pv 2) zAf (fun _ _=>rfl)) zAf (zAl _)))))
    (zAe zBp)
    zAn)
   (zAc (zA9 (zAj zDd (zAy zBk (pv 2) zAf (fun _ _=>rfl)) zB1 (zAl _))
    (zAe (zAk (zAg C_sbn hr2 rfl (zAa (zAg C_heights hr8 rfl (zAa (pv 0) zAb)) (zAa (pv 1) (zAa (zAy zBk (pv 2) zAf (fun _ _=>rfl)) zAb))))))
    zAn)
   (zAe (zAk (zAg C_sbn hr2 rfl (zAa (zAg C_depths hr rfl (zAa (pv 0) zAb)) (zAa (pv 1) (zAa (zAy zBk (pv 2) zAf (fun _ _=>rfl)) zAb))))))))))),?_⟩
  refine ⟨_,rfl,b,rfl,b1,?_⟩
  obtain ⟨wd,y,ht,hw⟩:∃(wd:Str) (y:V),H t=some (.tup [.str wd,y])/\wd∈(["blocks", "behind", "ahead"]:List Str):=by
   rcases pp with ⟨bl,_,_,h,_⟩| ⟨n,_,h,_⟩| ⟨n,_,h,_⟩
   ·exact ⟨_,_,h,by simp⟩
   ·exact ⟨_,_,h,by simp⟩
   ·exact ⟨_,_,h,by simp⟩
  refine ⟨_,rfl,_,_,_,_,rfl,TyOf.tup ht,zCx,_,rfl,iteF ?_⟩;refine ⟨_,rfl,_,_,rfl,.inr (SqT.of ht),rfl,_,rfl,iteF ?_⟩;refine ⟨_,rfl,_,_,_,_,rfl,rfl,SqT.of ht,rfl,wd,W,_,rfl,WD.s _,_,rfl,?_⟩;rw [qAf hw];refine iteF ?_;have o8:t≠Pt:=tbl_ne T0.tbl ht fun _ z=>nomatch z;rcases pp with ⟨bl,as,bs,h,R,l20,BG,q⟩| ⟨n,n0,h,q⟩| ⟨n,n0,h,q⟩
  ·refine ⟨_,rfl,_,_,_,_,rfl,rfl,SqT.of h,rfl,rfl,_,rfl,?_⟩;refine iteT ?_;refine ⟨_,rfl,_,rfl,_,rfl,_,_,_,_,rfl,rfl,SqT.of h,rfl,j,bl,b,J,as,bs,rfl,A0,R,l20,BG,b1,b2,fun H1 k1=>?_⟩;exact q H1 (k1.weak (by simp)) (T0.kp k1)
  ·refine ⟨_,rfl,_,_,_,_,rfl,rfl,SqT.of h,rfl,rfl,_,rfl,?_⟩;refine iteF ?_;refine ⟨_,rfl,_,_,_,_,rfl,rfl,SqT.of h,rfl,n,rfl,_,rfl,iteF ?_⟩;refine ⟨_,rfl,_,_,_,_,rfl,rfl,SqT.of h,rfl,_,_,rfl,rfl,_,rfl,?_⟩;rw [qAe (by lia)];refine iteF ?_;refine ⟨_,rfl,_,_,_,_,rfl,rfl,SqT.of h,rfl,rfl,_,rfl,?_⟩;refine iteT ?_;refine ⟨_,rfl,j,J,qs,r,rfl,A0,G,ezs,T0,fun d F f H1 k1 T1 _ hd hf pm=>?_⟩;refine ⟨_,rfl,_,rfl,_,_,_,_,rfl,rfl,SqT.of (k1 _ _ h (nm1 o8)),rfl,d,b,n,F,f,rfl,hd,by rw [pm.length_eq];exact A0.few,b1,b2,fun H2 k2=>?_⟩;exact q F f hf pm H2 (k1.trans (k2.weak (by simp))) (T1.kp k2)
  ·refine ⟨_,rfl,_,_,_,_,rfl,rfl,SqT.of h,rfl,rfl,_,rfl,?_⟩;refine iteF ?_;refine ⟨_,rfl,_,_,_,_,rfl,rfl,SqT.of h,rfl,n,rfl,_,rfl,iteF ?_⟩;refine ⟨_,rfl,_,_,_,_,rfl,rfl,SqT.of h,rfl,_,_,rfl,rfl,_,rfl,?_⟩;rw [qAe (by lia)];refine iteF ?_;refine ⟨_,rfl,_,_,_,_,rfl,rfl,SqT.of h,rfl,rfl,_,rfl,?_⟩;refine iteF ?_;refine ⟨_,rfl,j,J,qs,ks,r,rfl,A0,G,ezs,two,ek,T0,fun d F f H1 k1 T1 _ hd hf=>?_⟩;refine ⟨_,rfl,_,rfl,_,_,_,_,rfl,rfl,SqT.of (k1 _ _ h (nm1 o8)),rfl,d,b,n,F,f,rfl,hd,by rw [hf.pm.length_eq];exact A0.few,b1,b2,fun H2 k2=>?_⟩;exact q F f hf H2 (k1.trans (k2.weak (by simp))) (T1.kp k2)
end
theorem pi_listK {K:PySem.W.Frag} {tg l:Expr} {tl:TE} (hl:PE X l tl) (hK:X.K=K:=by rfl):PI X tg l (iList K tl):=by subst hK;exact zAo hl
theorem zDo {K:PySem.W.Frag} {c e:Addr} {xs:List V} {Q:VK} (h1:SqL K H c xs) (h2:SqL K H e []) (h:∀bb:Bool,(bb=true↔xs=[])->Q (.bl bb) H):zF3 K 8 true (.ref c) (.ref e) H Q\/zF2 K false (.ref c) (.ref e) H Q:=by
 by_cases z:xs=[]
 ·subst z;exact .inl ⟨c,e,_,_,rfl,rfl,h1,h2,rfl,(fun i x y h=>by simp at h),h true (by simp)⟩
 ·refine .inr ⟨c,e,_,_,rfl,rfl,h1,h2,fun y=>z (qBy.mp y),h false (by simp [z])⟩
theorem zIl {c:TT} {tb:TS} {D:Ends} {σ:St} (Pv:Nat->St->Hp->Prop) (m:Nat) (h0:Pv m σ H)
  (hs:∀m σ H,Pv m σ H->c σ H fun b H1=>if b=true then tb {D with nx:=fun σ' H'=>∃m',m'<m/\Pv m' σ' H',ct:=fun σ' H'=>∃m',m'<m/\Pv m' σ' H',bk:=D.nx} σ H1 else D.nx σ H1)
  (mono:∀σ H Q Q',(∀b H1,Q b H1->Q' b H1)->c σ H Q->c σ H Q'):tWhile c tb D σ H:=by
 refine ⟨Pv,⟨m,h0⟩,fun m σ H p=>mono σ H _ _ (fun b H1 q=>?_) (hs m σ H p)⟩
 cases b with
 | true=>exact ⟨_,fun σ' H' h=>h,q⟩
 | false=>exact q
theorem midS {a b:TS} {D:Ends} {σ:St} (I:St->Hp->Prop) (h1:∀σ H,I σ H->b D σ H) (h2:(∀σ H,I σ H->b D σ H)->a {D with nx:=b D} σ H):tSeq a b D σ H:=h2 h1
theorem gN {i:Nat} {σ:St} {Q:St->Hp->Prop} (h:Q (σ.set i (some v)) H):zH2 i v σ H Q:=h
theorem purse_ne {p:Addr} (hl:Txs H l ns) (hP:zA6 H p):l≠p:=by
 obtain ⟨a,b,e,_⟩:=hP
 exact zBq hl e fun z=>by
  have h:=HO.lst.inj z
  cases ns with
  | nil=>cases h
  | cons x t=>cases h
structure Gro (J:JR) (r:Str->Nat) (bs:List (List Str)) (Lf:List Str):Prop where
 g:BlkG J bs
 sub:∀y∈Lf,y∈J.ns
 nd:Lf.Nodup
 up:∀x∈bs.flatten,∀y∈Lf,r x<r y
 nx:∀B,bs.getLast?=some B->∀x∈B,∀y∈Lf,x∈J.S y
theorem rows_le {bs:List (List Str)} (h:∀B∈bs,B≠[]):bs.length<=bs.flatten.length:=by
 induction bs with
 | nil=>exact qAG _
 | cons B bs ih =>
  rw [qAb,qBP,qAU];have h1:=qDI.mpr (h B qAa);have h2:=ih fun X hX=>h X (qAT _ hX);lia
theorem Gro.few {r:Str->Nat} {bs:List (List Str)} {Lf:List Str} (G:Gro J r bs Lf) (few:J.ns.length<=20):bs.length<=20:=by
 refine qAY (rows_le G.g.ne) (qAY (zAs G.g.nd fun x hx=>?_) few);obtain ⟨B,hB,hx⟩:=List.mem_flatten.mp hx;exact G.g.ns B hB x hx
theorem Gro.more {r:Str->Nat} {bs:List (List Str)} {Lf R Lf':List Str} (G:Gro J r bs Lf) (rk:∀n∈J.ns,∀x∈J.S n,r x<r n) (ne:R≠[]) (nd:R.Nodup) (sub:∀x∈R,x∈Lf) (h1:∀y∈Lf',y∈J.ns/\∀x∈R,x∈J.S y) (nd':Lf'.Nodup):Gro J r (bs++[R]) Lf':=by
 refine ⟨⟨fun B hB=>?_,fun B hB x hx=>?_,?_,fun i B B' e1 e2 x hx y hy=>?_⟩,fun y hy=>(h1 y hy).1,nd',fun x hx y hy=>?_,fun B hB x hx y hy=>?_⟩
 ·rcases qAK.mp hB with z| z
  ·exact G.g.ne B z
  ·rw [qAR.mp z];exact ne
 ·rcases qAK.mp hB with z| z
  ·exact G.g.ns B z x hx
  ·rw [qAR.mp z] at hx;exact G.sub x (sub x hx)
 ·rw [qB2,qBP,qDN,qAs];exact qBd.mpr ⟨G.g.nd,nd,fun a ha b hb e=>absurd (G.up a ha b (sub b hb)) (by rw [e];exact qAx _)⟩
 ·by_cases c:i+1<bs.length
  ·rw [qA6 (by lia)] at e1;rw [qA6 c] at e2;exact G.g.nx i B B' e1 e2 x hx y hy
  ·have hi:=(qAV.mp e2).1;rw [qAU,qA8] at hi;have e:i+1=bs.length:=by lia
   rw [qBT (by lia),e,qDO] at e2
   cases e2
   rw [qA6 (by lia)] at e1;refine G.nx B ?_ x hx y (sub y hy);rw [List.getLast?_eq_getElem?,<-e1];congr 1;lia
 ·obtain ⟨h2,h3⟩:=h1 y hy;rw [qB2,qBP,qDN,qAs] at hx;rcases qAK.mp hx with z| z
  ·obtain ⟨w,hw⟩:=List.exists_mem_of_ne_nil R ne;exact qCa (G.up x z w (sub w hw)) (rk y h2 w (h3 w hw))
  ·exact rk y h2 x (h3 x z)
 ·rw [List.getLast?_append,List.getLast?_singleton] at hB;have:R=B:=by simpa using hB
  subst this;exact (h1 y hy).2 x hx
section
def spLBlocks:Sp:=fun vs H Q _=>∃(p l d:Addr) (J:JR) (r:Str->Nat) (la:Str->Addr) (L:Str->List Str),vs=[.ref p,.ref l,.ref d]/\zA6 H p/\Txs H l J.ns/\DR H d J.ns la L/\J.ns.Nodup/\J.ns.length<=20/\(∀n∈J.ns,∀x∈J.S n,r x<r n)/\(∀n∈J.ns,∀x∈J.ns,x∈L n↔n∈J.S x) /\
 ∀(c:Addr) (as:List Addr) (bs:List (List Str)) (H':Hp),Fre H c->(∀a∈as,Fre H a/\a≠c)->RowsR H' c as bs->bs.length<=20->BlkG J bs->zA6 H' p->Kp [p] H H'->Q (.ref c) H'
abbrev zEc:Stmt:=top 53
theorem zCj:FnScope ["_law_purse_here", "_law_names_here", "_law_behind_here", "_law_rows", "_law_left", "_law_thin", "_law_row"] ["_law_purse_here", "_law_names_here", "_law_behind_here"] (zAd zEc):=fnS
theorem ok_lblocks {f:Addr} (F:Fun K "_law_blocks" "_law_blocks" zEc f fd) (T:Txt K mg) (C_take:Cal P w K mg base "_law_take" 1 ["_law_purse_here", "_law_many"] zGx):FnOk P w K mg base CX0 2 f fd ["_law_purse_here", "_law_names_here", "_law_behind_here"] spLBlocks:=by
 refine F.ok zCj (fun vs H Q E h=>?_) (fun cdv A outer s H vs Q E hr h=>?_)
 ·obtain ⟨p,l,d,J,r,la,L,rfl,_⟩:=h;rfl
 ·obtain ⟨p,l,d,J,r,la,L,rfl,hP,hl,D0,nd,few,rk,hLS,kk⟩:=h;have hu:=zD6 hr
  refine ⟨_,(zAc (psS (i:=3) zCj.nd (zBe zAb))
   (zAc (psS (i:=4) zCj.nd (zAv zBm (by rfl) T.z_list zCr (zAa (pv 1) zAb)))
   (zAc (zE0 qAi (PW.pt (zIa (zAj (zI2 hr) (pv 4) (zBe zAb) (zAl _)) (zFp (zAj op_gt (zAg C_take hr rfl (zAa (pv 0) (zAa zAf zAb))) zAf (zAl _)))))
    (zAc (psS (i:=5) zCj.nd (zAp zBj zAf (zAg C_take hr rfl (zAa (pv 0) (zAa zAf zAb)))))
    (zAc (psS (i:=6) zCj.nd (zA3 rfl (zA4 (sc:=zAd zEc) rfl (by decide +kernel)) (Draws.own (x:= "_law_name") (dtk (i:=0) rfl (dtk (i:=5) rfl Draws.nil))) (zAo (pv 4)) (fun _ _ _ _=>(pgB (i:=0))) (fun _ _ _ _=>(zB6 (zAj zDd (zAg C_take hr rfl (zAa (pv 1) (zAa (pv 2) zAb))) zAf (zAl _)))) (fun _ _ _ _=>(pv 0))))
    (zAc (zA9 (zAj (op_eqL hr) (pv 6) (zBe zAb) (zAl _))
     (zAe (psS (i:=6) zCj.nd (zBe (zAa (zAy zBb (pv 4) (zAg C_take hr rfl (zAa (pv 0) (zAa (zAi zAm (by rfl) T.z_len zBt (zAa (pv 4) zAb)) zAb))) (fun _ _=>rfl)) zAb))))
     zAn)
    (zAc (zA2 (zGb qBA qDc qDd zHc (pv 6) (zAa (zAg C_take hr rfl (zAa (pv 0) (zAa (zAi zAm (by rfl) T.z_len zBt (zAa (pv 6) zAb)) zAb))) (zAa (pe_bm0 qBA qDe qDf mt_pop (pv 6)) zAb))))
    (zAc (zA2 (zGb qBA qCv qCw zDe (pv 3) (zAa (pv 6) zAb)))
    (zAe (zFq (i:=4) rfl (zA4 (sc:=zAd zEc) rfl (by decide +kernel)) (Draws.own (x:= "_law_name") (dtk (i:=6) rfl (dtk (i:=2) rfl Draws.nil))) (zAo (pv 1)) (fun _ _ _ _=>(pgB (i:=0))) (fun _ _ _ _=>(zB6 (zAj (op_eqLK (K:=K) hr) (zA3 rfl (blk_in (sc:=zAd zEc) rfl rfl (by decide +kernel)) (Draws.own (x:= "_law_one") (dtk (i:=0) rfl (dtk (i:=2) rfl Draws.nil))) (pi_listK (K:=K) (pv 1)) (fun _ _ _ _=>(pgB (i:=0))) (fun _ _ _ _=>(zB6 (zD0 (zCp hu (pv 1) (zAz hu (pv 2) (pv 0) (fun _ _=>rfl)))))) (fun _ _ _ _=>(pv 0))) (zBe zAb) (zAl _)))) (fun _ _ _ _=>(pv 0)) zCj.nd rfl rfl))))))))
   (zAe (zAk (pv 3)))))),?_⟩
  refine ⟨(by walk_at "ln"),fun c0 hc0=>?_⟩;have f0:Fre H c0:=hc0;have k1:Kp [] H (upd H c0 (.lst [])):=Kp.new Kp.refl f0;have e1:upd H c0 (.lst []) c0=some (.lst (([]:List Addr).map V.ref)):=upd_same;generalize upd H c0 (.lst [])=H1 at k1 e1;have hl1:Txs H1 l J.ns:=k1 _ _ hl (by simp);refine ⟨_,rfl,_,_,rfl,.inl (SqL.of hl1),fun lf0 hlf0=>?_⟩;have k2:Kp [] H1 (upd H1 lf0 (.lst (J.ns.map V.str))):=Kp.new Kp.refl hlf0;have e2:Txs (upd H1 lf0 (.lst (J.ns.map V.str))) lf0 J.ns:=upd_same;generalize upd H1 lf0 (.lst (J.ns.map V.str))=H2 at k2 e2;have K2:=k1.trans k2;have npc:p≠c0:=by obtain ⟨a,b,e,_⟩:=hP;exact ne_fre f0 e
  have np:∀{Hx:Hp} {a:Addr} {xs:List V},zA6 Hx p->H a=none->Hx p≠none:=fun hp _=>by obtain ⟨u,v,e,_⟩:=hp;rw [e];simp
  refine zIl (fun m σ H7=>∃(lf:Addr) (o5 o6:Option V) (as:List Addr) (bs:List (List Str)) (Lf:List Str),σ=[some (.ref p),some (.ref l),some (.ref d),some (.ref c0),some (.ref lf),o5,o6]/\zA6 H7 p/\Kp [p] H H7/\RowsR H7 c0 as bs/\(∀a∈as,Fre H a/\a≠c0)/\Txs H7 lf Lf/\lf≠p/\Gro J r bs Lf/\m=20 - bs.length) 20 ⟨lf0,none,none,[],[],J.ns,rfl,hP.kp K2 (by simp),K2.weak (by simp),⟨k2 _ _ e1 (by simp),rfl,fun i a r h=>by simp at h⟩,(fun a h=>nomatch h),e2,?_,⟨⟨fun B h=>(nomatch h),fun B h=>(nomatch h),qBL,fun i B B' h _=>by simp at h⟩,fun y hy=>hy,nd,fun x h=>(nomatch h),fun B h=>by simp at h⟩,rfl⟩ ?_ (fun σ H Q Q' hq hc=>?_)
  ·obtain ⟨a,b,e,_⟩:=hP.kp k1 (by simp);exact (ne_fre (show Fre H1 lf0 from hlf0) e).symm
  ·rintro m σ H7 ⟨lf,o5,o6,as,bs,Lf,rfl,P7,k7,R7,fa,hlf,nlp,G,rfl⟩;have b20:=G.few few;have lL:Lf.length<=20:=qAY (zAs G.nd G.sub) few
   have ap:∀a∈as,a≠p:=fun a ha z=>by
    have:=(fa a ha).1;obtain ⟨u,v,e,_⟩:=hP;rw [z,show H p=none from z▸this] at *
    cases e
   refine ⟨_,rfl,(by walk_at "ln"),fun e he=>?_⟩;have k8:Kp [] H7 (upd H7 e (.lst [])):=Kp.new Kp.refl he;have e8:upd H7 e (.lst []) e=some (.lst []):=upd_same;generalize upd H7 e (.lst [])=H8 at k8 e8;refine zEq (SqL.of (k8 _ _ hlf (by simp))) (SqL.of e8) fun bb hbb=>?_;refine ⟨_,rfl,ite2 (fun c=>?_) (fun c=>?_)⟩
   ·refine ⟨_,rfl,p,12,rfl,P7.kp k8 (by simp),by decide,by decide +kernel,fun tk H9 t0 t1 P9 k9=>?_⟩;have k79:Kp [p] H7 H9:=(k8.weak (by simp)).trans k9;have R9:RowsR H9 c0 as bs:=⟨k79 _ _ R7.top (nm1 npc.symm),R7.len,fun i a r x1 x2=>k79 _ _ (R7.row i a r x1 x2) (nm1 (ap a (qAI x1)))⟩;have hlf9:Txs H9 lf Lf:=k79 _ _ hlf (nm1 nlp);have K9:=k7.trans k79;refine ⟨_,_,rfl,rfl,_,rfl,ite2 (fun c2=>?_) (fun c2=>?_)⟩
    ·have Lne:Lf≠[]:=fun z=>hbb c (by rw [z];rfl);refine ⟨_,rfl,p,5,rfl,P9,by decide,by decide +kernel,fun th H10 h0 h1 P10 k10=>?_⟩;refine ⟨_,_,rfl,rfl,?_⟩;have hlf10:Txs H10 lf Lf:=k10 _ _ hlf9 (nm1 nlp);have R10:RowsR H10 c0 as bs:=⟨k10 _ _ R9.top (nm1 npc.symm),R9.len,fun i a r x1 x2=>k10 _ _ (R9.row i a r x1 x2) (nm1 (ap a (qAI x1)))⟩;have K10:=K9.trans k10;clear R9 hlf9 K9 k9 P9 k79 R7 hlf k7 P7 k8 e8;refine ⟨_,rfl,_,rfl,⟨_,SqL.of hlf10⟩,fun B hB=>zBl (Lf.map V.str) (fun j ys τ H11=>(∃o0,τ=[o0,some (.ref p),some (.int (1+th))])/\∃Y:List Str,ys=Y.map V.str/\Y.Sublist (Lf.take j)/\zA6 H11 p/\Kp [p] H10 H11/\H11 B=some (.lst ys)) ⟨⟨_,rfl⟩,[],rfl,List.nil_sublist _,P10.kp (M:=[]) (Kp.new Kp.refl hB) (by simp),Kp.new Kp.refl hB,upd_same⟩ (fun j ys τ H11 ⟨_,_,_,_,_,k11,_⟩=>SqL.of (k11 _ _ hlf10 (nm1 nlp))) ?_ ?_⟩
     ·rintro j v ys τ H11 hv ⟨⟨o0,rfl⟩,Y,rfl,sY,P11,k11,hB11⟩;obtain ⟨n,en,rfl⟩:=zAw hv;have nBp:B≠p:=by obtain ⟨u,v,e,_⟩:=P10;exact (ne_fre (show Fre H10 B from hB) e).symm
      have lY:Y.length<=20:=qAY sY.length_le (qAY (by rw [qAW];lia) lL);refine ⟨_,rfl,_,rfl,p,1+th,rfl,P11,by lia,by lia,fun z H12 z0 z1 P12 k12=>?_⟩;have hB12:=k12 _ _ hB11 (nm1 nBp);refine ⟨rfl,_,rfl,ite2 (fun c=>?_) (fun c=>?_)⟩
      ·refine ⟨_,rfl,hB12,by rw [qAD,qAJ];lia,⟨_,rfl⟩,Y++[n],by rw [qAQ];rfl,by rw [zAh en];exact sY.append (List.Sublist.refl _),P12.kp (M:=[B]) (Kp.put Kp.refl (by simp)) (nm1 nBp.symm),Kp.new (k11.trans k12) hB,upd_same⟩
      ·exact ⟨⟨_,rfl⟩,Y,rfl,by rw [zAh en];exact sY.trans (List.sublist_append_left _ _),P12,k11.trans k12,hB12⟩
     ·rintro ys τ H11 ⟨_,Y,rfl,sY,P11,k11,hB11⟩;rw [qAD,qAd] at sY;refine gN ?_;dsimp only;have fB:Fre H10 B:=hB;have nBp:B≠p:=by obtain ⟨u,v,e,_⟩:=P10;exact (ne_fre fB e).symm
      refine midS (fun σ H12=>∃(rw:Addr) (R:List Str),σ=[some (.ref p),some (.ref l),some (.ref d),some (.ref c0),some (.ref lf),some (.int (1+th)),some (.ref rw)]/\zA6 H12 p/\Kp [p] H10 H12/\Fre H10 rw/\Txs H12 rw R/\R≠[]/\R.Nodup/\∀x∈R,x∈Lf) ?_ (fun key=>?_)
      ·clear sY hB11 k11 P11 hB fB nBp;rintro σ H12 ⟨rw,R,rfl,P12,k12,frw,hrw,Rne,Rnd,Rsub⟩;obtain ⟨R',y,rfl⟩:∃R' y,R=R'++[y]:=⟨R.dropLast,R.getLast Rne,(qDL Rne).symm⟩
       have lR:R'.length+1<=20:=by
        have:=qAY (zAs Rnd Rsub) lL;rw [qAU,qA8] at this;exact this
       have nrp:rw≠p:=by obtain ⟨a,b,e,_⟩:=P10;exact (ne_fre frw e).symm
       have nrc:rw≠c0:=(ne_fre frw R10.top).symm;have R12:RowsR H12 c0 as bs:=⟨k12 _ _ R10.top (nm1 npc.symm),R10.len,fun i a r x1 x2=>k12 _ _ (R10.row i a r x1 x2) (nm1 (ap a (qAI x1)))⟩
       have nar:∀a∈as,a≠rw:=fun a ha=>by
        obtain ⟨i,hi,e⟩:=qAt.mp ha;have:=R10.row i a _ (by rw [qAn hi,e]) (qAn (by rw [<-R10.len];exact hi));exact ne_fre frw this
       refine ⟨_,rfl,.inl ⟨rfl,_,SqL.of hrw⟩,_,rfl,_,rfl,_,_,rfl,.inl (SqL.of hrw),p,_,rfl,P12,by rw [qAD,qAU,qA8];lia,by rw [qAD,qAU,qA8];lia,fun z H13 z0 z1 P13 k13=>?_⟩;rw [qAD,qAU,qA8] at z1;have hrw13:Txs H13 rw (R'++[y]):=k13 _ _ hrw (nm1 nrp);refine ⟨_,rfl,.inl ⟨rfl,_,SqL.of hrw13⟩,rw,_,.str y,rfl,rfl,hrw13,by simp,?_⟩;refine ⟨rw,R'.map V.str,z,.str y,rfl,rfl,by rw [upd_same,qAQ];simp,by rw [qAD,qAJ];lia,z0,by rw [qAD];lia,?_⟩;rw [ins_map V.str];have pm:=ST.ins_perm R' z.toNat y;generalize R'.take z.toNat++y::R'.drop z.toNat=R2 at pm;have pm2:R2.Perm (R'++[y]):=pm.trans (qC5 (l₁:=[y]));have k14:Kp [rw] H13 (upd (upd H13 rw (.lst ((R'++[y]).map V.str).dropLast)) rw (.lst (R2.map V.str))):=Kp.put (Kp.put Kp.refl (by simp)) (by simp);have e14:Txs (upd (upd H13 rw (.lst ((R'++[y]).map V.str).dropLast)) rw (.lst (R2.map V.str))) rw R2:=upd_same;generalize upd (upd H13 rw (.lst ((R'++[y]).map V.str).dropLast)) rw (.lst (R2.map V.str))=H14 at k14 e14;have R14:RowsR H14 c0 as bs:=⟨k14 _ _ (k13 _ _ R12.top (nm1 npc.symm)) (nm1 nrc.symm),R12.len,fun i a r x1 x2=>k14 _ _ (k13 _ _ (R12.row i a r x1 x2) (nm1 (ap a (qAI x1)))) (nm1 (nar a (qAI x1)))⟩;have frH:Fre H rw:=K10.fre frw (nm1 nrp);have K14:Kp [p] H H14:=zFs ((K10.trans k12).trans k13) frH k14;have P14:zA6 H14 p:=P13.kp k14 (nm1 nrp.symm);refine ⟨_,rfl,.inl ⟨rfl,_,SqL.of R14.top⟩,_,rfl,_,_,_,rfl,rfl,R14.top,by rw [qAD,R14.len,qAJ];lia,?_⟩;have k15:Kp [c0] H14 (upd H14 c0 (.lst (as.map V.ref++[.ref rw]))):=Kp.put Kp.refl (by simp);have e15:upd H14 c0 (.lst (as.map V.ref++[.ref rw])) c0=some (.lst ((as++[rw]).map V.ref)):=by rw [upd_same,qAQ];rfl
       generalize upd H14 c0 (.lst (as.map V.ref++[.ref rw]))=H15 at k15 e15;have K15:Kp [p] H H15:=zFs K14 f0 k15
       have R15:RowsR H15 c0 (as++[rw]) (bs++[R2]):=⟨e15,by rw [qAU,qAU,R14.len];rfl,fun i a r x1 x2=>by
        by_cases hi:i<as.length
        ·rw [qA6 hi] at x1;rw [qA6 (by rw [<-R14.len];exact hi)] at x2;exact k15 _ _ (R14.row i a r x1 x2) (nm1 (fa a (qAI x1)).2)
        ·have h2:=(qAV.mp x1).1;rw [qAU,qA8] at h2;have:i=as.length:=by lia
         subst this;rw [qBT (qAG _),qDO] at x1;rw [qBT (by rw [R14.len];exact qAG _),R14.len,qDO] at x2
         cases x1
         cases x2
         exact k15 _ _ e14 (nm1 nrc)⟩
       have hR15:Txs H15 rw R2:=k15 _ _ e14 (nm1 nrc);have P15:zA6 H15 p:=P14.kp k15 (nm1 npc);have hl15:Txs H15 l J.ns:=K15 _ _ hl (nm1 (purse_ne hl hP));have D15:DR H15 d J.ns la L:=⟨K15 _ _ D0.top (nm1 (by obtain ⟨a,b,e,_⟩:=hP;exact zBq D0.top e fun z=>nomatch z)),fun n hn=>K15 _ _ (D0.row n hn) (nm1 (by obtain ⟨a,b,e,_⟩:=hP;exact zBq (D0.row n hn) e fun z=>nomatch z))⟩;have R2s:∀x∈R2,x∈J.ns:=fun x hx=>G.sub x (Rsub x (pm2.mem_iff.mp hx));have lR2:R2.length<=20:=by rw [pm2.length_eq,qAU,qA8];exact lR
       refine ⟨_,rfl,_,rfl,⟨_,SqL.of hl15⟩,fun B2 hB2=>zBl (J.ns.map V.str) (fun j ys τ H16=>(∃o0,τ=[o0,some (.ref rw),some (.ref d)])/\ys=((J.ns.take j).filter fun n=>decide (∀x∈R2,n∈L x)).map V.str/\Kp [] H15 H16/\H16 B2=some (.lst ys)) ⟨⟨_,rfl⟩,rfl,Kp.new Kp.refl hB2,upd_same⟩ (fun j ys τ H16 ⟨_,_,k16,_⟩=>SqL.of (k16 _ _ hl15 (by simp))) ?_ ?_⟩
       ·rintro j v ys τ H16 hv ⟨⟨o0,rfl⟩,rfl,k16,h16⟩;obtain ⟨n,en,rfl⟩:=zAw hv;have hR16:=k16 _ _ hR15 (by simp);have D16:=D15.kp0 k16;refine ⟨_,rfl,_,rfl,⟨_,SqL.of hR16⟩,fun B3 hB3=>zBl (R2.map V.str) (fun i zs τ H17=>(∃o0,τ=[o0,some (.str n),some (.ref d)])/\zs=((R2.take i).filter fun x=>decide (n∉L x)).map V.str/\H17=upd H16 B3 (.lst zs)) ⟨⟨_,rfl⟩,rfl,rfl⟩ (fun i zs τ H17 ⟨_,_,z⟩=>by subst z;exact SqL.of ((Kp.new (M:=[]) Kp.refl hB3) _ _ hR16 (by simp))) ?_ ?_⟩
        ·rintro i v zs τ H17 hv ⟨⟨o0,rfl⟩,rfl,rfl⟩;obtain ⟨x,ex,rfl⟩:=zAw hv;have hx:=R2s x (qAI ex);have kB:Kp [] H16 (upd H16 B3 (.lst (((R2.take i).filter fun x=>decide (n∉L x)).map V.str))):=Kp.new Kp.refl hB3;have D17:=D16.kp0 kB;obtain ⟨o,g1,g2⟩:=zG0 (D17.row x hx) n;refine ⟨_,rfl,_,rfl,_,rfl,_,_,rfl,D17.get hx,_,o,rfl,g1,_,rfl,?_⟩;rw [g2,show (!decide (n∈L x))=decide (n∉L x) by simp];refine ite2 (fun c=>?_) (fun c=>?_)
         ·refine ⟨_,rfl,upd_same,by rw [qAD];exact zCi (by lia),⟨_,rfl⟩,?_,zBh⟩;rw [zB9 (p:=fun x=>decide (n∉L x)) ex c,qAQ];rfl
         ·refine ⟨⟨_,rfl⟩,?_,rfl⟩;rw [zC4 (p:=fun x=>decide (n∉L x)) ex c]
        ·rintro zs τ H17 ⟨_,rfl,rfl⟩;rw [qAD,qAd];have k17:Kp [] H16 (upd H16 B3 (.lst ((R2.filter fun x=>decide (n∉L x)).map V.str))):=Kp.new Kp.refl hB3;have e17:upd H16 B3 (.lst ((R2.filter fun x=>decide (n∉L x)).map V.str)) B3=some (.lst ((R2.filter fun x=>decide (n∉L x)).map V.str)):=upd_same;generalize upd H16 B3 (.lst ((R2.filter fun x=>decide (n∉L x)).map V.str))=H17 at k17 e17;refine ⟨(by walk_at "ln"),fun e he=>?_⟩;have k18:Kp [] H17 (upd H17 e (.lst [])):=Kp.new Kp.refl he;have e18:upd H17 e (.lst []) e=some (.lst []):=upd_same;generalize upd H17 e (.lst [])=H18 at k18 e18;have h18:=(k17.trans k18) _ _ h16 (by simp);refine zDo (SqL.of (k18 _ _ e17 (by simp))) (SqL.of e18) fun bb hbb=>?_
         have eb:bb=decide (∀x∈R2,n∈L x):=by
          rw [qB5,hbb,qCP,qB0,qCz];exact ⟨fun h x hx=>by simpa using h x hx,fun h x hx=>by simpa using h x hx⟩
         subst eb;refine ⟨_,rfl,ite2 (fun c=>?_) (fun c=>?_)⟩
         ·refine ⟨_,rfl,h18,by rw [qAD];exact zCi (by lia),⟨_,rfl⟩,?_,Kp.new (k16.trans (k17.trans k18)) hB2,upd_same⟩;rw [zB9 (p:=fun n=>decide (∀x∈R2,n∈L x)) en c,qAQ];rfl
         ·refine ⟨⟨_,rfl⟩,?_,k16.trans (k17.trans k18),h18⟩;rw [zC4 (p:=fun n=>decide (∀x∈R2,n∈L x)) en c]
       ·rintro ys τ H16 ⟨_,rfl,k16,h16⟩;rw [qAD,qAd] at h16;have fB2:Fre H15 B2:=hB2;have R16:RowsR H16 c0 (as++[rw]) (bs++[R2]):=R15.kp k16
        have G':Gro J r (bs++[R2]) (J.ns.filter fun n=>decide (∀x∈R2,n∈L x)):=by
         refine G.more rk (fun z=>by have:=pm2.length_eq;rw [z,qAU] at this;simp at this) (pm2.nodup_iff.mpr Rnd) (fun x hx=>Rsub x (pm2.mem_iff.mp hx)) (fun y hy=>?_) (nd.filter _);obtain ⟨h1,h2⟩:=qA5.mp hy;exact ⟨h1,fun x hx=>(hLS x (R2s x hx) y h1).mp (qBY h2 x hx)⟩
        refine ⟨20 - (bs++[R2]).length,?_,B2,_,_,as++[rw],bs++[R2],_,rfl,P15.kp k16 (by simp),K15.trans (k16.weak (by simp)),R16,fun a ha=>?_,h16,?_,G',rfl⟩
        ·have:=G'.few few;rw [qAU,qA8] at this ⊢;lia
        ·rcases qAK.mp ha with z| z
         ·exact fa a z
         ·rw [qAR.mp z];exact ⟨frH,nrc⟩
        ·obtain ⟨a,b,e,_⟩:=P15;exact (ne_fre fB2 e).symm
      ·refine ⟨_,rfl,(by walk_at "ln"),fun e he=>?_⟩;have k12:Kp [] H11 (upd H11 e (.lst [])):=Kp.new Kp.refl he;have e12:upd H11 e (.lst []) e=some (.lst []):=upd_same;generalize upd H11 e (.lst [])=H12 at k12 e12;have hB12:=k12 _ _ hB11 (by simp);refine zDo (SqL.of hB12) (SqL.of e12) fun bb hbb=>?_;refine ⟨_,rfl,ite2 (fun c=>?_) (fun c=>?_)⟩
       ·have hlf12:=(k11.trans (k12.weak (by simp))) _ _ hlf10 (nm1 nlp);refine ⟨_,rfl,_,rfl,_,rfl,_,_,rfl,.inl (SqL.of hlf12),p,_,rfl,P11.kp k12 (by simp),?_,?_,fun z H13 z0 z1 P13 k13=>?_⟩
        ·rw [qAD];have:=qDI.mpr Lne;lia
        ·rw [qAD];lia
        rw [qAD] at z1;obtain ⟨x,ex⟩:∃x,Lf[z.toNat]?=some x:=⟨_,qAn (by lia)⟩;have hlf13:=k13 _ _ hlf12 (nm1 nlp);refine ⟨_,_,_,.str x,rfl,rfl,SqL.of hlf13,zFi z0 (by rw [qAX,ex];rfl),(by walk_at "ln"),fun u hu=>?_⟩;have fu:Fre H13 u:=hu;have k14:Kp [] H13 (upd H13 u (.lst [.str x])):=Kp.new Kp.refl fu;have k1013:Kp [p] H10 H13:=(k11.trans (k12.weak (by simp))).trans k13;have nup:u≠p:=by obtain ⟨a,b,e,_⟩:=P13;exact (ne_fre fu e).symm
        exact key _ _ ⟨u,[x],rfl,P13.kp k14 (by simp),k1013.trans (k14.weak (by simp)),k1013.fre fu (nm1 nup),upd_same,by simp,qA1.mpr ⟨by simp,qBL⟩,fun y hy=>by rw [qAR.mp hy];exact qAI ex⟩
       ·exact key _ _ ⟨B,Y,rfl,P11.kp k12 (by simp),k11.trans (k12.weak (by simp)),fB,hB12,fun z=>c (hbb.mpr (by rw [z];rfl)),G.nd.sublist sY,fun x hx=>sY.subset hx⟩
    ·exact ⟨_,rfl,kk c0 as bs H9 f0 fa R9 b20 G.g P9 K9⟩
   ·have k8':Kp [p] H7 H8:=k8.weak (by simp);exact ⟨_,rfl,kk c0 as bs H8 f0 fa (R7.kp k8) b20 G.g (P7.kp k8 (by simp)) (k7.trans k8')⟩
  ·obtain ⟨x,ex,h1,h2⟩:=hc;refine ⟨x,ex,h1,fun e he=>?_⟩;rcases h2 e he with ⟨a,c,xs,ys,z1,z2,z3,z4,z5,z6,bb,z7,z8⟩| ⟨a,c,xs,ys,z1,z2,z3,z4,z5,bb,z7,z8⟩
   ·refine .inl ⟨a,c,xs,ys,z1,z2,z3,z4,z5,z6,bb,z7,?_⟩
    by_cases cc:bb=true
    ·rw [qAC cc] at z8 ⊢;obtain ⟨y,ey,p1,m1,w1,w2,w3,w4,w5⟩:=z8;refine ⟨y,ey,p1,m1,w1,w2,w3,w4,fun d H' u1 u2 u3 u4=>?_⟩;obtain ⟨i,j,v1,v2,b2,v3,v4⟩:=w5 d H' u1 u2 u3 u4;exact ⟨i,j,v1,v2,b2,v3,hq _ _ v4⟩
    ·rw [qAB cc] at z8 ⊢;exact hq _ _ z8
   ·refine .inr ⟨a,c,xs,ys,z1,z2,z3,z4,z5,bb,z7,?_⟩
    by_cases cc:bb=true
    ·rw [qAC cc] at z8 ⊢;obtain ⟨y,ey,p1,m1,w1,w2,w3,w4,w5⟩:=z8;refine ⟨y,ey,p1,m1,w1,w2,w3,w4,fun d H' u1 u2 u3 u4=>?_⟩;obtain ⟨i,j,v1,v2,b2,v3,v4⟩:=w5 d H' u1 u2 u3 u4;exact ⟨i,j,v1,v2,b2,v3,hq _ _ v4⟩
    ·rw [qAB cc] at z8 ⊢;exact hq _ _ z8
end
theorem zJa (G:List Str) (g:Str->Int) (x:Str):(valV (kvI G g) (.inr x)).isSome=decide (x∈G):=zHm G _ x
theorem next_one {ns G:List Str} {L:Str->List Str} (dec:Dec ns L) (h:∃n∈ns,n∉G):∃n∈ns,n∉G/\∀y∈L n,y∈G:=by
 obtain ⟨n,hn,hg⟩:=h
 suffices key:∀(k:Nat) (n:Str),(L n).length<k->n∈ns->n∉G->∃n∈ns,n∉G/\∀y∈L n,y∈G from key _ n (qBs _) hn hg
 intro k
 induction k with
 | zero=>intro n h;lia
 | succ k ih =>
  intro n hk hn hg
  by_cases c:∀y∈L n,y∈G
  ·exact ⟨n,hn,hg,c⟩
  ·obtain ⟨y,hy⟩:=Classical.not_forall.mp c;obtain ⟨h1,h2⟩:=Classical.not_imp.mp hy;obtain ⟨h3,h4⟩:=dec n hn y h1;exact ih y (by lia) h3 h2
theorem max_is {L:List Str} {g:Str->Int} {M:Int} (pos:∀y∈L,1<=g y) (hM:M∈0::L.map g) (bM:∀a∈0::L.map g,a<=M):mx0 (L.map g)=M:=by
 have h1:=bM 0 qAa;rcases qAP.mp hM with z| z
 ·subst z;have h2:=mx0_nn (L.map g);rcases mx0_is (L.map g) with y| y
  ·exact y
  ·have:=bM _ (qAT _ y);lia
 ·exact mx0_eq (fun a ha=>by
   obtain ⟨y,hy,rfl⟩:=qAM.mp ha;have:=pos y hy;lia) z fun a ha=>bM a (qAT _ ha)
section
def spTallL:Sp:=fun vs H Q _=>∃(l d:Addr) (ns:List Str) (na:Str->Addr) (L:Str->List Str),vs=[.ref l,.ref d]/\Txs H l ns/\NR H d ns na L/\ns.Nodup/\ns.length<=20/\Dec ns L/\(∀n∈ns,(L n).Nodup) /\
 ∀(e:Addr) (G:List Str) (g:Str->Int) (H':Hp),Kp [] H H'->H' e=some (.dK (kvI G g))->HF L G g->G.Perm ns->Q (.ref e) H'
abbrev zF1:Stmt:=top 54
theorem zDx:FnScope ["_law_names_here", "_law_behind_here", "_law_found", "_law_name", "_law_waits"] ["_law_names_here", "_law_behind_here"] (zAd zF1):=fnS
theorem ok_tallL {f:Addr} (F:Fun K "_law_tall" "_law_tall" zF1 f fd) (T:Txt K mg):FnOk P w K mg base CX0 2 f fd ["_law_names_here", "_law_behind_here"] spTallL:=by
 refine F.ok zDx (fun vs H Q E h=>?_) (fun cdv A outer s H vs Q E hr h=>?_)
 ·obtain ⟨l,d,ns,na,L,rfl,_⟩:=h;rfl
 ·obtain ⟨l,d,ns,na,L,rfl,hl,D0,nd,len,dec,lnd,k⟩:=h;have hu:=zD6 hr
  refine ⟨_,(zAc (psS (i:=2) zDx.nd zBw)
   (zAc (zE0 qAi (zAj op_lt (zAi call_lenD (by rfl) T.z_len zBt (zAa (pv 2) zAb)) (zAi zAm (by rfl) T.z_len zBt (zAa (pv 0) zAb)) (zAl _))
    (zAe (zA8 qAi rfl (zAo (pv 0)) (pgN (i:=3) zDx.nd)
     (zAc (zFq (i:=4) rfl (zA4 (sc:=zAd zF1) rfl (by decide +kernel)) (Draws.own (x:= "_law_other") (dtk (i:=2) rfl Draws.nil)) (zAo (zAz hu (pv 1) (pv 3) (fun _ _=>rfl))) (fun _ _ _ _=>(pgB (i:=0))) (fun _ _ _ _=>(zB6 (zD0 (zCp hu (pv 0) (pv 1))))) (fun _ _ _ _=>(pv 0)) zDx.nd rfl rfl)
     (zAe (zA9 (PW.pt (zIa (zD0 (zCp hu (pv 3) (pv 2))) (zFp (zAj (op_eqL hr) (pv 4) (zBe zAb) (zAl _)))))
      (zAe (zCd hu (pv 2) (pv 3) (zAp zBj zAf (zAi (call_max1 rfl) (by rfl) T.z_max bo_max (zAa (zAp op_cat (zBe (zAa zAf zAb)) (zA3 rfl (zA4 (sc:=zAd zF1) rfl (by decide +kernel)) (Draws.own (x:= "_law_other") (dtk (i:=2) rfl Draws.nil)) (zAo (zAz hu (pv 1) (pv 3) (fun _ _=>rfl))) (fun _ _ _ _=>(pgB (i:=0))) (fun _ _ _ _=>zB4) (fun _ _ _ _=>(zAz hu (pv 1) (pv 0) (fun _ _=>rfl))))) zAb))) rfl))
      zAn))))))
   (zAe (zAk (pv 2))))),?_⟩
  refine fun e he=>?_;have fe:Fre H e:=he;have k1:Kp [] H (upd H e (.dK [])):=Kp.new Kp.refl fe;have e1:upd H e (.dK []) e=some (.dK (kvI [] fun _=>0)):=upd_same;generalize upd H e (.dK [])=H1 at k1 e1;have ned:d≠e:=ne_fre fe D0.top;have nea:∀n∈ns,na n≠e:=fun n hn=>ne_fre fe (D0.row n hn);have nel:l≠e:=ne_fre fe hl;refine zIl (fun m σ H2=>∃(G:List Str) (g:Str->Int) (o3 o4:Option V),σ=[some (.ref l),some (.ref d),some (.ref e),o3,o4]/\Kp [] H H2/\H2 e=some (.dK (kvI G g))/\HF L G g/\(∀x∈G,x∈ns)/\m=ns.length - G.length) ns.length ⟨[],_,none,none,rfl,k1,e1,HF.nil _ _,(fun x h=>nomatch h),rfl⟩ ?_ (fun σ H Q Q' hq hc=>?_)
  ·rintro m σ H2 ⟨G0,g0,o3,o4,rfl,k2,e2,hf0,sub0,rfl⟩;have hl2:=k2 _ _ hl (by simp);refine ⟨_,rfl,_,_,rfl,e2,_,rfl,_,_,rfl,.inl (SqL.of hl2),_,_,rfl,rfl,_,rfl,ite2 (fun c=>?_) (fun c=>?_)⟩
   ·have c:=qBY c;rw [zD5,qAD] at c
    obtain ⟨n0,m0,g00,b0⟩:=next_one (G:=G0) dec (by
     apply qA3;intro z;have:ns.length<=G0.length:=zAs nd fun x hx=>qA3 fun y=>z ⟨x,hx,y⟩;lia)
    refine ⟨_,rfl,_,rfl,⟨_,SqL.of hl2⟩,zA5 (xs:=ns.map V.str) (fun i σ H3=>∃(G:List Str) (g:Str->Int) (o3 o4:Option V),σ=[some (.ref l),some (.ref d),some (.ref e),o3,o4]/\Kp [] H H3/\H3 e=some (.dK (kvI G g))/\HF L G g/\(∀x∈G,x∈ns)/\(∀x∈G0,x∈G)/\(n0∈ns.take i->n0∈G)) ⟨G0,g0,o3,o4,rfl,k2,e2,hf0,sub0,fun x h=>h,fun h=>by rw [qBV] at h;cases h⟩ (fun i σ H3 _ ⟨_,_,_,_,_,k3,_⟩=>SqL.of (k3 _ _ hl (by simp))) ?_ ?_⟩
    ·rintro i v σ H3 hv ⟨G,g,o3,o4,rfl,k3,e3,hf,sub,old,new⟩;obtain ⟨n,en,rfl⟩:=zAw hv;have mn:=qAI en;have D3:NR H3 d ns na L:=D0.kp k3 (by simp) (by simp);have ll:(L n).length<=20:=qAY (zAs (lnd n mn) fun y hy=>(dec n mn y hy).1) len;have lG:G.length<=20:=qAY (zAs hf.nd sub) len;refine ⟨_,rfl,_,rfl,d,_,rfl,D3.get mn,_,rfl,⟨_,SqL.of (D3.row n mn)⟩,fun Y hY=>zBl ((L n).map V.str) (fun j ys τ H4=>(∃o0,τ=[o0,some (.ref e)])/\ys=(((L n).take j).filter fun y=>decide (y∉G)).map V.str/\H4=upd H3 Y (.lst ys)) ⟨⟨_,rfl⟩,rfl,rfl⟩ (fun j ys τ H4 ⟨_,_,z⟩=>by subst z;exact SqL.of ((Kp.new (M:=[]) Kp.refl hY) _ _ (D3.row n mn) (by simp))) ?_ ?_⟩
     ·rintro j v ys τ H4 hv ⟨⟨o0,rfl⟩,rfl,rfl⟩;obtain ⟨y,ey,rfl⟩:=zAw hv;have e4:=(Kp.new (M:=[]) (l:=Y) (o:=.lst ((((L n).take j).filter fun y=>decide (y∉G)).map V.str)) Kp.refl hY) _ _ e3 (by simp);refine ⟨_,rfl,_,rfl,_,_,rfl,DGet.k (k:=Sum.inr y) e4,_,rfl,?_⟩;rw [zJa,show (!decide (y∈G))=decide (y∉G) by simp];refine ite2 (fun c=>?_) (fun c=>?_)
      ·refine ⟨_,rfl,upd_same,by rw [qAD];exact zCi (by lia),⟨_,rfl⟩,?_,zBh⟩;rw [zB9 (p:=fun y=>decide (y∉G)) ey c,qAQ];rfl
      ·refine ⟨⟨_,rfl⟩,?_,rfl⟩;rw [zC4 (p:=fun y=>decide (y∉G)) ey c]
     ·rintro ys τ H4 ⟨_,rfl,rfl⟩;rw [qAD,qAd];have fY:Fre H3 Y:=hY;have k4:Kp [] H3 (upd H3 Y (.lst (((L n).filter fun y=>decide (y∉G)).map V.str))):=Kp.new Kp.refl fY;have y4:upd H3 Y (.lst (((L n).filter fun y=>decide (y∉G)).map V.str)) Y=some (.lst (((L n).filter fun y=>decide (y∉G)).map V.str)):=upd_same;generalize upd H3 Y (.lst (((L n).filter fun y=>decide (y∉G)).map V.str))=H4 at k4 y4;have e4:=k4 _ _ e3 (by simp);refine gN ?_
      have skip:∀{H5:Hp},Kp [] H4 H5->(n=n0->n0∈G)->∃(G:List Str) (g:Str->Int) (o3 o4:Option V),[some (V.ref l),some (.ref d),some (.ref e),some (.str n),some (.ref Y)]=[some (.ref l),some (.ref d),some (.ref e),o3,o4]/\Kp [] H H5/\H5 e=some (.dK (kvI G g))/\HF L G g/\(∀x∈G,x∈ns)/\(∀x∈G0,x∈G)/\(n0∈ns.take (i+1)->n0∈G):=fun {H5} k5 h0=>⟨G,g,_,_,rfl,(k3.trans k4).trans k5,k5 _ _ e4 (by simp),hf,sub,old,fun h=>by
       rw [zAh en] at h;rcases qAK.mp h with z| z
       ·exact new z
       ·exact h0 (qAR.mp z).symm⟩
      refine ⟨_,rfl,_,rfl,_,_,rfl,DGet.k (k:=Sum.inr n) e4,_,rfl,?_⟩;rw [zJa];refine ite2 (fun c=>?_) (fun c=>?_)
      ·have nG:n∉G:=by simpa using c
       refine ⟨_,rfl,(by walk_at "ln"),fun z hz=>?_⟩;have k5:Kp [] H4 (upd H4 z (.lst [])):=Kp.new Kp.refl hz;have z5:upd H4 z (.lst []) z=some (.lst []):=upd_same;generalize upd H4 z (.lst [])=H5 at k5 z5;refine zDo (SqL.of (k5 _ _ y4 (by simp))) (SqL.of z5) fun bb hbb=>?_;refine ⟨_,rfl,ite2 (fun c2=>?_) (fun c2=>?_)⟩
       ·have bs:∀y∈L n,y∈G:=fun y hy=>qA3 fun hy'=>by
         have h1:=qB0.mp (hbb.mp c2);exact absurd (qAf hy') (qCz.mp h1 y hy)
        have e5:=k5 _ _ e4 (by simp);have K5:=(k3.trans k4).trans k5;have D5:NR H5 d ns na L:=D0.kp K5 (by simp) (by simp);refine ⟨(by walk_at "ln"),fun Z hZ=>?_⟩;have k7:Kp [] H5 (upd H5 Z (.lst [.int 0])):=Kp.new Kp.refl hZ;have e7:upd H5 Z (.lst [.int 0]) Z=some (.lst [.int 0]):=upd_same;generalize upd H5 Z (.lst [.int 0])=H7 at k7 e7;have D7:NR H7 d ns na L:=D5.kp k7 (by simp) (by simp);have h7:=k7 _ _ e5 (by simp);refine ⟨_,rfl,_,rfl,d,_,rfl,D7.get mn,_,rfl,⟨_,SqL.of (D7.row n mn)⟩,fun Y2 hY2=>zA1 ((L n).map V.str) (fun m ys τ H8=>(∃o0,τ=[o0,some (.ref e)])/\ys=(((L n).take m).map fun y=>V.int (g y))/\H8=upd H7 Y2 (.lst ys)) ⟨⟨_,rfl⟩,rfl,rfl⟩ (fun m ys τ H8 ⟨_,_,z⟩=>by subst z;exact SqL.of ((Kp.new (M:=[]) Kp.refl hY2) _ _ (D7.row n mn) (by simp))) ?_ ?_⟩
        ·rintro m v ys τ H8 hv ⟨⟨o0,rfl⟩,rfl,rfl⟩;obtain ⟨y,ey,rfl⟩:=zAw hv;have yb:=qAI ey;have e8:=(Kp.new (M:=[]) (l:=Y2) (o:=.lst (((L n).take m).map fun y=>V.int (g y))) Kp.refl hY2) _ _ h7 (by simp);refine ⟨_,rfl,_,rfl,e,_,rfl,by have:=DGet.k (k:=Sum.inr y) e8;rw [zHh (bs y yb)] at this;exact this,upd_same,by rw [qAD,qAW,qAJ];lia,⟨_,rfl⟩,?_,zBh⟩;rw [zAh ey,qAQ];rfl
        ·rintro ys τ H8 ⟨_,rfl,rfl⟩;rw [qAD,qAd];have k8:Kp [] H7 (upd H7 Y2 (.lst ((L n).map fun y=>V.int (g y)))):=Kp.new Kp.refl hY2;have e8:upd H7 Y2 (.lst ((L n).map fun y=>V.int (g y))) Y2=some (.lst (((L n).map g).map V.int)):=by rw [upd_same,qA4];rfl
         generalize upd H7 Y2 (.lst ((L n).map fun y=>V.int (g y)))=H8 at k8 e8;refine ⟨Z,Y2,_,_,rfl,rfl,k8 _ _ e7 (by simp),e8,by simp only [qAD,qAb,qBH,qAJ];lia,fun R hR=>?_⟩;have k9:Kp [] H8 (upd H8 R (.lst ([.int 0]++((L n).map g).map V.int))):=Kp.new Kp.refl hR;have e9:upd H8 R (.lst ([.int 0]++((L n).map g).map V.int)) R=some (.lst ((0::(L n).map g).map V.int)):=upd_same;generalize upd H8 R (.lst ([.int 0]++((L n).map g).map V.int))=H9 at k9 e9;have k59:Kp [] H5 H9:=(k7.trans k8).trans k9;have h9:=k59 _ _ e5 (by simp);refine ⟨R,0::(L n).map g,rfl,SqL.of e9,by simp,fun M hM bM=>?_⟩;have eM:=max_is (fun y hy=>hf.pos (bs y hy)) hM bM
         have put:DPut H9 e (.str n) (.int (1+M)) (upd H9 e (.dK (kvI (G++[n]) (addF g n (1+mx0 ((L n).map g)))))):=by
          have:=DPut.k (k:=Sum.inr n) (v:=.int (1+M)) h9 (by rw [zD5,qAJ];lia);rw [<-eM,kvI_put nG] at this;rw [<-eM];exact this
         refine ⟨_,_,rfl,rfl,_,rfl,_,rfl,_,_,rfl,put,?_⟩;refine ⟨G++[n],_,_,_,rfl,zFs (K5.trans k59) fe (Kp.put Kp.refl (by simp)),upd_same,hf.more nG bs,fun x hx=>?_,fun x hx=>qAc _ (old x hx),fun h=>?_⟩
         ·rcases qAK.mp hx with z| z
          ·exact sub x z
          ·rw [qAR.mp z];exact mn
         ·rw [zAh en] at h;rcases qAK.mp h with z| z
          ·exact qAc _ (new z)
          ·exact qAq _ z
       ·refine skip k5 fun z=>absurd (hbb.mpr ?_) c2;rw [qB0,qCz];intro y hy;rw [z] at hy;simpa using old y (b0 y hy)
      ·have nG:n∈G:=by simpa using c
       exact skip Kp.refl fun z=>z▸nG
    ·rintro σ H3 ⟨G,g,o3,o4,rfl,k3,e3,hf,sub,old,new⟩;rw [qAD,qAd] at new
     have:G0.length<G.length:=by
      have:=zAs (A:=n0::G0) (B:=G) (qA1.mpr ⟨g00,hf0.nd⟩) fun x hx=>(qAP.mp hx).elim (fun z=>z▸new m0) (old x);exact this
     have:=zAs hf.nd sub;exact ⟨ns.length - G.length,by lia,G,g,o3,o4,rfl,k3,e3,hf,sub,rfl⟩
   ·have c:¬((kvI G0 g0).length:Int)<((ns.map V.str).length:Int):=fun z=>c (qAf z);rw [zD5,qAD] at c;refine ⟨_,rfl,k e G0 g0 H2 k2 e2 hf0 ?_⟩
    exact (qC9 hf0.nd nd).mpr fun x=>⟨sub0 x,fun hx=>qA3 fun y=>by
     have:=zAs (A:=x::G0) (B:=ns) (qA1.mpr ⟨y,hf0.nd⟩) fun z hz=>(qAP.mp hz).elim (fun w=>w▸hx) (sub0 z);rw [qAb] at this;lia⟩
  ·obtain ⟨x,ex,a,kvs,z1,z2,y,ey,p,ys,z3,z4,i,j,z5,z6,b,z7,z8⟩:=hc;exact ⟨x,ex,a,kvs,z1,z2,y,ey,p,ys,z3,z4,i,j,z5,z6,b,z7,hq _ _ z8⟩
end
theorem key_at {B:List Str} {kk:Key} (h:(dT1 B fun _=>V.bl true)[m]?=some (kk,v)):∃y,B[m]?=some y/\kk=Sum.inr y:=by
 unfold dT1 at h;rw [qAX] at h;obtain ⟨y,e,r⟩:=qBC.mp h
 cases r
 exact ⟨y,e,rfl⟩
section
def spTallD:Sp:=fun vs H Q _=>∃(l d:Addr) (ns:List Str) (la:Str->Addr) (L:Str->List Str),vs=[.ref l,.ref d]/\Txs H l ns/\DR H d ns la L/\(∀n∈ns,la n≠d)/\ns.Nodup/\ns.length<=20/\Dec ns L/\(∀n∈ns,(L n).Nodup) /\
 ∀(e:Addr) (G:List Str) (g:Str->Int) (H':Hp),Kp [] H H'->H' e=some (.dK (kvI G g))->HF L G g->G.Perm ns->Q (.ref e) H'
theorem ok_tallD {f:Addr} (F:Fun K "_law_tall" "_law_tall" zF1 f fd) (T:Txt K mg):FnOk P w K mg base CX0 2 f fd ["_law_names_here", "_law_behind_here"] spTallD:=by
 refine F.ok zDx (fun vs H Q E h=>?_) (fun cdv A outer s H vs Q E hr h=>?_)
 ·obtain ⟨l,d,ns,la,L,rfl,_⟩:=h;rfl
 ·obtain ⟨l,d,ns,la,L,rfl,hl,D0,ne0,nd,len,dec,lnd,k⟩:=h;have hu:=zD6 hr
  refine ⟨_,(zAc (psS (i:=2) zDx.nd zBw)
   (zAc (zE0 qAi (zAj op_lt (zAi call_lenD (by rfl) T.z_len zBt (zAa (pv 2) zAb)) (zAi zAm (by rfl) T.z_len zBt (zAa (pv 0) zAb)) (zAl _))
    (zAe (zA8 qAi rfl (zAo (pv 0)) (pgN (i:=3) zDx.nd)
     (zAc (ps_frzN (zFq (i:=4) rfl (zA4 (sc:=zAd zF1) rfl (by decide +kernel)) (Draws.own (x:= "_law_other") (dtk (i:=2) rfl Draws.nil)) (pi_keys (zAz hu (pv 1) (pv 3) (fun _ _=>rfl))) (fun _ _ _ _=>(pgB (i:=0))) (fun _ _ _ _=>(zB6 (zD0 (zCp hu (pv 0) (pv 1))))) (fun _ _ _ _=>(pv 0)) zDx.nd rfl rfl))
     (zAe (zA9 (PW.pt (zIa (zD0 (zCp hu (pv 3) (pv 2))) (zFp (zAj (op_eqL hr) (pv 4) (zBe zAb) (zAl _)))))
      (zAe (ps_frzN (zCd hu (pv 2) (pv 3) (zAp zBj zAf (zAi (call_max1 rfl) (by rfl) T.z_max bo_max (zAa (zAp op_cat (zBe (zAa zAf zAb)) (zA3 rfl (zA4 (sc:=zAd zF1) rfl (by decide +kernel)) (Draws.own (x:= "_law_other") (dtk (i:=2) rfl Draws.nil)) (pi_keys (zAz hu (pv 1) (pv 3) (fun _ _=>rfl))) (fun _ _ _ _=>(pgB (i:=0))) (fun _ _ _ _=>zB4) (fun _ _ _ _=>(zAz hu (pv 1) (pv 0) (fun _ _=>rfl))))) zAb))) rfl)))
      zAn))))))
   (zAe (zAk (pv 2))))),?_⟩
  refine fun e he=>?_;have fe:Fre H e:=he;have k1:Kp [] H (upd H e (.dK [])):=Kp.new Kp.refl fe;have e1:upd H e (.dK []) e=some (.dK (kvI [] fun _=>0)):=upd_same;generalize upd H e (.dK [])=H1 at k1 e1;have ned:d≠e:=ne_fre fe D0.top;have nea:∀n∈ns,la n≠e:=fun n hn=>ne_fre fe (D0.row n hn);have nel:l≠e:=ne_fre fe hl;refine zIl (fun m σ H2=>∃(G:List Str) (g:Str->Int) (o3 o4:Option V),σ=[some (.ref l),some (.ref d),some (.ref e),o3,o4]/\Kp [] H H2/\H2 e=some (.dK (kvI G g))/\HF L G g/\(∀x∈G,x∈ns)/\m=ns.length - G.length) ns.length ⟨[],_,none,none,rfl,k1,e1,HF.nil _ _,(fun x h=>nomatch h),rfl⟩ ?_ (fun σ H Q Q' hq hc=>?_)
  ·rintro m σ H2 ⟨G0,g0,o3,o4,rfl,k2,e2,hf0,sub0,rfl⟩;have hl2:=k2 _ _ hl (by simp);refine ⟨_,rfl,_,_,rfl,e2,_,rfl,_,_,rfl,.inl (SqL.of hl2),_,_,rfl,rfl,_,rfl,ite2 (fun c=>?_) (fun c=>?_)⟩
   ·have c:=qBY c;rw [zD5,qAD] at c
    obtain ⟨n0,m0,g00,b0⟩:=next_one (G:=G0) dec (by
     apply qA3;intro z;have:ns.length<=G0.length:=zAs nd fun x hx=>qA3 fun y=>z ⟨x,hx,y⟩;lia)
    refine ⟨_,rfl,_,rfl,⟨_,SqL.of hl2⟩,zA5 (xs:=ns.map V.str) (fun i σ H3=>∃(G:List Str) (g:Str->Int) (o3 o4:Option V),σ=[some (.ref l),some (.ref d),some (.ref e),o3,o4]/\Kp [] H H3/\H3 e=some (.dK (kvI G g))/\HF L G g/\(∀x∈G,x∈ns)/\(∀x∈G0,x∈G)/\(n0∈ns.take i->n0∈G)) ⟨G0,g0,o3,o4,rfl,k2,e2,hf0,sub0,fun x h=>h,fun h=>by rw [qBV] at h;cases h⟩ (fun i σ H3 _ ⟨_,_,_,_,_,k3,_⟩=>SqL.of (k3 _ _ hl (by simp))) ?_ ?_⟩
    ·rintro i v σ H3 hv ⟨G,g,o3,o4,rfl,k3,e3,hf,sub,old,new⟩;obtain ⟨n,en,rfl⟩:=zAw hv;have mn:=qAI en;have D3:DR H3 d ns la L:=D0.kp0 k3;have hrow:H3 (la n)=some (.dK (dT1 (L n) fun _=>.bl true)):=D3.row n mn;have ll:(L n).length<=20:=qAY (zAs (lnd n mn) fun y hy=>(dec n mn y hy).1) len;have lG:G.length<=20:=qAY (zAs hf.nd sub) len;refine ⟨la n,dT1 (L n) fun _=>.bl true,hrow,fun o=>?_⟩;have kf:Kp [la n] H3 (upd H3 (la n) (.frz o (.dK (dT1 (L n) fun _=>.bl true)))):=Kp.put Kp.refl (by simp);have ff:upd H3 (la n) (.frz o (.dK (dT1 (L n) fun _=>.bl true))) (la n)=some (.frz o (.dK (dT1 (L n) fun _=>.bl true))):=upd_same;generalize upd H3 (la n) (.frz o (.dK (dT1 (L n) fun _=>.bl true)))=H3f at kf ff;have ef:=kf _ _ e3 (nm1 (nea n mn).symm)
     have df:DGet H3f d (.str n) (some (.ref (la n))):=by
      have:=DGet.k (k:=Sum.inr n) (kf _ _ D3.top (nm1 (ne0 n mn).symm));rw [zBr,qAC mn] at this;exact this
     refine ⟨_,rfl,_,rfl,d,_,rfl,df,la n,o,_,rfl,ff,fun Y hY=>zHn (fun j ys τ H4=>(∃o0,τ=[o0,some (.ref e)])/\ys=(((L n).take j).filter fun y=>decide (y∉G)).map V.str/\H4=upd H3f Y (.lst ys)) ⟨⟨_,rfl⟩,rfl,rfl⟩ (fun j ys τ H4 ⟨_,_,z⟩=>by subst z;exact (Kp.new (M:=[]) Kp.refl hY) _ _ ff (by simp)) ?_ ?_⟩
     ·rintro j kk v ys τ H4 hv ⟨⟨o0,rfl⟩,rfl,rfl⟩;obtain ⟨y,ey,rfl⟩:=key_at hv;have e4:=(Kp.new (M:=[]) (l:=Y) (o:=.lst ((((L n).take j).filter fun y=>decide (y∉G)).map V.str)) Kp.refl hY) _ _ ef (by simp);unfold zH2;refine ⟨_,rfl,_,rfl,_,_,rfl,DGet.k (k:=Sum.inr y) e4,_,rfl,?_⟩;rw [zJa,show (!decide (y∈G))=decide (y∉G) by simp];refine ite2 (fun c=>?_) (fun c=>?_)
      ·refine ⟨_,rfl,upd_same,by rw [qAD];exact zCi (by lia),⟨_,rfl⟩,?_,zBh⟩;rw [zB9 (p:=fun y=>decide (y∉G)) ey c,qAQ];rfl
      ·refine ⟨⟨_,rfl⟩,?_,rfl⟩;rw [zC4 (p:=fun y=>decide (y∉G)) ey c]
     ·rintro ys τ H4 ⟨_,rfl,rfl⟩;have eT:(L n).take (dT1 (L n) fun _=>V.bl true).length=L n:=by rw [zC5,qAd]
      rw [eT];have fYf:Fre H3f Y:=hY;have ny:Y≠la n:=(ne_fre fYf ff).symm;have k4f:Kp [] H3f (upd H3f Y (.lst (((L n).filter fun y=>decide (y∉G)).map V.str))):=Kp.new Kp.refl fYf;have y4f:upd H3f Y (.lst (((L n).filter fun y=>decide (y∉G)).map V.str)) Y=some (.lst (((L n).filter fun y=>decide (y∉G)).map V.str)):=upd_same;generalize upd H3f Y (.lst (((L n).filter fun y=>decide (y∉G)).map V.str))=H4f at k4f y4f;refine gN ?_;refine ⟨k4f _ _ ff (by simp),?_⟩;have k4:Kp [] H3 (upd H4f (la n) (.dK (dT1 (L n) fun _=>.bl true))):=thaw_kp hrow (kf.trans (k4f.weak (by simp)));have y4:upd H4f (la n) (.dK (dT1 (L n) fun _=>.bl true)) Y=some (.lst (((L n).filter fun y=>decide (y∉G)).map V.str)):=(upd_ne ny).trans y4f;generalize upd H4f (la n) (.dK (dT1 (L n) fun _=>.bl true))=H4 at k4 y4;have e4:=k4 _ _ e3 (by simp)
      have skip:∀{H5:Hp},Kp [] H4 H5->(n=n0->n0∈G)->∃(G:List Str) (g:Str->Int) (o3 o4:Option V),[some (V.ref l),some (.ref d),some (.ref e),some (.str n),some (.ref Y)]=[some (.ref l),some (.ref d),some (.ref e),o3,o4]/\Kp [] H H5/\H5 e=some (.dK (kvI G g))/\HF L G g/\(∀x∈G,x∈ns)/\(∀x∈G0,x∈G)/\(n0∈ns.take (i+1)->n0∈G):=fun {H5} k5 h0=>⟨G,g,_,_,rfl,(k3.trans k4).trans k5,k5 _ _ e4 (by simp),hf,sub,old,fun h=>by
       rw [zAh en] at h;rcases qAK.mp h with z| z
       ·exact new z
       ·exact h0 (qAR.mp z).symm⟩
      refine ⟨_,rfl,_,rfl,_,_,rfl,DGet.k (k:=Sum.inr n) e4,_,rfl,?_⟩;rw [zJa];refine ite2 (fun c=>?_) (fun c=>?_)
      ·have nG:n∉G:=by simpa using c
       refine ⟨_,rfl,(by walk_at "ln"),fun z hz=>?_⟩;have k5:Kp [] H4 (upd H4 z (.lst [])):=Kp.new Kp.refl hz;have z5:upd H4 z (.lst []) z=some (.lst []):=upd_same;generalize upd H4 z (.lst [])=H5 at k5 z5;refine zDo (SqL.of (k5 _ _ y4 (by simp))) (SqL.of z5) fun bb hbb=>?_;refine ⟨_,rfl,ite2 (fun c2=>?_) (fun c2=>?_)⟩
       ·have bs:∀y∈L n,y∈G:=fun y hy=>qA3 fun hy'=>by
         have h1:=qB0.mp (hbb.mp c2);exact absurd (qAf hy') (qCz.mp h1 y hy)
        have e5:=k5 _ _ e4 (by simp);have K5:=(k3.trans k4).trans k5;have D5:DR H5 d ns la L:=D0.kp0 K5;have hrow5:H5 (la n)=some (.dK (dT1 (L n) fun _=>.bl true)):=D5.row n mn;refine ⟨la n,dT1 (L n) fun _=>.bl true,hrow5,fun o2=>?_⟩;have kf5:Kp [la n] H5 (upd H5 (la n) (.frz o2 (.dK (dT1 (L n) fun _=>.bl true)))):=Kp.put Kp.refl (by simp);have ff5:upd H5 (la n) (.frz o2 (.dK (dT1 (L n) fun _=>.bl true))) (la n)=some (.frz o2 (.dK (dT1 (L n) fun _=>.bl true))):=upd_same;generalize upd H5 (la n) (.frz o2 (.dK (dT1 (L n) fun _=>.bl true)))=H5f at kf5 ff5;have e5f:=kf5 _ _ e5 (nm1 (nea n mn).symm);refine ⟨(by walk_at "ln"),fun Z hZ=>?_⟩;have k7:Kp [] H5f (upd H5f Z (.lst [.int 0])):=Kp.new Kp.refl hZ;have e7:upd H5f Z (.lst [.int 0]) Z=some (.lst [.int 0]):=upd_same;generalize upd H5f Z (.lst [.int 0])=H7 at k7 e7;have h7:=k7 _ _ e5f (by simp);have ff7:=k7 _ _ ff5 (by simp)
        have d7:DGet H7 d (.str n) (some (.ref (la n))):=by
         have:=DGet.k (k:=Sum.inr n) (k7 _ _ (kf5 _ _ D5.top (nm1 (ne0 n mn).symm)) (by simp));rw [zBr,qAC mn] at this;exact this
        refine ⟨_,rfl,_,rfl,d,_,rfl,d7,la n,o2,_,rfl,ff7,fun Y2 hY2=>zHn (fun m ys τ H8=>(∃o0,τ=[o0,some (.ref e)])/\ys=(((L n).take m).map fun y=>V.int (g y))/\H8=upd H7 Y2 (.lst ys)) ⟨⟨_,rfl⟩,rfl,rfl⟩ (fun m ys τ H8 ⟨_,_,z⟩=>by subst z;exact (Kp.new (M:=[]) Kp.refl hY2) _ _ ff7 (by simp)) ?_ ?_⟩
        ·rintro m kk v ys τ H8 hv ⟨⟨o0,rfl⟩,rfl,rfl⟩;obtain ⟨y,ey,rfl⟩:=key_at hv;have yb:=qAI ey;have e8:=(Kp.new (M:=[]) (l:=Y2) (o:=.lst (((L n).take m).map fun y=>V.int (g y))) Kp.refl hY2) _ _ h7 (by simp);unfold zH2 tTrue;refine iteT ⟨_,rfl,_,rfl,e,_,rfl,by have:=DGet.k (k:=Sum.inr y) e8;rw [zHh (bs y yb)] at this;exact this,upd_same,by rw [qAD,qAW,qAJ];lia,⟨_,rfl⟩,?_,zBh⟩;rw [zAh ey,qAQ];rfl
        ·rintro ys τ H8 ⟨_,rfl,rfl⟩;have eT2:(L n).take (dT1 (L n) fun _=>V.bl true).length=L n:=by rw [zC5,qAd]
         rw [eT2];have k8:Kp [] H7 (upd H7 Y2 (.lst ((L n).map fun y=>V.int (g y)))):=Kp.new Kp.refl hY2;have e8:upd H7 Y2 (.lst ((L n).map fun y=>V.int (g y))) Y2=some (.lst (((L n).map g).map V.int)):=by rw [upd_same,qA4];rfl
         generalize upd H7 Y2 (.lst ((L n).map fun y=>V.int (g y)))=H8 at k8 e8;refine ⟨Z,Y2,_,_,rfl,rfl,k8 _ _ e7 (by simp),e8,by simp only [qAD,qAb,qBH,qAJ];lia,fun R hR=>?_⟩;have k9:Kp [] H8 (upd H8 R (.lst ([.int 0]++((L n).map g).map V.int))):=Kp.new Kp.refl hR;have e9:upd H8 R (.lst ([.int 0]++((L n).map g).map V.int)) R=some (.lst ((0::(L n).map g).map V.int)):=upd_same;generalize upd H8 R (.lst ([.int 0]++((L n).map g).map V.int))=H9 at k9 e9;have k59:Kp [] H5f H9:=(k7.trans k8).trans k9;have h9:=k59 _ _ e5f (by simp);have ff9:=k59 _ _ ff5 (by simp);refine ⟨R,0::(L n).map g,rfl,SqL.of e9,by simp,fun M hM bM=>?_⟩;have eM:=max_is (fun y hy=>hf.pos (bs y hy)) hM bM
         have put:DPut H9 e (.str n) (.int (1+M)) (upd H9 e (.dK (kvI (G++[n]) (addF g n (1+mx0 ((L n).map g)))))):=by
          have:=DPut.k (k:=Sum.inr n) (v:=.int (1+M)) h9 (by rw [zD5,qAJ];lia);rw [<-eM,kvI_put nG] at this;rw [<-eM];exact this
         refine ⟨_,_,rfl,rfl,_,rfl,_,rfl,_,_,rfl,put,?_⟩;refine ⟨by rw [upd_ne (nea n mn)];exact ff9,?_⟩;refine ⟨G++[n],_,_,_,rfl,?_,by rw [upd_ne (nea n mn).symm];exact upd_same,hf.more nG bs,fun x hx=>?_,fun x hx=>qAc _ (old x hx),fun h=>?_⟩
         ·intro c o' h _
          by_cases z:c=la n
          ·subst z;rw [upd_same,<-h];exact (D0.row n mn).symm
          ·rw [upd_ne z,upd_ne (ne_fre fe h)];exact k59 _ _ (kf5 _ _ (K5 _ _ h (by simp)) (nm1 z)) (by simp)
         ·rcases qAK.mp hx with z| z
          ·exact sub x z
          ·rw [qAR.mp z];exact mn
         ·rw [zAh en] at h;rcases qAK.mp h with z| z
          ·exact qAc _ (new z)
          ·exact qAq _ z
       ·refine skip k5 fun z=>absurd (hbb.mpr ?_) c2;rw [qB0,qCz];intro y hy;rw [z] at hy;simpa using old y (b0 y hy)
      ·have nG:n∈G:=by simpa using c
       exact skip Kp.refl fun z=>z▸nG
    ·rintro σ H3 ⟨G,g,o3,o4,rfl,k3,e3,hf,sub,old,new⟩;rw [qAD,qAd] at new
     have:G0.length<G.length:=by
      have:=zAs (A:=n0::G0) (B:=G) (qA1.mpr ⟨g00,hf0.nd⟩) fun x hx=>(qAP.mp hx).elim (fun z=>z▸new m0) (old x);exact this
     have:=zAs hf.nd sub;exact ⟨ns.length - G.length,by lia,G,g,o3,o4,rfl,k3,e3,hf,sub,rfl⟩
   ·have c:¬((kvI G0 g0).length:Int)<((ns.map V.str).length:Int):=fun z=>c (qAf z);rw [zD5,qAD] at c;refine ⟨_,rfl,k e G0 g0 H2 k2 e2 hf0 ?_⟩
    exact (qC9 hf0.nd nd).mpr fun x=>⟨sub0 x,fun hx=>qA3 fun y=>by
     have:=zAs (A:=x::G0) (B:=ns) (qA1.mpr ⟨y,hf0.nd⟩) fun z hz=>(qAP.mp hz).elim (fun w=>w▸hx) (sub0 z);rw [qAb] at this;lia⟩
  ·obtain ⟨x,ex,a,kvs,z1,z2,y,ey,p,ys,z3,z4,i,j,z5,z6,b,z7,z8⟩:=hc;exact ⟨x,ex,a,kvs,z1,z2,y,ey,p,ys,z3,z4,i,j,z5,z6,b,z7,hq _ _ z8⟩
end
structure PAI (X:Cx) (es:List Expr) (t:L2.TA):Prop where
 to:PA X es t
theorem pai_nil :PAI X [] tNil:=⟨zAb⟩
theorem pai_c {e:Expr} {es:List Expr} {te:TE} {t:L2.TA} (ha:PE X e te) (hr:PAI X es t) (hs:zI6 e=true:=by rfl):PAI X (e::es) (tCons te t):=⟨zAa ha hr.to (zGu hs)⟩
theorem pe_lstI {X:Cx} {es:List Expr} {t:L2.TA} {pos:Pos} (h:PAI X es t):PE X (.List es pos) (tLst t):=zBe h.to
section
def spBefore:Sp:=fun vs H Q _=>∃(l d:Addr) (ns:List Str) (la:Str->Addr) (L:Str->List Str),vs=[.ref l,.ref d]/\Txs H l ns/\DR H d ns la L/\ns.Nodup/\ns.length<=20 /\
 ∀d' na H',NR H' d' ns na (ahL ns L)->Kp [] H H'->Q (.ref d') H'
abbrev zGn:Stmt:=top 51
theorem zG3:FnScope ["_law_names_here", "_law_behind_here", "_law_found", "_law_name"] ["_law_names_here", "_law_behind_here"] (zAd zGn):=fnS
theorem ok_before {f:Addr} (F:Fun K "_law_before" "_law_before" zGn f fd):FnOk P w K mg base CX0 1 f fd ["_law_names_here", "_law_behind_here"] spBefore:=by
 refine F.ok zG3 (fun vs H Q E h=>?_) (fun cdv A outer s H vs Q E hr h=>?_)
 ·obtain ⟨l,d,ns,la,L,rfl,_⟩:=h;rfl
 ·obtain ⟨l,d,ns,la,L,rfl,hl,D0,nd,len,k⟩:=h;have hu:=zD6 hr
  refine ⟨_,(zAc (psS (i:=2) zG3.nd zBw)
   (zAc (zA8 qAi rfl (zAo (pv 0)) (pgN (i:=3) zG3.nd)
    (zAe (zCd hu (pv 2) (pv 3) (zA3 rfl (zA4 (sc:=zAd zGn) rfl (by decide +kernel)) (Draws.own (x:= "_law_other") (dtk (i:=3) rfl (dtk (i:=1) rfl Draws.nil))) (zAo (pv 0)) (fun _ _ _ _=>(pgB (i:=0))) (fun _ _ _ _=>(zB6 (zD0 (zIc hu (pv 1) (zAz hu (pv 2) (pv 0) (fun _ _=>rfl)))))) (fun _ _ _ _=>(pv 0))) rfl)))
   (zAe (zAk (pv 2))))),?_⟩
  refine fun d0 hd0=>?_;have fd0:Fre H d0:=hd0
  refine ⟨_,rfl,_,rfl,⟨_,SqL.of ((Kp.new (M:=[]) Kp.refl fd0) l _ hl (by simp))⟩,zA5 (fun i σ H2=>(∃o3:Option V,σ=[some (.ref l),some (.ref d),some (.ref d0),o3])/\Kp [] H H2/\∃na,NR H2 d0 (ns.take i) na (ahL ns L))
   ⟨⟨_,rfl⟩,Kp.new Kp.refl fd0,fun _=>0,upd_same,(fun n h=>nomatch h)⟩ (fun i σ H2 _ ⟨_,k2,_⟩=>SqL.of (k2 l _ hl (by simp))) ?_ ?_⟩
  ·rintro i v σ H2 hv ⟨⟨o3,rfl⟩,k2,na,N⟩;obtain ⟨n,en,rfl⟩:=zAw hv;have ni:=zCw nd en;have hl2:=k2 l _ hl (by simp)
   refine ⟨_,rfl,_,rfl,⟨_,SqL.of hl2⟩,fun B hB=>zBl (ns.map V.str) (fun j ys τ H3=>(∃o0,τ=[o0,some (.str n),some (.ref d)])/\ys=((ns.take j).filter fun o=>decide (n∈L o)).map V.str/\H3=upd H2 B (.lst ys))
    ⟨⟨_,rfl⟩,rfl,rfl⟩ (fun j ys τ H3 ⟨_,_,z⟩=>by subst z;exact SqL.of ((Kp.new (M:=[]) Kp.refl hB) _ _ hl2 (by simp))) ?_ ?_⟩
   ·rintro j v ys τ H3 hv ⟨⟨o0,rfl⟩,rfl,rfl⟩;obtain ⟨x,ex,rfl⟩:=zAw hv;have kB:Kp [] H2 (upd H2 B (.lst (((ns.take j).filter fun o=>decide (n∈L o)).map V.str))):=Kp.new Kp.refl hB;have D3:=D0.kp0 (k2.trans kB);have hx:=qAI ex;refine ⟨_,rfl,_,rfl,_,rfl,d,_,rfl,D3.get hx,_,_,rfl,DGet.k (k:=Sum.inr n) (D3.row x hx),_,rfl,?_⟩;rw [zHm];refine ite2 (fun c=>?_) (fun c=>?_)
    ·refine ⟨_,rfl,upd_same,by rw [qAD];exact zCi (by lia),⟨_,rfl⟩,?_,zBh⟩;rw [zB9 (p:=fun o=>decide (n∈L o)) ex c,qAQ];rfl
    ·refine ⟨⟨_,rfl⟩,?_,rfl⟩;rw [zC4 (p:=fun o=>decide (n∈L o)) ex c]
   ·rintro ys τ H3 ⟨_,rfl,rfl⟩;rw [qAD,qAd];show∃_,_;have fB:Fre H2 B:=hB;have nB:d0≠B:=ne_fre fB N.top;have k3:Kp [] H2 (upd H2 B (.lst ((ahL ns L n).map V.str))):=Kp.new Kp.refl fB;have hd3:=k3 d0 _ N.top (by simp);refine ⟨_,rfl,_,rfl,_,_,rfl,DPut.k (k:=Sum.inr n) hd3 ?_,?_⟩
    ·rw [zC5,qAW,qAJ];lia
    rw [zC1 _ ni,zJh ni,<-zAh en];refine ⟨⟨_,rfl⟩,Kp.new (k2.trans k3) fd0,fun x=>if x=n then B else na x,upd_same,fun x hx=>?_⟩;show Txs _ (if x=n then B else na x) (ahL ns L x)
    by_cases z:x=n
    ·rw [qAC z,z];exact (upd_ne nB.symm).trans upd_same
    ·rw [qAB z];rw [zAh en] at hx;rcases qAK.mp hx with y| y
     ·have h1:=k3 _ _ (N.row x y) (by simp);exact (upd_ne (zBq h1 hd3 (fun z=>nomatch z))).trans h1
     ·exact absurd (qAR.mp y) z
  ·rintro σ H1 ⟨⟨o3,rfl⟩,k1,na,N⟩;rw [qAD,qAd] at N;exact ⟨_,rfl,k d0 na H1 N k1⟩
def zH6:Sp:=fun vs H Q _=>∃p:Addr,vs=[.ref p]/\zA6 H p/\∀(b:Int) (H':Hp),1<=b->b<10^100->zA6 H' p->Kp [p] H H'->Q (.int b) H'
abbrev zG4:Stmt:=top 52
theorem zH8:FnScope ["_law_purse_here", "_law_way"] ["_law_purse_here"] (zAd zG4):=fnS
theorem ok_benches {f:Addr} (F:Fun K "_law_benches" "_law_benches" zG4 f fd) (C_take:Cal P w K mg base "_law_take" 1 ["_law_purse_here", "_law_many"] zGx):FnOk P w K mg base CX0 2 f fd ["_law_purse_here"] zH6:=by
 refine F.ok zH8 (fun vs H Q E h=>?_) (fun cdv A outer s H vs Q E hr h=>?_)
 ·obtain ⟨p,rfl,_⟩:=h;rfl
 ·obtain ⟨p,rfl,hP,k⟩:=h
  refine ⟨_,(zAc (psS (i:=1) zH8.nd (zAg C_take hr rfl (zAa (pv 0) (zAa zAf zAb))))
   (zAc (zA9 (zAj zDd (pv 1) zAf (zAl _))
    (zAe (zAk (zAp zBj zAf (zAg C_take hr rfl (zAa (pv 0) (zAa (zAp op_pow zAf zAf) zAb))))))
    zAn)
   (zAe (zAk (zAy zBb (@pe_lstI _ _ _ _ (pai_c zAf (pai_c zAf (pai_c zAf (pai_c zAf (pai_c zAf (pai_c zAf (pai_c zAf pai_nil)))))))) (zAp zD1 (pv 1) zAf) (fun _ _=>rfl)))))),?_⟩
  refine ⟨_,rfl,p,8,rfl,hP,by decide,by decide +kernel,fun d1 H1 x0 x1 P1 K1=>?_⟩;refine ⟨_,rfl,rfl,_,rfl,ite2 (fun c=>?_) (fun c=>?_)⟩
  ·refine ⟨_,rfl,_,_,rfl,rfl,⟨by decide,by decide,by decide⟩,p,_,rfl,P1,by decide +kernel,by decide +kernel,fun d2 H2 y0 y1 P2 K2=>?_⟩;have h58:(10:Int)^Int.toNat 58<=10^58:=by decide +kernel
   exact ⟨_,_,rfl,rfl,k _ H2 (by lia) (by lia) P2 (K1.trans K2)⟩
  ·have c:d1≠0:=by simpa using c
   obtain ⟨b,eb,hb,hb'⟩:∃b:Int,atI [V.int 1,.int 2,.int 3,.int 4,.int 2,.int 3,.int 7] (d1 - 1)=some (.int b)/\1<=b/\b<10^100:=by
    have:d1=1\/d1=2\/d1=3\/d1=4\/d1=5\/d1=6\/d1=7:=by lia
    rcases this with h| h| h| h| h| h| h<;>subst h
    ·exact ⟨1,rfl,by decide,by decide +kernel⟩
    ·exact ⟨2,rfl,by decide,by decide +kernel⟩
    ·exact ⟨3,rfl,by decide,by decide +kernel⟩
    ·exact ⟨4,rfl,by decide,by decide +kernel⟩
    ·exact ⟨2,rfl,by decide,by decide +kernel⟩
    ·exact ⟨3,rfl,by decide,by decide +kernel⟩
    ·exact ⟨7,rfl,by decide,by decide +kernel⟩
   refine ⟨(by walk_at "ln"),fun z hz=>?_⟩;have fz:Fre H1 z:=hz;have npz:p≠z:=by obtain ⟨x,y,e,_⟩:=P1;exact ne_fre fz e
   refine ⟨_,rfl,_,_,rfl,rfl,_,_,_,_,rfl,rfl,SqL.of upd_same,eb,k b _ hb hb' (P1.kp (M:=[]) (Kp.new Kp.refl fz) (by simp)) (Kp.new K1 (K1.fre fz (nm1 npz.symm)))⟩
end
theorem num_mul {n:Int}:(((m:Int)+b - 1) / b+n)*(if decide ((m:Int)>0)=true then 1 else 0)=if m=0 then 0 else tf (m:Int) b+n:=by
 by_cases c:m=0
 ·subst c;rw [qAC rfl,qAB (by decide),Int.mul_zero]
 ·rw [qAB c,qAC (by rw [qCP];lia),Int.mul_one];rfl
theorem tf_small (h:m<=20) (b1:1<=b):0<=((m:Int)+b - 1) / b/\((m:Int)+b - 1) / b<=20:=by
 refine ⟨Int.ediv_nonneg (by lia) (by lia),?_⟩;refine Int.ediv_le_of_le_mul (by lia) ?_;have:(20:Int)*1<=20*b:=Int.mul_le_mul_of_nonneg_left b1 (by decide);have h2:b+19<=20*b:=by lia
 lia
section
def Due (H:Hp) (ns:List Str) (L:Str->List Str) (b:Int) (t:Addr) (Q:Int->Prop):Prop :=
 (∃(bl:Addr) (as:List Addr) (bs:List (List Str)),H t=some (.tup [.str "blocks",.ref bl])/\RowsR H bl as bs/\bs.length<=20/\Q (blkN b bs)) \/
 (∃n:Int,0<=n/\n<10^70/\H t=some (.tup [.str "behind",.int n])/\∀(G:List Str) (g:Str->Int),HF L G g->G.Perm ns->Q (numN ns g b n)) \/
 (∃n:Int,0<=n/\n<10^70/\H t=some (.tup [.str "ahead",.int n])/\∀(G:List Str) (g:Str->Int),HF (ahL ns L) G g->G.Perm ns->Q (numN ns g b n))
def spDue:Sp:=fun vs H Q _=>∃(l d t:Addr) (b:Int) (ns:List Str) (la:Str->Addr) (L:Str->List Str),vs=[.ref l,.ref d,.int b,.ref t]/\Txs H l ns/\DR H d ns la L/\(∀n∈ns,la n≠d)/\ns.Nodup/\ns.length<=20/\Dec ns L/\(∀n∈ns,(L n).Nodup)/\Dec ns (ahL ns L)/\1<=b/\b<10^100/\Due H ns L b t fun z=>∀H',Kp [] H H'->Q (.int z) H'
abbrev s_due:Stmt:=top 55
theorem sc_due:FnScope ["_law_names_here", "_law_behind_here", "_law_benches_here", "_law_paper_here", "_law_tall_here", "_law_many"] ["_law_names_here", "_law_behind_here", "_law_benches_here", "_law_paper_here"] (zAd s_due):=fnS
theorem ok_due {f:Addr} (F:Fun K "_law_due" "_law_due" s_due f fd) (T:Txt K mg) (C_tallD:Cal P w K mg base "_law_tall" 2 ["_law_names_here", "_law_behind_here"] spTallD) (C_tallL:Cal P w K mg base "_law_tall" 2 ["_law_names_here", "_law_behind_here"] spTallL) (C_before:Cal P w K mg base "_law_before" 1 ["_law_names_here", "_law_behind_here"] spBefore):FnOk P w K mg base CX0 3 f fd ["_law_names_here", "_law_behind_here", "_law_benches_here", "_law_paper_here"] spDue:=by
 refine F.ok sc_due (fun vs H Q E h=>?_) (fun cdv A outer s H vs Q E hr h=>?_)
 ·obtain ⟨l,d,t,b,ns,la,L,rfl,_⟩:=h;rfl
 ·obtain ⟨l,d,t,b,ns,la,L,rfl,hl,D0,ne0,nd,len,dec,lnd,decA,b1,b2,du⟩:=h;have hu:=zD6 hr;have hr1:=hr.mono (j:=1) (by decide)
  refine ⟨_,(zAc (zA9 (zAj zDd (zAy zBk (pv 3) zAf (fun _ _=>rfl)) zB1 (zAl _))
    (zAe (zAk (zAi (call_sum1 rfl) (by rfl) T.z_sum bo_sum (zAa (zA3 rfl (zA4 (sc:=zAd s_due) rfl (by decide +kernel)) (Draws.own (x:= "_law_row") (dtk (i:=2) rfl Draws.nil)) (zAo (zAy zBk (pv 3) zAf (fun _ _=>rfl))) (fun _ _ _ _=>(pgB (i:=0))) (fun _ _ _ _=>zB4) (fun _ _ _ _=>(zAp zE4 (zAp zD1 (zAp zBj (zAi (zDs (K:=K)) (by rfl) T.z_len zBt (zAa (pv 0) zAb)) (pv 1)) zAf) (pv 1)))) zAb))))
    zAn)
   (zAc (psS (i:=4) sc_due.nd (zAg C_tallD hr rfl (zAa (pv 0) (zAa (pv 1) zAb))))
   (zAc (zA9 (zAj zDd (zAy zBk (pv 3) zAf (fun _ _=>rfl)) zB1 (zAl _))
    (zAe (psS (i:=4) sc_due.nd (zAg C_tallL hr rfl (zAa (pv 0) (zAa (zAg C_before hr1 rfl (zAa (pv 0) (zAa (pv 1) zAb))) zAb)))))
    zAn)
   (zAc (psS (i:=5) sc_due.nd (zAi zAm (by rfl) T.z_len zBt (zAa (zA3 rfl (zA4 (sc:=zAd s_due) rfl (by decide +kernel)) (Draws.own (x:= "_law_name") (dtk (i:=4) rfl (dtk (i:=3) rfl Draws.nil))) (zAo (pv 0)) (fun _ _ _ _=>(pgB (i:=0))) (fun _ _ _ _=>(zB6 (zAj op_gt (zAz hu (pv 1) (pv 0) (fun _ _=>rfl)) (zAy (ix_tupK (K:=K)) (pv 2) zAf (fun _ _=>rfl)) (zAl _)))) (fun _ _ _ _=>(pv 0))) zAb)))
   (zAe (zAk (zAp op_mulB (zAp zBj (zAp zE4 (zAp zD1 (zAp zBj (pv 5) (pv 2)) zAf) (pv 2)) (zAy zBk (pv 3) zAf (fun _ _=>rfl))) (zAv zD8 (by rfl) T.z_int zHo (zAa (zBz op_gt (pv 5) zAf (zAl _)) zAb))))))))),?_⟩
  rcases du with ⟨bl,as,bs,ht,R,l20,q⟩| du
  ·refine ⟨_,rfl,_,_,_,_,rfl,rfl,SqT.of ht,rfl,rfl,_,rfl,?_⟩;refine iteT ?_;refine ⟨_,rfl,_,_,_,_,rfl,rfl,SqT.of ht,rfl,_,rfl,⟨_,SqL.of R.top⟩,fun Y hY=>zA1 (as.map V.ref) (fun i ys τ H3=>(∃o0,τ=[o0,some (.int b)])/\ys=((bs.take i).map fun B=>V.int (tf (B.length:Int) b))/\H3=upd H Y (.lst ys)) ⟨⟨_,rfl⟩,rfl,rfl⟩ (fun i ys τ H3 ⟨_,_,z⟩=>by subst z;exact SqL.of ((Kp.new (M:=[]) Kp.refl hY) _ _ R.top (by simp))) ?_ ?_⟩
   ·rintro i v ys τ H3 hv ⟨⟨o0,rfl⟩,rfl,rfl⟩
    have hi:i<bs.length:=by
     have:=(qAV.mp hv).1;rw [qAD,R.len] at this;exact this
    obtain ⟨a,B,ea,eB,ev,ha⟩:=R.at hi;rw [ev] at hv
    cases hv
    have kY:Kp [] H (upd H Y (.lst ((bs.take i).map fun B=>V.int (tf (B.length:Int) b)))):=Kp.new Kp.refl hY;refine ⟨_,rfl,_,_,rfl,.inl (SqL.of (kY _ _ ha (by simp))),_,rfl,_,_,rfl,rfl,_,_,rfl,rfl,_,rfl,_,_,rfl,rfl,⟨by lia,b2⟩,?_⟩;refine ⟨upd_same,?_,⟨_,rfl⟩,?_,zBh⟩
    ·rw [qAD,qAW,qAJ];lia
    ·rw [zAh eB,qAQ,qAD];rfl
   ·rintro ys τ H3 ⟨_,rfl,rfl⟩;have eT:bs.take (as.map V.ref).length=bs:=by rw [qAD,R.len,qAd]
    rw [eT];refine ⟨Y,bs.map fun B=>tf (B.length:Int) b,rfl,SqL.of (by rw [upd_same,qA4];rfl),?_⟩;exact q _ (Kp.new Kp.refl hY)
  ·obtain ⟨wd,n,n0,n1,ht,hw⟩:∃(wd:Str) (n:Int),0<=n/\n<10^70/\H t=some (.tup [.str wd,.int n])/\wd≠ "blocks" := by
    rcases du with ⟨n,h1,h2,h3,_⟩| ⟨n,h1,h2,h3,_⟩
    ·exact ⟨_,n,h1,h2,h3,by decide +kernel⟩
    ·exact ⟨_,n,h1,h2,h3,by decide +kernel⟩
   refine ⟨_,rfl,_,_,_,_,rfl,rfl,SqT.of ht,rfl,rfl,_,rfl,?_⟩;rw [show decide (V.str wd=V.str "blocks")=false from qAe fun z=>hw (V.str.inj z)];refine iteF ?_;refine ⟨_,rfl,_,rfl,l,d,ns,la,L,rfl,hl,D0,ne0,nd,len,dec,lnd,fun e G g H1 k1 e1 hf pm=>?_⟩;refine gN ?_;dsimp only;refine midS (fun σ H3=>∃(e:Addr) (G:List Str) (g:Str->Int),σ=[some (.ref l),some (.ref d),some (.int b),some (.ref t),some (.ref e),none]/\Kp [] H H3/\H3 e=some (.dK (kvI G g))/\G.Perm ns/\∀H',Kp [] H H'->Q (.int (numN ns g b n)) H') ?_ (fun key=>?_)
   ·clear hf pm e1 k1 du;rintro σ H3 ⟨e,G,g,rfl,k3,e3,pm,q⟩;have hl3:=k3 _ _ hl (by simp);have ht3:=k3 _ _ ht (by simp);refine ⟨_,rfl,_,rfl,⟨_,SqL.of hl3⟩,fun Y hY=>zBl (ns.map V.str) (fun j ys τ H4=>(∃o0,τ=[o0,some (.ref e),some (.ref t)])/\ys=((ns.take j).filter fun x=>decide (g x>n)).map V.str/\H4=upd H3 Y (.lst ys)) ⟨⟨_,rfl⟩,rfl,rfl⟩ (fun j ys τ H4 ⟨_,_,z⟩=>by subst z;exact SqL.of ((Kp.new (M:=[]) Kp.refl hY) _ _ hl3 (by simp))) ?_ ?_⟩
    ·rintro j v ys τ H4 hv ⟨⟨o0,rfl⟩,rfl,rfl⟩;obtain ⟨x,ex,rfl⟩:=zAw hv;have kY:Kp [] H3 (upd H3 Y (.lst (((ns.take j).filter fun x=>decide (g x>n)).map V.str))):=Kp.new Kp.refl hY;have e4:=kY _ _ e3 (by simp);have t4:=kY _ _ ht3 (by simp);have xG:x∈G:=pm.mem_iff.mpr (qAI ex);refine ⟨_,rfl,_,rfl,e,_,rfl,by have:=DGet.k (k:=Sum.inr x) e4;rw [zHh xG] at this;exact this,_,rfl,_,_,_,_,rfl,rfl,SqT.of t4,rfl,_,_,rfl,rfl,_,rfl,ite2 (fun c=>?_) (fun c=>?_)⟩
     ·refine ⟨_,rfl,upd_same,by rw [qAD];exact zCi (by lia),⟨_,rfl⟩,?_,zBh⟩;rw [zB9 (p:=fun x=>decide (g x>n)) ex c,qAQ];rfl
     ·refine ⟨⟨_,rfl⟩,?_,rfl⟩;rw [zC4 (p:=fun x=>decide (g x>n)) ex c]
    ·rintro ys τ H4 ⟨_,rfl,rfl⟩;rw [qAD,qAd];have k4:Kp [] H3 (upd H3 Y (.lst ((ns.filter fun x=>decide (g x>n)).map V.str))):=Kp.new Kp.refl hY;have y4:upd H3 Y (.lst ((ns.filter fun x=>decide (g x>n)).map V.str)) Y=some (.lst ((ns.filter fun x=>decide (g x>n)).map V.str)):=upd_same;generalize upd H3 Y (.lst ((ns.filter fun x=>decide (g x>n)).map V.str))=H4 at k4 y4;refine ⟨_,_,rfl,.inl (SqL.of y4),?_⟩;rw [qAD,show (ns.filter fun x=>decide (g x>n)).length=zH1 ns g n from rfl];have t4:=k4 _ _ ht3 (by simp);have ml:zH1 ns g n<=20:=qAY (qBZ _ _) len;obtain ⟨s0,s1⟩:=tf_small ml b1;refine ⟨_,rfl,_,rfl,_,_,rfl,rfl,_,_,rfl,rfl,_,rfl,_,_,rfl,rfl,⟨by lia,b2⟩,_,rfl,_,_,_,_,rfl,rfl,SqT.of t4,rfl,_,_,rfl,rfl,?_⟩;refine ⟨_,rfl,_,_,rfl,rfl,.inr ⟨_,rfl,?_⟩⟩;refine ⟨_,_,rfl,rfl,⟨by lia,by split<;>decide +kernel⟩,?_⟩;have:=q H4 (k3.trans k4);unfold numN at this;rw [<-num_mul] at this;exact this
   ·refine ⟨_,rfl,_,_,_,_,rfl,rfl,SqT.of (k1 _ _ ht (by simp)),rfl,rfl,_,rfl,?_⟩;rcases du with ⟨n',_,_,h3,q⟩| ⟨n',_,_,h3,q⟩
    ·rw [ht] at h3
     cases h3
     refine iteF ?_;exact key _ _ ⟨e,G,g,rfl,k1,e1,pm,q G g hf pm⟩
    ·rw [ht] at h3
     cases h3
     refine iteT ?_;refine ⟨_,rfl,_,rfl,_,rfl,l,d,ns,la,L,rfl,k1 _ _ hl (by simp),D0.kp0 k1,nd,len,fun d' na H2 N2 k2=>?_⟩;refine ⟨l,d',ns,na,ahL ns L,rfl,(k1.trans k2) _ _ hl (by simp),N2,nd,len,decA,fun n hn=>nd.filter _,fun e2 G2 g2 H3 k3 e3 hf2 pm2=>?_⟩;exact key _ _ ⟨e2,G2,g2,rfl,(k1.trans k2).trans k3,e3,pm2,q G2 g2 hf2 pm2⟩
end
section
abbrev s_whole:Stmt:=top 56
theorem sc_whole:FnScope ["_law_found"] ["_law_found"] (zAd s_whole):=fnS
theorem ok_whole {f:Addr} (F:Fun K "_law_whole" "_law_whole" s_whole f fd) (T:Txt K mg):FnOk P w K mg base CX0 1 f fd ["_law_found"] zGv:=by
 refine F.ok sc_whole (fun vs H Q E h=>?_) (fun cdv A outer s H vs Q E hr h=>?_)
 ·obtain ⟨n,rfl,_⟩:=h;rfl
 ·obtain ⟨n,rfl,k⟩:=h;refine ⟨_,(zAe (zAk (zIb (zAi zCa (by rfl) T.z_isinstance zAr (zAa (pv 0) (zAa (zC2 (by rfl) T.z_int zHo (v:=.ty "int") rfl) zAb))) (zG6 (pe_not (zAi zCa (by rfl) T.z_isinstance zAr (zAa (pv 0) (zAa (zC2 (by rfl) T.z_bool bo_bool (v:=.ty "bool") rfl) zAb)))))))),?_⟩;exact ⟨_,rfl,_,_,_,_,rfl,TyOf.int n,zCx,_,rfl,iteT ⟨_,rfl,_,_,_,_,rfl,TyOf.int n,kit_ib,_,rfl,k⟩⟩
def PapQ (H H':Hp) (J:JR) (t:Addr):Prop :=
 (∃(bl:Addr) (as:List Addr) (bs:List (List Str)),H' t=some (.tup [.str "blocks",.ref bl])/\Fre H bl/\(∀a∈as,Fre H a/\a≠bl)/\RowsR H' bl as bs/\bs.length<=20/\BlkG J bs) \/
 ∃(wd:Str) (n:Int),(wd= "behind" \/wd= "ahead")/\0<=n/\n<10^70/\H' t=some (.tup [.str wd,.int n])
def spLPaper:Sp:=fun vs H Q _=>∃(p l d:Addr) (J:JR) (r:Str->Nat) (la:Str->Addr) (L:Str->List Str),vs=[.ref p,.ref l,.ref d]/\zA6 H p/\Txs H l J.ns/\DR H d J.ns la L/\J.ns.Nodup/\J.ns.length<=20/\(∀n∈J.ns,∀x∈J.S n,r x<r n)/\(∀n∈J.ns,∀x∈J.ns,x∈L n↔n∈J.S x) /\
 ∀(t:Addr) (H':Hp),Fre H t->PapQ H H' J t->zA6 H' p->Kp [p] H H'->Q (.ref t) H'
abbrev s_paper:Stmt:=top 57
theorem zGk:FnScope ["_law_purse_here", "_law_names_here", "_law_behind_here", "_law_way", "_law_number"] ["_law_purse_here", "_law_names_here", "_law_behind_here"] (zAd s_paper):=fnS
theorem ok_lpaper {f:Addr} (F:Fun K "_law_paper" "_law_paper" s_paper f fd) (T:Txt K mg) (C_take:Cal P w K mg base "_law_take" 1 ["_law_purse_here", "_law_many"] zGx) (C_blocks:Cal P w K mg base "_law_blocks" 2 ["_law_purse_here", "_law_names_here", "_law_behind_here"] spLBlocks):FnOk P w K mg base CX0 3 f fd ["_law_purse_here", "_law_names_here", "_law_behind_here"] spLPaper:=by
 refine F.ok zGk (fun vs H Q E h=>?_) (fun cdv A outer s H vs Q E hr h=>?_)
 ·obtain ⟨p,l,d,J,r,la,L,rfl,_⟩:=h;rfl
 ·obtain ⟨p,l,d,J,r,la,L,rfl,hP,hl,D0,nd,few,rk,hLS,kk⟩:=h;have hr1:=hr.mono (j:=1) (by decide)
  refine ⟨_,(zAc (psS (i:=3) zGk.nd (zAg C_take hr1 rfl (zAa (pv 0) (zAa zAf zAb))))
   (zAc (zA9 (zAj op_lt (pv 3) zAf (zAl _))
    (zAe (zAk (zDv (zAa zB1 (zAa (zAg C_blocks hr rfl (zAa (pv 0) (zAa (pv 1) (zAa (pv 2) zAb)))) zAb)))))
    zAn)
   (zAc (psS (i:=4) zGk.nd (zAg C_take hr1 rfl (zAa (pv 0) (zAa (zAp zBj (zAi zAm (by rfl) T.z_len zBt (zAa (pv 1) zAb)) zAf) zAb))))
   (zAc (zA9 (PW.pt (zIa (zAj zDd (pv 3) zAf (zAl _)) (zFp (zAj zDd (zAg C_take hr1 rfl (zAa (pv 0) (zAa zAf zAb))) zAf (zAl _)))))
    (zAe (psS (i:=4) zGk.nd (zAg C_take hr1 rfl (zAa (pv 0) (zAa (zAp op_pow zAf zAf) zAb)))))
    zAn)
   (zAe (zAk (zDv (zAa (zAy zBb (zBe (zAa zB1 (zAa zB1 zAb))) (zAg C_take hr1 rfl (zAa (pv 0) (zAa zAf zAb))) (fun _ _=>rfl)) (zAa (pv 4) zAb))))))))),?_⟩
  have off:∀{H':Hp} {a:Addr},zA6 H' p->Fre H' a->a≠p:=fun {H' a} hp fa=>by
   obtain ⟨u,v,e,_⟩:=hp;exact (ne_fre fa e).symm
  have nlp:=purse_ne hl hP;have DK:∀{H':Hp},Kp [p] H H'->DR H' d J.ns la L:=fun k=>⟨k _ _ D0.top (nm1 (by obtain ⟨a,b,e,_⟩:=hP;exact zBq D0.top e fun z=>nomatch z)),fun n hn=>k _ _ (D0.row n hn) (nm1 (by obtain ⟨a,b,e,_⟩:=hP;exact zBq (D0.row n hn) e fun z=>nomatch z))⟩;refine ⟨_,rfl,p,5,rfl,hP,by decide,by decide +kernel,fun way H1 w0 w1 P1 K1=>?_⟩;refine ⟨_,rfl,_,_,rfl,rfl,_,rfl,ite2 (fun c=>?_) (fun c=>?_)⟩
  ·refine ⟨_,rfl,_,rfl,_,rfl,p,l,d,J,r,la,L,rfl,P1,K1 _ _ hl (nm1 nlp),DK K1,nd,few,rk,hLS,fun bl as bs H2 fbl fas R2 l20 BG P2 K2=>?_⟩;refine ⟨(by walk_at "ln"),fun t ht=>?_⟩;have ft:Fre H2 t:=ht;have k3:Kp [] H2 (upd H2 t (.tup [.str "blocks",.ref bl])):=Kp.new Kp.refl ft;have K12:=K1.trans K2;refine kk t _ (K12.fre ft (nm1 (off P2 ft))) (.inl ⟨bl,as,bs,upd_same,K1.fre fbl (nm1 (off P1 fbl)),fun a ha=>⟨K1.fre (fas a ha).1 (nm1 (off P1 (fas a ha).1)),(fas a ha).2⟩,R2.kp k3,l20,BG⟩) (P2.kp k3 (by simp)) (K12.trans (k3.weak (by simp)))
  ·refine ⟨_,rfl,_,rfl,_,_,rfl,.inl (SqL.of (K1 _ _ hl (nm1 nlp))),_,_,rfl,rfl,p,_,rfl,P1,by lia,by rw [qAD];lia,fun n H2 n0 n1 P2 K2=>?_⟩;rw [qAD] at n1;refine gN ?_;dsimp only;refine midS (fun σ H3=>∃n:Int,σ=[some (.ref p),some (.ref l),some (.ref d),some (.int way),some (.int n)]/\0<=n/\n<10^70/\zA6 H3 p/\Kp [p] H H3) ?_ (fun key=>?_)
   ·rintro σ H3 ⟨n,rfl,n0,n1,P3,K3⟩;refine ⟨(by walk_at "ln"),fun z hz=>?_⟩;have fz:Fre H3 z:=hz;have k4:Kp [] H3 (upd H3 z (.lst [.str "behind",.str "ahead"])):=Kp.new Kp.refl fz;have e4:upd H3 z (.lst [.str "behind",.str "ahead"]) z=some (.lst [.str "behind",.str "ahead"]):=upd_same;generalize upd H3 z (.lst [.str "behind",.str "ahead"])=H4 at k4 e4;refine ⟨_,rfl,p,2,rfl,P3.kp k4 (by simp),by decide,by decide +kernel,fun y H5 y0 y1 P5 K5=>?_⟩
    obtain ⟨wd,ew,hw⟩:∃wd:Str,atI [V.str "behind",.str "ahead"] y=some (.str wd)/\(wd= "behind" \/wd= "ahead"):=by
     have:y=0\/y=1:=by lia
     rcases this with rfl| rfl
     ·exact ⟨_,rfl,.inl rfl⟩
     ·exact ⟨_,rfl,.inr rfl⟩
    refine ⟨_,_,_,_,rfl,rfl,SqL.of (K5 _ _ e4 (nm1 (off P3 fz))),ew,_,rfl,(by walk_at "ln"),fun t ht=>?_⟩;have ft:Fre H5 t:=ht;have k6:Kp [] H5 (upd H5 t (.tup [.str wd,.int n])):=Kp.new Kp.refl ft;have K5':Kp [p] H H5:=(K3.trans (k4.weak (by simp))).trans K5;exact kk t _ (K5'.fre ft (nm1 (off P5 ft))) (.inr ⟨wd,n,hw,n0,n1,upd_same⟩) (P5.kp k6 (by simp)) (K5'.trans (k6.weak (by simp)))
   ·refine ⟨_,rfl,rfl,_,rfl,ite2 (fun c2=>?_) (fun c2=>?_)⟩
    ·refine ⟨_,rfl,p,3,rfl,P2,by decide,by decide +kernel,fun y H3 y0 y1 P3 K3=>?_⟩;refine ⟨rfl,_,rfl,ite2 (fun c3=>?_) (fun c3=>?_)⟩
     ·refine ⟨_,rfl,_,_,rfl,rfl,⟨by decide,by decide,by decide⟩,p,_,rfl,P3,by decide +kernel,by decide +kernel,fun n2 H4 m0 m1 P4 K4=>?_⟩;have h60:(10:Int)^Int.toNat 60<=10^60:=by decide +kernel
      exact key _ _ ⟨n2,rfl,m0,by lia,P4,((K1.trans K2).trans K3).trans K4⟩
     ·exact key _ _ ⟨n,rfl,n0,by lia,P3,(K1.trans K2).trans K3⟩
    ·exact key _ _ ⟨n,rfl,n0,by lia,P2,K1.trans K2⟩
end
section
def spCopied:Sp:=fun vs H Q _=>∃t:Addr,vs=[.ref t] /\
 ((∃(bl:Addr) (as:List Addr) (bs:List (List Str)),H t=some (.tup [.str "blocks",.ref bl])/\RowsR H bl as bs/\bs.length<=20/\∀(t' bl':Addr) (as':List Addr) (H':Hp),Fre H t'->Fre H bl'->(∀a∈as',Fre H a/\a≠bl')->H' t'=some (.tup [.str "blocks",.ref bl'])->RowsR H' bl' as' bs->Kp [] H H'->Q (.ref t') H') \/
   ∃(wd:Str) (n:Int),wd≠ "blocks" /\H t=some (.tup [.str wd,.int n])/\Q (.ref t) H)
abbrev zGl:Stmt:=top 58
theorem sc_copied:FnScope ["_law_paper_here"] ["_law_paper_here"] (zAd zGl):=fnS
theorem ok_copied {f:Addr} (F:Fun K "_law_copied" "_law_copied" zGl f fd) (T:Txt K mg):FnOk P w K mg base CX0 1 f fd ["_law_paper_here"] spCopied:=by
 refine F.ok sc_copied (fun vs H Q E h=>?_) (fun cdv A outer s H vs Q E hr h=>?_)
 ·obtain ⟨t,rfl,_⟩:=h;rfl
 ·obtain ⟨t,rfl,h⟩:=h
  refine ⟨_,(zAc (zA9 (zAj zDd (zAy zBk (pv 0) zAf (fun _ _=>rfl)) zB1 (zAl _))
    (zAe (zAk (zDv (zAa zB1 (zAa (zA3 rfl (zA4 (sc:=zAd zGl) rfl (by decide +kernel)) (Draws.own (x:= "_law_row") Draws.nil) (zAo (zAy zBk (pv 0) zAf (fun _ _=>rfl))) (fun _ _ _ _=>(pgB (i:=0))) (fun _ _ _ _=>zB4) (fun _ _ _ _=>(zAv (zDr (K:=K)) (by rfl) T.z_list zCr (zAa (pv 0) zAb)))) zAb)))))
    zAn)
   (zAe (zAk (pv 0)))),?_⟩
  rcases h with ⟨bl,as,bs,ht,R,l20,k⟩| ⟨wd,n,hw,ht,k⟩
  ·refine ⟨_,rfl,_,_,_,_,rfl,rfl,SqT.of ht,rfl,rfl,_,rfl,?_⟩;refine iteT ?_;refine ⟨_,rfl,_,_,_,_,rfl,rfl,SqT.of ht,rfl,_,rfl,⟨_,SqL.of R.top⟩,fun Y hY=>zA1 (as.map V.ref) (fun i ys τ H3=>∃as':List Addr,(∃o0,τ=[o0])/\ys=as'.map V.ref/\as'.length=i/\(∀a∈as',Fre H a/\a≠Y)/\(∀(j:Nat) (a:Addr) (r:List Str),as'[j]?=some a->bs[j]?=some r->H3 a=some (.lst (r.map V.str)))/\Kp [] H H3/\H3 Y=some (.lst ys)) ⟨[],⟨_,rfl⟩,rfl,rfl,(fun a h=>nomatch h),(fun j a r h=>by simp at h),Kp.new Kp.refl hY,upd_same⟩ (fun i ys τ H3 ⟨_,_,_,_,_,_,k3,_⟩=>SqL.of (k3 _ _ R.top (by simp))) ?_ ?_⟩
   ·rintro i v ys τ H3 hv ⟨as',⟨o0,rfl⟩,rfl,li,fr,rows,k3,h3⟩
    have hi:i<bs.length:=by
     have:=(qAV.mp hv).1;rw [qAD,R.len] at this;exact this
    obtain ⟨a,B,ea,eB,ev,ha⟩:=R.at hi;rw [ev] at hv
    cases hv
    refine ⟨_,rfl,_,_,rfl,.inl (SqL.of (k3 _ _ ha (by simp))),fun u hu=>?_⟩;have fu:Fre H3 u:=hu;have nuY:u≠Y:=(ne_fre fu h3).symm;refine ⟨(upd_ne nuY.symm).trans h3,by rw [qAD,li,qAJ];lia,as'++[u],⟨_,rfl⟩,by rw [qAQ];rfl,by rw [qAU,li];rfl,fun x hx=>?_,fun j x r h1 h2=>?_,Kp.new (Kp.new k3 (k3.fre fu (by simp))) hY,upd_same⟩
    ·rcases qAK.mp hx with z| z
     ·exact fr x z
     ·rw [qAR.mp z];exact ⟨k3.fre fu (by simp),nuY⟩
    ·by_cases hj:j<as'.length
     ·rw [qA6 hj] at h1;have:=rows j x r h1 h2;rw [upd_ne (fr x (qAI h1)).2,upd_ne (ne_fre fu this)];exact this
     ·have hj2:=(qAV.mp h1).1;rw [qAU,qA8] at hj2;have:j=as'.length:=by lia
      subst this;rw [qBT (qAG _),qDO] at h1
      cases h1
      rw [li] at h2;rw [eB] at h2
      cases h2
      rw [upd_ne nuY];exact upd_same
   ·rintro ys τ H3 ⟨as',_,rfl,li,fr,rows,k3,h3⟩;rw [qAD,R.len] at li;refine ⟨(by walk_at "ln"),fun t' ht'=>?_⟩;have ft:Fre H3 t':=ht';have k4:Kp [] H3 (upd H3 t' (.tup [.str "blocks",.ref Y])):=Kp.new Kp.refl ft;exact k t' Y as' _ (k3.fre ft (by simp)) hY fr upd_same ⟨k4 _ _ h3 (by simp),li,fun j a r h1 h2=>k4 _ _ (rows j a r h1 h2) (by simp)⟩ (k3.trans k4)
  ·refine ⟨_,rfl,_,_,_,_,rfl,rfl,SqT.of ht,rfl,rfl,_,rfl,?_⟩;rw [show decide (V.str wd=V.str "blocks")=false from qAe fun z=>hw (V.str.inj z)];refine iteF ?_;exact ⟨_,rfl,k⟩
end
section
variable {qs ks:List (List Str×Addr)}
theorem ta_rev (two:∀q∈qs,∃a b,q.1=[a,b]) (ek:ks.map (·.1)=qs.map fun q=>q.1.reverse) {a b:Str}:TA ks a b↔TA qs b a:=by
 constructor
 ·rintro ⟨q,hq,rfl,rfl⟩;have h1:q.1∈ks.map (·.1):=qAM.mpr ⟨q,hq,rfl⟩;rw [ek] at h1;obtain ⟨q',hq',e⟩:=qAM.mp h1;obtain ⟨x,y,e'⟩:=two q' hq';have e2:q.1=[y,x]:=by rw [<-e,e'];rfl
  exact ⟨q',hq',by rw [(zC3 e').1,(zC3 e2).2],by rw [(zC3 e').2,(zC3 e2).1]⟩
 ·rintro ⟨q,hq,rfl,rfl⟩;have h1:q.1.reverse∈qs.map fun q=>q.1.reverse:=qAM.mpr ⟨q,hq,rfl⟩;rw [<-ek] at h1;obtain ⟨q',hq',e⟩:=qAM.mp h1;obtain ⟨x,y,e'⟩:=two q hq;have e2:q'.1=[y,x]:=by rw [e,e'];rfl
  exact ⟨q',hq',by rw [(zC3 e').2,(zC3 e2).1],by rw [(zC3 e').1,(zC3 e2).2]⟩
theorem way_rev (two:∀q∈qs,∃a b,q.1=[a,b]) (ek:ks.map (·.1)=qs.map fun q=>q.1.reverse) {a b:Str}:Way ks a b↔Way qs b a:=by
 constructor
 ·intro h
  induction h with
  | one h=>exact .one ((ta_rev two ek).mp h)
  | more _ h ih=>exact .lead ((ta_rev two ek).mp h) ih
 ·intro h
  induction h with
  | one h=>exact .one ((ta_rev two ek).mpr h)
  | more _ h ih=>exact .lead ((ta_rev two ek).mpr h) ih
theorem two_rev (two:∀q∈qs,∃a b,q.1=[a,b]) (ek:ks.map (·.1)=qs.map fun q=>q.1.reverse):(∀q∈ks,∃a b,q.1=[a,b])/\qs.map (·.1)=ks.map fun q=>q.1.reverse:=by
 refine ⟨fun q hq=>?_,?_⟩
 ·have:q.1∈ks.map (·.1):=qAM.mpr ⟨q,hq,rfl⟩;rw [ek] at this;obtain ⟨q',hq',e⟩:=qAM.mp this;obtain ⟨a,b,eab⟩:=two q' hq';exact ⟨b,a,by rw [<-e,eab];rfl⟩
 ·have:ks.map (fun q=>q.1.reverse)=(ks.map (·.1)).map List.reverse:=by rw [qA4];rfl
  rw [this,ek,qA4];exact qDH fun q _=>(List.reverse_reverse _).symm
end
theorem way_rank {qs:List (List Str×Addr)} {r:Str->Nat} (G:Good ns qs r) {a b:Str} (h:Way qs a b):r a<r b:=by
 have one:∀{a b:Str},TA qs a b->r a<r b:=fun {a b} ⟨q,hq,e1,e2⟩=>by rw [<-e1,<-e2];exact G.rk q hq
 induction h with
 | one h=>exact one h
 | more _ h ih=>exact qCa ih (one h)
theorem dec_L {qs:List (List Str×Addr)} {r:Str->Nat} {L:Str->List Str} (G:Good ns qs r) (two:∀q∈qs,∃a b,q.1=[a,b]) (hL:∀n∈ns,(L n).Nodup/\∀x,x∈L n↔Way qs n x):Dec ns L:=by
 have mem:∀n∈ns,∀y∈L n,y∈ns:=fun n hn y hy=>(Way.to two G.qin (((hL n hn).2 y).mp hy)).2;have irr:∀n∈ns,n∉L n:=fun n hn h=>absurd (way_rank G (((hL n hn).2 n).mp h)) (qAx _);refine fun n hn y hy=>⟨mem n hn y hy,?_⟩;have hyn:=mem n hn y hy;have w:=((hL n hn).2 y).mp hy
 have:=zAs (A:=y::L y) (B:=L n) (qA1.mpr ⟨irr y hyn,(hL y hyn).1⟩) (fun z hz=>by
  rcases qAP.mp hz with e| e
  ·rw [e];exact hy
  ·exact ((hL n hn).2 z).mpr (w.trans (((hL y hyn).2 z).mp e)))
 rw [qAb] at this;lia
theorem ahL_way {qs ks:List (List Str×Addr)} {r:Str->Nat} {L:Str->List Str} (G:Good ns qs r) (two:∀q∈qs,∃a b,q.1=[a,b]) (ek:ks.map (·.1)=qs.map fun q=>q.1.reverse) (hL:∀n∈ns,(L n).Nodup/\∀x,x∈L n↔Way qs n x):∀n∈ns,(ahL ns L n).Nodup/\∀x,x∈ahL ns L n↔Way ks n x:=fun n hn=>by
 refine ⟨G.nd.sublist List.filter_sublist,fun x=>?_⟩;unfold ahL;rw [qA5,qCP,way_rev two ek];constructor
 ·rintro ⟨h1,h2⟩;exact ((hL x h1).2 n).mp h2
 ·intro h;have:=(Way.to two G.qin h).1;exact ⟨this,((hL x this).2 n).mpr h⟩
theorem zGp {F G:List Str} {qs:List (List Str×Addr)} {f g:Str->Int} {L:Str->List Str} {n:Int} (nd:ns.Nodup) (T:ToldH ns qs F f) (hf:HF L G g) (pm:G.Perm ns) (hL:∀n∈ns,(L n).Nodup/\∀x,x∈L n↔Way qs n x):numN F f b n=numN ns g b n:=by
 have td:=told_due nd T ⟨fun x=>pm.mem_iff,L,hf,fun x hx y=>(hL x hx).2 y⟩
 have e:zH1 F f n=zH1 ns g n:=by
  unfold zH1;rw [<-qDM,<-qDM,T.pm.countP_eq];refine List.countP_congr fun x hx=>?_;rw [(td.2 x (T.pm.mem_iff.mpr hx)).2]
 unfold numN;rw [e]
theorem sum_app:∀(a b:List Int),(a++b).sum=a.sum+b.sum
 | [],b=>by rw [qBj,List.sum_nil,Int.zero_add]
 | x::a,b=>by rw [List.cons_append,qCQ,qCQ,sum_app a b,Int.add_assoc]
theorem blkN_rev (b:Int):∀bs:List (List Str),blkN b bs.reverse=blkN b bs
 | []=>rfl
 | B::bs=>by
  have ih:=blkN_rev b bs;unfold blkN at ih ⊢;rw [qDP,qAQ,sum_app,ih,qAk,qAk,qCQ,qCZ,qCQ,List.sum_nil];lia
theorem blkN_last (b:Int) (bs:List (List Str)) (B:List Str):blkN b (bs++[B])=blkN b bs+tf (B.length:Int) b:=by
 unfold blkN;rw [qAQ,sum_app,qAk,qCZ,qCQ,List.sum_nil,Int.add_zero]
theorem BlkG.cut {bs:List (List Str)} {B:List Str} (G:BlkG J (bs++[B])):BlkG J bs:=by
 refine ⟨fun X h=>G.ne X (qAc _ h),fun X h=>G.ns X (qAc _ h),?_,fun i X Y e1 e2=>G.nx i X Y ?_ ?_⟩
 ·have:=G.nd;rw [qB2] at this;exact (qBd.mp this).1
 ·rw [qA6 (qAV.mp e1).1];exact e1
 ·rw [qA6 (qAV.mp e2).1];exact e2
theorem flat_rev:∀bs:List (List Str),(bs.reverse.flatten).Perm bs.flatten
 | []=>qCI _
 | B::bs=>by
  rw [qDP,qB2,qBP,qBP,qDN,qAs];exact qC5.trans ((flat_rev bs).append_left B)
theorem BlkG.rev {J':JR} {bs:List (List Str)} (G:BlkG J bs) (en:J'.ns=J.ns) (hS:∀n∈J.ns,∀m∈J.ns,m∈J.S n->n∈J'.S m):BlkG J' bs.reverse:=by
 refine ⟨fun X h=>G.ne X (List.mem_reverse.mp h),fun X h=>by rw [en];exact G.ns X (List.mem_reverse.mp h),(flat_rev bs).nodup_iff.mpr G.nd,fun i B B' e1 e2 x hx y hy=>?_⟩;have h2:=(qAV.mp e2).1;rw [qCR] at h2;have a1:bs[bs.length - 1 - i]?=some B:=by rw [qDQ (by lia)] at e1;exact e1
 have a2:bs[bs.length - 1 - (i+1)]?=some B':=by rw [qDQ (by lia)] at e2;exact e2
 have m1:=G.ns B (qAI a1) x hx;have m2:=G.ns B' (qAI a2) y hy;refine hS x m1 y m2 (G.nx _ B' B a2 ?_ y hy x hx);rw [show bs.length - 1 - (i+1)+1=bs.length - 1 - i by lia];exact a1
theorem TabA.kpD {e:Addr} {xs:List V} (T:TabA H Pt) (h:H e=some (.lst xs)) (k:Kp [e] H H'):TabA H' Pt:=by
 have no:∀b o,H b=some o->(∀kv,o≠.lst kv)->b∉[e]:=fun b o hb z=>nm1 fun y=>by rw [y,h] at hb;exact z _ (qAZ hb).symm
 rcases T with a| ⟨c,a,ec⟩
 ·exact .inl (k _ _ a (no _ _ a fun _ z=>nomatch z))
 ·exact .inr ⟨c,k _ _ a (no _ _ a fun _ z=>nomatch z),k _ _ ec (no _ _ ec fun _ z=>nomatch z)⟩
theorem RowsR.kpT {as:List Addr} {rs:List (List Str)} (R:RowsR H l as rs) (k:Kp [Pt] H H') (T:TabA H Pt):RowsR H' l as rs :=
 ⟨k l _ R.top (nm1 (T.off R.top fun _ z=>nomatch z)),R.len,fun i a r e1 e2=>k a _ (R.row i a r e1 e2) (nm1 (T.off (R.row i a r e1 e2) fun _ z=>nomatch z))⟩
theorem RowsR.rev {p:Addr} {as:List Addr} {rs:List (List Str)} (R:RowsR H l as rs) (k:Kp [] H H') (hp:H' p=some (.lst (as.map V.ref).reverse)):RowsR H' p as.reverse rs.reverse:=by
 refine ⟨by rw [hp,List.map_reverse],by rw [qCR,qCR,R.len],fun i a r e1 e2=>?_⟩;have hi:=(qAV.mp e1).1;rw [qCR] at hi;rw [qDQ hi] at e1;rw [qDQ (by rw [<-R.len];exact hi),<-R.len] at e2;exact k _ _ (R.row _ a r e1 e2) (by simp)
inductive Pp| blk (bs:List (List Str))| beh (n:Int)| ahd (n:Int)
def PAt (H:Hp) (t:Addr):Pp->Prop
 | .blk bs=>∃(bl:Addr) (as:List Addr),H t=some (.tup [.str "blocks",.ref bl])/\RowsR H bl as bs/\bs.length<=20
 | .beh n=>H t=some (.tup [.str "behind",.int n])
 | .ahd n=>H t=some (.tup [.str "ahead",.int n])
def Pp.mir:Pp->Pp
 | .blk bs=>.blk bs.reverse
 | .beh n=>.ahd n
 | .ahd n=>.beh n
theorem PAt.kpT (h:PAt H t p) (k:Kp [Pt] H H') (T:TabA H Pt):PAt H' t p:=by
 have u:∀{xs:List V},H t=some (.tup xs)->H' t=some (.tup xs):=fun e=>k _ _ e (nm1 (T.off e fun _ z=>nomatch z))
 cases p with
 | blk bs =>
  obtain ⟨bl,as,h1,h2,h3⟩:=h;exact ⟨bl,as,u h1,h2.kpT k T,h3⟩
 | beh n=>exact u h
 | ahd n=>exact u h
def PG (J:JR):Pp->Prop
 | .blk bs=>BlkG J bs
 | .beh n=>0<=n/\n<10^70
 | .ahd n=>0<=n/\n<10^70
def PZ (J:JR) (ks:List (List Str×Addr)) (b z:Int):Pp->Prop
 | .blk bs=>BlkG J bs/\blkN b bs=z
 | .beh n=>0<=n/\∀(F:List Str) (f:Str->Int),HF (behJ J) F f->F.Perm J.ns->numN F f b n=z
 | .ahd n=>0<=n/\∀(F:List Str) (f:Str->Int),ToldH J.ns ks F f->numN F f b n=z
def DZ (ns:List Str) (L:Str->List Str) (b z:Int):Pp->Prop
 | .blk bs=>z=blkN b bs
 | .beh n=>∃(G:List Str) (g:Str->Int),HF L G g/\G.Perm ns/\z=numN ns g b n
 | .ahd n=>∃(G:List Str) (g:Str->Int),HF (ahL ns L) G g/\G.Perm ns/\z=numN ns g b n
theorem pap_of {ks:List (List Str×Addr)} {b z:Int} {p:Pp} {Q:Int->Prop} (h:PAt H t p) (hz:PZ J ks b z p) (q:Q z):Pap H J ks b t Q:=by
 cases p with
 | blk bs =>
  obtain ⟨bl,as,h1,h2,h3⟩:=h;exact .inl ⟨bl,as,bs,h1,h2,h3,hz.1,by rw [hz.2];exact q⟩
 | beh n=>exact .inr (.inl ⟨n,hz.1,h,fun F f a c=>by rw [hz.2 F f a c];exact q⟩)
 | ahd n=>exact .inr (.inr ⟨n,hz.1,h,fun F f a=>by rw [hz.2 F f a];exact q⟩)
theorem due_of {L:Str->List Str} {Q:Int->Prop} (h:PAt H t p) (g:PG J p) (q:∀z,DZ ns L b z p->Q z):Due H ns L b t Q:=by
 cases p with
 | blk bs =>
  obtain ⟨bl,as,h1,h2,h3⟩:=h;exact .inl ⟨bl,as,bs,h1,h2,h3,q _ rfl⟩
 | beh n=>exact .inr (.inl ⟨n,g.1,g.2,h,fun G g a c=>q _ ⟨G,g,a,c,rfl⟩⟩)
 | ahd n=>exact .inr (.inr ⟨n,g.1,g.2,h,fun G g a c=>q _ ⟨G,g,a,c,rfl⟩⟩)
theorem al_of {K:PySem.W.Frag} {t':Addr} (h:PAt H t p) (h':PAt H t' p):∃xs ys,SqT K H t xs/\SqT K H t' ys/\xs.length=ys.length/\∀(i:Nat) (x y:V),xs[i]?=some x->ys[i]?=some y->AlD K H 8 x y:=by
 cases p with
 | blk bs =>
  obtain ⟨bl,as,h1,R,h3⟩:=h;obtain ⟨bl',as',h1',R',h3'⟩:=h';refine ⟨_,_,SqT.of h1,SqT.of h1',rfl,fun i x y e1 e2=>?_⟩
  match i,e1,e2 with
  | 0,e1,e2=>cases e1;cases e2;exact .inl (.flat rfl)
  | 1,e1,e2 =>
   cases e1;cases e2
   refine .inl (.lists (SqL.of R.top) (SqL.of R'.top) (by rw [qAD,qAD,R.len,R'.len]) fun j x y e1 e2=>?_)
   have hj:j<bs.length:=by
    have:=(qAV.mp e1).1;rw [qAD,R.len] at this;exact this
   obtain ⟨a,B,_,eB,ev,ha⟩:=R.at hj;obtain ⟨a',B',_,eB',ev',ha'⟩:=R'.at hj;rw [ev] at e1;rw [ev'] at e2
   cases e1;cases e2
   rw [eB] at eB'
   cases eB'
   refine .lists (SqL.of ha) (SqL.of ha') rfl fun m x y e1 e2=>?_;rw [e1] at e2
   cases e2
   obtain ⟨u,_,rfl⟩:=zAw e1;exact .flat rfl
  | i+2,e1,_=>cases e1
 | beh n =>
  refine ⟨_,_,SqT.of h,SqT.of h',rfl,fun i x y e1 e2=>?_⟩
  match i,e1,e2 with
  | 0,e1,e2=>cases e1;cases e2;exact .inl (.flat rfl)
  | 1,e1,e2=>cases e1;cases e2;exact .inl (.flat rfl)
  | i+2,e1,_=>cases e1
 | ahd n =>
  refine ⟨_,_,SqT.of h,SqT.of h',rfl,fun i x y e1 e2=>?_⟩
  match i,e1,e2 with
  | 0,e1,e2=>cases e1;cases e2;exact .inl (.flat rfl)
  | 1,e1,e2=>cases e1;cases e2;exact .inl (.flat rfl)
  | i+2,e1,_=>cases e1
section
variable {C:Addr} {H:Hp} {j:Addr} {J:JR} {qs ks:List (List Str×Addr)} {r:Str->Nat} {L:Str->List Str} {b z:Int} {p:Pp}
theorem pz_of (A:JobsAt C H j J) (G:Good J.ns qs r) (hz:∀k,k∈J.zs.map (·.1)↔k∈qs.map (·.1)) (two:∀q∈qs,∃a b,q.1=[a,b]) (ek:ks.map (·.1)=qs.map fun q=>q.1.reverse) (hL:∀n∈J.ns,(L n).Nodup/\∀x,x∈L n↔Way qs n x) (g:PG J p) (d:DZ J.ns L b z p):PZ J ks b z p:=by
 cases p with
 | blk bs=>exact ⟨g,d.symm⟩
 | beh n =>
  obtain ⟨G',g',h1,h2,rfl⟩:=d;exact ⟨g.1,fun F f hf pm=>zGp G.nd ⟨pm,behJ J,hf,dec_J A G hz,beh_way A G hz two⟩ h1 h2 hL⟩
 | ahd n =>
  obtain ⟨G',g',h1,h2,rfl⟩:=d;exact ⟨g.1,fun F f T=>zGp G.nd T h1 h2 (ahL_way G two ek hL)⟩
theorem pz_mir {j':Addr} {J':JR} (A:JobsAt C H j J) (G:Good J.ns qs r) (hz:∀k,k∈J.zs.map (·.1)↔k∈qs.map (·.1)) (two:∀q∈qs,∃a b,q.1=[a,b]) (ek:ks.map (·.1)=qs.map fun q=>q.1.reverse) (hL:∀n∈J.ns,(L n).Nodup/\∀x,x∈L n↔Way qs n x) (g:PG J p) (d:DZ J.ns L b z p)
  {r':Str->Nat} (A':JobsAt C H' j' J') (en:J'.ns=J.ns) (G':Good J'.ns ks r') (hk:∀k,k∈J'.zs.map (·.1)↔k∈ks.map (·.1)):PZ J' qs b z p.mir:=by
 obtain ⟨two',ek'⟩:=two_rev two ek
 cases p with
 | blk bs=>exact ⟨BlkG.rev g en fun n hn m hm hS=>(S_way A' G' hk (by rw [en];exact hm)).mpr ((way_rev two ek).mpr ((S_way A G hz hn).mp hS)),by rw [blkN_rev];exact d.symm⟩
 | beh n =>
  obtain ⟨G1,g',h1,h2,rfl⟩:=d;refine ⟨g.1,fun F f T=>?_⟩;rw [en] at T;exact zGp G.nd T h1 h2 hL
 | ahd n =>
  obtain ⟨G1,g',h1,h2,rfl⟩:=d;refine ⟨g.1,fun F f hf pm=>?_⟩;have T:ToldH J'.ns ks F f:=⟨pm,behJ J',hf,dec_J A' G' hk,beh_way A' G' hk two'⟩;rw [en] at T;exact zGp G.nd T h1 h2 (ahL_way G two ek hL)
end
def OwnB (H H1:Hp) (th:Addr) (p:Pp):Prop:=∀bs,p= .blk bs->∃(bl:Addr) (as:List Addr),H1 th=some (.tup [.str "blocks",.ref bl])/\RowsR H1 bl as bs/\bs.length<=20/\Fre H bl/\∀a∈as,a≠bl
theorem OwnB.kpT {H1:Hp} {th:Addr} (h:OwnB H H1 th p) (k:Kp [Pt] H1 H2) (T:TabA H1 Pt):OwnB H H2 th p:=fun bs e=>by
 obtain ⟨bl,as,h1,h2,h3⟩:=h bs e;exact ⟨bl,as,k _ _ h1 (nm1 (T.off h1 fun _ z=>nomatch z)),h2.kpT k T,h3⟩
theorem kp_back {M:List Addr} {d:Addr} {o:HO} (hd:H d=some o) (k:Kp (d::M) H H2):Kp M H (upd H2 d o):=fun c o' h n=>by
 by_cases e:c=d
 ·subst e;rw [upd_same,<-h];exact hd.symm
 ·rw [upd_ne e];refine k c o' h fun z=>?_;rcases qAP.mp z with y| y
  ·exact e y
  ·exact n y
end My
namespace L2
open PySem PySem.Spec PyProof.Rows
section
variable {X:Cx}
theorem vals_app:∀{xs ys:List V} {us ws:List Value},Vals xs us->Vals ys ws->Vals (xs++ys) (us++ws)
 | _,_,_,_,.nil,h=>h
 | _,_,_,_,.cons r h',h=>.cons r (vals_app h' h)
theorem vals_rev:∀{xs:List V} {us:List Value},Vals xs us->Vals xs.reverse us.reverse
 | _,_,.nil=>.nil
 | _,_,.cons r h=>by
  rw [qDP,qDP];exact vals_app (vals_rev h) (.cons r .nil)
end
section
variable {X:Cx}
theorem pick_revL (its:List Value) (h:its.length<=40):slicePick its.toArray none none (some (-1))=its.reverse.toArray:=by
 have e:∀n,n<=40->sliceRange (sliceBounds none none (some (-1)) n).fst (sliceBounds none none (some (-1)) n).snd.fst (sliceBounds none none (some (-1)) n).snd.snd=(List.range n).reverse:=by decide +kernel
 unfold slicePick;rw [e _ (by rw [qAO];exact h)]
 have r:∀k,k<=its.length->(List.range k).filterMap (fun x=>its.toArray[x]?)=its.take k:=by
  intro k
  induction k with
  | zero=>intro _;rfl
  | succ k ih =>
   intro hk;rw [List.range_succ,List.filterMap_append,ih (by lia),List.take_add_one];congr 1;rw [qBp,qDG,qAn (by lia)];rfl
 rw [List.filterMap_reverse,qAO,r _ (qAG _),qAd]
def tRevL (te:TE) (tk:TO):TE:=fun σ H Q=>te σ H fun x H1=>tk σ H1 fun k H2=>k=some (-1)/\∃a xs,x= .ref a/\SqL X.K H2 a xs/\xs.length<=40/\∀p,H2 p=none->Q (.ref p) (upd H2 p (.lst xs.reverse))
theorem pe_revL {e ek:Expr} {te:TE} {tk:TO} {p2 pos:Pos} (he:PE X e te) (hk:PO X (some ek) tk) {ops:Value->Value->List Value} (hops:∀v w,subscripted (.Slice none none (some ek) p2) false v w=operate (ops v w) (getItem v w):=by intros;with_unfolding_all rfl):PE X (.Subscript e (.Slice none none (some ek) p2) pos) (tRevL (X:=X) te tk):=by
 intro pins s σ H Q I h;refine Subscript_ (thn (he pins s σ H _ I h) fun v s1 ⟨x,H1,I1,r1,q1⟩=>?_);refine wpAny_Slice ?_;rw [evalPart_none];refine qAE (qAE ?_);refine thn (hk pins s1 σ H1 _ I1 q1) fun vk s3 ⟨k,H3,I3,pk,q3⟩=>?_;obtain ⟨rfl,a,xs,rfl,hx,h3,q⟩:=q3;have I4:Inv X pins σ H3 {s3 with heap:=s3.heap.push {cls:=.type "slice",data:=.fields #[.none,.none,vk]}}:=I3.kept (t':=s3.toks) fun b ob q=>qAL _ q
 cases r1
 obtain ⟨its,r,ht,hz⟩:=I4.list hx;have hlen:=r.length;show wpAny (model X.prog X.w) X.A (subscriptTail e (.Slice none none (some ek) p2) (.ref a) (.ref s3.heap.objs.size)) (EP X pins σ Q) X.xe {s3 with heap:=s3.heap.push {cls:=.type "slice",data:=.fields #[.none,.none,vk]}};refine tail_any (ops:=ops _ _) ht.isList.typeIs slot_list_getitem.lookup ?_ (hops _ _);refine wpAny_getItem_list_slice ht.isList (Heap.IsSliceOf.new ..) .none .none pk (by simp) ?_ (by rw [qAO]<;>lia);rw [pick_revL its (by lia)];refine ⟨.ref _,_,I4.laid (t':=s3.toks) (o:=.lst xs.reverse) (fun b ob q=>qAL _ q) (qAG _) ?_,rfl,q _ (I4.hok.fresh (qAG _))⟩;exact ⟨by rw [qCR];exact hz,_,0,vals_rev r,qAh _ rfl⟩
end
end L2
namespace My
open PySem L2
variable {P:Program}{w:World}{K:PySem.W.Frag}{mg:Str->Option Value}{base:Heap}{C:Addr}
variable {Pt C:Addr}{H H':Hp}
section
variable {X:Cx}
structure PEW (X:Cx) (e:Expr) (te:TE):Prop where
 to:PE X e te
structure PSW (X:Cx) (st:Stmt) (t:TS):Prop where
 to:PS X st t
theorem psw_ret {e:Expr} {te:TE} {pos:Pos} (h:PEW X e te):PSW X (.Return (some e) pos) (tRet te):=⟨zAk h.to⟩
theorem psw_two {a b:Stmt} {t u:TS} (h1:PSW X a t) (h2:PSW X b u):PSs X [a,b] (tSeq t u):=zAc h1.to (zAe h2.to)
theorem pew_tup {a b:Expr} {k:Nat} {pos:Pos} {ta tb:TE} (h1:PEW X a ta) (h2:PEW X b tb) (n1:zI6 a=true) (n2:zI6 b=true):PEW X (.Tuple [a,b] k pos) (tTup (tCons ta (tCons tb tNil))):=⟨zDv (zAa h1.to (zAa h2.to zAb (zGu n2)) (zGu n1))⟩
theorem pew_dget {o i:Expr} {td ty:TE} {pos:Pos} (hu:X.A.units+1<cLine) (h1:PEW X o td) (h2:PEW X i ty) (hs:NoSl i):PEW X (.Subscript o i pos) (tDGet td ty):=⟨zAz hu h1.to h2.to hs⟩
theorem pew_disp {k1 k2 v1 v2:Expr} {pos:Pos} {a b c d:TE} (h1:PEW X k1 a) (h2:PEW X v1 b) (h3:PEW X k2 c) (h4:PEW X v2 d):PEW X (.Dict [some k1,some k2] [v1,v2] pos) (tDisp [(a,b),(c,d)]):=⟨pe_disp (pps_cons h1.to h2.to (pps_cons h3.to h4.to pps_nil)) rfl rfl (by simp) (show (2:Nat)<=15 by decide)⟩
end
section
def zH5:Sp:=fun vs H Q _=>∃(t:Addr) (p:Pp),vs=[.ref t]/\PAt H t p/\∀(t':Addr) (H':Hp),PAt H' t' p.mir->Kp [] H H'->Q (.ref t') H'
abbrev zFn:Stmt:=top 59
theorem sc_mirrored:FnScope ["_law_paper_here"] ["_law_paper_here"] (zAd zFn):=fnS
theorem ok_mirrored {f:Addr} {fd:FuncData} (F:Fun K "_law_mirrored" "_law_mirrored" zFn f fd) (T:Txt K mg):FnOk P w K mg base CX0 1 f fd ["_law_paper_here"] zH5:=by
 refine F.ok sc_mirrored (fun vs H Q E h=>?_) (fun cdv A outer s H vs Q E hr h=>?_)
 ·obtain ⟨t,p,rfl,_⟩:=h;rfl
 ·obtain ⟨t,p,rfl,hp,k⟩:=h;have hu:=zD6 hr
  refine ⟨_,psw_two ⟨zA9 (zAj zDd (zAy zBk (pv 0) zAf (fun _ _=>rfl)) zB1 (zAl _))
    (zAe (zAk (zDv (zAa zB1 (zAa (pe_revL (zAy zBk (pv 0) zAf (fun _ _=>rfl)) (po_some (pe_un un_neg zAf))) zAb)))))
    zAn⟩
   (psw_ret (pew_tup (pew_dget hu (pew_disp ⟨zB1⟩ ⟨zB1⟩ ⟨zB1⟩ ⟨zB1⟩) ⟨zAy zBk (pv 0) zAf (fun _ _=>rfl)⟩ (fun _ _=>rfl)) ⟨zAy zBk (pv 0) zAf (fun _ _=>rfl)⟩ rfl rfl)),?_⟩
  cases p with
  | blk bs =>
   obtain ⟨bl,as,ht,R,l20⟩:=hp;refine ⟨_,rfl,_,_,_,_,rfl,rfl,SqT.of ht,rfl,rfl,_,rfl,?_⟩;refine iteT ?_;refine ⟨_,rfl,_,_,_,_,rfl,rfl,SqT.of ht,rfl,_,rfl,_,rfl,rfl,bl,_,rfl,SqL.of R.top,by rw [qAD,R.len];lia,fun z hz=>?_⟩;have fz:Fre H z:=hz;have k1:Kp [] H (upd H z (.lst (as.map V.ref).reverse)):=Kp.new Kp.refl fz;have e1:upd H z (.lst (as.map V.ref).reverse) z=some (.lst (as.map V.ref).reverse):=upd_same;generalize upd H z (.lst (as.map V.ref).reverse)=H1 at k1 e1;refine ⟨(by walk_at "ln"),fun t' ht'=>?_⟩;have ft:Fre H1 t':=ht';have k2:Kp [] H1 (upd H1 t' (.tup [.str "blocks",.ref z])):=Kp.new Kp.refl ft;exact k t' _ ⟨z,as.reverse,upd_same,(R.rev k1 e1).kp k2,by rw [qCR];exact l20⟩ (k1.trans k2)
  | beh n =>
   have ht:H t=_:=hp;refine ⟨_,rfl,_,_,_,_,rfl,rfl,SqT.of ht,rfl,rfl,_,rfl,?_⟩;refine iteF ?_;refine fun q hq=>⟨upd_same,[(Sum.inr "behind",V.str "ahead"),(Sum.inr "ahead",V.str "behind")],rfl,by decide,?_⟩;have k1:Kp [] H (upd (upd H q (.dK [])) q (.dK (zD2 [] [(Sum.inr "behind",V.str "ahead"),(Sum.inr "ahead",V.str "behind")]))):=Kp.new (Kp.new Kp.refl hq) hq;have e1:(upd (upd H q (.dK [])) q (.dK (zD2 [] [(Sum.inr "behind",V.str "ahead"),(Sum.inr "ahead",V.str "behind")]))) q=some (.dK [(Sum.inr "behind",V.str "ahead"),(Sum.inr "ahead",V.str "behind")]):=upd_same;generalize (upd (upd H q (.dK [])) q (.dK (zD2 [] [(Sum.inr "behind",V.str "ahead"),(Sum.inr "ahead",V.str "behind")])))=H1 at k1 e1;have ht1:=k1 _ _ ht (by simp);refine ⟨_,rfl,_,_,_,_,rfl,rfl,SqT.of ht1,rfl,q,_,rfl,DGet.k (k:=Sum.inr "behind") e1,_,rfl,_,_,_,_,rfl,rfl,SqT.of ht1,rfl,(by walk_at "ln"),fun t' ht'=>?_⟩;exact k t' _ upd_same (Kp.new k1 (k1.fre ht' (by simp)))
  | ahd n =>
   have ht:H t=_:=hp;refine ⟨_,rfl,_,_,_,_,rfl,rfl,SqT.of ht,rfl,rfl,_,rfl,?_⟩;refine iteF ?_;refine fun q hq=>⟨upd_same,[(Sum.inr "behind",V.str "ahead"),(Sum.inr "ahead",V.str "behind")],rfl,by decide,?_⟩;have k1:Kp [] H (upd (upd H q (.dK [])) q (.dK (zD2 [] [(Sum.inr "behind",V.str "ahead"),(Sum.inr "ahead",V.str "behind")]))):=Kp.new (Kp.new Kp.refl hq) hq;have e1:(upd (upd H q (.dK [])) q (.dK (zD2 [] [(Sum.inr "behind",V.str "ahead"),(Sum.inr "ahead",V.str "behind")]))) q=some (.dK [(Sum.inr "behind",V.str "ahead"),(Sum.inr "ahead",V.str "behind")]):=upd_same;generalize (upd (upd H q (.dK [])) q (.dK (zD2 [] [(Sum.inr "behind",V.str "ahead"),(Sum.inr "ahead",V.str "behind")])))=H1 at k1 e1;have ht1:=k1 _ _ ht (by simp);refine ⟨_,rfl,_,_,_,_,rfl,rfl,SqT.of ht1,rfl,q,_,rfl,DGet.k (k:=Sum.inr "ahead") e1,_,rfl,_,_,_,_,rfl,rfl,SqT.of ht1,rfl,(by walk_at "ln"),fun t' ht'=>?_⟩;exact k t' _ upd_same (Kp.new k1 (k1.fre ht' (by simp)))
end
section
def spAsked (C Pt:Addr):Sp:=fun vs H Q _=>∃(j l d t:Addr) (b:Int) (J:JR) (qs ks:List (List Str×Addr)) (r:Str->Nat) (la:Str->Addr) (L:Str->List Str) (p:Pp),vs=[.ref j,.ref l,.ref d,.int b,.ref t]/\JobsAt C H j J/\Good J.ns qs r/\(∀k,k∈J.zs.map (·.1)↔k∈qs.map (·.1))/\(∀q∈qs,∃a b,q.1=[a,b])/\ks.map (·.1)=(qs.map fun q=>q.1.reverse)/\Txs H l J.ns/\DR H d J.ns la L/\(∀n∈J.ns,la n≠d)/\(∀n∈J.ns,(L n).Nodup/\∀x,x∈L n↔Way qs n x)/\1<=b/\b<10^100/\TabA H Pt/\PAt H t p/\PG J p/\∀H',Kp [Pt] H H'->TabA H' Pt->Q (.bl true) H'
abbrev zIx:Stmt:=top 60
theorem zEb:FnScope ["_law_jobs_here", "_law_names_here", "_law_behind_here", "_law_benches_here", "_law_paper_here", "_law_handed", "_law_due_here", "_law_again", "_law_found", "_law_last"] ["_law_jobs_here", "_law_names_here", "_law_behind_here", "_law_benches_here", "_law_paper_here"] (zAd zIx):=fnS
theorem ok_asked {f:Addr} {fd:FuncData} (F:Fun K "_law_asked" "_law_asked" zIx f fd) (T:Txt K mg) (U:JC K mg C) (C_copied:Cal P w K mg base "_law_copied" 1 ["_law_paper_here"] spCopied) (C_due:Cal P w K mg base "_law_due" 3 ["_law_names_here", "_law_behind_here", "_law_benches_here", "_law_paper_here"] spDue) (C_shown:Cal P w K mg base "shown" 10 ["jobs", "benches", "paper"] (spShown C Pt)) (C_whole:Cal P w K mg base "_law_whole" 1 ["_law_found"] zGv) (C_mirrored:Cal P w K mg base "_law_mirrored" 1 ["_law_paper_here"] zH5) (M_turned:Mth P w K mg base C "turned" 6 ["self"] (zIp C)):FnOk P w K mg base CX0 11 f fd ["_law_jobs_here", "_law_names_here", "_law_behind_here", "_law_benches_here", "_law_paper_here"] (spAsked C Pt):=by
 refine F.ok zEb (fun vs H Q E h=>?_) (fun cdv A outer s H vs Q E hr h=>?_)
 ·obtain ⟨j,l,d,t,b,J,qs,ks,r,la,L,p,rfl,_⟩:=h;rfl
 ·obtain ⟨j,l,d,t,b,J,qs,ks,r,la,L,p,rfl,A0,G,hz,two,ek,hl,D0,ne0,hL,b1,b2,T0,hp,g,k⟩:=h;have hr1:=hr.mono (j:=1) (by decide);have hr3:=hr.mono (j:=3) (by decide);have hr6:=hr.mono (j:=6) (by decide);have hu9:(A.deeper (PyProof.Rows.envOfC (Str.ofString "_law_asked") (zAd zIx) s.heap.objs.size f cdv)).units+2+8<cLine:=by have:=hu2 hr (n:=9);lia
  refine ⟨_,(zAc (psS (i:=5) zEb.nd (zAg C_copied hr1 rfl (zAa (pv 4) zAb)))
   (zAc (psS (i:=6) zEb.nd (zAg C_due hr3 rfl (zAa (pv 1) (zAa (pv 2) (zAa (pv 3) (zAa (pv 4) zAb))))))
   (zAc (zA8 qAi rfl (zDa rfl T.z_range (zAa zAf zAb)) (pgN (i:=7) zEb.nd)
    (zAc (psS (i:=8) zEb.nd (zAg C_shown hr rfl (zAa (pv 0) (zAa (pv 3) (zAa (pv 5) zAb)))))
    (zAe (zA9 (PW.pt (pw_or (zCf (zCo (zAg C_whole hr1 rfl (zAa (pv 8) zAb)))) (pw_or (zAj op_ne (pv 8) (pv 6) (zAl _)) (zH9 (zAj (op_neT (n:=8) hu9) (pv 5) (pv 4) (zAl _))))))
     (zAe (zAk pe_bl))
     zAn))))
   (zAc (zA9 (PW.pt (zIa (zAj zDd (zAy zBk (pv 4) zAf (fun _ _=>rfl)) zB1 (zAl _)) (zFp (zAj (zI2 hr1) (zAy zBk (pv 4) zAf (fun _ _=>rfl)) (zBe zAb) (zAl _)))))
    (zAc (psS (i:=9) zEb.nd (pe_bm0 qBA qDe qDf mt_pop (zAy zBk (pv 5) zAf (fun _ _=>rfl))))
    (zAc (zA9 (zAj op_ne (zAg C_shown hr rfl (zAa (pv 0) (zAa (pv 3) (zAa (pv 5) zAb)))) (zAp zD1 (pv 6) (zAp zE4 (zAp zD1 (zAp zBj (zAi zAm (by rfl) T.z_len zBt (zAa (pv 9) zAb)) (pv 3)) zAf) (pv 3))) (zAl _))
     (zAe (zAk pe_bl))
     zAn)
    (zAe (zA2 (zGb qBA qCv qCw zDe (zAy zBk (pv 5) zAf (fun _ _=>rfl)) (zAa (pv 9) zAb))))))
    zAn)
   (zAe (zAk (zIb (zBz zDd (zAg C_shown hr rfl (zAa (pv 0) (zAa (pv 3) (zAa (pv 5) zAb)))) (pv 6) (zAl _)) (zG6 (zBz zDd (zAg C_shown hr rfl (zAa (zDb M_turned U.cl hr6 (pv 0)) (zAa (pv 3) (zAa (zAg C_mirrored hr1 rfl (zAa (pv 4) zAb)) zAb)))) (pv 6) (zAl _)))))))))),?_⟩
  refine midS (fun σ H1=>∃th:Addr,σ=[some (.ref j),some (.ref l),some (.ref d),some (.int b),some (.ref t),some (.ref th),none,none,none,none]/\Kp [] H H1/\PAt H1 th p/\OwnB H H1 th p) ?_ (fun key=>?_)
  rotate_left
  ·refine ⟨_,rfl,t,rfl,?_⟩
   cases p with
   | blk bs =>
    obtain ⟨bl,as,ht,R,l20⟩:=hp;exact .inl ⟨bl,as,bs,ht,R,l20,fun t' bl' as' H' ft fbl fas e R' k'=>key _ _ ⟨t',rfl,k',⟨bl',as',e,R',l20⟩,fun _ z=>by cases z;exact ⟨bl',as',e,R',l20,fbl,fun a ha=>(fas a ha).2⟩⟩⟩
   | beh n=>exact .inr ⟨"behind",n,by decide,hp,key _ _ ⟨t,rfl,Kp.refl,hp,fun _ z=>nomatch z⟩⟩
   | ahd n=>exact .inr ⟨"ahead",n,by decide,hp,key _ _ ⟨t,rfl,Kp.refl,hp,fun _ z=>nomatch z⟩⟩
  rintro σ H1 ⟨th,rfl,k1,p1,own1⟩;have T1:=T0.kp k1;have w0:∀{H H':Hp},Kp [] H H'->Kp [Pt] H H':=fun k=>k.weak (by simp);have GR:=G.rev two ek;obtain ⟨two',ek'⟩:=two_rev two ek;refine midS (fun σ H2=>∃z:Int,σ=[some (.ref j),some (.ref l),some (.ref d),some (.int b),some (.ref t),some (.ref th),some (.int z),none,none,none]/\Kp [] H H2/\PAt H2 th p/\OwnB H H2 th p/\DZ J.ns L b z p) ?_ (fun key=>?_)
  rotate_left
  ·exact ⟨_,rfl,_,rfl,_,rfl,_,rfl,l,d,t,b,J.ns,la,L,rfl,k1 _ _ hl (by simp),D0.kp0 k1,ne0,G.nd,G.few,dec_L G two hL,fun n hn=>(hL n hn).1,dec_L GR two' (ahL_way G two ek hL),b1,b2,due_of (hp.kpT (w0 k1) T0) g fun z dz H2 k2=>key _ _ ⟨z,rfl,k1.trans k2,p1.kpT (w0 k2) T1,own1.kpT (w0 k2) T1,dz⟩⟩
  clear own1 p1 T1 k1;rintro σ H2 ⟨z,rfl,k2,p2,own2,dz⟩;have T2:=T0.kp k2;have pz:=pz_of A0 G hz two ek hL g dz;have A2:=A0.kp0 k2;have hp2:=hp.kpT (w0 k2) T0;refine ⟨2,rfl,by decide,by decide,?_⟩;refine zCb (lo:=0) (n:=2) (fun i σ H3=>(∃o7 o8 o9:Option V,σ=[some (.ref j),some (.ref l),some (.ref d),some (.int b),some (.ref t),some (.ref th),some (.int z),o7,o8,o9])/\Kp [Pt] H2 H3/\TabA H3 Pt) ⟨⟨_,_,_,rfl⟩,Kp.refl,T2⟩ ?_ ?_
  ·rintro i σ H3 hi ⟨⟨o7,o8,o9,rfl⟩,k3,T3⟩;refine ⟨_,rfl,_,rfl,_,rfl,j,th,b,J,qs,ks,r,rfl,A2.kpT k3 T2,G,hz,two,ek,b1,b2,T3,pap_of (p2.kpT k3 T2) pz fun H4 k4 T4=>?_⟩;refine ⟨_,rfl,z,rfl,_,rfl,iteF ?_⟩;refine ⟨_,rfl,_,rfl,rfl,_,rfl,?_⟩;rw [show (!decide (V.int z=V.int z))=false by simp];refine iteF ?_;have k24:=k3.trans k4;obtain ⟨xs,ys,s1,s2,s3,s4⟩:=al_of (K:=K) (p2.kpT k24 T2) (hp2.kpT k24 T2);refine ⟨_,rfl,_,rfl,th,t,xs,ys,rfl,rfl,s1,s2,s3,s4,_,rfl,iteF ?_⟩;exact ⟨⟨_,_,_,rfl⟩,k24,T4⟩
  rintro σ H3 ⟨⟨o7,o8,o9,rfl⟩,k3,T3⟩;dsimp only;refine midS (fun σ H4=>(∃o7 o8 o9:Option V,σ=[some (.ref j),some (.ref l),some (.ref d),some (.int b),some (.ref t),some (.ref th),some (.int z),o7,o8,o9])/\Kp [Pt] H2 H4/\TabA H4 Pt) ?_ (fun key=>?_)
  ·rintro σ H4 ⟨⟨o7,o8,o9,rfl⟩,k4,T4⟩;have A4:=A2.kpT k4 T2;refine ⟨_,rfl,_,rfl,_,rfl,j,th,b,J,qs,ks,r,rfl,A4,G,hz,two,ek,b1,b2,T4,pap_of (p2.kpT k4 T2) pz fun H5 k5 T5=>?_⟩;have A5:=A4.kpT k5 T4;refine ⟨_,rfl,rfl,_,rfl,?_⟩;rw [show decide (V.int z=V.int z)=true by simp];refine iteT ?_;refine ⟨_,rfl,j,J.dx,_,rfl,A5.ob,zJc _ _ _ (by decide +kernel) (by decide +kernel) (by decide +kernel),j,J,r,rfl,A5,G.keys hz A5.zfew,fun x J' H6 fx A6 _ en hz' k6=>?_⟩;have hk:=rev_keys hz' hz ek;have T6:=T5.kp k6;have k26:=(k4.trans k5).trans (w0 k6);refine ⟨_,rfl,_,rfl,t,p,rfl,hp2.kpT k26 T2,fun t' H7 p7 k7=>?_⟩;have G':Good J'.ns ks (fun x=>topR r J.ns - r x):=by rw [en];exact GR
   refine ⟨x,t',b,J',ks,qs,_,rfl,A6.kp0 k7,G',hk,two',ek',b1,b2,T6.kp k7,pap_of p7 (pz_mir A0 G hz two ek hL g dz A6 en G' hk) fun H8 k8 T8=>?_⟩;refine ⟨_,rfl,rfl,?_⟩;rw [show decide (V.int z=V.int z)=true by simp];exact k H8 ((w0 k2).trans ((k26.trans (w0 k7)).trans k8)) T8
  ·cases p with
   | blk bs =>
    obtain ⟨bl,as,ht,R,l20⟩:=hp2.kpT k3 T2;refine ⟨_,rfl,_,_,_,_,rfl,rfl,SqT.of ht,rfl,rfl,_,rfl,?_⟩;refine iteT ?_;refine ⟨_,rfl,_,_,_,_,rfl,rfl,SqT.of ht,rfl,(by walk_at "ln"),fun e he=>?_⟩;have k4:Kp [] H3 (upd H3 e (.lst [])):=Kp.new Kp.refl he;have e4:upd H3 e (.lst []) e=some (.lst []):=upd_same;generalize upd H3 e (.lst [])=H4 at k4 e4;have T4:=T3.kp k4;have k24:=k3.trans (w0 k4);refine zEq (SqL.of (k4 _ _ R.top (by simp))) (SqL.of e4) fun bb hbb=>?_;refine ⟨_,rfl,ite2 (fun c=>?_) (fun c=>?_)⟩
    ·have c:=hbb c;obtain ⟨bl',as',h1,R',_,fbl,fas⟩:=own2.kpT k24 T2 bs rfl
     obtain ⟨bs0,B,rfl⟩:∃bs0 B,bs=bs0++[B]:=by
      have:bs≠[]:=fun z=>c (by rw [qB0,<-qBy,R.len,z];rfl);exact ⟨bs.dropLast,bs.getLast this,(qDL this).symm⟩
     obtain ⟨as0,a,rfl⟩:∃as0 a,as'=as0++[a]:=by
      have:as'≠[]:=fun z=>by have:=R'.len;rw [z,qAU] at this;simp at this
      exact ⟨as'.dropLast,as'.getLast this,(qDL this).symm⟩
     have ln0:as0.length=bs0.length:=by have:=R'.len;simp only [qAU,qA8] at this;lia
     have eA:(as0++[a]).map V.ref=as0.map V.ref++[.ref a]:=by rw [qAQ];rfl
     have top:H4 bl'=some (.lst (as0.map V.ref++[.ref a])):=by rw [<-eA];exact R'.top
     have ha:H4 a=some (.lst (B.map V.str)):=R'.row as0.length a B (by simp) (by rw [ln0];simp);refine ⟨_,rfl,_,_,_,_,rfl,rfl,SqT.of h1,rfl,.inl ⟨rfl,_,SqL.of top⟩,bl',_,.ref a,rfl,rfl,top,(by simp),?_⟩;rw [List.dropLast_concat];have k5:Kp [bl'] H4 (upd H4 bl' (.lst (as0.map V.ref))):=Kp.put Kp.refl (by simp);have e5:upd H4 bl' (.lst (as0.map V.ref)) bl'=some (.lst (as0.map V.ref)):=upd_same;generalize upd H4 bl' (.lst (as0.map V.ref))=H5 at k5 e5 ⊢;have T5:=T4.kpD top k5;have h5:=k5 _ _ h1 (nm1 (zBq h1 top fun z=>nomatch z));have R5:RowsR H5 bl' as0 bs0:=⟨e5,ln0,fun i x y e1 e2=>k5 _ _ (R'.row i x y (by rw [qA6 (qAV.mp e1).1];exact e1) (by rw [qA6 (qAV.mp e2).1];exact e2)) (nm1 (fas x (qAc _ (qAI e1))))⟩;have k05:Kp [Pt] H H5:=zFs ((w0 k2).trans k24) fbl k5;have zb:z=blkN b bs0+tf (B.length:Int) b:=by rw [<-blkN_last];exact dz
     have l20':bs0.length<=20:=by rw [qAU] at l20;lia
     refine gN ?_;dsimp only;refine ⟨_,rfl,_,rfl,_,rfl,j,th,b,J,qs,ks,r,rfl,A0.kpT k05 T0,G,hz,two,ek,b1,b2,T5,pap_of (p:=.blk bs0) (z:=blkN b bs0) ⟨bl',as0,h5,R5,l20'⟩ ⟨BlkG.cut g,rfl⟩ fun H6 k6 T6=>?_⟩;have ha6:=k6 _ _ (k5 _ _ ha (nm1 (fas a (by simp)))) (nm1 (T5.off (k5 _ _ ha (nm1 (fas a (by simp)))) fun _ z=>nomatch z));refine ⟨_,rfl,_,rfl,_,_,rfl,.inl (SqL.of ha6),_,rfl,_,_,rfl,rfl,_,_,rfl,rfl,_,rfl,_,_,rfl,rfl,⟨by lia,b2⟩,_,_,rfl,rfl,rfl,_,rfl,?_⟩;rw [qAD,show (!decide (V.int (blkN b bs0)=V.int (z - ((B.length:Int)+b - 1) / b)))=false by rw [zb];unfold tf;simp];refine iteF ?_;have h6:=k6 _ _ h5 (nm1 (T5.off h5 fun _ z=>nomatch z));have e6:=k6 _ _ e5 (nm1 (T5.off e5 fun _ z=>nomatch z));refine ⟨_,rfl,_,_,_,_,rfl,rfl,SqT.of h6,rfl,.inl ⟨rfl,_,SqL.of e6⟩,_,rfl,bl',_,_,rfl,rfl,e6,by rw [qAD,qAJ];lia,?_⟩;have k26:Kp (bl'::[Pt]) H4 H6:=(k5.weak (by simp)).trans (k6.weak (by simp));refine key _ _ ⟨⟨_,_,_,rfl⟩,k24.trans (kp_back top k26),T6.kpD e6 (Kp.put Kp.refl (by simp))⟩
    ·exact key _ _ ⟨⟨_,_,_,rfl⟩,k24,T4⟩
   | beh n =>
    refine ⟨_,rfl,_,_,_,_,rfl,rfl,SqT.of (hp2.kpT k3 T2),rfl,rfl,_,rfl,?_⟩;exact iteF (key _ _ ⟨⟨_,_,_,rfl⟩,k3,T3⟩)
   | ahd n =>
    refine ⟨_,rfl,_,_,_,_,rfl,rfl,SqT.of (hp2.kpT k3 T2),rfl,rfl,_,rfl,?_⟩;exact iteF (key _ _ ⟨⟨_,_,_,rfl⟩,k3,T3⟩)
end
theorem JobsAt.put {b j:Addr} {xs:List V} {J:JR} (A:JobsAt C H j J) (hb:H b=some (.lst xs)) (o:J.r≠b/\J.p≠b) (k:Kp [b] H H'):JobsAt C H' j J:=A.kp k fun a _ _ m=>by
 rw [qAR.mp m];exact ⟨zBq hb A.ob (fun z=>nomatch z),o.1.symm,o.2.symm,zBq hb A.abv (fun z=>nomatch z),fun q hq=>zBq hb (A.prs.row q hq) (fun z=>nomatch z),fun n hn=>zBq hb (A.sets n hn) (fun z=>nomatch z)⟩
theorem Good.take {ns:List Str} {qs:List (List Str×Addr)} {r:Str->Nat} (G:Good ns qs r) (h:Nat):Good ns (qs.take h) r:=⟨G.nm,G.nd,G.few,qAY (by rw [qAW];lia) G.qfew,fun q hq=>G.qin q (qBS hq),fun q hq=>G.rk q (qBS hq)⟩
structure JX where
 m:Addr
 qs:List (List Str×Addr)
 j:Addr
 J:JR
structure JxOk (C:Addr) (ns:List Str) (r:Str->Nat) (H:Hp) (e:JX):Prop where
 od:Ords H e.m e.qs
 gd:Good ns e.qs r
 jo:JobsAt C H e.j e.J
 ns:e.J.ns=ns
 zs:∀k,k∈e.J.zs.map (·.1)↔k∈e.qs.map (·.1)
theorem JxOk.kpT {ns:List Str} {r:Str->Nat} {e:JX} (E:JxOk C ns r H e) (k:Kp [Pt] H H') (T:TabA H Pt):JxOk C ns r H' e:=⟨⟨k _ _ E.od.top (nm1 (T.off E.od.top fun _ z=>nomatch z)),fun q hq=>k _ _ (E.od.row q hq) (nm1 (T.off (E.od.row q hq) fun _ z=>nomatch z)),E.od.two⟩,E.gd,E.jo.kpT k T,E.ns,E.zs⟩
theorem PapQ.at {J:JR} {t:Addr} (h:PapQ H H' J t):∃p,PAt H' t p/\PG J p:=by
 rcases h with ⟨bl,as,bs,h1,_,_,h2,h3,h4⟩| ⟨wd,n,rfl| rfl,h1,h2,h3⟩
 ·exact ⟨.blk bs,⟨bl,as,h1,h2,h3⟩,h4⟩
 ·exact ⟨.beh n,h3,h1,h2⟩
 ·exact ⟨.ahd n,h3,h1,h2⟩
section
theorem Kp.seqT {a:Addr} {xs:List V} (k:Kp [Pt] H H') (T:TabA H Pt) (h:SqL K H a xs):SqL K H' a xs:=by
 rcases h with h| h
 ·rcases h with h| ⟨o,h⟩
  ·exact .inl (.inl (k a _ h (nm1 (T.off h fun _ z=>nomatch z))))
  ·exact .inl (.inr ⟨o,k a _ h (nm1 (T.off h fun _ z=>nomatch z))⟩)
 ·exact .inr h
def spLaw (K:PySem.W.Frag) (Pt:Addr):Sp:=fun vs H Q _=>∃(a:Addr) (ns:List Int),vs=[.ref a]/\SqL K H a (ns.map V.int)/\ns.length<=63/\TabA H Pt/\∀H',Q (.bl true) H'
abbrev s_law:Stmt:=top 61
theorem zEi:FnScope ["_law_script", "_law_purse_here", "_law_names_here", "_law_orders", "_law_drawn", "_law_made", "_law_k", "_law_behind_here", "_law_other", "_law_benches_here"] ["_law_script"] (zAd s_law):=fnS
theorem ok_law {f:Addr} {fd:FuncData} (F:Fun K "law" "law" s_law f fd) (T:Txt K mg) (U:JC K mg C) (C_cell:Cal P w K mg base "_law_cell" 1 ["_law_script", "_law_k"] (spCell K)) (C_purse:Cal P w K mg base "_law_purse" 1 ["_law_cell_here", "_law_k"] spPurse)
  (C_jobs:Cal P w K mg base "_law_jobs" 3 ["_law_purse_here", "_law_most"] spLJobs) (C_benches:Cal P w K mg base "_law_benches" 2 ["_law_purse_here"] zH6) (C_behind:Cal P w K mg base "_law_behind" 1 ["_law_names_here", "_law_orders"] spLBehind)
  (C_paper:Cal P w K mg base "_law_paper" 3 ["_law_purse_here", "_law_names_here", "_law_behind_here"] spLPaper) (C_asked:Cal P w K mg base "_law_asked" 11 ["_law_jobs_here", "_law_names_here", "_law_behind_here", "_law_benches_here", "_law_paper_here"] (spAsked C Pt))
  (M_Jobs:Mkr P w K mg base C "Jobs" 4 ["self", "names", "orders"] (spInit C)) (M_names:Mth P w K mg base C "names" 1 ["self"] (zIq C)) (M_orders:Mth P w K mg base C "orders" 1 ["self"] (spOrders C)):FnOk P w K mg base CX0 12 f fd ["_law_script"] (spLaw K Pt):=by
 refine F.ok zEi (fun vs H Q E h=>?_) (fun cdv A outer s H vs Q E hr h=>?_)
 ·obtain ⟨a,ns,rfl,_⟩:=h;rfl
 ·obtain ⟨sc,is,rfl,hS,hlen,T0,k⟩:=h;have hr1:=hr.mono (j:=1) (by decide);have hr2:=hr.mono (j:=2) (by decide);have hr3:=hr.mono (j:=3) (by decide);have HR5:Room 5 _:=hr.mono (j:=5) (by decide)
  refine ⟨_,(zAc (psS (i:=1) zEi.nd (zAg C_purse hr1 rfl (zAa (zAg C_cell hr1 rfl (zAa (pv 0) (zAa zAf zAb))) (zAa zAf zAb))))
   (zAc (ps_asg (zAg C_jobs hr3 rfl (zAa (pv 1) (zAa zAf zAb))) (pg_tup rfl (zBd (pgN (i:=2) zEi.nd) (zBd (pgN (i:=3) zEi.nd) zEo))))
   (zAc (psS (i:=4) zEi.nd (zBe (zAa (pv 3) (zAa (pe_slice sl_list (pv 3) po_none (po_some (zAp zI3 (zAi zAm (by rfl) T.z_len zBt (zAa (pv 3) zAb)) zAf))) zAb))))
   (zAc (zFq (i:=5) rfl (zA4 (sc:=zAd s_law) rfl (by decide +kernel)) (Draws.own (x:= "_law_some") (dtk (i:=2) rfl Draws.nil)) (zAo (pv 4)) (fun _ _ _ _=>(pgB (i:=0))) (fun _ _ _ _=>zB4) (fun _ _ _ _=>(pe_makeC M_Jobs HR5 rfl (zAa (zAv (zDr (K:=K)) (by rfl) T.z_list zCr (zAa (pv 1) zAb)) (zAa (zAv (zDr (K:=K)) (by rfl) T.z_list zCr (zAa (pv 0) zAb)) zAb)))) zEi.nd rfl rfl)
   (zAc (zA8 qAi rfl (pi_range2 rfl T.z_range (zAa zAf (zAa (zAi (call_max2 rfl) (by rfl) T.z_max bo_max (zAa zAf (zAa (zAi (call_min2 rfl) (by rfl) T.z_min bo_min (zAa zAf (zAa (zAi zAm (by rfl) T.z_len zBt (zAa (pv 0) zAb)) zAb))) zAb))) zAb))) (pgN (i:=6) zEi.nd)
    (zAc (psS (i:=7) zEi.nd (zAg C_behind hr1 rfl (zAa (pv 2) (zAa (zAy zBb (pv 4) (zAp zE3 (pv 6) zAf) (fun _ _=>rfl)) zAb))))
    (zAc (psS (i:=8) zEi.nd (zAg C_purse hr1 rfl (zAa (zAg C_cell hr1 rfl (zAa (pv 0) (zAa (pv 6) zAb))) (zAa (pv 6) zAb))))
    (zAc (psS (i:=9) zEi.nd (zAg C_benches hr2 rfl (zAa (pv 8) zAb)))
    (zAe (zA9 (zCf (zCo (zAg C_asked hr rfl (zAa (zAy zBb (pv 5) (zAp zE3 (pv 6) zAf) (fun _ _=>rfl)) (zAa (pv 2) (zAa (pv 7) (zAa (pv 9) (zAa (zAg C_paper hr3 rfl (zAa (pv 8) (zAa (pv 2) (zAa (pv 7) zAb)))) zAb))))))))
     (zAe (zAk pe_bl))
     zAn))))))
   (zAe (zAk (zIb (zBz (op_eqA (n:=8) (hu2 hr)) (zDb M_names U.cl hr1 (zAy zBb (pv 5) zAf (fun _ _=>rfl))) (pv 2) (zAl _)) (zG6 (zBz (op_eqA (n:=8) (hu2 hr)) (zDb M_orders U.cl hr1 (zAy zBb (pv 5) zAf (fun _ _=>rfl))) (zAi (zEk (P:=P) (w:=w) (K:=K) hr1) (by rfl) T.z_sorted zFh (zAa (zAv (zIk (P:=P) (w:=w) (K:=K) hr1) (by rfl) T.z_set bo_set (zAa (pv 3) zAb)) zAb)) (zAl _))))))))))),?_⟩
  have hs:=qAJ;have w0:∀{H H':Hp},Kp [] H H'->Kp [Pt] H H':=fun k=>k.weak (by simp);refine ⟨_,rfl,sc,is,0,rfl,hS,by decide,fun c0=>?_⟩;refine ⟨c0,0,rfl,by decide,by decide,fun p0 H1 fp0 P1 k1=>?_⟩;refine ⟨_,rfl,p0,20,rfl,by decide,by decide,P1,fun t l m ns qs r H2 _ _ ht ft fl fm fq hl hm G _ K2=>?_⟩;have k2:Kp [] H H2:=Kp.drop k1 fp0 K2;refine ⟨_,_,rfl,.inl (.inl ht),rfl,_,_,rfl,_,_,rfl,rfl,?_⟩;refine ⟨_,rfl,_,rfl,_,rfl,_,_,rfl,.inl (SqL.of hm.top),_,_,rfl,rfl,⟨by decide,by decide⟩,_,rfl,_,_,rfl,SqL.of hm.top,fun m2 hm2=>?_⟩;rw [cut_to _ (by lia)];obtain ⟨hh,ehh⟩:∃hh:Nat,(((qs.map fun q=>V.ref q.2).length:Int) / 2).toNat=hh:=⟨_,rfl⟩;rw [ehh,<-qDD];have k3:Kp [] H2 (upd H2 m2 (.lst ((qs.take hh).map fun q=>V.ref q.2))):=Kp.new Kp.refl hm2;have hm3:upd H2 m2 (.lst ((qs.take hh).map fun q=>V.ref q.2)) m2=some (.lst ((qs.take hh).map fun q=>V.ref q.2)):=upd_same;generalize upd H2 m2 (.lst ((qs.take hh).map fun q=>V.ref q.2))=H3 at k3 hm3;refine ⟨(by walk_at "ln"),fun B hB=>?_⟩;have k4:Kp [] H3 (upd H3 B (.lst [.ref m,.ref m2])):=Kp.new Kp.refl hB;have hB4:upd H3 B (.lst [.ref m,.ref m2]) B=some (.lst ([(m,qs),(m2,qs.take hh)].map fun e=>V.ref e.1)):=upd_same;generalize upd H3 B (.lst [.ref m,.ref m2])=H4 at k4 hB4;have k24:=k3.trans k4;have hl4:=k24 _ _ hl (by simp)
  have all4:∀e∈[(m,qs),(m2,qs.take hh)],Ords H4 e.1 e.2/\Good ns e.2 r:=fun e he=>by
   rcases qAP.mp he with z| he
   ·rw [z];exact ⟨hm.kp k24 (by simp) (by simp),G⟩
   rw [qAR.mp he];exact ⟨⟨k4 _ _ hm3 (by simp),fun q hq=>k24 _ _ (hm.row q (qBS hq)) (by simp),fun q hq=>hm.two q (qBS hq)⟩,G.take hh⟩
  obtain ⟨es,ees⟩:∃es,[(m,qs),(m2,qs.take hh)]=es:=⟨_,rfl⟩;have el:es.length=2:=by rw [<-ees];rfl
  have e0:es[0]?=some (m,qs):=by rw [<-ees];rfl
  rw [ees] at hB4 all4;have k04:=k2.trans k24;refine ⟨_,rfl,_,rfl,⟨_,SqL.of hB4⟩,fun Y hY=>zA1 (es.map fun e=>V.ref e.1) (fun i ys τ H6=>∃es':List JX,(∃o0,τ=[o0,some (.ref l)])/\ys=es'.map (fun e=>V.ref e.j)/\es'.map (fun e=>(e.m,e.qs))=es.take i/\H6 Y=some (.lst ys)/\(∀e∈es',JobsAt C H6 e.j e.J/\e.J.ns=ns/\(∀k,k∈e.J.zs.map (·.1)↔k∈e.qs.map (·.1))/\(e.J.r≠Y/\e.J.p≠Y))/\Kp [] H4 H6) ⟨[],⟨_,rfl⟩,rfl,rfl,upd_same,(fun _ h=>nomatch h),Kp.new Kp.refl hY⟩ (fun i ys τ H6 ⟨_,_,_,_,_,_,k6⟩=>SqL.of (k6 _ _ hB4 (by simp))) ?_ ?_⟩
  ·rintro i v ys τ H6 hv ⟨es',⟨o0,rfl⟩,rfl,ed,hY6,ok6,k6⟩;rw [qAX] at hv;obtain ⟨e,ee,rfl⟩:=qBC.mp hv;obtain ⟨od4,gd⟩:=all4 e (qAI ee);have od6:=od4.kp k6 (by simp) (by simp)
   have el':es'.length<=i:=by
    have:=qAg List.length ed;rw [qAD,qAW] at this;lia
   have hi:i<es.length:=(qAV.mp ee).1;refine ⟨_,rfl,_,_,rfl,.inl (SqL.of (k6 _ _ hl4 (by simp))),fun a1 ha1=>?_⟩;have k7:Kp [] H6 (upd H6 a1 (.lst (ns.map V.str))):=Kp.new Kp.refl ha1;have h17:upd H6 a1 (.lst (ns.map V.str)) a1=some (.lst (ns.map V.str)):=upd_same;generalize upd H6 a1 (.lst (ns.map V.str))=H7 at k7 h17;refine ⟨_,rfl,_,_,rfl,.inl (SqL.of (k7 _ _ od6.top (by simp))),fun a2 ha2=>?_⟩;have k8:Kp [] H7 (upd H7 a2 (.lst (e.2.map fun q=>V.ref q.2))):=Kp.new Kp.refl ha2;have h28:upd H7 a2 (.lst (e.2.map fun q=>V.ref q.2)) a2=some (.lst (e.2.map fun q=>V.ref q.2)):=upd_same;have h18:=k8 _ _ h17 (by simp);generalize upd H7 a2 (.lst (e.2.map fun q=>V.ref q.2))=H8 at k8 h28 h18;have k68:=k7.trans k8;refine fun x dx hx hdx nxd=>?_;have fx:Fre H8 x:=hx;have k9:Kp [] H8 (upd (upd H8 dx (.own x)) x (.ins C dx [])):=Kp.new (Kp.new Kp.refl hdx) fx;have hx9:(upd (upd H8 dx (.own x)) x (.ins C dx [])) x=some (.ins C dx []):=upd_same;generalize upd (upd H8 dx (.own x)) x (.ins C dx [])=H9 at k9 hx9 ⊢;have k69:=k68.trans k9;have hY9:=k69 _ _ hY6 (by simp);refine ⟨x,dx,a1,a2,ns,e.2,r,rfl,hx9,k9 a1 _ h18 (by simp),⟨k9 a2 _ h28 (by simp),fun q hq=>k69 _ _ (od6.row q hq) (by simp),od6.two⟩,gd,fun J H10 A10 N10 ens ezs K10=>⟨rfl,?_⟩⟩;have k610:Kp [] H6 H10:=k68.trans (Kp.drop k9 fx K10);have hY10:=k610 _ _ hY6 (by simp);have oY:J.r≠Y/\J.p≠Y:=⟨(ne_fre N10.r hY9).symm,(ne_fre N10.p hY9).symm⟩;refine ⟨hY10,by rw [qAD];lia,es'++[⟨e.1,e.2,x,J⟩],⟨_,rfl⟩,by rw [qAQ];rfl,by rw [qAQ,ed,zAh ee];rfl,upd_same,fun e' he'=>?_,Kp.new (k6.trans k610) hY⟩;rcases qAK.mp he' with z| z
   ·obtain ⟨h1,h2,h3,h4⟩:=ok6 e' z;exact ⟨(h1.kp0 k610).put hY10 h4 (Kp.put Kp.refl (by simp)),h2,h3,h4⟩
   ·rw [qAR.mp z];exact ⟨A10.put hY10 oY (Kp.put Kp.refl (by simp)),ens,ezs,oY⟩
  rintro ys τ H6 ⟨Es,_,rfl,ed,hY6,ok6,k6⟩;rw [qAD,qAd] at ed;have El:Es.length=2:=by rw [<-el,<-ed,qAD]
  have J6:∀e∈Es,JxOk C ns r H6 e:=fun e he=>by
   obtain ⟨h1,h2,h3,h4⟩:=ok6 e he;obtain ⟨d1,d2⟩:=all4 (e.m,e.qs) (by rw [<-ed];exact qAM.mpr ⟨e,he,rfl⟩);exact ⟨d1.kp k6 (by simp) (by simp),d2,h1,h2,h3⟩
  have hB6:=k6 _ _ hB4 (by simp);rw [<-ed,qA4] at hB6;have hB6:H6 B=some (.lst (Es.map fun e=>V.ref e.m)):=hB6;have hl6:=k6 _ _ hl4 (by simp);have hm6:=hm.kp (k24.trans k6) (by simp) (by simp);have k06:=k04.trans k6;have T6:=T0.kp k06;have hS6:=k06.seq hS
  obtain ⟨E0,hE0,eqs⟩:∃E0,Es[0]?=some E0/\(E0.m,E0.qs)=(m,qs):=by
   rw [<-ed,qAX] at e0;exact qBC.mp e0
  clear ok6 all4 hB4 hm3 hm;obtain ⟨cn,ecn,c1,c2⟩:∃c:Int,(if (if (((is.map V.int).length:Nat):Int)<13 then (((is.map V.int).length:Nat):Int) else 13)>3 then (if (((is.map V.int).length:Nat):Int)<13 then (((is.map V.int).length:Nat):Int) else 13) else 3)=c/\3<=c/\c<=13:=⟨_,rfl,by split<;>lia,by split<;>split<;>lia⟩;refine ⟨_,rfl,_,_,rfl,.inl hS6,_,_,rfl,_,_,rfl,_,_,rfl,?_,?_⟩
  ·rw [ecn];exact ⟨by decide,by decide,by lia,by lia⟩
  rw [ecn];refine zCb (lo:=1) (n:=(cn - 1).toNat) (fun i σ H8=>(∃o6 o7 o8 o9:Option V,σ=[some (.ref sc),some (.ref p0),some (.ref l),some (.ref m),some (.ref B),some (.ref Y),o6,o7,o8,o9])/\Kp [Pt] H6 H8/\TabA H8 Pt) ⟨⟨none,none,none,none,rfl⟩,Kp.refl,T6⟩ ?_ ?_
  ·rintro i σ H8 hi ⟨⟨o6,o7,o8,o9,rfl⟩,k8,T8⟩;have off:∀{a:Addr} {o:HO},H6 a=some o->(∀ps,o≠.tbl ps)->H8 a=some o:=fun h n=>k8 _ _ h (nm1 (T6.off h n));have e3:(1+(i:Int)) % 2=(((1+i) % 2:Nat):Int):=by lia
   obtain ⟨e,he⟩:∃e,Es[(1+i) % 2]?=some e:=⟨_,qAn (by lia)⟩;have me:=qAI he;have aB:atI (Es.map fun e=>V.ref e.m) ((1+(i:Int)) % 2)=some (.ref e.m):=by rw [e3];exact atI_natc (by rw [qAX,he];rfl)
   have aY:atI (Es.map fun e=>V.ref e.j) ((1+(i:Int)) % 2)=some (.ref e.j):=by rw [e3];exact atI_natc (by rw [qAX,he];rfl)
   have J8:=(J6 e me).kpT k8 T6;have G8:Good e.J.ns e.qs r:=by rw [J8.ns];exact J8.gd
   have hl8:Txs H8 l e.J.ns:=by rw [J8.ns];exact off hl6 fun _ z=>nomatch z
   refine ⟨_,rfl,_,rfl,_,rfl,_,_,rfl,rfl,(show (0:Int)<2 by decide),_,_,_,_,rfl,rfl,SqL.of (off hB6 fun _ z=>nomatch z),aB,l,e.m,e.J.ns,e.qs,rfl,hl8,J8.od,G8.nd,G8.few,G8.qfew,G8.qin,fun d la L H9 D9 hL k9=>?_⟩;have hLS:∀n∈e.J.ns,∀x∈e.J.ns,x∈L n↔n∈e.J.S x:=fun n hn x hx=>by rw [(hL n hn).2 x,S_way J8.jo G8 J8.zs hx]
   refine ⟨_,rfl,_,rfl,sc,is,_,rfl,k9.seq (Kp.seqT k8 T6 hS6),by lia,fun c=>?_⟩;refine ⟨_,rfl,c,_,rfl,by lia,by lia,fun pu H10 fpu P10 k10=>?_⟩;refine ⟨_,rfl,pu,rfl,P10,fun b H11 hb1 hb2 P11 K11=>?_⟩;have k911:Kp [] H9 H11:=Kp.drop k10 fpu K11;have k811:=k9.trans k911;refine ⟨_,rfl,_,rfl,_,_,rfl,rfl,(show (0:Int)<2 by decide),_,_,_,_,rfl,rfl,SqL.of (k811 _ _ (off hY6 fun _ z=>nomatch z) (by simp)),aY,_,rfl,_,rfl,_,rfl,_,rfl,_,rfl,_,rfl,pu,l,d,e.J,r,la,L,rfl,P11,k811 _ _ hl8 (by simp),D9.rd.kp0 k911,G8.nd,G8.few,fun n hn x hx=>S_rank J8.jo G8 J8.zs _ n x (qAG _) hn hx,hLS,fun t' H12 ft' pq P12 K12=>?_⟩;have k912:Kp [] H9 H12:=Kp.drop k10 fpu (K11.trans K12);have k812:=k9.trans k912;obtain ⟨pp,at12,pg⟩:=pq.at
   have J12:=J8.kpT (w0 k812) T8;refine ⟨e.j,l,d,t',b,e.J,e.qs,e.qs.map fun q=>(q.1.reverse,q.2),r,la,L,pp,rfl,J12.jo,G8,J12.zs,J12.od.two,by rw [qA4];rfl,k812 _ _ hl8 (by simp),D9.rd.kp0 k912,D9.ne,hL,hb1,hb2,T8.kp k812,at12,pg,fun H13 k13 T13=>⟨_,rfl,iteF ?_⟩⟩;exact ⟨⟨_,_,_,_,rfl⟩,(k8.trans (w0 k812)).trans k13,T13⟩
  ·rintro σ H8 ⟨⟨o6,o7,o8,o9,rfl⟩,k8,T8⟩;have off:∀{a:Addr} {o:HO},H6 a=some o->(∀ps,o≠.tbl ps)->H8 a=some o:=fun h n=>k8 _ _ h (nm1 (T6.off h n));have J8:=(J6 E0 (qAI hE0)).kpT k8 T6;have eq1:E0.m=m:=qAg Prod.fst eqs;have eq2:E0.qs=qs:=qAg Prod.snd eqs;have aY:atI (Es.map fun e=>V.ref e.j) 0=some (.ref E0.j):=atI_natc (n:=0) (by rw [qAX,hE0];rfl);have hY8:=off hY6 fun _ z=>nomatch z;have hl8:Txs H8 l E0.J.ns:=by rw [J8.ns];exact off hl6 fun _ z=>nomatch z
   have hm8:Ords H8 m qs:=by rw [<-eq1,<-eq2];exact J8.od
   have A0:=J8.jo;have hz:=J8.zs;rw [eq2] at hz;generalize E0.J=J at hl8 A0 hz;refine ⟨_,rfl,_,_,_,_,rfl,rfl,SqL.of hY8,aY,E0.j,J.dx,_,rfl,A0.ob,zJc _ _ _ (by decide +kernel) (by decide +kernel) (by decide +kernel),E0.j,J,rfl,A0,fun a H1 fa h1 k1=>?_⟩;refine ⟨_,rfl,_,_,_,_,rfl,rfl,SqL.of h1,SqL.of (k1 l _ hl8 (by simp)),rfl,(fun i x y e1 e2=>by rw [e1] at e2;cases e2;obtain ⟨n,_,rfl⟩:=zAw e1;exact .flat rfl),_,rfl,iteT ?_⟩;have A1:=A0.kp0 k1;refine ⟨_,rfl,_,_,_,_,rfl,rfl,SqL.of (k1 _ _ hY8 (by simp)),aY,E0.j,J.dx,_,rfl,A1.ob,zJc _ _ _ (by decide +kernel) (by decide +kernel) (by decide +kernel),E0.j,J,rfl,A1,fun b H2 fb h2 k2=>?_⟩;have k02:=k1.trans k2;have hm2:=hm8.kp k02 (by simp) (by simp);refine ⟨_,rfl,m,qs,rfl,SqL.of hm2.top,fun q hq=>.inl (.inl (hm2.row q hq)),G.qfew,fun sa yk hsa y1 y2 y3 y4=>?_⟩;have fsa:Fre H2 sa:=hsa;refine ⟨sa,yk,rfl,upd_same,fun q hq=>.inl (.inl ((upd_ne (ne_fre fsa (hm2.row q (y1 q hq)))).trans (hm2.row q (y1 q hq)))),fun q hq=>?_,by have:=G.qfew;lia,fun c zs hc z1 z2=>?_⟩
   ·obtain ⟨x,y,e⟩:=hm2.two q (y1 q hq);rw [e];simp
   have k3:Kp [] H2 (upd (upd H2 sa (TSt P w sa yk)) c (.lst (zs.map fun q=>V.ref q.2))):=by
    have h1:Kp [] H2 (upd H2 sa (TSt P w sa yk)):=Kp.new Kp.refl fsa;exact Kp.new h1 (h1.fre (show Fre (upd H2 sa (TSt P w sa yk)) c from hc) (by simp))
   have hcs:(upd (upd H2 sa (TSt P w sa yk)) c (.lst (zs.map fun q=>V.ref q.2))) c=some (.lst (zs.map fun q=>V.ref q.2)):=upd_same
   have ekeys:zs.map (·.1)=J.zs.map (·.1):=by
    refine ST.rows_one (ST.strict_of (qBx.mpr z2) ((z1.map (·.1)).nodup_iff.mpr y3)) A0.rise fun k=>?_;rw [hz k,(z1.map (·.1)).mem_iff]
    exact ⟨fun h=>by
     obtain ⟨q,q1,q2⟩:=qAM.mp h;exact qAM.mpr ⟨q,y1 q q1,q2⟩,fun h=>by
     obtain ⟨q,q1,q2⟩:=qAM.mp h;rw [<-q2];exact y2 q q1⟩
   have zq:∀q∈zs,H2 q.2=some (.tup (q.1.map V.str)):=fun q hq=>hm2.row q (y1 q (z1.mem_iff.mp hq));generalize upd (upd H2 sa (TSt P w sa yk)) c (.lst (zs.map fun q=>V.ref q.2))=H3 at k3 hcs ⊢;have h3:=h2.kp k3 (by simp) (by simp);have elen:J.zs.length=zs.length:=by have:=qAg List.length ekeys;simpa using this.symm
   refine ⟨_,_,_,_,rfl,rfl,SqL.of h3.top,SqL.of hcs,by rw [qAD,qAD,elen],fun i x y e1 e2=>?_,k H3⟩;obtain ⟨q,q1,rfl⟩:=zG5 e1;obtain ⟨q',q2,rfl⟩:=zG5 e2
   have eq':q.1=q'.1:=by
    have h1:(zs.map (·.1))[i]?=some q'.1:=by rw [qAX,q2];rfl
    have h2:(J.zs.map (·.1))[i]?=some q.1:=by rw [qAX,q1];rfl
    rw [ekeys,h2] at h1;exact qAZ h1
   refine .tups (.inl (.inl (h3.row q (qAI q1)))) (.inl (.inl (k3 _ _ (zq q' (qAI q2)) (by simp)))) (by rw [eq']) fun i x y e1 e2=>?_;rw [eq',e2] at e1
   cases e1
   obtain ⟨n,_,rfl⟩:=zAw e2;exact .flat rfl
end
def Hd (K:PySem.W.Frag) (x q:Str) (st:Stmt) (f:Addr):Prop:=∃oc od kV dc pm an cd ct sl,K.lookup f=some ⟨oc,od,.func (PySem.W.fnOf x q (zBs st) (zBc st) (zAd st) .none kV dc pm an cd ct),sl⟩/\PySem.W.codeIn K cd q=true/\PySem.W.keepIn K (.ref f)=true
def Dft (K:PySem.W.Frag) (x:Str) (st:Stmt) (f:Addr):Prop:=PySem.W.nsIn K mainGlobals x=some (some (.ref f))/\Hd K x x st f
def nnB (K:PySem.W.Frag) (x:Str):Bool:=match PySem.W.nsIn K mainGlobals x with
 | some none=>true
 | _=>false
theorem nnB_of {K:PySem.W.Frag} {x:Str} {h:Heap} {mg:Str->Option Value} (X:K.In h) (G:h.Ns mainGlobals mg) {xs:List Str} (a:xs.all (nnB K)=true) (m:x∈xs):mg x=none:=by
 have e:=qBv.mp a x m;unfold nnB at e;split at e
 ·rename_i e2;exact PySem.W.mg_none_of X G e2
 ·cases e
theorem Hd.to {K:PySem.W.Frag} {x q:Str} {st:Stmt} {f:Addr} (t:Hd K x q st f):∃fd,Fun K x q st f fd:=by
 obtain ⟨_,_,_,_,_,_,_,_,_,l,c,k⟩:=t;exact ⟨_,fun_mk l c k⟩
section
variable {K:PySem.W.Frag} {x q a b c d g:Str} {st:Stmt} {f:Addr} {fd:FuncData} (F:Fun K x q st f fd)
include F
theorem _root_.L2.Fun.b1 (h:∀(kV doc pm:Value) (an:Option Addr) (cdv ct u:Value),bindArgs (PySem.W.fnOf x q (zBs st) (zBc st) (zAd st) .none kV doc pm an cdv ct) ⟨[u],[]⟩=pure [(a,u)]:=by intros;rfl):zDu K fd [a] []:=F.binds fun kV doc pm an cdv ct us hl=>match us,hl with| [u],_=>h kV doc pm an cdv ct u
theorem _root_.L2.Fun.b2 (h:∀(kV doc pm:Value) (an:Option Addr) (cdv ct u v:Value),bindArgs (PySem.W.fnOf x q (zBs st) (zBc st) (zAd st) .none kV doc pm an cdv ct) ⟨[u,v],[]⟩=pure [(a,u),(b,v)]:=by intros;rfl):zDu K fd [a,b] []:=F.binds fun kV doc pm an cdv ct us hl=>match us,hl with| [u,v],_=>h kV doc pm an cdv ct u v
theorem _root_.L2.Fun.b3 (h:∀(kV doc pm:Value) (an:Option Addr) (cdv ct u v w:Value),bindArgs (PySem.W.fnOf x q (zBs st) (zBc st) (zAd st) .none kV doc pm an cdv ct) ⟨[u,v,w],[]⟩=pure [(a,u),(b,v),(c,w)]:=by intros;rfl):zDu K fd [a,b,c] []:=F.binds fun kV doc pm an cdv ct us hl=>match us,hl with| [u,v,w],_=>h kV doc pm an cdv ct u v w
theorem _root_.L2.Fun.b4 (h:∀(kV doc pm:Value) (an:Option Addr) (cdv ct u v w z:Value),bindArgs (PySem.W.fnOf x q (zBs st) (zBc st) (zAd st) .none kV doc pm an cdv ct) ⟨[u,v,w,z],[]⟩=pure [(a,u),(b,v),(c,w),(d,z)]:=by intros;rfl):zDu K fd [a,b,c,d] []:=F.binds fun kV doc pm an cdv ct us hl=>match us,hl with| [u,v,w,z],_=>h kV doc pm an cdv ct u v w z
theorem _root_.L2.Fun.b5 (h:∀(kV doc pm:Value) (an:Option Addr) (cdv ct u v w z y:Value),bindArgs (PySem.W.fnOf x q (zBs st) (zBc st) (zAd st) .none kV doc pm an cdv ct) ⟨[u,v,w,z,y],[]⟩=pure [(a,u),(b,v),(c,w),(d,z),(g,y)]:=by intros;rfl):zDu K fd [a,b,c,d,g] []:=F.binds fun kV doc pm an cdv ct us hl=>match us,hl with| [u,v,w,z,y],_=>h kV doc pm an cdv ct u v w z y
end
section
variable {K:PySem.W.Frag} {mg:Str->Option Value} {x q:Str} {st:Stmt} {f:Addr} {fd:FuncData} {ps:List Str} {sp:Sp} {k:Nat} (P:Program) (w:World) (base:Heap)
theorem cal (g:mg x=some (.ref f)) (F:Fun K x q st f fd) (b:zDu K fd ps []) (h:FnOk P w K mg base CX0 k f fd ps sp):Cal P w K mg base x k ps sp:=⟨f,fd,g,F.kp,b,h⟩
def Dfm (K:PySem.W.Frag) (C:Addr) (m q:Str) (st:Stmt) (f:Addr):Prop:=PySem.W.findIn K (.ref C) m=some (some (.ref f))/\PySem.W.isFn K (.ref f)=true/\Hd K m q st f
theorem mth {m:Str} (t:Dfm K C m q st f) (F:Fun K m q st f fd) (b:zDu K fd ps []) (h:FnOk P w K mg base CX0 k f fd ps sp):Mth P w K mg base C m k ps sp:=⟨f,fd,⟨t.1,t.2.1,F.kp⟩,b,h⟩
end
def DftL (K:PySem.W.Frag) (x:Str) (st:Stmt) (f c:Addr):Prop:=PySem.W.nsIn K mainGlobals x=some (some (.ref f))/\∃oc od kV dc pm an ct sl,K.lookup f=some ⟨oc,od,.func (PySem.W.fnOf x x (zBs st) (zBc st) (zAd st) .none kV dc pm an (.ref c) ct),sl⟩/\PySem.W.codeIn K (.ref c) x=true/\PySem.W.keepIn K (.ref f)=true
theorem all_mk {cL Pt:Addr} {l:PySem.W.OpenLaw} {w:World} {K:PySem.W.Frag} {h:Heap} {mg:Str->Option Value} {fa:Addr} (X:K.In h) (G:h.Ns mainGlobals mg) (hfa:mg "law" = some (.ref fa)) {f0 f1 f2 f3 f4 f5 f6 f7 f8 f9 f10 f11 f12 f13 f14 f15 f16 f17 f18 f19 f20 f21 f22 f23 f24 f25 f26 f27 f28 f29 f30 f31 f32 f33 f34 f35 f36 f37 f38 f39 f40 f41 f42 f43 f44:Addr} {t_LONGEST_NAME t_MOST_JOBS:Tok}
  (aC:PySem.W.nsIn K mainGlobals "Jobs" = some (some (.ref C)))
  (l0:Dft K "_law_take" s_take f0)
  (l1:Dft K "_law_purse" s_purse f1)
  (l2:Dft K "_law_cell" s_cell f2)
  (l3:Dft K "is_name" zEx f3)
  (l4:Dft K "is_one_of" zDi f4)
  (l5:Dft K "check_job" zEn f5)
  (l6:Dft K "check_names" zDk f6)
  (l7:Dft K "check_parts" zDj f7)
  (l8:Dft K "told_ahead" zDy f8)
  (l9:Dft K "has_all" zEz f9)
  (l10:Dft K "joined" zIv f10)
  (l11:Dft K "all_ahead" zCm f11)
  (l12:Dfm K C "__init__" "Jobs.__init__" zB3 f12)
  (l13:Dfm K C "names" "Jobs.names" zDz f13)
  (l14:Dfm K C "turned" "Jobs.turned" zCg f14)
  (l15:Dfm K C "behind" "Jobs.behind" zCh f15)
  (l16:Dfm K C "orders" "Jobs.orders" zDm f16)
  (l17:Dfm K C "is_ahead" "Jobs.is_ahead" zCn f17)
  (l18:DftL K "last_ones_first" zEw f18 cL)
  (l19:Dft K "heights" zEy f19)
  (l20:Dft K "depths" zIw f20)
  (l21:Dft K "is_whole" zFo f21)
  (l22:Dft K "check_benches" zCl f22)
  (l23:Dft K "turns_filled" zC0 f23)
  (l24:Dft K "has_all_behind" zBv f24)
  (l25:Dft K "check_block" zDl f25)
  (l26:Dft K "check_blocks" zB8 f26)
  (l27:Dft K "shown_by_blocks" zBo f27)
  (l28:Dft K "shown_by_number" zBn f28)
  (l29:Dft K "shown" s_shown f29)
  (l30:Dft K "_law_names" zIu f30)
  (l31:Dft K "_law_pairs" s_pairs f31)
  (l32:Dft K "_law_jobs" s_jobs f32)
  (l33:Dft K "_law_behind" zGm f33)
  (l34:Dft K "_law_before" zGn f34)
  (l35:Dft K "_law_benches" zG4 f35)
  (l36:Dft K "_law_blocks" zEc f36)
  (l37:Dft K "_law_tall" zF1 f37)
  (l38:Dft K "_law_due" s_due f38)
  (l39:Dft K "_law_whole" s_whole f39)
  (l40:Dft K "_law_paper" s_paper f40)
  (l41:Dft K "_law_copied" zGl f41)
  (l42:Dft K "_law_mirrored" zFn f42)
  (l43:Dft K "_law_asked" zIx f43)
  (l44:Dft K "law" s_law f44)
  (pg:PySem.W.plainGet K C Str.empty=true)
  (hd:PySem.W.hasDictIn K C=true)
  (po:PySem.W.plainOver K C=true)
  (sa:PySem.W.findIn K (.ref C) "__setattr__" = some (some (.builtin "object.__setattr__")))
  (mk:PySem.W.makesIn K C=true)
  (kc:PySem.W.keepIn K (.ref C)=true)
  (n_row:PySem.W.findIn K (.ref C) "row" = some none)
  (n_pairs:PySem.W.findIn K (.ref C) "pairs" = some none)
  (n_above:PySem.W.findIn K (.ref C) "above" = some none)
  (zz:List.all (α:=Str) ["len", "max", "range", "int", "str", "list", "all", "min", "dict", "bool", "abs", "reversed", "enumerate", "any", "sum", "zip", "isinstance", "sorted", "set", "tuple"] (nnB K)=true)
  (wA:∃(W:Addr) (od:Option Addr) (n:Nat) (sl:Array (Option Value)) (t1 t2 t3:Tok),PySem.W.nsIn K mainGlobals "WORDS" = some (some (.ref W))/\K.lookup W=some ⟨.type "tuple",od,.seq #[.str "blocks" t1,.str "behind" t2,.str "ahead" t3] n,sl⟩)
  (e_LONGEST_NAME:PySem.W.nsIn K mainGlobals "LONGEST_NAME" = some (some (.int 8 t_LONGEST_NAME)))
  (e_MOST_JOBS:PySem.W.nsIn K mainGlobals "MOST_JOBS" = some (some (.int 20 t_MOST_JOBS)))
  :∃fd:FuncData,(∀(s:Shared) (v:Value),BindsTo s fd ⟨[v],[]⟩ [("_law_script",v)])/\∀base:Heap,K.In base->base.Ns mainGlobals mg->zJm mg base->(∀q∈[(cL,Pt)],PySem.W.CodeHd base q.1 q.2)->FnOk l.prog w K mg base CX0 12 fa fd ["_law_script"] (spLaw K Pt):=by
 have z:∀x,x∈_->mg x=none:=fun x m=>nnB_of X G zz m;have m:=fun (x:Str) (v:Value) (e:PySem.W.nsIn K mainGlobals x=some (some v))=>PySem.W.mg_of X G e;obtain ⟨a,_,_,kV,dc,pm,an,cd,ct,_,u,v,k⟩:=l44
 cases hfa.symm.trans (m _ _ a)
 have T:Txt K mg:={z_len:=z _ (by decide),z_max:=z _ (by decide),z_range:=z _ (by decide),z_int:=z _ (by decide),z_str:=z _ (by decide),z_list:=z _ (by decide),z_all:=z _ (by decide),z_min:=z _ (by decide),z_dict:=z _ (by decide),z_bool:=z _ (by decide),z_abs:=z _ (by decide),z_reversed:=z _ (by decide),z_enumerate:=z _ (by decide),z_any:=z _ (by decide),z_sum:=z _ (by decide),z_zip:=z _ (by decide),z_isinstance:=z _ (by decide),z_sorted:=z _ (by decide),z_set:=z _ (by decide),z_tuple:=z _ (by decide),c_LONGEST_NAME:=⟨_,m _ _ e_LONGEST_NAME⟩,c_MOST_JOBS:=⟨_,m _ _ e_MOST_JOBS⟩};have U:JC K mg C:=⟨⟨pg,hd,po,sa⟩,n_row,n_pairs,n_above,m _ _ aC⟩;obtain ⟨W,_,_,_,_,_,_,wg,wl⟩:=wA;have WD:Wds K mg W:=⟨m _ _ wg,fun H=>.inr ⟨_,_,_,wl,rfl,rfl,(show (3:Nat)<=sizeLine by rw [qAJ];lia),.cons ⟨_,rfl⟩ (.cons ⟨_,rfl⟩ (.cons ⟨_,rfl⟩ .nil))⟩⟩;obtain ⟨_,F0⟩:=l0.2.to;obtain ⟨_,F1⟩:=l1.2.to;obtain ⟨_,F2⟩:=l2.2.to;obtain ⟨_,F3⟩:=l3.2.to;obtain ⟨_,F4⟩:=l4.2.to;obtain ⟨_,F5⟩:=l5.2.to;obtain ⟨_,F6⟩:=l6.2.to;obtain ⟨_,F7⟩:=l7.2.to;obtain ⟨_,F8⟩:=l8.2.to;obtain ⟨_,F9⟩:=l9.2.to;obtain ⟨_,F10⟩:=l10.2.to;obtain ⟨_,F11⟩:=l11.2.to;obtain ⟨_,F12⟩:=l12.2.2.to;obtain ⟨_,F13⟩:=l13.2.2.to;obtain ⟨_,F14⟩:=l14.2.2.to;obtain ⟨_,F15⟩:=l15.2.2.to;obtain ⟨_,F16⟩:=l16.2.2.to;obtain ⟨_,F17⟩:=l17.2.2.to;obtain ⟨a18,_,_,_,_,_,_,_,_,u18,v18,k18⟩:=l18;have F18:=fun_mk (st:=zEw) u18 v18 k18;obtain ⟨_,F19⟩:=l19.2.to;obtain ⟨_,F20⟩:=l20.2.to;obtain ⟨_,F21⟩:=l21.2.to;obtain ⟨_,F22⟩:=l22.2.to;obtain ⟨_,F23⟩:=l23.2.to;obtain ⟨_,F24⟩:=l24.2.to;obtain ⟨_,F25⟩:=l25.2.to;obtain ⟨_,F26⟩:=l26.2.to;obtain ⟨_,F27⟩:=l27.2.to;obtain ⟨_,F28⟩:=l28.2.to;obtain ⟨_,F29⟩:=l29.2.to;obtain ⟨_,F30⟩:=l30.2.to;obtain ⟨_,F31⟩:=l31.2.to;obtain ⟨_,F32⟩:=l32.2.to;obtain ⟨_,F33⟩:=l33.2.to;obtain ⟨_,F34⟩:=l34.2.to;obtain ⟨_,F35⟩:=l35.2.to;obtain ⟨_,F36⟩:=l36.2.to;obtain ⟨_,F37⟩:=l37.2.to;obtain ⟨_,F38⟩:=l38.2.to;obtain ⟨_,F39⟩:=l39.2.to;obtain ⟨_,F40⟩:=l40.2.to;obtain ⟨_,F41⟩:=l41.2.to;obtain ⟨_,F42⟩:=l42.2.to;obtain ⟨_,F43⟩:=l43.2.to;have F44:=fun_mk (st:=s_law) u v k;refine ⟨PySem.W.fnOf "law" "law" (zBs s_law) (zBc s_law) (zAd s_law) .none kV dc pm an cd ct,fun s v=>.of_eq rfl,fun B _ _ BL CH=>?_⟩;have C_take:=cal l.prog w B (m _ _ l0.1) F0 F0.b2 (ok_take F0);have C_purse:=cal l.prog w B (m _ _ l1.1) F1 F1.b2 (ok_purse F1 T);have C_cell:=cal l.prog w B (m _ _ l2.1) F2 F2.b2 (ok_cell F2 T);have C_is_name:=cal l.prog w B (m _ _ l3.1) F3 F3.b1 (ok_is_name F3 T);have C_is_one_of:=cal l.prog w B (m _ _ l4.1) F4 F4.b2 (ok_is_one_of F4 T);have C_one_w:=cal l.prog w B (m _ _ l4.1) F4 F4.b2 (ok_one_w F4 T);have C_check_job:=cal l.prog w B (m _ _ l5.1) F5 F5.b2 (ok_check_job F5 T C_is_one_of);have C_check_names:=cal l.prog w B (m _ _ l6.1) F6 F6.b1 (zHw F6 T C_is_name);have C_check_parts:=cal l.prog w B (m _ _ l7.1) F7 F7.b2 (zHv F7 T C_check_job);have C_told_ahead:=cal l.prog w B (m _ _ l8.1) F8 F8.b2 (zI4 F8);have C_has_all:=cal l.prog w B (m _ _ l9.1) F9 F9.b2 (ok_has_all F9 T);have C_joined:=cal l.prog w B (m _ _ l10.1) F10 F10.b2 (ok_joined F10);have C_all_ahead:=cal l.prog w B (m _ _ l11.1) F11 F11.b2 (ok_all_ahead F11 T C_has_all C_joined);have M_Jobs:Mkr l.prog w K mg B C "Jobs" 4 ["self", "names", "orders"] (spInit C):=⟨f12,_,⟨mk,l12.1,l12.2.1,kc⟩,m _ _ aC,F12.b3,(ok_Jobs_init F12 T U C_check_names C_check_parts C_all_ahead C_told_ahead)⟩;have M_names:=mth l.prog w B l13 F13 F13.b1 (zI5 F13 T U);have M_turned:=mth l.prog w B l14 F14 F14.b1 (zHy F14 T U M_Jobs);have M_behind:=mth l.prog w B l15 F15 F15.b2 (zH0 F15 T U C_check_job);have M_orders:=mth l.prog w B l16 F16 F16.b1 (zHz F16 T U);have M_is_ahead:=mth l.prog w B l17 F17 F17.b3 (zGd F17 T U C_check_job);have C_last:=cal l.prog w B (m _ _ a18) F18 F18.b1 (ok_last u18 v18 T U BL (CH (cL,Pt) (qAR.mpr rfl)) M_names M_behind);have C_heights:=cal l.prog w B (m _ _ l19.1) F19 F19.b1 (ok_heights F19 T U C_last M_behind);have C_depths:=cal l.prog w B (m _ _ l20.1) F20 F20.b1 (ok_depths F20 U C_heights M_turned);have C_is_whole:=cal l.prog w B (m _ _ l21.1) F21 F21.b1 (ok_is_whole F21 T);have C_check_benches:=cal l.prog w B (m _ _ l22.1) F22 F22.b1 (zGc F22 C_is_whole);have C_turns_filled:=cal l.prog w B (m _ _ l23.1) F23 F23.b2 (zG8 F23);have C_hab:=cal l.prog w B (m _ _ l24.1) F24 F24.b3 (zFr F24 T U M_is_ahead);have C_check_block:=cal l.prog w B (m _ _ l25.1) F25 F25.b3 (zHx F25 T C_is_one_of);have C_check_blocks:=cal l.prog w B (m _ _ l26.1) F26 F26.b2 (zG9 F26 T U M_names C_check_block C_hab);have C_sbb:=cal l.prog w B (m _ _ l27.1) F27 F27.b3 (zE6 F27 T C_check_blocks C_turns_filled);have C_sbn:=cal l.prog w B (m _ _ l28.1) F28 F28.b3 (zE5 F28 T C_turns_filled);have C_shown:=cal l.prog w B (m _ _ l29.1) F29 F29.b3 (ok_shown F29 T WD C_check_benches C_one_w C_sbb C_is_whole C_sbn C_heights C_depths);have C_lnames:=cal l.prog w B (m _ _ l30.1) F30 F30.b2 (ok_names F30 T C_take);have C_pairs:=cal l.prog w B (m _ _ l31.1) F31 F31.b4 (ok_pairs F31 T C_take);have C_jobs:=cal l.prog w B (m _ _ l32.1) F32 F32.b2 (ok_jobs F32 T C_take C_lnames C_pairs);have C_lbehind:=cal l.prog w B (m _ _ l33.1) F33 F33.b2 (ok_behind F33 T);have C_before:=cal l.prog w B (m _ _ l34.1) F34 F34.b2 (ok_before F34);have C_benches:=cal l.prog w B (m _ _ l35.1) F35 F35.b1 (ok_benches F35 C_take);have C_blocks:=cal l.prog w B (m _ _ l36.1) F36 F36.b3 (ok_lblocks F36 T C_take);have C_tallD:=cal l.prog w B (m _ _ l37.1) F37 F37.b2 (ok_tallD F37 T);have C_tallL:=cal l.prog w B (m _ _ l37.1) F37 F37.b2 (ok_tallL F37 T);have C_due:=cal l.prog w B (m _ _ l38.1) F38 F38.b4 (ok_due F38 T C_tallD C_tallL C_before);have C_whole:=cal l.prog w B (m _ _ l39.1) F39 F39.b1 (ok_whole F39 T);have C_paper:=cal l.prog w B (m _ _ l40.1) F40 F40.b3 (ok_lpaper F40 T C_take C_blocks);have C_copied:=cal l.prog w B (m _ _ l41.1) F41 F41.b1 (ok_copied F41 T);have C_mirrored:=cal l.prog w B (m _ _ l42.1) F42 F42.b1 (ok_mirrored F42 T);have C_asked:=cal l.prog w B (m _ _ l43.1) F43 F43.b5 (ok_asked F43 T U C_copied C_due C_shown C_whole C_mirrored M_turned);exact ok_law F44 T U C_cell C_purse C_jobs C_benches C_lbehind C_paper C_asked M_Jobs M_names M_orders
theorem walk {cL Pt:Addr} {l:PySem.W.OpenLaw} {q:Program} {loose:List Str} {XP:(Str->Option Value)->Heap->Prop} {YP:World->Heap->Prop} {d:DefRec} {K:Params->PySem.W.Frag} (hn:l.most=some 63) (hdf:d.params.defaults=[])
  (hY:∀(w:World) (h:Heap),YP w h->(K w.params).In h) (hT:∀(w:World) (h:Heap),YP w h->PySem.W.TabsAt [(cL,Pt)] h) (hKT:∀(w:World),∀q∈[(cL,Pt)],(K w.params).lookup q.2=none)
  (F:∀(w:World) (mg:Str->Option Value) (fa:Addr) (h:Heap),(K w.params).In h->h.Ns mainGlobals mg->mg d.name=some (.ref fa) ->
   ∃fd:FuncData,(∀(s:Shared) (u:Value),BindsTo s fd ⟨[u],[]⟩ [("_law_script",u)])/\∀base:Heap,(K w.params).In base->base.Ns mainGlobals mg->zJm mg base->(∀q∈[(cL,Pt)],PySem.W.CodeHd base q.1 q.2)->FnOk l.prog w (K w.params) mg base CX0 12 fa fd ["_law_script"] (spLaw (K w.params) Pt)) :
  PySem.W.WalkO q loose XP YP l.row.toRowW d [] (fun f vs=>PySem.call f vs) :=
 L2.walk_ofT (n:=63) (k:=12) (x:= "_law_script") (CX:=fun _=>CX0) (sp:=fun w=>spLaw (K w.params) Pt) hn (by decide) hdf ⟨rfl,by decide,by decide,rfl⟩ hY hT hKT F (fun _ _ a ns hl hS hH=>⟨a,ns,rfl,hS,hl,.inl (hH (cL,Pt) (by simp)),fun _=>rfl⟩) fun _ _ _ _ _ z=>z
end My
namespace PySem.W.Fast
def tw14381300367993683637:Nat:=0
def tw14699720635276165769:Nat:=0
def tw15488755551194533844:Nat:=0
def tw3266908282728149232:Nat:=0
def tw12284646221870150308:Nat:=0
def tw4228821827212718265:Nat:=0
def tw322681676758021064:Nat:=0
def tw8696904099036478634:Nat:=0
def tw11491235463189750968:Nat:=0
def tw2792453184622130016:Nat:=0
def tw10466794800273378798:Nat:=0
def tw18359143202671206639:Nat:=0
def tw2575101234937393078:Nat:=0
def tw11913659353706452930:Nat:=0
def tw4851609149627025479:Nat:=0
def tw10447834818607521623:Nat:=0
def tw3023915869832834723:Nat:=0
def tw5108223575659169952:Nat:=0
def tw1144856078365296673:Nat:=0
def tw15404841077999019539:Nat:=0
def tw8980787917794829656:Nat:=0
def tw8063894420559970341:Nat:=0
def tw9805969089903005702:Nat:=0
def tw17243180798194984660:Nat:=0
def tw1820485150636812053:Nat:=0
def tw6504213282103475899:Nat:=0
def tw262085815973973941:Nat:=0
def tw4579308687523620310:Nat:=0
def tw949765804388425182:Nat:=0
def tw6233139650598216992:Nat:=0
def tw17621035428327068775:Nat:=0
def tw12844156071987649852:Nat:=0
def tw18022037318176926534:Nat:=0
def tw13504944967247885828:Nat:=0
def tw10654646365980487661:Nat:=0
def tw6530725051982074814:Nat:=0
def tw8502559611804914306:Nat:=0
def tw11705033264484587196:Nat:=0
def tw2867518731469755494:Nat:=0
def tw12429646216238022411:Nat:=0
def tw14012968626186383069:Nat:=0
def tw10588037769550343256:Nat:=0
def tw8957319657371065377:Nat:=0
def tw5128861415975928297:Nat:=0
def tw13430363923447949971:Nat:=0
def tw5006959615064670445:Nat:=0
def tw10374304875017655885:Nat:=0
def tw5434375412595593401:Nat:=0
def tw1098953895653425279:Nat:=0
def tw15310978935861569834:Nat:=0
def tw17955529799009745108:Nat:=0
def tw164922698010970077:Nat:=0
def tw12418041056116049676:Nat:=0
def tw17635630122640970991:Nat:=0
def tw7919302570226602891:Nat:=0
def tw5743152234145250122:Nat:=0
def tw1159634919507243817:Nat:=0
def tw17165096561239559965:Nat:=0
def tw12526111838565253973:Nat:=0
def tw11232985990294932226:Nat:=0
def tw7707563675426280739:Nat:=0
def tw5177584243661439644:Nat:=0
def tw16129144953853972723:Nat:=0
def tw10642186866204434164:Nat:=0
def tw17926324345095155271:Nat:=0
def tw14753996324545962509:Nat:=0
def tw1326318169631803236:Nat:=0
def tw16110955326154416572:Nat:=0
def tw4144866965544193562:Nat:=0
def tw8920376336645570613:Nat:=0
def tw4567995864815412918:Nat:=0
def tw5019408303552406420:Nat:=0
def tw2480479858673131606:Nat:=0
def tw2944602167941627148:Nat:=0
def tw13813876964113799769:Nat:=0
def tw8099222456704645574:Nat:=0
def tw3494234471009546364:Nat:=0
def tw2355638092168507151:Nat:=0
def tw4444117738794651674:Nat:=0
def tw16373494676760078395:Nat:=0
def tw565398743831483072:Nat:=0
def tw8975470880616873724:Nat:=0
def tw2309074365027841391:Nat:=0
def tw16443261947325892361:Nat:=0
def tw18339431260421260660:Nat:=0
def tw9512659580985844064:Nat:=0
def tw12000182813462946249:Nat:=0
def tw3372886311584220064:Nat:=0
def tw15812182598825835806:Nat:=0
def tw12004677189609548034:Nat:=0
def tw1160597289495305440:Nat:=0
def tw4432465649037451515:Nat:=0
def tw3422736431442606341:Nat:=0
def tw9587047274772276463:Nat:=0
def tw13552238705647876064:Nat:=0
def tw10701951979102622834:Nat:=0
def tw12588233030285729064:Nat:=0
def tw16367304743035467709:Nat:=0
def tw9416202008244733495:Nat:=0
def tw132643869534186581:Nat:=0
def tw17543197043528903922:Nat:=0
def tw16457683567951587979:Nat:=0
def tw11105035395912641078:Nat:=0
def tw12039524344557748508:Nat:=0
def tw5002829201165910161:Nat:=0
def tw16851138192249766618:Nat:=0
def tw11152223580328023364:Nat:=0
def tw12525065581283068810:Nat:=0
def tw13035250621862991188:Nat:=0
def tw14361640639959983079:Nat:=0
def tw3942177491591277867:Nat:=0
def tw2500388672678746700:Nat:=0
def tw10392426119200103386:Nat:=0
def tw3796760088840237491:Nat:=0
def tw12859335800873317649:Nat:=0
def tw7734780542271163160:Nat:=0
def tw9862070773114965438:Nat:=0
def tw12567290827609125005:Nat:=0
def tw16790998333406245545:Nat:=0
def tw2397343381916254868:Nat:=0
def tw14050877123189569765:Nat:=0
def tw6334992904057253632:Nat:=0
def tw7801998316917214079:Nat:=0
def tw17312136101584946755:Nat:=0
def tw1545355254477754057:Nat:=0
def tw8877533011969833324:Nat:=0
def tw12591235562631409603:Nat:=0
def tw5814654486405361157:Nat:=0
def tw9012671384296317279:Nat:=0
def tw3858832731273183159:Nat:=0
def tw15137223596168508197:Nat:=0
def tw5506966042951423227:Nat:=0
def tw10948048553638693689:Nat:=0
def tw1720359634711646767:Nat:=0
def tw1553330692266580976:Nat:=0
def tw12308326814227771977:Nat:=0
def tw11544119384705543604:Nat:=0
def tw13225791189087105108:Nat:=0
def tw12559635178128949576:Nat:=0
def tw10347208424424844964:Nat:=0
def tw197880716842459572:Nat:=0
def tw1409432361746293159:Nat:=0
def tw17346703886992808436:Nat:=0
def tw13880420408272996835:Nat:=0
def tw1505366165457311140:Nat:=0
def tw7685344392983122237:Nat:=0
def tw4079193087398110741:Nat:=0
def tw7311460255013601772:Nat:=0
def tw627777289760311065:Nat:=0
def tw13747648081607609308:Nat:=0
def tw13054097936254006426:Nat:=0
def tw3720610508536321231:Nat:=0
def tw14408843783604780353:Nat:=0
def tw4743230423149302554:Nat:=0
def tw8868297262131815579:Nat:=0
def tw13837698133763694165:Nat:=0
def tw17875157927328565996:Nat:=0
def tw11297003710305684554:Nat:=0
def tw18356543057647396296:Nat:=0
def tw14301815967784548979:Nat:=0
def tw16707509119016493937:Nat:=0
def tw18051831106782088746:Nat:=0
def tw10534146119294891196:Nat:=0
def tw557749772059810089:Nat:=0
def tw24156622902905600:Nat:=0
def tw13936256395073636337:Nat:=0
def tw17147651806566337582:Nat:=0
def tw8742348441758111007:Nat:=0
def tw3995231769162423359:Nat:=0
def tw4035788936207730105:Nat:=0
def tw17834594441923270594:Nat:=0
def tw17721299434895827843:Nat:=0
def tw4987011958474989392:Nat:=0
def tw12009480680498005144:Nat:=0
def tw14769481198873163921:Nat:=0
def tw16949047591739886060:Nat:=0
def tw4681136297474031805:Nat:=0
def tw15846824303340443549:Nat:=0
def tw5757946455095748718:Nat:=0
def tw4657933716298043026:Nat:=0
def tw13429844172014753202:Nat:=0
def tw1795158661981212300:Nat:=0
def tw1728050341302061474:Nat:=0
def tw1693496214130966060:Nat:=0
def tw2264392901614887932:Nat:=0
def tw12728155754842644335:Nat:=0
def tw9431321863638335256:Nat:=0
end PySem.W.Fast
open PySem PySem.W PyProof.Rows
set_option maxRecDepth 100000 in
set_option maxHeartbeats 0 in
theorem PySem.Challenge.cw_levelbench_k81_papers_counted_holds : PySem.Challenge.rw_levelbench_k81_papers_counted.Holds := by
 w_on;o_law;k_head;(case hw=>w_witness2)
 k_fill
 refine My.walk (cL:=159) (Pt:=155) (l:=PySem.Challenge.rw_levelbench_k81_papers_counted) rfl rfl (fun w h Y=>PySem.W.km_in_of Y) (fun w h Y=>List.forall_mem_cons.mpr ⟨⟨PySem.W.codeHd_of_K (c:=159) (P:=155) (PySem.W.km_in_of Y) (by kernel_rfl),PySem.W.km_tabs_of Y 155 (by k_mem)⟩,fun _ h=>nomatch h⟩) (fun w=>List.forall_mem_cons.mpr ⟨by kernel_rfl,fun _ h=>nomatch h⟩) ?F
 case F =>
  intro w mg fa h KX G hmg;refine' My.all_mk (cL:=159) (Pt:=155) KX G hmg ?h0 ?h1 ?h2 ?h3 ?h4 ?h5 ?h6 ?h7 ?h8 ?h9 ?h10 ?h11 ?h12 ?h13 ?h14 ?h15 ?h16 ?h17 ?h18 ?h19 ?h20 ?h21 ?h22 ?h23 ?h24 ?h25 ?h26 ?h27 ?h28 ?h29 ?h30 ?h31 ?h32 ?h33 ?h34 ?h35 ?h36 ?h37 ?h38 ?h39 ?h40 ?h41 ?h42 ?h43 ?h44 ?h45 ?h46 ?h47 ?h48 ?h49 ?h50 ?h51 ?h52 ?h53 ?h54 ?h55 ?h56 ?h57 ?h58
  all_goals try first| k_is| exact ⟨by k_is,_,_,_,_,_,_,_,_,_,by k_is,by k_is,by k_is⟩| exact ⟨by k_is,_,_,_,_,_,_,_,_,by k_is,by k_is,by k_is⟩| exact ⟨by k_is,by k_is,_,_,_,_,_,_,_,_,_,by k_is,by k_is,by k_is⟩| kernel_rfl| exact ⟨_,_,_,_,_,_,_,by k_is,by k_is⟩
