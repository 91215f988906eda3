import PyProof.Rows.All
import Wide.All
import OpenK.AllK
import Wide.FinOn
import Lean
import PyProof.EqAt
import PyProof.EqKinds
import PyProof.TupleCall
import PyProof.StrLawsTight
import PyProof.FitsReplace
import KE.KSortTup
import PyProof.TupleKey
import PyProof.SetKind
import PyProof.IsRules
import PyProof.Rows.SetFrom
import PyProof.CollectWalk
import PyProof.DictUpdate
import PyProof.AutoListH
import PyProof.SeqI3
import PyProof.EnumStmt
import PyProof.EnumMake
import PyProof.Rows.CallKwBuiltin
import PyProof.NeKinds
import PyProof.StationsW
import PyProof.ExcClass3
import PyProof.PassesOwn
import OpenK.KOwn
import PyProof.RulesAs
import PyProof.RulesDel
import KE.KIsAll
import PyProof.ExcArgsOwn
import PyProof.StrLawsIn
import PyProof.Rows.Range3
import PyProof.Rows.FStr
import PyProof.InstStoreFacts
import OpenK.KMake
import OpenK.KCls
import OpenK.KMore
import KE.KRevIter
import PyProof.Rows.SetObj
import PyProof.ReprHeads
import PyProof.StrLawsRepr
import PyProof.DictItems
import PyProof.AttrMissHeap
import PyProof.ListCopy
import KE.KDictOf
import KE.KDictSum
import PyProof.Rows.SortRev
import PyProof.Rows.IntMath
import PyProof.ReprStr
import PySem.Challenge.RW_levelbench_k13_jobs_refused
set_option Elab.async false
set_option linter.all false
set_option maxRecDepth 100000
def qAA:=@PySem.wpAny_bind
def qAB:=@if_neg
def qAC:=@if_pos
def qAD:=@PySem.wpAny_pure
def qAE:=@List.length_map
def qAF:=@PyProof.Rows.wpS_bind
def qAG:=@Nat.le_refl
def qAH:=@PyProof.Rows.wpS_pure
def qAI:=@PySem.Heap.get?_push_of_some
def qAJ:=@PySem.Heap.lt_size
def qAK:=@List.size_toArray
def qAL:=@List.mem_cons
def qAM:=@List.mem_map
def qAN:=@List.getElem?_map
def qAO:=@decide_eq_false
def qAP:=@decide_eq_true
def qAQ:=@List.mem_singleton
def qAR:=@Nat.ne_of_lt
def qAS:=@PySem.sizeLine_eq
def qAT:=@List.mem_of_getElem?
def qAU:=@List.mem_cons_of_mem
def qAV:=@Ne.symm
def qAW:=@Option.some.inj
def qAX:=@List.mem_cons_self
def qAY:=@List.mem_append
def qAZ:=@List.length_cons
def qAa:=@List.getElem?_eq_getElem
def qAb:=@List.map_append
def qAc:=@PySem.Heap.get?_push_size
def qAd:=@List.length_take
def qAe:=@Nat.zero_le
def qAf:=@Nat.le_trans
def qAg:=@List.getElem?_eq_some_iff
def qAh:=@Bool.false_ne_true
def qAi:=@Nat.lt_of_lt_of_le
def qAj:=@congrArg
def qAk:=@PySem.wpAny_holding
def qAl:=@List.map_cons
def qAm:=@List.length_append
def qAn:=@Array.getElem?_toList
def qAo:=@List.mem_append_left
def qAp:=@PySem.Obj.data_mapFields
def qAq:=@List.take_length
def qAr:=@PySem.PassesOwn.never
def qAs:=@PySem.wpAny_mono
def qAt:=@List.mem_append_right
def qAu:=@List.append_nil
def qAv:=@Nat.lt_irrefl
def qAw:=@List.mem_range
def qAx:=@List.getD_eq_getElem?_getD
def qAy:=@PySem.Heap.SameBut.update
def qAz:=@PyProof.Rows.wpS_forRange
def qA0:=@beq_eq_false_iff_ne
def qA1:=@of_decide_eq_true
def qA2:=@PySem.Heap.get?_update_self
def qA3:=@Bool.and_eq_true
def qA4:=@List.all_eq_true
def qA5:=@List.mem_iff_getElem
def qA6:=@PyProof.Rows.wpS_mono
def qA7:=@beq_iff_eq
def qA8:=@Classical.byContradiction
def qA9:=@List.not_mem_nil
def qBA:=@PyProof.Rows.wpS_modify
def qBB:=@PySem.W.kia_one
def qBC:=@List.getElem?_append_left
def qBD:=@List.getElem_mem
def qBE:=@PySem.wpAny_setField
def qBF:=@PySem.F.plainAttrs_list
def qBG:=@PySem.wpAny_truthy_bool
def qBH:=@Nat.ne_of_gt
def qBI:=@PySem.wpAny_call
def qBJ:=@List.nodup_cons
def qBK:=@Array.getElem?_eq_some_iff
def qBL:=@or_false
def qBM:=@List.mem_filter
def qBN:=@List.length_drop
def qBO:=@List.lookup_cons
def qBP:=@PyProof.Rows.wpS_get
def qBQ:=@List.take_of_length_le
def qBR:=@List.map_map
def qBS:=@PySem.codeAny_builtin
def qBT:=@PySem.Obj.isFreed_of_fields
def qBU:=@PySem.Heap.size_push
def qBV:=@PySem.codeAny_mono
def qBW:=@PySem.Heap.get?_update_other
def qBX:=@List.length_nil
def qBY:=@PySem.wpAny_askSetting
def qBZ:=@PySem.wpAny_rule
def qBa:=@PySem.wpAny_Call_Name_kw
def qBb:=@Option.map_eq_some_iff
def qBc:=@Nat.le_succ
def qBd:=@List.take_append_drop
def qBe:=@List.nodup_nil
def qBf:=@PySem.Around.under_plainId
def qBg:=@PySem.strLen_append
def qBh:=@Nat.le_of_lt
def qBi:=@List.filterMap_cons
def qBj:=@Array.length_toList
def qBk:=@Bool.eq_iff_iff
def qBl:=@List.foldl_cons
def qBm:=@PySem.wpAny_newObj_type
def qBn:=@List.any_eq_true
def qBo:=@PyProof.Rows.wpS_lift
def qBp:=@List.nodup_append
def qBq:=@PySem.plainId_quiet
def qBr:=@PySem.F.called_set
def qBs:=@decide_eq_true_eq
def qBt:=@List.length_filter_le
def qBu:=@List.filter_cons
def qBv:=@List.getElem?_eq_none_iff
def qBw:=@PySem.wpAny_standAt
def qBx:=@PySem.wpAny_passesOwn
def qBy:=@List.getElem?_append_right
def qBz:=@if_false
def qB0:=@PySem.call_meets
def qB1:=@Array.toList_extract
def qB2:=@Nat.le_add_right
def qB3:=@List.mem_of_mem_take
def qB4:=@Array.getElem?_eq_getElem
def qB5:=@PySem.codeAny_call_builtin
def qB6:=@PySem.typeLookup_type
def qB7:=@PySem.builtinLookup_eq_fast
def qB8:=@PySem.Obj.cls_mapFields
def qB9:=@PySem.wpAny_loadPart_at
def qCA:=@PySem.W.looks_findIn
def qCB:=@List.filter_append
def qCC:=@List.countP_append
def qCD:=@PySem.Paired.length
def qCE:=@Nat.le_of_eq
def qCF:=@Nat.lt_succ_self
def qCG:=@PySem.mem_of_lookup
def qCH:=@List.any_cons
def qCI:=@List.append_assoc
def qCJ:=@Nat.lt_of_le_of_lt
def qCK:=@List.find?_cons
def qCL:=@Nat.lt_succ_of_lt
def qCM:=@PySem.wpAny_attempt
def qCN:=@Int.emod_nonneg
def qCO:=@Int.emod_lt_of_pos
def qCP:=@List.mem_of_mem_drop
def qCQ:=@List.getElem?_eq_none
def qCR:=@List.find?_eq_none
def qCS:=@PySem.wpAny_typeOf
def qCT:=@PyProof.Rows.F.plain_set_update_loop
def qCU:=@List.take_succ
def qCV:=@PySem.wpAny_call_entry
def qCW:=@PySem.wpAny_field
def qCX:=@PySem.F.excBase_ValueError
def qCY:=@Bool.eq_false_iff
def qCZ:=@PySem.wpAny_ite_split
def qCa:=@PySem.PassesOwn.leaving
def qCb:=@List.mem_flatMap
def qCc:=@List.getElem?_set_self
def qCd:=@PySem.wpAny_execs_nil
def qCe:=@PySem.wpAny_pyIter_list
def qCf:=@Int.toNat_natCast
def qCg:=@PySem.SeqAt.EqAt.same
def qCh:=@List.replicate_succ
def qCi:=@PySem.wpAny_specialOf
def qCj:=@Nat.add_zero
def qCk:=@Array.toList_push
def qCl:=@List.getElem?_drop
def qCm:=@List.getElem?_cons_succ
def qCn:=@Array.getElem?_setIfInBounds_ne
def qCo:=@Nat.not_lt
def qCp:=@List.map_take
def qCq:=@List.map_drop
def qCr:=@List.length_eq_zero_iff
def qCs:=@List.ext_getElem?
def qCt:=@PySem.wpAny_dictEntries
def qCu:=@Bool.false_eq_true
def qCv:=@PySem.F.slot_list_append
def qCw:=@PySem.F.type_list_append
def qCx:=@PyProof.Rows.wpS_reverse
def qCy:=@PySem.F.slot_list_insert
def qCz:=@PySem.F.type_list_insert
def qC0:=@PyProof.Rows.joinParts_cons
def qC1:=@PySem.Heap.get?_none_of_le
def qC2:=@List.getElem_inj
def qC3:=@List.getElem?_take_of_lt
def qC4:=@List.flatten_cons
def qC5:=@List.length_singleton
def qC6:=@PySem.tupleKind_room_in1
def qC7:=@Nat.succ_pos
def qC8:=@Array.toList_append
def qC9:=@List.getElem?_range
def qDA:=@PySem.wpAny_forIn_list
def qDB:=@Nat.not_lt_zero
def qDC:=@PyProof.Rows.F.entry_set_update_loop
def qDD:=@PySem.Code.quiet_builtin
def qDE:=@PySem.wpAny_seqItems
def qDF:=@PySem.wpAny_isInstance
def qDG:=@Array.perm_iff_toList_perm
def qDH:=@PySem.wpAny_dictEpoch
def qDI:=@PySem.wpAny_isSubtype_exc
def qDJ:=@List.map_congr_left
def qDK:=@List.getElem?_reverse
def qDL:=@List.getElem?_set_ne
def qDM:=@PyProof.Rows.callWith_type1
def qDN:=@Array.mem_toList_iff
def qDO:=@PySem.W.cellsFrom_some
def qDP:=@List.mem_of_find?_eq_some
def qDQ:=@Array.size_setIfInBounds
def qDR:=@Array.getElem?_setIfInBounds_self_of_lt
def qDS:=@Option.map_eq_none_iff
def qDT:=@List.drop_of_length_le
def qDU:=@List.idxOf_lt_length_of_mem
def qDV:=@PySem.F.slot_dict_items
def qDW:=@PySem.F.slot_list_getattribute
namespace L2
open PySem PySem.Spec PyProof.Rows
variable{us:List Value}{x:Str}{u:Value}{a b C:Addr}{P:Program}{w:World}{h base:Heap}{t' i:Nat}{e tg:Expr}{A:Around}{s:Shared}{pos:Pos}{pins:List (Addr×Obj)}{op:CmpOp}{K:PySem.W.Frag}
abbrev Key:=Sum Int Str
def zJe:Key->Value->Bool
 | .inl k,v=>Value.isInt k v
 | .inr x,v=>Value.isStrOf x v
def keyH(w:World):Key->Int
 | .inl k=>hashInt k
 | .inr x=>hashStr w x
theorem zA2:∀{k:Key}{v:Value},zJe k v=true->(∃i t,k=Sum.inl i/\v=Value.int i t)\/(∃x t,k=Sum.inr x/\v=Value.str x t)
 | .inl i,v,h=>by
  obtain⟨t,e⟩:=Value.isInt_shape (k:=i) (v:=v) h;exact .inl ⟨i,t,rfl,e⟩
 | .inr x,v,h=>by
  obtain⟨t,e⟩:=Value.isStrOf_shape (x:=x) (v:=v) h;exact .inr ⟨x,t,rfl,e⟩
theorem keyIs_int(i:Int)(t:Tok):zJe (.inl i) (.int i t)=true:=by simp[zJe,Value.isInt]
theorem keyIs_str(x:Str)(t:Tok):zJe (.inr x) (.str x t)=true:=by simp[zJe,Value.isStrOf]
theorem key_ll(a b:Int):decide ((Sum.inl a:Key)=Sum.inl b)=(a==b):=by
 by_cases e:a=b
 .subst e;simp
 .have h:¬(Sum.inl a:Key)=Sum.inl b:=λq=>e (Sum.inl.inj q);rw[qAO h];exact(qA0.mpr e).symm
theorem key_rr(a b:Str):decide ((Sum.inr a:Key)=Sum.inr b)=decide (a=b):=by
 by_cases e:a=b
 .subst e;simp
 .have h:¬(Sum.inr a:Key)=Sum.inr b:=λq=>e (Sum.inr.inj q);rw[qAO h,qAO e]
theorem key_lr(a:Int)(b:Str):decide ((Sum.inl a:Key)=Sum.inr b)=false:=qAO (λq=>nomatch q)
theorem key_rl(a:Str)(b:Int):decide ((Sum.inr a:Key)=Sum.inl b)=false:=qAO (λq=>nomatch q)
def zAu(prog:Program)(w:World):PySem.KeyKind prog w Key where
 is:=zJe
 hash:=keyH w
 inj:=λv a b ha hb=>by
  rcases zA2 ha with⟨i,t,rfl,rfl⟩|⟨x,t,rfl,rfl⟩
  .rcases zA2 hb with⟨j,u,rfl,e⟩|⟨y,u,rfl,e⟩
   .injection e with e1 _;rw[e1]
   .exact nomatch e
  .rcases zA2 hb with⟨j,u,rfl,e⟩|⟨y,u,rfl,e⟩
   .exact nomatch e
   .injection e with e1 _;rw[e1]
 byValue:=λk v h=>by
  rcases zA2 h with⟨i,t,rfl,rfl⟩|⟨x,t,rfl,rfl⟩<;>rfl
 pyHash:=λhv h=>by
  rcases zA2 hv with⟨i,t,rfl,rfl⟩|⟨x,t,rfl,rfl⟩
  .exact wpAny_pyHash_int h
  .exact wpAny_pyHash_str h
 eqBool:=λhu hv h=>by
  rcases zA2 hu with⟨i,t,rfl,rfl⟩|⟨x,t,rfl,rfl⟩
  .rcases zA2 hv with⟨j,u,rfl,rfl⟩|⟨y,u,rfl,rfl⟩
   .rw [key_ll]at h;exact wpAny_eqBool_int h
   .rw [key_lr]at h;exact SeqAt.EqAt.int_str i t y u _ _ _ _ h
  .rcases zA2 hv with⟨j,u,rfl,rfl⟩|⟨y,u,rfl,rfl⟩
   .rw [key_rl]at h;exact SeqAt.EqAt.str_int x t j u _ _ _ _ h
   .rw [key_rr]at h;exact wpAny_eqBool_str h
 «strs»:=λk x t v h=>by
  rcases zA2 h with⟨i,u,rfl,e⟩|⟨y,u,rfl,e⟩
  .exact nomatch e
  .injection e with e1 _;subst e1
   cases v<;>rfl
theorem mixKind_int(prog:Program)(w:World)(i:Int)(t:Tok):(zAu prog w).is (.inl i) (.int i t)=true:=keyIs_int i t
theorem mixKind_str(prog:Program)(w:World)(x:Str)(t:Tok):(zAu prog w).is (.inr x) (.str x t)=true:=keyIs_str x t
inductive V where
 |non|bl (b:Bool)|int (i:Int)|str (x:Str)|byt (b:Array UInt8)|flt (b:UInt64)|ref (a:Addr)|ty (n:String)
 deriving DecidableEq
variable{xs:List V}{v y:V}
def RelV:V->Value->Prop
 | .non,u=>u=Value.none
 | .bl b,u=>u=Value.bool b
 | .int i,u=>∃t,u=Value.int i t
 | .str x,u=>∃t,u=Value.str x t
 | .byt b,u=>∃t,u=Value.bytes b t
 | .flt b,u=>∃t,u=Value.float b t
 | .ref a,u=>u=Value.ref a
 | .ty n,u=>u=Value.type n
abbrev Vals:List V->List Value->Prop:=Paired RelV
theorem Vals.length(r:Vals xs us):xs.length=us.length:=qCD r
theorem Vals.get:∀{xs:List V}{us:List Value}{i:Nat}{x:V},Vals xs us->xs[i]?=some x->∃u,us[i]?=some u/\RelV x u
 |_,_,_,_,.nil,e=>by simp at e
 |_,_,0,_,.cons r _,e=>by simp at e;subst e;exact⟨_,rfl,r⟩
 |_,_,i+1,x,.cons _ t,e=>by
  obtain⟨u,h1,h2⟩:=Vals.get (i:=i) (x:=x) t (by simpa using e);exact⟨u,by simpa using h1,h2⟩
theorem Vals.set{x:V}(r:RelV x u):∀{xs:List V}{us:List Value}(i:Nat),Vals xs us->Vals (xs.set i x) (us.set i u)
 |_,_,_,.nil=>.nil
 |_,_,0,.cons _ t=>.cons r t
 |_,_,i+1,.cons q t=>.cons q (Vals.set r i t)
theorem Vals.append:∀{xs ys:List V}{us ws:List Value},Vals xs us->Vals ys ws->Vals (xs++ys) (us++ws)
 |_,_,_,_,.nil,s=>s
 |_,_,_,_,.cons r t,s=>.cons r (Vals.append t s)
theorem Vals.take:∀{xs:List V}{us:List Value}(n:Nat),Vals xs us->Vals (xs.take n) (us.take n)
 |_,_,0,_=>.nil
 |_,_,_+1,.nil=>.nil
 |_,_,n+1,.cons r t=>.cons r (Vals.take n t)
theorem Vals.drop:∀{xs:List V}{us:List Value}(n:Nat),Vals xs us->Vals (xs.drop n) (us.drop n)
 |_,_,0,r=>r
 |_,_,_+1,.nil=>.nil
 |_,_,n+1,.cons _ t=>Vals.drop n t
theorem Vals.none_of:∀{xs:List V}{us:List Value}{i:Nat},Vals xs us->xs[i]?=none->us[i]?=none:=λ{xs us i} r e=>by
 have h1:=r.length;have h2:xs.length<=i:=qBv.mp e;exact qBv.mpr (by lia)
def RelO:Option V->Option Value->Prop
 |some v,some u=>RelV v u
 |none,none=>True
 |_,_=>False
def KV{κ:Type}:List (κ×V)->List (κ×Value)->Prop:=Paired λ(p:κ×V)(q:κ×Value)=>p.1=q.1/\RelV p.2 q.2
def kV:Key->V
 | .inl i=>.int i
 | .inr x=>.str x
inductive HO where
 |lst (xs:List V)
 |tup (xs:List V)
 |dK (kvs:List (Key×V))|dT (kvs:List (List Key×V))
 |set (S:Int->Bool) (n:Nat)
 |ins (C dx:Addr) (fs:List (Str×V))
 |own (x:Addr)
 |xd (fs:List (Str×V))
 |met (f x:Addr)
 |rng (lo hi:Int)
 |frz (o:Obj) (u:HO)
 |tbl (ps:Array Value)
 |ext (φ:Heap->Prop)
variable{o:HO}
abbrev Hp:=Addr->Option HO
variable{H:Hp}
def upd(H:Hp)(a:Addr)(o:HO):Hp:=λb=>if b=a then some o else H b
theorem upd_same :upd H a o a=some o:=by unfold upd;rw[qAC rfl]
theorem upd_ne{o:HO}(h:b≠a):upd H a o b=H b:=by unfold upd;rw[qAB h]
theorem zCg{u:HO}:upd (upd H a o) a u=upd H a u:=by
 funext b;unfold upd;split<;>rfl
theorem zBf{u:HO}(h:H a=some o)(h':H b=some u)(d:o≠u):a≠b:=by
 intro e;subst e;rw[h]at h';exact d (qAW h')
theorem zAi(h:H a=some o)(h':H b=none):a≠b:=by
 intro e;subst e;rw[h]at h';cases h'
section
variable(P:Program)(w:World)
def zAz(H:Hp)(h:Heap)(a:Addr):HO->Prop
 | .lst xs=>xs.length<=sizeLine/\∃(its:List Value)(n:Nat),Vals xs its/\h.get? a=some {cls:=.type "list",data:=.seq its.toArray n}
 | .tup xs=>xs.length<=sizeLine/\∃its:List Value,Vals xs its/\IsTup h a its.toArray
 | .dK kvs=>kvs.length<=sizeLine/\(a==sysModules)=false/\∃vs,KV kvs vs/\h.DictOf (zAu P w) a vs
 | .dT kvs=>kvs.length<=sizeLine/\(a==sysModules)=false/\∃xs:List (List Key×Addr×Value),
   Paired (λ(p:List Key×V)(q:List Key×Addr×Value)=>p.1=q.1/\H q.2.1=some (.tup (p.1.map kV))/\RelV p.2 q.2.2) kvs xs /\
   ∃o es ep,h.get? a=some o/\o.ExactDict/\o.data= .dict es ep/\es.toList=xs.map (entryOfKey (tupleKind (zAu P w)))/\(xs.map (·.1)).Nodup
 | .set S n=>h.SetOf (intKind P w) a S n
 | .ins C dx fs=>H dx=some (.own a)/\fs.length<=1000/\dx≠a/\h.get? a=some (PySem.W.instObj C dx) /\
   ∃mA,h.Ns1 dx mA/\(∀f,RelO (fs.lookup f) (mA f))/\PySem.Within mA (fs.map (·.1))
 | .own _=>∃o,h.get? a=some o
 | .xd fs=>∃mA,h.Ns1 a mA/\∀f,RelO (fs.lookup f) (mA f)
 | .rng lo hi=>∃t u v,h.get? a=some {cls:=.type "range",data:=.fields #[.int lo t,.int hi u,.int 1 v]}
 | .frz o u=>h.get? a=some o/\zAz H h a u
 | .tbl ps=>h.get? a=some {cls:=.none,data:=.fields ps}
 | .met f x=>h.get? a=some (PySem.W.methodObj (.ref f) (.ref x))
 | .ext φ=>φ h/\(∃o,h.get? a=some o)/\∀h1 h2:Heap,φ h1->(∀o,h1.get? a=some o->h2.get? a=some o)->φ h2
def HOk(H:Hp)(h:Heap):Prop:=∀a o,H a=some o->zAz P w H h a o
end
section
variable{P:Program}{w:World}{H H':Hp}{h h':Heap}{a:Addr}{o:HO}
theorem zAz.lt(x:zAz P w H h a o):a<h.objs.size:=by
 cases o with
 |lst xs=>obtain⟨_,_,_,_,e⟩:=x;exact qAJ e
 |tup xs=>obtain⟨_,_,_,p⟩:=x;exact p.lt
 |dK kvs=>obtain⟨_,_,_,_,o,_,_,e,_⟩:=x;exact qAJ e
 |dT kvs=>obtain⟨_,_,_,_,o,_,_,e,_⟩:=x;exact qAJ e
 |set S n=>obtain⟨o,_,_,_,e,_⟩:=x;exact qAJ e
 |ins C dx fs=>obtain⟨_,_,_,e,_⟩:=x;exact qAJ e
 |own y=>obtain⟨_,e⟩:=x;exact qAJ e
 |xd fs=>obtain⟨_,⟨_,_,_,e,_⟩,_⟩:=x;exact qAJ e
 |rng lo hi=>obtain⟨_,_,_,e⟩:=x;exact qAJ e
 |frz ob u=>obtain⟨e,_⟩:=x;exact qAJ e
 |tbl ps=>exact qAJ (show h.get? a=some _ from x)
 |met f y=>exact qAJ (show h.get? a=some _ from x)
 |ext φ=>obtain⟨_,⟨_,e⟩,_⟩:=x;exact qAJ e
theorem Paired.mapP{α β:Type}{F G:α->β->Prop}:∀{l₁:List α}{l₂:List β},Paired F l₁ l₂->(∀a b,F a b->G a b)->Paired G l₁ l₂
 |_,_,.nil,_=>.nil
 |_,_,.cons r t,f=>.cons (f _ _ r) (Paired.mapP t f)
theorem zAz.stay(x:zAz P w H h a o)(k:∀b u,(b=a\/H b=some (.own a))->h.get? b=some u->h'.get? b=some u)
  (ho:∀b,H b=some (.own a)->H' b=some (.own a)) (ht:∀b xs,H b=some (.tup xs)->H' b=some (.tup xs)):zAz P w H' h' a o:=by
 induction o with
 |lst xs=>obtain⟨z,its,n,r,e⟩:=x;exact⟨z,its,n,r,k _ _ (.inl rfl) e⟩
 |tup xs=>obtain⟨z,its,r,ob,e,c⟩:=x;exact⟨z,its,r,ob,k _ _ (.inl rfl) e,c⟩
 |dK kvs=>obtain⟨z,y,vs,r,ob,es,ep,e,c⟩:=x;exact⟨z,y,vs,r,ob,es,ep,k _ _ (.inl rfl) e,c⟩
 |dT kvs=>
  obtain⟨z,y,xs,r,ob,es,ep,e,c⟩:=x;exact⟨z,y,xs,Paired.mapP r λp q z=>⟨z.1,ht _ _ z.2.1,z.2.2⟩,ob,es,ep,k _ _ (.inl rfl) e,c⟩
 |set S n=>obtain⟨ob,es,ep,t,e,c⟩:=x;exact⟨ob,es,ep,t,k _ _ (.inl rfl) e,c⟩
 |ins C dx fs=>
  obtain⟨d,z,ne,e,mA,⟨od,es,ep,e2,c⟩,r⟩:=x;exact⟨ho _ d,z,ne,k _ _ (.inl rfl) e,mA,⟨od,es,ep,k _ _ (.inr d) e2,c⟩,r⟩
 |own y=>obtain⟨ob,e⟩:=x;exact⟨ob,k _ _ (.inl rfl) e⟩
 |xd fs=>obtain⟨mA,⟨od,es,ep,e,c⟩,r⟩:=x;exact⟨mA,⟨od,es,ep,k _ _ (.inl rfl) e,c⟩,r⟩
 |rng lo hi=>obtain⟨t,u,v,e⟩:=x;exact⟨t,u,v,k _ _ (.inl rfl) e⟩
 |frz ob u ih=>obtain⟨e,q⟩:=x;exact⟨k _ _ (.inl rfl) e,ih q⟩
 |tbl ps=>
  have e:h.get? a=some {cls:=.none,data:=.fields ps}:=x;show h'.get? a=some {cls:=.none,data:=.fields ps};exact k a _ (.inl rfl) e
 |met f y=>
  have e:h.get? a=some (PySem.W.methodObj (.ref f) (.ref y)):=x;show h'.get? a=some (PySem.W.methodObj (.ref f) (.ref y));exact k a _ (.inl rfl) e
 |ext φ=>obtain⟨p,⟨o,e⟩,st⟩:=x;exact⟨st _ _ p λo q=>k _ _ (.inl rfl) q,⟨o,k _ _ (.inl rfl) e⟩,st⟩
theorem HOk.lt(x:HOk P w H h)(e:H a=some o):a<h.objs.size:=(x a o e).lt
theorem HOk.fresh(x:HOk P w H h)(e:h.objs.size<=a):H a=none:=by
 cases q:H a with
 |none=>rfl
 |some u=>exact absurd (qAi (x.lt q) e) (qAv _)
theorem HOk.kept(x:HOk P w H h)(k:∀b u,h.get? b=some u->h'.get? b=some u):HOk P w H h':=λa o e=>
 (x a o e).stay (λb u _ q=>k b u q) (λ_ q=>q) λ_ _ q=>q
theorem HOk.laid(x:HOk P w H h)(k:∀b u,h.get? b=some u->h'.get? b=some u)(hp:h.objs.size<=a)(new:zAz P w (upd H a o) h' a o):HOk P w (upd H a o) h':=λb u e=>by
 have hn:=x.fresh hp
 by_cases hb:b=a
 .subst hb;rw[upd_same]at e;cases e;exact new
 .rw [upd_ne hb]at e;exact(x b u e).stay (λc v _ q=>k c v q) (λc q=>by rw[upd_ne (zAi q hn)];exact q) λc xs q=>by rw[upd_ne (zAi q hn)];exact q
end
def Rd(H:Hp)(a:Addr)(u:HO):Prop:=H a=some u\/∃o,H a=some (.frz o u)
theorem Rd.ok{u:HO}(r:Rd H a u)(x:HOk P w H h):zAz P w H h a u:=by
 rcases r with r|⟨o,r⟩
 .exact x a u r
 .obtain ⟨_,q⟩:=x a _ r;exact q
def Mut:Option HO->Prop
 |some (.lst _)=>True
 |some (.dK _)=>True
 |some (.dT _)=>True
 |some (.set _ _)=>True
 |some (.ins _ _ _)=>True
 |some (.ext _)=>True
 |_=>False
section
variable{P:Program}{w:World}{H:Hp}{h h':Heap}{x e:Addr}{o':HO}
theorem HOk.write(ok:HOk P w H h)(mu:Mut (H x))(he:e=x\/H e=some (.own x))(k:∀b u,b≠e->h.get? b=some u->h'.get? b=some u)(heo:∃u,h'.get? e=some u)
  (new:zAz P w (upd H x o') h' x o'):HOk P w (upd H x o') h':=λb u q=>by
 have nown:∀c y,H c=some (.own y)->c≠x:=λc y r z=>by subst z;rw[r]at mu;exact mu
 have ntup:∀c xs,H c=some (.tup xs)->c≠x:=λc xs r z=>by subst z;rw[r]at mu;exact mu
 by_cases hb:b=x
 .subst hb;rw[upd_same]at q;cases q;exact new
 .rw [upd_ne hb]at q
  by_cases hbe:b=e
  .have q':H b=some (.own x):=by
    rcases he with z|z
    .exact absurd (hbe.trans z) hb
    .rw [hbe];exact z
   rw[q]at q';cases q';obtain⟨v,hv⟩:=heo;exact⟨v,by rw[hbe];exact hv⟩
  .refine (ok b u q).stay (λc v hc r=>k c v ?_ r) (λc r=>by rw[upd_ne (nown c b r)];exact r) λc xs r=>by rw[upd_ne (ntup c xs r)];exact r
   rcases hc with rfl|hc
   .exact hbe
   .rintro rfl;rcases he with z|z
    .exact nown c b hc z
    .rw [hc]at z;cases z;exact hb rfl
end
structure Un(fs ex:List Addr)(H H':Hp)(h h':Heap):Prop where
 keep:∀b o,h.get? b=some o->H b=none->b∉fs->b∉ex->h'.get? b=some o
 slot:∀b o,h.get? b=some o->H b=none->b∈fs->b∉ex->∃sl,h'.get? b=some {o with slots:=sl}
 free:∀b o,h.get? b=some o->H b=none->b∉ex->H' b=none
 there:∀b o,h.get? b=some o->b∉ex->∃o',h'.get? b=some o'
 tups:∀b xs,H b=some (.tup xs)->H' b=some (.tup xs)
 frzs:∀b o u,H b=some (.frz o u)->H' b=some (.frz o u)
 tbls:∀b ps,H b=some (.tbl ps)->∃more,H' b=some (.tbl (ps++more))
section
variable{fs fs' ex ex':List Addr}{H H1 H2:Hp}{h h1 h2 h':Heap}{a x e:Addr}{o:HO}
theorem Un.any(u:Un fs ex H H1 h h1){ob:Obj}(q:h.get? b=some ob)(n:H b=none)(hx:b∉ex):∃sl,h1.get? b=some {ob with slots:=sl}:=by
 by_cases hb:b∈fs
 .exact u.slot b ob q n hb hx
 .exact ⟨ob.slots,u.keep b ob q n hb hx⟩
theorem Un.kept(k:∀b u,h.get? b=some u->h'.get? b=some u):Un fs ex H H h h' :=
 ⟨λb ob q _ _ _=>k b ob q,λb ob q _ _ _=>⟨ob.slots,k b ob q⟩,λ_ _ _ n _=>n,λb ob q _=>⟨ob,k b ob q⟩,λ_ _ q=>q,λ_ _ _ q=>q,λ_ ps q=>⟨#[],by rw[q];simp⟩⟩
theorem Un.refl:Un fs ex H H h h:=Un.kept λ_ _ q=>q
theorem Un.laid(k:∀b u,h.get? b=some u->h'.get? b=some u)(hp:h.objs.size<=a)(hn:H a=none):Un fs ex H (upd H a o) h h' where
 keep:=λb u q _ _ _=>k b u q
 slot:=λb u q _ _ _=>⟨u.slots,k b u q⟩
 free:=λb u q n _=>by rw[upd_ne (qAR (qAi (qAJ q) hp))];exact n
 there:=λb u q _=>⟨u,k b u q⟩
 tups:=λb xs q=>by rw[upd_ne (zAi q hn)];exact q
 frzs:=λb u xs q=>by rw[upd_ne (zAi q hn)];exact q
 tbls:=λb ps q=>⟨#[],by rw[upd_ne (zAi q hn),q];simp⟩
theorem Un.write(mu:Mut (H x))(he:e=x\/H e=some (.own x))(k:∀b u,b≠e->h.get? b=some u->h'.get? b=some u)(heo:∃u,h'.get? e=some u):Un fs ex H (upd H x o) h h':=by
 have hx:∀b,H b=none->b≠x:=λb n z=>by subst z;rw[n]at mu;exact mu
 have hb:∀b,H b=none->b≠e:=λb n z=>by
  subst z;rcases he with r|r
  .exact hx b n r
  .rw [n]at r;cases r
 have hm:∀b u,H b=some u->¬Mut (some u)->b≠x:=λb u q nm z=>by subst z;rw[q]at mu;exact nm mu
 refine⟨λb u q n _ _=>k b u (hb b n) q,λb u q n _ _=>⟨u.slots,k b u (hb b n) q⟩,λb u q n _=>by rw[upd_ne (hx b n)];exact n,λb u q _=>?_,
  λb xs q=>by rw[upd_ne (hm b _ q λz=>z)];exact q,λb u xs q=>by rw[upd_ne (hm b _ q λz=>z)];exact q,λb ps q=>⟨#[],by rw[upd_ne (hm b _ q λz=>z),q];simp⟩⟩
 by_cases hbe:b=e
 .subst hbe;exact heo
 .exact ⟨u,k b u hbe q⟩
end
def trk(h:Heap)(H:Hp):List Addr:=(List.range h.objs.size).filter λa=>(H a).isSome
def hidT(h:Heap)(H:Hp):Heap:=PySem.W.hideAll h (trk h H)
theorem hidT_size(h:Heap)(H:Hp):(hidT h H).objs.size=h.objs.size:=PySem.W.hideAll_size _ _
theorem hidT_get{o:Obj}(e:h.get? b=some o)(n:H b=none):(hidT h H).get? b=some o :=
 PySem.W.hideAll_get _ e λhm=>by
  have q:(H b).isSome=true:=(qBM.mp hm).2;rw[n]at q;simp at q
theorem of_hidT{o:Obj}(e:(hidT h H).get? b=some o):h.get? b=some o/\H b=none:=by
 have e':h.get? b=some o:=PySem.W.of_hideAll (trk h H) e;refine⟨e',?_⟩
 cases q:H b with
 |none=>rfl
 |some x=>
  have hm:b∈trk h H:=qBM.mpr ⟨qAw.mpr (qAJ e'),by simp[q]⟩;have z:(hidT h H).get? b=none:=PySem.W.hideAll_none (trk h H) hm;rw[z]at e;cases e
structure Mod(K:PySem.W.Frag)(mg:Str->Option Value)(base:Heap):Prop where
 kin:K.In base
 glob:base.Ns mainGlobals mg
 blt:∃mb,base.Ns builtinsNs mb/\∀x:Str,x≠ "__name__"->mb x=bootBuiltins x
 nolimit:base.NoLimit
structure Cx where
 prog:Program
 w:World
 K:PySem.W.Frag
 mg:Str->Option Value
 base:Heap
 A:Around
 N:List Str
 s₀:Shared
 H₀:Hp
 env:Env
 outer:List Env
 stack:List Env
 ex:List Addr
 fn:Str->Bool
 calm:Bool
 pn:List (Addr×Obj)
 xe:Value->Shared->Prop
variable{X:Cx}
def frs(l:List Env):List Addr:=l.filterMap (·.frame)
abbrev Cx.fs(X:Cx):List Addr:=frs X.outer
def Vis(sc:Scope)(x:Str):Prop:=sc.names.lookup x=some .local\/sc.names.lookup x=some .cell\/sc.names.lookup x=some .free
def Loc(sc:Scope)(x:Str):Prop:=sc.names.lookup x=some .local\/sc.names.lookup x=some .cell
def Look(env:Env)(h:Heap)(m:Str->Option Value)(x:Str)(u:Value):Prop :=
 (env.kindOf x=some .local/\m x=some u)\/((env.kindOf x=some .cell\/env.kindOf x=some .free)/\∃c,env.cells.lookup x=some c/\h.IsCell c (some u))
structure Cx.Ok(X:Cx):Prop where
 mod:Mod X.K X.mg X.base
 kind:X.env.scope.kind= .function
 glob:X.env.globals=mainGlobals
 blt:X.env.builtins=builtinsNs
 above:X.s₀.heap.objs.size<=X.env.locals
 inj:∀x y c,X.env.cells.lookup x=some c->X.env.cells.lookup y=some c->x=y
 has:∀x,(X.env.kindOf x=some .cell\/X.env.kindOf x=some .free)->∃c,X.env.cells.lookup x=some c
 cab:∀x c,X.fn x=true->X.env.cells.lookup x=some c->X.s₀.heap.objs.size<=c
 hd:X.calm=true->X.A.handled=none
 frames:X.A.frames=some X.stack
 stk:X.stack=X.outer\/(X.stack=X.env::X.outer/\X.env.frame=some X.env.locals)
 exf:∀b∈X.ex,b≠X.env.locals/\∀x c,X.env.cells.lookup x=some c->c≠b
 bs:∀b o,X.base.get? b=some o->X.s₀.heap.get? b=some o/\X.H₀ b=none
 bsz:X.base.objs.size<=X.s₀.heap.objs.size
 noex:∀b o,X.base.get? b=some o->b∉X.ex
 exfs:∀b∈X.ex,b∉X.fs
 funs:X.s₀.heap.FunFrames X.base X.outer
 frf:∀b∈X.fs,X.H₀ b=none
structure Inv(X:Cx)(pins:List (Addr×Obj))(σ:List (Option V))(H:Hp)(s:Shared):Prop where
 ok:X.Ok
 os:s.os=X.s₀.os
 bare:AllBare s.gens
 base:Un X.fs X.ex X.H₀ H X.s₀.heap s.heap
 loc:∃m,s.heap.Ns X.env.locals m/\∀(i:Nat)(x:Str)(v:V),X.N[i]?=some x->σ[i]?=some (some v)->Vis X.env.scope x->∃u,RelV v u/\Look X.env s.heap m x u
 cell:∀x c,X.env.cells.lookup x=some c->∃v,s.heap.IsCell c v
 free:H X.env.locals=none
 freeC:∀x c,X.env.cells.lookup x=some c->H c=none
 pin:∀p∈X.pn++pins,s.heap.get? p.1=some p.2/\H p.1=none/\p.1≠X.env.locals/\p.1∉X.fs/\∀v,p.2.data≠.cell v
 hok:HOk X.prog X.w H s.heap
 len:σ.length=X.N.length
section
variable{X:Cx}{pins:List (Addr×Obj)}{σ:List (Option V)}{H H':Hp}{s:Shared}{h':Heap}
theorem Cx.Ok.nofr(ok:X.Ok){o:Obj}(e:X.base.get? b=some o):b∉X.fs:=λhb=>by
 have:=(ok.funs.mem hb).1;rw[e]at this;cases this
theorem Inv.bs(I:Inv X pins σ H s):∀b o,X.base.get? b=some o->s.heap.get? b=some o/\H b=none:=λb o e=>
 ⟨I.base.keep b o (I.ok.bs b o e).1 (I.ok.bs b o e).2 (I.ok.nofr e) (I.ok.noex b o e),I.base.free b o (I.ok.bs b o e).1 (I.ok.bs b o e).2 (I.ok.noex b o e)⟩
theorem Inv.bk(I:Inv X pins σ H s):∀b o,X.base.get? b=some o->s.heap.get? b=some o:=λb o e=>(I.bs b o e).1
theorem Inv.mod(I:Inv X pins σ H s):Mod X.K X.mg X.base:=I.ok.mod
theorem Inv.kIn(I:Inv X pins σ H s):X.K.In s.heap:=I.ok.mod.kin.keeps I.bk
theorem Inv.lt(I:Inv X pins σ H s):X.env.locals<s.heap.objs.size:=let⟨_,hn,_⟩:=I.loc;hn.lt
theorem Inv.sz(I:Inv X pins σ H s):X.s₀.heap.objs.size<=s.heap.objs.size:=qAf I.ok.above (qBh I.lt)
theorem Inv.nofs(I:Inv X pins σ H s)(h:s.heap.objs.size<=a):a∉X.fs:=λhb=>by
 obtain⟨_,o,ho,_⟩:=I.ok.funs.mem hb;exact absurd (qAi (qAJ ho) (qAf I.sz h)) (qAv _)
theorem Inv.cne(I:Inv X pins σ H s):∀x c,X.env.cells.lookup x=some c->c≠X.env.locals:=λx c e z=>by
 obtain⟨v,o,ho,hd⟩:=I.cell x c e;obtain⟨m,⟨o',es,ep,ho',hd',_⟩,_⟩:=I.loc;rw[z,ho']at ho;cases ho;rw[hd']at hd;cases hd
theorem Inv.funs(I:Inv X pins σ H s):s.heap.FunFrames X.base X.outer:=by
 have all:∀(l:List Env),(∀b∈frs l,b∈X.fs)->X.s₀.heap.FunFrames X.base l->s.heap.FunFrames X.base l:=by
  intro l
  induction l with
  |nil=>intro _ _;trivial
  |cons env r ih=>
   intro hs hl;obtain⟨hk,⟨L,o,hf,hn,ho,hd⟩,hr⟩:=hl;have hL:L∈X.fs:=hs L (by unfold frs;rw[qBi,hf];exact qAX);obtain⟨sl,e⟩:=I.base.slot L o ho (I.ok.frf L hL) hL λz=>I.ok.exfs L z hL;exact⟨hk,⟨L,_,hf,hn,e,hd⟩,ih (λb hb=>hs b (by unfold frs;rw[qBi,hf];exact qAU _ hb)) hr⟩
 exact all X.outer (λ_ hb=>hb) I.ok.funs
theorem Inv.stack(I:Inv X pins σ H s):s.heap.FunFrames X.base X.stack:=by
 rcases I.ok.stk with e|⟨e,hf⟩
 .rw [e];exact I.funs
 .rw [e];obtain⟨m,hn,_⟩:=I.loc;refine .cons (by rw[I.ok.kind];decide) hf hn ?_ I.funs;exact qC1 (qAf I.ok.bsz I.ok.above)
theorem Inv.stkSub(I:Inv X pins σ H s):∀b∈frs X.stack,b∈X.env.locals::X.fs:=λb hb=>by
 rcases I.ok.stk with e|⟨e,hf⟩
 .rw [e]at hb;exact qAU _ hb
 .rw [e]at hb;unfold frs at hb;rw[qBi,hf]at hb;exact hb
theorem Inv.stkFree(I:Inv X pins σ H s):∀b∈frs X.stack,H b=none:=λb hb=>by
 rcases qAL.mp (I.stkSub b hb)with e|hb
 .rw [e];exact I.free
 .obtain ⟨_,o,ho,_⟩:=I.ok.funs.mem hb;exact I.base.free b o ho (I.ok.frf b hb) λz=>I.ok.exfs b z hb
theorem Inv.step{g':Array GenState}{t':Nat}{d':Drawn}{ch:List Addr}(I:Inv X pins σ H s)
  (hch:∀b∈ch,(b∈X.ex\/X.s₀.heap.objs.size<=b)/\b≠X.env.locals/\(∀x c,X.env.cells.lookup x=some c->c≠b)/\∀p∈X.pn++pins,p.1≠b)
  (keep:∀b o,b≠X.env.locals->b∉X.fs->b∉ch->s.heap.get? b=some o->H b=none->h'.get? b=some o)
  (slot:∀b o,b≠X.env.locals->b∈X.fs->b∉ch->s.heap.get? b=some o->H b=none->∃sl,h'.get? b=some {o with slots:=sl}) (free:∀b o,b∉ch->s.heap.get? b=some o->H b=none->H' b=none)
  (there:∀b o,b∉ch->s.heap.get? b=some o->∃o',h'.get? b=some o')
  (tups:∀b xs,H b=some (.tup xs)->H' b=some (.tup xs)) (frzs:∀b o u,H b=some (.frz o u)->H' b=some (.frz o u)) (tbls:∀b ps,H b=some (.tbl ps)->∃more,H' b=some (.tbl (ps++more)))
  (ns:∀m,s.heap.Ns X.env.locals m->h'.Ns X.env.locals m) (hok:HOk X.prog X.w H' h') (hg:AllBare g') :
  Inv X pins σ H' {s with heap:=h',gens:=g',drawn:=d',toks:=t'}:=by
 have neL:∀b o,X.s₀.heap.get? b=some o->b≠X.env.locals:=λb o e=>qAR (qAi (qAJ e) I.ok.above)
 have neC:∀b o,X.s₀.heap.get? b=some o->b∉X.ex->b∉ch:=λb o e hx hb=>by
  rcases(hch b hb).1 with z|z
  .exact hx z
  .exact absurd (qAi (qAJ e) z) (qAv _)
 have cellK:∀x c,X.env.cells.lookup x=some c->∀v,s.heap.IsCell c v->h'.IsCell c v:=λx c e v ⟨o,ho,hd⟩=>by
  have nch:c∉ch:=λz=>(hch c z).2.2.1 x c e rfl
  by_cases hc:c∈X.fs
  .obtain ⟨sl,q⟩:=slot c o (I.cne x c e) hc nch ho (I.freeC x c e);exact⟨_,q,hd⟩
  .exact ⟨o,keep c o (I.cne x c e) hc nch ho (I.freeC x c e),hd⟩
 refine⟨I.ok,I.os,hg,⟨λb o e n hb hx=>?_,λb o e n hb hx=>?_,λb o e n hx=>?_,λb o e hx=>?_,λb xs e=>tups b xs (I.base.tups b xs e),λb o xs e=>frzs b o xs (I.base.frzs b o xs e),λb ps e=>?_⟩,?_,λx c e=>?_,?_,λx c e=>?_,λp hp=>?_,hok,I.len⟩
 .exact keep b o (neL b o e) hb (neC b o e hx) (I.base.keep b o e n hb hx) (I.base.free b o e n hx)
 .obtain ⟨sl,e1⟩:=I.base.slot b o e n hb hx;obtain⟨sl',e2⟩:=slot b _ (neL b o e) hb (neC b o e hx) e1 (I.base.free b o e n hx);exact⟨sl',e2⟩
 .obtain ⟨o',e1⟩:=I.base.there b o e hx;exact free b o' (neC b o e hx) e1 (I.base.free b o e n hx)
 .obtain ⟨o',e1⟩:=I.base.there b o e hx;exact there b o' (neC b o e hx) e1
 .obtain ⟨m1,e1⟩:=I.base.tbls b ps e;obtain⟨m2,e2⟩:=tbls b _ e1;exact⟨m1++m2,by rw[e2,Array.append_assoc]⟩
 .obtain ⟨m,hn,hl⟩:=I.loc;refine⟨m,ns m hn,λi x v e1 e2 e3=>?_⟩;obtain⟨u,r,l⟩:=hl i x v e1 e2 e3;refine⟨u,r,?_⟩;rcases l with l|⟨k,c,e,z⟩
  .exact .inl l
  .exact .inr ⟨k,c,e,cellK x c e _ z⟩
 .obtain ⟨v,z⟩:=I.cell x c e;exact⟨v,cellK x c e v z⟩
 .obtain ⟨m,⟨o,_,_,ho,_⟩,_⟩:=I.loc;exact free _ o (λz=>(hch _ z).2.1 rfl) ho I.free
 .obtain ⟨v,o,ho,hd⟩:=I.cell x c e;exact free c o (λz=>(hch c z).2.2.1 x c e rfl) ho (I.freeC x c e)
 .obtain ⟨e,n,ne,nf,d⟩:=I.pin p hp;have nch:p.1∉ch:=λz=>(hch p.1 z).2.2.2 p hp rfl;exact⟨keep p.1 p.2 ne nf nch e n,free p.1 p.2 nch e n,ne,nf,d⟩
theorem Inv.un{t':Nat}(I:Inv X pins σ H s)(u:Un X.fs [] H H' s.heap h')(hok:HOk X.prog X.w H' h'):Inv X pins σ H' {s with heap:=h',toks:=t'}:=by
 obtain⟨m,⟨o,es,ep,ho,r⟩,_⟩:=id I.loc;obtain⟨sl,hL⟩:=u.any ho I.free (by simp)
 exact I.step (g':=s.gens) (d':=s.drawn) (ch:=[]) (λ_ z=>nomatch z) (λb o _ hb _ e n=>u.keep b o e n hb (by simp)) (λb o _ hb _ e n=>u.slot b o e n hb (by simp)) (λb o _ e n=>u.free b o e n (by simp)) (λb o _ e=>u.there b o e (by simp)) u.tups u.frzs u.tbls (λm' hm=>by
  obtain⟨o',es',ep',ho',r'⟩:=hm;rw[ho]at ho';cases ho';exact⟨_,es',ep',hL,r'⟩) hok I.bare
theorem Inv.call{g':Array GenState}{t':Nat}{d':Drawn}{ch:List Addr}(I:Inv X pins σ H s)(u:Un (frs X.stack) ch H H' s.heap h')(hok:HOk X.prog X.w H' h')(hg:AllBare g')
  (hch:∀b∈ch,(b∈X.ex\/X.s₀.heap.objs.size<=b)/\b≠X.env.locals/\(∀x c,X.env.cells.lookup x=some c->c≠b)/\∀p∈X.pn++pins,p.1≠b) :
  Inv X pins σ H' {s with heap:=h',gens:=g',drawn:=d',toks:=t'}:=by
 obtain⟨m,⟨o,es,ep,ho,r⟩,_⟩:=id I.loc;obtain⟨sl,hL⟩:=u.any ho I.free λz=>(hch _ z).2.1 rfl
 exact I.step (ch:=ch) hch (λb o hL hb hc e n=>u.keep b o e n (λz=>(qAL.mp (I.stkSub b z)).elim hL hb) hc) (λb o _ _ hc e n=>u.any e n hc) (λb o hc e n=>u.free b o e n hc) (λb o hc e=>u.there b o e hc) u.tups u.frzs u.tbls (λm' hm=>by
  obtain⟨o',es',ep',ho',r'⟩:=hm;rw[ho]at ho';cases ho';exact⟨_,es',ep',hL,r'⟩) hok hg
theorem Inv.turned{t':Nat}{it:Addr}(I:Inv X pins σ H s)(k:∀b o,b≠it->s.heap.get? b=some o->h'.get? b=some o)(hn:H it=none)(hL:it≠X.env.locals)
  (h1:it∈X.ex\/X.s₀.heap.objs.size<=it) (h2:∀x c,X.env.cells.lookup x=some c->c≠it) (h3:∀p∈X.pn++pins,p.1≠it):Inv X pins σ H {s with heap:=h',toks:=t'}:=by
 have nit:∀b u,H b=some u->b≠it:=λb u e z=>by rw[z,hn]at e;cases e
 refine I.step (g':=s.gens) (d':=s.drawn) (ch:=[it]) (λb hb=>?_) (λb o _ _ hc e _=>k b o (λz=>hc (by simp[z])) e) (λb o _ _ hc e _=>⟨o.slots,k b o (λz=>hc (by simp[z])) e⟩) (λ_ _ _ _ n=>n)
  (λb o hc e=>⟨o,k b o (λz=>hc (by simp[z])) e⟩) (λ_ _ e=>e) (λ_ _ _ e=>e) (λb ps e=>⟨#[],by rw[e];simp⟩) (λm hm=>?_) (λb u e=>?_) I.bare
 .have e:b=it:=by simpa using hb
  subst e;exact⟨h1,hL,h2,h3⟩
 .obtain ⟨o,es,ep,ho,r⟩:=hm;exact⟨o,es,ep,k _ o (qAV hL) ho,r⟩
 .refine (I.hok b u e).stay (λc v hc q=>k c v ?_ q) (λ_ q=>q) λ_ _ q=>q;rcases hc with z|z
  .rw [z];exact nit b u e
  .exact nit c _ z
theorem Inv.tok(I:Inv X pins σ H s)(t:Nat):Inv X pins σ H {s with toks:=t}:=I.un (h':=s.heap) (t':=t) Un.refl I.hok
theorem Inv.kept{t':Nat}(I:Inv X pins σ H s)(k:∀b u,s.heap.get? b=some u->h'.get? b=some u):Inv X pins σ H {s with heap:=h',toks:=t'}:=I.un (Un.kept k) (I.hok.kept k)
theorem Inv.laid{a:Addr}{o:HO}{t':Nat}(I:Inv X pins σ H s)(k:∀b u,s.heap.get? b=some u->h'.get? b=some u)(hp:s.heap.objs.size<=a)(new:zAz X.prog X.w (upd H a o) h' a o) :
  Inv X pins σ (upd H a o) {s with heap:=h',toks:=t'}:=I.un (Un.laid k hp (I.hok.fresh hp)) (I.hok.laid k hp new)
theorem Inv.write{x e:Addr}{o:HO}{t':Nat}(I:Inv X pins σ H s)(mu:Mut (H x))(he:e=x\/H e=some (.own x))(k:∀b u,b≠e->s.heap.get? b=some u->h'.get? b=some u)(heo:∃u,h'.get? e=some u)
  (new:zAz X.prog X.w (upd H x o) h' x o):Inv X pins σ (upd H x o) {s with heap:=h',toks:=t'}:=I.un (Un.write mu he k heo) (I.hok.write mu he k heo new)
theorem Inv.pins_of{pins':List (Addr×Obj)}(I:Inv X pins σ H s)(h:∀p∈pins',s.heap.get? p.1=some p.2/\H p.1=none/\p.1≠X.env.locals/\p.1∉X.fs/\∀v,p.2.data≠.cell v):Inv X pins' σ H s :=
 ⟨I.ok,I.os,I.bare,I.base,I.loc,I.cell,I.free,I.freeC,λp hp=>(qAY.mp hp).elim (λz=>I.pin p (qAo _ z)) (h p),I.hok,I.len⟩
theorem zJa{N:List Str}(hN:N.Nodup){j:Nat}(a:N[i]?=some x)(b:N[j]?=some x):i=j:=by
 obtain⟨h1,e1⟩:=qAg.mp a;obtain⟨h2,e2⟩:=qAg.mp b;exact(qC2 hN).mp (e1.trans e2.symm)
theorem store_ok2{M:Model}{E:Value->Shared->Prop}{Q:Unit->Shared->Prop}(I:Inv X pins σ H s)(hN:X.N.Nodup)(hi:X.N[i]?=some x)(hx:Loc X.env.scope x)(r:RelV v u)
  (h:∀s',Inv X pins (σ.set i (some v)) H s'->(∃a,Heap.SameBut a s.heap s'.heap/\(a=X.env.locals\/X.env.cells.lookup x=some a))->Q () s') (hf:X.fn x=true\/X.env.scope.names.lookup x=some .local:=by first|exact .inl rfl|exact .inr rfl|assumption):wpAny M A (storeName X.env x u) Q E s:=by
 obtain⟨m,hn,hl⟩:=id I.loc;have hcls:(X.env.scope.kind== .class||(X.env.scope.kind== .module&&X.env.locals != X.env.globals))=false:=by rw[I.ok.kind];rfl
 have hiσ:i<σ.length:=by rw[I.len];exact(qAg.mp hi).1
 have cne:=I.cne
 have tracked:∀{a:Addr}{h':Heap},(∃o,s.heap.get? a=some o/\H a=none)->Heap.SameBut a s.heap h'->HOk X.prog X.w H h':=λ{a h'} ha hs b ob e=>by
  obtain⟨_,_,hfree⟩:=ha;refine(I.hok b ob e).stay (λc w' hc q=>(hs.2 c ?_).trans q) (λ_ q=>q) λ_ _ q=>q;rintro rfl;rcases hc with rfl|hc
  .rw [hfree]at e;cases e
  .rw [hfree]at hc;cases hc
 rcases hx with hk|hk
 .refine wpAny_storeName_local hk hn (λh' hn' hs=>?_) hcls;obtain⟨oL,_,_,hoL,_⟩:=id hn;refine h _ ⟨I.ok,I.os,I.bare,⟨λb o e n hb hx=>?_,λb o e n hb hx=>?_,I.base.free,λb o e hx=>?_,I.base.tups,I.base.frzs,I.base.tbls⟩,⟨_,hn',λj y v' e1 e2 e3=>?_⟩,λy c e=>?_,I.free,I.freeC,λp hp=>?_,tracked ⟨oL,hoL,I.free⟩ hs,by simpa using I.len⟩ ⟨_,hs,.inl rfl⟩
  .exact (hs.2 b (qAR (qAi (qAJ e) I.ok.above))).trans (I.base.keep b o e n hb hx)
  .obtain ⟨sl,e1⟩:=I.base.slot b o e n hb hx;exact⟨sl,(hs.2 b (qAR (qAi (qAJ e) I.ok.above))).trans e1⟩
  .obtain ⟨o',e1⟩:=I.base.there b o e hx;exact⟨o',(hs.2 b (qAR (qAi (qAJ e) I.ok.above))).trans e1⟩
  .by_cases hj:j=i
   .subst hj;rw[hi]at e1;cases e1;rw[qCc hiσ]at e2
    cases e2
    exact⟨u,r,.inl ⟨hk,by simp⟩⟩
   .rw [qDL (qAV hj)]at e2;obtain⟨u',r',q⟩:=hl j y v' e1 e2 e3;refine⟨u',r',?_⟩;rcases q with⟨k,e⟩|⟨k,c,e,z⟩
    .refine .inl ⟨k,?_⟩;have:y≠x:=λe=>hj (zJa hN e1 (e▸hi));simp[this,e]
    .exact .inr ⟨k,c,e,z.sameBut hs (cne y c e)⟩
  .obtain ⟨w',z⟩:=I.cell y c e;exact⟨w',z.sameBut hs (cne y c e)⟩
  .obtain ⟨e,n,ne,nf,d⟩:=I.pin p hp;exact⟨(hs.2 p.1 ne).trans e,n,ne,nf,d⟩
 .have hfn:X.fn x=true:=by
   rcases hf with z|z
   .exact z
   .rw [z]at hk;cases hk
  obtain⟨c,hc⟩:=I.ok.has x (.inl hk);obtain⟨w',z⟩:=I.cell x c hc;refine wpAny_storeName_cell I.ok.kind hk hc z (λh' hc' hs=>?_);obtain⟨oc,hoc,hocd⟩:=id z;refine h {s with heap:=h'} ⟨I.ok,I.os,I.bare,⟨λb o e n hb hx=>?_,λb o e n hb hx=>?_,I.base.free,λb o e hx=>?_,I.base.tups,I.base.frzs,I.base.tbls⟩,⟨m,hn.sameBut hs (qAV (cne x c hc)),λj y v' e1 e2 e3=>?_⟩,λy c' e=>?_,I.free,I.freeC,λp hp=>?_,tracked ⟨oc,hoc,I.freeC x c hc⟩ hs,by simpa using I.len⟩ ⟨c,hs,.inr hc⟩
  .exact (hs.2 b (qAR (qAi (qAJ e) (I.ok.cab x c hfn hc)))).trans (I.base.keep b o e n hb hx)
  .obtain ⟨sl,e1⟩:=I.base.slot b o e n hb hx;exact⟨sl,(hs.2 b (qAR (qAi (qAJ e) (I.ok.cab x c hfn hc)))).trans e1⟩
  .obtain ⟨o',e1⟩:=I.base.there b o e hx;exact⟨o',(hs.2 b (qAR (qAi (qAJ e) (I.ok.cab x c hfn hc)))).trans e1⟩
  .by_cases hj:j=i
   .subst hj;rw[hi]at e1;cases e1;rw[qCc hiσ]at e2
    cases e2
    exact⟨u,r,.inr ⟨.inl hk,c,hc,hc'⟩⟩
   .rw [qDL (qAV hj)]at e2;obtain⟨u',r',q⟩:=hl j y v' e1 e2 e3;refine⟨u',r',?_⟩;rcases q with q|⟨k,c',e,z'⟩
    .exact .inl q
    .refine .inr ⟨k,c',e,z'.sameBut hs ?_⟩;rintro rfl;exact hj (zJa hN e1 (I.ok.inj _ _ _ e hc▸hi))
  .by_cases hcc:c'=c
   .subst hcc;exact⟨_,hc'⟩
   .obtain ⟨w2,z2⟩:=I.cell y c' e;exact⟨w2,z2.sameBut hs hcc⟩
  .obtain ⟨e,n,ne,nf,d⟩:=I.pin p hp;refine⟨(hs.2 p.1 ?_).trans e,n,ne,nf,d⟩;intro q;rw[q,hoc]at e;have q':oc=p.2:=qAW e;exact d w' (by rw[<-q'];exact hocd)
theorem zF8{M:Model}{E:Value->Shared->Prop}{v:V}{u:Value}{Q:Unit->Shared->Prop}(I:Inv X pins σ H s)(hN:X.N.Nodup)(hi:X.N[i]?=some x)(hx:Loc X.env.scope x)(r:RelV v u)
  (h:∀s',Inv X pins (σ.set i (some v)) H s'->Q () s') (hf:X.fn x=true\/X.env.scope.names.lookup x=some .local:=by first|exact .inl rfl|exact .inr rfl|assumption):wpAny M A (storeName X.env x u) Q E s :=
 store_ok2 I hN hi hx r (λs' I' _=>h s' I') hf
theorem Inv.call'{s':Shared}{ch:List Addr}(I:Inv X pins σ H s)(ho:s'.os=s.os)(u:Un (frs X.stack) ch H H' s.heap s'.heap)(hok:HOk X.prog X.w H' s'.heap)(hg:AllBare s'.gens)
  (hch:∀b∈ch,(b∈X.ex\/X.s₀.heap.objs.size<=b)/\b≠X.env.locals/\(∀x c,X.env.cells.lookup x=some c->c≠b)/\∀p∈X.pn++pins,p.1≠b):Inv X pins σ H' s':=by
 obtain⟨h',g',d',t',o'⟩:=s';have e:o'=s.os:=ho;subst e;exact I.call (g':=g') (t':=t') (d':=d') u hok hg hch
end
abbrev XK:=Value->Option Addr->Hp->Prop
abbrev St:=List (Option V)
variable{σ:St}
abbrev VK:=V->Hp->Prop
abbrev TE:=St->Hp->VK->Prop
variable{t:TE}
abbrev TT:=St->Hp->(Bool->Hp->Prop)->Prop
abbrev TA:=St->Hp->(List V->Hp->Prop)->Prop
structure Ends where
 nx:St->Hp->Prop
 rt:VK
 bk:St->Hp->Prop:=λ_ _=>False
 ct:St->Hp->Prop:=λ_ _=>False
variable{D:Ends}
abbrev TS:=Ends->St->Hp->Prop
def EP(X:Cx)(pins:List (Addr×Obj))(σ:St)(Q:VK)(u:Value)(s':Shared):Prop:=∃v H',Inv X pins σ H' s'/\RelV v u/\Q v H'
def TP(X:Cx)(pins:List (Addr×Obj))(σ:St)(Q:Bool->Hp->Prop)(b:Bool)(s':Shared):Prop:=∃H',Inv X pins σ H' s'/\Q b H'
def AP(X:Cx)(pins:List (Addr×Obj))(σ:St)(Q:List V->Hp->Prop)(us:List Value)(s':Shared):Prop:=∃vs H',Inv X pins σ H' s'/\Vals vs us/\Q vs H'
def SP(X:Cx)(pins:List (Addr×Obj))(D:Ends)(f:Flow)(s':Shared):Prop :=
 match f with
 | .next=>∃σ' H',Inv X pins σ' H' s'/\D.nx σ' H'
 | .brk=>∃σ' H',Inv X pins σ' H' s'/\D.bk σ' H'
 | .cont=>∃σ' H',Inv X pins σ' H' s'/\D.ct σ' H'
 | .ret u=>∃v σ' H',Inv X pins σ' H' s'/\RelV v u/\D.rt v H'
def PE(X:Cx)(e:Expr)(t:TE):Prop :=
 ∀(pins:List (Addr×Obj)) (s:Shared) (σ:St) (H:Hp) (Q:VK),Inv X pins σ H s->t σ H Q->wpAny (model X.prog X.w) X.A (eval e X.env) (EP X pins σ Q) X.xe s
def PT(X:Cx)(e:Expr)(t:TT):Prop :=
 ∀(pins:List (Addr×Obj)) (s:Shared) (σ:St) (H:Hp) (Q:Bool->Hp->Prop),Inv X pins σ H s->t σ H Q->wpAny (model X.prog X.w) X.A (isTrue e X.env (eval e X.env)) (TP X pins σ Q) X.xe s
def PW(X:Cx)(e:Expr)(t:TT):Prop :=
 ∀(whole:Sem Value) (pins:List (Addr×Obj)) (s:Shared) (σ:St) (H:Hp) (Q:Bool->Hp->Prop),Inv X pins σ H s->t σ H Q->wpAny (model X.prog X.w) X.A (isTrue e X.env whole) (TP X pins σ Q) X.xe s
theorem PW.pt{t:TT}(h:PW X e t):PT X e t:=h _
def PA(X:Cx)(es:List Expr)(t:TA):Prop :=
 ∀(pos:Pos) (pins:List (Addr×Obj)) (s:Shared) (σ:St) (H:Hp) (Q:List V->Hp->Prop),Inv X pins σ H s->t σ H Q->wpAny (model X.prog X.w) X.A (spliced (backTo pos (starEach es X.env))) (AP X pins σ Q) X.xe s
def PS(X:Cx)(st:Stmt)(t:TS):Prop :=
 ∀(pins:List (Addr×Obj)) (s:Shared) (σ:St) (H:Hp) (D:Ends),Inv X pins σ H s->t D σ H->wpAny (model X.prog X.w) X.A (exec st X.env) (SP X pins D) X.xe s
def PSs(X:Cx)(st:List Stmt)(t:TS):Prop :=
 ∀(pins:List (Addr×Obj)) (s:Shared) (σ:St) (H:Hp) (D:Ends),Inv X pins σ H s->t D σ H->wpAny (model X.prog X.w) X.A (execs st X.env) (SP X pins D) X.xe s
theorem thn{α:Type}{t:Sem α}{Q Q':α->Shared->Prop}{M:Model}{E:Value->Shared->Prop}(h:wpAny M A t Q E s)(hQ:∀a s,Q a s->Q' a s):wpAny M A t Q' E s:=qAs h hQ λ_ _ x=>x
section
variable{X:Cx}
def tVar(i:Nat):TE:=λσ H Q=>∃v,σ[i]?=some (some v)/\Q v H
def tC(v:V):TE:=λ_ H Q=>Q v H
theorem pe_var(hN:X.N[i]?=some x)(hv:Vis X.env.scope x)(hd:(x==("__debug__": Str))=false:=by decide)(hcd:(x==("__classdict__": Str))=false:=by decide):PE X (.Name x pos) (tVar i):=by
 intro pins s σ H Q I h;obtain⟨v,e,h⟩:=h;obtain⟨m,hn,hl⟩:=I.loc;obtain⟨u,r,l⟩:=hl i x v hN e hv;have fin:EP X pins σ Q u s:=⟨v,H,I,r,h⟩;rcases l with⟨hk,hm⟩|⟨hk,c,hc,hcell⟩
 .exact wpAny_Name (wpAny_loadName_local I.ok.kind hk hn hm fin) hd
 .rcases hk with hk|hk
  .exact wpAny_Name (wpAny_loadName_cell I.ok.kind hk hc hcell fin) hd
  .exact wpAny_Name (wpAny_loadName_free I.ok.kind hk hc hcell fin hcd) hd
theorem zAh{i j pos}:PE X (.Constant (.int i) j pos) (tC (.int i)):=λ_ _ _ H _ I h=>wpAny_Constant_int ⟨.int i,H,I.tok _,⟨_,rfl⟩,h⟩
theorem zD1{b j pos}:PE X (.Constant (.bool b) j pos) (tC (.bl b)):=λ_ _ _ H _ I h=>Constant_bool ⟨.bl b,H,I,rfl,h⟩
theorem zEe{j pos}:PE X (.Constant .none j pos) (tC .non):=λ_ _ _ H _ I h=>Constant_none ⟨.non,H,I,rfl,h⟩
theorem zAk{x j pos}:PE X (.Constant (.str x) j pos) (tC (.str x)):=λ_ _ _ H _ I h=>Calls.Constant_str ⟨.str x,H,I.tok _,⟨_,rfl⟩,h⟩
def Gl(X:Cx)(x:Str):Prop:=X.env.kindOf x=some .globalImplicit
theorem zC2{E:Value->Shared->Prop}{Q:Value->Shared->Prop}(I:Inv X pins σ H s)(hg:Gl X x)(hm:X.mg x=some u)(h:Q u s)
  (hd:(x==("__debug__": Str))=false:=by decide):wpAny (model X.prog X.w) X.A (eval (.Name x pos) X.env) Q E s :=
 Calls.Name_function_global I.ok.kind hg (Calls.loadGlobal_global (by rw[I.ok.glob];exact I.mod.glob.keeps I.bk) hm h) hd
theorem ld_blt{E:Value->Shared->Prop}{Q:Value->Shared->Prop}(I:Inv X pins σ H s)(hg:Gl X x)(hm:X.mg x=none)(hv:bootBuiltins x=some u)(h:Q u s)
  (hn:x≠ "__name__":= by decide) (hd:(x==("__debug__": Str))=false:=by decide):wpAny (model X.prog X.w) X.A (eval (.Name x pos) X.env) Q E s:=by
 obtain⟨mb,h1,h2⟩:=I.mod.blt;exact Calls.Name_function_global I.ok.kind hg (Calls.loadGlobal_builtin (by rw[I.ok.glob];exact I.mod.glob.keeps I.bk) hm (by rw[I.ok.blt];exact h1.keeps I.bk) ((h2 x hn).trans hv) h) hd
theorem zBd(hg:Gl X x)(hm:X.mg x=some u)(r:RelV v u)(hd:(x==("__debug__": Str))=false:=by decide):PE X (.Name x pos) (tC v) :=
 λ_ _ _ H _ I h=>zC2 I hg hm ⟨v,H,I,r,h⟩ hd
theorem zBi(hg:Gl X x)(hm:X.mg x=none)(hv:bootBuiltins x=some u)(r:RelV v u)(hn:x≠ "__name__":= by decide)(hd:(x==("__debug__": Str))=false:=by decide):PE X (.Name x pos) (tC v) :=
 λ_ _ _ H _ I h=>ld_blt I hg hm hv ⟨v,H,I,r,h⟩ hn hd
variable{a b:Expr}{ta tb:TE}{pos:Pos}
def PC(X:Cx)(op:CmpOp)(a b:Expr)(t:TE):Prop :=
 ∀(pins:List (Addr×Obj)) (s:Shared) (σ:St) (H:Hp) (Q:VK),Inv X pins σ H s->t σ H Q ->
  wpAny (model X.prog X.w) X.A (eval a X.env) (λv s₁=>wpAny (model X.prog X.w) X.A (eval b X.env) (λu s₂=>wpAny (model X.prog X.w) X.A (compareOp op v u) (EP X pins σ Q) X.xe s₂) X.xe s₁) X.xe s
def tB(t:TE):TT:=λσ H Q=>t σ H λx H1=>∃c,x= .bl c/\Q c H1
theorem pe_cmp(h:PC X op a b t)(h1:behindInMarks op b=false:=by first|exact nobehind _ (by decide) (by decide)|rfl):PE X (.Compare a [op] [b] pos) t:=λpins s σ H Q I hw=>wpAny_Compare1 (h pins s σ H Q I hw) h1
theorem pt_cmp(h:PC X op a b t)(h1:behindInMarks op b=false:=by first|exact nobehind _ (by decide) (by decide)|rfl):PT X (.Compare a [op] [b] pos) (tB t):=by
 intro pins s σ H Q I hw;refine wpAny_isTrue_Compare1 (thn (h pins s σ H _ I hw) λv s1 h1=>thn h1 λu s2 h2=>thn h2 λc s3 ⟨x,H1,I1,r1,q1⟩=>?_) h1;obtain⟨d,rfl,q⟩:=q1
 cases r1
 exact qBG ⟨H1,I1,q⟩
theorem zA7(h:PE X e t)(he:∀whole,isTrue e X.env whole=(do let v<-whole;standAt e.pos;holding [v] (truthy v)):=by intro _;rfl):PT X e (tB t):=by
 intro pins s σ H Q I hw;refine isTrue_plain (thn (h pins s σ H _ I hw) λv s1 ⟨x,H1,I1,r1,q1⟩=>?_) (he _);obtain⟨d,rfl,q⟩:=q1
 cases r1
 exact qBG ⟨H1,I1,q⟩
variable{tA tB':TT}{rest:List Expr}
def tAnd(t u:TT):TT:=λσ H Q=>t σ H λc H1=>if c=true then u σ H1 Q else Q false H1
def tOr(t u:TT):TT:=λσ H Q=>t σ H λc H1=>if c=true then Q true H1 else u σ H1 Q
def tNot(t:TT):TT:=λσ H Q=>t σ H λc H1=>Q (!c) H1
theorem zIs(ha:PT X a tA):PW X (.BoolOp .And [a] pos) tA:=by
 intro wh pins s σ H Q I h;refine isTrue_and (thn (ha pins s σ H Q I h) λc s1 e=>?_)
 cases c with
 |true=>exact isTrue_and_nil e
 |false=>exact e
theorem zH3(ha:PT X a tA):PW X (.BoolOp .Or [a] pos) tA:=by
 intro wh pins s σ H Q I h;refine isTrue_or (thn (ha pins s σ H Q I h) λc s1 e=>?_)
 cases c with
 |false=>exact isTrue_or_nil e
 |true=>exact e
theorem pw_and(ha:PT X a tA)(hb:PW X (.BoolOp .And (b::rest) pos) tB'):PW X (.BoolOp .And (a::b::rest) pos) (tAnd tA tB'):=by
 intro wh pins s σ H Q I h;refine isTrue_and (thn (ha pins s σ H _ I h) λc s1 ⟨H1,I1,q1⟩=>?_)
 cases c with
 |true=>exact hb wh pins s1 σ H1 Q I1 q1
 |false=>exact⟨H1,I1,q1⟩
theorem pw_or(ha:PT X a tA)(hb:PW X (.BoolOp .Or (b::rest) pos) tB'):PW X (.BoolOp .Or (a::b::rest) pos) (tOr tA tB'):=by
 intro wh pins s σ H Q I h;refine isTrue_or (thn (ha pins s σ H _ I h) λc s1 ⟨H1,I1,q1⟩=>?_)
 cases c with
 |true=>exact⟨H1,I1,q1⟩
 |false=>exact hb wh pins s1 σ H1 Q I1 q1
theorem zCl(ha:PT X a tA):PT X (.UnaryOp .Not a pos) (tNot tA):=by
 intro pins s σ H Q I h;exact isTrue_not (ha pins s σ H (λc H1=>Q (!c) H1) I h)
def tAndV(ta tb:TE):TE:=λσ H Q=>ta σ H λx H1=>∃c,x= .bl c/\if c=true then tb σ H1 Q else Q (.bl false) H1
def tOrV(ta tb:TE):TE:=λσ H Q=>ta σ H λx H1=>∃c,x= .bl c/\if c=true then Q (.bl true) H1 else tb σ H1 Q
def tNotV(ta:TE):TE:=λσ H Q=>ta σ H λx H1=>∃c,x= .bl c/\Q (.bl (!c)) H1
theorem pe_one{op}(h:PE X a t):PE X (.BoolOp op [a] pos) t:=λpins s σ H Q I hw=>BoolOp_one (h pins s σ H Q I hw)
theorem pe_and(ha:PE X a ta)(hb:PE X (.BoolOp .And (b::rest) pos) tb):PE X (.BoolOp .And (a::b::rest) pos) (tAndV ta tb):=by
 intro pins s σ H Q I h;refine BoolOp_and (thn (ha pins s σ H _ I h) λv s1 ⟨x,H1,I1,r1,q1⟩=>?_);obtain⟨c,rfl,q1⟩:=q1
 cases r1
 refine qBG ?_
 cases c with
 |true=>exact hb pins s1 σ H1 Q I1 q1
 |false=>exact⟨.bl false,H1,I1,rfl,q1⟩
theorem pe_or(ha:PE X a ta)(hb:PE X (.BoolOp .Or (b::rest) pos) tb):PE X (.BoolOp .Or (a::b::rest) pos) (tOrV ta tb):=by
 intro pins s σ H Q I h;refine BoolOp_or (thn (ha pins s σ H _ I h) λv s1 ⟨x,H1,I1,r1,q1⟩=>?_);obtain⟨c,rfl,q1⟩:=q1
 cases r1
 refine qBG ?_
 cases c with
 |false=>exact hb pins s1 σ H1 Q I1 q1
 |true=>exact⟨.bl true,H1,I1,rfl,q1⟩
theorem pe_not(ha:PE X a ta):PE X (.UnaryOp .Not a pos) (tNotV ta):=by
 intro pins s σ H Q I h;refine UnaryOp_ (thn (ha pins s σ H _ I h) λv s1 ⟨x,H1,I1,r1,q1⟩=>?_);obtain⟨c,rfl,q1⟩:=q1
 cases r1
 exact not_of (qBG ⟨.bl (!c),H1,I1,rfl,q1⟩)
def tIf(t:TT)(ta tb:TE):TE:=λσ H Q=>t σ H λc H1=>if c=true then ta σ H1 Q else tb σ H1 Q
theorem pe_ifExp{c:Expr}(hc:PT X c tA)(ha:PE X a ta)(hb:PE X b tb):PE X (.IfExp c a b pos) (tIf tA ta tb):=by
 intro pins s σ H Q I h;refine wpAny_IfExp (thn (hc pins s σ H _ I h) λd s1 ⟨H1,I1,q1⟩=>?_)
 cases d with
 |true=>exact ha pins s1 σ H1 Q I1 q1
 |false=>exact hb pins s1 σ H1 Q I1 q1
end
def SqL(K:PySem.W.Frag)(H:Hp)(a:Addr)(xs:List V):Prop :=
 Rd H a (.lst xs) \/
  ∃(o:Obj)(its:Array Value)(n:Nat),K.lookup a=some o/\o.cls= .type "list"/\o.dict=none/\o.data= .seq its n/\its.size<=sizeLine/\Vals xs its.toList
def SqT(K:PySem.W.Frag)(H:Hp)(a:Addr)(xs:List V):Prop :=
 Rd H a (.tup xs) \/
  ∃(o:Obj)(its:Array Value)(n:Nat),K.lookup a=some o/\o.cls= .type "tuple"/\o.data= .seq its n/\its.size<=sizeLine/\Vals xs its.toList
def absV:Value->Option V
 | .none=>some .non
 | .bool b=>some (.bl b)
 | .int i _=>some (.int i)
 | .str x _=>some (.str x)
 | .bytes b _=>some (.byt b)
 | .float b _=>some (.flt b)
 | .ref a=>some (.ref a)
 | .type n=>some (.ty n)
 |_=>none
theorem RelV.abs{x:V}(r:RelV x u):absV u=some x:=by
 cases x with
 |non=>cases r;rfl
 |bl _=>cases r;rfl
 |int _=>obtain⟨t,rfl⟩:=r;rfl
 |str _=>obtain⟨t,rfl⟩:=r;rfl
 |byt _=>obtain⟨t,rfl⟩:=r;rfl
 |flt _=>obtain⟨t,rfl⟩:=r;rfl
 |ref _=>cases r;rfl
 |ty _=>cases r;rfl
theorem RelV.inj{x:V}(r:RelV x u)(q:RelV y u):x=y:=qAW (r.abs.symm.trans q.abs)
theorem Vals.inj:∀{xs ys:List V}{us:List Value},Vals xs us->Vals ys us->xs=ys
 |_,_,_,.nil,.nil=>rfl
 |_,_,_,.cons r t,.cons r' t'=>by rw[r.inj r',Vals.inj t t']
section
variable{X:Cx}{pins:List (Addr×Obj)}{σ:St}{H:Hp}{s:Shared}{a:Addr}{xs ys:List V}
theorem SqL.of(h:H a=some (.lst xs)):SqL K H a xs:=.inl (.inl h)
theorem SqT.of(h:H a=some (.tup xs)):SqT K H a xs:=.inl (.inl h)
theorem Inv.list(I:Inv X pins σ H s)(h:SqL X.K H a xs):∃its:List Value,Vals xs its/\PlainL s.heap a its.toArray/\xs.length<=sizeLine:=by
 rcases h with h|⟨o,its,n,hk,hc,hd,hs,hz,r⟩
 .obtain ⟨z,its,n,r,e⟩:=h.ok I.hok;exact⟨its,r,⟨_,n,e,rfl,rfl,rfl⟩,z⟩
 .refine ⟨its.toList,r,⟨o,n,I.kIn a o hk,hc,hd,by simpa using hs⟩,?_⟩;have e:=r.length;simp only[qBj]at e;lia
theorem Inv.tuple(I:Inv X pins σ H s)(h:SqT X.K H a xs):∃its:List Value,Vals xs its/\IsTup s.heap a its.toArray/\xs.length<=sizeLine:=by
 rcases h with h|⟨o,its,n,hk,hc,hs,hz,r⟩
 .obtain ⟨z,its,r,p⟩:=h.ok I.hok;exact⟨its,r,p,z⟩
 .refine ⟨its.toList,r,⟨o,I.kIn a o hk,hc,n,by simpa using hs⟩,?_⟩;have e:=r.length;simp only[qBj]at e;lia
theorem Inv.list_inj(I:Inv X pins σ H s)(h:SqL X.K H a xs)(h':SqL X.K H a ys):xs=ys:=by
 obtain⟨its,r,⟨o,n,e,_,_,d⟩,_⟩:=I.list h;obtain⟨its',r',⟨o',n',e',_,_,d'⟩,_⟩:=I.list h';rw[e]at e';cases e';rw[d]at d';injection d' with d1 _;have:its=its':=by simpa using qAj Array.toList d1
 subst this;exact r.inj r'
theorem Inv.tuple_inj(I:Inv X pins σ H s)(h:SqT X.K H a xs)(h':SqT X.K H a ys):xs=ys:=by
 obtain⟨its,r,⟨o,e,_,n,d⟩,_⟩:=I.tuple h;obtain⟨its',r',⟨o',e',_,n',d'⟩,_⟩:=I.tuple h';rw[e]at e';cases e';rw[d]at d';injection d' with d1 _;have:its=its':=by simpa using qAj Array.toList d1
 subst this;exact r.inj r'
end
abbrev Cx.wish(X:Cx)(E:Value->Shared->Prop):Cx:={X with xe:=E}
abbrev Cx.nox(X:Cx):Cx:=X.wish λ_ _=>False
theorem Cx.Ok.wish(ok:X.Ok)(E:Value->Shared->Prop):(X.wish E).Ok :=
 ⟨ok.mod,ok.kind,ok.glob,ok.blt,ok.above,ok.inj,ok.has,ok.cab,ok.hd,ok.frames,ok.stk,ok.exf,ok.bs,ok.bsz,ok.noex,ok.exfs,ok.funs,ok.frf⟩
theorem Cx.Ok.unwish{E:Value->Shared->Prop}(ok:(X.wish E).Ok):X.Ok :=
 ⟨ok.mod,ok.kind,ok.glob,ok.blt,ok.above,ok.inj,ok.has,ok.cab,ok.hd,ok.frames,ok.stk,ok.exf,ok.bs,ok.bsz,ok.noex,ok.exfs,ok.funs,ok.frf⟩
section
variable{X:Cx}{pins:List (Addr×Obj)}{σ:St}{H:Hp}{s:Shared}{E:Value->Shared->Prop}
theorem Inv.wish(I:Inv X pins σ H s)(E:Value->Shared->Prop):Inv (X.wish E) pins σ H s:=⟨I.ok.wish E,I.os,I.bare,I.base,I.loc,I.cell,I.free,I.freeC,I.pin,I.hok,I.len⟩
theorem Inv.unwish(I:Inv (X.wish E) pins σ H s):Inv X pins σ H s:=⟨I.ok.unwish,I.os,I.bare,I.base,I.loc,I.cell,I.free,I.freeC,I.pin,I.hok,I.len⟩
theorem SP.unwish{f:Flow}{s':Shared}(h:SP (X.wish E) pins D f s'):SP X pins D f s':=by
 cases f with
 |next=>obtain⟨σ',H',I,q⟩:=h;exact⟨σ',H',I.unwish,q⟩
 |brk=>obtain⟨σ',H',I,q⟩:=h;exact⟨σ',H',I.unwish,q⟩
 |cont=>obtain⟨σ',H',I,q⟩:=h;exact⟨σ',H',I.unwish,q⟩
 |ret u=>obtain⟨v,σ',H',I,r,q⟩:=h;exact⟨v,σ',H',I.unwish,r,q⟩
theorem PSs.nox{st:List Stmt}{t:TS}(h:PSs X.nox st t):PSs X st t:=λpins s σ H D I hw=>
 qAs (h pins s σ H D (I.wish _) hw) (λ_ _ q=>q.unwish) λ_ _ z=>False.elim z
end
section
variable{X:Cx}{st:Stmt}{rest:List Stmt}{t u:TS}{e:Expr}{te:TE}{pos:Pos}
def tNext:TS:=λD σ H=>D.nx σ H
def tSeq(t u:TS):TS:=λD σ H=>t {D with nx:=u D} σ H
theorem zAl:PSs X [] tNext:=λ_ _ σ H _ I h=>qCd ⟨σ,H,I,h⟩
theorem zAc(h1:PS X st t)(h2:PSs X rest u):PSs X (st::rest) (tSeq t u):=by
 intro pins s σ H D I h;refine wpAny_execs_cons (thn (h1 pins s σ H {D with nx:=u D} I h) λf s1 q=>?_)
 cases f with
 |next=>
  obtain⟨σ',H',I',q⟩:=q;exact h2 pins s1 σ' H' D I' q
 |ret v=>exact q
 |brk=>exact q
 |cont=>exact q
theorem zAd(h1:PS X st t):PSs X [st] t:=by
 intro pins s σ H D I h;refine wpAny_execs_cons (thn (h1 pins s σ H D I h) λf s1 q=>?_)
 cases f with
 |next=>exact qCd q
 |ret v=>exact q
 |brk=>exact q
 |cont=>exact q
theorem Inv.quiet(I:Inv X pins σ H s):interactive X.env=false:=by simp[interactive,I.ok.kind]
def tDrop(te:TE):TS:=λD σ H=>te σ H λ_ H1=>D.nx σ H1
theorem zA4(he:PE X e te)(hs:swapsWith e none pos.line X.env=pure false:=by rfl):PS X (.Expr e pos) (tDrop te):=by
 intro pins s σ H D I h;exact wpAny_Expr_any (thn (he pins s σ H _ I h) λv s1 ⟨x,H1,I1,r1,q1⟩=>⟨σ,H1,I1,q1⟩) I.quiet hs
def tRet(te:TE):TS:=λD σ H=>te σ H D.rt
theorem zAm(he:PE X e te):PS X (.Return (some e) pos) (tRet te):=by
 intro pins s σ H D I h;exact wpAny_Return_some (thn (he pins s σ H _ I h) λv s1 ⟨x,H1,I1,r1,q1⟩=>⟨x,σ,H1,I1,r1,q1⟩)
def tIfS(c:TT)(t u:TS):TS:=λD σ H=>c σ H λb H1=>if b=true then t D σ H1 else u D σ H1
theorem zA1{c:Expr}{a b:List Stmt}{tc:TT}(hc:PT X c tc)(ha:PSs X a t)(hb:PSs X b u):PS X (.If c a b pos) (tIfS tc t u):=by
 intro pins s σ H D I h;refine wpAny_If (thn (hc pins s σ H _ I h) λd s1 ⟨H1,I1,q1⟩=>?_)
 cases d with
 |true=>exact ha pins s1 σ H1 D I1 q1
 |false=>exact hb pins s1 σ H1 D I1 q1
def tNever:TS:=λ_ _ _=>False
theorem zAx{sts:List Stmt}:PSs X sts tNever:=λ_ _ _ _ _ _ h=>h.elim
end
abbrev TG:=V->St->Hp->(St->Hp->Prop)->Prop
variable{g:TG}
abbrev TGs:=List V->St->Hp->(St->Hp->Prop)->Prop
def PG(X:Cx)(target:Expr)(t:TG):Prop :=
 ∀(pins:List (Addr×Obj)) (s:Shared) (σ:St) (H:Hp) (v:V) (u:Value) (Q:St->Hp->Prop),Inv X pins σ H s->RelV v u->t v σ H Q ->
  wpAny (model X.prog X.w) X.A (assign target X.env u) (λ_ s'=>∃σ' H',Inv X pins σ' H' s'/\Q σ' H') X.xe s
def PGs(X:Cx)(ts:List Expr)(t:TGs):Prop :=
 ∀(pins:List (Addr×Obj)) (s:Shared) (σ:St) (H:Hp) (vs:List V) (us:List Value) (Q:St->Hp->Prop),Inv X pins σ H s->Vals vs us->t vs σ H Q ->
  wpAny (model X.prog X.w) X.A (assignInOrder ((assignEach ts X.env).map (·.2)) us) (λ_ s'=>∃σ' H',Inv X pins σ' H' s'/\Q σ' H') X.xe s
abbrev TSet:=V->V->V->Hp->(Hp->Prop)->Prop
def PSet(X:Cx)(t:TSet):Prop :=
 ∀(pins:List (Addr×Obj)) (s:Shared) (σ:St) (H:Hp) (o i v:V) (ov iv u:Value) (Q:Hp->Prop),Inv X pins σ H s->RelV o ov->RelV i iv->RelV v u->t o i v H Q ->
  wpAny (model X.prog X.w) X.A (setItem ov iv u) (λ_ s'=>∃H',Inv X pins σ H' s'/\Q H') X.xe s
section
variable{X:Cx}{pos:Pos}
def gName(i:Nat):TG:=λv σ H Q=>Q (σ.set i (some v)) H
theorem pg_name(hN:X.N.Nodup)(hi:X.N[i]?=some x)(hx:Loc X.env.scope x)(hf:X.fn x=true\/X.env.scope.names.lookup x=some .local:=by first|exact .inl rfl|exact .inr rfl|assumption):PG X (.Name x pos) (gName i):=by
 intro pins s σ H v u Q I r h;exact wpAny_assign_Name (zF8 I hN hi hx r (λs' I'=>⟨_,H,I',h⟩) hf)
def gNil:TGs:=λvs σ H Q=>vs=[]/\Q σ H
def gCons(t:TG)(u:TGs):TGs:=λvs σ H Q=>∃v r,vs=v::r/\t v σ H λσ' H'=>u r σ' H' Q
theorem zEd:PGs X [] gNil:=by
 intro pins s σ H vs us Q I r h;obtain⟨e,h⟩:=h;subst e
 cases r
 exact assignInOrder_nil ⟨σ,H,I,h⟩
theorem zBa{es:List Expr}{t:TG}{u:TGs}(h1:PG X e t)(h2:PGs X es u)
  (hs:(assignEach (e::es) X.env).map (·.2)=assign e X.env::(assignEach es X.env).map (·.2):=by rfl):PGs X (e::es) (gCons t u):=by
 intro pins s σ H vs us Q I r h;obtain⟨v,vr,e1,h⟩:=h;subst e1
 cases r with
 |cons r rr=>
  rw[hs];refine assignInOrder_cons (thn (h1 pins s σ H _ _ _ I r h) λ_ s1 ⟨σ1,H1,I1,q1⟩=>?_);exact h2 pins s1 σ1 H1 _ _ Q I1 rr q1
def gTup(K:PySem.W.Frag)(n:Nat)(t:TGs):TG:=λv σ H Q=>∃a xs,v= .ref a/\SqT K H a xs/\xs.length=n/\t xs σ H Q
theorem pg_tup{es:List Expr}{k:Nat}{t:TGs}{n:Nat}(hc:X.calm=true)(h:PGs X es t)
  (hn:(assignEach es X.env).length=n:=by rfl) (hst:(assignEach es X.env).findIdx? (·.1)=none:=by rfl):PG X (.Tuple es k pos) (gTup X.K n t):=by
 intro pins s σ H v u Q I r hw;obtain⟨a,xs,e1,hq,hl,hw⟩:=hw;subst e1
 cases r
 obtain⟨its,rv,ht,hz⟩:=I.tuple hq;refine assign_Tuple_tuple (I.ok.hd hc) ht (by simp[hn,<-hl,rv.length]) hst λh' hx=>?_;have I1:Inv X pins σ H {s with heap:=h'}:=I.kept (t':=s.toks) λb o e=>hx b o (qAR (qAJ e)) e;exact h pins _ σ H xs _ Q I1 (by simpa using rv) hw
def gSub(to ti:TE)(t:TSet):TG:=λv σ H Q=>to σ H λo H1=>ti σ H1 λi H2=>t o i v H2 λH3=>Q σ H3
theorem pg_sub{o i:Expr}{to ti:TE}{t:TSet}(ho:PE X o to)(hi:PE X i ti)(hs:PSet X t)
  (ha:∀v,assign (.Subscript o i pos) X.env v=(do
   let ov<-holding [v] (eval o X.env)
   let iv<-holding [v,ov] (eval i X.env)
   standAt pos
   holding [v,ov,iv] (setItem ov iv v)
   release [v,ov,iv] []):=by intro _;rfl):PG X (.Subscript o i pos) (gSub to ti t):=by
 intro pins s σ H v u Q I r h;rw[ha];refine qAA (qAk (thn (ho pins s σ H _ I h) λov s1 ⟨x,H1,I1,r1,q1⟩=>?_));refine qAA (qAk (thn (hi pins s1 σ H1 _ I1 q1) λiv s2 ⟨y,H2,I2,r2,q2⟩=>?_));refine qAA (qBw (qAA (qAk (thn (hs pins s2 σ H2 x y v ov iv u _ I2 r1 r2 r q2) λ_ s3 ⟨H3,I3,q3⟩=>?_))));exact wpAny_release ⟨σ,H3,I3,q3⟩
def tAsg(te:TE)(g:TG):TS:=λD σ H=>te σ H λx H1=>g x σ H1 D.nx
theorem ps_asg{te:TE}(he:PE X e te)(hg:PG X tg g)(hs:swapsWithSole [tg] e pos.line X.env=pure false:=by rfl)(hw:swappedStores [tg] e X.env=pure none:=by rfl)
  (h1:(assignEach [tg] X.env).map (·.2)=[assign tg X.env]:=by rfl):PS X (.Assign [tg] e pos) (tAsg te g):=by
 intro pins s σ H D I h;refine wpAny_Assign_stores (thn (he pins s σ H _ I h) λv s1 ⟨x,H1,I1,r1,q1⟩=>?_) hs hw;rw[h1];exact thn (hg pins s1 σ H1 x v _ I1 r1 q1) λ_ s2 q=>q
theorem zEc{i:Nat}{x:Str}{e:Expr}{te:TE}{pos':Pos}(hN:X.N.Nodup)(hi:X.N[i]?=some x)(hx:Loc X.env.scope x)(he:PE X e te)(hs:swapsWith e (some (.Name x pos')) pos.line X.env=pure false:=by rfl)(hf:X.fn x=true\/X.env.scope.names.lookup x=some .local:=by first|exact .inl rfl|exact .inr rfl|assumption) :
  PS X (.Assign [.Name x pos'] e pos) (tAsg te (gName i)):=by
 intro pins s σ H D I h;refine wpAny_Assign_Name (thn (he pins s σ H _ I h) λv s1 ⟨y,H1,I1,r1,q1⟩=>?_) hs;exact zF8 I1 hN hi hx r1 (λs2 I2=>⟨_,H1,I2,q1⟩) hf
end
section
variable{X:Cx}{pos:Pos}
def tWhile(c:TT)(tb:TS):TS:=λD σ H=>∃W:Nat->St->Hp->Prop,(∃m,W m σ H)/\∀m σ H,W m σ H ->
 c σ H λb H1=>if b=true then∃N:St->Hp->Prop,(∀σ' H',N σ' H'->∃m',m'<m/\W m' σ' H')/\tb {D with nx:=N,ct:=N,bk:=D.nx} σ H1 else D.nx σ H1
theorem ps_while{c:Expr}{body:List Stmt}{tc:TT}{tb:TS}(hp:PassesOwn (model X.prog X.w) X.A X.env X.xe)(hc:PT X c tc)(hb:PSs X body tb):PS X (.While c body [] pos) (tWhile tc tb):=by
 intro pins s σ H D I h;obtain⟨W,⟨m0,w0⟩,turn⟩:=h;refine wpAny_While (codeAny_whileLoop (λn s'=>∃σ' H',Inv X pins σ' H' s'/\W n σ' H') ?_ m0 ⟨σ,H,I,w0⟩);rintro n s1 ⟨σ1,H1,I1,w1⟩;refine qBx hp (thn (hc pins s1 σ1 H1 _ I1 (turn n σ1 H1 w1)) λb s2 ⟨H2,I2,q2⟩=>?_)
 cases b with
 |true=>
  obtain⟨N,hN,q2⟩:=q2;rw[qAC rfl];refine qBx hp (thn (hb pins s2 σ1 H2 _ I2 q2) λf s3 q3=>?_)
  cases f with
  |next=>
   obtain⟨σ3,H3,I3,n3⟩:=q3;obtain⟨m',hm,w3⟩:=hN σ3 H3 n3;exact⟨m',hm,σ3,H3,I3,w3⟩
  |cont=>
   obtain⟨σ3,H3,I3,n3⟩:=q3;obtain⟨m',hm,w3⟩:=hN σ3 H3 n3;exact⟨m',hm,σ3,H3,I3,w3⟩
  |brk=>exact q3
  |ret v=>exact q3
 |false=>
  rw[qAB qAh];exact qCd ⟨σ1,H2,I2,q2⟩
end
structure It where
 go:Nat->Hp->Prop
 yld:Nat->Hp->V->Hp->Prop
 stop:Nat->Hp->Prop
def FpOk(X:Cx)(pins:List (Addr×Obj))(H:Hp)(b:Addr):Prop :=
 H b=none/\b≠X.env.locals/\b∉X.fs/\(b∈X.ex\/X.s₀.heap.objs.size<=b)/\(∀x c,X.env.cells.lookup x=some c->c≠b)/\∀p∈X.pn++pins,p.1≠b
theorem Inv.fpOk{H':Hp}{b:Addr}(I:Inv X pins σ H s)(hb:s.heap.objs.size<=b)(hn:H' b=none):FpOk X pins H' b:=by
 refine⟨hn,qBH (qAi I.lt hb),I.nofs hb,.inr (qAf I.sz hb),λx c e z=>?_,λp hp z=>?_⟩
 .obtain ⟨v,q⟩:=I.cell x c e;exact absurd (qAi q.lt (by rw[z];exact hb)) (qAv _)
 .exact absurd (qAi (qAJ (I.pin p hp).1) (by rw[z];exact hb)) (qAv _)
structure Turn(P:Program)(w:World)(K:PySem.W.Frag)(tg:Expr)(J:It)(fp:List Addr)(it:Addr)(tn:Nat->Heap->Prop):Prop where
 mem:it∈fp
 obj:∀i h,tn i h->∀b∈fp,∃o,h.get? b=some o/\∀v,o.data≠.cell v
 keep:∀i h h',tn i h->(∀b∈fp,∀o,h.get? b=some o->h'.get? b=some o)->tn i h'
 item:∀(X:Cx),X.prog=P->X.w=w->X.K=K->X.calm=true->∀(i:Nat) (pins:List (Addr×Obj)) (s:Shared) (σ:St) (H:Hp) (E:Value->Shared->Prop),Inv X pins σ H s->(∀b∈fp,FpOk X pins H b)->tn i s.heap->J.go i H ->
  wpAny (model P w) X.A (pyNext (.ref it)) (λr s1=>∃u,r=some u /\ wpAny (model P w) X.A (letOwnedTupleGo tg (.ref it) u) (λ_ s2=>∃x H',Inv X pins σ H' s2/\RelV x u/\J.yld i H x H'/\tn (i+1) s2.heap/\∀b∈fp,H' b=none) E s1) E s
 done:∀(X:Cx),X.prog=P->X.w=w->X.K=K->X.calm=true->∀(i:Nat) (pins:List (Addr×Obj)) (s:Shared) (σ:St) (H:Hp) (E:Value->Shared->Prop),Inv X pins σ H s->(∀b∈fp,FpOk X pins H b)->tn i s.heap->J.stop i H ->
  wpAny (model P w) X.A (pyNext (.ref it)) (λr s1=>r=none/\Inv X pins σ H s1) E s
 self:∀(A:Around)(i:Nat)(s:Shared)(Q:Value->Shared->Prop)(E:Value->Shared->Prop),tn i s.heap->Q (.ref it) s->wpAny (model P w) A (pyIter (.ref it)) Q E s
abbrev TI:=St->Hp->(It->Hp->Prop)->Prop
def PIE(X:Cx)(pins:List (Addr×Obj))(σ:St)(tg:Expr)(R:It->Hp->Prop)(itv:Value)(s2:Shared):Prop :=
 ∃(it:Addr)(fp:List Addr)(tn:Nat->Heap->Prop)(J:It)(H':Hp),itv= .ref it/\Inv X pins σ H' s2/\Turn X.prog X.w X.K tg J fp it tn/\tn 0 s2.heap/\(∀b∈fp,FpOk X pins H' b)/\R J H'
def PI(X:Cx)(tg iter:Expr)(wi:TI):Prop :=
 ∀(pins:List (Addr×Obj)) (s:Shared) (σ:St) (H:Hp) (R:It->Hp->Prop),Inv X pins σ H s->wi σ H R ->
  wpAny (model X.prog X.w) X.A (eval iter X.env) (λv s1=>wpAny (model X.prog X.w) X.A (pyIter v) (PIE X pins σ tg R) X.xe s1) X.xe s
theorem go_of{M:Model}{E:Value->Shared->Prop}{s:Shared}{it:Addr}{o:Obj}{n:String}{vs:Array Value}{Q:Unit->Shared->Prop}(ho:s.heap.get? it=some o)(hc:o.cls= .type n)(hd:o.data= .fields vs)
  (hn:["enumerate","zip","dict_itemiterator","dict_reverseitemiterator","odict_iterator","itertools.zip_longest","itertools.pairwise"].contains n=false) (hQ:Q () s):wpAny M A (letOwnedTupleGo tg (.ref it) u) Q E s:=by
 unfold letOwnedTupleGo
 cases tg<;>first
  |exact qAD hQ
  | (cases u<;>first
    |exact qAD hQ
    | (refine qAA (wpAny_load ho ?_)
       rw[hc,hd];show wpAny M A (if(["enumerate","zip","dict_itemiterator","dict_reverseitemiterator","odict_iterator","itertools.zip_longest","itertools.pairwise"].contains n&&vs[0]?==some (rawInt _))=true then _ else _) Q E s;rw[qAB (by intro h;rw[hn,Bool.false_and]at h;cases h)];exact qAD hQ))
def Itl(K:PySem.W.Frag)(a:Addr):It :=
 ⟨λi H=>∃xs x,SqL K H a xs/\xs[i]?=some x,λi H x H'=>H'=H/\∀xs,SqL K H a xs->xs[i]?=some x,λi H=>∃xs,SqL K H a xs/\xs.length<=i⟩
def Itt(K:PySem.W.Frag)(a:Addr):It :=
 ⟨λi H=>∃xs x,SqT K H a xs/\xs[i]?=some x,λi H x H'=>H'=H/\∀xs,SqT K H a xs->xs[i]?=some x,λi H=>∃xs,SqT K H a xs/\xs.length<=i⟩
def Itr(lo:Int)(n:Nat):It:=⟨λi _=>i<n,λi H x H'=>H'=H/\x= .int (lo+i),λi _=>n<=i⟩
theorem turn_list(a it:Addr):Turn P w K tg (Itl K a) [it] it (λi h=>h.IsListIter it a i) where
 mem:=by simp
 obj:=λi h st b hb=>by
  have e:b=it:=by simpa using hb
  subst e;obtain⟨o,e,c,d⟩:=st;exact⟨o,e,λv z=>by rw[d]at z;cases z⟩
 keep:=λi h h' st k=>st.at λo e=>k it (by simp) o e
 item:=by
  intro X hP hw hK hc i pins s σ H E I hf st hg;subst hP hw hK;obtain⟨xs,x,hq,hx⟩:=hg;obtain⟨its,rv,p,hz⟩:=I.list hq;obtain⟨u,hu,ru⟩:=rv.get hx;obtain⟨f0,f1,f2,f3,f4,f5⟩:=hf it (by simp);refine wpAny_pyNext_list_item st p.isList (x:=u) (by simpa using hu) λh' st' sb=>?_;have I1:Inv X pins σ H {s with heap:=h'}:=I.turned (t':=s.toks) (λb o hb e=>(sb.2 b hb).trans e) f0 f1 f3 f4 f5;obtain⟨o,e,c,d⟩:=id st';exact⟨u,rfl,go_of (s:={s with heap:=h'}) e c d (by decide) ⟨x,H,I1,ru,⟨rfl,λys hy=>by rw[I.list_inj hy hq];exact hx⟩,st',λb hb=>(hf b hb).1⟩⟩
 done:=by
  intro X hP hw hK hc i pins s σ H E I hf st hg;subst hP hw hK;obtain⟨xs,hq,hx⟩:=hg;obtain⟨its,rv,p,hz⟩:=I.list hq;obtain⟨f0,f1,f2,f3,f4,f5⟩:=hf it (by simp);have hl:=rv.length;exact wpAny_pyNext_list_end (I.ok.hd hc) st p.isList (by simp;lia) λh' eb=>⟨rfl,I.turned (t':=s.toks) (λb o hb e=>eb b o hb e) f0 f1 f3 f4 f5⟩
 self:=λ_ _ _ _ _ st h=>wpAny_pyIter_listiter st h
theorem turn_tuple(a it:Addr):Turn P w K tg (Itt K a) [it] it (λi h=>h.IsTupleIter it a i) where
 mem:=by simp
 obj:=λi h st b hb=>by
  have e:b=it:=by simpa using hb
  subst e;obtain⟨o,e,c,d⟩:=st;exact⟨o,e,λv z=>by rw[d]at z;cases z⟩
 keep:=λi h h' st k=>st.at λo e=>k it (by simp) o e
 item:=by
  intro X hP hw hK hc i pins s σ H E I hf st hg;subst hP hw hK;obtain⟨xs,x,hq,hx⟩:=hg;obtain⟨its,rv,p,hz⟩:=I.tuple hq;obtain⟨u,hu,ru⟩:=rv.get hx;obtain⟨f0,f1,f2,f3,f4,f5⟩:=hf it (by simp);refine wpAny_pyNext_tuple_item st (show s.heap.IsTuple a its.toArray from p) (x:=u) (by simpa using hu) λh' st' sb=>?_;have I1:Inv X pins σ H {s with heap:=h'}:=I.turned (t':=s.toks) (λb o hb e=>(sb.2 b hb).trans e) f0 f1 f3 f4 f5;obtain⟨o,e,c,d⟩:=id st';exact⟨u,rfl,go_of (s:={s with heap:=h'}) e c d (by decide) ⟨x,H,I1,ru,⟨rfl,λys hy=>by rw[I.tuple_inj hy hq];exact hx⟩,st',λb hb=>(hf b hb).1⟩⟩
 done:=by
  intro X hP hw hK hc i pins s σ H E I hf st hg;subst hP hw hK;obtain⟨xs,hq,hx⟩:=hg;obtain⟨its,rv,p,hz⟩:=I.tuple hq;obtain⟨f0,f1,f2,f3,f4,f5⟩:=hf it (by simp);have hl:=rv.length;exact wpAny_pyNext_tuple_end (I.ok.hd hc) st (show s.heap.IsTuple a its.toArray from p) (by simp;lia) λh' eb=>⟨rfl,I.turned (t':=s.toks) (λb o hb e=>eb b o hb e) f0 f1 f3 f4 f5⟩
 self:=λ_ _ _ _ _ st h=>wpAny_pyIter_tupleiter st h
theorem turn_range(it:Addr)(lo:Int)(n:Nat):Turn P w K tg (Itr lo n) [it] it (λi h=>IsRangeIter h it (lo+(i:Nat)*1) ((n:Int)-(i:Nat)) 1) where
 mem:=by simp
 obj:=λi h st b hb=>by
  have e:b=it:=by simpa using hb
  subst e
  exact⟨_,st,λv z=>by
   have z':Data.fields _=Data.cell v:=z
   cases z'⟩
 keep:=λi h h' st k=>k it (by simp) _ st
 item:=by
  intro X hP hw hK hc i pins s σ H E I hf st hg;subst hP hw hK;obtain⟨f0,f1,f2,f3,f4,f5⟩:=hf it (by simp);have W:=Walks.range (prog:=X.prog) (w:=X.w) (I.ok.hd hc) it lo 1 n;refine W.item i s _ _ hg st λv h' tk hv st' kk=>?_;obtain⟨t,rfl⟩:=hv;have I1:Inv X pins σ H {s with heap:=h',toks:=tk}:=I.turned (λb o hb e=>kk b o (by simpa using hb) e) f0 f1 f3 f4 f5;refine⟨_,rfl,go_of (s:={s with heap:=h',toks:=tk}) (n:="range_iterator") st' rfl rfl (by decide) ⟨.int (lo+i),H,I1,⟨t,?_⟩,⟨rfl,rfl⟩,st',λb hb=>(hf b hb).1⟩⟩;rw[Int.mul_one]
 done:=by
  intro X hP hw hK hc i pins s σ H E I hf st hg;subst hP hw hK;obtain⟨f0,f1,f2,f3,f4,f5⟩:=hf it (by simp);exact wpAny_pyNext_range_end (I.ok.hd hc) st (by have:n<=i:=hg;lia) λh' eb=>⟨rfl,I.turned (t':=s.toks) (λb o hb e=>eb b o hb e) f0 f1 f3 f4 f5⟩
 self:=λ_ _ _ _ _ st h=>wpAny_pyIter_rangeiter st h
section
variable{X:Cx}{tg:Expr}
def iList(K:PySem.W.Frag)(tl:TE):TI:=λσ H R=>tl σ H λx H1=>∃a,x= .ref a/\(∃xs,SqL K H1 a xs)/\R (Itl K a) H1
def iTup(K:PySem.W.Frag)(tl:TE):TI:=λσ H R=>tl σ H λx H1=>∃a,x= .ref a/\(∃xs,SqT K H1 a xs)/\R (Itt K a) H1
theorem zA5{l:Expr}{tl:TE}(hl:PE X l tl):PI X tg l (iList X.K tl):=by
 intro pins s σ H R I h;refine thn (hl pins s σ H _ I h) λv s1 ⟨x,H1,I1,r1,q1⟩=>?_;obtain⟨a,e,⟨xs,hq⟩,q⟩:=q1;subst e
 cases r1
 obtain⟨its,rv,p,hz⟩:=I1.list hq;refine qCe p.isList ?_;refine⟨s1.heap.objs.size,[s1.heap.objs.size],_,_,H1,rfl,I1.kept (t':=s1.toks) λb o e=>qAI _ e,turn_list a _,⟨_,qAc _ rfl,rfl,rfl⟩,λb hb=>?_,q⟩;have e:b=s1.heap.objs.size:=by simpa using hb
 subst e;exact I1.fpOk (qAG _) (I1.hok.fresh (qAG _))
theorem pi_tup{l:Expr}{tl:TE}(hl:PE X l tl):PI X tg l (iTup X.K tl):=by
 intro pins s σ H R I h;refine thn (hl pins s σ H _ I h) λv s1 ⟨x,H1,I1,r1,q1⟩=>?_;obtain⟨a,e,⟨xs,hq⟩,q⟩:=q1;subst e
 cases r1
 obtain⟨its,rv,p,hz⟩:=I1.tuple hq;refine wpAny_pyIter_tuple (show s1.heap.IsTuple a its.toArray from p) ?_;refine⟨s1.heap.objs.size,[s1.heap.objs.size],_,_,H1,rfl,I1.kept (t':=s1.toks) λb o e=>qAI _ e,turn_tuple a _,⟨_,qAc _ rfl,rfl,rfl⟩,λb hb=>?_,q⟩;have e:b=s1.heap.objs.size:=by simpa using hb
 subst e;exact I1.fpOk (qAG _) (I1.hok.fresh (qAG _))
theorem range_it{R:It->Hp->Prop}{E:Value->Shared->Prop}{lo hi:Int}{t u v:Tok}{tk:Nat}(I:Inv X pins σ H s)(h1:-(2^62)<=lo)(h2:lo<2^62)(h3:-(2^62)<=hi)(h4:hi<2^62)
  (q:R (Itr lo (hi-lo).toNat) H):wpAny (model X.prog X.w) X.A (pyIter (.ref s.heap.objs.size)) (PIE X pins σ tg R) E {s with heap:=s.heap.push {cls:=.type "range",data:=.fields #[.int lo t,.int hi u,.int 1 v]},toks:=tk}:=by
 refine wpAny_pyIter_range (IsRange.new ..) (small_one h1 h2 h3 h4) ?_;have I1:Inv X pins σ H {s with heap:=s.heap.push {cls:=.type "range",data:=.fields #[.int lo t,.int hi u,.int 1 v]},toks:=tk}:=I.kept λb o e=>qAI _ e
 refine⟨(s.heap.push {cls:=.type "range",data:=.fields #[.int lo t,.int hi u,.int 1 v]}).objs.size,[(s.heap.push {cls:=.type "range",data:=.fields #[.int lo t,.int hi u,.int 1 v]}).objs.size],_,_,H,rfl,I1.kept (t':=tk) λb o e=>qAI _ e,turn_range _ lo (hi-lo).toNat,?_,λb hb=>?_,q⟩
 .have e1:lo+((0:Nat):Int)*1=lo:=by simp
  have e2:(((hi-lo).toNat:Nat):Int)-((0:Nat):Int)=Builtin.Range.rangeSize lo hi 1:=by rw[rangeSize_one];split<;>lia
  show IsRangeIter _ _ (lo+((0:Nat):Int)*1) ((((hi-lo).toNat:Nat):Int)-((0:Nat):Int)) 1;rw[e1,e2];exact qAc _ rfl
 .have e:b=(s.heap.push {cls:=.type "range",data:=.fields #[.int lo t,.int hi u,.int 1 v]}).objs.size:=by simpa using hb
  subst e;exact I1.fpOk (qAG _) (I1.hok.fresh (qAG _))
def iRng1(ta:TA):TI:=λσ H R=>ta σ H λvs H1=>∃j:Int,vs=[.int j]/\-(2^62)<=j/\j<2^62/\R (Itr 0 j.toNat) H1
def iRng2(ta:TA):TI:=λσ H R=>ta σ H λvs H1=>∃i j:Int,vs=[.int i,.int j]/\(-(2^62)<=i/\i<2^62/\-(2^62)<=j/\j<2^62)/\R (Itr i (j-i).toNat) H1
theorem zBc{a:Expr}{ta:TA}{p:Pos}(hg:Gl X "range")(hm:X.mg "range"=none)(ha:PA X [a] ta)(hs:starEach [a] X.env=[(false,eval a X.env)]:=by rfl):PI X tg (.Call (.Name "range" p) [a] [] pos) (iRng1 ta):=by
 intro pins s σ H R I h;refine Call_ (ld_blt I hg hm boot_range (qDM (thn (ha pos pins s σ H _ I h) λus s1 ⟨vs,H1,I1,r1,q1⟩=>?_) hs rfl));obtain⟨j,e,q1,q2,q⟩:=q1;subst e
 cases r1 with
 |cons r rr=>
  cases rr
  obtain⟨t,rfl⟩:=r;exact call_range_1 (range_it I1 (by lia) (by lia) q1 q2 (by simpa using q))
theorem pi_range2{a b:Expr}{ta:TA}{p pos:Pos}(hg:Gl X "range")(hm:X.mg "range"=none)(ha:PA X [a,b] ta)(hs:starEach [a,b] X.env=[(false,eval a X.env),(false,eval b X.env)]:=by rfl)(hs2:starEach [b] X.env=[(false,eval b X.env)]:=by rfl) :
  PI X tg (.Call (.Name "range" p) [a,b] [] pos) (iRng2 ta):=by
 intro pins s σ H R I h;refine Call_ (ld_blt I hg hm boot_range (qDM (thn (ha pos pins s σ H _ I h) λus s1 ⟨vs,H1,I1,r1,q1⟩=>?_) (by rw[hs,hs2]) (by rw[hs2];rfl)));obtain⟨i,j,e,⟨q1,q2,q3,q4⟩,q⟩:=q1;subst e
 cases r1 with
 |cons r rr=>
  cases rr with
  |cons r' rr=>
   cases rr
   obtain⟨t,rfl⟩:=r;obtain⟨t',rfl⟩:=r';exact call_range_2 (range_it I1 q1 q2 q3 q4 q)
def tFor(wi:TI)(g:TG)(tb:TS):TS:=λD σ H=>wi σ H λJ H1=>∃W:Nat->Nat->St->Hp->Prop,(∃m,W 0 m σ H1)/\∀i m σ H,W i m σ H ->
 (J.stop i H/\D.nx σ H)\/(J.go i H/\∃N:St->Hp->Prop,(∀σ' H',N σ' H'->∃m',m'<m/\W (i+1) m' σ' H')/\∀x H',J.yld i H x H'->g x σ H' λσ2 H2=>tb {D with nx:=N,ct:=N,bk:=D.nx} σ2 H2)
def pinsAt(fp:List Addr)(h:Heap):List (Addr×Obj):=fp.filterMap λb=>(h.get? b).map λo=>(b,o)
theorem zEl{fp:List Addr}{o:Obj}(hb:b∈fp)(e:h.get? b=some o):(b,o)∈pinsAt fp h:=List.mem_filterMap.mpr ⟨b,hb,by rw[e];rfl⟩
theorem of_pinsAt{fp:List Addr}{p:Addr×Obj}(hp:p∈pinsAt fp h):p.1∈fp/\h.get? p.1=some p.2:=by
 obtain⟨b,hb,e⟩:=List.mem_filterMap.mp hp
 cases q:h.get? b with
 |none=>rw[q]at e;cases e
 |some o=>
  rw[q]at e;have e':(b,o)=p:=qAW e;subst e';exact⟨hb,q⟩
theorem Inv.pinned{fp:List Addr}(I:Inv X pins σ H s)(hf:∀b∈fp,FpOk X pins H b)(ho:∀b∈fp,∃o,s.heap.get? b=some o/\∀v,o.data≠.cell v):Inv X (pins++pinsAt fp s.heap) σ H s :=
 I.pins_of λp hp=>(qAY.mp hp).elim (λz=>I.pin p (qAt _ z)) λz=>by
  obtain⟨hb,e⟩:=of_pinsAt z;obtain⟨f0,f1,f2,_⟩:=hf p.1 hb;obtain⟨o,e',d⟩:=ho p.1 hb;rw[e]at e';cases e';exact⟨e,f0,f1,f2,d⟩
theorem Inv.unpinned{pl:List (Addr×Obj)}(I:Inv X (pins++pl) σ H s):Inv X pins σ H s:=I.pins_of λp hp=>I.pin p (qAt _ (qAo _ hp))
theorem zBk{iter:Expr}{body:List Stmt}{wi:TI}{tb:TS}(hp:PassesOwn (model X.prog X.w) X.A X.env X.xe)(hc:X.calm=true)(hi:PI X tg iter wi)(hg:PG X tg g)(hb:PSs X body tb)
  (hs:∀x,foldedSetIterable iter X.env x=pure x:=by intro _;rfl):PS X (.For tg iter body [] pos) (tFor wi g tb):=by
 intro pins s σ H D I h;refine wpAny_For (thn (hi pins s σ H _ I h) λv s1 h1=>thn h1 λitv s2 h2=>?_) hs;obtain⟨it,fp,tn,J,H2,e,I2,T,st2,f2,W,⟨m0,w0⟩,turn⟩:=h2;subst e;have stat:∀{H':Hp},(∀b∈fp,H' b=none)->∀b∈fp,FpOk X pins H' b:=λhn b hb=>⟨hn b hb,(f2 b hb).2⟩;refine codeAny_forLoop_any (λn s'=>∃i σ' H',Inv X pins σ' H' s'/\tn i s'.heap/\(∀b∈fp,H' b=none)/\W i n σ' H') ?_ m0 ⟨0,σ,H2,I2,st2,λb hb=>(f2 b hb).1,w0⟩;rintro n s3 ⟨i,σ3,H3,I3,st3,fr3,w3⟩;rcases turn i n σ3 H3 w3 with⟨stop,qn⟩|⟨go,N,hN,step⟩
 .refine qBx hp (thn (T.done X rfl rfl rfl hc i pins s3 σ3 H3 X.xe I3 (stat fr3) st3 stop) λr s4 ⟨hr,I4⟩=>?_);subst hr;exact qCd ⟨σ3,H3,I4,qn⟩
 .refine qBx hp (thn (T.item X rfl rfl rfl hc i pins s3 σ3 H3 X.xe I3 (stat fr3) st3 go) λr s4 ⟨u,hr,h4⟩=>?_);subst hr;refine qBx hp (thn h4 λ_ s5 ⟨x,H5,I5,r5,y5,st5,fr5⟩=>?_);have I5':=I5.pinned (stat fr5) (T.obj _ _ st5);refine qBx hp (thn (hg _ s5 σ3 H5 x u _ I5' r5 (step x H5 y5)) λ_ s6 ⟨σ6,H6,I6,q6⟩=>?_);refine qBx hp (thn (hb _ s6 σ6 H6 _ I6 q6) λf s7 q7=>?_)
  have again:∀{σ7:St}{H7:Hp},Inv X (pins++pinsAt fp s5.heap) σ7 H7 s7->N σ7 H7->∃m,m<n/\∃i σ' H',Inv X pins σ' H' s7/\tn i s7.heap/\(∀b∈fp,H' b=none)/\W i m σ' H':=λ{σ7 H7} I7 n7=>by
   obtain⟨m',hm,w7⟩:=hN σ7 H7 n7;refine⟨m',hm,i+1,σ7,H7,I7.unpinned,T.keep _ _ _ st5 λb hb o e=>(I7.pin (b,o) (qAt _ (qAt _ (zEl hb e)))).1,λb hb=>?_,w7⟩;obtain⟨o,e,d⟩:=T.obj _ _ st5 b hb;exact(I7.pin (b,o) (qAt _ (qAt _ (zEl hb e)))).2.1
  cases f with
  |next=>obtain⟨σ7,H7,I7,n7⟩:=q7;exact again I7 n7
  |cont=>obtain⟨σ7,H7,I7,n7⟩:=q7;exact again I7 n7
  |brk=>obtain⟨σ7,H7,I7,q7⟩:=q7;exact⟨σ7,H7,I7.unpinned,q7⟩
  |ret v=>obtain⟨x7,σ7,H7,I7,r7,q7⟩:=q7;exact⟨x7,σ7,H7,I7.unpinned,r7,q7⟩
end
theorem zCa{tb:TS}(Pv:Nat->St->Hp->Prop)(h0:Pv 0 σ H)(hl:∀i σ H,i<=xs.length->Pv i σ H->SqL K H a xs)
  (hs:∀i x σ H,xs[i]?=some x->Pv i σ H->g x σ H λσ2 H2=>tb {D with nx:=Pv (i+1),ct:=Pv (i+1),bk:=D.nx} σ2 H2) (hd:∀σ H,Pv xs.length σ H->D.nx σ H) :
  ∃W:Nat->Nat->St->Hp->Prop,(∃m,W 0 m σ H)/\∀i m σ H,W i m σ H ->
   ((Itl K a).stop i H/\D.nx σ H)\/((Itl K a).go i H/\∃N:St->Hp->Prop,(∀σ' H',N σ' H'->∃m',m'<m/\W (i+1) m' σ' H')/\∀x H',(Itl K a).yld i H x H'->g x σ H' λσ2 H2=>tb {D with nx:=N,ct:=N,bk:=D.nx} σ2 H2):=by
 refine⟨λi m σ H=>m=xs.length-i/\i<=xs.length/\Pv i σ H,⟨xs.length,by simp,qAe _,h0⟩,?_⟩;rintro i m σ H ⟨rfl,hi,p⟩;have q:=hl i σ H hi p
 by_cases hlt:i<xs.length
 .refine .inr ⟨⟨xs,xs[i],q,by simp[hlt]⟩,Pv (i+1),λσ' H' p'=>⟨xs.length-(i+1),by lia,rfl,hlt,p'⟩,λx H' y=>?_⟩;obtain⟨e,y⟩:=y;subst e;exact hs i x σ _ (y xs q) p
 .have e:i=xs.length:=by lia
  subst e;exact .inl ⟨⟨xs,q,qAG _⟩,hd σ H p⟩
theorem for_tup{tb:TS}(Pv:Nat->St->Hp->Prop)(h0:Pv 0 σ H)(hl:∀i σ H,i<=xs.length->Pv i σ H->SqT K H a xs)
  (hs:∀i x σ H,xs[i]?=some x->Pv i σ H->g x σ H λσ2 H2=>tb {D with nx:=Pv (i+1),ct:=Pv (i+1),bk:=D.nx} σ2 H2) (hd:∀σ H,Pv xs.length σ H->D.nx σ H) :
  ∃W:Nat->Nat->St->Hp->Prop,(∃m,W 0 m σ H)/\∀i m σ H,W i m σ H ->
   ((Itt K a).stop i H/\D.nx σ H)\/((Itt K a).go i H/\∃N:St->Hp->Prop,(∀σ' H',N σ' H'->∃m',m'<m/\W (i+1) m' σ' H')/\∀x H',(Itt K a).yld i H x H'->g x σ H' λσ2 H2=>tb {D with nx:=N,ct:=N,bk:=D.nx} σ2 H2):=by
 refine⟨λi m σ H=>m=xs.length-i/\i<=xs.length/\Pv i σ H,⟨xs.length,by simp,qAe _,h0⟩,?_⟩;rintro i m σ H ⟨rfl,hi,p⟩;have q:=hl i σ H hi p
 by_cases hlt:i<xs.length
 .refine .inr ⟨⟨xs,xs[i],q,by simp[hlt]⟩,Pv (i+1),λσ' H' p'=>⟨xs.length-(i+1),by lia,rfl,hlt,p'⟩,λx H' y=>?_⟩;obtain⟨e,y⟩:=y;subst e;exact hs i x σ _ (y xs q) p
 .have e:i=xs.length:=by lia
  subst e;exact .inl ⟨⟨xs,q,qAG _⟩,hd σ H p⟩
theorem zBm{lo:Int}{n:Nat}{tb:TS}(Pv:Nat->St->Hp->Prop)(h0:Pv 0 σ H)
  (hs:∀i σ H,i<n->Pv i σ H->g (.int (lo+i)) σ H λσ2 H2=>tb {D with nx:=Pv (i+1),ct:=Pv (i+1),bk:=D.nx} σ2 H2) (hd:∀σ H,Pv n σ H->D.nx σ H) :
  ∃W:Nat->Nat->St->Hp->Prop,(∃m,W 0 m σ H)/\∀i m σ H,W i m σ H ->
   ((Itr lo n).stop i H/\D.nx σ H)\/((Itr lo n).go i H/\∃N:St->Hp->Prop,(∀σ' H',N σ' H'->∃m',m'<m/\W (i+1) m' σ' H')/\∀x H',(Itr lo n).yld i H x H'->g x σ H' λσ2 H2=>tb {D with nx:=N,ct:=N,bk:=D.nx} σ2 H2):=by
 refine⟨λi m σ H=>m=n-i/\i<=n/\Pv i σ H,⟨n,by simp,qAe _,h0⟩,?_⟩;rintro i m σ H ⟨rfl,hi,p⟩
 by_cases hlt:i<n
 .refine .inr ⟨hlt,Pv (i+1),λσ' H' p'=>⟨n-(i+1),by lia,rfl,hlt,p'⟩,λx H' y=>?_⟩;obtain⟨e,y⟩:=y;subst e y;exact hs i σ _ hlt p
 .have e:i=n:=by lia
  subst e;exact .inl ⟨qAG _,hd σ H p⟩
theorem while_by{c:TT}{tb:TS}(Pv:St->Hp->Prop)(μ:St->Hp->Nat)(h0:Pv σ H)
  (hs:∀σ H,Pv σ H->c σ H λb H1=>if b=true then tb {D with nx:=λσ' H'=>Pv σ' H'/\μ σ' H'<μ σ H,ct:=λσ' H'=>Pv σ' H'/\μ σ' H'<μ σ H,bk:=D.nx} σ H1 else D.nx σ H1)
  (mono:∀σ H Q Q',(∀b H1,Q b H1->Q' b H1)->c σ H Q->c σ H Q'):tWhile c tb D σ H:=by
 refine⟨λm σ H=>m=μ σ H/\Pv σ H,⟨_,rfl,h0⟩,?_⟩;rintro m σ H ⟨rfl,p⟩;refine mono σ H _ _ (λb H1 q=>?_) (hs σ H p)
 cases b with
 |true=>exact⟨_,λσ' H' ⟨p',l⟩=>⟨_,l,rfl,p'⟩,q⟩
 |false=>exact q
abbrev R2:=V->V->Hp->VK->Prop
variable{r:R2}
def OpR(X:Cx)(f:Value->Value->Sem Value)(r:R2):Prop :=
 ∀(pins:List (Addr×Obj)) (s:Shared) (σ:St) (H:Hp) (x y:V) (v u:Value) (Q:VK),Inv X pins σ H s->RelV x v->RelV y u->r x y H Q ->
  wpAny (model X.prog X.w) X.A (f v u) (EP X pins σ Q) X.xe s
def zCq(X:Cx)(f:Value)(r:List V->Hp->VK->Prop):Prop :=
 ∀(pins:List (Addr×Obj)) (s:Shared) (σ:St) (H:Hp) (xs:List V) (us:List Value) (Q:VK),Inv X pins σ H s->Vals xs us->r xs H Q ->
  wpAny (model X.prog X.w) X.A (call f us) (EP X pins σ Q) X.xe s
def TruR(X:Cx)(r:V->Hp->(Bool->Hp->Prop)->Prop):Prop :=
 ∀(pins:List (Addr×Obj)) (s:Shared) (σ:St) (H:Hp) (x:V) (v:Value) (Q:Bool->Hp->Prop),Inv X pins σ H s->RelV x v->r x H Q ->
  wpAny (model X.prog X.w) X.A (truthy v) (TP X pins σ Q) X.xe s
def tOp(r:R2)(ta tb:TE):TE:=λσ H Q=>ta σ H λx H1=>tb σ H1 λy H2=>r x y H2 Q
def rI(C:Int->Int->Prop)(g:Int->Int->V):R2:=λx y H Q=>∃i j,x= .int i/\y= .int j/\C i j/\Q (g i j) H
def rI0(g:Int->Int->V):R2:=λx y H Q=>∃i j,x= .int i/\y= .int j/\Q (g i j) H
section
variable{X:Cx}{a b c:Expr}{ta tb tc:TE}{pos:Pos}
theorem binT(ha:PE X a ta)(hb:PE X b tb){R:V->V->Hp->Prop}(I:Inv X pins σ H s)
  (h:ta σ H λx H1=>tb σ H1 λy H2=>R x y H2) {Q:Value->Shared->Prop} {f:Value->Value->Sem Value}
  (hf:∀v u s2 x y H2,Inv X pins σ H2 s2->RelV x v->RelV y u->R x y H2->wpAny (model X.prog X.w) X.A (f v u) Q X.xe s2) :
  wpAny (model X.prog X.w) X.A (eval a X.env) (λv s₁=>wpAny (model X.prog X.w) X.A (eval b X.env) (λu s₂=>wpAny (model X.prog X.w) X.A (f v u) Q X.xe s₂) X.xe s₁) X.xe s:=by
 refine thn (ha pins s σ H _ I h) λv s1 ⟨x,H1,I1,r1,q1⟩=>?_;refine thn (hb pins s1 σ H1 _ I1 q1) λu s2 ⟨y,H2,I2,r2,q2⟩=>?_;exact hf v u s2 x y H2 I2 r1 r2 q2
theorem zAv{op:Operator}{r:R2}(ho:OpR X (binaryOp op) r)(ha:PE X a ta)(hb:PE X b tb):PE X (.BinOp a op b pos) (tOp r ta tb):=by
 intro pins s σ H Q I h;exact wpAny_BinOp (binT ha hb I h λv u s2 x y H2 I2 rx ry q=>ho pins s2 σ H2 x y v u Q I2 rx ry q)
theorem opI{f:Value->Value->Sem Value}{C:Int->Int->Prop}{g:Int->Int->Int}
  (rule:∀(i j:Int)(t u:Tok)(s:Shared)(Q:Value->Shared->Prop)(E:Value->Shared->Prop),C i j->Q (.int (g i j) s.toks) {s with toks:=s.toks+1}->wpAny (model X.prog X.w) X.A (f (.int i t) (.int j u)) Q E s) :
  OpR X f (rI C λi j=>.int (g i j)):=by
 intro pins s σ H x y v u Q I rx ry h;obtain⟨i,j,rfl,rfl,hc,q⟩:=h;obtain⟨t,rfl⟩:=rx;obtain⟨t',rfl⟩:=ry;exact rule i j t t' s _ _ hc ⟨.int (g i j),H,I.tok _,⟨_,rfl⟩,q⟩
theorem opI0{f:Value->Value->Sem Value}{g:Int->Int->Int}
  (rule:∀(i j:Int)(t u:Tok)(s:Shared)(Q:Value->Shared->Prop)(E:Value->Shared->Prop),Q (.int (g i j) s.toks) {s with toks:=s.toks+1}->wpAny (model X.prog X.w) X.A (f (.int i t) (.int j u)) Q E s) :
  OpR X f (rI0 λi j=>.int (g i j)):=by
 intro pins s σ H x y v u Q I rx ry h;obtain⟨i,j,rfl,rfl,q⟩:=h;obtain⟨t,rfl⟩:=rx;obtain⟨t',rfl⟩:=ry;exact rule i j t t' s _ _ ⟨.int (g i j),H,I.tok _,⟨_,rfl⟩,q⟩
theorem opB0{f:Value->Value->Sem Value}{g:Int->Int->Bool}
  (rule:∀(i j:Int)(t u:Tok)(s:Shared)(Q:Value->Shared->Prop)(E:Value->Shared->Prop),Q (.bool (g i j)) s->wpAny (model X.prog X.w) X.A (f (.int i t) (.int j u)) Q E s) :
  OpR X f (rI0 λi j=>.bl (g i j)):=by
 intro pins s σ H x y v u Q I rx ry h;obtain⟨i,j,rfl,rfl,q⟩:=h;obtain⟨t,rfl⟩:=rx;obtain⟨t',rfl⟩:=ry;exact rule i j t t' s _ _ ⟨.bl (g i j),H,I,rfl,q⟩
def CDiv(i j:Int):Prop:=0<j/\j<1073741824
def CPow(i j:Int):Prop:=0<=j/\j<=1000000/\i.natAbs<2^64
def CMul(i j:Int):Prop:=(-(2^64)<i/\i<2^64)\/(-(2^64)<j/\j<2^64)
theorem CMul.ok{i j:Int}(h:CMul i j):IntMulOk i j:=by
 rcases h with⟨h1,h2⟩|⟨h1,h2⟩
 .exact .of_left (intBits_le_64 h1 h2)
 .exact .of_right (intBits_le_64 h1 h2)
theorem zDs:OpR X (binaryOp .Add) (rI0 λi j=>.int (i+j)):=opI0 λ_ _ _ _ _ _ _ q=>add_int q
theorem zEs:OpR X (binaryOp .Sub) (rI0 λi j=>.int (i-j)):=opI0 λ_ _ _ _ _ _ _ q=>sub_int q
theorem zFf:OpR X (binaryOp .Mult) (rI CMul λi j=>.int (i*j)):=opI λ_ _ _ _ _ _ _ hc q=>mul_int q hc.ok
theorem zI2:OpR X (binaryOp .FloorDiv) (rI CDiv λi j=>.int (i / j)):=opI λi j _ _ _ _ _ hc q=>by
 have h1:(0:Int)<j:=hc.1;have h2:j<1073741824:=hc.2;exact floordiv_int (by lia) (by rw[Int.fdiv_eq_ediv_of_nonneg i (by lia)];exact q) (.inl (PyProof.noPylong_small (by lia)))
theorem zG7:OpR X (binaryOp .Mod) (rI (λ_ j=>0<j) λi j=>.int (i % j)):=opI λi j _ _ _ _ _ hc q=>by
 have h1:(0:Int)<j:=hc;exact mod_int' (by lia) (by rw[Int.fmod_eq_emod_of_nonneg i (by lia)];exact q)
theorem op_pow:OpR X (binaryOp .Pow) (rI CPow λi j=>.int (i^j.toNat)):=opI λ_ _ _ _ _ _ _ hc q=>pow_int_small hc.1 hc.2.1 hc.2.2 q
end
def scal:V->V->Bool
 | .non,.non=>true| .non,.int _=>true| .int _,.non=>true| .non,.bl _=>true| .bl _,.non=>true| .non,.str _=>true| .str _,.non=>true
 | .int _,.int _=>true| .bl _,.bl _=>true| .str _,.str _=>true| .byt _,.byt _=>true
 | .int _,.str _=>true| .str _,.int _=>true| .bl _,.str _=>true| .str _,.bl _=>true
 |_,_=>false
def rEq:R2:=λx y H Q=>scal x y=true/\Q (.bl (decide (x=y))) H
def rNe:R2:=λx y H Q=>scal x y=true/\Q (.bl (!decide (x=y))) H
theorem dec_int{i j:Int}:decide (V.int i=V.int j)=(i==j):=by
 rw[qBk];simp
theorem dec_bl{i j:Bool}:decide (V.bl i=V.bl j)=(i==j):=by
 rw[qBk];simp
theorem dec_str{i j:Str}:decide (V.str i=V.str j)=(i==j):=by
 rw[qBk];simp
theorem dec_byt{i j:Array UInt8}:decide (V.byt i=V.byt j)=(i.toList==j.toList):=by
 rw[qBk]
 cases i
 cases j
 simp
section
variable{X:Cx}{a b c:Expr}{ta tb tc:TE}{pos:Pos}
theorem zA3{Q:VK}{k k':Bool}(I:Inv X pins σ H s)(q:Q (.bl k) H)(e:k=k'):EP X pins σ Q (.bool k') s:=by
 subst e;exact⟨.bl k,H,I,rfl,q⟩
theorem zDr:OpR X (compareOp .Eq) rEq:=by
 intro pins s σ H x y v u Q I rx ry h;obtain⟨hs,q⟩:=h
 cases x with
 |non=>
  cases rx
  cases y with
  |non=>cases ry;exact PySem.EqNone.eq_none_none (zA3 I q (by simp))
  |bl j=>cases ry;exact PySem.EqNone.eq_none_bool (zA3 I q (by simp))
  |int j=>obtain⟨t',rfl⟩:=ry;exact PySem.EqNone.eq_none_int (zA3 I q (by simp))
  |str j=>obtain⟨t',rfl⟩:=ry;exact PySem.EqNone.eq_none_str (zA3 I q (by simp))
  |_=>exact absurd (show false=true from hs) qAh
 |bl i=>
  cases rx
  cases y with
  |non=>cases ry;exact PySem.EqNone.eq_bool_none (zA3 I q (by simp))
  |bl j=>cases ry;exact eq_bool (zA3 I q dec_bl)
  |str j=>obtain⟨t',rfl⟩:=ry;exact PySem.EqMixed.eq_bool_str (zA3 I q (by simp))
  |_=>exact absurd (show false=true from hs) qAh
 |int i=>
  obtain⟨t,rfl⟩:=rx
  cases y with
  |non=>cases ry;exact PySem.EqNone.eq_int_none (zA3 I q (by simp))
  |int j=>obtain⟨t',rfl⟩:=ry;exact eq_int (zA3 I q dec_int)
  |str j=>obtain⟨t',rfl⟩:=ry;exact PySem.EqMixed.eq_int_str (zA3 I q (by simp))
  |_=>exact absurd (show false=true from hs) qAh
 |str i=>
  obtain⟨t,rfl⟩:=rx
  cases y with
  |non=>cases ry;exact PySem.EqNone.eq_str_none (zA3 I q (by simp))
  |bl j=>cases ry;exact PySem.EqMixed.eq_str_bool (zA3 I q (by simp))
  |int j=>obtain⟨t',rfl⟩:=ry;exact PySem.EqMixed.eq_str_int (zA3 I q (by simp))
  |str j=>obtain⟨t',rfl⟩:=ry;exact eq_str (zA3 I q dec_str)
  |_=>exact absurd (show false=true from hs) qAh
 |byt i=>
  obtain⟨t,rfl⟩:=rx
  cases y with
  |byt j=>obtain⟨t',rfl⟩:=ry;exact PySem.W.eq_bytes (zA3 I q dec_byt)
  |_=>exact absurd (show false=true from hs) qAh
 |_=>cases y<;>exact absurd (show false=true from hs) qAh
theorem op_ne:OpR X (compareOp .NotEq) rNe:=by
 intro pins s σ H x y v u Q I rx ry h;obtain⟨hs,q⟩:=h
 cases x with
 |non=>
  cases rx
  cases y with
  |non=>cases ry;exact PySem.EqNone.ne_none_none (zA3 I q (by simp))
  |bl j=>cases ry;exact PySem.EqNone.ne_none_bool (zA3 I q (by simp))
  |int j=>obtain⟨t',rfl⟩:=ry;exact PySem.EqNone.ne_none_int (zA3 I q (by simp))
  |str j=>obtain⟨t',rfl⟩:=ry;exact PySem.EqNone.ne_none_str (zA3 I q (by simp))
  |_=>exact absurd (show false=true from hs) qAh
 |bl i=>
  cases rx
  cases y with
  |non=>cases ry;exact PySem.EqNone.ne_bool_none (zA3 I q (by simp))
  |bl j=>cases ry;exact ne_bool (zA3 I q (qAj not dec_bl))
  |str j=>obtain⟨t',rfl⟩:=ry;exact PySem.EqMixed.ne_bool_str (zA3 I q (by simp))
  |_=>exact absurd (show false=true from hs) qAh
 |int i=>
  obtain⟨t,rfl⟩:=rx
  cases y with
  |non=>cases ry;exact PySem.EqNone.ne_int_none (zA3 I q (by simp))
  |int j=>obtain⟨t',rfl⟩:=ry;exact ne_int (zA3 I q (qAj not dec_int))
  |str j=>obtain⟨t',rfl⟩:=ry;exact PySem.EqMixed.ne_int_str (zA3 I q (by simp))
  |_=>exact absurd (show false=true from hs) qAh
 |str i=>
  obtain⟨t,rfl⟩:=rx
  cases y with
  |non=>cases ry;exact PySem.EqNone.ne_str_none (zA3 I q (by simp))
  |bl j=>cases ry;exact PySem.EqMixed.ne_str_bool (zA3 I q (by simp))
  |int j=>obtain⟨t',rfl⟩:=ry;exact PySem.EqMixed.ne_str_int (zA3 I q (by simp))
  |str j=>obtain⟨t',rfl⟩:=ry;exact ne_str (zA3 I q (qAj not dec_str))
  |_=>exact absurd (show false=true from hs) qAh
 |byt i=>
  obtain⟨t,rfl⟩:=rx
  cases y with
  |byt j=>obtain⟨t',rfl⟩:=ry;exact PySem.W.ne_bytes (zA3 I q (qAj not dec_byt))
  |_=>exact absurd (show false=true from hs) qAh
 |_=>cases y<;>exact absurd (show false=true from hs) qAh
theorem op_lt:OpR X (compareOp .Lt) (rI0 λi j=>.bl (decide (i<j))):=opB0 λ_ _ _ _ _ _ _ q=>lt_int q
theorem op_le:OpR X (compareOp .LtE) (rI0 λi j=>.bl (decide (i<=j))):=opB0 λ_ _ _ _ _ _ _ q=>le_int q
theorem op_gt:OpR X (compareOp .Gt) (rI0 λi j=>.bl (decide (j<i))):=opB0 λ_ _ _ _ _ _ _ q=>gt_int q
theorem op_in_str:OpR X (compareOp .In) (λx y H Q=>∃i j,x= .str i/\y= .str j/\Q (.bl (!(Builtin.Str.occurrences j i 0 j.length 1).isEmpty)) H):=by
 intro pins s σ H x y v u Q I rx ry h;obtain⟨i,j,rfl,rfl,q⟩:=h;obtain⟨t,rfl⟩:=rx;obtain⟨t',rfl⟩:=ry;exact in_str (zA3 I q rfl)
theorem op_isN:OpR X (compareOp .Is) (λx y H Q=>y= .non/\Q (.bl (decide (x= .non))) H):=by
 intro pins s σ H x y v u Q I rx ry h;obtain⟨rfl,q⟩:=h
 cases ry
 refine is_none_gen (zA3 I q ?_)
 cases x<;>first
  |(cases rx;rfl)
  |(obtain⟨t,rfl⟩:=rx;rfl)
theorem op_notN:OpR X (compareOp .IsNot) (λx y H Q=>y= .non/\Q (.bl (!decide (x= .non))) H):=by
 intro pins s σ H x y v u Q I rx ry h;obtain⟨rfl,q⟩:=h
 cases ry
 refine isnot_none_gen (zA3 I q ?_)
 cases x<;>first
  |(cases rx;rfl)
  |(obtain⟨t,rfl⟩:=rx;rfl)
theorem zAq(b:Expr)(h:op≠.In:=by decide)(h2:op≠.NotIn:=by decide):behindInMarks op b=false:=by
 have e1:(op==CmpOp.In)=false:=by cases op<;>first|rfl|exact absurd rfl h
 have e2:(op==CmpOp.NotIn)=false:=by cases op<;>first|rfl|exact absurd rfl h2
 cases b<;>simp[behindInMarks,e1,e2]
theorem zBh(ho:OpR X (compareOp op) r)(ha:PE X a ta)(hb:PE X b tb)(hm:behindInMarks op b=false):PE X (.Compare a [op] [b] pos) (tOp r ta tb):=by
 intro pins s σ H Q I h;exact wpAny_Compare1 (binT ha hb I h λv u s2 x y H2 I2 rx ry q=>ho pins s2 σ H2 x y v u Q I2 rx ry q) hm
def tTest(t:TE):TT:=λσ H Q=>t σ H λx H'=>∃k,x= .bl k/\Q k H'
theorem zAo(ho:OpR X (compareOp op) r)(ha:PE X a ta)(hb:PE X b tb)(hm:behindInMarks op b=false):PT X (.Compare a [op] [b] pos) (tTest (tOp r ta tb)):=by
 intro pins s σ H Q I h
 refine wpAny_isTrue_Compare1 (thn (ha pins s σ H _ I h) λv s1 ⟨x,H1,I1,r1,q1⟩=>thn (hb pins s1 σ H1 _ I1 q1) λu s2 ⟨y,H2,I2,r2,q2⟩=>thn (ho pins s2 σ H2 x y v u _ I2 r1 r2 q2) λc s3 ⟨z,H3,I3,r3,k,e,q3⟩=>?_) hm
 subst e
 cases r3
 exact qBG ⟨H3,I3,q3⟩
def tChain(r r':R2)(ta tb tc:TE):TE:=λσ H Q=>ta σ H λx H1=>tb σ H1 λy H2=>r x y H2 λz H3=>∃k,z= .bl k /\
 (if k=true then tc σ H3 λw' H4=>r' y w' H4 Q else Q (.bl false) H3)
theorem pe_chain{op':CmpOp}{r':R2}(ho:OpR X (compareOp op) r)(ho':OpR X (compareOp op') r')(ha:PE X a ta)(hb:PE X b tb)(hc:PE X c tc)
  (hm:lastMarks [op,op'] [b,c]=false:=by with_unfolding_all rfl):PE X (.Compare a [op,op'] [b,c] pos) (tChain r r' ta tb tc):=by
 intro pins s σ H Q I h
 refine Compare_chain (thn (ha pins s σ H _ I h) λv s1 ⟨x,H1,I1,r1,q1⟩=>chain_link (thn (hb pins s1 σ H1 _ I1 q1) λu s2 ⟨y,H2,I2,r2,q2⟩=>thn (ho pins s2 σ H2 x y v u _ I2 r1 r2 q2) λd s3 ⟨z,H3,I3,r3,k,e,q3⟩=>?_)) hm
 subst e
 cases r3
 refine qBG ?_
 cases k with
 |false=>exact ite_ff ⟨.bl false,H3,I3,rfl,q3⟩
 |true=>exact ite_tt (chain_last (thn (hc pins s3 σ H3 _ I3 q3) λw' s4 ⟨z',H4,I4,r4,q4⟩=>ho' pins s4 σ H4 y z' u w' Q I4 r2 r4 q4))
theorem pt_chain{op':CmpOp}{r':R2}(ho:OpR X (compareOp op) r)(ho':OpR X (compareOp op') r')(ha:PE X a ta)(hb:PE X b tb)(hc:PE X c tc)
  (hm:lastMarks [op,op'] [b,c]=false:=by with_unfolding_all rfl):PT X (.Compare a [op,op'] [b,c] pos) (tTest (tChain r r' ta tb tc)):=by
 intro pins s σ H Q I h
 refine isTrue_chain (thn (ha pins s σ H _ I h) λv s1 ⟨x,H1,I1,r1,q1⟩=>test_link (thn (hb pins s1 σ H1 _ I1 q1) λu s2 ⟨y,H2,I2,r2,q2⟩=>thn (ho pins s2 σ H2 x y v u _ I2 r1 r2 q2) λd s3 ⟨z,H3,I3,r3,k,e,q3⟩=>?_)) hm
 subst e
 cases r3
 refine qBG ?_
 cases k with
 |false=>
  obtain⟨k',e',q'⟩:=q3
  cases e'
  exact ite_ff ⟨H3,I3,q'⟩
 |true=>
  refine ite_tt (test_last (thn (hc pins s3 σ H3 _ I3 q3) λw' s4 ⟨z',H4,I4,r4,q4⟩=>thn (ho' pins s4 σ H4 y z' u w' _ I4 r2 r4 q4) λd' s5 ⟨z2,H5,I5,r5,k2,e2,q5⟩=>?_));subst e2
  cases r5
  exact qBG ⟨H5,I5,q5⟩
def TruV(K:PySem.W.Frag)(x:V)(H:Hp)(k:Bool):Prop :=
 match x with
 | .non=>k=false
 | .bl b=>k=b
 | .int i=>k=(i != 0)
 | .str y=>y.length<=sizeLine/\k=((y.length:Int) != 0)
 | .byt y=>y.size<=sizeLine/\k=((y.size:Int) != 0)
 | .ref p=>(∃xs,SqL K H p xs/\k= !xs.isEmpty)\/(∃xs,SqT K H p xs/\k= !xs.isEmpty)\/∃kvs,H p=some (.dK kvs)/\k= !kvs.isEmpty
 |_=>False
theorem isEmpty_kv{κ:Type}{kvs:List (κ×V)}{vs:List (κ×Value)}(r:KV kvs vs):(!vs.isEmpty)= !kvs.isEmpty:=by
 cases r<;>rfl
theorem zIb{its:List Value}(r:Vals xs its):(!its.toArray.isEmpty)= !xs.isEmpty:=by
 cases r<;>simp
theorem zHd:(sizeLine:Nat)<2^63:=by rw[qAS];decide
theorem tru_ok:TruR X (λx H Q=>∃k,TruV X.K x H k/\Q k H):=by
 intro pins s σ H x v Q I rx h;obtain⟨k,e,q⟩:=h;have hl:=zHd;have hs:sizeLine=16777216:=qAS
 cases x with
 |non=>
  cases rx
  have e':k=false:=e;subst e';exact truthy_none ⟨H,I,q⟩
 |bl b=>
  cases rx
  have e':k=b:=e;subst e';exact qBG ⟨H,I,q⟩
 |int i=>
  obtain⟨t,rfl⟩:=rx;have e':k=(i != 0):=e;subst e';exact PySem.P.truthy_int ⟨H,I,q⟩
 |str y=>
  obtain⟨t,rfl⟩:=rx;obtain⟨hy,e'⟩:y.length<=sizeLine/\k=((y.length:Int) != 0):=e;subst e';exact PySem.P.truthy_str (by lia) ⟨H,I.tok _,q⟩
 |byt y=>
  obtain⟨t,rfl⟩:=rx;obtain⟨hy,e'⟩:y.size<=sizeLine/\k=((y.size:Int) != 0):=e;subst e';exact PySem.W.truthy_bytes (by lia) ⟨H,I.tok _,q⟩
 |ref p=>
  cases rx
  have e':(∃xs,SqL X.K H p xs/\k= !xs.isEmpty)\/(∃xs,SqT X.K H p xs/\k= !xs.isEmpty)\/∃kvs,H p=some (.dK kvs)/\k= !kvs.isEmpty:=e;rcases e' with⟨xs,hx,e'⟩|⟨xs,hx,e'⟩|⟨kvs,hx,e'⟩
  .subst e';obtain⟨its,r,pl,hz⟩:=I.list hx;have hlen:=r.length;exact wpAny_truthy_list pl.isList (by simp only[qAK];lia) ⟨H,I.tok _,by rw[zIb r];exact q⟩
  .subst e';obtain⟨its,r,pl,hz⟩:=I.tuple hx;have hlen:=r.length;exact truthy_tuple pl (by simp only[qAK];lia) ⟨H,I.tok _,by rw[zIb r];exact q⟩
  .subst e';obtain⟨hz,hS,vs,r,m⟩:kvs.length<=sizeLine/\(p==sysModules)=false/\∃vs,KV kvs vs/\s.heap.DictOf (zAu X.prog X.w) p vs:=I.hok p _ hx;have hlen:kvs.length=vs.length:=qCD r;exact wpAny_truthy_dict hS m (by lia) ⟨H,I.tok _,by rw[isEmpty_kv r];exact q⟩
 |_=>exact(show False from e).elim
theorem pt_truth(ha:PE X a ta)(he:∀whole,isTrue a X.env whole=(do let v<-whole;standAt a.pos;holding [v] (truthy v))) :
  PT X a (λσ H Q=>ta σ H λx H'=>∃k,TruV X.K x H' k/\Q k H'):=by
 intro pins s σ H Q I h;exact isTrue_plain (thn (ha pins s σ H _ I h) λv s1 ⟨x,H1,I1,r1,q1⟩=>tru_ok pins s1 σ H1 x v Q I1 r1 q1) (he _)
theorem zH7:OpR X (binaryOp .Add) (λx y H Q=>∃i j,x= .str i/\y= .str j/\i.length+j.length<=sizeLine/\Q (.str (i++j)) H):=by
 intro pins s σ H x y v u Q I rx ry h;obtain⟨i,j,rfl,rfl,hz,q⟩:=h;obtain⟨t,rfl⟩:=rx;obtain⟨t',rfl⟩:=ry;exact add_str (λt' tk=>⟨.str (i++j),H,I.tok _,⟨_,rfl⟩,q⟩) hz
theorem zHp{x:V}(r:Vals [x] us):∃u,us=[u]/\RelV x u:=by
 cases r with
 |cons r1 r2=>cases r2;exact⟨_,rfl,r1⟩
theorem vals2{x:V}(r:Vals [x,y] us):∃u w',us=[u,w']/\RelV x u/\RelV y w':=by
 cases r with
 |cons r1 r2=>
  cases r2 with
  |cons r3 r4=>cases r4;exact⟨_,_,rfl,r1,r3⟩
theorem call_max2(hc:X.calm=true):zCq X (.builtin "max") (λxs H Q=>∃i j,xs=[.int i,.int j]/\Q (.int (if j>i then j else i)) H):=by
 intro pins s σ H xs us Q I r h;obtain⟨i,j,rfl,q⟩:=h;obtain⟨u,w',rfl,⟨t,rfl⟩,⟨t',rfl⟩⟩:=vals2 r;refine max_two_ints (I.ok.hd hc) λh' tk k=>⟨_,H,I.kept k,?_,q⟩
 by_cases hj:j>i
 .rw [qAC hj,qAC hj];exact⟨_,rfl⟩
 .rw [qAB hj,qAB hj];exact⟨_,rfl⟩
theorem call_min2(hc:X.calm=true):zCq X (.builtin "min") (λxs H Q=>∃i j,xs=[.int i,.int j]/\Q (.int (if j<i then j else i)) H):=by
 intro pins s σ H xs us Q I r h;obtain⟨i,j,rfl,q⟩:=h;obtain⟨u,w',rfl,⟨t,rfl⟩,⟨t',rfl⟩⟩:=vals2 r;refine min_two_ints (I.ok.hd hc) λh' tk k=>⟨_,H,I.kept k,?_,q⟩
 by_cases hj:j<i
 .rw [qAC hj,qAC hj];exact⟨_,rfl⟩
 .rw [qAB hj,qAB hj];exact⟨_,rfl⟩
theorem zFn:zCq X (.type "int") (λxs H Q=>(∃i,xs=[.int i]/\Q (.int i) H)\/∃k,xs=[.bl k]/\Q (.int (if k then 1 else 0)) H):=by
 intro pins s σ H xs us Q I r h;rcases h with⟨i,rfl,q⟩|⟨k,rfl,q⟩
 .obtain ⟨u,rfl,t,rfl⟩:=zHp r;exact call_int_int ⟨.int i,H,I,⟨_,rfl⟩,q⟩
 .obtain ⟨u,rfl,r1⟩:=zHp r
  cases r1
  exact call_int_bool ⟨.int (if k then 1 else 0),H,I.tok _,⟨_,rfl⟩,q⟩
end
structure ObjM(h:Heap)(x dx C:Addr)(mA:Str->Option Value):Prop where
 obj:h.get? x=some (PySem.W.instObj C dx)
 ns:h.Ns1 dx mA
 ne:dx≠x
theorem lookIn_ns{dx:Addr}{mA:Str->Option Value}(n:h.Ns1 dx mA):∃od,h.get? dx=some od/\∀name,PySem.W.lookIn name od=some (mA name):=by
 obtain⟨o,es,ep,ho,hd,hk,_,hm⟩:=n;refine⟨o,ho,λname=>?_⟩;have e:=hm name;unfold nsFind findBy at e;rw[<-Array.find?_toList]at e;unfold PySem.W.lookIn;rw[hd];dsimp only;split
 .rename_i y q;rw[q]at e;exact qAj some e
 .rename_i q;rw[q]at e
  have a:es.toList.any (·.refKey)=false:=by
   rw[List.any_eq_false];intro y hy;obtain⟨z,t,hkey⟩:=hk y (qDN.mp hy);simp[DictEntry.refKey,hkey]
  have a':¬es.toList.any (·.refKey)=true:=by rw[a];exact qAh
  rw[qAB a'];exact qAj some e
theorem ObjM.look{x dx:Addr}{mA:Str->Option Value}(I:ObjM h x dx C mA):∃od,PySem.W.InstAt h x (PySem.W.instObj C dx) C (some od)/\∀name,PySem.W.lookIn name od=some (mA name) :=
 let⟨od,ho,hl⟩:=lookIn_ns I.ns
 ⟨od,⟨I.obj,rfl,rfl,ho⟩,hl⟩
section
variable{prog:Program}{w:World}{A:Around}{E:Value->Shared->Prop}{s:Shared}{K:PySem.W.Frag}{x dx C f:Addr}{mA:Str->Option Value}{name:Str}{v:Value}
theorem get_map{expr:Bool}{Q:Value->Shared->Prop}(X:K.In s.heap)(I:ObjM s.heap x dx C mA)(hg:PySem.W.plainGet K C name=true)(hh:PySem.W.hasDictIn K C=true)
  (ha:PySem.W.findIn K (.ref C) name=some none) (hv:mA name=some v) (hv':PySem.W.handedIn v=true) (h:Q v {s with toks:=s.toks+1}) :
  wpAny (model prog w) A (getAttr (.ref x) name expr) Q E s:=by
 obtain⟨od,J,hl⟩:=I.look;exact PySem.W.get_value X J (PySem.W.plainGet_of hg).1 (PySem.W.findObj_own hh ha rfl (by rw[hl,hv])) hv' h
theorem get_meth{pl:Sem Bool}{Q:Value×List Value->Shared->Prop}(X:K.In s.heap)(I:ObjM s.heap x dx C mA)(hg:PySem.W.plainGet K C name=true)
  (hf:PySem.W.findIn K (.ref C) name=some (some (.ref f))) (ht:PySem.W.isFn K (.ref f)=true) (hv:mA name=none) (h:Q (.ref f,[.ref x]) s) :
  wpAny (model prog w) A (getMethod (.ref x) name pl) Q E s:=by
 obtain⟨od,J,hl⟩:=I.look;exact PySem.W.method_fn X J (PySem.W.plainGet_of hg).1 (PySem.W.plainGet_of hg).2 hf (qA7.mp ht) (by show(PySem.W.lookIn name od).map (·.isSome)=some false;rw[hl,hv];rfl) h
theorem set_map{ns:List Str}{Q:Unit->Shared->Prop}(X:K.In s.heap)(I:ObjM s.heap x dx C mA)
  (hs:PySem.W.findIn K (.ref C) "__setattr__"=some (some (.builtin "object.__setattr__"))) (hp:PySem.W.plainOver K C=true) (ht:PySem.W.takerIn K C name=some none) (hh:PySem.W.hasDictIn K C=true)
  (hw:PySem.Within mA ns) (hsz:ns.length<=sizeLine)
  (h:∀h',ObjM h' x dx C (λy=>if y=name then some v else mA y)->Heap.SameBut dx s.heap h'->Q () {s with heap:=h',toks:=s.toks+2}) :
  wpAny (model prog w) A (setAttr (.ref x) name v) Q E s:=by
 obtain⟨od,J,hl⟩:=I.look;refine PySem.W.set_plain X J hs (PySem.W.osa_open (s:={s with toks:=s.toks+1}) (r:=none) X J hp ht λb=>?_);obtain⟨cd,hc,hd'⟩:=PySem.W.any_some hh;have hx:s.heap.get? x=some ⟨.ref C,some dx,.plain,#[]⟩:=I.obj;refine qAA (qAD (qAA (qAA (wpAny_loadPart hx (qAA (PySem.W.Looks.here (s:={s with toks:=s.toks+1}) (PySem.W.looks_clsIn X hc) ?_))))));rw[hd'];refine qAD (a:=some dx) (qAA (qAD (qAA ?_)));refine wpAny_nsSet1 (s:={s with toks:=s.toks+1}) I.ns λh' hn2 hs2=>?_;obtain⟨oD,esD,epD,hoD,hdD,hcD⟩:=hn2.count (PySem.Within.cons name v hw);refine qAA (wpAny_lookBehind hoD (by rw[hdD];exact pastItsLine_dict (qAf hcD (by rw[qAZ];lia))) ?_);exact qAD (h _ ⟨(hs2.2 _ (qAV I.ne)).trans I.obj,hn2,I.ne⟩ hs2)
theorem make_map{R:Result->Shared->Prop}{vs:List Value}{kw:List (Str×Value)}(X:K.In s.heap)(hm:PySem.W.makesIn K C=true)
  (hi:PySem.W.findIn K (.ref C) "__init__"=some (some (.ref f))) (hf:PySem.W.typeIn K (.ref f)=some (.type "function"))
  (h:codeAny (model prog w) (A.under (.builtin "type.__call__" ⟨.ref C::vs,kw⟩)) (.call (.ref f) ⟨.ref (s.heap.objs.size+1)::vs,kw⟩) (PySem.W.InitBack (s.heap.objs.size+1) R)
   {s with heap:=(s.heap.push PySem.W.emptyDict).push (PySem.W.instObj C s.heap.objs.size)}) :
  codeAny (model prog w) A (.call (.ref C) ⟨vs,kw⟩) R s:=by
 obtain⟨hh,g,d,t,os⟩:=s;exact PySem.W.make_core (PySem.W.makes_of X hm) (PySem.W.looks_findIn X hi) (λself=>PySem.W.bind_fn X self hf) (.inl rfl) h
end
def putF(f:Str)(v:V):List (Str×V)->List (Str×V)
 |[]=>[(f,v)]
 |(g,x)::r=>if g=f then(g,v)::r else(g,x)::putF f v r
theorem zAy(f g:Str)(v:V):∀fs:List (Str×V),(putF f v fs).lookup g=if g=f then some v else fs.lookup g
 |[]=>by
  show List.lookup g [(f,v)]=_
  by_cases h:g=f
  .have hb:(g==f)=true:=qA7.mpr h;simp only[List.lookup,hb,qAC h]
  .have hb:(g==f)=false:=qA0.mpr h;simp only[List.lookup,hb,qAB h]
 |(k,x)::r=>by
  have ih:=zAy f g v r;rw[show putF f v ((k,x)::r)=(if k=f then(k,v)::r else(k,x)::putF f v r)from rfl]
  by_cases hk:k=f
  .rw [qAC hk]
   by_cases h:g=k
   .have hb:(g==k)=true:=qA7.mpr h;simp only[List.lookup,hb,qAC (h.trans hk)]
   .have hb:(g==k)=false:=qA0.mpr h;simp only[List.lookup,hb,qAB (λe:g=f=>h (e.trans hk.symm))]
  .rw [qAB hk]
   by_cases h:g=k
   .have hb:(g==k)=true:=qA7.mpr h;simp only[List.lookup,hb,qAB (λe:g=f=>hk (h.symm.trans e))]
   .have hb:(g==k)=false:=qA0.mpr h;simp only[List.lookup,hb];exact ih
theorem zHf(f:Str)(v:V):∀fs:List (Str×V),f∈(putF f v fs).map (·.1)/\∀g,g∈fs.map (·.1)->g∈(putF f v fs).map (·.1)
 |[]=>⟨by simp[putF],λg h=>by simp at h⟩
 |(k,x)::r=>by
  obtain⟨i1,i2⟩:=zHf f v r;rw[show putF f v ((k,x)::r)=(if k=f then(k,v)::r else(k,x)::putF f v r)from rfl]
  by_cases hk:k=f
  .rw [qAC hk];subst hk;exact⟨by simp,λg h=>by simpa using h⟩
  .rw [qAB hk];refine⟨?_,λg h=>?_⟩
   .rw [qAl];exact qAU _ i1
   .rw [qAl]at h ⊢;rcases qAL.mp h with e|e
    .exact qAL.mpr (.inl e)
    .exact qAU _ (i2 g e)
theorem zHe(f:Str)(v:V):∀fs:List (Str×V),(putF f v fs).length<=fs.length+1
 |[]=>by simp[putF]
 |(k,x)::r=>by
  have ih:=zHe f v r;rw[show putF f v ((k,x)::r)=(if k=f then(k,v)::r else(k,x)::putF f v r)from rfl]
  by_cases hk:k=f
  .rw [qAC hk,qAZ,qAZ];lia
  .rw [qAB hk,qAZ,qAZ];lia
theorem RelO.some_of{v:V}{o:Option Value}(r:RelO (some v) o):∃u,o=some u/\RelV v u:=by
 cases o with
 |none=>exact(show False from r).elim
 |some u=>exact⟨u,rfl,r⟩
theorem RelO.none_of{o:Option Value}(r:RelO none o):o=none:=by
 cases o with
 |none=>rfl
 |some u=>exact(show False from r).elim
theorem handed_of(r:RelV v u):PySem.W.handedIn u=true:=by
 cases v with
 |non=>cases (show u=Value.none from r);rfl
 |bl b=>cases (show u=Value.bool b from r);rfl
 |int i=>obtain⟨t,e⟩:=(show∃t,u=Value.int i t from r);cases e;rfl
 |str x=>obtain⟨t,e⟩:=(show∃t,u=Value.str x t from r);cases e;rfl
 |byt b=>obtain⟨t,e⟩:=(show∃t,u=Value.bytes b t from r);cases e;rfl
 |flt b=>obtain⟨t,e⟩:=(show∃t,u=Value.float b t from r);cases e;rfl
 |ref a=>cases (show u=Value.ref a from r);rfl
 |ty n=>cases (show u=Value.type n from r);rfl
section
variable{P:Program}{w:World}{H H':Hp}{h h':Heap}{a C dx:Addr}{fs fs':List (Str×V)}
theorem zFx(hok:HOk P w H h)(e:H a=some (.ins C dx fs)):∃mA,ObjM h a dx C mA/\(∀f,RelO (fs.lookup f) (mA f))/\PySem.Within mA (fs.map (·.1))/\fs.length<=1000/\H dx=some (.own a):=by
 obtain⟨d,z,ne,ob,mA,n,r,q⟩:=(show zAz P w H h a (.ins C dx fs)from hok a _ e);exact⟨mA,⟨ob,n,ne⟩,r,q,z,d⟩
end
structure Cls(K:PySem.W.Frag)(C:Addr):Prop where
 pg:PySem.W.plainGet K C Str.empty=true
 hd:PySem.W.hasDictIn K C=true
 po:PySem.W.plainOver K C=true
 sa:PySem.W.findIn K (.ref C) "__setattr__"=some (some (.builtin "object.__setattr__"))
theorem Cls.get(c:Cls K C)(f:Str):PySem.W.plainGet K C f=true:=c.pg
def zDf(K:PySem.W.Frag)(C:Addr)(f:Str):Prop:=PySem.W.findIn K (.ref C) f=some none
theorem zDf.taker{f:Str}(n:zDf K C f):PySem.W.takerIn K C f=some none:=by
 unfold PySem.W.takerIn;rw[show PySem.W.findIn K (.ref C) f=some none from n];rfl
structure Meth(K:PySem.W.Frag)(C:Addr)(m:Str)(f:Addr):Prop where
 at_:PySem.W.findIn K (.ref C) m=some (some (.ref f))
 fn:PySem.W.isFn K (.ref f)=true
 kp:PySem.W.keepIn K (.ref f)=true
section
variable{X:Cx}{pins:List (Addr×Obj)}{σ:St}{H:Hp}{s:Shared}{a C dx:Addr}{fs:List (Str×V)}{f:Str}{v:V}{A:Around}{E:Value->Shared->Prop}
theorem getattr_ok{b:Bool}{Q:Value->Shared->Prop}(I:Inv X pins σ H s)(e:H a=some (.ins C dx fs))(c:Cls X.K C)(n:zDf X.K C f)(l:fs.lookup f=some v)
  (h:∀u s',Inv X pins σ H s'->RelV v u->Q u s'):wpAny (model X.prog X.w) A (getAttr (.ref a) f b) Q E s:=by
 obtain⟨mA,O,r,_,_,_⟩:=zFx I.hok e;obtain⟨u,hu,ru⟩:=RelO.some_of (v:=v) (o:=mA f) (by rw[<-l];exact r f);exact get_map I.kIn O (c.get f) c.hd n hu (handed_of ru) (h u _ (I.tok _) ru)
theorem zIc{m:Str}{g:Addr}{pl:Sem Bool}{Q:Value×List Value->Shared->Prop}(I:Inv X pins σ H s)(e:H a=some (.ins C dx fs))(c:Cls X.K C)(k:Meth X.K C m g)(l:fs.lookup m=none)
  (h:Q (.ref g,[.ref a]) s):wpAny (model X.prog X.w) A (getMethod (.ref a) m pl) Q E s:=by
 obtain⟨mA,O,r,_,_,_⟩:=zFx I.hok e;have hn:mA m=none:=RelO.none_of (by rw[<-l];exact r m);exact get_meth I.kIn O (c.get m) k.at_ k.fn hn h
theorem setattr_ok{Q:Unit->Shared->Prop}(I:Inv X pins σ H s)(e:H a=some (.ins C dx fs))(c:Cls X.K C)(n:zDf X.K C f)(hl:fs.length<1000)(ry:RelV y u)
  (h:∀s',Inv X pins σ (upd H a (.ins C dx (putF f y fs))) s'->Q () s'):wpAny (model X.prog X.w) A (setAttr (.ref a) f u) Q E s:=by
 obtain⟨mA,O,r,wi,_,ho⟩:=zFx I.hok e;have hz:(fs.map (·.1)).length<=sizeLine:=by rw[qAE,qAS];lia
 refine set_map I.kIn O c.sa c.po n.taker c.hd wi hz λh' O' sb=>h _ ?_;have hd:∃o,h'.get? dx=some o:=let⟨o,_,_,e',_⟩:=O'.ns;⟨o,e'⟩;refine I.write (x:=a) (e:=dx) (by rw[e];exact True.intro) (.inr ho) (λb q hb z=>(sb.2 b hb).trans z) hd ?_;refine⟨by rw[upd_ne O.ne];exact ho,?_,O.ne,O'.obj,_,O'.ns,λg=>?_,λg hg=>?_⟩
 .have:=zHe f y fs;lia
 .show RelO ((putF f y fs).lookup g) (if g=f then some u else mA g);rw[zAy]
  by_cases q:g=f
  .rw [qAC q,qAC q];exact ry
  .rw [qAB q,qAB q];exact r g
 .by_cases q:g=f
  .rw [q];exact(zHf f y fs).1
  .refine (zHf f y fs).2 g (wi g λz=>hg ?_);show(if g=f then some u else mA g)=none;rw[qAB q];exact z
theorem Inv.made(I:Inv X pins σ H s):Inv X pins σ (upd (upd H s.heap.objs.size (.own (s.heap.objs.size+1))) (s.heap.objs.size+1) (.ins C s.heap.objs.size []))
  {s with heap:=(s.heap.push PySem.W.emptyDict).push (PySem.W.instObj C s.heap.objs.size)}:=by
 have e1:(s.heap.push PySem.W.emptyDict).get? s.heap.objs.size=some PySem.W.emptyDict:=qAc s.heap rfl
 have e2:((s.heap.push PySem.W.emptyDict).push (PySem.W.instObj C s.heap.objs.size)).get? (s.heap.objs.size+1)=some (PySem.W.instObj C s.heap.objs.size):=by
  have:=qAc (s.heap.push PySem.W.emptyDict) (o:=PySem.W.instObj C s.heap.objs.size) rfl
  rwa [qBU]at this
 have e3:(s.heap.push PySem.W.emptyDict).Ns s.heap.objs.size (λ_=>none):=⟨PySem.W.emptyDict,#[],_,e1,rfl,(λe he=>absurd he (by simp)),λ_=>rfl⟩;have I1:=I.laid (a:=s.heap.objs.size) (o:=.own (s.heap.objs.size+1)) (h':=s.heap.push PySem.W.emptyDict) (t':=s.toks) (λb u q=>qAI _ q) (qAG _) ⟨_,e1⟩;refine I1.laid (a:=s.heap.objs.size+1) (o:=.ins C s.heap.objs.size []) (t':=s.toks) (λb u q=>qAI _ q) (qCE (qBU _ _)) ?_;have ne:s.heap.objs.size≠s.heap.objs.size+1:=qAR (qCF _);refine⟨by rw[upd_ne ne,upd_same],qAe _,ne,e2,λ_=>none,(Heap.Ns1.of_empty e3).at λo q=>qAI _ q,λ_=>True.intro,λy hy=>absurd rfl hy⟩
theorem attr_of{prog:Program}{env:Env}{f:Str}{Q:Value->Shared->Prop}(hb:attributeBase e f env (eval e env)=eval e env)
  (h:wpAny (model prog w) A (eval e env) (λo s₁=>wpAny (model prog w) A (getAttr o f true) Q E s₁) E s):wpAny (model prog w) A (eval (.Attribute e f pos) env) Q E s :=
 Attribute_any_ h (by rw[arm_eval_Attribute,hb])
end
def tFld(K:PySem.W.Frag)(ta:TE)(f:Str):TE:=λσ H Q=>ta σ H λx H1=>∃a C dx fs v,x= .ref a/\H1 a=some (.ins C dx fs)/\Cls K C/\zDf K C f/\fs.lookup f=some v/\Q v H1
def sFld(K:PySem.W.Frag)(ta tv:TE)(f:Str):TS:=λD σ H=>tv σ H λy H1=>ta σ H1 λx H2=>∃a C dx fs,x= .ref a/\H2 a=some (.ins C dx fs)/\Cls K C/\zDf K C f/\fs.length<1000 /\
 D.nx σ (upd H2 a (.ins C dx (putF f y fs)))
section
variable{X:Cx}{o e value:Expr}{f:Str}{pos pos' tpos:Pos}{ta tv:TE}
theorem zFb(he:PE X e ta)(hb:attributeBase e f X.env (eval e X.env)=eval e X.env):PE X (.Attribute e f pos) (tFld X.K ta f):=by
 intro pins s σ H Q I h;refine attr_of hb (thn (he pins s σ H _ I h) λu s1 ⟨x,H1,I1,rx,a,C,dx,fs,v,ex,ea,c,n,l,q⟩=>?_);subst ex;obtain rfl:u=Value.ref a:=rx;exact getattr_ok I1 ea c n l λu' s2 I2 ru=>⟨v,H1,I2,ru,q⟩
theorem ps_fld(ha:PE X o ta)(hv:PE X value tv)(hs:swapsWith value (some (.Attribute o f pos')) pos.line X.env=pure false):PS X (.Assign [.Attribute o f pos'] value pos) (sFld X.K ta tv f):=by
 intro pins s σ H D I h;refine plainObj_wpAny_Assign_Attribute (thn (hv pins s σ H _ I h) λu s1 ⟨y,H1,I1,ry,q⟩=>thn (ha pins s1 σ H1 _ I1 q) λov s2 ⟨x,H2,I2,rx,a,C,dx,fs,ex,ea,c,n,l,q2⟩=>?_) hs;subst ex;obtain rfl:ov=Value.ref a:=rx;exact setattr_ok I2 ea c n l ry λs3 I3=>⟨σ,_,I3,q2⟩
end
section
variable{X:Cx}{pins:List (Addr×Obj)}{σ:St}{H:Hp}{s:Shared}{A:Around}{E:Value->Shared->Prop}{Q:Value->Shared->Prop}{c:Value}{b:Bool}
inductive TyOf(K:PySem.W.Frag)(H:Hp):V->Value->Prop where
 |non:TyOf K H .non (.type "NoneType")
 |bl (x:Bool):TyOf K H (.bl x) (.type "bool")
 |int (i:Int):TyOf K H (.int i) (.type "int")
 |str (x:Str):TyOf K H (.str x) (.type "str")
 |flt (x:UInt64):TyOf K H (.flt x) (.type "float")
 |lst {a:Addr} {xs:List V} (e:H a=some (.lst xs)):TyOf K H (.ref a) (.type "list")
 |frz {a:Addr} {o:Obj} {xs:List V} (e:H a=some (.frz o (.lst xs))):TyOf K H (.ref a) (.type "list")
 |tup {a:Addr} {xs:List V} (e:H a=some (.tup xs)):TyOf K H (.ref a) (.type "tuple")
 |dK {a:Addr} {kvs:List (Key×V)} (e:H a=some (.dK kvs)):TyOf K H (.ref a) (.type "dict")
 |dT {a:Addr} {kvs:List (List Key×V)} (e:H a=some (.dT kvs)):TyOf K H (.ref a) (.type "dict")
 |ins {a C dx:Addr} {fs:List (Str×V)} (e:H a=some (.ins C dx fs)) (cl:Cls K C) (ha:PySem.W.findIn K (.ref C) "__class__"=some (some (.builtin "object.__class__")))
   (hn:PySem.W.specialIn K (.builtin "object.__class__") "__get__"=some (some (.builtin "getset_descriptor.__get__"))) (htk:PySem.W.takesIn K (.builtin "object.__class__")=some true)
   (hm:PySem.W.mroIn K C (.type "object")=some true):TyOf K H (.ref a) (.ref C)
theorem isinst_ok{x:V}{t:Value}(I:Inv X pins σ H s)(rx:RelV x u)(ty:TyOf X.K H x t)(e:PySem.W.kitOne X.K t c=some b)(h:∀tk,Q (.bool b) {s with toks:=tk}) :
  wpAny (model X.prog X.w) A (call (.builtin "isinstance") [u,c]) Q E s:=by
 cases ty with
 |non=>cases (show u=Value.none from rx);exact qBB PySem.W.kitx_none I.kIn True.intro e (λz=>nomatch z) h
 |bl y=>cases (show u=Value.bool y from rx);exact qBB PySem.W.kitx_bool I.kIn True.intro e (λz=>nomatch z) h
 |int i=>obtain⟨t,q⟩:=(show∃t,u=Value.int i t from rx);cases q;exact qBB PySem.W.kitx_int I.kIn True.intro e (λz=>nomatch z) h
 |str y=>obtain⟨t,q⟩:=(show∃t,u=Value.str y t from rx);cases q;exact qBB PySem.W.kitx_str I.kIn True.intro e (λz=>nomatch z) h
 |flt y=>obtain⟨t,q⟩:=(show∃t,u=Value.float y t from rx);cases q;exact qBB PySem.W.kitx_float I.kIn True.intro e (λz=>nomatch z) h
 |@lst a xs ea=>
  cases (show u=Value.ref a from rx)
  obtain⟨_,_,n,_,h1⟩:=(show zAz X.prog X.w H s.heap a (.lst xs)from I.hok a _ ea);exact qBB PySem.W.kitx_list I.kIn ⟨_,h1,rfl⟩ e (λz=>nomatch z) h
 |@frz a ob xs ea=>
  cases (show u=Value.ref a from rx)
  obtain⟨_,_,_,n,_,h1⟩:=(show zAz X.prog X.w H s.heap a (.frz ob (.lst xs))from I.hok a _ ea);exact qBB PySem.W.kitx_list I.kIn ⟨_,h1,rfl⟩ e (λz=>nomatch z) h
 |@tup a xs ea=>
  cases (show u=Value.ref a from rx)
  obtain⟨_,_,_,p⟩:=(show zAz X.prog X.w H s.heap a (.tup xs)from I.hok a _ ea);obtain⟨o,h1,h2,_⟩:=p;exact qBB PySem.W.kitx_tuple I.kIn ⟨o,h1,h2⟩ e (λz=>nomatch z) h
 |@dK a kvs ea=>
  cases (show u=Value.ref a from rx)
  obtain⟨_,_,vs,_,p⟩:=(show zAz X.prog X.w H s.heap a (.dK kvs)from I.hok a _ ea);obtain⟨o,es,ep,h1,h2,_⟩:=p;exact qBB PySem.W.kitx_dict I.kIn ⟨o,h1,h2.1⟩ e (λz=>nomatch z) h
 |@dT a kvs ea=>
  cases (show u=Value.ref a from rx)
  obtain⟨_,_,xs,_,o,es,ep,h1,h2,_⟩:=(show zAz X.prog X.w H s.heap a (.dT kvs)from I.hok a _ ea);exact qBB PySem.W.kitx_dict I.kIn ⟨o,h1,h2.1⟩ e (λz=>nomatch z) h
 |@ins a C dx fs ea cl ha hn htk hm=>
  cases (show u=Value.ref a from rx)
  obtain⟨mA,O,_⟩:=zFx I.hok ea;obtain⟨od,J,_⟩:=O.look;exact qBB (PySem.W.kitx_own (cl.get _) cl.hd ha hn htk hm) I.kIn J e (λz=>nomatch z) h
end
structure Room(k:Nat)(A:Around):Prop where
 hd:A.handled=none
 dp:A.depth+3*k+5<recursionLimit
 un:A.units+16*k+200<cLine
 gd:A.guards=some []
theorem Room.mono{j k:Nat}(r:Room k A)(h:j<=k):Room j A:=⟨r.hd,by have:=r.dp;lia,by have:=r.un;lia,r.gd⟩
theorem Room.deeper{k:Nat}(r:Room (k+1) A)(env:Env):Room k (A.deeper env) :=
 ⟨r.hd,by have:=r.dp;show A.depth+1+3*k+5<_;lia,by have:=r.un;show A.units+3+16*k+200<_;lia,r.gd⟩
theorem make_depth{kw:List (Str×Value)}:(A.under (.builtin "type.__call__" ⟨.ref C::us,kw⟩)).depth=A.depth+1:=by
 first|rfl|simp[Around.under,Code.weight,Code.isCreation,Code.isGuard,Code.isCaller,Code.frames,Code.isFrame,guardIds]
theorem make_units{kw:List (Str×Value)}:(A.under (.builtin "type.__call__" ⟨.ref C::us,kw⟩)).units=A.units+1:=by
 first|rfl|simp[Around.under,Code.cUnits,Code.frames,Code.isFrame]
theorem Room.make{k:Nat}(r:Room (k+1) A)(C:Addr)(us:List Value)(kw:List (Str×Value)):Room k (A.under (.builtin "type.__call__" ⟨.ref C::us,kw⟩)) :=
 ⟨r.hd,by have:=r.dp;rw[make_depth];lia,by have:=r.un;rw[make_units];lia,(by unfold Around.under;dsimp only;rw[r.gd];rfl)⟩
theorem Room.depth{k:Nat}(r:Room k A):A.depth<recursionLimit:=by have:=r.dp;lia
theorem Room.units{k:Nat}(r:Room k A):A.units+64<cLine:=by have:=r.un;lia
theorem Room.units0{k:Nat}(r:Room k A):A.units<cLine:=by have:=r.un;lia
def tNil:TA:=λ_ H Q=>Q [] H
def tCons(ta:TE)(tr:TA):TA:=λσ H Q=>ta σ H λx H1=>tr σ H1 λxs H2=>Q (x::xs) H2
section
variable{X:Cx}{e:Expr}{es:List Expr}{te:TE}{t:TA}{pos:Pos}
theorem zAb:PA X [] tNil:=λ_ _ _ _ H Q I h=>Calls.spliced_nil ⟨[],H,I,.nil,h⟩
theorem zAa(ha:PE X e te)(hr:PA X es t)(hs:starEach (e::es) X.env=(false,eval e X.env)::starEach es X.env:=by rfl):PA X (e::es) (tCons te t):=by
 intro pos pins s σ H Q I h;rw[hs];show wpAny _ _ (spliced ((false,eval e X.env)::backTo pos (starEach es X.env))) _ _ s;refine Calls.spliced_cons (thn (ha pins s σ H _ I h) λu s1 ⟨x,H1,I1,r1,q1⟩=>?_);exact thn (hr pos pins s1 σ H1 _ I1 q1) λus s2 ⟨xs,H2,I2,r2,q2⟩=>⟨x::xs,H2,I2,.cons r1 r2,q2⟩
def tTup(t:TA):TE:=λσ H Q=>t σ H λxs H1=>xs.length<=sizeLine/\∀p,H1 p=none->Q (.ref p) (upd H1 p (.tup xs))
def tLst(t:TA):TE:=λσ H Q=>t σ H λxs H1=>xs.length<=sizeLine/\∀p,H1 p=none->Q (.ref p) (upd H1 p (.lst xs))
theorem zBg{x1}(h:PA X es t):PE X (.Tuple es x1 pos) (tTup t):=by
 intro pins s σ H Q I hq;refine wpAny_Tuple_spliced (thn (h pos pins s σ H _ I hq) λus s1 ⟨xs,H1,I1,r,z,q⟩=>⟨by rw[<-r.length];exact z,?_⟩);have hf:H1 s1.heap.objs.size=none:=I1.hok.fresh (qAG _);refine⟨.ref s1.heap.objs.size,upd H1 s1.heap.objs.size (.tup xs),I1.laid (t':=s1.toks) (λb u e=>qAI _ e) (qAG _) ?_,rfl,q _ hf⟩;exact⟨z,us,r,⟨_,qAc _ rfl,rfl,_,rfl⟩⟩
theorem zAt(h:PA X es t):PE X (.List es pos) (tLst t):=by
 intro pins s σ H Q I hq;refine wpAny_List_spliced (thn (h pos pins s σ H _ I hq) λus s1 ⟨xs,H1,I1,r,z,q⟩=>⟨by rw[<-r.length];exact z,?_⟩);have hf:H1 s1.heap.objs.size=none:=I1.hok.fresh (qAG _);refine⟨.ref s1.heap.objs.size,upd H1 s1.heap.objs.size (.lst xs),I1.laid (t':=s1.toks) (λb u e=>qAI _ e) (qAG _) ?_,rfl,q _ hf⟩;exact⟨z,us,0,r,qAc _ rfl⟩
end
abbrev Sp:=List V->Hp->VK->XK->Prop
abbrev CXT:=List Env->Hp->Shared->XK->Value->Shared->Prop
structure Env0(P:Program)(w:World)(K:PySem.W.Frag)(mg:Str->Option Value)(base:Heap)(A:Around)(outer:List Env)(s:Shared)(H:Hp):Prop where
 frames:A.frames=some outer
 mod:Mod K mg base
 bs:∀b o,base.get? b=some o->s.heap.get? b=some o/\H b=none
 bsz:base.objs.size<=s.heap.objs.size
 funs:s.heap.FunFrames base outer
 frf:∀b∈frs outer,H b=none
 hok:HOk P w H s.heap
 bare:AllBare s.gens
def CE(outer:List Env)(P:Program)(w:World)(H:Hp)(s:Shared)(Q:VK)(u:Value)(s':Shared):Prop :=
 ∃v H',s'.os=s.os/\AllBare s'.gens/\Un (frs outer) [] H H' s.heap s'.heap/\HOk P w H' s'.heap/\RelV v u/\Q v H'
def CR(CX:CXT)(outer:List Env)(P:Program)(w:World)(H:Hp)(s:Shared)(Q:VK)(E:XK)(r:Result)(s':Shared):Prop :=
 match r with
 | .ok (.ret u)=>CE outer P w H s Q u s'
 | .ok _=>False
 | .error e=>CX outer H s E e s'
structure FnOk(P:Program)(w:World)(K:PySem.W.Frag)(mg:Str->Option Value)(base:Heap)(CX:CXT)(k:Nat)(f:Addr)(fd:FuncData)(ps:List Str)(sp:Sp):Prop where
 len:∀vs H Q E,sp vs H Q E->vs.length=ps.length
 run:∀(A:Around)(outer:List Env)(s:Shared)(H:Hp)(args:Args)(us:List Value)(vs:List V)(Q:VK)(E:XK),Room k A->Env0 P w K mg base A outer s H->BindsTo s fd args (ps.zip us)->Vals vs us->sp vs H Q E ->
  codeAny (model P w) A (.call (.ref f) args) (CR CX outer P w H s Q E) s
theorem Env0.make{mg:Str->Option Value}{outer:List Env}(e:Env0 P w K mg base A outer s H)(C:Addr)(us:List Value)(kw:List (Str×Value)) :
  Env0 P w K mg base (A.under (.builtin "type.__call__" ⟨.ref C::us,kw⟩)) outer s H:=⟨by first|exact e.frames|(simpa[Around.under,Code.envs,Code.isFrame,pushEnvs]using e.frames),e.mod,e.bs,e.bsz,e.funs,e.frf,e.hok,e.bare⟩
section
variable{X:Cx}{pins:List (Addr×Obj)}{σ:St}{H:Hp}{s s':Shared}
theorem Inv.env0(I:Inv X pins σ H s):Env0 X.prog X.w X.K X.mg X.base X.A X.stack s H :=
 ⟨I.ok.frames,I.ok.mod,I.bs,qAf I.ok.bsz I.sz,I.stack,I.stkFree,I.hok,I.bare⟩
theorem Inv.after{Q:VK}(I:Inv X pins σ H s)(h:CE X.stack X.prog X.w H s Q u s'):EP X pins σ Q u s':=by
 obtain⟨v,H',os,bare,un,hok,r,q⟩:=h;obtain⟨hh,g,d,t,os'⟩:=s';obtain rfl:os'=s.os:=os;exact⟨v,H',I.call (h':=hh) (g':=g) (d':=d) (t':=t) (ch:=[]) un hok bare (λb z=>absurd z (by simp)),r,q⟩
end
def tCall(sp:Sp)(dvs:List V)(E:XK)(t:TA):TE:=λσ H Q=>t σ H λvs H1=>sp (vs++dvs) H1 Q E
def tMeth(C:Addr)(m:Str)(sp:Sp)(dvs:List V)(E:XK)(ta:TE)(t:TA):TE:=λσ H Q=>ta σ H λx H1=>∃a dx fs,x= .ref a/\H1 a=some (.ins C dx fs)/\fs.lookup m=none /\
 t σ H1 λvs H2=>sp (x::(vs++dvs)) H2 Q E
def zCe(K:PySem.W.Frag)(fd:FuncData)(ps:List Str)(ds:List Value):Prop :=
 ∀(s:Shared)(us:List Value),K.In s.heap->(us++ds).length=ps.length->BindsTo s fd ⟨us,[]⟩ (ps.zip (us++ds))
theorem zCe.all{fd:FuncData}{ps:List Str}(h:∀us:List Value,us.length=ps.length->bindArgs fd ⟨us,[]⟩=pure (ps.zip us)):zCe K fd ps []:=λs us _ hl=>by
 rw[qAu]at hl ⊢;exact .of_eq (h us hl)
def zHo(CX:CXT)(X:Cx)(E:XK):Prop:=∀(pins:List (Addr×Obj)) (σ:St) (H:Hp) (s:Shared) (e:Value) (s':Shared),Inv X pins σ H s->CX X.stack H s E e s'->X.xe e s'
section
variable{X:Cx}{CX:CXT}{k:Nat}{f C:Addr}{fd:FuncData}{ps:List Str}{sp:Sp}{dvs:List V}{ds:List Value}{E:XK}{x m:Str}{p pos apos:Pos}{e o:Expr}{es:List Expr}{ta:TE}{t:TA}
theorem run_fn{Q:VK}{us:List Value}{vs:List V}(F:FnOk X.prog X.w X.K X.mg X.base CX k f fd ps sp)(hr:Room k X.A)(hb:zCe X.K fd ps ds)(hd:Vals dvs ds)(hx:zHo CX X E)
  (I:Inv X pins σ H s) (r:Vals vs us) (h:sp (vs++dvs) H Q E):wpAny (model X.prog X.w) X.A (call (.ref f) us) (EP X pins σ Q) X.xe s:=by
 have r2:Vals (vs++dvs) (us++ds):=r.append hd;have hl:(us++ds).length=ps.length:=by rw[<-r2.length];exact F.len _ _ _ _ h
 refine qBI (qBV (F.run X.A X.stack s H ⟨us,[]⟩ (us++ds) (vs++dvs) Q E hr I.env0 (hb s us I.kIn hl) r2 h) λr s' hq=>?_)
 cases r with
 |error e=>exact hx pins σ H s e s' I hq
 |ok fl=>
  cases fl with
  |ret u=>exact I.after hq
  |next=>exact False.elim hq
  |brk=>exact False.elim hq
  |cont=>exact False.elim hq
theorem pe_call(F:FnOk X.prog X.w X.K X.mg X.base CX k f fd ps sp)(hr:Room k X.A)(hg:Gl X x)(hm:X.mg x=some (.ref f))(hk:PySem.W.keepIn X.K (.ref f)=true)(hb:zCe X.K fd ps ds)(hd:Vals dvs ds)(hx:zHo CX X E)
  (ha:PA X (e::es) t) (hdb:(x==("__debug__": Str))=false:=by decide) (he:starEach (e::es) X.env=(false,eval e X.env)::starEach es X.env:=by rfl) (hpl:(backTo pos (starEach es X.env)).any (·.1)=false:=by rfl) :
  PE X (.Call (.Name x p) (e::es) [] pos) (tCall sp dvs E t):=by
 intro pins s σ H Q I h;refine qBa (zC2 I hg hm ?_ hdb);refine PySem.W.callWith_K (h₀:=X.base) I.ok.mod.kin hk (thn (ha pos pins s σ H _ I h) λus s1 ⟨vs,H1,I1,r,q⟩=>⟨I1.kIn,?_⟩) he hpl;exact run_fn F hr hb hd hx I1 r q
theorem pe_call0(F:FnOk X.prog X.w X.K X.mg X.base CX k f fd ps sp)(hr:Room k X.A)(hg:Gl X x)(hm:X.mg x=some (.ref f))(hk:PySem.W.keepIn X.K (.ref f)=true)(hb:zCe X.K fd ps ds)(hd:Vals dvs ds)(hx:zHo CX X E)
  (hdb:(x==("__debug__": Str))=false:=by decide):PE X (.Call (.Name x p) [] [] pos) (tCall sp dvs E tNil):=by
 intro pins s σ H Q I h;refine qBa (zC2 I hg hm ?_ hdb);exact PySem.W.callWith_K0 I.kIn hk (run_fn (us:=[]) F hr hb hd hx I .nil h)
theorem pe_meth0{pl:Sem Bool}(he:PE X o ta)(c:Cls X.K C)(hm:Meth X.K C m f)(F:FnOk X.prog X.w X.K X.mg X.base CX k f fd ps sp)(hr:Room k X.A)(hb:zCe X.K fd ps ds)(hd:Vals dvs ds)(hx:zHo CX X E)
  (ht:eval (.Call (.Attribute o m apos) [] [] pos) X.env=(do
   let ov<-eval o X.env
   standAt apos.atName
   let(f,first)<-holding [ov] (getMethod ov m pl)
   callWith pos f first (backTo pos (starEach [] X.env)) (backToKw pos (keywordEach [] X.env))):=by rfl) :
  PE X (.Call (.Attribute o m apos) [] [] pos) (tMeth C m sp dvs E ta tNil):=by
 intro pins s σ H Q I h;refine PySem.W.methodCall_KW (pl:=pl) (thn (he pins s σ H _ I h) λu s1 ⟨x,H1,I1,rx,a,dx,fs,ex,ea,l,q⟩=>?_) ht;subst ex;obtain rfl:u=Value.ref a:=rx;refine zIc I1 ea c hm l ?_;exact PySem.W.callWith_K0 (first:=[.ref a]) I1.kIn hm.kp (run_fn (us:=[.ref a]) (vs:=[.ref a]) F hr hb hd hx I1 (.cons rfl .nil) q)
structure Mk(K:PySem.W.Frag)(C f:Addr):Prop where
 makes:PySem.W.makesIn K C=true
 init:PySem.W.findIn K (.ref C) "__init__"=some (some (.ref f))
 fn:PySem.W.isFn K (.ref f)=true
 kp:PySem.W.keepIn K (.ref C)=true
end
section
variable{X:Cx}{CX:CXT}{k:Nat}{f C:Addr}{fd:FuncData}{ps ks:List Str}{sp:Sp}{E:XK}{x m:Str}{p pos apos kpos:Pos}{e o:Expr}{es:List Expr}{kws:List Keyword}{te ta:TE}{t tk:TA}{nm:Option Str}
variable{g:List Value->List Value->List Value}{gV:List V->List V->List V}
end
structure FnScope(N P:List Str)(sc:Scope):Prop where
 kind:sc.kind= .function
 co:sc.isCoroutine=false
 gen:sc.isGenerator=false
 nd:N.Nodup
 pre:N.take P.length=P
 par:∀x∈P,sc.names.lookup x=some .local\/sc.names.lookup x=some .cell
 nofree:∀y∈sc.names,y.2≠.free
theorem bindL_out{kindOf:Str->Option NameKind} :∀{binds:List (Str×Value)} {m:Str->Option Value},(∀v,(x,v)∉binds)->bindL kindOf binds m x=m x
 |[],_,_=>rfl
 |(n,v)::r,m,h=>by
  unfold bindL;rw[bindL_out λw hw=>h w (qAU _ hw)];split
  .have:x≠n:=by rintro rfl;exact h v qAX
   simp[this]
  .rfl
theorem bindC_out{kindOf:Str->Option NameKind} :∀{binds:List (Str×Value)} {m:Str->Option Value},(∀v,(x,v)∉binds)->bindC kindOf binds m x=m x
 |[],_,_=>rfl
 |(n,v)::r,m,h=>by
  unfold bindC;rw[bindC_out λw hw=>h w (qAU _ hw)];split
  .rfl
  .have:x≠n:=by rintro rfl;exact h v qAX
   simp[this]
theorem bindL_get{kindOf:Str->Option NameKind}{v:Value}:∀{P:List Str}{vs:List Value}{i:Nat}{m:Str->Option Value},P.Nodup->P[i]?=some x->vs[i]?=some v->kindOf x=some .local ->
  bindL kindOf (P.zip vs) m x=some v
 |[],_,_,_,_,h,_,_=>by simp at h
 |_::_,[],_,_,_,_,h,_=>by simp at h
 |p::P,w::vs,0,m,nd,h1,h2,hk=>by
  simp at h1 h2;subst h1;subst h2;show bindL kindOf ((p,w)::P.zip vs) m p=_;unfold bindL;rw[bindL_out λv hv=>(qBJ.mp nd).1 (List.of_mem_zip hv).1,qAC hk];simp
 |p::P,w::vs,i+1,m,nd,h1,h2,hk=>by
  show bindL kindOf ((p,w)::P.zip vs) m x=_;unfold bindL;exact bindL_get (i:=i) (qBJ.mp nd).2 (by simpa using h1) (by simpa using h2) hk
theorem bindC_get{kindOf:Str->Option NameKind}{v:Value}:∀{P:List Str}{vs:List Value}{i:Nat}{m:Str->Option Value},P.Nodup->P[i]?=some x->vs[i]?=some v->kindOf x≠some .local ->
  bindC kindOf (P.zip vs) m x=some v
 |[],_,_,_,_,h,_,_=>by simp at h
 |_::_,[],_,_,_,_,h,_=>by simp at h
 |p::P,w::vs,0,m,nd,h1,h2,hk=>by
  simp at h1 h2;subst h1;subst h2;show bindC kindOf ((p,w)::P.zip vs) m p=_;unfold bindC;rw[bindC_out λv hv=>(qBJ.mp nd).1 (List.of_mem_zip hv).1,qAB hk];simp
 |p::P,w::vs,i+1,m,nd,h1,h2,hk=>by
  show bindC kindOf ((p,w)::P.zip vs) m x=_;unfold bindC;exact bindC_get (i:=i) (qBJ.mp nd).2 (by simpa using h1) (by simpa using h2) hk
def zHq(N:List Str)(vs:List V):St:=vs.map some++List.replicate (N.length-vs.length) none
def cxOf(CX:CXT)(P:Program)(w:World)(K:PySem.W.Frag)(mg:Str->Option Value)(base:Heap)(N:List Str)(qual:Str)(scope:Scope)(f:Addr)(cd:Value)(A:Around)(outer:List Env)(s:Shared)(H:Hp)(E:XK):Cx where
 prog:=P
 w:=w
 K:=K
 mg:=mg
 base:=base
 A:=A.deeper (envOfC qual scope s.heap.objs.size f cd)
 N:=N
 s₀:=s
 H₀:=H
 env:=envOfC qual scope s.heap.objs.size f cd
 outer:=outer
 stack:=envOfC qual scope s.heap.objs.size f cd::outer
 ex:=[]
 calm:=true
 fn:=λ_=>true
 pn:=[]
 xe:=λe s'=>wpAny (model P w) (A.deeper (envOfC qual scope s.heap.objs.size f cd)) (leaving (envOfC qual scope s.heap.objs.size f cd) e) (λ_ s''=>CX outer H s E e s'') (λe' s''=>CX outer H s E e' s'') s'
theorem cell_has{sc:Scope}{n:Nat}(h:sc.names.lookup x=some .cell):∃c,(cellsFrom n sc.names []).lookup x=some c:=by
 have q:=qDO sc.names n [] (.inl h);exact Option.isSome_iff_exists.mp q
theorem inv_start{CX:CXT}{mg:Str->Option Value}{N ps:List Str}{qual:Str}{scope:Scope}{f:Addr}{cd:Value}{outer:List Env}{s1:Shared}{E:XK}{vs:List V}
  (S:FnScope N ps scope) (hd:A.handled=none) (e0:Env0 P w K mg base A outer s H) (hl:vs.length=ps.length) (r:Vals vs us)
  (x:InCallC s s.heap.objs.size (bindL (envOfC qual scope s.heap.objs.size f cd).kindOf (ps.zip us) λ_=>none) (cellsFrom (s.heap.objs.size+1) scope.names []) (bindC (envOfC qual scope s.heap.objs.size f cd).kindOf (ps.zip us) λ_=>none) s1) :
  Inv (cxOf CX P w K mg base N qual scope f cd A outer s H E) [] (zHq N vs) H s1:=by
 have hpl:ps.length<=N.length:=by have:=qAj List.length S.pre;rw[qAd]at this;lia
 obtain⟨h1,tk,rfl,hk⟩:=x.done;have noA:∀b:Addr,b∉(cxOf CX P w K mg base N qual scope f cd A outer s H E).ex:=λb z=>absurd (show b∈([]:List Addr)from z) (by simp)
 refine⟨⟨e0.mod,S.kind,rfl,rfl,qAG _,λy z c h1 h2=>?_,λy hy=>?_,λy c _ h=>?_,λ_=>hd,Around.frames_deeper e0.frames,.inr ⟨rfl,rfl⟩,λb z=>absurd z (noA b),e0.bs,e0.bsz,λb _ _=>noA b,λb z=>absurd z (noA b),e0.funs,e0.frf⟩,rfl,e0.bare,Un.kept hk,⟨_,x.toInCall.ns,λi y v h1 h2 h3=>?_⟩,λy c h=>⟨_,x.cell y c h⟩,e0.hok.fresh (qAG _),λy c h=>?_,λp hp=>absurd (show p∈([]:List (Addr×Obj))from hp) (by simp),e0.hok.kept hk,?_⟩
 .exact name_of_addr x.apart (qCG h1) (qCG h2)
 .have hy:scope.names.lookup y=some .cell\/scope.names.lookup y=some .free:=hy;rcases hy with hy|hy
  .exact cell_has hy
  .exact absurd rfl (S.nofree _ (qCG hy))
 .exact qBh (x.above y c (qCG h))
 .have hi:i<vs.length:=by
   unfold zHq at h2
   by_cases hi:i<vs.length
   .exact hi
   .rw [qBy (by simpa using hi)]at h2;rw[List.getElem?_replicate]at h2;split at h2<;>cases h2
  have ha:vs[i]?=some v:=by
   unfold zHq at h2;rw[qBC (by simpa using hi),qAN]at h2
   cases e:vs[i]? with
   |none=>rw[e]at h2;cases h2
   |some a=>rw[e]at h2;cases h2;rfl
  obtain⟨u,hu,rv⟩:=r.get ha
  have hp:ps[i]?=some y:=by
   rw[<-S.pre,qC3 (by lia)];exact h1
  have ndP:ps.Nodup:=by rw[<-S.pre];exact S.nd.sublist (List.take_sublist _ _)
  refine⟨u,rv,?_⟩;rcases S.par y (qAT hp)with k|k
  .exact .inl ⟨k,bindL_get ndP hp hu k⟩
  .obtain ⟨c,e⟩:=cell_has (n:=s.heap.objs.size+1) k;refine .inr ⟨.inl k,c,e,?_⟩;have q:=x.cell y c e;rw[bindC_get ndP hp hu (by show scope.names.lookup y≠_;rw[k];decide)]at q;exact q
 .exact e0.hok.fresh (qBh (x.above y c (qCG h)))
 .unfold zHq;show _=N.length;rw[qAm,qAE,List.length_replicate];lia
theorem fn_of{CX:CXT}{mg:Str->Option Value}{k:Nat}{f:Addr}{name qual:Str}{params:Arguments}{body:List Stmt}{scope:Scope}{dV kV doc pm cdv ct oc:Value}{an od:Option Addr}
  {osl:Array (Option Value)} {N ps:List Str} {sp:Sp} (lk:K.lookup f=some ⟨oc,od,.func (PySem.W.fnOf name qual params body scope dV kV doc pm an cdv ct),osl⟩) (hcd:PySem.W.codeIn K cdv qual=true) (S:FnScope N ps scope)
  (len:∀vs H Q E,sp vs H Q E->vs.length=ps.length)
  (hbody:∀(A:Around) (outer:List Env) (s:Shared) (H:Hp) (vs:List V) (Q:VK) (E:XK),Room k (A.deeper (envOfC qual scope s.heap.objs.size f cdv))->sp vs H Q E ->
   ∃t,PSs (cxOf CX P w K mg base N qual scope f cdv A outer s H E) body t/\t {nx:=λ_ H'=>Q .non H',rt:=Q} (zHq N vs) H) :
  FnOk P w K mg base CX (k+1) f (PySem.W.fnOf name qual params body scope dV kV doc pm an cdv ct) ps sp:=by
 refine⟨len,λA outer s H args us vs Q E hr e0 hb r hsp=>?_⟩;have hl:=len _ _ _ _ hsp;have KX:K.In s.heap:=e0.mod.kin.keeps λb o e=>(e0.bs b o e).1;have lim:s.heap.NoLimit:=e0.mod.nolimit.keeps λb o e=>(e0.bs b o e).1
 have hkind:∀y∈ps.zip us,scope.names.lookup y.1=some .local\/(scope.names.lookup y.1=some .cell/\((cellsFrom (s.heap.objs.size+1) scope.names []).lookup y.1).isSome=true):=λ⟨n,v⟩ hy=>by
  rcases S.par n (List.of_mem_zip hy).1 with q|q
  .exact .inl q
  .exact .inr ⟨q,qDO _ _ _ (.inl q)⟩
 refine codeAny_call_function hr.depth (KX _ _ lk) rfl S.co S.gen rfl (PySem.W.codeRec_of KX hcd) (hb _ _ _ _ ?_);refine wpAny_newFunctionEnv_cells S.kind hkind λenv he s1 x=>?_;subst he;refine⟨lim.keeps x.toInCall.keep,codeAny_func ?_⟩;obtain⟨t,ht,hq⟩:=hbody A outer s H vs Q E (hr.deeper _) hsp;have I:Inv (cxOf CX P w K mg base N qual scope f cdv A outer s H E) [] (zHq N vs) H s1:=inv_start S hr.hd e0 hl r x;refine qAs (ht [] s1 (zHq N vs) H _ I hq) (λfl s' hs=>?_) λe s' hs=>hs
 have fin:∀{σ':St}{H':Hp}{v:V}{u:Value},Inv (cxOf CX P w K mg base N qual scope f cdv A outer s H E) [] σ' H' s'->RelV v u->Q v H'->CE outer P w H s Q u s' :=
  λ{σ' H' v u} J rv q=>⟨v,H',J.os,J.bare,J.base,J.hok,rv,q⟩
 cases fl with
 |ret u=>
  obtain⟨v,σ',H',J,rv,q⟩:=hs;exact fin J rv q
 |next=>
  obtain⟨σ',H',J,q⟩:=hs;exact fin (v:=V.non) (u:=Value.none) J rfl q
 |brk=>
  obtain⟨_,_,_,q⟩:=hs;exact False.elim q
 |cont=>
  obtain⟨_,_,_,q⟩:=hs;exact False.elim q
section
variable{X:Cx}{x:Str}{p pos:Pos}{e:Expr}{es:List Expr}{t:TA}{id T:String}{r:List V->Hp->VK->Prop}
def tCB(r:List V->Hp->VK->Prop)(t:TA):TE:=λσ H Q=>t σ H λvs H1=>r vs H1 Q
theorem zAg(hc:zCq X (.builtin id) r)(hg:Gl X x)(hm:X.mg x=none)(hv:bootBuiltins x=some (.builtin id))(ha:PA X (e::es) t)(hn:x≠ "__name__":= by decide)(hdb:(x==("__debug__": Str))=false:=by decide)
  (he:starEach (e::es) X.env=(false,eval e X.env)::starEach es X.env:=by rfl) (hpl:(backTo pos (starEach es X.env)).any (·.1)=false:=by rfl):PE X (.Call (.Name x p) (e::es) [] pos) (tCB r t):=by
 intro pins s σ H Q I h;refine qBa (ld_blt I hg hm hv ?_ hn hdb);exact PyProof.Rows.callWith_builtin1 (thn (ha pos pins s σ H _ I h) λus s1 ⟨vs,H1,I1,r1,q1⟩=>hc pins s1 σ H1 vs us Q I1 r1 q1) he hpl
theorem zA0(hc:zCq X (.type T) r)(hg:Gl X x)(hm:X.mg x=none)(hv:bootBuiltins x=some (.type T))(ha:PA X (e::es) t)(hn:x≠ "__name__":= by decide)(hdb:(x==("__debug__": Str))=false:=by decide)
  (he:starEach (e::es) X.env=(false,eval e X.env)::starEach es X.env:=by rfl) (hpl:(backTo pos (starEach es X.env)).any (·.1)=false:=by rfl):PE X (.Call (.Name x p) (e::es) [] pos) (tCB r t):=by
 intro pins s σ H Q I h;refine qBa (ld_blt I hg hm hv ?_ hn hdb);exact qDM (thn (ha pos pins s σ H _ I h) λus s1 ⟨vs,H1,I1,r1,q1⟩=>hc pins s1 σ H1 vs us Q I1 r1 q1) he hpl
end
end L2
namespace HT
open PySem PyProof.Rows
section
open PySem.SeqAt
open PySem.AutoSeq1 (wpAny_loadPart')
open PySem.MeetsSeq PySem.MeetsSeq2 PySem.MeetsSeq3
end
section
variable{prog:Program}{w:World}{A:Around}{E:Value->Shared->Prop}{s:Shared}
def sIx(n d:Nat):Option Int->Nat
 |none=>d
 |some v=>if v<0 then(v+(n:Int)).toNat else min v.toNat n
theorem sIx_none(n d:Nat):sIx n d none=d:=rfl
theorem sIx_nat(n d k:Nat):sIx n d (some (k:Int))=min k n:=by
 show(if(k:Int)<0 then((k:Int)+(n:Int)).toNat else min (k:Int).toNat n)=min k n;rw[qAB (by lia),qCf]
end
end HT
namespace L2
open PySem PySem.Spec PyProof.Rows
variable{n:Nat}{x:V}
abbrev TO:=St->Hp->(Option Int->Hp->Prop)->Prop
def PO(X:Cx)(e:Option Expr)(t:TO):Prop :=
 ∀(pins:List (Addr×Obj)) (s:Shared) (σ:St) (H:Hp) (Q:Option Int->Hp->Prop),Inv X pins σ H s->t σ H Q ->
  wpAny (model X.prog X.w) X.A (evalPart e X.env) (λu s'=>∃o H',Inv X pins σ H' s'/\IsPart u o/\Q o H') X.xe s
def tNoPart:TO:=λ_ H Q=>Q none H
def tPart(t:TE):TO:=λσ H Q=>t σ H λx H1=>∃i,x= .int i/\Q (some i) H1
section
variable{X:Cx}{e:Expr}{te:TE}{lo hi:Option Expr}{tl th:TO}{pos p2:Pos}
theorem zFv:PO X none tNoPart:=by
 intro pins s σ H Q I h;rw[evalPart_none];exact qAD ⟨none,H,I,.none,h⟩
theorem zFu(h:PE X e te):PO X (some e) (tPart te):=by
 intro pins s σ H Q I hw;rw[evalPart_some];refine thn (h pins s σ H _ I hw) λu s1 ⟨x,H1,I1,r1,q1⟩=>?_;obtain⟨i,rfl,q⟩:=q1;obtain⟨t,rfl⟩:=r1;exact⟨some i,H1,I1,.int i t,q⟩
def SlR(X:Cx)(r:V->Option Int->Option Int->Hp->VK->Prop):Prop :=
 ∀(pins:List (Addr×Obj)) (s:Shared) (σ:St) (H:Hp) (x:V) (v vl vu:Value) (lo hi:Option Int) (sl:Addr) (Q:VK),Inv X pins σ H s->RelV x v->s.heap.IsSliceOf sl vl vu .none->IsPart vl lo->IsPart vu hi->r x lo hi H Q ->
  ∃T id,typeLookup (.type T) "__getitem__"=pure (some (.builtin id))/\s.TypeIs v T/\wpAny (model X.prog X.w) X.A (getItem v (.ref sl)) (EP X pins σ Q) X.xe s
def tSl(r:V->Option Int->Option Int->Hp->VK->Prop)(te:TE)(tl th:TO):TE:=λσ H Q=>te σ H λx H1=>tl σ H1 λl H2=>th σ H2 λu H3=>r x l u H3 Q
theorem zEk{r:V->Option Int->Option Int->Hp->VK->Prop}(hr:SlR X r)(he:PE X e te)(hl:PO X lo tl)(hu:PO X hi th):PE X (.Subscript e (.Slice lo hi none p2) pos) (tSl r te tl th):=by
 intro pins s σ H Q I h;refine Subscript_ (thn (he pins s σ H _ I h) λv s1 ⟨x,H1,I1,r1,q1⟩=>?_);refine wpAny_Slice (thn (hl pins s1 σ H1 _ I1 q1) λvl s2 ⟨l,H2,I2,pl,q2⟩=>thn (hu pins s2 σ H2 _ I2 q2) λvu s3 ⟨u,H3,I3,pu,q3⟩=>?_);rw[evalPart_none];refine qAD ?_;have I4:Inv X pins σ H3 {s3 with heap:=s3.heap.push {cls:=.type "slice",data:=.fields #[vl,vu,.none]}}:=I3.kept (t':=s3.toks) λb ob q=>qAI _ q;obtain⟨T,id,hT,ht,hg⟩:=hr pins {s3 with heap:=s3.heap.push {cls:=.type "slice",data:=.fields #[vl,vu,.none]}} σ H3 x v vl vu l u s3.heap.objs.size Q I4 r1 (Heap.IsSliceOf.new ..) pl pu q3;show wpAny (model X.prog X.w) X.A (subscriptTail e (.Slice lo hi none p2) v (.ref s3.heap.objs.size)) (EP X pins σ Q) X.xe {s3 with heap:=s3.heap.push {cls:=.type "slice",data:=.fields #[vl,vu,.none]}};exact tail_any (ops:=[.ref s3.heap.objs.size,v]) ht hT hg (by with_unfolding_all rfl)
def cutV(xs:List V)(lo hi:Option Int):List V:=(xs.drop (HT.sIx xs.length 0 lo)).take (HT.sIx xs.length xs.length hi-HT.sIx xs.length 0 lo)
theorem cutV_length(xs:List V)(lo hi:Option Int):(cutV xs lo hi).length<=xs.length:=by
 unfold cutV;rw[qAd,qBN];lia
end
def ixN(n:Nat)(i:Int):Option Nat:=if 0<=i then(if i<n then some i.toNat else none)else if -(n:Int)<=i then some (i+n).toNat else none
def atI{α:Type}(xs:List α)(i:Int):Option α:=(ixN xs.length i).bind λj=>xs[j]?
theorem ixN_seq{i:Int}{j:Nat}(h:ixN n i=some j):seqIndex? i n=some j/\j<n/\-(n:Int)<=i/\i<n:=by
 unfold ixN at h
 by_cases h0:0<=i
 .rw [qAC h0]at h
  by_cases h1:i<n
  .rw [qAC h1]at h;have e:i.toNat=j:=qAW h;exact⟨by rw[seqIndex_of h0 h1,e],by lia,by lia,h1⟩
  .rw [qAB h1]at h;cases h
 .rw [qAB h0]at h
  by_cases h1:-(n:Int)<=i
  .rw [qAC h1]at h;have e:(i+n).toNat=j:=qAW h;exact⟨by rw[seqIndex_neg (by lia) h1,e],by lia,h1,by lia⟩
  .rw [qAB h1]at h;cases h
theorem atI_get{α:Type}{xs:List α}{i:Int}{v:α}(h:atI xs i=some v):∃j,seqIndex? i xs.length=some j/\xs[j]?=some v/\j<xs.length/\-(xs.length:Int)<=i/\i<xs.length:=by
 unfold atI at h
 cases e:ixN xs.length i with
 |none=>rw[e]at h;cases h
 |some j=>
  rw[e]at h;obtain⟨h1,h2,h3,h4⟩:=ixN_seq e;exact⟨j,h1,h,h2,h3,h4⟩
def PlainIx(b:Expr):Prop:=∀o i,subscripted b false o i=operate [o,i] (getItem o i)
def IxR(X:Cx)(r:R2):Prop :=
 ∀(value slice:Expr) (pins:List (Addr×Obj)) (s:Shared) (σ:St) (H:Hp) (x y:V) (v u:Value) (Q:VK),Inv X pins σ H s->RelV x v->RelV y u->r x y H Q ->
  subscripted slice false v u=operate [v,u] (getItem v u)->wpAny (model X.prog X.w) X.A (subscriptTail value slice v u) (EP X pins σ Q) X.xe s
def MtR(X:Cx)(id:String)(r:V->List V->Hp->VK->Prop):Prop :=
 ∀(pins:List (Addr×Obj)) (s:Shared) (σ:St) (H:Hp) (x:V) (xs:List V) (v:Value) (us:List Value) (Q:VK),Inv X pins σ H s->RelV x v->Vals xs us->r x xs H Q ->
  wpAny (model X.prog X.w) X.A (call (.builtin id) (v::us)) (EP X pins σ Q) X.xe s
section
variable{X:Cx}{a b:Expr}{ta tb:TE}{pos:Pos}
theorem zBe{r:R2}(hr:IxR X r)(ha:PE X a ta)(hb:PE X b tb)(hs:PlainIx b):PE X (.Subscript a b pos) (tOp r ta tb):=by
 intro pins s σ H Q I h;exact Subscript_ (binT ha hb I h λv u s2 x y H2 I2 rx ry q=>hr a b pins s2 σ H2 x y v u Q I2 rx ry q (hs _ _))
def rIxL(K:PySem.W.Frag):R2:=λx y H Q=>∃p xs i v,x= .ref p/\y= .int i/\SqL K H p xs/\atI xs i=some v/\Q v H
def rIxT(K:PySem.W.Frag):R2:=λx y H Q=>∃p xs i v,x= .ref p/\y= .int i/\SqT K H p xs/\atI xs i=some v/\Q v H
def rIxS:R2:=λx y H Q=>∃z i c,x= .str z/\y= .int i/\z.length<=sizeLine/\atI z.cps.toList i=some c/\Q (.str ⟨#[c]⟩) H
theorem zAw:IxR X (rIxL X.K):=by
 intro value slice pins s σ H x y v u Q I rx ry h hs;obtain⟨p,xs,i,z,rfl,rfl,hq,he,q⟩:=h
 cases rx
 obtain⟨t,rfl⟩:=ry;obtain⟨its,r,pl,hz⟩:=I.list hq;obtain⟨j,h1,h2,h3,h4,h5⟩:=atI_get he;obtain⟨w,ew,rw'⟩:=r.get h2;have hl:=r.length;have hn:=zHd;have fin:EP X pins σ Q w s:=⟨z,H,I,rw',q⟩
 by_cases h0:0<=i
 .have hj:i.toNat=j:=by
   rw[seqIndex_of h0 h5]at h1;exact qAW h1
  exact item_listR pl.isList h0 (by lia) (by rw[hj];simpa using ew) fin hs
 .have hj:(i+(its.toArray.size:Int)).toNat=j:=by
   rw[seqIndex_neg (by lia) h4]at h1;rw[qAK,<-hl];exact qAW h1
  exact subscriptTail_builtinR (x:=w) pl.isList.typeIs slot_list_getitem.lookup
   (wpAny_getItem_list_neg (Q:=λr s'=>r=w/\EP X pins σ Q r s') pl.isList (by lia) (by rw[qAK]<;>lia) (by lia) (by rw[hj];simpa using ew) ⟨rfl,fin⟩) hs
theorem ix_tup:IxR X (rIxT X.K):=by
 intro value slice pins s σ H x y v u Q I rx ry h hs;obtain⟨p,xs,i,z,rfl,rfl,hq,he,q⟩:=h
 cases rx
 obtain⟨t,rfl⟩:=ry;obtain⟨its,r,pl,hz⟩:=I.tuple hq;obtain⟨j,h1,h2,h3,h4,h5⟩:=atI_get he;obtain⟨w,ew,rw'⟩:=r.get h2;have hl:=r.length;have hn:=zHd;have fin:EP X pins σ Q w s:=⟨z,H,I,rw',q⟩
 exact subscriptTail_builtinR (x:=w) pl.typeIs slot_tuple_getitem.lookup
  (getItem_tuple (j:=j) (Q:=λr s'=>r=w/\EP X pins σ Q r s') pl (by lia) (by lia) (by rw[qAK,<-hl];exact h1) (by simpa using ew) ⟨rfl,fin⟩) hs
theorem ix_str:IxR X rIxS:=by
 intro value slice pins s σ H x y v u Q I rx ry h hs;obtain⟨z,i,c,rfl,rfl,hz,he,q⟩:=h;obtain⟨t,rfl⟩:=rx;obtain⟨t',rfl⟩:=ry;obtain⟨j,h1,h2,h3,h4,h5⟩:=atI_get he;have hl:z.cps.toList.length=z.length:=by simp[Str.length]
 rw[hl]at h1 h4 h5;have hn:=zHd
 exact tail_any (typeIs_str s z t) slot_str_getitem.lookup (getItem_str (c:=c) (by
  have e1:decide (i< -(2^63:Int))=false:=qAO (by lia);have e2:decide (i>=2^63)=false:=qAO (by lia);rw[e1,e2,Bool.or_false]) (by rw[h1];simpa using h2) ⟨.str ⟨#[c]⟩,H,I.tok _,⟨_,rfl⟩,q⟩) hs
theorem mapSeq_set(its:List Value)(n j:Nat)(u:Value):Obj.mapSeq (·.setIfInBounds j u) {cls:=.type "list",data:=.seq its.toArray n}={cls:=.type "list",data:=.seq (its.set j u).toArray n}:=by
 simp[Obj.mapSeq]
theorem Inv.lst{pins:List (Addr×Obj)}{σ:St}{H:Hp}{s:Shared}{p:Addr}{xs:List V}(I:Inv X pins σ H s)(h:H p=some (.lst xs)) :
  ∃(its:List Value)(n:Nat),Vals xs its/\s.heap.get? p=some {cls:=.type "list",data:=.seq its.toArray n}/\xs.length<=sizeLine:=by
 obtain⟨z,its,n,r,e⟩:=I.hok p _ h;exact⟨its,n,r,e,z⟩
theorem Inv.lstUpd{pins:List (Addr×Obj)}{σ:St}{H:Hp}{s:Shared}{p:Addr}{xs ys:List V}{its its':List Value}{n':Nat}{f:Obj->Obj}(I:Inv X pins σ H s)(h:H p=some (.lst xs))
  (ho:s.heap.get? p=some {cls:=.type "list",data:=.seq its.toArray n}) (hf:f {cls:=.type "list",data:=.seq its.toArray n}={cls:=.type "list",data:=.seq its'.toArray n'}) (r:Vals ys its') (hz:ys.length<=sizeLine) (t:Nat) :
  Inv X pins σ (upd H p (.lst ys)) {s with heap:=s.heap.update p f,toks:=t}:=by
 have e:(s.heap.update p f).get? p=some {cls:=.type "list",data:=.seq its'.toArray n'}:=by
  rw[qA2 f ho (by rw[hf]<;>rfl),hf]
 refine I.write (x:=p) (e:=p) (by rw[h];trivial) (.inl rfl) (λb u hb q=>(qBW _ _ (qAV hb)).trans q) ⟨_,e⟩ ?_;exact⟨hz,its',n',r,e⟩
def rSetL:V->V->V->Hp->(Hp->Prop)->Prop:=λo i v H Q=>∃p xs k j,o= .ref p/\i= .int k/\H p=some (.lst xs)/\ixN xs.length k=some j/\Q (upd H p (.lst (xs.set j v)))
theorem set_list:PSet X rSetL:=by
 intro pins s σ H o i v ov iv u Q I ro ri rv h;obtain⟨p,xs,k,j,rfl,rfl,hp,hj,q⟩:=h
 cases ro
 obtain⟨t,rfl⟩:=ri;obtain⟨its,n,r,ho,hz⟩:=I.lst hp;obtain⟨h1,h2,h3,h4⟩:=ixN_seq hj;have hl:=r.length;have hn:=zHd
 have I':Inv X pins σ (upd H p (.lst (xs.set j v))) {s with heap:=s.heap.update p (Obj.mapSeq (·.setIfInBounds j u))} :=
  I.lstUpd hp ho (mapSeq_set its n j u) (r.set rv j) (by rw[List.length_set];exact hz) s.toks
 by_cases h0:0<=k
 .have hk:k.toNat=j:=by
   rw[seqIndex_of h0 h4]at h1;exact qAW h1
  exact PySem.W.ki_setAt ho h0 (by lia) (by rw[qAK,<-hl];exact h4) (by rw[hk];exact⟨_,I',q⟩)
 .have hk:(k+(its.toArray.size:Int)).toNat=j:=by
   rw[seqIndex_neg (by lia) h3]at h1;rw[qAK,<-hl];exact qAW h1
  exact PySem.W.ki_setBack ho (by lia) (by rw[qAK,<-hl];exact h3) (by lia) (by rw[hk];exact⟨_,I',q⟩)
theorem slice_bounds(lo hi:Option Int)(n:Nat):(sliceBounds lo hi none n).1=((HT.sIx n 0 lo:Nat):Int)/\(sliceBounds lo hi none n).2.1=((HT.sIx n n hi:Nat):Int)/\(sliceBounds lo hi none n).2.2=1:=by
 refine⟨?_,?_,rfl⟩
 .cases lo with
  |none=>simp[sliceBounds,HT.sIx]
  |some i=>
   simp only[sliceBounds,HT.sIx,Option.getD_none,show(1:Int)>0 by decide,if_true]
   by_cases h:i<0
   .simp only[h,if_true]<;>lia
   .simp only[h,qBz]<;>lia
 .cases hi with
  |none=>simp[sliceBounds,HT.sIx]
  |some i=>
   simp only[sliceBounds,HT.sIx,Option.getD_none,show(1:Int)>0 by decide,if_true]
   by_cases h:i<0
   .simp only[h,if_true]<;>lia
   .simp only[h,qBz]<;>lia
theorem zIm(its:List Value)(lo hi:Option Int):slicePick its.toArray lo hi none=((its.drop (HT.sIx its.length 0 lo)).take (HT.sIx its.length its.length hi-HT.sIx its.length 0 lo)).toArray:=by
 obtain⟨h1,h2,h3⟩:=slice_bounds lo hi its.toArray.size;unfold slicePick;rw[h1,h2,h3];simp only[sliceRange_one,pick_run,qAK]<;>rfl
def rSlL(K:PySem.W.Frag):V->Option Int->Option Int->Hp->VK->Prop:=λx lo hi H Q=>∃a xs,x= .ref a/\SqL K H a xs/\∀p,H p=none->Q (.ref p) (upd H p (.lst (cutV xs lo hi)))
theorem zFq:SlR X (rSlL X.K):=by
 intro pins s σ H x v vl vu lo hi sl Q I rx hs pl pu h;obtain⟨a,xs,rfl,hx,q⟩:=h
 cases rx
 obtain⟨its,r,ht,hz⟩:=I.list hx;have hlen:=r.length;refine⟨"list",_,slot_list_getitem.lookup,ht.isList.typeIs,?_⟩;refine wpAny_getItem_list_slice ht.isList hs pl pu .none (by simp) ?_ (by rw[qAK]<;>lia);rw[zIm,<-hlen];refine⟨.ref s.heap.objs.size,_,I.laid (t':=s.toks) (o:=.lst (cutV xs lo hi)) (λb ob q=>qAI _ q) (qAG _) ?_,rfl,q _ (I.hok.fresh (qAG _))⟩;exact⟨qAf (cutV_length xs lo hi) hz,_,0,(r.drop (HT.sIx xs.length 0 lo)).take (HT.sIx xs.length xs.length hi-HT.sIx xs.length 0 lo),qAc _ rfl⟩
def zDm:V->Bool
 | .non=>true
 | .bl _=>true
 | .int _=>true
 | .str _=>true
 |_=>false
def eqV:V->V->Bool
 | .non,.non=>true
 | .bl a,.bl b=>a==b
 | .bl a,.int b=>(if a then 1 else 0)==b
 | .int a,.bl b=>a==(if b then 1 else 0)
 | .int a,.int b=>a==b
 | .str a,.str b=>a==b
 |_,_=>false
theorem eqAt_V{A:Around}{s:Shared}{y:V}{u v:Value}(ry:RelV y u)(rx:RelV x v)(fy:zDm y=true)(fx:zDm x=true):SeqAt.EqAt A s u v (eqV y x):=by
 cases y with
 |non=>
  cases ry
  cases x with
  |non=>cases rx;exact qCg _
  |bl b=>cases rx;exact SeqAt.EqAt.none_bool b
  |int b=>obtain⟨t,rfl⟩:=rx;exact SeqAt.EqAt.none_int b t
  |str b=>obtain⟨t,rfl⟩:=rx;exact SeqAt.EqAt.none_str b t
  |_=>exact absurd (show false=true from fx) qAh
 |bl a=>
  cases ry
  cases x with
  |non=>cases rx;exact SeqAt.EqAt.bool_none a
  |bl b=>cases rx;exact SeqAt.EqAt.bool_bool a b
  |int b=>obtain⟨t,rfl⟩:=rx;exact SeqAt.EqAt.bool_int a b t
  |str b=>obtain⟨t,rfl⟩:=rx;exact SeqAt.EqAt.bool_str a b t
  |_=>exact absurd (show false=true from fx) qAh
 |int a=>
  obtain⟨t',rfl⟩:=ry
  cases x with
  |non=>cases rx;exact SeqAt.EqAt.int_none a t'
  |bl b=>cases rx;exact SeqAt.EqAt.int_bool a t' b
  |int b=>obtain⟨t,rfl⟩:=rx;exact SeqAt.EqAt.int_int a t' b t
  |str b=>obtain⟨t,rfl⟩:=rx;exact SeqAt.EqAt.int_str a t' b t
  |_=>exact absurd (show false=true from fx) qAh
 |str a=>
  obtain⟨t',rfl⟩:=ry
  cases x with
  |non=>cases rx;exact SeqAt.EqAt.str_none a t'
  |bl b=>cases rx;exact SeqAt.EqAt.str_bool a t' b
  |int b=>obtain⟨t,rfl⟩:=rx;exact SeqAt.EqAt.str_int a t' b t
  |str b=>obtain⟨t,rfl⟩:=rx;exact SeqAt.EqAt.str_str a t' b t
  |_=>exact absurd (show false=true from fx) qAh
 |_=>exact absurd (show false=true from fy) qAh
def eqU(x:V)(u:Value):Bool:=match u with
 | .none=>eqV .non x
 | .bool b=>eqV (.bl b) x
 | .int i _=>eqV (.int i) x
 | .str z _=>eqV (.str z) x
 |_=>false
theorem eqU_of{y:V}{u:Value}(r:RelV y u)(f:zDm y=true):eqU x u=eqV y x:=by
 cases y with
 |non=>cases r;rfl
 |bl b=>cases r;rfl
 |int i=>obtain⟨t,rfl⟩:=r;rfl
 |str z=>obtain⟨t,rfl⟩:=r;rfl
 |_=>exact absurd (show false=true from f) qAh
theorem zHm :∀{xs:List V}{us:List Value},Vals xs us->xs.all zDm=true->us.any (eqU x)=xs.any λy=>eqV y x
 |_,_,.nil,_=>rfl
 |y::xs,u::us,.cons r t,f=>by
  rw[List.all_cons,qA3]at f;rw[qCH,qCH,eqU_of r f.1,zHm t f.2]
theorem zEm{A:Around}{s:Shared}{v:Value}(rx:RelV x v)(fx:zDm x=true):∀{xs:List V}{us:List Value},Vals xs us->xs.all zDm=true->∀u∈us,SeqAt.EqAt A s u v (eqU x u)
 |_,_,.nil,_=>λu hu=>by cases hu
 |y::xs,u::us,.cons r t,f=>λu' hu=>by
  rw[List.all_cons,qA3]at f;rcases qAL.mp hu with rfl|hu
  .rw [eqU_of r f.1];exact eqAt_V r rx f.1 fx
  .exact zEm rx fx t f.2 u' hu
def inV(x:V)(xs:List V):Bool:=xs.any λy=>eqV y x
def rIn(K:PySem.W.Frag)(neg:Bool):R2:=λx y H Q=>∃p xs,y= .ref p/\(SqL K H p xs\/SqT K H p xs)/\zDm x=true/\xs.all zDm=true/\Q (.bl (if neg then !inV x xs else inV x xs)) H
theorem zFg:OpR X (compareOp .In) (rIn X.K false):=by
 intro pins s σ H x y v u Q I rx ry h;obtain⟨p,xs,rfl,hq,fx,fs,q⟩:=h
 cases ry
 rcases hq with hq|hq
 .obtain ⟨its,r,pl,hz⟩:=I.list hq;refine SeqAt.in_listAt (eqU x) pl.isList (λw hw=>zEm rx fx r fs w (by simpa using hw)) ⟨.bl _,H,I,rfl,?_⟩;rw[show its.toArray.any (eqU x)=its.any (eqU x) by simp,zHm r fs];exact q
 .obtain ⟨its,r,pl,hz⟩:=I.tuple hq;refine SeqAt.in_tupleAt (eqU x) pl (λw hw=>zEm rx fx r fs w (by simpa using hw)) ⟨.bl _,H,I,rfl,?_⟩;rw[show its.toArray.any (eqU x)=its.any (eqU x) by simp,zHm r fs];exact q
theorem zC9:OpR X (compareOp .NotIn) (rIn X.K true):=by
 intro pins s σ H x y v u Q I rx ry h;obtain⟨p,xs,rfl,hq,fx,fs,q⟩:=h
 cases ry
 rcases hq with hq|hq
 .obtain ⟨its,r,pl,hz⟩:=I.list hq;refine SeqAt.notIn_listAt (eqU x) pl.isList (λw hw=>zEm rx fx r fs w (by simpa using hw)) ⟨.bl _,H,I,rfl,?_⟩;rw[show its.toArray.any (eqU x)=its.any (eqU x) by simp,zHm r fs];exact q
 .obtain ⟨its,r,pl,hz⟩:=I.tuple hq;refine SeqAt.notIn_tupleAt (eqU x) pl (λw hw=>zEm rx fx r fs w (by simpa using hw)) ⟨.bl _,H,I,rfl,?_⟩;rw[show its.toArray.any (eqU x)=its.any (eqU x) by simp,zHm r fs];exact q
theorem zAn:zCq X (.builtin "len") (λxs H Q=>∃p ys,xs=[.ref p]/\(SqL X.K H p ys\/SqT X.K H p ys)/\Q (.int ys.length) H):=by
 intro pins s σ H xs us Q I r h;obtain⟨p,ys,rfl,hq,q⟩:=h;obtain⟨u,rfl,rx⟩:=zHp r
 cases rx
 have hn:=zHd;rcases hq with hq|hq
 .obtain ⟨its,r',pl,hz⟩:=I.list hq;have hlen:=r'.length;exact Calls.call_len_list pl.isList (by simp only[qAK]<;>lia) ⟨.int ys.length,H,I.tok _,⟨s.toks+1,by rw[qAK,hlen]⟩,q⟩
 .obtain ⟨its,r',pl,hz⟩:=I.tuple hq;have hlen:=r'.length;exact len_tuple pl (by simp only[qAK]<;>lia) ⟨.int ys.length,H,I.tok _,⟨s.toks+1,by rw[qAK,hlen]⟩,q⟩
theorem zDd:zCq X (.builtin "len") (λxs H Q=>∃z,xs=[.str z]/\z.length<=sizeLine/\Q (.int z.length) H):=by
 intro pins s σ H xs us Q I r h;obtain⟨z,rfl,hz,q⟩:=h;obtain⟨u,rfl,t,rfl⟩:=zHp r;have hn:=zHd;exact len_str (by lia) ⟨.int z.length,H,I.tok _,⟨_,rfl⟩,q⟩
theorem zBq:zCq X (.type "list") (λxs H Q=>∃p ys,xs=[.ref p]/\(SqL X.K H p ys\/SqT X.K H p ys)/\∀l,H l=none->Q (.ref l) (upd H l (.lst ys))):=by
 intro pins s σ H xs us Q I r h;obtain⟨p,ys,rfl,hq,q⟩:=h;obtain⟨u,rfl,rx⟩:=zHp r
 cases rx
 have fin:∀(its:List Value),Vals ys its->ys.length<=sizeLine->∀(h':Heap)(c':Nat),(∀b o',s.heap.get? b=some o'->h'.get? b=some o') ->
   h'.get? s.heap.objs.size=some {cls:=.type "list",dict:=none,data:=.seq its.toArray c',slots:=#[]}->EP X pins σ Q (.ref s.heap.objs.size) {s with heap:=h'}:=λits r' hz h' c' kp e=>
  ⟨.ref s.heap.objs.size,_,I.laid (t':=s.toks) kp (qAG _) (show zAz X.prog X.w _ h' _ (.lst ys)from⟨hz,its,c',r',e⟩),rfl,q _ (I.hok.fresh (qAG _))⟩
 rcases hq with hq|hq
 .obtain ⟨its,r',pl,hz⟩:=I.list hq;have hlen:=r'.length;obtain⟨o,ho,hc,n,hd⟩:=pl.isList;exact call_list_seq p (.inl rfl) ho hc hd (λh' c' kp e=>fin its r' hz h' c' kp e) (by simp only[qAK]<;>lia)
 .obtain ⟨its,r',pl,hz⟩:=I.tuple hq;have hlen:=r'.length;obtain⟨o,ho,hc,n,hd⟩:=pl;exact call_list_seq p (.inr rfl) ho hc hd (λh' c' kp e=>fin its r' hz h' c' kp e) (by simp only[qAK]<;>lia)
theorem zJp:zCq X (.type "tuple") (λxs H Q=>∃p ys,xs=[.ref p]/\((SqL X.K H p ys/\∀l,H l=none->Q (.ref l) (upd H l (.tup ys)))\/(SqT X.K H p ys/\Q (.ref p) H))):=by
 intro pins s σ H xs us Q I r h;obtain⟨p,ys,rfl,h⟩:=h;obtain⟨u,rfl,rx⟩:=zHp r
 cases rx
 rcases h with⟨hq,q⟩|⟨hq,q⟩
 .obtain ⟨its,r',pl,hz⟩:=I.list hq;have hlen:=r'.length;refine call_tuple_list pl.isList (λh' kp=>?_) (by simp only[qAK]<;>lia);have I1:Inv X pins σ H {s with heap:=h'}:=I.kept (t':=s.toks) kp
  have I2:Inv X pins σ (upd H h'.objs.size (.tup ys)) {s with heap:=h'.push {cls:=.type "tuple",data:=.seq its.toArray}} :=
   I1.laid (t':=s.toks) (λb o e=>qAI _ e) (qAG _) (show zAz X.prog X.w _ _ _ (.tup ys)from⟨hz,its,r',IsTup.new _ _⟩)
  exact⟨.ref h'.objs.size,_,I2,rfl,q _ (I1.hok.fresh (qAG _))⟩
 .obtain ⟨its,r',pl,hz⟩:=I.tuple hq;exact call_tuple_same pl ⟨.ref p,H,I,rfl,q⟩
def tyV(K:PySem.W.Frag)(T:String)(x:V)(H:Hp):Prop:=match x with
 | .str _=>T="str"
 | .int _=>T="int"
 | .ref p=>(T="list"/\∃xs,SqL K H p xs)\/(T="tuple"/\∃o,K.lookup p=some o/\o.cls= .type "tuple"/\o.dict=none) \/
   (T="dict"/\((∃kvs,H p=some (.dK kvs))\/∃kvs,H p=some (.dT kvs)))\/(T="set"/\∃S n,H p=some (.set S n))
 |_=>False
theorem tyV_is{pins:List (Addr×Obj)}{σ:St}{H:Hp}{s:Shared}{T:String}{v:Value}(I:Inv X pins σ H s)(r:RelV x v)(ty:tyV X.K T x H) :
  s.TypeIs v T/\∀a,v= .ref a->∃ob,s.heap.get? a=some ob/\ob.dict=none:=by
 cases x with
 |str z=>
  obtain⟨t,rfl⟩:=r
  cases (show T="str" from ty)
  exact⟨typeIs_str s z t,λ_ e=>nomatch e⟩
 |int i=>
  obtain⟨t,rfl⟩:=r
  cases (show T="int" from ty)
  exact⟨typeIs_int s i t,λ_ e=>nomatch e⟩
 |ref p=>
  cases r
  rcases ty with⟨rfl,xs,hq⟩|⟨rfl,o,hk,hc,hd⟩|⟨rfl,hk⟩|⟨rfl,S,n,hk⟩
  .obtain ⟨its,_,pl,_⟩:=I.list hq;refine⟨pl.isList.typeIs,λa e=>?_⟩
   cases e
   obtain⟨o,n,e,c,hd,_⟩:=pl;exact⟨o,e,hd⟩
  .refine ⟨⟨o,I.kIn p o hk,hc⟩,λa e=>?_⟩
   cases e
   exact⟨o,I.kIn _ o hk,hd⟩
  .have z:∃o,s.heap.get? p=some o/\o.ExactDict:=by
    rcases hk with⟨kvs,hk⟩|⟨kvs,hk⟩
    .obtain ⟨_,_,_,_,o,_,_,e,ex,_⟩:=I.hok p _ hk;exact⟨o,e,ex⟩
    .obtain ⟨_,_,_,_,o,_,_,e,ex,_⟩:=I.hok p _ hk;exact⟨o,e,ex⟩
   obtain⟨o,e,ex⟩:=z;refine⟨⟨o,e,ex.1⟩,λa e2=>?_⟩
   cases e2
   exact⟨o,e,ex.2.1⟩
  .obtain ⟨o,_,_,_,e,ex,_⟩:=I.hok p _ hk;refine⟨⟨o,e,ex.1⟩,λa e2=>?_⟩
   cases e2
   exact⟨o,e,ex.2.1⟩
 |_=>exact False.elim ty
def tBM(K:PySem.W.Frag)(T:String)(r:V->List V->Hp->VK->Prop)(to:TE)(t:TA):TE:=λσ H Q=>to σ H λx H1=>tyV K T x H1/\t σ H1 λxs H2=>r x xs H2 Q
variable{o e:Expr}{es:List Expr}{to:TE}{t:TA}{name:Str}{apos cpos:Pos}{T id:String}{r:V->List V->Hp->VK->Prop}
theorem zFd(pa:PlainAttrs T)(slot:Slot T name id)(hty:typeOf (.builtin id)=pure (.type "method_descriptor"))(hm:MtR X id r)(ho:PE X o to)(ha:PA X (e::es) t)
  (hbase:attributeBase o name X.env (eval o X.env)=eval o X.env:=by rfl)
  (hfew:((backTo cpos (starEach (e::es) X.env)).all (fun x=>!x.1)&&(backToKw cpos (keywordEach [] X.env)).all (fun x=>x.1.isSome)
   &&decide ((e::es).length+([]:List Keyword).length+(if([]:List Keyword).isEmpty then 0 else 1)<30))=true:=by rfl)
  (hline:(apos.endLine==cpos.line)=true:=by rfl) (hs:starEach (e::es) X.env=(false,eval e X.env)::starEach es X.env:=by rfl) (hplain:(backTo cpos (starEach es X.env)).any (·.1)=false:=by rfl) :
  PE X (.Call (.Attribute o name apos) (e::es) [] cpos) (tBM X.K T r to t):=by
 intro pins s σ H Q I h;refine wpAny_Call_method_late hbase hfew hline rfl (thn (ho pins s σ H _ I h) λv s1 ⟨x,H1,I1,r1,ty,q1⟩=>?_);obtain⟨h1,h2⟩:=tyV_is I1 r1 ty;refine⟨T,id,pa,slot,hty,h1,h2,?_⟩;have hA:=ha cpos pins s1 σ H1 _ I1 q1;rw[hs]at hA ⊢;refine Calls.callWith_builtin (by show(false||(backTo cpos (starEach es X.env)).any (·.1))=false;rw[hplain]<;>rfl) (Calls.evalArgs_plain ?_);exact thn hA λus s2 ⟨vs,H2,I2,r2,q2⟩=>hm pins s2 σ H2 x vs v us Q I2 r1 r2 q2
end
def MtM(X:Cx)(id:String)(r:V->List V->Hp->VK->Prop):Prop :=
 ∀(pins:List (Addr×Obj)) (s:Shared) (σ:St) (H:Hp) (x:V) (xs:List V) (v:Value) (us:List Value) (Q:VK),Inv X pins σ H s->RelV x v->Vals xs us->r x xs H Q ->
  wpAny (model X.prog X.w) X.A (call (.builtin id) (v::us)) (EP X pins σ Q) X.xe s
theorem Vals.one:∀{x:V}{us:List Value},Vals [x] us->∃u,us=[u]/\RelV x u
 |_,_,.cons r .nil=>⟨_,rfl,r⟩
theorem Vals.two:∀{x y:V}{us:List Value},Vals [x,y] us->∃u v,us=[u,v]/\RelV x u/\RelV y v
 |_,_,_,.cons r (.cons q .nil)=>⟨_,_,rfl,r,q⟩
theorem Vals.rep{xs:List V}{us:List Value}(h:Vals xs us):∀k:Nat,Vals (List.replicate k xs).flatten (List.replicate k us).flatten
 |0=>.nil
 |k+1=>by
  rw[qCh,qCh,qC4,qC4];exact Vals.append h (Vals.rep h k)
theorem foldl_rep(its:List Value):∀(k:Nat)(acc:List Value),
  List.foldl (λx1 x2=>x1++x2) acc.toArray (List.replicate k its.toArray)=(acc++(List.replicate k its).flatten).toArray
 |0,acc=>by simp
 |k+1,acc=>by
  have e:acc.toArray++its.toArray=(acc++its).toArray:=by simp
  have e2:(acc++its)++(List.replicate k its).flatten=acc++(List.replicate (k+1) its).flatten:=by
   rw[qCh,qC4,qCI]
  rw[<-e2,<-foldl_rep its k (acc++its),<-e,qCh,qBl]
section
variable{X:Cx}{pins:List (Addr×Obj)}{σ:St}{H:Hp}{s:Shared}{l b:Addr}{xs ys zs:List V}
theorem Inv.lset{its its':List Value}{f:Array Value->Array Value}{t':Nat}(I:Inv X pins σ H s)(hH:H l=some (.lst xs))
  (e:s.heap.get? l=some {cls:=.type "list",data:=.seq its.toArray n}) (hf:f its.toArray=its'.toArray) (hv:Vals ys its') (hz:ys.length<=sizeLine) :
  Inv X pins σ (upd H l (.lst ys)) {s with heap:=s.heap.update l (Obj.mapSeq f),toks:=t'}:=by
 have q:=PySem.IsL.update e f;rw[hf]at q;refine I.write (x:=l) (e:=l) (by rw[hH];exact trivial) (.inl rfl) (λb' u hb hu=>(qBW s.heap (Obj.mapSeq f) (qAV hb)).trans hu) ⟨_,q⟩ ?_;exact⟨hz,its',_,hv,q⟩
theorem Inv.lnew{its:List Value}{t':Nat}(I:Inv X pins σ H s)(hv:Vals ys its)(hz:ys.length<=sizeLine) :
  Inv X pins σ (upd H s.heap.objs.size (.lst ys)) {s with heap:=s.heap.push {cls:=.type "list",data:=.seq its.toArray},toks:=t'} :=
 I.laid (λ_ _ q=>qAI _ q) (qAG _) ⟨hz,its,0,hv,qAc _ rfl⟩
theorem Inv.fresh(I:Inv X pins σ H s):H s.heap.objs.size=none:=I.hok.fresh (qAG _)
theorem Inv.lstM(I:Inv X pins σ H s)(hH:H l=some (.lst xs)):xs.length<=sizeLine/\∃(its:List Value)(n:Nat),Vals xs its/\xs.length=its.length/\s.heap.get? l=some {cls:=.type "list",data:=.seq its.toArray n}:=by
 obtain⟨z,its,n,r,e⟩:=I.hok l _ hH;exact⟨z,its,n,r,r.length,e⟩
theorem notLongL(h:n<=sizeLine):Builtin.List.listTooLong n=false:=by
 unfold Builtin.List.listTooLong;exact qAO (by lia)
end
section
variable{X:Cx}
def rAppend:V->List V->Hp->VK->Prop:=λx vs H Q=>∃l xs y,x= .ref l/\vs=[y]/\H l=some (.lst xs)/\xs.length<sizeLine/\Q .non (upd H l (.lst (xs++[y])))
theorem zDu:MtM X "list.append" rAppend:=by
 intro pins s σ H x vs v us Q I rx rv h;obtain⟨l,xs,y,rfl,rfl,hH,hz,q⟩:=h
 cases rx
 obtain⟨u,rfl,ru⟩:=rv.one;obtain⟨z,its,n,r,hl,e⟩:=I.lstM hH;refine qB0 F.slot_list_append ⟨_,e,rfl⟩ F.entry_list_append (F.args_list_append_2 _ _) (PySem.list_append l its.toArray n u (by rw[qAK];lia)) ⟨e,?_⟩;refine⟨.non,_,I.lset (its':=its++[u]) hH e (by simp) (r.append (.cons ru .nil)) ?_,rfl,q⟩;rw[qAm,qC5];lia
def rExtend:V->List V->Hp->VK->Prop:=λx vs H Q=>∃l b xs zs,x= .ref l/\vs=[.ref b]/\H l=some (.lst xs)/\H b=some (.lst zs)/\xs.length+zs.length<=sizeLine/\Q .non (upd H l (.lst (xs++zs)))
theorem mt_extend:MtM X "list.extend" rExtend:=by
 intro pins s σ H x vs v us Q I rx rv h;obtain⟨l,b,xs,zs,rfl,rfl,hH,hB,hz,q⟩:=h
 cases rx
 obtain⟨u,rfl,ru⟩:=rv.one
 cases ru
 obtain⟨z,its,n,r,hl,e⟩:=I.lstM hH;obtain⟨z2,its2,n2,r2,hl2,e2⟩:=I.lstM hB;have hsz:its.toArray.size+its2.toArray.size<=sizeLine:=by rw[qAK,qAK];lia
 have hlong:¬(!its.toArray.isEmpty&&Builtin.List.listTooLong (its.toArray.size+its2.toArray.size))=true:=by
  rw[notLongL hsz,Bool.and_false];exact qAh
 refine qB0 F.slot_list_extend ⟨_,e,rfl⟩ F.entry_list_extend (F.args_list_extend_2 _ _)
  (AutoSeq1.list_extend_list_list_0 l its.toArray n b its2.toArray n2 hlong (by rw[qAK];lia) (by lia)) ⟨e,e2,?_⟩
 refine⟨.non,_,I.lset (its':=its++its2) hH e (by simp) (r.append r2) ?_,rfl,q⟩;rw[qAm];lia
def rCat:R2:=λx y H Q=>∃l b xs zs,x= .ref l/\y= .ref b/\H l=some (.lst xs)/\H b=some (.lst zs)/\xs.length+zs.length<=sizeLine/\∀p,H p=none->Q (.ref p) (upd H p (.lst (xs++zs)))
theorem zG8:OpR X (binaryOp .Add) rCat:=by
 intro pins s σ H x y v u Q I rx ry h;obtain⟨l,b,xs,zs,rfl,rfl,hH,hB,hz,q⟩:=h
 cases rx
 cases ry
 obtain⟨z,its,n,r,hl,e⟩:=I.lstM hH;obtain⟨z2,its2,n2,r2,hl2,e2⟩:=I.lstM hB;refine PySem.P.add_list e e2 ?_ (by rw[qAK,qAK];lia);have ea:its.toArray++its2.toArray=(its++its2).toArray:=by simp
 rw[ea];exact⟨.ref _,_,I.lnew (t':=s.toks) (r.append r2) (by rw[qAm];lia),rfl,q _ I.fresh⟩
def rRep:R2:=λx y H Q=>∃l k xs,x= .ref l/\y= .int k/\H l=some (.lst xs)/\-(2^63)<=k/\k<2^63/\xs.length*k.toNat<=sizeLine /\
 ∀p,H p=none->Q (.ref p) (upd H p (.lst (List.replicate k.toNat xs).flatten))
theorem len_rep{α:Type}(xs:List α)(k:Nat):(List.replicate k xs).flatten.length=k*xs.length:=by
 induction k with
 |zero=>simp
 |succ k ih=>rw[qCh,qC4,qAm,ih,Nat.succ_mul,Nat.add_comm]
theorem op_rep:OpR X (binaryOp .Mult) rRep:=by
 intro pins s σ H x y v u Q I rx ry h;obtain⟨l,k,xs,rfl,rfl,hH,h1,h2,hz,q⟩:=h
 cases rx
 obtain⟨t,rfl⟩:=ry;obtain⟨z,its,n,r,hl,e⟩:=I.lstM hH;have hlen:its.toArray.size*k.toNat<=sizeLine:=by rw[qAK,<-hl];exact hz
 have hcap:¬its.toArray.size*k.toNat>(2^63-1) / 8:=by
  have:(sizeLine:Nat)<=(2^63-1) / 8:=by decide
  lia
 have hfit:¬(!Builtin.List.listFitsIndex k)=true:=by
  rw[fitsIndex_both h1 h2];exact qAh
 have hlong:¬Builtin.List.listTooLong (its.toArray.size*k.toNat)=true:=by
  rw[notLongL hlen];exact qAh
 have hnew:List.foldl (λx1 x2=>x1++x2) #[] (List.replicate (if its.toArray.isEmpty=true then 0 else k.toNat) its.toArray)=(List.replicate k.toNat its).flatten.toArray:=by
  have f0:∀m:Nat,List.foldl (λx1 x2=>x1++x2) #[] (List.replicate m its.toArray)=(List.replicate m its).flatten.toArray:=λm=>by
   have:=foldl_rep its m [];rw[List.nil_append]at this;exact this
  rw[f0]
  cases its with
  |nil=>simp
  |cons a r'=>rw[qAB (by simp)]
 refine wpAny_binaryOp_repeat_ref (T:="list") (U:="int") (by decide) ⟨_,e,rfl⟩ (λs'=>typeIs_int s' k t) noFill_list_mul F.fills_int_mul F.slot_int_rmul repeat_list F.slot_int_index.lookup
  (qB0 F.slot_int_rmul (typeIs_int s k t) F.entry_int_rmul (F.args_int_rmul_2 _ _) (int___rmul___int_list k t l its.toArray n)
   ⟨e,rfl,⟨_,e,rfl⟩,qB0 F.slot_list_mul ⟨_,e,rfl⟩ F.entry_list_mul (F.args_list_mul_2 _ _) (AutoListH.list___mul___list_int_3 l its.toArray n k t hfit hcap hlong) ⟨e,?_⟩⟩)
 rw[hnew];exact⟨.ref _,_,I.lnew (t':=s.toks) (r.rep k.toNat) (by rw[len_rep,Nat.mul_comm];exact hz),rfl,q _ I.fresh⟩
end
section
variable{prog:Program}{w:World}{A:Around}{E:Value->Shared->Prop}{s:Shared}
set_option maxRecDepth 100000 in
end
end L2
namespace Att
open PySem PySem.W PySem.Calls PyProof.Rows
theorem zHh{P:Params}{h:Heap}:∀(ns:List Int)(vs:List Value),WellAll P h vs (ns.map WData.int)->IntsAre vs ns:=by
 intro ns
 induction ns with
 |nil=>
  intro vs w;rw[List.map_nil]at w
  cases w
  exact .nil
 |cons n ns ih=>
  intro vs w;rw[qAl]at w
  cases w with
  |cons a b=>
   cases a
   exact .cons _ _ (ih _ b)
theorem script_of{l:OpenLaw}{n:Nat}(hn:l.most=some n){P:Params}{h:Heap}{args:List WData}{vals:List Value}
  (hpre:l.row.toRowW.claim.pre args=true) (hwl:WellAll P h vals args) :
  ∃a vs ns,vals=[Value.ref a]/\args=[WData.list (ns.map WData.int)]/\h.get? a=some {cls:=.type "list",data:=.seq vs.toArray}/\IntsAre vs ns/\ns.length<=n:=by
 have hsh:WShape.hasAll [] args [.list .int]=true:=(pre_splitW hpre).1;have hc:l.pre.holds [] {args:=args}=true:=(pre_splitW hpre).2;obtain⟨d,r,rfl,h1,h2⟩:=hasAllW_cons hsh;obtain rfl:=hasAllW_nil h2;obtain⟨xs,rfl,h3⟩:=hasW_list h1;obtain⟨ns,rfl⟩:=items_int h3
 have hlen:ns.length<=n:=by
  unfold OpenLaw.pre at hc
  have h4:(WTm.not (.lt (.lit (.int (n:Int))) (.len (.arg 0)))).holds [] {args:=[.list (ns.map .int)]}=true:=by
   have h4:=(holds_andW hc).1;rw[hn]at h4;exact h4
  have h5:=condW_of h4 (w_not (w_lt w_lit (w_len_list (w_arg rfl))));rw[qAE]at h5;refine Nat.le_of_not_lt λq=>?_;have q':(n:Int)<((ns.length:Nat):Int):=by lia
  first
   |(rw[qAP q']at h5;exact absurd h5 (by decide))
   |(simp at h5;lia)
 cases hwl with
 |cons w1 w2=>
  cases w2
  cases w1 with
  |list ho hall=>exact⟨_,_,ns,rfl,rfl,ho,zHh ns _ hall,hlen⟩
theorem post_true(l:OpenLaw)(args:List WData):l.row.toRowW.claim.post args (.bool true) args=true :=
 postW_of (r:=l.row.toRowW) (X:=(true==true))
  (show WShape.has [] (.bool true) .bool=true by first|rfl|decide|simp[WShape.has,WShape.arms,WShape.armsAll])
  (show(WTm.eq .res (.lit (.bool true))).value [] {args:=args,res:=some (.bool true),after:=args}=some (.bool (true==true))from w_eq_bool (w_res rfl) w_lit) rfl
theorem attach_call{l:OpenLaw}{n:Nat}{q:Program}{loose:List Str}{XP:(Str->Option Value)->Heap->Prop}{YP:World->Heap->Prop}{d:DefRec}
  (hn:l.most=some n) (hdf:d.params.defaults=[])
  (call:∀(w:World) (s₀ s₁:Shared) (mg mb:Str->Option Value) (fa:Addr) (o:Obj) (pm cd doc:Value) (a:Addr) (vs:List Value) (ns:List Int),
   Ground q loose [] XP w s₀ mg mb s₁.heap->YP w s₁.heap ->
   s₁.heap.get? fa=some o->o.data= .func (docDef d.name d.params d.body d.scope pm cd doc)->s₁.heap.CodeRec cd d.name->mg d.name=some (.ref fa) ->
   s₁.heap.get? a=some {cls:=.type "list",data:=.seq vs.toArray}->IntsAre vs ns->ns.length<=n->s₁.gens=#[] ->
   codeAny (model l.prog w) callerA (.call (.ref fa) ⟨[.ref a],[]⟩) (λr s'=>r= .ok (.ret (.bool true))/\OldK s₁.heap s'.heap/\s'.os=s₁.os/\AllBare s'.gens) s₁) :
  WalkO q loose XP YP l.row.toRowW d [] (λf vs=>PySem.call f vs):=by
 intro w s₀ s₁ mg mb G Y fa o pm cd doc dV kV ho hd hcd hD hmg hg args vals as hpre hlay hrd hwl hlo;obtain rfl:dV= .none:=Dflts.none hD hdf;obtain rfl:kV= .none:=Dflts.noKw hD;obtain⟨a,vs,ns,rfl,rfl,hobj,hints,hlen⟩:=script_of hn hpre hwl;refine enter_call (qBV (call w s₀ s₁ mg mb fa o pm cd doc a vs ns G Y ho (fd_plain hd) hcd hmg hobj hints hlen hg) λr s' hq=>?_);obtain⟨rfl,h2,h3,h4⟩:=hq;exact⟨.inl ⟨.bool true,.bool true,[],rfl,λ_=>rfl,.bool true,post_true l _,λ_=>⟨List.Pairwise.nil,λ_ hm=>(nomatch hm)⟩⟩,h2,h3,h4⟩
end Att
namespace L2
open PySem PySem.Spec PyProof.Rows
variable{P:Program}{w:World}{a:Addr}{x qual:Str}{X:Cx}{pos:Pos}{H H':Hp}{u:Value}{y:V}
theorem vals_ints:∀{vs:List Value}{ns:List Int},IntsAre vs ns->Vals (ns.map V.int) vs
 |_,_,.nil=>.nil
 |_,_,.cons n t h=>.cons ⟨t,rfl⟩ (vals_ints h)
def Only(H:Hp):Prop:=∀b,H b=none\/∃o xs,H b=some (.frz o (.lst xs))
theorem law_call{P:Program}{w:World}{K:PySem.W.Frag}{mg mb:Str->Option Value}{CX:CXT}{k:Nat}{fa a:Addr}{fd:FuncData}{sp:Sp}{s₁:Shared}{vs:List Value}{ns:List Int}
  (KX:K.In s₁.heap) (hns:s₁.heap.Ns mainGlobals mg) (hb:s₁.heap.Ns builtinsNs mb) (hbb:∀x:Str,x≠ "__name__"->mb x=bootBuiltins x) (hlim:s₁.heap.NoLimit) (hg:s₁.gens=#[])
  (ha:s₁.heap.get? a=some {cls:=.type "list",data:=.seq vs.toArray}) (hi:IntsAre vs ns) (hl:ns.length<=sizeLine) (hr:Room k callerA)
  (F:∀base:Heap,K.In base->base.Ns mainGlobals mg->FnOk P w K mg base CX k fa fd [x] sp) (hbind:∀(s:Shared)(u:Value),BindsTo s fd ⟨[u],[]⟩ [(x,u)])
  (hsp:∀H:Hp,Only H->SqL K H a (ns.map V.int)->sp [.ref a] H (λv _=>v= .bl true) λ_ _ _=>False)
  (hCX:∀H e s',CX [] H s₁ (λ_ _ _=>False) e s'->False) :
  codeAny (model P w) callerA (.call (.ref fa) ⟨[.ref a],[]⟩) (λr s'=>r= .ok (.ret (.bool true))/\OldK s₁.heap s'.heap/\s'.os=s₁.os/\AllBare s'.gens) s₁:=by
 have rv:=vals_ints hi;have lenV:=hi.length
 have core:∀H:Hp,Only H->SqL K H a (ns.map V.int)->HOk P w H s₁.heap->(∀b,H b≠none->b=a)->(H a≠none->K.lookup a=none) ->
   codeAny (model P w) callerA (.call (.ref fa) ⟨[.ref a],[]⟩) (λr s'=>r= .ok (.ret (.bool true))/\OldK s₁.heap s'.heap/\s'.os=s₁.os/\AllBare s'.gens) s₁:=by
  intro H hO hS hok hA hK;have base_of:∀{b:Addr}{o:Obj},s₁.heap.get? b=some o->H b=none->(hidT s₁.heap H).get? b=some o:=λe n=>hidT_get e n
  have noA:∀{b:Addr}{o:Obj}{es:Array DictEntry}{ep:Nat},s₁.heap.get? b=some o->o.data= .dict es ep->H b=none:=λ{b o es ep} e d=>by
   cases q:H b with
   |none=>rfl
   |some u=>
    have e':b=a:=hA b (by rw[q];simp);subst e';rw[ha]at e;cases e;have d':Data.seq vs.toArray _=Data.dict es ep:=d
    cases d'
  have nsK:∀{b:Addr}{m:Str->Option Value},s₁.heap.Ns b m->(hidT s₁.heap H).Ns b m:=λ{b m} ⟨o,es,ep,e,d,r⟩=>⟨o,es,ep,base_of e (noA e d),d,r⟩
  have hKb:K.In (hidT s₁.heap H):=λb o e=>base_of (KX b o e) (by
   cases q:H b with
   |none=>rfl
   |some u=>
    have e':b=a:=hA b (by rw[q];simp);subst e';rw[hK (by rw[q];simp)]at e;cases e)
  have hM:Mod K mg (hidT s₁.heap H):=⟨hKb,nsK hns,⟨mb,nsK hb,hbb⟩,let⟨mc,h1,h2⟩:=hlim;⟨mc,nsK h1,h2⟩⟩;have e0:Env0 P w K mg (hidT s₁.heap H) callerA [] s₁ H:=⟨rfl,hM,λb o e=>of_hidT e,qCE (hidT_size _ _),trivial,λb hb=>absurd (show b∈([]:List Addr)from hb) (by simp),hok,.of_eq hg⟩;refine qBV ((F _ hKb (nsK hns)).run callerA [] s₁ H ⟨[.ref a],[]⟩ [.ref a] [.ref a] _ _ hr e0 (hbind s₁ (.ref a)) (.cons rfl .nil) (hsp H hO hS)) λr s' h=>?_
  cases r with
  |error e=>exact(hCX H e s' h).elim
  |ok fl=>
   cases fl with
   |next=>exact False.elim h
   |brk=>exact False.elim h
   |cont=>exact False.elim h
   |ret u=>
    obtain⟨v,H',os,bare,un,hok',r',q⟩:=h;have q':v= .bl true:=q;subst q';obtain rfl:u=Value.bool true:=r';refine⟨rfl,OldK.of_keep λb o e=>?_,os,bare⟩
    cases q:H b with
    |none=>exact un.keep b o e q (by intro z;exact absurd (show b∈([]:List Addr)from z) (by simp)) (by simp)
    |some u=>
     rcases hO b with z|⟨ob,xs,z⟩
     .rw [q]at z;cases z
     .have z2:=un.frzs b ob _ z;obtain⟨e1,_⟩:=hok b _ z;obtain⟨e2,_⟩:=hok' b _ z2;rw[e]at e1;cases e1;exact e2
 cases hk:K.lookup a with
 |some o=>
  have e:=KX a o hk;rw[ha]at e
  cases e
  refine core (λ_=>none) (λ_=>.inl rfl) (.inr ⟨_,vs.toArray,_,hk,rfl,rfl,rfl,by rw[qAK,lenV];exact hl,by simpa using rv⟩) (λb u z=>by have z':(none:Option HO)=some u:=z;cases z') (λb z=>absurd rfl z) λz=>absurd rfl z
 |none=>
  refine core (λb=>if b=a then some (.frz {cls:=.type "list",data:=.seq vs.toArray} (.lst (ns.map V.int)))else none) (λb=>?_) (.inl (.inr ⟨{cls:=.type "list",data:=.seq vs.toArray},qAC rfl⟩)) (λb u z=>?_) (λb z=>?_) λ_=>hk
  .by_cases hb:b=a
   .exact .inr ⟨_,_,qAC hb⟩
   .exact .inl (qAB hb)
  .by_cases hb:b=a
   .have z':=(qAC hb).symm.trans z
    cases z'
    subst hb;exact⟨ha,by rw[qAE];exact hl,vs,_,rv,ha⟩
   .have z':=(qAB hb).symm.trans z
    cases z'
  .by_cases hb:b=a
   .exact hb
   .exact absurd (qAB hb) z
theorem walk_of{l:PySem.W.OpenLaw}{n k:Nat}{q:Program}{loose:List Str}{XP:(Str->Option Value)->Heap->Prop}{YP:World->Heap->Prop}{d:DefRec}{K:Params->PySem.W.Frag}{CX:World->CXT}{sp:World->Sp}{x:Str}
  (hn:l.most=some n) (hn2:n<=sizeLine) (hdf:d.params.defaults=[]) (hr:Room k callerA)
  (hY:∀(w:World)(h:Heap),YP w h->(K w.params).In h)
  (F:∀(w:World) (mg:Str->Option Value) (fa:Addr) (h:Heap),(K w.params).In h->h.Ns mainGlobals mg->mg d.name=some (.ref fa) ->
   ∃fd:FuncData,(∀(s:Shared)(u:Value),BindsTo s fd ⟨[u],[]⟩ [(x,u)]) /\
    ∀base:Heap,(K w.params).In base->base.Ns mainGlobals mg->FnOk l.prog w (K w.params) mg base (CX w) k fa fd [x] (sp w))
  (hsp:∀(w:World)(H:Hp)(a:Addr)(ns:List Int),ns.length<=n->Only H->SqL (K w.params) H a (ns.map V.int)->sp w [.ref a] H (λv _=>v= .bl true) λ_ _ _=>False)
  (hCX:∀(w:World)(H:Hp)(s:Shared)(e:Value)(s':Shared),CX w [] H s (λ_ _ _=>False) e s'->False) :
  PySem.W.WalkO q loose XP YP l.row.toRowW d [] (λf vs=>PySem.call f vs):=by
 refine Att.attach_call hn hdf λw s₀ s₁ mg mb fa o pm cd doc a vs ns G Y ho hd hcd hmg hobj hints hlen hg=>?_;have KX:=hY w _ Y;obtain⟨fd,hb,hF⟩:=F w mg fa _ KX G.T.g hmg;exact law_call KX G.T.g G.T.b G.T.builtins G.T.nolimit hg hobj hints (qAf hlen hn2) hr hF hb (λH hO hS=>hsp w H a ns hlen hO hS) λH e s'=>hCX w H s₁ e s'
def zDl(s:Stmt)(j:Nat):Stmt:=match s with
 | .ClassDef _ _ _ body _ _ _ _ _ _ _=>body.getD j (.Pass ⟨0,0,0,0⟩)
 |_=>.Pass ⟨0,0,0,0⟩
def zCc(s:Stmt):Arguments:=match s with
 | .FunctionDef _ a _ _ _ _ _ _ _ _=>a
 |_=>{posonlyargs:=[],args:=[],vararg:=none,kwonlyargs:=[],kw_defaults:=[],kwarg:=none,defaults:=[]}
def zBp(s:Stmt):List Stmt:=match s with
 | .FunctionDef _ _ b _ _ _ _ _ _ _=>b
 |_=>[]
def zAe(s:Stmt):Scope:=match s with
 | .FunctionDef _ _ _ _ _ _ sc _ _ _=>sc
 |_=>{kind:=.function,names:=[],isGenerator:=false,isCoroutine:=false}
abbrev CX0:CXT:=λ_ _ _ _ _ _=>False
abbrev E0:XK:=λ_ _ _=>False
theorem pass0 :zHo CX0 X E0:=λ_ _ _ _ _ _ _ h=>h.elim
structure Fun(K:PySem.W.Frag)(x qual:Str)(st:Stmt)(f:Addr)(fd:FuncData):Prop where
 ex:∃(oc:Value)(od:Option Addr)(kV doc pm:Value)(an:Option Addr)(cdv ct:Value) (osl:Array (Option Value)),
  fd=PySem.W.fnOf x qual (zCc st) (zBp st) (zAe st) .none kV doc pm an cdv ct/\K.lookup f=some ⟨oc,od,.func fd,osl⟩/\PySem.W.codeIn K cdv qual=true
 kp:PySem.W.keepIn K (.ref f)=true
section
variable{P:Program}{w:World}{K:PySem.W.Frag}{mg:Str->Option Value}{base:Heap}
theorem Fun.ok{st:Stmt}{f:Addr}{fd:FuncData}{N ps:List Str}{k:Nat}{sp:Sp}(F:Fun K x qual st f fd)(S:FnScope N ps (zAe st))(len:∀vs H Q E,sp vs H Q E->vs.length=ps.length)
  (hbody:∀(cdv:Value) (A:Around) (outer:List Env) (s:Shared) (H:Hp) (vs:List V) (Q:VK) (E:XK),Room k (A.deeper (envOfC qual (zAe st) s.heap.objs.size f cdv))->sp vs H Q E ->
   ∃t,PSs (cxOf CX0 P w K mg base N qual (zAe st) f cdv A outer s H E).nox (zBp st) t/\t {nx:=λ_ H'=>Q .non H',rt:=Q} (zHq N vs) H):FnOk P w K mg base CX0 (k+1) f fd ps sp:=by
 obtain⟨oc,od,kV,doc,pm,an,cdv,ct,osl,rfl,lk,hcd⟩:=F.ex;refine fn_of lk hcd S len λA outer s H vs Q E hr hsp=>?_;obtain⟨t,h,q⟩:=hbody cdv A outer s H vs Q E hr hsp;exact⟨t,h.nox,q⟩
theorem Fun.binds{st:Stmt}{f:Addr}{fd:FuncData}{ps:List Str}(F:Fun K x qual st f fd)
  (h:∀(kV doc pm:Value)(an:Option Addr)(cdv ct:Value)(us:List Value),us.length=ps.length->bindArgs (PySem.W.fnOf x qual (zCc st) (zBp st) (zAe st) .none kV doc pm an cdv ct) ⟨us,[]⟩=pure (ps.zip us)):zCe K fd ps []:=by
 obtain⟨oc,od,kV,doc,pm,an,cdv,ct,osl,rfl,lk,hcd⟩:=F.ex;exact .all (h kV doc pm an cdv ct)
theorem fun_mk{st:Stmt}{f:Addr}{oc:Value}{od an:Option Addr}{osl:Array (Option Value)}{kV doc pm cdv ct:Value}(l:K.lookup f=some ⟨oc,od,.func (PySem.W.fnOf x qual (zCc st) (zBp st) (zAe st) .none kV doc pm an cdv ct),osl⟩)
  (c:PySem.W.codeIn K cdv qual=true) (k:PySem.W.keepIn K (.ref f)=true):Fun K x qual st f (PySem.W.fnOf x qual (zCc st) (zBp st) (zAe st) .none kV doc pm an cdv ct):=⟨⟨oc,od,kV,doc,pm,an,cdv,ct,osl,rfl,l,c⟩,k⟩
end
theorem hu_of{A:Around}{k:Nat}(hr:Room k A):A.units+1<cLine:=qCJ (Nat.add_le_add_left (by decide:1<=64) _) hr.units
section
variable{X:Cx}
theorem pv(i:Nat){pos:Pos}(hN:X.N[i]?=some x:=by rfl)(hv:Vis X.env.scope x:=by first|exact Or.inl rfl|exact Or.inr (Or.inl rfl)|exact Or.inr (Or.inr rfl))(hd:(x==("__debug__": Str))=false:=by decide)
  (hcd:(x==("__classdict__": Str))=false:=by decide):PE X (.Name x pos) (tVar i):=pe_var hN hv hd hcd
end
theorem iteF{A B:Prop}(h:B):if false=true then A else B:=by
 rw[qAB qAh];exact h
theorem iteT{A B:Prop}(h:A):if true=true then A else B:=by
 rw[qAC rfl];exact h
theorem ite2{c A B:Prop}[Decidable c](h1:c->A)(h2:¬c->B):if c then A else B:=by
 by_cases h:c
 .rw [qAC h];exact h1 h
 .rw [qAB h];exact h2 h
def Same(H H':Hp):Prop:=∀b o,H b=some o->H' b=some o
theorem Same.seq{K:PySem.W.Frag}{xs:List V}(e:Same H H')(h:SqL K H a xs):SqL K H' a xs:=by
 rcases h with(h|⟨o,h⟩)|h
 .exact .inl (.inl (e _ _ h))
 .exact .inl (.inr ⟨o,e _ _ h⟩)
 .exact .inr h
section
variable{κ:Type}[DecidableEq κ]
def valV(kvs:List (κ×V))(k:κ):Option V:=(kvs.find? λkv=>decide (kv.1=k)).map (·.2)
def putK(kvs:List (κ×V))(k:κ)(v:V):List (κ×V) :=
 if(kvs.any λkv=>decide (kv.1=k))=true then kvs.map (λkv=>if kv.1=k then(kv.1,v)else kv)else kvs++[(k,v)]
theorem zF5{p:κ×V}{r:List (κ×V)}{k:κ}(e:p.1=k):valV (p::r) k=some p.2:=by simp[valV,qCK,e]
theorem zF6{p:κ×V}{r:List (κ×V)}{k:κ}(e:¬p.1=k):valV (p::r) k=valV r k:=by simp[valV,qCK,e]
theorem zF7(k:κ):∀kvs:List (κ×V),(kvs.any λkv=>decide (kv.1=k))=(valV kvs k).isSome
 |[]=>rfl
 |p::r=>by
  rw[qCH]
  by_cases e:p.1=k
  .simp only[zF5 e,qAP e,Bool.true_or,Option.isSome_some]
  .rw [zF6 e,qAO e,Bool.false_or];exact zF7 k r
theorem zD3(kvs:List (κ×V))(k:κ)(v:V):(putK kvs k v).length<=kvs.length+1:=by
 unfold putK;split
 .rw [qAE];lia
 .rw [qAm,qAZ,qBX];lia
theorem putK_new{kvs:List (κ×V)}{k:κ}(v:V)(h:valV kvs k=none):putK kvs k v=kvs++[(k,v)]:=by
 unfold putK;rw[zF7,h];exact qAB (by decide)
theorem RelO.isSome_eq{o:Option V}{u:Option Value}(r:RelO o u):o.isSome=u.isSome:=by
 cases o with
 |none=>cases u with
  |none=>rfl
  |some _=>exact(show False from r).elim
 |some _=>cases u with
  |none=>exact(show False from r).elim
  |some _=>rfl
theorem KV.val{kvs:List (κ×V)}{vs:List (κ×Value)}(r:KV kvs vs)(k:κ):RelO (valV kvs k) (valueAt vs k):=by
 unfold KV at r
 induction r with
 |nil=>exact True.intro
 |@cons p q ps qs h t ih=>
  obtain⟨h1,h2⟩:=h
  by_cases e:p.1=k
  .have e':q.1=k:=h1.symm.trans e;have b:valueAt (q::qs) k=some q.2:=by simp[valueAt,qCK,e']
   rw[zF5 e,b];exact h2
  .have e':¬q.1=k:=λz=>e (h1.trans z);have b:valueAt (q::qs) k=valueAt qs k:=by simp[valueAt,qCK,e']
   rw[zF6 e,b];exact ih
theorem KV.any{kvs:List (κ×V)}{vs:List (κ×Value)}(r:KV kvs vs)(k:κ):(kvs.any λkv=>decide (kv.1=k))=vs.any λkv=>decide (kv.1=k):=by
 unfold KV at r
 induction r with
 |nil=>rfl
 |cons h t ih=>rw[qCH,qCH,ih,h.1]
theorem KV.repl{kvs:List (κ×V)}{vs:List (κ×Value)}(r:KV kvs vs)(k:κ)(ry:RelV y u) :
  KV (kvs.map λkv=>if kv.1=k then(kv.1,y)else kv) (vs.map λkv=>if kv.1=k then(kv.1,u)else kv):=by
 unfold KV at r ⊢
 induction r with
 |nil=>exact .nil
 |@cons p q ps qs h t ih=>
  rw[qAl,qAl];refine .cons ?_ ih;obtain⟨h1,h2⟩:=h
  by_cases e:p.1=k
  .rw [qAC e,qAC (h1.symm.trans e)];exact⟨h1,ry⟩
  .rw [qAB e,qAB (λz=>e (h1.trans z))];exact⟨h1,h2⟩
theorem KV.put{kvs:List (κ×V)}{vs:List (κ×Value)}(r:KV kvs vs)(k:κ)(ry:RelV y u):KV (putK kvs k y) (stored vs k u):=by
 unfold putK stored;rw[r.any k]
 by_cases e:(vs.any λkv=>decide (kv.1=k))=true
 .rw [qAC e,qAC e];exact r.repl k ry
 .rw [qAB e,qAB e];exact Paired.snoc r ⟨rfl,ry⟩
theorem KV.length{kvs:List (κ×V)}{vs:List (κ×Value)}(r:KV kvs vs):kvs.length=vs.length:=qCD r
end
theorem kV_is{k:Key}(r:RelV (kV k) u):(zAu P w).is k u=true:=by
 cases k with
 |inl i=>obtain⟨t,e⟩:=(show∃t,u=Value.int i t from r);subst e;exact mixKind_int P w i t
 |inr x=>obtain⟨t,e⟩:=(show∃t,u=Value.str x t from r);subst e;exact mixKind_str P w x t
theorem items_are :∀{ks:List Key}{us:List Value},Vals (ks.map kV) us->ItemsAre (zAu P w) ks us
 |[],_,r=>by rw[List.map_nil]at r;cases r;exact .nil
 |k::ks,_,r=>by
  rw[qAl]at r
  cases r with
  |cons h t=>exact .cons (kV_is h) (items_are t)
abbrev KT(H:Hp):List (List Key×V)->List (List Key×Addr×Value)->Prop:=Paired λp q=>p.1=q.1/\H q.2.1=some (.tup (p.1.map kV))/\RelV p.2 q.2.2
theorem KT.val{kvs:List (List Key×V)}{xs:List (List Key×Addr×Value)}(r:KT H kvs xs)(k:List Key):RelO (valV kvs k) ((atKey xs k).map (·.2)):=by
 induction r with
 |nil=>exact True.intro
 |@cons p q ps qs h t ih=>
  obtain⟨h1,_,h2⟩:=h
  by_cases e:p.1=k
  .have e':q.1=k:=h1.symm.trans e;have b:atKey (q::qs) k=some q.2:=by simp[atKey,qCK,e']
   rw[zF5 e,b];exact h2
  .have e':¬q.1=k:=λz=>e (h1.trans z);have b:atKey (q::qs) k=atKey qs k:=by simp[atKey,qCK,e']
   rw[zF6 e,b];exact ih
theorem KT.repl{kvs:List (List Key×V)}{xs:List (List Key×Addr×Value)}(r:KT H kvs xs)(k:List Key)(ry:RelV y u) :
  KT H (kvs.map λkv=>if kv.1=k then(kv.1,y)else kv) (xs.map (putAt k u)):=by
 induction r with
 |nil=>exact .nil
 |@cons p q ps qs h t ih=>
  rw[qAl,qAl];refine .cons ?_ ih;obtain⟨h1,h2,h3⟩:=h;unfold putAt
  by_cases e:p.1=k
  .rw [qAC e,qAC (h1.symm.trans e)];exact⟨h1,h2,ry⟩
  .rw [qAB e,qAB (λz=>e (h1.trans z))];exact⟨h1,h2,h3⟩
theorem KT.put{kvs:List (List Key×V)}{xs:List (List Key×Addr×Value)}(r:KT H kvs xs)(k:List Key){b:Addr}(hb:H b=some (.tup (k.map kV)))(ry:RelV y u) :
  KT H (putK kvs k y) (storedH xs k b u):=by
 have e:(kvs.any λkv=>decide (kv.1=k))=(atKey xs k).isSome:=by
  rw[zF7,(r.val k).isSome_eq,Option.isSome_map]
 unfold putK storedH;rw[e]
 by_cases q:(atKey xs k).isSome=true
 .rw [qAC q,qAC q];exact r.repl k ry
 .rw [qAB q,qAB q];exact Paired.snoc r ⟨rfl,hb,ry⟩
theorem KT.keeps{kvs:List (List Key×V)}{xs:List (List Key×Addr×Value)}(r:KT H kvs xs)(ht:∀b ys,H b=some (.tup ys)->H' b=some (.tup ys)):KT H' kvs xs :=
 Paired.mapP r λ_ _ z=>⟨z.1,ht _ _ z.2.1,z.2.2⟩
section
variable{P:Program}{w:World}{H:Hp}{h:Heap}{a:Addr}
theorem rd_of{u:HO}(ok:HOk P w H h)(e:Rd H a u):zAz P w H h a u:=e.ok ok
theorem dk_rd{kvs:List (Key×V)}(ok:HOk P w H h)(e:Rd H a (.dK kvs)):kvs.length<=sizeLine/\(a==sysModules)=false/\∃vs,KV kvs vs/\h.DictOf (zAu P w) a vs :=
 show zAz P w H h a (.dK kvs)from rd_of ok e
theorem dk_of{kvs:List (Key×V)}(ok:HOk P w H h)(e:H a=some (.dK kvs)):kvs.length<=sizeLine/\(a==sysModules)=false/\∃vs,KV kvs vs/\h.DictOf (zAu P w) a vs:=dk_rd ok (.inl e)
theorem key_of{ks:List Key}(ok:HOk P w H h)(e:H a=some (.tup (ks.map kV))):(tupleKind (zAu P w)).is h ks a:=by
 obtain⟨_,its,r,o,h1,h2,n,h3⟩:=(show zAz P w H h a (.tup (ks.map kV))from ok a _ e);exact⟨o,its.toArray,n,h1,h2,h3,by simpa using items_are r⟩
theorem dt_rd{kvs:List (List Key×V)}(ok:HOk P w H h)(e:Rd H a (.dT kvs)):kvs.length<=sizeLine/\(a==sysModules)=false /\
  ∃xs,KT H kvs xs/\h.DictOfH (tupleKind (zAu P w)) a xs:=by
 obtain⟨z,y,xs,r,o,es,ep,h1,h2,h3,h4,h5⟩:=(show zAz P w H h a (.dT kvs)from rd_of ok e);refine⟨z,y,xs,r,o,es,ep,h1,h2,h3,h4,λx hx=>?_,h5⟩
 have all:∀{l:List (List Key×V)} {m:List (List Key×Addr×Value)},KT H l m->∀x∈m,(tupleKind (zAu P w)).is h x.1 x.2.1:=by
  intro l m q
  induction q with
  |nil=>intro x hx;exact nomatch hx
  |@cons p q ps qs hq t ih=>
   intro x hx;rcases qAL.mp hx with e|hx
   .subst e;exact key_of ok (by rw[<-hq.1];exact hq.2.1)
   .exact ih x hx
 exact all r x hx
theorem dt_of{kvs:List (List Key×V)}(ok:HOk P w H h)(e:H a=some (.dT kvs)):kvs.length<=sizeLine/\(a==sysModules)=false /\
  ∃xs,KT H kvs xs/\h.DictOfH (tupleKind (zAu P w)) a xs:=dt_rd ok (.inl e)
end
def DGet(H:Hp)(a:Addr)(y:V)(r:Option V):Prop :=
 (∃kvs k,Rd H a (.dK kvs)/\y=kV k/\r=valV kvs k)\/∃kvs k b,Rd H a (.dT kvs)/\y= .ref b/\H b=some (.tup (k.map kV))/\r=valV kvs k
def DPut(H:Hp)(a:Addr)(y v:V)(H':Hp):Prop :=
 (∃kvs k,H a=some (.dK kvs)/\y=kV k/\kvs.length<sizeLine/\H'=upd H a (.dK (putK kvs k v))) \/
 ∃kvs k b,H a=some (.dT kvs)/\y= .ref b/\H b=some (.tup (k.map kV))/\kvs.length<sizeLine/\H'=upd H a (.dT (putK kvs k v))
theorem DGet.k{kvs:List (Key×V)}{k:Key}(e:H a=some (.dK kvs)):DGet H a (kV k) (valV kvs k):=.inl ⟨kvs,k,.inl e,rfl,rfl⟩
theorem DPut.k{kvs:List (Key×V)}{k:Key}{v:V}(e:H a=some (.dK kvs))(hl:kvs.length<sizeLine):DPut H a (kV k) v (upd H a (.dK (putK kvs k v))):=.inl ⟨kvs,k,e,rfl,hl,rfl⟩
section
variable{X:Cx}{pins:List (Addr×Obj)}{σ:St}{H:Hp}{s:Shared}{a:Addr}{y v:V}{u r:Value}{o:Option V}{A:Around}{E:Value->Shared->Prop}
theorem Inv.big(I:Inv X pins σ H s):sysModules<s.heap.objs.size:=by
 have h:mainGlobals<s.heap.objs.size:=(I.mod.glob.keeps I.bk).lt;exact Nat.lt_trans (by decide) h
theorem d_getItem{Q:Value->Shared->Prop}(hu:A.units+1<cLine)(I:Inv X pins σ H s)(g:DGet H a y (some v))(ry:RelV y u)(h:∀w' s',Inv X pins σ H s'->RelV v w'->Q w' s') :
  wpAny (model X.prog X.w) A (getItem (.ref a) u) Q E s:=by
 rcases g with⟨kvs,k,e,ey,l⟩|⟨kvs,k,b,e,ey,eb,l⟩
 .subst ey;obtain⟨z,hd,vs,rel,dd⟩:=dk_rd I.hok e;obtain⟨w',hw,rw'⟩:=RelO.some_of (v:=v) (o:=valueAt vs k) (by rw[l];exact rel.val k);exact wpAny_getItem_of (kV_is ry) dd.mapOf hw (h w' _ (I.tok _) rw')
 .subst ey
  cases (show u=Value.ref b from ry)
  obtain⟨z,hd,xs,rel,dd⟩:=dt_rd I.hok e;obtain⟨w',hw,rw'⟩:=RelO.some_of (v:=v) (o:=(atKey xs k).map (·.2)) (by rw[l];exact rel.val k);obtain⟨p,hp,hp2⟩:=qBb.mp hw;refine wpAny_getItem_heap (qC6 hu) (key_of I.hok eb) dd hp ?_;rw[hp2];exact h w' _ (I.tok _) rw'
theorem d_in{Q:Value->Shared->Prop}(hu:A.units+1<cLine)(I:Inv X pins σ H s)(g:DGet H a y o)(ry:RelV y u)(h:∀s',Inv X pins σ H s'->Q (.bool o.isSome) s') :
  wpAny (model X.prog X.w) A (compareOp .In u (.ref a)) Q E s:=by
 rcases g with⟨kvs,k,e,ey,l⟩|⟨kvs,k,b,e,ey,eb,l⟩
 .subst ey;obtain⟨z,hd,vs,rel,dd⟩:=dk_rd I.hok e;refine wpAny_in_of (kV_is ry) hd dd.mapOf ?_;rw[<-(rel.val k).isSome_eq,<-l];exact h _ (I.tok _)
 .subst ey
  cases (show u=Value.ref b from ry)
  obtain⟨z,hd,xs,rel,dd⟩:=dt_rd I.hok e;refine wpAny_in_heap (qC6 hu) (key_of I.hok eb) hd dd ?_;have q:=(rel.val k).isSome_eq;rw[Option.isSome_map]at q;rw[<-q,<-l];exact h _ (I.tok _)
theorem d_notIn{Q:Value->Shared->Prop}(hu:A.units+1<cLine)(I:Inv X pins σ H s)(g:DGet H a y o)(ry:RelV y u)(h:∀s',Inv X pins σ H s'->Q (.bool (!o.isSome)) s') :
  wpAny (model X.prog X.w) A (compareOp .NotIn u (.ref a)) Q E s:=by
 rcases g with⟨kvs,k,e,ey,l⟩|⟨kvs,k,b,e,ey,eb,l⟩
 .subst ey;obtain⟨z,hd,vs,rel,dd⟩:=dk_rd I.hok e;refine wpAny_notIn_of (kV_is ry) hd dd.mapOf ?_;rw[<-(rel.val k).isSome_eq,<-l];exact h _ (I.tok _)
 .subst ey
  cases (show u=Value.ref b from ry)
  obtain⟨z,hd,xs,rel,dd⟩:=dt_rd I.hok e;refine wpAny_notIn_heap (qC6 hu) (key_of I.hok eb) hd dd ?_;have q:=(rel.val k).isSome_eq;rw[Option.isSome_map]at q;rw[<-q,<-l];exact h _ (I.tok _)
theorem d_write{h':Heap}{t':Nat}{ob:HO}(I:Inv X pins σ H s)(mu:Mut (H a))(hs:Heap.SameBut a s.heap h')(he:∃q,h'.get? a=some q)(new:zAz X.prog X.w (upd H a ob) h' a ob) :
  Inv X pins σ (upd H a ob) {s with heap:=h',toks:=t'} :=
 I.write (x:=a) (e:=a) mu (.inl rfl) (λb q hb z=>(hs.2 b hb).trans z) he new
theorem dk_new{h':Heap}{kvs:List (Key×V)}{vs:List (Key×Value)}(z:kvs.length<=sizeLine)(hd:(a==sysModules)=false)(rel:KV kvs vs)(dd:h'.DictOf (zAu P w) a vs) :
  zAz P w H' h' a (.dK kvs):=⟨z,hd,vs,rel,dd⟩
theorem d_setItem{Q:Unit->Shared->Prop}(hu:A.units+1<cLine)(I:Inv X pins σ H s)(g:DPut H a y v H')(ry:RelV y u)(rv:RelV v r)(h:∀s',Inv X pins σ H' s'->Q () s') :
  wpAny (model X.prog X.w) A (setItem (.ref a) u r) Q E s:=by
 rcases g with⟨kvs,k,e,ey,l,eH⟩|⟨kvs,k,b,e,ey,eb,l,eH⟩
 .subst ey eH;obtain⟨z,hd,vs,rel,dd⟩:=dk_of I.hok e;have hz:vs.length<=sizeLine:=by rw[<-rel.length];exact z
  have hl:(putK kvs k v).length<=sizeLine:=by have:=zD3 kvs k v;lia
  refine wpAny_setItem_pairs (hsz:=hz) (kV_is ry) dd λh' dd' hs=>h _ ?_;have he:∃q,h'.get? a=some q:=let⟨q,_,_,hq,_⟩:=dd';⟨q,hq⟩;exact d_write I (by rw[e];exact True.intro) hs he (dk_new hl hd (rel.put k rv) dd')
 .subst ey eH
  cases (show u=Value.ref b from ry)
  obtain⟨z,hd,xs,rel,dd⟩:=dt_of I.hok e;have hz:xs.length<=sizeLine:=by rw[<-qCD rel];exact z
  have hl:(putK kvs k v).length<=sizeLine:=by have:=zD3 kvs k v;lia
  refine wpAny_setItem_heap (hsz:=hz) (qC6 hu) (key_of I.hok eb) dd λh' dd' hs=>h _ ?_;obtain⟨q,es,ep,hq,h2,h3,h4,_,h5⟩:=dd';refine d_write I (by rw[e];exact True.intro) hs ⟨q,hq⟩ ⟨hl,hd,_,(rel.put k eb rv).keeps λc ys ec=>?_,q,es,ep,hq,h2,h3,h4,h5⟩;rw[upd_ne (zBf ec e (λz=>nomatch z))];exact ec
end
def NoSl(i:Expr):Prop:=∀ov iv,subscripted i false ov iv=operate [ov,iv] (getItem ov iv)
theorem subD_of{prog:Program}{A:Around}{E:Value->Shared->Prop}{s:Shared}{env:Env}{value slice:Expr}{T id:String}{Q:Value->Shared->Prop}
  (hl:typeLookup (.type T) "__getitem__"=pure (some (.builtin id))) (hs:NoSl slice)
  (h:wpAny (model prog w) A (eval value env) (λo s₁=>wpAny (model prog w) A (eval slice env) (λi s₂=>s₂.TypeIs o T/\wpAny (model prog w) A (getItem o i) Q E s₂) E s₁) E s) :
  wpAny (model prog w) A (eval (.Subscript value slice pos) env) Q E s:=by
 refine Subscript_ (qAs h (λo s₁ h₁=>qAs h₁ (λi s₂ h₂=>?_) λ_ _ x=>x) λ_ _ x=>x);obtain⟨hT,h₂⟩:=h₂;unfold subscriptTail;refine qAA ?_;rw[getitemInPython_of_ne hT.not_modules];refine qAA (qCi hT hl ?_)
 have fin:wpAny (model prog w) A (subscripted slice false o i) (λr s₃=>wpAny (model prog w) A (letTemporaryGo value o r >>= λ_=>pure r) Q E s₃) E s₂:=by
  rw[hs o i];exact wpAny_operating (qAs h₂ (λr s₃ h₃=>qAA (wpAny_letTemporaryGo (qAD h₃))) λ_ _ x=>x)
 first
  |exact qAD (qAA fin)
  |exact qAA (qAD (qAA fin))
  |exact qAA fin
theorem dict_typeIs{pins:List (Addr×Obj)}{σ:St}{s:Shared}{o:Option V}(I:Inv X pins σ H s)(g:DGet H a y o):s.TypeIs (.ref a) "dict":= by
 rcases g with⟨kvs,k,e,_,_⟩|⟨kvs,k,b,e,_,_,_⟩
 .obtain ⟨_,_,vs,_,dd⟩:=dk_rd I.hok e;exact dd.typeIs
 .obtain ⟨_,_,xs,_,dd⟩:=dt_rd I.hok e;exact dd.typeIs
def tDGet(td ty:TE):TE:=λσ H Q=>td σ H λx H1=>ty σ H1 λy H2=>∃a v,x= .ref a/\DGet H2 a y (some v)/\Q v H2
def tDIn(ty td:TE):TE:=λσ H Q=>ty σ H λy H1=>td σ H1 λx H2=>∃a o,x= .ref a/\DGet H2 a y o/\Q (.bl o.isSome) H2
def tDNotIn(ty td:TE):TE:=λσ H Q=>ty σ H λy H1=>td σ H1 λx H2=>∃a o,x= .ref a/\DGet H2 a y o/\Q (.bl (!o.isSome)) H2
def sDPut(td ty tv:TE):TS:=λD σ H=>tv σ H λv H1=>td σ H1 λx H2=>ty σ H2 λy H3=>∃a H4,x= .ref a/\DPut H3 a y v H4/\D.nx σ H4
section
variable{X:Cx}{o i e value:Expr}{pos pos' tpos:Pos}{td ty tv:TE}
theorem zG6(hu:X.A.units+1<cLine)(ho:PE X o td)(hi:PE X i ty)(hs:NoSl i):PE X (.Subscript o i pos) (tDGet td ty):=by
 intro pins s σ H Q I h;refine subD_of PySem.F.slot_dict_getitem.lookup hs (thn (ho pins s σ H _ I h) λu s1 ⟨x,H1,I1,rx,q1⟩=>thn (hi pins s1 σ H1 _ I1 q1) λiv s2 ⟨y,H2,I2,ry,a,v,ex,g,q2⟩=>?_);subst ex;obtain rfl:u=Value.ref a:=rx;exact⟨dict_typeIs I2 g,d_getItem hu I2 g ry λw' s3 I3 rw'=>⟨v,H2,I3,rw',q2⟩⟩
theorem pc_din(hu:X.A.units+1<cLine)(hi:PE X i ty)(ho:PE X o td):PC X .In i o (tDIn ty td):=by
 intro pins s σ H Q I h;refine thn (hi pins s σ H _ I h) λiv s1 ⟨y,H1,I1,ry,q1⟩=>thn (ho pins s1 σ H1 _ I1 q1) λu s2 ⟨x,H2,I2,rx,a,ov,ex,g,q2⟩=>?_;subst ex;obtain rfl:u=Value.ref a:=rx;exact d_in hu I2 g ry λs3 I3=>⟨.bl ov.isSome,H2,I3,rfl,q2⟩
theorem pc_dnotin(hu:X.A.units+1<cLine)(hi:PE X i ty)(ho:PE X o td):PC X .NotIn i o (tDNotIn ty td):=by
 intro pins s σ H Q I h;refine thn (hi pins s σ H _ I h) λiv s1 ⟨y,H1,I1,ry,q1⟩=>thn (ho pins s1 σ H1 _ I1 q1) λu s2 ⟨x,H2,I2,rx,a,ov,ex,g,q2⟩=>?_;subst ex;obtain rfl:u=Value.ref a:=rx;exact d_notIn hu I2 g ry λs3 I3=>⟨.bl (!ov.isSome),H2,I3,rfl,q2⟩
theorem zIv(hu:X.A.units+1<cLine)(ho:PE X o td)(hi:PE X i ty)(hv:PE X value tv)(hs:swapsWith value (some (.Subscript o i pos')) pos.line X.env=pure false) :
  PS X (.Assign [.Subscript o i pos'] value pos) (sDPut td ty tv):=by
 intro pins s σ H D I h;refine wpAny_Assign_Subscript (thn (hv pins s σ H _ I h) λr s1 ⟨v,H1,I1,rv,q1⟩=>thn (ho pins s1 σ H1 _ I1 q1) λu s2 ⟨x,H2,I2,rx,q2⟩=>thn (hi pins s2 σ H2 _ I2 q2) λiv s3 ⟨y,H3,I3,ry,a,H4,ex,g,q3⟩=>?_) hs;subst ex;obtain rfl:u=Value.ref a:=rx;exact d_setItem hu I3 g ry rv λs4 I4=>⟨σ,H4,I4,q3⟩
end
theorem dk_empty(h:Heap)(hb:sysModules<h.objs.size):zAz P w H (h.push {cls:=.type "dict",data:=.dict #[]}) h.objs.size (.dK []) :=
 ⟨qAe _,qA0.mpr (qAV (qAR hb)),[],.nil,Heap.DictOf.new h⟩
def tDNewK:TE:=λ_ H Q=>∀p,H p=none->Q (.ref p) (upd H p (.dK []))
section
variable{X:Cx}{pos:Pos}
theorem zGe:PE X (.Dict [] [] pos) tDNewK:=λpins s σ H Q I h=>
 wpAny_Dict_empty ⟨.ref s.heap.objs.size,_,I.laid (a:=s.heap.objs.size) (o:=.dK []) (t':=s.toks) (λ_ _ q=>qAI _ q) (qAG _) (dk_empty s.heap I.big),rfl,h _ (I.hok.fresh (qAG _))⟩
end
def tPairs:List (TE×TE)->St->Hp->(List (V×V)->Hp->Prop)->Prop
 |[],_,H,Q=>Q [] H
 |(tk,tv)::r,σ,H,Q=>tk σ H λx H1=>tv σ H1 λy H2=>tPairs r σ H2 λps H3=>Q ((x,y)::ps) H3
abbrev VV:List (V×V)->List (Value×Value)->Prop:=Paired λp q=>RelV p.1 q.1/\RelV p.2 q.2
def PPs(X:Cx)(pos:Pos)(keys:List (Option Expr))(values:List Expr)(trs:List (TE×TE)):Prop :=
 ∀(pins:List (Addr×Obj)) (s:Shared) (σ:St) (H:Hp) (Q:List (V×V)->Hp->Prop),Inv X pins σ H s->tPairs trs σ H Q ->
  wpAny (model X.prog X.w) X.A (evalPairs (pairTrees keys values X.env pos)) (λvs s'=>∃ps H',Inv X pins σ H' s'/\VV ps vs/\Q ps H') X.xe s
theorem pps_nil :PPs X pos [] [] []:=λpins s σ H Q I h=>pairTrees_nil_walk ⟨[],H,I,.nil,h⟩
theorem pps_cons{k v:Expr}{ks:List (Option Expr)}{vs:List Expr}{tk tv:TE}{trs:List (TE×TE)}(hk:PE X k tk)(hv:PE X v tv)(hr:PPs X pos ks vs trs) :
  PPs X pos (some k::ks) (v::vs) ((tk,tv)::trs):=λpins s σ H Q I h=>
 pairTrees_cons_walk (thn (hk pins s σ H _ I h) λu s1 ⟨x,H1,I1,rx,q1⟩=>thn (hv pins s1 σ H1 _ I1 q1) λw2 s2 ⟨y,H2,I2,ry,q2⟩=>thn (hr pins s2 σ H2 _ I2 q2) λws s3 ⟨ps,H3,I3,rel,q3⟩=>⟨(x,y)::ps,H3,I3,.cons ⟨rx,ry⟩ rel,q3⟩)
def mergeK(kvs more:List (Key×V)):List (Key×V):=more.foldl (λacc kv=>putK acc kv.1 kv.2) kvs
theorem KV.merge:∀{more:List (Key×V)} {rs:List (Key×Value)} {kvs:List (Key×V)} {vs:List (Key×Value)},KV more rs->KV kvs vs->KV (mergeK kvs more) (merged vs rs):=by
 intro more rs kvs vs r;unfold KV at r
 induction r generalizing kvs vs with
 |nil=>intro q;exact q
 |@cons p q ps qs h t ih=>
  intro r0
  have e:KV (putK kvs p.1 p.2) (stored vs q.1 q.2):=by
   have:=r0.put p.1 h.2;rw[<-h.1];exact this
  exact ih e
theorem zFi:∀(more kvs:List (Key×V)),(mergeK kvs more).length<=kvs.length+more.length
 |[],kvs=>by show kvs.length<=kvs.length+0;lia
 |p::r,kvs=>by
  have h1:=zFi r (putK kvs p.1 p.2);have h2:=zD3 kvs p.1 p.2;show(mergeK (putK kvs p.1 p.2) r).length<=_;rw[qAZ];lia
theorem zIg{P:Program}{w:World}:∀{kvs:List (Key×V)} {ws:List (Value×Value)},VV (kvs.map λkv=>(kV kv.1,kv.2)) ws->∃rs,Carries (zAu P w) ws rs/\KV kvs rs
 |[],_,r=>by rw[List.map_nil]at r;cases r;exact⟨[],True.intro,.nil⟩
 |p::kvs,_,r=>by
  rw[qAl]at r
  cases r with
  |@cons a b as bs h t=>
   obtain⟨rs,c,q⟩:=zIg (P:=P) (w:=w) t;obtain⟨b1,b2⟩:=b;exact⟨(p.1,b2)::rs,⟨kV_is h.1,rfl,c⟩,.cons ⟨rfl,h.2⟩ q⟩
def tDisp(trs:List (TE×TE)):TE:=λσ H Q=>∀p,H p=none->tPairs trs σ (upd H p (.dK [])) λps H2=>H2 p=some (.dK [])/\∃kvs:List (Key×V),ps=kvs.map (λkv=>(kV kv.1,kv.2))/\kvs.length<=15/\Q (.ref p) (upd H2 p (.dK (mergeK [] kvs)))
theorem pe_disp{keys:List (Option Expr)}{values:List Expr}{trs:List (TE×TE)}(h:PPs X pos keys values trs)(hall:keys.all (·.isSome)=true)(hl:keys.length=values.length)(h0:keys≠[])
  (h15:keys.length<=15):PE X (.Dict keys values pos) (tDisp trs):=by
 intro pins s σ H Q I q;have hn:=I.hok.fresh (qAG s.heap.objs.size);have I1:=I.laid (a:=s.heap.objs.size) (o:=.dK []) (h':=s.heap.push {cls:=.type "dict",data:=.dict #[]}) (t':=s.toks) (λ_ _ q=>qAI _ q) (qAG _) (dk_empty s.heap I.big);refine wpAny_Dict_walk (knd:=zAu X.prog X.w) hall hl h0 h15 (thn (h pins _ σ _ _ I1 (q _ hn)) λws s2 ⟨ps,H2,I2,rel,e,kvs,ep,lk,q2⟩=>?_);subst ep;obtain⟨rs,c,rk⟩:=zIg (P:=X.prog) (w:=X.w) rel;obtain⟨z,hd,vs0,r0,dd⟩:=dk_of I2.hok e
 cases r0
 refine⟨rs,c,dd,λh' dd' hs=>⟨.ref s.heap.objs.size,_,?_,rfl,q2⟩⟩
 have hz:(mergeK [] kvs).length<=sizeLine:=by
  have h1:=zFi kvs [];rw[qBX]at h1;rw[qAS];lia
 have he:∃q,h'.get? s.heap.objs.size=some q:=let⟨q,_,_,hq,_⟩:=dd';⟨q,hq⟩;exact d_write I2 (by rw[e];exact True.intro) hs he (dk_new hz hd (rk.merge .nil) dd')
end L2
set_option maxHeartbeats 4000000
namespace L2
open PySem PySem.Spec PyProof.Rows
variable{env:Env}{scope:Scope}{x:Str}{c:Addr}{X:Cx}{elt iter tg:Expr}{ifs:List Expr}{pos:Pos}{g:TG}{tt:TT}{te:TE}{wi:TI}{n:Nat}
def clOf(env:Env):List (Str×NameKind)->List (Str×Addr)->List (Str×Addr)
 |[],cs=>cs
 |(n,k)::r,cs=>if(k==NameKind.free)=true then(match env.cells.lookup n with|some c=>clOf env r ((n,c)::cs)|none=>clOf env r cs)else clOf env r cs
theorem zEh{env:Env}:∀(l:List (Str×NameKind)) (cs:List (Str×Addr)),(∀x∈l,x.2= .free->∃c,env.cells.lookup x.1=some c) ->
  (forIn l cs (fun (x:Str×NameKind) (cs:List (Str×Addr))=>match x with
   |(name,kind)=>if(kind==NameKind.free)=true then(do let c<-cellOf env name;pure (ForInStep.yield ((name,c)::cs)))else pure (ForInStep.yield cs)):Sem (List (Str×Addr)))=pure (clOf env l cs)
 |[],_,_=>rfl
 |(n,k)::r,cs,h=>by
  rw[List.forIn_cons];have hr:∀x∈r,x.2= .free->∃c,env.cells.lookup x.1=some c:=λx hx=>h x (qAU _ hx)
  by_cases hk:(k==NameKind.free)=true
  .obtain ⟨c,hc⟩:=h (n,k) qAX (by simpa using hk)
   have e1:clOf env ((n,k)::r) cs=clOf env r ((n,c)::cs):=by
    show(if(k==NameKind.free)=true then _ else _)=_;rw[qAC hk];have hc:env.cells.lookup n=some c:=hc;rw[hc]
   have e2:cellOf env n=pure c:=by
    have hc:env.cells.lookup n=some c:=hc;unfold cellOf;rw[hc]
   rw[e1,<-zEh r ((n,c)::cs) hr];show(if(k==NameKind.free)=true then(do let c<-cellOf env n;pure (ForInStep.yield ((n,c)::cs)))else pure (ForInStep.yield cs)) >>= _=_;rw[qAC hk,e2,pure_bind,pure_bind]
  .have e1:clOf env ((n,k)::r) cs=clOf env r cs:=by
    show(if(k==NameKind.free)=true then _ else _)=_;rw[qAB hk]
   rw[e1,<-zEh r cs hr];show(if(k==NameKind.free)=true then(do let c<-cellOf env n;pure (ForInStep.yield ((n,c)::cs)))else pure (ForInStep.yield cs)) >>= _=_;rw[qAB hk,pure_bind]
theorem zJo(h:∀x∈scope.names,x.2= .free->∃c,env.cells.lookup x.1=some c):closureFor scope env=pure (clOf env scope.names []):=by
 unfold closureFor;have e:=zEh (env:=env) scope.names [] h
 first
  |exact e
  |(refine Eq.trans ?_ e;rfl)
  |(rw[bind_pure];exact e)
  |simpa using e
theorem zEn :∀{l:List (Str×NameKind)} {cs:List (Str×Addr)},(∀y d,cs.lookup y=some d->env.cells.lookup y=some d)->(clOf env l cs).lookup x=some c->env.cells.lookup x=some c
 |[],cs,h,e=>h x c e
 |(n,k)::r,cs,h,e=>by
  unfold clOf at e
  by_cases hk:(k==NameKind.free)=true
  .rw [qAC hk]at e
   cases q:env.cells.lookup n with
   |none=>rw[q]at e;exact zEn h e
   |some d=>
    rw[q]at e;refine zEn (λy z hy=>?_) e;rw[qBO]at hy
    cases hyn:y==n with
    |true=>
     rw[hyn]at hy;have:y=n:=by simpa using hyn
     subst this;rw[q];exact hy
    |false=>rw[hyn]at hy;exact h y z hy
  .rw [qAB hk]at e;exact zEn h e
theorem zEo(hx:env.cells.lookup x=some c):∀{l:List (Str×NameKind)} {cs:List (Str×Addr)},cs.lookup x=some c->(clOf env l cs).lookup x=some c
 |[],_,h=>h
 |(n,k)::r,cs,h=>by
  unfold clOf
  by_cases hk:(k==NameKind.free)=true
  .rw [qAC hk]
   cases q:env.cells.lookup n with
   |none=>exact zEo hx h
   |some d=>
    refine zEo hx ?_;rw[qBO]
    cases hxn:x==n with
    |true=>
     have:x=n:=by simpa using hxn
     subst this;rw[<-q,hx]
    |false=>exact h
  .rw [qAB hk];exact zEo hx h
theorem zFm(hx:env.cells.lookup x=some c):∀{l:List (Str×NameKind)} {cs:List (Str×Addr)},(x,NameKind.free)∈l->(clOf env l cs).lookup x=some c
 |[],_,h=>nomatch h
 |(n,k)::r,cs,h=>by
  unfold clOf;rcases qAL.mp h with e|h
  .cases e
   rw[qAC (show(NameKind.free==NameKind.free)=true by decide),hx];exact zEo hx (by rw[qBO];simp)
  .by_cases hk:(k==NameKind.free)=true
   .rw [qAC hk]
    cases q:env.cells.lookup n with
    |none=>exact zFm hx h
    |some d=>exact zFm hx h
   .rw [qAB hk];exact zFm hx h
theorem zD5 :∀{l:List (Str×NameKind)} {n:Nat} {acc:List (Str×Addr)},(∀y∈l,y.2= .cell->y.1≠x)->(cellsFrom n l acc).lookup x=acc.lookup x
 |[],_,_,_=>rfl
 |(y,k)::r,n,acc,h=>by
  have hr:∀z∈r,z.2= .cell->z.1≠x:=λz hz=>h z (qAU _ hz);unfold cellsFrom;split
  .rename_i hk;rw[zD5 hr,qBO]
   have:(x==y)=false:=by
    have:=h (y,k) qAX (by simpa using hk);exact qA0.mpr (λz=>this z.symm)
   rw[this]
  .exact zD5 hr
theorem zCn :∀{l:List (Str×NameKind)} {n:Nat} {acc:List (Str×Addr)},(cellsFrom n l acc).lookup x=some c->acc.lookup x=some c\/(n<=c/\(x,NameKind.cell)∈l)
 |[],_,_,h=>.inl h
 |(y,k)::r,n,acc,h=>by
  unfold cellsFrom at h;split at h
  .rename_i hk;have hk':k= .cell:=by simpa using hk
   rcases zCn h with z|⟨z1,z2⟩
   .rw [qBO]at z
    cases hx:x==y with
    |true=>
     rw[hx]at z;have e:n=c:=qAW z;have e2:x=y:=by simpa using hx
     subst e2;subst hk';exact .inr ⟨qCE e,qAX⟩
    |false=>rw[hx]at z;exact .inl z
   .exact .inr ⟨qAf (qBc _) z1,qAU _ z2⟩
  .rcases zCn h with z|⟨z1,z2⟩
   .exact .inl z
   .exact .inr ⟨z1,qAU _ z2⟩
theorem zD6:∀{l:List (Str×NameKind)} {n:Nat} {acc:List (Str×Addr)},(∀x y c,acc.lookup x=some c->acc.lookup y=some c->x=y)->(∀z d,acc.lookup z=some d->d<n)->∀x y c,(cellsFrom n l acc).lookup x=some c->(cellsFrom n l acc).lookup y=some c->x=y
 |[],_,_,p,_=>p
 |(w,k)::r,n,acc,p,lt=>by
  unfold cellsFrom;split
  .refine zD6 (l:=r) (n:=n+1) (acc:=(w,n)::acc) (λx y c h1 h2=>?_) (λz d h=>?_)
   .rw [qBO]at h1 h2
    cases hx:x==w with
    |true=>
     rw[hx]at h1;have e1:n=c:=qAW h1
     cases hy:y==w with
     |true=>exact(by simpa using hx:x=w).trans (by simpa using hy:y=w).symm
     |false=>
      rw[hy]at h2;have:=lt y c h2;rw[<-e1]at this;exact absurd this (qAv _)
    |false=>
     rw[hx]at h1
     cases hy:y==w with
     |true=>
      rw[hy]at h2;have e2:n=c:=qAW h2;have:=lt x c h1;rw[<-e2]at this;exact absurd this (qAv _)
     |false=>rw[hy]at h2;exact p x y c h1 h2
   .rw [qBO]at h
    cases hz:z==w with
    |true=>
     rw[hz]at h;have e:n=d:=qAW h;rw[<-e];exact qCF _
    |false=>
     rw[hz]at h;exact qCL (lt z d h)
  .exact zD6 p lt
theorem zDn :∀{l:List (Str×NameKind)} {h:Heap} {acc:List (Str×Addr)},(∀y d,acc.lookup y=some d->∃v,h.IsCell d v)->(cellsFrom h.objs.size l acc).lookup x=some c->∃v,(pushCells h l).IsCell c v
 |[],_,_,hA,e=>hA x c e
 |(y,k)::r,h,acc,hA,e=>by
  unfold cellsFrom at e;unfold pushCells;split at e
  .rename_i hk;rw[qAC hk];have hs:(h.push {cls:=.type "cell",data:=.cell none}:Heap).objs.size=h.objs.size+1:=qBU ..;rw[<-hs]at e;refine zDn (λz d hz=>?_) e;rw[qBO]at hz
   cases hzy:z==y with
   |true=>
    rw[hzy]at hz;have e:h.objs.size=d:=qAW hz;subst e;exact⟨none,_,qAc _ rfl,rfl⟩
   |false=>
    rw[hzy]at hz;obtain⟨v,o,ho,hd⟩:=hA z d hz;exact⟨v,o,qAI _ ho,hd⟩
  .rename_i hk;rw[qAB hk];exact zDn hA e
theorem zE3{M:Model}{A:Around}{E:Value->Shared->Prop}{s:Shared}{globals:Addr}{cl:List (Str×Addr)}{qual:Str}{outer:Env}{Q:Env->Shared->Prop}
  (h:Q (newEnv scope s.heap.objs.size globals (cellsFrom (s.heap.objs.size+1) scope.names cl) qual none .none (some outer) builtinsNs) {s with heap:=pushCells (s.heap.push {cls:=.type "dict",data:=.dict #[]}) scope.names}) :
  wpAny M A (newFunctionEnv scope globals cl [] qual none .none (some outer)) Q E s:=by
 simp only[newFunctionEnv,Option.isSome_some,if_true];refine qAA (wpAny_alloc ?_);refine qAA (wpAny_layCells _ (λname kind cells=>by cases hkc:kind==NameKind.cell<;>simp[hkc]) _ _ _ _ ?_);rw[show({s with heap:=s.heap.push {cls:=.type "dict",data:=.dict #[]}}:Shared).heap.objs.size=s.heap.objs.size+1 from qBU ..];rw[List.forIn_nil];exact qAA (qAD (qAD h))
theorem zFl :∀{l:List (Str×NameKind)} {cs:List (Str×Addr)},(∀y∈l,y.2= .free->y.1≠x)->(clOf env l cs).lookup x=cs.lookup x
 |[],_,_=>rfl
 |(n,k)::r,cs,h=>by
  have hr:∀z∈r,z.2= .free->z.1≠x:=λz hz=>h z (qAU _ hz);unfold clOf
  by_cases hk:(k==NameKind.free)=true
  .rw [qAC hk];have nx:(x==n)=false:=qA0.mpr λz=>h (n,k) qAX (by simpa using hk) z.symm
   cases q:env.cells.lookup n with
   |none=>exact zFl hr
   |some d=>
    rw[show(clOf env r ((n,d)::cs)).lookup x=((n,d)::cs).lookup x from zFl hr,qBO,nx]
  .rw [qAB hk];exact zFl hr
def Cx.block(X:Cx)(scope:Scope)(C:Addr)(s₀:Shared)(H₀:Hp)(ex:List Addr)(N:List Str):Cx where
 prog:=X.prog
 w:=X.w
 K:=X.K
 mg:=X.mg
 base:=X.base
 A:=X.A
 N:=N
 s₀:=s₀
 H₀:=H₀
 env:=compEnvC scope (cellsFrom (C+1) scope.names (clOf X.env scope.names [])) C X.env
 outer:=X.stack
 stack:=X.stack
 ex:=ex
 fn:=λx=>scope.names.lookup x==some .cell
 calm:=X.calm
 pn:=[]
 xe:=λ_ _=>False
structure BlkSc(X:Cx)(scope:Scope):Prop where
 kind:scope.kind= .function
 apart:∀y∈scope.names,∀z∈scope.names,y.2= .cell->z.2= .free->y.1≠z.1
 owns:∀y∈scope.names,y.2= .cell->scope.names.lookup y.1=some .cell
 free:∀y∈scope.names,y.2= .free->X.env.kindOf y.1=some .cell\/X.env.kindOf y.1=some .free
 locs:∀y∈scope.names,y.2= .local->scope.names.lookup y.1=some .local
theorem zC7{scope:Scope}{k:NameKind}:∀{l:List (Str×NameKind)}, 
  (l.map λ(n,k)=>if(k==NameKind.free&&env.scope.kind== .function&&env.kindOf n==some .cell)then(n,NameKind.cell)else(n,k)).lookup x=some k ->
  k= .cell\/k= .free->∃k',(x,k')∈l/\(k'= .cell\/k'= .free)
 |[],h,_=>by simp at h
 |(n,j)::r,h,hk=>by
  have h:List.lookup x ((if(j==NameKind.free&&env.scope.kind== .function&&env.kindOf n==some .cell)=true then(n,NameKind.cell)else(n,j))::(r.map λ(n,k)=>if(k==NameKind.free&&env.scope.kind== .function&&env.kindOf n==some .cell)then(n,NameKind.cell)else(n,k)))=some k:=h
  by_cases hc:(j==NameKind.free&&env.scope.kind== .function&&env.kindOf n==some .cell)=true
  .rw [qAC hc,qBO]at h
   have hj:j= .free:=by
    simp only[qA3]at hc;simpa using hc.1.1
   cases hx:x==n with
   |true=>
    have:x=n:=by simpa using hx
    subst this;exact⟨j,qAX,.inr hj⟩
   |false=>
    rw[hx]at h;obtain⟨k',m,q⟩:=zC7 (scope:=scope) h hk;exact⟨k',qAU _ m,q⟩
  .rw [qAB hc,qBO]at h
   cases hx:x==n with
   |true=>
    rw[hx]at h;have e:j=k:=qAW h;have:x=n:=by simpa using hx
    subst this;exact⟨j,qAX,by rw[e];exact hk⟩
   |false=>
    rw[hx]at h;obtain⟨k',m,q⟩:=zC7 (scope:=scope) h hk;exact⟨k',qAU _ m,q⟩
inductive Draws(X:Cx)(scope:Scope):List Str->List (Option Nat)->Prop
 |nil:Draws X scope [] []
 |own {x:Str} {N:List Str} {ix:List (Option Nat)}:Draws X scope N ix->Draws X scope (x::N) (Option.none::ix)
 |tk {x:Str} {N:List Str} {ix:List (Option Nat)} {i:Nat} (hN:X.N[i]?=some x) (hv:Vis X.env.scope x) (hk:(relabel scope X.env).names.lookup x=some .cell\/(relabel scope X.env).names.lookup x=some .free) (hf:(x,NameKind.free)∈scope.names) :
   Draws X scope N ix->Draws X scope (x::N) (some i::ix)
def zB0(σ:St)(ix:List (Option Nat)):St:=ix.map λo=>o.bind λi=>(σ[i]?).join
theorem Draws.len{N:List Str}{ix:List (Option Nat)}(D:Draws X scope N ix):ix.length=N.length:=by
 induction D with
 |nil=>rfl
 |own _ ih=>simp[ih]
 |tk _ _ _ _ _ ih=>simp[ih]
theorem Draws.get{N:List Str}{ix:List (Option Nat)}{σ:St}(D:Draws X scope N ix):∀(j:Nat)(x:Str)(v:V),N[j]?=some x->(zB0 σ ix)[j]?=some (some v) ->
  ∃(i:Nat),X.N[i]?=some x/\σ[i]?=some (some v)/\Vis X.env.scope x/\((relabel scope X.env).names.lookup x=some .cell\/(relabel scope X.env).names.lookup x=some .free)/\(x,NameKind.free)∈scope.names:=by
 induction D with
 |nil=>intro j x v h;simp at h
 |own d ih=>
  intro j x v h1 h2
  cases j with
  |zero=>simp[zB0]at h2
  |succ j=>exact ih j x v (by simpa using h1) (by simpa[zB0]using h2)
 |@tk y N ix i hN hv hk hf d ih=>
  intro j x v h1 h2
  cases j with
  |zero=>
   have e:y=x:=by simpa using h1
   subst e;refine⟨i,hN,?_,hv,hk,hf⟩;have h2:((σ[i]?).join)=some v:=by simpa[zB0]using h2
   cases q:σ[i]? with
   |none=>rw[q]at h2;cases h2
   |some o=>rw[q]at h2;exact qAj some h2
  |succ j=>exact ih j x v (by simpa using h1) (by simpa[zB0]using h2)
section
variable{X:Cx}{pins:List (Addr×Obj)}{σ:St}{H:Hp}{s:Shared}{scope:Scope}{N:List Str}{ix:List (Option Nat)}{fp:List Addr}
theorem Inv.nostk(I:Inv X pins σ H s){b:Addr}(h1:b≠X.env.locals)(h2:b∉X.fs):b∉frs X.stack:=λz=>(qAL.mp (I.stkSub b z)).elim h1 h2
theorem Inv.blockStart{h':Heap}{tk:Nat}{m:Str->Option Value}(I:Inv X pins σ H s)(B:BlkSc X scope)(D:Draws X scope N ix)(hfp:∀b∈fp,FpOk X pins H b)(hfo:∀b∈fp,∃o,s.heap.get? b=some o)
  (hns:h'.Ns s.heap.objs.size m) (hk:∀b o,s.heap.get? b=some o->h'.get? b=some o) (hcl:∀x c,(cellsFrom (s.heap.objs.size+1) scope.names (clOf X.env scope.names [])).lookup x=some c->∃v,h'.IsCell c v) :
  Inv (X.block scope s.heap.objs.size s H fp N) (X.pn++pins) (zB0 σ ix) H {s with heap:=h',toks:=tk}:=by
 have sub:∀{x:Str}{c:Addr},(clOf X.env scope.names []).lookup x=some c->X.env.cells.lookup x=some c:=λ{x c} e=>zEn (λy d z=>by simp at z) e
 have old:∀{x:Str}{c:Addr},(clOf X.env scope.names []).lookup x=some c->c<s.heap.objs.size:=λ{x c} e=>by
  obtain⟨v,o,ho,_⟩:=I.cell x c (sub e);exact qAJ ho
 have two:∀{x:Str}{c:Addr},(cellsFrom (s.heap.objs.size+1) scope.names (clOf X.env scope.names [])).lookup x=some c->X.env.cells.lookup x=some c\/s.heap.objs.size<c:=λ{x c} e=>by
  rcases zCn e with z|⟨z,_⟩
  .exact .inl (sub z)
  .exact .inr z
 have own:∀{x:Str},(x,NameKind.free)∈scope.names->(cellsFrom (s.heap.objs.size+1) scope.names (clOf X.env scope.names [])).lookup x=(clOf X.env scope.names []).lookup x:=λ{x} hx=>zD5 λy hy e=>B.apart y hy _ hx e rfl
 have okB:(X.block scope s.heap.objs.size s H fp N).Ok:=by
  refine⟨I.ok.mod,B.kind,I.ok.glob,I.ok.blt,qAG _,zD6 (λx y c h1 h2=>I.ok.inj x y c (sub h1) (sub h2)) (λz d h=>qCL (old h)),λx hx=>?_,(λx c z e=>?_),I.ok.hd,I.ok.frames,.inl rfl,λb hb=>⟨?_,λx c e=>?_⟩,I.bs,qAf I.ok.bsz I.sz,λb o e hb=>?_,λb hb=>I.nostk (hfp b hb).2.1 (hfp b hb).2.2.1,I.stack,I.stkFree⟩
  .have hx':(relabel scope X.env).names.lookup x=some .cell\/(relabel scope X.env).names.lookup x=some .free:=hx
   have key:∃k',(x,k')∈scope.names/\(k'= .cell\/k'= .free):=by
    rcases hx' with e|e
    .exact zC7 (scope:=scope) e (.inl rfl)
    .exact zC7 (scope:=scope) e (.inr rfl)
   obtain⟨k',m1,q⟩:=key;rcases q with q|q
   .subst q;exact Option.isSome_iff_exists.mp (qDO _ _ _ (.inl (B.owns _ m1 rfl)))
   .subst q;obtain⟨c,hc⟩:=I.ok.has x (B.free _ m1 rfl);exact⟨c,(own m1).trans (zFm hc m1)⟩
  .rcases zCn e with q|⟨q,_⟩
   .have z:scope.names.lookup x=some .cell:=by
     have z:(scope.names.lookup x==some NameKind.cell)=true:=z;simpa using z
    have hm:=qCG z;have:(x,NameKind.free)∈scope.names\/True:=.inr trivial
    exact absurd q (by
     rw[zFl (λy hy e1 e2=>B.apart _ hm y hy rfl e1 e2.symm)];intro h;cases h)
   .exact qBh q
  .obtain ⟨o,e⟩:=hfo b hb;exact qAR (qAJ e)
  .rcases two e with z|z
   .exact (hfp b hb).2.2.2.2.1 x c z
   .obtain ⟨o,e⟩:=hfo b hb;exact qBH (Nat.lt_trans (qAJ e) z)
  .rcases (hfp b hb).2.2.2.1 with z|z
   .exact I.ok.noex b o e z
   .exact absurd (qAi (qAJ (I.ok.bs b o e).1) z) (qAv _)
 refine⟨okB,rfl,I.bare,Un.kept hk,⟨m,hns,λj x v h1 h2 h3=>?_⟩,λx c e=>?_,I.hok.fresh (qAG _),λx c e=>(two e).elim (λz=>I.freeC x c z) (λz=>I.hok.fresh (qBh z)),λp hp=>?_,I.hok.kept hk,?_⟩
 .obtain ⟨i,e1,e2,vis,kd,fr⟩:=D.get j x v h1 h2;obtain⟨m0,hn0,hl⟩:=I.loc;obtain⟨u,r,l⟩:=hl i x v e1 e2 vis;refine⟨u,r,?_⟩;rcases l with⟨k,_⟩|⟨_,c,hc,o,ho,hd⟩
  .rcases B.free _ fr rfl with z|z
   .have z:X.env.kindOf x=some .cell:=z;rw[k]at z;cases z
   .have z:X.env.kindOf x=some .free:=z;rw[k]at z;cases z
  .exact .inr ⟨kd,c,(own fr).trans (zFm hc fr),o,hk c o ho,hd⟩
 .exact hcl x c e
 .have hp':p∈X.pn++pins:=by simpa[Cx.block]using hp
  obtain⟨e,n,ne,nf,d⟩:=I.pin p hp';exact⟨hk _ _ e,n,qAR (qAJ e),I.nostk ne nf,d⟩
 .show (zB0 σ ix).length=N.length;unfold zB0;rw[qAE];exact D.len
end
def PTs(X:Cx)(ifs:List Expr)(t:TT):Prop :=
 ∀(pins:List (Addr×Obj)) (s:Shared) (σ:St) (H:Hp) (Q:Bool->Hp->Prop),Inv X pins σ H s->t σ H Q ->
  wpAny (model X.prog X.w) X.A (forIn ifs true λc r=>if r=true then do let ok<-isTrue c X.env (eval c X.env);pure (ForInStep.yield ok)else pure (ForInStep.yield r)) (TP X pins σ Q) X.xe s
def zIi:TT:=λ_ H Q=>Q true H
theorem zB6 :PTs X [] zIi:=λ_ _ _ H _ I h=>wpAny_tests_nil ⟨H,I,h⟩
theorem zEz{c:Expr}{t:TT}(h:PT X c t):PTs X [c] t:=λpins s σ H Q I hw=>wpAny_tests_one (h pins s σ H Q I hw)
theorem comp_loop{prog:Program}{w:World}{A:Around}{R:Result->Shared->Prop}{s:Shared}{elt target iter:Expr}{ifs:List Expr}{scope:Scope}{pos:Pos}{it acc:Value}{env:Env}(I:Nat->Shared->Prop)
  (turn:∀n s,I n s->wpAny (model prog w) A (pyNext it) (fun r s₁=>match r with
   |none=>R (.ok .next) s₁
   |some v=>wpAny (model prog w) A (letOwnedTupleGo target it v) (λ_ s₁'=>wpAny (model prog w) A (assign target env v) (λ_ s₂ =>
     wpAny (model prog w) A (forIn ifs true λc r=>if r=true then do let ok<-isTrue c env (eval c env);pure (ForInStep.yield ok)else pure (ForInStep.yield r)) (λok s₃ =>
      if ok=true then wpAny (model prog w) A (eval elt env) (λx s₄ =>
       wpAny (model prog w) A (call (.builtin "list.append") [acc,x]) (λ_ s₅=>∃m,m<n/\I m s₅) (λ_ _=>False) s₄) (λ_ _=>False) s₃
      else∃m,m<n/\I m s₃) (λ_ _=>False) s₂) (λ_ _=>False) s₁') (λ_ _=>False) s₁) (λ_ _=>False) s)
  (n:Nat) (h:I n s) :
  codeAny (model prog w) A (.compLoop (.ListComp elt [⟨target,iter,ifs,0⟩] scope pos) 0 it acc env) R s:=by
 refine codeAny_loop rfl I (λn s hI=>?_) n h;show wpAny _ A ((compTurn (.ListComp elt [⟨target,iter,ifs,0⟩] scope pos) 0 it acc env).onRaise (λx=>do noteFrame x env;theTreesLotGoes x)) _ _ s;refine wpAny_noted ?_;rw[compTurn_list];refine qAA (qBw (qAA (qAs (turn n s hI) (λr s₁ h₁=>?_) λ_ _ h'=>h'.elim)))
 cases r with
 |none=>exact qAD h₁
 |some v=>
  refine qAA (qAs h₁ (λ_ s₁' h₁'=>?_) λ_ _ h'=>h'.elim);refine qAA (qAs h₁' (λ_ s₂ h₂=>qAA (qAs h₂ (λok s₃ h₃=>?_) λ_ _ h'=>h'.elim)) λ_ _ h'=>h'.elim)
  cases ok with
  |false=>exact qAD ⟨rfl,h₃⟩
  |true=>
   exact qAA (qAA (qAs h₃ (λx s₄ h₄=>qAA (qAs h₄ (λ_ s₅ h₅=>qAD (qAD ⟨rfl,h₅⟩)) λ_ _ h'=>h'.elim)) λ_ _ h'=>h'.elim))
def tComp(wi:TI)(ix:List (Option Nat))(g:TG)(tt:TT)(te:TE):TE:=λσ H Q=>wi σ H λJ H1=>∀D,H1 D=none->∃W:Nat->Nat->List V->St->Hp->Prop,
 (∃m,W 0 m [] (zB0 σ ix) (upd H1 D (.lst [])))/\∀i m ys τ H2,W i m ys τ H2 ->
  (J.stop i H2/\Q (.ref D) H2)\/(J.go i H2/\∃N:List V->St->Hp->Prop,(∀ys' τ' H',N ys' τ' H'->∃m',m'<m/\W (i+1) m' ys' τ' H')/\∀x H3,J.yld i H2 x H3->g x τ H3 λτ' H4=>tt τ' H4 λb H5=>if b=true then te τ' H5 λv H6=>H6 D=some (.lst ys)/\ys.length<sizeLine/\N (ys++[v]) τ' (upd H6 D (.lst (ys++[v]))) else N ys τ' H5)
theorem block_loop{Y:Cx}{J:It}{fp:List Addr}{it D:Addr}{tn:Nat->Heap->Prop}{P:List (Addr×Obj)}{W:Nat->Nat->List V->St->Hp->Prop}{m0:Nat}
  {R:Result->Shared->Prop} {QD:Hp->Prop} {s4:Shared} {τ0:St} {H4:Hp}
  (hc:Y.calm=true) (hx:∀e s,Y.xe e s->False) (hg:PG Y tg g) (ht:PTs Y ifs tt) (he:PE Y elt te) (T:Turn Y.prog Y.w Y.K tg J fp it tn)
  (stat:∀{H':Hp},(∀b∈fp,H' b=none)->∀b∈fp,FpOk Y P H' b)
  (turn:∀i m ys τ H2,W i m ys τ H2->(J.stop i H2/\QD H2)\/(J.go i H2/\∃N:List V->St->Hp->Prop,(∀ys' τ' H',N ys' τ' H'->∃m',m'<m/\W (i+1) m' ys' τ' H')/\∀x H3,J.yld i H2 x H3->g x τ H3 fun τ' H4=>tt τ' H4 fun b H5 =>
   if b=true then te τ' H5 λv H6=>H6 D=some (.lst ys)/\ys.length<sizeLine/\N (ys++[v]) τ' (upd H6 D (.lst (ys++[v])))
   else N ys τ' H5))
  (fin:∀τ H' s',Inv Y P τ H' s'->QD H'->R (.ok .next) s')
  (I0:Inv Y P τ0 H4 s4) (t0:tn 0 s4.heap) (n0:∀b∈fp,H4 b=none) (w0:W 0 m0 [] τ0 H4) :
  codeAny (model Y.prog Y.w) Y.A (.compLoop (.ListComp elt [⟨tg,iter,ifs,0⟩] scope pos) 0 (.ref it) (.ref D) Y.env) R s4:=by
 have nx:∀{α:Type}{t:Sem α}{Q:α->Shared->Prop}{s:Shared},wpAny (model Y.prog Y.w) Y.A t Q Y.xe s->wpAny (model Y.prog Y.w) Y.A t Q (λ_ _=>False) s:=λh=>qAs h (λ_ _ q=>q) hx;refine comp_loop (λn s'=>∃i ys τ H',Inv Y P τ H' s'/\tn i s'.heap/\(∀b∈fp,H' b=none)/\W i n ys τ H') ?_ m0 ⟨0,[],τ0,H4,I0,t0,n0,w0⟩;rintro n s5 ⟨i,ys,τ,H5,I5,st5,fr5,w5⟩;rcases turn i n ys τ H5 w5 with⟨stop,q⟩|⟨go,N,hN,step⟩
 .refine thn (T.done Y rfl rfl rfl hc i P s5 τ H5 _ I5 (stat fr5) st5 stop) λr s6 ⟨hr,I6⟩=>?_;subst hr;exact fin τ H5 s6 I6 q
 .refine thn (T.item Y rfl rfl rfl hc i P s5 τ H5 _ I5 (stat fr5) st5 go) λr s6 ⟨u,hr,h6⟩=>?_;subst hr;refine thn h6 λ_ s7 ⟨x,H7,I7,r7,y7,st7,fr7⟩=>?_;have I7':=I7.pinned (stat fr7) (T.obj _ _ st7);refine nx (thn (hg _ s7 τ H7 x u _ I7' r7 (step x H7 y7)) λ_ s8 ⟨τ8,H8,I8,q8⟩=>?_);refine nx (thn (ht _ s8 τ8 H8 _ I8 q8) λok s9 ⟨H9,I9,q9⟩=>?_)
  have again:∀{ys':List V}{H':Hp}{s':Shared},Inv Y (P++pinsAt fp s7.heap) τ8 H' s'->(∃m',m'<n/\W (i+1) m' ys' τ8 H')->∃m,m<n/\∃i ys τ H',Inv Y P τ H' s'/\tn i s'.heap/\(∀b∈fp,H' b=none)/\W i m ys τ H':=λ{ys' H' s'} I' ⟨m',hm,w'⟩=>by
   refine⟨m',hm,i+1,ys',τ8,H',I'.unpinned,T.keep _ _ _ st7 λb hb o e=>(I'.pin (b,o) (qAt _ (qAt _ (zEl hb e)))).1,λb hb=>?_,w'⟩;obtain⟨o,e,d⟩:=T.obj _ _ st7 b hb;exact(I'.pin (b,o) (qAt _ (qAt _ (zEl hb e)))).2.1
  cases ok with
  |false=>
   rw[qAB qAh]at q9 ⊢;exact again I9 (hN _ _ _ q9)
  |true=>
   rw[qAC rfl]at q9 ⊢;refine nx (thn (he _ s9 τ8 H9 _ I9 q9) λy s10 ⟨v,H10,I10,r10,hD,hz,w10⟩=>?_);refine nx (thn (zDu (X:=Y) _ s10 τ8 H10 (.ref D) [v] (.ref D) [y] (λ_ H'=>H'=upd H10 D (.lst (ys++[v]))) I10 rfl (.cons r10 .nil) ⟨D,ys,v,rfl,rfl,hD,hz,rfl⟩) λ_ s11 ⟨z,H11,I11,_,e11⟩=>?_);subst e11;exact again I11 (hN _ _ _ w10)
theorem run_comp{pos p1:Pos}{N:List Str}{ix:List (Option Nat)}{pins:List (Addr×Obj)}{s:Shared}{σ:St}{H:Hp}{Q:VK}{use:Option (Value->Sem Unit)}
  {Z:Value->Shared->Prop}
  (hc:X.calm=true) (B:BlkSc X scope) (Dr:Draws X scope N ix) (hi:PI X tg iter wi)
  (hg:∀C s₀ H₀ ex,PG (X.block scope C s₀ H₀ ex N) tg g) (ht:∀C s₀ H₀ ex,PTs (X.block scope C s₀ H₀ ex N) ifs tt) (he:∀C s₀ H₀ ex,PE (X.block scope C s₀ H₀ ex N) elt te)
  (hs:∀x,foldedSetIterable iter X.env x=pure x)
  (I:Inv X pins σ H s) (h:tComp wi ix g tt te σ H Q)
  (fin:∀(D C:Addr) (H':Hp) (s':Shared) (m:Str->Option Value),Inv X pins σ H' s'->Q (.ref D) H'->s'.heap.Ns C m->(∀h',Heap.SameBut C s'.heap h'->Inv X pins σ H' {s' with heap:=h'})->C≠X.env.locals->(∀x c,X.env.cells.lookup x=some c->c≠C)->H' C=none ->
   (∀p∈X.pn++pins,p.1≠C)->X.s₀.heap.objs.size<=C->compPost (model X.prog X.w) X.A X.xe use Z (.ref D) C (.ok .next) s') :
  wpAny (model X.prog X.w) X.A (comprehension (.ListComp elt [⟨tg,iter,ifs,0⟩] scope pos) scope X.env p1 (newList []) false (eval iter X.env) use) Z X.xe s:=by
 have hfree:∀x∈scope.names,x.2= .free->∃c,X.env.cells.lookup x.1=some c:=λx hx e=>I.ok.has _ (B.free x hx e);refine wpAny_comprehension_free (use:=use) rfl hs (zJo hfree) B.kind B.locs ?_;refine thn (hi pins s σ H _ I h) λv s1 h1=>thn h1 λitv s2 h2=>?_;obtain⟨it,fp,tn,J,H2,e,I2,T,st2,f2,R⟩:=h2;subst e;have hDf:H2 s2.heap.objs.size=none:=I2.hok.fresh (qAG _);obtain⟨W,⟨m0,w0⟩,turn⟩:=R _ hDf;refine qBm ?_ (by show(0:Nat)<=sizeLine;exact qAe _);have I3:Inv X pins σ (upd H2 s2.heap.objs.size (.lst [])) {s2 with heap:=s2.heap.push {cls:=.type "list",data:=.seq ([]:List Value).toArray}}:=I2.lnew (t':=s2.toks) (ys:=[]) (its:=[]) .nil (qAe _);generalize hD:s2.heap.objs.size=D at *
 have fpo:∀b∈fp,∃o,s2.heap.get? b=some o:=λb hb=>let⟨o,q,_⟩:=T.obj _ _ st2 b hb;⟨o,q⟩
 have fpD:∀b∈fp,b≠D:=λb hb=>by
  obtain⟨o,q⟩:=fpo b hb;rw[<-hD];exact qAR (qAJ q)
 have f3:∀b∈fp,FpOk X pins (upd H2 D (.lst [])) b:=λb hb=>⟨by rw[upd_ne (fpD b hb)];exact(f2 b hb).1,(f2 b hb).2⟩;generalize hs3:({s2 with heap:=s2.heap.push {cls:=.type "list",data:=.seq ([]:List Value).toArray}}:Shared)=s3 at I3 ⊢;have k23:∀b o,s2.heap.get? b=some o->s3.heap.get? b=some o:=λb o q=>by rw[<-hs3];exact qAI _ q
 have fpo3:∀b∈fp,∃o,s3.heap.get? b=some o:=λb hb=>let⟨o,q⟩:=fpo b hb;⟨o,k23 b o q⟩;have st3:tn 0 s3.heap:=T.keep _ _ _ st2 λb hb o q=>k23 b o q;refine zE3 ?_;have k34:∀b o,s3.heap.get? b=some o->(pushCells (s3.heap.push {cls:=.type "dict",data:=.dict #[]}) scope.names).get? b=some o:=λb o q=>pushCells_keeps _ _ b o (qAI _ q);have hns4:(pushCells (s3.heap.push {cls:=.type "dict",data:=.dict #[]}) scope.names).Ns s3.heap.objs.size (λ_=>none):=(Heap.Ns.new s3.heap (.type "dict")).keeps (pushCells_keeps _ _)
 have hcl4:∀x c,(cellsFrom (s3.heap.objs.size+1) scope.names (clOf X.env scope.names [])).lookup x=some c->∃v,(pushCells (s3.heap.push {cls:=.type "dict",data:=.dict #[]}) scope.names).IsCell c v:=λx c e=>by
  refine zDn (h:=s3.heap.push {cls:=.type "dict",data:=.dict #[]}) (acc:=clOf X.env scope.names []) (λy d hy=>?_) (by rw[qBU];exact e);obtain⟨v,o,ho,hd⟩:=I3.cell y d (zEn (λy d z=>by simp at z) hy);exact⟨v,o,qAI _ ho,hd⟩
 have IB:=I3.blockStart (tk:=s3.toks) B Dr f3 fpo3 hns4 k34 hcl4;generalize hh4:pushCells (s3.heap.push {cls:=.type "dict",data:=.dict #[]}) scope.names=h4 at *
 generalize hC:s3.heap.objs.size=C at *
 have hCX:X.s₀.heap.objs.size<=C:=by rw[<-hC];exact I3.sz
 have CL:C≠X.env.locals:=by rw[<-hC];exact qBH I3.lt
 have Cc:∀x c,X.env.cells.lookup x=some c->c≠C:=λx c q=>by
  obtain⟨v,o,ho,_⟩:=I3.cell x c q;rw[<-hC];exact qAR (qAJ ho)
 have Cp:∀p∈X.pn++pins,p.1≠C:=λp hp=>by
  rw[<-hC];exact qAR (qAJ (I3.pin p hp).1)
 have fpC:∀b∈fp,b≠C:=λb hb=>by
  obtain⟨o,q⟩:=fpo3 b hb;rw[<-hC];exact qAR (qAJ q)
 have stat:∀{H':Hp},(∀b∈fp,H' b=none)->∀b∈fp,FpOk (X.block scope C s3 (upd H2 D (.lst [])) fp N) (X.pn++pins) H' b:=λ{H'} hn b hb=>by
  obtain⟨_,q1,q2,q3,q4,q5⟩:=f2 b hb;exact⟨hn b hb,fpC b hb,I3.nostk q1 q2,.inl hb,λx c e=>(zCn e).elim (λz=>q4 x c (zEn (λy d z=>by simp at z) z)) (λz=>by obtain⟨o,q⟩:=fpo3 b hb;have:=qAJ q;rw[hC]at this;exact qBH (qAi (qCL this) z.1)),λp hp=>q5 p (by simpa[Cx.block]using hp)⟩
 have st4:tn 0 h4:=T.keep _ _ _ st3 λb hb o q=>k34 b o q;have n4:∀b∈fp,(upd H2 D (.lst [])) b=none:=λb hb=>(f3 b hb).1
 have loop:=block_loop (Y:=X.block scope C s3 (upd H2 D (.lst [])) fp N) (iter:=iter) (pos:=pos) (scope:=scope) (D:=D) (R:=compPost (model X.prog X.w) X.A X.xe use Z (.ref D) C) hc (λ_ _ z=>z) (hg C s3 _ fp) (ht C s3 _ fp) (he C s3 _ fp) T stat turn
  (fun τ H' s' I' q=>by
   have I5:Inv X pins σ H' s':=I3.call' (ch:=fp) I'.os I'.base I'.hok I'.bare λb hb=>by
    obtain⟨_,q1,q2,q3,q4,q5⟩:=f2 b hb;exact⟨q3,q1,q4,q5⟩
   obtain⟨m,hn,_⟩:=I'.loc;have hC0:H' C=none:=I'.free;exact fin D C H' s' m I5 q hn (λh'' hs''=>I5.turned (t':=s'.toks) (λb o hb e=>hs''.extBut b o hb e) hC0 CL (.inr hCX) Cc Cp) CL Cc hC0 Cp hCX) IB st4 n4 w0
 exact codeAny_compStart_list loop (T.self _ 0 _ _ _ st4 loop)
theorem zBs{N:List Str}{ix:List (Option Nat)}(hc:X.calm=true)(B:BlkSc X scope)(Dr:Draws X scope N ix)(hi:PI X tg iter wi)
  (hg:∀C s₀ H₀ ex,PG (X.block scope C s₀ H₀ ex N) tg g) (ht:∀C s₀ H₀ ex,PTs (X.block scope C s₀ H₀ ex N) ifs tt) (he:∀C s₀ H₀ ex,PE (X.block scope C s₀ H₀ ex N) elt te)
  (hs:∀x,foldedSetIterable iter X.env x=pure x:=by intro _;rfl):PE X (.ListComp elt [⟨tg,iter,ifs,0⟩] scope pos) (tComp wi ix g tt te):=by
 intro pins s σ H Q I h;rw[eval_ListComp];exact run_comp (use:=none) hc B Dr hi hg ht he hs I h λD C H' s' m I' q hn k _ _ _ _ _=>⟨m,hn,λh' hs'=>⟨.ref D,H',k h' hs',rfl,q⟩⟩
theorem zG4{spos py:Pos}{N:List Str}{ix:List (Option Nat)}{i:Nat}{y:Str}(hc:X.calm=true)(B:BlkSc X scope)(Dr:Draws X scope N ix)(hi:PI X tg iter wi)
  (hg:∀C s₀ H₀ ex,PG (X.block scope C s₀ H₀ ex N) tg g) (ht:∀C s₀ H₀ ex,PTs (X.block scope C s₀ H₀ ex N) ifs tt) (he:∀C s₀ H₀ ex,PE (X.block scope C s₀ H₀ ex N) elt te)
  (hN:X.N.Nodup) (hy:X.N[i]?=some y) (hl:X.env.scope.names.lookup y=some .local)
  (hsw:swapsWith (.ListComp elt [⟨tg,iter,ifs,0⟩] scope pos) (some (.Name y py)) spos.line X.env=pure true:=by rfl)
  (hs:∀x,foldedSetIterable iter X.env x=pure x:=by intro _;rfl):PS X (.Assign [.Name y py] (.ListComp elt [⟨tg,iter,ifs,0⟩] scope pos) spos) (tAsg (tComp wi ix g tt te) (gName i)):=by
 intro pins s σ H Dn I h;rw[exec_Assign_Name_used _ _ _ _ hsw];refine qAA (qBw (qAA ?_));show wpAny _ X.A (do let _<-comprehension (.ListComp elt [⟨tg,iter,ifs,0⟩] scope pos) scope X.env _ (newList []) false (eval iter X.env) (some (assign (.Name y py) X.env))) _ _ s;refine qAA (thn (run_comp (use:=some (assign (.Name y py) X.env)) (Z:=λ_ s'=>SP X pins Dn .next s') hc B Dr hi hg ht he hs I h λD C H' s' m I' q hn k CL Cc C0 Cp CX=>?_) λ_ s' hq=>qAD (qAD hq));show wpAny _ _ (assign (.Name y py) X.env (.ref D)) _ _ s';refine wpAny_assign_Name (store_ok2 I' hN hy (.inl hl) (v:=.ref D) rfl (λs'' I'' ⟨a,sb,ha⟩=>?_) (.inr hl))
 have aC:C≠a:=by
  rcases ha with z|z
  .rw [z];exact CL
  .exact (Cc _ _ z).symm
 exact⟨m,hn.sameBut sb aC,λh' hs'=>⟨_,H',I''.turned (t':=s''.toks) (λb o hb e=>hs'.extBut b o hb e) C0 CL (.inr CX) Cc Cp,q⟩⟩
theorem comp_by{J:It}{ix:List (Option Nat)}{Q:VK}{σ:St}{H1:Hp}{D:Addr}(xs:List V)(Pv:Nat->List V->St->Hp->Prop)(h0:Pv 0 [] (zB0 σ ix) (upd H1 D (.lst [])))
  (hJ:∀i ys τ H,Pv i ys τ H->(∀x,xs[i]?=some x->J.go i H/\∀y H',J.yld i H y H'->H'=H/\y=x)/\(i=xs.length->J.stop i H))
  (hs:∀i x ys τ H,xs[i]?=some x->Pv i ys τ H->g x τ H λτ' H4=>tt τ' H4 λb H5=>if b=true then te τ' H5 λv H6=>H6 D=some (.lst ys)/\ys.length<sizeLine/\Pv (i+1) (ys++[v]) τ' (upd H6 D (.lst (ys++[v])))else Pv (i+1) ys τ' H5)
  (hd:∀ys τ H,Pv xs.length ys τ H->Q (.ref D) H) :
  ∃W:Nat->Nat->List V->St->Hp->Prop,(∃m,W 0 m [] (zB0 σ ix) (upd H1 D (.lst [])))/\∀i m ys τ H2,W i m ys τ H2 ->
   (J.stop i H2/\Q (.ref D) H2)\/(J.go i H2/\∃N:List V->St->Hp->Prop,(∀ys' τ' H',N ys' τ' H'->∃m',m'<m/\W (i+1) m' ys' τ' H')/\∀x H3,J.yld i H2 x H3->g x τ H3 λτ' H4=>tt τ' H4 λb H5=>if b=true then te τ' H5 λv H6=>H6 D=some (.lst ys)/\ys.length<sizeLine/\N (ys++[v]) τ' (upd H6 D (.lst (ys++[v]))) else N ys τ' H5):=by
 refine⟨λi m ys τ H=>m=xs.length-i/\i<=xs.length/\Pv i ys τ H,⟨xs.length,by simp,qAe _,h0⟩,?_⟩;rintro i m ys τ H ⟨rfl,hi,p⟩;obtain⟨j1,j2⟩:=hJ i ys τ H p
 by_cases hlt:i<xs.length
 .have hx:xs[i]?=some xs[i]:=by simp[hlt]
  obtain⟨go,yl⟩:=j1 _ hx;refine .inr ⟨go,Pv (i+1),λys' τ' H' p'=>⟨xs.length-(i+1),by lia,rfl,hlt,p'⟩,λy H' yd=>?_⟩;obtain⟨e1,e2⟩:=yl y H' yd;subst e1 e2;exact hs i _ ys τ _ hx p
 .have e:i=xs.length:=by lia
  subst e;exact .inl ⟨j2 rfl,hd ys τ H p⟩
def blkOk(scope sc:Scope):Bool:=(scope.kind== .function)&&(scope.names.all (λy=>scope.names.all λz=>y.2 != .cell||z.2 != .free||y.1 != z.1)&&scope.names.all (λy=>y.2 != .cell||scope.names.lookup y.1==some .cell))&&scope.names.all (λy=>y.2 != .free||sc.names.lookup y.1==some .cell||sc.names.lookup y.1==some .free)&&scope.names.all (λy=>y.2 != .local||scope.names.lookup y.1==some .local)
theorem zBt{scope sc:Scope}(hsc:X.env.scope=sc)(h:blkOk scope sc=true):BlkSc X scope:=by
 unfold blkOk at h;simp only[qA3,qA4,Bool.or_eq_true]at h;obtain⟨⟨⟨h1,h2,h5⟩,h3⟩,h4⟩:=h;refine⟨by simpa using h1,λy hy z hz e1 e2=>?_,λy hy e=>?_,λy hy e=>?_,λy hy e=>?_⟩
 .rcases h2 y hy z hz with(q|q)|q
  .rw [e1]at q;simp at q
  .rw [e2]at q;simp at q
  .simpa using q
 .rcases h5 y hy with q|q
  .rw [e]at q;simp at q
  .simpa using q
 .have q:=h3 y hy;show X.env.scope.names.lookup y.1=some .cell\/X.env.scope.names.lookup y.1=some .free;rw[hsc];rcases q with(q|q)|q
  .rw [e]at q;simp at q
  .exact .inl (by simpa using q)
  .exact .inr (by simpa using q)
 .have q:=h4 y hy;rcases q with q|q
  .rw [e]at q;simp at q
  .simpa using q
def relS(scope sc:Scope):Scope:={scope with names:=scope.names.map λ(n,k)=>if(k== .free&&sc.kind== .function&&sc.names.lookup n==some .cell)then(n,.cell)else(n,k)}
theorem blk_in{e0:Env}{outer scope sc:Scope}(hX:X.env.scope=relabel outer e0)(h0:e0.scope=sc)(h:blkOk scope (relS outer sc)=true):BlkSc X scope :=
 zBt (sc:=relS outer sc) (by rw[hX];subst h0;rfl) h
def Its(z:Str):It:=⟨λi _=>i<z.cps.size,λi H x H'=>H'=H/\∃c,z.cps[i]?=some c/\x= .str ⟨#[c]⟩,λi _=>z.cps.size<=i⟩
theorem turn_str{P:Program}{w:World}{K:PySem.W.Frag}(it:Addr)(z:Str)(t:Tok)(ty:String)(hty:ty="str_ascii_iterator"\/ty="str_iterator"):Turn P w K tg (Its z) [it] it (λi h=>h.IsStrIter it ty z t i) where
 mem:=by simp
 obj:=λi h st b hb=>by
  have e:b=it:=by simpa using hb
  subst e;obtain⟨o,e,c,d⟩:=st;exact⟨o,e,λv z=>by rw[d]at z;cases z⟩
 keep:=λi h h' st k=>by
  obtain⟨o,e,c,d⟩:=st;exact⟨o,k it (by simp) o e,c,d⟩
 item:=by
  intro X hP hw hK hc i pins s σ H E I hf st hg;subst hP hw hK;obtain⟨f0,f1,f2,f3,f4,f5⟩:=hf it (by simp);have hlt:i<z.cps.size:=hg;have hx:z.cps[i]?=some z.cps[i]:=by simp[hlt]
  have fin:∀h':Heap,h'.IsStrIter it ty z t (i+1)->Heap.SameBut it s.heap h'->∃u,some (Value.str ⟨#[z.cps[i]]⟩ s.toks)=some u /\
    wpAny (model X.prog X.w) X.A (letOwnedTupleGo tg (.ref it) u) (λ_ s2=>∃x H',Inv X pins σ H' s2/\RelV x u/\(Its z).yld i H x H'/\s2.heap.IsStrIter it ty z t (i+1)/\∀b∈[it],H' b=none) E {s with heap:=h',toks:=s.toks+1}:=λh' st' sb=>by
   have I1:Inv X pins σ H {s with heap:=h',toks:=s.toks+1}:=I.turned (t':=s.toks+1) (λb o hb e=>(sb.2 b hb).trans e) f0 f1 f3 f4 f5;obtain⟨o,e,c,d⟩:=id st';exact⟨_,rfl,go_of (s:={s with heap:=h',toks:=s.toks+1}) e c d (by rcases hty with rfl|rfl<;>decide) ⟨.str ⟨#[z.cps[i]]⟩,H,I1,⟨_,rfl⟩,⟨rfl,_,hx,rfl⟩,st',λb hb=>(hf b hb).1⟩⟩
  rcases hty with rfl|rfl
  .exact wpAny_pyNext_ascii_item st hx fin
  .exact wpAny_pyNext_wide_item st hx fin
 done:=by
  intro X hP hw hK hc i pins s σ H E I hf st hg;subst hP hw hK;obtain⟨f0,f1,f2,f3,f4,f5⟩:=hf it (by simp);have hle:z.cps.size<=i:=hg;have hx:z.cps[i]?=none:=by simp[hle]
  have fin:∀h':Heap,Heap.ExtBut it s.heap h'->(none:Option Value)=none/\Inv X pins σ H {s with heap:=h'}:=λh' eb=>⟨rfl,I.turned (t':=s.toks) (λb o hb e=>eb b o hb e) f0 f1 f3 f4 f5⟩;rcases hty with rfl|rfl
  .exact wpAny_pyNext_ascii_end (I.ok.hd hc) st hx fin
  .exact wpAny_pyNext_wide_end (I.ok.hd hc) st hx fin
 self:=λ_ _ _ _ _ st h=>by
  rcases hty with rfl|rfl
  .exact wpAny_pyIter_striter_ascii st h
  .exact wpAny_pyIter_striter_wide st h
def iStr(tl:TE):TI:=λσ H R=>tl σ H λx H1=>∃z,x= .str z/\R (Its z) H1
theorem pi_str{l:Expr}{tl:TE}(hl:PE X l tl):PI X tg l (iStr tl):=by
 intro pins s σ H R I h;refine thn (hl pins s σ H _ I h) λv s1 ⟨x,H1,I1,r1,q1⟩=>?_;obtain⟨z,e,q⟩:=q1;subst e;obtain⟨t,rfl⟩:=r1
 have fin:∀(ty:String),(ty="str_ascii_iterator"\/ty="str_iterator")->PIE X pins σ tg R (.ref s1.heap.objs.size) {s1 with heap:=s1.heap.push {cls:=.type ty,data:=.fields #[.str z t,.int 0 0]}}:=λty hty=>
  ⟨s1.heap.objs.size,[s1.heap.objs.size],_,_,H1,rfl,I1.kept (t':=s1.toks) λb o e=>qAI _ e,turn_str _ z t ty hty,⟨_,qAc _ rfl,rfl,rfl⟩,λb hb=>by
   have e:b=s1.heap.objs.size:=by simpa using hb
   subst e;exact I1.fpOk (qAG _) (I1.hok.fresh (qAG _)),q⟩
 cases ha:z.cps.all (·<128)
 .exact wpAny_pyIter_wide ha (fin _ (.inr rfl))
 .exact wpAny_pyIter_ascii ha (fin _ (.inl rfl))
theorem bls_get{bs:List Bool}{its:List Value}(r:Vals (bs.map V.bl) its){i:Nat}{v:Value}(h:its[i]?=some v):v= .bool (bs.getD i false)/\i<bs.length:=by
 have hl:=r.length;rw[qAE]at hl;have hi:i<its.length:=(qAg.mp h).1;have hb:i<bs.length:=by lia
 have e:(bs.map V.bl)[i]?=some (V.bl bs[i]):=by simp[hb]
 obtain⟨u,hu,ru⟩:=r.get e;rw[h]at hu
 cases hu
 refine⟨?_,hb⟩;have:v= .bool bs[i]:=ru;rw[this,qAx];simp[hb]
theorem all_range(bs:List Bool):(List.range bs.length).all (λi=>bs.getD i false)=bs.all id:=by
 rw[qBk];simp only[qA4,qAw];constructor
 .intro h x hx;obtain⟨i,hi,rfl⟩:=qA5.mp hx;have:=h i hi;simpa[qAx,hi]using this
 .intro h i hi;have:=h bs[i] (qBD hi);simpa[qAx,hi]using this
theorem any_range(bs:List Bool):(List.range bs.length).any (λi=>bs.getD i false)=bs.any id:=by
 rw[qBk];simp only[qBn,qAw];constructor
 .rintro ⟨i,hi,h⟩;exact⟨bs[i],qBD hi,by simpa[qAx,hi]using h⟩
 .rintro ⟨x,hx,h⟩;obtain⟨i,hi,rfl⟩:=qA5.mp hx;exact⟨i,hi,by simpa[qAx,hi]using h⟩
theorem zGk(X:Cx)(hc:X.calm=true):zCq X (.builtin "all") (λxs H Q=>∃(p:Addr)(bs:List Bool),xs=[.ref p]/\SqL X.K H p (bs.map V.bl)/\Q (.bl (bs.all id)) H):=by
 intro pins s σ H xs us Q I rv h;obtain⟨p,bs,rfl,hq,q⟩:=h;obtain⟨u,rfl,ru⟩:=rv.one
 cases ru
 obtain⟨its,r,pl,hz⟩:=I.list hq;have hl:=r.length;rw[qAE]at hl;refine call_all_walk (qCe pl.isList ?_);have hp:p<s.heap.objs.size:=by obtain⟨o,n,e,_⟩:=pl;exact qAJ e
 have I1:Inv X pins σ H {s with heap:=s.heap.push {cls:=.type "list_iterator",data:=.fields #[.ref p,.int 0 0]}}:=I.kept (t':=s.toks) λb o e=>qAI _ e;refine⟨s.heap.objs.size,_,_,_,_,_,λi=>bs.getD i false,rfl,Walks.list (A:=X.A.in1) (show X.A.in1.handled=none from I.ok.hd hc) s.heap.objs.size p (qAR hp) its.toArray,⟨⟨_,qAc _ rfl,rfl,rfl⟩,pl.isList.at λo e=>qAI _ e⟩,?_,λh' tk hk=>?_⟩
 .intro i v s' E' Q' hv hq';obtain⟨rfl,_⟩:=bls_get r (by simpa using hv);exact qBG hq'
 .have e:(List.range its.toArray.size).all (λi=>bs.getD i false)=bs.all id:=by
   rw[qAK,<-hl];exact all_range bs
  refine⟨.bl (bs.all id),H,?_,by rw[e];rfl,q⟩;obtain⟨f0,f1,f2,f3,f4,f5⟩:=I.fpOk (b:=s.heap.objs.size) (qAG _) (I.hok.fresh (qAG _));exact I1.turned (t':=tk) (λb o hb e=>hk b o (by simpa using hb) e) f0 f1 f3 f4 f5
theorem call_any(X:Cx)(hc:X.calm=true):zCq X (.builtin "any") (λxs H Q=>∃(p:Addr)(bs:List Bool),xs=[.ref p]/\SqL X.K H p (bs.map V.bl)/\Q (.bl (bs.any id)) H):=by
 intro pins s σ H xs us Q I rv h;obtain⟨p,bs,rfl,hq,q⟩:=h;obtain⟨u,rfl,ru⟩:=rv.one
 cases ru
 obtain⟨its,r,pl,hz⟩:=I.list hq;have hl:=r.length;rw[qAE]at hl;refine call_any_walk (qCe pl.isList ?_);have hp:p<s.heap.objs.size:=by obtain⟨o,n,e,_⟩:=pl;exact qAJ e
 have I1:Inv X pins σ H {s with heap:=s.heap.push {cls:=.type "list_iterator",data:=.fields #[.ref p,.int 0 0]}}:=I.kept (t':=s.toks) λb o e=>qAI _ e;refine⟨s.heap.objs.size,_,_,_,_,_,λi=>bs.getD i false,rfl,Walks.list (A:=X.A.in1) (show X.A.in1.handled=none from I.ok.hd hc) s.heap.objs.size p (qAR hp) its.toArray,⟨⟨_,qAc _ rfl,rfl,rfl⟩,pl.isList.at λo e=>qAI _ e⟩,?_,λh' tk hk=>?_⟩
 .intro i v s' E' Q' hv hq';obtain⟨rfl,_⟩:=bls_get r (by simpa using hv);exact qBG hq'
 .have e:(List.range its.toArray.size).any (λi=>bs.getD i false)=bs.any id:=by
   rw[qAK,<-hl];exact any_range bs
  refine⟨.bl (bs.any id),H,?_,by rw[e];rfl,q⟩;obtain⟨f0,f1,f2,f3,f4,f5⟩:=I.fpOk (b:=s.heap.objs.size) (qAG _) (I.hok.fresh (qAG _));exact I1.turned (t':=tk) (λb o hb e=>hk b o (by simpa using hb) e) f0 f1 f3 f4 f5
theorem zA6 :zCq X (.builtin "isinstance") (λxs H Q=>∃x n t b,xs=[x,.ty n]/\TyOf X.K H x t/\PySem.W.kitOne X.K t (.type n)=some b/\Q (.bl b) H):=by
 intro pins s σ H xs us Q I rv h;obtain⟨x,n,t,b,rfl,ty,e,q⟩:=h;obtain⟨u,c,rfl,rx,rc⟩:=rv.two
 cases (show c=Value.type n from rc)
 exact isinst_ok I rx ty e λtk=>⟨.bl b,H,I.tok tk,rfl,q⟩
theorem call_isC :zCq X (.builtin "isinstance") (λxs H Q=>∃x C t b,xs=[x,.ref C]/\TyOf X.K H x t/\PySem.W.kitOne X.K t (.ref C)=some b/\Q (.bl b) H):=by
 intro pins s σ H xs us Q I rv h;obtain⟨x,n,t,b,rfl,ty,e,q⟩:=h;obtain⟨u,c,rfl,rx,rc⟩:=rv.two
 cases (show c=Value.ref n from rc)
 exact isinst_ok I rx ty e λtk=>⟨.bl b,H,I.tok tk,rfl,q⟩
theorem op_le_str :OpR X (compareOp .LtE) (λx y H Q=>∃i j,x= .str i/\y= .str j/\Q (.bl (!(decide (j.cps.toList<i.cps.toList)))) H):=by
 intro pins s σ H x y v u Q I rx ry h;obtain⟨i,j,rfl,rfl,q⟩:=h;obtain⟨t,rfl⟩:=rx;obtain⟨t',rfl⟩:=ry;exact PySem.P.le_str ⟨.bl _,H,I,rfl,q⟩
theorem zH5 :OpR X (binaryOp .Mult) (λx y H Q=>∃i n,x= .str i/\y= .int n/\MulOk i n/\Q (.str (Txt.mul i n)) H):=by
 intro pins s σ H x y v u Q I rx ry h;obtain⟨i,n,rfl,rfl,ok,q⟩:=h;obtain⟨t,rfl⟩:=rx;obtain⟨t',rfl⟩:=ry;exact SB.mul ok λt' k=>⟨.str _,H,I.tok _,⟨_,rfl⟩,q⟩
inductive Alike(K:PySem.W.Frag)(H:Hp):Nat->V->V->Prop
 |flat {n:Nat} {x:V} (fx:zDm x=true):Alike K H n x x
 |same {n:Nat} {a:Addr}:Alike K H n (.ref a) (.ref a)
 |lists {n:Nat} {a b:Addr} {xs ys:List V} (hx:SqL K H a xs) (hy:SqL K H b ys) (hl:xs.length=ys.length) (he:∀(i:Nat)(x y:V),xs[i]?=some x->ys[i]?=some y->Alike K H n x y):Alike K H (n+1) (.ref a) (.ref b)
 |tups {n:Nat} {a b:Addr} {xs ys:List V} (hx:SqT K H a xs) (hy:SqT K H b ys) (hl:xs.length=ys.length) (he:∀(i:Nat)(x y:V),xs[i]?=some x->ys[i]?=some y->Alike K H n x y):Alike K H (n+1) (.ref a) (.ref b)
theorem eqV_refl{x:V}(h:zDm x=true):eqV x x=true:=by
 cases x<;>simp[eqV]<;>simp[zDm]at h
section
variable{X:Cx}{pins:List (Addr×Obj)}{σ:St}{H:Hp}{s:Shared}
theorem zGm(n:Nat):(List.range n).all (λ_=>true)=true:=by simp
theorem alike_at(I:Inv X pins σ H s){x y:V}(h:Alike X.K H n x y):∀{u v:Value}{A:Around},RelV x u->RelV y v->A.units+n<cLine->SeqAt.EqAt A s u v true:=by
 induction h with
 |flat fx=>
  intro u v A ru rv _;have q:=eqAt_V (A:=A) (s:=s) ru rv fx fx
  rwa [eqV_refl fx]at q
 |same=>
  intro u v A ru rv _
  cases ru
  cases rv
  exact qCg _
 |@lists n a b xs ys hx hy hl he ih=>
  intro u v A ru rv hu
  cases ru
  cases rv
  by_cases ab:a=b
  .subst ab;exact qCg _
  .obtain ⟨its,r,pl,hz⟩:=I.list hx;obtain⟨its2,r2,pl2,hz2⟩:=I.list hy;have e1:=r.length;have e2:=r2.length
   have q:=SeqAt.RcAt.lists (A:=A) (s:=s) (e:=λ_=>true) pl.isList pl2.isList (by rw[qAK,qAK];lia) (by lia) (λj h1 h2=>by
    rw[qAK]at h1 h2;have hjx:xs[j]?=some (xs[j]'(by lia)):=by simp
    have hjy:ys[j]?=some (ys[j]'(by lia)):=by simp
    obtain⟨u1,q1,ru1⟩:=r.get hjx;obtain⟨v1,q2,rv1⟩:=r2.get hjy
    have e3:its.toArray[j]=u1:=by
     have:its[j]?=some its[j]:=by simp
     rw[this]at q1;simpa using q1
    have e4:its2.toArray[j]=v1:=by
     have:its2[j]?=some its2[j]:=by simp
     rw[this]at q2;simpa using q2
    rw[e3,e4];exact ih j _ _ hjx hjy ru1 rv1 (by show A.units+1+n<cLine;lia))
   rw[zGm]at q;exact SeqAt.EqAt.of_refs ab q
 |@tups n a b xs ys hx hy hl he ih=>
  intro u v A ru rv hu
  cases ru
  cases rv
  by_cases ab:a=b
  .subst ab;exact qCg _
  .obtain ⟨its,r,pl,hz⟩:=I.tuple hx;obtain⟨its2,r2,pl2,hz2⟩:=I.tuple hy;have e1:=r.length;have e2:=r2.length
   have q:=SeqAt.RcAt.tuples (A:=A) (s:=s) (e:=λ_=>true) (show s.heap.IsTuple a its.toArray from pl) (show s.heap.IsTuple b its2.toArray from pl2) (by lia) (λj h1 h2=>by
    rw[qAK]at h1 h2;have hjx:xs[j]?=some (xs[j]'(by lia)):=by simp
    have hjy:ys[j]?=some (ys[j]'(by lia)):=by simp
    obtain⟨u1,q1,ru1⟩:=r.get hjx;obtain⟨v1,q2,rv1⟩:=r2.get hjy
    have e3:its.toArray[j]=u1:=by
     have:its[j]?=some its[j]:=by simp
     rw[this]at q1;simpa using q1
    have e4:its2.toArray[j]=v1:=by
     have:its2[j]?=some its2[j]:=by simp
     rw[this]at q2;simpa using q2
    rw[e3,e4];exact ih j _ _ hjx hjy ru1 rv1 (by show A.units+1+n<cLine;lia))
   rw[zGm,Bool.true_and,qAK,qAK,<-e1,<-e2,hl,beq_self_eq_true]at q;exact SeqAt.EqAt.of_refs ab q
theorem zHn(I:Inv X pins σ H s){xs ys:List V}{its its2:List Value}{A:Around}(r:Vals xs its)(r2:Vals ys its2)(he:∀(i:Nat)(x y:V),xs[i]?=some x->ys[i]?=some y->Alike X.K H n x y)(hu:A.units+n<cLine) :
  ∀j (h1:j<its.toArray.size) (h2:j<its2.toArray.size),SeqAt.EqAt A s its.toArray[j] its2.toArray[j] true:=λj h1 h2=>by
 have e1:=r.length;have e2:=r2.length;rw[qAK]at h1 h2;have hjx:xs[j]?=some (xs[j]'(by lia)):=by simp
 have hjy:ys[j]?=some (ys[j]'(by lia)):=by simp
 obtain⟨u1,q1,ru1⟩:=r.get hjx;obtain⟨v1,q2,rv1⟩:=r2.get hjy
 have e3:its.toArray[j]=u1:=by
  have:its[j]?=some its[j]:=by simp
  rw[this]at q1;simpa using q1
 have e4:its2.toArray[j]=v1:=by
  have:its2[j]?=some its2[j]:=by simp
  rw[this]at q2;simpa using q2
 rw[e3,e4];exact alike_at I (he j _ _ hjx hjy) ru1 rv1 hu
end
def zH2(K:PySem.W.Frag)(n:Nat)(b:Bool):R2:=λx y H Q=>∃a c xs ys,x= .ref a/\y= .ref c/\SqL K H a xs/\SqL K H c ys/\xs.length=ys.length/\(∀(i:Nat)(x y:V),xs[i]?=some x->ys[i]?=some y->Alike K H n x y)/\Q (.bl b) H
def rUnlen(K:PySem.W.Frag)(b:Bool):R2:=λx y H Q=>∃a c xs ys,x= .ref a/\y= .ref c/\SqL K H a xs/\SqL K H c ys/\xs.length≠ys.length/\Q (.bl b) H
section
variable{X:Cx}
theorem op_eqA(hu:X.A.units+1+n<cLine):OpR X (compareOp .Eq) (zH2 X.K n true):=by
 intro pins s σ H x y v u Q I rx ry h;obtain⟨a,c,xs,ys,rfl,rfl,hx,hy,hl,he,q⟩:=h
 cases rx
 cases ry
 obtain⟨its,r,pl,hz⟩:=I.list hx;obtain⟨its2,r2,pl2,hz2⟩:=I.list hy;have e1:=r.length;have e2:=r2.length;refine SeqAt.eq_listAt (e:=λ_=>true) pl.isList pl2.isList (by rw[qAK,qAK];lia) (by lia) (zHn I r r2 he (by show X.A.units+1+n<cLine;lia)) ?_;rw[zGm];exact⟨.bl true,H,I,rfl,q⟩
theorem op_neA(hu:X.A.units+1+n<cLine):OpR X (compareOp .NotEq) (zH2 X.K n false):=by
 intro pins s σ H x y v u Q I rx ry h;obtain⟨a,c,xs,ys,rfl,rfl,hx,hy,hl,he,q⟩:=h
 cases rx
 cases ry
 obtain⟨its,r,pl,hz⟩:=I.list hx;obtain⟨its2,r2,pl2,hz2⟩:=I.list hy;have e1:=r.length;have e2:=r2.length;refine SeqAt.RcNeAt.lists (e:=λ_=>true) pl.isList pl2.isList (by rw[qAK,qAK];lia) (by lia) (zHn I r r2 he (by show X.A.units+1+n<cLine;lia)) X.prog X.w X.xe _ ?_;rw[zGm];exact⟨.bl false,H,I,rfl,q⟩
theorem op_eqU(hu:X.A.units<cLine):OpR X (compareOp .Eq) (rUnlen X.K false):=by
 intro pins s σ H x y v u Q I rx ry h;obtain⟨a,c,xs,ys,rfl,rfl,hx,hy,hl,q⟩:=h
 cases rx
 cases ry
 obtain⟨its,r,pl,hz⟩:=I.list hx;obtain⟨its2,r2,pl2,hz2⟩:=I.list hy;have e1:=r.length;have e2:=r2.length;exact SeqAt.eq_list_lengthsAt pl.isList pl2.isList (by rw[qAK,qAK];simp;lia) hu ⟨.bl false,H,I,rfl,q⟩
theorem OpR.either{f:Value->Value->Sem Value}{r r':R2}(h:OpR X f r)(h':OpR X f r'):OpR X f (λx y H Q=>r x y H Q\/r' x y H Q):=by
 intro pins s σ H x y v u Q I rx ry q;rcases q with q|q
 .exact h pins s σ H x y v u Q I rx ry q
 .exact h' pins s σ H x y v u Q I rx ry q
end
end L2
namespace SM
open PySem PySem.StrLaws PySem.Builtin PySem.Builtin.Str
end SM
namespace L2
open PySem PySem.Spec PyProof.Rows
variable{M:List Addr}{H H1 H':Hp}{a D:Addr}{σ:St}{ix:List (Option Nat)}{g:TG}{tt:TT}{te:TE}{QD:Hp->Prop}
structure Cal(P:Program)(w:World)(K:PySem.W.Frag)(mg:Str->Option Value)(base:Heap)(x:Str)(k:Nat)(ps:List Str)(sp:Sp):Prop where
 to:∃(f:Addr)(fd:FuncData),mg x=some (.ref f)/\PySem.W.keepIn K (.ref f)=true/\zCe K fd ps []/\FnOk P w K mg base CX0 k f fd ps sp
theorem zAj{X:Cx}{x:Str}{k:Nat}{ps:List Str}{sp:Sp}{e:Expr}{es:List Expr}{p pos:Pos}{t:TA}(C:Cal X.prog X.w X.K X.mg X.base x k ps sp)(hr:Room k X.A)(hg:Gl X x)(ha:PA X (e::es) t)
  (hdb:(x==("__debug__": Str))=false:=by decide) (he:starEach (e::es) X.env=(false,eval e X.env)::starEach es X.env:=by rfl) (hpl:(backTo pos (starEach es X.env)).any (·.1)=false:=by rfl) :
  PE X (.Call (.Name x p) (e::es) [] pos) (tCall sp [] E0 t):=by
 obtain⟨f,fd,h1,h2,h3,h4⟩:=C.to;exact pe_call h4 hr hg h1 h2 h3 .nil pass0 ha hdb he hpl
theorem bo_max:bootBuiltins "max"=some (.builtin "max"):=by decide +kernel
theorem bo_min:bootBuiltins "min"=some (.builtin "min"):=by decide +kernel
theorem bo_all:bootBuiltins "all"=some (.builtin "all"):=by decide +kernel
theorem bo_any:bootBuiltins "any"=some (.builtin "any"):=by decide +kernel
theorem zAf:bootBuiltins "isinstance"=some (.builtin "isinstance"):=by decide +kernel
theorem bo_sorted:bootBuiltins "sorted"=some (.builtin "sorted"):=by decide +kernel
theorem zBr:bootBuiltins "len"=some (.builtin "len"):=by decide +kernel
theorem bo_int:bootBuiltins "int"=some (.type "int"):=by decide +kernel
theorem zIh:bootBuiltins "str"=some (.type "str"):=by decide +kernel
theorem zCi:bootBuiltins "list"=some (.type "list"):=by decide +kernel
theorem zGl:bootBuiltins "tuple"=some (.type "tuple"):=by decide +kernel
theorem bo_dict:bootBuiltins "dict"=some (.type "dict"):=by decide +kernel
theorem bo_set:bootBuiltins "set"=some (.type "set"):=by decide +kernel
theorem bo_bool:bootBuiltins "bool"=some (.type "bool"):=by decide +kernel
theorem bo_reversed:bootBuiltins "reversed"=some (.type "reversed"):=by decide +kernel
def Fre(H:Hp)(l:Addr):Prop:=H l=none
def Kp(M:List Addr)(H H':Hp):Prop:=∀b o,H b=some o->b∉M->H' b=some o
theorem Kp.refl :Kp M H H:=λ_ _ h _=>h
theorem Kp.trans{H2:Hp}(a:Kp M H H1)(b:Kp M H1 H2):Kp M H H2:=λc o h n=>b c o (a c o h n) n
theorem Kp.weak{M':List Addr}(k:Kp M H H')(s:∀b,b∈M->b∈M'):Kp M' H H':=λb o h n=>k b o h λz=>n (s b z)
theorem Kp.of0(k:Kp [] H H'):Kp M H H':=λb o h _=>k b o h (by simp)
theorem Kp.new{M:List Addr}{l:Addr}{o:HO}(k:Kp M H H')(f:Fre H l):Kp M H (upd H' l o):=λb u h n=>by
 rw[upd_ne (zAi h f)];exact k b u h n
theorem Kp.put{l:Addr}{o:HO}(k:Kp M H H')(f:l∈M):Kp M H (upd H' l o):=λb u h n=>by
 rw[upd_ne (by intro e;subst e;exact n f)];exact k b u h n
theorem Kp.fre{l:Addr}(k:Kp M H H')(f:Fre H' l)(n:l∉M):Fre H l:=by
 unfold Fre
 cases q:H l with
 |none=>rfl
 |some o=>
  have:=k l o q n;unfold Fre at f;rw[f]at this;cases this
theorem Kp.at0(k:Kp [] H H'):Same H H':=λb o h=>k b o h (by simp)
theorem Kp.seq{K:PySem.W.Frag}{xs:List V}(e:Kp [] H H')(h:SqL K H a xs):SqL K H' a xs:=e.at0.seq h
theorem ne_fre{b:Addr}{o:HO}(f:Fre H b)(h:H a=some o):a≠b:=zAi h f
theorem nm1{b:Addr}(h:a≠b):a∉[b]:=by simpa using h
theorem zA9{α:Type}{xs:List α}{i:Int}{v:α}(h0:0<=i)(h:xs[i.toNat]?=some v):atI xs i=some v:=by
 have hl:i.toNat<xs.length:=(qAg.mp h).1;unfold atI ixN;rw[qAC h0,qAC (by lia)];exact h
theorem hu2{A:Around}{k n:Nat}(hr:Room k A)(h:n<=60:=by decide):A.units+1+n<cLine:=by
 have:=hr.units;lia
theorem hu0{A:Around}{k:Nat}(hr:Room k A):A.units<cLine:=by
 have:=hr.units;lia
theorem op_eqL{X:Cx}{k:Nat}(hr:Room k X.A):OpR X (compareOp .Eq) (λx y H Q=>zH2 X.K 8 true x y H Q\/rUnlen X.K false x y H Q):=(op_eqA (hu2 hr)).either (op_eqU (hu0 hr))
theorem op_neL{X:Cx}{k:Nat}(hr:Room k X.A):OpR X (compareOp .NotEq) (zH2 X.K 8 false):=op_neA (hu2 hr)
theorem zB8{K:PySem.W.Frag}{t:Value}(h:(t==t)=true:=by rfl):PySem.W.kitOne K t t=some true:=by
 unfold PySem.W.kitOne;rw[qAC h]
theorem empty_app(x:Str):Str.empty++x=x:=Str.append_left_empty (by rfl)
theorem zIn{t u:TS}{D:Ends}(Mid:St->Hp->Prop)(h1:∀N:St->Hp->Prop,(∀σ H,Mid σ H->N σ H)->t {D with nx:=N} σ H)(h2:∀σ H,Mid σ H->u D σ H):tSeq t u D σ H:=h1 (u D) h2
theorem if_mid{tb:TS}{D:Ends}{b:Bool}(Mid:St->Hp->Prop)(h1:∀N:St->Hp->Prop,(∀σ H,Mid σ H->N σ H)->if b=true then tb {D with nx:=N} σ H else N σ H)(h2:∀σ H,Mid σ H->D.nx σ H) :
  if b=true then tb D σ H else tNext D σ H:=h1 D.nx h2
theorem zEg{K:PySem.W.Frag}{tt:TT}(xs:List V)(Pv:Nat->List V->St->Hp->Prop)(h0:Pv 0 [] (zB0 σ ix) (upd H1 D (.lst [])))
  (hl:∀i ys τ H,Pv i ys τ H->SqL K H a xs)
  (hs:∀i x ys τ H,xs[i]?=some x->Pv i ys τ H->g x τ H λτ' H4=>tt τ' H4 λb H5=>if b=true then te τ' H5 λv H6=>H6 D=some (.lst ys)/\ys.length<sizeLine/\Pv (i+1) (ys++[v]) τ' (upd H6 D (.lst (ys++[v])))else Pv (i+1) ys τ' H5)
  (hd:∀ys τ H,Pv xs.length ys τ H->QD H) :
  ∃W:Nat->Nat->List V->St->Hp->Prop,(∃m,W 0 m [] (zB0 σ ix) (upd H1 D (.lst [])))/\∀i m ys τ H2,W i m ys τ H2 ->
   ((Itl K a).stop i H2/\QD H2)\/((Itl K a).go i H2/\∃N:List V->St->Hp->Prop,(∀ys' τ' H',N ys' τ' H'->∃m',m'<m/\W (i+1) m' ys' τ' H')/\∀x H3,(Itl K a).yld i H2 x H3->g x τ H3 λτ' H4=>tt τ' H4 λb H5=>if b=true then te τ' H5 λv H6=>H6 D=some (.lst ys)/\ys.length<sizeLine/\N (ys++[v]) τ' (upd H6 D (.lst (ys++[v]))) else N ys τ' H5):=by
 refine comp_by (Q:=λ_ H=>QD H) xs Pv h0 (λi ys τ H p=>⟨λx hx=>⟨⟨xs,x,hl i ys τ H p,hx⟩,λy H' yl=>?_⟩,λe=>⟨xs,hl i ys τ H p,by lia⟩⟩) hs hd;obtain⟨e,z⟩:=yl;subst e;have:=z xs (hl i ys τ _ p);rw[hx]at this;exact⟨rfl,(qAW this).symm⟩
theorem comp_tup{K:PySem.W.Frag}{tt:TT}(xs:List V)(Pv:Nat->List V->St->Hp->Prop)(h0:Pv 0 [] (zB0 σ ix) (upd H1 D (.lst [])))
  (hl:∀i ys τ H,Pv i ys τ H->SqT K H a xs)
  (hs:∀i x ys τ H,xs[i]?=some x->Pv i ys τ H->g x τ H λτ' H4=>tt τ' H4 λb H5=>if b=true then te τ' H5 λv H6=>H6 D=some (.lst ys)/\ys.length<sizeLine/\Pv (i+1) (ys++[v]) τ' (upd H6 D (.lst (ys++[v])))else Pv (i+1) ys τ' H5)
  (hd:∀ys τ H,Pv xs.length ys τ H->QD H) :
  ∃W:Nat->Nat->List V->St->Hp->Prop,(∃m,W 0 m [] (zB0 σ ix) (upd H1 D (.lst [])))/\∀i m ys τ H2,W i m ys τ H2 ->
   ((Itt K a).stop i H2/\QD H2)\/((Itt K a).go i H2/\∃N:List V->St->Hp->Prop,(∀ys' τ' H',N ys' τ' H'->∃m',m'<m/\W (i+1) m' ys' τ' H')/\∀x H3,(Itt K a).yld i H2 x H3->g x τ H3 λτ' H4=>tt τ' H4 λb H5=>if b=true then te τ' H5 λv H6=>H6 D=some (.lst ys)/\ys.length<sizeLine/\N (ys++[v]) τ' (upd H6 D (.lst (ys++[v]))) else N ys τ' H5):=by
 refine comp_by (Q:=λ_ H=>QD H) xs Pv h0 (λi ys τ H p=>⟨λx hx=>⟨⟨xs,x,hl i ys τ H p,hx⟩,λy H' yl=>?_⟩,λe=>⟨xs,hl i ys τ H p,by lia⟩⟩) hs hd;obtain⟨e,z⟩:=yl;subst e;have:=z xs (hl i ys τ _ p);rw[hx]at this;exact⟨rfl,(qAW this).symm⟩
theorem zIf{lo:Int}{n:Nat}{tt:TT}(Pv:Nat->List V->St->Hp->Prop)(h0:Pv 0 [] (zB0 σ ix) (upd H1 D (.lst [])))
  (hs:∀i ys τ H,i<n->Pv i ys τ H->g (.int (lo+i)) τ H λτ' H4=>tt τ' H4 λb H5=>if b=true then te τ' H5 λv H6=>H6 D=some (.lst ys)/\ys.length<sizeLine/\Pv (i+1) (ys++[v]) τ' (upd H6 D (.lst (ys++[v])))else Pv (i+1) ys τ' H5)
  (hd:∀ys τ H,Pv n ys τ H->QD H) :
  ∃W:Nat->Nat->List V->St->Hp->Prop,(∃m,W 0 m [] (zB0 σ ix) (upd H1 D (.lst [])))/\∀i m ys τ H2,W i m ys τ H2 ->
   ((Itr lo n).stop i H2/\QD H2)\/((Itr lo n).go i H2/\∃N:List V->St->Hp->Prop,(∀ys' τ' H',N ys' τ' H'->∃m',m'<m/\W (i+1) m' ys' τ' H')/\∀x H3,(Itr lo n).yld i H2 x H3->g x τ H3 λτ' H4=>tt τ' H4 λb H5=>if b=true then te τ' H5 λv H6=>H6 D=some (.lst ys)/\ys.length<sizeLine/\N (ys++[v]) τ' (upd H6 D (.lst (ys++[v]))) else N ys τ' H5):=by
 refine⟨λi m ys τ H=>m=n-i/\i<=n/\Pv i ys τ H,⟨n,by simp,qAe _,h0⟩,?_⟩;rintro i m ys τ H ⟨rfl,hi,p⟩
 by_cases hlt:i<n
 .refine .inr ⟨hlt,Pv (i+1),λys' τ' H' p'=>⟨n-(i+1),by lia,rfl,hlt,p'⟩,λy H' yd=>?_⟩;obtain⟨e1,e2⟩:=yd;subst e1 e2;exact hs i ys τ _ hlt p
 .have e:i=n:=by lia
  subst e;exact .inl ⟨qAG _,hd ys τ H p⟩
theorem zJn{z:Str}{tt:TT}(Pv:Nat->List V->St->Hp->Prop)(h0:Pv 0 [] (zB0 σ ix) (upd H1 D (.lst [])))
  (hs:∀i c ys τ H,z.cps.toList[i]?=some c->Pv i ys τ H->g (.str ⟨#[c]⟩) τ H λτ' H4=>tt τ' H4 λb H5=>if b=true then te τ' H5 λv H6=>H6 D=some (.lst ys)/\ys.length<sizeLine/\Pv (i+1) (ys++[v]) τ' (upd H6 D (.lst (ys++[v])))else Pv (i+1) ys τ' H5)
  (hd:∀ys τ H,Pv z.length ys τ H->QD H) :
  ∃W:Nat->Nat->List V->St->Hp->Prop,(∃m,W 0 m [] (zB0 σ ix) (upd H1 D (.lst [])))/\∀i m ys τ H2,W i m ys τ H2 ->
   ((Its z).stop i H2/\QD H2)\/((Its z).go i H2/\∃N:List V->St->Hp->Prop,(∀ys' τ' H',N ys' τ' H'->∃m',m'<m/\W (i+1) m' ys' τ' H')/\∀x H3,(Its z).yld i H2 x H3->g x τ H3 λτ' H4=>tt τ' H4 λb H5=>if b=true then te τ' H5 λv H6=>H6 D=some (.lst ys)/\ys.length<sizeLine/\N (ys++[v]) τ' (upd H6 D (.lst (ys++[v]))) else N ys τ' H5):=by
 refine⟨λi m ys τ H=>m=z.length-i/\i<=z.length/\Pv i ys τ H,⟨z.length,by simp,qAe _,h0⟩,?_⟩;rintro i m ys τ H ⟨rfl,hi,p⟩
 by_cases hlt:i<z.length
 .refine .inr ⟨hlt,Pv (i+1),λys' τ' H' p'=>⟨z.length-(i+1),by lia,rfl,hlt,p'⟩,λy H' yd=>?_⟩;obtain⟨e1,c,e2,e3⟩:=yd;subst e1 e3;exact hs i c ys τ _ (by simpa using e2) p
 .have e:i=z.length:=by lia
  subst e;exact .inl ⟨qAG _,hd ys τ H p⟩
theorem zBz{K:PySem.W.Frag}(xs:List V)(Pv:Nat->List V->St->Hp->Prop)(h0:Pv 0 [] (zB0 σ ix) (upd H1 D (.lst [])))
  (hl:∀i ys τ H,Pv i ys τ H->SqL K H a xs)
  (hs:∀i x ys τ H,xs[i]?=some x->Pv i ys τ H->g x τ H λτ' H4=>te τ' H4 λv H6=>H6 D=some (.lst ys)/\ys.length<sizeLine/\Pv (i+1) (ys++[v]) τ' (upd H6 D (.lst (ys++[v]))))
  (hd:∀ys τ H,Pv xs.length ys τ H->QD H) :
  ∃W:Nat->Nat->List V->St->Hp->Prop,(∃m,W 0 m [] (zB0 σ ix) (upd H1 D (.lst [])))/\∀i m ys τ H2,W i m ys τ H2 ->
   ((Itl K a).stop i H2/\QD H2)\/((Itl K a).go i H2/\∃N:List V->St->Hp->Prop,(∀ys' τ' H',N ys' τ' H'->∃m',m'<m/\W (i+1) m' ys' τ' H')/\∀x H3,(Itl K a).yld i H2 x H3->g x τ H3 λτ' H4=>zIi τ' H4 λb H5=>if b=true then te τ' H5 λv H6=>H6 D=some (.lst ys)/\ys.length<sizeLine/\N (ys++[v]) τ' (upd H6 D (.lst (ys++[v]))) else N ys τ' H5):=zEg (tt:=zIi) xs Pv h0 hl hs hd
theorem comp_tup0{K:PySem.W.Frag}(xs:List V)(Pv:Nat->List V->St->Hp->Prop)(h0:Pv 0 [] (zB0 σ ix) (upd H1 D (.lst [])))
  (hl:∀i ys τ H,Pv i ys τ H->SqT K H a xs)
  (hs:∀i x ys τ H,xs[i]?=some x->Pv i ys τ H->g x τ H λτ' H4=>te τ' H4 λv H6=>H6 D=some (.lst ys)/\ys.length<sizeLine/\Pv (i+1) (ys++[v]) τ' (upd H6 D (.lst (ys++[v]))))
  (hd:∀ys τ H,Pv xs.length ys τ H->QD H) :
  ∃W:Nat->Nat->List V->St->Hp->Prop,(∃m,W 0 m [] (zB0 σ ix) (upd H1 D (.lst [])))/\∀i m ys τ H2,W i m ys τ H2 ->
   ((Itt K a).stop i H2/\QD H2)\/((Itt K a).go i H2/\∃N:List V->St->Hp->Prop,(∀ys' τ' H',N ys' τ' H'->∃m',m'<m/\W (i+1) m' ys' τ' H')/\∀x H3,(Itt K a).yld i H2 x H3->g x τ H3 λτ' H4=>zIi τ' H4 λb H5=>if b=true then te τ' H5 λv H6=>H6 D=some (.lst ys)/\ys.length<sizeLine/\N (ys++[v]) τ' (upd H6 D (.lst (ys++[v]))) else N ys τ' H5):=comp_tup (tt:=zIi) xs Pv h0 hl hs hd
theorem comp_range0{lo:Int}{n:Nat}(Pv:Nat->List V->St->Hp->Prop)(h0:Pv 0 [] (zB0 σ ix) (upd H1 D (.lst [])))
  (hs:∀i ys τ H,i<n->Pv i ys τ H->g (.int (lo+i)) τ H λτ' H4=>te τ' H4 λv H6=>H6 D=some (.lst ys)/\ys.length<sizeLine/\Pv (i+1) (ys++[v]) τ' (upd H6 D (.lst (ys++[v]))))
  (hd:∀ys τ H,Pv n ys τ H->QD H) :
  ∃W:Nat->Nat->List V->St->Hp->Prop,(∃m,W 0 m [] (zB0 σ ix) (upd H1 D (.lst [])))/\∀i m ys τ H2,W i m ys τ H2 ->
   ((Itr lo n).stop i H2/\QD H2)\/((Itr lo n).go i H2/\∃N:List V->St->Hp->Prop,(∀ys' τ' H',N ys' τ' H'->∃m',m'<m/\W (i+1) m' ys' τ' H')/\∀x H3,(Itr lo n).yld i H2 x H3->g x τ H3 λτ' H4=>zIi τ' H4 λb H5=>if b=true then te τ' H5 λv H6=>H6 D=some (.lst ys)/\ys.length<sizeLine/\N (ys++[v]) τ' (upd H6 D (.lst (ys++[v]))) else N ys τ' H5):=zIf (tt:=zIi) Pv h0 hs hd
theorem zHl{z:Str}(Pv:Nat->List V->St->Hp->Prop)(h0:Pv 0 [] (zB0 σ ix) (upd H1 D (.lst [])))
  (hs:∀i c ys τ H,z.cps.toList[i]?=some c->Pv i ys τ H->g (.str ⟨#[c]⟩) τ H λτ' H4=>te τ' H4 λv H6=>H6 D=some (.lst ys)/\ys.length<sizeLine/\Pv (i+1) (ys++[v]) τ' (upd H6 D (.lst (ys++[v]))))
  (hd:∀ys τ H,Pv z.length ys τ H->QD H) :
  ∃W:Nat->Nat->List V->St->Hp->Prop,(∃m,W 0 m [] (zB0 σ ix) (upd H1 D (.lst [])))/\∀i m ys τ H2,W i m ys τ H2 ->
   ((Its z).stop i H2/\QD H2)\/((Its z).go i H2/\∃N:List V->St->Hp->Prop,(∀ys' τ' H',N ys' τ' H'->∃m',m'<m/\W (i+1) m' ys' τ' H')/\∀x H3,(Its z).yld i H2 x H3->g x τ H3 λτ' H4=>zIi τ' H4 λb H5=>if b=true then te τ' H5 λv H6=>H6 D=some (.lst ys)/\ys.length<sizeLine/\N (ys++[v]) τ' (upd H6 D (.lst (ys++[v]))) else N ys τ' H5):=zJn (tt:=zIi) Pv h0 hs hd
section
variable{X:Cx}{K:PySem.W.Frag}
theorem zDb(hK:X.K=K:=by rfl):IxR X (rIxL K):=by subst hK;exact zAw
theorem zH6(hK:X.K=K:=by rfl):OpR X (compareOp .In) (rIn K false):=by subst hK;exact zFg
theorem zFe(hK:X.K=K:=by rfl):OpR X (compareOp .NotIn) (rIn K true):=by subst hK;exact zC9
theorem call_anyK(hc:X.calm=true)(hK:X.K=K:=by rfl):zCq X (.builtin "any") (λxs H Q=>∃(p:Addr)(bs:List Bool),xs=[.ref p]/\SqL K H p (bs.map V.bl)/\Q (.bl (bs.any id)) H):=by subst hK;exact call_any X hc
end
theorem Kp.drop{H2:Hp}{p:Addr}(k1:Kp [] H H1)(f:Fre H p)(k2:Kp [p] H1 H2):Kp [] H H2:=λb o h _=>k2 b o (k1 b o h (by simp)) (nm1 (ne_fre f h))
end L2
namespace Tim
open PySem PyProof.Rows
variable{i:Nat}{st:SortSt}
def gal:Bool->Keyed->Array Keyed->Nat->Nat->Nat->StateT SortSt Sem (Option Nat):=sortPriv% PySem.Builtin.gallop
def mLo:Array Keyed->Array Keyed->StateT SortSt Sem (Array Keyed):=sortPriv% PySem.Builtin.mergeLo
def mHi:Array Keyed->Array Keyed->StateT SortSt Sem (Array Keyed):=sortPriv% PySem.Builtin.mergeHi
def kk(κ:KeyKind)(p:Keyed):κ.α:=(κ.keyOf p.1).getD κ.dflt
def Has(κ:KeyKind)(p:Keyed):Prop:=∃a,κ.keyOf p.1=some a
theorem Has.key{κ:KeyKind}{p:Keyed}(h:Has κ p):κ.keyOf p.1=some (kk κ p):=by
 obtain⟨a,e⟩:=h;unfold kk;rw[e];rfl
theorem KK_at{κ:KeyKind}{xs:Array Keyed}{p:Keyed}(h:xs[i]?=some p):KK κ xs i=kk κ p:=by
 unfold KK kk;rw[h]
def CmpOk(prog:Program)(w:World)(A:Around)(s:Shared)(kd:SortKind)(κ:KeyKind):Prop :=
 ∀(E:Value->Shared->Prop)(x y:Value)(a b:κ.α)(Q:Bool->Shared->Prop),κ.keyOf x=some a->κ.keyOf y=some b->Q (κ.blt a b) s->wpAny (model prog w) A (keyLt' kd x y) Q E s
section
variable{prog:Program}{w:World}{A:Around}{E:Value->Shared->Prop}{s:Shared}{kd:SortKind}{κ:KeyKind}
theorem w_lt{x y:Keyed}{Q:Option Bool->SortSt->Prop}(C:CmpOk prog w A s kd κ)(hk:kindOf st=kd)(hx:Has κ x)(hy:Has κ y)(h:Q (some (κ.blt (kk κ x) (kk κ y))) st):wpS (model prog w) A E s (lt' x y) Q st:=by
 rw[lt'_eq];refine qAF (qBP ?_);rw[hk];exact qAF (qBo (qCM (C _ x.1 y.1 _ _ _ hx.key hy.key ⟨rfl,qAH h⟩)))
theorem zBo{arr:Array Keyed}{p:Keyed}{Q:Keyed->SortSt->Prop}(e:arr[i]?=some p)(h:Q p st):wpS (model prog w) A E s (elem' arr i) Q st:=by
 rw[elem'_eq,e];exact qAH h
theorem w_ltAt{j:Nat}{Q:Option Bool->SortSt->Prop}(C:CmpOk prog w A s kd κ)(hk:kindOf st=kd)(hi:∃p,(arrOf st)[i]?=some p/\Has κ p)(hj:∃p,(arrOf st)[j]?=some p/\Has κ p)
  (h:Q (some (κ.blt (KK κ (arrOf st) i) (KK κ (arrOf st) j))) st):wpS (model prog w) A E s (ltAt' i j) Q st:=by
 obtain⟨p,e1,h1⟩:=hi;obtain⟨q,e2,h2⟩:=hj;rw[KK_at e1,KK_at e2]at h;rw[ltAt'_eq];exact qAF (qBP (qAF (zBo e1 (qAF (zBo e2 (w_lt C hk h1 h2 h))))))
def byd(left:Bool)(key:Keyed)(arr:Array Keyed)(base i:Nat):StateT SortSt Sem (Option Bool):=do
 let x<-elem' arr (base+i)
 if left=true then lt' x key else(do let r<-lt' key x;pure (r.map λb=>!b))
theorem w_byd{left:Bool}{key:Keyed}{arr:Array Keyed}{base:Nat}{Q:Option Bool->SortSt->Prop}(C:CmpOk prog w A s kd κ)(hk:kindOf st=kd)(hkey:Has κ key)(hi:∃p,arr[base+i]?=some p/\Has κ p)
  (h:Q (some (if left=true then κ.blt (KK κ arr (base+i)) (kk κ key)else !κ.blt (kk κ key) (KK κ arr (base+i)))) st):wpS (model prog w) A E s (byd left key arr base i) Q st:=by
 obtain⟨p,e,hp⟩:=hi;rw[KK_at e]at h;refine qAF (zBo e ?_)
 cases left with
 |true=>exact w_lt C hk hp hkey h
 |false=>exact qAF (w_lt C hk hkey hp (qAH h))
end
end Tim
namespace ST
open PySem PySem.SetTable
variable{xs:Array Nat}{i j mask N:Nat}{α:Type}{hs:List Int}{b:Addr}
abbrev Rise(l:List Nat):Prop:=l.Pairwise (·<·)
theorem zEj(hr:Rise xs.toList){k:Nat}{x y:Nat}(hik:i<k)(ex:xs[i]?=some x)(ey:xs[k]?=some y):x<y:=by
 rw[<-qAn]at ex ey;obtain⟨hi,rfl⟩:=qAg.mp ex;obtain⟨hk,rfl⟩:=qAg.mp ey;exact List.pairwise_iff_getElem.mp hr i k hi hk hik
structure Bel(xs:Array Nat)(j r:Nat):Prop where
 le:r<=xs.size
 lo:∀i x,i<r->xs[i]?=some x->x<j
 hi:∀i x,r<=i->xs[i]?=some x->j<=x
theorem zJq(hr:Rise xs.toList) :∀(fuel lo hi:Nat),hi-lo<=fuel->lo<=hi->hi<=xs.size->(∀i x,i<lo->xs[i]?=some x->x<j)->(∀i x,hi<=i->xs[i]?=some x->j<=x)->Bel xs j (below.go xs j fuel lo hi)
 |0,lo,hi,h1,h2,h3,h4,h5=>by
  have e:lo=hi:=by lia
  subst e;exact⟨h3,h4,h5⟩
 |fuel+1,lo,hi,h1,h2,h3,h4,h5=>by
  unfold below.go
  by_cases c:lo<hi
  .rw [qAC c];have hm:(lo+hi) / 2<xs.size:=by lia
   have em:xs[(lo+hi) / 2]?=some xs[(lo+hi) / 2]:=by simp
   have eD:xs.getD ((lo+hi) / 2) j=xs[(lo+hi) / 2]:=by simp[Array.getD,hm]
   show Bel xs j (if xs.getD ((lo+hi) / 2) j<j then _ else _);rw[eD]
   by_cases d:xs[(lo+hi) / 2]<j
   .rw [qAC d];refine zJq hr fuel _ hi (by lia) (by lia) h3 (λi x hi' ex=>?_) h5
    by_cases q:i=(lo+hi) / 2
    .subst q;rw[em]at ex;cases ex;exact d
    .have:=zEj hr (show i<(lo+hi) / 2 by lia) ex em;lia
   .rw [qAB d];refine zJq hr fuel lo _ (by lia) (by lia) (by lia) h4 (λi x hi' ex=>?_)
    by_cases q:i=(lo+hi) / 2
    .subst q;rw[em]at ex;cases ex;lia
    .have:=zEj hr (show(lo+hi) / 2<i by lia) em ex;lia
  .rw [qAB c];have e:lo=hi:=by lia
   subst e;exact⟨h3,h4,h5⟩
theorem zEp(hr:Rise xs.toList)(j:Nat):Bel xs j (below xs j) :=
 zJq hr xs.size 0 xs.size (by lia) (by lia) (qAG _) (λi x h=>by lia) (λi x h e=>by
  have:=(qBK.mp e).1;lia)
theorem Bel.at(hr:Rise xs.toList){r:Nat}(B:Bel xs j r)(e:xs[i]?=some j):r=i:=by
 rcases Nat.lt_trichotomy r i with z|z|z
 .have hi:i<xs.size:=(qBK.mp e).1;have er:xs[r]?=some (xs[r]'(by lia)):=by simp
  have h1:=B.hi r _ (qAG _) er;have h2:=zEj hr z er e;lia
 .exact z
 .have:=B.lo i j z e;lia
def Tb(mask:Nat):SetTable:={mask:=mask,place:=#[],dummies:=#[],finger:=0,led:=false,moves:=0,plain:=false}
def pr(mask:Nat)(h:Int):Nat->Probe
 |0=>(Tb mask).probeStart h
 |n+1=>(Tb mask).advance (pr mask h n)
def rs(mask:Nat)(h:Int):Nat->Nat×Nat
 |0=>(bits h % (mask+1),bits h)
 |r+1=>leap mask (rs mask h r).1 (rs mask h r).2
def stt(mask:Nat)(h:Int):Nat->Nat
 |0=>0
 |r+1=>stt mask h r+(runEnd mask (rs mask h r).1-(rs mask h r).1+1)
theorem rs_le(mask:Nat)(h:Int):∀r,(rs mask h r).1<=mask
 |0=>Nat.le_of_lt_succ (Nat.mod_lt _ (qC7 _))
 |r+1=>Nat.le_of_lt_succ (Nat.mod_lt _ (qC7 _))
theorem run_le(mask i:Nat)(hi:i<=mask):i<=runEnd mask i/\runEnd mask i<=mask/\runEnd mask i-i<=9:=by
 unfold runEnd;split<;>lia
theorem stt_le(mask:Nat)(h:Int):∀r,stt mask h r<=10*r
 |0=>qAG _
 |r+1=>by
  have h1:=stt_le mask h r;have h2:=(run_le mask _ (rs_le mask h r)).2.2;show stt mask h r+(runEnd mask (rs mask h r).1-(rs mask h r).1+1)<=_;lia
theorem adv_more(mask:Nat)(p:Probe)(h:p.more>0):(Tb mask).advance p={p with j:=p.j+1,more:=p.more-1}:=by
 unfold advance;rw[qAC h]
theorem adv_leap(mask:Nat)(p:Probe)(h:p.more=0):(Tb mask).advance p={p with j:=(leap mask p.i p.perturb).1,more:=runEnd mask (leap mask p.i p.perturb).1-(leap mask p.i p.perturb).1,i:=(leap mask p.i p.perturb).1,perturb:=(leap mask p.i p.perturb).2}:=by
 unfold advance;rw[qAB (by lia)];rfl
theorem zE9(mask:Nat)(h:Int):∀(r k:Nat),k<=runEnd mask (rs mask h r).1-(rs mask h r).1 ->
  pr mask h (stt mask h r+k)={j:=(rs mask h r).1+k,more:=runEnd mask (rs mask h r).1-(rs mask h r).1-k,i:=(rs mask h r).1,perturb:=(rs mask h r).2,dummy:=none}
 |0,0,_=>rfl
 |r+1,0,_=>by
  have ih:=zE9 mask h r (runEnd mask (rs mask h r).1-(rs mask h r).1) (qAG _);show pr mask h (stt mask h r+(runEnd mask (rs mask h r).1-(rs mask h r).1)+1)=_;show(Tb mask).advance (pr mask h (stt mask h r+(runEnd mask (rs mask h r).1-(rs mask h r).1)))=_;rw[ih,adv_leap _ _ (by simp)];rfl
 |r,k+1,hk=>by
  have ih:=zE9 mask h r k (by lia);show(Tb mask).advance (pr mask h (stt mask h r+k))=_;rw[ih,adv_more _ _ (by show _-k>0;lia)];simp only[Probe.mk.injEq];exact⟨by lia,by lia,trivial,trivial,trivial⟩
theorem pr_at(mask:Nat)(h:Int)(n:Nat):∃r k,n=stt mask h r+k/\k<=runEnd mask (rs mask h r).1-(rs mask h r).1:=by
 induction n with
 |zero=>exact⟨0,0,rfl,qAe _⟩
 |succ n ih=>
  obtain⟨r,k,e,hk⟩:=ih
  by_cases c:k<runEnd mask (rs mask h r).1-(rs mask h r).1
  .exact ⟨r,k+1,by lia,c⟩
  .refine ⟨r+1,0,?_,qAe _⟩;show n+1=stt mask h r+(runEnd mask (rs mask h r).1-(rs mask h r).1+1)+0;lia
theorem pr_le(mask:Nat)(h:Int)(n:Nat):(pr mask h n).j<=mask:=by
 obtain⟨r,k,e,hk⟩:=pr_at mask h n;rw[e,zE9 mask h r k hk];have:=run_le mask _ (rs_le mask h r);show(rs mask h r).1+k<=mask;lia
theorem pr_dummy(mask:Nat)(h:Int)(n:Nat):(pr mask h n).dummy=none:=by
 obtain⟨r,k,e,hk⟩:=pr_at mask h n;rw[e,zE9 mask h r k hk]
theorem bits_lt(h:Int):bits h<2^64:=by
 unfold bits;have h1:=qCN h (show(2^64:Int)≠0 by decide);have h2:=qCO h (show(0:Int)<2^64 by decide);lia
theorem rs_pert(mask:Nat)(h:Int):∀r,(rs mask h r).2=bits h / 32^r
 |0=>by simp[rs]
 |r+1=>by
  show(rs mask h r).2 / 32=_;rw[rs_pert mask h r,Nat.div_div_eq_div_mul,Nat.pow_succ]
theorem rs_pert0(mask:Nat)(h:Int)(r:Nat)(hr:13<=r):(rs mask h r).2=0:=by
 rw[rs_pert];have h1:=bits_lt h;have h2:32^13<=32^r:=Nat.pow_le_pow_right (by decide) hr;have h3:(2:Nat)^64<32^13:=by decide
 exact Nat.div_eq_of_lt (by lia)
def f5(mask i:Nat):Nat:=(i*5+1) % (mask+1)
def it5(mask:Nat):Nat->Nat->Nat
 |0,i=>i
 |n+1,i=>it5 mask n (f5 mask i)
theorem zHg(mask:Nat):∀(a b i:Nat),it5 mask (a+b) i=it5 mask b (it5 mask a i)
 |0,b,i=>by rw[Nat.zero_add];rfl
 |a+1,b,i=>by
  rw[show a+1+b=(a+b)+1 by lia];show it5 mask (a+b) (f5 mask i)=it5 mask b (it5 mask a (f5 mask i));exact zHg mask a b _
theorem rs_it5(mask:Nat)(h:Int)(n:Nat):(rs mask h (13+n)).1=it5 mask n (rs mask h 13).1:=by
 induction n with
 |zero=>rfl
 |succ n ih=>
  show(leap mask (rs mask h (13+n)).1 (rs mask h (13+n)).2).1=_;rw[rs_pert0 mask h (13+n) (by lia),ih,show n+1=n+1 from rfl,zHg mask n 1];show((it5 mask n _)*5+1+0 / 32) % (mask+1)=f5 mask (it5 mask n _);unfold f5;simp
def Msk(mask:Nat):Prop:=mask=7\/mask=31\/mask=127\/mask=511
def orb(mask:Nat):Nat->Nat->List Nat
 |0,_=>[]
 |n+1,i=>i::orb mask n (f5 mask i)
theorem orb_mem(mask:Nat):∀(n i s:Nat),s∈orb mask n i->∃a,a<n/\it5 mask a i=s
 |0,i,s,h=>by simp[orb]at h
 |n+1,i,s,h=>by
  rcases qAL.mp h with z|z
  .exact ⟨0,by lia,z.symm⟩
  .obtain ⟨a,ha,e⟩:=orb_mem mask n (f5 mask i) s z;exact⟨a+1,by lia,e⟩
theorem orb_all(hm:Msk mask):(List.range (mask+1)).all (λs=>(orb mask (mask+1) 0).contains s)=true/\it5 mask (mask+1) 0=0:=by
 rcases hm with rfl|rfl|rfl|rfl
 .exact ⟨by decide +kernel,by decide +kernel⟩
 .exact ⟨by decide +kernel,by decide +kernel⟩
 .exact ⟨by decide +kernel,by decide +kernel⟩
 .exact ⟨by decide +kernel,by decide +kernel⟩
theorem cyc(hm:Msk mask)(i s:Nat)(hi:i<=mask)(hs:s<=mask):∃r,r<=mask/\it5 mask r i=s:=by
 obtain⟨h1,h2⟩:=orb_all hm
 have get:∀x,x<=mask->∃a,a<mask+1/\it5 mask a 0=x:=λx hx=>by
  have:=qA4.mp h1 x (qAw.mpr (by lia));exact orb_mem mask (mask+1) 0 x (by simpa using this)
 obtain⟨a,ha,ea⟩:=get i hi;obtain⟨b,hb,eb⟩:=get s hs
 by_cases c:a<=b
 .refine ⟨b-a,by lia,?_⟩;rw[<-ea,<-zHg,show a+(b-a)=b by lia,eb]
 .refine ⟨mask+1-a+b,by lia,?_⟩;rw[<-ea,<-zHg,show a+(mask+1-a+b)=mask+1+b by lia,zHg,h2,eb]
theorem pr_all(hm:Msk mask)(h:Int)(s:Nat)(hs:s<=mask):∃r,r<=13+mask/\(rs mask h r).1=s:=by
 obtain⟨r,hr,e⟩:=cyc hm (rs mask h 13).1 s (rs_le mask h 13) hs;exact⟨13+r,by lia,by rw[rs_it5,e]⟩
theorem free_slot{L:List Nat}(hL:L.length<=mask):∃s,s<=mask/\s∉L:=by
 apply qA8;intro h
 have sub:∀s,s∈List.range (mask+1)->s∈L:=λs hs=>by
  apply qA8;intro q;exact h ⟨s,by have:=qAw.mp hs;lia,q⟩
 have:=(List.nodup_range (n:=mask+1)).length_le_of_subset sub;rw[List.length_range]at this;lia
theorem pr_free(hm:Msk mask)(h:Int){L:List Nat}(hL:L.length<=mask):∃n,n<10*turns mask/\(pr mask h n).j∉L:=by
 obtain⟨s,hs,q⟩:=free_slot hL;obtain⟨r,hr,e⟩:=pr_all hm h s hs;refine⟨stt mask h r,?_,?_⟩
 .have:=stt_le mask h r;unfold turns;lia
 .have:=zE9 mask h r 0 (qAe _);rw[qCj]at this;rw[this];show(rs mask h r).1+0∉L;rw[qCj,e];exact q
theorem zId(hm:Msk mask)(h:Int){L:List Nat}(hL:L.length<=mask):∃n,n<10*turns mask/\(pr mask h n).j∉L/\∀m,m<n->(pr mask h m).j∈L:=by
 obtain⟨n,hn,q⟩:=pr_free hm h hL
 induction n using Nat.strongRecOn with
 |_ n ih=>
  by_cases c:∃m,m<n/\(pr mask h m).j∉L
  .obtain ⟨m,hm',qm⟩:=c;exact ih m hm' (by lia) qm
  .refine ⟨n,hn,q,λm hmn=>?_⟩;apply qA8;intro z;exact c ⟨m,hmn,z⟩
structure TOk(t:SetTable)(hs:List Int):Prop where
 m:Msk t.mask
 d:t.dummies=#[]
 r:Rise t.place.toList
 l:∀j∈t.place.toList,j<=t.mask
 n:t.place.size=hs.length
 f:t.place.size<=t.mask
 reach:∀(i j:Nat)(h:Int),t.place[i]?=some j->hs[i]?=some h->∃n,(pr t.mask h n).j=j/\∀m,m<n->(pr t.mask h m).j∈t.place.toList
theorem fresh_ok(fi mo:Nat)(led:Bool):TOk (SetTable.fresh fi mo led) [] :=
 ⟨.inl rfl,rfl,List.Pairwise.nil,(λj h=>absurd (show j∈([]:List Nat)from h) (by simp)),rfl,qAe _,(λi j h _ e=>by simp at e)⟩
theorem has_nil(j:Nat):has #[] j=false:=by
 unfold SetTable.has;simp
section
variable{t:SetTable}{hs:List Int}
theorem slot_live(T:TOk t hs)(e:t.place[i]?=some j):t.slot j= .live i:=by
 have b:=(zEp T.r j).at T.r e;unfold slot;rw[b];show(if(t.place[i]?==some j)=true then _ else _)=_;rw[e];simp
theorem slot_empty(T:TOk t hs)(h:j∉t.place.toList):t.slot j= .empty:=by
 unfold slot
 have e:(t.place[below t.place j]?==some j)=false:=by
  rw[qA0];intro z;exact h (qAT (i:=below t.place j) (by rw[qAn];exact z))
 simp only[e,T.d,has_nil];simp
theorem mem_at(h:j∈xs.toList):∃i:Nat,xs[i]?=some j:=by
 obtain⟨i,hi,e⟩:=qA5.mp h;exact⟨i,by rw[<-qAn];exact qAg.mpr ⟨hi,e⟩⟩
def Oth(t:SetTable)(hashAt:Nat->Int)(h:Int)(m:Nat):Prop:=∃i:Nat,t.place[i]?=some (pr t.mask h m).j/\hashAt i≠h
theorem adv_pr(t:SetTable)(h:Int)(n:Nat):t.advance (pr t.mask h n)=pr t.mask h (n+1):=rfl
theorem go_ok(T:TOk t hs)(hashAt:Nat->Int)(h:Int)(hN:(pr t.mask h N).j∉t.place.toList)(hb:∀m,m<N->(pr t.mask h m).j∈t.place.toList):∀(d n fuel:Nat),N=n+d->d<fuel ->
  (probe.go t hashAt h fuel (pr t.mask h n)=some (.empty (pr t.mask h N).j none)/\∀m,n<=m->m<N->Oth t hashAt h m) \/
  ∃m i,n<=m/\m<N/\t.place[i]?=some (pr t.mask h m).j/\hashAt i=h/\probe.go t hashAt h fuel (pr t.mask h n)=some (.candidate (pr t.mask h m).j i (pr t.mask h (m+1)))/\∀m',n<=m'->m'<m->Oth t hashAt h m'
 |0,n,fuel+1,e,_=>by
  have e:N=n:=by lia
  subst e;left;refine⟨?_,λm h1 h2=>by lia⟩;unfold probe.go;rw[slot_empty T hN];show some (Met.empty _ (pr t.mask h N).dummy)=_;rw[pr_dummy]
 |d+1,n,fuel+1,e,hf=>by
  obtain⟨i,ei⟩:=mem_at (hb n (by lia));unfold probe.go;rw[slot_live T ei]
  by_cases c:hashAt i=h
  .right;refine⟨n,i,qAG _,by lia,ei,c,?_,λm' h1 h2=>by lia⟩;show(if(hashAt i==h)=true then _ else _)=_;rw[qAC (by simpa using c),adv_pr]
  .have q:(if(hashAt i==h)=true then some (Met.candidate (pr t.mask h n).j i (t.advance (pr t.mask h n)))else probe.go t hashAt h fuel (t.advance (pr t.mask h n)))=probe.go t hashAt h fuel (pr t.mask h (n+1)):=by
    rw[qAB (by simpa using c),adv_pr]
   rcases go_ok T hashAt h hN hb d (n+1) fuel (by lia) (by lia)with⟨z1,z2⟩|⟨m,i',z1,z2,z3,z4,z5,z6⟩
   .left;refine⟨q.trans z1,λm h1 h2=>?_⟩
    by_cases cm:m=n
    .subst cm;exact⟨i,ei,c⟩
    .exact z2 m (by lia) h2
   .right;refine⟨m,i',by lia,z2,z3,z4,q.trans z5,λm' h1 h2=>?_⟩
    by_cases cm:m'=n
    .subst cm;exact⟨i,ei,c⟩
    .exact z6 m' (by lia) h2
 |_,_,0,_,h=>by lia
theorem zJf(xs:Array α)(p:Nat)(x:α)(hp:p<=xs.size):(insertAt xs p x).toList=xs.toList.take p++x::xs.toList.drop p:=by
 unfold insertAt;rw[qC8,qCk,qB1,qB1,List.extract_eq_drop_take,List.extract_eq_drop_take];rw[qBQ (l:=xs.toList.drop p) (by simp)];simp
theorem ins_rise(hr:Rise xs.toList)(hj:j∉xs.toList):Rise (insertAt xs (below xs j) j).toList:=by
 have B:=zEp hr j;rw[zJf _ _ _ B.le];refine List.pairwise_append.mpr ⟨hr.sublist (List.take_sublist _ _),List.pairwise_cons.mpr ⟨λy hy=>?_,hr.sublist (List.drop_sublist _ _)⟩,λx hx y hy=>?_⟩
 .obtain ⟨i,hi,rfl⟩:=qA5.mp hy;rw[qBN]at hi
  have e:xs[below xs j+i]?=some (xs.toList.drop (below xs j))[i]:=by
   rw[<-qAn,<-qCl];simp
  have h1:=B.hi _ _ (qB2 _ i) e;have h2:(xs.toList.drop (below xs j))[i]≠j:=λz=>hj (z▸qCP hy);lia
 .have hxj:x<j:=by
   obtain⟨i,hi,rfl⟩:=qA5.mp hx;rw[qAd]at hi
   have e:xs[i]?=some (xs.toList.take (below xs j))[i]:=by
    rw[<-qAn,<-qC3 (show i<below xs j by lia)];exact qAa _
   exact B.lo i _ (by lia) e
  rcases qAL.mp hy with z|z
  .rw [z];exact hxj
  .obtain ⟨i,hi,rfl⟩:=qA5.mp z;rw[qBN]at hi
   have e:xs[below xs j+i]?=some (xs.toList.drop (below xs j))[i]:=by
    rw[<-qAn,<-qCl];simp
   have h1:=B.hi _ _ (qB2 _ i) e;lia
theorem zFx{β:Type}{L:List α}{M:List β}(hl:L.length=M.length){p:Nat}(hp:p<=L.length){x:α}{y:β}{u:α}{v:β}(h1:(L.take p++x::L.drop p)[i]?=some u)(h2:(M.take p++y::M.drop p)[i]?=some v) :
  (u=x/\v=y)\/∃i':Nat,L[i']?=some u/\M[i']?=some v:=by
 have l1:(L.take p).length=p:=by rw[qAd];lia
 have l2:(M.take p).length=p:=by rw[qAd];lia
 by_cases c:i<p
 .rw [qBC (by lia),qC3 c]at h1 h2;exact .inr ⟨i,h1,h2⟩
 .rw [qBy (by lia)]at h1 h2;rw[l1]at h1;rw[l2]at h2
  cases e:i-p with
  |zero=>
   rw[e]at h1 h2;exact .inl ⟨(by simpa using h1.symm),(by simpa using h2.symm)⟩
  |succ k=>
   rw[e]at h1 h2;rw[qCm,qCl]at h1 h2;exact .inr ⟨p+k,h1,h2⟩
theorem put_ok(T:TOk t hs)(h:Int)(hN:(pr t.mask h N).j∉t.place.toList)(hb:∀m,m<N->(pr t.mask h m).j∈t.place.toList)(hf:t.place.size+1<=t.mask) :
  TOk (t.put (pr t.mask h N).j).1 (hs.take (t.put (pr t.mask h N).j).2++h::hs.drop (t.put (pr t.mask h N).j).2):=by
 have B:=zEp T.r (pr t.mask h N).j;have ep:(t.put (pr t.mask h N).j).2=below t.place (pr t.mask h N).j:=rfl;have el:(t.put (pr t.mask h N).j).1.place=insertAt t.place (below t.place (pr t.mask h N).j) (pr t.mask h N).j:=rfl;have em:(t.put (pr t.mask h N).j).1.mask=t.mask:=rfl;have tl:=zJf t.place (below t.place (pr t.mask h N).j) (pr t.mask h N).j B.le
 have mem:∀j,j∈t.place.toList->j∈(insertAt t.place (below t.place (pr t.mask h N).j) (pr t.mask h N).j).toList:=λj hj=>by
  rw[tl];have:j∈t.place.toList.take (below t.place (pr t.mask h N).j)++t.place.toList.drop (below t.place (pr t.mask h N).j):=by rw[qBd];exact hj
  rcases qAY.mp this with z|z
  .exact qAo _ z
  .exact qAt _ (qAU _ z)
 have sz:(insertAt t.place (below t.place (pr t.mask h N).j) (pr t.mask h N).j).size=t.place.size+1:=by
  have:=qAj List.length tl;simp only[qBj,qAm,qAZ,qAd,qBN]at this;have:=B.le;lia
 refine⟨T.m,?_,ins_rise T.r hN,λj hj=>?_,?_,?_,λi j h' e1 e2=>?_⟩
 .show (if has t.dummies (pr t.mask h N).j then _ else t.dummies)=#[];rw[T.d,has_nil];rfl
 .rw [em];rw[el,tl]at hj;rcases qAY.mp hj with z|z
  .exact T.l j (qB3 z)
  .rcases qAL.mp z with z|z
   .rw [z];exact pr_le _ _ _
   .exact T.l j (qCP z)
 .rw [el,sz,ep,qAm,qAZ,qAd,qBN];have:=B.le;have:=T.n;lia
 .rw [el,sz];exact hf
 .rw [em];rw[el,<-qAn,tl]at e1;rw[ep]at e2;rw[el];rcases zFx (L:=t.place.toList) (M:=hs) (by simpa using T.n) (by simpa using B.le) e1 e2 with⟨z1,z2⟩|⟨i',z1,z2⟩
  .subst z1 z2;exact⟨N,rfl,λm hm=>mem _ (hb m hm)⟩
  .obtain ⟨n,q1,q2⟩:=T.reach i' j h' (by rw[<-qAn];exact z1) z2;exact⟨n,q1,λm hm=>mem _ (q2 m hm)⟩
end
structure Ow(mask:Nat)(hs:List Int)(owner:Array (Option Nat))(sl:List Nat):Prop where
 z:owner.size=mask+1
 n:sl.length=hs.length
 nd:sl.Nodup
 l:∀j∈sl,j<=mask
 a:∀(k j:Nat),sl[k]?=some j->owner[j]?=some (some k)
 e:∀j,j<=mask->j∉sl->owner[j]?=some none
 reach:∀(k j:Nat)(h:Int),sl[k]?=some j->hs[k]?=some h->∃n,(pr mask h n).j=j/\∀m,m<n->(pr mask h m).j∈sl
theorem zI9{owner:Array (Option Nat)}{sl:List Nat}(O:Ow mask hs owner sl)(hj:j<=mask):((owner.getD j (some 0)).isNone=true)↔j∉sl:=by
 have hz:j<owner.size:=by rw[O.z];lia
 have eD:owner.getD j (some 0)=owner[j]:=by simp[Array.getD,hz]
 rw[eD];constructor
 .intro h q;obtain⟨k,hk,e⟩:=qA5.mp q;have:=O.a k j (qAg.mpr ⟨hk,e⟩);rw[qB4 hz]at this;rw[qAW this]at h;simp at h
 .intro q;have:=O.e j hj q;rw[qB4 hz]at this;rw[qAW this];rfl
theorem free_go{owner:Array (Option Nat)}{sl:List Nat}(hm:Msk mask)(O:Ow mask hs owner sl)(hl:sl.length<=mask)(h:Int)(hN:(pr mask h N).j∉sl)(hb:∀m,m<N->(pr mask h m).j∈sl){R:Nat}(hR:(rs mask h R).1∉sl) :
  ∀(fuel r:Nat),stt mask h r<=N->R<r+fuel->layClean.free mask owner fuel (rs mask h r).1 (rs mask h r).2=some (pr mask h N).j
 |0,r,h1,h2=>by
  exfalso
  have key:∀d,stt mask h R<=stt mask h (R+d)/\(0<d->stt mask h R<stt mask h (R+d)):=by
   intro d
   induction d with
   |zero=>exact⟨qAG _,λz=>by lia⟩
   |succ d ih=>
    have e:stt mask h (R+(d+1))=stt mask h (R+d)+(runEnd mask (rs mask h (R+d)).1-(rs mask h (R+d)).1+1):=rfl;exact⟨by lia,λ_=>by lia⟩
  obtain⟨d,rfl⟩:∃d,r=R+d:=⟨r-R,by lia⟩;have hd:0<d:=by lia
  have:=(key d).2 hd;have q:=hb (stt mask h R) (by lia);have e:=zE9 mask h R 0 (qAe _);rw[qCj]at e;rw[e]at q;exact hR (by simpa using q)
 |fuel+1,r,h1,h2=>by
  have rl:=run_le mask _ (rs_le mask h r);unfold layClean.free
  cases q:(List.range (runEnd mask (rs mask h r).1+1-(rs mask h r).1)).find? λk=>(owner.getD ((rs mask h r).1+k) (some 0)).isNone with
  |some k=>
   have q1:=List.find?_some q;have q2:=qDP q;rw[qAw]at q2;have q1:((owner.getD ((rs mask h r).1+k) (some 0)).isNone)=true:=q1;rw[zI9 O (by lia)]at q1;have e:=zE9 mask h r k (by lia);have hk:(pr mask h (stt mask h r+k)).j=(rs mask h r).1+k:=by rw[e]
   have c1:¬stt mask h r+k<N:=λz=>q1 (hk▸hb _ z)
   have c2:¬N<stt mask h r+k:=λz=>by
    obtain⟨d,hd⟩:∃d,N=stt mask h r+d:=⟨N-stt mask h r,by lia⟩;have hdk:d<k:=by lia
    rw[List.find?_eq_some_iff_append]at q;obtain⟨_,as,bs,e1,e2⟩:=q
    have la:as.length=k:=by
     have:=qAj (λl=>l[as.length]?) e1;simp at this
     by_cases cc:as.length<runEnd mask (rs mask h r).1+1-(rs mask h r).1
     .rw [qC9 cc]at this;exact qAW this
     .rw [qCQ (by simp;lia)]at this
      cases this
    have mem:d∈as:=by
     have hd':(List.range (runEnd mask (rs mask h r).1+1-(rs mask h r).1))[d]?=some d:=qC9 (by lia);rw[e1,qBC (by lia)]at hd';exact qAT hd'
    have z1:=e2 d mem;have ed:=zE9 mask h r d (by lia);have hjd:(pr mask h N).j=(rs mask h r).1+d:=by rw[hd,ed]
    have z2:((owner.getD ((rs mask h r).1+d) (some 0)).isNone)=true:=(zI9 O (by lia)).mpr (hjd▸hN);rw[z2]at z1;simp at z1
   have eN:N=stt mask h r+k:=by lia
   show some ((rs mask h r).1+k)=_;rw[eN,hk]
  |none=>
   have q1:=qCR.mp q;refine free_go hm O hl h hN hb hR fuel (r+1) ?_ (by lia);show stt mask h r+(runEnd mask (rs mask h r).1-(rs mask h r).1+1)<=N;apply qA8;intro c;obtain⟨d,hd⟩:∃d,N=stt mask h r+d:=⟨N-stt mask h r,by lia⟩;have ed:=zE9 mask h r d (by lia);have hjd:(pr mask h N).j=(rs mask h r).1+d:=by rw[hd,ed]
   have z1:=q1 d (qAw.mpr (by lia));have z2:((owner.getD ((rs mask h r).1+d) (some 0)).isNone)=true:=(zI9 O (by lia)).mpr (hjd▸hN);exact z1 z2
theorem free_ok{owner:Array (Option Nat)}{sl:List Nat}(hm:Msk mask)(O:Ow mask hs owner sl)(hl:sl.length<=mask)(h:Int) :
  ∃N,(pr mask h N).j∉sl/\(∀m,m<N->(pr mask h m).j∈sl)/\layClean.free mask owner (turns mask) (bits h % (mask+1)) (bits h)=some (pr mask h N).j:=by
 obtain⟨N,_,hN,hb⟩:=zId hm h hl;obtain⟨s,hs',q⟩:=free_slot hl;obtain⟨R,hR,e⟩:=pr_all hm h s hs';exact⟨N,hN,hb,free_go hm O hl h hN hb (R:=R) (by rw[e];exact q) (turns mask) 0 (qAe _) (by unfold turns;lia)⟩
theorem Ow.more{owner:Array (Option Nat)}{sl:List Nat}(O:Ow mask hs owner sl)(h:Int)(hN:(pr mask h N).j∉sl)(hb:∀m,m<N->(pr mask h m).j∈sl) :
  Ow mask (hs++[h]) (owner.setIfInBounds (pr mask h N).j (some hs.length)) (sl++[(pr mask h N).j]):=by
 have hj:=pr_le mask h N;have hz:(pr mask h N).j<owner.size:=by rw[O.z];lia
 have one:∀{k j:Nat},(sl++[(pr mask h N).j])[k]?=some j->(k<sl.length/\sl[k]?=some j)\/(k=sl.length/\j=(pr mask h N).j):=λ{k j} e=>by
  by_cases c:k<sl.length
  .rw [qBC c]at e;exact .inl ⟨c,e⟩
  .rw [qBy (by lia)]at e
   have hk:k=sl.length:=by
    have:=(qAg.mp e).1;simp at this;lia
   subst hk;exact .inr ⟨rfl,by simpa using e.symm⟩
 refine⟨by rw[qDQ];exact O.z,by simp[O.n],?_,λj hj'=>?_,λk j e=>?_,λj hj1 hj2=>?_,λk j h' e1 e2=>?_⟩
 .refine qBp.mpr ⟨O.nd,qBJ.mpr ⟨by simp,qBe⟩,λa ha b hb'=>?_⟩;have:b=(pr mask h N).j:=by simpa using hb'
  subst this;intro z;subst z;exact hN ha
 .rcases qAY.mp hj' with z|z
  .exact O.l j z
  .have:j=(pr mask h N).j:=by simpa using z
   rw[this];exact hj
 .rcases one e with⟨_,z⟩|⟨z1,z2⟩
  .have hne:j≠(pr mask h N).j:=λq=>hN (q▸qAT z);rw[qCn (qAV hne)];exact O.a k j z
  .subst z1 z2;rw[qDR hz,O.n]
 .have h1:j∉sl:=λq=>hj2 (qAo _ q);have h2:j≠(pr mask h N).j:=λq=>hj2 (qAt _ (by simp[q]));rw[qCn (qAV h2)];exact O.e j hj1 h1
 .rcases one e1 with⟨c,z⟩|⟨z1,z2⟩
  .rw [qBC (by rw[<-O.n];exact c)]at e2;obtain⟨n,q1,q2⟩:=O.reach k j h' z e2;exact⟨n,q1,λm hm=>qAo _ (q2 m hm)⟩
  .subst z1 z2;rw[qBy (by rw[O.n];exact qAG _),O.n]at e2;have:h'=h:=by simpa using e2.symm
   subst this;exact⟨N,rfl,λm hm=>qAo _ (hb m hm)⟩
theorem lay_ok(hm:Msk mask)(hs:List Int)(hl:hs.length<=mask):∃owner sl,Ow mask hs owner sl/\layClean mask hs.toArray=some owner:=by
 have key:∀(rest done:List Int) (owner:Array (Option Nat)) (sl:List Nat),Ow mask done owner sl->done.length+rest.length<=mask ->
   ∃owner' sl',Ow mask (done++rest) owner' sl'/\rest.foldl (λ(acc:Option (Array (Option Nat)×Nat)) h=>do
    let(owner,k)<-acc
    let j<-layClean.free mask owner (turns mask) (bits h % (mask+1)) (bits h)
    pure (owner.setIfInBounds j (some k),k+1)) (some (owner,done.length))=some (owner',(done++rest).length):=by
  intro rest
  induction rest with
  |nil=>intro done owner sl O _;exact⟨owner,sl,by rw[qAu];exact O,by rw[qAu];rfl⟩
  |cons h rest ih=>
   intro done owner sl O hl;rw[qAZ]at hl;obtain⟨N,hN,hb,ef⟩:=free_ok hm O (by rw[O.n];lia) h;have O2:=O.more h hN hb;obtain⟨o',s',O3,e3⟩:=ih (done++[h]) _ _ O2 (by rw[qAm];simp;lia);refine⟨o',s',by simpa using O3,?_⟩;rw[qBl]
   have e4:(do
    let(owner,k)<-(some (owner,done.length):Option (Array (Option Nat)×Nat))
    let j<-layClean.free mask owner (turns mask) (bits h % (mask+1)) (bits h)
    pure (owner.setIfInBounds j (some k),k+1))=some (owner.setIfInBounds (pr mask h N).j (some done.length),(done++[h]).length):=by
    show(do
     let j<-layClean.free mask owner (turns mask) (bits h % (mask+1)) (bits h)
     pure (owner.setIfInBounds j (some done.length),done.length+1))=_
    rw[ef];simp
   rw[e4,e3];simp
 have O0:Ow mask [] (Array.replicate (mask+1) none) []:=⟨Array.size_replicate,rfl,qBe,(λj h=>absurd h qA9),(λk j e=>by rw[List.getElem?_nil]at e;cases e),(λj hj _=>by rw[Array.getElem?_replicate,qAC (by lia)]),(λk j h e=>by rw[List.getElem?_nil]at e;cases e)⟩;obtain⟨o,sl,O,e⟩:=key hs [] _ _ O0 (by simpa using hl);refine⟨o,sl,by simpa using O,?_⟩;unfold layClean;rw[List.foldl_toArray];have e':=e;simp only[List.nil_append,qBX]at e';show Option.map _ (hs.foldl _ (some (Array.replicate (mask+1) none,0)))=_;rw[e'];rfl
theorem laid_ok(hm:Msk mask)(hs:List Int)(hl:hs.length<=mask)(fi mo:Nat)(led plain:Bool):∃t order,laid mask fi mo led plain hs.toArray=some (t,order)/\t.mask=mask/\t.led=led/\t.plain=plain/\order.toList.Perm (List.range hs.length) /\
  TOk t (order.toList.map λk=>hs.getD k 0):=by
 obtain⟨owner,sl,O,e⟩:=lay_ok hm hs hl
 have hg:∀j,j<=mask->owner.getD j none=(owner[j]?).getD none:=λj hj=>by
  have hz:j<owner.size:=by rw[O.z];lia
  simp[Array.getD,hz]
 have el:∀j,j<=mask->((owner.getD j none).map (j,·)=none↔j∉sl):=λj hj=>by
  rw[hg j hj];constructor
  .intro q z;obtain⟨k,hk,ek⟩:=qA5.mp z;rw[O.a k j (qAg.mpr ⟨hk,ek⟩)]at q
   cases q
  .intro q;rw[O.e j hj q];rfl
 have es:∀j k,j<=mask->((owner.getD j none).map (j,·)=some (j,k)↔sl[k]?=some j):=λj k hj=>by
  rw[hg j hj];constructor
  .intro q
   by_cases c:j∈sl
   .obtain ⟨k',hk,ek⟩:=qA5.mp c;have ek':=qAg.mpr ⟨hk,ek⟩;rw[O.a k' j ek']at q;have q:some (j,k')=some (j,k):=q;injection q with q;injection q with _ q;rw[<-q];exact ek'
   .rw [O.e j hj c]at q;cases q
  .intro q;rw[O.a k j q];rfl
 generalize hlive:(List.range (mask+1)).filterMap (λj=>(owner.getD j none).map (j,·))=live
 have mem:∀p,p∈live↔sl[p.2]?=some p.1:=λp=>by
  rw[<-hlive,List.mem_filterMap];constructor
  .rintro ⟨j,hj,q⟩;have hj':j<=mask:=by have:=qAw.mp hj;lia
   have:p.1=j:=by
    cases h:owner.getD j none with
    |none=>rw[h]at q;cases q
    |some k=>rw[h]at q;have q:some (j,k)=some p:=q;injection q with q;rw[<-q]
   subst this;exact(es p.1 p.2 hj').mp q
  .intro q;have hj:p.1<=mask:=O.l _ (qAT q);exact⟨p.1,qAw.mpr (by lia),(es p.1 p.2 hj).mpr q⟩
 have rise:Rise (live.map (·.1)):=by
  have h1:(List.range (mask+1)).Pairwise (·<·):=List.pairwise_lt_range;rw[<-hlive,List.map_filterMap];refine List.Pairwise.filterMap _ (λa b hab x hx y hy=>?_) h1
  cases ha:owner.getD a none with
  |none=>rw[ha]at hx;cases hx
  |some k=>
   rw[ha]at hx;have hx:some a=some x:=hx
   cases hb:owner.getD b none with
   |none=>rw[hb]at hy;cases hy
   |some k'=>
    rw[hb]at hy;have hy:some b=some y:=hy;injection hx with hx;injection hy with hy;lia
 have nd2:(live.map (·.2)).Nodup:=by
  have hr:live.Pairwise (λa b=>a.1<b.1):=List.pairwise_map.mp rise;refine List.pairwise_map.mpr (hr.imp_of_mem λ{a b} ha hb hab q=>?_);have h1:=(mem a).mp ha;have h2:=(mem b).mp hb;rw[q]at h1;rw[h1]at h2;have:=qAW h2;lia
 have perm:(live.map (·.2)).Perm (List.range hs.length):=by
  refine(List.perm_ext_iff_of_nodup nd2 List.nodup_range).mpr λk=>?_;rw[qAw,qAM];constructor
  .rintro ⟨p,hp,rfl⟩;have:=(qAg.mp ((mem p).mp hp)).1;rw[O.n]at this;exact this
  .intro hk;have hk':k<sl.length:=by rw[O.n];exact hk
   exact⟨(sl[k],k),(mem _).mpr (by simp),rfl⟩
 have pmem:∀j,j∈live.map (·.1)↔j∈sl:=λj=>by
  rw[qAM];constructor
  .rintro ⟨p,hp,rfl⟩;exact qAT ((mem p).mp hp)
  .intro q;obtain⟨k,hk,ek⟩:=qA5.mp q;exact⟨(j,k),(mem _).mpr (qAg.mpr ⟨hk,ek⟩),rfl⟩
 have llen:live.length=hs.length:=by
  have:=perm.length_eq;simpa using this
 refine⟨{mask,place:=(live.map (·.1)).toArray,dummies:=#[],finger:=fi,led,moves:=mo,plain},(live.map (·.2)).toArray,?_,rfl,rfl,rfl,by simpa using perm,?_⟩
 .unfold laid;rw[e];show some (_,_)=some (_,_);rw[hlive]
 .refine ⟨hm,rfl,by simpa using rise,λj hj=>?_,by simp[llen],by simp[llen];exact hl,λi j h e1 e2=>?_⟩
  .exact O.l j ((pmem j).mp (by simpa using hj))
  .have e1:(live.map (·.1))[i]?=some j:=by simpa using e1
   have e2:((live.map (·.2)).map λk=>hs.getD k 0)[i]?=some h:=by simpa using e2
   cases q:live[i]? with
   |none=>rw[qAN,q]at e1;cases e1
   |some p=>
    rw[qAN,q]at e1;rw[qAN,qAN,q]at e2;have e1:p.1=j:=by simpa using e1
    have e2:hs.getD p.2 0=h:=by simpa using e2
    have hp:=(mem p).mp (qAT q);rw[e1]at hp;have hk:p.2<hs.length:=by rw[<-O.n];exact(qAg.mp hp).1
    have hh:hs[p.2]?=some h:=by
     rw[<-e2,qAx];simp[hk]
    obtain⟨n,q1,q2⟩:=O.reach p.2 j h hp hh
    exact⟨n,q1,λm hm=>by
     have:=(pmem _).mpr (q2 m hm);simpa using this⟩
section
variable{prog:Program}{w:World}{K:Type}[DecidableEq K]{knd:KeyKind prog w K}{A:Around}{E:Value->Shared->Prop}{s:Shared}
theorem byv_noref{v:Value}(h:carriedByValue v=true):∀a,v≠.ref a:=by
 intro a e;subst e;simp[carriedByValue]at h
theorem cls_byv(n:Nat){v:Value}(h:carriedByValue v=true):ofAClassStatement n v=pure false:=by
 cases v with
 |ref a=>exact absurd rfl (byv_noref h a)
 |_=>cases n<;>(unfold ofAClassStatement;rfl)
theorem w_cls{k:List K}{Q:Bool->Shared->Prop}(hk:IsTupleKey knd s.heap k b)(h:Q false s):wpAny (model prog w) A (ofAClassStatement 8 (.ref b)) Q E s:=by
 have hT:=hk.typeIs;obtain⟨o,items,n,ho,_,hd,hi⟩:=hk;unfold ofAClassStatement;refine qAA (qCS hT ?_);show wpAny _ _ (if("tuple"=="tuple")=true then _ else _) _ _ _;rw[qAC (by decide)];refine qAA (qAD ?_);show wpAny _ _ (if(!true)=true then _ else _) _ _ _;rw[qAB (by decide)];show wpAny _ _ (seqItems? (.ref b) >>= _) _ _ _;refine qAA ?_;show wpAny _ _ (load b >>= _) _ _ _;refine qAA (wpAny_load ho ?_);rw[hd];refine qAD ?_;dsimp only;refine qAA ?_;show wpAny _ _ (forIn items _ _) _ _ s;rw[<-Array.forIn_toList];refine qDA _ (λrest r s'=>r.1=none/\s'=s/\∀v∈rest,carriedByValue v=true) _ ?_ ?_ _ _ ⟨rfl,rfl,hi.byValue⟩
 .rintro v rest r s' ⟨hr,rfl,hall⟩;refine qAA (wpAny_of_eq (cls_byv _ (hall v qAX)) ?_);rw[qAB (by decide)];exact qAD ⟨rfl,rfl,λu hu'=>hall u (qAU _ hu')⟩
 .rintro ⟨r1,r2⟩ s' ⟨hr,rfl,_⟩;have hr:r1=none:=hr;subst hr;exact qAD h
theorem w_seen{k:List K}{stored:List Value}{Q:Bool->Shared->Prop}(hk:IsTupleKey knd s.heap k b)(hs:∀v∈stored,∃k' b',v= .ref b'/\IsTupleKey knd s.heap k' b')(h:Q false s):wpAny (model prog w) A (searchCouldBeSeen (.ref b) stored) Q E s:=by
 unfold searchCouldBeSeen;refine qAA ?_;refine qDA _ (λrest r s'=>r.1=none/\s'=s/\∀v∈rest,∃k' b',v= .ref b'/\IsTupleKey knd s.heap k' b') _ ?_ ?_ _ _ ⟨rfl,rfl,hs⟩
 .rintro v rest r s' ⟨hr,rfl,hall⟩;obtain⟨k',b',rfl,hk'⟩:=hall v qAX;have hall':∀u∈rest,∃k' b',u= .ref b'/\IsTupleKey knd s'.heap k' b':=λu hu'=>hall u (qAU _ hu');dsimp only
  by_cases c:((b==b')||(carriedByValue (.ref b)&&carriedByValue (.ref b')))=true
  .rw [qAC c];exact qAD ⟨rfl,rfl,hall'⟩
  .rw [qAB c];refine qAA (wpAny_eqIsQuiet_tuple hk ?_);rw[qAB (by decide)];refine qAA (wpAny_eqIsQuiet_tuple hk' ?_);rw[qAB (by decide)];refine qAA (w_cls hk ?_);rw[qAB (by decide)];refine qAA (w_cls hk' ?_);rw[qAB (by decide)];exact qAD ⟨rfl,rfl,hall'⟩
 .rintro ⟨r1,r2⟩ s' ⟨hr,rfl,_⟩;have hr:r1=none:=hr;subst hr;exact qAD h
theorem hbv_byv(n:Nat){v:Value}(h:carriedByValue v=true):∃c,hashByValue n v=pure c:=by
 cases v with
 |ref a=>exact absurd rfl (byv_noref h a)
 |_=>cases n<;>(unfold hashByValue;exact⟨_,rfl⟩)
theorem w_hbv{k:List K}{Q:Bool->Shared->Prop}(hk:IsTupleKey knd s.heap k b)(h:∀c,Q c s):wpAny (model prog w) A (hashByValue 8 (.ref b)) Q E s:=by
 have hT:=hk.typeIs;obtain⟨o,items,n,ho,_,hd,hi⟩:=hk;unfold hashByValue;refine qAA (qCi hT F.slot_tuple_hash.lookup ?_);show wpAny _ _ (seqItems? (.ref b) >>= _) _ _ _;refine qAA ?_;show wpAny _ _ (load b >>= _) _ _ _;refine qAA (wpAny_load ho ?_);rw[hd];refine qAD ?_;dsimp only;refine qAA ?_;show wpAny _ _ (forIn items _ _) _ _ s;rw[<-Array.forIn_toList];refine qDA _ (λrest r s'=>s'=s/\∀v∈rest,carriedByValue v=true) _ ?_ ?_ _ _ ⟨rfl,hi.byValue⟩
 .rintro v rest r s' ⟨rfl,hall⟩;obtain⟨c,ec⟩:=hbv_byv 7 (hall v qAX);rw[ec];refine qAA (qAD ?_);split
  .exact qAD (qAD (h _))
  .exact qAD ⟨rfl,λu hu'=>hall u (qAU _ hu')⟩
 .rintro ⟨r1,r2⟩ s' ⟨rfl,_⟩
  cases r1 with
  |none=>exact qAD (h _)
  |some c=>exact qAD (h _)
end
section
variable{prog:Program}{w:World}{K:Type}[DecidableEq K]{knd:KeyKind prog w K}{A:Around}{E:Value->Shared->Prop}{s:Shared}
def en(knd:KeyKind prog w K)(p:List K×Addr):Int×Value:=(tupleKeyHash knd p.1,.ref p.2)
def byt(w:World):Bool:=w.params.followText "set-order"
structure SetX(knd:KeyKind prog w K)(h:Heap)(a:Addr)(xs:List (List K×Addr))(o:Obj)(es:Array (Int×Value))(ep:Nat)(t:SetTable):Prop where
 ho:h.get? a=some o
 ex:o.ExactSet
 hd:o.data= .set es ep t
 el:es.toList=xs.map (en knd)
 ok:TOk t (xs.map λp=>tupleKeyHash knd p.1)
 room:xs.length*5<t.mask*3
 nd:(xs.map (·.1)).Nodup
 ky:∀p∈xs,IsTupleKey knd h p.1 p.2
 ld:t.led= !byt w
section
variable{a:Addr}{xs:List (List K×Addr)}{o:Obj}{es:Array (Int×Value)}{ep:Nat}{t:SetTable}
theorem SetX.at(X:SetX knd s.heap a xs o es ep t)(i:Nat):es[i]?=(xs[i]?).map (en knd):=by
 rw[<-qAn,X.el,qAN]
theorem SetX.size(X:SetX knd s.heap a xs o es ep t):es.size=xs.length:=by
 have:=qAj List.length X.el;simpa using this
theorem SetX.fits(X:SetX knd s.heap a xs o es ep t):t.fits es.size=true:=by
 unfold SetTable.fits;have h1:t.place.size=es.size:=by rw[X.ok.n,X.size];simp
 have h2:t.fill<=t.mask:=by
  unfold fill;rw[X.ok.d];exact X.ok.f
 rw[h1];simp[h2]
theorem SetX.state(X:SetX knd s.heap a xs o es ep t){Q:(Array (Int×Value)×Nat×SetTable)->Shared->Prop}(h:Q (es,ep,t) s):wpAny (model prog w) A (setState a) Q E s:=wpAny_setState_of X.ho X.hd X.fits h
theorem msk_odd{m:Nat}(h:Msk m):(m % 2==0)=false:=by
 rcases h with rfl|rfl|rfl|rfl<;>decide
theorem SetX.has(X:SetX knd s.heap a xs o es ep t)(e:t.place[i]?=some j):∃p,xs[i]?=some p:=by
 have h1:i<t.place.size:=(qBK.mp e).1;have h2:=X.ok.n;rw[qAE]at h2;exact⟨xs[i]'(by lia),by simp⟩
theorem split_seen{c:Bool}{m:Sem Bool}{u:String}{jp:Unit->Sem α}{Q:α->Shared->Prop}(hm:∀f:Bool->Sem α,wpAny (model prog w) A (f false) Q E s->wpAny (model prog w) A (m >>= f) Q E s)(h:wpAny (model prog w) A (jp ()) Q E s) :
  wpAny (model prog w) A (if c=true then(m >>= λl=>if l=true then(unsupported u >>= jp)else jp ())else jp ()) Q E s:=by
 by_cases z:c=true
 .rw [qAC z];exact hm _ h
 .rw [qAB z];exact h
theorem w_search(hu:A.units<cLine)(X:SetX knd s.heap a xs o es ep t){k:List K}(hk:IsTupleKey knd s.heap k b)(hN:(pr t.mask (tupleKeyHash knd k) N).j∉t.place.toList)(hb:∀m,m<N->(pr t.mask (tupleKeyHash knd k) m).j∈t.place.toList)(hNf:N<10*turns t.mask)
  {Q:SetFound->Shared->Prop} (h1:k∈xs.map (·.1)->Q (.there none) s) (h2:k∉xs.map (·.1)->Q (.free (pr t.mask (tupleKeyHash knd k) N).j false) s) :
  ∀(d n fuel:Nat)(stand:Option Probe),N=n+d->d<fuel->stand.getD (t.probeStart (tupleKeyHash knd k))=pr t.mask (tupleKeyHash knd k) n ->
   (∀m,m<n->∃(i:Nat)(p:List K×Addr),t.place[i]?=some (pr t.mask (tupleKeyHash knd k) m).j/\xs[i]?=some p/\p.1≠k)->wpAny (model prog w) A (setSearchFrom a (.ref b) (tupleKeyHash knd k) true fuel stand) Q E s:=by
 intro d
 induction d using Nat.strongRecOn with
 |_ d ih=>
  intro n fuel stand e hf hst hseen;obtain⟨fuel,rfl⟩:∃f,fuel=f+1:=⟨fuel-1,by lia⟩;unfold setSearchFrom;refine qAA (X.state ?_);show wpAny _ _ (if(t.mask % 2==0)=true then _ else _) _ _ _;rw[msk_odd X.ok.m,qAB (by decide)]
  have oth:∀m,Oth t (λi=>(es[i]?.map (·.1)).getD 0) (tupleKeyHash knd k) m->∃(i:Nat)(p:List K×Addr),t.place[i]?=some (pr t.mask (tupleKeyHash knd k) m).j/\xs[i]?=some p/\p.1≠k:=λm ⟨i,ei,hi⟩=>by
   obtain⟨p,ep'⟩:=X.has ei;refine⟨i,p,ei,ep',λz=>hi ?_⟩;show(es[i]?.map (·.1)).getD 0=_;rw[X.at i,ep',<-z];rfl
  rw[hst];rcases go_ok X.ok (λi=>(es[i]?.map (·.1)).getD 0) (tupleKeyHash knd k) hN hb d n (10*turns t.mask) e (by lia)with⟨z1,z2⟩|⟨m,i,z1,z2,z3,z4,z5,z6⟩
  .have z1:t.probe (λi=>(es[i]?.map (·.1)).getD 0) (tupleKeyHash knd k) (pr t.mask (tupleKeyHash knd k) n)=some (.empty (pr t.mask (tupleKeyHash knd k) N).j none):=z1
   erw [z1]
   refine qAD (h2 λhm=>?_);obtain⟨p,hp,rfl⟩:=qAM.mp hm;obtain⟨i,hi,ei⟩:=qA5.mp hp;have exi:xs[i]?=some p:=qAg.mpr ⟨hi,ei⟩;have hpl:i<t.place.size:=by rw[X.ok.n,qAE];exact hi
   have epl:t.place[i]?=some t.place[i]:=by simp
   obtain⟨q,q1,q2⟩:=X.ok.reach i t.place[i] (tupleKeyHash knd p.1) epl (by rw[qAN,exi];rfl)
   have hqN:q<N:=by
    apply qA8;intro c
    by_cases cq:q=N
    .subst cq;exact hN (by rw[q1];exact qAT (i:=i) (by rw[qAn];exact epl))
    .exact hN (q2 N (by lia))
   have:∃(i':Nat)(p':List K×Addr),t.place[i']?=some (pr t.mask (tupleKeyHash knd p.1) q).j/\xs[i']?=some p'/\p'.1≠p.1:=by
    by_cases c:q<n
    .exact hseen q c
    .exact oth q (z2 q (by lia) hqN)
   obtain⟨i',p',w1,w2,w3⟩:=this;rw[q1]at w1
   have:i'=i:=by
    rcases Nat.lt_trichotomy i' i with z|z|z
    .have:=zEj X.ok.r z w1 epl;lia
    .exact z
    .have:=zEj X.ok.r z epl w1;lia
   subst this;rw[exi]at w2
   cases w2
   exact w3 rfl
  .have z5:t.probe (λi=>(es[i]?.map (·.1)).getD 0) (tupleKeyHash knd k) (pr t.mask (tupleKeyHash knd k) n)=some (.candidate (pr t.mask (tupleKeyHash knd k) m).j i (pr t.mask (tupleKeyHash knd k) (m+1))):=z5
   erw [z5]
   obtain⟨p,exi⟩:=X.has z3;have hp:=X.ky p (qAT exi);have eei:es[i]?=some (tupleKeyHash knd p.1,.ref p.2):=by rw[X.at i,exi];rfl
   refine split_seen (λf hf=>qAA (w_seen hk ?_ hf)) ?_
   .intro v hv;obtain⟨q,hq,rfl⟩:=qAM.mp hv
    have hq:q∈es.toList:=by
     have:=(Array.mem_filter.mp (qDN.mp hq)).1;exact qDN.mpr this
    rw[X.el]at hq;obtain⟨p',hp',rfl⟩:=qAM.mp hq;exact⟨p'.1,p'.2,rfl,X.ky p' hp'⟩
   dsimp only;rw[eei];dsimp only;refine qAA (qAk (wpAny_eqBool_tuple hu hp hk ?_));refine qAA (X.state ?_);dsimp only
   by_cases c:p.1=k
   .rw [qAC (by simp[c])];exact qAD (h1 (qAM.mpr ⟨p,qAT exi,c⟩))
   .rw [qAB (by simp[c])];have esm:t.sameMemory t.moves t.mask=some true:=by unfold SetTable.sameMemory;simp
    rw[esm];dsimp only;rw[qAC rfl,slot_live X.ok z3];dsimp only;rw[eei];dsimp only;refine qAA (wpAny_isSame_ref_self ?_);rw[qAC rfl];refine qAA (qAD ?_);dsimp only;rw[qAB (by simp[c])];refine ih (N-(m+1)) (by lia) (m+1) fuel (some _) (by lia) (by lia) rfl ?_;intro q hq
    by_cases cq:q<n
    .exact hseen q cq
    by_cases cm:q=m
    .subst cm;exact⟨i,p,z3,exi,c⟩
    .exact oth q (z6 q (by lia) (by lia))
end
end
section
variable{prog:Program}{w:World}{K:Type}[DecidableEq K]{knd:KeyKind prog w K}{A:Around}{E:Value->Shared->Prop}{s:Shared}
variable{a:Addr}{xs:List (List K×Addr)}{o:Obj}{es:Array (Int×Value)}{ep:Nat}{t:SetTable}
theorem key_but{h h':Heap}{k:List K}(x:IsTupleKey knd h k b)(ho:h.get? a=some o)(hd:o.data= .set es ep t)(hs:Heap.SameBut a h h'):IsTupleKey knd h' k b:=by
 obtain⟨o1,its,n,p1,p2,p3,p4⟩:=x;refine⟨o1,its,n,(hs.2 b λz=>?_).trans p1,p2,p3,p4⟩;subst z;have:=qAW (p1.symm.trans ho);subst this;rw[hd]at p3;exact nomatch p3
theorem put_get{h:Heap}(ho:h.get? a=some o)(hd:o.data= .set es ep t)(es':Array (Int×Value))(t':SetTable):(h.update a (Obj.putSet es' t')).get? a=some {o with data:=.set es' (ep+1) t'}:=by
 have:=qA2 (Obj.putSet es' t') ho (by rw[putSet_of es' t' hd];rfl)
 rwa [putSet_of es' t' hd]at this
theorem put_X{h:Heap}(ho:h.get? a=some o)(ex:o.ExactSet)(hd:o.data= .set es ep t){es':Array (Int×Value)}{t':SetTable}{ys:List (List K×Addr)}(e1:es'.toList=ys.map (en knd))(e2:TOk t' (ys.map λp=>tupleKeyHash knd p.1))(e3:ys.length*5<t'.mask*3)(e4:(ys.map (·.1)).Nodup)(e5:∀p∈ys,IsTupleKey knd h p.1 p.2)(e6:t'.led= !byt w) :
  SetX knd (h.update a (Obj.putSet es' t')) a ys {o with data:=.set es' (ep+1) t'} es' (ep+1) t' :=
 ⟨put_get ho hd es' t',ex,rfl,e1,e2,e3,e4,λp hp=>key_but (e5 p hp) ho hd (qAy h a _),e6⟩
theorem not_scan(b:Addr)(es:Array (Int×Value)):byScan (.ref b) es=false:=by
 unfold byScan;rfl
theorem grow_mask{m n:Nat}(hm:Msk m)(h0:n*5<m*3)(h1:m*3<=(n+1)*5)(hc:n+1<=306):Msk (sizeAbove (grown (n+1))-1)/\n+1<=sizeAbove (grown (n+1))-1/\(n+1)*5<(sizeAbove (grown (n+1))-1)*3/\sizeAbove (grown (n+1))<=512:=by
 rcases hm with rfl|rfl|rfl|rfl
 .obtain rfl:n=4:=by lia
  refine⟨by unfold Msk;decide +kernel,by decide +kernel,by decide +kernel,by decide +kernel⟩
 .obtain rfl:n=18:=by lia
  refine⟨by unfold Msk;decide +kernel,by decide +kernel,by decide +kernel,by decide +kernel⟩
 .obtain rfl:n=76:=by lia
  refine⟨by unfold Msk;decide +kernel,by decide +kernel,by decide +kernel,by decide +kernel⟩
 .lia
theorem getD_hash(ys:List (List K×Addr))(order:List Nat)(hp:order.Perm (List.range ys.length)):(order.filterMap (ys[·]?)).map (λp=>tupleKeyHash knd p.1)=order.map (λk=>(ys.map λp=>tupleKeyHash knd p.1).getD k 0):=by
 have hall:∀k∈order,k<ys.length:=λk hk=>qAw.mp (hp.mem_iff.mp hk);clear hp
 induction order with
 |nil=>rfl
 |cons k ks ih=>
  have hk:=hall k qAX;have e:ys[k]?=some ys[k]:=by simp[hk]
  rw[qBi,e];show tupleKeyHash knd ys[k].1::_=_::_;rw[ih (λq hq=>hall q (qAU _ hq))];congr 1;show _=(List.map (λp=>tupleKeyHash knd p.fst) ys).getD k 0;rw[qAx,qAN,e];rfl
theorem range_get(ys:List α):(List.range ys.length).filterMap (ys[·]?)=ys:=by
 induction ys with
 |nil=>rfl
 |cons y ys ih=>
  rw[qAZ,List.range_succ_eq_map,qBi];show y::_=_;rw[List.filterMap_map];congr 1
theorem perm_get(ys:List α){order:List Nat}(hp:order.Perm (List.range ys.length)):(order.filterMap (ys[·]?)).Perm ys:=by
 have:=hp.filterMap (ys[·]?)
 rwa [range_get]at this
theorem w_relay{s:Shared}{m n:Nat}(ho:s.heap.get? a=some o)(ex:o.ExactSet)(hd:o.data= .set es ep t)(e1:es.toList=xs.map (en knd))(e2:TOk t (xs.map λp=>tupleKeyHash knd p.1))(hn:xs.length=n+1)(h0:n*5<t.mask*3)(h1:t.mask*3<=(n+1)*5)(hc:n+1<=306)
  (e4:(xs.map (·.1)).Nodup) (e5:∀p∈xs,IsTupleKey knd s.heap p.1 p.2) (e6:t.led= !byt w) {Q:Unit->Shared->Prop} (h:∀h' ys o' es' ep' t',Heap.SameBut a s.heap h'->ys.Perm xs->SetX knd h' a ys o' es' ep' t'->Q () {s with heap:=h'}) :
  wpAny (model prog w) A (setRelay a (grown (n+1))) Q E s:=by
 obtain⟨g1,g2,g3,g4⟩:=grow_mask e2.m h0 h1 hc;have ez:es.size=xs.length:=by have:=qAj List.length e1;simpa using this
 have hfit:t.fits es.size=true:=by
  unfold SetTable.fits;have z1:t.place.size=es.size:=by rw[e2.n,ez];simp
  have z2:t.fill<=t.mask:=by unfold fill;rw[e2.d];exact e2.f
  rw[z1];simp[z2]
 unfold setRelay;refine qAA (wpAny_setState_of ho hd hfit ?_);dsimp only;have hsl:sizeAbove (grown (n+1))<=sizeLine:=qAf g4 (by decide +kernel);rw[qAB (qCo.mpr hsl)];obtain⟨t',order,l1,l2,l3,l4,l5,l6⟩:=laid_ok g1 (xs.map λp=>tupleKeyHash knd p.1) (by rw[qAE];lia) t.finger (t.movedTo (sizeAbove (grown (n+1))-1)) t.led t.plain
 have lr:t.relaid (es.map (·.1)) (grown (n+1))=some (t',order):=by
  unfold relaid
  have:es.map (·.1)=(xs.map λp=>tupleKeyHash knd p.1).toArray:=by
   apply Array.ext';rw[Array.toList_map,e1,qBR];rfl
  rw[this];exact l1
 rw[lr];rw[qAE]at l5;have lp:=perm_get xs l5
 have el':(order.filterMap (es[·]?)).toList=(order.toList.filterMap (xs[·]?)).map (en knd):=by
  rw[Array.toList_filterMap,List.map_filterMap];congr 1;funext k;rw[<-qAn,e1,qAN]
 have ez':(order.filterMap (es[·]?)).size=es.size:=by
  rw[<-qBj,el',qAE,lp.length_eq,ez]
 refine qAA ?_;show wpAny _ _ (if((order.filterMap (es[·]?)).size != es.size)=true then _ else _) _ _ _;rw[qAB (by rw[ez'];simp)];refine qAD ?_;dsimp only;refine wpAny_storeSet_of ho hd ?_ (by rw[ez',ez,hn];exact qAf hc (by decide +kernel));refine h _ _ _ _ _ _ (qAy _ a _) lp (put_X ho ex hd el' ?_ ?_ ?_ (λp hp=>e5 p (lp.mem_iff.mp hp)) (l3.trans e6))
 .rw [getD_hash xs order.toList l5];exact l6
 .rw [lp.length_eq,hn,l2];exact g3
 .exact (lp.map (·.1)).nodup_iff.mpr e4
theorem ins_perm(L:List α)(p:Nat)(x:α):(L.take p++x::L.drop p).Perm (x::L):=by
 have h1:(L.take p++x::L.drop p).Perm (x::(L.take p++L.drop p)):=List.perm_middle
 rwa [qBd]at h1
theorem plain_off{t:SetTable}(T:TOk t hs)(c:Bool):TOk (if c=true then t else {t with plain:=false}) hs/\(if c=true then t else {t with plain:=false}).mask=t.mask/\(if c=true then t else {t with plain:=false}).tooFull=t.tooFull/\(if c=true then t else {t with plain:=false}).led=t.led:=by
 cases c
 .exact ⟨⟨T.m,T.d,T.r,T.l,T.n,T.f,T.reach⟩,rfl,rfl,rfl⟩
 .exact ⟨T,rfl,rfl,rfl⟩
theorem w_add(hu:A.units<cLine)(X:SetX knd s.heap a xs o es ep t){k:List K}(hk:IsTupleKey knd s.heap k b)(hc:xs.length+1<=306){Q:Bool->Shared->Prop}(h1:k∈xs.map (·.1)->Q false s)
  (h2:k∉xs.map (·.1)->∀h' ys o' es' ep' t',Heap.SameBut a s.heap h'->ys.Perm ((k,b)::xs)->SetX knd h' a ys o' es' ep' t'->Q true {s with heap:=h'}) :
  wpAny (model prog w) A (setAddHashed a (.ref b) (tupleKeyHash knd k)) Q E s:=by
 unfold setAddHashed setAddHashedIn;refine qAk (qAA (X.state ?_));dsimp only;rw[not_scan,qAB (by decide)]
 have hpl:t.place.toList.length=xs.length:=by
  have:=X.ok.n;rw[qAE]at this;simpa using this
 have hroom:=X.room;obtain⟨N,hNf,hN,hb⟩:=zId X.ok.m (tupleKeyHash knd k) (L:=t.place.toList) (by rw[hpl];lia)
 have hT:10*turns t.mask<100000:=by
  rcases X.ok.m with z|z|z|z<;>rw[z]<;>decide +kernel
 unfold setSearch;refine qAA (w_search hu X hk hN hb hNf ?_ ?_ N 0 100000 none (by lia) (by lia) rfl (λm hm=>absurd hm (qDB m)))
 .intro z;exact qAD (h1 z)
 .intro z;dsimp only;refine qAA (X.state ?_);dsimp only
  have hf1:t.place.size+1<=t.mask:=by
   have:t.place.size=xs.length:=by simpa using hpl
   rcases X.ok.m with z|z|z|z<;>lia
  have T1:=put_ok X.ok (tupleKeyHash knd k) hN hb hf1;have em:(t.put (pr t.mask (tupleKeyHash knd k) N).j).1.mask=t.mask:=rfl;have ed:(t.put (pr t.mask (tupleKeyHash knd k) N).j).1.led=t.led:=rfl;have B:=(zEp X.ok.r (pr t.mask (tupleKeyHash knd k) N).j).le;have ep2:(t.put (pr t.mask (tupleKeyHash knd k) N).j).2=below t.place (pr t.mask (tupleKeyHash knd k) N).j:=rfl
  have fin:∀c:Bool,wpAny (model prog w) A (do
    storeSet a (SetTable.insertAt es (t.put (pr t.mask (tupleKeyHash knd k) N).j).2 (tupleKeyHash knd k,.ref b)) (if c=true then(t.put (pr t.mask (tupleKeyHash knd k) N).j).1 else {(t.put (pr t.mask (tupleKeyHash knd k) N).j).1 with plain:=false})
    if(!false&&(if c=true then(t.put (pr t.mask (tupleKeyHash knd k) N).j).1 else {(t.put (pr t.mask (tupleKeyHash knd k) N).j).1 with plain:=false}).tooFull)=true then do
     setRelay a (SetTable.grown (es.size+1))
     pure true
    else pure true) Q E s:=by
   intro c;generalize hp:(t.put (pr t.mask (tupleKeyHash knd k) N).j).2=p at *
   generalize ht:(t.put (pr t.mask (tupleKeyHash knd k) N).j).1=t1 at *
   have hple:p<=es.size:=by
    rw[X.size,ep2];have:t.place.size=xs.length:=by simpa using hpl
    lia
   obtain⟨T2,m2,f2,d2⟩:=plain_off T1 c;generalize ht2:(if c=true then t1 else {t1 with plain:=false})=t2 at *
   have el:(SetTable.insertAt es p (tupleKeyHash knd k,Value.ref b)).toList=(xs.take p++(k,b)::xs.drop p).map (en knd):=by
    rw[zJf es p _ hple,X.el,qAb,qAl,qCp,qCq];rfl
   have ip:=ins_perm xs p (k,b)
   have eT:(xs.map λp=>tupleKeyHash knd p.1).take p++tupleKeyHash knd k::(xs.map λp=>tupleKeyHash knd p.1).drop p=(xs.take p++(k,b)::xs.drop p).map λp=>tupleKeyHash knd p.1:=by
    rw[qAb,qAl,qCp,qCq]
   rw[eT]at T2;have len:(xs.take p++(k,b)::xs.drop p).length=xs.length+1:=by rw[ip.length_eq];rfl
   have nd:((xs.take p++(k,b)::xs.drop p).map (·.1)).Nodup:=by
    refine(ip.map (·.1)).nodup_iff.mpr ?_;exact qBJ.mpr ⟨z,X.nd⟩
   have ky:∀q∈xs.take p++(k,b)::xs.drop p,IsTupleKey knd s.heap q.1 q.2:=λq hq=>by
    rcases qAL.mp (ip.mem_iff.mp hq)with y|y
    .subst y;exact hk
    .exact X.ky q y
   have sz:(SetTable.insertAt es p (tupleKeyHash knd k,Value.ref b)).size=xs.length+1:=by
    have:=qAj List.length el;rw[qAE,len]at this;simpa using this
   refine qAA (wpAny_storeSet_of X.ho X.hd ?_ (by rw[sz];exact qAf hc (by decide +kernel)))
   have fl:t2.tooFull=decide (t.mask*3<=(xs.length+1)*5):=by
    unfold tooFull fill;rw[T2.d,T2.n,qAE,len,m2,em];rfl
   by_cases cf:t.mask*3<=(xs.length+1)*5
   .rw [qAC (by rw[fl];simp[cf])];rw[X.size];refine qAA ?_;refine w_relay (m:=0) (o:={o with data:=.set (insertAt es p (tupleKeyHash knd k,Value.ref b)) (ep+1) t2}) (put_get X.ho X.hd _ _) X.ex rfl el T2 len ?_ ?_ hc nd ?_ (d2.trans (ed.trans X.ld)) ?_
    .rw [m2,em];exact hroom
    .rw [m2,em];exact cf
    .intro q hq;exact key_but (ky q hq) X.ho X.hd (qAy _ a _)
    .intro h' ys o' es' ep' t' q1 q2 q3;exact qAD (h2 z h' ys o' es' ep' t' ((qAy _ a _).trans q1) (q2.trans ip) q3)
   .rw [qAB (by rw[fl];simp[cf])];refine qAD (h2 z _ _ _ _ _ _ (qAy _ a _) ip (put_X X.ho X.ex X.hd el T2 ?_ nd ky (d2.trans (ed.trans X.ld))));rw[len,m2,em];lia
  by_cases cp:(t.put (pr t.mask (tupleKeyHash knd k) N).j).1.plain=true
  .rw [qAC cp];exact qAA (w_hbv hk fin)
  .rw [qAB cp];exact qAA (qAD (fin true))
end
end ST
namespace ST
open PySem PySem.SetTable PyProof.Rows
variable{h:Heap}{α:Type}
section
variable{prog:Program}{w:World}{K:Type}[DecidableEq K]{knd:KeyKind prog w K}{A:Around}{E:Value->Shared->Prop}{s:Shared}
variable{a:Addr}{xs:List (List K×Addr)}{o:Obj}{es:Array (Int×Value)}{ep:Nat}{t:SetTable}
theorem key_kept{h':Heap}{k:List K}{b:Addr}(x:IsTupleKey knd h k b)(e:∀o,h.get? b=some o->h'.get? b=some o):IsTupleKey knd h' k b :=
 let⟨o,its,n,p1,r⟩:=x;⟨o,its,n,e o p1,r⟩
theorem SetX.kept{h h':Heap}(X:SetX knd h a xs o es ep t)(e:∀b o,(b=a\/∃p∈xs,p.2=b)->h.get? b=some o->h'.get? b=some o):SetX knd h' a xs o es ep t :=
 ⟨e a o (.inl rfl) X.ho,X.ex,X.hd,X.el,X.ok,X.room,X.nd,λp hp=>key_kept (X.ky p hp) λo q=>e _ o (.inr ⟨p,hp,rfl⟩) q,X.ld⟩
def Got(knd:KeyKind prog w K)(h:Heap)(a:Addr)(ks:List (List K×Addr)):Prop :=
 ∃xs o es ep t,SetX knd h a xs o es ep t/\(∀p∈xs,p∈ks)/\(∀p∈ks,p.1∈xs.map (·.1))/\xs.length<=ks.length
theorem Got.kept{h h':Heap}{ks:List (List K×Addr)}(g:Got knd h a ks)(e:∀b o,(b=a\/∃p∈ks,p.2=b)->h.get? b=some o->h'.get? b=some o):Got knd h' a ks:=by
 obtain⟨xs,o,es,ep,t,X,g1,g2,g3⟩:=g;exact⟨xs,o,es,ep,t,X.kept λb o hb=>e b o (hb.imp id λ⟨p,hp,q⟩=>⟨p,g1 p hp,q⟩),g1,g2,g3⟩
theorem Got.fresh{a:Addr}(ho:h.get? a=some {cls:=.type "set",dict:=none,data:=.set #[] 0 (.fresh 0 0 (!byt w))}):Got knd h a [] :=
 ⟨[],_,_,_,_,⟨ho,⟨rfl,rfl,rfl⟩,rfl,rfl,fresh_ok 0 0 _,(show 0*5<7*3 by decide),qBe,(λp hp=>nomatch hp),rfl⟩,(λp hp=>nomatch hp),(λp hp=>nomatch hp),qAG _⟩
theorem w_more{ks:List (List K×Addr)}{k:List K}{b:Addr}(hu:A.units<cLine)(g:Got knd s.heap a ks)(hk:IsTupleKey knd s.heap k b)(hc:ks.length+1<=306){Q:Bool->Shared->Prop}
  (h:∀c h',Heap.SameBut a s.heap h'->Got knd h' a (ks++[(k,b)])->Q c {s with heap:=h',toks:=s.toks+(k.length+1)}):wpAny (model prog w) A (setAdd a (.ref b)) Q E s:=by
 obtain⟨xs,o,es,ep,t,X,g1,g2,g3⟩:=g;unfold setAdd;refine qAk (qAA (wpAny_pyHash_tuple hu hk ?_));refine w_add (s:={s with toks:=s.toks+(k.length+1)}) hu X hk (by lia) (λz=>?_) λz h' ys o' es' ep' t' q1 q2 q3=>?_
 .refine h false s.heap (Heap.SameBut.refl a s.heap) ⟨xs,o,es,ep,t,X,λp hp=>qAo _ (g1 p hp),λp hp=>?_,by rw[qAm];exact Nat.le_succ_of_le g3⟩;rcases qAY.mp hp with y|y
  .exact g2 p y
  .rw [qAQ.mp y];exact z
 .refine h true h' q1 ⟨ys,o',es',ep',t',q3,λp hp=>?_,λp hp=>?_,?_⟩
  .rcases qAL.mp (q2.mem_iff.mp hp)with y|y
   .rw [y];exact qAt _ (qAQ.mpr rfl)
   .exact qAo _ (g1 p y)
  .have m:=(q2.map (·.1)).mem_iff (a:=p.1);refine m.mpr ?_;rcases qAY.mp hp with y|y
   .exact qAU _ (g2 p y)
   .rw [qAQ.mp y];exact qAX
  .rw [q2.length_eq,qAm];exact Nat.succ_le_succ g3
end
section
variable{prog:Program}{w:World}{K:Type}[DecidableEq K]{knd:KeyKind prog w K}{A:Around}{R:Result->Shared->Prop}{I:Addr}{fp wr:List Addr}{G:Array GenState->Array GenState->Prop}{P:Nat->Value->Prop}{St:Nat->Shared->Prop}
theorem c_fill{ks:List (List K×Addr)}(hu:A.in1.units<cLine)(W:WalksS prog w A.in1 I fp wr G ks.length P St)(a:Addr)(haf:a∉fp)(hP:∀i v,P i v->∃p,ks[i]?=some p/\v= .ref p.2)(hka:∀p∈ks,p.2≠a/\p.2∉wr)(hc:ks.length<=306) :
  ∀(k i:Nat)(s:Shared),ks.length=i+k->St i s->Got knd s.heap a (ks.take i)->(∀p∈ks,IsTupleKey knd s.heap p.1 p.2) ->
   (∀s',Moved (a::wr) G s s'->Got knd s'.heap a ks->R (.ok (.ret .none)) s')->codeAny (model prog w) A (.builtin "set.update.loop" ⟨[.ref a,.ref I],[]⟩) R s:=by
 have haw:a∉wr:=λz=>haf (W.sub a z);intro k
 induction k with
 |zero=>
  intro i s e st g ky hR;have e:i=ks.length:=by lia
  subst e;rw[qAq]at g;refine qBS qDC ?_;rw[qBf qCT _];change wpAny _ A.in1 (pyNext (Value.ref I) >>= _) _ _ s;refine qAA (W.done s _ _ st λs1 mv=>?_);refine qAD (hR s1 (mv.mono λb hb=>qAU a hb) (g.kept λb o hb q=>mv.heap b o ?_ q));rcases hb with rfl|⟨p,hp,rfl⟩
  .exact haw
  .exact (hka p hp).2
 |succ k ih=>
  intro i s e st g ky hR;have hi:i<ks.length:=by lia
  refine qBS qDC ?_;rw[qBf qCT _];change wpAny _ A.in1 (pyNext (Value.ref I) >>= _) _ _ s;refine qAA (W.item i s _ _ hi st λv s1 pv st1 mv=>?_);obtain⟨p,ep,rfl⟩:=hP i v pv;have pm:p∈ks:=qAT ep
  have up:∀b o,(b=a\/∃q∈ks,q.2=b)->s.heap.get? b=some o->s1.heap.get? b=some o:=λb o hb q=>mv.heap b o (by
   rcases hb with rfl|⟨p,hp,rfl⟩
   .exact haw
   .exact (hka p hp).2) q
  have g1:=g.kept (h':=s1.heap) λb o hb=>up b o (hb.imp id λ⟨q,hq,z⟩=>⟨q,qB3 hq,z⟩);have ky1:∀q∈ks,IsTupleKey knd s1.heap q.1 q.2:=λq hq=>key_kept (ky q hq) λo=>up _ o (.inr ⟨q,hq,rfl⟩);change wpAny _ A.in1 (holding [Value.ref p.2] (setAdd a (.ref p.2)) >>= _) _ _ s1;refine qAA (qAk (w_more (knd:=knd) hu g1 (ky1 p pm) (by rw[qAd];lia) λc h' sb g2=>?_))
  have et:ks.take i++[(p.1,p.2)]=ks.take (i+1):=by
   rw[qCU,ep];rfl
  rw[et]at g2
  have st2:=W.frame (i+1) s1 h' (s1.toks+(p.1.length+1)) st1 (qB2 _ _) λb hb o q=>by
   rw[sb.2 b λz=>haf (z▸hb)];exact q
  refine qAD ⟨qBq qCT _,ih (i+1) _ (by lia) st2 g2 (λq hq=>key_kept (ky1 q hq) λo z=>(sb.2 _ (hka q hq).1).trans z) λs2 mv2 g3=>hR s2 ?_ g3⟩;refine Moved.trans W.gtrans ((mv.mono λb hb=>qAU a hb).then_heap (qB2 _ _) λb o hb z=>?_) mv2;exact(sb.2 b λy=>hb (y▸qAX)).trans z
end
section
variable{prog:Program}{w:World}{K:Type}[DecidableEq K]{knd:KeyKind prog w K}{A:Around}{E:Value->Shared->Prop}{s:Shared}
def set0(w:World):Obj:={cls:=.type "set",dict:=none,data:=.set #[] 0 (.fresh 0 0 (!byt w))}
theorem c_new(v:Value){Q:Value->Shared->Prop}(h:Q (.ref s.heap.objs.size) {s with heap:=s.heap.push (set0 w)}):codeAny (model prog w) A (.call (.builtin "set.__new__") ⟨[.type "set",v],[]⟩) (wants Q E) s:=by
 refine codeAny_of_tree ?_;change wpAny _ A.in1 (checkBuiltinCall "set.__new__" ⟨[.type "set",v],[]⟩ >>= λ_=>again (.builtin "set.__new__" ⟨[.type "set",v],[]⟩)) _ _ s;refine qAA (wpAny_of_eq (F.newCall_set_1 v) (qAD ⟨qBq F.plain_set_new _,qBS F.entry_set_new ?_⟩));rw[qBf F.plain_set_new _];unfold Builtin.«set.__new__» Builtin.Frozenset.newClass;have q:=sub_set_self;obtain⟨hp,g,d,tk,os⟩:=s;dsimp only
 wp_walk
 refine qBY (qAD ?_);dsimp only;simp only[newObj];refine qAA (wpAny_alloc (qAD (qAD ?_)));exact h
theorem w_setBy{l:Addr}{its:Array Value}{Z:Heap->Prop}{Q:Value->Shared->Prop}(hh:A.handled=none)(hl:s.heap.IsList l its)
  (fill:∀(A1:Around) (R:Result->Shared->Prop) (s3:Shared) (fp:List Addr) (G:Array GenState->Array GenState->Prop) (St:Nat->Shared->Prop),A1.in1.units<=A.units+3->WalksS prog w A1.in1 (s.heap.objs.size+1) fp [s.heap.objs.size+1] G its.size (fun i v=>its[i]?=some v) St->s.heap.objs.size∉fp ->
   s3.heap.get? s.heap.objs.size=some (set0 w)->(∀b o,s.heap.get? b=some o->s3.heap.get? b=some o)->St 0 s3->(∀s',Moved [s.heap.objs.size,s.heap.objs.size+1] G s3 s'->Z s'.heap->R (.ok (.ret .none)) s') ->
   codeAny (model prog w) A1 (.builtin "set.update.loop" ⟨[.ref s.heap.objs.size,.ref (s.heap.objs.size+1)],[]⟩) R s3)
  (h:∀(h':Heap)(tk:Nat),s.toks<=tk->Z h'->(∀b o,s.heap.get? b=some o->h'.get? b=some o)->Q (.ref s.heap.objs.size) {s with heap:=h',toks:=tk}) :
  wpAny (model prog w) A (call (.type "set") [.ref l]) Q E s:=by
 obtain⟨c,tl,hmro⟩:=qBr.mro;have k1:=qBr.made;have k2:=qBr.sub;refine qBI (codeAny_of_tree ?_);change wpAny _ _ (callAny (.type "set") _) _ _ _;refine qAD ⟨qDD _ (by decide +kernel),qBS F.entry_type_call ?_⟩;rw[Around.under_plain (weight_type_call_type "set" [.ref l] []) rfl];have k3:=qBr.notType;have k4:=qBr.canCreate;have k5:=F.typeCall_set_1 (.ref l)
 repeat (any_goals (first|assumption|wp_step))
 have hne:∀b o,s.heap.get? b=some o->b≠s.heap.objs.size:=λb o q=>qAR (qAJ q);refine qBV (c_new (w:=w) (.ref l) (E:=E) (Q:=λob s1=>ob= .ref s.heap.objs.size/\s1={s with heap:=s.heap.push (set0 w)}) ⟨rfl,rfl⟩) λr s1 hr=>?_
 cases r with
 |error e=>exact hr
 |ok fl=>
  cases fl with
  |ret ob=>
   obtain⟨rfl,rfl⟩:=hr;have hS:(s.heap.push (set0 w)).get? s.heap.objs.size=some (set0 w):=qAc _ rfl;have hT:Shared.TypeIs {s with heap:=s.heap.push (set0 w)} (.ref s.heap.objs.size) "set":= ⟨_,hS,rfl⟩;have k6:=qBr.init.lookup;have k7:=qBr.init.bind (.ref s.heap.objs.size)
   repeat (any_goals (first|assumption|wp_step))
   refine qBV (qB5 (R:=wants (λr s2=>r= .none/\∃h' tk,s2={s with heap:=h',toks:=tk}/\s.toks<=tk/\Z h'/\(∀b o,s.heap.get? b=some o->h'.get? b=some o)) E) qBr.init.plain F.entry_set_init (check_set_init_1 hT ?_)) λr2 s2 hr2=>?_
   .obtain ⟨ol,hol,hcl,nl,hdl⟩:=hl;obtain⟨o1,o2,o3,o4⟩:=ol;simp only at hcl hdl;subst hcl hdl;have hol1:(s.heap.push (set0 w)).get? l=some {cls:=.type "list",dict:=o2,data:=.seq its nl,slots:=o4}:=qAI _ hol;have k8:=F.sub_list_set;have k9:=F.sub_list_frozenset;have k10:(Value.type "list"== Value.type "dict")=false:=by decide
    have hl1:(s.heap.push (set0 w)).IsList l its:=⟨_,hol1,rfl,nl,rfl⟩;unfold Builtin.«set.__init__» noKeywords Builtin.Frozenset.updateFrom;generalize hPI:pyIter=PI
    wp_walk
    subst hPI;refine qCe hl1 ?_;refine qAA (wpAny_runValue ?_);have esz:(s.heap.push (set0 w)).objs.size=s.heap.objs.size+1:=qBU _ _;have hls:l<s.heap.objs.size:=qAJ hol;have W:=(Walks.list (prog:=prog) (w:=w) (A:=A.in1.in1.in1) (by simpa using hh) (s.heap.push (set0 w)).objs.size l (by rw[esz];exact qAR (qCL hls)) its).toS;rw[esz]at W;rw[esz];refine fill A.in1.in1 _ _ _ _ _ (by show A.units+1+1+1<=A.units+3;lia) W ?_ (qAI _ hS) (λb o q=>qAI _ (qAI _ q)) ⟨⟨_,by rw[<-esz];exact qAc _ rfl,rfl,rfl⟩,hl1.push _⟩ ?_
    .simp only[qAL,qA9,qBL,not_or];exact⟨qAR (qCF _),qBH hls⟩
    .intro s1 mv g;obtain⟨h1,g1,d1,tk1,os1⟩:=s1;have e1:g1=s.gens:=mv.gens;have e2:d1=s.drawn:=mv.drawn;have e3:os1=s.os:=mv.os;subst e1 e2 e3;show wpAny _ _ _ _ _ _;refine qAD (qAD ⟨rfl,h1,tk1,rfl,mv.toks,g,λb o q=>?_⟩);have:=qAJ q
     exact mv.heap b o (by
      simp only[qAL,qA9,qBL,not_or];exact⟨qAR this,qAR (qCL this)⟩) (qAI _ (qAI _ q))
   .cases r2 with
    |error e=>exact hr2
    |ok f2=>
     cases f2 with
     |ret r=>
      obtain⟨rfl,h',tk,rfl,q1,q2,q3⟩:=hr2
      repeat (any_goals (first|assumption|wp_step))
      exact h _ _ q1 q2 q3
     |_=>exact hr2.elim
  |_=>exact hr.elim
theorem w_mkset{l:Addr}{its:Array Value}{ks:List (List K×Addr)}{Q:Value->Shared->Prop}(hh:A.handled=none)(hu:A.units+8<cLine)(hl:s.heap.IsList l its)(ei:its.toList=ks.map λp=>.ref p.2)(ky:∀p∈ks,IsTupleKey knd s.heap p.1 p.2)(hc:ks.length<=306)
  (h:∀(h':Heap)(tk:Nat),s.toks<=tk->Got knd h' s.heap.objs.size ks->(∀b o,s.heap.get? b=some o->h'.get? b=some o)->Q (.ref s.heap.objs.size) {s with heap:=h',toks:=tk}) :
  wpAny (model prog w) A (call (.type "set") [.ref l]) Q E s:=by
 refine w_setBy hh hl (λA1 R s3 fp G St hv W hf hS kp st hR=>?_) h
 have ez:its.size=ks.length:=by
  have:=qAj List.length ei;simpa using this
 rw[ez]at W;refine c_fill (knd:=knd) (by lia) W s.heap.objs.size hf (λi v hv=>?_) (λp hp=>?_) hc ks.length 0 _ (by lia) st (Got.fresh hS) (λp hp=>key_kept (ky p hp) λo q=>kp _ o q) hR
 .have:its.toList[i]?=some v:=by rw[qAn];exact hv
  rw[ei,qAN]at this
  cases hk:ks[i]? with
  |none=>rw[hk]at this;exact nomatch this
  |some p=>rw[hk]at this;exact⟨p,rfl,(qAW this).symm⟩
 .obtain ⟨o,_,_,ho,_⟩:=ky p hp;have:=qAJ ho;simp only[qAL,qA9,qBL];exact⟨qAR this,qAR (qCL this)⟩
end
theorem zEu:Slot "set_iterator" "__next__" "set_iterator.__next__":=
 .of (owner:="set_iterator") (n:="__next__") (by rw[qB6,qB7];kernel_rfl) (by decide +kernel) (by decide +kernel) (by decide +kernel) (by first|exact .inl (by decide +kernel)|exact .inr (by decide +kernel)) (by rw[isSubtype_type];kernel_rfl)
theorem sl_self:Slot "set_iterator" "__iter__" "set_iterator.__iter__":=
 .of (owner:="set_iterator") (n:="__iter__") (by rw[qB6,qB7];kernel_rfl) (by decide +kernel) (by decide +kernel) (by decide +kernel) (by first|exact .inl (by decide +kernel)|exact .inr (by decide +kernel)) (by rw[isSubtype_type];kernel_rfl)
theorem en_next:entryFor table "set_iterator.__next__"=some Builtin.«set_iterator.__next__»:=entryFor_of_fast (by kernel_rfl)
theorem en_self:entryFor table "set_iterator.__iter__"=some Builtin.«dict_keyiterator.__iter__»:=entryFor_alias (id':="dict_keyiterator.__iter__") (by kernel_rfl) rfl (by decide +kernel) (by kernel_rfl)
theorem en_iter:entryFor table "set.__iter__"=some Builtin.«frozenset.__iter__»:=entryFor_alias (id':="frozenset.__iter__") (by kernel_rfl) rfl (by decide +kernel) (by kernel_rfl)
theorem ar_next(a:Value):argsOk "set_iterator.__next__" ⟨[a],[]⟩:=by unfold argsOk;kernel_rfl
theorem ar_self(a:Value):argsOk "set_iterator.__iter__" ⟨[a],[]⟩:=by unfold argsOk;kernel_rfl
theorem zDc{M:Model}{A:Around}{E:Value->Shared->Prop}{s:Shared}{c:Prop}[Decidable c]{x y:Sem α}{Q:α->Shared->Prop}(hc:¬c)(h:wpAny M A y Q E s):wpAny M A (if c then x else y) Q E s:=by rw[qAB hc];exact h
theorem zE2{M:Model}{A:Around}{E:Value->Shared->Prop}{s:Shared}{c:Prop}[Decidable c]{x y:Sem α}{Q:α->Shared->Prop}(hc:c)(h:wpAny M A x Q E s):wpAny M A (if c then x else y) Q E s:=by rw[qAC hc];exact h
theorem zFz :∀{L:List α}{i:Nat}{x:α},L[i]?=some x->(x::L.eraseIdx i).Perm L
 |[],i,x,h=>by simp at h
 |y::r,0,x,h=>by
  have:y=x:=qAW h;subst this;exact List.Perm.refl _
 |y::r,i+1,x,h=>by
  rw[qCm]at h;exact(List.Perm.swap y x _).trans (List.Perm.cons y (zFz h))
theorem pick_go(next:Nat->Nat):∀(fuel k:Nat)(left:List α)(out:Array α),left.length<=fuel->(pickOrder.go next fuel k left out).toList.Perm (out.toList++left)
 |0,k,left,out,h=>by
  have:left=[]:=qCr.mp (Nat.le_zero.mp h);subst this;unfold pickOrder.go;rw[qAu]
 |fuel+1,k,left,out,h=>by
  unfold pickOrder.go
  cases e:left[next k % left.length]? with
  |none=>
   have:left=[]:=by
    cases left with
    |nil=>rfl
    |cons x r=>
     have:=qBv.mp e;have h2:=Nat.mod_lt (next k) (show 0<(x::r).length from qC7 _);exact absurd h2 (qCo.mpr this)
   subst this;dsimp only;rw[qAu]
  |some x=>
   dsimp only;have p:=zFz e;have hl:=p.length_eq;rw[qAZ]at hl;refine(pick_go next fuel (k+1) _ _ (by lia)).trans ?_;rw[qCk,qCI];exact List.Perm.append_left _ p
theorem pick_perm(next:Nat->Nat)(xs:Array α):(pickOrder next xs).toList.Perm xs.toList:=by
 have:=pick_go next xs.size 0 xs.toList #[] (by simp);show(pickOrder.go next xs.size 0 xs.toList #[]).toList.Perm _;simpa using this
section
variable{prog:Program}{w:World}{K:Type}[DecidableEq K]{knd:KeyKind prog w K}{A:Around}{E:Value->Shared->Prop}
theorem w_choose{s:Shared}{src:Source}{n:Nat}(hn:n≠0){Q:Nat->Shared->Prop}(h:∀i d,i<n->Q i {s with drawn:=d}):wpAny (model prog w) A (choose src n) Q E s:=λ_ _ _=>⟨hn,h _ _ (Nat.mod_lt _ (Nat.pos_of_ne_zero hn))⟩
theorem w_draw :∀(n:Nat)(L:List α)(s:Shared)(Q:List α->Shared->Prop),L.length=n->(∀M d,M.Perm L->Q M {s with drawn:=d})->wpAny (model prog w) A (drawOrder n L) Q E s
 |0,L,s,Q,hl,h=>by
  have:L=[]:=qCr.mp hl;subst this;unfold drawOrder;exact qAD (h [] s.drawn (List.Perm.refl _))
 |n+1,[],s,Q,hl,h=>nomatch hl
 |n+1,x::r,s,Q,hl,h=>by
  unfold drawOrder;refine qAA (w_choose (by rw[hl];exact Nat.succ_ne_zero n) λi d hi=>?_);obtain⟨y,ey⟩:∃y,(x::r)[i]?=some y:=⟨(x::r)[i],qAa hi⟩;rw[ey];dsimp only;have p:=zFz ey;have hl2:=p.length_eq;rw[qAZ]at hl2;refine qAA (w_draw n _ _ _ (by lia) λM d' hM=>qAD ?_);exact h (y::M) d' ((List.Perm.cons y hM).trans p)
end
def dr(es:Array (Int×Value))(t:SetTable):Bool:=!t.plain&&decide (es.size>1)
def ItM(w:World)(h:Heap)(a:Addr)(es:Array (Int×Value))(ep:Nat)(t:SetTable)(ord:List Value)(i:Nat)(first:Value):Prop :=
 (byt w=true/\(∃j:Nat,first= .int j 0)/\ord=(pickOrder (w.params.setOrder a ep) es).toList.map (·.2)) \/
 (byt w=false/\∃(T:Addr)(oT:Obj)(c:Nat)(pl:List Nat),first= .ref T/\h.get? T=some oT/\oT.data= .seq (pl.map λ(p:Nat)=>Value.int p 0).toArray c/\pl.Perm (List.range es.size)/\ord=pl.filterMap λp=>(es[p]?).map (·.2)) \/
 (byt w=false/\dr es t=false/\∃slot:Nat,first= .int slot 0/\below t.place slot=i/\ord=es.toList.map (·.2))
structure ItS(w:World)(h:Heap)(I a:Addr)(es:Array (Int×Value))(ep:Nat)(t:SetTable)(ord:List Value)(i:Nat)(o:Obj)(first:Value):Prop where
 ho:h.get? I=some o
 hc:o.cls= .type "set_iterator"
 hd:o.data= .fields #[first,.int i 0,.ref a,.int es.size 0,.int ep 0]
 hm:ItM w h a es ep t ord i first
section
variable{prog:Program}{w:World}{K:Type}[DecidableEq K]{knd:KeyKind prog w K}{A:Around}{E:Value->Shared->Prop}{s:Shared}
variable{a I:Addr}{xs:List (List K×Addr)}{o oI:Obj}{es:Array (Int×Value)}{ep i:Nat}{t:SetTable}{ord:List Value}{first:Value}
theorem below_zero(hr:Rise t.place.toList):below t.place 0=0:=by
 have B:=zEp hr 0;rcases Nat.eq_zero_or_pos (below t.place 0)with z|z
 .exact z
 .have hs:0<t.place.size:=qAi z B.le;have e:t.place[0]?=some t.place[0]:=by simp[hs]
  exact absurd (B.lo 0 _ z e) (qDB _)
theorem below_next(hr:Rise t.place.toList){i j:Nat}(e:t.place[i]?=some j):below t.place (j+1)=i+1:=by
 have B:=zEp hr (j+1);have hi:i<t.place.size:=(qBK.mp e).1;have h1:i<below t.place (j+1):=Nat.lt_of_not_le λz=>by have:=B.hi i j z e;lia
 rcases Nat.lt_or_ge (i+1) (below t.place (j+1))with z|z
 .have hs:i+1<t.place.size:=qAi z B.le;have e2:t.place[i+1]?=some t.place[i+1]:=by simp[hs]
  have q1:=B.lo (i+1) _ z e2;have q2:=zEj hr (qCF i) e e2;lia
 .lia
theorem ItM.perm(m:ItM w h a es ep t ord i first):ord.Perm (es.toList.map (·.2)):=by
 rcases m with⟨_,_,rfl⟩|⟨_,T,oT,c,pl,_,_,_,hp,rfl⟩|⟨_,_,slot,_,_,rfl⟩
 .exact (pick_perm _ es).map _
 .have:=hp.filterMap λp=>(es[p]?).map (·.2);refine this.trans (List.Perm.of_eq ?_);rw[<-List.map_filterMap];congr 1;have:=range_get es.toList;rw[qBj]at this;simpa using this
 .exact List.Perm.refl _
theorem ItM.len(m:ItM w h a es ep t ord i first):ord.length=es.size:=by
 rw[m.perm.length_eq];simp
theorem ItS.typeIs(it:ItS w s.heap I a es ep t ord i oI first):s.TypeIs (.ref I) "set_iterator":= ⟨_,it.ho,it.hc⟩
theorem fm_at{pl:List Nat}(hp:pl.Perm (List.range es.size))(i:Nat):(pl.filterMap λp=>(es[p]?).map (·.2))[i]?=(pl[i]?).bind λp=>(es[p]?).map (·.2):=by
 have hall:∀k∈pl,k<es.size:=λk hk=>qAw.mp (hp.mem_iff.mp hk);clear hp
 induction pl generalizing i with
 |nil=>simp
 |cons k ks ih=>
  have hk:=hall k qAX;have e:es[k]?=some es[k]:=by simp[hk]
  have ih':=λi=>ih i λq hq=>hall q (qAU _ hq);rw[qBi,e]
  cases i with
  |zero=>simp[e]
  |succ i=>
   show(_::_)[i+1]?=_;rw[qCm,ih' i,qCm]
theorem w_item(X:SetX knd s.heap a xs o es ep t)(it:ItS w s.heap I a es ep t ord i oI first)(hne:I≠a){v:Value}(hv:ord[i]?=some v){Q:Option Value->Shared->Prop}
  (h:∀h' o' f',Heap.SameBut I s.heap h'->ItS w h' I a es ep t ord (i+1) o' f'->(∀T,f'= .ref T->first= .ref T)->Q (some v) {s with heap:=h'}):wpAny (model prog w) A (pyNext (.ref I)) Q E s:=by
 unfold pyNext;refine qAA (qCM (wpAny_callSpecial?_slot (name:=Str.ofString "__next__") it.typeIs zEu (qCV zEu it.typeIs en_next ?_ (ar_next _))));unfold Builtin.«set_iterator.__next__»;refine qAA (m:=slotArgs "__next__" 0 _) (qAD ?_);refine qAA (wpAny_fieldsOf it.ho it.hd ?_);dsimp only;refine qAA (wpAny_setEntries_of X.ho X.hd X.fits ?_);refine zDc (by simp) ?_;rcases it.hm with⟨m1,⟨j,rfl⟩,m3⟩|⟨m1,T,oT,c,pl,rfl,m3,m4,m5,m6⟩|⟨m1,m2,slot,rfl,m4,m5⟩
 .dsimp only;refine qAA ?_;unfold setNext;refine qAA (X.state ?_);dsimp only;refine qAA (qAA (qBY (qAD ?_)));refine zE2 m1 ?_;refine zDc (by simp) ?_;refine qAA ?_;unfold setWalk;refine qAA (X.state ?_);dsimp only;refine qAA (qAA (qBY (qAD ?_)));refine zE2 m1 ?_;refine qAA (qBY (qAD (qAD ?_)))
  have e1:(pickOrder (w.params.setOrder a ep) es)[i]?.map (·.2)=some v:=by
   rw[m3,qAN]at hv;rw[<-qAn];exact hv
  obtain⟨q,q1,q2⟩:=qBb.mp e1;subst q2;have e2:(pickOrder ((model prog w).w.params.setOrder a ep) es)[(i:Int).toNat]?=some q:=q1
  erw [e2]
  show wpAny _ _ (setField (.ref I) 0 (rawInt _) >>= _) _ _ _;refine qAA (qBE it.ho it.hd (by simp) ?_);have g1:=qA2 (Obj.mapFields (·.setIfInBounds 0 (rawInt (j:Int).toNat))) it.ho (qBT (qAp it.hd _));refine qAA (qBE g1 (qAp it.hd _) (by simp) ?_);refine qAD ⟨_,rfl,qAD (h _ _ _ ((qAy ..).trans (qAy ..)) ⟨qA2 _ g1 (qBT (qAp (qAp it.hd _) _)),?_,?_,.inl ⟨m1,⟨j,rfl⟩,m3⟩⟩ (λT z=>nomatch z))⟩
  .rw [qB8,qB8];exact it.hc
  .rw [qAp (qAp it.hd _)];simp[rawInt]
 .dsimp only
  have hTI:T≠I:=λz=>by
   subst z;have:=qAW (m3.symm.trans it.ho);subst this;rw[it.hd]at m4;exact nomatch m4
  refine qAA (m:=seqItems? (.ref T)) (qDE m3 m4 ?_);dsimp only;rw[m6,fm_at m5]at hv;obtain⟨p,p1,p2⟩:=Option.bind_eq_some_iff.mp hv;obtain⟨q,q1,q2⟩:=qBb.mp p2;subst q2
  have e1:(pl.map λ(p:Nat)=>Value.int p 0).toArray[(i:Int).toNat]?=some (.int p 0):=by
   simp[p1]
  rw[e1];dsimp only;refine qAA ?_;unfold setNextDrawn;refine qAA (X.state ?_);dsimp only;refine zDc (by simp) ?_;have e2:es[(p:Int).toNat]?=some q:=q1;rw[e2];refine qAD ?_;refine qAA (qBE it.ho it.hd (by simp) ?_);refine qAD ⟨_,rfl,qAD (h _ _ _ (qAy ..) ⟨qA2 _ it.ho (qBT (qAp it.hd _)),(qB8 ..).trans it.hc,?_,.inr (.inl ⟨m1,T,oT,c,pl,rfl,?_,m4,m5,m6⟩)⟩ (λT z=>z))⟩
  .rw [qAp it.hd];simp[rawInt]
  .exact ((qAy s.heap I _).2 T hTI).trans m3
 .dsimp only;refine qAA ?_;unfold setNext;refine qAA (X.state ?_);dsimp only;refine qAA (qAA (qBY (qAD ?_)));refine zDc (by show¬(byt w=true);rw[m1];decide) ?_;refine zDc (show¬(dr es t=true) by rw[m2];decide) ?_;refine qAA (zDc (show¬((!t.led&& !es.isEmpty)=true) by rw[X.ld,m1];simp) (qAD ?_))
  have hl:i<es.size:=by
   rw[<-it.hm.len];exact(qAg.mp hv).1
  have hl2:i<t.place.size:=by
   rw[X.ok.n,qAE,<-X.size];exact hl
  have e1:es[i]?=some es[i]:=by simp[hl]
  have e2:t.place[i]?=some t.place[i]:=by simp[hl2]
  have e3:es[i].2=v:=by
   rw[m5,qAN,qAn,e1]at hv;exact qAW hv
  have e4:below t.place (slot:Int).toNat=i:=m4;rw[e4,e1,e2];refine qAD ?_;show wpAny _ _ (setField (.ref I) 0 (rawInt _) >>= _) _ _ _;refine qAA (qBE it.ho it.hd (by simp) ?_);have g1:=qA2 (Obj.mapFields (·.setIfInBounds 0 (rawInt ((t.place[i]+1:Nat):Int)))) it.ho (qBT (qAp it.hd _));refine qAA (qBE g1 (qAp it.hd _) (by simp) ?_);subst e3;refine qAD ⟨_,rfl,qAD (h _ _ _ ((qAy ..).trans (qAy ..)) ⟨qA2 _ g1 (qBT (qAp (qAp it.hd _) _)),?_,?_,.inr (.inr ⟨m1,m2,t.place[i]+1,rfl,below_next X.ok.r e2,m5⟩)⟩ (λT z=>nomatch z))⟩
  .rw [qB8,qB8];exact it.hc
  .rw [qAp (qAp it.hd _)];simp[rawInt]
theorem w_stop{s:Shared}{Q:Option Value->Shared->Prop}(hh:A.handled=none)(h:∀h',(∀b o,s.heap.get? b=some o->h'.get? b=some o)->Q none {s with heap:=h'}) :
  wpAny (model prog w) A.in1 (newExc (.type "StopIteration") [] >>= λe=>(raiseNew e:Sem Fin)) (λfin s'=>∃r,fin= .done (.ret r)/\wpAny (model prog w) A (pure (some r)) Q E s')
   (λe s'=>wpAny (model prog w) A (isInstance e (.type "StopIteration") >>= λb=>if b=true then pure none else throw e) Q E s') s:=by
 refine qAA ?_;simp only[newExc,newTuple];refine qAA (qBm ?_ (by size_fits));refine qAA (m:=firstArgMember _ _) (wpAny_of_eq (a:=Value.none) (by first|rfl|(simp only[firstArgMember];rfl)) ?_);refine qBm ?_ (by size_fits);simp only[raiseNew];refine qAA (wpAny_handled ?_);rw[show A.in1.handled=none from hh];refine qAA (qAD (wpAny_throw ?_));refine qAA (qDF (T:="StopIteration") (b:=true) ⟨_,qAc _ rfl,rfl⟩ isSubtype_stop ?_);exact qAD (h _ λb o q=>qAI _ (qAI _ q))
theorem w_done(hh:A.handled=none)(X:SetX knd s.heap a xs o es ep t)(it:ItS w s.heap I a es ep t ord i oI first)(hv:ord[i]?=none){Q:Option Value->Shared->Prop}
  (h:∀h',(∀b o,b≠I->s.heap.get? b=some o->h'.get? b=some o)->Q none {s with heap:=h'}):wpAny (model prog w) A (pyNext (.ref I)) Q E s:=by
 unfold pyNext;refine qAA (qCM (wpAny_callSpecial?_slot (name:=Str.ofString "__next__") it.typeIs zEu (qCV zEu it.typeIs en_next ?_ (ar_next _))));unfold Builtin.«set_iterator.__next__»;refine qAA (m:=slotArgs "__next__" 0 _) (qAD ?_);refine qAA (wpAny_fieldsOf it.ho it.hd ?_);dsimp only;refine qAA (wpAny_setEntries_of X.ho X.hd X.fits ?_);refine zDc (by simp) ?_;have up:∀h1,Heap.SameBut I s.heap h1->∀h',(∀b o,h1.get? b=some o->h'.get? b=some o)->Q none {s with heap:=h'}:=λh1 sb h' q=>h h' λb o hb z=>q b o ((sb.2 b hb).trans z);rcases it.hm with⟨m1,⟨j,rfl⟩,m3⟩|⟨m1,T,oT,c,pl,rfl,m3,m4,m5,m6⟩|⟨m1,m2,slot,rfl,m4,m5⟩
 .dsimp only;refine qAA ?_;unfold setNext;refine qAA (X.state ?_);dsimp only;refine qAA (qAA (qBY (qAD ?_)));refine zE2 m1 ?_;refine zDc (by simp) ?_;refine qAA ?_;unfold setWalk;refine qAA (X.state ?_);dsimp only;refine qAA (qAA (qBY (qAD ?_)));refine zE2 m1 ?_;refine qAA (qBY (qAD (qAD ?_)))
  have e1:(pickOrder (w.params.setOrder a ep) es)[i]?.map (·.2)=none:=by
   rw[m3,qAN]at hv;rw[<-qAn];exact hv
  have e2:(pickOrder ((model prog w).w.params.setOrder a ep) es)[(i:Int).toNat]?=none:=qDS.mp e1
  erw [e2]
  show wpAny _ _ (setField (.ref I) 2 Value.none >>= _) _ _ _;refine qAA (qBE it.ho it.hd (by simp) ?_);refine w_stop hh ?_;exact up _ (qAy ..)
 .dsimp only;refine qAA (m:=seqItems? (.ref T)) (qDE m3 m4 ?_);dsimp only
  have e1:(pl.map λ(p:Nat)=>Value.int p 0).toArray[(i:Int).toNat]?=none:=by
   have h1:ord.length<=i:=qBv.mp hv;rw[it.hm.len]at h1;have h2:=m5.length_eq;rw[List.length_range]at h2;simp only[qCf,List.getElem?_toArray,qAN,qDS,qBv];lia
  rw[e1];dsimp only;refine qAA (qBE it.ho it.hd (by simp) ?_);have g1:=qA2 (Obj.mapFields (·.setIfInBounds 0 (rawInt 0))) it.ho (qBT (qAp it.hd _));refine qAA (qBE g1 (qAp it.hd _) (by simp) ?_);refine w_stop hh ?_;exact up _ ((qAy ..).trans (qAy ..))
 .dsimp only;refine qAA ?_;unfold setNext;refine qAA (X.state ?_);dsimp only;refine qAA (qAA (qBY (qAD ?_)));refine zDc (by show¬(byt w=true);rw[m1];decide) ?_;refine zDc (show¬(dr es t=true) by rw[m2];decide) ?_;refine qAA (zDc (show¬((!t.led&& !es.isEmpty)=true) by rw[X.ld,m1];simp) (qAD ?_))
  have e1:es[i]?=none:=by
   rw[m5,qAN,qAn]at hv;exact qDS.mp hv
  have e4:below t.place (slot:Int).toNat=i:=m4;rw[e4,e1];refine qAD ?_;show wpAny _ _ (setField (.ref I) 2 Value.none >>= _) _ _ _;refine qAA (qBE it.ho it.hd (by simp) ?_);refine w_stop hh ?_;exact up _ (qAy ..)
theorem w_self(it:ItS w s.heap I a es ep t ord i oI first){Q:Value->Shared->Prop}(h:Q (.ref I) s):wpAny (model prog w) A (pyIter (.ref I)) Q E s:=by
 refine wpAny_pyIter_slot it.typeIs sl_self (qCV sl_self it.typeIs en_self ?_ (ar_self _));show wpAny _ _ (ret (.ref I)) _ _ s;exact qAD ⟨_,rfl,"set_iterator",_,it.typeIs,zEu.lookup,h⟩
theorem SetX.typeIs(X:SetX knd s.heap a xs o es ep t):s.TypeIs (.ref a) "set":= ⟨_,X.ho,X.ex.1⟩
theorem w_iter(X:SetX knd s.heap a xs o es ep t)(hn:xs.length<=306){Q:Value->Shared->Prop}
  (h:∀I h' d ord oI first,(∀b o,s.heap.get? b=some o->h'.get? b=some o)->s.heap.objs.size<=I->ItS w h' I a es ep t ord 0 oI first->(∀T,first= .ref T->s.heap.objs.size<=T)->Q (.ref I) {s with heap:=h',drawn:=d}):wpAny (model prog w) A (pyIter (.ref a)) Q E s:=by
 refine wpAny_pyIter_slot X.typeIs F.slot_set_iter (qCV F.slot_set_iter X.typeIs en_iter ?_ (F.args_set_iter_1 _));unfold Builtin.«frozenset.__iter__» Builtin.Frozenset.slot0;refine qAA (qAA (m:=slotArgs "__iter__" 0 _) (qAD (qAD ?_)));dsimp only;unfold Builtin.Frozenset.sizeOf;refine qAA (qAA (wpAny_setEntries_of X.ho X.hd X.fits (qAD ?_)));unfold setDrawn;refine qAA (qAA (X.state (qAA (qAA (qBY (qAD (qAD ?_)))))));have hsz:es.size<=306:=by rw[X.size];exact hn
 by_cases c:(!byt w&&dr es t)=true
 .refine zE2 c ?_;have c1:byt w=false:=by cases z:byt w<;>simp[z]at c ⊢
  refine qAA (w_draw es.size (List.range es.size) s _ (by simp) λpl d hp=>?_);have hpl:pl.length=es.size:=by rw[hp.length_eq];simp
  refine qAA (wpAny_newTuple ?_ (by rw[qAE,hpl];exact qAf hsz (by decide +kernel)));refine qAA (wpAny_setEpoch_of (qAI _ X.ho) X.hd X.fits ?_);refine qAA (qBm (qAD ⟨_,rfl,"set_iterator",_,⟨_,qAc _ rfl,rfl⟩,zEu.lookup,?_⟩));refine h _ _ d (pl.filterMap λp=>(es[p]?).map (·.2)) _ (.ref s.heap.objs.size) (λb o q=>qAI _ (qAI _ q)) ?_ ⟨qAc _ rfl,rfl,rfl,.inr (.inl ⟨c1,_,_,_,pl,rfl,qAI _ (qAc _ rfl),rfl,hp,rfl⟩)⟩ (λT z=>by cases z;exact qAG _);show s.heap.objs.size<=(s.heap.push _).objs.size;rw[qBU];exact qBc _
 .refine zDc c ?_;refine qAA (qAD ?_);refine qAA (wpAny_setEpoch_of X.ho X.hd X.fits ?_);refine qAA (qBm (qAD ⟨_,rfl,"set_iterator",_,⟨_,qAc _ rfl,rfl⟩,zEu.lookup,?_⟩))
  cases z:byt w with
  |true=>
   exact h _ _ s.drawn ((pickOrder (w.params.setOrder a ep) es).toList.map (·.2)) _ (.int 0 0) (λb o q=>qAI _ q) (qAG _) ⟨qAc _ rfl,rfl,rfl,.inl ⟨z,⟨0,rfl⟩,rfl⟩⟩ (λT z=>nomatch z)
  |false=>
   have c2:dr es t=false:=by rw[z]at c;simpa using c
   exact h _ _ s.drawn (es.toList.map (·.2)) _ (.int 0 0) (λb o q=>qAI _ q) (qAG _) ⟨qAc _ rfl,rfl,rfl,.inr (.inr ⟨z,c2,0,rfl,below_zero X.ok.r,rfl⟩)⟩ (λT z=>nomatch z)
end
theorem len_set:typeLookup (.type "set") "__len__"=pure (some (.builtin "set.__len__")):=by rw[qB6,qB7];kernel_rfl
section
variable{prog:Program}{w:World}{K:Type}[DecidableEq K]{knd:KeyKind prog w K}{A:Around}{E:Value->Shared->Prop}{s:Shared}
variable{a I:Addr}{xs:List (List K×Addr)}{o oI:Obj}{es:Array (Int×Value)}{ep i:Nat}{t:SetTable}{ord:List Value}{first:Value}
def WSt(knd:KeyKind prog w K)(a I:Addr)(xs:List (List K×Addr))(o:Obj)(es:Array (Int×Value))(ep:Nat)(t:SetTable)(ord:List Value)(Ts:List Addr)(i:Nat)(s:Shared):Prop :=
 ∃oI first,SetX knd s.heap a xs o es ep t/\ItS w s.heap I a es ep t ord i oI first/\∀T,first= .ref T->T∈Ts
theorem w_walks(hh:A.handled=none)(a I:Addr)(hne:I≠a)(xs:List (List K×Addr))(hx:∀p∈xs,p.2≠I)(o:Obj)(es:Array (Int×Value))(ep:Nat)(t:SetTable)(ord:List Value)(Ts:List Addr)(hT:I∉Ts) :
  WalksS prog w A I (I::a::(xs.map (·.2)++Ts)) [I] (λa b=>b=a) ord.length (λi v=>ord[i]?=some v) (WSt knd a I xs o es ep t ord Ts) where
 sub:=λb hb=>by rw[qAQ.mp hb];exact qAX
 grefl:=λ_=>rfl
 gtrans:=λ_ _ _ x y=>y.trans x
 frame:=λi s h' tk ⟨oI,first,X,it,hf⟩ _ hk=>by
  refine⟨oI,first,X.kept λb o hb q=>hk b ?_ o q,⟨hk I qAX _ it.ho,it.hc,it.hd,?_⟩,hf⟩
  .rcases hb with rfl|⟨p,hp,rfl⟩
   .exact qAU _ qAX
   .exact qAU _ (qAU _ (qAo _ (qAM.mpr ⟨p,hp,rfl⟩)))
  .rcases it.hm with m|⟨m1,T,oT,c,pl,m2,m3,m4⟩|m
   .exact .inl m
   .exact .inr (.inl ⟨m1,T,oT,c,pl,m2,hk T (qAU _ (qAU _ (qAt _ (hf T m2)))) _ m3,m4⟩)
   .exact .inr (.inr m)
 item:=λi s Q E hi ⟨oI,first,X,it,hf⟩ hQ=>by
  refine w_item X it hne (v:=ord[i]) (by simp[hi]) λh' o' f' sb it' hf'=>hQ _ _ (by simp[hi]) ⟨o',f',X.kept λb o hb q=>?_,it',λT z=>hf T (hf' T z)⟩ ⟨λb o hb q=>(sb.2 b λz=>hb (z▸qAX)).trans q,rfl,rfl,rfl,qAG _⟩;rcases hb with rfl|⟨p,hp,rfl⟩
  .exact (sb.2 _ (qAV hne)).trans q
  .exact (sb.2 _ (hx p hp)).trans q
 done:=λs Q E ⟨oI,first,X,it,hf⟩ hQ=>w_done hh X it (by simp) λh' q=>hQ _ ⟨λb o hb=>q b o λz=>hb (z▸qAX),rfl,rfl,rfl,qAG _⟩
 self:=λi s Q E ⟨oI,first,X,it,hf⟩ hQ=>w_self it hQ
theorem items_ord{acc:Array Value}(h:ItemsOf (λi v=>ord[i]?=some v) acc ord.length):acc.toList=ord:=by
 refine qCs λi=>?_;rw[qAn]
 cases e:acc[i]? with
 |some v=>exact(h.2 i v e).symm
 |none=>
  have:=Array.getElem?_eq_none_iff.mp e;rw[h.1]at this;exact(qCQ this).symm
theorem w_collect(hh:A.handled=none)(X:SetX knd s.heap a xs o es ep t)(hn:xs.length<=306){Q:List Value->Shared->Prop}
  (h:∀s' vs,vs.Perm (xs.map λp=>.ref p.2)->(∀b o,s.heap.get? b=some o->s'.heap.get? b=some o)->s'.gens=s.gens->s'.os=s.os->s.toks<=s'.toks->Q vs s'):wpAny (model prog w) A (collect (.ref a)) Q E s:=by
 unfold collect;refine qAA (wpAny_runValue (qBS F.entry_proto_collect ?_));rw[qBf F.plain_proto_collect _];change wpAny _ A.in1 (newList [] >>= λl=>again (.builtin "list.__iadd__" ⟨[l,Value.ref a],[]⟩)) _ _ s;refine qAA (qBm ?_);refine qAD ⟨qBq F.plain_list_iadd _,qBS F.entry_list_iadd ?_⟩;rw[qBf F.plain_list_iadd _];generalize hL:s.heap.objs.size=L;have hS1:(s.heap.push {cls:=.type "list",data:=.seq ([]:List Value).toArray}).get? L=some {cls:=.type "list",data:=.seq ([]:List Value).toArray}:=by rw[<-hL];exact qAc _ rfl
 generalize hH1:s.heap.push {cls:=.type "list",data:=.seq ([]:List Value).toArray}=H1 at hS1 ⊢;have up1:∀b o,s.heap.get? b=some o->H1.get? b=some o:=λb o q=>by rw[<-hH1];exact qAI _ q
 have sz1:H1.objs.size=L+1:=by rw[<-hH1,qBU,hL]
 have below:∀b o,s.heap.get? b=some o->b<L:=λb o q=>by rw[<-hL];exact qAJ q
 have X1:SetX knd H1 a xs o es ep t:=X.kept λb o _ q=>up1 b o q;have haL:a≠L:=qAR (below a _ X.ho);change wpAny _ A.in1 (Builtin.List.listExtendWith (Value.ref L) (.ref a) (.ref L)) _ _ _;unfold Builtin.List.listExtendWith;refine qAA (qCS (T:="set") ⟨_,X1.ho,X1.ex.1⟩ ?_);have n1:Builtin.List.listSameRef (.ref L) (.ref a)=false:=by simp[Builtin.List.listSameRef,qAV haL]
 refine zDc (by rw[n1];decide) ?_;refine qAA (w_iter (s:={s with heap:=H1}) X1 hn λI h2 d ord oI first up2 hI it hf=>?_);have hI:L+1<=I:=by rw[<-sz1];exact hI
 have X2:SetX knd h2 a xs o es ep t:=X1.kept λb o _ q=>up2 b o q;refine qAA (qAk ?_);unfold Builtin.List.listLengthHint;have T2:Shared.TypeIs {s with heap:=h2,drawn:=d} (.ref a) "set":= ⟨_,X2.ho,X2.ex.1⟩;refine qAA (qCi T2 len_set ?_);generalize hid:("set.__len__": String)=id0;dsimp only;rw[show splitId id0=some ("set","__len__")from by subst hid;decide +kernel];subst hid;dsimp only;refine qAA (qDF (b:=true) T2 sub_set_self ?_);refine zDc (by decide) ?_;refine zE2 (by decide +kernel) ?_;refine qAA (qCS T2 ?_);refine qAD ?_;refine zE2 (by decide +kernel) ?_;refine qAA (qBZ ?_);have hS2:=up2 L _ hS1;refine qAA ?_;change wpAny _ A.in1 (updateSeq L (·.push Value.none) >>= λ_=>updateSeq L (·.pop)) _ _ _;refine qAA (wpAny_updateSeq hS2 rfl ?_);have hS3:=qA2 (Obj.mapSeq (·.push Value.none)) hS2 rfl;refine wpAny_updateSeq hS3 rfl ?_;have hS4:=qA2 (Obj.mapSeq (·.pop)) hS3 rfl;dsimp only;have sb:Heap.SameBut L h2 ((h2.update L (Obj.mapSeq (·.push Value.none))).update L (Obj.mapSeq (·.pop))):=(qAy ..).trans (qAy ..);generalize hH4:(h2.update L (Obj.mapSeq (·.push Value.none))).update L (Obj.mapSeq (·.pop))=H4 at hS4 sb ⊢
 have hIa:I≠a:=λz=>by
  have:=below a _ X.ho;rw[<-z]at this;exact absurd this (qCo.mpr (Nat.le_of_succ_le hI))
 have hxI:∀p∈xs,p.2≠I:=λp hp z=>by
  obtain⟨ob,_,_,q,_⟩:=X.ky p hp;have:=below _ _ q;rw[z]at this;exact absurd this (qCo.mpr (Nat.le_of_succ_le hI))
 obtain⟨Ts,hTs,hT1⟩:∃Ts:List Addr,(∀T,first= .ref T->T∈Ts)/\∀T∈Ts,first= .ref T:=by
  cases first with
  |ref T=>exact⟨[T],λT' z=>by cases z;exact qAQ.mpr rfl,λT' z=>by rw[qAQ.mp z]⟩
  |_=>exact⟨[],(λT z=>nomatch z),(λT z=>nomatch z)⟩
 have hTge:∀T∈Ts,L+1<=T:=λT hT=>by rw[<-sz1];exact hf T (hT1 T hT)
 have hTI:I∉Ts:=λz=>by
  rcases it.hm with⟨_,⟨j,e⟩,_⟩|⟨_,T,oT,c,pl,e,m3,m4,_⟩|⟨_,_,j,e,_⟩
  .have:=(hT1 _ z).symm.trans e;exact nomatch this
  .have:=(hT1 _ z).symm.trans e
   cases this
   have:=qAW (m3.symm.trans it.ho);subst this;rw[it.hd]at m4;exact nomatch m4
  .have:=(hT1 _ z).symm.trans e;exact nomatch this
 have W:=w_walks (prog:=prog) (w:=w) (knd:=knd) (A:=A.in1) hh a I hIa xs hxI o es ep t ord Ts hTI
 have hLf:L∉I::a::(xs.map (·.2)++Ts):=λz=>by
  rcases qAL.mp z with z|z
  .rw [<-z]at hI;exact absurd hI (Nat.not_succ_le_self L)
  rcases qAL.mp z with z|z
  .exact haL z.symm
  rcases qAY.mp z with z|z
  .obtain ⟨p,hp,e⟩:=qAM.mp z;obtain⟨ob,_,_,q,_⟩:=X.ky p hp;have:=below _ _ q;rw[e]at this;exact qAv _ this
  .exact absurd (hTge _ z) (Nat.not_succ_le_self L)
 have hol:ord.length<=sizeLine:=by
  rw[it.hm.len,X.size];exact qAf hn (by decide +kernel)
 have st2:WSt knd a I xs o es ep t ord Ts 0 {s with heap:=h2,drawn:=d}:=⟨oI,first,X2,it,hTs⟩;have st4:=W.frame 0 _ H4 s.toks st2 (qAG _) λb hb ob q=>(sb.2 b λz=>hLf (z▸hb)).trans q;refine qAD ⟨qBq F.plain_extend_loop _,codeAny_extend_loopS W hol L hLf _ ord.length 0 _ _ _ rfl (qAe _) st4 hS4 (ItemsOf.nil _) λs' acc c' mv hS' hacc=>?_⟩;change wpAny _ A (load L >>= _) _ _ s';refine qAA (wpAny_load hS' ?_);refine qAD (h s' acc.toList ?_ (λb ob q=>?_) mv.gens mv.os mv.toks)
 .rw [items_ord hacc];refine it.hm.perm.trans (List.Perm.of_eq ?_);rw[X.el,qBR];rfl
 .have hb:=below b ob q;refine mv.heap b ob ?_ ((sb.2 b (qAR hb)).trans (up2 b ob (up1 b ob q)));intro z;rcases qAL.mp z with z|z
  .exact qAR hb z
  .rw [qAQ.mp z]at hb;exact absurd hb (qCo.mpr (Nat.le_of_succ_le hI))
end
end ST
namespace ST
open PySem PyProof.Rows PySem.W
abbrev sg(x:Str):List Nat:=x.cps.toList
theorem sg_inj{x y:Str}(h:sg x=sg y):x=y:=by
 cases x;cases y
 exact qAj Str.mk (Array.toList_inj.mp h)
def tlt:List Str->List Str->Bool
 |[],[]=>false
 |[],_::_=>true
 |_::_,[]=>false
 |x::r,y::q=>if x=y then tlt r q else decide (sg x<sg y)
theorem sg_tri(x y:Str):sg x<sg y\/x=y\/sg y<sg x:=by
 by_cases h1:sg x<sg y
 .exact .inl h1
 by_cases h2:sg y<sg x
 .exact .inr (.inr h2)
 .exact .inr (.inl (sg_inj (List.le_antisymm (List.not_lt.mp h2) (List.not_lt.mp h1))))
theorem tlt_irr:∀a,tlt a a=false
 |[]=>rfl
 |x::r=>by unfold tlt;rw[qAC rfl];exact tlt_irr r
theorem zGq:∀a b c,tlt a b=true->tlt b c=true->tlt a c=true
 |[],[],c,h1,h2=>h2
 |[],_::_,[],h1,h2=>by simp[tlt]at h2
 |[],_::_,_::_,h1,h2=>rfl
 |_::_,[],c,h1,h2=>by simp[tlt]at h1
 |x::r,y::q,[],h1,h2=>by simp[tlt]at h2
 |x::r,y::q,z::p,h1,h2=>by
  unfold tlt at h1 h2 ⊢
  by_cases e1:x=y
  .subst e1;rw[qAC rfl]at h1
   by_cases e2:x=z
   .subst e2;rw[qAC rfl]at h2 ⊢;exact zGq r q p h1 h2
   .rw [qAB e2]at h2 ⊢;exact h2
  .rw [qAB e1]at h1
   by_cases e2:y=z
   .subst e2;rw[qAB e1];exact h1
   .rw [qAB e2]at h2;have q1:=qA1 h1;have q2:=qA1 h2;have q3:=List.lt_trans q1 q2;rw[qAB λe=>by subst e;exact List.lt_irrefl _ q3];exact qAP q3
theorem tlt_tot:∀a b,tlt a b=false->tlt b a=false->a=b
 |[],[],_,_=>rfl
 |[],_::_,h,_=>by simp[tlt]at h
 |_::_,[],_,h=>by simp[tlt]at h
 |x::r,y::q,h1,h2=>by
  unfold tlt at h1 h2
  by_cases e:x=y
  .subst e;rw[qAC rfl]at h1 h2;rw[tlt_tot r q h1 h2]
  .rw [qAB e]at h1;rw[qAB (qAV e)]at h2;rcases sg_tri x y with z|z|z
   .exact absurd z (of_decide_eq_false h1)
   .exact absurd z e
   .exact absurd z (of_decide_eq_false h2)
theorem tlt_neg(a b c:List Str)(h:tlt a c=true):tlt a b=true\/tlt b c=true:=by
 cases h1:tlt a b with
 |true=>exact .inl rfl
 |false=>
  right
  cases h2:tlt b a with
  |true=>exact zGq b a c h2 h
  |false=>rw[<-tlt_tot a b h1 h2];exact h
@[reducible] def tupK(f:Addr->Option (List Str)):PyProof.Rows.KeyKind where
 α:=List Str
 blt:=tlt
 irrefl:=tlt_irr
 trans:=zGq
 negTrans:=tlt_neg
 total:=tlt_tot
 keyOf v:=match v with| .ref b=>f b|_=>none
 dflt:=[]
section
variable{prog:Program}{w:World}{A:Around}{E:Value->Shared->Prop}{s:Shared}
theorem zFw{ks:List Str}{vs:List Value}(h:ItemsAre (PySem.strKind prog w) ks vs):StrsAre vs ks:=by
 induction h with
 |nil=>exact .nil
 |@cons k v ks vs h1 _ ih=>
  obtain⟨t,rfl⟩:=Value.isStrOf_shape h1;exact .cons k t ih
theorem kat_strs{b fin:Bool}{Q:Bool->Shared->Prop}:∀{xs ys:List Value}{ax ay:List Str},StrsAre xs ax->StrsAre ys ay->∀i,fin=decide (xs.length<ys.length)->Q (tlt ax ay) s->KatLex prog w A b fin Q (xs.zip ys) i s
 |_,_,_,_,.nil,.nil,i,e,h=>by subst e;exact kat_nil h
 |_,_,_,_,.nil,.cons y t hy,i,e,h=>by subst e;exact kat_nil h
 |_,_,_,_,.cons x t hx,.nil,i,e,h=>by subst e;exact kat_nil h
 |_,_,_,_,.cons x t hx,.cons y u hy,i,e,h=>by
  rw[List.zip_cons_cons];refine kat_cons (wpAny_eqBool_str ?_);unfold tlt at h
  by_cases c:x=y
  .rw [qAC c]at h;rw[qAP c];refine kat_yes (kat_strs hx hy (i+1) ?_ h);rw[e];simp
  .rw [qAB c]at h;rw[qAO c];refine kat_no ?_
   cases z:(b&&i==0)with
   |true=>exact oneLt_str h
   |false=>exact kat_one _ _ (lt_str h)
theorem tup_cmp(f:Addr->Option (List Str))(hf:∀b k,f b=some k->IsTupleKey (PySem.strKind prog w) s.heap k b)(b:Bool):Tim.CmpOk prog w A s (tuples' b) (tupK f):=by
 intro E x y a c Q hx hy h
 cases x<;>simp only[reduceCtorEq]at hx
 cases y<;>simp only[reduceCtorEq]at hy
 obtain⟨ox,ix,nx,x1,_,x2,x3⟩:=hf _ _ hx;obtain⟨oy,iy,ny,y1,_,y2,y3⟩:=hf _ _ hy;exact kat_lt x1 x2 y1 y2 (kat_strs (zFw x3) (zFw y3) 0 (by simp) h)
end
theorem zIl{vs:List Value}{xs:Array Keyed}(hp:xs.Perm (pairsOf vs)):(xs.map (·.2)).toList.Perm vs:=by
 have hl:xs.toList.Perm (vs.zip vs):=by rw[<-pairsOf_toList];exact qDG.mp hp
 have:=hl.map (·.2);rw[List.map_snd_zip (qAG _)]at this
 rwa [Array.toList_map]
section
variable{prog:Program}{w:World}{A:Around}{E:Value->Shared->Prop}{s:Shared}
structure Sortable(prog:Program)(w:World)(A:Around)(κ:PyProof.Rows.KeyKind)(kd:SortKind)(vs:List Value)(s:Shared):Prop where
 cmp:Tim.CmpOk prog w A s kd κ
 kind:2<=vs.length->∀(E:Value->Shared->Prop)(Q:SortKind->Shared->Prop),Q kd s->wpAny (model prog w) A (keyKind' vs.toArray) Q E s
 has:∀v∈vs,∃k,κ.keyOf v=some k
theorem srt_heap{h:Heap}{a:Addr}{vs:List Value}{n:Nat}{out:Array Value}(ho:h.get? a=some (seqObj "list" vs.toArray n)):(∃c,(sortedHeap h a vs out).get? a=some (seqObj "list" out c))/\∀b o,b≠a->h.get? b=some o->(sortedHeap h a vs out).get? b=some o:=by
 have ha:a<h.objs.size:=qAJ ho;have h1:(h.update a (Obj.mapSeq λ_=>#[])).get? a=some (seqObj "list" #[] _):=get?_update_seq ho λ_=>#[];have h2:=qAI (seqObj "list" #[] 0) (qAI (seqObj "tuple" vs.toArray 0) h1);refine⟨⟨_,get?_update_seq h2 λ_=>out⟩,λb o hb q=>?_⟩;unfold sortedHeap;rw[qBW _ _ (qAV hb)];refine qAI _ (qAI _ ?_);rw[qBW _ _ (qAV hb)];exact q
end
section
variable{prog:Program}{w:World}{A:Around}{E:Value->Shared->Prop}{s:Shared}
abbrev Up(h h':Heap):Prop:=∀b o,h.get? b=some o->h'.get? b=some o
end
section
variable{prog:Program}{w:World}{A:Around}{E:Value->Shared->Prop}{s:Shared}
theorem tups_sortable{ks:List (List Str×Addr)}{vs:List Value}(hv:vs.Perm (ks.map λp=>.ref p.2))(ky:∀p∈ks,IsTupleKey (PySem.strKind prog w) s.heap p.1 p.2)(hne:∀p∈ks,p.1≠[]) :
  Sortable prog w A (tupK λb=>(ks.find? λp=>p.2==b).map (·.1)) (tuples' true) vs s:=by
 have look:∀p∈ks,∃q∈ks,(ks.find? λp'=>p'.2==p.2)=some q/\q.2=p.2:=λp hp=>by
  cases e:ks.find? λp'=>p'.2==p.2 with
  |none=>exact absurd (qCR.mp e p hp) (by simp)
  |some q=>exact⟨q,qDP e,rfl,by simpa using List.find?_some e⟩
 refine⟨tup_cmp _ (λb k e=>?_) true,λh2 E Q h=>?_,λv hvm=>?_⟩
 .obtain ⟨p,p1,p2⟩:=qBb.mp e;have p3:p.2=b:=by simpa using List.find?_some p1
  rw[<-p2,<-p3];exact ky p (qDP p1)
 .have go:∀(us:List Value),(∀u∈us,∃p∈ks,u= .ref p.2)->∃fs:List Value,KatTups s.heap us fs/\fs.length=us.length/\∀f∈fs,∃x t,f= .str x t:=by
   intro us
   induction us with
   |nil=>intro _;exact⟨[],.nil,rfl,(λf hf=>nomatch hf)⟩
   |cons u us ih=>
    intro hu;obtain⟨fs,t1,t2,t3⟩:=ih λu hu'=>hu u (qAU _ hu');obtain⟨p,hp,rfl⟩:=hu u qAX;obtain⟨ob,its,n,q1,q2,q3,q4⟩:=ky p hp;have q5:=zFw q4;have q6:=hne p hp;generalize hk:p.1=k at q5 q6;generalize hl:its.toList=l at q5
    cases q5 with
    |nil=>exact absurd rfl q6
    |cons x t r=>
     refine⟨.str x t::fs,.cons q1 q2 q3 ?_ t1,by simp[t2],λf hf=>?_⟩
     .rw [<-qAn,hl];rfl
     .rcases qAL.mp hf with z|z
      .exact ⟨x,t,z⟩
      .exact t3 f z
  obtain⟨fs,t1,t2,t3⟩:=go vs λu hu=>by
   obtain⟨p,hp,e⟩:=qAM.mp (hv.mem_iff.mp hu);exact⟨p,hp,e.symm⟩
  refine kat_kind (T:=.type "str") t1 (by lia) (λf hf=>?_) (by decide) h;obtain⟨x,t,rfl⟩:=t3 f hf;exact .now
 .obtain ⟨p,hp,rfl⟩:=qAM.mp (hv.mem_iff.mp hvm);obtain⟨q,hq,e,_⟩:=look p hp;exact⟨q.1,by show Option.map _ _=_;rw[e];rfl⟩
end
end ST
namespace L2
open PySem PySem.Spec PyProof.Rows
def TSt(P:Program)(w:World)(a:Addr)(xs:List (List Str×Addr)):HO :=
 .ext λh=>∃o es ep t,h.get? a=some o/\o.ExactSet/\o.data= .set es ep t/\es.toList=xs.map (ST.en (PySem.strKind P w))/\ST.TOk t (xs.map λp=>tupleKeyHash (PySem.strKind P w) p.1)/\xs.length*5<t.mask*3/\(xs.map (·.1)).Nodup/\t.led= !ST.byt w
def RowT(K:PySem.W.Frag)(H:Hp)(p:List Str×Addr):Prop:=SqT K H p.2 (p.1.map V.str)
section
variable{X:Cx}{pins:List (Addr×Obj)}{σ:St}{H:Hp}{s:Shared}
theorem zHy{prog:Program}{w:World}:∀{ks:List Str}{its:List Value},Vals (ks.map V.str) its->ItemsAre (PySem.strKind prog w) ks its
 |[],_,.nil=>.nil
 |k::ks,_,.cons ⟨t,e⟩ r=>by
  subst e;exact .cons (by show Value.isStrOf k (.str k t)=true;simp[Value.isStrOf]) (zHy r)
theorem Inv.rowT(I:Inv X pins σ H s){p:List Str×Addr}(h:RowT X.K H p):IsTupleKey (PySem.strKind X.prog X.w) s.heap p.1 p.2:=by
 obtain⟨its,r,⟨o,ho,hc,n,hd⟩,_⟩:=I.tuple h;exact⟨o,its.toArray,n,ho,hc,hd,by simpa using zHy r⟩
theorem zGp:∀{ks:List (List Str×Addr)} {its:List Value},Vals (ks.map λp=>V.ref p.2) its->its=ks.map λp=>Value.ref p.2
 |[],_,.nil=>rfl
 |k::ks,_,.cons e r=>by
  have e:_=Value.ref k.2:=e;subst e;rw[zGp r];rfl
theorem refs_vals:∀(ks:List (List Str×Addr)),Vals (ks.map λp=>V.ref p.2) (ks.map λp=>Value.ref p.2)
 |[]=>.nil
 |k::ks=>.cons rfl (refs_vals ks)
theorem got_ok{h:Heap}{H:Hp}{a:Addr}{xs:List (List Str×Addr)}{o:Obj}{es:Array (Int×Value)}{ep:Nat}{t:SetTable}(Z:ST.SetX (PySem.strKind X.prog X.w) h a xs o es ep t):zAz X.prog X.w H h a (TSt X.prog X.w a xs) :=
 ⟨⟨o,es,ep,t,Z.ho,Z.ex,Z.hd,Z.el,Z.ok,Z.room,Z.nd,Z.ld⟩,⟨o,Z.ho⟩,λh1 h2 ⟨o,es,ep,t,q,r⟩ k=>⟨o,es,ep,t,k o q,r⟩⟩
theorem call_setT{k:Nat}(hr:Room k X.A):zCq X (.type "set") (λxs H Q=>∃(l:Addr) (ks:List (List Str×Addr)),xs=[.ref l]/\SqL X.K H l (ks.map λp=>V.ref p.2)/\(∀p∈ks,RowT X.K H p)/\ks.length<=306 /\ ∀a ys,H a=none->(∀p∈ys,p∈ks)->(∀p∈ks,p.1∈ys.map (·.1))->(ys.map (·.1)).Nodup->ys.length<=ks.length->Q (.ref a) (upd H a (TSt X.prog X.w a ys))):=by
 intro pins s σ H xs us Q I r h;obtain⟨l,ks,rfl,hl,hk,hc,q⟩:=h;obtain⟨u,rfl,rx⟩:=zHp r
 cases rx
 obtain⟨its,r',pl,hz⟩:=I.list hl;have ei:=zGp r';refine ST.w_mkset (knd:=PySem.strKind X.prog X.w) (ks:=ks) hr.hd (by have:=hr.un;lia) pl.isList (by rw[ei]) (λp hp=>I.rowT (hk p hp)) hc λh' tk _ g kp=>?_;obtain⟨ys,o,es,ep,t,Z,g1,g2,g3⟩:=g;exact⟨.ref s.heap.objs.size,_,I.laid (t':=tk) kp (qAG _) (got_ok Z),rfl,q _ ys (I.hok.fresh (qAG _)) g1 g2 Z.nd g3⟩
theorem perm_back{α β:Type}(f:α->β):∀{vs:List β}{ks:List α},vs.Perm (ks.map f)->∃zs:List α,zs.Perm ks/\vs=zs.map f:=by
 intro vs ks h;generalize hm:ks.map f=ms at h
 induction h generalizing ks with
 |nil=>exact⟨[],by rw[List.map_eq_nil_iff.mp hm],rfl⟩
 |@cons x l₁ l₂ _ ih=>
  cases ks with
  |nil=>exact nomatch hm
  |cons k ks=>
   rw[qAl]at hm;obtain⟨e1,e2⟩:=List.cons.inj hm;obtain⟨zs,p,e⟩:=ih e2;exact⟨k::zs,.cons k p,by rw[qAl,<-e,e1]⟩
 |swap x y l=>
  match ks,hm with
  |a::b::ks,hm=>
   simp only[qAl,List.cons.injEq]at hm;obtain⟨e1,e2,e3⟩:=hm;exact⟨b::a::ks,.swap a b ks,by simp[e1,e2,e3]⟩
 |trans _ _ ih1 ih2=>
  obtain⟨zs,p,e⟩:=ih2 hm;obtain⟨zs',p',e'⟩:=ih1 e.symm;exact⟨zs',p'.trans p,e'⟩
end
end L2
namespace ST
section
open PySem PyProof.Rows
variable{prog:Program}{w:World}{A:Around}{s:Shared}
end
end ST
namespace L2
open PySem PySem.Spec PyProof.Rows
variable{H:Hp}{h h' B:Heap}{a b e C:Addr}{o:HO}{P:Program}{w:World}{ep:Nat}{x:Str}{oe:Obj}{pos:Pos}
section
variable{X:Cx}
def rInsert:V->List V->Hp->VK->Prop:=λx vs H Q=>∃l xs i y,x= .ref l/\vs=[.int i,y]/\H l=some (.lst xs)/\xs.length<sizeLine/\0<=i/\i<=xs.length/\Q .non (upd H l (.lst (xs.take i.toNat++y::xs.drop i.toNat)))
theorem zEf:MtM X "list.insert" rInsert:=by
 intro pins s σ H x vs v us Q I rx rv h;obtain⟨l,xs,i,y,rfl,rfl,hH,hz,h0,h1,q⟩:=h
 cases rx
 obtain⟨u1,u,rfl,r1,ru⟩:=rv.two;obtain⟨t,rfl⟩:=r1;obtain⟨z,its,n,r,hl,e⟩:=I.lstM hH;have hsl:sizeLine<2^62:=by decide +kernel
 have hfit:¬(!Builtin.List.listFitsIndex i)=true:=by
  unfold Builtin.List.listFitsIndex;have a1:-(2^63:Int)<=i:=by lia
  have a2:i<2^63:=by lia
  rw[qAP a1,qAP a2];decide
 refine qB0 F.slot_list_insert ⟨_,e,rfl⟩ F.entry_list_insert (F.args_list_insert_3 _ _ _) (PySem.AutoListH.list_insert_list_int_val_1 l its.toArray n i t u hfit (by rw[qAK];lia)) ⟨e,?_⟩;refine⟨.non,_,I.lset (its':=its.take i.toNat++u::its.drop i.toNat) hH e ?_ ((r.take _).append (.cons ru (r.drop _))) ?_,rfl,q⟩
 .have hk:(if i<0 then(i+((its.toArray.size:Nat):Int)).toNat else min i.toNat its.toArray.size)=i.toNat:=by
   rw[qAB (by lia),qAK];lia
  show(its.toArray.extract 0 _).push u++its.toArray.extract _=_;rw[hk];apply Array.ext';rw[qC8,qCk,qB1,qB1,qCI];simp[List.extract_eq_drop_take,qBQ]
 .rw [qAm,qAZ,qAd,qBN];lia
def mrg(kvs more:List (Key×V)):List (Key×V):=more.foldl (λacc p=>putK acc p.1 p.2) kvs
theorem KV.mrg{kvs:List (Key×V)}{vs:List (Key×Value)}(r:KV kvs vs):∀{more:List (Key×V)} {ms:List (Key×Value)},KV more ms->KV (mrg kvs more) (merged vs ms):=by
 intro more ms r2;unfold L2.mrg merged;unfold KV at r2
 induction r2 generalizing kvs vs with
 |nil=>exact r
 |@cons p q l₁ l₂ h _ ih=>
  rw[qBl,qBl,h.1];exact ih (r.put q.1 h.2)
theorem mrg_len(kvs more:List (Key×V)):(mrg kvs more).length<=kvs.length+more.length:=by
 unfold mrg
 induction more generalizing kvs with
 |nil=>exact qAG _
 |cons p r ih=>
  rw[qBl,qAZ];have h1:=ih (putK kvs p.1 p.2);have h2:=zD3 kvs p.1 p.2;lia
def rDUpd:V->List V->Hp->VK->Prop:=λx vs H Q=>∃a b kvs more,x= .ref a/\vs=[.ref b]/\H a=some (.dK kvs)/\H b=some (.dK more)/\a≠b/\kvs.length+more.length<=sizeLine/\Q .non (upd H a (.dK (mrg kvs more)))
theorem mt_dupd:MtR X "dict.update" rDUpd:=by
 intro pins s σ H x vs v us Q I rx rv h;obtain⟨a,b,kvs,more,rfl,rfl,hA,hB,hne,hz,q⟩:=h
 cases rx
 obtain⟨u,rfl,ru⟩:=rv.one
 cases ru
 obtain⟨_,a2,vs1,a3,a4⟩:=I.hok a _ hA;obtain⟨_,b2,vs2,b3,b4⟩:=I.hok b _ hB;have l1:kvs.length=vs1.length:=qCD a3;have l2:more.length=vs2.length:=qCD b3;refine call_meetsIn F.slot_dict_update a4.typeIs F.entry_dict_update (F.args_dict_update_2 _ _) (meets_dict_update (zAu X.prog X.w) a b hne b2) ⟨vs1,vs2,a4,b4,by lia,λh' d1 d2 sb=>?_⟩;have new:zAz X.prog X.w (upd H a (.dK (mrg kvs more))) h' a (.dK (mrg kvs more)):=⟨qAf (mrg_len kvs more) hz,a2,_,a3.mrg b3,d1⟩;refine⟨.non,_,I.write (x:=a) (e:=a) (t':=s.toks) (by rw[hA];exact trivial) (.inl rfl) (λc o hc z=>(sb.2 c hc).trans z) ?_ new,rfl,q⟩;obtain⟨o,_,_,e,_⟩:=d1;exact⟨o,e⟩
end
section
variable{X:Cx}
theorem op_neU(hu:X.A.units<cLine):OpR X (compareOp .NotEq) (rUnlen X.K true):=by
 intro pins s σ H x y v u Q I rx ry h;obtain⟨a,c,xs,ys,rfl,rfl,hx,hy,hl,q⟩:=h
 cases rx
 cases ry
 obtain⟨its,r,pl,hz⟩:=I.list hx;obtain⟨its2,r2,pl2,hz2⟩:=I.list hy;have e1:=r.length;have e2:=r2.length;exact SeqAt.RcNeAt.lists_lengths pl.isList pl2.isList (by rw[qAK,qAK];simp;lia) hu X.prog X.w X.xe _ ⟨.bl true,H,I,rfl,q⟩
end
theorem zI1{X:Cx}{k:Nat}(hr:Room k X.A):OpR X (compareOp .NotEq) (λx y H Q=>zH2 X.K 8 false x y H Q\/rUnlen X.K true x y H Q):=(op_neA (hu2 hr)).either (op_neU (hu0 hr))
theorem un_laid{fs ex:List Addr}(k:∀b u,b∉ex->h.get? b=some u->h'.get? b=some u)(hp:h.objs.size<=a)(hn:H a=none):Un fs ex H (upd H a o) h h' where
 keep:=λb u q _ _ hx=>k b u hx q
 slot:=λb u q _ _ hx=>⟨u.slots,k b u hx q⟩
 free:=λb u q n _=>by rw[upd_ne (qAR (qAi (qAJ q) hp))];exact n
 there:=λb u q hx=>⟨u,k b u hx q⟩
 tups:=λb xs q=>by rw[upd_ne (zAi q hn)];exact q
 frzs:=λb u xs q=>by rw[upd_ne (zAi q hn)];exact q
 tbls:=λb ps q=>⟨#[],by rw[upd_ne (zAi q hn),q];simp⟩
theorem hok_laid{ex:List Addr}(x:HOk P w H h)(k:∀b u,b∉ex->h.get? b=some u->h'.get? b=some u)(hex:∀b∈ex,H b=none)(hp:h.objs.size<=a)(new:zAz P w (upd H a o) h' a o):HOk P w (upd H a o) h':=λb u e=>by
 have hn:=x.fresh hp
 by_cases hb:b=a
 .subst hb;rw[upd_same]at e;cases e;exact new
 .rw [upd_ne hb]at e;refine(x b u e).stay (λc v hc q=>k c v (λz=>?_) q) (λc q=>by rw[upd_ne (zAi q hn)];exact q) λc xs q=>by rw[upd_ne (zAi q hn)];exact q
  have hz:=hex c z;rcases hc with y|y
  .rw [y,e]at hz;cases hz
  .rw [y]at hz;cases hz
def zDo(es:Array DictEntry):Prop:=∀e∈es,∃x t,e.key= .str x t
theorem zDo.all{es:Array DictEntry}(h:zDo es):(es.all λe=>isExactStrKey e.key)=true:=by
 rw[Array.all_eq_true];intro i hi;obtain⟨x,t,e⟩:=h es[i] (Array.getElem_mem hi);rw[e];rfl
section
variable{P:Program}{w:World}{A:Around}{E:Value->Shared->Prop}{s:Shared}
theorem find_str{d:Addr}{o:Obj}{es:Array DictEntry}{t:Tok}{hs:Int}{Q:Option Nat->Shared->Prop}(ho:s.heap.get? d=some o)(hd:o.data= .dict es ep)(sk:zDo es)
  (q:Q (es.findIdx? λe=>e.key.isStr x) s):wpAny (model P w) A (dictFind d (.str x t) hs) Q E s:=by
 unfold dictFind;refine qAk (qAA (qCt ho hd ?_));dsimp only;rw[qAC sk.all];unfold foundByValue
 cases hf:es.findIdx? (λe=>e.key.isStr x)with
 |none=>rw[hf]at q;exact qAD q
 |some i=>
  rw[hf]at q;obtain⟨lt,hi,_⟩:=Array.findIdx?_eq_some_iff_getElem.mp hf;obtain⟨y,u,ey⟩:=sk es[i] (Array.getElem_mem lt);simp only[qB4 lt]
  have xy:y=x:=by
   have:=hi;rw[ey]at this;simpa[Value.isStr]using this
  subst xy;rw[ey]
  have tt:SeqAt.EqAt A s (.str y u) (.str y t) true:=by
   have:=SeqAt.EqAt.str_str (A:=A) (s:=s) y u y t
   rwa [beq_self_eq_true]at this
  refine qAA (qDH ho hd (qAA (tt P w E _ (qAA (qDH ho hd ?_)))));rw[qAB (by simp)];exact qAA (qBZ (qAD q))
theorem walk_range{β:Type}{b0:β}{n:Nat}{f:Nat->β->Sem (ForInStep β)}{Q:β->Shared->Prop}(turn:∀i,i<n->wpAny (model P w) A (f i b0) (λr s'=>r= .yield b0/\s'=s) E s)(fin:Q b0 s):wpAny (model P w) A (forIn [:n] b0 f) Q E s:=by
 rw[Std.Legacy.Range.forIn_eq_forIn_range'];simp only[Std.Legacy.Range.size,Nat.sub_zero,Nat.add_sub_cancel,Nat.div_one];refine qDA _ (λrest b s'=>b=b0/\s'=s/\∀i∈rest,i<n) _ ?_ ?_ _ _ ⟨rfl,rfl,λi hi=>by simpa using hi⟩
 .rintro i rest b s' ⟨rfl,rfl,hb⟩;refine thn (turn i (hb i (by simp))) λr s2 ⟨e1,e2⟩=>?_;subst e1 e2;exact⟨rfl,rfl,λj hj=>hb j (by simp[hj])⟩
 .rintro b s' ⟨rfl,rfl,_⟩;exact fin
theorem same_pairs{nm:String}{oa ob:Obj}{es fs:Array DictEntry}{fp:Nat}{Q:Bool->Shared->Prop}(na:(a==sysModules)=false)(nb:(b==sysModules)=false)(ha:s.heap.get? a=some oa)(da:oa.data= .dict es ep)(hb:s.heap.get? b=some ob)(db:ob.data= .dict fs fp)
  (ka:zDo es) (kb:zDo fs) (sz:es.size=fs.size) (al:∀i (h:i<es.size) x t,es[i].key= .str x t->∃j,∃hj:j<fs.size,(fs.findIdx? λe=>e.key.isStr x)=some j/\SeqAt.EqAt A s es[i].val fs[j].val true)
  (q:Q true s):wpAny (model P w) A (Builtin.Dict.samePairs nm a b) Q E s:=by
 unfold Builtin.Dict.samePairs Builtin.Dict.showsAll;rw[qAB (by rw[na];exact qAh)];refine qAA (qAD ?_);rw[qAB (by rw[nb];exact qAh)];refine qAA (qAD (qAA (qCt ha da (qAA (qCt hb db ?_)))));rw[qAB (by simp[sz])];refine qAA (qDH ha da ?_);refine qAA (walk_range (λi hi=>?_) (qAD q));refine qAA (qCt ha da ?_);obtain⟨x,t,ex⟩:=ka es[i] (Array.getElem_mem hi);obtain⟨j,hj,ej,eq⟩:=al i hi x t ex;simp only[qB4 hi];refine qAA (qAk (qAA ?_));rw[ex];refine find_str hb db kb ?_;rw[ej];refine qAA (qCt hb db ?_);simp only[qB4 hj];refine qAk (eq P w E _ ?_);rw[qAB (by simp)];refine qAA (qDH ha da ?_);rw[qAB (by simp)];exact qAD ⟨rfl,rfl⟩
end
open AutoSeq1 (wpAny_loadPart')
theorem dict_eqM(a b:Addr)(oa ob:Obj)(es fs:Array DictEntry)(ep fp:Nat)(ka:zDo es)(kb:zDo fs)(sz:es.size=fs.size)(na:(a==sysModules)=false)(nb:(b==sysModules)=false)(ca:oa.cls= .type "dict")(cb:ob.cls= .type "dict")(da:oa.data= .dict es ep)(db:ob.data= .dict fs fp) :
  Meets (Builtin.«dict.__eq__» ⟨[.ref a,.ref b],[]⟩) (λA R s=>s.heap.get? a=some oa/\s.heap.get? b=some ob /\ (∀i (h:i<es.size) x t,es[i].key= .str x t->∃j,∃hj:j<fs.size,(fs.findIdx? λe=>e.key.isStr x)=some j/\SeqAt.EqAt A.in1 s es[i].val fs[j].val true)/\R (.ok (.ret (.bool true))) s) :=
 .of_wp λP w A R s ⟨ha,hb,al,q⟩=>by
  have ta:s.TypeIs (.ref a) "dict":= ⟨_,ha,ca⟩;have tb:s.TypeIs (.ref b) "dict":= ⟨_,hb,cb⟩;unfold Builtin.«dict.__eq__»;show wpAny _ _ (Builtin.Dict.dictSlotArgs "__eq__" ⟨[.ref a,.ref b],[]⟩ >>= _) _ _ s;unfold Builtin.Dict.dictSlotArgs;refine qAA (qAA (wpAny_notOrdered_dict ta ?_));show wpAny _ _ (pure ((Value.ref a,[Value.ref b]):Value×List Value) >>= _) _ _ s;refine qAA (qAD (qAD ?_));refine qAA (qDF tb isSubtype_dict_dict ?_);rw[qAB (by simp)];show wpAny _ _ (pure a >>= _) _ _ s;refine qAA (qAD ?_);show wpAny _ _ (pure b >>= _) _ _ s;refine qAA (qAD (qAA (same_pairs na nb ha da hb db ka kb sz al ?_)));exact qAD ⟨_,rfl,q⟩
theorem rc_dicts{A:Around}{s:Shared}{oa ob:Obj}{es fs:Array DictEntry}{fp:Nat}(ka:zDo es)(kb:zDo fs)(sz:es.size=fs.size)(na:(a==sysModules)=false)(nb:(b==sysModules)=false)(ca:oa.cls= .type "dict")(cb:ob.cls= .type "dict")(da:oa.data= .dict es ep)(db:ob.data= .dict fs fp)
  (ha:s.heap.get? a=some oa) (hb:s.heap.get? b=some ob) (hu:A.units<cLine) (al:∀i (h:i<es.size) x t,es[i].key= .str x t->∃j,∃hj:j<fs.size,(fs.findIdx? λe=>e.key.isStr x)=some j/\SeqAt.EqAt A.in1 s es[i].val fs[j].val true) :
  SeqAt.RcAt A s (.ref a) (.ref b) true:=λP w E Q q=>
 richCompare_meets_room (op:=.Eq) ⟨_,ha,ca⟩ ⟨_,hb,cb⟩ F.slot_dict_eq F.entry_dict_eq (F.args_dict_eq_2 _ _) (dict_eqM a b oa ob es fs ep fp ka kb sz na nb ca cb da db) ⟨ha,hb,al,show Value.bool true≠Value.notImplemented/\Q (.bool true) s from⟨(λz=>nomatch z),q⟩⟩ hu
def TxtKeys(kvs:List (Key×V)):Prop:=∀kv∈kvs,∃x:Str,kv.1= .inr x
section
variable{X:Cx}{pins:List (Addr×Obj)}{σ:St}{H:Hp}{s:Shared}
theorem pair_at :∀{es:List DictEntry} {vs:List (Key×Value)} {kvs:List (Key×V)},Pairs (zAu P w) es vs->KV kvs vs->∀i (h:i<es.length),∃k v,kvs[i]?=some (k,v)/\zJe k es[i].key=true/\RelV v es[i].val:=by
 intro es vs kvs p
 induction p generalizing kvs with
 |nil=>intro _ i h;exact absurd h (qDB _)
 |@cons e kv es vs h1 h2 p ih=>
  intro r i h
  cases r with
  |@cons a _ as _ ra rr=>
   cases i with
   |zero=>exact⟨a.1,a.2,rfl,by rw[ra.1];exact h1,by show RelV a.2 e.val;rw[h2];exact ra.2⟩
   |succ i=>exact ih rr i (by simpa using h)
theorem txt_at{es:Array DictEntry}{vs:List (Key×Value)}{kvs:List (Key×V)}(p:Pairs (zAu P w) es.toList vs)(r:KV kvs vs)(t:TxtKeys kvs):zDo es:=λe he=>by
 obtain⟨i,hi,rfl⟩:=Array.mem_iff_getElem.mp he;obtain⟨k,v,e1,e2,_⟩:=pair_at p r i (by simpa using hi);obtain⟨x,ex⟩:=t _ (qAT e1);have ex:k= .inr x:=ex;subst ex;rcases zA2 e2 with⟨_,_,z,_⟩|⟨y,t,_,z⟩
 .cases z
 .exact ⟨y,t,by simpa using z⟩
theorem at_text{fs:Array DictEntry}{ws:List (Key×Value)}{lvs:List (Key×V)}{u:V}(p:Pairs (zAu P w) fs.toList ws)(r:KV lvs ws)(h:valV lvs (.inr x)=some u):∃j,∃hj:j<fs.size,(fs.findIdx? λe=>e.key.isStr x)=some j/\RelV u fs[j].val:=by
 have hf:(λe:DictEntry=>e.key.isStr x)=λe=>(zAu P w).is (.inr x) e.key:=funext λe=>((zAu P w).strs (.inr x) x 0 e.key (keyIs_str x 0)).symm;have f1:=p.find (.inr x);have f2:=r.val (.inr x);rw[h,<-f1]at f2
 cases q:fs.toList.find? (λe=>(zAu P w).is (.inr x) e.key)with
 |none=>rw[q]at f2;exact absurd f2 (by intro z;cases z)
 |some f=>
  rw[q]at f2;obtain⟨q1,j,hj,q2,q3⟩:=List.find?_eq_some_iff_getElem.mp q;have hj':j<fs.size:=by simpa using hj
  have q2':fs[j]=f:=by simpa using q2
  refine⟨j,hj',?_,by rw[q2'];exact f2⟩;rw[hf];refine Array.findIdx?_eq_some_iff_getElem.mpr ⟨hj',by rw[q2'];exact q1,λi hi=>?_⟩;have:=q3 i hi;simpa using this
def DAlike(K:PySem.W.Frag)(H:Hp)(n:Nat)(kvs lvs:List (Key×V)):Prop:=TxtKeys kvs/\TxtKeys lvs/\kvs.length=lvs.length/\∀k v,(k,v)∈kvs->∃u,valV lvs k=some u/\Alike K H n v u
theorem dalike_at(I:Inv X pins σ H s){n:Nat}{A:Around}{kvs lvs:List (Key×V)}(hu:A.units+1+n<cLine)(ea:Rd H a (.dK kvs))(eb:Rd H b (.dK lvs))(al:DAlike X.K H n kvs lvs):SeqAt.RcAt A s (.ref a) (.ref b) true:=by
 obtain⟨z1,n1,vs,r1,o1,es,ep,g1,c1,d1,k1,p1,nd1⟩:=dk_rd I.hok ea;obtain⟨z2,n2,ws,r2,o2,fs,fp,g2,c2,d2,k2,p2,nd2⟩:=dk_rd I.hok eb;obtain⟨t1,t2,len,al⟩:=al;have l1:=p1.length;have l2:=p2.length;have l3:=r1.length;have l4:=r2.length;refine rc_dicts (txt_at p1 r1 t1) (txt_at p2 r2 t2) (by simp only[qBj]at l1 l2;lia) n1 n2 c1.1 c2.1 d1 d2 g1 g2 (by lia) λi hi x t ex=>?_;obtain⟨k,v,e1,e2,e3⟩:=pair_at p1 r1 i (by simpa using hi);have e2:zJe k es[i].key=true:=by simpa using e2
 have e3:RelV v es[i].val:=by simpa using e3
 have ek:k= .inr x:=by
  rw[ex]at e2;rcases zA2 e2 with⟨_,_,_,z⟩|⟨y,t',z1,z2⟩
  .cases z
  .cases z2;exact z1
 subst ek;obtain⟨u,hu1,hu2⟩:=al _ _ (qAT e1);obtain⟨j,hj,ej,rj⟩:=at_text p2 r2 hu1;exact⟨j,hj,ej,alike_at I hu2 e3 rj (by show A.units+1+n<cLine;lia)⟩
end
section
variable{X:Cx}
theorem op_eqD{n:Nat}(hu:X.A.units+1+n<cLine):OpR X (compareOp .Eq) (λx y H Q=>∃a b kvs lvs,x= .ref a/\y= .ref b/\Rd H a (.dK kvs)/\Rd H b (.dK lvs)/\DAlike X.K H n kvs lvs/\Q (.bl true) H):=by
 intro pins s σ H x y v u Q I rx ry h;obtain⟨a,b,kvs,lvs,rfl,rfl,e1,e2,al,q⟩:=h
 cases rx
 cases ry
 exact dalike_at I hu e1 e2 al X.prog X.w X.xe _ ⟨.bl true,H,I,rfl,q⟩
end
def TrD(h B:Heap)(e:Addr)(c:Value)(dd:Option Addr)(fl:Value):Prop :=
 ∃oe vs T oT ts,h.get? e=some oe/\oe.cls=c/\oe.dict=dd/\oe.data= .fields vs/\vs[1]?=some (.ref T)/\B.get? T=none/\T≠e/\h.get? T=some oT/\oT.data= .fields ts/\ts[3]?=some fl/\vs[2]?=some .none
def FlD(B:Heap)(l:List Env)(e:Addr)(c:Value)(dd:Option Addr)(h:Heap):Prop:=B.StaysIn h/\B.get? e=none/\h.FunFrames B l/\∃fl,TrD h B e c dd fl
theorem FlD.there{l:List Env}{c:Value}{dd:Option Addr}(x:FlD B l e c dd h):∃o,h.get? e=some o/\o.cls=c/\o.dict=dd/\∃vs,o.data= .fields vs/\vs[2]?=some .none :=
 let⟨_,_,_,_,oe,vs,_,_,_,q1,q2,q3,q4,_,_,_,_,_,_,q5⟩:=x
 ⟨oe,q1,q2,q3,vs,q4,q5⟩
theorem FlD.less{env:Env}{l:List Env}{c:Value}{dd:Option Addr}(x:FlD B (env::l) e c dd h):FlD B l e c dd h :=
 let⟨x1,x2,⟨_,_,x3⟩,x4⟩:=x
 ⟨x1,x2,x3,x4⟩
theorem dict_mf(o:Obj)(f:Array Value->Array Value):(Obj.mapFields f o).dict=o.dict:=by
 unfold Obj.mapFields;split<;>rfl
section
variable{M:Model}{A:Around}{E:Value->Shared->Prop}{s:Shared}{B:Heap}{env:Env}{l:List Env}{L e:Addr}{c:Value}{dd:Option Addr}{Q:Unit->Shared->Prop}
theorem rec_write{T:Addr}{oT:Obj}{ts:Array Value}{f:Array Value->Array Value}(st:B.StaysIn s.heap)(hl:s.heap.FunFrames B l)(nT:B.get? T=none)(hT:s.heap.get? T=some oT)(dT:oT.data= .fields ts) :
  (∀b,b≠T->(s.heap.update T (Obj.mapFields f)).get? b=s.heap.get? b)/\B.StaysIn (s.heap.update T (Obj.mapFields f))/\(s.heap.update T (Obj.mapFields f)).FunFrames B l/\s.heap.UpToSlots (s.heap.update T (Obj.mapFields f)) /\
   (s.heap.update T (Obj.mapFields f)).get? T=some (oT.mapFields f):=by
 have other:∀b,b≠T->(s.heap.update T (Obj.mapFields f)).get? b=s.heap.get? b:=λb hb=>qBW _ _ (qAV hb);have nrec:∀b o,s.heap.get? b=some o->(∀vs,o.data≠.fields vs)->b≠T:=λb o q nf z=>by rw[z,hT]at q;cases q;exact nf ts dT
 refine⟨other,λb o q=>(other b λz=>by rw[z,nT]at q;cases q).trans (st b o q),hl.of_keeps λb o q nf=>⟨o,(other b (nrec b o q nf)).trans q,rfl⟩,λb o q nf=>⟨o.slots,(other b (nrec b o q nf)).trans q⟩,qA2 _ hT (qBT (qAp dT _))⟩
theorem zGh{m:Option Addr}(x:FlD B l e c dd s.heap)(h:∀h',FlD B l e c dd h'->s.heap.UpToSlots h'->(∀b o,s.heap.get? b=some o->(∀vs,o.data≠.fields vs)->h'.get? b=some o)->Q () {s with heap:=h'}):wpAny M A (setFlight (.ref e) m) Q E s:=by
 obtain⟨x1,x2,x3,fl,oe,vs,T,oT,ts,q1,q2,q2',q3,q4,q5,q6,q7,q8,q9,q10⟩:=x;unfold setFlight;refine qAA (qCW q1 q3 q4 ?_);rw[qAC (by simp)];have sz:3<ts.size:=(qBK.mp q9).1;refine qBE q7 q8 sz ?_;obtain⟨o,y1,y2,y3,y4⟩:=rec_write (f:=(·.setIfInBounds 3 (m.elim Value.none λf=>rawInt f))) x1 x3 q5 q7 q8;exact h _ ⟨y1,x2,y2,_,oe,vs,T,_,_,(o e (qAV q6)).trans q1,q2,q2',q3,q4,q5,q6,y4,qAp q8 _,qDR sz,q10⟩ y3 λb ob z nf=>(o b λz2=>by rw[z2,q7]at z;cases z;exact nf ts q8).trans z
theorem fly_entry{vs:Array Value}{hd:Value}{hn:Bool}(hfr:A.frames=some (env::l))(hl:s.heap.FunFrames B (env::l))(hf:env.frame=some L)(he:s.heap.get? e=some oe)(st:B.StaysIn s.heap)(ne:B.get? e=none)(dv:oe.data= .fields vs)(sz:1<vs.size)(v2:vs[2]?=some .none)
  (h:∀h',FlD B (env::l) e oe.cls oe.dict h'->s.heap.UpToSlots h'->Q () {s with heap:=h'}) :
  wpAny M A (do setField (.ref e) 1 (<-EntryCells.newEntry hd (<-frameOf env) .none (rawInt L) .none (<-entryPlaceOf L hn))) Q E s:=by
 have enf:e∉(env::l).filterMap (·.frame):=λz=>by
  obtain⟨_,o,ho,nf⟩:=hl.mem z;rw[he]at ho;cases ho;exact nf vs dv
 refine qAA (wpAny_frameOf_fun hfr hl hf λh1 k1=>qAA (wpAny_entryPlaceOf λpl hpl=>?_));unfold EntryCells.newEntry newFields;refine qAA (qBm ?_ (hpl.sizeOk5 _ _ _ _ _));generalize hob:({cls:=.type "traceback",dict:=none,data:=.fields ([hd,.ref L,.none,rawInt L,.none]++(if pl.isEmpty then List.replicate 6 Value.none else pl)).toArray}:Obj)=ob;have obd:ob.data= .fields ([hd,.ref L,.none,rawInt L,.none]++(if pl.isEmpty then List.replicate 6 Value.none else pl)).toArray:=by rw[<-hob]
 have e1:h1.get? e=some oe:=(k1.2.1 e enf).trans he;have st1:B.StaysIn h1:=λb o z=>(k1.2.1 b λhm=>by rw[(hl.mem hm).1]at z;cases z).trans (st b o z);have Te:h1.objs.size≠e:=qBH (qAJ e1);have e2:(h1.push ob).get? e=some oe:=qAI _ e1;have t2:(h1.push ob).get? h1.objs.size=some ob:=qAc h1 (qBT obd);refine qBE e2 dv sz (h _ ?_ ?_)
 .have other:∀b,b≠e->((h1.push ob).update e (Obj.mapFields (·.setIfInBounds 1 (Value.ref h1.objs.size)))).get? b=(h1.push ob).get? b:=λb hb=>qBW _ _ (qAV hb);refine⟨λb o z=>(other b λz2=>by rw[z2,ne]at z;cases z).trans (qAI _ (st1 b o z)),ne,hl.of_keeps λb o z nf=>?_,rawInt L,_,_,h1.objs.size,_,_,qA2 _ e2 (qBT (qAp dv _)),qB8 _ _,dict_mf _ _,qAp dv _,qDR sz,st1.fresh,Te,(other _ Te).trans t2,obd,rfl,by rw[qCn (by decide)];exact v2⟩;obtain⟨sl,z1⟩:=k1.2.2 b o z;exact⟨_,(other b λz2=>by rw[z2,he]at z;cases z;exact nf vs dv).trans (qAI _ z1),rfl⟩
 .intro b o z nf;obtain⟨sl,z1⟩:=k1.2.2 b o z;exact⟨sl,(qBW _ _ λz2=>by rw[<-z2,he]at z;cases z;exact nf vs dv).trans (qAI _ z1)⟩
theorem fly_looks(hfr:A.frames=some (env::l))(hf:env.frame=some L)(x:FlD B (env::l) e c dd s.heap)(h:∀h',FlD B (env::l) e c dd h'->s.heap.UpToSlots h'->Q () {s with heap:=h'}):wpAny M A (noteFrame (.ref e) env) Q E s:=by
 obtain⟨x1,x2,x3,fl,oe,vs,T,oT,ts,q1,q2,q2',q3,q4,q5,q6,q7,q8,q9,q10⟩:=id x;unfold noteFrame;simp only[hf];refine qAA (qCW q1 q3 q4 ?_);rw[qAC (by simp)];refine qAA (qCW q7 q8 q9 ?_)
 by_cases hm:fl=rawInt L
 .rw [qAC (by simpa using hm)];exact qAD (h _ x (Heap.UpToSlots.refl _))
 .rw [qAB (by simpa using hm)];refine qAA (qBE q7 q8 (qBK.mp q9).1 ?_);obtain⟨o,y1,y2,y3,y4⟩:=rec_write (f:=(·.setIfInBounds 3 Value.none)) x1 x3 q5 q7 q8;subst q2 q2';exact fly_entry hfr y2 hf ((o e (qAV q6)).trans q1) y1 x2 q3 (qBK.mp q4).1 q10 λh' z u=>h h' z (y3.trans u)
theorem fly_leaves(hfr:A.frames=some (env::l))(hf:env.frame=some L)(x:FlD B (env::l) e c dd s.heap)(h:∀h',FlD B l e c dd h'->s.heap.UpToSlots h'->Q () {s with heap:=h'}):wpAny M A (leaving env (.ref e)) Q E s:=by
 unfold leaving;exact qAA (fly_looks hfr hf x λh1 y u=>zGh y λh2 z v _=>h h2 z.less (u.trans v))
theorem fly_first{vs:Array Value}(hfr:A.frames=some (env::l))(hl:s.heap.FunFrames B (env::l))(hf:env.frame=some L)(he:s.heap.get? e=some oe)(st:B.StaysIn s.heap)(ne:B.get? e=none)(dv:oe.data= .fields vs)(h1:vs[1]?=some .none)(h2:vs[2]?=some .none)
  (h:∀h',FlD B l e oe.cls oe.dict h'->s.heap.UpToSlots h'->Q () {s with heap:=h'}):wpAny M A (leaving env (.ref e)) Q E s:=by
 unfold leaving noteFrame;simp only[hf];refine qAA (qAA (qCW he dv h1 ?_));rw[qAB (by decide)];exact fly_entry hfr hl hf he st ne dv (qBK.mp h1).1 h2 λh1 y u=>zGh y λh2 z v _=>h h2 z.less (u.trans v)
end
theorem zC1(x:zAz P w H h a o):∃u,h.get? a=some u:=by
 cases o with
 |lst xs=>obtain⟨_,_,_,_,e⟩:=x;exact⟨_,e⟩
 |tup xs=>obtain⟨_,_,_,_,e,_⟩:=x;exact⟨_,e⟩
 |dK kvs=>obtain⟨_,_,_,_,o,_,_,e,_⟩:=x;exact⟨_,e⟩
 |dT kvs=>obtain⟨_,_,_,_,o,_,_,e,_⟩:=x;exact⟨_,e⟩
 |set S n=>obtain⟨o,_,_,_,e,_⟩:=x;exact⟨_,e⟩
 |ins C dx fs=>obtain⟨_,_,_,e,_⟩:=x;exact⟨_,e⟩
 |own y=>exact x
 |xd fs=>obtain⟨_,⟨_,_,_,e,_⟩,_⟩:=x;exact⟨_,e⟩
 |rng lo hi=>obtain⟨_,_,_,e⟩:=x;exact⟨_,e⟩
 |frz ob u=>obtain⟨e,_⟩:=x;exact⟨_,e⟩
 |tbl ps=>exact⟨_,show h.get? a=some _ from x⟩
 |met f y=>exact⟨_,show h.get? a=some _ from x⟩
 |ext φ=>exact x.2.1
def part(h:Heap)(p:Addr->Bool):Heap:=⟨h.objs.mapIdx λi o=>if p i then o else {o with data:=.freed},h.life⟩
theorem zGf(h:Heap)(p:Addr->Bool)(b:Addr):(part h p).get? b=if p b then h.get? b else none:=by
 unfold part Heap.get?;simp only[Array.getElem?_mapIdx]
 cases h.objs[b]? with
 |none=>simp
 |some o=>
  cases hp:p b with
  |true=>simp[hp]
  |false=>simp[hp]
def nfr(h:Heap)(l:List Env):Heap:=part h λb=>decide (b∉frs l)
theorem nfr_stays(h:Heap)(l:List Env):(nfr h l).StaysIn h:=λb o e=>by
 unfold nfr at e;rw[zGf]at e;split at e
 .exact e
 .cases e
theorem nfr_get{l:List Env}(hb:b∉frs l):(nfr h l).get? b=h.get? b:=by
 unfold nfr;rw[zGf,qAC (by simpa using hb)]
theorem nfr_no{l:List Env}(hb:b∈frs l):(nfr h l).get? b=none:=by
 unfold nfr;rw[zGf,qAB (by simpa using hb)]
theorem zJh{base:Heap}:∀{l:List Env},h.FunFrames base l->(∀b∈frs l,B.get? b=none)->h.FunFrames B l
 |[],_,_=>trivial
 |env::rest,⟨m,⟨L,o,e1,e2,e3,e4⟩,r⟩,n=>⟨m,⟨L,o,e1,n L (by unfold frs;rw[qBi,e1];exact qAX),e3,e4⟩,zJh r λb hb=>n b (by
   unfold frs at hb ⊢;rw[qBi,e1];exact qAU _ hb)⟩
def CX1(P:Program)(w:World):CXT:=λouter H s E e s'=>∃(a C:Addr)(dd:Option Addr)(H':Hp)(B:Heap),e= .ref a/\FlD B outer a (.ref C) dd s'.heap/\s'.os=s.os/\AllBare s'.gens/\Un (frs outer) [] H H' s.heap s'.heap/\HOk P w H' s'.heap /\
 H' a=none/\s.heap.get? a=none/\(∀b o,(H' b≠none\/(s.heap.get? b≠none/\b∉frs outer))->s'.heap.get? b=some o->B.get? b=some o)/\E (.ref C) dd H'
section
variable{X:Cx}{pins:List (Addr×Obj)}{σ:St}{H:Hp}{s:Shared}
theorem zJd{H':Hp}{fs:List Addr}{H₀:Hp}{h₀:Heap}(u:Un fs [] H₀ H' h₀ h)(st:B.StaysIn h')(us:h.UpToSlots h')(hB:∀b o,(H' b≠none\/(h₀.get? b≠none/\b∉fs))->h.get? b=some o->B.get? b=some o)
  (hf:∀b∈fs,∀o,h₀.get? b=some o->∀vs,o.data≠.fields vs) (hfn:∀b∈fs,H₀ b=none):Un fs [] H₀ H' h₀ h' where
 keep:=λb o e n nf nx=>st b o (hB b o (.inr ⟨by rw[e];simp,nf⟩) (u.keep b o e n nf nx))
 slot:=λb o e n hb nx=>by
  obtain⟨sl,q⟩:=u.slot b o e n hb nx;obtain⟨sl',q'⟩:=us b _ q (hf b hb o e);exact⟨sl',q'⟩
 free:=u.free
 there:=λb o e nx=>by
  by_cases hb:b∈fs
  .obtain ⟨sl,q⟩:=u.slot b o e (hfn b hb) hb nx;obtain⟨sl',q'⟩:=us b _ q (hf b hb o e);exact⟨_,q'⟩
  .obtain ⟨o',q⟩:=u.there b o e nx;exact⟨o',st b o' (hB b o' (.inr ⟨by rw[e];simp,hb⟩) q)⟩
 tups:=u.tups
 frzs:=u.frzs
 tbls:=u.tbls
theorem zFj{H':Hp}(k:HOk P w H' h)(st:B.StaysIn h')(hB:∀b o,H' b≠none->h.get? b=some o->B.get? b=some o):HOk P w H' h':=λb u e=>
 (k b u e).stay (λc v hc q=>st c v (hB c v (by
  rcases hc with z|z
  .rw [z,e];simp
  .rw [z];simp) q)) (λ_ q=>q) λ_ _ q=>q
end
section
variable{P:Program}{w:World}{K:PySem.W.Frag}{mg:Str->Option Value}{base:Heap}{N:List Str}{qual:Str}{scope:Scope}{f:Addr}{cd:Value}{A:Around}{outer:List Env}{s:Shared}{H:Hp}{E E':XK}
theorem made1{pins:List (Addr×Obj)}{σ:St}{H1:Hp}{s1:Shared}{args:List Value}(I:Inv (cxOf (CX1 P w) P w K mg base N qual scope f cd A outer s H E) pins σ H1 s1)(hx:Heap.MadeExcOf s1.heap h' e (.ref C) args)(q:E (.ref C) none H1) :
  (cxOf (CX1 P w) P w K mg base N qual scope f cd A outer s H E).xe (.ref e) {s1 with heap:=h'}:=by
 have hfs:∀b∈frs (cxOf (CX1 P w) P w K mg base N qual scope f cd A outer s H E).stack,(nfr s1.heap (cxOf (CX1 P w) P w K mg base N qual scope f cd A outer s H E).stack).get? b=none:=λb hb=>nfr_no hb;obtain⟨t,he,htn,ht⟩:=hx.there
 have old0:∀b,s1.heap.get? b=none->(nfr s1.heap (cxOf (CX1 P w) P w K mg base N qual scope f cd A outer s H E).stack).get? b=none:=λb z=>by
  cases q0:(nfr s1.heap (cxOf (CX1 P w) P w K mg base N qual scope f cd A outer s H E).stack).get? b with
  |none=>rfl
  |some o=>rw[nfr_stays _ _ b o q0]at z;cases z
 refine fly_first (B:=nfr s1.heap (cxOf (CX1 P w) P w K mg base N qual scope f cd A outer s H E).stack) I.ok.frames ((zJh I.stack hfs).of_keeps λb o z _=>⟨o,hx.keeps b o z,rfl⟩) rfl he (λb o z=>hx.keeps b o (nfr_stays _ _ b o z)) (old0 e hx.new) rfl rfl rfl λh2 fl us=>?_;have st:=fl.1;have I2:Inv (cxOf (CX1 P w) P w K mg base N qual scope f cd A outer s H E) pins σ H1 {s1 with heap:=h',toks:=s1.toks}:=I.kept hx.keeps
 have old:∀b o,(H1 b≠none\/(s.heap.get? b≠none/\b∉frs outer))->h'.get? b=some o->(nfr s1.heap (cxOf (CX1 P w) P w K mg base N qual scope f cd A outer s H E).stack).get? b=some o:=λb o hc eo=>by
  have nst:b∉frs (cxOf (CX1 P w) P w K mg base N qual scope f cd A outer s H E).stack:=λz=>by
   rcases hc with y|⟨y1,y2⟩
   .exact y (I.stkFree b z)
   .rcases qAL.mp (I.stkSub b z)with y|y
    .cases q0:s.heap.get? b with
     |none=>exact y1 q0
     |some o0=>exact absurd (qAi (qAJ q0) (by rw[y];exact I.ok.above)) (qAv _)
    .exact y2 y
  rw[nfr_get nst]
  have:∃o2,s1.heap.get? b=some o2:=by
   rcases hc with z|⟨z1,z2⟩
   .cases q0:H1 b with
    |none=>exact absurd q0 z
    |some u=>exact zC1 (I.hok b u q0)
   .cases q0:s.heap.get? b with
    |none=>exact absurd q0 z1
    |some o0=>exact I.base.there b o0 q0 (by exact λz=>nomatch z)
  obtain⟨o2,e2⟩:=this;have e3:=hx.keeps b o2 e2;rw[eo]at e3;cases e3;exact e2
 refine⟨e,C,none,H1,_,rfl,fl,I.os,I.bare,zJd I2.base st us old (λb hb o eo=>?_) (λb hb=>I.ok.frf b hb),zFj I2.hok st λb o z=>old b o (.inl z),?_,?_,λb o hc eo=>?_,q⟩
 .obtain ⟨_,o',e',d⟩:=I.ok.funs.mem hb;have e':s.heap.get? b=some o':=e';rw[eo]at e';cases e';exact d
 .cases q0:H1 e with
  |none=>rfl
  |some u=>
   obtain⟨o2,e2⟩:=zC1 (I.hok e u q0);rw[hx.new]at e2;cases e2
 .cases q0:s.heap.get? e with
  |none=>rfl
  |some o0=>
   obtain⟨o1,e1⟩:=I.base.there e o0 q0 (by exact λz=>nomatch z);rw[hx.new]at e1;cases e1
 .have eo:h2.get? b=some o:=eo
  have:∃o2,h'.get? b=some o2:=by
   rcases hc with z|⟨z1,z2⟩
   .cases q0:H1 b with
    |none=>exact absurd q0 z
    |some u=>exact zC1 (I2.hok b u q0)
   .cases q0:s.heap.get? b with
    |none=>exact absurd q0 z1
    |some o0=>exact I2.base.there b o0 q0 (by exact λz=>nomatch z)
  obtain⟨o2,e2⟩:=this;have e3:=old b o2 hc e2;rw[st b o2 e3]at eo
  cases eo
  exact e3
end
theorem xcls_at{K:PySem.W.Frag}{bmB:List Value}{newId:String}(X:K.In h)(q:PySem.W.excIn K C bmB newId=true) :
  ∃(bm:List Value)(N:Addr)(nm qn:Str)(bs:List Value)(hdct:Bool)(sn:List Str)(sub:List Value)(ab:Bool)(col:Option Bool)(dd:Option Addr)(k0 k1 k2 k3 k5:Option Value)(mN:Str->Option Value),
   h.get? C=some (excClassObj nm qn C N bs bm hdct sn sub ab col dd k0 k1 k2 k3 k5 newId)/\h.Ns N mN/\mN "__init__"=none/\OwnTail h bmB bm:=by
 unfold PySem.W.excIn at q;split at q
 case h_2=>cases q
 case h_1 dd cd sl ho=>
  split at q
  case h_2=>cases q
  case h_1 C1 bm k0 k1 k2 k3 n k5 hm hs=>
   simp only[qA3,qA7,Bool.not_eq_true']at q;obtain⟨⟨⟨⟨⟨rfl,rfl⟩,nd⟩,tl⟩,ok⟩,ni⟩:=q
   cases cd
   dsimp only at hm nd ok ni;subst hm nd
   cases sl
   dsimp only at hs;subst hs;exact⟨_,_,_,_,_,_,_,_,_,_,_,_,_,_,_,_,_,X _ _ ho,.of_isNs (PySem.W.isNs_of_in X ok),PySem.W.nsMap_none_of_in X ok ni,PySem.W.tail_of_in X tl⟩
section
variable{X:Cx}{E:XK}{C:Addr}
def RaiseOk(X:Cx)(C:Addr)(E:XK):Prop:=∀(pins:List (Addr×Obj)) (σ:St) (H:Hp) (s:Shared) (h':Heap) (e:Addr) (us:List Value),Inv X pins σ H s->Heap.MadeExcOf s.heap h' e (.ref C) us->E (.ref C) none H->X.xe (.ref e) {s with heap:=h'}
def sRaise(E:XK)(C:Addr)(t:TA):TS:=λ_ σ H=>t σ H λvs H1=>vs.length<=sizeLine/\E (.ref C) none H1
abbrev bmVE:List Value:=[.type "ValueError",.type "Exception",.type "BaseException",.type "object"]
theorem ps_raise{np cpos pos:Pos}{a:Expr}{es:List Expr}{t:TA}(hx:RaiseOk X C E)(hc:X.calm=true)(hg:Gl X x)(hm:X.mg x=some (.ref C))(q:PySem.W.excIn X.K C bmVE "ValueError.__new__"=true)(ha:PA X (a::es) t)
  (hd:(x==("__debug__": Str))=false:=by decide) (he:starEach (a::es) X.env=(false,eval a X.env)::starEach es X.env:=by rfl) (hpl:(backTo cpos (starEach es X.env)).any (·.1)=false:=by rfl) :
  PS X (.Raise (some (.Call (.Name x np) (a::es) [] cpos)) none pos) (sRaise E C t):=by
 intro pins s σ H D I h;obtain⟨bm,N,nm,qn,bs,hdct,sn,sub,ab,col,dd,k0,k1,k2,k3,k5,mN,hC,hN,hni,T⟩:=xcls_at I.ok.mod.kin q;refine wpAny_Raise_call_subU qCX (B:="ValueError") (C:=C) (nm:=nm) (q:=qn) (N:=N) (bs:=bs) (bm:=bm) (hdct:=hdct) (sn:=sn) (sub:=sub) (ab:=ab) (col:=col) (dd:=dd) (k0:=k0) (k1:=k1) (k2:=k2) (k3:=k3) (k5:=k5) (mN:=mN) (by decide +kernel) qCX (T.hasType (by decide +kernel)) (I.ok.hd hc) ?_ hni (zC2 I hg hm ?_ hd)
 .rw [he];show(false||(backTo cpos (starEach es X.env)).any (·.1))=false;rw[hpl];rfl
 refine⟨rfl,?_⟩;have ha':=ha cpos pins s σ H _ I h;rw[he]at ha' ⊢;refine Calls.evalArgs_plain (thn ha' λus s1 ⟨vs,H1,I1,r1,z,q1⟩=>?_);exact⟨rfl,by rw[<-r1.length];exact z,I1.bk _ _ hC,hN.keeps I1.bk,T.keeps I1.bk,λh' e mk=>hx pins σ H1 s1 h' e us I1 mk q1⟩
end
def mroK(K:PySem.W.Frag)(C:Addr):List Value:=match K.lookup C with
 |some ⟨_,_,.cls cd,_⟩=>cd.mro
 |_=>[]
open PySem.W in
def excB(K:Frag)(C:Addr):Bool:=match K.lookup C with
 |none=>false
 |some o=>match o.cls,o.data,o.slots.toList with
  | .type y,.cls c,[_,_,_,_,some (.builtin n),_]=>y=="type" && c.mro.head?==some (.ref C)&&n=="ValueError.__new__" && !c.hasDel&&tailIn K bmVE c.mro.tail&&nsOkIn K c.ns
  |_,_,_=>false
open PySem.W in
theorem excB_of{K:Frag}(q:excIn K C bmVE "ValueError.__new__"=true):excB K C=true:=by
 unfold excIn at q;split at q
 case h_2=>cases q
 case h_1 dd cd sl ho=>
  split at q
  case h_2=>cases q
  case h_1 C1 bm k0 k1 k2 k3 n k5 hm hs=>
   simp only[qA3,qA7,Bool.not_eq_true']at q;obtain⟨⟨⟨⟨⟨rfl,rfl⟩,nd⟩,tl⟩,ok⟩,ni⟩:=q;unfold excB;rw[ho];simp only[hs,hm,nd,ok,List.head?_cons,List.tail_cons];rw[tl];simp
open PySem.W in
theorem zGo{K:Frag}(X:K.In h)(q:excB K C=true) :
  ∃(bm:List Value)(N:Addr)(nm qn:Str)(bs:List Value)(hdct:Bool)(sn:List Str)(sub:List Value)(ab:Bool)(col:Option Bool)(dd:Option Addr)(k0 k1 k2 k3 k5:Option Value),
   h.get? C=some (excClassObj nm qn C N bs bm hdct sn sub ab col dd k0 k1 k2 k3 k5 "ValueError.__new__")/\OwnTail h bmVE bm/\mroK K C= .ref C::bm:=by
 unfold excB at q;split at q
 case h_1=>cases q
 case h_2 o ho=>
  split at q
  case h_2=>cases q
  case h_1 y c k0 k1 k2 k3 n k5 hc hd hs=>
   simp only[qA3,qA7,Bool.not_eq_true']at q;obtain⟨⟨⟨⟨⟨rfl,hm⟩,rfl⟩,nd⟩,tl⟩,ok⟩:=q
   have mk:mroK K C=c.mro:=by
    unfold mroK;rw[ho];obtain⟨o1,o2,o3,o4⟩:=o;have hd:o3= .cls c:=hd;subst hd;rfl
   obtain⟨o1,o2,o3,o4⟩:=o
   cases hc
   cases hd
   obtain⟨sl⟩:=o4;have hs:sl=_:=hs;subst hs;have at_:=X _ _ ho;have T:=tail_of_in X tl;obtain⟨c1,c2,c3,c4,c5,c6,c7,c8,c9,c10,c11⟩:=c;have hm:c3.head?=some (.ref C):=hm;have nd:c11=false:=nd;subst nd
   cases c3 with
   |nil=>cases hm
   |cons v bm=>
    cases hm
    exact⟨bm,c4,c1,c5,c2,c6,c7,c8,c9,c10,o2,k0,k1,k2,k3,k5,at_,T,mk⟩
section
variable{M:Model}{A:Around}{E:Value->Shared->Prop}{h:Heap}{g:Array GenState}{d:Drawn}{t:Nat}{os:OsState}
theorem match_own{B NC NB:Addr}{nm qn nm' qn':Str}{bs bm bs' bm':List Value}{hdct hdct':Bool}{sn sn':List Str}{sub sub':List Value}{ab ab':Bool}{col col':Option Bool}{dd dd':Option Addr}{k0 k1 k2 k3 k5 j0 j1 j2 j3 j5:Option Value}{newId newId':String}{Q:Bool->Shared->Prop}{r:Bool}
  (hC:h.get? C=some (excClassObj nm qn C NC bs bm hdct sn sub ab col dd k0 k1 k2 k3 k5 newId)) (hB:h.get? B=some (excClassObj nm' qn' B NB bs' bm' hdct' sn' sub' ab' col' dd' j0 j1 j2 j3 j5 newId')) (he:h.get? e=some oe) (hcls:oe.cls= .ref C)
  (base:(Value.ref B::bm').contains (.type "BaseException")=true) (hr:(Value.ref C::bm).contains (.ref B)=r) (q:Q r ⟨h,g,d,t,os⟩):wpAny M A (excMatches (.ref e) (.ref B)) Q E ⟨h,g,d,t,os⟩:=by
 have f:=tc_notTuple;unfold excMatches
 repeat (first|(with_reducible refine qB9 he ?_;rw[hcls])|with_reducible refine qB9 hB ?_|(with_reducible refine qDI hB ?_;rw[base])|(with_reducible refine qDI hC ?_;rw[hr])|wp_step)
 cases r<;>(wp_walk;exact q)
end
abbrev Cx.tb(X:Cx)(pl:List (Addr×Obj))(ξ:Value->Shared->Prop):Cx:={X with pn:=X.pn++pl,xe:=ξ}
abbrev Cx.hnd(X:Cx)(a:Addr):Cx:={X with A:=X.A.mark (some (.ref a)),calm:=false,xe:=λ_ _=>False}
section
variable{X:Cx}{pins:List (Addr×Obj)}{σ:St}{H:Hp}{s:Shared}
theorem Inv.to_tb{ξ:Value->Shared->Prop}(I:Inv X pins σ H s):Inv (X.tb pins ξ) [] σ H s :=
 ⟨⟨I.ok.mod,I.ok.kind,I.ok.glob,I.ok.blt,I.ok.above,I.ok.inj,I.ok.has,I.ok.cab,I.ok.hd,I.ok.frames,I.ok.stk,I.ok.exf,I.ok.bs,I.ok.bsz,I.ok.noex,I.ok.exfs,I.ok.funs,I.ok.frf⟩,I.os,I.bare,I.base,I.loc,I.cell,I.free,I.freeC,λp hp=>I.pin p (by simpa using hp),I.hok,I.len⟩
theorem Inv.of_tb{ξ:Value->Shared->Prop}{pl:List (Addr×Obj)}(I:Inv (X.tb pl ξ) pins σ H s):Inv X pl σ H s :=
 ⟨⟨I.ok.mod,I.ok.kind,I.ok.glob,I.ok.blt,I.ok.above,I.ok.inj,I.ok.has,I.ok.cab,I.ok.hd,I.ok.frames,I.ok.stk,I.ok.exf,I.ok.bs,I.ok.bsz,I.ok.noex,I.ok.exfs,I.ok.funs,I.ok.frf⟩,I.os,I.bare,I.base,I.loc,I.cell,I.free,I.freeC,λp hp=>I.pin p (qAo _ hp),I.hok,I.len⟩
theorem Inv.to_hnd(I:Inv X pins σ H s):Inv (X.hnd a) pins σ H s :=
 ⟨⟨I.ok.mod,I.ok.kind,I.ok.glob,I.ok.blt,I.ok.above,I.ok.inj,I.ok.has,I.ok.cab,(λz=>nomatch z),I.ok.frames,I.ok.stk,I.ok.exf,I.ok.bs,I.ok.bsz,I.ok.noex,I.ok.exfs,I.ok.funs,I.ok.frf⟩,I.os,I.bare,I.base,I.loc,I.cell,I.free,I.freeC,I.pin,I.hok,I.len⟩
theorem Inv.of_hnd(I:Inv (X.hnd a) pins σ H s)(hd:X.calm=true->X.A.handled=none):Inv X pins σ H s :=
 ⟨⟨I.ok.mod,I.ok.kind,I.ok.glob,I.ok.blt,I.ok.above,I.ok.inj,I.ok.has,I.ok.cab,hd,I.ok.frames,I.ok.stk,I.ok.exf,I.ok.bs,I.ok.bsz,I.ok.noex,I.ok.exfs,I.ok.funs,I.ok.frf⟩,I.os,I.bare,I.base,I.loc,I.cell,I.free,I.freeC,I.pin,I.hok,I.len⟩
theorem Inv.track(I:Inv X pins σ H s)(n:H a=none)(n0:X.s₀.heap.get? a=none)(hL:a≠X.env.locals)(hc:∀x c,X.env.cells.lookup x=some c->c≠a)(hp:∀p∈X.pn++pins,p.1≠a)(ob:zAz X.prog X.w (upd H a o) s.heap a o):Inv X pins σ (upd H a o) s:=by
 refine⟨I.ok,I.os,I.bare,⟨I.base.keep,I.base.slot,λb u e m hx=>?_,I.base.there,λb xs e=>?_,λb u v e=>?_,λb ps e=>?_⟩,I.loc,I.cell,?_,λx c e=>?_,λp q=>?_,λb u e=>?_,I.len⟩
 .have:b≠a:=λz=>by rw[z,n0]at e;cases e
  rw[upd_ne this];exact I.base.free b u e m hx
 .have h1:=I.base.tups b xs e;rw[upd_ne (zAi h1 n)];exact h1
 .have h1:=I.base.frzs b u v e;rw[upd_ne (zAi h1 n)];exact h1
 .obtain ⟨more,h1⟩:=I.base.tbls b ps e;exact⟨more,by rw[upd_ne (zAi h1 n)];exact h1⟩
 .rw [upd_ne (qAV hL)];exact I.free
 .rw [upd_ne (hc x c e)];exact I.freeC x c e
 .obtain ⟨p1,p2,p3⟩:=I.pin p q;exact⟨p1,by rw[upd_ne (hp p q)];exact p2,p3⟩
 .by_cases hb:b=a
  .subst hb;rw[upd_same]at e;cases e;exact ob
  .rw [upd_ne hb]at e;refine(I.hok b u e).stay (λ_ _ _ q=>q) (λc q=>?_) λc xs q=>?_
   .rw [upd_ne (zAi q n)];exact q
   .rw [upd_ne (zAi q n)];exact q
end
section
variable{X:Cx}{pins:List (Addr×Obj)}{σ:St}{H:Hp}{s:Shared}
theorem Inv.gone{i:Nat}{m:Str->Option Value}{u:Option Value}{tk:Nat}(I:Inv X pins σ H s)(hN:X.N.Nodup)(hi:X.N[i]?=some x)
  (hm:s.heap.Ns X.env.locals m/\∀(j:Nat)(y:Str)(v:V),X.N[j]?=some y->σ[j]?=some (some v)->Vis X.env.scope y->∃w,RelV v w/\Look X.env s.heap m y w) (hn:h'.Ns X.env.locals (λy=>if y=x then u else m y)) (hs:Heap.SameBut X.env.locals s.heap h') :
  Inv X pins (σ.set i none) H {s with heap:=h',toks:=tk}:=by
 obtain⟨_,hl⟩:=hm;have old:∀b o,X.s₀.heap.get? b=some o->b≠X.env.locals:=λb o e=>qAR (qAi (qAJ e) I.ok.above);have iσ:i<σ.length:=by rw[I.len];exact(qAg.mp hi).1
 refine⟨I.ok,I.os,I.bare,⟨λb o e n hb hx=>(hs.2 b (old b o e)).trans (I.base.keep b o e n hb hx),λb o e n hb hx=>?_,I.base.free,λb o e hx=>?_,I.base.tups,I.base.frzs,I.base.tbls⟩,⟨_,hn,λj y v e1 e2 e3=>?_⟩,λy c e=>?_,I.free,I.freeC,λp hp=>?_,λb ob e=>?_,by simpa using I.len⟩
 .obtain ⟨sl,q⟩:=I.base.slot b o e n hb hx;exact⟨sl,(hs.2 b (old b o e)).trans q⟩
 .obtain ⟨o2,q⟩:=I.base.there b o e hx;exact⟨o2,(hs.2 b (old b o e)).trans q⟩
 .have ji:j≠i:=λz=>by
   subst z;rw[qCc iσ]at e2
   cases e2
  rw[qDL (qAV ji)]at e2;obtain⟨w,r,q⟩:=hl j y v e1 e2 e3;have yx:y≠x:=λz=>ji (zJa hN e1 (z▸hi));refine⟨w,r,?_⟩;rcases q with⟨k,e⟩|⟨k,c,e,z⟩
  .exact .inl ⟨k,by simp[yx,e]⟩
  .exact .inr ⟨k,c,e,z.sameBut hs (I.cne y c e)⟩
 .obtain ⟨w,z⟩:=I.cell y c e;exact⟨w,z.sameBut hs (I.cne y c e)⟩
 .obtain ⟨p1,p2,p3,p4,p5⟩:=I.pin p hp;exact⟨(hs.2 p.1 p3).trans p1,p2,p3,p4,p5⟩
 .refine (I.hok b ob e).stay (λc w hc q=>(hs.2 c ?_).trans q) (λ_ q=>q) λ_ _ q=>q;rintro rfl;rcases hc with rfl|hc
  .rw [I.free]at e;cases e
  .rw [I.free]at hc;cases hc
theorem zFh{M:Model}{A:Around}{E:Value->Shared->Prop}{i:Nat}{Q:Unit->Shared->Prop}(I:Inv X pins σ H s)(hN:X.N.Nodup)(hi:X.N[i]?=some x)(hk:X.env.kindOf x=some .local)(h:∀s',Inv X pins (σ.set i none) H s'->Q () s') :
  wpAny M A (do bindName X.env x .none;unbindBehindTheSuite X.env x pos) Q E s:=by
 have hcls:(X.env.scope.kind== .class||(X.env.scope.kind== .module&&X.env.locals != X.env.globals))=false:=by rw[I.ok.kind];rfl
 refine qAA (wpAny_bindName (zF8 (v:=.non) (u:=.none) I hN hi (.inl hk) rfl (λs1 I1=>?_) (.inr hk)));unfold unbindBehindTheSuite;refine wpAny_onRaise ?_;obtain⟨m,hn,hl⟩:=id I1.loc;have iσ:i<σ.length:=by rw[I.len];exact(qAg.mp hi).1
 obtain⟨w,r,q⟩:=hl i x .non hi (by rw[qCc iσ]) (.inl hk)
 have hv:m x=some w:=by
  rcases q with⟨_,e⟩|⟨z,_⟩
  .exact e
  .rw [hk]at z;rcases z with z|z<;>cases z
 refine wpAny_unbindName_local hk hn hv hcls λh' u hn' hs=>?_;have:=Inv.gone (tk:=s1.toks) I1 hN hi ⟨hn,hl⟩ hn' hs;rw[List.set_set]at this;exact h _ this
def excD(a C:Addr)(dd:Option Addr):HO:=.ext λh=>∃o,h.get? a=some o/\o.cls= .ref C/\o.dict=dd/\∃vs,o.data= .fields vs/\vs[2]?=some .none
theorem excD_ok{dd:Option Addr}(x:∃o,h.get? a=some o/\o.cls= .ref C/\o.dict=dd/\∃vs,o.data= .fields vs/\vs[2]?=some .none):zAz P w H h a (excD a C dd):=by
 obtain⟨o,e,c⟩:=x;exact⟨⟨o,e,c⟩,⟨o,e⟩,λh1 h2 ⟨o1,e1,c1⟩ k=>⟨o1,k o1 e1,c1⟩⟩
end
def zGn(CX:CXT)(X:Cx)(E:St->XK):Prop:=∀(pins:List (Addr×Obj)) (σ:St) (H:Hp) (s:Shared) (e:Value) (s':Shared),Inv X pins σ H s->CX X.stack H s (E σ) e s'->X.xe e s'
def hEnds(i:Nat)(D:Ends):Ends:={nx:=λσ H=>D.nx (σ.set i none) H,rt:=D.rt,bk:=λσ H=>D.bk (σ.set i none) H,ct:=λσ H=>D.ct (σ.set i none) H}
def tTry(K:PySem.W.Frag)(Cb:Addr)(i:Nat)(tb:(St->XK)->TS)(th:Addr->TS):TS:=λD σ H=>
 tb (λσ' c dd H'=>∃C,c= .ref C/\excB K C=true/\(mroK K C).contains (.ref Cb)=true/\∀a,H' a=none->th a (hEnds i D) (σ'.set i (some (.ref a))) (upd H' a (excD a C dd))) D σ H
section
variable{X:Cx}
theorem sp_tb{pl:List (Addr×Obj)}{ξ:Value->Shared->Prop}{D:Ends}{f:Flow}{s':Shared}{pins:List (Addr×Obj)}(h:SP (X.tb pl ξ) pins D f s'):SP X pl D f s':=by
 cases f with
 |next=>obtain⟨σ',H',I,q⟩:=h;exact⟨σ',H',I.of_tb,q⟩
 |brk=>obtain⟨σ',H',I,q⟩:=h;exact⟨σ',H',I.of_tb,q⟩
 |cont=>obtain⟨σ',H',I,q⟩:=h;exact⟨σ',H',I.of_tb,q⟩
 |ret u=>obtain⟨v,σ',H',I,r,q⟩:=h;exact⟨v,σ',H',I.of_tb,r,q⟩
theorem pe_callX{CX:CXT}{k:Nat}{f:Addr}{fd:FuncData}{ps:List Str}{sp:Sp}{E:St->XK}{p pos:Pos}{e:Expr}{es:List Expr}{t:TA}(F:FnOk X.prog X.w X.K X.mg X.base CX k f fd ps sp)(hr:Room k X.A)(hg:Gl X x)(hm:X.mg x=some (.ref f))(hk:PySem.W.keepIn X.K (.ref f)=true)(hb:zCe X.K fd ps [])(hx:zGn CX X E)
  (ha:PA X (e::es) t) (hdb:(x==("__debug__": Str))=false:=by decide) (he:starEach (e::es) X.env=(false,eval e X.env)::starEach es X.env:=by rfl) (hpl:(backTo pos (starEach es X.env)).any (·.1)=false:=by rfl) :
  PE X (.Call (.Name x p) (e::es) [] pos) (λσ H Q=>t σ H λvs H1=>sp vs H1 Q (E σ)):=by
 intro pins s σ H Q I h;refine qBa (zC2 I hg hm ?_ hdb);refine PySem.W.callWith_K (h₀:=X.base) I.ok.mod.kin hk (thn (ha pos pins s σ H _ I h) λus s1 ⟨vs,H1,I1,r,q⟩=>⟨I1.kIn,?_⟩) he hpl;have hl:us.length=ps.length:=by rw[<-r.length];exact F.len _ _ _ _ q
 have bd:=hb s1 us I1.kIn (by rw[qAu];exact hl);rw[qAu]at bd;refine qBI (qBV (F.run X.A X.stack s1 H1 ⟨us,[]⟩ us vs Q (E σ) hr I1.env0 bd r q) λrr s' hq=>?_)
 cases rr with
 |error x=>exact hx pins σ H1 s1 x s' I1 hq
 |ok fl=>
  cases fl with
  |ret u=>exact I1.after hq
  |next=>exact hq.elim
  |brk=>exact hq.elim
  |cont=>exact hq.elim
end
section
variable{P:Program}{w:World}{K:PySem.W.Frag}{mg:Str->Option Value}{base:Heap}
theorem Fun.okX{qual:Str}{st:Stmt}{f:Addr}{fd:FuncData}{N ps:List Str}{k:Nat}{sp:Sp}(F:Fun K x qual st f fd)(S:FnScope N ps (zAe st))(len:∀vs H Q E,sp vs H Q E->vs.length=ps.length)
  (hbody:∀(cdv:Value) (A:Around) (outer:List Env) (s:Shared) (H:Hp) (vs:List V) (Q:VK) (E:XK),Room k (A.deeper (envOfC qual (zAe st) s.heap.objs.size f cdv))->sp vs H Q E ->
   ∃t,PSs (cxOf (CX1 P w) P w K mg base N qual (zAe st) f cdv A outer s H E) (zBp st) t/\t {nx:=λ_ H'=>Q .non H',rt:=Q} (zHq N vs) H):FnOk P w K mg base (CX1 P w) (k+1) f fd ps sp:=by
 obtain⟨oc,od,kV,doc,pm,an,cdv,ct,osl,rfl,lk,hcd⟩:=F.ex;exact fn_of lk hcd S len λA outer s H vs Q E hr hsp=>hbody cdv A outer s H vs Q E hr hsp
theorem raise1{N:List Str}{qual:Str}{scope:Scope}{f:Addr}{cd:Value}{A:Around}{outer:List Env}{s:Shared}{E:XK}:RaiseOk (cxOf (CX1 P w) P w K mg base N qual scope f cd A outer s H E) C E:=λ_ _ _ _ _ _ _ I hx q=>made1 I hx q
end
end L2
namespace L2
open PySem PySem.Spec PyProof.Rows PySem.W PySem.Builtin PySem.Builtin.ObjectAttr PySem.Builtin.Getset_descriptor
section
variable{prog:Program}{w:World}{A:Around}{E:Value->Shared->Prop}{s:Shared}{K:PySem.W.Frag}{x C:Addr}{R:Result->Shared->Prop}
theorem exc_get{tp:Value}(X:K.In s.heap)(L0:Looks (model prog w) s.heap (typeOf (.ref x)) (.ref C))(hm:mroIn K C (.type "object")=some true)(h:R (.ok (.ret (.ref C))) s) :
  codeAny (model prog w) A (.call (.builtin "getset_descriptor.__get__") ⟨[.builtin "object.__class__",.ref x,tp],[]⟩) R s:=by
 obtain⟨h0,g,d,t,os⟩:=s;have L1:=looks_mroIn (M:=model prog w) X hm;refine qB5 KF.slot_gs.plain KF.entry_gs (KF.slot_gs.check _ _ _ _ _ _ _ _ KF.type_class (KF.args_gs _ _ _) ?_);unfold Builtin.«getset_descriptor.__get__» descrGet;rw[dga_obj];refine qAA (qAD ?_);unfold descrGetter descrCheckInstance descrNameAndClass isInstance;simp only[KF.owner_class]
 repeat lk
 refine⟨qDD _ (by decide +kernel),qBS KF.entry_class ?_⟩;unfold Builtin.«object.__class__» shownTypeOf
 repeat lk
 exact h
theorem exc_ga{tk:Tok}(X:K.In s.heap)(L0:Looks (model prog w) s.heap (typeOf (.ref x)) (.ref C))(hm:mroIn K C (.type "object")=some true)(hb:mroIn K C (.type "BaseException")=some true)
  (gc:findIn K (.ref C) "__class__"=some (some (.builtin "object.__class__"))) (hn:specialIn K (.builtin "object.__class__") "__get__"=some (some (.builtin "getset_descriptor.__get__"))) (htk:takesIn K (.builtin "object.__class__")=some true) (h:R (.ok (.ret (.ref C))) s) :
  codeAny (model prog w) A (.call (.builtin "BaseException.__getattribute__") ⟨[.ref x,.str "__class__" tk],[]⟩) R s:=by
 obtain⟨h0,g,d,t,os⟩:=s;have L1:=looks_mroIn (M:=model prog w) X hb;have L2:=qCA (M:=model prog w) X gc;have L3:=looks_specialIn (M:=model prog w) X hn;have L4:=looks_takesIn (M:=model prog w) X htk;have hk:builtinKind "BaseException.__getattribute__"=some .slot:=by decide +kernel
 have hsplit:splitId "BaseException.__getattribute__"=some ("BaseException","__getattribute__"):=by decide +kernel
 have ha:=F.args_bexc_ga (.ref x) (.str "__class__" tk);refine qB5 (by decide +kernel) F.entry_bexc_ga ?_;simp only[checkBuiltinCall,hk,hsplit];refine qAA ?_;unfold isInstance;refine(L0.andThen L1).at ?_;simp only[Bool.not_true,qCu,qBz]
 have go:wpAny (model prog w) A.in1 (Builtin.«object.__getattribute__» ⟨[.ref x,.str "__class__" tk],[]⟩) (λfin s'=>match fin with
   | .done f=>R (.ok f) s'
   | .again c'=>c'.quiet=true/\codeAny (model prog w) A c' R s') (λe s'=>R (.error e) s') ⟨h0,g,d,t,os⟩:=by
  unfold Builtin.«object.__getattribute__»
  repeat lk
  show wpAny _ _ (run (.call (.builtin "getset_descriptor.__get__") ⟨[.builtin "object.__class__",.ref x,.ref C],[]⟩)) _ _ _;exact wpAny_run (exc_get X L0 hm (qAD (qAD h)))
 unfold argsOk at ha
 cases hs:Manifest.signature? "BaseException.__getattribute__" with
 |none=>exact qAD go
 |some sig=>
  rw[hs]at ha;simp only at ha ⊢;rw[ha];exact qAD go
theorem exc_class{Q:Option Value->Shared->Prop}(X:K.In s.heap)(L0:Looks (model prog w) s.heap (typeOf (.ref x)) (.ref C))(hm:mroIn K C (.type "object")=some true)(hb:mroIn K C (.type "BaseException")=some true)(ga:findIn K (.ref C) "__getattribute__"=some (some (.builtin "BaseException.__getattribute__")))(gn:findIn K (.ref C) "__getattr__"=some none)
  (gc:findIn K (.ref C) "__class__"=some (some (.builtin "object.__class__"))) (hn:specialIn K (.builtin "object.__class__") "__get__"=some (some (.builtin "getset_descriptor.__get__"))) (htk:takesIn K (.builtin "object.__class__")=some true) (h:Q (some (.ref C)) {s with toks:=s.toks+1}) :
  wpAny (model prog w) A (getAttr? (.ref x) "__class__") Q E s:=by
 obtain⟨h0,g,d,t,os⟩:=s;have L1:=qCA (M:=model prog w) X ga;have L2:=qCA (M:=model prog w) X gn;have f3:=F.excAttr_ValueError.ga.bind (.ref x);unfold getAttr? getAttrBy? getAttrBy;refine qAA (wpAny_mkText (qAA (qCM (qAk (qAA (L0.at (qAA (L1.at ?_))))))));show wpAny _ _ (getAttrByItsOwn _ _ _ _ _ _) _ _ _;unfold getAttrByItsOwn;unfold hookBefore;refine qAA ?_;rw[qAC (show onTheHeap (Value.ref C)=true from rfl)];refine L2.at ?_;refine qAA (qCM (qAk ?_));unfold callGetattribute;rw[qAB (by simp)];unfold boundAndCalled;rw[f3];refine qAA (qAD ?_);refine qBI (exc_ga (s:=⟨h0,g,d,t+1,os⟩) X L0 hm hb gc hn htk ?_);exact qAD (qAD h)
def zIe(K:PySem.W.Frag)(C:Addr):Bool:=(mroIn K C (.type "object")==some true)&&(mroIn K C (.type "BaseException")==some true)&&(findIn K (.ref C) "__getattribute__"== some (some (.builtin "BaseException.__getattribute__")))&&(findIn K (.ref C) "__getattr__"== some none) &&
 (findIn K (.ref C) "__class__"== some (some (.builtin "object.__class__")))&&(specialIn K (.builtin "object.__class__") "__get__"== some (some (.builtin "getset_descriptor.__get__")))&&(takesIn K (.builtin "object.__class__")==some true)&&(clsIn K C).isSome
theorem kitx_exc(q:zIe K C=true):KitX K (.ref x) (.ref C) (λh=>∃o,h.get? x=some o/\o.cls= .ref C):=by
 unfold zIe at q;simp only[qA3,qA7]at q;obtain⟨⟨⟨⟨⟨⟨⟨hm,hb⟩,ga⟩,gn⟩,gc⟩,hn⟩,htk⟩,hc⟩:=q;have ty:∀(M:Model)(h:Heap),(∃o,h.get? x=some o/\o.cls= .ref C)->Looks M h (typeOf (.ref x)) (.ref C):=λM h ⟨o,e1,e2⟩=>e2▸(Looks.ld e1).andThen .now;refine⟨λM h _ p=>ty M h p,λM h X _=>?_,λh tp dd its n sl X htp=>?_,λX p k=>exc_class X (ty _ _ p) hm hb ga gn gc hn htk k⟩
 .unfold clsIn at hc;split at hc
  case h_1 c1 d1 cd1 sl1 ho=>
   intro A1 Q1 E1 s1 k q;unfold isType loadHead;exact qAA (wpAny_loadPart (k _ _ (X _ _ ho)) (qAD q))
  case h_2=>cases hc
 .refine qCY.mpr λz=>?_;have e:C=tp:=Value.ref.inj (qA7.mp z);subst e;unfold clsIn at hc;split at hc
  case h_1 c1 d1 cd1 sl1 ho=>
   have z:=(X _ _ ho).symm.trans htp
   cases z
  case h_2=>cases hc
end
section
variable{X:Cx}
theorem excD_at{pins:List (Addr×Obj)}{σ:St}{H:Hp}{s:Shared}{a C:Addr}{dd:Option Addr}(I:Inv X pins σ H s)(e:H a=some (excD a C dd)):∃o,s.heap.get? a=some o/\o.cls= .ref C :=
 let⟨o,e1,e2,_⟩:=(I.hok a _ e).1
 ⟨o,e1,e2⟩
theorem zBb:zCq X (.builtin "isinstance") (λxs H Q=>∃a C dd D b,xs=[.ref a,.ref D]/\H a=some (excD a C dd)/\zIe X.K C=true/\PySem.W.kitOne X.K (.ref C) (.ref D)=some b/\Q (.bl b) H):=by
 intro pins s σ H xs us Q I rv h;obtain⟨a,C,dd,D,b,rfl,e,k,kb,q⟩:=h;obtain⟨u,v,rfl,ru,rw1⟩:=rv.two
 cases ru
 cases rw1
 exact qBB (kitx_exc k) I.kIn (excD_at I e) kb (λz=>nomatch z) λtk=>⟨.bl b,H,I.tok tk,rfl,q⟩
theorem call_isXB:zCq X (.builtin "isinstance") (λxs H Q=>∃a C dd n b,xs=[.ref a,.ty n]/\H a=some (excD a C dd)/\zIe X.K C=true/\PySem.W.kitOne X.K (.ref C) (.type n)=some b/\Q (.bl b) H):=by
 intro pins s σ H xs us Q I rv h;obtain⟨a,C,dd,D,b,rfl,e,k,kb,q⟩:=h;obtain⟨u,v,rfl,ru,rw1⟩:=rv.two
 cases ru
 cases rw1
 exact qBB (kitx_exc k) I.kIn (excD_at I e) kb (λz=>nomatch z) λtk=>⟨.bl b,H,I.tok tk,rfl,q⟩
end
end L2
namespace L2
open PySem PySem.Spec PyProof.Rows
structure Flt(P:Program)(w:World)(stack:List Env)(ch:List Addr)(H:Hp)(s:Shared)(a C:Addr)(dd:Option Addr)(H':Hp)(s':Shared):Prop where
 ex:∃B:Heap,FlD B stack a (.ref C) dd s'.heap/\∀b o,(H' b≠none\/(s.heap.get? b≠none/\b∉frs stack/\b∉ch))->s'.heap.get? b=some o->B.get? b=some o
 os:s'.os=s.os
 bare:AllBare s'.gens
 un:Un (frs stack) ch H H' s.heap s'.heap
 hok:HOk P w H' s'.heap
 na:H' a=none
 ng:s.heap.get? a=none\/a∈ch
def ChOk(X:Cx)(pins:List (Addr×Obj))(ch:List Addr):Prop:=∀b∈ch,(b∈X.ex\/X.s₀.heap.objs.size<=b)/\b≠X.env.locals/\(∀x c,X.env.cells.lookup x=some c->c≠b)/\∀p∈X.pn++pins,p.1≠b
def zDe(X:Cx)(E:St->XK):Prop:=∀(pins:List (Addr×Obj)) (σ:St) (H:Hp) (s:Shared) (ch:List Addr) (a C:Addr) (dd:Option Addr) (H':Hp) (s':Shared),Inv X pins σ H s->ChOk X pins ch->Flt X.prog X.w X.stack ch H s a C dd H' s'->E σ (.ref C) dd H'->X.xe (.ref a) s'
theorem Inv.landC{X:Cx}{pins:List (Addr×Obj)}{σ:St}{H H':Hp}{s s':Shared}{h' B:Heap}{ch:List Addr}(I:Inv X pins σ H s)(hch:ChOk X pins ch)(os:s'.os=s.os)(bare:AllBare s'.gens)(un:Un (frs X.stack) ch H H' s.heap s'.heap)(hok:HOk X.prog X.w H' s'.heap)
  (hB:∀b o,(H' b≠none\/(s.heap.get? b≠none/\b∉frs X.stack/\b∉ch))->s'.heap.get? b=some o->B.get? b=some o) (st:B.StaysIn h') (us:s'.heap.UpToSlots h'):Inv X pins σ H' {s' with heap:=h'}:=by
 have fr:∀b∈frs X.stack,b∉ch->∀o,s.heap.get? b=some o->∃sl,h'.get? b=some {o with slots:=sl}:=λb hb nc o e=>by
  obtain⟨sl,q⟩:=un.slot b o e (I.stkFree b hb) hb nc;obtain⟨_,o1,e1,d1⟩:=I.stack.mem hb;rw[e]at e1;cases e1;obtain⟨sl2,q2⟩:=us b _ q d1;exact⟨sl2,q2⟩
 have out:∀b o,b∉frs X.stack->b∉ch->s.heap.get? b=some o->H b=none->h'.get? b=some o:=λb o nb nc e n=>st b o (hB b o (.inr ⟨by rw[e];simp,nb,nc⟩) (un.keep b o e n nb nc))
 have J:Inv X pins σ H' {s with heap:=h',gens:=s'.gens,drawn:=s'.drawn,toks:=s'.toks}:=by
  refine I.step (g':=s'.gens) (d':=s'.drawn) (t':=s'.toks) (ch:=ch) hch (λb o nL nf nc e n=>?_) (λb o nL bf nc e n=>?_) (λb o nc e n=>un.free b o e n nc) (λb o nc e=>?_) un.tups un.frzs un.tbls (λm hm=>?_)
   (zFj hok st λb o z=>hB b o (.inl z)) bare
  .exact out b o (λz=>(qAL.mp (I.stkSub b z)).elim nL nf) nc e n
  .by_cases hb:b∈frs X.stack
   .exact fr b hb nc o e
   .exact ⟨o.slots,out b o hb nc e n⟩
  .by_cases hb:b∈frs X.stack
   .obtain ⟨sl,q⟩:=fr b hb nc o e;exact⟨_,q⟩
   .obtain ⟨o1,q⟩:=un.there b o e nc;exact⟨o1,st b o1 (hB b o1 (.inr ⟨by rw[e];simp,hb,nc⟩) q)⟩
  .have nc:X.env.locals∉ch:=λz=>(hch _ z).2.1 rfl;obtain⟨o,es,ep,ho,r⟩:=hm
   by_cases hb:X.env.locals∈frs X.stack
   .obtain ⟨sl,q⟩:=fr _ hb nc o ho;exact⟨_,es,ep,q,r⟩
   .exact ⟨o,es,ep,out _ o hb nc ho I.free,r⟩
 have e:({s' with heap:=h'}:Shared)={s with heap:=h',gens:=s'.gens,drawn:=s'.drawn,toks:=s'.toks}:=by
  cases s'
  simp only at os;subst os;rfl
 rw[e];exact J
theorem zDe.at{X:Cx}{E:St->XK}(p:zDe X E):zGn (CX1 X.prog X.w) X E:=by
 intro pins σ H s e s' I h;obtain⟨a,C,dd,H',B,rfl,fl,os,bare,un,hok,na,ng,hB,q⟩:=h;exact p pins σ H s [] a C dd H' s' I (λb z=>nomatch z) ⟨⟨B,fl,λb o z=>hB b o (z.imp id λy=>⟨y.1,y.2.1⟩)⟩,os,bare,un,hok,na,.inl ng⟩ q
section
variable{P:Program}{w:World}{K:PySem.W.Frag}{mg:Str->Option Value}{base:Heap}{N:List Str}{qual:Str}{scope:Scope}{f:Addr}{cd:Value}{A:Around}{outer:List Env}{s:Shared}{H:Hp}{E:XK}{E':St->XK}
theorem zIz(hE:∀σ c d H',E' σ c d H'->E c d H'):zDe (cxOf (CX1 P w) P w K mg base N qual scope f cd A outer s H E) E':=by
 intro pins σ H1 s1 ch a C dd H' s2 I hch h q;obtain⟨⟨B,fl,hB⟩,os,bare,un,hok,na,ng⟩:=h;have I2:Inv (cxOf (CX1 P w) P w K mg base N qual scope f cd A outer s H E) pins σ H' s2:=I.call' os un hok bare hch;refine fly_leaves I.ok.frames rfl fl λh' fl' us=>?_;have st:=fl'.1;have none0:∀b:Addr,b∉(cxOf (CX1 P w) P w K mg base N qual scope f cd A outer s H E).ex:=λb z=>nomatch z
 have oldB:∀b o,(H' b≠none\/(s.heap.get? b≠none/\b∉frs outer))->s2.heap.get? b=some o->B.get? b=some o:=λb o hc e=>by
  refine hB b o ?_ e;rcases hc with z|⟨z1,z2⟩
  .exact .inl z
  .cases q0:s.heap.get? b with
   |none=>exact absurd q0 z1
   |some o0=>
    obtain⟨o1,e1⟩:=I.base.there b o0 q0 (none0 b);refine .inr ⟨by rw[e1];simp,λz=>?_,λz=>?_⟩
    .rcases qAL.mp (I.stkSub b z)with y|y
     .exact absurd (qAi (qAJ q0) (by rw[y];exact I.ok.above)) (qAv _)
     .exact z2 y
    .rcases (hch b z).1 with y|y
     .exact none0 b y
     .exact absurd (qAi (qAJ q0) y) (qAv _)
 refine⟨a,C,dd,H',B,rfl,fl',I2.os,bare,zJd I2.base st us oldB (λb hb o e=>?_) (λb hb=>I.ok.frf b hb),zFj hok st λb o z=>oldB b o (.inl z),na,?_,λb o hc e=>?_,hE _ _ _ _ q⟩
 .obtain ⟨_,o',e',d⟩:=I.ok.funs.mem hb;have e':s.heap.get? b=some o':=e';rw[e]at e';cases e';exact d
 .cases q0:s.heap.get? a with
  |none=>rfl
  |some o0=>
   obtain⟨o1,e1⟩:=I.base.there a o0 q0 (none0 a);rcases ng with ng|ng
   .rw [ng]at e1;cases e1
   .rcases (hch a ng).1 with y|y
    .exact absurd y (none0 a)
    .exact absurd (qAi (qAJ q0) y) (qAv _)
 .have e:h'.get? b=some o:=e
  have:∃o2,s2.heap.get? b=some o2:=by
   rcases hc with z|⟨z1,z2⟩
   .cases q0:H' b with
    |none=>exact absurd q0 z
    |some u=>exact zC1 (hok b u q0)
   .cases q0:s.heap.get? b with
    |none=>exact absurd q0 z1
    |some o0=>exact I2.base.there b o0 q0 (none0 b)
  obtain⟨o2,e2⟩:=this;have e3:=oldB b o2 hc e2;rw[st b o2 e3]at e
  cases e
  exact e3
end
section
variable{X:Cx}
theorem ps_tryF{body:List Stmt}{b₀:Stmt}{suite:List Stmt}{cx n:Str}{np hpos pos:Pos}{i:Nat}{Cb:Addr}{tb:(St->XK)->TS}{th:Addr->TS}(hex:X.ex=[])(hstk:X.stack=X.env::X.outer)(hfr:X.env.frame=some X.env.locals)(hc:X.calm=true)(hN:X.N.Nodup)(hi:X.N[i]?=some n)(hl:X.env.kindOf n=some .local)
  (hg:Gl X cx) (hm:X.mg cx=some (.ref Cb)) (qb:excB X.K Cb=true) (hb:∀pl ξ E,zDe (X.tb pl ξ) E->PassesOwn (model X.prog X.w) X.A X.env ξ->PSs (X.tb pl ξ) body (tb E)) (hh:∀a,PSs (X.hnd a) (b₀::suite) (th a))
  (hd:(cx==("__debug__": Str))=false:=by decide):PS X (.Try body [.ExceptHandler (some (.Name cx np)) (some n) (b₀::suite) hpos] [] [] pos) (tTry X.K Cb i tb th):=by
 intro pins s σ H D I h;have hk:X.calm=true->X.A.handled=none:=I.ok.hd;refine wpAny_Try_except ?_;refine qAs (hb pins _ _ ?_ ?_ [] s σ H D I.to_tb h) (λf s1 q=>?_) λe s1 q=>q
 rotate_left
 .exact PassesOwn.looking
 .have q:=sp_tb q
  cases f with
  |next=>exact qCd q
  |brk=>exact q
  |cont=>exact q
  |ret u=>exact q
 intro pins' σ1 H1 s1 ch a C dd H' s2 I1 hch hx hE;obtain⟨⟨B,fl,hB⟩,os,bare,un,hok,na,ng⟩:=hx;obtain⟨C1,ec,qc,sub,th1⟩:=hE
 cases ec
 have fl:FlD B (X.env::X.outer) a (.ref C) dd s2.heap:=by rw[<-hstk];exact fl
 have frm:X.A.frames=some (X.env::X.outer):=by rw[<-hstk];exact I.ok.frames
 refine fly_looks frm hfr fl λh4 held us4=>?_;refine zGh held λh5 fl5 us5 _=>?_;have J5:Inv X pins σ1 H' {s2 with heap:=h5}:=(I1.landC hch os bare un hok hB fl5.1 (us4.trans us5)).of_tb;obtain⟨ob,hob,hobc,_⟩:=fl5.there;refine wpAny_handleBy_cons (codeAny_handlers_test (zC2 (X:=X.hnd a) J5.to_hnd hg hm ?_ hd)) (by intro z;cases z);obtain⟨bm,N,nm,qn,bs,hdct,sn,sub0,ab,col,dj,k0,k1,k2,k3,k5,hC,T,e1⟩:=zGo J5.kIn qc;obtain⟨bm2,N2,nm2,qn2,bs2,hdct2,sn2,sub2,ab2,col2,dd2,j0,j1,j2,j3,j5,hC2,T2,_⟩:=zGo J5.kIn qb;refine match_own hC hC2 hob hobc (by rw[List.contains_cons,T2.hasType (X:="BaseException") (b:=true) (by decide +kernel),Bool.or_true]) (r:=true) (by rw[<-e1];exact sub) ?_;refine codeAny_handlers_suite_as (zGh fl5 λh6 fl6 us6 _=>?_);have J6:Inv X pins σ1 H' {s2 with heap:=h6}:=(I1.landC hch os bare un hok hB fl6.1 ((us4.trans us5).trans us6)).of_tb
 have new:∀b o,s1.heap.get? b=some o->b∉ch->b≠a:=λb o e nc z=>by
  subst z;rcases ng with ng|ng
  .rw [ng]at e;cases e
  .exact nc ng
 have J7:Inv X pins σ1 (upd H' a (excD a C dd)) {s2 with heap:=h6}:=J6.track na (by
   cases q0:X.s₀.heap.get? a with
   |none=>rfl
   |some o0=>
    obtain⟨o1,e2⟩:=I1.base.there a o0 q0 (by show a∉X.ex;rw[hex];simp);rcases ng with ng|ng
    .rw [ng]at e2;cases e2
    .rcases (hch a ng).1 with y|y
     .have y:a∈X.ex:=y;rw[hex]at y;cases y
     .exact absurd (qAi (qAJ q0) y) (qAv _))
  (by obtain⟨m,⟨o,_,_,ho,_⟩,_⟩:=I1.loc;exact qAV (new _ o ho λz=>(hch _ z).2.1 rfl))
  (λx c e=>by obtain⟨v,o,ho,_⟩:=I1.cell x c e;exact new _ o ho λz=>(hch _ z).2.2.1 x c e rfl)
  (λp hp=>new _ _ (I1.pin p (qAo _ hp)).1 λz=>(hch _ z).2.2.2 p (qAo _ hp) rfl) (excD_ok fl6.there)
 refine zF8 (v:=.ref a) (u:=.ref a) J7 hN hi (.inl hl) rfl (λs7 I7=>?_) (.inr hl);refine qAs (hh a pins s7 _ _ _ I7.to_hnd (th1 a na)) (λf s8 q8=>?_) λ_ _ z=>z.elim
 cases f with
 |next=>obtain⟨σ8,H8,I8,q⟩:=q8;exact zFh (I8.of_hnd hk) hN hi hl λs9 I9=>⟨_,H8,I9,q⟩
 |brk=>obtain⟨σ8,H8,I8,q⟩:=q8;exact zFh (I8.of_hnd hk) hN hi hl λs9 I9=>⟨_,H8,I9,q⟩
 |cont=>obtain⟨σ8,H8,I8,q⟩:=q8;exact zFh (I8.of_hnd hk) hN hi hl λs9 I9=>⟨_,H8,I9,q⟩
 |ret u=>obtain⟨v,σ8,H8,I8,r,q⟩:=q8;exact zFh (I8.of_hnd hk) hN hi hl λs9 I9=>⟨v,_,H8,I9,r,q⟩
end
def tCallF(sp:Sp)(E:St->XK)(t:TA):TE:=λσ H Q=>t σ H λvs H1=>sp vs H1 Q (E σ)
structure CalX(P:Program)(w:World)(K:PySem.W.Frag)(mg:Str->Option Value)(base:Heap)(x:Str)(k:Nat)(ps:List Str)(sp:Sp):Prop where
 to:∃(f:Addr)(fd:FuncData),mg x=some (.ref f)/\PySem.W.keepIn K (.ref f)=true/\zCe K fd ps []/\FnOk P w K mg base (CX1 P w) k f fd ps sp
theorem zC8{X:Cx}{x:Str}{k:Nat}{ps:List Str}{sp:Sp}{E:St->XK}{e:Expr}{es:List Expr}{p pos:Pos}{t:TA}(C:CalX X.prog X.w X.K X.mg X.base x k ps sp)(hr:Room k X.A)(hg:Gl X x)(hp:zDe X E)(ha:PA X (e::es) t)
  (hdb:(x==("__debug__": Str))=false:=by decide) (he:starEach (e::es) X.env=(false,eval e X.env)::starEach es X.env:=by rfl) (hpl:(backTo pos (starEach es X.env)).any (·.1)=false:=by rfl) :
  PE X (.Call (.Name x p) (e::es) [] pos) (tCallF sp E t):=by
 obtain⟨f,fd,h1,h2,h3,h4⟩:=C.to;exact pe_callX h4 hr hg h1 h2 h3 hp.at ha hdb he hpl
section
variable{X:Cx}
theorem strs_all(as bs:List Str)(h:as.length=bs.length):((List.range as.length).all λj=>eqV ((as.map V.str).getD j .non) ((bs.map V.str).getD j .non))=decide (as=bs):=by
 rw[qBk,qA4,qBs];constructor
 .intro q;refine List.ext_getElem h λj h1 h2=>?_;have:=q j (qAw.mpr h1);simp[eqV,h1,h2]at this;exact this
 .rintro rfl j hj;have hj:=qAw.mp hj;simp[eqV,hj]
theorem flat_items{A:Around}{s:Shared}{xs ys:List V}{its its2:List Value}(r:Vals xs its)(r2:Vals ys its2)(fx:xs.all zDm=true)(fy:ys.all zDm=true)(hl:xs.length=ys.length) :
  ∀j (h1:j<its.toArray.size) (h2:j<its2.toArray.size),SeqAt.EqAt A s its.toArray[j] its2.toArray[j] (eqV (xs.getD j .non) (ys.getD j .non)):=λj h1 h2=>by
 have e1:=r.length;have e2:=r2.length;rw[qAK]at h1 h2;have hjx:xs[j]?=some (xs[j]'(by lia)):=by simp
 have hjy:ys[j]?=some (ys[j]'(by lia)):=by simp
 obtain⟨u1,q1,ru1⟩:=r.get hjx;obtain⟨v1,q2,rv1⟩:=r2.get hjy
 have e3:its.toArray[j]=u1:=by
  have:its[j]?=some its[j]:=by simp
  rw[this]at q1;simpa using q1
 have e4:its2.toArray[j]=v1:=by
  have:its2[j]?=some its2[j]:=by simp
  rw[this]at q2;simpa using q2
 rw[e3,e4];have g1:xs.getD j .non=xs[j]'(by lia):=by rw[qAx,hjx];rfl
 have g2:ys.getD j .non=ys[j]'(by lia):=by rw[qAx,hjy];rfl
 rw[g1,g2];exact eqAt_V ru1 rv1 (qA4.mp fx _ (qBD _)) (qA4.mp fy _ (qBD _))
def rStrs(K:PySem.W.Frag)(neg:Bool):R2:=λx y H Q=>∃(a c:Addr)(as bs:List Str),x= .ref a/\y= .ref c/\SqL K H a (as.map V.str)/\SqL K H c (bs.map V.str)/\Q (.bl (if neg then !decide (as=bs)else decide (as=bs))) H
theorem flatS(ns:List Str):(ns.map V.str).all zDm=true:=by simp[zDm]
theorem op_eqS(hu:X.A.units<cLine):OpR X (compareOp .Eq) (rStrs X.K false):=by
 intro pins s σ H x y v u Q I rx ry h;obtain⟨a,c,as,bs,rfl,rfl,hx,hy,q⟩:=h
 cases rx
 cases ry
 obtain⟨its,r,pl,hz⟩:=I.list hx;obtain⟨its2,r2,pl2,hz2⟩:=I.list hy;have e1:=r.length;have e2:=r2.length;rw[qAE]at e1 e2
 by_cases hl:as.length=bs.length
 .refine SeqAt.eq_listAt (e:=λj=>eqV ((as.map V.str).getD j .non) ((bs.map V.str).getD j .non)) pl.isList pl2.isList (by rw[qAK,qAK];lia) hu (flat_items r r2 (flatS as) (flatS bs) (by simpa using hl)) ?_;rw[qAK,<-e1,strs_all as bs hl];exact⟨.bl _,H,I,rfl,q⟩
 .rw [qAB (by simp),qAO (λz=>hl (by rw[z]))]at q;exact SeqAt.eq_list_lengthsAt pl.isList pl2.isList (by rw[qAK,qAK];simp;lia) hu ⟨.bl false,H,I,rfl,q⟩
end
theorem cut_to(xs:List V){b:Int}(h:0<=b):cutV xs none (some b)=xs.take b.toNat:=by
 obtain⟨k,rfl⟩:∃k:Nat,b=k:=⟨b.toNat,by lia⟩;unfold cutV;rw[HT.sIx_nat,HT.sIx_none,List.drop_zero,Nat.sub_zero];show xs.take (min k xs.length)=xs.take k;rw[List.take_eq_take_min (i:=k)]
theorem zJl(xs:List V){b:Int}(h:0<=b):cutV xs (some b) none=xs.drop b.toNat:=by
 obtain⟨k,rfl⟩:∃k:Nat,b=k:=⟨b.toNat,by lia⟩;unfold cutV;rw[HT.sIx_nat,HT.sIx_none];show(xs.drop (min k xs.length)).take (xs.length-min k xs.length)=xs.drop k;rw[qBQ (by rw[qBN];lia)]
 by_cases z:k<=xs.length
 .rw [Nat.min_eq_left z]
 .rw [Nat.min_eq_right (by lia),qDT (by lia),qDT (by lia)]
theorem one_in(x:Str)(c:Nat):(!(Builtin.Str.occurrences x ⟨#[c]⟩ 0 x.length 1).isEmpty)=decide (c∈x.cps.toList):=StrLaws.found_one x c
open AutoSeq1 (wpAny_loadPart')
def notStar:Expr->Bool
 | .Starred ..=>false
 |_=>true
theorem star_cons{e:Expr}{es:List Expr}{env:Env}(h:notStar e=true):starEach (e::es) env=(false,eval e env)::starEach es env:=by
 cases e<;>first|rfl|cases h
open PySem.W in
open PySem.W in
theorem zB7{K:PySem.W.Frag}{C:Addr}{v:Value}(h:mroIn K C v=some true):(mroK K C).contains v=true:=by
 unfold mroIn clsIn at h;unfold mroK;split at h
 .rename_i e;rw[Option.bind_some]at h;split at h
  .cases h
  .rw [e];injection h
 .cases h
end L2
namespace L2
open PySem PySem.Spec PyProof.Rows PySem.W
variable{H:Hp}{a:Addr}
section
variable{prog:Program}{w:World}{A:Around}{E:Value->Shared->Prop}{h:Heap}{g:Array GenState}{d:Drawn}{t:Nat}{os:OsState}{K:Frag}{C f:Addr}{rest:List Value}
theorem exc_init{Q:Fin->Shared->Prop}(X:K.In h)(q:excB K C=true)(hi:findIn K (.ref C) "__init__"=some (some (.ref f)))(hf:typeIn K (.ref f)=some (.type "function"))(hr:rest.length<=sizeLine)
  (hq:∀h' e,h.objs.size<=e->Heap.MadeExcOf h h' e (.ref C) rest->wpAny (model prog w) A (call (.ref f) (.ref e::rest)) (λr s'=>r= .none/\Q (.done (.ret (.ref e))) s') E ⟨h',g,d,t,os⟩) :
  wpAny (model prog w) A (Builtin.«type.__call__» ⟨.ref C::rest,[]⟩) Q E ⟨h,g,d,t,os⟩:=by
 obtain⟨bm,N,nm,qn,bs,hdct,sn,sub,ab,col,dd,k0,k1,k2,k3,k5,hC,T,_⟩:=zGo X q;have FV:=qCX
 repeat (first|with_reducible refine qB9 hC ?_|with_reducible refine wpAny_madeBy_exc hC ?_|wp_step)
 refine codeAny_call_builtin_code (qDD _ FV.quiet) (wpAny_check_new_subU FV (by decide +kernel) T hC (codeAny_exc_new_subU FV (by decide +kernel) FV T hC ?_ hr));show wpAny _ _ _ _ _ _;generalize ho1:({cls:=.type "tuple",data:=.seq rest.toArray}:Obj)=o1;generalize ho2:({cls:=.ref C,data:=.fields #[.ref h.objs.size,.none,.none,.none,.bool false,.none]}:Obj)=o2;have kp:∀b o,h.get? b=some o->((h.push o1).push o2).get? b=some o:=λb o e=>qAI _ (qAI _ e);have X1:K.In ((h.push o1).push o2):=λb o e=>kp b o (X b o e);have hC1:=kp _ _ hC;have ge:((h.push o1).push o2).get? (h.objs.size+1)=some o2:=Heap.get?_push_at (qBU _ _).symm (by rw[<-ho2];rfl);have c2:o2.cls= .ref C:=by rw[<-ho2]
 have cC:(Value.ref C::bm).contains (.ref C)=true:=by simp
 unfold isInstance
 repeat (first|(with_reducible refine qB9 ge ?_;rw[c2])|(with_reducible refine qDI hC1 ?_;rw[cC])|wp_step)
 show wpAny _ _ (typeLookup (.ref C) _) _ _ _;have mk:Heap.MadeExcOf h ((h.push o1).push o2) (h.objs.size+1) (.ref C) rest:=⟨kp,qC1 (qBc _),h.objs.size,by rw[ge,<-ho2],qC1 (qAG _),by rw[qAI o2 (Heap.get?_push_at (h:=h) (o:=o1) rfl (by rw[<-ho1];rfl)),<-ho1]⟩;refine(qCA X1 hi).here (show wpAny _ _ (holding _ _) _ _ _ from ?_);refine qAk (qAA ((bind_fn X1 (.ref (h.objs.size+1)) hf).here (show wpAny _ _ (call (.ref f) (.ref (h.objs.size+1)::rest) >>= _) _ _ _ from ?_)));refine qAA (qAs (hq _ _ (qBc _) mk) (λr s' hr=>?_) λ_ _ x=>x);obtain⟨rfl,hQ⟩:=hr
 wp_walk
 exact hQ
theorem exc_call{Q:Value->Shared->Prop}(X:K.In h)(q:excB K C=true)(hi:findIn K (.ref C) "__init__"=some (some (.ref f)))(hf:typeIn K (.ref f)=some (.type "function"))(hr:rest.length<=sizeLine)
  (hq:∀h' e,h.objs.size<=e->Heap.MadeExcOf h h' e (.ref C) rest->wpAny (model prog w) (A.under (.builtin "type.__call__" ⟨.ref C::rest,[]⟩)) (call (.ref f) (.ref e::rest)) (λr s'=>r= .none/\Q (.ref e) s') E ⟨h',g,d,t,os⟩) :
  wpAny (model prog w) A (call (.ref C) rest) Q E ⟨h,g,d,t,os⟩:=by
 obtain⟨bm,N,nm,qn,bs,hdct,sn,sub,ab,col,dd,k0,k1,k2,k3,k5,hC,T,_⟩:=zGo X q;have f1:=tc_lookup;have f2:=tc_bind (.ref C);have hT:(⟨h,g,d,t,os⟩:Shared).TypeIs (.ref C) "type":= ⟨_,hC,rfl⟩;refine qBI (codeAny_of_tree (show wpAny _ _ (callAny (.ref C) _) _ _ _ from ?_))
 repeat (any_goals (first|assumption|with_reducible refine qB9 hC ?_|wp_step))
 exact⟨rfl,codeAny_call_builtin_at (qDD _ (by decide +kernel)) entry_typeCall (wpAny_check_type_call_sub hC (exc_init X q hi hf hr hq))⟩
end
section
variable{M:Model}{A:Around}{E:Value->Shared->Prop}{s:Shared}{K:Frag}{C:Addr}{env:Env}
theorem raise_own{x:Sem Value}{Q:Flow->Shared->Prop}(q:excB K C=true)(hh:A.handled=none)
  (h:wpAny M A x (λv s1=>∃e o vs,v= .ref e/\K.In s1.heap/\s1.heap.get? e=some o/\o.cls= .ref C/\o.data= .fields vs/\vs[1]?=some .none/\E (.ref e) s1) E s):wpAny M A (raiseStmt env (some x) none) Q E s:=by
 unfold raiseStmt;refine qAA (qAs h (λv s1 h1=>?_) λ_ _ z=>z);obtain⟨e,o,vs,rfl,X,he,hc,hd,h1,hE⟩:=h1;obtain⟨bm,N,nm,qn,bs,hdct,sn,sub,ab,col,dd,k0,k1,k2,k3,k5,hC,T,_⟩:=zGo X q;have cB:(Value.ref C::bm).contains (.type "BaseException")=true:=by rw[List.contains_cons,T.hasType (X:="BaseException") (b:=true) (by decide +kernel),Bool.or_true]
 obtain⟨hp,g,d,tk,os⟩:=s1;obtain⟨o1,o2,o3,o4⟩:=o;have hc:o1= .ref C:=hc;have hd:o3= .fields vs:=hd;subst hc hd
 repeat (first|with_reducible refine qB9 he ?_|with_reducible refine qB9 hC ?_|(with_reducible refine qDI hC ?_;rw[cB])|with_reducible refine qCW he rfl h1 ?_|wp_step)
 exact wpAny_raiseNew_none hh hE
end
def excN(a C:Addr)(dd:Option Addr):HO:=.ext λh=>∃o vs,h.get? a=some o/\o.cls= .ref C/\o.dict=dd/\o.data= .fields vs/\vs.size=6/\vs[1]?=some .none/\vs[2]?=some .none
theorem zJj{P:Program}{w:World}{h:Heap}{C:Addr}{dd:Option Addr}(x:∃o vs,h.get? a=some o/\o.cls= .ref C/\o.dict=dd/\o.data= .fields vs/\vs.size=6/\vs[1]?=some .none/\vs[2]?=some .none):zAz P w H h a (excN a C dd):=by
 obtain⟨o,vs,e,c⟩:=x;exact⟨⟨o,vs,e,c⟩,⟨o,e⟩,λh1 h2 ⟨o1,v1,e1,c1⟩ k=>⟨o1,v1,k o1 e1,c1⟩⟩
def del(H:Hp)(a:Addr):Hp:=λb=>if b=a then none else H b
theorem del_same :del H a a=none:=qAC rfl
theorem zCm{b:Addr}(h:b≠a):del H a b=H b:=qAB h
theorem zJk{b:Addr}{o:HO}(h:del H a b=some o):b≠a/\H b=some o:=by
 by_cases z:b=a
 .rw [z,del_same]at h;cases h
 .exact ⟨z,by rw[zCm z]at h;exact h⟩
section
variable{X:Cx}{pins:List (Addr×Obj)}{σ:St}{H:Hp}{s:Shared}
theorem Inv.untrack{φ:Heap->Prop}(I:Inv X pins σ H s)(e:H a=some (.ext φ)):Inv X pins σ (del H a) s:=by
 have less:∀b,H b=none->del H a b=none:=λb z=>by by_cases y:b=a<;>simp[del,y,z]
 have tup:∀b xs,H b=some (.tup xs)->del H a b=some (.tup xs):=λb xs z=>by rw[zCm (zBf z e λy=>nomatch y)];exact z
 refine⟨I.ok,I.os,I.bare,⟨I.base.keep,I.base.slot,λb u z m hx=>less b (I.base.free b u z m hx),I.base.there,λb xs z=>tup b xs (I.base.tups b xs z),λb u v z=>?_,λb ps z=>?_⟩,I.loc,I.cell,less _ I.free,λx c z=>less c (I.freeC x c z),λp q=>?_,λb u z=>?_,I.len⟩
 .have h1:=I.base.frzs b u v z;rw[zCm (zBf h1 e λy=>nomatch y)];exact h1
 .obtain ⟨more,h1⟩:=I.base.tbls b ps z;exact⟨more,by rw[zCm (zBf h1 e λy=>nomatch y)];exact h1⟩
 .obtain ⟨p1,p2,p3⟩:=I.pin p q;exact⟨p1,less _ p2,p3⟩
 .obtain ⟨_,z⟩:=zJk z;exact(I.hok b u z).stay (λ_ _ _ q=>q) (λc q=>by rw[zCm (zBf q e λy=>nomatch y)];exact q) tup
end
def zJr(X:Cx)(C:Addr)(E:XK):Prop:=∀(pins:List (Addr×Obj)) (σ:St) (H:Hp) (s:Shared) (e:Addr) (dd:Option Addr),Inv X pins σ H s->X.s₀.heap.get? e=none->H e=some (excN e C dd)->E (.ref C) dd (del H e)->X.xe (.ref e) s
theorem raiseD{P:Program}{w:World}{K:Frag}{mg:Str->Option Value}{base:Heap}{N:List Str}{qual:Str}{scope:Scope}{f C:Addr}{cd:Value}{A:Around}{outer:List Env}{s:Shared}{E:XK}:zJr (cxOf (CX1 P w) P w K mg base N qual scope f cd A outer s H E) C E:=by
 intro pins σ H1 s1 e dd I n0 he q;have n0:s.heap.get? e=none:=n0;have I2:=I.untrack he;obtain⟨⟨o,vs,g1,g2,g3,g4,_,g5,g6⟩,_⟩:=(show zAz _ _ _ _ _ (excN e C dd)from I.hok e _ he);subst g3;generalize hst:(cxOf (CX1 P w) P w K mg base N qual scope f cd A outer s H E).stack=stk at *
 have Bg:∀b,(part s1.heap λb=>decide (b∉frs stk/\b≠e)).get? b=if b∉frs stk/\b≠e then s1.heap.get? b else none:=λb=>by rw[zGf];simp
 have st0:(part s1.heap λb=>decide (b∉frs stk/\b≠e)).StaysIn s1.heap:=λb o z=>by
  rw[Bg]at z;split at z
  .exact z
  .cases z
 have fr:=I.stack;rw[hst]at fr;refine fly_first (B:=part s1.heap λb=>decide (b∉frs stk/\b≠e)) I.ok.frames (by show s1.heap.FunFrames _ (cxOf (CX1 P w) P w K mg base N qual scope f cd A outer s H E).stack;rw[hst];exact zJh fr λb hb=>by rw[Bg,qAB (λz=>z.1 hb)]) rfl g1 st0 (by rw[Bg,qAB (λz=>z.2 rfl)]) g4 g5 g6 λh2 fl us=>?_;rw[g2]at fl;have st:=fl.1
 have stkS:∀b,b∈frs stk->s.heap.get? b≠none->b∈frs outer:=λb z y=>by
  rcases qAL.mp (I.stkSub b (by rw[hst];exact z))with x|x
  .cases q0:s.heap.get? b with
   |none=>exact absurd q0 y
   |some o0=>exact absurd (qAi (qAJ q0) (by rw[x];exact I.ok.above)) (qAv _)
  .exact x
 have old:∀b o,(del H1 e b≠none\/(s.heap.get? b≠none/\b∉frs outer))->s1.heap.get? b=some o->(part s1.heap λb=>decide (b∉frs stk/\b≠e)).get? b=some o:=λb o hc eo=>by
  rw[Bg,qAC]
  .exact eo
  .rcases hc with y|⟨y1,y2⟩
   .cases z:del H1 e b with
    |none=>exact absurd z y
    |some u=>
     obtain⟨z1,z2⟩:=zJk z;exact⟨λx=>(by have:=I.stkFree b (by rw[hst];exact x);rw[this]at z2;cases z2),z1⟩
   .exact ⟨λx=>y2 (stkS b x y1),λx=>y1 (by rw[x];exact n0)⟩
 refine⟨e,C,o.dict,del H1 e,_,rfl,fl,I.os,I.bare,zJd I2.base st us old (λb hb o eo=>?_) (λb hb=>I.ok.frf b hb),zFj I2.hok st λb o z=>old b o (.inl z),del_same,n0,λb o hc eo=>?_,q⟩
 .obtain ⟨_,o',e',d⟩:=I.ok.funs.mem hb;have e':s.heap.get? b=some o':=e';rw[eo]at e';cases e';exact d
 .have eo:h2.get? b=some o:=eo
  have:∃o2,s1.heap.get? b=some o2:=by
   rcases hc with z|⟨z1,z2⟩
   .cases q0:del H1 e b with
    |none=>exact absurd q0 z
    |some u=>exact zC1 (I2.hok b u q0)
   .cases q0:s.heap.get? b with
    |none=>exact absurd q0 z1
    |some o0=>exact I.base.there b o0 q0 (by exact λz=>nomatch z)
  obtain⟨o2,e2⟩:=this;have e3:=old b o2 hc e2;rw[st b o2 e3]at eo
  cases eo
  exact e3
structure MkX(K:Frag)(C f:Addr):Prop where
 exc:excB K C=true
 init:findIn K (.ref C) "__init__"=some (some (.ref f))
 fn:isFn K (.ref f)=true
 kp:keepIn K (.ref C)=true
def sRaiseI(E:XK)(C:Addr)(sp:Sp)(t:TA):TS:=λ_ σ H=>t σ H λvs H1=>vs.length<=sizeLine/\∀e,H1 e=none->sp (.ref e::vs) (upd H1 e (excN e C none)) (λv H2=>v= .non/\∃dd,H2 e=some (excN e C dd)/\E (.ref C) dd (del H2 e)) E0
section
variable{X:Cx}{E:XK}{C f:Addr}{CX:CXT}{k:Nat}{fd:FuncData}{ps:List Str}{sp:Sp}{x:Str}{np cpos pos:Pos}{a:Expr}{es:List Expr}{t:TA}
theorem ps_raiseI(hx:zJr X C E)(hc:X.calm=true)(hg:Gl X x)(hm:X.mg x=some (.ref C))(M:MkX X.K C f)(F:FnOk X.prog X.w X.K X.mg X.base CX k f fd ps sp)(hr:Room (k+1) X.A)(hb:zCe X.K fd ps [])(hp:zHo CX X E0)(ha:PA X (a::es) t)
  (hd:(x==("__debug__": Str))=false:=by decide) (he:starEach (a::es) X.env=(false,eval a X.env)::starEach es X.env:=by rfl) (hpl:(backTo cpos (starEach es X.env)).any (·.1)=false:=by rfl) :
  PS X (.Raise (some (.Call (.Name x np) (a::es) [] cpos)) none pos) (sRaiseI E C sp t):=by
 intro pins s σ H D I h;rw[arm_exec_Raise];refine qAA (qBw (raise_own M.exc (I.ok.hd hc) (qAA (qAs (qBa (zC2 I hg hm ?_ hd)) (λv s3 h3=>qAA (qBw (qAD h3))) λ_ _ z=>z))));refine callWith_K (h₀:=X.base) I.ok.mod.kin M.kp (thn (ha cpos pins s σ H _ I h) λus s1 ⟨vs,H1,I1,r,z,q⟩=>⟨I1.kIn,?_⟩) he hpl;obtain⟨h1,g1,d1,t1,os1⟩:=s1;refine exc_call I1.kIn M.exc M.init (qA7.mp M.fn) (show us.length<=sizeLine by rw[<-r.length];exact z) λh' e le mk=>?_;have fe:H1 e=none:=I1.hok.fresh le;obtain⟨t0,ge,_,_⟩:=mk.there;have I2:Inv X pins σ (upd H1 e (excN e C none)) ⟨h',g1,d1,t1,os1⟩:=I1.laid (h':=h') (t':=t1) mk.keeps le (zJj ⟨_,_,ge,rfl,rfl,rfl,rfl,rfl,rfl⟩);have hq:=q e fe;have r2:Vals (V.ref e::vs) (Value.ref e::us):=.cons rfl r;have hl:(Value.ref e::us).length=ps.length:=by rw[<-r2.length];exact F.len _ _ _ _ hq
 have bd:=hb ⟨h',g1,d1,t1,os1⟩ (Value.ref e::us) I2.kIn (by rw[qAu];exact hl);rw[qAu]at bd;refine qBI (qBV (F.run _ X.stack _ _ ⟨Value.ref e::us,[]⟩ _ _ _ _ (hr.make C us []) (I2.env0.make C us []) bd r2 hq) λrr s' hq'=>?_)
 cases rr with
 |error y=>exact hp pins σ _ _ y s' I2 hq'
 |ok fl=>
  cases fl with
  |ret u=>
   obtain⟨v,H',I3,rv,ev,dd,e3,q3⟩:=I2.after hq';subst ev;obtain⟨⟨o,ws,y1,y2,y3,y4,y5,y6,y7⟩,_⟩:=(show zAz _ _ _ _ _ (excN e C dd)from I3.hok e _ e3);refine⟨rv,e,o,ws,rfl,I3.kIn,y1,y2,y4,y6,hx pins σ H' s' e dd I3 (qC1 (qAf I1.sz le)) e3 q3⟩
  |next=>exact False.elim hq'
  |brk=>exact False.elim hq'
  |cont=>exact False.elim hq'
end
structure InitX(K:Frag)(B:Addr):Prop where
 ga:specialIn K (.ref B) "__getattribute__"=some (some (.builtin "type.__getattribute__"))
 rd:readsIn K B (.type "type")=true
 fi:findCls K (.ref B) (.type "type") "__init__"=some (.val (.builtin "ValueError.__init__"))
theorem upd_id{o:HO}(h:H a=some o):upd H a o=H:=by
 funext b;unfold upd;split
 .rename_i e;rw[e,h]
 .rfl
section
variable{prog:Program}{w:World}{A:Around}{E:Value->Shared->Prop}{s:Shared}{K:Frag}{e C:Addr}{o:Obj}{vs:Array Value}
theorem base_init{rest:List Value}{Q:Value->Shared->Prop}(X:K.In s.heap)(q:excB K C=true)(he:s.heap.get? e=some o)(hc:o.cls= .ref C)(hd:o.data= .fields vs)(hz:vs.size=6)(hr:rest.length<=sizeLine)
  (h:∀h' x,h'.get? e=some (o.mapFields (·.setIfInBounds 0 x))->(∀b u,b≠e->s.heap.get? b=some u->h'.get? b=some u)->Q .none {s with heap:=h'}) :
  wpAny (model prog w) A (call (.builtin "ValueError.__init__") (.ref e::rest)) Q E s:=by
 obtain⟨bm,N,nm,qn,bs,hdct,sn,sub,ab,col,dd,k0,k1,k2,k3,k5,hC,T,_⟩:=zGo X q;have FV:=qCX;obtain⟨h0,g,d,t,os⟩:=s;refine qBI (qB5 FV.init.plain FV.initEntry (wpAny_check_init_subU FV T hC he hc ?_));unfold Builtin.«BaseException.__init__»;dsimp only;rw[qAB (by simp)];unfold newTuple Builtin.BaseException.bexcPut;have sz:0<vs.size:=by rw[hz];decide
 have e1:(h0.push {cls:=.type "tuple",data:=.seq rest.toArray}).get? e=some o:=qAI _ he;refine qAA (qBm (qAA (qAA (qCW e1 hd (qB4 sz) (qAA (qBE e1 hd sz ?_))))) (show rest.toArray.size<=sizeLine by simpa using hr))
 have fin:=h ((h0.push {cls:=.type "tuple",data:=.seq rest.toArray}).update e (Obj.mapFields (·.setIfInBounds 0 (.ref h0.objs.size)))) (.ref h0.objs.size)
  (qA2 _ e1 (qBT (qAp hd _))) λb u hb z=>(qBW _ _ (qAV hb)).trans (qAI _ z)
 split
 .exact wpAny_letGo (qAD fin)
 .exact qAD (qAD fin)
end
def tBase(K:Frag)(t:TA):TE:=λσ H Q=>t σ H λvs H1=>∃e C dd v,vs=[.ref e,v]/\H1 e=some (excN e C dd)/\excB K C=true/\Q .non H1
section
variable{X:Cx}{B:Addr}{x:Str}{np apos pos:Pos}{a:Expr}{es:List Expr}{t:TA}{pl:Sem Bool}
theorem zIy(M:InitX X.K B)(hg:Gl X x)(hm:X.mg x=some (.ref B))(ha:PA X (a::es) t)(hd:(x==("__debug__": Str))=false:=by decide)(he:starEach (a::es) X.env=(false,eval a X.env)::starEach es X.env:=by rfl)(hpl:(backTo pos (starEach es X.env)).any (·.1)=false:=by rfl)
  (ht:eval (.Call (.Attribute (.Name x np) "__init__" apos) (a::es) [] pos) X.env=(do
   let ov<-eval (.Name x np) X.env
   standAt apos.atName
   let(f,first)<-holding [ov] (getMethod ov "__init__" pl)
   callWith pos f first (backTo pos (starEach (a::es) X.env)) (backToKw pos (keywordEach [] X.env))):=by rfl) :
  PE X (.Call (.Attribute (.Name x np) "__init__" apos) (a::es) [] pos) (tBase X.K t):=by
 intro pins s σ H Q I h;refine methodCall_KW (pl:=pl) (zC2 I hg hm (method_cls I.kIn M.ga (cls_value I.kIn M.rd M.fi rfl ?_)) hd) ht;refine callWith_builtin1 (thn (ha pos pins _ σ H _ (I.tok _) h) λus s1 ⟨vs,H1,I1,r,e,C,dd,v,ev,e1,q,q1⟩=>?_) he hpl;subst ev;obtain⟨u1,u2,rfl,r1,r2⟩:=r.two
 cases r1
 obtain⟨⟨o,ws,g1,g2,g3,g4,g5,g6,g7⟩,_⟩:=(show zAz _ _ _ _ _ (excN e C dd)from I1.hok e _ e1);refine base_init I1.kIn q g1 g2 g4 g5 (show 1<=sizeLine by rw[qAS];decide) λh' y y1 y2=>⟨.non,H1,?_,rfl,q1⟩;have:=I1.write (x:=e) (e:=e) (o:=excN e C dd) (h':=h') (t':=s1.toks) (by rw[e1];exact True.intro) (.inl rfl) y2 ⟨_,y1⟩ (zJj ⟨_,_,y1,(qB8 _ _).trans g2,(dict_mf _ _).trans g3,qAp g4 _,by simp[g5],by rw[qCn (by decide)];exact g6,by rw[qCn (by decide)];exact g7⟩);rw[upd_id e1]at this;exact this
end
theorem refuse_own{h:Heap}{self:Value}{l:List Value}(T:OwnTail h bmVE l):refuseLoop self "__setattr__" l=pure ():=by
 induction T with
 |base=>exact F.store_ValueError.passes self
 |own _ _ _ _ ih=>rw[refuseLoop_ref];exact ih
section
variable{prog:Program}{w:World}{A:Around}{E:Value->Shared->Prop}{s:Shared}{K:Frag}{e C:Addr}{o:Obj}{f:Str}{v:Value}
theorem exc_set{Q:Unit->Shared->Prop}(X:K.In s.heap)(q:excB K C=true)(sa:findIn K (.ref C) "__setattr__"=some (some (.builtin "object.__setattr__")))(hh:hasDictIn K C=true)(na:findIn K (.ref C) f=some none)(hm:mroIn K C (.type "object")=some true)
  (he:s.heap.get? e=some o) (hc:o.cls= .ref C) (hdi:o.dict=none) {vs:Array Value} (hd:o.data= .fields vs)
  (h:∀h' tk,h'.get? e=some {o with dict:=some s.heap.objs.size}->h'.Ns1 s.heap.objs.size (λy=>if y=f then some v else none)->(∀b u,b≠e->s.heap.get? b=some u->h'.get? b=some u)->Q () {s with heap:=h',toks:=tk}) :
  wpAny (model prog w) A (setAttr (.ref e) f v) Q E s:=by
 obtain⟨bm,N,nm,qn,bs,hdct,sn,sub,ab,col,dd,k0,k1,k2,k3,k5,hC,T,_⟩:=zGo X q;obtain⟨cd,hk,hd'⟩:=any_some hh;have SF:=F.store_ValueError;have J:InstAt s.heap e o C none:=⟨he,hc,by unfold notCls;rw[hd],by rw[hdi];trivial⟩;refine set_plain X J sa (qB5 SF.slot.plain SF.entry ?_);have sub:Looks (model prog w) s.heap (isInstance (.ref e) (.type "object")) true:=J.type.andThen (looks_mroIn X hm);refine@check_slot (model prog w) _ _ {s with toks:=s.toks+1} "object.__setattr__" "object" "__setattr__" (.ref e) _ [] _ SF.kind SF.split sub (SF.args (.ref e) (.str f s.toks) v) ?_
 have mr:Looks (model prog w) s.heap (mroOf (.ref C)) (.ref C::bm):=λA1 Q1 E1 s1 k z=>by
  obtain⟨h1,g1,d1,t1,os1⟩:=s1;exact wpAny_mroOf_exc (k _ _ hC) z
 rw[osa_eq,refuse_eq];obtain⟨h0,g,d,t,os⟩:=s;have L0:=J.type (M:=model prog w);have L1:=qCA (M:=model prog w) X na;refine qAA (qAA (L0.at (qAA (mr.at ?_))));rw[refuseLoop_ref,refuse_own T];refine qAD (qAA (L0.at (qAA (L1.at (qAA (qAD ?_))))));show wpAny _ _ (Builtin.ObjectAttr.storeInOwnDict (.ref e) (.ref C) _ f v _) _ _ _;unfold Builtin.ObjectAttr.storeInOwnDict;refine qAA (qAD ?_);rw[qAB (by simp)];have hx:e≠h0.objs.size:=qAR (qAJ he);have e1:(h0.push {cls:=.type "dict",data:=.dict #[]}).get? e=some o:=qAI _ he;refine qAA (qAA (wpAny_loadPart he ?_));rw[hc,hdi];refine qAA ((looks_clsIn (M:=model prog w) X hk).at ?_);rw[hd'];simp only[Bool.not_true,qCu,qBz,typeHasDict,Bool.or_self,hd];refine qAA (wpAny_alloc' (qAA (wpAny_update' e1 (qAD (qAA (qAD ?_))))));generalize hh1:((h0.push {cls:=.type "dict",data:=.dict #[]}).update e λy=>{y with dict:=some h0.objs.size})=h1;have g1:h1.get? h0.objs.size=some {cls:=.type "dict",data:=.dict #[]}:=by rw[<-hh1];exact(Heap.get?_update_ne _ _ _ _ hx.symm).trans (Heap.get?_push_at rfl rfl)
 have ge:h1.get? e=some {o with dict:=some h0.objs.size}:=by
  rw[<-hh1];exact qA2 _ e1 (qBT (show({o with dict:=some h0.objs.size}:Obj).data= .fields vs from hd))
 have n1:h1.Ns h0.objs.size (λ_=>none):=⟨_,#[],_,g1,rfl,λz hz=>absurd hz (by simp),λ_=>rfl⟩;refine qAA (wpAny_nsSet1 (Heap.Ns1.of_empty n1) λh2 n2 s2=>?_);obtain⟨oD,esD,epD,z1,z2,z3⟩:=n2.count (Within.cons f v Within.nil);refine qAA (wpAny_lookBehind z1 (by rw[z2];exact pastItsLine_dict (qAf z3 (by rw[qAZ,qBX,qAS];lia))) (qAD ?_));exact h h2 _ ((s2.2 e hx).trans ge) n2 λb u hb z=>(s2.2 b (qAR (qAJ z))).trans (by rw[<-hh1];exact(Heap.get?_update_ne _ _ _ _ hb).trans (qAI _ z))
end
structure XCls(K:Frag)(C:Addr):Prop where
 exc:excB K C=true
 sa:findIn K (.ref C) "__setattr__"=some (some (.builtin "object.__setattr__"))
 hd:hasDictIn K C=true
 ob:mroIn K C (.type "object")=some true
def sFldX(K:Frag)(ta tv:TE)(f:Str):TS:=λD σ H=>tv σ H λy H1=>ta σ H1 λx H2=>∃a C,x= .ref a/\H2 a=some (excN a C none)/\XCls K C/\zDf K C f/\∀dx,H2 dx=none->D.nx σ (upd (upd H2 dx (.xd [(f,y)])) a (excN a C (some dx)))
section
variable{X:Cx}{o value:Expr}{f:Str}{pos pos':Pos}{ta tv:TE}
theorem zIu(ha:PE X o ta)(hv:PE X value tv)(hs:swapsWith value (some (.Attribute o f pos')) pos.line X.env=pure false):PS X (.Assign [.Attribute o f pos'] value pos) (sFldX X.K ta tv f):=by
 intro pins s σ H D I h;refine plainObj_wpAny_Assign_Attribute (thn (hv pins s σ H _ I h) λu s1 ⟨y,H1,I1,ry,q⟩=>thn (ha pins s1 σ H1 _ I1 q) λov s2 ⟨x,H2,I2,rx,a,C,ex,ea,c,n,q2⟩=>?_) hs;subst ex;obtain rfl:ov=Value.ref a:=rx;obtain⟨⟨ob,ws,g1,g2,g3,g4,g5,g6,g7⟩,_⟩:=(show zAz _ _ _ _ _ (excN a C none)from I2.hok a _ ea);refine exc_set I2.kIn c.exc c.sa c.hd n c.ob g1 g2 g3 g4 λh' tk y1 y2 y3=>⟨σ,_,?_,q2 s2.heap.objs.size (I2.hok.fresh (qAG _))⟩;have fr:H2 s2.heap.objs.size=none:=I2.hok.fresh (qAG _);have ne:s2.heap.objs.size≠a:=qBH (qAJ g1);refine I2.call' (ch:=[]) rfl ⟨λb u z m _ _=>y3 b u (λw=>by rw[w,ea]at m;cases m) z,λb u z m _ _=>⟨u.slots,y3 b u (λw=>by rw[w,ea]at m;cases m) z⟩,λb u z m _=>?_,λb u z _=>?_,λb xs z=>?_,λb u w z=>?_,λb ps z=>⟨#[],?_⟩⟩ (λb u z=>?_) I2.bare (λb z=>nomatch z)
 .rw [upd_ne (λw=>by rw[w,ea]at m;cases m),upd_ne (qAR (qAJ z))];exact m
 .by_cases w:b=a
  .rw [w];exact⟨_,y1⟩
  .exact ⟨u,y3 b u w z⟩
 .rw [upd_ne (zBf z ea λw=>nomatch w),upd_ne (zAi z fr)];exact z
 .rw [upd_ne (zBf z ea λw=>nomatch w),upd_ne (zAi z fr)];exact z
 .rw [Array.append_empty,upd_ne (zBf z ea λw=>nomatch w),upd_ne (zAi z fr)];exact z
 .by_cases w:b=a
  .subst w;rw[upd_same]at z;cases z;exact zJj ⟨_,ws,y1,g2,rfl,g4,g5,g6,g7⟩
  .rw [upd_ne w]at z
   by_cases w2:b=s2.heap.objs.size
   .subst w2;rw[upd_same]at z;cases z;refine⟨_,y2,λg=>?_⟩
    by_cases e:g=f
    .subst e;simp[List.lookup,RelO];exact ry
    .simp [List.lookup,qA0.mpr e,e,RelO]
   .rw [upd_ne w2]at z;refine(I2.hok b u z).stay (λc v hc w3=>y3 c v ?_ w3) (λc w3=>?_) λc xs w3=>?_
    .rcases hc with rfl|hc
     .exact w
     .exact zBf hc ea λw=>nomatch w
    .rw [upd_ne (zBf w3 ea λw=>nomatch w),upd_ne (zAi w3 fr)];exact w3
    .rw [upd_ne (zBf w3 ea λw=>nomatch w),upd_ne (zAi w3 fr)];exact w3
end
end L2
namespace L2
open PySem PySem.Spec PyProof.Rows PySem.W PySem.Builtin PySem.Builtin.ObjectAttr
section
variable{prog:Program}{w:World}{A:Around}{E:Value->Shared->Prop}{s:Shared}{K:Frag}{x C:Addr}{f:Str}{v:Value}{ox od:Obj}
theorem exc_fld{tk:Tok}{R:Result->Shared->Prop}(X:K.In s.heap)(J:InstAt s.heap x ox C (some od))(hb:mroIn K C (.type "BaseException")=some true)(hf:findObj K C (some od) f=some (.value v))(h:R (.ok (.ret v)) s) :
  codeAny (model prog w) A (.call (.builtin "BaseException.__getattribute__") ⟨[.ref x,.str f tk],[]⟩) R s:=by
 obtain⟨h0,g,d,t,os⟩:=s;have L0:=J.type (M:=model prog w);have L1:=looks_mroIn (M:=model prog w) X hb;have L2:=looks_find (M:=model prog w) X J hf;have sub:Looks (model prog w) h0 (isInstance (.ref x) (.type "BaseException")) true:=L0.andThen L1;refine qB5 (by decide +kernel) F.entry_bexc_ga (@check_slot (model prog w) _ _ ⟨h0,g,d,t,os⟩ "BaseException.__getattribute__" "BaseException" "__getattribute__" (.ref x) _ [] _ (by decide +kernel) (by decide +kernel) sub (F.args_bexc_ga (.ref x) (.str f tk)) ?_);unfold Builtin.«object.__getattribute__»;exact qAA (qAD (qAA (qAD (qAA (L0.at (qAA (L2.at (qAD h))))))))
theorem exc_attr{b:Bool}{Q:Value->Shared->Prop}(X:K.In s.heap)(J:InstAt s.heap x ox C (some od))(hb:mroIn K C (.type "BaseException")=some true)(ga:findIn K (.ref C) "__getattribute__"=some (some (.builtin "BaseException.__getattribute__")))(gn:findIn K (.ref C) "__getattr__"=some none)
  (hf:findObj K C (some od) f=some (.value v)) (hv:handedIn v=true) (h:Q v {s with toks:=s.toks+1}):wpAny (model prog w) A (getAttr (.ref x) f b) Q E s:=by
 obtain⟨h0,g,d,t,os⟩:=s;have L0:=J.type (M:=model prog w);have L1:=qCA (M:=model prog w) X ga;have L2:=qCA (M:=model prog w) X gn;have f3:=F.excAttr_ValueError.ga.bind (.ref x);unfold getAttr getAttrBy;refine qAA (wpAny_mkText (qAk (qAA (L0.at (qAA (L1.at ?_))))));show wpAny _ _ (getAttrByItsOwn _ _ _ _ _ _) _ _ _;unfold getAttrByItsOwn hookBefore;refine qAA ?_;rw[qAC (show onTheHeap (Value.ref C)=true from rfl)];refine L2.at (qAA (qCM (qAk ?_)));unfold callGetattribute;rw[qAB (by cases b<;>decide)];unfold boundAndCalled;rw[f3];refine qAA (qAD (qBI (exc_fld (s:=⟨h0,g,d,t+1,os⟩) X J hb hf ?_)));show wpAny _ _ (handedOut v) _ _ _;rw[handedOut_of hv];exact qAD h
end
structure XGet(K:Frag)(C:Addr):Prop where
 hd:hasDictIn K C=true
 be:mroIn K C (.type "BaseException")=some true
 ga:findIn K (.ref C) "__getattribute__"=some (some (.builtin "BaseException.__getattribute__"))
 gn:findIn K (.ref C) "__getattr__"=some none
def tFldX(K:Frag)(ta:TE)(f:Str):TE:=λσ H Q=>ta σ H λx H1=>∃a C dx fs v,x= .ref a/\H1 a=some (excD a C (some dx))/\H1 dx=some (.xd fs)/\XGet K C/\zDf K C f/\fs.lookup f=some v/\Q v H1
theorem zIx{X:Cx}{K:Frag}{e:Expr}{f:Str}{pos:Pos}{ta:TE}(hK:X.K=K)(he:PE X e ta)(hb:attributeBase e f X.env (eval e X.env)=eval e X.env):PE X (.Attribute e f pos) (tFldX K ta f):=by
 intro pins s σ H Q I h;subst hK;refine attr_of hb (thn (he pins s σ H _ I h) λu s1 ⟨x,H1,I1,rx,a,C,dx,fs,v,ex,ea,ed,c,n,l,q⟩=>?_);subst ex;obtain rfl:u=Value.ref a:=rx;obtain⟨⟨ob,g1,g2,g3,ws,g4,_⟩,_⟩:=(show zAz _ _ _ _ _ (excD a C (some dx))from I1.hok a _ ea);obtain⟨mA,ns,r⟩:=(show zAz _ _ _ _ _ (.xd fs)from I1.hok dx _ ed);obtain⟨od,ho,hl⟩:=lookIn_ns ns;obtain⟨u',hu,ru⟩:=RelO.some_of (v:=v) (o:=mA f) (by rw[<-l];exact r f);have no:notCls ob=true:=by unfold notCls;rw[g4]
 exact exc_attr I1.kIn ⟨g1,g2,no,by rw[g3];exact ho⟩ c.be c.ga c.gn (findObj_own c.hd n rfl (by rw[hl,hu])) (handed_of ru) ⟨v,H1,I1.tok _,ru,q⟩
end L2
namespace L2
variable{t1 t2 t3 t4 t5 t6 t7 t8:TS}
theorem hid2{D σ H}(h:let d:=D;let r2:=t2;tSeq t1 r2 d σ H):tSeq t1 t2 D σ H:=h
theorem hid3{D σ H}(h:let d:=D;let r3:=t3;let r2:=tSeq t2 r3;tSeq t1 r2 d σ H):tSeq t1 (tSeq t2 t3) D σ H:=h
theorem hid4{D σ H}(h:let d:=D;let r4:=t4;let r3:=tSeq t3 r4;let r2:=tSeq t2 r3;tSeq t1 r2 d σ H):tSeq t1 (tSeq t2 (tSeq t3 t4)) D σ H:=h
theorem hid5{D σ H}(h:let d:=D;let r5:=t5;let r4:=tSeq t4 r5;let r3:=tSeq t3 r4;let r2:=tSeq t2 r3;tSeq t1 r2 d σ H):tSeq t1 (tSeq t2 (tSeq t3 (tSeq t4 t5))) D σ H:=h
theorem hid6{D σ H}(h:let d:=D;let r6:=t6;let r5:=tSeq t5 r6;let r4:=tSeq t4 r5;let r3:=tSeq t3 r4;let r2:=tSeq t2 r3;tSeq t1 r2 d σ H):tSeq t1 (tSeq t2 (tSeq t3 (tSeq t4 (tSeq t5 t6)))) D σ H:=h
theorem hid8{D σ H}(h:let d:=D;let r8:=t8;let r7:=tSeq t7 r8;let r6:=tSeq t6 r7;let r5:=tSeq t5 r6;let r4:=tSeq t4 r5;let r3:=tSeq t3 r4;let r2:=tSeq t2 r3;tSeq t1 r2 d σ H):tSeq t1 (tSeq t2 (tSeq t3 (tSeq t4 (tSeq t5 (tSeq t6 (tSeq t7 t8)))))) D σ H:=h
theorem hid9{t9:TS}{D σ H}(h:let d:=D;let r9:=t9;let r8:=tSeq t8 r9;let r7:=tSeq t7 r8;let r6:=tSeq t6 r7;let r5:=tSeq t5 r6;let r4:=tSeq t4 r5;let r3:=tSeq t3 r4;let r2:=tSeq t2 r3;tSeq t1 r2 d σ H):tSeq t1 (tSeq t2 (tSeq t3 (tSeq t4 (tSeq t5 (tSeq t6 (tSeq t7 (tSeq t8 t9))))))) D σ H:=h
theorem hid10{t9 t10:TS}{D σ H}(h:let d:=D;let r10:=t10;let r9:=tSeq t9 r10;let r8:=tSeq t8 r9;let r7:=tSeq t7 r8;let r6:=tSeq t6 r7;let r5:=tSeq t5 r6;let r4:=tSeq t4 r5;let r3:=tSeq t3 r4;let r2:=tSeq t2 r3;tSeq t1 r2 d σ H):tSeq t1 (tSeq t2 (tSeq t3 (tSeq t4 (tSeq t5 (tSeq t6 (tSeq t7 (tSeq t8 (tSeq t9 t10)))))))) D σ H:=h
end L2
local macro_rules|`(tactic|walk_at"lc")=>`(tactic|first|exact Or.inl rfl|exact Or.inr rfl)
local macro_rules|`(tactic|walk_at"nm")=>`(tactic|first|assumption|exact qA9|(refine L2.nm1 ?_;walk_at"ne")|(refine L2.nm2 ?_ ?_<;>walk_at"ne")|(refine L2.nm3 ?_ ?_ ?_<;>walk_at"ne"))
local macro_rules|`(tactic|walk_at"lk")=>`(tactic|first|assumption|exact L2.upd_same|(refine(L2.upd_ne ?_).trans ?_;walk_at"ne";walk_at"lk")|(refine L2.Kp.look (by assumption) ?_ ?_;walk_at"lk";walk_at"nm"))
local macro_rules|`(tactic|walk_at"ne")=>`(tactic|first|assumption|(refine qAV ?_;assumption)|(refine L2.ne_fre (by assumption) ?_;walk_at"lk")|(refine qAV (L2.ne_fre (by assumption) ?_);walk_at"lk"))
local macro_rules|`(tactic|walk_at"bd")=>`(tactic|first|decide|lia|(dsimp only;first|decide|lia))
local macro_rules|`(tactic|walk_at"ml")=>`(tactic|first|exact Or.inr ⟨by decide,by decide⟩|exact Or.inl ⟨by lia,by lia⟩|exact Or.inr ⟨by lia,by lia⟩)
local macro_rules|`(tactic|walk_at"ln")=>`(tactic|first|decide|(have hsz:=PySem.sizeLine_eq;simp only[qAZ,qBX,qAE,qAm]at *;lia))
local macro_rules|`(tactic|walk_at"ix")=>`(tactic|first|rfl|assumption|(refine L2.atI_natc ?_;assumption))
local macro_rules|`(tactic|walk_at"vs")=>`(tactic|first|exact Or.inl rfl|exact Or.inr (Or.inl rfl)|exact Or.inr (Or.inr rfl))
local macro_rules|`(tactic|walk_at"vk")=>`(tactic|first|exact Or.inl rfl|exact Or.inr rfl)
local macro_rules|`(tactic|walk_at"vf")=>`(tactic|first|decide +kernel|(simp only[qAL];decide))
namespace My
open PySem L2
variable{P:Program}{w:World}{K:PySem.W.Frag}{mg:Str->Option Value}{base:Heap}{C:Addr}
variable{H H':Hp}{f:Addr}{fd:FuncData}{ns:List Str}{α:Type}{i:Nat}{y:Str}
section
variable{X:Cx}{scope sc:Scope}{C:Addr}{s₀:Shared}{H₀:Hp}{ex:List Addr}{N P:List Str}{i:Nat}{x:Str}{e:Expr}{te:TE}{pos pos':Pos}{ix:List (Option Nat)}
theorem psS(hN:X.N.Nodup)(he:PE X e te)(hi:X.N[i]?=some x:=by rfl)(hx:Loc X.env.scope x:=by walk_at"lc")(hs:swapsWith e (some (.Name x pos')) pos.line X.env=pure false:=by rfl)(hf:X.fn x=true\/X.env.scope.names.lookup x=some .local:=by first|exact .inl rfl|exact .inr rfl|assumption):PS X (.Assign [.Name x pos'] e pos) (tAsg te (gName i)):=zEc hN hi hx he hs hf
theorem pgN(hN:X.N.Nodup)(hi:X.N[i]?=some x:=by rfl)(hx:Loc X.env.scope x:=by walk_at"lc")(hf:X.fn x=true\/X.env.scope.names.lookup x=some .local:=by first|exact .inl rfl|exact .inr rfl|assumption):PG X (.Name x pos) (gName i):=pg_name hN hi hx hf
theorem pgB(hi:(X.block scope C s₀ H₀ ex N).N[i]?=some x:=by rfl)(hN:N.Nodup:=by decide +kernel)(hx:Loc (X.block scope C s₀ H₀ ex N).env.scope x:=by walk_at"lc")(hf:(X.block scope C s₀ H₀ ex N).fn x=true\/(X.block scope C s₀ H₀ ex N).env.scope.names.lookup x=some .local:=by first|exact .inl rfl|exact .inr rfl|assumption):PG (X.block scope C s₀ H₀ ex N) (.Name x pos) (gName i):=pg_name hN hi hx hf
theorem dtk(hN:X.N[i]?=some x)(D:Draws X scope N ix)(hv:Vis X.env.scope x:=by walk_at"vs")(hk:(relabel scope X.env).names.lookup x=some .cell\/(relabel scope X.env).names.lookup x=some .free:=by walk_at"vk")(hf:(x,NameKind.free)∈scope.names:=by walk_at"vf"):Draws X scope (x::N) (some i::ix):=.tk hN hv hk hf D
theorem fnS(a:sc.kind= .function:=by rfl)(b:sc.isCoroutine=false:=by rfl)(c:sc.isGenerator=false:=by rfl)(d:N.Nodup:=by decide +kernel)(e:N.take P.length=P:=by rfl)(f:∀x∈P,sc.names.lookup x=some .local\/sc.names.lookup x=some .cell:=by decide +kernel)(g:∀y∈sc.names,y.2≠.free:=by decide +kernel):FnScope N P sc:=⟨a,b,c,d,e,f,g⟩
end
def top(i:Nat):Stmt:=PySem.Challenge.pw_levelbench_k13_jobs_refused.main.body.getD i (.Pass ⟨0,0,0,0⟩)
structure Txt(K:PySem.W.Frag)(mg:Str->Option Value):Prop where
 z_len:mg "len"=none
 z_max:mg "max"=none
 z_range:mg "range"=none
 z_int:mg "int"=none
 z_str:mg "str"=none
 z_list:mg "list"=none
 z_all:mg "all"=none
 z_min:mg "min"=none
 z_any:mg "any"=none
 z_dict:mg "dict"=none
 z_bool:mg "bool"=none
 z_reversed:mg "reversed"=none
 z_sum:mg "sum"=none
 z_zip:mg "zip"=none
 z_abs:mg "abs"=none
 z_enumerate:mg "enumerate"=none
 z_isinstance:mg "isinstance"=none
 z_sorted:mg "sorted"=none
 z_set:mg "set"=none
 z_tuple:mg "tuple"=none
 c_MOST_JOBS:∃t,mg "MOST_JOBS"=some (.int 20 t)
 c_LONGEST_NAME:∃t,mg "LONGEST_NAME"=some (.int 8 t)
section
def zB1(H:Hp)(p:Addr):Prop:=∃a b:Int,H p=some (.lst [.int a,.int b])/\0<=a/\0<=b/\b<2147483629
theorem zB1.kp{M:List Addr}{p:Addr}(h:zB1 H p)(k:Kp M H H')(n:p∉M):zB1 H' p:=by
 obtain⟨a,b,e,r⟩:=h;exact⟨a,b,k p _ e n,r⟩
def zGt:Sp:=λvs H Q _=>∃(p:Addr)(m:Int),vs=[.ref p,.int m]/\zB1 H p/\1<=m/\m<1073741824/\∀(d:Int)(H':Hp),0<=d->d<m->zB1 H' p->Kp [p] H H'->Q (.int d) H'
abbrev s_take:Stmt:=top 38
theorem sc_take:FnScope ["_law_purse_here","_law_many","_law_digit"] ["_law_purse_here","_law_many"] (zAe s_take):=fnS
theorem ok_take(F:Fun K "_law_take" "_law_take" s_take f fd):FnOk P w K mg base CX0 1 f fd ["_law_purse_here","_law_many"] zGt:=by
 refine F.ok sc_take (λvs H Q E h=>?_) (λcdv A outer s H vs Q E hr h=>?_)
 .obtain ⟨p,m,rfl,_⟩:=h;rfl
 .obtain ⟨p,m,rfl,⟨a,b,hp,ha,hb,hb'⟩,hm,hm',k⟩:=h
  refine⟨_,(zAc (zA1 (zAo op_gt (zBe zAw (pv 0) zAh (λ_ _=>rfl)) zAh (zAq _)) (zAc (psS (i:=2) sc_take.nd (zAv zG7 (zBe zAw (pv 0) zAh (fun _ _=>rfl)) (pv 1)))
    (zAc (ps_asg (zAv zI2 (zBe zAw (pv 0) zAh (fun _ _=>rfl)) (pv 1)) (pg_sub (pv 0) zAh set_list))
    (zAd (zAm (pv 2))))) zAl) (zAc (ps_asg (zAv zG7 (zAv zDs (zAv zFf (zBe zAw (pv 0) zAh (fun _ _=>rfl)) zAh) zAh) zAh) (pg_sub (pv 0) zAh set_list))
   (zAd (zAm (zAv zG7 (zAv zI2 (zAv zG7 (zAv zFf (zBe zAw (pv 0) zAh (λ_ _=>rfl)) (zBe zAw (pv 0) zAh (λ_ _=>rfl))) zAh) zAh) (pv 1)))))),?_⟩
  refine hid3 ?_;intro _ _ _;refine⟨_,rfl,_,_,_,_,rfl,rfl,SqL.of (by walk_at"lk"),(by walk_at"ix"),_,_,rfl,rfl,_,rfl,?_⟩;refine ite2 (λc=>?_) (λc=>?_)
  .have c':0<a:=by simpa using c
   refine⟨_,rfl,_,_,_,_,rfl,rfl,SqL.of (by walk_at"lk"),(by walk_at"ix"),_,rfl,_,_,rfl,rfl,(by walk_at"bd"),?_⟩;refine⟨_,rfl,_,_,_,_,rfl,rfl,SqL.of (by walk_at"lk"),(by walk_at"ix"),_,rfl,_,_,rfl,rfl,⟨by walk_at"bd",by walk_at"bd"⟩,_,rfl,_,_,_,_,rfl,rfl,(by walk_at"lk"),(by walk_at"ix"),?_⟩;refine⟨_,rfl,?_⟩;refine k _ _ (qCN _ (by lia)) (qCO _ (by lia)) ⟨a / m,b,upd_same,Int.ediv_nonneg ha (by lia),hb,hb'⟩ (Kp.put Kp.refl (by simp))
  .refine ⟨_,rfl,_,_,_,_,rfl,rfl,SqL.of (by walk_at"lk"),(by walk_at"ix"),_,_,rfl,rfl,(by walk_at"ml"),_,_,rfl,rfl,_,_,rfl,rfl,(by walk_at"bd"),_,rfl,_,_,_,_,rfl,rfl,(by walk_at"lk"),(by walk_at"ix"),?_⟩;have h1:=qCN (b*39373+7919) (show(2147483629:Int)≠0 by decide);have h2:=qCO (b*39373+7919) (show(0:Int)<2147483629 by decide);refine⟨_,rfl,_,_,_,_,rfl,rfl,SqL.of (by walk_at"lk"),(by walk_at"ix"),_,rfl,_,_,_,_,rfl,rfl,SqL.of (by walk_at"lk"),(by walk_at"ix"),_,_,rfl,rfl,(by walk_at"ml"),_,_,rfl,rfl,(by walk_at"bd"),_,_,rfl,rfl,⟨by walk_at"bd",by walk_at"bd"⟩,_,rfl,_,_,rfl,rfl,(by walk_at"bd"),?_⟩;refine k _ _ (qCN _ (by lia)) (qCO _ (by lia)) ⟨a,_,upd_same,ha,h1,h2⟩ (Kp.put Kp.refl (by simp))
def spPurse:Sp:=λvs H Q _=>∃(c k:Int),vs=[.int c,.int k]/\-(2^31)<k/\k<2^31/\∀(p:Addr)(H':Hp),Fre H p->zB1 H' p->Kp [] H H'->Q (.ref p) H'
abbrev s_purse:Stmt:=top 37
theorem sc_purse:FnScope ["_law_cell_here","_law_k","_law_number"] ["_law_cell_here","_law_k"] (zAe s_purse):=fnS
theorem ok_purse(F:Fun K "_law_purse" "_law_purse" s_purse f fd)(T:Txt K mg):FnOk P w K mg base CX0 1 f fd ["_law_cell_here","_law_k"] spPurse:=by
 refine F.ok sc_purse (λvs H Q E h=>?_) (λcdv A outer s H vs Q E hr h=>?_)
 .obtain ⟨p,m,rfl,_⟩:=h;rfl
 .obtain ⟨c,n,rfl,hn,hn',k⟩:=h
  refine⟨_,(zAc (psS (i:=2) sc_purse.nd (zAv zG7 (zAv zDs (zAv zDs (zAv zFf (zAv zG7 (pv 0) zAh) zAh) (zAv zFf (zAv zFf (pv 1) (pv 1)) zAh)) zAh) zAh)) (zAd (zAm (zAt (zAa (zAg (call_max2 rfl) (by rfl) T.z_max bo_max (zAa zAh (zAa (zAv zEs (pv 0) (zAv op_pow zAh zAh)) zAb))) (zAa (zAv zG7 (zAv zFf (pv 2) (pv 2)) zAh) zAb)))))),?_⟩
  refine hid2 ?_;intro _ _;refine⟨_,rfl,_,_,rfl,rfl,(by walk_at"bd"),_,_,rfl,rfl,(by walk_at"ml"),_,rfl,_,rfl,_,_,rfl,rfl,(by walk_at"ml"),_,_,rfl,rfl,(by walk_at"ml"),_,_,rfl,rfl,_,_,rfl,rfl,_,_,rfl,rfl,(by walk_at"bd"),?_⟩;generalize c % 2147483629*48271+n*n*69623+11=y;have h1:=qCN y (show(2147483647:Int)≠0 by decide);have h2:=qCO y (show(0:Int)<2147483647 by decide);refine⟨_,rfl,_,_,rfl,rfl,⟨by decide,by decide,by decide⟩,_,_,rfl,rfl,_,_,rfl,_,rfl,_,rfl,_,_,rfl,rfl,(by walk_at"ml"),_,_,rfl,rfl,(by walk_at"bd"),(by walk_at"ln"),λp hp=>?_⟩;refine k p _ hp ⟨_,_,upd_same,?_,qCN _ (by decide),qCO _ (by decide)⟩ (Kp.new Kp.refl hp);split<;>lia
def spCell(K:PySem.W.Frag):Sp:=λvs H Q _=>∃(a:Addr)(ns:List Int)(k:Int),vs=[.ref a,.int k]/\SqL K H a (ns.map V.int)/\0<=k/\∀c:Int,Q (.int c) H
abbrev s_cell:Stmt:=top 36
theorem sc_cell:FnScope ["_law_script","_law_k"] ["_law_script","_law_k"] (zAe s_cell):=fnS
theorem ok_cell(F:Fun K "_law_cell" "_law_cell" s_cell f fd)(T:Txt K mg):FnOk P w K mg base CX0 1 f fd ["_law_script","_law_k"] (spCell K):=by
 refine F.ok sc_cell (λvs H Q E h=>?_) (λcdv A outer s H vs Q E hr h=>?_)
 .obtain ⟨p,m,n,rfl,_⟩:=h;rfl
 .obtain ⟨a,ns,n,rfl,hS,hn,k⟩:=h;refine⟨_,(zAd (zAm (pe_ifExp (zAo op_lt (pv 1) (zAg zAn (by rfl) T.z_len zBr (zAa (pv 0) zAb)) (zAq _)) (zBe zAw (pv 0) (pv 1) (λ_ _=>rfl)) zAh))),?_⟩;refine⟨_,rfl,_,rfl,_,_,rfl,.inl hS,_,_,rfl,rfl,_,rfl,?_⟩;refine ite2 (λc=>?_) (λc=>?_)
  .have c':n<ns.length:=by simpa using c
   have hx:(ns.map V.int)[n.toNat]?=some (V.int (ns[n.toNat]'(by lia))):=by simp
   refine⟨_,rfl,_,rfl,_,_,_,_,rfl,rfl,hS,zA9 hn hx,k _⟩
  .exact k _
end
def zCd(s:Str):Prop:=1<=s.length/\s.length<=8/\∀c∈s.cps.toList,97<=c/\c<=122
def WordS(n:Nat)(s:Str):Prop:=s.length=n/\∀c∈s.cps.toList,97<=c/\c<=122
theorem len_app(a b:Str):(a++b).length=a.length+b.length:=by
 show(a++b).cps.size=_;rw[Str.cps_append,Array.size_append];rfl
theorem WordS.more{n:Nat}{s:Str}(h:WordS n s){c:Nat}(h1:97<=c)(h2:c<=122):WordS (n+1) (s++⟨#[c]⟩):=by
 refine⟨by rw[len_app,h.1];rfl,λx hx=>?_⟩;rw[Str.cps_append,qC8]at hx;rcases qAY.mp hx with z|z
 .exact h.2 x z
 .have:x=c:=by simpa using z
  lia
def zBv:Str:="abcdefghijklmnopqrstuvwxyz"
theorem zDa:zBv.cps.toList=(List.range 26).map (97+·):=by decide +kernel
theorem letters_at{d:Int}(h0:0<=d)(h1:d<26):atI zBv.cps.toList d=some (97+d.toNat):=by
 refine zA9 h0 ?_;have:d.toNat<26:=by lia
 rw[zDa,qAN,qC9 this];rfl
theorem zE0(a c:Nat):(!(decide (([c]:List Nat)<[a])))=decide (a<=c):=by
 have:(([c]:List Nat)<[a])↔c<a:=by
  constructor
  .intro h
   cases h with
   |rel h=>exact h
   |cons h=>cases h
  .intro h;exact List.Lex.rel h
 by_cases h:c<a
 .rw [qAP (this.mpr h),qAO (by lia)];rfl
 .rw [qAO (λz=>h (this.mp z)),qAP (by lia)];rfl
section
def zDk(s:Str):Bool:=decide (1<=s.length)&&decide (s.length<=8)&&s.cps.toList.all λc=>decide (97<=c)&&decide (c<=122)
theorem zDt(s:Str):zDk s=true↔zCd s:=by
 unfold zDk zCd;simp only[qA3,qBs,qA4];exact⟨λ⟨⟨a,b⟩,c⟩=>⟨a,b,c⟩,λ⟨a,b,c⟩=>⟨⟨a,b⟩,c⟩⟩
def spIsName:Sp:=λvs H Q _=>∃(x:Str),vs=[.str x]/\x.length<=1000000/\∀H',Kp [] H H'->Q (.bl (zDk x)) H'
abbrev zDq:Stmt:=top 21
theorem zH1:FnScope ["thing"] ["thing"] (zAe zDq):=fnS
theorem ok_is_name(F:Fun K "is_name" "is_name" zDq f fd)(T:Txt K mg):FnOk P w K mg base CX0 1 f fd ["thing"] spIsName:=by
 refine F.ok zH1 (λvs H Q E h=>?_) (λcdv A outer s H vs Q E hr h=>?_)
 .obtain ⟨x,rfl,_⟩:=h;rfl
 .obtain ⟨x,rfl,hx,k⟩:=h;obtain⟨tL,hL⟩:=T.c_LONGEST_NAME
  refine⟨_,(zAc (zA1 (PW.pt (pw_or (zCl (zA7 (zAg zA6 (by rfl) T.z_isinstance zAf (zAa (pv 0) (zAa (zBi (by rfl) T.z_str zIh (v:=.ty "str") rfl) zAb))))) (zH3 (zCl (pt_chain op_le op_le zAh (zAg zDd (by rfl) T.z_len zBr (zAa (pv 0) zAb)) (zBd rfl hL (v:=.int 8) ⟨_,rfl⟩)))))) (zAd (zAm zD1)) zAl) (zAd (zAm (zAg (zGk _ rfl) (by rfl) T.z_all bo_all (zAa (zBs rfl (zBt (sc:=zAe zDq) rfl (by decide +kernel)) (Draws.own (x:="sign") Draws.nil) (pi_str (pv 0)) (λ_ _ _ _=>(pgB (i:=0))) (λ_ _ _ _=>zB6) (λ_ _ _ _=>(pe_chain op_le_str op_le_str zAk (pv 0) zAk))) zAb))))),?_⟩
  refine hid2 ?_;intro _ _;refine⟨_,rfl,_,_,_,_,rfl,TyOf.str x,zB8,_,rfl,iteF ?_⟩;refine⟨_,rfl,_,rfl,?_,_,_,rfl,rfl,_,rfl,?_⟩
  .rw [qAS];lia
  refine ite2 (λc=>?_) (λc=>?_)
  .have c1:1<=x.length:=by
    have:=qA1 c;lia
   refine⟨_,_,rfl,rfl,_,rfl,?_⟩;refine ite2 (λc=>?_) (λc=>?_)
   .-- too long
    have c2:¬(x.length<=8):=λz=>by
     have:decide ((x.length:Int)<=8)=true:=qAP (by lia);rw[this]at c;cases c
    have e:zDk x=false:=by
     unfold zDk;rw[qAO c2];simp
    rw[<-e];exact k H Kp.refl
   .have c2:x.length<=8:=by
     by_cases z:(x.length:Int)<=8
     .lia
     .rw [qAO z]at c;exact absurd rfl c
    refine⟨_,rfl,_,rfl,λD hD=>zHl (z:=x) (λi ys τ H'=>(∃o0,τ=[o0])/\ys=((x.cps.toList.take i).map λc=>V.bl (decide (97<=c)&&decide (c<=122)))/\H'=upd H D (.lst ys)) ⟨⟨_,rfl⟩,rfl,rfl⟩ ?_ ?_⟩
    .rintro i c ys τ H' hc ⟨⟨o0,rfl⟩,rfl,rfl⟩;have ei:x.cps.toList.take (i+1)=x.cps.toList.take i++[c]:=by rw[qCU,hc];rfl
     have hi:i<x.cps.toList.length:=(qAg.mp hc).1;have hlen:x.cps.toList.length=x.length:=by simp[Str.length]
     have fin:∀b:Bool,b=(decide (97<=c)&&decide (c<=122))->(upd H D (.lst ((x.cps.toList.take i).map λc=>V.bl (decide (97<=c)&&decide (c<=122))))) D=some (.lst ((x.cps.toList.take i).map λc=>V.bl (decide (97<=c)&&decide (c<=122))))/\((x.cps.toList.take i).map λc=>V.bl (decide (97<=c)&&decide (c<=122))).length<sizeLine /\
       ((∃o0,([some (V.str ⟨#[c]⟩)]:St)=[o0])/\((x.cps.toList.take i).map fun c=>V.bl (decide (97<=c)&&decide (c<=122)))++[V.bl b]=((x.cps.toList.take (i+1)).map fun c=>V.bl (decide (97<=c)&&decide (c<=122))) /\
       upd (upd H D (.lst ((x.cps.toList.take i).map λc=>V.bl (decide (97<=c)&&decide (c<=122))))) D (.lst (((x.cps.toList.take i).map λc=>V.bl (decide (97<=c)&&decide (c<=122)))++[V.bl b]))=upd H D (.lst (((x.cps.toList.take i).map λc=>V.bl (decide (97<=c)&&decide (c<=122)))++[V.bl b]))):=λb hb=>by
      refine⟨upd_same,?_,⟨_,rfl⟩,?_,zCg⟩
      .rw [qAE,qAd,qAS];lia
      .rw [ei,qAb,hb];rfl
     refine⟨_,rfl,_,_,rfl,rfl,_,rfl,?_⟩;refine ite2 (λc1=>?_) (λc1=>?_)
     .refine ⟨_,_,rfl,rfl,fin _ ?_⟩;have c1:(!(decide (([c]:List Nat)<[97])))=true:=c1;rw[zE0]at c1;show(!(decide (([122]:List Nat)<[c])))=_;rw[zE0,c1];rfl
     .refine fin _ ?_;have c1:¬(!(decide (([c]:List Nat)<[97])))=true:=c1;rw[zE0]at c1;rw[Bool.not_eq_true]at c1;rw[c1];rfl
    .rintro ys τ H' ⟨⟨o0,rfl⟩,rfl,rfl⟩;have hlen:x.cps.toList.take x.length=x.cps.toList:=qBQ (by simp[Str.length]);refine⟨D,x.cps.toList.map (λc=>decide (97<=c)&&decide (c<=122)),rfl,SqL.of ?_,?_⟩
     .rw [upd_same,hlen,qBR];rfl
     .have e:((x.cps.toList.map (λc=>decide (97<=c)&&decide (c<=122))).all id)=zDk x:=by
       unfold zDk;rw[qAP c1,qAP c2,List.all_map];rfl
      rw[e];exact k _ (Kp.new Kp.refl hD)
  .-- empty
   have c1:¬(1<=x.length):=λz=>c (qAP (by lia));refine⟨_,rfl,?_⟩;refine iteT ?_
   have e:zDk x=false:=by
    unfold zDk;rw[qAO c1];simp
   rw[<-e];exact k H Kp.refl
end
abbrev Txs(H:Hp)(l:Addr)(ns:List Str):Prop:=H l=some (.lst (ns.map V.str))
structure Ords(H:Hp)(l:Addr)(qs:List (List Str×Addr)):Prop where
 top:H l=some (.lst (qs.map λq=>V.ref q.2))
 row:∀q∈qs,H q.2=some (.tup (q.1.map V.str))
 two:∀q∈qs,∃a b,q.1=[a,b]
theorem zD4(x:Str)(ns:List Str):inV (.str x) (ns.map V.str)=decide (x∈ns):=by
 unfold inV
 induction ns with
 |nil=>rfl
 |cons n r ih=>
  rw[qAl,qCH,ih];show((n==x)||_)=_
  by_cases e:n=x
  .subst e;simp
  .have e':¬x=n:=λz=>e z.symm;rw[qA0.mpr e];simp[e']
theorem zCb(ns:List Str):(ns.map V.str).all zDm=true:=by simp[zDm]
section
abbrev zEx:Stmt:=top 22
theorem sc_is_one_of:FnScope ["thing","names"] ["thing","names"] (zAe zEx):=fnS
abbrev zEy:Stmt:=top 28
theorem sc_check_job:FnScope ["names","thing"] ["names","thing"] (zAe zEy):=fnS
end
abbrev dT1(ns:List Str)(g:Str->V):List (Key×V):=ns.map λn=>(Sum.inr n,g n)
theorem zDg(g:Str->V)(x:Str):∀ns:List Str,valV (dT1 ns g) (.inr x)=if x∈ns then some (g x)else none
 |[]=>rfl
 |n::r=>by
  by_cases e:n=x
  .subst e;have h1:valV (dT1 (n::r) g) (.inr n)=some (g n):=zF5 rfl;rw[h1];simp
  .have h1:valV (dT1 (n::r) g) (.inr x)=valV (dT1 r g) (.inr x):=zF6 λz=>e (Sum.inr.inj z);rw[h1,zDg g x r];have e':¬x=n:=λz=>e z.symm;simp[e']
theorem zIt{g:Str->V}{x:Str}(v:V)(h:x∉ns):putK (dT1 ns g) (.inr x) v=dT1 ns g++[(.inr x,v)]:=putK_new v (by rw[zDg];simp[h])
theorem zAp{xs:List α}{x:α}(h:xs[i]?=some x):xs.take (i+1)=xs.take i++[x]:=by rw[qCU,h];rfl
theorem zEr{v:V}(h:(ns.map V.str)[i]?=some v):∃n,ns[i]?=some n/\v= .str n:=by
 rw[qAN]at h;obtain⟨n,e,r⟩:=qBb.mp h;exact⟨n,e,r.symm⟩
theorem zGg{xs:List α}(h:xs.Nodup){x:α}(e:xs[i]?=some x):x∉xs.take i:=λz=>by
 obtain⟨hi,rfl⟩:=qAg.mp e;obtain⟨j,hj,e2⟩:=qA5.mp z;rw[qAd]at hj;rw[List.getElem_take]at e2;have:=(qC2 h).mp e2;lia
section
abbrev zDz:Stmt:=top 26
theorem zCj:FnScope ["names","thing","seen","name"] ["names"] (zAe zDz):=fnS
end
theorem ref_at{qs:List (List Str×Addr)}{v:V}(h:(qs.map λq=>V.ref q.2)[i]?=some v):∃q,qs[i]?=some q/\v= .ref q.2:=by
 rw[qAN]at h;obtain⟨n,e,r⟩:=qBb.mp h;exact⟨n,e,r.symm⟩
theorem Ords.kp{M:List Addr}{l:Addr}{qs:List (List Str×Addr)}(o:Ords H l qs)(k:Kp M H H')(h1:l∉M)(h2:∀q∈qs,q.2∉M):Ords H' l qs:=⟨k l _ o.top h1,λq hq=>k _ _ (o.row q hq) (h2 q hq),o.two⟩
section
abbrev zDy:Stmt:=top 27
theorem zDh:FnScope ["names","orders","order","part"] ["names","orders"] (zAe zDy):=fnS
end
def fst(q:List Str×Addr):Str:=q.1.getD 0 Str.empty
def snd(q:List Str×Addr):Str:=q.1.getD 1 Str.empty
def told(qs:List (List Str×Addr))(n:Str):List Str:=(qs.filter λq=>decide (snd q=n)).map fst
theorem told_snoc(qs:List (List Str×Addr))(q:List Str×Addr)(n:Str):told (qs++[q]) n=if snd q=n then told qs n++[fst q]else told qs n:=by
 unfold told;rw[qCB]
 by_cases e:snd q=n
 .rw [qAC e];simp[e]
 .rw [qAB e];simp[e]
theorem told_len(qs:List (List Str×Addr))(n:Str):(told qs n).length<=qs.length:=by
 unfold told;rw[qAE];exact qBt _ _
structure DL(H0 H:Hp)(d:Addr)(ns:List Str)(la:Str->Addr)(f:Str->List Str):Prop where
 top:H d=some (.dK (dT1 ns λn=>.ref (la n)))
 row:∀n∈ns,Txs H (la n) (f n)
 ne:∀n∈ns,la n≠d
 inj:∀n∈ns,∀m∈ns,la n=la m->n=m
 fr:Fre H0 d
 frs:∀n∈ns,Fre H0 (la n)
theorem dT1_congr{g g':Str->V}(h:∀n∈ns,g n=g' n):dT1 ns g=dT1 ns g':=qDJ λn hn=>by rw[h n hn]
section
def zGs:Sp:=λvs H Q _=>∃(l m:Addr)(ns:List Str) (qs:List (List Str×Addr)),vs=[.ref l,.ref m]/\Txs H l ns/\Ords H m qs/\ns.Nodup/\ns.length<=20/\qs.length<=4096/\(∀q∈qs,∀x∈q.1,x∈ns) /\
 ∀d la H',DL H H' d ns la (told qs)->Kp [] H H'->Q (.ref d) H'
abbrev zEa:Stmt:=top 29
theorem zB3:FnScope ["names","orders","told","name","one","other"] ["names","orders"] (zAe zEa):=fnS
theorem zI4(F:Fun K "told_ahead" "told_ahead" zEa f fd):FnOk P w K mg base CX0 1 f fd ["names","orders"] zGs:=by
 refine F.ok zB3 (λvs H Q E h=>?_) (λcdv A outer s H vs Q E hr h=>?_)
 .obtain ⟨l,m,ns,qs,rfl,_⟩:=h;rfl
 .obtain ⟨l,m,ns,qs,rfl,hl,hm,hN,hn,hz,hq,k⟩:=h;have hu:=hu_of hr
  refine⟨_,(zAc (psS (i:=2) zB3.nd zGe) (zAc (zBk qAr rfl (zA5 (pv 0)) (pgN (i:=3) zB3.nd)
    (zAd (zIv hu (pv 2) (pv 3) (zAt zAb) rfl)))
   (zAc (zBk qAr rfl (zA5 (pv 1)) (pg_tup rfl (zBa (pgN (i:=4) zB3.nd) (zBa (pgN (i:=5) zB3.nd) zEd)))
    (zAd (zA4 (zFd qBF qCv qCw zDu (zG6 hu (pv 2) (pv 5) (λ_ _=>rfl)) (zAa (pv 4) zAb)))))
   (zAd (zAm (pv 2)))))),?_⟩
  refine hid4 ?_;intro _ _ _ _;refine λd hd=>?_;have fd:Fre H d:=hd
  refine⟨_,rfl,_,rfl,⟨_,SqL.of ((Kp.new (M:=[]) Kp.refl fd) l _ hl (by simp))⟩,zCa (λi σ H2=>(∃o3 o4 o5:Option V,σ=[some (.ref l),some (.ref m),some (.ref d),o3,o4,o5])/\Kp [] H H2/\∃la,DL H H2 d (ns.take i) la λ_=>[]) ⟨⟨_,_,_,rfl⟩,Kp.new Kp.refl fd,λ_=>0,upd_same,(λn h=>nomatch h),(λn h=>nomatch h),(λn h=>nomatch h),fd,(λn h=>nomatch h)⟩ (λi σ H2 _ ⟨_,k2,_⟩=>SqL.of (k2 l _ hl (by simp))) ?_ ?_⟩
  .rintro i v σ H2 hv ⟨⟨o3,o4,o5,rfl⟩,k2,la,D⟩;obtain⟨n,en,rfl⟩:=zEr hv;have ni:=zGg hN en;refine⟨(by walk_at"ln"),λb hb=>?_⟩;have fb:Fre H2 b:=hb;have ndb:d≠b:=ne_fre fb D.top;have fbH:Fre H b:=k2.fre fb (by simp);refine⟨_,rfl,_,rfl,_,_,rfl,DPut.k (k:=Sum.inr n) ((upd_ne ndb).trans D.top) ?_,?_⟩
   .rw [qAE,qAd,qAS];lia
   .have nlb:∀x∈ns.take i,la x≠b:=λx hx=>ne_fre fb (D.row x hx);refine⟨⟨_,_,_,rfl⟩,Kp.new (Kp.new k2 fbH) fd,λx=>if x=n then b else la x,?_,λx hx=>?_,λx hx=>?_,λx hx y hy e=>?_,fd,λx hx=>?_⟩
    .rw [upd_same,zIt _ ni,zAp en];have:dT1 (ns.take i) (λn=>V.ref (la n))=dT1 (ns.take i) (λx=>V.ref (if x=n then b else la x)):=dT1_congr λx hx=>by rw[qAB λ(z:x=n)=>ni (z▸hx)]
     rw[this];unfold dT1;rw[qAb];simp
    .rw [zAp en]at hx
     by_cases z:x=n
     .rw [qAC z];exact(upd_ne ndb.symm).trans upd_same
     .rw [qAB z]
      have hx':x∈ns.take i:=by
       rcases qAY.mp hx with y|y
       .exact y
       .exact absurd (qAQ.mp y) z
      exact(upd_ne (D.ne x hx')).trans ((upd_ne (nlb x hx')).trans (D.row x hx'))
    .rw [zAp en]at hx
     by_cases z:x=n
     .rw [qAC z];exact ndb.symm
     .rw [qAB z];rcases qAY.mp hx with y|y
      .exact D.ne x y
      .exact absurd (qAQ.mp y) z
    .rw [zAp en]at hx hy
     have mem:∀x,x∈ns.take i++[n]->x≠n->x∈ns.take i:=λx hx z=>by
      rcases qAY.mp hx with y|y
      .exact y
      .exact absurd (qAQ.mp y) z
     by_cases z:x=n
     .by_cases z':y=n
      .rw [z,z']
      .rw [qAC z,qAB z']at e;exact absurd e.symm (nlb y (mem y hy z'))
     .by_cases z':y=n
      .rw [qAB z,qAC z']at e;exact absurd e (nlb x (mem x hx z))
      .rw [qAB z,qAB z']at e;exact D.inj x (mem x hx z) y (mem y hy z') e
    .rw [zAp en]at hx
     by_cases z:x=n
     .rw [qAC z];exact fbH
     .rw [qAB z];rcases qAY.mp hx with y|y
      .exact D.frs x y
      .exact absurd (qAQ.mp y) z
  .rintro σ H2 ⟨⟨o3,o4,o5,rfl⟩,k2,la,D⟩;have eN:ns.take (ns.map V.str).length=ns:=by rw[qAE,qAq]
   rw[eN]at D
   refine⟨_,rfl,_,rfl,⟨_,SqL.of (k2 m _ hm.top (by simp))⟩,zCa (λi σ H3=>(∃o3 o4 o5:Option V,σ=[some (.ref l),some (.ref m),some (.ref d),o3,o4,o5])/\Kp [] H H3/\DL H H3 d ns la (told (qs.take i))) ⟨⟨_,_,_,rfl⟩,k2,D⟩ (λi σ H3 _ ⟨_,k3,_⟩=>SqL.of (k3 m _ hm.top (by simp))) ?_ ?_⟩
   .rintro i v σ H3 hv ⟨⟨o3,o4,o5,rfl⟩,k3,D⟩;obtain⟨q,eq,rfl⟩:=ref_at hv;have mq:=qAT eq;obtain⟨a,b,eab⟩:=hm.two q mq
    have hrow:H3 q.2=some (.tup [.str a,.str b]):=by
     have:=k3 q.2 _ (hm.row q mq) (by simp);rw[eab]at this;exact this
    have hb:b∈ns:=hq q mq b (by rw[eab];simp);have esnd:snd q=b:=by unfold snd;rw[eab];rfl
    have efst:fst q=a:=by unfold fst;rw[eab];rfl
    refine⟨_,_,rfl,.inl (.inl hrow),rfl,_,_,rfl,_,_,rfl,rfl,?_⟩;refine⟨_,rfl,_,rfl,_,.ref (la b),rfl,?_,.inl ⟨rfl,_,SqL.of (D.row b hb)⟩,_,rfl,_,_,_,rfl,rfl,D.row b hb,?_,?_⟩
    .have:=DGet.k (k:=Sum.inr b) D.top;rw[zDg,qAC hb]at this;exact this
    .have:=told_len (qs.take i) b;rw[qAd]at this;rw[qAE,qAS];lia
    .refine ⟨⟨_,_,_,rfl⟩,Kp.new k3 (D.frs b hb),?_⟩;rw[zAp eq];refine⟨(upd_ne (D.ne b hb).symm).trans D.top,λx hx=>?_,D.ne,D.inj,D.fr,D.frs⟩;show upd H3 (la b) _ (la x)=some (.lst ((told (qs.take i++[q]) x).map V.str));rw[told_snoc,esnd,efst]
     by_cases z:b=x
     .subst z;rw[qAC rfl,upd_same,qAb];rfl
     .rw [qAB z,upd_ne λy=>z (D.inj b hb x hx y.symm)];exact D.row x hx
   .rintro σ H3 ⟨⟨o3,o4,o5,rfl⟩,k3,D⟩;have eQ:qs.take (qs.map λq=>V.ref q.2).length=qs:=by rw[qAE,qAq]
    rw[eQ]at D;exact⟨_,rfl,k d la H3 D k3⟩
end
def addA(A:List Str)(x:Str):List Str:=if x∈A then A else A++[x]
theorem mem_addA{A:List Str}{x:Str}:y∈addA A x↔y∈A\/y=x:=by
 unfold addA
 by_cases h:x∈A
 .rw [qAC h];exact⟨.inl,λz=>z.elim id λe=>e▸h⟩
 .rw [qAB h];simp
theorem zH8{A:List Str}{x:Str}(h:A.Nodup):(addA A x).Nodup:=by
 unfold addA
 by_cases hx:x∈A
 .rw [qAC hx];exact h
 .rw [qAB hx];refine qBp.mpr ⟨h,by simp,λa ha b hb=>?_⟩;rw[qAQ.mp hb];rintro rfl;exact hx ha
theorem mem_foldA :∀(B A:List Str),y∈B.foldl addA A↔y∈A\/y∈B
 |[],A=>by simp
 |b::B,A=>by
  rw[qBl,mem_foldA B (addA A b),mem_addA,qAL,or_assoc]
theorem zHb:∀(B A:List Str),A.Nodup->(B.foldl addA A).Nodup
 |[],A,h=>h
 |b::B,A,h=>zHb B _ (zH8 h)
def zCf(S:Str->List Str)(ms:List Str):List Str:=ms.foldl (λA m=>(S m).foldl addA (addA A m)) []
theorem joinA_snoc(S:Str->List Str)(ms:List Str)(m:Str):zCf S (ms++[m])=(S m).foldl addA (addA (zCf S ms) m):=by unfold zCf;rw[List.foldl_append];rfl
theorem zH9{S:Str->List Str} :∀(ms A:List Str),y∈ms.foldl (λA m=>(S m).foldl addA (addA A m)) A↔y∈A\/y∈ms\/∃m∈ms,y∈S m
 |[],A=>by simp
 |m::ms,A=>by
  rw[qBl,zH9 ms,mem_foldA,mem_addA];constructor
  .rintro (((h|h)|h)|h|⟨q,h1,h2⟩)
   .exact .inl h
   .exact .inr (.inl (h▸qAX))
   .exact .inr (.inr ⟨m,qAX,h⟩)
   .exact .inr (.inl (qAU _ h))
   .exact .inr (.inr ⟨q,qAU _ h1,h2⟩)
  .rintro (h|h|⟨q,h1,h2⟩)
   .exact .inl (.inl (.inl h))
   .rcases qAL.mp h with e|e
    .exact .inl (.inl (.inr e))
    .exact .inr (.inl e)
   .rcases qAL.mp h1 with e|e
    .exact .inl (.inr (e▸h2))
    .exact .inr (.inr ⟨q,e,h2⟩)
theorem zHc{S:Str->List Str}{ms:List Str} :y∈zCf S ms↔y∈ms\/∃m∈ms,y∈S m:=by
 unfold zCf;rw[zH9];simp
theorem zF0{S:Str->List Str}:∀(ms A:List Str),A.Nodup->(ms.foldl (λA m=>(S m).foldl addA (addA A m)) A).Nodup
 |[],A,h=>h
 |m::ms,A,h=>zF0 ms _ (zHb _ _ (zH8 h))
theorem zHa(S:Str->List Str)(ms:List Str):(zCf S ms).Nodup:=zF0 ms [] qBe
theorem zEt:∀{A B:List Str},A.Nodup->(∀x∈A,x∈B)->A.length<=B.length
 |[],B,_,_=>qAe _
 |a::A,B,h,hs=>by
  obtain⟨h1,h2⟩:=qBJ.mp h;have hb:=hs a qAX;have:=zEt (B:=B.erase a) h2 λx hx=>(List.mem_erase_of_ne λe=>h1 (by rw[<-e];exact hx)).mpr (hs x (qAU _ hx));rw[List.length_erase_of_mem hb]at this;have:=List.length_pos_of_mem hb;rw[qAZ];lia
abbrev SetD(H:Hp)(e:Addr)(A:List Str):Prop:=H e=some (.dK (dT1 A λ_=>.bl true))
theorem put_set(A:List Str)(x:Str):putK (dT1 A λ_=>.bl true) (.inr x) (.bl true)=dT1 (addA A x) λ_=>.bl true:=by
 unfold addA
 by_cases h:x∈A
 .rw [qAC h];unfold putK;rw[zF7,zDg,qAC h];refine(qAC (by rfl)).trans ?_;unfold dT1;rw[qBR];refine qDJ λy _=>?_;show(if(Sum.inr y:Key)=Sum.inr x then((Sum.inr y:Key),V.bl true)else(Sum.inr y,V.bl true))=_;split<;>rfl
 .rw [qAB h,zIt _ h];unfold dT1;rw[qAb];rfl
theorem mrg_set:∀(B A:List Str),mrg (dT1 A λ_=>.bl true) (dT1 B λ_=>.bl true)=dT1 (B.foldl addA A) λ_=>.bl true
 |[],A=>rfl
 |b::B,A=>by
  show mrg (putK (dT1 A λ_=>.bl true) (.inr b) (.bl true)) (dT1 B λ_=>.bl true)=_;rw[put_set,mrg_set B];rfl
section
def spHasAll:Sp:=λvs H Q _=>∃(d l:Addr) (kvs:List (Key×V)) (ms:List Str),vs=[.ref d,.ref l]/\H d=some (.dK kvs)/\Txs H l ms/\ms.length<=4096/\∀H',Kp [] H H'->Q (.bl (ms.all λm=>(valV kvs (.inr m)).isSome)) H'
abbrev zE7:Stmt:=top 30
theorem sc_has_all:FnScope ["done","names"] ["done","names"] (zAe zE7):=fnS
theorem ok_has_all(F:Fun K "has_all" "has_all" zE7 f fd)(T:Txt K mg):FnOk P w K mg base CX0 1 f fd ["done","names"] spHasAll:=by
 refine F.ok sc_has_all (λvs H Q E h=>?_) (λcdv A outer s H vs Q E hr h=>?_)
 .obtain ⟨d,l,kvs,ms,rfl,_⟩:=h;rfl
 .obtain ⟨d,l,kvs,ms,rfl,hd,hl,hz,k⟩:=h;have hu:=hu_of hr;refine⟨_,(zAd (zAm (zAg (zGk _ rfl) (by rfl) T.z_all bo_all (zAa (zBs rfl (zBt (sc:=zAe zE7) rfl (by decide +kernel)) (Draws.own (x:="name") (dtk (i:=0) rfl Draws.nil)) (zA5 (pv 1)) (λ_ _ _ _=>(pgB (i:=0))) (λ_ _ _ _=>zB6) (λ_ _ _ _=>(pe_cmp (pc_din hu (pv 0) (pv 1))))) zAb)))),?_⟩;refine⟨_,rfl,_,rfl,⟨_,SqL.of hl⟩,λD hD=>zBz (ms.map V.str) (λi ys τ H'=>(∃o0,τ=[o0,some (.ref d)])/\ys=((ms.take i).map λm=>V.bl (valV kvs (.inr m)).isSome)/\H'=upd H D (.lst ys)) ⟨⟨_,rfl⟩,rfl,rfl⟩ (λi ys τ H' ⟨_,_,e⟩=>by subst e;exact SqL.of ((upd_ne (ne_fre (show Fre H D from hD) hl)).trans hl)) ?_ ?_⟩
  .rintro i v ys τ H' hv ⟨⟨o0,rfl⟩,rfl,rfl⟩;obtain⟨m,em,rfl⟩:=zEr hv;refine⟨_,rfl,_,rfl,_,_,rfl,DGet.k (k:=Sum.inr m) ((upd_ne (ne_fre (show Fre H D from hD) hd)).trans hd),upd_same,?_,⟨_,rfl⟩,?_,zCg⟩
   .rw [qAE,qAd,qAS];lia
   .rw [zAp em,qAb];rfl
  .rintro ys τ H' ⟨_,rfl,rfl⟩;have eM:ms.take (ms.map V.str).length=ms:=by rw[qAE,qAq]
   refine⟨D,ms.map λm=>(valV kvs (.inr m)).isSome,rfl,SqL.of ?_,?_⟩
   .rw [upd_same,eM,qBR];rfl
   .rw [List.all_map];exact k _ (Kp.new Kp.refl hD)
def spJoined:Sp:=λvs H Q _=>∃(l d:Addr)(ms D0 ns:List Str)(fa:Str->Addr)(S:Str->List Str),vs=[.ref l,.ref d]/\Txs H l ms/\H d=some (.dK (dT1 D0 λn=>.ref (fa n)))/\(∀m∈ms,m∈D0/\m∈ns/\SetD H (fa m) (S m)/\∀x∈S m,x∈ns)/\ns.length<=20/\(∀m∈ms,(S m).length<=20) /\
 ∀e H',Fre H e->SetD H' e (zCf S ms)->Kp [] H H'->Q (.ref e) H'
abbrev zIr:Stmt:=top 32
theorem zG2:FnScope ["near","far","found","name"] ["near","far"] (zAe zIr):=fnS
theorem ok_joined(F:Fun K "joined" "joined" zIr f fd):FnOk P w K mg base CX0 1 f fd ["near","far"] spJoined:=by
 refine F.ok zG2 (λvs H Q E h=>?_) (λcdv A outer s H vs Q E hr h=>?_)
 .obtain ⟨l,d,ms,D0,ns,fa,S,rfl,_⟩:=h;rfl
 .obtain ⟨l,d,ms,D0,ns,fa,S,rfl,hl,hd,hm,hn,hS,k⟩:=h;have hu:=hu_of hr
  refine⟨_,(zAc (psS (i:=2) zG2.nd zGe) (zAc (zBk qAr rfl (zA5 (pv 0)) (pgN (i:=3) zG2.nd)
    (zAc (zIv hu (pv 2) (pv 3) zD1 rfl)
    (zAd (zA4 (zFd PySem.F.plainAttrs_dict PySem.F.slot_dict_update PySem.F.type_dict_update mt_dupd (pv 2) (zAa (zG6 hu (pv 1) (pv 3) (λ_ _=>rfl)) zAb))))))
   (zAd (zAm (pv 2))))),?_⟩
  refine hid3 ?_;intro _ _ _;refine λe he=>?_;have fe:Fre H e:=he
  have hsub:∀i x,x∈zCf S (ms.take i)->x∈ns:=λi x hx=>by
   rcases zHc.mp hx with z|⟨m,z,z'⟩
   .exact (hm x (qB3 z)).2.1
   .exact (hm m (qB3 z)).2.2.2 x z'
  have hlen:∀i,(zCf S (ms.take i)).length<=20:=λi=>qAf (zEt (zHa S _) (hsub i)) hn
  refine⟨_,rfl,_,rfl,⟨_,SqL.of ((Kp.new (M:=[]) Kp.refl fe) l _ hl (by simp))⟩,zCa (λi σ H2=>(∃o3:Option V,σ=[some (.ref l),some (.ref d),some (.ref e),o3])/\Kp [] H H2/\SetD H2 e (zCf S (ms.take i))) ⟨⟨_,rfl⟩,Kp.new Kp.refl fe,upd_same⟩ (λi σ H2 _ ⟨_,k2,_⟩=>SqL.of (k2 l _ hl (by simp))) ?_ ?_⟩
  .rintro i v σ H2 hv ⟨⟨o3,rfl⟩,k2,h2⟩;refine hid2 ?_;intro _ _;obtain⟨m,em,rfl⟩:=zEr hv;obtain⟨m1,m2,m3,m4⟩:=hm m (qAT em);have l2:=hlen i;refine⟨_,rfl,_,rfl,_,_,rfl,DPut.k (k:=Sum.inr m) h2 (by rw[qAE,qAS];lia),?_⟩;rw[put_set];have k3:Kp [] H (upd H2 e (.dK (dT1 (addA (zCf S (ms.take i)) m) λ_=>.bl true))):=Kp.new k2 fe;have nfa:fa m≠e:=ne_fre fe m3;refine⟨_,rfl,.inr (.inr (.inl ⟨rfl,.inl ⟨_,upd_same⟩⟩)),_,rfl,_,rfl,_,.ref (fa m),rfl,?_,_,fa m,_,_,rfl,rfl,upd_same,k3 _ _ m3 (by simp),nfa.symm,?_,?_⟩
   .have:=DGet.k (k:=Sum.inr m) (k3 d _ hd (by simp));rw[zDg,qAC m1]at this;exact this
   .have:=hS m (qAT em);rw[qAE,qAE,qAS]
    have:(addA (zCf S (ms.take i)) m).length<=(zCf S (ms.take i)).length+1:=by
     unfold addA;split
     .lia
     .rw [qAm];exact qAG _
    lia
   .rw [mrg_set];refine⟨⟨_,rfl⟩,Kp.new k3 fe,?_⟩;rw[zAp em,joinA_snoc];exact upd_same
  .rintro σ H2 ⟨⟨o3,rfl⟩,k2,h2⟩;have eM:ms.take (ms.map V.str).length=ms:=by rw[qAE,qAq]
   rw[eM]at h2;exact⟨_,rfl,k e H2 fe h2 k2⟩
end
structure Fp(H0 H:Hp)(e:Addr)(ns D:List Str)(fa:Str->Addr)(S f:Str->List Str):Prop where
 top:H e=some (.dK (dT1 D λn=>.ref (fa n)))
 nd:D.Nodup
 sub:∀n∈D,n∈ns
 row:∀n∈D,SetD H (fa n) (S n)
 snd:∀n∈D,(S n).Nodup
 sns:∀n∈D,∀x∈S n,x∈ns
 mem:∀n∈D,∀x,x∈S n↔x∈f n\/∃m∈f n,x∈S m
 cl:∀n∈D,∀x∈f n,x∈D
 ne:∀n∈D,fa n≠e
 fr:Fre H0 e
 frs:∀n∈D,Fre H0 (fa n)
theorem Fp.kp{H0:Hp}{e:Addr}{D:List Str}{fa:Str->Addr}{S f:Str->List Str}(F:Fp H0 H e ns D fa S f)(k:Kp [] H H'):Fp H0 H' e ns D fa S f :=
 ⟨k e _ F.top (by simp),F.nd,F.sub,λn hn=>k _ _ (F.row n hn) (by simp),F.snd,F.sns,F.mem,F.cl,F.ne,F.fr,F.frs⟩
theorem Fp.more{H0:Hp}{e b:Addr}{D:List Str}{fa:Str->Addr}{S f:Str->List Str}{n:Str}(F:Fp H0 H e ns D fa S f)(hn:n∈ns)(hD:n∉D)(hf:∀x∈f n,x∈D)(hs:∀x∈f n,x∈ns)(hb:SetD H b (zCf S (f n)))(nb:b≠e)(fb:Fre H0 b) :
  Fp H0 (upd H e (.dK (putK (dT1 D λn=>.ref (fa n)) (.inr n) (.ref b)))) e ns (D++[n]) (λx=>if x=n then b else fa x) (λx=>if x=n then zCf S (f n)else S x) f:=by
 have hx:∀x∈D,¬x=n:=λx h z=>hD (z▸h)
 have cs:∀x,x∈D++[n]->x∈D\/x=n:=λx h=>by
  rcases qAY.mp h with z|z
  .exact .inl z
  .exact .inr (qAQ.mp z)
 have eqS:∀{x},x∈D->(if x=n then zCf S (f n)else S x)=S x:=λ{x} h=>qAB (hx x h);have eqn:(if n=n then zCf S (f n)else S n)=zCf S (f n):=qAC rfl;refine⟨?_,?_,λx h=>?_,λx h=>?_,λx h=>?_,λx h y hy=>?_,λx h y=>?_,λx h y hy=>?_,λx h=>?_,F.fr,λx h=>?_⟩
 .rw [upd_same,zIt _ hD];have:dT1 D (λn=>V.ref (fa n))=dT1 D (λx=>V.ref (if x=n then b else fa x)):=dT1_congr λx h=>by rw[qAB (hx x h)]
  rw[this];unfold dT1;rw[qAb];simp
 .refine qBp.mpr ⟨F.nd,by simp,λa ha c hc=>?_⟩;rw[qAQ.mp hc];exact hx a ha
 .rcases cs x h with z|z
  .exact F.sub x z
  .rw [z];exact hn
 .rcases cs x h with z|z
  .show upd H e _ (if x=n then b else fa x)=some (.dK (dT1 (if x=n then zCf S (f n)else S x) λ_=>.bl true));rw[qAB (hx x z),qAB (hx x z),upd_ne (F.ne x z)];exact F.row x z
  .subst z;show upd H e _ (if x=x then b else fa x)=some (.dK (dT1 (if x=x then zCf S (f x)else S x) λ_=>.bl true));rw[qAC rfl,qAC rfl,upd_ne nb];exact hb
 .rcases cs x h with z|z
  .show (if x=n then zCf S (f n)else S x).Nodup;rw[eqS z];exact F.snd x z
  .subst z;show(if x=x then zCf S (f x)else S x).Nodup;rw[qAC rfl];exact zHa _ _
 .rcases cs x h with z|z
  .have hy:y∈(if x=n then zCf S (f n)else S x):=hy;rw[eqS z]at hy;exact F.sns x z y hy
  .subst z;have hy:y∈(if x=x then zCf S (f x)else S x):=hy;rw[qAC rfl]at hy;rcases zHc.mp hy with q|⟨m,q1,q2⟩
   .exact hs y q
   .exact F.sns m (hf m q1) y q2
 .rcases cs x h with z|z
  .show y∈(if x=n then zCf S (f n)else S x)↔y∈f x\/∃m∈f x,y∈(if m=n then zCf S (f n)else S m);rw[eqS z,F.mem x z y];constructor
   .rintro (q|⟨m,q1,q2⟩)
    .exact .inl q
    .exact .inr ⟨m,q1,by rw[eqS (F.cl x z m q1)];exact q2⟩
   .rintro (q|⟨m,q1,q2⟩)
    .exact .inl q
    .rw [eqS (F.cl x z m q1)]at q2;exact .inr ⟨m,q1,q2⟩
  .subst z;show y∈(if x=x then zCf S (f x)else S x)↔y∈f x\/∃m∈f x,y∈(if m=x then zCf S (f x)else S m);rw[qAC rfl,zHc];constructor
   .rintro (q|⟨m,q1,q2⟩)
    .exact .inl q
    .exact .inr ⟨m,q1,by rw[eqS (hf m q1)];exact q2⟩
   .rintro (q|⟨m,q1,q2⟩)
    .exact .inl q
    .rw [eqS (hf m q1)]at q2;exact .inr ⟨m,q1,q2⟩
 .rcases cs x h with z|z
  .exact qAo _ (F.cl x z y hy)
  .subst z;exact qAo _ (hf y hy)
 .rcases cs x h with z|z
  .show (if x=n then b else fa x)≠e;rw[qAB (hx x z)];exact F.ne x z
  .subst z;show(if x=x then b else fa x)≠e;rw[qAC rfl];exact nb
 .rcases cs x h with z|z
  .show Fre H0 (if x=n then b else fa x);rw[qAB (hx x z)];exact F.frs x z
  .subst z;show Fre H0 (if x=x then b else fa x);rw[qAC rfl];exact fb
theorem zHk{p:α->Bool}{x:α}:∀{L:List α},x∈L->p x=false->(L.filter p).length<L.length
 |a::L,h,hp=>by
  rcases qAL.mp h with z|z
  .subst z;rw[qBu,qAB (by rw[hp];decide),qAZ];exact Nat.lt_succ_of_le (qBt _ _)
  .have:=zHk z hp;rw[qBu,qAZ];split
   .rw [qAZ];lia
   .lia
theorem has_dT1(D:List Str)(g:Str->V)(x:Str):(valV (dT1 D g) (.inr x)).isSome=decide (x∈D):=by
 rw[zDg]
 by_cases h:x∈D
 .rw [qAC h,qAP h];rfl
 .rw [qAB h,qAO h];rfl
section
abbrev zCx:Stmt:=top 31
theorem zBy:FnScope ["names","told","far","left","free","name"] ["names","told"] (zAe zCx):=fnS
def leftN(σ:St)(H:Hp):Nat:=match (σ[3]?:Option (Option V))with
 |some (some (.ref a))=>match H a with
  |some (.lst xs)=>xs.length
  |_=>0
 |_=>0
end
def jf(r p e:Addr):List (Str×V):=putF "above" (.ref e) (putF "pairs" (.ref p) (putF "row" (.ref r) []))
theorem jf_row(r p e:Addr):(jf r p e).lookup ("row": Str)=some (.ref r):=by
 unfold jf;rw[zAy,qAB (by decide +kernel),zAy,qAB (by decide +kernel),zAy,qAC rfl]
theorem jf_pairs(r p e:Addr):(jf r p e).lookup ("pairs": Str)=some (.ref p):=by
 unfold jf;rw[zAy,qAB (by decide +kernel),zAy,qAC rfl]
theorem jf_no(r p e:Addr){m:Str}(h1:¬m="above")(h2:¬m="pairs")(h3:¬m="row"):(jf r p e).lookup m=none:=by
 unfold jf;rw[zAy,qAB h1,zAy,qAB h2,zAy,qAB h3];rfl
structure JC(K:PySem.W.Frag)(mg:Str->Option Value)(C:Addr):Prop where
 cl:Cls K C
 n_row:zDf K C "row"
 n_pairs:zDf K C "pairs"
 n_above:zDf K C "above"
 mgC:mg "Jobs"=some (.ref C)
structure JR where
 dx:Addr
 r:Addr
 p:Addr
 e:Addr
 ns:List Str
 zs:List (List Str×Addr)
 D:List Str
 fa:Str->Addr
 S:Str->List Str
structure JobsAt(C:Addr)(H:Hp)(j:Addr)(J:JR):Prop where
 ob:H j=some (.ins C J.dx (jf J.r J.p J.e))
 row:Txs H J.r J.ns
 prs:Ords H J.p J.zs
 abv:H J.e=some (.dK (dT1 J.D λn=>.ref (J.fa n)))
 all:∀n∈J.ns,n∈J.D
 sets:∀n∈J.D,SetD H (J.fa n) (J.S n)
 few:J.ns.length<=20
 zfew:J.zs.length<=306
 nd:J.ns.Nodup
 zin:∀q∈J.zs,∀x∈q.1,x∈J.ns
 mem:∀n∈J.ns,∀x,x∈J.S n↔x∈told J.zs n\/∃m∈told J.zs n,x∈J.S m
theorem JobsAt.kp{M:List Addr}{C:Addr}{j:Addr}{J:JR}(A:JobsAt C H j J)(k:Kp M H H')(h:∀a o,H a=some o->a∈M->a≠j/\a≠J.r/\a≠J.p/\a≠J.e/\(∀q∈J.zs,a≠q.2)/\∀n∈J.D,a≠J.fa n):JobsAt C H' j J where
 ob:=k _ _ A.ob λz=>(h _ _ A.ob z).1 rfl
 row:=k _ _ A.row λz=>(h _ _ A.row z).2.1 rfl
 prs:=⟨k _ _ A.prs.top λz=>(h _ _ A.prs.top z).2.2.1 rfl,λq hq=>k _ _ (A.prs.row q hq) λz=>(h _ _ (A.prs.row q hq) z).2.2.2.2.1 q hq rfl,A.prs.two⟩
 abv:=k _ _ A.abv λz=>(h _ _ A.abv z).2.2.2.1 rfl
 all:=A.all
 sets:=λn hn=>k _ _ (A.sets n hn) λz=>(h _ _ (A.sets n hn) z).2.2.2.2.2 n hn rfl
 few:=A.few
 zfew:=A.zfew
 nd:=A.nd
 zin:=A.zin
 mem:=A.mem
theorem JobsAt.kp0{C:Addr}{j:Addr}{J:JR}(A:JobsAt C H j J)(k:Kp [] H H'):JobsAt C H' j J:=A.kp k λ_ _ _ z=>nomatch z
section
theorem zGi{p:α->Bool}{xs:List α}{x:α}(e:xs[i]?=some x)(h:p x=true):(xs.take (i+1)).filter p=(xs.take i).filter p++[x]:=by
 rw[zAp e,qCB,qBu,qAC h];rfl
theorem zJi{p:α->Bool}{xs:List α}{x:α}(e:xs[i]?=some x)(h:¬p x=true):(xs.take (i+1)).filter p=(xs.take i).filter p:=by
 rw[zAp e,qCB,qBu,qAB h];simp
theorem zGj{p:α->Bool}{xs:List α}(h:xs.length<=4096):(((xs.take i).filter p)).length<sizeLine:=by
 have h1:=qBt p (xs.take i);rw[qAd]at h1;rw[qAS];lia
end
end My
namespace TimP
open PySem PyProof.Rows Tim
variable{i n lo nrem:Nat}{x:Keyed}{st:SortSt}{α:Type}
theorem perm_ct{l m:List Keyed}(h:∀p:Keyed->Bool,l.countP p=m.countP p):l.Perm m:=by
 letI:DecidableEq Keyed:=λa b=>Classical.propDecidable (a=b)
 exact List.perm_iff_count.mpr λx=>h (·==x)
theorem cd{a:Array Keyed}{j:Nat}(h:i<=j)(p:Keyed->Bool):(a.extract i j).toList.countP p+(a.toList.drop j).countP p=(a.toList.drop i).countP p:=by
 have e:a.toList.drop j=(a.toList.drop i).drop (j-i):=by rw[List.drop_drop];congr 1;lia
 rw[qB1,List.extract_eq_drop_take,e,<-qCC,qBd]
theorem ck{a:Array Keyed}{j:Nat}(h:i<=j)(p:Keyed->Bool):(a.extract i j).toList.countP p+(a.toList.take i).countP p=(a.toList.take j).countP p:=by
 have h1:=cd (a:=a) h p;have h2:=qAj (List.countP p) (qBd i a.toList);have h3:=qAj (List.countP p) (qBd j a.toList);rw[qCC]at h2 h3;lia
theorem zI3{a:Array Keyed}(e:a[i]?=some x):(a.extract i (i+1)).toList=[x]:=by
 have hi:=(qBK.mp e).1;have hx:=(qBK.mp e).2;rw[qB1,List.extract_eq_drop_take,Nat.add_sub_cancel_left,List.drop_eq_getElem_cons (by simpa using hi)];simp[hx]
theorem all0(a:Array Keyed)(p:Keyed->Bool):(a.toList.drop a.size).countP p=0:=by rw[qDT (by simp)];rfl
theorem zD8(a b:Array Keyed)(p:Keyed->Bool):(a++b).toList.countP p=a.toList.countP p+b.toList.countP p:=by rw[qC8,qCC]
theorem zJm(a:Array Keyed)(x:Keyed)(p:Keyed->Bool):(a.push x).toList.countP p=a.toList.countP p+[x].countP p:=by rw[qCk,qCC]
theorem ct_rev(a:Array Keyed)(p:Keyed->Bool):a.reverse.toList.countP p=a.toList.countP p:=by rw[Array.toList_reverse,List.countP_reverse]
section
variable{a b out:Array Keyed}{ia ib:Nat}
structure MI(a b out:Array Keyed)(ia ib:Nat):Prop where
 la:ia<=a.size
 lb:ib<=b.size
 ct:∀p,out.toList.countP p+(a.toList.drop ia).countP p+(b.toList.drop ib).countP p=a.toList.countP p+b.toList.countP p
def Fn(a b r:Array Keyed):Prop:=∀p,r.toList.countP p=a.toList.countP p+b.toList.countP p
theorem MI.tAs(M:MI a b out ia ib)(k:Nat)(h:ia+k<=a.size):MI a b (out++a.extract ia (ia+k)) (ia+k) ib:=⟨h,M.lb,λp=>by
 have h1:=M.ct p;have h2:=cd (a:=a) (show ia<=ia+k by lia) p;rw[zD8];lia⟩
theorem MI.tBs(M:MI a b out ia ib)(k:Nat)(h:ib+k<=b.size):MI a b (out++b.extract ib (ib+k)) ia (ib+k):=⟨M.la,h,λp=>by
 have h1:=M.ct p;have h2:=cd (a:=b) (show ib<=ib+k by lia) p;rw[zD8];lia⟩
theorem MI.tA(M:MI a b out ia ib)(e:a[ia]?=some x):MI a b (out.push x) (ia+1) ib:=⟨(qBK.mp e).1,M.lb,λp=>by
 have h1:=M.ct p;have h2:=cd (a:=a) (show ia<=ia+1 by lia) p;rw[zI3 e]at h2;rw[zJm];lia⟩
theorem MI.tB(M:MI a b out ia ib)(e:b[ib]?=some x):MI a b (out.push x) ia (ib+1):=⟨M.la,(qBK.mp e).1,λp=>by
 have h1:=M.ct p;have h2:=cd (a:=b) (show ib<=ib+1 by lia) p;rw[zI3 e]at h2;rw[zJm];lia⟩
theorem MI.f1(M:MI a b out ia ib):Fn a b (out++a.extract ia a.size++b.extract ib b.size):=λp=>by
 have h1:=M.ct p;have h2:=cd (a:=a) M.la p;have h3:=cd (a:=b) M.lb p;rw[all0]at h2 h3;rw[zD8,zD8];lia
theorem MI.f2(M:MI a b out ia ib):Fn a b (out++b.extract ib b.size++a.extract ia a.size):=λp=>by
 have h1:=M.f1 p;rw[zD8,zD8]at h1 ⊢;lia
structure MH(a b out:Array Keyed)(ia ib:Nat):Prop where
 la:ia<=a.size
 lb:ib<=b.size
 ct:∀p,out.toList.countP p+(a.toList.take ia).countP p+(b.toList.take ib).countP p=a.toList.countP p+b.toList.countP p
theorem MH.tAs(M:MH a b out ia ib)(k:Nat)(h:k<=ia):MH a b (out++(a.extract k ia).reverse) k ib:=⟨by have:=M.la;lia,M.lb,λp=>by
 have h1:=M.ct p;have h2:=ck (a:=a) h p;rw[zD8,ct_rev];lia⟩
theorem MH.tBs(M:MH a b out ia ib)(k:Nat)(h:k<=ib):MH a b (out++(b.extract k ib).reverse) ia k:=⟨M.la,by have:=M.lb;lia,λp=>by
 have h1:=M.ct p;have h2:=ck (a:=b) h p;rw[zD8,ct_rev];lia⟩
theorem MH.tA(M:MH a b out (ia+1) ib)(e:a[ia]?=some x):MH a b (out.push x) ia ib:=⟨by have:=M.la;lia,M.lb,λp=>by
 have h1:=M.ct p;have h2:=ck (a:=a) (show ia<=ia+1 by lia) p;rw[zI3 e]at h2;rw[zJm];lia⟩
theorem MH.tB(M:MH a b out ia (ib+1))(e:b[ib]?=some x):MH a b (out.push x) ia ib:=⟨M.la,by have:=M.lb;lia,λp=>by
 have h1:=M.ct p;have h2:=ck (a:=b) (show ib<=ib+1 by lia) p;rw[zI3 e]at h2;rw[zJm];lia⟩
theorem MH.f1(M:MH a b out ia ib):Fn a b (a.extract 0 ia++b.extract 0 ib++out.reverse):=λp=>by
 have h1:=M.ct p;have h2:=ck (a:=a) (qAe ia) p;have h3:=ck (a:=b) (qAe ib) p;rw[List.take_zero,List.countP_nil]at h2 h3;rw[zD8,zD8,ct_rev];lia
theorem MH.f2(M:MH a b out ia ib):Fn a b (b.extract 0 ib++a.extract 0 ia++out.reverse):=λp=>by
 have h1:=M.f1 p;rw[zD8,zD8]at h1 ⊢;lia
end
structure Like(st st':SortSt):Prop where
 kd:kindOf st'=kindOf st
 ar:arrOf st'=arrOf st
 pn:pendingOf st'=pendingOf st
 fl:failedOf st'=failedOf st
theorem Like.refl(st:SortSt):Like st st:=⟨rfl,rfl,rfl,rfl⟩
theorem Like.trans{a b c:SortSt}(h:Like a b)(k:Like b c):Like a c:=⟨k.kd.trans h.kd,k.ar.trans h.ar,k.pn.trans h.pn,k.fl.trans h.fl⟩
section
variable{prog:Program}{w:World}{A:Around}{E:Value->Shared->Prop}{s:Shared}{kd:SortKind}{κ:KeyKind}{a b:Array Keyed}
theorem zB9{a:Array Keyed}(ha:∀x∈a.toList,Has κ x)(hi:i<a.size):∃p,a[i]?=some p/\Has κ p :=
 ⟨a[i],by simp,ha _ (by simp)⟩
theorem w_gal{left:Bool}{key:Keyed}{arr:Array Keyed}{base hint:Nat}{Q:Option Nat->SortSt->Prop}(C:CmpOk prog w A s kd κ)(hk:kindOf st=kd)(hkey:Has κ key)
  (hin:∀i,i<n->∃q,arr[base+i]?=some q/\Has κ q) (hh:hint<n) (h:∀k,k<=n->Q (some k) st):wpS (model prog w) A E s (gal left key arr base n hint) Q st:=by
 have ask:∀(i:Nat){R:Option Bool->SortSt->Prop},i<n->(∀c,R (some c) st)->wpS (model prog w) A E s (byd left key arr base i) R st:=λi R hi hR=>w_byd C hk hkey (hin i hi) (hR _)
 have bin:∀(l r:Nat),l<=r->r<=n->∀(F:Nat->Option (Option Nat)×Nat×Nat->StateT SortSt Sem (ForInStep (Option (Option Nat)×Nat×Nat))),
   (∀x l r,F x (none,l,r)=(if l>=r then pure (ForInStep.done (none,l,r)) else do
    let c<-byd left key arr base (l+(r-l) / 2)
    match c with
    |some more=>if more=true then pure (ForInStep.yield (none,l+(r-l) / 2+1,r))else pure (ForInStep.yield (none,l,l+(r-l) / 2))
    |_=>pure (ForInStep.done (some none,l,r))))->∀G:Option (Option Nat)×Nat×Nat->StateT SortSt Sem (Option Nat),(∀l r,G (none,l,r)=pure (some r)) ->
   wpS (model prog w) A E s (forIn [:n] ((none,l,r):Option (Option Nat)×Nat×Nat) F >>= G) Q st:=by
  intro l r hlr hrn F hF G hG
  refine qAF (qA6 (qAz (I:=λx c st'=>st'=st/\∃l r,c=(none,l,r)/\l<=r/\r<=n/\r-l<=n-x) (Q:=λc st'=>st'=st/\∃l r,c=(none,l,r)/\r<=n) ?step ?fin ⟨rfl,l,r,rfl,hlr,hrn,by lia⟩) ?post)
  case fin=>
   rintro c st' ⟨rfl,l,r,rfl,h1,h2,h3⟩;exact⟨rfl,l,r,rfl,h2⟩
  case post=>
   rintro c st' ⟨rfl,l,r,rfl,h1⟩;rw[hG];exact qAH (h r h1)
  case step=>
   rintro x c st' _ hx ⟨rfl,l,r,rfl,h1,h2,h3⟩;rw[hF x l r]
   by_cases hge:l>=r
   .rw [qAC hge];exact qAH ⟨rfl,l,r,rfl,h2⟩
   .rw [qAB hge];refine qAF (ask _ (by lia) λc=>?_);show wpS _ _ _ _ (if c=true then _ else _) _ _;split
    .exact qAH ⟨rfl,_,_,rfl,by lia,h2,by lia⟩
    .exact qAH ⟨rfl,_,_,rfl,by lia,by lia,by lia⟩
 refine qAF (ask hint hh λc0=>?_);show wpS _ _ _ _ (if c0=true then _ else _) _ _;split
 .refine qAF (qA6 (qAz (I:=λx c st'=>st'=st/\∃l o,c=(none,l,o)/\l<o/\hint+l<n) (Q:=λc st'=>st'=st/\∃l o,c=(none,l,o)/\l<o/\hint+l<n) ?step (λc st' h=>h) ⟨rfl,0,1,rfl,by lia,by lia⟩) ?post)
  case step=>
   rintro x c st' _ hx ⟨rfl,l,o,rfl,h1,h2⟩;dsimp only
   by_cases ho:o>=n-hint
   .rw [qAC ho];exact qAH ⟨rfl,l,o,rfl,h1,h2⟩
   .rw [qAB ho];refine qAF (ask (hint+o) (by lia) λc=>?_);show wpS _ _ _ _ (if(!c)=true then _ else _) _ _;split
    .exact qAH ⟨rfl,l,o,rfl,h1,h2⟩
    .exact qAH ⟨rfl,o,2*o+1,rfl,by lia,by lia⟩
  case post=>
   rintro c st' ⟨rfl,l,o,rfl,h1,h2⟩;exact bin (hint+l+1) (hint+min o (n-hint)) (by lia) (by lia) _ (λx l r=>rfl) _ (λl r=>rfl)
 .refine qAF (qA6 (qAz (I:=λx c st'=>st'=st/\∃l o,c=(none,l,o)/\l<o/\l<=hint) (Q:=λc st'=>st'=st/\∃l o,c=(none,l,o)/\l<o/\l<=hint) ?step (λc st' h=>h) ⟨rfl,0,1,rfl,by lia,by lia⟩) ?post)
  case step=>
   rintro x c st' _ hx ⟨rfl,l,o,rfl,h1,h2⟩;dsimp only
   by_cases ho:o>=hint+1
   .rw [qAC ho];exact qAH ⟨rfl,l,o,rfl,h1,h2⟩
   .rw [qAB ho];refine qAF (ask (hint-o) (by lia) λc=>?_);show wpS _ _ _ _ (if c=true then _ else _) _ _;split
    .exact qAH ⟨rfl,l,o,rfl,h1,h2⟩
    .exact qAH ⟨rfl,o,2*o+1,rfl,by lia,by lia⟩
  case post=>
   rintro c st' ⟨rfl,l,o,rfl,h1,h2⟩;exact bin (hint+1-min o (hint+1)) (hint-l) (by lia) (by lia) _ (λx l r=>rfl) _ (λl r=>rfl)
abbrev Cell:=Option (Array Keyed)×Array Keyed×Nat×Nat×Nat×Nat×Nat
def tA(a b o:Array Keyed)(i j g p q:Nat):StateT SortSt Sem (ForInStep Cell):=do
 let x<-elem' a i
 if(i+1+1==a.size)=true then pure (.done (some (o.push x++b.extract j b.size++a.extract (i+1) a.size),o.push x,i+1,j,g,p,q))
 else if(decide (p<7)&&decide (q<7))=true then pure (.done (none,o.push x,i+1,j,g,p,q))
 else pure (.yield (none,o.push x,i+1,j,g,p,q))
def tB(a b o:Array Keyed)(i j g p q:Nat):StateT SortSt Sem (ForInStep Cell):=do
 let y<-elem' b j
 if(j+1==b.size)=true then pure (.done (some (o.push y++a.extract i a.size++b.extract (j+1) b.size),o.push y,i,j+1,g,p,q))
 else do
  let x<-elem' a i
  let r<-gal true x b (j+1) (b.size-(j+1)) 0
  match r with
  |some k=>
   if k>0 then
    if(j+1+k==b.size)=true then pure (.done (some (o.push y++b.extract (j+1) (j+1+k)++a.extract i a.size++b.extract (j+1+k) b.size),o.push y++b.extract (j+1) (j+1+k),i,j+1+k,g,p,k))
    else tA a b (o.push y++b.extract (j+1) (j+1+k)) i (j+1+k) g p k
   else tA a b (o.push y) i (j+1) g p k
  |_=>pure (.done (some (o.push y++a.extract i a.size++b.extract (j+1) b.size),o.push y,i,j+1,g,p,q))
def tT(a b o:Array Keyed)(i j g p q:Nat):StateT SortSt Sem (ForInStep Cell):=do
 let y<-elem' b j
 let r<-gal false y a i (a.size-i) 0
 match r with
 |some k=>
  if k>0 then
   if(i+k+1==a.size)=true then pure (.done (some (o++a.extract i (i+k)++b.extract j b.size++a.extract (i+k) a.size),o++a.extract i (i+k),i+k,j,g,k,q))
   else if(i+k==a.size)=true then pure (.done (some (o++a.extract i (i+k)++a.extract (i+k) a.size++b.extract j b.size),o++a.extract i (i+k),i+k,j,g,k,q))
   else tB a b (o++a.extract i (i+k)) (i+k) j g k q
  else tB a b o i j g k q
 |_=>pure (.done (some (o++a.extract i a.size++b.extract j b.size),o,i,j,g,p,q))
theorem zAs{m:Nat}(h:¬(m==n)=true):m≠n:=by simpa using h
def TO(a b:Array Keyed)(m:Nat)(st3:SortSt)(R:ForInStep Cell->SortSt->Prop):Prop :=
 (∀r o i j g p q,Fn a b r->R (.done (some r,o,i,j,g,p,q)) st3)/\(∀o i j g p q,MI a b o i j->i+1<a.size->j<b.size->m<=i+j->R (.done (none,o,i,j,g,p,q)) st3/\R (.yield (none,o,i,j,g,p,q)) st3)
section
variable{st3:SortSt}{o:Array Keyed}{i j g p q m:Nat}{R:ForInStep Cell->SortSt->Prop}
theorem w_tA(ha:∀x∈a.toList,Has κ x)(M:MI a b o i j)(hi:i+1<a.size)(hj:j<b.size)(hm:m<=i+j)(hR:TO a b m st3 R):wpS (model prog w) A E s (tA a b o i j g p q) R st3:=by
 obtain⟨x,ex,_⟩:=zB9 ha (show i<a.size by lia);have M2:=M.tA ex;refine qAF (zBo ex ?_)
 by_cases d1:(i+1+1==a.size)=true
 .rw [qAC d1];exact qAH (hR.1 _ _ _ _ _ _ _ M2.f2)
 .have:=zAs d1;rw[qAB d1];have q:=hR.2 _ _ _ g p q M2 (by lia) hj (by lia);split
  .exact qAH q.1
  .exact qAH q.2
theorem w_tB(C:CmpOk prog w A s kd κ)(hk:kindOf st3=kd)(ha:∀x∈a.toList,Has κ x)(hb:∀x∈b.toList,Has κ x)(M:MI a b o i j)(hi:i+1<a.size)(hj:j<b.size)(hm:m<=i+j)(hR:TO a b m st3 R) :
  wpS (model prog w) A E s (tB a b o i j g p q) R st3:=by
 obtain⟨y,ey,hyy⟩:=zB9 hb hj;obtain⟨x,ex,hxx⟩:=zB9 ha (show i<a.size by lia);have M2:=M.tB ey;refine qAF (zBo ey ?_)
 by_cases d1:(j+1==b.size)=true
 .rw [qAC d1];exact qAH (hR.1 _ _ _ _ _ _ _ M2.f1)
 .have:=zAs d1;rw[qAB d1];refine qAF (zBo ex (qAF (w_gal C hk hxx (λi hi=>zB9 hb (by lia)) (by lia) λk k1=>?_)));have M3:=M2.tBs k (by lia);show wpS _ _ _ _ (if k>0 then _ else _) _ _
  by_cases hk0:k>0
  .rw [qAC hk0]
   by_cases d2:(j+1+k==b.size)=true
   .rw [qAC d2];exact qAH (hR.1 _ _ _ _ _ _ _ M3.f1)
   .have:=zAs d2;rw[qAB d2];exact w_tA ha M3 hi (by lia) (by lia) hR
  .rw [qAB hk0];exact w_tA ha M2 hi (by lia) (by lia) hR
theorem w_tT(C:CmpOk prog w A s kd κ)(hk:kindOf st3=kd)(ha:∀x∈a.toList,Has κ x)(hb:∀x∈b.toList,Has κ x)(M:MI a b o i j)(hi:i+1<a.size)(hj:j<b.size)(hm:m<=i+j)(hR:TO a b m st3 R):wpS (model prog w) A E s (tT a b o i j g p q) R st3:=by
 obtain⟨y,ey,hyy⟩:=zB9 hb hj;refine qAF (zBo ey (qAF (w_gal C hk hyy (λi hi=>zB9 ha (by lia)) (by lia) λk k1=>?_)));have M3:=M.tAs k (by lia);show wpS _ _ _ _ (if k>0 then _ else _) _ _
 by_cases hk0:k>0
 .rw [qAC hk0]
  by_cases d1:(i+k+1==a.size)=true
  .rw [qAC d1];exact qAH (hR.1 _ _ _ _ _ _ _ M3.f2)
  .rw [qAB d1]
   by_cases d2:(i+k==a.size)=true
   .rw [qAC d2];exact qAH (hR.1 _ _ _ _ _ _ _ M3.f1)
   .have:=zAs d1;have:=zAs d2;rw[qAB d2];exact w_tB C hk ha hb M3 (by lia) hj (by lia) hR
 .rw [qAB hk0];exact w_tB C hk ha hb M hi hj hm hR
end
theorem w_mLo{Q:Array Keyed->SortSt->Prop}(C:CmpOk prog w A s kd κ)(hk:kindOf st=kd)(ha:∀x∈a.toList,Has κ x)(hb:∀x∈b.toList,Has κ x)(na:1<=a.size)(nb:1<=b.size)
  (h:∀r st',Like st st'->Fn a b r->Q r st'):wpS (model prog w) A E s (mLo a b) Q st:=by
 refine qAF (qBo (qBZ ⟨rfl,?_⟩));obtain⟨y0,ey,hy⟩:=zB9 hb (show 0<b.size by lia);refine qAF (zBo ey ?_);have M0:MI a b #[] 0 0:=⟨by lia,by lia,λp=>by simp⟩;have M1:MI a b #[y0] 0 1:=M0.tB ey;show wpS _ _ _ _ (if(1==b.size)=true then _ else _) _ _
 by_cases c1:(1==b.size)=true
 .rw [qAC c1];exact qAH (h _ _ (Like.refl _) M1.f1)
 rw[qAB c1];show wpS _ _ _ _ (if(0+1==a.size)=true then _ else _) _ _
 by_cases c2:(0+1==a.size)=true
 .rw [qAC c2];exact qAH (h _ _ (Like.refl _) M1.f2)
 rw[qAB c2];have:=zAs c1;have:=zAs c2;refine qAF (qBP ?_)
 refine qAF (qA6 (qAz (I:=λx c st'=>Like st st'/\∃out ia ib g,c=(none,out,ia,ib,g)/\MI a b out ia ib/\ia+1<a.size/\ib<b.size/\x+1<=ia+ib) (Q:=λc st'=>Like st st'/\∃r out ia ib g,c=(some r,out,ia,ib,g)/\Fn a b r) ?step ?fin ⟨Like.refl _,_,_,_,_,rfl,M1,by lia,by lia,by lia⟩) ?post)
 case fin=>
  rintro c st' ⟨_,out,ia,ib,g,rfl,M,h1,h2,h3⟩;lia
 case post=>
  rintro c st' ⟨L,r,out,ia,ib,g,rfl,F⟩;exact qAH (h r st' L F)
 case step=>
  rintro x c st1 _ hx1 ⟨L1,out0,ia0,ib0,g0,rfl,M,u1,u2,u3⟩;have hk1:kindOf st1=kd:=L1.kd.trans hk;dsimp only
  refine qAF (qA6 (qAz (I:=λx c st'=>st'=st1/\∃out ia ib p q,c=(none,out,ia,ib,p,q)/\MI a b out ia ib/\ia+1<a.size/\ib<b.size/\ia0+ib0+x<=ia+ib) (Q:=λc st'=>st'=st1/\((∃r out ia ib p q,c=(some r,out,ia,ib,p,q)/\Fn a b r)\/∃out ia ib p q,c=(none,out,ia,ib,p,q)/\MI a b out ia ib/\ia+1<a.size/\ib<b.size/\ia0+ib0+1<=ia+ib)) ?step1 ?fin1 ⟨rfl,_,_,_,_,_,rfl,M,u1,u2,by lia⟩) ?post1)
  case fin1=>
   rintro c st' ⟨rfl,out,ia,ib,p,q,rfl,M',v1,v2,v3⟩;exact⟨rfl,.inr ⟨out,ia,ib,p,q,rfl,M',v1,v2,by lia⟩⟩
  case step1=>
   rintro x2 c st' _ hx2 ⟨rfl,out,ia,ib,p,q,rfl,M',v1,v2,v3⟩;obtain⟨yb,eb,hyb⟩:=zB9 hb v2;obtain⟨xa,ea,hxa⟩:=zB9 ha (show ia<a.size by lia);dsimp only;refine qAF (zBo eb (qAF (zBo ea (qAF (w_lt C hk1 hyb hxa ?_)))));generalize κ.blt (kk κ yb) (kk κ xa)=c;show wpS _ _ _ _ (if c=true then _ else _) _ _
   by_cases e:c=true
   .rw [qAC e];refine qAF (zBo eb ?_);have M2:=M'.tB eb
    by_cases d1:(ib+1==b.size)=true
    .rw [qAC d1];exact qAH ⟨rfl,.inl ⟨_,_,_,_,_,_,rfl,M2.f1⟩⟩
    .have:=zAs d1;rw[qAB d1]
     by_cases d2:q+1>=g0
     .rw [qAC d2];exact qAH ⟨rfl,.inr ⟨_,_,_,_,_,rfl,M2,v1,by lia,by lia⟩⟩
     .rw [qAB d2];exact qAH ⟨rfl,_,_,_,_,_,rfl,M2,v1,by lia,by lia⟩
   .rw [qAB e];refine qAF (zBo ea ?_);have M2:=M'.tA ea
    by_cases d1:(ia+1+1==a.size)=true
    .rw [qAC d1];exact qAH ⟨rfl,.inl ⟨_,_,_,_,_,_,rfl,M2.f2⟩⟩
    .have:=zAs d1;rw[qAB d1]
     by_cases d2:p+1>=g0
     .rw [qAC d2];exact qAH ⟨rfl,.inr ⟨_,_,_,_,_,rfl,M2,by lia,v2,by lia⟩⟩
     .rw [qAB d2];exact qAH ⟨rfl,_,_,_,_,_,rfl,M2,by lia,v2,by lia⟩
  case post1=>
   rintro c st' ⟨rfl,⟨r,out,ia,ib,p,q,rfl,F⟩|⟨out,ia,ib,p,q,rfl,M',v1,v2,v3⟩⟩
   .exact qAH ⟨L1,_,_,_,_,_,rfl,F⟩
   .dsimp only;refine qAF (qBo (qBZ ⟨rfl,?_⟩))
    refine qAF (qA6 (qAz (I:=λx c st'=>Like st st'/\∃out ia ib g p q,c=(none,out,ia,ib,g,p,q)/\MI a b out ia ib/\ia+1<a.size/\ib<b.size/\ia0+ib0+1<=ia+ib) (Q:=λc st'=>Like st st'/\((∃r out ia ib g p q,c=(some r,out,ia,ib,g,p,q)/\Fn a b r)\/∃out ia ib g p q,c=(none,out,ia,ib,g,p,q)/\MI a b out ia ib/\ia+1<a.size/\ib<b.size/\ia0+ib0+1<=ia+ib)) ?step2 ?fin2 ⟨L1,_,_,_,_,_,_,rfl,M',v1,v2,v3⟩) ?post2)
    case fin2=>
     rintro c st' ⟨L,out,ia,ib,g,p,q,rfl,M',v⟩;exact⟨L,.inr ⟨_,_,_,_,_,_,rfl,M',v⟩⟩
    case post2=>
     rintro c st' ⟨L,⟨r,out,ia,ib,g,p,q,rfl,F⟩|⟨out,ia,ib,g,p,q,rfl,M',v1,v2,v3⟩⟩
     .exact qAH ⟨L,_,_,_,_,_,rfl,F⟩
     .dsimp only;refine qAF (qBA (qAH ⟨L.trans ⟨rfl,rfl,rfl,rfl⟩,_,_,_,_,rfl,M',v1,v2,by lia⟩))
    case step2=>
     rintro x3 c st2 _ hx3 ⟨L2,out,ia,ib,g,p,q,rfl,M2,w1,w2,w3⟩;dsimp only
     have run:∀(g':Nat)(R:ForInStep Cell->SortSt->Prop),(∀L3:Like st (SortSt.mk' (kindOf st2) (arrOf st2) (pendingOf st2) g' (failedOf st2)),TO a b (ia0+ib0+1) (SortSt.mk' (kindOf st2) (arrOf st2) (pendingOf st2) g' (failedOf st2)) R)->wpS (model prog w) A E s (tT a b out ia ib g' p q) R (SortSt.mk' (kindOf st2) (arrOf st2) (pendingOf st2) g' (failedOf st2)):=λg' R hR=>by
      have L3:Like st (SortSt.mk' (kindOf st2) (arrOf st2) (pendingOf st2) g' (failedOf st2)):=L2.trans ⟨rfl,rfl,rfl,rfl⟩;exact w_tT C (L3.kd.trans hk) ha hb M2 w1 w2 w3 (hR L3)
     by_cases d0:g>1
     .rw [qAC d0];exact qAF (qBA (run (g-1) _ λL3=>⟨λr o i j g p q F=>⟨L3,.inl ⟨_,_,_,_,_,_,_,rfl,F⟩⟩,λo i j g p q M' h1 h2 h3=>⟨⟨L3,.inr ⟨_,_,_,_,_,_,rfl,M',h1,h2,h3⟩⟩,⟨L3,_,_,_,_,_,_,rfl,M',h1,h2,h3⟩⟩⟩))
     .rw [qAB d0];exact qAF (qBA (run g _ λL3=>⟨λr o i j g p q F=>⟨L3,.inl ⟨_,_,_,_,_,_,_,rfl,F⟩⟩,λo i j g p q M' h1 h2 h3=>⟨⟨L3,.inr ⟨_,_,_,_,_,_,rfl,M',h1,h2,h3⟩⟩,⟨L3,_,_,_,_,_,_,rfl,M',h1,h2,h3⟩⟩⟩))
abbrev CellH:=Option (Array Keyed)×Nat×Nat×Array Keyed×Nat×Nat×Nat
def uA(a b o:Array Keyed)(i j g p q:Nat):StateT SortSt Sem (ForInStep CellH):=do
 let x<-elem' a (i-1)
 if(i-1==0)=true then pure (.done (some (a.extract 0 (i-1)++b.extract 0 j++(o.push x).reverse),i-1,j,o.push x,g,p,q))
 else if(decide (p<7)&&decide (q<7))=true then pure (.done (none,i-1,j,o.push x,g,p,q))
 else pure (.yield (none,i-1,j,o.push x,g,p,q))
def uB(a b o:Array Keyed)(i j g p q:Nat):StateT SortSt Sem (ForInStep CellH):=do
 let y<-elem' b (j-1)
 if(j-1==1)=true then pure (.done (some (b.extract 0 (j-1)++a.extract 0 i++(o.push y).reverse),i,j-1,o.push y,g,p,q))
 else do
  let x<-elem' a (i-1)
  let r<-gal true x b 0 (j-1) (j-1-1)
  match r with
  |some k=>
   if j-1-k>0 then
    if(k==1)=true then pure (.done (some (b.extract 0 k++a.extract 0 i++(o.push y++(b.extract k (j-1)).reverse).reverse),i,k,o.push y++(b.extract k (j-1)).reverse,g,p,j-1-k))
    else if(k==0)=true then pure (.done (some (a.extract 0 i++b.extract 0 k++(o.push y++(b.extract k (j-1)).reverse).reverse),i,k,o.push y++(b.extract k (j-1)).reverse,g,p,j-1-k))
    else uA a b (o.push y++(b.extract k (j-1)).reverse) i k g p (j-1-k)
   else uA a b (o.push y) i (j-1) g p (j-1-k)
  |_=>pure (.done (some (a.extract 0 i++b.extract 0 (j-1)++(o.push y).reverse),i,j-1,o.push y,g,p,q))
def uT(a b o:Array Keyed)(i j g p q:Nat):StateT SortSt Sem (ForInStep CellH):=do
 let y<-elem' b (j-1)
 let r<-gal false y a 0 i (i-1)
 match r with
 |some k=>
  if i-k>0 then
   if(k==0)=true then pure (.done (some (a.extract 0 k++b.extract 0 j++(o++(a.extract k i).reverse).reverse),k,j,o++(a.extract k i).reverse,g,i-k,q))
   else uB a b (o++(a.extract k i).reverse) k j g (i-k) q
  else uB a b o i j g (i-k) q
 |_=>pure (.done (some (a.extract 0 i++b.extract 0 j++o.reverse),i,j,o,g,p,q))
def TH(a b:Array Keyed)(m:Nat)(st3:SortSt)(R:ForInStep CellH->SortSt->Prop):Prop :=
 (∀r o i j g p q,Fn a b r->R (.done (some r,i,j,o,g,p,q)) st3)/\(∀o i j g p q,MH a b o i j->1<=i->1<j->i+j<=m->R (.done (none,i,j,o,g,p,q)) st3/\R (.yield (none,i,j,o,g,p,q)) st3)
section
variable{st3:SortSt}{o:Array Keyed}{i j g p q m:Nat}{R:ForInStep CellH->SortSt->Prop}
theorem w_uA(ha:∀x∈a.toList,Has κ x)(M:MH a b o i j)(hi:1<=i)(hj:1<j)(hm:i+j<=m+1)(hR:TH a b m st3 R):wpS (model prog w) A E s (uA a b o i j g p q) R st3:=by
 have hla:=M.la;obtain⟨n,rfl⟩:∃n,i=n+1:=⟨i-1,by lia⟩;obtain⟨x,ex,_⟩:=zB9 ha (show n<a.size by lia);have M2:=M.tA ex;refine qAF (zBo ex ?_);show wpS _ _ _ _ (if(n==0)=true then _ else _) _ _
 by_cases d1:(n==0)=true
 .rw [qAC d1];exact qAH (hR.1 _ _ _ _ _ _ _ M2.f1)
 .have:=zAs d1;rw[qAB d1];have q:=hR.2 _ _ _ g p q M2 (by lia) hj (by lia);split
  .exact qAH q.1
  .exact qAH q.2
theorem w_uB(C:CmpOk prog w A s kd κ)(hk:kindOf st3=kd)(ha:∀x∈a.toList,Has κ x)(hb:∀x∈b.toList,Has κ x)(M:MH a b o i j)(hi:1<=i)(hj:1<j)(hm:i+j<=m+1)(hR:TH a b m st3 R) :
  wpS (model prog w) A E s (uB a b o i j g p q) R st3:=by
 have hla:=M.la;have hlb:=M.lb;obtain⟨n,rfl⟩:∃n,j=n+1:=⟨j-1,by lia⟩;obtain⟨y,ey,hyy⟩:=zB9 hb (show n<b.size by lia);obtain⟨x,ex,hxx⟩:=zB9 ha (show i-1<a.size by lia);have M2:=M.tB ey;refine qAF (zBo ey ?_);show wpS _ _ _ _ (if(n==1)=true then _ else _) _ _
 by_cases d1:(n==1)=true
 .rw [qAC d1];exact qAH (hR.1 _ _ _ _ _ _ _ M2.f2)
 .have:=zAs d1;rw[qAB d1];refine qAF (zBo ex (qAF (w_gal C hk hxx (λi hi=>zB9 hb (show 0+i<b.size by have:i<n:=hi;lia)) (show n-1<n by lia) λk k1=>?_)));have k1:k<=n:=k1;have M3:=M2.tBs k k1;show wpS _ _ _ _ (if n-k>0 then _ else _) _ _
  by_cases hk0:n-k>0
  .rw [qAC hk0]
   by_cases d2:(k==1)=true
   .rw [qAC d2];exact qAH (hR.1 _ _ _ _ _ _ _ M3.f2)
   .rw [qAB d2]
    by_cases d3:(k==0)=true
    .rw [qAC d3];exact qAH (hR.1 _ _ _ _ _ _ _ M3.f1)
    .have:=zAs d2;have:=zAs d3;rw[qAB d3];exact w_uA ha M3 hi (by lia) (by lia) hR
  .rw [qAB hk0];exact w_uA ha M2 hi (by lia) (show i+n<=m+1 by lia) hR
theorem w_uT(C:CmpOk prog w A s kd κ)(hk:kindOf st3=kd)(ha:∀x∈a.toList,Has κ x)(hb:∀x∈b.toList,Has κ x)(M:MH a b o i j)(hi:1<=i)(hj:1<j)(hm:i+j<=m+1)(hR:TH a b m st3 R):wpS (model prog w) A E s (uT a b o i j g p q) R st3:=by
 have hla:=M.la;have hlb:=M.lb;obtain⟨y,ey,hyy⟩:=zB9 hb (show j-1<b.size by lia);refine qAF (zBo ey (qAF (w_gal C hk hyy (λu hi=>zB9 ha (show 0+u<a.size by have:u<i:=hi;lia)) (show i-1<i by lia) λk k1=>?_)));have k1:k<=i:=k1;have M3:=M.tAs k k1;show wpS _ _ _ _ (if i-k>0 then _ else _) _ _
 by_cases hk0:i-k>0
 .rw [qAC hk0]
  by_cases d1:(k==0)=true
  .rw [qAC d1];exact qAH (hR.1 _ _ _ _ _ _ _ M3.f1)
  .have:=zAs d1;rw[qAB d1];exact w_uB C hk ha hb M3 (by lia) hj (by lia) hR
 .rw [qAB hk0];exact w_uB C hk ha hb M hi hj hm hR
end
theorem w_mHi{Q:Array Keyed->SortSt->Prop}(C:CmpOk prog w A s kd κ)(hk:kindOf st=kd)(ha:∀x∈a.toList,Has κ x)(hb:∀x∈b.toList,Has κ x)(na:1<=a.size)(nb:1<=b.size)
  (h:∀r st',Like st st'->Fn a b r->Q r st'):wpS (model prog w) A E s (mHi a b) Q st:=by
 refine qAF (qBo (qBZ ⟨rfl,?_⟩));obtain⟨n,hn⟩:∃n,a.size=n+1:=⟨a.size-1,by lia⟩;obtain⟨x0,ex,hx⟩:=zB9 ha (show n<a.size by lia);have en:a.size-1=n:=by lia
 refine qAF (zBo (p:=x0) (by rw[en];exact ex) ?_);have M0:MH a b #[] (n+1) b.size:=⟨by lia,by lia,λp=>by rw[<-hn,qBQ (show a.toList.length<=a.size by simp),qBQ (show b.toList.length<=b.size by simp)];simp⟩;have M1:MH a b #[x0] n b.size:=M0.tA ex;rw[<-en]at M1;show wpS _ _ _ _ (if(a.size-1==0)=true then _ else _) _ _
 by_cases c1:(a.size-1==0)=true
 .rw [qAC c1];exact qAH (h _ _ (Like.refl _) M1.f1)
 rw[qAB c1]
 by_cases c2:(b.size==1)=true
 .rw [qAC c2];exact qAH (h _ _ (Like.refl _) M1.f2)
 rw[qAB c2];have:=zAs c1;have:=zAs c2;refine qAF (qBP ?_)
 refine qAF (qA6 (qAz (I:=λx c st'=>Like st st'/\∃out i j g,c=(none,i,j,out,g)/\MH a b out i j/\1<=i/\1<j/\i+j+x<=a.size+b.size) (Q:=λc st'=>Like st st'/\∃r out i j g,c=(some r,i,j,out,g)/\Fn a b r) ?step ?fin ⟨Like.refl _,_,_,_,_,rfl,M1,by lia,by lia,by lia⟩) ?post)
 case fin=>
  rintro c st' ⟨_,out,i,j,g,rfl,M,h1,h2,h3⟩;lia
 case post=>
  rintro c st' ⟨L,r,out,i,j,g,rfl,F⟩;exact qAH (h r st' L F)
 case step=>
  rintro x c st1 _ hx1 ⟨L1,out0,i0,j0,g0,rfl,M,u1,u2,u3⟩;have hk1:kindOf st1=kd:=L1.kd.trans hk;dsimp only
  refine qAF (qA6 (qAz (I:=λx c st'=>st'=st1/\∃out i j p q,c=(none,i,j,out,p,q)/\MH a b out i j/\1<=i/\1<j/\i+j+x<=i0+j0) (Q:=λc st'=>st'=st1/\((∃r out i j p q,c=(some r,i,j,out,p,q)/\Fn a b r)\/∃out i j p q,c=(none,i,j,out,p,q)/\MH a b out i j/\1<=i/\1<j/\i+j+1<=i0+j0)) ?step1 ?fin1 ⟨rfl,_,_,_,_,_,rfl,M,u1,u2,by lia⟩) ?post1)
  case fin1=>
   rintro c st' ⟨rfl,out,i,j,p,q,rfl,M',v1,v2,v3⟩;exact⟨rfl,.inr ⟨out,i,j,p,q,rfl,M',v1,v2,by lia⟩⟩
  case step1=>
   rintro x2 c st' _ hx2 ⟨rfl,out,i,j,p,q,rfl,M',v1,v2,v3⟩;have hla:=M'.la;have hlb:=M'.lb;obtain⟨n,rfl⟩:∃n,i=n+1:=⟨i-1,by lia⟩;obtain⟨m,rfl⟩:∃m,j=m+1:=⟨j-1,by lia⟩;obtain⟨yb,eb,hyb⟩:=zB9 hb (show m<b.size by lia);obtain⟨xa,ea,hxa⟩:=zB9 ha (show n<a.size by lia);dsimp only;refine qAF (zBo eb (qAF (zBo ea (qAF (w_lt C hk1 hyb hxa ?_)))));generalize κ.blt (kk κ yb) (kk κ xa)=c;show wpS _ _ _ _ (if c=true then _ else _) _ _
   by_cases e:c=true
   .rw [qAC e];refine qAF (zBo ea ?_);have M2:=M'.tA ea;show wpS _ _ _ _ (if(n==0)=true then _ else _) _ _
    by_cases d1:(n==0)=true
    .rw [qAC d1];exact qAH ⟨rfl,.inl ⟨_,_,_,_,_,_,rfl,M2.f1⟩⟩
    .have:=zAs d1;rw[qAB d1]
     by_cases d2:p+1>=g0
     .rw [qAC d2];exact qAH ⟨rfl,.inr ⟨_,_,_,_,_,rfl,M2,by lia,v2,by lia⟩⟩
     .rw [qAB d2];exact qAH ⟨rfl,_,_,_,_,_,rfl,M2,by lia,v2,by lia⟩
   .rw [qAB e];refine qAF (zBo eb ?_);have M2:=M'.tB eb;show wpS _ _ _ _ (if(m==1)=true then _ else _) _ _
    by_cases d1:(m==1)=true
    .rw [qAC d1];exact qAH ⟨rfl,.inl ⟨_,_,_,_,_,_,rfl,M2.f2⟩⟩
    .have:=zAs d1;rw[qAB d1]
     by_cases d2:q+1>=g0
     .rw [qAC d2];exact qAH ⟨rfl,.inr ⟨_,_,_,_,_,rfl,M2,v1,by lia,by lia⟩⟩
     .rw [qAB d2];exact qAH ⟨rfl,_,_,_,_,_,rfl,M2,v1,by lia,by lia⟩
  case post1=>
   rintro c st' ⟨rfl,⟨r,out,i,j,p,q,rfl,F⟩|⟨out,i,j,p,q,rfl,M',v1,v2,v3⟩⟩
   .exact qAH ⟨L1,_,_,_,_,_,rfl,F⟩
   .dsimp only;refine qAF (qBo (qBZ ⟨rfl,?_⟩))
    refine qAF (qA6 (qAz (I:=λx c st'=>Like st st'/\∃out i j g p q,c=(none,i,j,out,g,p,q)/\MH a b out i j/\1<=i/\1<j/\i+j+1<=i0+j0) (Q:=λc st'=>Like st st'/\((∃r out i j g p q,c=(some r,i,j,out,g,p,q)/\Fn a b r)\/∃out i j g p q,c=(none,i,j,out,g,p,q)/\MH a b out i j/\1<=i/\1<j/\i+j+1<=i0+j0)) ?step2 ?fin2 ⟨L1,_,_,_,_,_,_,rfl,M',v1,v2,v3⟩) ?post2)
    case fin2=>
     rintro c st' ⟨L,out,i,j,g,p,q,rfl,M',v⟩;exact⟨L,.inr ⟨_,_,_,_,_,_,rfl,M',v⟩⟩
    case post2=>
     rintro c st' ⟨L,⟨r,out,i,j,g,p,q,rfl,F⟩|⟨out,i,j,g,p,q,rfl,M',v1,v2,v3⟩⟩
     .exact qAH ⟨L,_,_,_,_,_,rfl,F⟩
     .dsimp only;refine qAF (qBA (qAH ⟨L.trans ⟨rfl,rfl,rfl,rfl⟩,_,_,_,_,rfl,M',v1,v2,by lia⟩))
    case step2=>
     rintro x3 c st2 _ hx3 ⟨L2,out,i,j,g,p,q,rfl,M2,w1,w2,w3⟩;dsimp only
     have run:∀(g':Nat)(R:ForInStep CellH->SortSt->Prop),(∀L3:Like st (SortSt.mk' (kindOf st2) (arrOf st2) (pendingOf st2) g' (failedOf st2)),TH a b (i0+j0-1) (SortSt.mk' (kindOf st2) (arrOf st2) (pendingOf st2) g' (failedOf st2)) R)->wpS (model prog w) A E s (uT a b out i j g' p q) R (SortSt.mk' (kindOf st2) (arrOf st2) (pendingOf st2) g' (failedOf st2)):=λg' R hR=>by
      have L3:Like st (SortSt.mk' (kindOf st2) (arrOf st2) (pendingOf st2) g' (failedOf st2)):=L2.trans ⟨rfl,rfl,rfl,rfl⟩;exact w_uT C (L3.kd.trans hk) ha hb M2 w1 w2 (by lia) (hR L3)
     by_cases d0:g>1
     .rw [qAC d0];exact qAF (qBA (run (g-1) _ λL3=>⟨λr o i j g p q F=>⟨L3,.inl ⟨_,_,_,_,_,_,_,rfl,F⟩⟩,λo i j g p q M' h1 h2 h3=>⟨⟨L3,.inr ⟨_,_,_,_,_,_,rfl,M',h1,h2,by lia⟩⟩,⟨L3,_,_,_,_,_,_,rfl,M',h1,h2,by lia⟩⟩⟩))
     .rw [qAB d0];exact qAF (qBA (run g _ λL3=>⟨λr o i j g p q F=>⟨L3,.inl ⟨_,_,_,_,_,_,_,rfl,F⟩⟩,λo i j g p q M' h1 h2 h3=>⟨⟨L3,.inr ⟨_,_,_,_,_,_,rfl,M',h1,h2,by lia⟩⟩,⟨L3,_,_,_,_,_,_,rfl,M',h1,h2,by lia⟩⟩⟩))
end
section
variable{prog:Program}{w:World}{A:Around}{E:Value->Shared->Prop}{s:Shared}{kd:SortKind}{κ:KeyKind}
structure Fr(st st':SortSt):Prop where
 kd:kindOf st'=kindOf st
 pn:pendingOf st'=pendingOf st
 fl:failedOf st'=failedOf st
 perm:(arrOf st').Perm (arrOf st)
theorem Fr.refl(st:SortSt):Fr st st:=⟨rfl,rfl,rfl,Array.Perm.refl _⟩
theorem Fr.trans{a b c:SortSt}(h:Fr a b)(k:Fr b c):Fr a c:=⟨k.kd.trans h.kd,k.pn.trans h.pn,k.fl.trans h.fl,k.perm.trans h.perm⟩
theorem Fr.size{a b:SortSt}(h:Fr a b):(arrOf b).size=(arrOf a).size:=h.perm.size_eq
theorem Fr.rev(st:SortSt)(i j k:Nat):Fr st (setArr st (mirror (arrOf st) i j k)):=⟨rfl,rfl,rfl,mirror_perm _ _ _ _⟩
def All(κ:KeyKind)(st:SortSt):Prop:=∀x∈(arrOf st).toList,Has κ x
theorem All.fr{a b:SortSt}(h:All κ a)(f:Fr a b):All κ b:=λx hx=>h x ((qDG.mp f.perm).mem_iff.mp hx)
theorem All.at(h:All κ st)(hi:i<(arrOf st).size):∃p,(arrOf st)[i]?=some p/\Has κ p:=zB9 h hi
theorem w_ask{j:Nat}{Q:Option Bool->SortSt->Prop}(C:CmpOk prog w A s kd κ)(hk:kindOf st=kd)(al:All κ st)(hi:i<(arrOf st).size)(hj:j<(arrOf st).size)(h:∀c,Q (some c) st):wpS (model prog w) A E s (ltAt' i j) Q st:=w_ltAt C hk (al.at hi) (al.at hj) (h _)
theorem w_asc{n0:Nat}{Q:α->SortSt->Prop}(C:CmpOk prog w A s kd κ)(hk:kindOf st=kd)(al:All κ st)(hn:lo+nrem<=(arrOf st).size)(h1:1<=n0)(h2:n0<=nrem)
  (F:Nat->Option (Option Nat)×Nat->StateT SortSt Sem (ForInStep (Option (Option Nat)×Nat))) (hF:∀x n,F x (none,n)=(do
   let c<-ltAt' (lo+n) (lo+n-1)
   match c with
   |some c=>if c=true then pure (ForInStep.done (none,n))else pure (ForInStep.yield (none,n+1))
   |_=>pure (ForInStep.done (some none,n)))) (G:Option (Option Nat)×Nat->StateT SortSt Sem α)
  (hG:∀n,n0<=n->n<=nrem->wpS (model prog w) A E s (G (none,n)) Q st) :
  wpS (model prog w) A E s (forIn [n0:nrem] ((none,n0):Option (Option Nat)×Nat) F >>= G) Q st:=by
 refine qAF (qAz (I:=λx c st'=>st'=st/\c=(none,x)/\x<=nrem) ?step ?fin ⟨rfl,rfl,h2⟩)
 case fin=>
  rintro c st' ⟨rfl,rfl,h3⟩;rw[show max n0 nrem=nrem by lia];exact hG nrem h2 (qAG _)
 case step=>
  rintro x c st' hx1 hx2 ⟨rfl,rfl,h3⟩;rw[hF];refine qAF (w_ask C hk al (by lia) (by lia) λc=>?_);show wpS _ _ _ _ (if c=true then _ else _) _ _;split
  .exact qAH (hG x hx1 h3)
  .exact qAH ⟨rfl,rfl,by lia⟩
theorem w_tail{Q:Option Nat->SortSt->Prop}(C:CmpOk prog w A s kd κ)(hk:kindOf st=kd)(al:All κ st)(hn:lo+nrem<=(arrOf st).size)(h1:1<=n)(h2:n<=nrem)
  (F:Nat->Option (Option Nat)×Nat->StateT SortSt Sem (ForInStep (Option (Option Nat)×Nat))) (hF:∀x n,F x (none,n)=(do
   let c<-ltAt' (lo+n) (lo+n-1)
   match c with
   |some c=>if c=true then pure (ForInStep.done (none,n))else pure (ForInStep.yield (none,n+1))
   |_=>pure (ForInStep.done (some none,n)))) (G:Option (Option Nat)×Nat->StateT SortSt Sem (Option Nat)) (hG:∀n,G (none,n)=pure (some n))
  (h:∀m st',Fr st st'->1<=m->m<=nrem->Q (some m) st') :
  wpS (model prog w) A E s (reverseSlice' lo (lo+n) >>= λ_=>forIn [n:nrem] ((none,n):Option (Option Nat)×Nat) F >>= G) Q st:=by
 have f:=Fr.rev st lo (lo+n) ((lo+n-lo) / 2);refine qAF (qCx ?_);refine w_asc C (f.kd.trans hk) (al.fr f) (by rw[f.size];exact hn) h1 h2 F hF G λm m1 m2=>?_;rw[hG];exact qAH (h m _ f (by lia) m2)
theorem w_desc{n0:Nat}{Q:α->SortSt->Prop}(C:CmpOk prog w A s kd κ)(hk:kindOf st=kd)(al:All κ st)(hn:lo+nrem<=(arrOf st).size)(h1:1<=n0)(h2:n0<=nrem)
  (F:Nat->Option (Option Nat)×Nat×Nat->StateT SortSt Sem (ForInStep (Option (Option Nat)×Nat×Nat))) (hF:∀x n q,F x (none,n,q)=(ltAt' (lo+n) (lo+n-1) >>= λc=>match c with
   |some c=>(if c=true then(if q>0 then(reverseSlice' (lo+n-(q+1)) (lo+n) >>= λ_=>pure (ForInStep.yield (none,n+1,0)))else pure (ForInStep.yield (none,n+1,0)))
    else(ltAt' (lo+n-1) (lo+n) >>= λd=>match d with
     |some d=>(if d=true then pure (ForInStep.done (none,n,q))else pure (ForInStep.yield (none,n+1,q+1)))
     |_=>pure (ForInStep.done (some none,n,q))))
   |_=>pure (ForInStep.done (some none,n,q)))) (G:Option (Option Nat)×Nat×Nat->StateT SortSt Sem α)
  (hG:∀n q st',Fr st st'->n0<=n->n<=nrem->wpS (model prog w) A E s (G (none,n,q)) Q st') :
  wpS (model prog w) A E s (forIn [n0:nrem] ((none,n0,0):Option (Option Nat)×Nat×Nat) F >>= G) Q st:=by
 refine qAF (qAz (I:=λx c st'=>Fr st st'/\∃q,c=(none,x,q)/\x<=nrem) ?step ?fin ⟨Fr.refl _,0,rfl,h2⟩)
 case fin=>
  rintro c st' ⟨f,q,rfl,h3⟩;rw[show max n0 nrem=nrem by lia];exact hG nrem q st' f h2 (qAG _)
 case step=>
  rintro x c st' hx1 hx2 ⟨f,q,rfl,h3⟩;have hz:(arrOf st').size=(arrOf st).size:=f.size;have al':=al.fr f;have hk':=f.kd.trans hk;rw[hF];refine qAF (w_ask C hk' al' (by lia) (by lia) λc=>?_);show wpS _ _ _ _ (if c=true then _ else _) _ _
  by_cases e:c=true
  .rw [qAC e]
   by_cases hq:q>0
   .rw [qAC hq];exact qAF (qCx (qAH ⟨f.trans (Fr.rev _ _ _ _),0,rfl,by lia⟩))
   .rw [qAB hq];exact qAH ⟨f,0,rfl,by lia⟩
  .rw [qAB e];refine qAF (w_ask C hk' al' (by lia) (by lia) λd=>?_);show wpS _ _ _ _ (if d=true then _ else _) _ _
   by_cases e2:d=true
   .rw [qAC e2];exact qAH (hG x q st' f hx1 h3)
   .rw [qAB e2];exact qAH ⟨f,q+1,rfl,by lia⟩
theorem w_count{Q:Option Nat->SortSt->Prop}(C:CmpOk prog w A s kd κ)(hk:kindOf st=kd)(al:All κ st)(hn:lo+nrem<=(arrOf st).size)(h1:1<=nrem)
  (h:∀m st',Fr st st'->1<=m->m<=nrem->Q (some m) st'):wpS (model prog w) A E s (countRun' lo nrem) Q st:=by
 refine w_asc C hk al hn (qAG 1) h1 _ (λx n=>rfl) _ λn n1 n2=>?_;show wpS _ _ _ _ (if(n==nrem)=true then _ else _) _ _
 by_cases c:(n==nrem)=true
 .rw [qAC c];exact qAH (h n st (Fr.refl _) n1 n2)
 rw[qAB c];have c':=zAs c;show wpS _ _ _ _ (if n>1 then _ else _) _ _
 by_cases g:n>1
 .rw [qAC g];refine qAF (w_ask C hk al (by lia) (by lia) λc=>?_);show wpS _ _ _ _ (if c=true then _ else _) _ _
  by_cases e:c=true
  .rw [qAC e];exact qAH (h n st (Fr.refl _) n1 n2)
  .rw [qAB e];have f1:=Fr.rev st lo (lo+n) ((lo+n-lo) / 2);refine qAF (qCx ?_);refine qAF (qBo (qBZ ⟨rfl,?_⟩));refine w_desc C (f1.kd.trans hk) (al.fr f1) (by rw[f1.size];exact hn) (by lia) (by lia) _ (λx n q=>rfl) _ λm q st2 f2 m1 m2=>?_;have f2:=f1.trans f2;show wpS _ _ _ _ (if q>0 then _ else _) _ _
   by_cases hq:q>0
   .rw [qAC hq];have f3:=f2.trans (Fr.rev st2 (lo+m-(q+1)) (lo+m) ((lo+m-(lo+m-(q+1))) / 2));refine qAF (qCx ?_);exact w_tail C (f3.kd.trans hk) (al.fr f3) (by rw[f3.size];exact hn) (by lia) m2 _ (λx n=>rfl) _ (λn=>rfl) λm' st' f'=>h m' st' (f3.trans f')
   .rw [qAB hq];exact w_tail C (f2.kd.trans hk) (al.fr f2) (by rw[f2.size];exact hn) (by lia) m2 _ (λx n=>rfl) _ (λn=>rfl) λm' st' f'=>h m' st' (f2.trans f')
 .rw [qAB g];have en:n=1:=by lia
  subst en;refine qAF (qBo (qBZ ⟨rfl,?_⟩));refine w_desc C hk al hn (by lia) (by lia) _ (λx n q=>rfl) _ λm q st2 f2 m1 m2=>?_;show wpS _ _ _ _ (if q>0 then _ else _) _ _
  by_cases hq:q>0
  .rw [qAC hq];have f3:=f2.trans (Fr.rev st2 (lo+m-(q+1)) (lo+m) ((lo+m-(lo+m-(q+1))) / 2));refine qAF (qCx ?_);exact w_tail C (f3.kd.trans hk) (al.fr f3) (by rw[f3.size];exact hn) (by lia) m2 _ (λx n=>rfl) _ (λn=>rfl) λm' st' f'=>h m' st' (f3.trans f')
  .rw [qAB hq];exact w_tail C (f2.kd.trans hk) (al.fr f2) (by rw[f2.size];exact hn) (by lia) m2 _ (λx n=>rfl) _ (λn=>rfl) λm' st' f'=>h m' st' (f2.trans f')
theorem w_ins{ok:Nat}{Q:Bool->SortSt->Prop}(C:CmpOk prog w A s kd κ)(hk:kindOf st=kd)(al:All κ st)(hn:lo+n<=(arrOf st).size)
  (h:∀st',Fr st st'->Q true st'):wpS (model prog w) A E s (binarySort' lo n ok) Q st:=by
 refine qAF (qA6 (qAz (I:=λk c st'=>c=(none,())/\Fr st st') (Q:=λc st'=>c=(none,())/\Fr st st') ?step (λc st' h=>h) ⟨rfl,Fr.refl _⟩) ?post)
 case post=>
  rintro c st' ⟨rfl,f⟩;exact qAH (h st' f)
 case step=>
  rintro k c st' hk1 hk2 ⟨rfl,f⟩;have hz:(arrOf st').size=(arrOf st).size:=f.size
  refine qAF (qA6 (qAz (I:=λx c st2=>st2=st'/\∃l r,c=(none,l,r)/\l<=r/\r<=k) (Q:=λc st2=>st2=st'/\∃l r,c=(none,l,r)/\l<=r/\r<=k) ?s2 (λc st' h=>h) ⟨rfl,0,k,rfl,by lia,by lia⟩) ?p2)
  case s2=>
   rintro x c st2 _ hx ⟨rfl,l,r,rfl,a1,a2⟩;dsimp only
   by_cases g:l>=r
   .rw [qAC g];exact qAH ⟨rfl,l,r,rfl,a1,a2⟩
   .rw [qAB g];refine qAF (w_ask C (f.kd.trans hk) (al.fr f) (by lia) (by lia) λc=>?_);show wpS _ _ _ _ (if c=true then _ else _) _ _;split
    .exact qAH ⟨rfl,l,(l+r) / 2,rfl,by lia,by lia⟩
    .exact qAH ⟨rfl,(l+r) / 2+1,r,rfl,by lia,by lia⟩
  case p2=>
   rintro c st2 ⟨rfl,l,r,rfl,a1,a2⟩;show wpS _ _ _ _ (moveDown' (lo+k) (lo+l) >>= λ_=>pure (ForInStep.yield (none,()))) _ _;rw[moveDown'_eq];exact qAF (qBA (qAH ⟨rfl,f.trans ⟨rfl,rfl,rfl,bubble_perm _ _ _⟩⟩))
theorem w_set{M:Model}{σ:Type}{st st':σ}{Q:PUnit->σ->Prop}(h:Q ⟨⟩ st'):wpS M A E s (set st':StateT σ Sem PUnit) Q st:=by
 unfold wpS;rw[StateT.run_set];exact qAD ⟨rfl,h⟩
theorem splice:∀(m:List Keyed)(arr:Array Keyed)(sa k:Nat),sa+k+m.length<=arr.size ->
  ((m.zipIdx k).foldl (λa x=>match x with|(p,j)=>a.setIfInBounds (sa+j) p) arr).toList=arr.toList.take (sa+k)++m++arr.toList.drop (sa+k+m.length)
 |[],arr,sa,k,_=>by simp
 |p::r,arr,sa,k,h=>by
  rw[qAZ]at h;have hk:sa+k<arr.size:=by lia
  rw[List.zipIdx_cons,qBl];show((r.zipIdx (k+1)).foldl _ (arr.setIfInBounds (sa+k) p)).toList=_;rw[splice r (arr.setIfInBounds (sa+k) p) sa (k+1) (by rw[qDQ];lia)];have e:(arr.setIfInBounds (sa+k) p).toList=arr.toList.set (sa+k) p:=by simp
  have hl:sa+k<arr.toList.length:=by simpa using hk
  rw[e,show sa+(k+1)=sa+k+1 by lia,qAZ,show sa+k+(r.length+1)=sa+k+1+r.length by lia]
  have e1:(arr.toList.set (sa+k) p).take (sa+k+1)=arr.toList.take (sa+k)++[p]:=by
   rw[qCU,qCc hl,List.take_set_of_le (qAG _)];rfl
  have e2:(arr.toList.set (sa+k) p).drop (sa+k+1+r.length)=arr.toList.drop (sa+k+1+r.length):=List.drop_set_of_lt (by lia);rw[e1,e2];simp
theorem zJg{a:Array Keyed}(h:∀x∈a.toList,Has κ x)(i j:Nat):∀x∈(a.extract i j).toList,Has κ x:=λx hx=>by
 rw[qB1,List.extract_eq_drop_take]at hx;exact h x (qCP (qB3 hx))
theorem w_mergeAt{sa na pw nb pw2:Nat}{Q:Bool->SortSt->Prop}(C:CmpOk prog w A s kd κ)(hk:kindOf st=kd)(al:All κ st)(hp1:(pendingOf st)[i]?=some (sa,na,pw))(hp2:(pendingOf st)[i+1]?=some (sa+na,nb,pw2))
  (h1:1<=na) (h2:1<=nb) (hz:sa+na+nb<=(arrOf st).size) (hfl:failedOf st=none)
  (h:∀st',kindOf st'=kindOf st->failedOf st'=none->pendingOf st'=((pendingOf st).setIfInBounds i (sa,na+nb,pw)).eraseIdxIfInBounds (i+1)->(arrOf st').Perm (arrOf st)->Q true st'):wpS (model prog w) A E s (mergeAt' i) Q st:=by
 obtain⟨st1,e1⟩:∃st1:SortSt,st1=setPending st (((pendingOf st).setIfInBounds i (sa,na+nb,pw)).eraseIdxIfInBounds (i+1)):=⟨_,rfl⟩;have ka:kindOf st1=kindOf st:=by rw[e1]
 have fa:failedOf st1=failedOf st:=by rw[e1]
 have pa:pendingOf st1=((pendingOf st).setIfInBounds i (sa,na+nb,pw)).eraseIdxIfInBounds (i+1):=by rw[e1]
 have aa:arrOf st1=arrOf st:=by rw[e1]
 have plain:Q true st1:=h st1 ka (fa.trans hfl) pa (by rw[aa]);refine qAF (qBP ?_);show wpS _ _ _ _ (match ((pendingOf st)[i]?,(pendingOf st)[i+1]?)with|_=>_) _ _;rw[hp1,hp2];refine qAF (w_set ?_);show wpS _ _ _ _ _ _ (setPending st (((pendingOf st).setIfInBounds i (sa,na+nb,pw)).eraseIdxIfInBounds (i+1)));rw[<-e1];obtain⟨y0,ey0,hy0⟩:=al.at (show sa+na<(arrOf st).size by lia);refine qAF (zBo ey0 ?_);refine qAF (w_gal C (ka.trans hk) hy0 (λj hj=>al.at (by lia)) (show 0<na by lia) λk hkn=>?_);show wpS _ _ _ _ (if(na-k==0)=true then _ else _) _ _
 by_cases c1:(na-k==0)=true
 .rw [qAC c1];exact qAH plain
 rw[qAB c1];have c1:=zAs c1;obtain⟨z,ez,hz'⟩:=al.at (show sa+k+(na-k)-1<(arrOf st).size by lia);refine qAF (zBo ez ?_);refine qAF (w_gal C (ka.trans hk) hz' (λj hj=>al.at (by lia)) (show nb-1<nb by lia) λm hmn=>?_);show wpS _ _ _ _ (if(m==0)=true then _ else _) _ _
 by_cases c2:(m==0)=true
 .rw [qAC c2];exact qAH plain
 rw[qAB c2];have c2:=zAs c2;have zX:((arrOf st).extract (sa+k) (sa+na)).size=na-k:=by simp;lia
 have zY:((arrOf st).extract (sa+na) (sa+na+m)).size=m:=by simp;lia
 have fin:∀(r:Array Keyed)(st2:SortSt),Like st1 st2->Fn ((arrOf st).extract (sa+k) (sa+na)) ((arrOf st).extract (sa+na) (sa+na+m)) r ->
   wpS (model prog w) A E s (modify (λs:SortSt=>SortSt.mk' (kindOf s) (r.toList.zipIdx.foldl (λa x=>match x with|(p,j)=>a.setIfInBounds (sa+k+j) p) (arrOf s)) (pendingOf s) (gallopOf s) (failedOf s)) >>= λ_=>(get:StateT SortSt Sem SortSt) >>= λs=>pure (failedOf s).isNone) Q st2:=λr st2 L F=>by
  have ar2:arrOf st2=arrOf st:=L.ar.trans aa;have fl2:failedOf st2=none:=L.fl.trans (fa.trans hfl)
  have lr:r.toList.length=na-k+m:=by
   have:=F λ_=>true;simp only[List.countP_true,qBj,zX,zY]at this;simpa using this
  have sp:=splice r.toList (arrOf st2) (sa+k) 0 (by rw[ar2];lia);rw[ar2,qCj,lr]at sp;refine qAF (qBA (qAF (qBP ?_)));have e3:(failedOf st2).isNone=true:=by rw[fl2];rfl
  show wpS _ _ _ _ (pure (failedOf st2).isNone) _ _;rw[e3,ar2];generalize hR:(r.toList.zipIdx.foldl (λa x=>match x with|(p,j)=>a.setIfInBounds (sa+k+j) p) (arrOf st))=R at sp;refine qAH (h _ (L.kd.trans ka) fl2 (L.pn.trans pa) ?_);show R.Perm (arrOf st);refine qDG.mpr (perm_ct λp=>?_);have h1:=F p;have h2:=cd (a:=arrOf st) (show sa+k<=sa+na by lia) p;have h3:=cd (a:=arrOf st) (show sa+na<=sa+na+m by lia) p;have h4:=qAj (List.countP p) (qBd (sa+k) (arrOf st).toList);rw[qCC]at h4;rw[sp,qCC,qCC,show sa+k+(na-k+m)=sa+na+m by lia];lia
 show wpS _ _ _ _ (if na-k<=m then _ else _) _ _
 by_cases c3:na-k<=m
 .rw [qAC c3];exact qAF (w_mLo (a:=(arrOf st).extract (sa+k) (sa+na)) (b:=(arrOf st).extract (sa+na) (sa+na+m)) C (ka.trans hk) (zJg al _ _) (zJg al _ _) (by rw[zX];lia) (by rw[zY];lia) λr st2 L F=>fin r st2 L F)
 .rw [qAB c3];exact qAF (w_mHi (a:=(arrOf st).extract (sa+k) (sa+na)) (b:=(arrOf st).extract (sa+na) (sa+na+m)) C (ka.trans hk) (zJg al _ _) (zJg al _ _) (by rw[zX];lia) (by rw[zY];lia) λr st2 L F=>fin r st2 L F)
end
def Ch:List (Nat×Nat×Nat)->Nat->Nat->Prop
 |[],s,e=>s=e
 |(a,n,_)::r,s,e=>a=s/\1<=n/\Ch r (s+n) e
theorem Ch.app{P Q:List (Nat×Nat×Nat)}:∀{s e:Nat},Ch (P++Q) s e↔∃m,Ch P s m/\Ch Q m e:=by
 induction P with
 |nil=>intro s e;exact⟨λh=>⟨s,rfl,h⟩,λ⟨m,h1,h2⟩=>by have h1:s=m:=h1;rw[h1];exact h2⟩
 |cons x P ih=>
  obtain⟨a,n,q⟩:=x;intro s e;constructor
  .rintro ⟨h1,h2,h3⟩;obtain⟨m,k1,k2⟩:=ih.mp h3;exact⟨m,⟨h1,h2,k1⟩,k2⟩
  .rintro ⟨m,⟨h1,h2,h3⟩,h4⟩;exact⟨h1,h2,ih.mpr ⟨m,h3,h4⟩⟩
theorem Ch.bnd:∀{P:List (Nat×Nat×Nat)} {s e:Nat},Ch P s e->s+P.length<=e
 |[],s,e,h=>qCE h
 |(a,n,t)::r,s,e,h=>by
  have:=Ch.bnd h.2.2;have:=h.2.1;rw[qAZ];lia
theorem set_erase(P:List α)(x y v:α)(T:List α):((P++x::y::T).set P.length v).eraseIdx (P.length+1)=P++v::T:=by
 induction P with
 |nil=>rfl
 |cons p P ih=>
  show p::((P++x::y::T).set P.length v).eraseIdx (P.length+1)=p::(P++v::T);rw[ih]
theorem two_at :∀{L:List α}{i:Nat},i+1<L.length->∃P x y T,L=P++x::y::T/\P.length=i
 |[],i,h=>by simp at h
 |[_],i,h=>by simp at h
 |a::b::L,0,_=>⟨[],a,b,L,rfl,rfl⟩
 |a::b::L,i+1,h=>by
  obtain⟨P,x,y,T,e,l⟩:=two_at (L:=b::L) (i:=i) (by simp at h ⊢;lia);exact⟨a::P,x,y,T,by rw[e];rfl,by simp[l]⟩
theorem ch_map:∀{L L':List (Nat×Nat×Nat)} {s e:Nat},L'.map (λq=>(q.1,q.2.1))=L.map (λq=>(q.1,q.2.1))->Ch L s e->Ch L' s e
 |[],[],_,_,_,h=>h
 |[],_::_,_,_,h,_=>by simp at h
 |_::_,[],_,_,h,_=>by simp at h
 |(a,n,t)::r,(b,m,u)::r',s,e,h,c=>by
  simp at h;obtain⟨⟨h1,h2⟩,h3⟩:=h;obtain⟨c1,c2,c3⟩:=c;subst h1;subst h2;exact⟨c1,c2,ch_map (by simpa using h3) c3⟩
theorem mod_map{f:Nat×Nat×Nat->Nat×Nat×Nat}(hf:∀q,(f q).1=q.1/\(f q).2.1=q.2.1)(p:Array (Nat×Nat×Nat))(i:Nat):(p.modify i f).toList.map (λq=>(q.1,q.2.1))=p.toList.map (λq=>(q.1,q.2.1)):=by
 apply qCs;intro k;rw[qAN,qAN,qAn,qAn,Array.getElem?_modify];split
 .cases h:p[k]? with
  |none=>rfl
  |some q=>
   have:=hf q;simp[this.1,this.2]
 .rfl
section
variable{prog:Program}{w:World}{A:Around}{E:Value->Shared->Prop}{s:Shared}{kd:SortKind}{κ:KeyKind}{a₀:Array Keyed}
structure Rn(kd:SortKind)(a₀:Array Keyed)(lo:Nat)(st:SortSt):Prop where
 kd:kindOf st=kd
 fl:failedOf st=none
 perm:(arrOf st).Perm a₀
 ch:Ch (pendingOf st).toList 0 lo
theorem Rn.all(R:Rn kd a₀ lo st)(h:∀x∈a₀.toList,Has κ x):All κ st:=λx hx=>h x ((qDG.mp R.perm).mem_iff.mp hx)
theorem w_merge{Q:Bool->SortSt->Prop}(C:CmpOk prog w A s kd κ)(ha:∀x∈a₀.toList,Has κ x)(R:Rn kd a₀ lo st)(hl:lo<=a₀.size)(hi:i+1<(pendingOf st).size)
  (h:∀st',Rn kd a₀ lo st'->(pendingOf st').size+1=(pendingOf st).size->Q true st'):wpS (model prog w) A E s (mergeAt' i) Q st:=by
 obtain⟨P,⟨sa,na,pw⟩,⟨sb,nb,pw2⟩,T,e,l⟩:=two_at (L:=(pendingOf st).toList) (i:=i) (by simpa using hi);have hz:(arrOf st).size=a₀.size:=R.perm.size_eq;have ch:=R.ch;rw[e]at ch;obtain⟨m,c1,d1,d2,d3,d4,d5⟩:=Ch.app.mp ch;subst d1;subst d3;have b2:=d5.bnd
 have e1:(pendingOf st)[i]?=some (sa,na,pw):=by
  rw[<-qAn,e,<-l];simp
 have e2:(pendingOf st)[i+1]?=some (sa+na,nb,pw2):=by
  rw[<-qAn,e,<-l,qBy (by lia)];simp
 refine w_mergeAt C R.kd (R.all ha) e1 e2 d2 d4 (by lia) R.fl λst' k1 k2 k3 k4=>?_
 have ep:(pendingOf st').toList=P++(sa,na+nb,pw)::T:=by
  have hb:i+1<((pendingOf st).setIfInBounds i (sa,na+nb,pw)).size:=by rw[qDQ];exact hi
  rw[k3,Array.eraseIdxIfInBounds,dif_pos hb,Array.toList_eraseIdx,Array.toList_setIfInBounds,e,<-l];exact set_erase P _ _ _ T
 refine h st' ⟨k1.trans R.kd,k2,k4.trans R.perm,?_⟩ ?_
 .rw [ep];refine Ch.app.mpr ⟨sa,c1,rfl,by lia,?_⟩;rw[show sa+(na+nb)=sa+na+nb by lia];exact d5
 .have h1:=qAj List.length ep;have h2:=qAj List.length e;simp at h1 h2;lia
theorem Rn.modify(R:Rn kd a₀ lo st){f:Nat×Nat×Nat->Nat×Nat×Nat}(hf:∀q,(f q).1=q.1/\(f q).2.1=q.2.1)(i:Nat):Rn kd a₀ lo (setPending st ((pendingOf st).modify i f)):=⟨R.kd,R.fl,R.perm,ch_map (mod_map hf (pendingOf st) i) R.ch⟩
theorem ite_less(c:Prop)[Decidable c](a:Nat):(if c then a-1 else a)<=a:=by split<;>lia
theorem w_sort{Q:Unit->SortSt->Prop}(C:CmpOk prog w A s kd κ)(ha:∀x∈a₀.toList,Has κ x)(hk:kindOf st=kd)(hf:failedOf st=none)(hp:(arrOf st).Perm a₀)(hpn:pendingOf st=#[])(h1:1<=a₀.size)
  (h:∀st',failedOf st'=none->(arrOf st').Perm a₀->Q () st'):wpS (model prog w) A E s sortRuns' Q st:=by
 have hz0:(arrOf st).size=a₀.size:=hp.size_eq;have hz0p:(arrOf st).size=a₀.size:=hz0;unfold arrOf at hz0p;refine qAF (qBP ?_);have R0:Rn kd a₀ 0 st:=⟨hk,hf,hp,by rw[hpn];rfl⟩;refine qAF (qA6 (qAz (I:=λx c st'=>∃lo,c=(none,lo)/\Rn kd a₀ lo st'/\lo<=a₀.size/\(x<=lo\/lo=a₀.size)) (Q:=λc st'=>∃lo,c=(none,lo)/\Rn kd a₀ a₀.size st') ?step ?fin ⟨0,rfl,R0,by lia,.inl (by lia)⟩) ?post)
 case fin=>
  rintro c st' ⟨lo,rfl,R,l1,l2⟩
  have:lo=a₀.size:=by
   have:max 0 (arrOf st).size=a₀.size:=by lia
   rcases l2 with z|z
   .lia
   .exact z
  subst this;exact⟨_,rfl,R⟩
 case step=>
  rintro x c st1 _ hx ⟨lo,rfl,R,l1,l2⟩;show wpS _ _ _ _ (if lo>=(arrOf st).size then _ else _) _ _
  by_cases g:lo>=(arrOf st).size
  .rw [qAC g];have:lo=a₀.size:=by lia
   subst this;exact qAH ⟨_,rfl,R⟩
  rw[qAB g];have hz1:(arrOf st1).size=a₀.size:=R.perm.size_eq;refine qAF (w_count C R.kd (R.all ha) (by rw[hz0,hz1];lia) (by lia) λm st2 f2 m1 m2=>?_);have keepR:∀{st':SortSt},Fr st1 st'->Rn kd a₀ lo st':=λ{st'} f=>⟨f.kd.trans R.kd,f.fl.trans R.fl,f.perm.trans R.perm,by rw[f.pn];exact R.ch⟩
  have push:∀{n:Nat}{st4:SortSt},1<=n->Rn kd a₀ lo st4->Rn kd a₀ (lo+n) (setPending st4 ((pendingOf st4).push (lo,n,0))):=λ{n st4} n1 R4=>by
   refine⟨R4.kd,R4.fl,R4.perm,?_⟩;show Ch ((pendingOf st4).push (lo,n,0)).toList 0 (lo+n);rw[qCk];exact Ch.app.mpr ⟨lo,R4.ch,rfl,n1,rfl⟩
  have loop:∀(st4:SortSt)(pw:Nat),Rn kd a₀ lo st4->∀(R:ForInStep (Option Unit×Unit)->SortSt->Prop),(∀st',Rn kd a₀ lo st'->R (.done (none,())) st'/\R (.yield (none,())) st') ->
    wpS (model prog w) A E s ((get:StateT SortSt Sem SortSt) >>= λv=>match (if(pendingOf v).size>1 then(pendingOf v)[(pendingOf v).size-2]? else none)with
       |some (_,_,older)=>(if older<=pw then pure (ForInStep.done (none,()))else(mergeAt' ((pendingOf v).size-2) >>= λb=>if(!b)=true then pure (ForInStep.done (some (),()))else pure (ForInStep.yield (none,()))))
       |_=>pure (ForInStep.done (none,()))) R st4:=by
   intro st4 pw R4 Rr hR;refine qAF (qBP ?_)
   by_cases c1:(pendingOf st4).size>1
   .rw [qAC c1];rcases ho:(pendingOf st4)[(pendingOf st4).size-2]? with _|⟨o1,o2,o3⟩
    .exact qAH (hR st4 R4).1
    .show wpS _ _ _ _ (if o3<=pw then _ else _) _ _
     by_cases c2:o3<=pw
     .rw [qAC c2];exact qAH (hR st4 R4).1
     .rw [qAB c2];exact qAF (w_merge C ha R4 l1 (by lia) λst5 R5 _=>qAH (hR st5 R5).2)
   .rw [qAB c1];exact qAH (hR st4 R4).1
  have ends:∀{n:Nat}{st5:SortSt},1<=n->Rn kd a₀ (lo+n) st5->lo+n<=a₀.size->∃l,((none,lo+n):Option Unit×Nat)=(none,l)/\Rn kd a₀ l st5/\l<=a₀.size/\(x+1<=l\/l=a₀.size):=λ{n st5} n1 R5 n2=>⟨_,rfl,R5,n2,.inl (by lia)⟩
  by_cases c1:m<minRun' (arrOf st).size (arrOf st).size 0
  .refine (show wpS _ _ _ _ (if m<minRun' (arrOf st).size (arrOf st).size 0 then _ else _) _ _ from ?_);rw[qAC c1];refine qAF (qBo (qBZ ⟨rfl,?_⟩));refine qAF (w_ins (n:=min ((arrOf st).size-lo) (minRun' (arrOf st).size (arrOf st).size 0)) C (f2.kd.trans R.kd) ((R.all ha).fr f2) (by rw[f2.size,hz1];lia) λst3 f3=>?_);show wpS _ _ _ _ (if false=true then _ else _) _ _;rw[qAB (by decide)];have R3:=keepR (f2.trans f3);have n1:1<=min ((arrOf st).size-lo) (minRun' (arrOf st).size (arrOf st).size 0):=by lia
   have n2:lo+min ((arrOf st).size-lo) (minRun' (arrOf st).size (arrOf st).size 0)<=a₀.size:=by lia
   refine qAF (qBP ?_);rcases hb:(pendingOf st3).back? with _|⟨s1,q1,t1⟩
   .exact qAF (qBA (qAH (ends n1 (push n1 R3) n2)))
   .refine qAF (qA6 (qAz (I:=λy c st'=>c=(none,())/\Rn kd a₀ lo st') (Q:=λc st'=>c=(none,())/\Rn kd a₀ lo st') ?s2 (λc st' h=>h) ⟨rfl,R3⟩) ?p2)
    case p2=>
     rintro c st4 ⟨rfl,R4⟩;exact qAF (qBA (qAF (qBA (qAH (ends n1 (push n1 (R4.modify (f:=λx=>match x with|(t,len,_)=>(t,len,power' (arrOf st).size (2*s1+q1) (2*s1+q1+q1+min ((arrOf st).size-lo) (minRun' (arrOf st).size (arrOf st).size 0)) (arrOf st).size)) (λq=>⟨rfl,rfl⟩) ((pendingOf st4).size-1))) n2)))))
    case s2=>
     rintro y c st4 _ hy ⟨rfl,R4⟩;exact loop st4 _ R4 _ λst' R'=>⟨⟨rfl,R'⟩,⟨rfl,R'⟩⟩
  .refine (show wpS _ _ _ _ (if m<minRun' (arrOf st).size (arrOf st).size 0 then _ else _) _ _ from ?_);rw[qAB c1];have R3:=keepR f2;have n2:lo+m<=a₀.size:=by lia
   refine qAF (qBP ?_);rcases hb:(pendingOf st2).back? with _|⟨s1,q1,t1⟩
   .exact qAF (qBA (qAH (ends m1 (push m1 R3) n2)))
   .refine qAF (qA6 (qAz (I:=λy c st'=>c=(none,())/\Rn kd a₀ lo st') (Q:=λc st'=>c=(none,())/\Rn kd a₀ lo st') ?s2 (λc st' h=>h) ⟨rfl,R3⟩) ?p2)
    case p2=>
     rintro c st4 ⟨rfl,R4⟩;exact qAF (qBA (qAF (qBA (qAH (ends m1 (push m1 (R4.modify (f:=λx=>match x with|(t,len,_)=>(t,len,power' (arrOf st).size (2*s1+q1) (2*s1+q1+q1+m) (arrOf st).size)) (λq=>⟨rfl,rfl⟩) ((pendingOf st4).size-1))) n2)))))
    case s2=>
     rintro y c st4 _ hy ⟨rfl,R4⟩;exact loop st4 _ R4 _ λst' R'=>⟨⟨rfl,R'⟩,⟨rfl,R'⟩⟩
 case post=>
  rintro c st1 ⟨lo,rfl,R⟩;refine qAF (qA6 (qAz (I:=λx c st'=>c=(none,())/\Rn kd a₀ a₀.size st') (Q:=λc st'=>c=(none,())/\Rn kd a₀ a₀.size st') ?s3 (λc st' h=>h) ⟨rfl,R⟩) ?p3)
  case p3=>
   rintro c st' ⟨rfl,R'⟩;exact qAH (h st' R'.fl R'.perm)
  case s3=>
   rintro y c st2 _ hy ⟨rfl,R2⟩;refine qAF (qBP ?_);show wpS _ _ _ _ (if(pendingOf st2).size<=1 then _ else _) _ _
   by_cases c1:(pendingOf st2).size<=1
   .rw [qAC c1];exact qAH ⟨rfl,R2⟩
   .rw [qAB c1];refine qAF (w_merge C ha R2 (qAG _) ?_ λst5 R5 _=>qAH ⟨rfl,R5⟩);exact qCJ (Nat.add_le_add_right (ite_less _ _) 1) (show(pendingOf st2).size-2+1<(pendingOf st2).size by lia)
end
end TimP
namespace ST
open PySem PyProof.Rows PySem.W
section
variable{prog:Program}{w:World}{A:Around}{E:Value->Shared->Prop}{s:Shared}
theorem w_lsortP{κ:PyProof.Rows.KeyKind}{kd:SortKind}{a:Addr}{vs:List Value}{n:Nat}{P:Fin->Shared->Prop}(ho:s.heap.get? a=some (seqObj "list" vs.toArray n))(hz:vs.length<=4096)
  (hS:∀h',(∀b o,b≠a->s.heap.get? b=some o->h'.get? b=some o)->Sortable prog w A κ kd vs {s with heap:=h'})
  (h:∀out:Array Value,out.toList.Perm vs->P (.done (.ret .none)) {s with heap:=sortedHeap s.heap a vs out}) :
  wpAny (model prog w) A (Builtin.«list.sort» ⟨[.ref a],[]⟩) P E s:=by
 rw[list_sort_plain];have hsl:(4096:Nat)<=sizeLine:=by decide +kernel
 have ha:a<s.heap.objs.size:=qAJ ho;have hsz:vs.toArray.size=vs.length:=by simp
 refine qAA (listItems_at ho rfl ?_);refine qAA (listUpdate_at ho rfl ?_ (by lia) (qAe _));have h1:(s.heap.update a (Obj.mapSeq λ_=>#[])).get? a=some (seqObj "list" #[] _):=get?_update_seq ho λ_=>#[];refine qAA (seqEpoch_at h1 rfl ?_);refine qAA (wpAny_newTuple ?_ (by show vs.toArray.toList.length<=_;simp;lia));refine qAA (wpAny_newList ?_ (qAe _));refine qAk ?_;have h6:=qAI (seqObj "list" #[] 0) (qAI (seqObj "tuple" vs.toArray 0) h1);change wpAny (model prog w) A _ P E {s with heap:=((s.heap.update a (Obj.mapSeq λ_=>#[])).push (seqObj "tuple" vs.toArray 0)).push (seqObj "list" #[] 0)};dsimp only
 have S6:=hS (((s.heap.update a (Obj.mapSeq λ_=>#[])).push (seqObj "tuple" vs.toArray 0)).push (seqObj "list" #[] 0)) λb o hb q=>by
  refine qAI _ (qAI _ ?_);rw[qBW _ _ (qAV hb)];exact q
 by_cases c:vs.toArray.size<2
 .rw [qAC c,qAC c];refine qAA (qAD ?_);rw[StateT.run_pure];refine qAA (qAD ?_);dsimp only;refine qAA (seqEpoch_at h6 rfl ?_);refine qAA (listUpdate_at h6 rfl ?_ (qAe _) (by rw[Array.size_map];show(pairsOf vs).size<=_;rw[pairsOf_size];lia));simp only[bne_self_eq_false,qCu,qBz];have e:(arrOf (SortSt.mk' general' (vs.toArray.zip vs.toArray) #[] 7 none)).Perm (pairsOf vs):=Array.Perm.refl _;exact qAD (h _ (zIl e))
 .rw [qAB c,qAB c];refine qAA (S6.kind (by lia) _ _ ?_)
  have W:=TimP.w_sort (E:=E) (a₀:=pairsOf vs) (st:=SortSt.mk' kd (vs.toArray.zip vs.toArray) #[] 7 none) (Q:=λ_ st'=>failedOf st'=none/\(arrOf st').Perm (pairsOf vs)) S6.cmp (λp hp=>by
   rw[pairsOf_toList]at hp;exact S6.has _ (mem_zip_self hp).2) rfl rfl (Array.Perm.refl _) rfl (by rw[pairsOf_size];lia) λst' q1 q2=>⟨q1,q2⟩
  refine qAA (qAs W ?_ λ_ _ e=>e);rintro⟨⟨⟩,st'⟩ s' ⟨rfl,q1,q2⟩;dsimp only;refine qAA (seqEpoch_at h6 rfl ?_);have zz:=(zIl q2).length_eq;refine qAA (listUpdate_at h6 rfl ?_ (qAe _) (by simp at zz ⊢;lia));rw[q1];simp only[bne_self_eq_false,qCu,qBz];exact qAD (h _ (zIl q2))
theorem w_sortedCP{κ:PyProof.Rows.KeyKind}{kd:SortKind}{v:Value}{Q:Value->Shared->Prop}{J:List Value->Shared->Prop}(hc:wpAny (model prog w) A.in1 (collect v) J E s)
  (hJ:∀vs s1,J vs s1->vs.length<=4096/\(∀h',Up s1.heap h'->Sortable prog w A.in1.in1 κ kd vs {s1 with heap:=h'}) /\
   ∀(out:List Value) c h',out.Perm vs->h'.get? s1.heap.objs.size=some (seqObj "list" out.toArray c)->Up s1.heap h'->Q (.ref s1.heap.objs.size) {s1 with heap:=h'}) :
  wpAny (model prog w) A (call (.builtin "sorted") [v]) Q E s:=by
 refine Calls.call_function_entry kind_sorted plain_sorted entry_sorted (args_sorted1 _) ?_;unfold Builtin.«sorted»;refine qAA (m:=checkCount "sorted" 1 1 _) (qAD ?_);refine qAA (qAs hc (λvs s1 j=>?_) λ_ _ x=>x);obtain⟨j1,j2,j3⟩:=hJ vs s1 j;have hsl:(4096:Nat)<=sizeLine:=by decide +kernel
 refine qAA (wpAny_newList ?_ (by lia));have hD:(s1.heap.push (seqObj "list" vs.toArray 0)).get? s1.heap.objs.size=some (seqObj "list" vs.toArray 0):=qAc _ rfl;change wpAny _ _ _ _ _ {s1 with heap:=s1.heap.push (seqObj "list" vs.toArray 0)};have ne:∀b o,s1.heap.get? b=some o->b≠s1.heap.objs.size:=λb o q=>qAR (qAJ q);refine qAA (qAk (qCV slot_list_sort ⟨_,hD,rfl⟩ entry_list_sort ?body (args_list_sort _)))
 case body=>
  refine w_lsortP (s:={s1 with heap:=s1.heap.push (seqObj "list" vs.toArray 0)}) hD j1 (λh' q=>j2 h' λb o e=>q b o (ne b o e) (qAI _ e)) λout p1=>?_;obtain⟨⟨c,g1⟩,g2⟩:=srt_heap (out:=out) hD;refine⟨_,rfl,qAD ⟨_,rfl,j3 out.toList c _ p1 (by simpa using g1) λb o e=>g2 b o (ne b o e) (qAI _ e)⟩⟩
end
end ST
namespace L2
open PySem PySem.Spec PyProof.Rows
section
variable{X:Cx}{pins:List (Addr×Obj)}{s:Shared}{σ:St}{H:Hp}
theorem zHv{k:Nat}(hr:Room k X.A):zCq X (.builtin "sorted") (λxs H Q=>∃(a:Addr) (ys:List (List Str×Addr)),xs=[.ref a]/\H a=some (TSt X.prog X.w a ys)/\(∀p∈ys,RowT X.K H p)/\(∀p∈ys,p.1≠[])/\ys.length<=306 /\ ∀(b:Addr) (zs:List (List Str×Addr)),H b=none->zs.Perm ys->Q (.ref b) (upd H b (.lst (zs.map λp=>V.ref p.2)))):=by
 intro pins s σ H xs us Q I r h;obtain⟨a,ys,rfl,ha,hk,hne,hc,q⟩:=h;obtain⟨u,rfl,rx⟩:=zHp r
 cases rx
 obtain⟨⟨o,es,ep,t,z1,z2,z3,z4,z5,z6,z7,z8⟩,_⟩:=I.hok a _ ha;have Z:ST.SetX (PySem.strKind X.prog X.w) s.heap a ys o es ep t:=⟨z1,z2,z3,z4,z5,z6,z7,λp hp=>I.rowT (hk p hp),z8⟩
 refine ST.w_sortedCP (kd:=tuples' true) (κ:=ST.tupK λb=>(ys.find? λp=>p.2==b).map (·.1))
  (J:=λvs s1=>vs.Perm (ys.map λp=>Value.ref p.2)/\(∀b o,s.heap.get? b=some o->s1.heap.get? b=some o)/\s1.gens=s.gens/\s1.os=s.os)
  (ST.w_collect (A:=X.A.in1) hr.hd Z hc λs' vs v1 v2 v3 v4 _=>⟨v1,v2,v3,v4⟩) λvs s1 ⟨v1,v2,v3,v4⟩=>?_
 have hvl:vs.length=ys.length:=by rw[v1.length_eq,qAE]
 refine⟨by lia,λh' up=>ST.tups_sortable v1 (λp hp=>ST.key_kept (I.rowT (hk p hp)) λo e=>up _ o (v2 _ o e)) hne,λout c h' p1 p3 up=>?_⟩;obtain⟨zs,e1,e2⟩:=perm_back _ (p1.trans v1);subst e2;have I1:Inv X pins σ H s1:=I.call' (ch:=[]) v4 (Un.kept v2) (I.hok.kept v2) (by rw[v3];exact I.bare) (λ_ z=>nomatch z)
 have hz:(zs.map λp=>V.ref p.2).length<=sizeLine:=by
  rw[qAE,e1.length_eq];exact qAf hc (by decide +kernel)
 exact⟨.ref s1.heap.objs.size,_,I1.laid (t':=s1.toks) up (qAG _) (show zAz X.prog X.w _ h' _ (.lst (zs.map λp=>V.ref p.2))from⟨hz,_,c,refs_vals zs,p3⟩),rfl,q _ zs (I1.hok.fresh (qAG _)) e1⟩
end
end L2
namespace My
open PySem L2
variable{P:Program}{w:World}{K:PySem.W.Frag}{mg:Str->Option Value}{base:Heap}{C:Addr}
variable{H:Hp}
theorem zGc(f:Str)(v:V):∀fs:List (Str×V),(putF f v fs).length<=fs.length+1
 |[]=>qAG _
 |(g,x)::r=>by
  unfold putF;split
  .exact qBc _
  .have:=zGc f v r;simp only[qAZ];lia
theorem call_setTP{X:Cx}{P:Program}{w:World}{K:PySem.W.Frag}{k:Nat}(hr:Room k X.A)(hP:X.prog=P:=by rfl)(hw:X.w=w:=by rfl)(hK:X.K=K:=by rfl):zCq X (.type "set") (λxs H Q=>∃(l:Addr) (ks:List (List Str×Addr)),xs=[.ref l]/\SqL K H l (ks.map λp=>V.ref p.2)/\(∀p∈ks,RowT K H p)/\ks.length<=306 /\ ∀a ys,H a=none->(∀p∈ys,p∈ks)->(∀p∈ks,p.1∈ys.map (·.1))->(ys.map (·.1)).Nodup->ys.length<=ks.length->Q (.ref a) (upd H a (TSt P w a ys))):=by
 subst hP hw hK;exact call_setT hr
theorem zHw{X:Cx}{P:Program}{w:World}{K:PySem.W.Frag}{k:Nat}(hr:Room k X.A)(hP:X.prog=P:=by rfl)(hw:X.w=w:=by rfl)(hK:X.K=K:=by rfl):zCq X (.builtin "sorted") (λxs H Q=>∃(a:Addr) (ys:List (List Str×Addr)),xs=[.ref a]/\H a=some (TSt P w a ys)/\(∀p∈ys,RowT K H p)/\(∀p∈ys,p.1≠[])/\ys.length<=306 /\ ∀(b:Addr) (zs:List (List Str×Addr)),H b=none->zs.Perm ys->Q (.ref b) (upd H b (.lst (zs.map λp=>V.ref p.2)))):=by
 subst hP hw hK;exact zHv hr
theorem zG5{X:Cx}{K:PySem.W.Frag}{es:List Expr}{k:Nat}{t:TGs}{n:Nat}{pos:Pos}(hc:X.calm=true)(h:PGs X es t)
  (hn:(assignEach es X.env).length=n:=by rfl) (hst:(assignEach es X.env).findIdx? (·.1)=none:=by rfl) (hK:X.K=K:=by rfl):PG X (.Tuple es k pos) (gTup K n t):=by
 subst hK;exact pg_tup hc h hn hst
theorem zD2{qs:List (List Str×Addr)}{n x:Str}:x∈told qs n↔∃q∈qs,snd q=n/\fst q=x:=by
 unfold told;simp only[qAM,qBM,qBs];exact⟨λ⟨q,⟨a,b⟩,c⟩=>⟨q,a,b,c⟩,λ⟨q,a,b,c⟩=>⟨q,⟨a,b⟩,c⟩⟩
theorem fst_of{q q':List Str×Addr}(h:q.1=q'.1):fst q=fst q'/\snd q=snd q':=by unfold fst snd;rw[h];exact⟨rfl,rfl⟩
section
structure Good(ns:List Str)(qs:List (List Str×Addr))(r:Str->Nat):Prop where
 nm:∀n∈ns,zCd n
 nd:ns.Nodup
 few:ns.length<=20
 qfew:qs.length<=306
 qin:∀q∈qs,∀x∈q.1,x∈ns
 rk:∀q∈qs,r (fst q)<r (snd q)
abbrev zB5:Stmt:=zDl (top 34) 0
theorem zF3:FnScope ["self","names","orders"] ["self","names","orders"] (zAe zB5):=fnS
end
def zB2:List Str:=zBv.cps.toList.map λc=>⟨#[c]⟩
theorem zCv:zB2.length=26:=by
 unfold zB2;rw[zDa];simp
theorem singles_nd:zB2.Nodup:=by decide +kernel
theorem single_ok{x:Str}(h:x∈zB2):zCd x:=by
 unfold zB2 at h;rw[zDa]at h;obtain⟨c,hc,rfl⟩:=qAM.mp h;obtain⟨i,hi,rfl⟩:=qAM.mp hc;have:=qAw.mp hi;refine⟨qAG 1,by show 1<=8;decide,λd hd=>?_⟩;have:d=97+i:=by simpa using hd
 lia
theorem some_of{L found:List Str}(nd:L.Nodup)(l:L.length=26)(h:found.length<=20):(L.filter λx=>decide (x∉found))≠[]:=λz=>by
 have:L.length<=found.length:=zEt nd λx hx=>by
  apply qA8;intro y;have:x∈L.filter λx=>decide (x∉found):=qBM.mpr ⟨hx,qAP y⟩;rw[z]at this;exact nomatch this
 lia
section
def spLNames:Sp:=λvs H Q _=>∃(p:Addr)(m:Int),vs=[.ref p,.int m]/\zB1 H p/\0<=m/\m<=20/\∀(l:Addr)(ns:List Str)(H':Hp),Fre H l->Txs H' l ns->ns.length=m.toNat->ns.Nodup->(∀n∈ns,zCd n)->zB1 H' p->Kp [p] H H'->Q (.ref l) H'
abbrev zIp:Stmt:=top 39
theorem zC4:FnScope ["_law_purse_here","_law_many","_law_letters","_law_found","_law_k","_law_word","_law_j"] ["_law_purse_here","_law_many"] (zAe zIp):=fnS
theorem ok_names{f:Addr}{fd:FuncData}(F:Fun K "_law_names" "_law_names" zIp f fd)(T:Txt K mg)(C_take:Cal P w K mg base "_law_take" 1 ["_law_purse_here","_law_many"] zGt):FnOk P w K mg base CX0 2 f fd ["_law_purse_here","_law_many"] spLNames:=by
 refine F.ok zC4 (λvs H Q E h=>?_) (λcdv A outer s H vs Q E hr h=>?_)
 .obtain ⟨p,m,rfl,_⟩:=h;rfl
 .obtain ⟨p,m,rfl,hP,h0,h1,k⟩:=h;have HR_take:=hr
  refine⟨_,(zAc (psS (i:=2) zC4.nd zAk) (zAc (psS (i:=3) zC4.nd (zAt zAb))
   (zAc (zBk qAr rfl (zBc rfl T.z_range (zAa (pv 1) zAb)) (pgN (i:=4) zC4.nd)
    (zAc (psS (i:=5) zC4.nd zAk)
    (zAc (zBk qAr rfl (zBc rfl T.z_range (zAa (zAv zDs zAh (zAv zFf (zAj C_take HR_take rfl (zAa (pv 0) (zAa zAh zAb))) (zAj C_take HR_take rfl (zAa (pv 0) (zAa zAh zAb))))) zAb)) (pgN (i:=6) zC4.nd)
     (zAd (psS (i:=5) zC4.nd (zAv zH7 (pv 5) (zBe ix_str (pv 2) (zAj C_take HR_take rfl (zAa (pv 0) (zAa zAh zAb))) (λ_ _=>rfl))))))
    (zAc (zA1 (zAo zFg (pv 5) (pv 3) (by rfl))
     (zAd (psS (i:=5) zC4.nd (zBe zAw (zBs rfl (zBt (sc:=zAe zIp) rfl (by decide +kernel)) (Draws.own (x:="_law_letter") (dtk (i:=3) rfl Draws.nil)) (pi_str (pv 2)) (λ_ _ _ _=>(pgB (i:=0))) (λ_ _ _ _=>(zEz (zAo (zFe (K:=K)) (pv 0) (pv 1) (by rfl)))) (λ_ _ _ _=>(pv 0))) zAh (λ_ _=>rfl))))
     zAl)
    (zAd (zA4 (zFd qBF qCv qCw zDu (pv 3) (zAa (pv 5) zAb))))))))
   (zAd (zAm (pv 3)))))),?_⟩
  refine hid4 ?_;intro _ _ _ _;refine⟨(by walk_at"ln"),λl hl=>?_⟩;have fl:Fre H l:=hl;have npl:p≠l:=by obtain⟨a,b,e,_⟩:=hP;exact ne_fre fl e
  have hP1:zB1 (upd H l (.lst [])) p:=hP.kp (M:=[]) (Kp.new Kp.refl fl) (by simp)
  refine⟨_,rfl,_,rfl,by lia,by lia,zBm (lo:=0) (n:=m.toNat) (λi σ H2=>∃(o4 o5 o6:Option V)(ws:List Str),σ=[some (.ref p),some (.int m),some (.str zBv),some (.ref l),o4,o5,o6]/\zB1 H2 p/\Kp [p] H H2/\Txs H2 l ws/\ws.length=i/\ws.Nodup/\∀s∈ws,zCd s)
   ⟨none,none,none,[],rfl,hP1,Kp.new Kp.refl fl,upd_same,rfl,qBe,λs h=>nomatch h⟩ ?_ ?_⟩
  .rintro i σ H2 hi ⟨o4,o5,o6,ws,rfl,P2,K2,R2,e2,n2,q2⟩;refine hid4 ?_;intro _ _ _ _;refine⟨_,rfl,p,2,rfl,P2,by decide,by decide,λd1 H3 a0 a1 P3 K3=>?_⟩;refine⟨_,rfl,p,8,rfl,P3,by decide,by decide,λd2 H4 b0 b1 P4 K4=>?_⟩;have hm0:0<=d1*d2:=Int.mul_nonneg a0 b0
   have hm1:d1*d2<=7:=by
    have:d1*d2<=1*7:=Int.mul_le_mul (by lia) (by lia) b0 (by decide);lia
   have K24:Kp [p] H2 H4:=K3.trans K4
   refine⟨_,_,rfl,rfl,(by walk_at"ml"),_,_,rfl,rfl,_,rfl,by lia,by lia,zBm (lo:=0) (n:=(1+d1*d2).toNat) (λn σ H7=>∃(o4 o6:Option V)(x:Str),σ=[some (.ref p),some (.int m),some (.str zBv),some (.ref l),o4,some (.str x),o6]/\zB1 H7 p/\Kp [p] H2 H7/\WordS n x)
    ⟨_,_,_,rfl,P4,K24,rfl,(λc h=>absurd (show c∈([]:List Nat)from h) (by simp))⟩ ?_ ?_⟩
   .rintro n σ H7 hn ⟨o4,o6,x,rfl,P8,K7,W⟩;refine⟨_,rfl,_,rfl,_,rfl,p,26,rfl,P8,by decide,by decide,λd4 H8 e0 e1 P9 K8=>?_⟩;refine⟨_,_,_,rfl,rfl,by decide,letters_at e0 e1,_,_,rfl,rfl,?_,?_⟩
    .rw [W.1];show n+1<=sizeLine;rw[qAS];lia
    .exact ⟨_,_,_,rfl,P9,K7.trans K8,W.more (by lia) (by lia)⟩
   .rintro σ H7 ⟨o4,o6,x,rfl,P8,K7,W⟩;have h7:Txs H7 l ws:=K7 l _ R2 (nm1 npl.symm);have NX:zCd x:=⟨by have:=W.1;lia,by have:=W.1;lia,W.2⟩;refine⟨_,rfl,_,rfl,_,_,rfl,.inl (SqL.of h7),rfl,zCb ws,_,rfl,?_⟩;rw[qAB (by decide),zD4];refine if_mid (λσ H8=>∃(y:Str),σ=[some (.ref p),some (.int m),some (.str zBv),some (.ref l),o4,some (.str y),o6]/\Kp [] H7 H8/\zCd y/\y∉ws) (λN hN=>ite2 (λc=>?_) (λc=>?_)) ?_
    .-- _law_word=[..][0]
     refine⟨_,rfl,_,rfl,λB hB=>zJn (z:=zBv) (λi ys τ H8=>(∃o0,τ=[o0,some (.ref l)])/\ys=((zB2.take i).filter λx=>decide (x∉ws)).map V.str/\H8=upd H7 B (.lst ys)) ⟨⟨_,rfl⟩,rfl,rfl⟩ ?_ ?_⟩
     .rintro i c ys τ H8 hc ⟨⟨o0,rfl⟩,rfl,rfl⟩;have en:zB2[i]?=some ⟨#[c]⟩:=by unfold zB2;rw[qAN,hc];rfl
      refine⟨_,rfl,_,rfl,_,_,rfl,.inl (SqL.of ((upd_ne (ne_fre (show Fre H7 B from hB) h7)).trans h7)),rfl,zCb ws,_,rfl,?_⟩;rw[qAC rfl,zD4]
      have ed:(!decide ((⟨#[c]⟩:Str)∈ws))=decide ((⟨#[c]⟩:Str)∉ws):=by
       by_cases z:(⟨#[c]⟩:Str)∈ws
       .simp [z]
       .simp [z]
      rw[ed];refine ite2 (λc=>?_) (λc=>?_)
      .refine ⟨_,rfl,upd_same,?_,⟨_,rfl⟩,?_,zCg⟩
       .rw [qAE];exact zGj (by rw[zCv];decide)
       .rw [zGi (p:=λx=>decide (x∉ws)) en c,qAb];rfl
      .refine ⟨⟨_,rfl⟩,?_,?_⟩
       .rw [zJi (p:=λx=>decide (x∉ws)) en c]
       .rfl
     .rintro ys τ H8 ⟨_,rfl,rfl⟩;have eT:zB2.take zBv.length=zB2:=qBQ (by rw[zCv];decide);rw[eT];have hne:=some_of (found:=ws) singles_nd zCv (by lia)
      have hmm:∀y,y∈(zB2.filter λx=>decide (x∉ws))->zCd y/\y∉ws:=λy hy=>by
       have:=qBM.mp hy;exact⟨single_ok this.1,qA1 this.2⟩
      generalize (zB2.filter λx=>decide (x∉ws))=L at hne hmm
      obtain⟨y,r,rfl⟩:∃y r,L=y::r:=by
       cases L with
       |nil=>exact absurd rfl hne
       |cons y r=>exact⟨y,r,rfl⟩
      refine⟨_,_,_,.str y,rfl,rfl,SqL.of upd_same,zA9 (by decide) rfl,?_⟩;exact hN _ _ ⟨y,rfl,Kp.new Kp.refl hB,(hmm y qAX).1,(hmm y qAX).2⟩
    .exact hN _ _ ⟨x,rfl,Kp.refl,NX,λz=>c (qAP z)⟩
    .rintro σ H8 ⟨y,rfl,K8,NY,ny⟩;have h8:Txs H8 l ws:=K8 l _ h7 (by simp);refine⟨_,rfl,.inl ⟨rfl,_,SqL.of h8⟩,_,rfl,_,_,_,rfl,rfl,h8,?_,?_⟩
     .rw [qAS,qAE];lia
     .refine ⟨_,_,_,ws++[y],rfl,(P8.kp K8 (by simp)).kp (M:=[l]) (Kp.put Kp.refl (by simp)) (nm1 npl),Kp.new (K2.trans (K7.trans (K8.weak (by simp)))) fl,?_,by simp[e2],?_,λs hs=>?_⟩
      .show upd H8 l _ l=some (.lst ((ws++[y]).map V.str));rw[upd_same,qAb];rfl
      .refine qBp.mpr ⟨n2,by simp,λa ha b hb=>?_⟩;rw[qAQ.mp hb];rintro rfl;exact ny ha
      .rcases qAY.mp hs with z|z
       .exact q2 s z
       .rw [qAQ.mp z];exact NY
  .rintro σ H2 ⟨o4,o5,o6,ws,rfl,P2,K2,R2,e2,n2,q2⟩;exact⟨_,rfl,k l ws H2 fl R2 e2 n2 q2 P2 K2⟩
end
structure ITs(H:Hp)(l:Addr)(ts:List ((Int×Int)×Addr)):Prop where
 top:H l=some (.lst (ts.map λt=>V.ref t.2))
 row:∀t∈ts,H t.2=some (.tup [.int t.1.1,.int t.1.2])
theorem ITs.kp{M:List Addr}{H':Hp}{l:Addr}{ts:List ((Int×Int)×Addr)}(I:ITs H l ts)(k:Kp M H H')(h1:l∉M)(h2:∀t∈ts,t.2∉M):ITs H' l ts:=⟨k l _ I.top h1,λt ht=>k _ _ (I.row t ht) (h2 t ht)⟩
theorem ITs.more{l t:Addr}{a b:Int}{ts:List ((Int×Int)×Addr)}(I:ITs H l ts)(ht:H t=some (.tup [.int a,.int b])):ITs (upd H l (.lst (ts.map (λt=>V.ref t.2)++[.ref t]))) l (ts++[((a,b),t)]):=by
 refine⟨by rw[upd_same,qAb];rfl,λq hq=>?_⟩;rcases qAY.mp hq with z|z
 .exact (upd_ne (zBf (I.row q z) I.top (λy=>nomatch y))).trans (I.row q z)
 .rw [qAQ.mp z];exact(upd_ne (zBf ht I.top (λy=>nomatch y))).trans ht
theorem ITs.same{l:Addr}{ts:List ((Int×Int)×Addr)}(I:ITs H l ts):ITs (upd H l (.lst (ts.map (λt=>V.ref t.2)++[]))) l ts:=by
 rw[qAu];exact⟨upd_same,λq z=>(upd_ne (zBf (I.row q z) I.top (λy=>nomatch y))).trans (I.row q z)⟩
theorem tri_step(i:Nat):i*(i+1)+2*(i+1)=(i+1)*(i+2):=by
 rw[<-Nat.add_mul,Nat.mul_comm]
theorem inV12(w:Int):inV (.int w) [.int 1,.int 2]=(decide (w=1)||decide (w=2)):=by
 show((1==w)||((2==w)||false))=_
 by_cases h1:w=1
 .subst h1;rfl
 .by_cases h2:w=2
  .subst h2;rfl
  .rw [qAO h1,qAO h2,qA0.mpr (qAV h1),qA0.mpr (qAV h2)];rfl
def zDp(m:Int)(ts:List ((Int×Int)×Addr)):Prop:=∀t∈ts,0<=t.1.1/\t.1.1<t.1.2/\t.1.2<m
theorem zDp.more{m a b:Int}{t:Addr}{ts:List ((Int×Int)×Addr)}(h:zDp m ts)(h1:0<=a)(h2:a<b)(h3:b<m):zDp m (ts++[((a,b),t)]):=λq hq=>by
 rcases qAY.mp hq with z|z
 .exact h q z
 .rw [qAQ.mp z];exact⟨h1,h2,h3⟩
section
def spLPairs:Sp:=λvs H Q _=>∃(p:Addr)(m way thin:Int),vs=[.ref p,.int m,.int way,.int thin]/\zB1 H p/\0<=m/\m<=20/\2<=thin/\thin<=12/\∀(l:Addr) (ts:List ((Int×Int)×Addr)) (H':Hp),Fre H l->ITs H' l ts->(∀t∈ts,Fre H t.2)->ts.length<=190->zDp m ts->zB1 H' p->Kp [p] H H'->Q (.ref l) H'
abbrev s_pairs:Stmt:=top 40
theorem zC3:FnScope ["_law_purse_here","_law_many","_law_way","_law_thin","_law_pairs_here","_law_j","_law_far","_law_i","_law_near"] ["_law_purse_here","_law_many","_law_way","_law_thin"] (zAe s_pairs):=fnS
theorem ok_pairs{f:Addr}{fd:FuncData}(F:Fun K "_law_pairs" "_law_pairs" s_pairs f fd)(T:Txt K mg)(C_take:Cal P w K mg base "_law_take" 1 ["_law_purse_here","_law_many"] zGt):FnOk P w K mg base CX0 2 f fd ["_law_purse_here","_law_many","_law_way","_law_thin"] spLPairs:=by
 refine F.ok zC3 (λvs H Q E h=>?_) (λcdv A outer s H vs Q E hr h=>?_)
 .obtain ⟨p,m,way,thin,rfl,_⟩:=h;rfl
 .obtain ⟨p,m,way,thin,rfl,hP,h0,h1,t0,t1,k⟩:=h;have HR_take:=hr
  refine⟨_,(zAc (psS (i:=4) zC3.nd (zAt zAb)) (zAc (zBk qAr rfl (pi_range2 rfl T.z_range (zAa zAh (zAa (pv 1) zAb))) (pgN (i:=5) zC3.nd)
    (zAc (psS (i:=6) zC3.nd zAh)
    (zAc (zA1 (zAo zDr (pv 2) zAh (zAq _))
     (zAc (psS (i:=6) zC3.nd (zAj C_take HR_take rfl (zAa (pv 0) (zAa (zAv zDs (zAv zEs (pv 1) (pv 5)) zAh) zAb))))
     (zAd (zA4 (zFd qBF PySem.F.slot_list_extend PySem.F.type_list_extend mt_extend (pv 4) (zAa (zAv op_rep (zAt (zAa (zBg (zAa (zAv zEs (pv 5) zAh) (zAa (zAv zDs (zAv zEs (pv 5) zAh) (pv 6)) zAb))) zAb)) (zA0 zFn (by rfl) T.z_int bo_int (zAa (zBh op_gt (pv 6) zAh (zAq _)) zAb))) zAb)))))
     zAl)
    (zAc (zA1 (zAo zDr (pv 2) zAh (zAq _))
     (zAc (psS (i:=6) zC3.nd (zAj C_take HR_take rfl (zAa (pv 0) (zAa (zAv zDs (pv 5) zAh) zAb))))
     (zAd (zA4 (zFd qBF PySem.F.slot_list_extend PySem.F.type_list_extend mt_extend (pv 4) (zAa (zAv op_rep (zAt (zAa (zBg (zAa (zAv zEs (pv 5) (pv 6)) (zAa (pv 5) zAb))) zAb)) (zA0 zFn (by rfl) T.z_int bo_int (zAa (zBh op_gt (pv 6) zAh (zAq _)) zAb))) zAb)))))
     zAl)
    (zAd (zBk qAr rfl (zBc rfl T.z_range (zAa (zAv zFf (pv 5) (zA0 zFn (by rfl) T.z_int bo_int (zAa (zBh zC9 (pv 2) (zAt (zAa zAh (zAa zAh zAb))) (by rfl)) zAb))) zAb)) (pgN (i:=7) zC3.nd)
     (zAc (psS (i:=8) zC3.nd (pe_or (zBh op_ne (pv 2) zAh (zAq _)) (pe_one (zBh zDr (zAv zDs (zAv zI2 (pv 7) (pv 3)) zAh) (zAv zI2 (pv 5) (pv 3)) (zAq _)))))
     (zAd (zA1 (PW.pt (pw_and (zA7 (pv 8)) (zIs (zAo zDr (zBh zDr (zAj C_take HR_take rfl (zAa (pv 0) (zAa (pv 3) zAb))) zAh (zAq _)) (zBh op_ne (pv 2) zAh (zAq _)) (zAq _)))))
      (zAd (zA4 (zFd qBF qCv qCw zDu (pv 4) (zAa (zBg (zAa (pv 7) (zAa (pv 5) zAb))) zAb))))
      zAl)))))))))
   (zAd (zAm (pv 4))))),?_⟩
  refine hid3 ?_;intro _ _ _;refine⟨(by walk_at"ln"),λl hl=>?_⟩;have fl:Fre H l:=hl;have npl:p≠l:=by obtain⟨a,b,e,_⟩:=hP;exact ne_fre fl e
  have hP1:zB1 (upd H l (.lst [])) p:=hP.kp (M:=[]) (Kp.new Kp.refl fl) (by simp)
  refine⟨_,rfl,_,_,rfl,?_,zBm (lo:=1) (n:=(m-1).toNat) (λi σ H2=>∃(o5 o6 o7 o8:Option V) (ts:List ((Int×Int)×Addr)),σ=[some (.ref p),some (.int m),some (.int way),some (.int thin),some (.ref l),o5,o6,o7,o8]/\zB1 H2 p/\Kp [p] H H2/\ITs H2 l ts/\(∀t∈ts,Fre H t.2)/\ts.length*2<=i*(i+1)/\zDp m ts) ⟨none,none,none,none,[],rfl,hP1,Kp.new Kp.refl fl,⟨upd_same,(λt h=>nomatch h)⟩,(λt h=>nomatch h),qAe _,(λt h=>nomatch h)⟩ ?_ ?_⟩
  .exact ⟨by decide,by decide,by lia,by lia⟩
  .rintro i σ H2 hi ⟨o5,o6,o7,o8,ts,rfl,P2,K2,R2,f2,e2,q2⟩;refine hid4 ?_;intro _ _ _ _;have hi19:i<=18:=by lia
   refine⟨_,rfl,rfl,_,rfl,if_mid (λσ H3=>∃(v6:Int) (ts1:List ((Int×Int)×Addr)),σ=[some (.ref p),some (.int m),some (.int way),some (.int thin),some (.ref l),some (.int (1+(i:Int))),some (.int v6),o7,o8]/\zB1 H3 p/\Kp [p] H H3/\ITs H3 l ts1/\(∀t∈ts1,Fre H t.2)/\ts1.length<=ts.length+(if way=1 then 1 else 0)/\zDp m ts1) (λN hN=>ite2 (λc=>?_) (λc=>?_)) ?_⟩
   .have cw:way=1:=by simpa using c
    refine⟨_,rfl,_,rfl,_,rfl,_,_,rfl,rfl,_,_,rfl,rfl,p,m-(1+(i:Int))+1,rfl,P2,by lia,by lia,λd H3 d0 d1 P3 K3=>?_⟩;have K23:=K2.trans K3;have R3:ITs H3 l ts:=R2.kp K3 (nm1 npl.symm) λt ht=>nm1 (by obtain⟨a,b,e,_⟩:=hP;exact(ne_fre (f2 t ht) e).symm);refine⟨_,rfl,.inl ⟨rfl,_,SqL.of R3.top⟩,_,rfl,_,_,rfl,rfl,_,rfl,_,_,rfl,rfl,_,rfl,_,_,rfl,rfl,(by walk_at"ln"),λt ht=>?_⟩;have ft:Fre H3 t:=ht;refine⟨(by walk_at"ln"),λq hq=>?_⟩;have fq:Fre (upd H3 t _) q:=hq;have ntq:t≠q:=ne_fre fq upd_same;refine⟨_,rfl,_,_,rfl,rfl,.inr ⟨_,rfl,?_⟩⟩;have nlt:l≠t:=ne_fre ft R3.top;have h4:∀o,(upd H3 t o) l=some (.lst (ts.map λt=>V.ref t.2)):=λo=>(upd_ne nlt).trans R3.top;have nlq:l≠q:=ne_fre fq (h4 _)
    have fin:∀(b:Bool)(r:Addr),b=decide (0<d)->(upd (upd H3 t (.tup [.int (1+(i:Int)-1),.int (1+(i:Int)-1+d)])) q (.lst [.ref t])) r=none ->
      ∃ts1:List ((Int×Int)×Addr),zB1 (upd (upd (upd (upd H3 t (.tup [.int (1+(i:Int)-1),.int (1+(i:Int)-1+d)])) q (.lst [.ref t])) r (.lst (List.replicate (if b=true then(1:Int)else 0).toNat [V.ref t]).flatten)) l (.lst (ts.map (λt=>V.ref t.2)++(List.replicate (if b=true then(1:Int)else 0).toNat [V.ref t]).flatten))) p /\
       Kp [p] H (upd (upd (upd (upd H3 t (.tup [.int (1+(i:Int)-1),.int (1+(i:Int)-1+d)])) q (.lst [.ref t])) r (.lst (List.replicate (if b=true then(1:Int)else 0).toNat [V.ref t]).flatten)) l (.lst (ts.map (λt=>V.ref t.2)++(List.replicate (if b=true then(1:Int)else 0).toNat [V.ref t]).flatten))) /\
       ITs (upd (upd (upd (upd H3 t (.tup [.int (1+(i:Int)-1),.int (1+(i:Int)-1+d)])) q (.lst [.ref t])) r (.lst (List.replicate (if b=true then(1:Int)else 0).toNat [V.ref t]).flatten)) l (.lst (ts.map (λt=>V.ref t.2)++(List.replicate (if b=true then(1:Int)else 0).toNat [V.ref t]).flatten))) l ts1 /\
       (∀t∈ts1,Fre H t.2)/\ts1.length<=ts.length+1/\zDp m ts1:=λb r hb hr'=>by
     have fr:Fre (upd (upd H3 t (.tup [.int (1+(i:Int)-1),.int (1+(i:Int)-1+d)])) q (.lst [.ref t])) r:=hr'
     have kA:Kp [] H3 (upd (upd (upd H3 t (.tup [.int (1+(i:Int)-1),.int (1+(i:Int)-1+d)])) q (.lst [.ref t])) r (.lst (List.replicate (if b=true then(1:Int)else 0).toNat [V.ref t]).flatten)):=by
      have a1:Kp [] H3 (upd H3 t (.tup [.int (1+(i:Int)-1),.int (1+(i:Int)-1+d)])):=Kp.new Kp.refl ft;have a2:Kp [] H3 (upd (upd H3 t (.tup [.int (1+(i:Int)-1),.int (1+(i:Int)-1+d)])) q (.lst [.ref t])):=Kp.new a1 (a1.fre fq (by simp));exact Kp.new a2 (a2.fre fr (by simp))
     have RA:=R3.kp kA (by simp) (by simp)
     have hTt:(upd (upd (upd H3 t (.tup [.int (1+(i:Int)-1),.int (1+(i:Int)-1+d)])) q (.lst [.ref t])) r (.lst (List.replicate (if b=true then(1:Int)else 0).toNat [V.ref t]).flatten)) t=some (.tup [.int (1+(i:Int)-1),.int (1+(i:Int)-1+d)]):=by
      have b1:(upd (upd H3 t (.tup [.int (1+(i:Int)-1),.int (1+(i:Int)-1+d)])) q (.lst [.ref t])) t=some (.tup [.int (1+(i:Int)-1),.int (1+(i:Int)-1+d)]):=(upd_ne ntq).trans upd_same;exact(upd_ne (ne_fre fr b1)).trans b1
     have pA:=P3.kp kA (by simp);have kH:Kp [p] H (upd (upd (upd H3 t (.tup [.int (1+(i:Int)-1),.int (1+(i:Int)-1+d)])) q (.lst [.ref t])) r (.lst (List.replicate (if b=true then(1:Int)else 0).toNat [V.ref t]).flatten)):=K23.trans (kA.weak (by simp));have ntp:t≠p:=by obtain⟨a,b,e,_⟩:=P3;exact(ne_fre ft e).symm
     have ftH:Fre H t:=K23.fre ft (nm1 ntp)
     by_cases c2:0<d
     .have eb:b=true:=by rw[hb];exact qAP c2
      subst eb;refine⟨ts++[(((1+(i:Int)-1),(1+(i:Int)-1+d)),t)],pA.kp (M:=[l]) (Kp.put Kp.refl (by simp)) (nm1 npl),Kp.new kH fl,RA.more hTt,λu hu=>?_,by rw[qAm];exact qAG _,q2.more (by lia) (by lia) (by lia)⟩;rcases qAY.mp hu with z|z
      .exact f2 u z
      .rw [qAQ.mp z];exact ftH
     .have eb:b=false:=by rw[hb];exact qAO c2
      subst eb;exact⟨ts,pA.kp (M:=[l]) (Kp.put Kp.refl (by simp)) (nm1 npl),Kp.new kH fl,RA.same,f2,qBc _,q2⟩
    refine⟨_,_,_,rfl,rfl,upd_same,by split<;>decide,by split<;>decide,?_,λr hr'=>?_⟩
    .rw [qAS];show 1*_<=_;split<;>decide
    have hl6:∀o2 o3,(upd (upd (upd H3 t (.tup [.int (1+(i:Int)-1),.int (1+(i:Int)-1+d)])) q o2) r o3) l=some (.lst (ts.map λt=>V.ref t.2))\/l=r:=λo2 o3=>by
     by_cases z:l=r
     .exact .inr z
     .exact .inl ((upd_ne z).trans ((upd_ne nlq).trans (h4 _)))
    have nlr:l≠r:=ne_fre (show Fre _ r from hr') ((upd_ne nlq).trans (h4 _));obtain⟨ts1,g1,g2,g3,g4,g5,g6⟩:=fin _ r rfl hr';refine⟨_,_,_,_,rfl,rfl,(upd_ne nlr).trans ((upd_ne nlq).trans (h4 _)),upd_same,?_,hN _ _ ⟨d,ts1,rfl,g1,g2,g3,g4,?_,g6⟩⟩
    .have hl3:ts.length*2<=19*20:=qAf e2 (Nat.mul_le_mul (by lia) (by lia));rw[qAE,len_rep,qAS];have:(if decide (0<d)=true then(1:Int)else 0).toNat<=1:=by split<;>decide
     simp only[qAZ,qBX];lia
    .rw [qAC cw];exact g5
   .have cw:¬way=1:=by simpa using c
    exact hN _ _ ⟨0,ts,rfl,P2,K2,R2,f2,qB2 _ _,q2⟩
   .rintro σ H4 ⟨v6,ts1,rfl,P4,K4,R4,f3,e3,q3⟩;have hle:ts.length*2<=19*20:=qAf e2 (Nat.mul_le_mul (by lia) (by lia))
    have hl1:ts1.length<=191:=by
     have:(if way=1 then 1 else 0)<=1:=by split<;>decide
     lia
    refine⟨_,rfl,rfl,_,rfl,if_mid (λσ H3=>∃(v6:Int) (ts2:List ((Int×Int)×Addr)),σ=[some (.ref p),some (.int m),some (.int way),some (.int thin),some (.ref l),some (.int (1+(i:Int))),some (.int v6),o7,o8]/\zB1 H3 p/\Kp [p] H H3/\ITs H3 l ts2/\(∀t∈ts2,Fre H t.2)/\ts2.length<=ts.length+(if way=1\/way=2 then 1 else 0)/\zDp m ts2) (λN hN=>ite2 (λc=>?_) (λc=>?_)) ?_⟩
    .have cw:way=2:=by simpa using c
     refine⟨_,rfl,_,rfl,_,_,rfl,rfl,p,1+(i:Int)+1,rfl,P4,by lia,by lia,λd H5 d0 d1 P5 K5=>?_⟩;have K25:=K4.trans K5;have R5:ITs H5 l ts1:=R4.kp K5 (nm1 npl.symm) λt ht=>nm1 (by obtain⟨a,b,e,_⟩:=hP;exact(ne_fre (f3 t ht) e).symm);refine⟨_,rfl,.inl ⟨rfl,_,SqL.of R5.top⟩,_,rfl,_,rfl,_,_,rfl,rfl,_,rfl,(by walk_at"ln"),λt ht=>?_⟩;have ft:Fre H5 t:=ht;refine⟨(by walk_at"ln"),λq hq=>?_⟩;have fq:Fre (upd H5 t _) q:=hq;have ntq:t≠q:=ne_fre fq upd_same;refine⟨_,rfl,_,_,rfl,rfl,.inr ⟨_,rfl,?_⟩⟩;have nlt:l≠t:=ne_fre ft R5.top;have h4:∀o,(upd H5 t o) l=some (.lst (ts1.map λt=>V.ref t.2)):=λo=>(upd_ne nlt).trans R5.top;have nlq:l≠q:=ne_fre fq (h4 _)
     have fin:∀(b:Bool)(r:Addr),b=decide (0<d)->(upd (upd H5 t (.tup [.int (1+(i:Int)-d),.int (1+(i:Int))])) q (.lst [.ref t])) r=none ->
       ∃ts2:List ((Int×Int)×Addr),zB1 (upd (upd (upd (upd H5 t (.tup [.int (1+(i:Int)-d),.int (1+(i:Int))])) q (.lst [.ref t])) r (.lst (List.replicate (if b=true then(1:Int)else 0).toNat [V.ref t]).flatten)) l (.lst (ts1.map (λt=>V.ref t.2)++(List.replicate (if b=true then(1:Int)else 0).toNat [V.ref t]).flatten))) p /\
        Kp [p] H (upd (upd (upd (upd H5 t (.tup [.int (1+(i:Int)-d),.int (1+(i:Int))])) q (.lst [.ref t])) r (.lst (List.replicate (if b=true then(1:Int)else 0).toNat [V.ref t]).flatten)) l (.lst (ts1.map (λt=>V.ref t.2)++(List.replicate (if b=true then(1:Int)else 0).toNat [V.ref t]).flatten))) /\
        ITs (upd (upd (upd (upd H5 t (.tup [.int (1+(i:Int)-d),.int (1+(i:Int))])) q (.lst [.ref t])) r (.lst (List.replicate (if b=true then(1:Int)else 0).toNat [V.ref t]).flatten)) l (.lst (ts1.map (λt=>V.ref t.2)++(List.replicate (if b=true then(1:Int)else 0).toNat [V.ref t]).flatten))) l ts2 /\
        (∀t∈ts2,Fre H t.2)/\ts2.length<=ts1.length+1/\zDp m ts2:=λb r hb hr'=>by
      have fr:Fre (upd (upd H5 t (.tup [.int (1+(i:Int)-d),.int (1+(i:Int))])) q (.lst [.ref t])) r:=hr'
      have kA:Kp [] H5 (upd (upd (upd H5 t (.tup [.int (1+(i:Int)-d),.int (1+(i:Int))])) q (.lst [.ref t])) r (.lst (List.replicate (if b=true then(1:Int)else 0).toNat [V.ref t]).flatten)):=by
       have a1:Kp [] H5 (upd H5 t (.tup [.int (1+(i:Int)-d),.int (1+(i:Int))])):=Kp.new Kp.refl ft;have a2:Kp [] H5 (upd (upd H5 t (.tup [.int (1+(i:Int)-d),.int (1+(i:Int))])) q (.lst [.ref t])):=Kp.new a1 (a1.fre fq (by simp));exact Kp.new a2 (a2.fre fr (by simp))
      have RA:=R5.kp kA (by simp) (by simp)
      have hTt:(upd (upd (upd H5 t (.tup [.int (1+(i:Int)-d),.int (1+(i:Int))])) q (.lst [.ref t])) r (.lst (List.replicate (if b=true then(1:Int)else 0).toNat [V.ref t]).flatten)) t=some (.tup [.int (1+(i:Int)-d),.int (1+(i:Int))]):=by
       have b1:(upd (upd H5 t (.tup [.int (1+(i:Int)-d),.int (1+(i:Int))])) q (.lst [.ref t])) t=some (.tup [.int (1+(i:Int)-d),.int (1+(i:Int))]):=(upd_ne ntq).trans upd_same;exact(upd_ne (ne_fre fr b1)).trans b1
      have pA:=P5.kp kA (by simp);have kH:Kp [p] H (upd (upd (upd H5 t (.tup [.int (1+(i:Int)-d),.int (1+(i:Int))])) q (.lst [.ref t])) r (.lst (List.replicate (if b=true then(1:Int)else 0).toNat [V.ref t]).flatten)):=K25.trans (kA.weak (by simp));have ntp:t≠p:=by obtain⟨a,b,e,_⟩:=P5;exact(ne_fre ft e).symm
      have ftH:Fre H t:=K25.fre ft (nm1 ntp)
      by_cases c2:0<d
      .have eb:b=true:=by rw[hb];exact qAP c2
       subst eb;refine⟨ts1++[(((1+(i:Int)-d),(1+(i:Int))),t)],pA.kp (M:=[l]) (Kp.put Kp.refl (by simp)) (nm1 npl),Kp.new kH fl,RA.more hTt,λu hu=>?_,by rw[qAm];exact qAG _,q3.more (by lia) (by lia) (by lia)⟩;rcases qAY.mp hu with z|z
       .exact f3 u z
       .rw [qAQ.mp z];exact ftH
      .have eb:b=false:=by rw[hb];exact qAO c2
       subst eb;exact⟨ts1,pA.kp (M:=[l]) (Kp.put Kp.refl (by simp)) (nm1 npl),Kp.new kH fl,RA.same,f3,qBc _,q3⟩
     refine⟨_,_,_,rfl,rfl,upd_same,by split<;>decide,by split<;>decide,?_,λr hr'=>?_⟩
     .rw [qAS];show 1*_<=_;split<;>decide
     have hl6:∀o2 o3,(upd (upd (upd H5 t (.tup [.int (1+(i:Int)-d),.int (1+(i:Int))])) q o2) r o3) l=some (.lst (ts1.map λt=>V.ref t.2))\/l=r:=λo2 o3=>by
      by_cases z:l=r
      .exact .inr z
      .exact .inl ((upd_ne z).trans ((upd_ne nlq).trans (h4 _)))
     have nlr:l≠r:=ne_fre (show Fre _ r from hr') ((upd_ne nlq).trans (h4 _));obtain⟨ts2,g1,g2,g3,g4,g5,g6⟩:=fin _ r rfl hr';refine⟨_,_,_,_,rfl,rfl,(upd_ne nlr).trans ((upd_ne nlq).trans (h4 _)),upd_same,?_,hN _ _ ⟨d,ts2,rfl,g1,g2,g3,g4,?_,g6⟩⟩
     .have hl3:ts1.length<=191:=hl1;rw[qAE,len_rep,qAS];have:(if decide (0<d)=true then(1:Int)else 0).toNat<=1:=by split<;>decide
      simp only[qAZ,qBX];lia
     .rw [qAC (Or.inr cw)];rw[qAB (by lia)]at e3;lia
    .have cw:¬way=2:=by simpa using c
     refine hN _ _ ⟨v6,ts1,rfl,P4,K4,R4,f3,?_,q3⟩
     by_cases z:way=1
     .rw [qAC z]at e3;rw[qAC (Or.inl z)];exact e3
     .rw [qAB z]at e3;lia
    .rintro σ H5 ⟨v6,ts2,rfl,P5,K5,R5,f4,e4,q4⟩;refine⟨_,rfl,_,rfl,(by walk_at"ln"),λb hb=>?_⟩;have fb:Fre H5 b:=hb;refine⟨_,_,rfl,.inl (SqL.of upd_same),rfl,rfl,.inr ⟨_,rfl,?_⟩⟩;rw[qAC rfl,inV12];have npb:p≠b:=by obtain⟨x,y,e,_⟩:=P5;exact ne_fre fb e
     have nlb:l≠b:=ne_fre fb R5.top
     have hb2:(if(!(decide (way=1)||decide (way=2)))=true then(1:Int)else 0)=0\/((if(!(decide (way=1)||decide (way=2)))=true then(1:Int)else 0)=1/\¬(way=1\/way=2)):=by
      by_cases z:way=1\/way=2
      .left
       have:(decide (way=1)||decide (way=2))=true:=by
        rcases z with z|z<;>simp[z]
       rw[this];rfl
      .right;refine⟨?_,z⟩
       have:(decide (way=1)||decide (way=2))=false:=by
        rw[qAO λy=>z (.inl y),qAO λy=>z (.inr y)];rfl
       rw[this];rfl
     generalize (if(!(decide (way=1)||decide (way=2)))=true then(1:Int)else 0)=nn at hb2 ⊢
     have hnn:(1+(i:Int))*nn=0\/((1+(i:Int))*nn=1+i/\¬(way=1\/way=2)):=by
      rcases hb2 with z|⟨z,z'⟩
      .left;rw[z];lia
      .right;rw[z];exact⟨by lia,z'⟩
     have hmul:(1+(i:Int))*nn=0\/(1+(i:Int))*nn=1+i:=hnn.imp id And.left;have k5b:Kp [] H5 (upd H5 b (.lst [.int 1,.int 2])):=Kp.new Kp.refl fb
     refine⟨_,_,rfl,rfl,?_,_,rfl,by lia,by lia,zBm (lo:=0) (n:=((1+(i:Int))*nn).toNat) (λa σ H6=>∃(o7 o8:Option V) (ts3:List ((Int×Int)×Addr)),σ=[some (.ref p),some (.int m),some (.int way),some (.int thin),some (.ref l),some (.int (1+(i:Int))),some (.int v6),o7,o8]/\zB1 H6 p/\Kp [p] H H6/\ITs H6 l ts3/\(∀t∈ts3,Fre H t.2)/\ts3.length<=ts2.length+a/\zDp m ts3)
      ⟨_,_,ts2,rfl,P5.kp k5b (by simp),K5.trans (k5b.weak (by simp)),R5.kp k5b (by simp) (by simp),f4,qAG _,q4⟩ ?_ ?_⟩
     .rcases hb2 with z|⟨z,_⟩
      .rw [z];exact Or.inl ⟨by lia,by lia⟩
      .rw [z];exact Or.inl ⟨by lia,by lia⟩
     .rintro a σ H6 ha ⟨o7',o8',ts3,rfl,P6,K6,R6,f5,e5,q5⟩;refine hid2 ?_;intro _ _;have ha':(a:Int)<1+i:=by lia
      refine zIn (λσ H7=>∃bN:Bool,σ=[some (.ref p),some (.int m),some (.int way),some (.int thin),some (.ref l),some (.int (1+(i:Int))),some (.int v6),some (.int (0+(a:Int))),some (.bl bN)]/\H7=H6) (λN hN=>?_) ?_
      .refine ⟨_,rfl,rfl,_,rfl,ite2 (λc=>?_) (λc=>?_)⟩
       .exact hN _ _ ⟨true,rfl,rfl⟩
       .refine ⟨_,rfl,_,rfl,_,_,rfl,rfl,⟨by lia,by lia⟩,_,_,rfl,rfl,_,rfl,_,rfl,_,_,rfl,rfl,⟨by lia,by lia⟩,rfl,?_⟩;exact hN _ _ ⟨_,rfl,rfl⟩
      .rintro σ H7 ⟨bN,rfl,rfl⟩;refine⟨_,rfl,_,rfl,ite2 (λc=>?_) (λc=>?_)⟩
       .refine ⟨_,rfl,_,rfl,p,thin,rfl,P6,by lia,by lia,λd H8 d0 d1 P8 K8=>?_⟩;have R8:ITs H8 l ts3:=R6.kp K8 (nm1 npl.symm) λt ht=>nm1 (by obtain⟨x,y,e,_⟩:=hP;exact(ne_fre (f5 t ht) e).symm);have K68:=K6.trans K8;refine⟨rfl,_,rfl,rfl,rfl,_,rfl,ite2 (λc=>?_) (λc=>?_)⟩
        .-- _law_pairs_here.append((_law_i,_law_j))
         refine⟨_,rfl,.inl ⟨rfl,_,SqL.of R8.top⟩,_,rfl,_,rfl,(by walk_at"ln"),λt ht=>?_⟩;have ft:Fre H8 t:=ht;have nlt:l≠t:=ne_fre ft R8.top;have ntp:t≠p:=by obtain⟨x,y,e,_⟩:=P8;exact(ne_fre ft e).symm
         have k8:Kp [] H8 (upd H8 t (.tup [.int (0+(a:Int)),.int (1+(i:Int))])):=Kp.new Kp.refl ft;refine⟨_,_,_,rfl,rfl,(upd_ne nlt).trans R8.top,?_,_,_,ts3++[((0+(a:Int),1+(i:Int)),t)],rfl,(P8.kp k8 (by simp)).kp (M:=[l]) (Kp.put Kp.refl (by simp)) (nm1 npl),Kp.new (K68.trans (k8.weak (by simp))) fl,(R8.kp k8 (by simp) (by simp)).more upd_same,λu hu=>?_,?_,q5.more (by lia) (by lia) (by lia)⟩
         .rw [qAE,qAS];have:(if way=1\/way=2 then 1 else 0)<=1:=by split<;>decide
          lia
         .rcases qAY.mp hu with z|z
          .exact f5 u z
          .rw [qAQ.mp z];exact K68.fre ft (nm1 ntp)
         .rw [qAm];simp only[qAZ,qBX];lia
        .exact ⟨_,_,ts3,rfl,P8,K68,R8,f5,by lia,q5⟩
       .exact ⟨_,_,ts3,rfl,P6,K6,R6,f5,by lia,q5⟩
     .rintro σ H6 ⟨o7',o8',ts3,rfl,P6,K6,R6,f5,e5,q5⟩;refine⟨_,_,_,_,ts3,rfl,P6,K6,R6,f5,?_,q5⟩;have:=tri_step i
      have e6:ts3.length<=ts.length+(i+1):=by
       rcases hnn with z|⟨z,z'⟩
       .have:(if way=1\/way=2 then 1 else 0)<=1:=by split<;>decide
        rw[z]at e5;have e5:ts3.length<=ts2.length+0:=e5;lia
       .rw [qAB z']at e4;rw[z]at e5;have:(1+(i:Int)).toNat=i+1:=by lia
        lia
      have e7:(i+1)*(i+1+1)=(i+1)*(i+2):=rfl;rw[e7,<-this];lia
  .rintro σ H2 ⟨o5,o6,o7,o8,ts,rfl,P2,K2,R2,f2,e2,q2⟩;have hle:(m-1).toNat*((m-1).toNat+1)<=19*20:=Nat.mul_le_mul (by lia) (by lia);exact⟨_,rfl,k l ts H2 fl R2 f2 (by lia) q2 P2 K2⟩
end
theorem zHi{α:Type}[BEq α][LawfulBEq α]:∀{L:List α}{i:Nat}{x:α},L.Nodup->L[i]?=some x->L.idxOf x=i
 |[],i,x,_,h=>by simp at h
 |y::L,0,x,_,h=>by
  have:y=x:=qAW h;subst this;simp
 |y::L,i+1,x,hn,h=>by
  rw[qCm]at h;obtain⟨h1,h2⟩:=qBJ.mp hn;have hne:y≠x:=λz=>h1 (z▸qAT h);rw[List.idxOf_cons,qA0.mpr hne];show L.idxOf x+1=i+1;rw[zHi h2 h]
theorem map_nodup{α β:Type}{f:α->β}:∀{L:List α},L.Nodup->(∀a∈L,∀b∈L,f a=f b->a=b)->(L.map f).Nodup
 |[],_,_=>qBe
 |x::L,h,hi=>by
  obtain⟨h1,h2⟩:=qBJ.mp h;rw[qAl];refine qBJ.mpr ⟨λz=>?_,map_nodup h2 λa ha b hb=>hi a (qAU _ ha) b (qAU _ hb)⟩;obtain⟨y,hy,e⟩:=qAM.mp z;rw[hi y (qAU _ hy) x qAX e]at hy;exact h1 hy
theorem zE1{K:PySem.W.Frag}{c e:Addr}{xs:List V}{Q:VK}(h1:SqL K H c xs)(h2:SqL K H e [])(h:∀bb:Bool,(bb=true->xs≠[])->Q (.bl bb) H):zH2 K 8 false (.ref c) (.ref e) H Q\/rUnlen K true (.ref c) (.ref e) H Q:=by
 by_cases z:xs=[]
 .subst z;exact .inl ⟨c,e,_,_,rfl,rfl,h1,h2,rfl,(λi x y h=>by simp at h),h false (λz=>nomatch z)⟩
 .refine .inr ⟨c,e,_,_,rfl,rfl,h1,h2,λy=>z (qCr.mp y),h true λ_=>z⟩
structure Spots(Is:List Int)(m:Nat):Prop where
 len:Is.length=m
 nd:Is.Nodup
 lt:∀x∈Is,0<=x/\x<m
theorem Spots.put{Is:List Int}{m:Nat}(S:Spots Is m)(d:Nat):Spots (Is.take d++(m:Int)::Is.drop d) (m+1):=by
 have hp:=ST.ins_perm Is d (m:Int);refine⟨by rw[hp.length_eq,qAZ,S.len],hp.nodup_iff.mpr (qBJ.mpr ⟨λz=>?_,S.nd⟩),λx hx=>?_⟩
 .have:=(S.lt _ z).2;lia
 .rcases qAL.mp (hp.mem_iff.mp hx)with z|z
  .subst z;lia
  .have:=S.lt x z;lia
def rowOf(ns:List Str)(Is:List Int):List Str:=Is.map λk=>ns.getD k.toNat Str.empty
theorem rowOf_nd{ns:List Str}{Is:List Int}(hn:ns.Nodup)(S:Spots Is ns.length):(rowOf ns Is).Nodup:=by
 refine map_nodup S.nd λa ha b hb e=>?_;have h1:=S.lt a ha;have h2:=S.lt b hb;have e1:ns.getD a.toNat Str.empty=ns[a.toNat]'(by lia):=by rw[qAx,qAa (by lia)];rfl
 have e2:ns.getD b.toNat Str.empty=ns[b.toNat]'(by lia):=by rw[qAx,qAa (by lia)];rfl
 rw[e1,e2]at e;have:=(qC2 hn).mp e;lia
theorem rowOf_at{ns:List Str}{Is:List Int}(S:Spots Is ns.length){i:Int}(h0:0<=i)(h1:i<ns.length):∃s n,Is[i.toNat]?=some s/\0<=s/\ns[s.toNat]?=some n/\(rowOf ns Is)[i.toNat]?=some n:=by
 have hi:i.toNat<Is.length:=by rw[S.len];lia
 have hs:=S.lt Is[i.toNat] (qBD hi);have hs':Is[i.toNat].toNat<ns.length:=by lia
 refine⟨Is[i.toNat],ns[Is[i.toNat].toNat],qAa hi,hs.1,qAa hs',?_⟩;unfold rowOf;rw[qAN,qAa hi];show some (ns.getD _ _)=_;rw[qAx,qAa hs'];rfl
theorem ins_map{α β:Type}(f:α->β)(L:List α)(d:Nat)(x:α):(L.map f).take d++f x::(L.map f).drop d=(L.take d++x::L.drop d).map f:=by
 rw[qAb,qAl,qCp,qCq]
theorem it_at{ts:List ((Int×Int)×Addr)}{i:Nat}{v:V}(h:(ts.map λq=>V.ref q.2)[i]?=some v):∃q,ts[i]?=some q/\v= .ref q.2:=by
 rw[qAN]at h;obtain⟨n,e,r⟩:=qBb.mp h;exact⟨n,e,r.symm⟩
section
def spLJobs:Sp:=λvs H Q _=>∃(p:Addr)(mo:Int),vs=[.ref p,.int mo]/\0<=mo/\mo<=20/\zB1 H p/\∀(t l m:Addr)(ns:List Str) (qs:List (List Str×Addr)) (r:Str->Nat) (H':Hp),(ns.length:Int)<=mo->qs.length<=192->H' t=some (.tup [.ref l,.ref m])->Fre H t->Fre H l->Fre H m->(∀q∈qs,Fre H q.2)->Txs H' l ns->Ords H' m qs->Good ns qs r->zB1 H' p->Kp [p] H H'->Q (.ref t) H'
abbrev s_jobs:Stmt:=top 41
theorem zDx:FnScope ["_law_purse_here","_law_most","_law_many","_law_names_here","_law_way","_law_thin","_law_pairs_here","_law_k","_law_spots"] ["_law_purse_here","_law_most"] (zAe s_jobs):=fnS
theorem ok_jobs{f:Addr}{fd:FuncData}(F:Fun K "_law_jobs" "_law_jobs" s_jobs f fd)(T:Txt K mg)(C_take:Cal P w K mg base "_law_take" 1 ["_law_purse_here","_law_many"] zGt)(C_names:Cal P w K mg base "_law_names" 2 ["_law_purse_here","_law_many"] spLNames)
  (C_pairs:Cal P w K mg base "_law_pairs" 2 ["_law_purse_here","_law_many","_law_way","_law_thin"] spLPairs):FnOk P w K mg base CX0 3 f fd ["_law_purse_here","_law_most"] spLJobs:=by
 refine F.ok zDx (λvs H Q E h=>?_) (λcdv A outer s H vs Q E hr h=>?_)
 .obtain ⟨p,mo,rfl,_⟩:=h;rfl
 .obtain ⟨p,mo,rfl,mo0,mo1,hP,k⟩:=h;have HR_names:=hr;have HR_pairs:=hr;have HR_take:=hr.mono (j:=1) (by decide)
  refine⟨_,(zAc (psS (i:=2) zDx.nd (zAj C_take HR_take rfl (zAa (pv 0) (zAa (zAv zDs (pv 1) zAh) zAb)))) (zAc (psS (i:=3) zDx.nd (zAj C_names HR_names rfl (zAa (pv 0) (zAa (pv 2) zAb))))
   (zAc (psS (i:=4) zDx.nd (zAj C_take HR_take rfl (zAa (pv 0) (zAa zAh zAb))))
   (zAc (psS (i:=5) zDx.nd (zBe zAw (zAt (zAa zAh (zAa zAh (zAa zAh (zAa zAh (zAa zAh zAb)))))) (zAj C_take HR_take rfl (zAa (pv 0) (zAa zAh zAb))) (fun _ _=>rfl)))
   (zAc (psS (i:=6) zDx.nd (zAj C_pairs HR_pairs rfl (zAa (pv 0) (zAa (pv 2) (zAa (pv 4) (zAa (pv 5) zAb))))))
   (zAc (zBk qAr rfl (zBc rfl T.z_range (zAa (zAv zFf (zA0 zFn (by rfl) T.z_int bo_int (zAa (zBh (zI1 HR_take) (pv 6) (zAt zAb) (zAq _)) zAb)) (zAj C_take HR_take rfl (zAa (pv 0) (zAa zAh zAb)))) zAb)) (pgN (i:=7) zDx.nd)
    (zAd (zA4 (zFd qBF qCy qCz zEf (pv 6) (zAa (zAj C_take HR_take rfl (zAa (pv 0) (zAa (zAv zDs (zAg zAn (by rfl) T.z_len zBr (zAa (pv 6) zAb)) zAh) zAb))) (zAa (zBe zAw (pv 6) (zAj C_take HR_take rfl (zAa (pv 0) (zAa (zAg zAn (by rfl) T.z_len zBr (zAa (pv 6) zAb)) zAb))) (λ_ _=>rfl)) zAb))))))
   (zAc (psS (i:=8) zDx.nd (zAt zAb))
   (zAc (zBk qAr rfl (zBc rfl T.z_range (zAa (pv 2) zAb)) (pgN (i:=7) zDx.nd)
    (zAd (zA4 (zFd qBF qCy qCz zEf (pv 8) (zAa (zAj C_take HR_take rfl (zAa (pv 0) (zAa (zAv zDs (pv 7) zAh) zAb))) (zAa (pv 7) zAb))))))
   (zAd (zAm (zBg (zAa (pv 3) (zAa (zBs rfl (zBt (sc:=zAe s_jobs) rfl (by decide +kernel)) (Draws.own (x:="_law_i") (Draws.own (x:="_law_j") (dtk (i:=3) rfl (dtk (i:=8) rfl Draws.nil)))) (zA5 (pv 6)) (λ_ _ _ _=>(zG5 (K:=K) (n:=2) rfl (zBa (pgB (i:=0)) (zBa (pgB (i:=1)) zEd)))) (λ_ _ _ _=>zB6) (λ_ _ _ _=>(zBg (zAa (zBe (zDb (K:=K)) (pv 2) (zBe (zDb (K:=K)) (pv 3) (pv 0) (λ_ _=>rfl)) (λ_ _=>rfl)) (zAa (zBe (zDb (K:=K)) (pv 2) (zBe (zDb (K:=K)) (pv 3) (pv 1) (λ_ _=>rfl)) (λ_ _=>rfl)) zAb))))) zAb))))))))))))),?_⟩
  refine hid9 ?_;intro _ _ _ _ _ _ _ _ _;refine⟨_,rfl,_,rfl,_,_,rfl,rfl,p,mo+1,rfl,hP,by lia,by lia,λm H1 m0 m1 P1 K1=>?_⟩;refine⟨_,rfl,_,rfl,p,m,rfl,P1,m0,by lia,λl ns H2 fl hl en nd nm P2 K2=>?_⟩;have npl:p≠l:=by obtain⟨a,b,e,_⟩:=P1;exact ne_fre fl e
  refine⟨_,rfl,p,6,rfl,P2,by decide,by decide,λway H3 w0 w1 P3 K3=>?_⟩;refine⟨(by walk_at"ln"),λb hb=>?_⟩;have fb:Fre H3 b:=hb;have npb:p≠b:=by obtain⟨x,y,e,_⟩:=P3;exact ne_fre fb e
  refine⟨_,rfl,p,5,rfl,P3.kp (M:=[]) (Kp.new Kp.refl fb) (by simp),by decide,by decide,λd H4 d0 d1 P4 K4=>?_⟩
  obtain⟨th,hth,th2,th12⟩:∃th:Int,([V.int 2,.int 3,.int 4,.int 6,.int 12])[d.toNat]?=some (.int th)/\2<=th/\th<=12:=by
   have:d=0\/d=1\/d=2\/d=3\/d=4:=by lia
   rcases this with rfl|rfl|rfl|rfl|rfl
   .exact ⟨2,rfl,by decide,by decide⟩
   .exact ⟨3,rfl,by decide,by decide⟩
   .exact ⟨4,rfl,by decide,by decide⟩
   .exact ⟨6,rfl,by decide,by decide⟩
   .exact ⟨12,rfl,by decide,by decide⟩
  refine⟨_,_,_,.int th,rfl,rfl,SqL.of (K4 b _ upd_same (nm1 npb.symm)),zA9 d0 hth,?_⟩;have K34:Kp [p] H3 H4:=Kp.trans (Kp.new Kp.refl fb) K4;have K14:Kp [p] H1 H4:=K2.trans (K3.trans K34);have hl4:Txs H4 l ns:=(K3.trans K34) l _ hl (nm1 npl.symm);refine⟨_,rfl,_,rfl,_,rfl,_,rfl,p,m,way,th,rfl,P4,m0,by lia,th2,th12,λc ts H5 fc I5 ft5 tl5 ok5 P5 K5=>?_⟩;have npc:p≠c:=by obtain⟨x,y,e,_⟩:=P4;exact ne_fre fc e
  have hl5:Txs H5 l ns:=K5 l _ hl4 (nm1 npl.symm);have nlc:l≠c:=ne_fre fc hl4;have K05:Kp [p] H H5:=K1.trans (K14.trans K5);have fcH:Fre H c:=(K1.trans K14).fre fc (nm1 npc.symm);have flH:Fre H l:=K1.fre fl (nm1 npl.symm);refine⟨_,rfl,(by walk_at"ln"),λe he=>?_⟩;have fe:Fre H5 e:=he;have npe:p≠e:=by obtain⟨x,y,q,_⟩:=P5;exact ne_fre fe q
  have k5e:Kp [] H5 (upd H5 e (.lst [])):=Kp.new Kp.refl fe;have I5e:=I5.kp k5e (by simp) (by simp);refine zE1 (xs:=ts.map λt=>V.ref t.2) (SqL.of I5e.top) (SqL.of upd_same) λbb hbb=>?_;refine .inr ⟨bb,rfl,?_⟩;refine⟨_,rfl,p,3,rfl,P5.kp k5e (by simp),by decide,by decide,λdd H6 dd0 dd1 P6 K6=>?_⟩;have K56:Kp [p] H5 H6:=Kp.trans (k5e.weak (by simp)) K6;have ntp:∀t∈ts,t.2∉[p]:=λt ht=>nm1 (by obtain⟨x,y,q,_⟩:=P4;exact(ne_fre (ft5 t ht) q).symm);have I6:ITs H6 c ts:=I5e.kp K6 (nm1 npc.symm) ntp
  have hmul:(if bb=true then(1:Int)else 0)*dd=0\/((if bb=true then(1:Int)else 0)*dd=dd/\ts≠[]):=by
   cases bb with
   |false=>left;rw[qAB (by decide)];lia
   |true=>right;rw[qAC rfl];exact⟨by lia,λz=>hbb rfl (by rw[z];rfl)⟩
  have hml:(if bb=true then(1:Int)else 0)=0\/(if bb=true then(1:Int)else 0)=1:=by cases bb<;>simp
  generalize (if bb=true then(1:Int)else 0)=n01 at hmul hml ⊢
  refine⟨_,_,rfl,rfl,?_,_,rfl,by rcases hmul with z|⟨z,_⟩<;>lia,by rcases hmul with z|⟨z,_⟩<;>lia,zBm (lo:=0) (n:=(n01*dd).toNat) (λi σ H7=>∃(o7 o8:Option V) (ts':List ((Int×Int)×Addr)),σ=[some (.ref p),some (.int mo),some (.int m),some (.ref l),some (.int way),some (.int th),some (.ref c),o7,o8]/\zB1 H7 p/\Kp [p] H H7/\Txs H7 l ns/\ITs H7 c ts'/\(∀t∈ts',t∈ts)/\ts'.length=ts.length+i)
   ⟨_,_,ts,rfl,P6,K05.trans K56,K56 l _ hl5 (nm1 npl.symm),I6,λt h=>h,rfl⟩ ?_ ?_⟩
  .rcases hml with z|z
   .exact Or.inl ⟨by lia,by lia⟩
   .exact Or.inl ⟨by lia,by lia⟩
  .rintro i σ H7 hi ⟨o7,o8,ts',rfl,P7,K7,hl7,I7,s7,e7⟩
   have ne:ts≠[]:=by
    rcases hmul with z|⟨_,z⟩
    .rw [z]at hi;exact absurd hi (qDB _)
    .exact z
   have pos:0<ts'.length:=by
    have:=List.length_pos_iff.mpr ne;lia
   have ntp':∀t∈ts',t.2∉[p]:=λt ht=>ntp t (s7 t ht);have nlc':l≠c:=nlc;refine⟨_,rfl,.inl ⟨rfl,_,SqL.of I7.top⟩,_,rfl,_,rfl,_,_,rfl,.inl (SqL.of I7.top),_,_,rfl,rfl,p,_,rfl,P7,?_,?_,λd1 H8 x0 x1 P8 K8=>?_⟩
   .lia
   .rw [qAE];have:i<3:=by rcases hmul with z|⟨z,_⟩<;>lia
    lia
   have I8:ITs H8 c ts':=I7.kp K8 (nm1 npc.symm) ntp';refine⟨_,rfl,_,rfl,_,rfl,_,_,rfl,.inl (SqL.of I8.top),p,_,rfl,P8,?_,?_,λd2 H9 y0 y1 P9 K9=>?_⟩
   .rw [qAE];lia
   .rw [qAE];have:i<3:=by rcases hmul with z|⟨z,_⟩<;>lia
    lia
   have I9:ITs H9 c ts':=I8.kp K9 (nm1 npc.symm) ntp';rw[qAE]at x1 y1;obtain⟨t,et⟩:∃t,ts'[d2.toNat]?=some t:=⟨ts'[d2.toNat]'(by lia),qAa (by lia)⟩;have evt:(ts'.map λt=>V.ref t.2)[d2.toNat]?=some (V.ref t.2):=by rw[qAN,et];rfl
   refine⟨_,_,_,.ref t.2,rfl,rfl,SqL.of I9.top,zA9 y0 evt,_,_,_,_,rfl,rfl,I9.top,?_,x0,?_,?_⟩
   .rw [qAE,qAS];have:i<3:=by rcases hmul with z|⟨z,_⟩<;>lia
    lia
   .rw [qAE];lia
   .have hp:=ST.ins_perm ts' d1.toNat t;refine⟨_,_,ts'.take d1.toNat++t::ts'.drop d1.toNat,rfl,P9.kp (M:=[c]) (Kp.put Kp.refl (by simp)) (nm1 npc),Kp.new (K7.trans (K8.trans K9)) fcH,(upd_ne nlc).trans ((K8.trans K9) l _ hl7 (nm1 npl.symm)),⟨?_,λu hu=>?_⟩,λu hu=>?_,?_⟩
    .rw [upd_same,ins_map (λt:(Int×Int)×Addr=>V.ref t.2)]
    .have hu':u∈ts':=by
      rcases qAL.mp (hp.mem_iff.mp hu)with z|z
      .rw [z];exact qAT et
      .exact z
     exact(upd_ne (zBf (I9.row u hu') I9.top (λy=>nomatch y))).trans (I9.row u hu')
    .rcases qAL.mp (hp.mem_iff.mp hu)with z|z
     .rw [z];exact s7 t (qAT et)
     .exact s7 u z
    .rw [hp.length_eq,qAZ,e7];lia
  .rintro σ H7 ⟨o7,o8,ts',rfl,P7,K7,hl7,I7,s7,e7⟩;have hts:ts'.length<=192:=by rcases hmul with z|⟨z,_⟩<;>lia
   refine⟨(by walk_at"ln"),λg hg=>?_⟩;have fg:Fre H7 g:=hg;have npg:p≠g:=by obtain⟨x,y,q,_⟩:=P7;exact ne_fre fg q
   have nlg:l≠g:=ne_fre fg hl7;have ncg:c≠g:=ne_fre fg I7.top;have fgH:Fre H g:=K7.fre fg (nm1 npg.symm);have k7g:Kp [] H7 (upd H7 g (.lst [])):=Kp.new Kp.refl fg;have ntp':∀t∈ts',t.2∉[p]:=λt ht=>ntp t (s7 t ht)
   refine⟨_,rfl,_,rfl,by lia,by lia,zBm (lo:=0) (n:=m.toNat) (λi σ H8=>∃(o7:Option V)(Is:List Int),σ=[some (.ref p),some (.int mo),some (.int m),some (.ref l),some (.int way),some (.int th),some (.ref c),o7,some (.ref g)]/\zB1 H8 p/\Kp [p] H H8/\Txs H8 l ns/\ITs H8 c ts'/\H8 g=some (.lst (Is.map V.int))/\Spots Is i)
    ⟨_,[],rfl,P7.kp k7g (by simp),Kp.new K7 fgH,k7g l _ hl7 (by simp),I7.kp k7g (by simp) (by simp),upd_same,rfl,qBe,(λx h=>nomatch h)⟩ ?_ ?_⟩
   .rintro i σ H8 hi ⟨o7,Is,rfl,P8,K8,hl8,I8,hg8,S8⟩;refine⟨_,rfl,.inl ⟨rfl,_,SqL.of hg8⟩,_,rfl,_,rfl,_,_,rfl,rfl,p,_,rfl,P8,?_,?_,λd1 H9 x0 x1 P9 K9=>?_⟩
    .lia
    .lia
    have hg9:=K9 g _ hg8 (nm1 npg.symm);refine⟨_,rfl,_,_,_,_,rfl,rfl,hg9,?_,x0,?_,?_⟩
    .rw [qAE,S8.len,qAS];lia
    .rw [qAE,S8.len];lia
    .have e1:(Is.map V.int).take d1.toNat++V.int (0+(i:Int))::(Is.map V.int).drop d1.toNat=(Is.take d1.toNat++(i:Int)::Is.drop d1.toNat).map V.int:=by
      rw[Int.zero_add];exact ins_map V.int Is d1.toNat (i:Int)
     rw[e1];have hl9:=K9 l _ hl8 (nm1 npl.symm);have I9:=I8.kp K9 (nm1 npc.symm) ntp';exact⟨_,_,rfl,P9.kp (M:=[g]) (Kp.put Kp.refl (by simp)) (nm1 npg),Kp.new (K8.trans K9) fgH,(upd_ne nlg).trans hl9,⟨(upd_ne ncg).trans I9.top,λu hu=>(upd_ne (zBf (I9.row u hu) hg9 (λy=>nomatch y))).trans (I9.row u hu)⟩,upd_same,S8.put _⟩
   .rintro σ H8 ⟨o7,Is,rfl,P8,K8,hl8,I8,hg8,S8⟩;rw[<-en]at S8;have hmn:(ns.length:Int)=m:=by rw[en];lia
    refine⟨_,rfl,_,rfl,_,rfl,⟨_,SqL.of I8.top⟩,λB hB=>zBz (ts'.map λt=>V.ref t.2) (λi ys τ H9=>∃ks:List (List Str×Addr),(∃o0 o1,τ=[o0,o1,some (.ref l),some (.ref g)])/\ys=(ks.map λq=>V.ref q.2)/\ks.length=i/\(∀q∈ks,H9 q.2=some (.tup (q.1.map V.str))/\Fre H q.2/\∃(a b:Str)(x y:Nat),q.1=[a,b]/\x<y/\(rowOf ns Is)[x]?=some a/\(rowOf ns Is)[y]?=some b)/\Kp [] H8 H9/\H9 B=some (.lst ys)) ⟨[],⟨_,_,rfl⟩,rfl,rfl,(λq h=>nomatch h),Kp.new Kp.refl hB,upd_same⟩ (λi ys τ H9 ⟨_,_,_,_,_,k9,_⟩=>SqL.of (k9 c _ I8.top (by simp))) ?_ ?_⟩
    .rintro i v ys τ H9 hv ⟨ks,⟨o0,o1,rfl⟩,rfl,ek,hk,k9,h9⟩;obtain⟨t,eq,rfl⟩:=it_at hv;have mt:=qAT eq;have okt:=ok5 t (s7 t mt);have hrow:H9 t.2=some (.tup [.int t.1.1,.int t.1.2]):=k9 t.2 _ (I8.row t mt) (by simp);refine⟨_,_,rfl,.inl (.inl hrow),rfl,_,_,rfl,_,_,rfl,rfl,?_⟩;obtain⟨s1,n1,a1,a2,a3,a4⟩:=rowOf_at S8 okt.1 (by lia);obtain⟨s2,n2,b1,b2,b3,b4⟩:=rowOf_at S8 (i:=t.1.2) (by lia) (by lia);have hl9:=k9 l _ hl8 (by simp);have hg9:=k9 g _ hg8 (by simp);have ai:∀{x:Int}{s:Int},0<=x->Is[x.toNat]?=some s->atI (Is.map V.int) x=some (.int s):=λh0 h=>zA9 h0 (by rw[qAN,h];rfl);have an:∀{x:Int}{n:Str},0<=x->ns[x.toNat]?=some n->atI (ns.map V.str) x=some (.str n):=λh0 h=>zA9 h0 (by rw[qAN,h];rfl);refine⟨_,rfl,_,rfl,_,rfl,_,_,_,_,rfl,rfl,SqL.of hg9,ai okt.1 a1,_,_,_,_,rfl,rfl,SqL.of hl9,an a2 a3,_,rfl,_,rfl,_,rfl,_,_,_,_,rfl,rfl,SqL.of hg9,ai (by lia) b1,_,_,_,_,rfl,rfl,SqL.of hl9,an b2 b3,(by walk_at"ln"),λu hu=>?_⟩;have fu:Fre H9 u:=hu;have nBu:B≠u:=ne_fre fu h9;have hu8:Fre H8 u:=k9.fre fu (by simp);have npu:p≠u:=by obtain⟨x,y,q,_⟩:=P8;exact ne_fre hu8 q
     have fuH:Fre H u:=K8.fre hu8 (nm1 npu.symm);refine⟨(upd_ne nBu).trans h9,?_,ks++[([n1,n2],u)],⟨_,_,rfl⟩,?_,by rw[qAm,ek];rfl,λq hq=>?_,Kp.new (Kp.new k9 (k9.fre fu (by simp))) hB,upd_same⟩
     .have:=(qAg.mp eq).1;rw[qAE,ek,qAS];lia
     .rw [qAb];rfl
     .rcases qAY.mp hq with z|z
      .obtain ⟨z1,z2⟩:=hk q z;exact⟨(upd_ne (zBf z1 h9 (λy=>nomatch y))).trans ((upd_ne (ne_fre fu z1)).trans z1),z2⟩
      .rw [qAQ.mp z];exact⟨(upd_ne nBu.symm).trans upd_same,fuH,n1,n2,t.1.1.toNat,t.1.2.toNat,rfl,by lia,a4,b4⟩
    .rintro ys τ H9 ⟨ks,_,rfl,ek,hk,k9,h9⟩;rw[qAE]at ek;refine⟨(by walk_at"ln"),λt ht=>?_⟩;have ft:Fre H9 t:=ht;have k10:Kp [] H9 (upd H9 t (.tup [.ref l,.ref B])):=Kp.new Kp.refl ft;have ft8:Fre H8 t:=k9.fre ft (by simp);have npt:p≠t:=by obtain⟨x,y,q,_⟩:=P8;exact ne_fre ft8 q
     have npB:p≠B:=by obtain⟨x,y,q,_⟩:=P8;exact ne_fre (show Fre H8 B from hB) q
     have rnd:=rowOf_nd nd S8
     have rin:∀{x:Nat}{a:Str},(rowOf ns Is)[x]?=some a->a∈ns:=λ{x a} h=>by
      obtain⟨s,hs,e⟩:=qAM.mp (qAT h);have:=S8.lt s hs;rw[<-e,qAx,qAa (by lia)];exact qBD _
     refine k t l B ns ks (λn=>(rowOf ns Is).idxOf n) _ (by rw[en];lia) (by lia) upd_same (K8.fre ft8 (nm1 npt.symm)) flH (K8.fre (show Fre H8 B from hB) (nm1 npB.symm)) (λq hq=>(hk q hq).2.1) ((k9.trans k10) l _ hl8 (by simp)) ⟨k10 B _ h9 (by simp),λq hq=>k10 _ _ (hk q hq).1 (by simp),λq hq=>?_⟩ ⟨nm,nd,by rw[en];lia,by lia,λq hq x hx=>?_,λq hq=>?_⟩ (P8.kp (k9.trans k10) (by simp)) (K8.trans ((k9.trans k10).weak (by simp)))
     .obtain ⟨a,b,x,y,e,_⟩:=(hk q hq).2.2;exact⟨a,b,e⟩
     .obtain ⟨a,b,i,j,e,_,h1,h2⟩:=(hk q hq).2.2;rw[e]at hx;rcases qAL.mp hx with z|z
      .rw [z];exact rin h1
      .rw [qAQ.mp z];exact rin h2
     .obtain ⟨a,b,i,j,e,hij,h1,h2⟩:=(hk q hq).2.2;have e1:fst q=a:=by unfold fst;rw[e];rfl
      have e2:snd q=b:=by unfold snd;rw[e];rfl
      rw[e1,e2,zHi rnd h1,zHi rnd h2];exact hij
end
end My
namespace ST
open PySem L2 PySem.SetTable PyProof.Rows
def SetT{prog:Program}{w:World}(h:Heap)(a:Addr)(ks:List Str):Prop:=∃S,h.SetOf (PySem.strKind prog w) a S ks.length/\∀k,S k=decide (k∈ks)
section
variable{prog:Program}{w:World}{A:Around}{R:Result->Shared->Prop}{I:Addr}{fp wr:List Addr}{G:Array GenState->Array GenState->Prop}{P:Nat->Value->Prop}{St:Nat->Shared->Prop}
theorem SetT.kept{h h':Heap}{a:Addr}{ks:List Str}(g:SetT (prog:=prog) (w:=w) h a ks)(e:∀o,h.get? a=some o->h'.get? a=some o):SetT (prog:=prog) (w:=w) h' a ks :=
 let⟨S,⟨o,es,ep,t,ho,r⟩,m⟩:=g
 ⟨S,⟨o,es,ep,t,e o ho,r⟩,m⟩
theorem c_fillS{ks:List Str}(W:WalksS prog w A.in1 I fp wr G ks.length P St)(a:Addr)(haf:a∉fp)(hP:∀i v,P i v->∃x,ks[i]?=some x/\RelV (.str x) v)(nd:ks.Nodup)(hc:ks.length<=306) :
  ∀(k i:Nat)(s:Shared),ks.length=i+k->St i s->SetT (prog:=prog) (w:=w) s.heap a (ks.take i) ->
   (∀s',Moved (a::wr) G s s'->SetT (prog:=prog) (w:=w) s'.heap a ks->R (.ok (.ret .none)) s')->codeAny (model prog w) A (.builtin "set.update.loop" ⟨[.ref a,.ref I],[]⟩) R s:=by
 have haw:a∉wr:=λz=>haf (W.sub a z);intro k
 induction k with
 |zero=>
  intro i s e st g hR;have e:i=ks.length:=by lia
  subst e;rw[qAq]at g;refine qBS qDC ?_;rw[qBf qCT _];change wpAny _ A.in1 (pyNext (Value.ref I) >>= _) _ _ s;exact qAA (W.done s _ _ st λs1 mv=>qAD (hR s1 (mv.mono λb hb=>qAU a hb) (g.kept λo q=>mv.heap a o haw q)))
 |succ k ih=>
  intro i s e st g hR;have hi:i<ks.length:=by lia
  refine qBS qDC ?_;rw[qBf qCT _];change wpAny _ A.in1 (pyNext (Value.ref I) >>= _) _ _ s;refine qAA (W.item i s _ _ hi st λv s1 pv st1 mv=>?_);obtain⟨x,ex,t,rfl⟩:=hP i v pv
  have hx:x∉ks.take i:=λz=>by
   obtain⟨hi',rfl⟩:=qAg.mp ex;obtain⟨j,hj,e2⟩:=qA5.mp z;rw[qAd]at hj;rw[List.getElem_take]at e2;have:=(qC2 nd).mp e2;lia
  obtain⟨S,g1,m⟩:=g.kept (h':=s1.heap) λo q=>mv.heap a o haw q;change wpAny _ A.in1 (holding [Value.str x t] (setAdd a (.str x t)) >>= _) _ _ s1;refine qAA (qAk ?_);unfold setAdd;have lt:(ks.take i).length=i:=by rw[qAd];lia
  refine qAk (qAA ((PySem.strKind prog w).pyHash (k:=x) (v:=.str x t) (by show Value.isStrOf x (.str x t)=true;simp[Value.isStrOf]) ?_));refine wpAny_setAddHashed_of (knd:=PySem.strKind prog w) (s:={s1 with toks:=s1.toks+1}) (k:=x) (by show Value.isStrOf x (.str x t)=true;simp[Value.isStrOf]) rfl g1 (by rw[lt];unfold scanBound;lia) λh' sb g2=>?_
  have g3:SetT (prog:=prog) (w:=w) h' a (ks.take (i+1)):=by
   refine⟨_,(?_:h'.SetOf (PySem.strKind prog w) a (λk'=>S k'||decide (k'=x)) _),λk=>?_⟩
   .have e1:S x=false:=by rw[m];simp[hx]
    rw[e1,qAB qAh]at g2;rw[show(ks.take (i+1)).length=(ks.take i).length+1 by rw[qAd,qAd];lia];exact g2
   .rw [m,qCU,ex];simp
  have st2:=W.frame (i+1) s1 h' (s1.toks+1) st1 (qB2 _ _) λb hb o q=>by
   rw[sb.2 b λz=>haf (z▸hb)];exact q
  refine qAD ⟨qBq qCT _,ih (i+1) _ (by lia) st2 g3 λs2 mv2 g4=>hR s2 ?_ g4⟩;refine Moved.trans W.gtrans ((mv.mono λb hb=>qAU a hb).then_heap (qB2 _ _) λb o hb z=>?_) mv2;exact(sb.2 b λy=>hb (y▸qAX)).trans z
end
section
variable{prog:Program}{w:World}{A:Around}{E:Value->Shared->Prop}{s:Shared}
theorem w_setS{l:Addr}{its:Array Value}{ks:List Str}{Q:Value->Shared->Prop}(hh:A.handled=none)(hl:s.heap.IsList l its)(ei:Vals (ks.map V.str) its.toList)(nd:ks.Nodup)(hc:ks.length<=306)
  (h:∀(h':Heap)(tk:Nat),s.toks<=tk->SetT (prog:=prog) (w:=w) h' s.heap.objs.size ks->(∀b o,s.heap.get? b=some o->h'.get? b=some o)->Q (.ref s.heap.objs.size) {s with heap:=h',toks:=tk}) :
  wpAny (model prog w) A (call (.type "set") [.ref l]) Q E s:=by
 refine w_setBy hh hl (λA1 R s3 fp G St _ W hf hS _ st hR=>?_) h
 have ez:its.size=ks.length:=by
  have:=ei.length;simpa using this.symm
 rw[ez]at W;refine c_fillS W s.heap.objs.size hf (ks:=ks) (λi v hv=>?_) nd hc ks.length 0 _ (by lia) st ⟨_,(setObjOf_fresh (knd:=PySem.strKind prog w) (!byt w)).setOf hS (by unfold scanBound;lia),λk=>by simp⟩ hR;have hi:its.toList[i]?=some v:=by rw[qAn];exact hv
 cases hk:ks[i]? with
 |none=>
  have:=ei.none_of (i:=i) (by rw[qAN,hk];rfl);rw[hi]at this;cases this
 |some x=>
  obtain⟨u,q1,q2⟩:=ei.get (i:=i) (x:=.str x) (by rw[qAN,hk];rfl);rw[hi]at q1;cases q1;exact⟨x,rfl,q2⟩
end
end ST
namespace L2
open PySem PySem.Spec PyProof.Rows
section
variable{prog:Program}{w:World}{A:Around}{E:Value->Shared->Prop}{s:Shared}
theorem rv_len:typeLookup (.type "list_reverseiterator") "__len__"=pure none:=by rw[qB6,qB7];kernel_rfl
theorem rv_hint:typeLookup (.type "list_reverseiterator") "__length_hint__"=pure (some (.builtin "list_reverseiterator.__length_hint__")):=by rw[qB6,qB7];kernel_rfl
theorem hint_rev{r l:Addr}{i:Int}{Q:Bool->Shared->Prop}(hr:s.heap.IsRevIter r l i)(h:Q false s):wpAny (model prog w) A (Builtin.List.listLengthHint (.ref r)) Q E s:=by
 unfold Builtin.List.listLengthHint;refine qAA (qCi hr.typeIs rv_len ?_);refine qCZ (λhab=>absurd hab (by decide +kernel)) (λ_=>?_);refine qCZ (λhab=>absurd hab (by decide)) (λ_=>?_);refine qAA (qCi hr.typeIs rv_hint ?_);generalize hid:("list_reverseiterator.__length_hint__": String)=id0
 wp_delta
 rw[show splitId id0=some ("list_reverseiterator","__length_hint__")from by subst hid;decide +kernel];subst hid;refine qAA (qDF (T:="list_reverseiterator") (b:=true) hr.typeIs (by rw[isSubtype_type];kernel_rfl) ?_);refine qCZ (λhab=>absurd hab (by decide)) (λ_=>?_);refine qCZ (λ_=>?_) (λhab=>absurd (by decide +kernel) hab);refine qCZ (λhab=>absurd hab (by decide +kernel)) (λ_=>?_);exact qAD h
theorem rev_items{its acc:Array Value}(h:ItemsOf (λi v=>its[its.size-1-i]?=some v) acc its.size):acc.toList=its.toList.reverse:=by
 refine qCs λi=>?_;rw[qAn]
 by_cases hi:i<its.size
 .have e:acc[i]?=some (acc[i]'(by rw[h.1];exact hi)):=qB4 (by rw[h.1];exact hi);rw[e,<-h.2 i _ e,qDK (by simpa using hi)];simp
 .rw [Array.getElem?_eq_none (by rw[h.1];lia),qCQ (by simp;lia)]
theorem list_rev{r l:Addr}{its:Array Value}{Q:Value->Shared->Prop}(hh:A.handled=none)(hr:s.heap.IsRevIter r l ((its.size:Int)-1))(hl:s.heap.IsList l its)(ne:l≠r)(hz:its.size<=sizeLine)
  (q:∀h' tk acc c,(∀b o,b≠r->s.heap.get? b=some o->h'.get? b=some o)->h'.get? s.heap.objs.size=some {cls:=.type "list",dict:=none,data:=.seq acc c,slots:=#[]}->acc.toList=its.toList.reverse->Q (.ref s.heap.objs.size) {s with heap:=h',toks:=tk}) :
  wpAny (model prog w) A (call (.type "list") [.ref r]) Q E s:=by
 obtain⟨h0,g,dd,tk,os⟩:=s;have lr:r<h0.objs.size:=by obtain⟨o,y,_⟩:=hr;exact qAJ y
 have ll:l<h0.objs.size:=by obtain⟨o,y,_⟩:=hl;exact qAJ y
 refine callType_codes (Q₁:=λobj s₁=>obj= .ref h0.objs.size/\s₁=⟨h0.push {cls:=.type "list",data:=.seq #[]},g,dd,tk,os⟩) F.called_list (F.typeCall_list_1 _) F.entry_list_init (code_list_new _ ⟨rfl,rfl⟩) λobj s1 h1=>?_;obtain⟨rfl,rfl⟩:=h1;have hS:(h0.push {cls:=.type "list",data:=.seq #[]}).get? h0.objs.size=some {cls:=.type "list",data:=.seq #[]}:=qAc _ rfl;refine⟨⟨_,hS,rfl⟩,F.args_list_init_2 _ _,?_⟩;show wpAny _ A.in1.in1 (do let old<-Builtin.List.listItems (.ref h0.objs.size);Builtin.List.listUpdate (.ref h0.objs.size) (λ_=>#[]);letGo old.toList.reverse;Builtin.List.listExtendWith (.ref h0.objs.size) (.ref r) .none) _ _ _;refine qAA ?_;unfold Builtin.List.listItems;refine qAA (qDE hS rfl (qAD ?_));show wpAny _ A.in1.in1 (updateSeq h0.objs.size (λ_=>#[]) >>= λ_=>letGo (#[]:Array Value).toList.reverse >>= λ_=>Builtin.List.listExtendWith (.ref h0.objs.size) (.ref r) .none) _ _ _;refine qAA (wpAny_updateSeq hS rfl ?_);have S1:=qA2 (Obj.mapSeq (λ_=>(#[]:Array Value))) hS rfl;have o1:∀b o,h0.get? b=some o->((h0.push {cls:=.type "list",data:=.seq #[]}).update h0.objs.size (Obj.mapSeq (λ_=>(#[]:Array Value)))).get? b=some o:=λb o y=>(qBW _ _ (qBH (qAJ y))).trans (qAI _ y);generalize (h0.push {cls:=.type "list",data:=.seq #[]}).update h0.objs.size (Obj.mapSeq (λ_=>(#[]:Array Value)))=h1 at S1 o1 ⊢;refine qAA (wpAny_letGo ?_);have hr1:h1.IsRevIter r l ((its.size:Int)-1):=Heap.IsRevIter.at hr λo y=>o1 _ _ y;have hl1:h1.IsList l its:=hl.at λo y=>o1 _ _ y;unfold Builtin.List.listExtendWith;refine qAA (qCS (T:="list_reverseiterator") (s:=⟨h1,g,dd,tk,os⟩) hr1.typeIs ?_);have d1:Builtin.List.listSameRef (.ref h0.objs.size) (.ref r)=false:=qA0.mpr (qBH lr);have d2:(Value.type "list_reverseiterator"== Value.type "list")=false:=by decide
 have d3:(Value.type "list_reverseiterator"== Value.type "tuple")=false:=by decide
 simp only[d1,d2,d3,Bool.or_false,qCu,qBz];refine qAA (wpAny_pyIter_revIter (s:=⟨h1,g,dd,tk,os⟩) hr1 (qAA (qAk (hint_rev (s:=⟨h1,g,dd,tk,os⟩) hr1 ?_))));refine qCZ (λhab=>absurd hab (by decide +kernel)) λ_=>qAD ⟨qBq F.plain_extend_loop _,?_⟩;have W:=(Walks.listRev (prog:=prog) (w:=w) (A:=A.in1.in1) hh r l ne its).toS;refine codeAny_extend_loopS W hz h0.objs.size ?_ .none its.size 0 ⟨h1,g,dd,tk,os⟩ #[] _ rfl (qAe _) ⟨qAe _,by simpa using hr1,hl1⟩ S1 (ItemsOf.nil _) λs' acc c mv hS' it=>?_
 .simp only[qAL,qA9,qBL,not_or];exact⟨qBH lr,qBH ll⟩
 .rw [Moved.eq_with mv];refine⟨rfl,q s'.heap s'.toks acc c (λb o hb e=>mv.heap b o ?_ (o1 b o e)) hS' (rev_items it)⟩;simp only[qAL,qA9,qBL,not_or];exact⟨qAR (qAJ e),hb⟩
end
def rvN(n0:Nat)(r l:Addr)(n:Nat):HO:=.ext λh=>h.IsRevIter r l ((n:Int)-1)/\n0<=r
def SSt(P:Program)(w:World)(a:Addr)(n:Nat):HO:=.ext λh=>∃S,h.SetOf (PySem.strKind P w) a S n
theorem vals_rev:∀{xs:List V}{us:List Value},Vals xs us->Vals xs.reverse us.reverse
 |_,_,.nil=>.nil
 |_,_,.cons r t=>by rw[List.reverse_cons,List.reverse_cons];exact(vals_rev t).append (.cons r .nil)
section
variable{X:Cx}
theorem zHx:zCq X (.type "reversed") (λxs H Q=>∃l ys,xs=[.ref l]/\H l=some (.lst ys)/\∀r,H r=none->Q (.ref r) (upd H r (rvN X.s₀.heap.objs.size r l ys.length))):=by
 intro pins s σ H xs us Q I rv h;obtain⟨l,ys,rfl,e,q⟩:=h;obtain⟨u,rfl,ru⟩:=rv.one
 cases ru
 obtain⟨z,its,n,rel,hl⟩:zAz X.prog X.w H s.heap l (.lst ys):=I.hok l _ e;have len:=rel.length;refine call_reversed_list (items:=its.toArray) ⟨_,hl,rfl,n,rfl⟩ ?_;have ge:(s.heap.push (revObj l ((its.toArray.size:Int)-1))).IsRevIter s.heap.objs.size l ((ys.length:Int)-1):=⟨_,qAc _ rfl,rfl,by rw[qAK,<-len];rfl⟩;refine⟨.ref s.heap.objs.size,_,I.laid (o:=rvN X.s₀.heap.objs.size s.heap.objs.size l ys.length) (t':=s.toks) (λb o z=>qAI _ z) (qAG _) ?_,rfl,q _ (I.hok.fresh (qAG _))⟩;exact⟨⟨ge,I.sz⟩,⟨_,qAc _ rfl⟩,λh1 h2 x y=>⟨x.1.at y,x.2⟩⟩
theorem call_listRv(hc:X.calm=true):zCq X (.type "list") (λxs H Q=>∃r l ys,xs=[.ref r]/\H r=some (rvN X.s₀.heap.objs.size r l ys.length)/\H l=some (.lst ys)/\∀p,H p=none->Q (.ref p) (upd (del H r) p (.lst ys.reverse))):=by
 intro pins s σ H xs us Q I rv h;obtain⟨r,l,ys,rfl,er,e,q⟩:=h;obtain⟨u,rfl,ru⟩:=rv.one
 cases ru
 obtain⟨⟨hr,n0⟩,_,_⟩:zAz X.prog X.w H s.heap r (rvN X.s₀.heap.objs.size r l ys.length):=I.hok r _ er;obtain⟨z,its,n,rel,hl⟩:zAz X.prog X.w H s.heap l (.lst ys):=I.hok l _ e;have len:=rel.length;have ne:l≠r:=zBf e er λz=>nomatch z;refine list_rev (its:=its.toArray) (I.ok.hd hc) (by rw[qAK,<-len];exact hr) ⟨_,hl,rfl,n,rfl⟩ ne (by rw[qAK];lia) λh' tk acc c kp ge ea=>?_;have fr:H s.heap.objs.size=none:=I.hok.fresh (qAG _);refine⟨.ref s.heap.objs.size,_,?_,rfl,q _ fr⟩;have rs:r≠s.heap.objs.size:=zAi er fr;refine I.call' (s':={s with heap:=h',toks:=tk}) (ch:=[r]) rfl ⟨λb o z m _ nr=>kp b o (λy=>nr (by rw[y];simp)) z,λb o z m _ nr=>⟨o.slots,kp b o (λy=>nr (by rw[y];simp)) z⟩,λb o z m nr=>?_,λb o z nr=>⟨o,kp b o (λy=>nr (by rw[y];simp)) z⟩,λb xs z=>?_,λb o u z=>?_,λb ps z=>⟨#[],?_⟩⟩ (λb o z=>?_) I.bare (λb hb=>?_)
 .rw [upd_ne (qAR (qAJ z)),zCm (λy=>nr (by rw[y];simp))];exact m
 .rw [upd_ne (zAi z fr),zCm (zBf z er λy=>nomatch y)];exact z
 .rw [upd_ne (zAi z fr),zCm (zBf z er λy=>nomatch y)];exact z
 .rw [Array.append_empty,upd_ne (zAi z fr),zCm (zBf z er λy=>nomatch y)];exact z
 .by_cases hb:b=s.heap.objs.size
  .subst hb;rw[upd_same]at z;cases z;refine⟨by rw[List.length_reverse];exact ‹ys.length<=sizeLine›,acc.toList,c,?_,by simpa using ge⟩;rw[ea];exact vals_rev rel
  .rw [upd_ne hb]at z;obtain⟨br,z⟩:=zJk z;refine(I.hok b o z).stay (λd v hd y=>kp d v ?_ y) (λd y=>?_) λd xs y=>?_
   .rcases hd with rfl|hd
    .exact br
    .exact zBf hd er λy=>nomatch y
   .rw [upd_ne (zAi y fr),zCm (zBf y er λy=>nomatch y)];exact y
   .rw [upd_ne (zAi y fr),zCm (zBf y er λy=>nomatch y)];exact y
 .rw [qAQ.mp hb];refine⟨.inr n0,λy=>?_,λx c y w=>?_,λp hp y=>?_⟩
  .rw [y,I.free]at er;cases er
  .rw [<-w,I.freeC x c y]at er;cases er
  .rw [<-y,(I.pin p hp).2.1]at er;cases er
theorem call_setS{P:Program}{w:World}{K:PySem.W.Frag}{k:Nat}(hr:Room k X.A)(hP:X.prog=P:=by rfl)(hw:X.w=w:=by rfl)(hK:X.K=K:=by rfl):zCq X (.type "set") (λxs H Q=>∃(l:Addr)(ks:List Str),xs=[.ref l]/\SqL K H l (ks.map V.str)/\ks.Nodup/\ks.length<=306/\∀a,H a=none->Q (.ref a) (upd H a (SSt P w a ks.length))):=by
 subst hP hw hK;intro pins s σ H xs us Q I r h;obtain⟨l,ks,rfl,hl,nd,hc,q⟩:=h;obtain⟨u,rfl,rx⟩:=zHp r
 cases rx
 obtain⟨its,r',pl,hz⟩:=I.list hl;refine ST.w_setS hr.hd pl.isList (by simpa using r') nd hc λh' tk _ g kp=>?_;obtain⟨S,⟨o,es,ep,t,ho,rest⟩,_⟩:=g;exact⟨.ref s.heap.objs.size,_,I.laid (t':=tk) (o:=SSt X.prog X.w s.heap.objs.size ks.length) kp (qAG _) ⟨⟨S,o,es,ep,t,ho,rest⟩,⟨o,ho⟩,λh1 h2 ⟨S,o,es,ep,t,q,r⟩ k=>⟨S,o,es,ep,t,k o q,r⟩⟩,rfl,q _ (I.hok.fresh (qAG _))⟩
theorem call_lenS{P:Program}{w:World}(hP:X.prog=P:=by rfl)(hw:X.w=w:=by rfl):zCq X (.builtin "len") (λxs H Q=>∃a n,xs=[.ref a]/\H a=some (SSt P w a n)/\Q (.int n) H):=by
 subst hP hw;intro pins s σ H xs us Q I r h;obtain⟨a,n,rfl,e,q⟩:=h;obtain⟨u,rfl,rx⟩:=zHp r
 cases rx
 obtain⟨⟨S,o,es,ep,t,ho,ex,hd,_,_,hb,hf,hn⟩,_⟩:=(show zAz _ _ _ _ _ (SSt X.prog X.w a n)from I.hok a _ e);refine call_len_set ho ex hd hf (by unfold scanBound at hb;lia) ⟨.int n,H,I.tok _,⟨_,by rw[hn]⟩,q⟩
def rIndex:V->List V->Hp->VK->Prop:=λx vs H Q=>∃(l:Addr)(ks:List Str)(y:Str),x= .ref l/\vs=[.str y]/\H l=some (.lst (ks.map V.str))/\y∈ks/\ks.length<=4096/\Q (.int (ks.idxOf y)) H
theorem mt_index:MtM X "list.index" rIndex:=by
 intro pins s σ H x vs v us Q I rx rv h;obtain⟨l,ks,y,rfl,rfl,hH,hy,hk,q⟩:=h
 cases rx
 obtain⟨u,rfl,ru⟩:=rv.one;obtain⟨z,its,n,r,hl,e⟩:=I.lstM hH;have fs:(ks.map V.str).all zDm=true:=by simp[zDm]
 rw[qAE]at hl;have jl:ks.idxOf y<ks.length:=qDU hy
 have at':∀m (hm:m<its.toArray.size),eqU (.str y) its.toArray[m]=decide (ks[m]'(by rw[qAK]at hm;lia)=y):=λm hm=>by
  rw[qAK]at hm;have hm2:m<ks.length:=by lia
  obtain⟨w0,hu,r0⟩:=r.get (i:=m) (x:=V.str ks[m]) (by rw[qAN,qAa hm2];rfl);rw[qAa hm]at hu
  cases hu
  rw[show its.toArray[m]=its[m] by simp,eqU_of r0 rfl];show(ks[m]==y)=_
  by_cases z:ks[m]=y<;>simp[z]
 refine qB0 F.slot_list_index ⟨_,e,rfl⟩ F.entry_list_index (F.args_list_index_2 _ _)
  (SeqAt.list_indexAt l its.toArray n none #[] u (eqU (.str y)) (ks.idxOf y) (by rw[qAK];lia) (by lia) ?_ λm hm hj=>?_) ⟨e,λw0 hw=>zEm ru rfl r fs w0 (by simpa using hw),⟨.int _,H,I.tok _,⟨_,rfl⟩,q⟩⟩
 .rw [at' _ (by rw[qAK];lia)];exact qAP (List.getElem_idxOf jl)
 .rw [at' m hm];refine qAO λh=>?_;have:=List.not_of_lt_findIdx (show m<ks.findIdx (·==y)from hj);simp[h]at this
end
section
variable{X:Cx}
theorem all_at(p q:List Str):((List.range (min p.length q.length)).all (λj=>p[j]?==q[j]?)&&p.length==q.length)=decide (p=q):=by
 by_cases e:p=q
 .subst e;simp
 .rw [qAO e];refine qCY.mpr λz=>e ?_;simp only[qA3,qA4,qAw,qA7]at z;refine qCs λi=>?_
  by_cases hi:i<min p.length q.length
  .exact z.1 i hi
  .rw [qCQ (by lia),qCQ (by lia)]
theorem row_same{pins:List (Addr×Obj)}{σ:St}{H:Hp}{s:Shared}{a:Addr}{p q:List Str}(I:Inv X pins σ H s)(ha:SqT X.K H a (p.map V.str))(hb:SqT X.K H a (q.map V.str)):p=q:=by
 obtain⟨its,r,pl,hz⟩:=I.tuple ha;obtain⟨its2,r2,pl2,hz2⟩:=I.tuple hb;have e1:=r.length;have e2:=r2.length;rw[qAE]at e1 e2
 have:its=its2:=by
  obtain⟨o,g1,_,n,g2⟩:=pl;obtain⟨o',g1',_,n',g2'⟩:=pl2;rw[g1]at g1';cases g1';rw[g2]at g2';injection g2' with z _;exact Array.toList_inj.mpr z|> (by simpa using ·)
 subst this;refine qCs λi=>?_
 cases h1:p[i]? with
 |none=>rw[qCQ (by have:=qBv.mp h1;lia)]
 |some x=>
  obtain⟨u,g1,t,rfl⟩:=r.get (i:=i) (x:=.str x) (by rw[qAN,h1];rfl)
  cases h2:q[i]? with
  |none=>
   have:=qBv.mp h2;have:=(qAg.mp h1).1;lia
  |some y=>
   obtain⟨u',g1',t',e⟩:=r2.get (i:=i) (x:=.str y) (by rw[qAN,h2];rfl);rw[g1]at g1';cases g1'
   cases e;rfl
theorem row_eq{pins:List (Addr×Obj)}{σ:St}{H:Hp}{s:Shared}{A:Around}{a b:Addr}{p q:List Str}(I:Inv X pins σ H s)(ha:SqT X.K H a (p.map V.str))(hb:SqT X.K H b (q.map V.str))(hu:A.units+1<cLine):SeqAt.EqAt A s (.ref a) (.ref b) (decide (p=q)):=by
 by_cases ab:a=b
 .subst ab;rw[qAP (row_same I ha hb)];exact qCg _
 .obtain ⟨its,r,pl,hz⟩:=I.tuple ha;obtain⟨its2,r2,pl2,hz2⟩:=I.tuple hb;have e1:=r.length;have e2:=r2.length;rw[qAE]at e1 e2
  have c:=SeqAt.RcAt.tuples (A:=A) (s:=s) (e:=λj=>p[j]?==q[j]?) (show s.heap.IsTuple a its.toArray from pl) (show s.heap.IsTuple b its2.toArray from pl2) (by lia) (λj h1 h2=>by
   rw[qAK]at h1 h2;have j1:j<p.length:=by lia
   have j2:j<q.length:=by lia
   obtain⟨u1,q1,ru1⟩:=r.get (i:=j) (x:=.str p[j]) (by rw[qAN,qAa j1];rfl);obtain⟨v1,q2,rv1⟩:=r2.get (i:=j) (x:=.str q[j]) (by rw[qAN,qAa j2];rfl);rw[qAa h1]at q1;rw[qAa h2]at q2
   cases q1
   cases q2
   have z:=eqAt_V (A:=A.in1) (s:=s) ru1 rv1 rfl rfl;rw[show its.toArray[j]=its[j] by simp,show its2.toArray[j]=its2[j] by simp,qAa j1,qAa j2];simpa[eqV]using z)
  rw[qAK,qAK,<-e1,<-e2,all_at]at c;exact SeqAt.EqAt.of_refs ab c
def rInRow(K:PySem.W.Frag):R2:=λx y H Q=>∃(t l:Addr)(p:List Str) (qs:List (List Str×Addr)),x= .ref t/\y= .ref l/\SqT K H t (p.map V.str)/\SqL K H l (qs.map λq=>V.ref q.2)/\(∀q∈qs,RowT K H q)/\Q (.bl (decide (p∈qs.map (·.1)))) H
theorem op_inRow{K:PySem.W.Frag}(hu:X.A.units+2<cLine)(hK:X.K=K:=by rfl):OpR X (compareOp .In) (rInRow K):=by
 subst hK;intro pins s σ H x y v u Q I rx ry h;obtain⟨t,l,p,qs,rfl,rfl,ht,hl,hq,k⟩:=h
 cases rx
 cases ry
 obtain⟨its,r,pl,hz⟩:=I.list hl;have ei:=zGp r;have key:∀q∈qs,SeqAt.EqAt X.A.in1 s (.ref q.2) (.ref t) (decide (q.1=p)):=λq hq'=>row_eq I (hq q hq') ht (by show X.A.units+1+1<cLine;lia)
 let e:Value->Bool:=λu=>match u with
  | .ref a=>qs.any λq=>decide (q.2=a)&&decide (q.1=p)
  |_=>false
 have same:∀q∈qs,∀q'∈qs,q.2=q'.2->q.1=q'.1:=λq h1 q' h2 z=>by
  have a2:=hq q' h2;unfold RowT at a2;rw[<-z]at a2;exact row_same I (hq q h1) a2
 have eq:∀q∈qs,e (.ref q.2)=decide (q.1=p):=λq h1=>by
  show(qs.any λq'=>decide (q'.2=q.2)&&decide (q'.1=p))=_
  by_cases z:q.1=p
  .rw [qAP z,qBn];exact⟨q,h1,by simp[z]⟩
  .rw [qAO z];refine qCY.mpr λy=>z ?_;obtain⟨q',h2,y⟩:=qBn.mp y;simp only[qA3,qBs]at y;rw[<-y.2];exact(same q' h2 q h1 y.1).symm
 refine SeqAt.in_listAt e pl.isList (λw hw=>?_) ⟨.bl _,H,I,rfl,?_⟩
 .rw [List.mem_toArray,ei]at hw;obtain⟨q,h1,rfl⟩:=qAM.mp hw;rw[eq q h1];exact key q h1
 .rw [show its.toArray.any e=decide (p∈qs.map (·.1))from ?_]
  .exact k
  .rw [show its.toArray.any e=its.any e by simp,ei,List.any_map]
   by_cases z:p∈qs.map (·.1)
   .obtain ⟨q,h1,h2⟩:=qAM.mp z;rw[qAP z,qBn];exact⟨q,h1,by show e (.ref q.2)=true;rw[eq q h1];exact qAP h2⟩
   .rw [qAO z];refine qCY.mpr λy=>z ?_;obtain⟨q,h1,y⟩:=qBn.mp y;have y:e (.ref q.2)=true:=y;rw[eq q h1]at y;exact qAM.mpr ⟨q,h1,qA1 y⟩
theorem listText_len:∀(ts:List Str),ts≠[]->(listText ts).length=piled ts
 |[],h=>absurd rfl h
 |t::r,_=>by
  have h:=textFrom_length_pos r 1 (("[": Str)++(if(0:Nat)>0 then", " else"": String)++t) (qC7 0)
  have e:(("[": Str)++(if(0:Nat)>0 then", " else"": String)++t).length=1+t.length:=by rw[qBg,qBg];rfl
  have x:(listText (t::r)).length=(textFrom 1 (("[": Str)++(if(0:Nat)>0 then", " else"": String)++t) r).length+1:=by
   show(textFrom 1 _ r++ "]").length=_
   rw[qBg];rfl
  rw[x,h,e,piled_cons];lia
theorem piled_le(n:Nat):∀(ts:List Str),(∀t∈ts,t.length<=n)->piled ts<=ts.length*(n+2)
 |[],_=>qAe _
 |t::r,h=>by
  have a:=piled_le n r λx hx=>h x (qAU _ hx);have b:=h t qAX;rw[piled_cons,qAZ,Nat.add_mul];lia
def tFmtL(K:PySem.W.Frag)(t:TE):TE:=λσ H Q=>t σ H λx H1=>∃(l:Addr)(ys:List Str),x= .ref l/\SqL K H1 l (ys.map V.str)/\ys≠[]/\ys.length<=100/\(∀y∈ys,y.length<=100/\∀c∈y.cps.toList,c<16^8)/\∀z,Q (.str z) H1
theorem pe_fmtL{e:Expr}{t:TE}{c:Str}{j k:Nat}{p1 p2 pos:Pos}(hr:Room k X.A)(he:PE X e t)(hc:c.length<=100:=by decide):PE X (.JoinedStr [.Constant (.str c) j p2,.FormattedValue e 114 none p1] pos) (tFmtL X.K t):=by
 intro pins s σ H Q I h;have hs:=qAS;refine JoinedStr_many (qC0 (Calls.Constant_str ⟨by rw[qBg];show 0+c.length<=_;lia,?_⟩));refine qC0 ?_;show wpAny _ _ (do let v<-eval e X.env;standAt p1;formatField (<-holding [v] (pyReprObj v)) Str.empty) _ _ _;refine qAA (thn (he pins _ σ H _ (I.tok _) h) λv s1 ⟨x,H1,I1,r1,l,ys,ex,hl,ne,hn,hy,q⟩=>qAA (qBw ?_));subst ex
 cases r1
 obtain⟨its,r,pl,hz⟩:=I1.list hl;have len:=r.length;rw[qAE]at len
 have hR:∀y∈ys,(reprText y).length<=1002:=λy h1=>by
  have:=StrLaws.reprText_len y (hy y h1).2;have:=(hy y h1).1;lia
 have tl:(listText (ys.map reprText)).length<=101000:=by
  rw[listText_len _ (by simpa using ne)]
  have:=piled_le 1002 (ys.map reprText) λt ht=>by
   obtain⟨y,h1,rfl⟩:=qAM.mp ht;exact hR y h1
  rw[qAE]at this;lia
 obtain⟨o,n,g1,g2,g3,g4⟩:=pl
 have:∃x l,its=x::l:=by
  cases its with
  |nil=>exact absurd (qCr.mp len) ne
  |cons x l=>exact⟨x,l,rfl⟩
 obtain⟨x0,l0,rfl⟩:=this;refine qAA (qAk (wpAny_pyReprObj_list (ts:=ys.map reprText) ⟨_,g1,g2⟩ hr.gd (λ_ _ _ z=>nomatch z) hr.units0 g1 g4 (by rw[qAK,<-len,qAE]) (λi y hi=>?_) (λh' u tk kp=>?_) (by lia)))
 .have hi:(x0::l0)[i]?=some y:=by simpa using hi
  cases hk:ys[i]? with
  |none=>
   have:=r.none_of (i:=i) (by rw[qAN,hk];rfl);rw[hi]at this;cases this
  |some z=>
   obtain⟨u,q1,t,q2⟩:=r.get (i:=i) (x:=.str z) (by rw[qAN,hk];rfl);rw[hi]at q1;cases q1;subst q2;exact⟨reprText z,by rw[qAN,hk];rfl,ReprIs.str z t (by have:=hR z (qAT hk);lia)⟩
 .refine formatField_str (λt' tk2=>?_) (by lia)
  have z:(Str.empty++c++listText (ys.map reprText)).length<=sizeLine:=by
   rw[qBg,qBg];show 0+c.length+_<=_;lia
  exact⟨z,joinParts_nil ⟨.str _,H1,I1.kept (t':=tk2+1) kp,⟨_,rfl⟩,q _⟩ z⟩
theorem pe_makeX{CX:CXT}{k:Nat}{C f:Addr}{fd:FuncData}{ps:List Str}{sp:Sp}{E:St->XK}{x:Str}{p pos:Pos}{e:Expr}{es:List Expr}{t:TA}(M:Mk X.K C f)(F:FnOk X.prog X.w X.K X.mg X.base CX k f fd ps sp)(hr:Room (k+1) X.A)(hg:Gl X x)(hm:X.mg x=some (.ref C))(hb:zCe X.K fd ps [])(hx:zGn CX X E)
  (ha:PA X (e::es) t) (hdb:(x==("__debug__": Str))=false:=by decide) (he:starEach (e::es) X.env=(false,eval e X.env)::starEach es X.env:=by rfl) (hpl:(backTo pos (starEach es X.env)).any (·.1)=false:=by rfl) :
  PE X (.Call (.Name x p) (e::es) [] pos) (λσ H Q=>t σ H λvs H1=>∀x dx,H1 x=none->H1 dx=none->dx≠x->sp (.ref x::vs) (upd (upd H1 dx (.own x)) x (.ins C dx [])) (λv H2=>v= .non/\Q (.ref x) H2) (E σ)):=by
 intro pins s0 σ H0 Q I0 h0;refine qBa (zC2 I0 hg hm ?_ hdb);refine PySem.W.callWith_K (h₀:=X.base) I0.ok.mod.kin M.kp (thn (ha pos pins s0 σ H0 _ I0 h0) λus s ⟨vs,H,I,r,h⟩=>⟨I.kIn,?_⟩) he hpl;have hq:=h (s.heap.objs.size+1) s.heap.objs.size (I.hok.fresh (qBc _)) (I.hok.fresh (qAG _)) (qAR (qCF _));have I2:=Inv.made (C:=C) I;have r2:Vals (V.ref (s.heap.objs.size+1)::vs) (Value.ref (s.heap.objs.size+1)::us):=.cons rfl r;have bd:=hb {s with heap:=(s.heap.push PySem.W.emptyDict).push (PySem.W.instObj C s.heap.objs.size)} (Value.ref (s.heap.objs.size+1)::us) I2.kIn (by rw[qAu,<-r2.length];exact F.len _ _ _ _ hq);rw[qAu]at bd;refine qBI (make_map (f:=f) I.kIn M.makes M.init (qA7.mp M.fn) (qBV (F.run _ X.stack _ _ ⟨_,[]⟩ _ _ _ _ (hr.make C us []) (I2.env0.make C us []) bd r2 hq) λr s' hq'=>?_))
 cases r with
 |error e=>exact hx pins σ _ _ e s' I2 hq'
 |ok fl=>
  cases fl with
  |ret u=>
   obtain⟨v,H',I3,rv,ev,q3⟩:=I2.after hq';subst ev;exact⟨rv,⟨V.ref (s.heap.objs.size+1),H',I3,rfl,q3⟩⟩
  |next=>exact False.elim hq'
  |brk=>exact False.elim hq'
  |cont=>exact False.elim hq'
end
end L2
namespace RV
open PySem
section
variable{P:Program}{w:World}{A:Around}{E:Value->Shared->Prop}{s:Shared}
def PairsIn{K:Type}[DecidableEq K](knd:KeyKind P w K)(h:Heap)(ys:Array Value)(vs:List (K×Value)):Prop :=
 ys.size=vs.length/\∀(j:Nat)(k:K)(v:Value),vs[j]?=some (k,v)->∃(t:Addr)(key:Value)(n:Nat),ys[j]?=some (.ref t)/\knd.is k key=true/\∃o,h.get? t=some o/\o.cls= .type "tuple"/\o.data= .seq #[key,v] n
theorem e_loop:entryFor table "dict.update.loop"=some Builtin.«dict.update.loop»:=entryFor_of_tree (by kernel_rfl)
theorem p_loop:plainId "dict.update.loop"=true:=by decide +kernel
theorem stored_new{K:Type}[DecidableEq K]{kvs:List (K×Value)}{k:K}{v:Value}(h:k∉kvs.map (·.1)):stored kvs k v=kvs++[(k,v)]:=by
 unfold stored;rw[qAB];intro z;rw[qBn]at z;obtain⟨kv,h1,h2⟩:=z;exact h (qAM.mpr ⟨kv,h1,by simpa using h2⟩)
end
end RV
namespace L2
open PySem PySem.Spec PyProof.Rows
section
variable{X:Cx}
theorem rel_key{P:Program}{w:World}{k:Key}{u:Value}(h:(zAu P w).is k u=true):RelV (kV k) u:=by
 rcases zA2 (show zJe k u=true from h)with⟨i,t,rfl,rfl⟩|⟨x,t,rfl,rfl⟩
 .exact ⟨t,rfl⟩
 .exact ⟨t,rfl⟩
theorem kv_at:∀{kvs:List (Key×V)} {vs:List (Key×Value)} {j:Nat} {k:Key} {v:V},KV kvs vs->kvs[j]?=some (k,v)->∃u,vs[j]?=some (k,u)/\RelV v u
 |_,_,j,_,_,.nil,h=>by simp at h
 |_,_,0,k,v,.cons (a:=a) (b:=b) r _,h=>by
  have e:a=(k,v):=by simpa using h
  subst e;exact⟨b.2,by simp;exact Prod.ext r.1.symm rfl,r.2⟩
 |_,_,j+1,k,v,.cons r rr,h=>by
  obtain⟨u,h1,h2⟩:=kv_at rr (show _=some (k,v) by simpa using h);exact⟨u,by simpa using h1,h2⟩
theorem valsRefs:∀(ts:List Addr){its:List Value},Vals (ts.map V.ref) its->its=ts.map Value.ref
 |[],_,.nil=>rfl
 |t::ts,_,.cons r rr=>by rw[valsRefs ts rr,show _=Value.ref t from r];rfl
theorem kv_keys:∀{kvs:List (Key×V)} {vs:List (Key×Value)},KV kvs vs->kvs.map (·.1)=vs.map (·.1)
 |_,_,.nil=>rfl
 |_,_,.cons r rr=>by rw[qAl,qAl,kv_keys rr,r.1]
theorem pairs_of{pins:List (Addr×Obj)}{σ:St}{H:Hp}{s:Shared}(I:Inv X pins σ H s):∀{kvs:List (Key×V)} {ts:List Addr},ts.length=kvs.length ->
  (∀(j:Nat)(t:Addr)(k:Key)(v:V),ts[j]?=some t->kvs[j]?=some (k,v)->H t=some (.tup [kV k,v]))->∃vs,KV kvs vs/\∀(j:Nat)(t:Addr)(k:Key)(u:Value),ts[j]?=some t->vs[j]?=some (k,u)->∃key n o,(zAu X.prog X.w).is k key=true/\s.heap.get? t=some o/\o.cls= .type "tuple"/\o.data= .seq #[key,u] n
 |[],[],_,_=>⟨[],.nil,λj t k u h _=>by simp at h⟩
 |[],_::_,h,_=>by simp at h
 |_::_,[],h,_=>by simp at h
 |(k,v)::kvs,t::ts,h,f=>by
  obtain⟨vs,h1,h2⟩:=pairs_of I (kvs:=kvs) (ts:=ts) (by simpa using h) λj t' k' v' x y=>f (j+1) t' k' v' (by simpa using x) (by simpa using y);obtain⟨_,its,rr,o,g1,g2,n,g3⟩:zAz X.prog X.w H s.heap t (.tup [kV k,v]):=I.hok t _ (f 0 t k v rfl rfl);obtain⟨key,u,rfl,r1,r2⟩:=rr.two;refine⟨(k,u)::vs,.cons ⟨rfl,r2⟩ h1,λj t' k' u' x y=>?_⟩
  cases j with
  |zero=>
   have x:t=t':=by simpa using x
   have y:k=k'/\u=u':=by simpa using y
   obtain⟨rfl,rfl⟩:=y;subst x;exact⟨key,n,o,kV_is r1,g1,g2,g3⟩
  |succ j=>exact h2 j t' k' u' (by simpa using x) (by simpa using y)
end
section
variable{X:Cx}{pins:List (Addr×Obj)}{σ:St}{H:Hp}{s:Shared}{a:Addr}{u o':HO}
theorem Inv.retell(I:Inv X pins σ H s)(e:H a=some u)(nt:∀xs,u≠.tup xs)(no:∀x,u≠.own x)(nb:∀ps,u≠.tbl ps)(nf:∀o v,X.H₀ a≠some (.frz o v))(new:zAz X.prog X.w (upd H a o') s.heap a o'):Inv X pins σ (upd H a o') s:=by
 have ne:∀b,H b=none->b≠a:=λb h z=>by rw[z,e]at h;cases h
 refine⟨I.ok,I.os,I.bare,⟨I.base.keep,I.base.slot,λb o q n x=>?_,I.base.there,λb xs q=>?_,λb o v q=>?_,λb ps q=>?_⟩,I.loc,I.cell,?_,λx c h=>?_,λp hp=>?_,λb o q=>?_,I.len⟩
 .have:=I.base.free b o q n x;rw[upd_ne (ne b this)];exact this
 .have:=I.base.tups b xs q;rw[upd_ne (λz=>by rw[z,e]at this;exact nt xs (qAW this))];exact this
 .have:=I.base.frzs b o v q;rw[upd_ne (λz=>nf o v (by rw[<-z];exact q))];exact this
 .obtain ⟨more,this⟩:=I.base.tbls b ps q;exact⟨more,by rw[upd_ne (λz=>by rw[z,e]at this;exact nb _ (qAW this))];exact this⟩
 .rw [upd_ne (ne _ I.free)];exact I.free
 .rw [upd_ne (ne _ (I.freeC x c h))];exact I.freeC x c h
 .obtain ⟨h1,h2,h3⟩:=I.pin p hp;exact⟨h1,by rw[upd_ne (ne _ h2)];exact h2,h3⟩
 .by_cases z:b=a
  .subst z;rw[upd_same]at q;cases q;exact new
  .rw [upd_ne z]at q;refine(I.hok b o q).stay (λc v _ y=>y) (λc y=>?_) λc xs y=>?_
   .rw [upd_ne (λz=>by rw[z,e]at y;exact no _ (qAW y))];exact y
   .rw [upd_ne (λz=>by rw[z,e]at y;exact nt _ (qAW y))];exact y
end
def thawE(D:Ends)(a:Addr)(o:Obj)(kvs:List (Key×V)):Ends where
 nx:=λσ H=>H a=some (.frz o (.dK kvs))/\D.nx σ (upd H a (.dK kvs))
 rt:=λv H=>H a=some (.frz o (.dK kvs))/\D.rt v (upd H a (.dK kvs))
 bk:=λσ H=>H a=some (.frz o (.dK kvs))/\D.bk σ (upd H a (.dK kvs))
 ct:=λσ H=>H a=some (.frz o (.dK kvs))/\D.ct σ (upd H a (.dK kvs))
section
variable{X:Cx}
theorem Inv.thaw{pins:List (Addr×Obj)}{σ:St}{H:Hp}{s:Shared}{a:Addr}{o:Obj}{kvs:List (Key×V)}(I:Inv X pins σ H s)(e:H a=some (.frz o (.dK kvs)))(nf:∀o v,X.H₀ a≠some (.frz o v)):Inv X pins σ (upd H a (.dK kvs)) s:=by
 obtain⟨_,z⟩:zAz X.prog X.w H s.heap a (.frz o (.dK kvs)):=I.hok a _ e;exact I.retell e (λ_ h=>nomatch h) (λ_ h=>nomatch h) (λ_ h=>nomatch h) nf z
theorem ps_frz{st:Stmt}{t:TS}(h:PS X st t):PS X st (λD σ H=>∃a kvs,H a=some (.dK kvs)/\∀o,t (thawE D a o kvs) σ (upd H a (.frz o (.dK kvs)))):=by
 intro pins s σ H D I ⟨a,kvs,e,q⟩;have ok:zAz X.prog X.w H s.heap a (.dK kvs):=I.hok a _ e;obtain⟨_,_,_,_,o,_,_,ho,_⟩:=id ok
 have nf:∀o v,X.H₀ a≠some (.frz o v):=λo v z=>by
  have:=I.base.frzs a o v z;rw[e]at this;cases this
 have I1:Inv X pins σ (upd H a (.frz o (.dK kvs))) s:=I.retell e (λ_ h=>nomatch h) (λ_ h=>nomatch h) (λ_ h=>nomatch h) nf ⟨ho,ok⟩;refine thn (h pins s σ _ _ I1 (q o)) λf s' r=>?_
 cases f with
 |next=>obtain⟨σ',H',I',e',d'⟩:=r;exact⟨σ',_,I'.thaw e' nf,d'⟩
 |brk=>obtain⟨σ',H',I',e',d'⟩:=r;exact⟨σ',_,I'.thaw e' nf,d'⟩
 |cont=>obtain⟨σ',H',I',e',d'⟩:=r;exact⟨σ',_,I'.thaw e' nf,d'⟩
 |ret u=>obtain⟨v,σ',H',I',rv,e',d'⟩:=r;exact⟨v,σ',_,I'.thaw e' nf,rv,d'⟩
end
end L2
namespace RV
open PySem
theorem e_itemIter:entryFor table "dict_itemiterator.__iter__"=some Builtin.«dict_keyiterator.__iter__» :=
 entryFor_alias (id':="dict_keyiterator.__iter__") (by kernel_rfl) (by decide +kernel) (by decide +kernel) (by kernel_rfl)
end RV
namespace L2
open PySem PySem.Spec PyProof.Rows
def Itm(a:Addr)(o:Obj)(kvs:List (Key×V)):It :=
 ⟨λi H=>H a=some (.frz o (.dK kvs))/\i<kvs.length,λi H v H'=>∃t k x,v= .ref t/\H t=none/\kvs[i]?=some (k,x)/\H'=upd H t (.tup [kV k,x]),λi H=>H a=some (.frz o (.dK kvs))/\kvs.length<=i⟩
theorem frz_at{X:Cx}{pins:List (Addr×Obj)}{σ:St}{H:Hp}{s:Shared}{a:Addr}{o:Obj}{kvs:List (Key×V)}(I:Inv X pins σ H s)(e:H a=some (.frz o (.dK kvs))) :
  ∃vs es ep,KV kvs vs/\o.data= .dict es ep/\es.size=kvs.length/\s.heap.DictAt (zAu X.prog X.w) a vs ep/\(a==sysModules)=false/\kvs.length<=sizeLine/\s.heap.get? a=some o/\o.ExactDict:=by
 obtain⟨ho,z,hd,vs,rel,o1,es,ep,y1,y2,y3,y4,y5,y6⟩:zAz X.prog X.w H s.heap a (.frz o (.dK kvs)):=I.hok a _ e;rw[ho]at y1
 cases y1
 have l1:=y5.length;have l2:=rel.length;exact⟨vs,es,ep,rel,y3,by simp only[qBj]at l1;lia,⟨o,es,ho,y2,y3,y4,y5,y6⟩,hd,z,ho,y2⟩
theorem turn_items{P:Program}{w:World}{K:PySem.W.Frag}{elts:List Expr}{kk:Nat}{tp:Pos}(a it:Addr)(o:Obj)(es:Array DictEntry)(ep:Nat)(kvs:List (Key×V))(hd:o.data= .dict es ep)(sz:es.size=kvs.length):Turn P w K (.Tuple elts kk tp) (Itm a o kvs) [it] it (λi h=>∃ok ov,IsItemIter h it a i kvs.length ep ok ov) where
 mem:=by simp
 obj:=λi h ⟨ok,ov,st⟩ b hb=>by
  have:b=it:=by simpa using hb
  subst this;exact⟨_,st,λv y=>by cases y⟩
 keep:=λi h h' ⟨ok,ov,st⟩ k=>⟨ok,ov,k it (by simp) _ st⟩
 item:=by
  intro X hP hw hK hc i pins s σ H E I hf st hg;subst hP hw hK;obtain⟨e,hi⟩:=hg;obtain⟨ok,ov,st⟩:=st;obtain⟨vs,es',ep',rel,hd',_,da,_,_,ho,_⟩:=frz_at I e;have ee:ep'=ep:=by rw[hd]at hd';cases hd';rfl
  subst ee;have len:=rel.length;have ek:kvs[i]?=some (kvs[i].1,kvs[i].2):=qAa hi;obtain⟨v,ev,rv⟩:=kv_at rel ek;rw[len]at st;refine wpAny_pyNext_items_item st da ev λkey h1 hk eo t1 z1 o1=>?_;refine⟨_,rfl,wpAny_letOwnedTupleGo_items eo λh2 e2 b2=>?_⟩;have b2:Heap.SameBut it h1 h2:=b2;have ilt:it<s.heap.objs.size:=qAJ st;have t2:h2.get? s.heap.objs.size=some {cls:=.type "tuple",data:=.seq #[key,v]}:=b2.extBut _ _ (qBH ilt) t1;have on:∀b u,b∉[it]->s.heap.get? b=some u->h2.get? b=some u:=λb u nb y=>b2.extBut b u (λz=>nb (by simp[z])) (o1 b u (λz=>nb (by simp[z])) y);have hn:∀b∈[it],H b=none:=λb hb=>(hf b hb).1;have new:zAz X.prog X.w (upd H s.heap.objs.size (.tup [kV kvs[i].1,kvs[i].2])) h2 s.heap.objs.size (.tup [kV kvs[i].1,kvs[i].2]):=⟨by show(2:Nat)<=sizeLine;decide,[key,v],.cons (rel_key hk) (.cons rv .nil),⟨_,t2,rfl,_,rfl⟩⟩
  have I2:Inv X pins σ (upd H s.heap.objs.size (.tup [kV kvs[i].1,kvs[i].2])) {s with heap:=h2}:=I.call' (ch:=[it]) rfl (un_laid on (qAG _) (I.hok.fresh (qAG _))) (hok_laid I.hok on hn (qAG _) new) I.bare λb hb=>by
   obtain⟨_,f1,_,f3,f4,f5⟩:=hf b hb;exact⟨f3,f1,f4,f5⟩
  rw[<-len]at e2;refine⟨.ref s.heap.objs.size,_,I2,rfl,⟨_,_,_,rfl,I.hok.fresh (qAG _),ek,rfl⟩,⟨_,_,e2⟩,λb hb=>?_⟩;have hb':=hn b hb;have:b=it:=by simpa using hb
  rw[upd_ne (by rw[this];exact qAR ilt)];exact hb'
 done:=by
  intro X hP hw hK hc i pins s σ H E I hf st hg;subst hP hw hK;obtain⟨e,hi⟩:=hg;obtain⟨ok,ov,st⟩:=st;obtain⟨vs,es',ep',rel,hd',_,da,_,_,ho,_⟩:=frz_at I e;have ee:ep'=ep:=by rw[hd]at hd';cases hd';rfl
  subst ee;have len:=rel.length;rw[len]at st;obtain⟨f0,f1,f2,f3,f4,f5⟩:=hf it (by simp);exact wpAny_pyNext_items_end (I.ok.hd hc) st da (by simp;lia) λh' eb=>⟨rfl,I.turned (t':=s.toks) (λb o hb y=>eb b o hb y) f0 f1 f3 f4 f5⟩
 self:=λA i s Q E ⟨ok,ov,st⟩ h=>by
  have ty:s.TypeIs (.ref it) "dict_itemiterator":= ⟨_,st,rfl⟩;refine wpAny_pyIter_slot ty PySem.F.slot_dict_itemiterator_iter (qCV PySem.F.slot_dict_itemiterator_iter ty RV.e_itemIter ?_ (PySem.F.args_dict_itemiterator_iter_1 _));exact qAA (qAD (qAD ⟨_,rfl,"dict_itemiterator",_,ty,PySem.F.slot_dict_itemiterator_next.lookup,h⟩))
section
variable{X:Cx}{elts:List Expr}{kk:Nat}{tp:Pos}
theorem pi_items{o:Expr}{to:TE}{apos cpos:Pos}(ho:PE X o to)(hbase:attributeBase o "items" X.env (eval o X.env)=eval o X.env:=by rfl)(hline:(apos.endLine==cpos.line)=true:=by rfl) :
  PI X (.Tuple elts kk tp) (.Call (.Attribute o "items" apos) [] [] cpos) (λσ H R=>to σ H λx H1=>∃a ob kvs,x= .ref a/\H1 a=some (.frz ob (.dK kvs))/\R (Itm a ob kvs) H1):=by
 intro pins s σ H R I h;refine wpAny_Call_method0_late hbase hline (thn (ho pins s σ H _ I h) λv s1 ⟨x,H1,I1,r1,a,ob,kvs,ex,e,q⟩=>?_);subst ex
 cases r1
 obtain⟨vs,es,ep,rel,hd,sz,da,nsys,z,hget,exd⟩:=frz_at I1 e;have ty:s1.TypeIs (.ref a) "dict":= ⟨_,hget,exd.1⟩;have len:=rel.length;refine⟨"dict","dict.items",PySem.F.plainAttrs_dict,qDV,PySem.F.type_dict_items,ty,(λb y=>by cases y;exact⟨ob,hget,exd.2.1⟩),Calls.callWith_builtin rfl (PySem.evalArgs_none ?_)⟩;obtain⟨o2,es2,y1,y2,y3,y4,y5,y6⟩:=id da;refine qBI (qB5 qDV.plain PySem.F.entry_dict_items (qDV.check _ _ _ _ _ _ _ _ ty (PySem.F.args_dict_items_1 _) (meets_dict_items (zAu X.prog X.w) a nsys X.A (wants (λv s1=>wpAny (model X.prog X.w) X.A (pyIter v) (PIE X pins σ (.Tuple elts kk tp) R) X.xe s1) X.xe) s1 ⟨⟨vs,o2,es2,ep,y1,y2,y3,y4,y5,y6⟩,?_⟩)));show wpAny _ _ (pyIter _) _ _ _;have hv:(s1.heap.push {cls:=.type "dict_items",data:=.fields #[.ref a]}).IsItemsView s1.heap.objs.size a:=⟨_,qAc _ rfl,rfl,rfl⟩;have da':(s1.heap.push {cls:=.type "dict_items",data:=.fields #[.ref a]}).DictAt (zAu X.prog X.w) a vs ep:=⟨o2,es2,qAI _ y1,y2,y3,y4,y5,y6⟩;refine wpAny_pyIter_items (s:={s1 with heap:=s1.heap.push {cls:=.type "dict_items",data:=.fields #[.ref a]}}) hv da' ?_;have k1:∀b u,s1.heap.get? b=some u->((s1.heap.push {cls:=.type "dict_items",data:=.fields #[.ref a]}).push {cls:=.type "dict_itemiterator",data:=.fields #[.none,.bool false,.ref a,.int 0 0,.int vs.length 0,.int ep 0,.none,.none]}).get? b=some u:=λb u y=>qAI _ (qAI _ y);refine⟨_,[(s1.heap.push {cls:=.type "dict_items",data:=.fields #[.ref a]}).objs.size],_,_,H1,rfl,I1.kept (t':=s1.toks) k1,turn_items a _ ob es ep kvs hd sz,⟨_,_,by rw[len];exact qAc _ rfl⟩,λb hb=>?_,q⟩;have:b=(s1.heap.push {cls:=.type "dict_items",data:=.fields #[.ref a]}).objs.size:=by simpa using hb
 subst this;have ge:s1.heap.objs.size<=(s1.heap.push {cls:=.type "dict_items",data:=.fields #[.ref a]}).objs.size:=by rw[qBU];exact qBc _
 exact I1.fpOk ge (I1.hok.fresh ge)
end
end L2
namespace ST
open PySem PyProof.Rows PySem.W
end ST
namespace L2
open PySem PySem.Spec PyProof.Rows
section
variable{X:Cx}
theorem flat_itemsU{A:Around}{s:Shared}{xs ys:List V}{its its2:List Value}(r:Vals xs its)(r2:Vals ys its2)(fx:xs.all zDm=true)(fy:ys.all zDm=true) :
  ∀j (h1:j<its.toArray.size) (h2:j<its2.toArray.size),SeqAt.EqAt A s its.toArray[j] its2.toArray[j] (eqV (xs.getD j .non) (ys.getD j .non)):=λj h1 h2=>by
 have e1:=r.length;have e2:=r2.length;rw[qAK]at h1 h2;have hjx:xs[j]?=some (xs[j]'(by lia)):=by simp
 have hjy:ys[j]?=some (ys[j]'(by lia)):=by simp
 obtain⟨u1,q1,ru1⟩:=r.get hjx;obtain⟨v1,q2,rv1⟩:=r2.get hjy
 have e3:its.toArray[j]=u1:=by
  have:its[j]?=some its[j]:=by simp
  rw[this]at q1;simpa using q1
 have e4:its2.toArray[j]=v1:=by
  have:its2[j]?=some its2[j]:=by simp
  rw[this]at q2;simpa using q2
 rw[e3,e4];have g1:xs.getD j .non=xs[j]'(by lia):=by rw[qAx,hjx];rfl
 have g2:ys.getD j .non=ys[j]'(by lia):=by rw[qAx,hjy];rfl
 rw[g1,g2];exact eqAt_V ru1 rv1 (qA4.mp fx _ (qBD _)) (qA4.mp fy _ (qBD _))
theorem op_eqTS(hu:X.A.units<cLine):OpR X (compareOp .Eq) (λx y H Q=>∃(a c:Addr)(as bs:List Str),x= .ref a/\y= .ref c/\SqT X.K H a (as.map V.str)/\SqT X.K H c (bs.map V.str)/\Q (.bl (decide (as=bs))) H):=by
 intro pins s σ H x y v u Q I rx ry h;obtain⟨a,c,as,bs,rfl,rfl,hx,hy,q⟩:=h
 cases rx
 cases ry
 obtain⟨its,r,pl,hz⟩:=I.tuple hx;obtain⟨its2,r2,pl2,hz2⟩:=I.tuple hy;have e1:=r.length;have e2:=r2.length;rw[qAE]at e1 e2;refine SeqAt.eq_tupleAt (e:=λj=>eqV ((as.map V.str).getD j .non) ((bs.map V.str).getD j .non)) (show s.heap.IsTuple a its.toArray from pl) (show s.heap.IsTuple c its2.toArray from pl2) hu (flat_itemsU r r2 (flatS as) (flatS bs)) ?_;rw[qAK,qAK,<-e1,<-e2]
 by_cases hl:as.length=bs.length
 .rw [<-hl,Nat.min_self,strs_all as bs hl,beq_self_eq_true,Bool.and_true];exact⟨.bl _,H,I,rfl,q⟩
 .rw [qAO (λz=>hl (by rw[z]))]at q;rw[qA0.mpr hl,Bool.and_false];exact⟨.bl false,H,I,rfl,q⟩
end
section
variable{P:Program}{w:World}{K:PySem.W.Frag}{mg:Str->Option Value}{base:Heap}
structure FunD(K:PySem.W.Frag)(x qual:Str)(st:Stmt)(f:Addr)(fd:FuncData)(T:Addr)(its:Array Value):Prop where
 ex:∃(oc:Value)(od:Option Addr)(kV doc pm:Value)(an:Option Addr)(cdv ct:Value) (osl:Array (Option Value)),
  fd=PySem.W.fnOf x qual (zCc st) (zBp st) (zAe st) (.ref T) kV doc pm an cdv ct/\K.lookup f=some ⟨oc,od,.func fd,osl⟩/\PySem.W.codeIn K cdv qual=true
 tp:∃(o:Obj)(n:Nat),K.lookup T=some o/\o.data= .seq its n
 kp:PySem.W.keepIn K (.ref f)=true
theorem FunD.ok{x qual:Str}{st:Stmt}{f:Addr}{fd:FuncData}{T:Addr}{its:Array Value}{N ps:List Str}{k:Nat}{sp:Sp}(F:FunD K x qual st f fd T its)(S:FnScope N ps (zAe st))(len:∀vs H Q E,sp vs H Q E->vs.length=ps.length)
  (hbody:∀(cdv:Value) (A:Around) (outer:List Env) (s:Shared) (H:Hp) (vs:List V) (Q:VK) (E:XK),Room k (A.deeper (envOfC qual (zAe st) s.heap.objs.size f cdv))->sp vs H Q E ->
   ∃t,PSs (cxOf CX0 P w K mg base N qual (zAe st) f cdv A outer s H E).nox (zBp st) t/\t {nx:=λ_ H'=>Q .non H',rt:=Q} (zHq N vs) H):FnOk P w K mg base CX0 (k+1) f fd ps sp:=by
 obtain⟨oc,od,kV,doc,pm,an,cdv,ct,osl,rfl,lk,hcd⟩:=F.ex;refine fn_of lk hcd S len λA outer s H vs Q E hr hsp=>?_;obtain⟨t,h,q⟩:=hbody cdv A outer s H vs Q E hr hsp;exact⟨t,h.nox,q⟩
theorem FunD.binds{x qual:Str}{st:Stmt}{f:Addr}{fd:FuncData}{T:Addr}{its:Array Value}{ps:List Str}{ds:List Value}(F:FunD K x qual st f fd T its)
  (h:∀(kV doc pm:Value)(an:Option Addr)(cdv ct:Value)(us:List Value),(us++ds).length=ps.length->∃k:Option (Array Value)->Sem (List (Str×Value)),bindArgs (PySem.W.fnOf x qual (zCc st) (zBp st) (zAe st) (.ref T) kV doc pm an cdv ct) ⟨us,[]⟩=(seqItems? (.ref T) >>= k)/\k (some its)=pure (ps.zip (us++ds))):zCe K fd ps ds:=by
 obtain⟨oc,od,kV,doc,pm,an,cdv,ct,osl,rfl,lk,hcd⟩:=F.ex;obtain⟨o,n,h1,h2⟩:=F.tp;intro s us kin hl;obtain⟨k,e1,e2⟩:=h kV doc pm an cdv ct us hl;exact BindsTo.of_defaults (T:=T) rfl (kin _ _ h1) h2 e1 e2
structure CalD(P:Program)(w:World)(K:PySem.W.Frag)(mg:Str->Option Value)(base:Heap)(x:Str)(k:Nat)(ps:List Str)(dvs:List V)(sp:Sp):Prop where
 to:∃(f:Addr)(fd:FuncData)(ds:List Value),mg x=some (.ref f)/\PySem.W.keepIn K (.ref f)=true/\zCe K fd ps ds/\Vals dvs ds/\FnOk P w K mg base CX0 k f fd ps sp
end
theorem zFc{X:Cx}{x:Str}{k:Nat}{ps:List Str}{dvs:List V}{sp:Sp}{e:Expr}{es:List Expr}{p pos:Pos}{t:TA}(C:CalD X.prog X.w X.K X.mg X.base x k ps dvs sp)(hr:Room k X.A)(hg:Gl X x)(ha:PA X (e::es) t)
  (hdb:(x==("__debug__": Str))=false:=by decide) (he:starEach (e::es) X.env=(false,eval e X.env)::starEach es X.env:=by rfl) (hpl:(backTo pos (starEach es X.env)).any (·.1)=false:=by rfl) :
  PE X (.Call (.Name x p) (e::es) [] pos) (tCall sp dvs E0 t):=by
 obtain⟨f,fd,ds,h1,h2,h3,h5,h4⟩:=C.to;exact pe_call h4 hr hg h1 h2 h3 h5 pass0 ha hdb he hpl
structure MthX(P:Program)(w:World)(K:PySem.W.Frag)(mg:Str->Option Value)(base:Heap)(C:Addr)(m:Str)(k:Nat)(ps:List Str)(sp:Sp):Prop where
 to:∃(f:Addr)(fd:FuncData),Meth K C m f/\zCe K fd ps []/\FnOk P w K mg base (CX1 P w) k f fd ps sp
section
variable{X:Cx}
def tFmtR(t1 t2:TE):TE:=λσ H Q=>t1 σ H λx H1=>∃a:Str,x= .str a/\a.length<=100/\t2 σ H1 λy H2=>∃b:Str,y= .str b/\b.length<=100/\(∀c∈b.cps.toList,c<16^8)/\∀z,Q (.str z) H2
theorem pe_fmtR{e1 e2:Expr}{t1 t2:TE}{c:Str}{j:Nat}{p1 p2 p3 pos:Pos}(h1:PE X e1 t1)(h2:PE X e2 t2)(hc:c.length<=100:=by decide):PE X (.JoinedStr [.FormattedValue e1 (-1) none p1,.Constant (.str c) j p2,.FormattedValue e2 114 none p3] pos) (tFmtR t1 t2):=by
 intro pins s σ H Q I h;refine JoinedStr_many (qC0 (FormattedValue_plain (thn (h1 pins s σ H _ I h) λv s1 ⟨x,H1,I1,r1,q1⟩=>?_)));obtain⟨a,rfl,ha,q1⟩:=q1;obtain⟨t,rfl⟩:=r1;have hs:=qAS
 have ea:(Str.empty++a)=a:=by
  exact empty_app a
 refine formatField_str (λt' tk=>?_) (by lia);refine⟨by rw[ea];lia,?_⟩;rw[ea];refine qC0 (Calls.Constant_str ⟨?_,?_⟩)
 .rw [qBg];lia
 refine qC0 ?_;show wpAny _ _ (do let v<-eval e2 X.env;standAt p3;formatField (<-holding [v] (pyReprObj v)) Str.empty) _ _ _;refine qAA (thn (h2 pins _ σ H1 _ (I1.tok _) q1) λv s2 ⟨y,H2,I2,r2,q2⟩=>qAA (qBw ?_));obtain⟨b,rfl,hb,hcp,q2⟩:=q2;obtain⟨t2,rfl⟩:=r2
 have hR:(reprText b).length<=1002:=by
  have:=StrLaws.reprText_len b hcp;lia
 refine qAA (qAk (wpAny_pyReprObj_str ?_ (by lia)));refine formatField_str (λt' tk=>?_) (by lia);have hz:(a++c++reprText b).length<=sizeLine:=by rw[qBg,qBg];lia
 exact⟨hz,joinParts_nil ⟨.str _,H2,I2.tok _,⟨_,rfl⟩,q2 _⟩ hz⟩
end
end L2
namespace My
open PySem L2
variable{f:Addr}{fd:FuncData}
structure RingOf(f:Str->List Str)(rs:List Str):Prop where
 ne:rs≠[]
 nd:rs.Nodup
 go:∀(k:Nat)(x y:Str),rs[k]?=some y->rs[if k=0 then rs.length-1 else k-1]?=some x->x∈f y
def Wk(f:Str->List Str)(xs:List Str):Prop:=∀(i:Nat)(a b:Str),xs[i]?=some a->xs[i+1]?=some b->b∈f a
theorem Wk.snoc{f:Str->List Str}{xs:List Str}{a b:Str}(w:Wk f (xs++[a]))(h:b∈f a):Wk f (xs++[a]++[b]):=λi x y hx hy=>by
 by_cases c:i+1<(xs++[a]).length
 .rw [qBC (by lia)]at hx;rw[qBC c]at hy;exact w i x y hx hy
 .have hy':=(qAg.mp hy).1;simp only[qAm,qC5]at c hy';have ei:i=xs.length:=by lia
  subst ei;rw[qBC (by simp)]at hx;simp at hx hy;rw[<-hx,<-hy];exact h
theorem Wk.ring{f:Str->List Str}{ts:List Str}{h:Str}(w:Wk f (ts++[h]))(nd:ts.Nodup)(hm:h∈ts):RingOf f (ts.drop (ts.idxOf h)).reverse:=by
 have jl:ts.idxOf h<ts.length:=qDU hm
 have hR:∀i,(ts.drop (ts.idxOf h)++[h])[i]?=(ts++[h])[ts.idxOf h+i]?:=λi=>by
  rw[<-qCl,List.drop_append_of_le_length (by lia)]
 have wR:Wk f (ts.drop (ts.idxOf h)++[h]):=λi a b h1 h2=>by
  rw[hR]at h1 h2;exact w _ a b h1 (by rw[Nat.add_assoc];exact h2)
 have hd:(ts.drop (ts.idxOf h))[0]?=some h:=by
  rw[qCl,qCj,qAa jl,List.getElem_idxOf jl]
 have len:0<(ts.drop (ts.idxOf h)).length:=by rw[qBN];lia
 have nd2:(ts.drop (ts.idxOf h)).Nodup:=nd.sublist (List.drop_sublist _ _);generalize ts.drop (ts.idxOf h)=R at wR hd len nd2;refine⟨λz=>?_,(List.reverse_perm R).nodup_iff.mpr nd2,λk x y hy hx=>?_⟩
 .have:=qAj List.length z;simp at this;rw[this]at len;exact qAv _ len
 .have hk:=(qAg.mp hy).1;rw[List.length_reverse]at hk hx;rw[qDK hk]at hy
  by_cases k0:k=0
  .subst k0;rw[qAC rfl,qDK (by lia),show R.length-1-(R.length-1)=0 by lia,hd]at hx
   cases hx
   refine wR (R.length-1) y h (by rw[qBC (by lia)];simpa using hy) ?_;rw[show R.length-1+1=R.length by lia,qBy (qAG _)];simp
  .rw [qAB k0,qDK (by lia)]at hx;refine wR (R.length-1-k) y x (by rw[qBC (by lia)];exact hy) ?_;rw[qBC (by lia),show R.length-1-k+1=R.length-1-(k-1) by lia];exact hx
structure RC(K:PySem.W.Frag)(mg:Str->Option Value)(CB CR:Addr):Prop where
 bi:InitX K CB
 mgB:mg "BenchError"=some (.ref CB)
 xc:XCls K CR
 nr:zDf K CR "ring"
 mgR:mg "Ring"=some (.ref CR)
 gt:XGet K CR
 self:(mroK K CR).contains (.ref CB)=true
section
variable{P:Program}{w:World}{K:PySem.W.Frag}{mg:Str->Option Value}{base:Heap}{CB CR:Addr}
def spRing(CR:Addr):Sp:=λvs H Q _=>∃(e l:Addr)(ys:List Str),vs=[.ref e,.ref l]/\H e=some (excN e CR none)/\Txs H l ys/\ys≠[]/\ys.length<=20/\(∀y∈ys,zCd y)/\∀dx,H dx=none->Q .non (upd (upd H dx (.xd [("ring",.ref l)])) e (excN e CR (some dx)))
abbrev zCy:Stmt:=zDl (top 6) 0
theorem zF1:FnScope ["self","ring"] ["self","ring"] (zAe zCy):=fnS
theorem ok_Ring_init(F:Fun K "__init__" "Ring.__init__" zCy f fd)(R:RC K mg CB CR):FnOk P w K mg base CX0 1 f fd ["self","ring"] (spRing CR):=by
 refine F.ok zF1 (λvs H Q E h=>?_) (λcdv A outer s H vs Q E hr h=>?_)
 .obtain ⟨e,l,ys,rfl,_⟩:=h;rfl
 .obtain ⟨e,l,ys,rfl,he,hl,h1,h2,h3,k⟩:=h
  refine⟨_,(zAc (zA4 (zIy R.bi rfl R.mgB (zAa (pv 0) (zAa (pe_fmtL hr (pv 1)) zAb)))) (zAd (zIu (pv 0) (pv 1) rfl))),?_⟩
  refine hid2 ?_;intro _ _;refine⟨_,rfl,_,rfl,l,ys,rfl,SqL.of hl,h1,by lia,λy hy=>⟨by have:=(h3 y hy).2.1;lia,λc hc=>by have:=((h3 y hy).2.2 c hc).2;lia⟩,λz=>?_⟩;refine⟨e,CR,none,.str z,rfl,he,R.xc.exc,?_⟩;exact⟨_,rfl,_,rfl,e,CR,rfl,he,R.xc,R.nr,λdx hdx=>k dx hdx⟩
def zGv:Sp:=λvs H Q _=>∃(l d:Addr)(ns L:List Str)(la:Str->Addr)(f:Str->List Str),vs=[.ref l,.ref d]/\Txs H l L/\L≠[]/\L.length<=20/\H d=some (.dK (dT1 ns λn=>.ref (la n)))/\(∀n∈L,n∈ns/\Txs H (la n) (f n)/\(f n).length<=4096/\∃m∈f n,m∈L) /\
 ∀p rs H',Fre H p->Txs H' p rs->Kp [] H H'->RingOf f rs->(∀x∈rs,x∈L)->rs.length<=20->Q (.ref p) H'
abbrev zC6:Stmt:=top 33
theorem zB4:FnScope ["left","told","trail","here","ring"] ["left","told"] (zAe zC6):=fnS
def trailN(σ:St)(H:Hp):Nat:=match (σ[2]?:Option (Option V))with
 |some (some (.ref a))=>match H a with
  |some (.lst xs)=>20-xs.length
  |_=>0
 |_=>0
theorem zI5(F:Fun K "ring_among" "ring_among" zC6 f fd)(T:Txt K mg):FnOk P w K mg base CX0 1 f fd ["left","told"] zGv:=by
 refine F.ok zB4 (λvs H Q E h=>?_) (λcdv A outer s H vs Q E hr h=>?_)
 .obtain ⟨l,d,ns,L,la,f,rfl,_⟩:=h;rfl
 .obtain ⟨l,d,ns,L,la,f,rfl,hl,L0,hn,hd,hf,k⟩:=h;have hu:=hu_of hr
  refine⟨_,(zAc (psS (i:=2) zB4.nd (zAt zAb)) (zAc (psS (i:=3) zB4.nd (zBe zAw (pv 0) zAh (fun _ _=>rfl)))
   (zAc (ps_while qAr (zAo zC9 (pv 3) (pv 2) (by rfl))
    (zAc (zA4 (zFd qBF qCv qCw zDu (pv 2) (zAa (pv 3) zAb)))
    (zAd (psS (i:=3) zB4.nd (zBe zAw (zBs rfl (zBt (sc:=zAe zC6) rfl (by decide +kernel)) (Draws.own (x:="name") (dtk (i:=0) rfl Draws.nil)) (zA5 (zG6 hu (pv 1) (pv 3) (λ_ _=>rfl))) (λ_ _ _ _=>(pgB (i:=0))) (λ_ _ _ _=>(zEz (zAo zH6 (pv 0) (pv 1) (by rfl)))) (λ_ _ _ _=>(pv 0))) zAh (λ_ _=>rfl))))))
   (zAc (psS (i:=4) zB4.nd (zEk zFq (pv 2) (zFu (zFd qBF PySem.F.slot_list_index PySem.F.type_list_index mt_index (pv 2) (zAa (pv 3) zAb))) zFv))
   (zAd (zAm (zA0 (call_listRv rfl) (by rfl) T.z_list zCi (zAa (zA0 zHx (by rfl) T.z_reversed bo_reversed (zAa (pv 4) zAb)) zAb)))))))),?_⟩
  refine hid5 ?_;intro _ _ _ _ _;refine⟨(by walk_at"ln"),λtr htr=>?_⟩;have ftr:Fre H tr:=htr;have k1:Kp [] H (upd H tr (.lst [])):=Kp.new Kp.refl ftr
  obtain⟨h0,L1,eL⟩:∃a b,L=a::b:=by
   cases L with
   |nil=>exact absurd rfl L0
   |cons a b=>exact⟨a,b,rfl⟩
  refine⟨_,rfl,_,_,_,.str h0,rfl,rfl,SqL.of (k1 l _ hl (by simp)),zA9 (by decide) (by rw[eL];rfl),?_⟩
  refine while_by (λσ H2=>∃(ts:List Str)(h:Str),σ=[some (.ref l),some (.ref d),some (.ref tr),some (.str h),none]/\Kp [] H H2/\Txs H2 tr ts/\ts.Nodup/\(∀x∈ts,x∈L)/\h∈L/\Wk f (ts++[h])) trailN
   ⟨[],h0,rfl,k1,upd_same,qBe,(λx h=>nomatch h),by rw[eL];exact qAX,λi a b _ h2=>by simp at h2⟩ ?_ (λσ H Q Q' hq hc=>?_)
  .rintro σ H2 ⟨ts,h,rfl,k2,ht,nd,sub,hL,wk⟩;have tl:ts.length<=L.length:=zEt nd sub;refine⟨_,rfl,_,rfl,_,_,rfl,.inl (SqL.of ht),rfl,zCb ts,_,rfl,?_⟩;rw[zD4];refine ite2 (λc=>?_) (λc=>?_)
   .have hn':h∉ts:=λz=>by simp[z]at c
    have nd2:(ts++[h]).Nodup:=qBp.mpr ⟨nd,by simp,λa ha b hb=>by rw[qAQ.mp hb];rintro rfl;exact hn' ha⟩
    have sub2:∀x∈ts++[h],x∈L:=λx hx=>by
     rcases qAY.mp hx with z|z
     .exact sub x z
     .rw [qAQ.mp z];exact hL
    have tl2:=zEt nd2 sub2;rw[qAm,qC5]at tl2;refine⟨_,rfl,.inl ⟨rfl,_,SqL.of ht⟩,_,rfl,_,_,_,rfl,rfl,ht,by rw[qAE,qAS];lia,?_⟩;have k3:Kp [] H (upd H2 tr (.lst (ts.map V.str++[.str h]))):=Kp.new k2 ftr
    have ht3:Txs (upd H2 tr (.lst (ts.map V.str++[.str h]))) tr (ts++[h]):=by
     show upd _ tr _ tr=some (.lst ((ts++[h]).map V.str));rw[upd_same,qAb];rfl
    generalize upd H2 tr (.lst (ts.map V.str++[.str h]))=H3 at k3 ht3;obtain⟨n1,n2,n3,n4⟩:=hf h hL
    refine⟨_,rfl,_,rfl,_,.ref (la h),rfl,?_,_,rfl,⟨_,SqL.of (k3 _ _ n2 (by simp))⟩,λB hB=>zEg ((f h).map V.str) (λi ys τ H4=>(∃o0,τ=[o0,some (.ref l)])/\ys=(((f h).take i).filter λn=>decide (n∈L)).map V.str/\H4=upd H3 B (.lst ys)) ⟨⟨_,rfl⟩,rfl,rfl⟩ (λi ys τ H4 ⟨_,_,z⟩=>by subst z;exact SqL.of ((Kp.new (M:=[]) k3 (k3.fre hB (by simp))) _ _ n2 (by simp))) ?_ ?_⟩
    .have:=DGet.k (k:=Sum.inr h) (k3 d _ hd (by simp));rw[zDg,qAC n1]at this;exact this
    .rintro i v ys τ H4 hv ⟨⟨o0,rfl⟩,rfl,rfl⟩;obtain⟨n,en,rfl⟩:=zEr hv;refine⟨_,rfl,_,rfl,_,_,rfl,.inl (SqL.of ((Kp.new (M:=[]) k3 (k3.fre hB (by simp))) l _ hl (by simp))),rfl,zCb L,_,rfl,?_⟩;rw[zD4];refine ite2 (λc=>?_) (λc=>?_)
     .refine ⟨_,rfl,upd_same,?_,⟨_,rfl⟩,?_,zCg⟩
      .rw [qAE];exact zGj n3
      .rw [zGi en c,qAb];rfl
     .refine ⟨⟨_,rfl⟩,?_,?_⟩
      .rw [zJi en c]
      .rfl
    .rintro ys τ H4 ⟨_,rfl,rfl⟩;have eT:(f h).take ((f h).map V.str).length=f h:=by rw[qAE,qAq]
     rw[eT];obtain⟨m,m1,m2⟩:=n4
     obtain⟨x,r,eF⟩:∃x r,((f h).filter λn=>decide (n∈L))=x::r:=by
      cases q:((f h).filter λn=>decide (n∈L))with
      |nil=>
       have:m∈((f h).filter λn=>decide (n∈L)):=qBM.mpr ⟨m1,qAP m2⟩;rw[q]at this;cases this
      |cons x r=>exact⟨x,r,rfl⟩
     have mx:x∈((f h).filter λn=>decide (n∈L)):=by rw[eF];exact qAX
     obtain⟨x1,x2⟩:=qBM.mp mx;rw[eF];refine⟨_,_,_,.str x,rfl,rfl,SqL.of upd_same,zA9 (by decide) rfl,?_⟩;have k4:Kp [] H (upd H3 B (.lst ((x::r).map V.str))):=Kp.new k3 (k3.fre hB (by simp));have ht4:Txs (upd H3 B (.lst ((x::r).map V.str))) tr (ts++[h]):=(upd_ne (ne_fre hB ht3)).trans ht3;refine⟨⟨ts++[h],x,rfl,k4,ht4,nd2,sub2,qA1 x2,wk.snoc x1⟩,?_⟩
     have m1:trailN [some (V.ref l),some (.ref d),some (.ref tr),some (.str h),none] H2=20-ts.length:=by
      show(match H2 tr with|some (.lst xs)=>20-xs.length|_=>0)=_;rw[ht];simp
     have m2:∀o3,trailN [some (V.ref l),some (.ref d),some (.ref tr),o3,none] (upd H3 B (.lst ((x::r).map V.str)))=20-(ts.length+1):=λo3=>by
      show(match upd H3 B (.lst ((x::r).map V.str)) tr with|some (.lst xs)=>20-xs.length|_=>0)=_;rw[ht4];simp
     rw[m1];refine qCJ (qCE (m2 _)) ?_;lia
   .have hm:h∈ts:=by
     apply qA8;intro z;simp[z]at c
    refine⟨_,rfl,_,rfl,.inl ⟨rfl,_,SqL.of ht⟩,_,rfl,tr,ts,h,rfl,rfl,ht,hm,by lia,_,rfl,_,_,rfl,SqL.of ht,λp hp=>?_⟩;rw[zJl _ (by lia),qCf,<-qCq];have fp:Fre H p:=k2.fre hp (by simp);refine⟨_,rfl,_,_,rfl,upd_same,λr hr=>⟨r,p,_,rfl,upd_same,(upd_ne (zAi (show upd H2 p _ p=some _ from upd_same) hr)).trans upd_same,λq hq=>?_⟩⟩;have k5:Kp [] H (upd H2 p (.lst ((ts.drop (ts.idxOf h)).map V.str))):=Kp.new k2 fp;have fr:Fre H r:=k5.fre hr (by simp);have k6:Kp [] H (upd (upd H2 p (.lst ((ts.drop (ts.idxOf h)).map V.str))) r (rvN s.heap.objs.size r p ((ts.drop (ts.idxOf h)).map V.str).length)):=Kp.new k5 fr;have fq:Fre H q:=k6.fre hq (by simp);rw[<-List.map_reverse];refine k q _ _ fq upd_same (Kp.new (λb o hb n=>?_) fq) (wk.ring nd hm) (λx hx=>sub x (qCP (List.mem_reverse.mp hx))) (by rw[List.length_reverse,qBN];lia);rw[zCm (zAi hb fr)];exact k6 b o hb n
  .obtain ⟨x,e,y,e2,p,xs,e3,a,b,c,z,e4,q⟩:=hc;exact⟨x,e,y,e2,p,xs,e3,a,b,c,z,e4,hq _ _ q⟩
end
def Tp(D:List Str)(f:Str->List Str):Prop:=∀(i:Nat)(n:Str),D[i]?=some n->∀x∈f n,x∈D.take i
theorem Tp.more{D FR:List Str}{f:Str->List Str}(t:Tp D f)(h:∀n∈FR,∀x∈f n,x∈D):Tp (D++FR) f:=λi n hi x hx=>by
 by_cases c:i<D.length
 .rw [qBC c]at hi;rw[List.take_append_of_le_length (qBh c)];exact t i n hi x hx
 .rw [qBy (by lia)]at hi;rw[List.take_append,qBQ (by lia)];exact qAo _ (h n (qAT hi) x hx)
structure MkrX(P:Program)(w:World)(K:PySem.W.Frag)(mg:Str->Option Value)(base:Heap)(C:Addr)(k:Nat)(ps:List Str)(sp:Sp):Prop where
 to:∃(f:Addr)(fd:FuncData),MkX K C f/\zCe K fd ps []/\FnOk P w K mg base CX0 k f fd ps sp
theorem zE8{X:Cx}{E:XK}{C:Addr}{k:Nat}{ps:List Str}{sp:Sp}{x:Str}{np cpos pos:Pos}{a:Expr}{es:List Expr}{t:TA}(hx:zJr X C E)(hc:X.calm=true)(hg:Gl X x)(hm:X.mg x=some (.ref C))(M:MkrX X.prog X.w X.K X.mg X.base C k ps sp)(hr:Room (k+1) X.A)(ha:PA X (a::es) t)
  (hd:(x==("__debug__": Str))=false:=by decide) (he:starEach (a::es) X.env=(false,eval a X.env)::starEach es X.env:=by rfl) (hpl:(backTo cpos (starEach es X.env)).any (·.1)=false:=by rfl):PS X (.Raise (some (.Call (.Name x np) (a::es) [] cpos)) none pos) (sRaiseI E C sp t):=by
 obtain⟨f,fd,h1,h2,h3⟩:=M.to;exact ps_raiseI hx hc hg hm h1 h3 hr h2 pass0 ha hd he hpl
section
variable{P:Program}{w:World}{K:PySem.W.Frag}{mg:Str->Option Value}{base:Heap}{CB CR:Addr}
def zG0(CR:Addr):Sp:=λvs H Q E=>∃(l d:Addr)(ns:List Str)(la:Str->Addr)(f:Str->List Str),vs=[.ref l,.ref d]/\Txs H l ns/\ns.Nodup/\ns.length<=20/\(∀n∈ns,zCd n)/\H d=some (.dK (dT1 ns λn=>.ref (la n)))/\(∀n∈ns,Txs H (la n) (f n)/\(f n).length<=4096/\∀x∈f n,x∈ns) /\
 (∀e D fa S H',Fp H H' e ns D fa S f->(∀n∈ns,n∈D)->Tp D f->Kp [] H H'->Q (.ref e) H') /\
 ∀p dx rs H',RingOf f rs->(∀x∈rs,x∈ns)->Txs H' p rs->H' dx=some (.xd [("ring",.ref p)])->rs.length<=20->Kp [] H H'->E (.ref CR) (some dx) H'
theorem zI7(F:Fun K "all_ahead" "all_ahead" zCx f fd)(T:Txt K mg)(R:RC K mg CB CR)(M_Ring:MkrX P w K mg base CR 1 ["self","ring"] (spRing CR))(C_ring_among:Cal P w K mg base "ring_among" 1 ["left","told"] zGv)(C_has_all:Cal P w K mg base "has_all" 1 ["done","names"] spHasAll)(C_joined:Cal P w K mg base "joined" 1 ["near","far"] spJoined):FnOk P w K mg base (CX1 P w) 3 f fd ["names","told"] (zG0 CR):=by
 refine Fun.okX F zBy (λvs H Q E h=>?_) (λcdv A outer s H vs Q E hr h=>?_)
 .obtain ⟨l,d,ns,la,f,rfl,_⟩:=h;rfl
 .obtain ⟨l,d,ns,la,f,rfl,hl,hN,hn,hNS,hd,hf,k,kE⟩:=h;have hu:=hu_of hr;have HR_has_all:=hr.mono (j:=1) (by decide);have HR_joined:=hr.mono (j:=1) (by decide);have HR_ring_among:=hr.mono (j:=1) (by decide)
  refine⟨_,(zAc (psS (i:=2) zBy.nd zGe) (zAc (psS (i:=3) zBy.nd (zA0 zBq (by rfl) T.z_list zCi (zAa (pv 0) zAb)))
   (zAc (ps_while qCa (pt_truth (pv 3) (fun _=>rfl))
    (zAc (zG4 (i:=4) rfl (zBt (sc:=zAe zCx) rfl (by decide +kernel)) (Draws.own (x:= "name") (dtk (i:=2) rfl (dtk (i:=1) rfl Draws.nil))) (zA5 (pv 3)) (fun _ _ _ _=>(pgB (i:=0))) (fun _ _ _ _=>(zEz (zA7 (zAj C_has_all HR_has_all rfl (zAa (pv 1) (zAa (zG6 hu (pv 2) (pv 0) (fun _ _=>rfl)) zAb)))))) (fun _ _ _ _=>(pv 0)) zBy.nd rfl rfl)
    (zAc (zA1 (zCl (pt_truth (pv 4) (fun _=>rfl)))
     (zAd (zE8 raiseD rfl rfl R.mgR M_Ring hr (zAa (zAj C_ring_among HR_ring_among rfl (zAa (pv 3) (zAa (pv 1) zAb))) zAb)))
     zAl)
    (zAc (zBk qCa rfl (zA5 (pv 4)) (pgN (i:=5) zBy.nd)
     (zAd (zIv hu (pv 2) (pv 5) (zAj C_joined HR_joined rfl (zAa (zG6 hu (pv 1) (pv 5) (λ_ _=>rfl)) (zAa (pv 2) zAb))) rfl)))
    (zAd (zG4 (i:=3) rfl (zBt (sc:=zAe zCx) rfl (by decide +kernel)) (Draws.own (x:="name") (dtk (i:=2) rfl Draws.nil)) (zA5 (pv 3)) (λ_ _ _ _=>(pgB (i:=0))) (λ_ _ _ _=>(zEz (pt_cmp (pc_dnotin hu (pv 0) (pv 1))))) (λ_ _ _ _=>(pv 0)) zBy.nd rfl rfl))))))
   (zAd (zAm (pv 2)))))),?_⟩
  refine hid4 ?_;intro _ _ _ _;refine λe he=>?_;have fe:Fre H e:=he;refine⟨_,rfl,_,_,rfl,.inl (SqL.of ((Kp.new (M:=[]) Kp.refl fe) l _ hl (by simp))),λlf hlf=>?_⟩;have k0:Kp [] H (upd H e (.dK [])):=Kp.new Kp.refl fe;have flf:Fre H lf:=k0.fre hlf (by simp);have nel:e≠lf:=ne_fre (show Fre (upd H e (.dK [])) lf from hlf) upd_same;show tWhile (λσ H Q=>tVar 3 σ H λx H'=>∃k,TruV K x H' k/\Q k H') _ _ _ _
  refine while_by (λσ H2=>∃(lf:Addr)(D:List Str)(fa:Str->Addr)(S:Str->List Str)(o4 o5:Option V),σ=[some (.ref l),some (.ref d),some (.ref e),some (.ref lf),o4,o5]/\Kp [] H H2/\Fp H H2 e ns D fa S f/\Tp D f/\Txs H2 lf (ns.filter λn=>decide (n∉D))) leftN
   ⟨lf,[],λ_=>0,λ_=>[],none,none,rfl,Kp.new k0 flf,⟨(upd_ne nel).trans upd_same,qBe,(λn h=>nomatch h),(λn h=>nomatch h),(λn h=>nomatch h),(λn h=>nomatch h),(λn h=>nomatch h),(λn h=>nomatch h),(λn h=>nomatch h),fe,(λn h=>nomatch h)⟩,(λi n h=>by simp at h),by
    have ef:(ns.filter λn=>decide (n∉([]:List Str)))=ns:=by simp
    show upd _ lf _ lf=some (.lst ((ns.filter λn=>decide (n∉([]:List Str))).map V.str));rw[ef];exact upd_same⟩ ?_ (λσ H Q Q' hq hc=>by
    obtain⟨x,e,b,t,q⟩:=hc;exact⟨x,e,b,t,hq _ _ q⟩)
  rintro σ H2 ⟨lf,D,fa,S,o4,o5,rfl,k2,FP,TP,hlf⟩;refine⟨_,rfl,_,.inl ⟨_,SqL.of hlf,rfl⟩,?_⟩;have hLs:∀n,n∈(ns.filter λn=>decide (n∉D))↔n∈ns/\n∉D:=λn=>by simp[qBM]
  have hLl:(ns.filter λn=>decide (n∉D)).length<=20:=qAf (qBt _ _) hn;generalize hL:(ns.filter λn=>decide (n∉D))=L at *
  refine ite2 (λc=>?_) (λc=>?_)
  .have cL:L≠[]:=λz=>by rw[z]at c;simp at c
   refine⟨_,rfl,_,rfl,⟨_,SqL.of hlf⟩,λB hB=>zEg (L.map V.str) (λi ys τ H3=>(∃o0,τ=[o0,some (.ref e),some (.ref d)])/\ys=((L.take i).filter λn=>(f n).all λm=>decide (m∈D)).map V.str/\Kp [] H2 H3/\H3 B=some (.lst ys)) ⟨⟨_,rfl⟩,rfl,Kp.new Kp.refl hB,upd_same⟩ (λi ys τ H3 ⟨_,_,k3,_⟩=>SqL.of (k3 lf _ hlf (by simp))) ?_ ?_⟩
   .rintro i v ys τ H3 hv ⟨⟨o0,rfl⟩,rfl,k3,h3⟩;obtain⟨n,en,rfl⟩:=zEr hv;have mn:=(hLs n).mp (qAT en);obtain⟨n1,n2,n3⟩:=hf n mn.1;have k23:=k2.trans k3;refine⟨_,rfl,_,rfl,_,rfl,_,.ref (la n),rfl,?_,e,la n,_,f n,rfl,k3 e _ FP.top (by simp),k23 _ _ n1 (by simp),n2,λH4 k4=>?_⟩
    .have:=DGet.k (k:=Sum.inr n) (k23 d _ hd (by simp));rw[zDg,qAC mn.1]at this;exact this
    have eall:((f n).all λm=>(valV (dT1 D λn=>V.ref (fa n)) (.inr m)).isSome)=(f n).all λm=>decide (m∈D):=by
     congr 1;funext m;exact has_dT1 D _ m
    rw[eall];have h4:=k4 B _ h3 (by simp);have et:=zAp en;refine⟨_,rfl,ite2 (λc=>?_) (λc=>?_)⟩
    .refine ⟨_,rfl,h4,?_,⟨_,rfl⟩,?_,Kp.new (k3.trans k4) hB,upd_same⟩
     .rw [qAE,qAS];have h1:=qBt (λn=>(f n).all λm=>decide (m∈D)) (L.take i);rw[qAd]at h1;lia
     .rw [et,qCB,qAb];have:[n].filter (λn=>(f n).all λm=>decide (m∈D))=[n]:=by rw[qBu,qAC c];rfl
      rw[this];rfl
    .refine ⟨⟨_,rfl⟩,?_,k3.trans k4,?_⟩
     .rw [et,qCB];have:[n].filter (λn=>(f n).all λm=>decide (m∈D))=[]:=by rw[qBu,qAB c];rfl
      rw[this,qAu]
     .exact h4
   .rintro ys τ H3 ⟨_,rfl,k3,h3⟩;have eT:L.take (L.map V.str).length=L:=by rw[qAE,qAq]
    rw[eT]at h3;have hFr:∀n,n∈(L.filter λn=>(f n).all λm=>decide (m∈D))↔n∈L/\∀m∈f n,m∈D:=λn=>by simp[qBM]
    have hFl:(L.filter λn=>(f n).all λm=>decide (m∈D)).length<=20:=qAf (qBt _ _) hLl
    have hFn:(L.filter λn=>(f n).all λm=>decide (m∈D)).Nodup:=by
     have:L.Nodup:=by rw[<-hL];exact hN.sublist List.filter_sublist
     exact this.sublist List.filter_sublist
    generalize hFE:(L.filter λn=>(f n).all λm=>decide (m∈D))=FR at *
    have k23:=k2.trans k3;refine⟨_,rfl,_,.inl ⟨_,SqL.of h3,rfl⟩,?_⟩;refine ite2 (λc0=>?_) (λc0=>?_)
    .have hF0:FR=[]:=by
      cases FR with
      |nil=>rfl
      |cons _ _=>simp at c0
     have stuck:∀n∈L,∃m∈f n,m∈L:=λn hnL=>by
      apply qA8;intro z;have:n∈FR:=(hFr n).mpr ⟨hnL,λm hm=>qA8 λy=>z ⟨m,hm,(hLs m).mpr ⟨(hf n ((hLs n).mp hnL).1).2.2 m hm,y⟩⟩⟩;rw[hF0]at this;cases this
     refine⟨_,rfl,_,rfl,lf,d,ns,L,la,f,rfl,k3 lf _ hlf (by simp),cL,hLl,k23 d _ hd (by simp),λn hnL=>⟨((hLs n).mp hnL).1,k23 _ _ (hf n ((hLs n).mp hnL).1).1 (by simp),(hf n ((hLs n).mp hnL).1).2.1,stuck n hnL⟩,λp rs H4 fp hp k4 RO sub len=>⟨by walk_at"ln",λx hx=>?_⟩⟩;have npx:p≠x:=ne_fre hx hp;refine⟨x,p,rs,rfl,upd_same,(upd_ne npx).trans hp,RO.ne,len,λy hy=>hNS y ((hLs y).mp (sub y hy)).1,λdx hdx=>⟨rfl,some dx,upd_same,?_⟩⟩;have nxd:x≠dx:=ne_fre hdx (show upd H4 x _ x=some _ from upd_same);have k24:=k23.trans k4;have fxH:Fre H x:=k24.fre hx (by simp);have fdH:Fre H dx:=k24.fre (show H4 dx=none by have:=hdx;rw[upd_ne (qAV nxd)]at this;exact this) (by simp);have npd:p≠dx:=ne_fre hdx ((upd_ne npx).trans hp);refine kE p dx rs _ RO (λy hy=>((hLs y).mp (sub y hy)).1) ?_ ?_ len λb o hb nm=>?_
     .show del _ x p=_;rw[zCm npx,upd_ne npx,upd_ne npd,upd_ne npx];exact hp
     .rw [zCm (qAV nxd),upd_ne (qAV nxd),upd_same]
     .have bx:b≠x:=zAi hb fxH;rw[zCm bx,upd_ne bx,upd_ne (zAi hb fdH),upd_ne bx];exact k24 b o hb nm
    have hF0:FR≠[]:=λz=>by rw[z]at c0;exact c0 rfl
    refine⟨_,rfl,_,rfl,⟨_,SqL.of h3⟩,zCa (λi σ H4=>∃(fa:Str->Addr)(S:Str->List Str)(o5:Option V),σ=[some (.ref l),some (.ref d),some (.ref e),some (.ref lf),some (.ref B),o5]/\Kp [] H H4/\Fp H H4 e ns (D++FR.take i) fa S f/\Txs H4 lf L/\Txs H4 B FR) ⟨fa,S,_,rfl,k23,by rw[List.take_zero,qAu];exact FP.kp k3,k3 lf _ hlf (by simp),h3⟩ (λi σ H4 _ ⟨_,_,_,_,_,_,_,h⟩=>SqL.of h) ?_ ?_⟩
    .rintro i v σ H4 hv ⟨fa4,S4,o5',rfl,k4,F4,hlf4,hB4⟩;obtain⟨n,en,rfl⟩:=zEr hv;have mF:=(hFr n).mp (qAT en);have mn:=(hLs n).mp mF.1;obtain⟨n1,n2,n3⟩:=hf n mn.1
     have nD:n∉D++FR.take i:=λz=>by
      rcases qAY.mp z with y|y
      .exact mn.2 y
      .exact zGg hFn en y
     have fD:∀x∈f n,x∈D++FR.take i:=λx hx=>qAo _ (mF.2 x hx);refine⟨_,rfl,_,rfl,_,.ref (la n),rfl,?_,_,rfl,la n,e,f n,D++FR.take i,ns,fa4,S4,rfl,k4 _ _ n1 (by simp),F4.top,λm hm=>⟨fD m hm,(n3 m hm),F4.row m (fD m hm),F4.sns m (fD m hm)⟩,hn,λm hm=>qAf (zEt (F4.snd m (fD m hm)) (F4.sns m (fD m hm))) hn,λb H5 fb hb k5=>?_⟩
     .have:=DGet.k (k:=Sum.inr n) (k4 d _ hd (by simp));rw[zDg,qAC mn.1]at this;exact this
     have F5:=F4.kp k5;have fbH:Fre H b:=k4.fre fb (by simp);refine⟨_,rfl,_,rfl,_,_,rfl,DPut.k (k:=Sum.inr n) F5.top ?_,?_⟩
     .have:=zEt F5.nd F5.sub;rw[qAE,qAS];lia
     .have FM:=F5.more mn.1 nD fD n3 hb (qAV (ne_fre fb F4.top)) fbH;rw[qCI,<-zAp en]at FM;exact⟨_,_,_,rfl,Kp.new (k4.trans k5) fe,FM,(upd_ne (zBf hlf4 F4.top (λz=>nomatch z))).trans (k5 lf _ hlf4 (by simp)),(upd_ne (zBf hB4 F4.top (λz=>nomatch z))).trans (k5 B _ hB4 (by simp))⟩
    .rintro σ H4 ⟨fa4,S4,o5',rfl,k4,F4,hlf4,hB4⟩;have eF:FR.take (FR.map V.str).length=FR:=by rw[qAE,qAq]
     rw[eF]at F4
     refine⟨_,rfl,_,rfl,⟨_,SqL.of hlf4⟩,λG hG=>zEg (L.map V.str) (λi ys τ H5=>(∃o0,τ=[o0,some (.ref e)])/\ys=((L.take i).filter λn=>decide (n∉D++FR)).map V.str/\H5=upd H4 G (.lst ys)) ⟨⟨_,rfl⟩,rfl,rfl⟩ (λi ys τ H5 ⟨_,_,z⟩=>by subst z;exact SqL.of ((upd_ne (ne_fre (show Fre H4 G from hG) hlf4)).trans hlf4)) ?_ ?_⟩
     .rintro i v ys τ H5 hv ⟨⟨o0,rfl⟩,rfl,rfl⟩;obtain⟨n,en,rfl⟩:=zEr hv;refine⟨_,rfl,_,rfl,_,_,rfl,DGet.k (k:=Sum.inr n) ((upd_ne (ne_fre (show Fre H4 G from hG) F4.top)).trans F4.top),_,rfl,?_⟩;rw[has_dT1];have et:=zAp en;refine ite2 (λc=>?_) (λc=>?_)
      .have c':n∉D++FR:=λz=>by rw[qAP z]at c;exact nomatch c
       refine⟨_,rfl,upd_same,?_,⟨_,rfl⟩,?_,zCg⟩
       .rw [qAE,qAS];have h1:=qBt (λn=>decide (n∉D++FR)) (L.take i);rw[qAd]at h1;lia
       .rw [et,qCB,qAb];have:[n].filter (λn=>decide (n∉D++FR))=[n]:=by rw[qBu,qAC (qAP c')];rfl
        rw[this];rfl
      .have c':n∈D++FR:=by
        apply qA8;intro z;rw[qAO z]at c;exact c rfl
       have e2:(L.take (i+1)).filter (λn=>decide (n∉D++FR))=(L.take i).filter (λn=>decide (n∉D++FR)):=by
        rw[et,qCB];have:[n].filter (λn=>decide (n∉D++FR))=[]:=by rw[qBu,qAB (by rw[qAO (λz=>z c')];decide)];rfl
        rw[this,qAu]
       refine⟨⟨_,rfl⟩,?_,?_⟩
       .rw [e2]
       .rfl
     .rintro ys τ H5 ⟨_,rfl,rfl⟩;have eT:L.take (L.map V.str).length=L:=by rw[qAE,qAq]
      rw[eT];have nGe:e≠G:=ne_fre (show Fre H4 G from hG) F4.top
      have eFF:(L.filter λn=>decide (n∉D++FR))=ns.filter λn=>decide (n∉D++FR):=by
       rw[<-hL,List.filter_filter];refine List.filter_congr λn _=>?_
       by_cases z:n∈D
       .have:n∈D++FR:=qAo _ z;rw[qAO (λy=>y this)];rfl
       .rw [qAP z,Bool.and_true]
      refine⟨⟨G,D++FR,fa4,S4,_,_,rfl,Kp.new k4 (k4.fre (show Fre H4 G from hG) (by simp)),F4.kp (Kp.new Kp.refl hG),TP.more (λn h1=>((hFr n).mp h1).2),?_⟩,?_⟩
      .rw [<-eFF];exact upd_same
      .have m1:leftN [some (V.ref l),some (.ref d),some (.ref e),some (.ref lf),o4,o5] H2=L.length:=by
        show(match H2 lf with|some (.lst xs)=>xs.length|_=>0)=_;rw[hlf];simp
       have m2:∀o4 o5,leftN [some (V.ref l),some (.ref d),some (.ref e),some (.ref G),o4,o5] (upd H4 G (.lst ((L.filter λn=>decide (n∉D++FR)).map V.str)))=(L.filter λn=>decide (n∉D++FR)).length:=λo4 o5=>by
        show(match upd H4 G (.lst ((L.filter λn=>decide (n∉D++FR)).map V.str)) G with|some (.lst xs)=>xs.length|_=>0)=_;rw[upd_same];simp
       rw[m1];refine qCJ (qCE (m2 _ _)) ?_;obtain⟨n,hnF⟩:=List.exists_mem_of_ne_nil FR hF0;have hnL:=((hFr n).mp hnF).1;exact zHk hnL (qAO λz=>z (qAt _ hnF))
  .have cL:L=[]:=by
    cases L with
    |nil=>rfl
    |cons _ _=>exact absurd rfl c
   refine⟨_,rfl,k e D fa S H2 FP (λn hn'=>?_) TP k2⟩;apply qA8;intro z;have:=(hLs n).mpr ⟨hn',z⟩;rw[cL]at this;exact nomatch this
end
theorem snd_mem{q:List Str×Addr}(h:∃a b,q.1=[a,b]):snd q∈q.1:=by
 obtain⟨a,b,e⟩:=h;unfold snd;rw[e];simp
theorem tp_rank{D:List Str}{f:Str->List Str}{x n:Str}(t:Tp D f)(hn:n∈D)(hx:x∈f n):D.idxOf x<D.idxOf n:=by
 have jl:D.idxOf n<D.length:=qDU hn;have h:=t (D.idxOf n) n (by rw[qAa jl,List.getElem_idxOf jl]) x hx;obtain⟨j,hj,e⟩:=qA5.mp h;rw[qAd]at hj;rw[List.getElem_take]at e;refine qCJ ?_ (show j<D.idxOf n by lia);apply qA8;intro z;have:=List.not_of_lt_findIdx (show j<D.findIdx (·==x)from by have:D.idxOf x=D.findIdx (·==x):=rfl;lia);simp[e]at this
section
variable{P:Program}{w:World}{K:PySem.W.Frag}{mg:Str->Option Value}{base:Heap}{C CR:Addr}
structure GoodX(ns:List Str)(qs:List (List Str×Addr)):Prop where
 nm:∀n∈ns,zCd n
 nd:ns.Nodup
 few:ns.length<=20
 qfew:qs.length<=306
 qin:∀q∈qs,∀x∈q.1,x∈ns
end
theorem pi_listK{X:Cx}{K:PySem.W.Frag}{tg l:Expr}{tl:TE}(hl:PE X l tl)(hK:X.K=K:=by rfl):PI X tg l (iList K tl):=by subst hK;exact zA5 hl
def hasB(qs:List (List Str×Addr))(L:List Str)(n:Str):Bool:=qs.any λq=>decide (fst q=n)&&decide (snd q∈L)
def strip(qs:List (List Str×Addr))(L:List Str):List Str:=L.filter (hasB qs L)
def zBw(qs:List (List Str×Addr)):Nat->List Str->List Str
 |0,L=>L
 |k+1,L=>strip qs (zBw qs k L)
theorem zHz(qs:List (List Str×Addr))(L:List Str):∀k,(zBw qs k L).length<=L.length
 |0=>qAG _
 |k+1=>qAf (qBt _ _) (zHz qs L k)
theorem zFt{qs:List (List Str×Addr)}{L rs:List Str}(R:RingOf (told qs) rs)(h:∀x∈rs,x∈L):∀k x,x∈rs->x∈zBw qs k L
 |0,x,hx=>h x hx
 |k+1,x,hx=>by
  refine qBM.mpr ⟨zFt R h k x hx,?_⟩;obtain⟨i,hi,e⟩:=qA5.mp hx;have hj:(if i+1=rs.length then 0 else i+1)<rs.length:=by split<;>lia
  have ej:rs[if i+1=rs.length then 0 else i+1]?=some rs[if i+1=rs.length then 0 else i+1]:=qAa hj
  have go:=R.go _ x _ ej (by
   have e1:rs[i]?=some x:=by rw[qAa hi,e]
   rw[<-e1];congr 1;split
   .split
    .lia
    .lia
   .split
    .lia
    .lia)
  obtain⟨q,q1,q2,q3⟩:=zD2.mp go;refine qBn.mpr ⟨q,q1,?_⟩;rw[qAP q3,qAP (by rw[q2];exact zFt R h k _ (qBD hj))];rfl
theorem strip_less{qs:List (List Str×Addr)}{L:List Str}{r:Str->Nat}(hr:∀q∈qs,r (fst q)<r (snd q))(hL:L≠[]):(strip qs L).length<L.length:=by
 obtain⟨m,m1,m2⟩:∃m∈L,∀x∈L,r x<=r m:=by
  induction L with
  |nil=>exact absurd rfl hL
  |cons a L ih=>
   by_cases z:L=[]
   .subst z;exact⟨a,qAX,λx hx=>by rw[qAQ.mp hx];exact qAG _⟩
   .obtain ⟨m,m1,m2⟩:=ih z
    by_cases c:r m<=r a
    .refine ⟨a,qAX,λx hx=>?_⟩;rcases qAL.mp hx with y|y
     .rw [y];exact qAG _
     .exact qAf (m2 x y) c
    .refine ⟨m,qAU _ m1,λx hx=>?_⟩;rcases qAL.mp hx with y|y
     .rw [y];lia
     .exact m2 x y
 refine zHk m1 (qCY.mpr λz=>?_);obtain⟨q,q1,q2⟩:=qBn.mp z;simp only[qA3,qBs]at q2;have h1:=hr q q1;have h2:=m2 _ q2.2;rw[q2.1]at h1;lia
theorem zH0{qs:List (List Str×Addr)}{L:List Str}{r:Str->Nat}(hr:∀q∈qs,r (fst q)<r (snd q)):∀k,(zBw qs k L).length<=L.length-k
 |0=>qAG _
 |k+1=>by
  have ih:=zH0 (L:=L) hr k
  by_cases z:zBw qs k L=[]
  .show (strip qs (zBw qs k L)).length<=_;rw[z];exact qAe _
  .have:=strip_less hr z;show(strip qs (zBw qs k L)).length<=_;lia
section
variable{P:Program}{w:World}{K:PySem.W.Frag}{mg:Str->Option Value}{base:Heap}
def zGy:Sp:=λvs H Q _=>∃(l m:Addr)(ns:List Str) (qs:List (List Str×Addr)),vs=[.ref l,.ref m]/\Txs H l ns/\Ords H m qs/\ns.length<=20/\qs.length<=306/\∀H',Kp [] H H'->Q (.bl (!(zBw qs ns.length ns).isEmpty)) H'
abbrev zCk:Stmt:=top 48
theorem zCr:FnScope ["_law_names_here","_law_orders","_law_left","_law_turn"] ["_law_names_here","_law_orders"] (zAe zCk):=fnS
theorem zI6(F:Fun K "_law_goes_round" "_law_goes_round" zCk f fd)(T:Txt K mg):FnOk P w K mg base CX0 1 f fd ["_law_names_here","_law_orders"] zGy:=by
 refine F.ok zCr (λvs H Q E h=>?_) (λcdv A outer s H vs Q E hr h=>?_)
 .obtain ⟨l,m,ns,qs,rfl,_⟩:=h;rfl
 .obtain ⟨l,m,ns,qs,rfl,hl,hm,hn,hq,k⟩:=h
  refine⟨_,(zAc (psS (i:=2) zCr.nd (zA0 zBq (by rfl) T.z_list zCi (zAa (pv 0) zAb))) (zAc (zBk qAr rfl (zBc rfl T.z_range (zAa (zAg zAn (by rfl) T.z_len zBr (zAa (pv 0) zAb)) zAb)) (pgN (i:=3) zCr.nd)
    (zAd (psS (i:=2) zCr.nd (zBs rfl (zBt (sc:=zAe zCk) rfl (by decide +kernel)) (Draws.own (x:="_law_name") (dtk (i:=1) rfl (dtk (i:=2) rfl Draws.nil))) (zA5 (pv 2)) (λ_ _ _ _=>(pgB (i:=0))) (λ_ _ _ _=>(zEz (zA7 (zAg (call_anyK (K:=K) rfl) (by rfl) T.z_any bo_any (zAa (zBs rfl (blk_in (sc:=zAe zCk) rfl rfl (by decide +kernel)) (Draws.own (x:="_law_one") (Draws.own (x:="_law_other") (dtk (i:=0) rfl (dtk (i:=2) rfl Draws.nil)))) (pi_listK (K:=K) (pv 1)) (λ_ _ _ _=>(zG5 (K:=K) (n:=2) rfl (zBa (pgB (i:=0)) (zBa (pgB (i:=1)) zEd)))) (λ_ _ _ _=>zB6) (λ_ _ _ _=>(pe_and (zBh zDr (pv 0) (pv 2) (zAq _)) (pe_one (zBh (zH6 (K:=K)) (pv 1) (pv 3) (by rfl)))))) zAb))))) (λ_ _ _ _=>(pv 0))))))
   (zAd (zAm (zBh (zI1 hr) (pv 2) (zAt zAb) (zAq _)))))),?_⟩
  refine hid3 ?_;intro _ _ _;refine⟨_,rfl,_,_,rfl,.inl (SqL.of hl),λlf hlf=>?_⟩;have flf:Fre H lf:=hlf;have k1:Kp [] H (upd H lf (.lst (ns.map V.str))):=Kp.new Kp.refl flf;refine⟨_,rfl,_,_,rfl,.inl (SqL.of (k1 l _ hl (by simp))),_,rfl,by rw[qAE];lia,by rw[qAE];lia,zBm (lo:=0) (λi σ H2=>∃(lf:Addr)(o3:Option V),σ=[some (.ref l),some (.ref m),some (.ref lf),o3]/\Kp [] H H2/\Txs H2 lf (zBw qs i ns)) ⟨lf,_,rfl,k1,upd_same⟩ ?_ ?_⟩
  .rintro i σ H2 hi ⟨lf,o3,rfl,k2,hlf2⟩;have hlen:=zHz qs ns i;generalize hL:zBw qs i ns=L at *
   refine⟨_,rfl,_,rfl,⟨_,SqL.of hlf2⟩,λB hB=>zEg (L.map V.str) (λj ys τ H3=>(∃o0,τ=[o0,some (.ref m),some (.ref lf)])/\ys=((L.take j).filter (hasB qs L)).map V.str/\Kp [] H2 H3/\H3 B=some (.lst ys)) ⟨⟨_,rfl⟩,rfl,Kp.new Kp.refl hB,upd_same⟩ (λj ys τ H3 ⟨_,_,k3,_⟩=>SqL.of (k3 lf _ hlf2 (by simp))) ?_ ?_⟩
   .rintro j v ys τ H3 hv ⟨⟨o0,rfl⟩,rfl,k3,h3⟩;obtain⟨n,en,rfl⟩:=zEr hv;have k23:=k2.trans k3
    refine⟨_,rfl,_,rfl,⟨_,SqL.of (k23 m _ hm.top (by simp))⟩,λB2 hB2=>zBz (qs.map λq=>V.ref q.2) (λa ys τ H4=>(∃o0 o1,τ=[o0,o1,some (.str n),some (.ref lf)])/\ys=((qs.take a).map λq=>decide (fst q=n)&&decide (snd q∈L)).map V.bl/\Kp [] H3 H4/\H4 B2=some (.lst ys)) ⟨⟨_,_,rfl⟩,rfl,Kp.new Kp.refl hB2,upd_same⟩ (λa ys τ H4 ⟨_,_,k4,_⟩=>SqL.of ((k23.trans k4) m _ hm.top (by simp))) ?_ ?_⟩
    .rintro a v ys τ H4 hv ⟨⟨o0,o1,rfl⟩,rfl,k4,h4⟩;obtain⟨q,eq,rfl⟩:=ref_at hv;have mq:=qAT eq;obtain⟨x,y,exy⟩:=hm.two q mq;have e1:fst q=x:=by unfold fst;rw[exy];rfl
     have e2:snd q=y:=by unfold snd;rw[exy];rfl
     have k24:=k23.trans k4
     have hrow:H4 q.2=some (.tup [.str x,.str y]):=by
      have:=k24 q.2 _ (hm.row q mq) (by simp);rw[exy]at this;exact this
     refine⟨_,_,rfl,.inl (.inl hrow),rfl,_,_,rfl,_,_,rfl,rfl,?_⟩
     have fin:∀c:Bool,c=(decide (fst q=n)&&decide (snd q∈L))->H4 B2=some (.lst (((qs.take a).map λq=>decide (fst q=n)&&decide (snd q∈L)).map V.bl))/\(((qs.take a).map λq=>decide (fst q=n)&&decide (snd q∈L)).map V.bl).length<sizeLine/\(∃o0 o1,[some (V.str x),some (V.str y),some (.str n),some (.ref lf)]=[o0,o1,some (.str n),some (.ref lf)])/\(((qs.take a).map λq=>decide (fst q=n)&&decide (snd q∈L)).map V.bl++[V.bl c])=((qs.take (a+1)).map λq=>decide (fst q=n)&&decide (snd q∈L)).map V.bl/\Kp [] H3 (upd H4 B2 (.lst (((qs.take a).map λq=>decide (fst q=n)&&decide (snd q∈L)).map V.bl++[V.bl c])))/\upd H4 B2 (.lst (((qs.take a).map λq=>decide (fst q=n)&&decide (snd q∈L)).map V.bl++[V.bl c])) B2=some (.lst (((qs.take a).map λq=>decide (fst q=n)&&decide (snd q∈L)).map V.bl++[V.bl c])):=λc ec=>by
      refine⟨h4,?_,⟨_,_,rfl⟩,?_,Kp.new k4 hB2,upd_same⟩
      .rw [qAE,qAE,qAd,qAS];lia
      .rw [zAp eq,qAb,qAb,ec];rfl
     refine⟨_,rfl,_,rfl,rfl,_,rfl,?_⟩;rw[show decide (V.str x=V.str n)=decide (fst q=n) by rw[e1];by_cases z:x=n<;>simp[z]];refine ite2 (λc=>?_) (λc=>?_)
     .refine ⟨_,rfl,_,rfl,_,_,rfl,.inl (SqL.of ((k3.trans k4) lf _ hlf2 (by simp))),rfl,zCb L,?_⟩;rw[zD4];exact fin _ (by rw[c,Bool.true_and,e2];rfl)
     .exact fin _ (by rw[qCY.mpr c,Bool.false_and])
    .rintro ys τ H4 ⟨_,rfl,k4,h4⟩;have eT:qs.take (qs.map λq=>V.ref q.2).length=qs:=by rw[qAE,qAq]
     rw[eT]at h4;refine⟨B2,_,rfl,SqL.of h4,_,rfl,?_⟩;have ea:((qs.map λq=>decide (fst q=n)&&decide (snd q∈L)).any id)=hasB qs L n:=by rw[List.any_map];rfl
     rw[ea];have h5:=k4 B _ h3 (by simp);refine ite2 (λc=>?_) (λc=>?_)
     .refine ⟨_,rfl,h5,?_,⟨_,rfl⟩,?_,Kp.new (k3.trans k4) hB,upd_same⟩
      .rw [qAE];exact zGj (by lia)
      .rw [zGi en c,qAb];rfl
     .refine ⟨⟨_,rfl⟩,?_,k3.trans k4,?_⟩
      .rw [zJi en c]
      .exact h5
   .rintro ys τ H3 ⟨_,rfl,k3,h3⟩;have eT:L.take (L.map V.str).length=L:=by rw[qAE,qAq]
    rw[eT]at h3;refine⟨B,_,rfl,k2.trans k3,?_⟩;show H3 B=some (.lst ((strip qs (zBw qs i ns)).map V.str));rw[hL];exact h3
  .rintro σ H2 ⟨lf,o3,rfl,k2,hlf2⟩;have en:((ns.map V.str).length:Int).toNat=ns.length:=by simp
   rw[en]at hlf2;refine⟨_,rfl,(by walk_at"ln"),λB hB=>?_⟩;have hlf3:=(upd_ne (o:=.lst []) (ne_fre (show Fre H2 B from hB) hlf2)).trans hlf2
   by_cases z:zBw qs ns.length ns=[]
   .rw [z]at hlf3;refine .inl ⟨lf,B,[],[],rfl,rfl,SqL.of hlf3,SqL.of upd_same,rfl,λi x y h=>by simp at h,?_⟩;have:=k (upd H2 B (.lst [])) (Kp.new k2 (k2.fre hB (by simp)));rw[z]at this;exact this
   .refine .inr ⟨lf,B,_,[],rfl,rfl,SqL.of hlf3,SqL.of upd_same,by simpa using z,?_⟩;have:=k (upd H2 B (.lst [])) (Kp.new k2 (k2.fre hB (by simp)));rw[show(!(zBw qs ns.length ns).isEmpty)=true by simpa using z]at this;exact this
end
section
variable{P:Program}{w:World}{K:PySem.W.Frag}{mg:Str->Option Value}{base:Heap}
def spIsRing:Sp:=λvs H Q _=>∃(l m:Addr)(rs:List Str) (qs:List (List Str×Addr)),vs=[.ref l,.ref m]/\Txs H l rs/\Ords H m qs/\RingOf (told qs) rs/\rs.length<=20/\∀H',Kp [] H H'->Q (.bl true) H'
abbrev zE6:Stmt:=top 43
theorem sc_is_ring:FnScope ["_law_found","_law_orders"] ["_law_found","_law_orders"] (zAe zE6):=fnS
theorem ok_is_ring(F:Fun K "_law_is_ring" "_law_is_ring" zE6 f fd)(T:Txt K mg):FnOk P w K mg base CX0 1 f fd ["_law_found","_law_orders"] spIsRing:=by
 refine F.ok sc_is_ring (λvs H Q E h=>?_) (λcdv A outer s H vs Q E hr h=>?_)
 .obtain ⟨l,m,rs,qs,rfl,_⟩:=h;rfl
 .obtain ⟨l,m,rs,qs,rfl,hl,hm,RO,hn,k⟩:=h;have hu2:A.units+3+2<cLine:=by have:=hr.un;exact qCJ (by show _<=A.units+3+16*0+200;lia) this
  refine⟨_,(zAc (zA1 (PW.pt (pw_or (zCl (zA7 (zAg zA6 (by rfl) T.z_isinstance zAf (zAa (pv 0) (zAa (zBi (by rfl) T.z_list zCi (v:=.ty "list") rfl) zAb))))) (pw_or (zAo (op_eqL hr) (pv 0) (zAt zAb) (zAq _)) (zH3 (zAo op_lt (zAg (call_lenS (P:=P) (w:=w)) (by rfl) T.z_len zBr (zAa (zA0 (call_setS (P:=P) (w:=w) (K:=K) hr) (by rfl) T.z_set bo_set (zAa (pv 0) zAb)) zAb)) (zAg zAn (by rfl) T.z_len zBr (zAa (pv 0) zAb)) (zAq _)))))) (zAd (zAm zD1)) zAl) (zAd (zAm (zAg (zGk _ rfl) (by rfl) T.z_all bo_all (zAa (zBs rfl (zBt (sc:=zAe zE6) rfl (by decide +kernel)) (Draws.own (x:="_law_k") (dtk (i:=1) rfl (dtk (i:=0) rfl Draws.nil))) (zBc rfl T.z_range (zAa (zAg zAn (by rfl) T.z_len zBr (zAa (pv 0) zAb)) zAb)) (λ_ _ _ _=>(pgB (i:=0))) (λ_ _ _ _=>zB6) (λ_ _ _ _=>(zBh (op_inRow (K:=K) hu2) (zBg (zAa (zBe (zDb (K:=K)) (pv 2) (zAv zEs (pv 0) zAh) (λ_ _=>rfl)) (zAa (zBe (zDb (K:=K)) (pv 2) (pv 0) (λ_ _=>rfl)) zAb))) (pv 1) (by rfl)))) zAb))))),?_⟩
  refine hid2 ?_;intro _ _;refine⟨_,rfl,_,_,_,_,rfl,TyOf.lst hl,zB8,_,rfl,iteF ?_⟩;refine⟨_,rfl,(by walk_at"ln"),λb hb=>.inr ⟨l,b,_,_,rfl,rfl,SqL.of ((upd_ne (ne_fre hb hl)).trans hl),SqL.of upd_same,by simpa using RO.ne,_,rfl,iteF ?_⟩⟩;have kb:Kp [] H (upd H b (.lst [])):=Kp.new Kp.refl hb;have hlb:=kb l _ hl (by simp);refine⟨_,rfl,l,rs,rfl,SqL.of hlb,RO.nd,by lia,λst hst=>⟨st,_,rfl,upd_same,?_⟩⟩;have ks:Kp [] H (upd (upd H b (.lst [])) st (SSt P w st rs.length)):=Kp.new kb (kb.fre hst (by simp));refine⟨_,rfl,_,_,rfl,.inl (SqL.of (ks l _ hl (by simp))),_,_,rfl,rfl,_,rfl,?_⟩;rw[qAO (by rw[qAE];lia)];refine iteF ?_;generalize upd (upd H b (.lst [])) st (SSt P w st rs.length)=H1 at ks
  refine⟨_,rfl,_,_,rfl,.inl (SqL.of (ks l _ hl (by simp))),_,rfl,by rw[qAE];lia,by rw[qAE];lia,λB hB=>comp_range0 (lo:=0) (λi ys τ H3=>(∃o0,τ=[o0,some (.ref m),some (.ref l)])/\ys=(List.replicate i true).map V.bl/\Kp [] H1 H3/\H3 B=some (.lst ys))
   ⟨⟨_,rfl⟩,rfl,Kp.new Kp.refl hB,upd_same⟩ ?_ ?_⟩
  .rintro i ys τ H3 hi ⟨⟨o0,rfl⟩,rfl,k3,h3⟩;have hi:i<rs.length:=by simpa using hi
   have k13:=ks.trans k3;have hl3:=k13 l _ hl (by simp);have lt:(if i=0 then rs.length-1 else i-1)<rs.length:=by split<;>lia
   have e1:rs[i]?=some rs[i]:=qAa hi;have e2:rs[if i=0 then rs.length-1 else i-1]?=some rs[if i=0 then rs.length-1 else i-1]:=qAa lt;have go:=RO.go i _ _ e1 e2;generalize rs[if i=0 then rs.length-1 else i-1]=x at e2 go
   have a1:atI (rs.map V.str) (0+(i:Int)-1)=some (.str x):=by
    unfold atI ixN
    by_cases z:i=0
    .subst z;rw[qAB (by simp)];rw[qAC rfl]at e2;simp only[qAE];rw[qAC (by lia)];show(rs.map V.str)[(0+((0:Nat):Int)-1+(rs.length:Int)).toNat]?=_;rw[show(0+((0:Nat):Int)-1+(rs.length:Int)).toNat=rs.length-1 by lia,qAN,e2];rfl
    .rw [qAC (by lia),qAC (by rw[qAE];lia)];rw[qAB z]at e2;show(rs.map V.str)[(0+(i:Int)-1).toNat]?=_;rw[show(0+(i:Int)-1).toNat=i-1 by lia,qAN,e2];rfl
   have a2:atI (rs.map V.str) (0+(i:Int))=some (.str rs[i]):=zA9 (by lia) (by rw[show(0+(i:Int)).toNat=i by lia,qAN,e1];rfl);refine⟨_,rfl,_,rfl,_,_,rfl,rfl,_,_,_,_,rfl,rfl,SqL.of hl3,a1,_,rfl,_,rfl,_,_,_,_,rfl,rfl,SqL.of hl3,a2,(by walk_at"ln"),λt ht=>?_⟩;have k4:Kp [] H (upd H3 t (.tup [.str x,.str rs[i]])):=Kp.new k13 (k13.fre ht (by simp));refine⟨_,rfl,t,m,[x,rs[i]],qs,rfl,rfl,.inl (.inl upd_same),SqL.of (k4 m _ hm.top (by simp)),λq hq=>.inl (.inl (k4 _ _ (hm.row q hq) (by simp))),?_⟩
   have mem:[x,rs[i]]∈qs.map (·.1):=by
    obtain⟨q,q1,q2,q3⟩:=zD2.mp go;obtain⟨a,b,eab⟩:=hm.two q q1;unfold snd at q2;unfold fst at q3;rw[eab]at q2 q3;refine qAM.mpr ⟨q,q1,?_⟩;rw[eab,<-q2,<-q3];rfl
   rw[qAP mem];have h4:=(upd_ne (o:=.tup [.str x,.str rs[i]]) (ne_fre (show Fre H3 t from ht) h3)).trans h3;refine⟨h4,?_,⟨_,rfl⟩,?_,Kp.new (Kp.new k3 (k3.fre ht (by simp))) hB,upd_same⟩
   .rw [qAE,List.length_replicate,qAS];lia
   .rw [List.replicate_succ',qAb];rfl
  .rintro ys τ H3 ⟨_,rfl,k3,h3⟩;refine⟨B,_,rfl,SqL.of h3,?_⟩;have:∀n,(List.replicate n true).all id=true:=λn=>by simp
   rw[this];exact k H3 (ks.trans k3)
end
end My
namespace L2
open PySem PySem.Spec PyProof.Rows
end L2
namespace RV
open PySem
theorem l_noga:typeLookup (.type "list") "__getattr__"=pure none:=by rw[qB6,qB7];kernel_rfl
theorem l_nokeys:typeLookup (.type "list") "keys"=pure none:=by rw[qB6,qB7];kernel_rfl
abbrev IsLst(h:Heap)(l:Addr)(ys:Array Value)(n:Nat):Prop:=h.get? l=some {cls:=.type "list",dict:=none,data:=.seq ys n,slots:=#[]}
theorem lmiss_m(l:Addr)(ys:Array Value)(n:Nat)(u:Tok) :
  Meets (Builtin.«object.__getattribute__» ⟨[.ref l,.str "keys" u],[]⟩) (λA R s=>IsLst s.heap l ys n/\raisesAttr (.ref l) "keys" A R s) :=
 Meets.of_wp λP w A R s hs=>by
  obtain⟨h0,g,d,tk,os⟩:=s;obtain⟨hx,hs⟩:=hs;have hx:h0.get? l=some {cls:=.type "list",dict:=none,data:=.seq ys n,slots:=#[]}:=hx;have ty:Shared.TypeIs ⟨h0,g,d,tk,os⟩ (.ref l) "list":= ⟨_,hx,rfl⟩;have nk:=l_nokeys;unfold Builtin.«object.__getattribute__»
  repeat (any_goals (first|assumption|wp_step))
  exact wpAny_raiseAttrError hs.1 hs.2 (attrMsg_fits (by decide +kernel) (by decide +kernel))
section
variable{P:Program}{w:World}{A:Around}{E:Value->Shared->Prop}{s:Shared}
theorem lmiss_keys{l:Addr}{ys:Array Value}{n:Nat}{Q:Option Value->Shared->Prop}(hh:A.handled=none)(hr:IsLst s.heap l ys n)(q:∀k tk,(∀b o,s.heap.get? b=some o->k.get? b=some o)->Q none {s with heap:=k,toks:=tk}) :
  wpAny (model P w) A (getAttr? (.ref l) "keys") Q E s:=by
 obtain⟨h0,g,d,tk,os⟩:=s;have hr:h0.get? l=some {cls:=.type "list",dict:=none,data:=.seq ys n,slots:=#[]}:=hr;have ty:∀t,Shared.TypeIs ⟨h0,g,d,t,os⟩ (.ref l) "list":= λ_=>⟨_,hr,rfl⟩;have f1:=sub_AttributeError;have f3:=qDW.lookup;have f4:=qDW.bind (.ref l);have f5:=l_noga;unfold getAttr? getAttrBy? getAttrBy
 repeat (any_goals (first|assumption|exact ty _|((with_reducible show wpAny _ _ (call (Value.builtin "list.__getattribute__") _ _) _ _ _);refine qB0 qDW (ty _) am_entry_list_getattribute (F.args_list_getattribute_2 _ _) (lmiss_m l ys n _) ⟨hr,hh,λh' tk' e hx'=>?_⟩)|wp_step))
 obtain⟨t',u',he⟩:=hx'.there;show wpAny _ _ (getattributeRaised _ _ _ _ _ _ _) _ _ _;unfold getattributeRaised
 repeat (any_goals (first|assumption|wp_step))
 exact q _ _ hx'.keeps
theorem lfill{K:Type}[DecidableEq K]{knd:KeyKind P w K}{R:Result->Shared->Prop}{d r l:Addr}{ys:Array Value}{vs:List (K×Value)}{res:Value}(hh:A.handled=none)(dr:d≠r)(nd:(vs.map (·.1)).Nodup)(sz:vs.length<=sizeLine) :
  ∀(j i:Nat)(s:Shared)(c:Int),vs.length-i=j->i<=vs.length->s.heap.IsListIter r l i->s.heap.IsList l ys->PairsIn knd s.heap ys vs->s.heap.DictOf knd d (vs.take i) ->
  (∀k tk,(∀b o,b≠d->b≠r->s.heap.get? b=some o->k.get? b=some o)->k.DictOf knd d vs->R (.ok (.ret res)) {s with heap:=k,toks:=tk}) ->
  codeAny (model P w) A (.builtin "dict.update.loop" ⟨[.ref d,.ref r,.int c 0,res],[]⟩) R s:=by
 intro j
 induction j with
 |zero=>
  intro i s c hj hi hr hl hp hd q;have e:i=vs.length:=by lia
  subst e;refine qBS e_loop ?_;rw[qBf p_loop _];unfold Builtin.«dict.update.loop»;refine qAA (wpAny_pyNext_list_end (A:=A.in1) hh hr hl (by rw[<-hp.1];simp) λk hk=>?_);refine qAA (qAD (qAD ?_));rw[qAq]at hd;exact q k s.toks (λb o _ n y=>hk b o n y) (hd.at λo y=>hk _ o dr y)
 |succ j ih=>
  intro i s c hj hi hr hl hp hd q;obtain⟨h0,g,dd,tk,os⟩:=s;refine qBS e_loop ?_;rw[qBf p_loop _];unfold Builtin.«dict.update.loop»;have hlt:i<vs.length:=by lia
  obtain⟨t,key,n,e1,e2,ot,e3,e3c,e3d⟩:=hp.2 i (vs[i]).1 (vs[i]).2 (qAa hlt);have hr0:=hr;refine qAA (wpAny_pyNext_list_item hr hl e1 λk hr1 sb=>?_);have sb:Heap.SameBut r h0 k:=sb
  have nr:∀t o,h0.get? t=some o->o.cls≠.type "list_iterator"->t≠r:=λt o y n z=>by
   obtain⟨o',y',c',_⟩:=hr0;rw[z]at y;have:=y.symm.trans y'
   cases this
   exact n c'
  have e4:k.get? t=some ot:=(sb.2 t (nr t ot e3 (by rw[e3c];simp))).trans e3;have hd1:k.DictOf knd d (vs.take i):=hd.at λo y=>(sb.2 d dr).trans y;refine qAA ?_;refine qAk ?_;refine qAA (wpAny_tryCatch ?_);unfold Builtin.Dict.pairItems;refine qAA (qCS (T:="tuple") ⟨_,e4,e3c⟩ ?_);rw[qAC (by decide)];refine qAA (qDE e4 e3d (qAD ?_));have tk1:vs.take (i+1)=vs.take i++[((vs[i]).1,(vs[i]).2)]:=by rw[List.take_succ_eq_append_getElem hlt]
  have nw:(vs[i]).1∉(vs.take i).map (·.1):=by
   have n1:((vs.take (i+1)).map (·.1)).Nodup:=nd.sublist ((List.take_sublist _ _).map _);rw[tk1,qAb]at n1;intro z;exact(qBp.mp n1).2.2 _ z _ (by simp) rfl
  have tl:(vs.take i).length=i:=by rw[qAd];lia
  show wpAny _ _ (holding [key,(vs[i]).2] (dictSet d key (vs[i]).2)) _ _ _;refine qAk (wpAny_dictSet_pairs e2 hd1 (λk2 hd2 sb2=>?_) (by lia));have sb2:Heap.SameBut d k k2:=sb2;rw[stored_new nw,<-tk1]at hd2
  have nd':∀t o,h0.get? t=some o->o.cls≠.type "dict"->t≠d:=λt o y n z=>by
   obtain⟨o',es,ep,y',ex,_⟩:=hd;rw[z]at y;have:=y.symm.trans y'
   cases this
   exact n ex.1
  have ll:∀o,h0.get? l=some o->k2.get? l=some o:=λo y=>by
   obtain⟨o',y',c',_⟩:=hl
   have hc:o.cls= .type "list":= by
    have:=y.symm.trans y'
    cases this
    exact c'
   exact(sb2.2 l (nd' l o y (by rw[hc];simp))).trans ((sb.2 l (nr l o y (by rw[hc];simp))).trans y)
  refine qAD ⟨qBq p_loop _,ih (i+1) ⟨k2,g,dd,tk+1,os⟩ (c+1) (by lia) hlt (Heap.IsListIter.at hr1 λo y=>(sb2.2 r dr.symm).trans y) (hl.at ll) ⟨hp.1,λj kk v e=>?_⟩ hd2 λk3 tk3 k4 hd3=>?_⟩
  .obtain ⟨t',key',n',e1',e2',o',e3',e4',e5'⟩:=hp.2 j kk v e;exact⟨t',key',n',e1',e2',o',(sb2.2 t' (nd' t' o' e3' (by rw[e4'];simp))).trans ((sb.2 t' (nr t' o' e3' (by rw[e4'];simp))).trans e3'),e4',e5'⟩
  .exact q k3 tk3 (λb o h1 h2 y=>k4 b o h1 h2 ((sb2.2 b h1).trans ((sb.2 b h2).trans y))) hd3
theorem dict_lst{K:Type}[DecidableEq K]{knd:KeyKind P w K}{l:Addr}{ys:Array Value}{n:Nat}{vs:List (K×Value)}{Q:Value->Shared->Prop}(hh:A.handled=none)(hr:IsLst s.heap l ys n)(hp:PairsIn knd s.heap ys vs)(nd:(vs.map (·.1)).Nodup)(sz:vs.length<=sizeLine)
  (q:∀k tk,(∀b o,s.heap.get? b=some o->k.get? b=some o)->k.DictOf knd s.heap.objs.size vs->Q (.ref s.heap.objs.size) {s with heap:=k,toks:=tk}):wpAny (model P w) A (call (.type "dict") [.ref l]) Q E s:=by
 refine callType_codes (Q₁:=λobj s₁=>obj= .ref s.heap.objs.size/\s₁={s with heap:=s.heap.push {cls:=.type "dict",data:=.dict #[]}}) F.kt_called_dict (F.kt_typeCall_dict_1 _) F.entry_dict_init (kt_code_dict_new _ ⟨rfl,rfl⟩) λobj s1 h1=>?_;obtain⟨rfl,rfl⟩:=h1;have hnew:(s.heap.push {cls:=.type "dict",data:=.dict #[]}).DictOf knd s.heap.objs.size []:=Heap.DictOf.new s.heap;refine⟨hnew.typeIs,F.args_dict_init_2 _ _,?_⟩;unfold Builtin.«dict.__init__»;refine qAA ?_;unfold Builtin.Dict.selfAndRest;refine qAA (wpAny_notOrdered_dict hnew.typeIs ?_);show wpAny _ _ (pure (s.heap.objs.size,[Value.ref l])) _ _ _;refine qAD ?_;show wpAny _ _ (Builtin.Dict.updateFrom "dict.__init__" s.heap.objs.size (.ref l) [] .none) _ _ _;unfold Builtin.Dict.updateFrom;have hr1:IsLst (s.heap.push {cls:=.type "dict",data:=.dict #[]}) l ys n:=qAI _ hr;refine qAA (qCS (T:="list") ⟨_,hr1,rfl⟩ ?_);rw[qAC (by decide)];refine qAA (lmiss_keys (A:=A.in1.in1) hh hr1 λk tk hk=>?_);have hk:∀b o,(s.heap.push {cls:=.type "dict",data:=.dict #[]}).get? b=some o->k.get? b=some o:=hk;simp only[Option.isNone_none,if_true];refine qAA (qBZ ?_);have hr2:IsLst k l ys n:=hk _ _ hr1;have hl2:k.IsList l ys:=⟨_,hr2,rfl,n,rfl⟩;refine qAA (qCe (s:={s with heap:=k,toks:=tk}) hl2 ?_);have up:∀b o,s.heap.get? b=some o->k.get? b=some o:=λb o y=>hk b o (qAI _ y);have hd2:k.DictOf knd s.heap.objs.size []:=hnew.at λo y=>hk _ o y
 have dlt:s.heap.objs.size<k.objs.size:=by
  obtain⟨o,es,ep,y,_⟩:=hd2;exact qAJ y
 have kp:∀b o,k.get? b=some o->(k.push {cls:=.type "list_iterator",data:=.fields #[.ref l,.int 0 0]}).get? b=some o:=λb o y=>qAI _ y;refine qAD ⟨qBq p_loop _,lfill (A:=A.in1) (knd:=knd) (vs:=vs) (l:=l) (ys:=ys) (r:=k.objs.size) hh (qAR dlt) nd sz vs.length 0 _ 0 (by lia) (qAe _) ⟨_,qAc _ rfl,rfl,rfl⟩ (hl2.at λo y=>kp l o y) ⟨hp.1,λj kk v e=>?_⟩ (by rw[List.take_zero];exact hd2.at λo y=>kp _ o y) λk2 tk2 k3 hd=>?_⟩
 .obtain ⟨t',key',n',e1',e2',o',e3',e4'⟩:=hp.2 j kk v e;exact⟨t',key',n',e1',e2',o',kp _ _ (up _ _ e3'),e4'⟩
 .refine ⟨rfl,q k2 tk2 (λb o y=>k3 b o (qAR (qAJ y)) (qAR (qAi (qAJ y) (qBh dlt))) (kp b o (up b o y))) hd⟩
end
end RV
namespace L2
open PySem PySem.Spec PyProof.Rows
section
variable{X:Cx}
theorem call_dictL(hc:X.calm=true):zCq X (.type "dict") (λxs H Q=>∃(l:Addr)(ts:List Addr) (kvs:List (Key×V)),xs=[.ref l]/\H l=some (.lst (ts.map V.ref))/\ts.length=kvs.length/\(kvs.map (·.1)).Nodup /\ (∀(j:Nat)(t:Addr)(k:Key)(v:V),ts[j]?=some t->kvs[j]?=some (k,v)->H t=some (.tup [kV k,v]))/\∀p,H p=none->Q (.ref p) (upd H p (.dK kvs))):=by
 intro pins s σ H xs us Q I rv h;obtain⟨l,ts,kvs,rfl,el,len,nd,tu,q⟩:=h;obtain⟨u,rfl,ru⟩:=rv.one
 cases ru
 obtain⟨z,its,n,rel,hl⟩:zAz X.prog X.w H s.heap l (.lst (ts.map V.ref)):=I.hok l _ el;have hi:=valsRefs ts rel;subst hi;obtain⟨vs,kv,vt⟩:=pairs_of I len tu;have kl:=kv.length;have z':vs.length<=sizeLine:=by rw[qAE]at z;lia
 have nd':(vs.map (·.1)).Nodup:=by rw[<-kv_keys kv];exact nd
 refine RV.dict_lst (knd:=zAu X.prog X.w) (l:=l) (ys:=(ts.map Value.ref).toArray) (vs:=vs) (I.ok.hd hc) hl ⟨by simp;lia,λj k v e=>?_⟩ nd' z' λk tk ko kd=>?_
 .have jl:j<ts.length:=by have:=(qAg.mp e).1;lia
  obtain⟨key,n,o,h1,h2⟩:=vt j ts[j] k v (qAa jl) e;exact⟨ts[j],key,n,by simp[jl],h1,o,h2⟩
 .exact ⟨.ref s.heap.objs.size,_,I.laid (t':=tk) ko (qAG _) (dk_new (by lia) (qA0.mpr (qAV (qAR I.big))) kv kd),rfl,q _ (I.hok.fresh (qAG _))⟩
end
end L2
namespace My
open PySem L2
variable{i:Nat}{H H':Hp}{v:V}{D f:Addr}{fd:FuncData}{vs:List V}{ts:List (Addr×V×V)}{α:Type}
structure TwAt(ns:List Str)(i:Nat)(n:Str):Prop where
 at_:ns[i]?=some n
 mem:n∈ns.take i
 nd:(ns.take i).Nodup
theorem TwAt.one{ns:List Str}{j:Nat}{n m:Str}(a:TwAt ns i n)(b:TwAt ns j m):i=j/\n=m:=by
 have lt:∀{i j:Nat}{n m:Str},TwAt ns i n->TwAt ns j m->i<j->False:=λ{i j n m} a b h=>by
  have e:(ns.take j)[i]?=some n:=by rw[qC3 h];exact a.at_
  have:=zGg b.nd e;rw[List.take_take,Nat.min_eq_left (qBh h)]at this;exact this a.mem
 have:i=j:=by
  rcases Nat.lt_trichotomy i j with h|h|h
  .exact (lt a b h).elim
  .exact h
  .exact (lt b a h).elim
 subst this;exact⟨rfl,qAW (a.at_.symm.trans b.at_)⟩
theorem TwAt.not{ns:List Str}{n:Str}(a:TwAt ns i n):¬ns.Nodup:=λh=>zGg h a.at_ a.mem
structure XF(K:PySem.W.Frag)(mg:Str->Option Value)(CB C:Addr)(x:Str):Prop where
 bi:InitX K CB
 mgB:mg "BenchError"=some (.ref CB)
 xc:XCls K C
 nr:zDf K C "name"
 mgX:mg x=some (.ref C)
 gt:XGet K C
 self:(mroK K C).contains (.ref CB)=true
structure X0(K:PySem.W.Frag)(mg:Str->Option Value)(CB C:Addr)(x:Str):Prop where
 ok:PySem.W.excIn K C bmVE "ValueError.__new__"=true
 mgX:mg x=some (.ref C)
 self:(mroK K C).contains (.ref CB)=true
def FlatT(v:V):Prop:=(∃x:Str,v= .str x/\x.length<=100/\∀c∈x.cps.toList,c<16^8)\/v= .non\/(∃b,v= .bl b)\/∃i,v= .int i
def Odd(H:Hp)(v:V):Prop:=FlatT v\/∃(a:Addr)(z:Str),v= .ref a/\z.length<=100/\(∀c∈z.cps.toList,c<16^8)/\(H a=some (.lst [.str z])\/H a=some (.tup [.str z])\/H a=some (.dK [(Sum.inr "a",.int 1)]))
def zFo(H:Hp)(v u:V):Prop:=(FlatT v/\u=v)\/∃(a b:Addr)(z:Str),v= .ref a/\u= .ref b/\((H a=some (.lst [.str z])/\H b=some (.lst [.str z]))\/(H a=some (.tup [.str z])/\H b=some (.tup [.str z]))\/(H a=some (.dK [(Sum.inr "a",.int 1)])/\H b=some (.dK [(Sum.inr "a",.int 1)])))
theorem Odd.kpO{L:List Addr}(h:Odd H v)(k:Kp L H H')(n:∀a∈L,v≠.ref a):Odd H' v:=by
 rcases h with h|⟨a,z,h1,h2,h3,h4⟩
 .exact .inl h
 .have g:∀{o},H a=some o->H' a=some o:=λe=>k _ _ e λq=>n a q h1;exact .inr ⟨a,z,h1,h2,h3,h4.imp g (Or.imp g g)⟩
theorem Odd.kp0(h:Odd H v)(k:Kp [] H H'):Odd H' v:=h.kpO k (by simp)
theorem zFo.kp0{u:V}(h:zFo H v u)(k:Kp [] H H'):zFo H' v u:=by
 rcases h with h|⟨a,b,z,h1,h2,⟨h3,h4⟩|⟨h3,h4⟩|⟨h3,h4⟩⟩
 .exact .inl h
 .exact .inr ⟨a,b,z,h1,h2,.inl ⟨k _ _ h3 (by simp),k _ _ h4 (by simp)⟩⟩
 .exact .inr ⟨a,b,z,h1,h2,.inr (.inl ⟨k _ _ h3 (by simp),k _ _ h4 (by simp)⟩)⟩
 .exact .inr ⟨a,b,z,h1,h2,.inr (.inr ⟨k _ _ h3 (by simp),k _ _ h4 (by simp)⟩)⟩
def zBl(v:V)(ns:List Str):Bool:=match v with
 | .str x=>decide (x∈ns)
 |_=>false
theorem Odd.ty{K:PySem.W.Frag}{H:Hp}(h:Odd H v):(∃x:Str,v= .str x/\x.length<=100/\∀c∈x.cps.toList,c<16^8)\/∃t,TyOf K H v t/\PySem.W.kitOne K t (.type "str")=some false/\∀x,v≠.str x:=by
 rcases h with(h|rfl|⟨b,rfl⟩|⟨i,rfl⟩)|⟨a,z,rfl,_,_,h|h|h⟩
 .exact .inl h
 .exact .inr ⟨_,TyOf.non,rfl,λ_ z=>nomatch z⟩
 .exact .inr ⟨_,TyOf.bl b,rfl,λ_ z=>nomatch z⟩
 .exact .inr ⟨_,TyOf.int i,rfl,λ_ z=>nomatch z⟩
 .exact .inr ⟨_,TyOf.lst h,rfl,λ_ z=>nomatch z⟩
 .exact .inr ⟨_,TyOf.tup h,rfl,λ_ z=>nomatch z⟩
 .exact .inr ⟨_,TyOf.dK h,rfl,λ_ z=>nomatch z⟩
theorem FlatT.ty{K:PySem.W.Frag}{H:Hp}(h:FlatT v):∃t,TyOf K H v t/\PySem.W.kitOne K t (.type "list")=some false/\PySem.W.kitOne K t (.type "tuple")=some false/\PySem.W.kitOne K t (.type "dict")=some false:=by
 rcases h with⟨x,rfl,_⟩|rfl|⟨b,rfl⟩|⟨i,rfl⟩
 .exact ⟨_,TyOf.str x,rfl,rfl,rfl⟩
 .exact ⟨_,TyOf.non,rfl,rfl,rfl⟩
 .exact ⟨_,TyOf.bl b,rfl,rfl,rfl⟩
 .exact ⟨_,TyOf.int i,rfl,rfl,rfl⟩
theorem op_eqC{X:Cx}{K:PySem.W.Frag}{k:Nat}(hr:Room k X.A)(hK:X.K=K:=by rfl):OpR X (compareOp .Eq) (λx y H Q=>zFo H y x/\Q (.bl true) H):=by
 subst hK;have hu:X.A.units<cLine:=by have:=hr.un;lia
 have hv:X.A.units+1+1<cLine:=by have:=hr.un;lia
 intro pins s σ H x y v u Q I rx ry h;obtain⟨c,q⟩:=h;rcases c with⟨f,rfl⟩|⟨a,b,z,rfl,rfl,⟨h1,h2⟩|⟨h1,h2⟩|⟨h1,h2⟩⟩
 .refine zDr pins s σ H _ _ v u Q I rx ry ⟨?_,?_⟩
  .rcases f with⟨x,rfl,_⟩|rfl|⟨b,rfl⟩|⟨i,rfl⟩<;>rfl
  .rw [qAP rfl];exact q
 .exact op_eqS hu pins s σ H _ _ v u Q I rx ry ⟨_,_,[z],[z],rfl,rfl,SqL.of h2,SqL.of h1,by rw[qAP rfl];exact q⟩
 .exact op_eqTS hu pins s σ H _ _ v u Q I rx ry ⟨_,_,[z],[z],rfl,rfl,.inl (.inl h2),.inl (.inl h1),by rw[qAP rfl];exact q⟩
 .refine op_eqD (n:=1) hv pins s σ H _ _ v u Q I rx ry ⟨_,_,_,_,rfl,rfl,.inl h2,.inl h1,⟨λkv h=>⟨"a",by rw[qAQ.mp h]⟩,λkv h=>⟨"a",by rw[qAQ.mp h]⟩,rfl,λk v hk=>?_⟩,q⟩
  cases qAQ.mp hk
  exact⟨.int 1,rfl,.flat rfl⟩
def tFrz(t:TS):TS:=λD σ H=>∃a kvs,H a=some (.dK kvs)/\∀o,t (thawE D a o kvs) σ (upd H a (.frz o (.dK kvs)))
theorem ps_frzN{X:Cx}{st:Stmt}{t:TS}(h:PS X st t):PS X st (tFrz t):=ps_frz h
theorem thaw_kp{H2:Hp}{d:Addr}{kvs:List (Key×V)}(hd:H d=some (.dK kvs))(k:Kp [d] H H2):Kp [] H (upd H2 d (.dK kvs)):=λc o h n=>by
 by_cases e:c=d
 .subst e;rw[upd_same,<-h];exact hd.symm
 .rw [upd_ne e];exact k c o h (nm1 e)
theorem comp_items1{a:Addr}{o:Obj}{k:Key}{x:V}{ix:List (Option Nat)}{g:TG}{tt:TT}{te:TE}{QD:Hp->Prop}{σ:St}{H1:Hp}(hl:(upd H1 D (.lst [])) a=some (.frz o (.dK [(k,x)])))
  (hs:∀N:List V->St->Hp->Prop,(∀v τ' H',H' a=some (.frz o (.dK [(k,x)]))->QD H'->N [v] τ' H')->∀t,(upd H1 D (.lst [])) t=none->g (.ref t) (zB0 σ ix) (upd (upd H1 D (.lst [])) t (.tup [kV k,x])) λτ' H4=>tt τ' H4 λb H5=>if b=true then te τ' H5 λv H6=>H6 D=some (.lst [])/\([]:List V).length<sizeLine/\N ([]++[v]) τ' (upd H6 D (.lst ([]++[v])))else N [] τ' H5) :
  ∃W:Nat->Nat->List V->St->Hp->Prop,(∃m,W 0 m [] (zB0 σ ix) (upd H1 D (.lst [])))/\∀i m ys τ H2,W i m ys τ H2 ->
   ((Itm a o [(k,x)]).stop i H2/\QD H2)\/((Itm a o [(k,x)]).go i H2/\∃N:List V->St->Hp->Prop,(∀ys' τ' H',N ys' τ' H'->∃m',m'<m/\W (i+1) m' ys' τ' H')/\∀y H3,(Itm a o [(k,x)]).yld i H2 y H3->g y τ H3 λτ' H4=>tt τ' H4 λb H5=>if b=true then te τ' H5 λv H6=>H6 D=some (.lst ys)/\ys.length<sizeLine/\N (ys++[v]) τ' (upd H6 D (.lst (ys++[v]))) else N ys τ' H5):=by
 refine⟨λi m ys τ H=>(i=0/\m=1/\ys=[]/\τ=zB0 σ ix/\H=upd H1 D (.lst []))\/(i=1/\m=0/\H a=some (.frz o (.dK [(k,x)]))/\QD H),⟨1,.inl ⟨rfl,rfl,rfl,rfl,rfl⟩⟩,?_⟩;rintro i m ys τ H (⟨rfl,rfl,rfl,rfl,rfl⟩|⟨rfl,rfl,h1,h2⟩)
 .refine .inr ⟨⟨hl,by show(0:Nat)<1;decide⟩,λys' τ' H'=>H' a=some (.frz o (.dK [(k,x)]))/\QD H',λys' τ' H' h=>⟨0,by decide,.inr ⟨rfl,rfl,h⟩⟩,λy H3 z=>?_⟩;obtain⟨t,k',x',rfl,hn,e,rfl⟩:=z
  cases e
  exact hs (λ_ _ H'=>H' a=some (.frz o (.dK [(k,x)]))/\QD H') (λv τ' H' h1 h2=>⟨h1,h2⟩) t hn
 .exact .inl ⟨⟨h1,qAG _⟩,h2⟩
section
variable{P:Program}{w:World}{K:PySem.W.Frag}{mg:Str->Option Value}{base:Heap}{CB CS:Addr}
def zIj:Sp:=λvs H Q _=>∃(x:Str)(v:V),vs=[.str x,v]/\x.length<=100/\Odd H v/\∀z,Q (.str z) H
abbrev zEv:Stmt:=top 1
theorem sc_words_for:FnScope ["saying","thing"] ["saying","thing"] (zAe zEv):=fnS
theorem ok_words_for(F:Fun K "words_for" "words_for" zEv f fd)(T:Txt K mg):FnOk P w K mg base CX0 1 f fd ["saying","thing"] zIj:=by
 refine F.ok sc_words_for (λvs H Q E h=>?_) (λcdv A outer s H vs Q E hr h=>?_)
 .obtain ⟨x,v,rfl,_⟩:=h;rfl
 .obtain ⟨x,v,rfl,hx,o,k⟩:=h
  refine⟨_,(zAc (zA1 (zA7 (zAg zA6 (by rfl) T.z_isinstance zAf (zAa (pv 1) (zAa (zBi (by rfl) T.z_str zIh (v:=.ty "str") rfl) zAb)))) (zAd (zAm (pe_fmtR (pv 0) (pv 1)))) zAl) (zAd (zAm (pv 0)))),?_⟩
  refine hid2 ?_;intro _ _;rcases o.ty (K:=K)with⟨y,rfl,h1,h2⟩|⟨t,h1,h2,_⟩
  .refine ⟨_,rfl,_,_,_,_,rfl,TyOf.str y,zB8,_,rfl,iteT ?_⟩;exact⟨_,rfl,x,rfl,hx,_,rfl,y,rfl,h1,h2,k⟩
  .refine ⟨_,rfl,_,_,_,_,rfl,h1,h2,_,rfl,iteF ?_⟩;exact⟨_,rfl,k x⟩
def zCo(C:Addr):Sp:=λvs H Q _=>∃(e:Addr)(v:V),vs=[.ref e,v]/\H e=some (excN e C none)/\Odd H v/\∀dx,H dx=none->Q .non (upd (upd H dx (.xd [("name",v)])) e (excN e C (some dx)))
abbrev zCh:Stmt:=zDl (top 3) 0
theorem zE5:FnScope ["self","name"] ["self","name"] (zAe zCh):=fnS
theorem zHt(F:Fun K "__init__" "NoName.__init__" zCh f fd)(R:XF K mg CB CS "NoName")(C_words_for:Cal P w K mg base "words_for" 1 ["saying","thing"] zIj):FnOk P w K mg base CX0 2 f fd ["self","name"] (zCo CS):=by
 refine F.ok zE5 (λvs H Q E h=>?_) (λcdv A outer s H vs Q E hr h=>?_)
 .obtain ⟨e,v,rfl,_⟩:=h;rfl
 .obtain ⟨e,v,rfl,he,o,k⟩:=h
  refine⟨_,(zAc (zA4 (zIy R.bi rfl R.mgB (zAa (pv 0) (zAa (zAj C_words_for hr rfl (zAa zAk (zAa (pv 1) zAb))) zAb)))) (zAd (zIu (pv 0) (pv 1) rfl))),?_⟩
  refine hid2 ?_;intro _ _;refine⟨_,rfl,_,rfl,_,v,rfl,by decide,o,λz=>?_⟩;refine⟨e,CS,none,.str z,rfl,he,R.xc.exc,?_⟩;exact⟨_,rfl,_,rfl,e,CS,rfl,he,R.xc,R.nr,λdx hdx=>k dx hdx⟩
abbrev zCp:Stmt:=zDl (top 4) 0
theorem zFs:FnScope ["self","name"] ["self","name"] (zAe zCp):=fnS
theorem zI8(F:Fun K "__init__" "Twice.__init__" zCp f fd)(R:XF K mg CB CS "Twice")(C_words_for:Cal P w K mg base "words_for" 1 ["saying","thing"] zIj):FnOk P w K mg base CX0 2 f fd ["self","name"] (zCo CS):=by
 refine F.ok zFs (λvs H Q E h=>?_) (λcdv A outer s H vs Q E hr h=>?_)
 .obtain ⟨e,v,rfl,_⟩:=h;rfl
 .obtain ⟨e,v,rfl,he,o,k⟩:=h
  refine⟨_,(zAc (zA4 (zIy R.bi rfl R.mgB (zAa (pv 0) (zAa (zAj C_words_for hr rfl (zAa zAk (zAa (pv 1) zAb))) zAb)))) (zAd (zIu (pv 0) (pv 1) rfl))),?_⟩
  refine hid2 ?_;intro _ _;refine⟨_,rfl,_,rfl,_,v,rfl,by decide,o,λz=>?_⟩;refine⟨e,CS,none,.str z,rfl,he,R.xc.exc,?_⟩;exact⟨_,rfl,_,rfl,e,CS,rfl,he,R.xc,R.nr,λdx hdx=>k dx hdx⟩
abbrev zBu:Stmt:=zDl (top 5) 0
theorem zEq:FnScope ["self","name"] ["self","name"] (zAe zBu):=fnS
theorem zF4(F:Fun K "__init__" "Stranger.__init__" zBu f fd)(R:XF K mg CB CS "Stranger")(C_words_for:Cal P w K mg base "words_for" 1 ["saying","thing"] zIj):FnOk P w K mg base CX0 2 f fd ["self","name"] (zCo CS):=by
 refine F.ok zEq (λvs H Q E h=>?_) (λcdv A outer s H vs Q E hr h=>?_)
 .obtain ⟨e,v,rfl,_⟩:=h;rfl
 .obtain ⟨e,v,rfl,he,o,k⟩:=h
  refine⟨_,(zAc (zA4 (zIy R.bi rfl R.mgB (zAa (pv 0) (zAa (zAj C_words_for hr rfl (zAa zAk (zAa (pv 1) zAb))) zAb)))) (zAd (zIu (pv 0) (pv 1) rfl))),?_⟩
  refine hid2 ?_;intro _ _;refine⟨_,rfl,_,rfl,_,v,rfl,by decide,o,λz=>?_⟩;refine⟨e,CS,none,.str z,rfl,he,R.xc.exc,?_⟩;exact⟨_,rfl,_,rfl,e,CS,rfl,he,R.xc,R.nr,λdx hdx=>k dx hdx⟩
abbrev zBn:Stmt:=top 23
theorem zCw:FnScope ["thing","depth","pairs"] ["thing","depth"] (zAe zBn):=fnS
def zFp:Sp:=λvs H Q _=>∃(v:V)(d:Int),vs=[v,.int d]/\0<d/\FlatT v/\Q v H
theorem ok_copyF{its:Array Value}(F:FunD K "own_copy" "own_copy" zBn f fd D its)(T:Txt K mg):FnOk P w K mg base CX0 1 f fd ["thing","depth"] zFp:=by
 refine F.ok zCw (λvs H Q E h=>?_) (λcdv A outer s H vs Q E hr h=>?_)
 .obtain ⟨v,d,rfl,_⟩:=h;rfl
 .obtain ⟨v,d,rfl,hd,fl,k⟩:=h
  refine⟨_,(zAc (zA1 (zAo zDr (pv 1) zAh (zAq _)) zAx zAl) (zAc (zA1 (zA7 (zAg zA6 (by rfl) T.z_isinstance zAf (zAa (pv 0) (zAa (zBi (by rfl) T.z_list zCi (v:=.ty "list") rfl) zAb)))) zAx zAl)
   (zAc (zA1 (zA7 (zAg zA6 (by rfl) T.z_isinstance zAf (zAa (pv 0) (zAa (zBi (by rfl) T.z_tuple zGl (v:=.ty "tuple") rfl) zAb)))) zAx zAl)
   (zAc (zA1 (zA7 (zAg zA6 (by rfl) T.z_isinstance zAf (zAa (pv 0) (zAa (zBi (by rfl) T.z_dict bo_dict (v:=.ty "dict") rfl) zAb)))) zAx zAl)
   (zAd (zAm (pv 0))))))),?_⟩
  refine hid5 ?_;intro _ _ _ _ _;obtain⟨t,ty,k1,k2,k3⟩:=fl.ty (K:=K) (H:=H);refine⟨_,rfl,rfl,_,rfl,?_⟩;rw[qAO (λz=>by cases z;lia)];refine iteF ?_;refine⟨_,rfl,_,_,_,_,rfl,ty,k1,_,rfl,iteF ?_⟩;refine⟨_,rfl,_,_,_,_,rfl,ty,k2,_,rfl,iteF ?_⟩;refine⟨_,rfl,_,_,_,_,rfl,ty,k3,_,rfl,iteF ?_⟩;exact⟨_,rfl,k⟩
def spCopyL:Sp:=λvs H Q _=>∃(a:Addr)(z:Str),vs=[.ref a,.int 12]/\H a=some (.lst [.str z])/\z.length<=100/\(∀c∈z.cps.toList,c<16^8)/\∀b H',Kp [] H H'->H' b=some (.lst [.str z])->Q (.ref b) H'
theorem ok_copyL{its:Array Value}(F:FunD K "own_copy" "own_copy" zBn f fd D its)(T:Txt K mg)(C_own_copy:CalD P w K mg base "own_copy" 1 ["thing","depth"] [] zFp):FnOk P w K mg base CX0 2 f fd ["thing","depth"] spCopyL:=by
 refine F.ok zCw (λvs H Q E h=>?_) (λcdv A outer s H vs Q E hr h=>?_)
 .obtain ⟨a,z,rfl,_⟩:=h;rfl
 .obtain ⟨a,z,rfl,ha,hz,hc,k⟩:=h
  refine⟨_,(zAc (zA1 (zAo zDr (pv 1) zAh (zAq _)) zAx zAl) (zAc (zA1 (zA7 (zAg zA6 (by rfl) T.z_isinstance zAf (zAa (pv 0) (zAa (zBi (by rfl) T.z_list zCi (v:=.ty "list") rfl) zAb))))
    (zAd (zAm (zBs rfl (zBt (sc:=zAe zBn) rfl (by decide +kernel)) (Draws.own (x:="part") (dtk (i:=1) rfl Draws.nil)) (zA5 (pv 0)) (λ_ _ _ _=>(pgB (i:=0))) (λ_ _ _ _=>zB6) (λ_ _ _ _=>(zFc C_own_copy hr rfl (zAa (pv 0) (zAa (zAv zEs (pv 1) zAh) zAb)))))))
    zAl)
   zAx)),?_⟩
  refine⟨_,rfl,rfl,_,rfl,?_⟩;rw[qAO (λz=>by cases z)];refine iteF ?_;refine⟨_,rfl,_,_,_,_,rfl,TyOf.lst ha,zB8,_,rfl,iteT ?_⟩;refine⟨_,rfl,_,rfl,⟨_,SqL.of ha⟩,λD hD=>zBz [.str z] (λi ys τ H'=>(∃o0,τ=[o0,some (.int 12)])/\ys=([V.str z]).take i/\H'=upd H D (.lst ys)) ⟨⟨_,rfl⟩,rfl,rfl⟩ (λi ys τ H' ⟨_,_,e⟩=>by subst e;exact SqL.of ((upd_ne (ne_fre (show Fre H D from hD) ha)).trans ha)) ?_ ?_⟩
  .rintro i v ys τ H' hv ⟨⟨o0,rfl⟩,rfl,rfl⟩
   obtain⟨rfl,rfl⟩:i=0/\v= .str z:=by
    cases i with
    |zero=>exact⟨rfl,by simpa using hv.symm⟩
    |succ i=>simp at hv
   refine⟨_,rfl,_,rfl,_,_,rfl,rfl,_,_,rfl,by decide,.inl ⟨z,rfl,hz,hc⟩,upd_same,by rw[qAS];show(0:Nat)<_;decide,⟨_,rfl⟩,rfl,zCg⟩
  .rintro ys τ H' ⟨_,rfl,rfl⟩;exact k _ _ (Kp.new Kp.refl hD) upd_same
def spCopyT:Sp:=λvs H Q _=>∃(a:Addr)(z:Str),vs=[.ref a,.int 12]/\H a=some (.tup [.str z])/\z.length<=100/\(∀c∈z.cps.toList,c<16^8)/\∀b H',Kp [] H H'->H' b=some (.tup [.str z])->Q (.ref b) H'
theorem ok_copyT{its:Array Value}(F:FunD K "own_copy" "own_copy" zBn f fd D its)(T:Txt K mg)(C_own_copy:CalD P w K mg base "own_copy" 1 ["thing","depth"] [] zFp):FnOk P w K mg base CX0 2 f fd ["thing","depth"] spCopyT:=by
 refine F.ok zCw (λvs H Q E h=>?_) (λcdv A outer s H vs Q E hr h=>?_)
 .obtain ⟨a,z,rfl,_⟩:=h;rfl
 .obtain ⟨a,z,rfl,ha,hz,hc,k⟩:=h
  refine⟨_,(zAc (zA1 (zAo zDr (pv 1) zAh (zAq _)) zAx zAl) (zAc (zA1 (zA7 (zAg zA6 (by rfl) T.z_isinstance zAf (zAa (pv 0) (zAa (zBi (by rfl) T.z_list zCi (v:=.ty "list") rfl) zAb)))) zAx zAl)
   (zAc (zA1 (zA7 (zAg zA6 (by rfl) T.z_isinstance zAf (zAa (pv 0) (zAa (zBi (by rfl) T.z_tuple zGl (v:=.ty "tuple") rfl) zAb))))
    (zAd (zAm (zA0 zJp (by rfl) T.z_tuple zGl (zAa (zBs rfl (zBt (sc:=zAe zBn) rfl (by decide +kernel)) (Draws.own (x:="part") (dtk (i:=1) rfl Draws.nil)) (pi_tup (pv 0)) (λ_ _ _ _=>(pgB (i:=0))) (λ_ _ _ _=>zB6) (λ_ _ _ _=>(zFc C_own_copy hr rfl (zAa (pv 0) (zAa (zAv zEs (pv 1) zAh) zAb))))) zAb))))
    zAl)
   zAx))),?_⟩
  refine⟨_,rfl,rfl,_,rfl,?_⟩;rw[qAO (λz=>by cases z)];refine iteF ?_;refine⟨_,rfl,_,_,_,_,rfl,TyOf.tup ha,rfl,_,rfl,iteF ?_⟩;refine⟨_,rfl,_,_,_,_,rfl,TyOf.tup ha,zB8,_,rfl,iteT ?_⟩;refine⟨_,rfl,_,rfl,⟨_,.inl (.inl ha)⟩,λD hD=>comp_tup0 [.str z] (λi ys τ H'=>(∃o0,τ=[o0,some (.int 12)])/\ys=([V.str z]).take i/\H'=upd H D (.lst ys)) ⟨⟨_,rfl⟩,rfl,rfl⟩ (λi ys τ H' ⟨_,_,e⟩=>by subst e;exact .inl (.inl ((upd_ne (ne_fre (show Fre H D from hD) ha)).trans ha))) ?_ ?_⟩
  .rintro i v ys τ H' hv ⟨⟨o0,rfl⟩,rfl,rfl⟩
   obtain⟨rfl,rfl⟩:i=0/\v= .str z:=by
    cases i with
    |zero=>exact⟨rfl,by simpa using hv.symm⟩
    |succ i=>simp at hv
   refine⟨_,rfl,_,rfl,_,_,rfl,rfl,_,_,rfl,by decide,.inl ⟨z,rfl,hz,hc⟩,upd_same,by rw[qAS];show(0:Nat)<_;decide,⟨_,rfl⟩,rfl,zCg⟩
  .rintro ys τ H' ⟨_,rfl,rfl⟩;refine⟨D,[.str z],rfl,.inl ⟨SqL.of upd_same,λl hl=>?_⟩⟩;have k0:Kp [] H (upd H D (.lst [.str z])):=Kp.new Kp.refl hD;exact k _ _ (Kp.new k0 (k0.fre (show Fre (upd H D (.lst [.str z])) l from hl) (by simp))) upd_same
def spCopyD:Sp:=λvs H Q _=>∃a:Addr,vs=[.ref a,.int 12]/\H a=some (.dK [(Sum.inr "a",.int 1)])/\∀b H',Kp [] H H'->H' b=some (.dK [(Sum.inr "a",.int 1)])->Q (.ref b) H'
theorem ok_copyD{its:Array Value}(F:FunD K "own_copy" "own_copy" zBn f fd D its)(T:Txt K mg)(C_own_copy:CalD P w K mg base "own_copy" 1 ["thing","depth"] [] zFp):FnOk P w K mg base CX0 2 f fd ["thing","depth"] spCopyD:=by
 refine F.ok zCw (λvs H Q E h=>?_) (λcdv A outer s H vs Q E hr h=>?_)
 .obtain ⟨a,rfl,_⟩:=h;rfl
 .obtain ⟨a,rfl,ha,k⟩:=h
  refine⟨_,(zAc (zA1 (zAo zDr (pv 1) zAh (zAq _)) zAx zAl) (zAc (zA1 (zA7 (zAg zA6 (by rfl) T.z_isinstance zAf (zAa (pv 0) (zAa (zBi (by rfl) T.z_list zCi (v:=.ty "list") rfl) zAb)))) zAx zAl)
   (zAc (zA1 (zA7 (zAg zA6 (by rfl) T.z_isinstance zAf (zAa (pv 0) (zAa (zBi (by rfl) T.z_tuple zGl (v:=.ty "tuple") rfl) zAb)))) zAx zAl)
   (zAc (zA1 (zA7 (zAg zA6 (by rfl) T.z_isinstance zAf (zAa (pv 0) (zAa (zBi (by rfl) T.z_dict bo_dict (v:=.ty "dict") rfl) zAb))))
    (zAc (ps_frzN (zG4 (i:=2) rfl (zBt (sc:=zAe zBn) rfl (by decide +kernel)) (Draws.own (x:= "key") (Draws.own (x:= "value") (dtk (i:=1) rfl Draws.nil))) (pi_items (pv 0)) (fun _ _ _ _=>(zG5 (K:=K) (n:=2) rfl (zBa (pgB (i:=0)) (zBa (pgB (i:=1)) zEd)))) (fun _ _ _ _=>zB6) (fun _ _ _ _=>(zBg (zAa (pv 0) (zAa (zFc C_own_copy hr rfl (zAa (pv 1) (zAa (zAv zEs (pv 2) zAh) zAb))) zAb)))) zCw.nd rfl rfl))
    (zAd (zAm (zA0 (call_dictL rfl) (by rfl) T.z_dict bo_dict (zAa (pv 2) zAb)))))
    zAl)
   zAx)))),?_⟩
  refine⟨_,rfl,rfl,_,rfl,?_⟩;rw[qAO (λz=>by cases z)];refine iteF ?_;refine⟨_,rfl,_,_,_,_,rfl,TyOf.dK ha,rfl,_,rfl,iteF ?_⟩;refine⟨_,rfl,_,_,_,_,rfl,TyOf.dK ha,rfl,_,rfl,iteF ?_⟩;refine⟨_,rfl,_,_,_,_,rfl,TyOf.dK ha,zB8,_,rfl,iteT ?_⟩;refine⟨a,_,ha,λo=>?_⟩;have kf:Kp [a] H (upd H a (.frz o (.dK [(Sum.inr "a",.int 1)]))):=Kp.put Kp.refl (by simp);have ff:upd H a (.frz o (.dK [(Sum.inr "a",.int 1)])) a=some (.frz o (.dK [(Sum.inr "a",.int 1)])):=upd_same;generalize upd H a (.frz o (.dK [(Sum.inr "a",.int 1)]))=H1 at kf ff;refine⟨_,rfl,a,o,_,rfl,ff,λB hB=>comp_items1 ((upd_ne (zAi ff hB)).trans ff) (λN hN t ht=>?_)⟩;have k2:Kp [] H1 (upd H1 B (.lst [])):=Kp.new Kp.refl hB;have e2:upd H1 B (.lst []) B=some (.lst []):=upd_same;generalize upd H1 B (.lst [])=H2 at k2 e2 ht;have k3:Kp [] H2 (upd H2 t (.tup [.str "a",.int 1])):=Kp.new Kp.refl ht;refine⟨t,_,rfl,.inl (.inl upd_same),rfl,_,_,rfl,_,_,rfl,rfl,?_⟩;refine⟨_,rfl,_,rfl,_,rfl,_,_,rfl,rfl,_,_,rfl,by decide,.inr (.inr (.inr ⟨1,rfl⟩)),(by walk_at"ln"),λq hq=>?_⟩;have e3:=k3 _ _ e2 (by simp);generalize hH3:upd H2 t (.tup [kV (Sum.inr "a"),.int 1])=H3 at hq ⊢;have hH3:upd H2 t (.tup [.str "a",.int 1])=H3:=hH3;rw[hH3]at k3 e3;have k4:Kp [] H3 (upd H3 q (.tup [kV (Sum.inr "a"),.int 1])):=Kp.new Kp.refl hq;have e4:upd H3 q (.tup [kV (Sum.inr "a"),.int 1]) q=some (.tup [.str "a",.int 1]):=upd_same;generalize upd H3 q (.tup [kV (Sum.inr "a"),.int 1])=H4 at k4 e4 ⊢;have e34:=k4 _ _ e3 (by simp);have nBa:B≠a:=(zAi ff hB).symm;have k14:=k2.trans (k3.trans k4)
  have k5:Kp [a] H (upd H4 B (.lst ([]++[.ref q]))):=by
   refine Kp.new (kf.trans (k14.weak (by simp))) ?_;exact kf.fre hB (nm1 nBa)
  have e5:upd H4 B (.lst ([]++[.ref q])) B=some (.lst ([q].map V.ref)):=upd_same;have q5:upd H4 B (.lst ([]++[.ref q])) q=some (.tup [.str "a",.int 1]):=(upd_ne (zBf e4 e34 λz=>nomatch z)).trans e4;have f5:upd H4 B (.lst ([]++[.ref q])) a=some (.frz o (.dK [(Sum.inr "a",.int 1)])):=(upd_ne nBa.symm).trans (k14 _ _ ff (by simp));refine⟨e34,by rw[qAS];show(0:Nat)<_;decide,hN _ _ _ f5 ⟨f5,?_⟩⟩;generalize upd H4 B (.lst ([]++[.ref q]))=H5 at k5 e5 q5 f5 ⊢;have k6:Kp [] H (upd H5 a (.dK [(Sum.inr "a",.int 1)])):=thaw_kp ha k5;have e6:upd H5 a (.dK [(Sum.inr "a",.int 1)]) B=_:=(upd_ne nBa).trans e5;have q6:upd H5 a (.dK [(Sum.inr "a",.int 1)]) q=_:=(upd_ne (zBf q5 f5 λz=>nomatch z)).trans q5;generalize upd H5 a (.dK [(Sum.inr "a",.int 1)])=H6 at k6 e6 q6 ⊢;refine⟨_,rfl,B,[q],[(Sum.inr "a",.int 1)],rfl,e6,rfl,by simp,λj t k v h1 h2=>?_,λp hp=>k p _ (Kp.new k6 (k6.fre hp (by simp))) upd_same⟩
  cases j with
  |zero=>
   cases h1
   cases h2
   exact q6
  |succ j=>simp at h1
def spCopy:Sp:=λvs H Q _=>∃v:V,vs=[v,.int 12]/\Odd H v/\∀u H',Kp [] H H'->zFo H' v u->Odd H' u->Q u H'
theorem ok_copy(h1:FnOk P w K mg base CX0 1 f fd ["thing","depth"] zFp)(h2:FnOk P w K mg base CX0 2 f fd ["thing","depth"] spCopyL)(h3:FnOk P w K mg base CX0 2 f fd ["thing","depth"] spCopyT)(h4:FnOk P w K mg base CX0 2 f fd ["thing","depth"] spCopyD):FnOk P w K mg base CX0 2 f fd ["thing","depth"] spCopy:=by
 refine⟨λvs H Q E h=>?_,λA outer s H args us vs Q E hr e0 hb r h=>?_⟩
 .obtain ⟨v,rfl,_⟩:=h;rfl
 .obtain ⟨v,rfl,o,k⟩:=h;rcases o with o|⟨a,z,rfl,hz,hc,ha|ha|ha⟩
  .exact h1.run A outer s H args us _ Q E (hr.mono (by decide)) e0 hb r ⟨v,12,rfl,by decide,o,k v H Kp.refl (.inl ⟨o,rfl⟩) (.inl o)⟩
  .exact h2.run A outer s H args us _ Q E hr e0 hb r ⟨a,z,rfl,ha,hz,hc,λb H' k1 hb=>k _ H' k1 (.inr ⟨a,b,z,rfl,rfl,.inl ⟨k1 _ _ ha (by simp),hb⟩⟩) (.inr ⟨b,z,rfl,hz,hc,.inl hb⟩)⟩
  .exact h3.run A outer s H args us _ Q E hr e0 hb r ⟨a,z,rfl,ha,hz,hc,λb H' k1 hb=>k _ H' k1 (.inr ⟨a,b,z,rfl,rfl,.inr (.inl ⟨k1 _ _ ha (by simp),hb⟩)⟩) (.inr ⟨b,z,rfl,hz,hc,.inr (.inl hb)⟩)⟩
  .exact h4.run A outer s H args us _ Q E hr e0 hb r ⟨a,rfl,ha,λb H' k1 hb=>k _ H' k1 (.inr ⟨a,b,z,rfl,rfl,.inr (.inr ⟨k1 _ _ ha (by simp),hb⟩)⟩) (.inr ⟨b,z,rfl,hz,hc,.inr (.inr hb)⟩)⟩
end
structure CC where
 J:Addr
 N:Addr
 T:Addr
 S:Addr
 R:Addr
 M:Addr
inductive Du
 |many
 |name (v:V)
 |twice
 |strange (v:V)
 |ring
 |fine
def nmV:V->Bool
 | .str x=>zDk x
 |_=>false
def strV:V->Str
 | .str x=>x
 |_=>Str.empty
def qsOf(ts:List (Addr×V×V)):List (List Str×Addr):=ts.map λt=>([strV t.2.1,strV t.2.2],t.1)
def zCt(ts:List (Addr×V×V)):List V:=ts.flatMap λt=>[t.2.1,t.2.2]
def nDue(vs:List V):Option Du:=if 20<vs.length then some .many else match vs.find? (λv=>!nmV v)with
 |some v=>some (.name v)
 |none=>if(vs.map strV).Nodup then none else some .twice
def pDue(ns:List Str)(ts:List (Addr×V×V)):Option Du:=((zCt ts).find? λv=>!zBl v ns).map .strange
def zCu(vs:List V)(ts:List (Addr×V×V)):Du:=((nDue vs).or (pDue (vs.map strV) ts)).getD (if zBw (qsOf ts) vs.length (vs.map strV)=[]then .fine else .ring)
def Nm(H:Hp)(dx:Option Addr)(v:V):Prop:=∃a u,dx=some a/\zFo H v u/\H a=some (.xd [("name",u)])
def XAt(c:CC)(ns:List Str)(qs:List (List Str×Addr))(H:Hp)(k:Value)(dx:Option Addr):Du->Prop
 | .many=>k= .ref c.M/\dx=none
 | .name v=>k= .ref c.N/\Nm H dx v
 | .twice=>k= .ref c.T/\∃i n,TwAt ns i n/\Nm H dx (.str n)
 | .strange v=>k= .ref c.S/\Nm H dx v
 | .ring=>k= .ref c.R/\∃a p rs,dx=some a/\H a=some (.xd [("ring",.ref p)])/\Txs H p rs/\RingOf (told qs) rs/\rs.length<=20
 | .fine=>False
structure Rw(H:Hp)(l:Addr)(vs:List V):Prop where
 top:H l=some (.lst vs)
 odd:∀v∈vs,Odd H v
structure Pw(H:Hp)(m:Addr)(ts:List (Addr×V×V)):Prop where
 top:H m=some (.lst (ts.map λt=>V.ref t.1))
 row:∀t∈ts,H t.1=some (.tup [t.2.1,t.2.2])
 odd:∀v∈zCt ts,Odd H v
theorem Rw.kp{l:Addr}(r:Rw H l vs)(k:Kp [] H H'):Rw H' l vs:=⟨k _ _ r.top (by simp),λv hv=>(r.odd v hv).kp0 k⟩
theorem Pw.kp{m:Addr}(r:Pw H m ts)(k:Kp [] H H'):Pw H' m ts:=⟨k _ _ r.top (by simp),λt ht=>k _ _ (r.row t ht) (by simp),λv hv=>(r.odd v hv).kp0 k⟩
theorem find_mid{p:α->Bool}{v:α}{xs ys:List α}(h:∀x∈xs,p x=false)(hv:p v=true):(xs++v::ys).find? p=some v:=by
 rw[List.find?_append,qCR.mpr (λx hx=>by rw[h x hx];decide),List.find?_cons_of_pos hv];rfl
theorem at_split{xs:List α}{v:α}(h:xs[i]?=some v):xs=xs.take i++v::xs.drop (i+1):=by
 obtain⟨l,e⟩:=qAg.mp h
 conv=>lhs;rw[<-qBd i xs,List.drop_eq_getElem_cons l,e]
theorem find_at{p:α->Bool}{v:α}{xs:List α}(h:∀x∈xs.take i,p x=false)(e:xs[i]?=some v)(hv:p v=true):xs.find? p=some v:=by
 rw[at_split e];exact find_mid h hv
theorem zFy{p:α->Bool}{xs:List α}(h:∀x∈xs,p x=false):xs.find? p=none:=qCR.mpr λx hx=>by rw[h x hx];decide
theorem zF9{p:α->Prop}{xs:List α}{v:α}(h:∀x∈xs.take i,p x)(e:xs[i]?=some v)(hv:p v):∀x∈xs.take (i+1),p x:=λx hx=>by
 rw[zAp e]at hx;rcases qAY.mp hx with z|z
 .exact h x z
 .rw [qAQ.mp z];exact hv
theorem strs_of{vs:List V}(h:∀v∈vs,nmV v=true):(vs.map strV).map V.str=vs/\∀n∈vs.map strV,zCd n:=by
 have one:∀v∈vs,V.str (strV v)=v/\zCd (strV v):=λv hv=>by
  have:=h v hv
  cases v<;>first|exact⟨rfl,(zDt _).mp this⟩|cases this
 refine⟨?_,λn hn=>?_⟩
 .rw [qBR];exact(qDJ λv hv=>(one v hv).1).trans (List.map_id _)
 .obtain ⟨v,hv,rfl⟩:=qAM.mp hn;exact(one v hv).2
theorem ref_of(hv:(ts.map λt=>V.ref t.1)[i]?=some v):∃t,ts[i]?=some t/\v= .ref t.1:=by
 rw[qAN]at hv;obtain⟨t,e,r⟩:=qBb.mp hv;exact⟨t,e,r.symm⟩
theorem parts_at{t:Addr×V×V}(et:ts[i]?=some t):zCt (ts.take (i+1))=zCt (ts.take i)++[t.2.1,t.2.2]/\∃r,zCt ts=zCt (ts.take i)++[t.2.1,t.2.2]++r:=by
 have ep:zCt (ts.take (i+1))=zCt (ts.take i)++[t.2.1,t.2.2]:=by unfold zCt;rw[zAp et,List.flatMap_append];simp
 exact⟨ep,_,by rw[<-ep];unfold zCt;rw[<-List.flatMap_append,qBd]⟩
theorem zH4{ps xs ys r:List V}{j:Nat}{p:V->Bool}(e:ps=xs++ys++r)(hv:ys[j]?=some v)(h1:∀x∈xs,p x=false)(h2:∀x∈ys.take j,p x=false)(h:p v=true):ps.find? p=some v:=by
 rw[e,at_split hv,<-qCI,qCI,List.cons_append];refine find_mid (λx hx=>?_) h;rcases qAY.mp hx with z|z
 .exact h1 x z
 .exact h2 x z
theorem raisedV{H1:Hp}{x dx C:Addr}{u:V}(hx:H1 x=none)(hdx:upd H1 x (excN x C none) dx=none):Kp [] H1 (del (upd (upd (upd H1 x (excN x C none)) dx (.xd [("name",u)])) x (excN x C (some dx))) x)/\(del (upd (upd (upd H1 x (excN x C none)) dx (.xd [("name",u)])) x (excN x C (some dx))) x) dx=some (.xd [("name",u)]):=by
 have nxd:x≠dx:=ne_fre hdx (show upd H1 x _ x=some _ from upd_same);have fd1:Fre H1 dx:=by have:=hdx;rw[upd_ne (qAV nxd)]at this;exact this
 refine⟨λb o hb nm=>?_,by rw[zCm (qAV nxd),upd_ne (qAV nxd),upd_same]⟩;have bx:b≠x:=zAi hb hx;rw[zCm bx,upd_ne bx,upd_ne (zAi hb fd1),upd_ne bx];exact hb
section
variable{P:Program}{w:World}{K:PySem.W.Frag}{mg:Str->Option Value}{base:Heap}{CB:Addr}{c:CC}
theorem _root_.L2.FnOk.both{CX:CXT}{k:Nat}{ps:List Str}{sp1 sp2 sp:Sp}(F1:FnOk P w K mg base CX k f fd ps sp1)(F2:FnOk P w K mg base CX k f fd ps sp2)(h:∀vs H Q E,sp vs H Q E->sp1 vs H Q E\/sp2 vs H Q E):FnOk P w K mg base CX k f fd ps sp :=
 ⟨λvs H Q E q=>(h vs H Q E q).elim (F1.len vs H Q E) (F2.len vs H Q E),λA outer s H args us vs Q E hr e0 hb r q=>(h vs H Q E q).elim (F1.run A outer s H args us vs Q E hr e0 hb r) (F2.run A outer s H args us vs Q E hr e0 hb r)⟩
def spNot(K:PySem.W.Frag):Sp:=λas H Q _=>∃v t,as=[v]/\TyOf K H v t/\PySem.W.kitOne K t (.type "str")=some false/\Q (.bl false) H
def zGx:Sp:=λas H Q _=>∃v,as=[v]/\Odd H v/\∀H',Kp [] H H'->Q (.bl (nmV v)) H'
theorem nameV_of{ps:List Str}(F1:FnOk P w K mg base CX0 1 f fd ps spIsName)(F2:FnOk P w K mg base CX0 1 f fd ps (spNot K)):FnOk P w K mg base CX0 1 f fd ps zGx :=
 F1.both F2 λvs H Q E ⟨v,e,o,k⟩=>by
  rcases o.ty (K:=K)with⟨y,rfl,h1,_⟩|⟨t,h1,h2,h3⟩
  .exact .inl ⟨y,e,by lia,k⟩
  .refine .inr ⟨v,t,e,h1,h2,?_⟩
   have:nmV v=false:=by
    cases v with
    |str x=>exact absurd rfl (h3 x)
    |_=>rfl
   rw[<-this];exact k H Kp.refl
theorem ok_isNot(F:Fun K "is_name" "is_name" zDq f fd)(T:Txt K mg):FnOk P w K mg base CX0 1 f fd ["thing"] (spNot K):=by
 refine F.ok zH1 (λvs H Q E h=>?_) (λcdv A outer s H vs Q E hr h=>?_)
 .obtain ⟨v,t,rfl,_⟩:=h;rfl
 .obtain ⟨v,t,rfl,h1,h2,k⟩:=h;obtain⟨tL,hL⟩:=T.c_LONGEST_NAME
  exact⟨_,(zAc (zA1 (PW.pt (pw_or (zCl (zA7 (zAg zA6 (by rfl) T.z_isinstance zAf (zAa (pv 0) (zAa (zBi (by rfl) T.z_str zIh (v:=.ty "str") rfl) zAb))))) (zH3 (zCl (pt_chain op_le op_le zAh (zAg zDd (by rfl) T.z_len zBr (zAa (pv 0) zAb)) (zBd rfl hL (v:=.int 8) ⟨_,rfl⟩)))))) (zAd (zAm zD1)) zAl) zAx),⟨_,rfl,_,_,_,_,rfl,h1,h2,_,rfl,iteT k⟩⟩
def spOneV:Sp:=λvs H Q _=>∃(v:V)(l:Addr)(ns:List Str),vs=[v,.ref l]/\Txs H l ns/\Odd H v/\Q (.bl (zBl v ns)) H
theorem ok_oneV(F:Fun K "is_one_of" "is_one_of" zEx f fd)(T:Txt K mg):FnOk P w K mg base CX0 1 f fd ["thing","names"] spOneV:=by
 refine F.ok sc_is_one_of (λvs H Q E h=>?_) (λcdv A outer s H vs Q E hr h=>?_)
 .obtain ⟨x,l,ns,rfl,_⟩:=h;rfl
 .obtain ⟨v,l,ns,rfl,hl,o,k⟩:=h;refine⟨_,(zAd (zAm (pe_and (zAg zA6 (by rfl) T.z_isinstance zAf (zAa (pv 0) (zAa (zBi (by rfl) T.z_str zIh (v:=.ty "str") rfl) zAb))) (pe_one (zBh zFg (pv 0) (pv 1) (by rfl)))))),?_⟩;rcases o.ty (K:=K)with⟨y,rfl,_⟩|⟨t,h1,h2,h3⟩
  .refine ⟨_,rfl,_,_,_,_,rfl,TyOf.str y,zB8,_,rfl,iteT ?_⟩;refine⟨_,rfl,_,rfl,_,_,rfl,.inl (SqL.of hl),rfl,zCb ns,?_⟩;rw[zD4];exact k
  .refine ⟨_,rfl,_,_,_,_,rfl,h1,h2,_,rfl,iteF ?_⟩
   have:zBl v ns=false:=by
    cases v with
    |str x=>exact absurd rfl (h3 x)
    |_=>rfl
   rw[<-this];exact k
def spJobV(c:CC):Sp:=λvs H Q E=>∃(v:V)(l:Addr)(ns:List Str),vs=[.ref l,v]/\Txs H l ns/\Odd H v/\(zBl v ns=true->Q .non H)/\(zBl v ns=false->∀dx H',Kp [] H H'->Nm H' dx v->E (.ref c.S) dx H')
theorem ok_jobV(F:Fun K "check_job" "check_job" zEy f fd)(R:XF K mg CB c.S "Stranger")(C_is_one_of:Cal P w K mg base "is_one_of" 1 ["thing","names"] spOneV)(C_own_copy:CalD P w K mg base "own_copy" 2 ["thing","depth"] [.int 12] spCopy)(M_Stranger:MkrX P w K mg base c.S 2 ["self","name"] (zCo c.S)):FnOk P w K mg base (CX1 P w) 4 f fd ["names","thing"] (spJobV c):=by
 refine Fun.okX F sc_check_job (λvs H Q E h=>?_) (λcdv A outer s H vs Q E hr h=>?_)
 .obtain ⟨x,l,ns,rfl,_⟩:=h;rfl
 .obtain ⟨v,l,ns,rfl,hl,o,k1,k2⟩:=h;have hr1:=hr.mono (j:=1) (by decide);have hr2:=hr.mono (j:=2) (by decide)
  refine⟨_,(zAd (zA1 (zCl (zA7 (zAj C_is_one_of hr1 rfl (zAa (pv 1) (zAa (pv 0) zAb))))) (zAd (zE8 raiseD rfl rfl R.mgX M_Stranger hr (zAa (zFc C_own_copy hr2 rfl (zAa (pv 1) zAb)) zAb))) zAl)),?_⟩
  refine⟨_,rfl,_,rfl,v,l,ns,rfl,hl,o,?_⟩
  cases e:zBl v ns with
  |true=>exact⟨_,rfl,iteF (k1 e)⟩
  |false=>
   refine⟨_,rfl,iteT ⟨_,rfl,v,rfl,o,λu H1 kk cp o1=>⟨by walk_at"ln",λx hx=>⟨x,u,rfl,upd_same,o1.kp0 (Kp.new Kp.refl hx),λdx hdx=>⟨rfl,some dx,upd_same,?_⟩⟩⟩⟩⟩;have:=raisedV (u:=u) (C:=c.S) hx hdx;exact k2 e _ _ (kk.trans this.1) ⟨dx,u,rfl,cp.kp0 this.1,this.2⟩
def spPartsV(c:CC):Sp:=λvs H Q E=>∃(l m:Addr)(ns:List Str) (ts:List (Addr×V×V)),vs=[.ref l,.ref m]/\Txs H l ns/\Pw H m ts/\((zCt ts).find? (λv=>!zBl v ns)=none->Q .non H)/\∀v,(zCt ts).find? (λv=>!zBl v ns)=some v->∀dx H',Kp [] H H'->Nm H' dx v->E (.ref c.S) dx H'
theorem ok_partsV(F:Fun K "check_parts" "check_parts" zDy f fd)(C_check_job:CalX P w K mg base "check_job" 4 ["names","thing"] (spJobV c)):FnOk P w K mg base (CX1 P w) 5 f fd ["names","orders"] (spPartsV c):=by
 refine Fun.okX F zDh (λvs H Q E h=>?_) (λcdv A outer s H vs Q E hr h=>?_)
 .obtain ⟨l,m,ns,ts,rfl,_⟩:=h;rfl
 .obtain ⟨l,m,ns,ts,rfl,hl,hm,k1,k2⟩:=h
  refine⟨_,(zAd (zBk qCa rfl (zA5 (pv 1)) (pgN (i:=2) zDh.nd) (zAd (zBk qCa rfl (pi_tup (pv 2)) (pgN (i:=3) zDh.nd)
     (zAd (zA4 (zC8 (E:=λ_=>E) C_check_job hr rfl (zIz λ_ _ _ _ h=>h) (zAa (pv 0) (zAa (pv 3) zAb))))))))),?_⟩
  refine⟨_,rfl,_,rfl,⟨_,SqL.of hm.top⟩,zCa (λi σ H2=>(∃o2 o3:Option V,σ=[some (.ref l),some (.ref m),o2,o3])/\H2=H/\∀x∈zCt (ts.take i),(!zBl x ns)=false) ⟨⟨_,_,rfl⟩,rfl,by simp[zCt]⟩ (λi σ H2 _ ⟨_,e,_⟩=>by subst e;exact SqL.of hm.top) ?_ ?_⟩
  .rintro i v σ H2 hv ⟨⟨o2,o3,rfl⟩,rfl,a2⟩;obtain⟨t,et,rfl⟩:=ref_of hv;have mt:=qAT et;obtain⟨ep,r,er⟩:=parts_at et;refine⟨_,rfl,_,rfl,⟨_,.inl (.inl (hm.row t mt))⟩,for_tup (λj σ H3=>(∃o3:Option V,σ=[some (.ref l),some (.ref m),some (.ref t.1),o3])/\H3=H2/\∀x∈[t.2.1,t.2.2].take j,(!zBl x ns)=false) ⟨⟨_,rfl⟩,rfl,by simp⟩ (λj σ H3 _ ⟨_,e,_⟩=>by subst e;exact .inl (.inl (hm.row t mt))) ?_ ?_⟩
   .rintro j v σ H3 hv ⟨⟨o3,rfl⟩,rfl,a3⟩;have ov:Odd H3 v:=hm.odd v (qCb.mpr ⟨t,mt,qAT hv⟩);refine⟨_,rfl,_,rfl,v,l,ns,rfl,hl,ov,λq=>⟨⟨_,rfl⟩,rfl,zF9 a3 hv (by rw[q];rfl)⟩,λq=>k2 v (zH4 er hv a2 a3 (by rw[q];rfl))⟩
   .rintro σ H3 ⟨⟨o3,rfl⟩,rfl,a3⟩;refine⟨⟨_,_,rfl⟩,rfl,λx hx=>?_⟩;rw[ep]at hx;rcases qAY.mp hx with z|z
    .exact a2 x z
    .exact a3 x z
  .rintro σ H2 ⟨⟨o2,o3,rfl⟩,rfl,a2⟩;rw[qAE,qAq]at a2;exact k1 (zFy a2)
end
theorem zCd.flat{v:Str}(h:zCd v):FlatT (.str v):=.inl ⟨v,rfl,by have:=h.2.1;lia,λc hc=>by have:=(h.2.2 c hc).2;lia⟩
theorem isOne_at{ns:List Str}(h:zBl v ns=true):v= .str (strV v)/\strV v∈ns:=by
 cases v<;>first|exact⟨rfl,qA1 h⟩|cases h
theorem nDue_none(h:nDue vs=none):vs.length<=20/\(∀v∈vs,nmV v=true)/\(vs.map strV).Nodup:=by
 unfold nDue at h
 by_cases l:20<vs.length
 .rw [qAC l]at h;cases h
 rw[qAB l]at h
 cases e:vs.find? (λv=>!nmV v)with
 |some v=>rw[e]at h;cases h
 |none=>
  rw[e]at h;refine⟨by lia,λv hv=>by simpa using qCR.mp e v hv,?_⟩
  by_cases d:(vs.map strV).Nodup
  .exact d
  .exact absurd h (by simp[d])
theorem ords_of{m:Addr}{ns:List Str}(p:Pw H m ts)(h:(zCt ts).find? (λv=>!zBl v ns)=none):Ords H m (qsOf ts)/\∀q∈qsOf ts,∀x∈q.1,x∈ns:=by
 have one:∀t∈ts,∀v∈[t.2.1,t.2.2],v= .str (strV v)/\strV v∈ns:=λt ht v hv=>isOne_at (by simpa using qCR.mp h v (qCb.mpr ⟨t,ht,hv⟩));refine⟨⟨by unfold qsOf;rw[qBR];exact p.top,λq hq=>?_,λq hq=>?_⟩,λq hq x hx=>?_⟩<;>obtain⟨t,ht,rfl⟩:=qAM.mp hq
 .show H t.1=some (.tup [.str (strV t.2.1),.str (strV t.2.2)]);rw[<-(one t ht _ (by simp)).1,<-(one t ht _ (by simp)).1];exact p.row t ht
 .exact ⟨_,_,rfl⟩
 .have hx:x∈[strV t.2.1,strV t.2.2]:=hx;simp only[qAL,qA9,qBL]at hx;rcases hx with rfl|rfl
  .exact (one t ht _ (by simp)).2
  .exact (one t ht _ (by simp)).2
theorem due_n{d:Du}(h:nDue vs=some d):zCu vs ts=d:=by unfold zCu;rw[h];rfl
theorem due_p(h:nDue vs=none)(e:(zCt ts).find? (λv=>!zBl v (vs.map strV))=some v):zCu vs ts= .strange v:=by unfold zCu pDue;rw[h,e];rfl
theorem due_r(h:nDue vs=none)(e:(zCt ts).find? (λv=>!zBl v (vs.map strV))=none):zCu vs ts=if zBw (qsOf ts) vs.length (vs.map strV)=[]then .fine else .ring:=by unfold zCu pDue;rw[h,e];rfl
theorem no_strips{qs:List (List Str×Addr)}{L:List Str}{r:Str->Nat}(h:∀q∈qs,r (fst q)<r (snd q)):zBw qs L.length L=[]:=qCr.mp (by have:=zH0 (L:=L) h L.length;lia)
theorem is_strips{qs:List (List Str×Addr)}{L rs:List Str}(R:RingOf (told qs) rs)(h:∀x∈rs,x∈L):zBw qs L.length L≠[]:=λz=>by
 obtain⟨y,hy⟩:=List.exists_mem_of_ne_nil rs R.ne;have:=zFt R h L.length y hy;rw[z]at this;cases this
section
variable{P:Program}{w:World}{K:PySem.W.Frag}{mg:Str->Option Value}{base:Heap}{CB:Addr}{c:CC}
def spNamesV(c:CC):Sp:=λas H Q E=>∃(l:Addr)(vs:List V) (qs:List (List Str×Addr)),as=[.ref l]/\Rw H l vs/\(nDue vs=none->∀H',Kp [] H H'->Q .non H')/\∀d,nDue vs=some d->∀k dx H',XAt c (vs.map strV) qs H' k dx d->Kp [] H H'->E k dx H'
theorem ok_namesV(F:Fun K "check_names" "check_names" zDz f fd)(T:Txt K mg)(RM:X0 K mg CB c.M "TooMany")(RN:XF K mg CB c.N "NoName")(RT:XF K mg CB c.T "Twice")(C_is_name:Cal P w K mg base "is_name" 1 ["thing"] zGx)(C_own_copy:CalD P w K mg base "own_copy" 2 ["thing","depth"] [.int 12] spCopy)(M_NoName:MkrX P w K mg base c.N 2 ["self","name"] (zCo c.N))(M_Twice:MkrX P w K mg base c.T 2 ["self","name"] (zCo c.T)):FnOk P w K mg base (CX1 P w) 4 f fd ["names"] (spNamesV c):=by
 refine Fun.okX F zCj (λvs H Q E h=>?_) (λcdv A outer s H vs Q E hr h=>?_)
 .obtain ⟨l,vs,qs,rfl,_⟩:=h;rfl
 .obtain ⟨l,vs,qs,rfl,rw0,k1,k2⟩:=h;have hr1:=hr.mono (j:=1) (by decide);have hr2:=hr.mono (j:=2) (by decide);have hu:=hu_of hr;obtain⟨tM,hM⟩:=T.c_MOST_JOBS
  refine⟨_,(zAc (zA1 (zAo op_gt (zAg zAn (by rfl) T.z_len zBr (zAa (pv 0) zAb)) (zBd rfl hM (v:=.int 20) ⟨_,rfl⟩) (zAq _)) (zAd (ps_raise raise1 rfl rfl RM.mgX RM.ok (zAa zAk zAb))) zAl) (zAc (zBk qCa rfl (zA5 (pv 0)) (pgN (i:=1) zCj.nd)
    (zAd (zA1 (zCl (zA7 (zAj C_is_name hr1 rfl (zAa (pv 1) zAb))))
     (zAd (zE8 raiseD rfl rfl RN.mgX M_NoName hr (zAa (zFc C_own_copy hr2 rfl (zAa (pv 1) zAb)) zAb)))
     zAl)))
   (zAc (psS (i:=2) zCj.nd zGe)
   (zAd (zBk qCa rfl (zA5 (pv 0)) (pgN (i:=3) zCj.nd)
    (zAc (zA1 (pt_cmp (pc_din hu (pv 3) (pv 2)))
     (zAd (zE8 raiseD rfl rfl RT.mgX M_Twice hr (zAa (pv 3) zAb)))
     zAl)
    (zAd (zIv hu (pv 2) (pv 3) zD1 rfl)))))))),?_⟩
  refine hid4 ?_;intro _ _ _ _;refine⟨_,rfl,_,_,rfl,.inl (SqL.of rw0.top),_,_,rfl,rfl,_,rfl,?_⟩
  by_cases few:20<vs.length
  .rw [qAP (by lia)];exact iteT ⟨by walk_at"ln",k2 .many (by unfold nDue;rw[qAC few]) _ _ _ ⟨rfl,rfl⟩ Kp.refl⟩
  rw[qAO (by lia)];refine iteF ?_;refine⟨_,rfl,_,rfl,⟨_,SqL.of rw0.top⟩,zCa (λi σ H2=>(∃o1 o2 o3:Option V,σ=[some (.ref l),o1,o2,o3])/\Kp [] H H2/\∀x∈vs.take i,(!nmV x)=false) ⟨⟨_,_,_,rfl⟩,Kp.refl,by simp⟩ (λi σ H2 _ ⟨_,k3,_⟩=>SqL.of (k3 l _ rw0.top (by simp))) ?_ ?_⟩
  .rintro i v σ H2 hv ⟨⟨o1,o2,o3,rfl⟩,k3,a3⟩;have ov:=(rw0.odd v (qAT hv)).kp0 k3;refine⟨_,rfl,v,rfl,ov,λH3 k4=>?_⟩
   cases e:nmV v with
   |true=>exact⟨_,rfl,iteF ⟨⟨_,_,_,rfl⟩,k3.trans k4,zF9 a3 hv (by rw[e];rfl)⟩⟩
   |false=>
    refine⟨_,rfl,iteT ⟨_,rfl,v,rfl,ov.kp0 k4,λu H1 kk cp o1=>⟨by walk_at"ln",λx hx=>⟨x,u,rfl,upd_same,o1.kp0 (Kp.new Kp.refl hx),λdx hdx=>⟨rfl,some dx,upd_same,?_⟩⟩⟩⟩⟩;have:=raisedV (u:=u) (C:=c.N) hx hdx;exact k2 (.name v) (by unfold nDue;rw[qAB few,find_at a3 hv (by rw[e];rfl)]) _ _ _ ⟨rfl,dx,u,rfl,cp.kp0 this.1,this.2⟩ (k3.trans (k4.trans (kk.trans this.1)))
  .rintro σ H2 ⟨⟨o1,o2,o3,rfl⟩,k3,a3⟩;rw[qAq]at a3;obtain⟨es,nm⟩:=strs_of (vs:=vs) λv hv=>by simpa using a3 v hv
   have ee:∀d,(if(vs.map strV).Nodup then none else some .twice)=d->nDue vs=d:=λd h=>by unfold nDue;rw[qAB few,zFy a3];exact h
   have hl:Txs H l (vs.map strV):=by show H l=_;rw[es];exact rw0.top
   rw[<-qAE (f:=strV)]at few;generalize vs.map strV=ns at *
   have hl2:Txs H2 l ns:=k3 l _ hl (by simp);refine λd hd=>?_;have fd:Fre H2 d:=hd;have fdH:Fre H d:=k3.fre fd (by simp);refine⟨_,rfl,_,rfl,⟨_,SqL.of ((Kp.new (M:=[]) Kp.refl fd) l _ hl2 (by simp))⟩,zCa (λi σ H3=>(∃o1 o3:Option V,σ=[some (.ref l),o1,some (.ref d),o3])/\Kp [] H H3/\H3 d=some (.dK (dT1 (ns.take i) λ_=>.bl true))/\(ns.take i).Nodup) ⟨⟨_,_,rfl⟩,Kp.new k3 fdH,upd_same,by simp⟩ (λi σ H3 _ ⟨_,k3,_⟩=>SqL.of (k3 l _ hl (by simp))) ?_ ?_⟩
   .rintro i v σ H3 hv ⟨⟨o1,o3,rfl⟩,k3,h3,nd⟩;refine hid2 ?_;intro _ _;obtain⟨n,en,rfl⟩:=zEr hv;refine⟨_,rfl,_,rfl,_,_,rfl,DGet.k (k:=Sum.inr n) h3,_,rfl,?_⟩;rw[zDg]
    by_cases ni:n∈ns.take i
    .rw [qAC ni];refine iteT ⟨_,rfl,by walk_at"ln",λx hx=>⟨x,.str n,rfl,upd_same,.inl (nm n (qAT en)).flat,λdx hdx=>⟨rfl,some dx,upd_same,?_⟩⟩⟩;have tw:TwAt ns i n:=⟨en,ni,nd⟩;have:=raisedV (u:=.str n) (C:=c.T) hx hdx;exact k2 .twice (ee _ (qAB tw.not)) _ _ _ ⟨rfl,i,n,tw,dx,.str n,rfl,.inl ⟨(nm n (qAT en)).flat,rfl⟩,this.2⟩ (k3.trans this.1)
    .rw [qAB ni];refine iteF ?_;refine⟨_,rfl,_,rfl,_,_,rfl,DPut.k (k:=Sum.inr n) h3 ?_,?_⟩
     .rw [qAE,qAd,qAS];lia
     .refine ⟨⟨_,_,rfl⟩,Kp.new k3 fdH,?_,?_⟩
      .rw [upd_same,zIt _ ni,zAp en];unfold dT1;rw[qAb];rfl
      .rw [zAp en];exact qBp.mpr ⟨nd,by simp,λx hx y hy=>by rw[qAQ.mp hy];exact λz=>ni (z▸hx)⟩
   .rintro σ H3 ⟨_,k4,_,nd⟩;rw[qAE,qAq]at nd;exact k1 (ee _ (qAC nd)) _ k4
def zIk(c:CC):Sp:=λas H Q E=>∃(x dx l m:Addr)(vs:List V) (ts:List (Addr×V×V)),as=[.ref x,.ref l,.ref m]/\H x=some (.ins c.J dx [])/\Rw H l vs/\Pw H m ts/\ts.length<=306/\(∀k dx H',XAt c (vs.map strV) (qsOf ts) H' k dx (zCu vs ts)->Kp [x] H H'->E k dx H') /\
 (zCu vs ts= .fine->∀J H',JobsAt c.J H' x J->J.ns=vs.map strV->(∃r:Str->Nat,∀q∈J.zs,r (fst q)<r (snd q))->Kp [x] H H'->Q .non H')
theorem ok_initV(F:Fun K "__init__" "Jobs.__init__" zB5 f fd)(T:Txt K mg)(U:JC K mg c.J)(C_check_names:CalX P w K mg base "check_names" 4 ["names"] (spNamesV c))(C_check_parts:CalX P w K mg base "check_parts" 5 ["names","orders"] (spPartsV c))
  (C_all_ahead:CalX P w K mg base "all_ahead" 3 ["names","told"] (zG0 c.R)) (C_told_ahead:Cal P w K mg base "told_ahead" 1 ["names","orders"] zGs):FnOk P w K mg base (CX1 P w) 6 f fd ["self","names","orders"] (zIk c):=by
 refine Fun.okX F zF3 (λvs H Q E h=>?_) (λcdv A outer s H vs Q E hr h=>?_)
 .obtain ⟨x,dx,l,m,vs,ts,rfl,_⟩:=h;rfl
 .obtain ⟨x,dx,l,m,vs,ts,rfl,hx,rw0,pw0,lt,kE,kQ⟩:=h;have HR_told_ahead:=hr.mono (j:=1) (by decide);have hr3:=hr.mono (j:=3) (by decide);have hr4:=hr.mono (j:=4) (by decide)
  refine⟨_,(zAc (zA4 (zC8 (E:=λ_=>E) C_check_names hr4 rfl (zIz λ_ _ _ _ h=>h) (zAa (pv 1) zAb))) (zAc (zA4 (zC8 (E:=fun _=>E) C_check_parts hr rfl (zIz fun _ _ _ _ h=>h) (zAa (pv 1) (zAa (pv 2) zAb))))
   (zAc (ps_fld (pv 0) (zA0 zBq (by rfl) T.z_list zCi (zAa (pv 1) zAb)) rfl)
   (zAc (ps_fld (pv 0) (zAg (zHw (P:=P) (w:=w) (K:=K) HR_told_ahead) (by rfl) T.z_sorted bo_sorted (zAa (zA0 (call_setTP (P:=P) (w:=w) (K:=K) HR_told_ahead) (by rfl) T.z_set bo_set (zAa (zBs rfl (zBt (sc:=zAe zB5) rfl (by decide +kernel)) (Draws.own (x:= "one") (Draws.own (x:= "other") Draws.nil)) (zA5 (pv 2)) (fun _ _ _ _=>(zG5 (K:=K) (n:=2) rfl (zBa (pgB (i:=0)) (zBa (pgB (i:=1)) zEd)))) (fun _ _ _ _=>zB6) (fun _ _ _ _=>(zBg (zAa (pv 0) (zAa (pv 1) zAb))))) zAb)) zAb)) rfl)
   (zAd (ps_fld (pv 0) (zC8 (E:=λ_=>E) C_all_ahead hr3 rfl (zIz λ_ _ _ _ h=>h) (zAa (zFb (pv 0) rfl) (zAa (zAj C_told_ahead HR_told_ahead rfl (zAa (zFb (pv 0) rfl) (zAa (zFb (pv 0) rfl) zAb))) zAb))) rfl)))))),?_⟩
  refine hid5 ?_;intro _ _ _ _ _;refine⟨_,rfl,l,vs,qsOf ts,rfl,rw0,λnn H1 k1=>?_,λd ed k dx H' xa kk=>kE k dx H' (by rw[due_n ed];exact xa) kk.of0⟩;obtain⟨few,an,nd⟩:=nDue_none nn;obtain⟨es,nm⟩:=strs_of an;have hl:Txs H l (vs.map strV):=by show H l=_;rw[es];exact rw0.top
  refine⟨_,rfl,_,rfl,l,m,vs.map strV,ts,rfl,k1 l _ hl (by simp),pw0.kp k1,λpn=>?_,λv ev dx H' kk n=>kE _ dx H' (by rw[due_p nn ev];exact⟨rfl,n⟩) (k1.trans kk).of0⟩;obtain⟨hm1,qin⟩:=ords_of (pw0.kp k1) pn;have G:GoodX (vs.map strV) (qsOf ts):=⟨nm,nd,by rw[qAE];exact few,by unfold qsOf;rw[qAE];exact lt,qin⟩;have ln:vs.length=(vs.map strV).length:=(qAE ..).symm;have kq:∀J H',JobsAt c.J H' x J->J.ns=vs.map strV->(∃r:Str->Nat,∀q∈J.zs,r (fst q)<r (snd q))->(∃r:Str->Nat,∀q∈qsOf ts,r (fst q)<r (snd q))->Kp [x] H H'->Q .non H':=λJ H' A en rz ⟨r,rq⟩ kk=>kQ (by rw[due_r nn pn,ln,no_strips rq,qAC rfl]) J H' A en rz kk;have ke:∀p dx rs H',RingOf (told (qsOf ts)) rs->(∀x∈rs,x∈vs.map strV)->Txs H' p rs->H' dx=some (.xd [("ring",.ref p)])->rs.length<=20->Kp [x] H H'->E (.ref c.R) (some dx) H':=λp dx rs H' R sub hp hd le kk=>kE _ _ H' (by rw[due_r nn pn,ln,qAB (is_strips R sub)];exact⟨rfl,dx,p,rs,rfl,hd,hp,R,le⟩) kk;clear kE kQ;generalize vs.map strV=ns at *
  generalize qsOf ts=qs at *
  have hx1:=k1 x _ hx (by simp);refine⟨_,rfl,_,_,rfl,.inl (SqL.of (k1 l _ hl (by simp))),λr1 hr1=>?_⟩;have nxr:x≠r1:=ne_fre hr1 hx1;refine⟨_,rfl,_,_,_,_,rfl,(upd_ne nxr).trans hx1,U.cl,U.n_row,(by decide),?_⟩
  have hm2:∀o1 o2,Ords (upd (upd H1 r1 o1) x o2) m qs:=λo1 o2=>
   ⟨(upd_ne (zBf hm1.top hx1 (λz=>nomatch z))).trans ((upd_ne (ne_fre hr1 hm1.top)).trans hm1.top),λq hq=>(upd_ne (zBf (hm1.row q hq) hx1 (λz=>nomatch z))).trans ((upd_ne (ne_fre hr1 (hm1.row q hq))).trans (hm1.row q hq)),hm1.two⟩
  have hrow2:∀o2,Txs (upd (upd H1 r1 (.lst (ns.map V.str))) x o2) r1 ns:=λo2=>(upd_ne nxr.symm).trans upd_same;have k2:∀o1 o2,Kp [x] H (upd (upd H1 r1 o1) x o2):=λo1 o2=>Kp.put (Kp.new (k1.weak (by simp)) (k1.fre hr1 (by simp))) (by simp);have hx2:∀o1 o2,(upd (upd H1 r1 o1) x o2) x=some o2:=λo1 o2=>upd_same;have hm2:=hm2 (.lst (ns.map V.str)) (.ins c.J dx (putF "row" (.ref r1) []));have hrow2:=hrow2 (.ins c.J dx (putF "row" (.ref r1) []));have k2:=k2 (.lst (ns.map V.str)) (.ins c.J dx (putF "row" (.ref r1) []));have hx2:=hx2 (.lst (ns.map V.str)) (.ins c.J dx (putF "row" (.ref r1) []));generalize hH2:upd (upd H1 r1 (.lst (ns.map V.str))) x (.ins c.J dx (putF "row" (.ref r1) []))=H2 at hm2 hrow2 k2 hx2 ⊢
  refine⟨_,rfl,_,rfl,⟨_,SqL.of hm2.top⟩,λB hB=>zBz (qs.map λq=>V.ref q.2) (λi ys τ H3=>∃ks:List (List Str×Addr),(∃o0 o1,τ=[o0,o1])/\ys=(ks.map λq=>V.ref q.2)/\ks.map (·.1)=(qs.take i).map (·.1)/\(∀q∈ks,H3 q.2=some (.tup (q.1.map V.str)))/\Kp [] H2 H3/\H3 B=some (.lst ys)) ⟨[],⟨_,_,rfl⟩,rfl,rfl,(λq h=>nomatch h),Kp.new Kp.refl hB,upd_same⟩ (λi ys τ H3 ⟨_,_,_,_,_,k3,_⟩=>SqL.of (k3 m _ hm2.top (by simp))) ?_ ?_⟩
  .rintro i v ys τ H3 hv ⟨ks,⟨o0,o1,rfl⟩,rfl,ek,hk,k3,h3⟩;obtain⟨q,eq,rfl⟩:=ref_at hv;have mq:=qAT eq;obtain⟨a,b,eab⟩:=hm2.two q mq
   have hrow:H3 q.2=some (.tup [.str a,.str b]):=by
    have:=k3 q.2 _ (hm2.row q mq) (by simp);rw[eab]at this;exact this
   refine⟨_,_,rfl,.inl (.inl hrow),rfl,_,_,rfl,_,_,rfl,rfl,?_⟩;have hlen:ks.length=(qs.take i).length:=by have:=qAj List.length ek;simpa using this
   refine⟨_,rfl,_,rfl,(by walk_at"ln"),λt ht=>?_⟩;have ft:Fre H3 t:=ht;have nBt:B≠t:=ne_fre ft h3;refine⟨(upd_ne nBt).trans h3,?_,ks++[([a,b],t)],⟨_,_,rfl⟩,?_,?_,λq' hq'=>?_,?_,?_⟩
   .rw [qAE,hlen,qAd,qAS];have:=G.qfew;lia
   .rw [qAb];rfl
   .rw [qAb,ek,zAp eq,qAb,qAl,qAl,eab]
   .rcases qAY.mp hq' with z|z
    .exact (upd_ne (zBf (hk q' z) h3 (λy=>nomatch y))).trans ((upd_ne (ne_fre ft (hk q' z))).trans (hk q' z))
    .rw [qAQ.mp z];exact(upd_ne nBt.symm).trans upd_same
   .exact Kp.new (Kp.new k3 (k3.fre ft (by simp))) hB
   .exact upd_same
  .rintro ys τ H3 ⟨ks,_,rfl,ek,hk,k3,h3⟩;have eT:qs.take (qs.map λq=>V.ref q.2).length=qs:=by rw[qAE,qAq]
   rw[eT]at ek;have hlen:ks.length=qs.length:=by have:=qAj List.length ek;simpa using this
   have ktwo:∀q∈ks,∃a b,q.1=[a,b]:=λq hq=>by
    have:q.1∈ks.map (·.1):=qAM.mpr ⟨q,hq,rfl⟩;rw[ek]at this;obtain⟨q',hq',e⟩:=qAM.mp this;rw[<-e];exact hm2.two q' hq'
   refine⟨B,ks,rfl,SqL.of h3,λq hq=>.inl (.inl (hk q hq)),by have:=G.qfew;lia,λsa yk hsa y1 y2 y3 y4=>?_⟩;have fsa:Fre H3 sa:=hsa;refine⟨sa,yk,rfl,upd_same,λq hq=>.inl (.inl ((upd_ne (ne_fre fsa (hk q (y1 q hq)))).trans (hk q (y1 q hq)))),λq hq=>?_,by have:=G.qfew;lia,λp zs hp z1=>?_⟩
   .obtain ⟨a,b,e⟩:=ktwo q (y1 q hq);rw[e];simp
   have fp:Fre (upd H3 sa (TSt P w sa yk)) p:=hp;have zk:∀q∈zs,q∈ks:=λq hq=>y1 q (z1.mem_iff.mp hq)
   have zq:∀q∈zs,∃q'∈qs,q'.1=q.1:=λq hq=>by
    have:q.1∈ks.map (·.1):=qAM.mpr ⟨q,zk q hq,rfl⟩;rw[ek]at this;exact qAM.mp this
   have zin:∀q∈zs,∀x∈q.1,x∈ns:=λq hq x hx=>by
    obtain⟨q',h1,h2⟩:=zq q hq;exact G.qin q' h1 x (by rw[h2];exact hx)
   have zlen:zs.length<=306:=by rw[z1.length_eq];have:=G.qfew;lia
   have zset:∀k,k∈zs.map (·.1)↔k∈qs.map (·.1):=λk=>by
    rw[<-ek,(z1.map (·.1)).mem_iff]
    exact⟨λh=>by
     obtain⟨q,h1,h2⟩:=qAM.mp h;exact qAM.mpr ⟨q,y1 q h1,h2⟩,λh=>by
     obtain⟨q,h1,h2⟩:=qAM.mp h;rw[<-h2];exact y2 q h1⟩
   have k4:Kp [] H2 (upd (upd H3 sa (TSt P w sa yk)) p (.lst (zs.map λq=>V.ref q.2))):=by
    have h1:Kp [] H2 (upd H3 sa (TSt P w sa yk)):=Kp.new k3 (k3.fre fsa (by simp));exact Kp.new h1 (h1.fre fp (by simp))
   have hzs4:Ords (upd (upd H3 sa (TSt P w sa yk)) p (.lst (zs.map λq=>V.ref q.2))) p zs:=⟨upd_same,λq hq=>by
    have h1:upd H3 sa (TSt P w sa yk) q.2=some (.tup (q.1.map V.str)):=(upd_ne (ne_fre fsa (hk q (zk q hq)))).trans (hk q (zk q hq));exact(upd_ne (ne_fre fp h1)).trans h1,λq hq=>ktwo q (zk q hq)⟩
   generalize hH4:upd (upd H3 sa (TSt P w sa yk)) p (.lst (zs.map λq=>V.ref q.2))=H4 at k4 hzs4 ⊢;have hx4:=k4 x _ hx2 (by simp);refine⟨_,rfl,_,_,_,_,rfl,hx4,U.cl,U.n_pairs,(by have:=zGc "row" (V.ref r1) [];simp only[qBX]at this;lia),?_⟩;have hx5:(upd H4 x (.ins c.J dx (putF "pairs" (.ref p) (putF "row" (.ref r1) [])))) x=some (.ins c.J dx (putF "pairs" (.ref p) (putF "row" (.ref r1) []))):=upd_same;have hrow5:Txs (upd H4 x (.ins c.J dx (putF "pairs" (.ref p) (putF "row" (.ref r1) [])))) r1 ns:=(upd_ne nxr.symm).trans (k4 r1 _ hrow2 (by simp));have hzs5:Ords (upd H4 x (.ins c.J dx (putF "pairs" (.ref p) (putF "row" (.ref r1) [])))) p zs:=⟨(upd_ne (zBf hzs4.top hx4 (λz=>nomatch z))).trans hzs4.top,λq hq=>(upd_ne (zBf (hzs4.row q hq) hx4 (λz=>nomatch z))).trans (hzs4.row q hq),hzs4.two⟩;have k5:Kp [x] H (upd H4 x (.ins c.J dx (putF "pairs" (.ref p) (putF "row" (.ref r1) [])))):=Kp.put (k2.trans (k4.weak (by simp))) (by simp);generalize hH5:upd H4 x (.ins c.J dx (putF "pairs" (.ref p) (putF "row" (.ref r1) [])))=H5 at hx5 hrow5 hzs5 k5 ⊢
   have e_row:(putF "pairs" (.ref p) (putF "row" (.ref r1) [])).lookup ("row": Str)=some (.ref r1):=by
    rw[zAy,qAB (by decide +kernel),zAy,qAC rfl]
   have e_prs:(putF "pairs" (.ref p) (putF "row" (.ref r1) [])).lookup ("pairs": Str)=some (.ref p):=by
    rw[zAy,qAC rfl]
   refine⟨_,rfl,_,_,_,_,_,rfl,hx5,U.cl,U.n_row,e_row,_,rfl,_,_,_,_,_,rfl,hx5,U.cl,U.n_row,e_row,_,rfl,_,_,_,_,_,rfl,hx5,U.cl,U.n_pairs,e_prs,r1,p,ns,zs,rfl,hrow5,hzs5,G.nd,G.few,by lia,zin,λd la H6 DD k6=>?_⟩
   have tz:∀n x,x∈told zs n↔x∈told qs n:=λn x=>by
    rw[zD2,zD2];constructor
    .rintro ⟨q,h1,h2,h3⟩;obtain⟨q',h4,h5⟩:=zq q h1;obtain⟨e1,e2⟩:=fst_of h5;exact⟨q',h4,by rw[e2];exact h2,by rw[e1];exact h3⟩
    .rintro ⟨q,h1,h2,h3⟩;obtain⟨q',h4,h5⟩:=qAM.mp ((zset q.1).mpr (qAM.mpr ⟨q,h1,rfl⟩));obtain⟨e1,e2⟩:=fst_of h5;exact⟨q',h4,by rw[e2];exact h2,by rw[e1];exact h3⟩
   refine⟨r1,d,ns,la,told zs,rfl,k6 r1 _ hrow5 (by simp),G.nd,G.few,G.nm,DD.top,λn hn=>⟨DD.row n hn,qAf (told_len zs n) (by lia),λy hy=>?_⟩,λe D fa S H7 FF all tp k7=>?_,λp2 dx2 rs H7 RO sub hp2 hdx2 len k7=>ke p2 dx2 rs H7 ⟨RO.ne,RO.nd,λk x y h1 h2=>(tz y x).mp (RO.go k x y h1 h2)⟩ sub hp2 hdx2 len (k5.trans ((k6.trans k7).weak (by simp)))⟩
   .obtain ⟨q,h1,h2,h3⟩:=zD2.mp hy;obtain⟨a,b,eab⟩:=hzs5.two q h1;rw[<-h3];refine zin q h1 _ ?_;unfold fst;rw[eab];simp
   have k57:Kp [] H5 H7:=k6.trans k7;have hx7:=k57 x _ hx5 (by simp);refine⟨_,rfl,_,_,_,_,rfl,hx7,U.cl,U.n_above,?_,?_⟩
   .have h1:=zGc "row" (V.ref r1) [];have h2:=zGc "pairs" (V.ref p) (putF "row" (V.ref r1) []);simp only[qBX]at h1;lia
   refine kq ⟨dx,r1,p,e,ns,zs,D,fa,S⟩ _ ⟨upd_same,?_,⟨?_,λq hq=>?_,hzs5.two⟩,?_,all,λn hn=>?_,G.few,zlen,G.nd,zin,λn hn y=>FF.mem n (all n hn) y⟩ rfl ⟨λn=>D.idxOf n,λq hq=>tp_rank tp (all _ (zin q hq _ (snd_mem (hzs5.two q hq)))) (zD2.mpr ⟨q,hq,rfl,rfl⟩)⟩ ⟨λn=>D.idxOf n,λq hq=>tp_rank tp (all _ (G.qin q hq _ (snd_mem (hm1.two q hq)))) ((tz _ _).mpr (zD2.mpr ⟨q,hq,rfl,rfl⟩))⟩ (Kp.put (k5.trans (k57.weak (by simp))) (by simp))
   .exact (upd_ne nxr.symm).trans (k57 r1 _ hrow5 (by simp))
   .have h1:=k57 p _ hzs5.top (by simp);exact(upd_ne (zBf h1 hx7 (λz=>nomatch z))).trans h1
   .have h1:=k57 _ _ (hzs5.row q hq) (by simp);exact(upd_ne (zBf h1 hx7 (λz=>nomatch z))).trans h1
   .exact (upd_ne (zBf FF.top hx7 (λz=>nomatch z))).trans FF.top
   .exact (upd_ne (zBf (FF.row n hn) hx7 (λz=>nomatch z))).trans (FF.row n hn)
end
end My
namespace L2
open PySem PySem.W PyProof.Rows
section
variable{X:Cx}{CX:CXT}{k:Nat}{f:Addr}{fd:FuncData}{ps:List Str}{sp:Sp}{E:St->XK}
theorem run_fnX{pins:List (Addr×Obj)}{σ:St}{H:Hp}{s:Shared}{Q:VK}{us:List Value}{vs:List V}(F:FnOk X.prog X.w X.K X.mg X.base CX k f fd ps sp)(hr:Room k X.A)(hb:zCe X.K fd ps [])(hx:zGn CX X E)(I:Inv X pins σ H s)(r:Vals vs us)(h:sp vs H Q (E σ)):wpAny (model X.prog X.w) X.A (call (.ref f) us) (EP X pins σ Q) X.xe s:=by
 have bd:=hb s us I.kIn (by rw[qAu,<-r.length];exact F.len _ _ _ _ h);rw[qAu]at bd;refine qBI (qBV (F.run X.A X.stack s H ⟨us,[]⟩ us vs Q (E σ) hr I.env0 bd r h) λr s' hq=>?_)
 cases r with
 |error e=>exact hx pins σ H s e s' I hq
 |ok fl=>
  cases fl with
  |ret u=>exact I.after hq
  |next=>exact False.elim hq
  |brk=>exact False.elim hq
  |cont=>exact False.elim hq
def tMethF(C:Addr)(m:Str)(sp:Sp)(E:St->XK)(ta:TE)(t:TA):TE:=λσ H Q=>ta σ H λx H1=>∃a dx fs,x= .ref a/\H1 a=some (.ins C dx fs)/\fs.lookup m=none/\t σ H1 λvs H2=>sp (x::vs) H2 Q (E σ)
theorem zFa{C:Addr}{m:Str}{o e:Expr}{es:List Expr}{apos pos:Pos}{ta:TE}{t:TA}{pl:Sem Bool}(M:MthX X.prog X.w X.K X.mg X.base C m k ps sp)(c:Cls X.K C)(hr:Room k X.A)(hp:zDe X E)(he:PE X o ta)(ha:PA X (e::es) t)
  (hst:starEach (e::es) X.env=(false,eval e X.env)::starEach es X.env:=by rfl) (hpl:(backTo pos (starEach es X.env)).any (·.1)=false:=by rfl)
  (ht:eval (.Call (.Attribute o m apos) (e::es) [] pos) X.env=(do
   let ov<-eval o X.env
   standAt apos.atName
   let(f,first)<-holding [ov] (getMethod ov m pl)
   callWith pos f first (backTo pos (starEach (e::es) X.env)) (backToKw pos (keywordEach [] X.env))):=by rfl):PE X (.Call (.Attribute o m apos) (e::es) [] pos) (tMethF C m sp E ta t):=by
 obtain⟨f,fd,hm,hb,F⟩:=M.to;intro pins s σ H Q I h;refine methodCall_KW (pl:=pl) (thn (he pins s σ H _ I h) λu s1 ⟨x,H1,I1,rx,a,dx,fs,ex,ea,l,q⟩=>?_) ht;subst ex;obtain rfl:u=Value.ref a:=rx;refine zIc I1 ea c hm l ?_;refine callWith_K (first:=[.ref a]) (h₀:=X.base) I.ok.mod.kin hm.kp (thn (ha pos pins s1 σ H1 _ I1 q) λus s2 ⟨vs,H2,I2,r,q2⟩=>⟨I2.kIn,?_⟩) hst hpl;exact run_fnX (us:=.ref a::us) (vs:=.ref a::vs) F hr hb hp.at I2 (.cons rfl r) q2
end
end L2
namespace My
open PySem L2
variable{P:Program}{w:World}{K:PySem.W.Frag}{mg:Str->Option Value}{base:Heap}{C:Addr}
variable{X:Cx}{x:Str}{pos:Pos}{H H':Hp}{ns:List Str}{f:Addr}{fd:FuncData}{d:Du}{v:V}
theorem passN :zDe X (λ_ _ _ _=>False):=λ_ _ _ _ _ _ _ _ _ _ _ _ _ h=>h.elim
structure MkrF(P:Program)(w:World)(K:PySem.W.Frag)(mg:Str->Option Value)(base:Heap)(C:Addr)(x:Str)(k:Nat)(ps:List Str)(sp:Sp):Prop where
 to:∃(f:Addr)(fd:FuncData),Mk K C f/\mg x=some (.ref C)/\zCe K fd ps []/\FnOk P w K mg base (CX1 P w) k f fd ps sp
def tMakeF(C:Addr)(sp:Sp)(E:St->XK)(t:TA):TE:=λσ H Q=>t σ H λvs H1=>∀x dx,H1 x=none->H1 dx=none->dx≠x->sp (.ref x::vs) (upd (upd H1 dx (.own x)) x (.ins C dx [])) (λv H2=>v= .non/\Q (.ref x) H2) (E σ)
theorem pe_makeF{C:Addr}{k:Nat}{ps:List Str}{sp:Sp}{E:St->XK}{e:Expr}{es:List Expr}{p:Pos}{t:TA}(M:MkrF X.prog X.w X.K X.mg X.base C x k ps sp)(hr:Room (k+1) X.A)(hg:Gl X x)(hp:zDe X E)(ha:PA X (e::es) t)
  (hdb:(x==("__debug__": Str))=false:=by decide) (he:starEach (e::es) X.env=(false,eval e X.env)::starEach es X.env:=by rfl) (hpl:(backTo pos (starEach es X.env)).any (·.1)=false:=by rfl):PE X (.Call (.Name x p) (e::es) [] pos) (tMakeF C sp E t):=by
 obtain⟨f,fd,h1,h2,h3,h4⟩:=M.to;exact pe_makeX h1 h4 hr hg h2 h3 hp.at ha hdb he hpl
def tsOf(qs:List (List Str×Addr)):List (Addr×V×V):=qs.map λq=>(q.2,.str (fst q),.str (snd q))
theorem zHj{q:List Str×Addr}{a b:Str}(e:q.1=[a,b]):fst q=a/\snd q=b:=by unfold fst snd;rw[e];exact⟨rfl,rfl⟩
theorem qs_ts{qs:List (List Str×Addr)}(two:∀q∈qs,∃a b,q.1=[a,b]):qsOf (tsOf qs)=qs:=by
 unfold qsOf tsOf;rw[qBR];refine(qDJ λq hq=>?_).trans (List.map_id _);obtain⟨a,b,e⟩:=two q hq;obtain⟨e1,e2⟩:=zHj e;show([fst q,snd q],q.2)=q;rw[e1,e2,<-e]
theorem zE4(ns:List Str):(ns.map V.str).map strV=ns:=by rw[qBR];exact List.map_id _
theorem Rw.of{l:Addr}(h:Txs H l ns)(nm:∀n∈ns,zCd n):Rw H l (ns.map V.str):=⟨h,λv hv=>by
 obtain⟨n,hn,rfl⟩:=qAM.mp hv;exact .inl (nm n hn).flat⟩
theorem zI0{qs:List (List Str×Addr)}{p:Str->Prop}(two:∀q∈qs,∃a b,q.1=[a,b])(h:∀q∈qs,∀x∈q.1,p x):∀v∈zCt (tsOf qs),∃x,v= .str x/\p x:=λv hv=>by
 obtain⟨t,ht,hv⟩:=qCb.mp hv;obtain⟨q,hq,rfl⟩:=qAM.mp ht;obtain⟨a,b,e⟩:=two q hq;obtain⟨e1,e2⟩:=zHj e;have hv:v∈[V.str (fst q),V.str (snd q)]:=hv;rw[e1,e2]at hv;simp only[qAL,qA9,qBL]at hv;rcases hv with rfl|rfl
 .exact ⟨a,rfl,h q hq a (by rw[e];simp)⟩
 .exact ⟨b,rfl,h q hq b (by rw[e];simp)⟩
theorem Pw.of{m:Addr}{qs:List (List Str×Addr)}(h:Ords H m qs)(nm:∀q∈qs,∀x∈q.1,zCd x):Pw H m (tsOf qs):=by
 refine⟨by unfold tsOf;rw[qBR];exact h.top,λt ht=>?_,λv hv=>?_⟩
 .obtain ⟨q,hq,rfl⟩:=qAM.mp ht;obtain⟨a,b,e⟩:=h.two q hq;obtain⟨e1,e2⟩:=zHj e;have:=h.row q hq;rw[e]at this;show H q.2=some (.tup [.str (fst q),.str (snd q)]);rw[e1,e2];exact this
 .obtain ⟨x,rfl,hx⟩:=zI0 h.two nm v hv;exact .inl hx.flat
theorem due_fine{qs:List (List Str×Addr)}{r:Str->Nat}(nm:∀n∈ns,zCd n)(nd:ns.Nodup)(few:ns.length<=20)(two:∀q∈qs,∃a b,q.1=[a,b])(qin:∀q∈qs,∀x∈q.1,x∈ns)(rk:∀q∈qs,r (fst q)<r (snd q)):zCu (ns.map V.str) (tsOf qs)= .fine:=by
 have n1:nDue (ns.map V.str)=none:=by
  unfold nDue;rw[qAB (by rw[qAE];lia),zFy (λv hv=>?_),zE4]
  .exact qAC nd
  .obtain ⟨n,hn,rfl⟩:=qAM.mp hv;show(!zDk n)=false;rw[(zDt n).mpr (nm n hn)];rfl
 rw[due_r n1,zE4,qAE,qs_ts two,no_strips rk,qAC rfl];refine zFy λv hv=>?_;obtain⟨x,rfl,hx⟩:=zI0 two qin v hv;rw[zE4];show(!decide (x∈ns))=false;rw[qAP hx];rfl
theorem le_sum(r:Str->Nat):∀{ns:List Str}{x:Str},x∈ns->r x<=(ns.map r).sum
 |y::ns,x,h=>by
  rw[qAl,List.sum_cons];rcases qAL.mp h with z|z
  .rw [z];lia
  .have:=le_sum r z;lia
theorem rank_rev{zs ks:List (List Str×Addr)}{r:Str->Nat}(rk:∀q∈zs,r (fst q)<r (snd q))(two:∀q∈zs,∃a b,q.1=[a,b])(zin:∀q∈zs,∀x∈q.1,x∈ns)(e:ks.map (·.1)=zs.map λq=>q.1.reverse):∀k∈ks,(ns.map r).sum-r (fst k)<(ns.map r).sum-r (snd k):=λk hk=>by
 have:k.1∈ks.map (·.1):=qAM.mpr ⟨k,hk,rfl⟩;rw[e]at this;obtain⟨q,h1,h2⟩:=qAM.mp this;obtain⟨a,b,eab⟩:=two q h1;have e1:=zHj eab;have e3:=zHj (q:=k) (a:=b) (b:=a) (by rw[<-h2,eab];rfl);have:=rk q h1;rw[e1.1,e1.2]at this;rw[e3.1,e3.2];have:=le_sum r (zin q h1 b (by rw[eab];simp));lia
section
variable{P:Program}{w:World}{K:PySem.W.Frag}{mg:Str->Option Value}{base:Heap}{c:CC}
def spTurned(c:CC):Sp:=λvs H Q _=>∃(j:Addr)(J:JR)(r:Str->Nat),vs=[.ref j]/\JobsAt c.J H j J/\(∀n∈J.ns,zCd n)/\(∀q∈J.zs,r (fst q)<r (snd q))/\∀x J' H',JobsAt c.J H' x J'->J'.ns=J.ns->Kp [] H H'->Q (.ref x) H'
abbrev zCs:Stmt:=zDl (top 34) 8
theorem zHr:FnScope ["self"] ["self"] (zAe zCs):=fnS
theorem zHu(F:Fun K "turned" "Jobs.turned" zCs f fd)(T:Txt K mg)(U:JC K mg c.J)(M_Jobs:MkrF P w K mg base c.J "Jobs" 6 ["self","names","orders"] (zIk c)):FnOk P w K mg base CX0 8 f fd ["self"] (spTurned c):=by
 refine F.ok zHr (λvs H Q E h=>?_) (λcdv A outer s H vs Q E hr h=>?_)
 .obtain ⟨j,J,r,rfl,_⟩:=h;rfl
 .obtain ⟨j,J,r,rfl,A0,nm,rk,k⟩:=h;refine⟨_,(zAd (zAm (pe_makeF M_Jobs hr rfl passN (zAa (zFb (pv 0) rfl) (zAa (zBs rfl (zBt (sc:=zAe zCs) rfl (by decide +kernel)) (Draws.own (x:="one") (Draws.own (x:="other") Draws.nil)) (zA5 (zFb (pv 0) rfl)) (λ_ _ _ _=>(zG5 (K:=K) (n:=2) rfl (zBa (pgB (i:=0)) (zBa (pgB (i:=1)) zEd)))) (λ_ _ _ _=>zB6) (λ_ _ _ _=>(zBg (zAa (pv 1) (zAa (pv 0) zAb))))) zAb))))),?_⟩
  refine⟨_,rfl,_,_,_,_,_,rfl,A0.ob,U.cl,U.n_row,jf_row _ _ _,_,rfl,_,_,_,_,_,rfl,A0.ob,U.cl,U.n_pairs,jf_pairs _ _ _,_,rfl,⟨_,SqL.of A0.prs.top⟩,λB hB=>zBz (J.zs.map λq=>V.ref q.2) (λi ys τ H3=>∃ks:List (List Str×Addr),(∃o0 o1,τ=[o0,o1])/\ys=(ks.map λq=>V.ref q.2)/\ks.map (·.1)=(J.zs.take i).map (λq=>q.1.reverse)/\(∀q∈ks,H3 q.2=some (.tup (q.1.map V.str)))/\Kp [] H H3/\H3 B=some (.lst ys)) ⟨[],⟨_,_,rfl⟩,rfl,rfl,(λq h=>nomatch h),Kp.new Kp.refl hB,upd_same⟩ (λi ys τ H3 ⟨_,_,_,_,_,k3,_⟩=>SqL.of (k3 _ _ A0.prs.top (by simp))) ?_ ?_⟩
  .rintro i v ys τ H3 hv ⟨ks,⟨o0,o1,rfl⟩,rfl,ek,hk,k3,h3⟩;obtain⟨q,eq,rfl⟩:=ref_at hv;have mq:=qAT eq;obtain⟨a,b,eab⟩:=A0.prs.two q mq
   have hrow:H3 q.2=some (.tup [.str a,.str b]):=by
    have:=k3 q.2 _ (A0.prs.row q mq) (by simp);rw[eab]at this;exact this
   refine⟨_,_,rfl,.inl (.inl hrow),rfl,_,_,rfl,_,_,rfl,rfl,?_⟩;have hlen:ks.length=(J.zs.take i).length:=by have:=qAj List.length ek;simpa using this
   refine⟨_,rfl,_,rfl,(by walk_at"ln"),λt ht=>?_⟩;have ft:Fre H3 t:=ht;have nBt:B≠t:=ne_fre ft h3;refine⟨(upd_ne nBt).trans h3,?_,ks++[([b,a],t)],⟨_,_,rfl⟩,?_,?_,λq' hq'=>?_,?_,?_⟩
   .rw [qAE,hlen,qAd,qAS];have:=A0.zfew;lia
   .rw [qAb];rfl
   .rw [qAb,ek,zAp eq,qAb,qAl,qAl,eab];rfl
   .rcases qAY.mp hq' with z|z
    .exact (upd_ne (zBf (hk q' z) h3 (λy=>nomatch y))).trans ((upd_ne (ne_fre ft (hk q' z))).trans (hk q' z))
    .rw [qAQ.mp z];exact(upd_ne nBt.symm).trans upd_same
   .exact Kp.new (Kp.new k3 (k3.fre ft (by simp))) hB
   .exact upd_same
  .rintro ys τ H3 ⟨ks,_,rfl,ek,hk,k3,h3⟩;have eT:J.zs.take (J.zs.map λq=>V.ref q.2).length=J.zs:=by rw[qAE,qAq]
   rw[eT]at ek
   have ktwo:∀q∈ks,∃a b,q.1=[a,b]:=λq hq=>by
    have:q.1∈ks.map (·.1):=qAM.mpr ⟨q,hq,rfl⟩;rw[ek]at this;obtain⟨q',hq',e⟩:=qAM.mp this;obtain⟨a,b,eab⟩:=A0.prs.two q' hq';exact⟨b,a,by rw[<-e,eab];rfl⟩
   refine λx dx hx hdx nxd=>?_;have fx:Fre H3 x:=hx;have k4:Kp [] H3 (upd (upd H3 dx (.own x)) x (.ins c.J dx [])):=Kp.new (Kp.new Kp.refl hdx) fx;have hx4:(upd (upd H3 dx (.own x)) x (.ins c.J dx [])) x=some (.ins c.J dx []):=upd_same;generalize upd (upd H3 dx (.own x)) x (.ins c.J dx [])=H4 at k4 hx4 ⊢;have k04:=k3.trans k4;have O4:Ords H4 B ks:=⟨k4 B _ h3 (by simp),λq hq=>k4 _ _ (hk q hq) (by simp),ktwo⟩
   have kin:∀q∈ks,∀x∈q.1,x∈J.ns:=λq hq x hx=>by
    have:q.1∈ks.map (·.1):=qAM.mpr ⟨q,hq,rfl⟩;rw[ek]at this;obtain⟨q',hq',e⟩:=qAM.mp this;exact A0.zin q' hq' x (List.mem_reverse.mp (by rw[e];exact hx))
   have fine:=due_fine (r:=λx=>(J.ns.map r).sum-r x) nm A0.nd A0.few ktwo kin (rank_rev rk A0.prs.two A0.zin ek);refine⟨x,dx,J.r,B,J.ns.map V.str,tsOf ks,rfl,hx4,Rw.of (k04 _ _ A0.row (by simp)) nm,Pw.of O4 λq hq x hx=>nm x (kin q hq x hx),?_,λ_ _ _ z=>by rw[fine]at z;exact z.elim,λ_ J' H5 A5 ens _ K5=>⟨rfl,k x J' H5 A5 (ens.trans (zE4 _)) (k3.trans (Kp.drop k4 fx K5))⟩⟩;have:=qAj List.length ek;rw[qAE,qAE]at this;unfold tsOf;rw[qAE,this];exact A0.zfew
end
theorem zG9{t u:TS}{D:Ends}{r:V->Hp->Prop}{b c:St->Hp->Prop}{σ:St}(Mid:St->Hp->Prop)(h1:∀N:St->Hp->Prop,(∀σ H,Mid σ H->N σ H)->t {D with nx:=N} σ H)(h2:∀σ H,Mid σ H->u D σ H):Ends.nx {nx:=tSeq t u D,rt:=r,bk:=b,ct:=c} σ H:=zIn Mid h1 h2
section
variable{P:Program}{w:World}{K:PySem.W.Frag}{mg:Str->Option Value}{base:Heap}{CB:Addr}{c:CC}
def zGz(c:CC):Sp:=λvs H _ E=>∃(j:Addr)(J:JR)(v:V),vs=[.ref j,v]/\JobsAt c.J H j J/\Odd H v/\zBl v J.ns=false/\∀dx H',Kp [] H H'->Nm H' dx v->E (.ref c.S) dx H'
abbrev zD0:Stmt:=zDl (top 34) 4
theorem zHs:FnScope ["self","name"] ["self","name"] (zAe zD0):=fnS
theorem ok_behindX(F:Fun K "behind" "Jobs.behind" zD0 f fd)(U:JC K mg c.J)(C_check_job:CalX P w K mg base "check_job" 4 ["names","thing"] (spJobV c)):FnOk P w K mg base (CX1 P w) 5 f fd ["self","name"] (zGz c):=by
 refine Fun.okX F zHs (λvs H Q E h=>?_) (λcdv A outer s H vs Q E hr h=>?_)
 .obtain ⟨j,J,v,rfl,_⟩:=h;rfl
 .obtain ⟨j,J,v,rfl,A0,o,n,k⟩:=h;exact⟨_,(zAc (zA4 (zC8 (E:=λ_=>E) C_check_job hr rfl (zIz λ_ _ _ _ h=>h) (zAa (zFb (pv 0) rfl) (zAa (pv 1) zAb)))) zAx),⟨_,rfl,_,_,_,_,_,rfl,A0.ob,U.cl,U.n_row,jf_row _ _ _,_,rfl,v,J.r,J.ns,rfl,A0.row,o,λz=>absurd (n.symm.trans z) (by decide),λ_=>k⟩⟩
abbrev zEb:Stmt:=zDl (top 34) 5
theorem zIo:FnScope ["self","name"] ["self","name"] (zAe zEb):=fnS
theorem ok_aheadX(F:Fun K "ahead" "Jobs.ahead" zEb f fd)(U:JC K mg c.J)(C_check_job:CalX P w K mg base "check_job" 4 ["names","thing"] (spJobV c)):FnOk P w K mg base (CX1 P w) 5 f fd ["self","name"] (zGz c):=by
 refine Fun.okX F zIo (λvs H Q E h=>?_) (λcdv A outer s H vs Q E hr h=>?_)
 .obtain ⟨j,J,v,rfl,_⟩:=h;rfl
 .obtain ⟨j,J,v,rfl,A0,o,n,k⟩:=h;exact⟨_,(zAc (zA4 (zC8 (E:=λ_=>E) C_check_job hr rfl (zIz λ_ _ _ _ h=>h) (zAa (zFb (pv 0) rfl) (zAa (pv 1) zAb)))) zAx),⟨_,rfl,_,_,_,_,_,rfl,A0.ob,U.cl,U.n_row,jf_row _ _ _,_,rfl,v,J.r,J.ns,rfl,A0.row,o,λz=>absurd (n.symm.trans z) (by decide),λ_=>k⟩⟩
theorem JR.no(J:JR){m:Str}(h1:¬m="above")(h2:¬m="pairs")(h3:¬m="row"):(jf J.r J.p J.e).lookup m=none:=jf_no _ _ _ h1 h2 h3
abbrev zCz:Stmt:=zDl (top 34) 6
theorem zD7:FnScope ["self","name","later"] ["self","name"] (zAe zCz):=fnS
theorem ok_straightX(F:Fun K "straight" "Jobs.straight" zCz f fd)(U:JC K mg c.J)(M_behind:MthX P w K mg base c.J "behind" 5 ["self","name"] (zGz c)):FnOk P w K mg base (CX1 P w) 6 f fd ["self","name"] (zGz c):=by
 refine Fun.okX F zD7 (λvs H Q E h=>?_) (λcdv A outer s H vs Q E hr h=>?_)
 .obtain ⟨j,J,v,rfl,_⟩:=h;rfl
 .obtain ⟨j,J,v,rfl,A0,o,n,k⟩:=h;exact⟨_,(zAc (psS (i:=2) zD7.nd (zFa (E:=λ_=>E) M_behind U.cl hr (zIz λ_ _ _ _ h=>h) (pv 0) (zAa (pv 1) zAb))) zAx),⟨_,rfl,j,J.dx,_,rfl,A0.ob,J.no (by decide +kernel) (by decide +kernel) (by decide +kernel),_,rfl,j,J,v,rfl,A0,o,n,k⟩⟩
def spIsX(c:CC):Sp:=λvs H _ E=>∃(j:Addr)(J:JR)(v u:V),vs=[.ref j,v,u]/\JobsAt c.J H j J/\Odd H v/\Odd H u/\(zBl v J.ns=true->zBl u J.ns=false)/\∀dx H',Kp [] H H'->Nm H' dx (if zBl v J.ns=true then u else v)->E (.ref c.S) dx H'
abbrev zC0:Stmt:=zDl (top 34) 3
theorem zF2:FnScope ["self","one","other"] ["self","one","other"] (zAe zC0):=fnS
theorem ok_is_aheadX(F:Fun K "is_ahead" "Jobs.is_ahead" zC0 f fd)(U:JC K mg c.J)(C_check_job:CalX P w K mg base "check_job" 4 ["names","thing"] (spJobV c)):FnOk P w K mg base (CX1 P w) 5 f fd ["self","one","other"] (spIsX c):=by
 refine Fun.okX F zF2 (λvs H Q E h=>?_) (λcdv A outer s H vs Q E hr h=>?_)
 .obtain ⟨j,J,v,u,rfl,_⟩:=h;rfl
 .obtain ⟨j,J,v,u,rfl,A0,o,o2,n,k⟩:=h;refine⟨_,(zAc (zA4 (zC8 (E:=λ_=>E) C_check_job hr rfl (zIz λ_ _ _ _ h=>h) (zAa (zFb (pv 0) rfl) (zAa (pv 1) zAb)))) (zAc (zA4 (zC8 (E:=λ_=>E) C_check_job hr rfl (zIz λ_ _ _ _ h=>h) (zAa (zFb (pv 0) rfl) (zAa (pv 2) zAb)))) zAx)),?_⟩;refine⟨_,rfl,_,_,_,_,_,rfl,A0.ob,U.cl,U.n_row,jf_row _ _ _,_,rfl,v,J.r,J.ns,rfl,A0.row,o,λz=>?_,λz=>by simpa[z]using k⟩;exact⟨_,rfl,_,_,_,_,_,rfl,A0.ob,U.cl,U.n_row,jf_row _ _ _,_,rfl,u,J.r,J.ns,rfl,A0.row,o2,λy=>absurd ((n z).symm.trans y) (by decide),λ_=>by simpa[z]using k⟩
def spAsked(c:CC):Sp:=λvs H Q _=>∃(j:Addr)(J:JR)(i:Int)(v u:V),vs=[.ref j,.int i,v,u]/\JobsAt c.J H j J/\Odd H v/\Odd H u/\(zBl v J.ns=true->i=0/\zBl u J.ns=false)/\∀a dx H',Kp [] H H'->Nm H' dx (if zBl v J.ns=true then u else v)->H' a=some (excD a c.S dx)->Q (.ref a) H'
abbrev s_asked:Stmt:=top 53
theorem zC5:FnScope ["_law_jobs_here","_law_way","_law_one","_law_other","_law_told","_law_e"] ["_law_jobs_here","_law_way","_law_one","_law_other"] (zAe s_asked):=fnS
theorem ok_asked(F:Fun K "_law_asked" "_law_asked" s_asked f fd)(U:JC K mg c.J)(R:XF K mg CB c.S "Stranger")(xB:excB K CB=true)(M_behind:MthX P w K mg base c.J "behind" 5 ["self","name"] (zGz c))(M_ahead:MthX P w K mg base c.J "ahead" 5 ["self","name"] (zGz c))(M_straight:MthX P w K mg base c.J "straight" 6 ["self","name"] (zGz c))(M_is_ahead:MthX P w K mg base c.J "is_ahead" 5 ["self","one","other"] (spIsX c)):FnOk P w K mg base CX0 7 f fd ["_law_jobs_here","_law_way","_law_one","_law_other"] (spAsked c):=by
 refine F.ok zC5 (λvs H Q E h=>?_) (λcdv A outer s H vs Q E hr h=>?_)
 .obtain ⟨j,J,i,v,u,rfl,_⟩:=h;rfl
 .obtain ⟨j,J,i,v,u,rfl,A0,o,o2,n,k⟩:=h;have hr5:=hr.mono (j:=5) (by decide)
  refine⟨_,(zAc (psS (i:=4) zC5.nd zEe) (zAc (ps_tryF (i:=5) rfl rfl rfl rfl zC5.nd rfl rfl rfl R.mgB xB
     (fun pl ξ E p own=>zAd (zA1 (zAo zDr (pv 1) zAh (zAq _))
      (zAd (psS (i:=4) zC5.nd (zFa (E:=E) M_is_ahead U.cl hr5 p (pv 0) (zAa (pv 2) (zAa (pv 3) zAb)))))
      (zAd (zA1 (zAo zDr (pv 1) zAh (zAq _))
       (zAd (psS (i:=4) zC5.nd (zFa (E:=E) M_behind U.cl hr5 p (pv 0) (zAa (pv 2) zAb))))
       (zAd (zA1 (zAo zDr (pv 1) zAh (zAq _))
        (zAd (psS (i:=4) zC5.nd (zFa (E:=E) M_ahead U.cl hr5 p (pv 0) (zAa (pv 2) zAb))))
        (zAd (psS (i:=4) zC5.nd (zFa (E:=E) M_straight U.cl hr p (pv 0) (zAa (pv 2) zAb))))))))))
     (λa=>zAd (psS (i:=4) zC5.nd (pv 5))))
   (zAd (zAm (pv 4))))),?_⟩
  refine hid3 ?_;intro _ _ _;refine zG9 (λσ H'=>∃a dx,σ=[some (.ref j),some (.int i),some v,some u,some (.ref a),none]/\Kp [] H H'/\Nm H' dx (if zBl v J.ns=true then u else v)/\H' a=some (excD a c.S dx)) (λN hN=>?_) ?_
  .have m:∀{z:V},z=(if zBl v J.ns=true then u else v)->∀a dx H',Kp [] H H'->Nm H' dx z->H' a=none->N [some (.ref j),some (.int i),some v,some u,some (.ref a),none] (upd H' a (excD a c.S dx)):=λe a dx H' kk ⟨b,y,n1,n2,n3⟩ ha=>by
    have ka:Kp [] H' (upd H' a (excD a c.S dx)):=Kp.new Kp.refl ha;exact hN _ _ ⟨a,dx,rfl,kk.trans ka,⟨b,y,n1,e▸n2.kp0 ka,ka _ _ n3 (by simp)⟩,upd_same⟩
   refine⟨_,rfl,rfl,_,rfl,ite2 (λz=>?_) (λz=>?_)⟩
   .exact ⟨_,rfl,j,J.dx,_,rfl,A0.ob,J.no (by decide +kernel) (by decide +kernel) (by decide +kernel),_,rfl,_,rfl,j,J,v,u,rfl,A0,o,o2,λy=>(n y).2,λdx H' kk q=>⟨c.S,rfl,R.xc.exc,R.self,λa ha=>⟨_,rfl,m rfl a dx H' kk q ha⟩⟩⟩
   have n1:zBl v J.ns=false:=by
    cases e:zBl v J.ns with
    |false=>rfl
    |true=>rw[(n e).1]at z;exact absurd rfl z
   have m:=m (z:=v) (by rw[n1];rfl);refine⟨_,rfl,rfl,_,rfl,ite2 (λz=>?_) (λz=>?_)⟩
   .exact ⟨_,rfl,j,J.dx,_,rfl,A0.ob,J.no (by decide +kernel) (by decide +kernel) (by decide +kernel),_,rfl,j,J,v,rfl,A0,o,n1,λdx H' kk q=>⟨c.S,rfl,R.xc.exc,R.self,λa ha=>⟨_,rfl,m a dx H' kk q ha⟩⟩⟩
   refine⟨_,rfl,rfl,_,rfl,ite2 (λz=>?_) (λz=>?_)⟩
   .exact ⟨_,rfl,j,J.dx,_,rfl,A0.ob,J.no (by decide +kernel) (by decide +kernel) (by decide +kernel),_,rfl,j,J,v,rfl,A0,o,n1,λdx H' kk q=>⟨c.S,rfl,R.xc.exc,R.self,λa ha=>⟨_,rfl,m a dx H' kk q ha⟩⟩⟩
   .exact ⟨_,rfl,j,J.dx,_,rfl,A0.ob,J.no (by decide +kernel) (by decide +kernel) (by decide +kernel),_,rfl,j,J,v,rfl,A0,o,n1,λdx H' kk q=>⟨c.S,rfl,R.xc.exc,R.self,λa ha=>⟨_,rfl,m a dx H' kk q ha⟩⟩⟩
  rintro σ H1 ⟨a,dx,rfl,k1,q,h1⟩;exact⟨_,rfl,k a dx H1 k1 q h1⟩
end
structure PAI(X:Cx)(es:List Expr)(t:TA):Prop where
 to:PA X es t
theorem zDj :PAI X [] tNil:=⟨zAb⟩
theorem zAr{e:Expr}{es:List Expr}{te:TE}{t:TA}(ha:PE X e te)(hr:PAI X es t)(hs:notStar e=true:=by rfl):PAI X (e::es) (tCons te t):=⟨zAa ha hr.to (star_cons hs)⟩
theorem zDi{X:Cx}{es:List Expr}{t:TA}{pos:Pos}(h:PAI X es t):PE X (.List es pos) (tLst t):=zAt h.to
def zA8:List Str:=["name","twice","stranger","ring","many","text","bench","row","wood","end","job","window","length","paper","turns","line","other"]
theorem bo_VE:bootBuiltins "ValueError"=some (.type "ValueError"):=by decide +kernel
structure KM(mg:Str->Option Value)(d:Nat->Addr):Prop where
 m0:mg "NoName"=some (.ref (d 0))
 m1:mg "Twice"=some (.ref (d 1))
 m2:mg "Stranger"=some (.ref (d 2))
 m3:mg "Ring"=some (.ref (d 3))
 m4:mg "TooMany"=some (.ref (d 4))
 m5:mg "NoText"=some (.ref (d 5))
 m6:mg "NoBench"=some (.ref (d 6))
 m7:mg "NoRow"=some (.ref (d 7))
 m8:mg "NoWood"=some (.ref (d 8))
 m9:mg "NoEnd"=some (.ref (d 9))
 m10:mg "NoJob"=some (.ref (d 10))
 m11:mg "NoWindow"=some (.ref (d 11))
 m12:mg "NoLength"=some (.ref (d 12))
 m13:mg "NoPaper"=some (.ref (d 13))
 m14:mg "NoTurns"=some (.ref (d 14))
 m15:mg "NoLine"=some (.ref (d 15))
 zv:mg "ValueError"=none
structure KF(K:PySem.W.Frag)(d:Nat->Addr)(C:Addr)(j:Nat):Prop where
 kit:zIe K C=true
 one:∀i,i<16->PySem.W.kitOne K (.ref C) (.ref (d i))=some (decide (i=j))
 ve:PySem.W.kitOne K (.ref C) (.type "ValueError")=some true
section
def spKinds(K:PySem.W.Frag)(d:Nat->Addr):Sp:=λvs H Q _=>∃(a C:Addr)(dd:Option Addr)(j:Nat),vs=[.ref a]/\H a=some (excD a C dd)/\KF K d C j/\j<16/\∀l H',Kp [] H H'->H' l=some (.lst [.str (zA8.getD j "")])->Q (.ref l) H'
abbrev zIq:Stmt:=top 42
theorem zDw:FnScope ["_law_e","_law_some","_law_words"] ["_law_e"] (zAe zIq):=fnS
set_option maxHeartbeats 0 in
theorem ok_kinds{d:Nat->Addr}(F:Fun K "_law_kinds" "_law_kinds" zIq f fd)(T:Txt K mg)(M:KM mg d):FnOk P w K mg base CX0 1 f fd ["_law_e"] (spKinds K d):=by
 refine F.ok zDw (λvs H Q E h=>?_) (λcdv A outer s H vs Q E hr h=>?_)
 .obtain ⟨a,C,dd,j,rfl,_⟩:=h;rfl
 .obtain ⟨a,C,dd,j,rfl,ha,kf,hj,k⟩:=h
  refine⟨_,(@zAc _ _ _ _ _ (@zEc _ _ 1 _ _ _ _ (by exact zDw.nd) (by rfl) (by walk_at"lc") (@zDi _ _ _ _ (zAr (by exact(zAg zBb (by rfl) T.z_isinstance zAf (zAa (pv 0) (zAa (zBd rfl M.m0 (v:=.ref (d 0)) rfl) zAb)))) (zAr (by exact(zAg zBb (by rfl) T.z_isinstance zAf (zAa (pv 0) (zAa (zBd rfl M.m1 (v:=.ref (d 1)) rfl) zAb)))) (zAr (by exact(zAg zBb (by rfl) T.z_isinstance zAf (zAa (pv 0) (zAa (zBd rfl M.m2 (v:=.ref (d 2)) rfl) zAb)))) (zAr (by exact(zAg zBb (by rfl) T.z_isinstance zAf (zAa (pv 0) (zAa (zBd rfl M.m3 (v:=.ref (d 3)) rfl) zAb)))) zDj))))) (by rfl) (by first|exact Or.inl rfl|exact Or.inr rfl)) (@zAc _ _ _ _ _ (@zEc _ _ 1 _ _ _ _ (by exact zDw.nd) (by rfl) (by walk_at "lc") (@zAv _ _ _ _ _ _ _ _ zG8 (by exact (pv 1)) (@zDi _ _ _ _ (zAr (by exact (zAg zBb (by rfl) T.z_isinstance zAf (zAa (pv 0) (zAa (zBd rfl M.m4 (v:=.ref (d 4)) rfl) zAb)))) (zAr (by exact (zAg zBb (by rfl) T.z_isinstance zAf (zAa (pv 0) (zAa (zBd rfl M.m5 (v:=.ref (d 5)) rfl) zAb)))) (zAr (by exact (zAg zBb (by rfl) T.z_isinstance zAf (zAa (pv 0) (zAa (zBd rfl M.m6 (v:=.ref (d 6)) rfl) zAb)))) (zAr (by exact (zAg zBb (by rfl) T.z_isinstance zAf (zAa (pv 0) (zAa (zBd rfl M.m7 (v:=.ref (d 7)) rfl) zAb)))) zDj)))))) (by rfl) (by first| exact Or.inl rfl| exact Or.inr rfl))
   (@zAc _ _ _ _ _ (@zEc _ _ 1 _ _ _ _ (by exact zDw.nd) (by rfl) (by walk_at "lc") (@zAv _ _ _ _ _ _ _ _ zG8 (by exact (pv 1)) (@zDi _ _ _ _ (zAr (by exact (zAg zBb (by rfl) T.z_isinstance zAf (zAa (pv 0) (zAa (zBd rfl M.m8 (v:=.ref (d 8)) rfl) zAb)))) (zAr (by exact (zAg zBb (by rfl) T.z_isinstance zAf (zAa (pv 0) (zAa (zBd rfl M.m9 (v:=.ref (d 9)) rfl) zAb)))) (zAr (by exact (zAg zBb (by rfl) T.z_isinstance zAf (zAa (pv 0) (zAa (zBd rfl M.m10 (v:=.ref (d 10)) rfl) zAb)))) (zAr (by exact (zAg zBb (by rfl) T.z_isinstance zAf (zAa (pv 0) (zAa (zBd rfl M.m11 (v:=.ref (d 11)) rfl) zAb)))) zDj)))))) (by rfl) (by first| exact Or.inl rfl| exact Or.inr rfl))
   (@zAc _ _ _ _ _ (@zEc _ _ 1 _ _ _ _ (by exact zDw.nd) (by rfl) (by walk_at "lc") (@zAv _ _ _ _ _ _ _ _ zG8 (by exact (pv 1)) (@zDi _ _ _ _ (zAr (by exact (zAg zBb (by rfl) T.z_isinstance zAf (zAa (pv 0) (zAa (zBd rfl M.m12 (v:=.ref (d 12)) rfl) zAb)))) (zAr (by exact (zAg zBb (by rfl) T.z_isinstance zAf (zAa (pv 0) (zAa (zBd rfl M.m13 (v:=.ref (d 13)) rfl) zAb)))) (zAr (by exact (zAg zBb (by rfl) T.z_isinstance zAf (zAa (pv 0) (zAa (zBd rfl M.m14 (v:=.ref (d 14)) rfl) zAb)))) (zAr (by exact (zAg zBb (by rfl) T.z_isinstance zAf (zAa (pv 0) (zAa (zBd rfl M.m15 (v:=.ref (d 15)) rfl) zAb)))) zDj)))))) (by rfl) (by first| exact Or.inl rfl| exact Or.inr rfl))
   (@zAc _ _ _ _ _ (by exact (zA4 (zFd qBF qCv qCw zDu (pv 1) (zAa (pe_not (zAg call_isXB (by rfl) T.z_isinstance zAf (zAa (pv 0) (zAa (zBi (by rfl) M.zv bo_VE (v:=.ty "ValueError") rfl) zAb)))) zAb))))
   (@zAc _ _ _ _ _ (@zEc _ _ 2 _ _ _ _ (by exact zDw.nd) (by rfl) (by walk_at "lc") (@zDi _ _ _ _ (zAr zAk (zAr zAk (zAr zAk (zAr zAk (zAr zAk (zAr zAk (zAr zAk (zAr zAk (zAr zAk (zAr zAk (zAr zAk (zAr zAk zDj))))))))))))) (by rfl) (by first| exact Or.inl rfl| exact Or.inr rfl))
   (@zAc _ _ _ _ _ (@zEc _ _ 2 _ _ _ _ (by exact zDw.nd) (by rfl) (by walk_at "lc") (@zAv _ _ _ _ _ _ _ _ zG8 (by exact (pv 2)) (@zDi _ _ _ _ (zAr zAk (zAr zAk (zAr zAk (zAr zAk (zAr zAk zDj))))))) (by rfl) (by first| exact Or.inl rfl| exact Or.inr rfl))
   (by exact(zAd (zAm (zBs rfl (zBt (sc:=zAe zIq) rfl (by decide +kernel)) (Draws.own (x:="_law_k") (dtk (i:=2) rfl (dtk (i:=1) rfl Draws.nil))) (zBc rfl T.z_range (zAa zAh zAb)) (λ_ _ _ _=>(pgB (i:=0))) (λ_ _ _ _=>(zEz (zA7 (zBe (zDb (K:=K)) (pv 2) (pv 0) (λ_ _=>rfl))))) (λ_ _ _ _=>(zBe (zDb (K:=K)) (pv 1) (pv 0) (λ_ _=>rfl)))))))))))))),?_⟩
  refine hid8 ?_;intro _ _ _ _ _ _ _ _;have hs:=qAS;refine⟨_,rfl,a,C,dd,d 0,_,rfl,ha,kf.kit,kf.one 0 (by decide),_,rfl,a,C,dd,d 1,_,rfl,ha,kf.kit,kf.one 1 (by decide),_,rfl,a,C,dd,d 2,_,rfl,ha,kf.kit,kf.one 2 (by decide),_,rfl,a,C,dd,d 3,_,rfl,ha,kf.kit,kf.one 3 (by decide),(by walk_at"ln"),λl1 g1=>?_⟩;have k1:Kp [] H (upd H l1 (.lst [.bl (decide (0=j)),.bl (decide (1=j)),.bl (decide (2=j)),.bl (decide (3=j))])):=Kp.new Kp.refl g1;have h1:upd H l1 (.lst [.bl (decide (0=j)),.bl (decide (1=j)),.bl (decide (2=j)),.bl (decide (3=j))]) l1=some (.lst [.bl (decide (0=j)),.bl (decide (1=j)),.bl (decide (2=j)),.bl (decide (3=j))]):=upd_same;generalize upd H l1 (.lst [.bl (decide (0=j)),.bl (decide (1=j)),.bl (decide (2=j)),.bl (decide (3=j))])=H1 at k1 h1;have e1:=k1 _ _ ha (by simp);refine⟨_,rfl,_,rfl,a,C,dd,d 4,_,rfl,e1,kf.kit,kf.one 4 (by decide),_,rfl,a,C,dd,d 5,_,rfl,e1,kf.kit,kf.one 5 (by decide),_,rfl,a,C,dd,d 6,_,rfl,e1,kf.kit,kf.one 6 (by decide),_,rfl,a,C,dd,d 7,_,rfl,e1,kf.kit,kf.one 7 (by decide),(by walk_at"ln"),λb4 gb4=>?_⟩;have kb4:Kp [] H1 (upd H1 b4 (.lst [.bl (decide (4=j)),.bl (decide (5=j)),.bl (decide (6=j)),.bl (decide (7=j))])):=Kp.new Kp.refl gb4;have hb4:upd H1 b4 (.lst [.bl (decide (4=j)),.bl (decide (5=j)),.bl (decide (6=j)),.bl (decide (7=j))]) b4=some (.lst [.bl (decide (4=j)),.bl (decide (5=j)),.bl (decide (6=j)),.bl (decide (7=j))]):=upd_same;have pb4:=kb4 _ _ h1 (by simp);generalize upd H1 b4 (.lst [.bl (decide (4=j)),.bl (decide (5=j)),.bl (decide (6=j)),.bl (decide (7=j))])=Hb4 at kb4 hb4 pb4;refine⟨_,_,_,_,rfl,rfl,pb4,hb4,(by walk_at"ln"),λl4 gl4=>?_⟩;have kl4:Kp [] Hb4 (upd Hb4 l4 (.lst [.bl (decide (0=j)),.bl (decide (1=j)),.bl (decide (2=j)),.bl (decide (3=j)),.bl (decide (4=j)),.bl (decide (5=j)),.bl (decide (6=j)),.bl (decide (7=j))])):=Kp.new Kp.refl gl4;have hl4:upd Hb4 l4 (.lst [.bl (decide (0=j)),.bl (decide (1=j)),.bl (decide (2=j)),.bl (decide (3=j)),.bl (decide (4=j)),.bl (decide (5=j)),.bl (decide (6=j)),.bl (decide (7=j))]) l4=some (.lst [.bl (decide (0=j)),.bl (decide (1=j)),.bl (decide (2=j)),.bl (decide (3=j)),.bl (decide (4=j)),.bl (decide (5=j)),.bl (decide (6=j)),.bl (decide (7=j))]):=upd_same;show L2.tSeq _ _ _ _ (upd Hb4 l4 (.lst [.bl (decide (0=j)),.bl (decide (1=j)),.bl (decide (2=j)),.bl (decide (3=j)),.bl (decide (4=j)),.bl (decide (5=j)),.bl (decide (6=j)),.bl (decide (7=j))]));generalize upd Hb4 l4 (.lst [.bl (decide (0=j)),.bl (decide (1=j)),.bl (decide (2=j)),.bl (decide (3=j)),.bl (decide (4=j)),.bl (decide (5=j)),.bl (decide (6=j)),.bl (decide (7=j))])=Hl4 at kl4 hl4 ⊢;have el4:=(kb4.trans kl4) _ _ e1 (by simp);refine⟨_,rfl,_,rfl,a,C,dd,d 8,_,rfl,el4,kf.kit,kf.one 8 (by decide),_,rfl,a,C,dd,d 9,_,rfl,el4,kf.kit,kf.one 9 (by decide),_,rfl,a,C,dd,d 10,_,rfl,el4,kf.kit,kf.one 10 (by decide),_,rfl,a,C,dd,d 11,_,rfl,el4,kf.kit,kf.one 11 (by decide),(by walk_at"ln"),λb8 gb8=>?_⟩;have kb8:Kp [] Hl4 (upd Hl4 b8 (.lst [.bl (decide (8=j)),.bl (decide (9=j)),.bl (decide (10=j)),.bl (decide (11=j))])):=Kp.new Kp.refl gb8;have hb8:upd Hl4 b8 (.lst [.bl (decide (8=j)),.bl (decide (9=j)),.bl (decide (10=j)),.bl (decide (11=j))]) b8=some (.lst [.bl (decide (8=j)),.bl (decide (9=j)),.bl (decide (10=j)),.bl (decide (11=j))]):=upd_same;have pb8:=kb8 _ _ hl4 (by simp);generalize upd Hl4 b8 (.lst [.bl (decide (8=j)),.bl (decide (9=j)),.bl (decide (10=j)),.bl (decide (11=j))])=Hb8 at kb8 hb8 pb8;refine⟨_,_,_,_,rfl,rfl,pb8,hb8,(by walk_at"ln"),λl8 gl8=>?_⟩;have kl8:Kp [] Hb8 (upd Hb8 l8 (.lst [.bl (decide (0=j)),.bl (decide (1=j)),.bl (decide (2=j)),.bl (decide (3=j)),.bl (decide (4=j)),.bl (decide (5=j)),.bl (decide (6=j)),.bl (decide (7=j)),.bl (decide (8=j)),.bl (decide (9=j)),.bl (decide (10=j)),.bl (decide (11=j))])):=Kp.new Kp.refl gl8;have hl8:upd Hb8 l8 (.lst [.bl (decide (0=j)),.bl (decide (1=j)),.bl (decide (2=j)),.bl (decide (3=j)),.bl (decide (4=j)),.bl (decide (5=j)),.bl (decide (6=j)),.bl (decide (7=j)),.bl (decide (8=j)),.bl (decide (9=j)),.bl (decide (10=j)),.bl (decide (11=j))]) l8=some (.lst [.bl (decide (0=j)),.bl (decide (1=j)),.bl (decide (2=j)),.bl (decide (3=j)),.bl (decide (4=j)),.bl (decide (5=j)),.bl (decide (6=j)),.bl (decide (7=j)),.bl (decide (8=j)),.bl (decide (9=j)),.bl (decide (10=j)),.bl (decide (11=j))]):=upd_same;show L2.tSeq _ _ _ _ (upd Hb8 l8 (.lst [.bl (decide (0=j)),.bl (decide (1=j)),.bl (decide (2=j)),.bl (decide (3=j)),.bl (decide (4=j)),.bl (decide (5=j)),.bl (decide (6=j)),.bl (decide (7=j)),.bl (decide (8=j)),.bl (decide (9=j)),.bl (decide (10=j)),.bl (decide (11=j))]));generalize upd Hb8 l8 (.lst [.bl (decide (0=j)),.bl (decide (1=j)),.bl (decide (2=j)),.bl (decide (3=j)),.bl (decide (4=j)),.bl (decide (5=j)),.bl (decide (6=j)),.bl (decide (7=j)),.bl (decide (8=j)),.bl (decide (9=j)),.bl (decide (10=j)),.bl (decide (11=j))])=Hl8 at kl8 hl8 ⊢;have el8:=(kb8.trans kl8) _ _ el4 (by simp);refine⟨_,rfl,_,rfl,a,C,dd,d 12,_,rfl,el8,kf.kit,kf.one 12 (by decide),_,rfl,a,C,dd,d 13,_,rfl,el8,kf.kit,kf.one 13 (by decide),_,rfl,a,C,dd,d 14,_,rfl,el8,kf.kit,kf.one 14 (by decide),_,rfl,a,C,dd,d 15,_,rfl,el8,kf.kit,kf.one 15 (by decide),(by walk_at"ln"),λb12 gb12=>?_⟩;have kb12:Kp [] Hl8 (upd Hl8 b12 (.lst [.bl (decide (12=j)),.bl (decide (13=j)),.bl (decide (14=j)),.bl (decide (15=j))])):=Kp.new Kp.refl gb12;have hb12:upd Hl8 b12 (.lst [.bl (decide (12=j)),.bl (decide (13=j)),.bl (decide (14=j)),.bl (decide (15=j))]) b12=some (.lst [.bl (decide (12=j)),.bl (decide (13=j)),.bl (decide (14=j)),.bl (decide (15=j))]):=upd_same;have pb12:=kb12 _ _ hl8 (by simp);generalize upd Hl8 b12 (.lst [.bl (decide (12=j)),.bl (decide (13=j)),.bl (decide (14=j)),.bl (decide (15=j))])=Hb12 at kb12 hb12 pb12;refine⟨_,_,_,_,rfl,rfl,pb12,hb12,(by walk_at"ln"),λl12 gl12=>?_⟩;have kl12:Kp [] Hb12 (upd Hb12 l12 (.lst [.bl (decide (0=j)),.bl (decide (1=j)),.bl (decide (2=j)),.bl (decide (3=j)),.bl (decide (4=j)),.bl (decide (5=j)),.bl (decide (6=j)),.bl (decide (7=j)),.bl (decide (8=j)),.bl (decide (9=j)),.bl (decide (10=j)),.bl (decide (11=j)),.bl (decide (12=j)),.bl (decide (13=j)),.bl (decide (14=j)),.bl (decide (15=j))])):=Kp.new Kp.refl gl12;have hl12:upd Hb12 l12 (.lst [.bl (decide (0=j)),.bl (decide (1=j)),.bl (decide (2=j)),.bl (decide (3=j)),.bl (decide (4=j)),.bl (decide (5=j)),.bl (decide (6=j)),.bl (decide (7=j)),.bl (decide (8=j)),.bl (decide (9=j)),.bl (decide (10=j)),.bl (decide (11=j)),.bl (decide (12=j)),.bl (decide (13=j)),.bl (decide (14=j)),.bl (decide (15=j))]) l12=some (.lst [.bl (decide (0=j)),.bl (decide (1=j)),.bl (decide (2=j)),.bl (decide (3=j)),.bl (decide (4=j)),.bl (decide (5=j)),.bl (decide (6=j)),.bl (decide (7=j)),.bl (decide (8=j)),.bl (decide (9=j)),.bl (decide (10=j)),.bl (decide (11=j)),.bl (decide (12=j)),.bl (decide (13=j)),.bl (decide (14=j)),.bl (decide (15=j))]):=upd_same;show L2.tSeq _ _ _ _ (upd Hb12 l12 (.lst [.bl (decide (0=j)),.bl (decide (1=j)),.bl (decide (2=j)),.bl (decide (3=j)),.bl (decide (4=j)),.bl (decide (5=j)),.bl (decide (6=j)),.bl (decide (7=j)),.bl (decide (8=j)),.bl (decide (9=j)),.bl (decide (10=j)),.bl (decide (11=j)),.bl (decide (12=j)),.bl (decide (13=j)),.bl (decide (14=j)),.bl (decide (15=j))]));generalize upd Hb12 l12 (.lst [.bl (decide (0=j)),.bl (decide (1=j)),.bl (decide (2=j)),.bl (decide (3=j)),.bl (decide (4=j)),.bl (decide (5=j)),.bl (decide (6=j)),.bl (decide (7=j)),.bl (decide (8=j)),.bl (decide (9=j)),.bl (decide (10=j)),.bl (decide (11=j)),.bl (decide (12=j)),.bl (decide (13=j)),.bl (decide (14=j)),.bl (decide (15=j))])=Hl12 at kl12 hl12 ⊢;have el12:=(kb12.trans kl12) _ _ el8 (by simp);refine⟨_,rfl,.inl ⟨rfl,_,SqL.of hl12⟩,_,rfl,a,C,dd,"ValueError",true,rfl,el12,kf.kit,kf.ve,_,rfl,_,_,_,rfl,rfl,hl12,(by walk_at"ln"),?_⟩;have k13:Kp [l12] Hl12 (upd Hl12 l12 (.lst ((List.range 17).map λi=>V.bl (decide (i=j))))):=Kp.put Kp.refl (by simp);have h13:upd Hl12 l12 (.lst ((List.range 17).map λi=>V.bl (decide (i=j)))) l12=some (.lst ((List.range 17).map λi=>V.bl (decide (i=j)))):=upd_same
  have ee:([.bl (decide (0=j)),.bl (decide (1=j)),.bl (decide (2=j)),.bl (decide (3=j)),.bl (decide (4=j)),.bl (decide (5=j)),.bl (decide (6=j)),.bl (decide (7=j)),.bl (decide (8=j)),.bl (decide (9=j)),.bl (decide (10=j)),.bl (decide (11=j)),.bl (decide (12=j)),.bl (decide (13=j)),.bl (decide (14=j)),.bl (decide (15=j))]++[V.bl (!true)]:List V)=(List.range 17).map λi=>V.bl (decide (i=j)):=by
   have:decide (16=j)=false:=qAO (by lia);show _=[V.bl (decide (0=j)),V.bl (decide (1=j)),V.bl (decide (2=j)),V.bl (decide (3=j)),V.bl (decide (4=j)),V.bl (decide (5=j)),V.bl (decide (6=j)),V.bl (decide (7=j)),V.bl (decide (8=j)),V.bl (decide (9=j)),V.bl (decide (10=j)),V.bl (decide (11=j)),V.bl (decide (12=j)),V.bl (decide (13=j)),V.bl (decide (14=j)),V.bl (decide (15=j)),V.bl (decide (16=j))];rw[this];rfl
  rw[ee];have fl:Fre H l12:=((k1.trans (kb4.trans kl4)).trans ((kb8.trans kl8).trans kb12)).fre gl12 (by simp);have k0:Kp [] H Hl12:=(k1.trans (kb4.trans kl4)).trans ((kb8.trans kl8).trans (kb12.trans kl12));generalize upd Hl12 l12 (.lst ((List.range 17).map λi=>V.bl (decide (i=j))))=H13 at k13 h13 ⊢;have k013:Kp [] H H13:=λb o hb _=>k13 b o (k0 b o hb (by simp)) (nm1 (zAi hb fl));refine⟨(by walk_at"ln"),λw1 q1=>?_⟩;have k14:Kp [] H13 (upd H13 w1 (.lst ((zA8.take 12).map V.str))):=Kp.new Kp.refl q1;have h14:upd H13 w1 (.lst ((zA8.take 12).map V.str)) w1=some (.lst ((zA8.take 12).map V.str)):=upd_same;show L2.tSeq _ _ _ _ (upd H13 w1 (.lst ((zA8.take 12).map V.str)));generalize upd H13 w1 (.lst ((zA8.take 12).map V.str))=H14 at k14 h14 ⊢;refine⟨_,rfl,(by walk_at"ln"),λw2 q2=>?_⟩;have k15:Kp [] H14 (upd H14 w2 (.lst [V.str "length",V.str "paper",V.str "turns",V.str "line",V.str "other"])):=Kp.new Kp.refl q2;have h15:upd H14 w2 (.lst [V.str "length",V.str "paper",V.str "turns",V.str "line",V.str "other"]) w2=some (.lst [V.str "length",V.str "paper",V.str "turns",V.str "line",V.str "other"]):=upd_same;have h14':=k15 _ _ h14 (by simp);refine⟨w1,w2,(zA8.take 12).map V.str,(zA8.drop 12).map V.str,rfl,rfl,h14',h15,by rw[hs];decide,λw3 q3=>?_⟩;have k16:Kp [] (upd H14 w2 (.lst [V.str "length",V.str "paper",V.str "turns",V.str "line",V.str "other"])) (upd (upd H14 w2 (.lst [V.str "length",V.str "paper",V.str "turns",V.str "line",V.str "other"])) w3 (.lst (zA8.map V.str))):=Kp.new Kp.refl q3;have h16:upd (upd H14 w2 (.lst [V.str "length",V.str "paper",V.str "turns",V.str "line",V.str "other"])) w3 (.lst (zA8.map V.str)) w3=some (.lst (zA8.map V.str)):=upd_same;rw[<-qAb,qBd];generalize upd (upd H14 w2 (.lst [V.str "length",V.str "paper",V.str "turns",V.str "line",V.str "other"])) w3 (.lst (zA8.map V.str))=H16 at k16 h16 ⊢;have hS:=(k14.trans (k15.trans k16)) _ _ h13 (by simp);have k016:=k013.trans (k14.trans (k15.trans k16));refine⟨_,rfl,(by decide),(by decide),λD hD=>zIf (lo:=0) (n:=17) (λi ys τ H'=>(∃o0,τ=[o0,some (.ref w3),some (.ref l12)])/\ys=(if j<i then[V.str (zA8.getD j "")]else[])/\H'=upd H16 D (.lst ys)) ⟨⟨_,rfl⟩,by simp,rfl⟩ ?_ ?_⟩
  .rintro i ys τ H' hi ⟨⟨o0,rfl⟩,rfl,rfl⟩;have hS':=(upd_ne (o:=.lst (if j<i then[V.str (zA8.getD j "")]else[])) (ne_fre (show Fre H16 D from hD) hS)).trans hS;have hW':=(upd_ne (o:=.lst (if j<i then[V.str (zA8.getD j "")]else[])) (ne_fre (show Fre H16 D from hD) h16)).trans h16;have ai:atI ((List.range 17).map λi=>V.bl (decide (i=j))) (0+(i:Int))=some (.bl (decide (i=j))):=zA9 (by lia) (by rw[show(0+(i:Int)).toNat=i by lia,qAN,qC9 hi];rfl);refine⟨_,rfl,_,rfl,_,_,_,_,rfl,rfl,SqL.of hS',ai,_,rfl,?_⟩
   by_cases c:i=j
   .subst c;rw[qAP rfl];refine iteT ?_;have wl:i<zA8.length:=hi;have aw:atI (zA8.map V.str) (0+(i:Int))=some (.str (zA8.getD i "")):=zA9 (by lia) (by rw[show(0+(i:Int)).toNat=i by lia,qAN,qAx,qAa wl];rfl);refine⟨_,rfl,_,rfl,_,_,_,_,rfl,rfl,SqL.of hW',aw,upd_same,?_,⟨_,rfl⟩,?_,zCg⟩
    .rw [qAB (qAv _),hs];decide
    .rw [qAB (qAv _),qAC (qCF _)];rfl
   .rw [qAO c];refine iteF ?_
    have e:(if j<i+1 then[V.str (zA8.getD j "")]else[])=(if j<i then[V.str (zA8.getD j "")]else[]):=by
     by_cases z:j<i
     .rw [qAC z,qAC (by lia)]
     .rw [qAB z,qAB (by lia)]
    exact⟨⟨_,rfl⟩,e.symm,rfl⟩
  .rintro ys τ H' ⟨_,rfl,rfl⟩;rw[qAC (by lia)];exact k D _ (Kp.new k016 (k016.fre hD (by simp))) upd_same
end
structure Mth(P:Program)(w:World)(K:PySem.W.Frag)(mg:Str->Option Value)(base:Heap)(C:Addr)(m:Str)(k:Nat)(ps:List Str)(sp:Sp):Prop where
 to:∃(f:Addr)(fd:FuncData),Meth K C m f/\zCe K fd ps []/\FnOk P w K mg base CX0 k f fd ps sp
theorem pe_methC0{C:Addr}{m:Str}{k:Nat}{ps:List Str}{sp:Sp}{o:Expr}{apos:Pos}{ta:TE}{pl:Sem Bool}(M:Mth X.prog X.w X.K X.mg X.base C m k ps sp)(c:Cls X.K C)(hr:Room k X.A)(he:PE X o ta)
  (ht:eval (.Call (.Attribute o m apos) [] [] pos) X.env=(do
   let ov<-eval o X.env
   standAt apos.atName
   let(f,first)<-holding [ov] (getMethod ov m pl)
   callWith pos f first (backTo pos (starEach [] X.env)) (backToKw pos (keywordEach [] X.env))):=by rfl):PE X (.Call (.Attribute o m apos) [] [] pos) (tMeth C m sp [] E0 ta tNil):=by
 obtain⟨f,fd,h1,h2,h3⟩:=M.to;exact pe_meth0 he c h1 h3 hr h2 .nil pass0 ht
structure JI(K:PySem.W.Frag)(C:Addr):Prop where
 a:PySem.W.findIn K (.ref C) "__class__"=some (some (.builtin "object.__class__"))
 n:PySem.W.specialIn K (.builtin "object.__class__") "__get__"=some (some (.builtin "getset_descriptor.__get__"))
 t:PySem.W.takesIn K (.builtin "object.__class__")=some true
 m:PySem.W.mroIn K C (.type "object")=some true
theorem zGr{K:PySem.W.Frag}{n:Nat}{ns:List Str}:∀(i:Nat)(x y:V),(ns.map V.str)[i]?=some x->(ns.map V.str)[i]?=some y->Alike K H n x y:=λi x y e1 e2=>by
 rw[e1]at e2
 cases e2
 obtain⟨n,_,rfl⟩:=zEr e1;exact .flat rfl
structure KX(K:PySem.W.Frag)(d:Nat->Addr)(CB C:Addr)(j:Nat):Prop where
 kf:KF K d C j
 b:PySem.W.kitOne K (.ref C) (.ref CB)=some true
 x:excB K C=true
 s:(mroK K C).contains (.ref CB)=true
def ofL(ds:List Addr)(i:Nat):Addr:=ds.getD i 0
def kxB(K:PySem.W.Frag)(ds:List Addr)(CB C:Addr)(j:Nat):Bool:=zIe K C&&(PySem.W.kitOne K (.ref C) (.ref CB)==some true)&&(PySem.W.kitOne K (.ref C) (.type "ValueError")==some true)&&(PySem.W.kitAny K (.ref C) ((ds.eraseIdx j).map Value.ref)==some false)
theorem zIa{K:PySem.W.Frag}{t:Value}:∀{cs:List Value},PySem.W.kitAny K t cs=some false->∀c∈cs,PySem.W.kitOne K t c=some false
 |c::r,h,x,hx=>by
  unfold PySem.W.kitAny at h;split at h
  .cases h
  .rename_i e;rcases qAL.mp hx with rfl|hx
   .exact e
   .exact zIa h x hx
  .cases h
theorem KX.of{K:PySem.W.Frag}{ds:List Addr}{CB C:Addr}{j:Nat}(h:kxB K ds CB C j=true)(x:excB K C=true)(s:(mroK K C).contains (.ref CB)=true)(e:ofL ds j=C)(l:ds.length=16):KX K (ofL ds) CB C j:=by
 unfold kxB at h;simp only[qA3,qA7]at h;obtain⟨⟨⟨h1,h2⟩,h3⟩,h4⟩:=h;refine⟨⟨h1,λi hi=>?_,h3⟩,h2,x,s⟩
 by_cases c:i=j
 .subst c;rw[e,qAP rfl];exact zB8 (by simp)
 .rw [qAO c];refine zIa h4 _ (qAM.mpr ⟨ofL ds i,?_,rfl⟩);refine List.mem_eraseIdx_iff_getElem.mpr ⟨i,by lia,c,?_⟩;unfold ofL;rw[qAx,qAa (by lia)];rfl
structure KN(K:PySem.W.Frag)(C:Addr)(f:Str):Prop where
 gt:XGet K C
 nr:zDf K C f
theorem mem_letters(c:Nat):decide (c∈zBv.cps.toList)=(decide (97<=c)&&decide (c<=122)):=by
 rw[zDa,qBk,qBs,qA3,qBs,qBs,qAM];constructor
 .rintro ⟨a,ha,rfl⟩;have:=qAw.mp ha;lia
 .intro h;exact⟨c-97,qAw.mpr (by lia),by lia⟩
section
abbrev zEi:Stmt:=top 44
theorem sc_lis_name:FnScope ["_law_thing_here"] ["_law_thing_here"] (zAe zEi):=fnS
theorem ok_lis_name(F:Fun K "_law_is_name" "_law_is_name" zEi f fd)(T:Txt K mg):FnOk P w K mg base CX0 1 f fd ["_law_thing_here"] zGx:=by
 refine F.ok sc_lis_name (λvs H Q E h=>?_) (λcdv A outer s H vs Q E hr h=>?_)
 .obtain ⟨x,rfl,_⟩:=h;rfl
 .obtain ⟨v,rfl,o,k⟩:=h
  refine⟨_,(zAc (zA1 (PW.pt (pw_or (zCl (zA7 (zAg zA6 (by rfl) T.z_isinstance zAf (zAa (pv 0) (zAa (zBi (by rfl) T.z_str zIh (v:=.ty "str") rfl) zAb))))) (pw_or (zAo op_lt (zAg zDd (by rfl) T.z_len zBr (zAa (pv 0) zAb)) zAh (zAq _)) (zH3 (zAo op_gt (zAg zDd (by rfl) T.z_len zBr (zAa (pv 0) zAb)) zAh (zAq _)))))) (zAd (zAm zD1)) zAl) (zAd (zAm (zAg (zGk _ rfl) (by rfl) T.z_all bo_all (zAa (zBs rfl (zBt (sc:=zAe zEi) rfl (by decide +kernel)) (Draws.own (x:="_law_sign") Draws.nil) (pi_str (pv 0)) (λ_ _ _ _=>(pgB (i:=0))) (λ_ _ _ _=>zB6) (λ_ _ _ _=>(zBh op_in_str (pv 0) zAk (by rfl)))) zAb))))),?_⟩
  refine hid2 ?_;intro _ _;rcases o.ty (K:=K)with⟨x,rfl,hx,_⟩|⟨t,h1,h2,h3⟩
  rotate_left
  .refine ⟨_,rfl,_,_,_,_,rfl,h1,h2,_,rfl,iteT ?_⟩
   have:nmV v=false:=by
    cases v with
    |str x=>exact absurd rfl (h3 x)
    |_=>rfl
   rw[<-this];exact k H Kp.refl
  have hs:=qAS;have no:∀h:zDk x=false,Q (.bl false) H:=λe=>by have:=k H Kp.refl;rwa [show nmV (.str x)=false from e]at this
  refine⟨_,rfl,_,_,_,_,rfl,TyOf.str x,zB8,_,rfl,iteF ?_⟩;refine⟨_,rfl,_,rfl,by rw[hs];lia,_,_,rfl,rfl,_,rfl,ite2 (λc=>?_) (λc=>?_)⟩
  .refine no ?_;have:=qA1 c;unfold zDk;rw[qAO (show¬1<=x.length by lia)];simp
  have c1:1<=x.length:=qA8 λz=>c (qAP (by lia));refine⟨_,rfl,_,rfl,by rw[hs];lia,_,_,rfl,rfl,_,rfl,ite2 (λc=>?_) (λc=>?_)⟩
  .refine no ?_;have:=qA1 c;unfold zDk;rw[qAO (show¬x.length<=8 by lia)];simp
  have c2:x.length<=8:=qA8 λz=>c (qAP (by lia));refine⟨_,rfl,_,rfl,λD hD=>zHl (z:=x) (λi ys τ H'=>(∃o0,τ=[o0])/\ys=((x.cps.toList.take i).map λc=>V.bl (decide (97<=c)&&decide (c<=122)))/\H'=upd H D (.lst ys)) ⟨⟨_,rfl⟩,rfl,rfl⟩ ?_ ?_⟩
  .rintro i c ys τ H' hc ⟨⟨o0,rfl⟩,rfl,rfl⟩;have ei:x.cps.toList.take (i+1)=x.cps.toList.take i++[c]:=by rw[qCU,hc];rfl
   have hlen:x.cps.toList.length=x.length:=by simp[Str.length]
   refine⟨_,rfl,_,_,rfl,rfl,upd_same,?_,⟨_,rfl⟩,?_,zCg⟩
   .rw [qAE,qAd,hs];lia
   .rw [ei,qAb];have e:(!(Builtin.Str.occurrences zBv ⟨#[c]⟩ 0 zBv.length 1).isEmpty)=(decide (97<=c)&&decide (c<=122)):=by rw[one_in,mem_letters]
    show _++[V.bl (!(Builtin.Str.occurrences zBv ⟨#[c]⟩ 0 zBv.length 1).isEmpty)]=_;rw[e];rfl
  .rintro ys τ H' ⟨_,rfl,rfl⟩;refine⟨D,x.cps.toList.map λc=>(decide (97<=c)&&decide (c<=122)),rfl,SqL.of ?_,?_⟩
   .rw [upd_same,qBR,qBQ (by simp[Str.length])];rfl
   .have e:zDk x=((x.cps.toList.map λc=>(decide (97<=c)&&decide (c<=122))).all id):=by
     unfold zDk;rw[qAP c1,qAP c2,List.all_map];rfl
    rw[<-e];exact k _ (Kp.new Kp.refl hD)
end
def Dt(H:Hp)(v:V)(s:Str)(u:V):Prop:=∃t,v= .ref t/\H t=some (.tup [.str s,u])
def DueAt(H:Hp)(v:V)(ns:List Str):Du->Prop
 | .many=>Dt H v "many" .non
 | .name x=>Dt H v "name" x
 | .twice=>∃i n,TwAt ns i n/\Dt H v "twice" (.str n)
 | .strange x=>Dt H v "stranger" x
 | .ring=>Dt H v "ring" .non
 | .fine=>v= .non
section
def spDue:Sp:=λas H Q _=>∃(l m:Addr)(vs:List V) (ts:List (Addr×V×V)),as=[.ref l,.ref m]/\Rw H l vs/\Pw H m ts/\vs.length<=1000/\ts.length<=306/\∀v H',Kp [] H H'->DueAt H' v (vs.map strV) (zCu vs ts)->Q v H'
abbrev s_due:Stmt:=top 49
theorem sc_due:FnScope ["_law_row","_law_pairs_here","_law_thing_here","_law_k","_law_pair","_law_part"] ["_law_row","_law_pairs_here"] (zAe s_due):=fnS
theorem ok_due(F:Fun K "_law_due" "_law_due" s_due f fd)(T:Txt K mg)(C_is_name:Cal P w K mg base "_law_is_name" 1 ["_law_thing_here"] zGx)(C_goes_round:Cal P w K mg base "_law_goes_round" 1 ["_law_names_here","_law_orders"] zGy):FnOk P w K mg base CX0 2 f fd ["_law_row","_law_pairs_here"] spDue:=by
 refine F.ok sc_due (λvs H Q E h=>?_) (λcdv A outer s H vs Q E hr h=>?_)
 .obtain ⟨l,m,vs,ts,rfl,_⟩:=h;rfl
 .obtain ⟨l,m,vs,ts,rfl,rw0,pw0,lv,lt,k⟩:=h
  refine⟨_,(zAc (zA1 (zAo op_gt (zAg zAn (by rfl) T.z_len zBr (zAa (pv 0) zAb)) zAh (zAq _)) (zAd (zAm (zBg (zAa zAk (zAa zEe zAb))))) zAl) (zAc (zBk qAr rfl (zA5 (pv 0)) (pgN (i:=2) sc_due.nd)
    (zAd (zA1 (zCl (zA7 (zAj C_is_name hr rfl (zAa (pv 2) zAb))))
     (zAd (zAm (zBg (zAa zAk (zAa (pv 2) zAb)))))
     zAl)))
   (zAc (zBk qAr rfl (zBc rfl T.z_range (zAa (zAg zAn (by rfl) T.z_len zBr (zAa (pv 0) zAb)) zAb)) (pgN (i:=3) sc_due.nd)
    (zAd (zA1 (zAo zFg (zBe zAw (pv 0) (pv 3) (fun _ _=>rfl)) (zEk zFq (pv 0) zFv (zFu (pv 3))) (by rfl))
     (zAd (zAm (zBg (zAa zAk (zAa (zBe zAw (pv 0) (pv 3) (λ_ _=>rfl)) zAb)))))
     zAl)))
   (zAc (zBk qAr rfl (zA5 (pv 1)) (pgN (i:=4) sc_due.nd)
    (zAd (zBk qAr rfl (pi_tup (pv 4)) (pgN (i:=5) sc_due.nd)
     (zAd (zA1 (PW.pt (pw_or (zCl (zA7 (zAg zA6 (by rfl) T.z_isinstance zAf (zAa (pv 5) (zAa (zBi (by rfl) T.z_str zIh (v:=.ty "str") rfl) zAb))))) (zH3 (zAo zC9 (pv 5) (pv 0) (by rfl)))))
      (zAd (zAm (zBg (zAa zAk (zAa (pv 5) zAb)))))
      zAl)))))
   (zAc (zA1 (zA7 (zAj C_goes_round hr rfl (zAa (pv 0) (zAa (pv 1) zAb))))
    (zAd (zAm (zBg (zAa zAk (zAa zEe zAb)))))
    zAl)
   (zAd (zAm zEe))))))),?_⟩
  refine hid6 ?_;intro _ _ _ _ _ _;have hs:=qAS;have kd:∀{d:Du},zCu vs ts=d->∀v H',Kp [] H H'->DueAt H' v (vs.map strV) d->Q v H':=λe v H' k1 h=>k v H' k1 (by rw[e];exact h);clear k;refine⟨_,rfl,_,_,rfl,.inl (SqL.of rw0.top),_,_,rfl,rfl,_,rfl,ite2 (λc=>?_) (λc=>?_)⟩
  .have c:20<vs.length:=by have:=qA1 c;lia
   exact⟨(by walk_at"ln"),λt gt=>kd (due_n (d:=.many) (by unfold nDue;rw[qAC c])) _ _ (Kp.new Kp.refl gt) ⟨t,rfl,upd_same⟩⟩
  have few:¬20<vs.length:=λz=>c (qAP (by lia));clear c;refine⟨_,rfl,_,rfl,⟨_,SqL.of rw0.top⟩,zCa (λi σ H2=>(∃o2 o3 o4 o5:Option V,σ=[some (.ref l),some (.ref m),o2,o3,o4,o5])/\Kp [] H H2/\∀x∈vs.take i,(!nmV x)=false) ⟨⟨_,_,_,_,rfl⟩,Kp.refl,by simp⟩ (λi σ H2 _ ⟨_,k3,_⟩=>SqL.of (k3 l _ rw0.top (by simp))) ?_ ?_⟩
  .rintro i v σ H2 hv ⟨⟨o2,o3,o4,o5,rfl⟩,k3,a3⟩;refine⟨_,rfl,v,rfl,(rw0.odd v (qAT hv)).kp0 k3,λH3 k4=>?_⟩;have k34:=k3.trans k4
   cases e:nmV v with
   |true=>exact⟨_,rfl,iteF ⟨⟨_,_,_,_,rfl⟩,k34,zF9 a3 hv (by rw[e];rfl)⟩⟩
   |false=>exact⟨_,rfl,iteT ⟨_,rfl,(by walk_at"ln"),λt gt=>kd (due_n (d:=.name v) (by unfold nDue;rw[qAB few,find_at a3 hv (by rw[e];rfl)])) _ _ (Kp.new k34 (k34.fre gt (by simp))) ⟨t,rfl,upd_same⟩⟩⟩
  rintro σ H1 ⟨⟨o2,o3,o4,o5,rfl⟩,k1,a3⟩;rw[qAq]at a3;obtain⟨es,nm⟩:=strs_of (vs:=vs) λv hv=>by simpa using a3 v hv
  have ee:∀d,(if(vs.map strV).Nodup then none else some .twice)=d->nDue vs=d:=λd h=>by unfold nDue;rw[qAB few,zFy a3];exact h
  have hl:Txs H l (vs.map strV):=by show H l=_;rw[es];exact rw0.top
  have ll:vs.length=(vs.map strV).length:=(qAE ..).symm;have kp:∀v,(vs.map strV).Nodup->(zCt ts).find? (λv=>!zBl v (vs.map strV))=some v->zCu vs ts= .strange v:=λv nd e=>due_p (ee _ (qAC nd)) e;have kr:(vs.map strV).Nodup->(zCt ts).find? (λv=>!zBl v (vs.map strV))=none->zCu vs ts=if zBw (qsOf ts) (vs.map strV).length (vs.map strV)=[]then .fine else .ring:=λnd e=>by rw[due_r (ee _ (qAC nd)) e,ll]
  have kt:¬(vs.map strV).Nodup->zCu vs ts= .twice:=λnd=>due_n (ee _ (qAB nd));rw[ll]at few;clear a3 ee ll rw0 lv es;generalize vs.map strV=ns at *
  have c:ns.length<=20:=by lia
  refine⟨_,rfl,_,_,rfl,.inl (SqL.of (k1 _ _ hl (by simp))),?_⟩;rw[qAE];refine⟨_,rfl,by lia,by lia,zBm (lo:=0) (n:=(ns.length:Int).toNat) (λi σ H2=>(∃o2 o3 o4 o5:Option V,σ=[some (.ref l),some (.ref m),o2,o3,o4,o5])/\Kp [] H H2/\(ns.take i).Nodup) ⟨⟨_,_,_,_,rfl⟩,k1,by simp⟩ ?_ ?_⟩
  .rintro i σ H2 hi ⟨⟨o2,o3,o4,o5,rfl⟩,k2,nd⟩;have hi:i<ns.length:=by lia
   have en:ns[i]?=some ns[i]:=qAa hi;have hl2:=k2 _ _ hl (by simp);have ai:atI (ns.map V.str) (0+(i:Int))=some (.str ns[i]):=zA9 (by lia) (by rw[show(0+(i:Int)).toNat=i by lia,qAN,en];rfl);refine⟨_,rfl,_,rfl,_,_,_,_,rfl,rfl,SqL.of hl2,ai,_,rfl,_,rfl,_,rfl,_,_,rfl,SqL.of hl2,λb gb=>?_⟩;rw[cut_to _ (by lia),show(0+(i:Int)).toNat=i by lia,<-qCp];have k3:Kp [] H2 (upd H2 b (.lst ((ns.take i).map V.str))):=Kp.new Kp.refl gb;refine⟨b,_,rfl,.inl (SqL.of upd_same),rfl,zCb _,_,rfl,?_⟩;generalize upd H2 b (.lst ((ns.take i).map V.str))=H3 at k3;have hl3:=k3 _ _ hl2 (by simp);rw[show(if false=true then !inV (V.str ns[i]) ((ns.take i).map V.str)else inV (V.str ns[i]) ((ns.take i).map V.str))=decide (ns[i]∈ns.take i)from zD4 _ _];refine ite2 (λc2=>?_) (λc2=>?_)
   .have tw:TwAt ns i ns[i]:=⟨en,qA1 c2,nd⟩;refine⟨_,rfl,_,rfl,_,_,_,_,rfl,rfl,SqL.of hl3,ai,(by walk_at"ln"),λt gt=>?_⟩;exact kd (kt tw.not) _ _ (Kp.new (k2.trans k3) ((k2.trans k3).fre gt (by simp))) ⟨i,_,tw,t,rfl,upd_same⟩
   .have c2:ns[i]∉ns.take i:=λz=>c2 (qAP z);refine⟨⟨_,_,_,_,rfl⟩,k2.trans k3,?_⟩;rw[zAp en];exact qBp.mpr ⟨nd,by simp,λx hx y hy=>by rw[qAQ.mp hy];exact λz=>c2 (z▸hx)⟩
  rintro σ H2 ⟨⟨o2,o3,o4,o5,rfl⟩,k2,nd⟩;rw[qCf,qAq]at nd;have hm:=pw0.kp k2;have hl2:=k2 _ _ hl (by simp);refine⟨_,rfl,_,rfl,⟨_,SqL.of hm.top⟩,zCa (λi σ H3=>(∃o2 o3 o4 o5:Option V,σ=[some (.ref l),some (.ref m),o2,o3,o4,o5])/\H3=H2/\∀x∈zCt (ts.take i),(!zBl x ns)=false) ⟨⟨_,_,_,_,rfl⟩,rfl,by simp[zCt]⟩ (λi σ H3 _ ⟨_,e,_⟩=>by subst e;exact SqL.of hm.top) ?_ ?_⟩
  .rintro i v σ H3 hv ⟨⟨o2,o3,o4,o5,rfl⟩,rfl,a2⟩;obtain⟨t,et,rfl⟩:=ref_of hv;have mt:=qAT et;obtain⟨ep,r,er⟩:=parts_at et;refine⟨_,rfl,_,rfl,⟨_,.inl (.inl (hm.row t mt))⟩,for_tup (λj σ H4=>(∃o2 o3 o5:Option V,σ=[some (.ref l),some (.ref m),o2,o3,some (.ref t.1),o5])/\H4=H3/\∀x∈[t.2.1,t.2.2].take j,(!zBl x ns)=false) ⟨⟨_,_,_,rfl⟩,rfl,by simp⟩ (λj σ H4 _ ⟨_,e,_⟩=>by subst e;exact .inl (.inl (hm.row t mt))) ?_ ?_⟩
   .rintro j v σ H4 hv ⟨⟨o2,o3,o5,rfl⟩,rfl,a3⟩;have bad:zBl v ns=false->∀t,H4 t=none->Q (.ref t) (upd H4 t (.tup [.str "stranger",v])):=λq t gt=>kd (kp v nd (zH4 er hv a2 a3 (by rw[q];rfl))) _ _ (Kp.new k2 (k2.fre gt (by simp))) ⟨t,rfl,upd_same⟩;rcases(hm.odd v (qCb.mpr ⟨t,mt,qAT hv⟩)).ty (K:=K)with⟨x,rfl,_⟩|⟨ty,h1,h2,h3⟩
    .refine ⟨_,rfl,_,_,_,_,rfl,TyOf.str x,zB8,_,rfl,iteF ?_⟩;refine⟨_,rfl,_,rfl,l,_,rfl,.inl (SqL.of hl2),rfl,zCb _,_,rfl,?_⟩;rw[show(if true=true then !inV (V.str x) (ns.map V.str)else inV (V.str x) (ns.map V.str))= !zBl (.str x) ns by rw[zD4];rfl]
     cases e:zBl (.str x) ns with
     |true=>exact iteF ⟨⟨_,_,_,rfl⟩,rfl,zF9 a3 hv (by rw[e];rfl)⟩
     |false=>exact iteT ⟨_,rfl,(by walk_at"ln"),bad e⟩
    .refine ⟨_,rfl,_,_,_,_,rfl,h1,h2,_,rfl,iteT ⟨_,rfl,(by walk_at"ln"),bad ?_⟩⟩
     cases v with
     |str x=>exact absurd rfl (h3 x)
     |_=>rfl
   .rintro σ H4 ⟨⟨o2,o3,o5,rfl⟩,rfl,a3⟩;refine⟨⟨_,_,_,_,rfl⟩,rfl,λx hx=>?_⟩;rw[ep]at hx;rcases qAY.mp hx with z|z
    .exact a2 x z
    .exact a3 x z
  rintro σ H3 ⟨⟨o2,o3,o4,o5,rfl⟩,rfl,a2⟩;rw[qAE,qAq]at a2;have pn:=zFy a2;have kr:=kr nd pn;refine⟨_,rfl,_,rfl,l,m,ns,qsOf ts,rfl,hl2,(ords_of hm pn).1,c,by unfold qsOf;rw[qAE];exact lt,λH4 k4=>?_⟩;have k24:=k2.trans k4
  by_cases z:zBw (qsOf ts) ns.length ns=[]
  .rw [qAC z]at kr;rw[z];exact⟨_,rfl,iteF (kd kr _ _ k24 rfl)⟩
  .rw [qAB z]at kr;rw[show(zBw (qsOf ts) ns.length ns).isEmpty=false by simpa using z];exact⟨_,rfl,iteT ⟨(by walk_at"ln"),λt gt=>kd kr _ _ (Kp.new k24 (k24.fre gt (by simp))) ⟨t,rfl,upd_same⟩⟩⟩
end
def CC.of(c:CC):Du->Addr
 | .many=>c.M
 | .name _=>c.N
 | .twice=>c.T
 | .strange _=>c.S
 | .ring=>c.R
 | .fine=>c.J
def ixD:Du->Nat
 | .name _=>0
 | .twice=>1
 | .strange _=>2
 | .ring=>3
 |_=>4
theorem XAt.cls{c:CC}{qs:List (List Str×Addr)}{k:Value}{dx:Option Addr}(h:XAt c ns qs H k dx d):d≠.fine/\k= .ref (c.of d):=by
 match d,h with
 | .many,h| .name _,h| .twice,h| .strange _,h| .ring,h=>exact⟨nofun,h.1⟩
theorem ixD_lt(d:Du):ixD d<16:=by cases d<;>simp[ixD]
theorem Nm.kp{dx:Option Addr}(h:Nm H dx v)(k:Kp [] H H'):Nm H' dx v:=by
 obtain⟨a,u,h1,h2,h3⟩:=h;exact⟨a,u,h1,h2.kp0 k,k _ _ h3 (by simp)⟩
theorem XAt.kp{c:CC}{qs:List (List Str×Addr)}{x:Value}{dx:Option Addr}(h:XAt c ns qs H x dx d)(k:Kp [] H H'):XAt c ns qs H' x dx d:=by
 match d,h with
 | .many,h=>exact h
 | .name _,⟨h1,h2⟩=>exact⟨h1,h2.kp k⟩
 | .twice,⟨h1,i,n,h2,h3⟩=>exact⟨h1,i,n,h2,h3.kp k⟩
 | .strange _,⟨h1,h2⟩=>exact⟨h1,h2.kp k⟩
 | .ring,⟨h1,a,p,rs,h2,h3,h4,h5⟩=>exact⟨h1,a,p,rs,h2,k _ _ h3 (by simp),k _ _ h4 (by simp),h5⟩
theorem DueAt.kp(h:DueAt H v ns d)(k:Kp [] H H'):DueAt H' v ns d:=by
 match d,h with
 | .many,⟨t,h1,h2⟩=>exact⟨t,h1,k _ _ h2 (by simp)⟩
 | .name _,⟨t,h1,h2⟩=>exact⟨t,h1,k _ _ h2 (by simp)⟩
 | .twice,⟨i,n,h3,t,h1,h2⟩=>exact⟨i,n,h3,t,h1,k _ _ h2 (by simp)⟩
 | .strange _,⟨t,h1,h2⟩=>exact⟨t,h1,k _ _ h2 (by simp)⟩
 | .ring,⟨t,h1,h2⟩=>exact⟨t,h1,k _ _ h2 (by simp)⟩
 | .fine,h=>exact h
theorem agree{c:CC}{qs:List (List Str×Addr)}{k:Value}{dx:Option Addr}(x:XAt c ns qs H k dx d)(e:DueAt H v ns d):∃t u,v= .ref t/\H t=some (.tup [.str (zA8.getD (ixD d) ""),u])/\(d= .many\/d= .ring\/(ixD d<3/\Nm H dx u)):=by
 match d,x,e with
 | .many,_,⟨t,h1,h2⟩=>exact⟨t,_,h1,h2,.inl rfl⟩
 | .name _,⟨_,n⟩,⟨t,h1,h2⟩=>exact⟨t,_,h1,h2,.inr (.inr ⟨show(_:Nat)<3 by simp[ixD],n⟩)⟩
 | .twice,⟨_,i,n,h3,h4⟩,⟨j,m,h5,t,h1,h2⟩=>
  obtain⟨_,rfl⟩:=h3.one h5;exact⟨t,_,h1,h2,.inr (.inr ⟨show(_:Nat)<3 by simp[ixD],h4⟩)⟩
 | .strange _,⟨_,n⟩,⟨t,h1,h2⟩=>exact⟨t,_,h1,h2,.inr (.inr ⟨show(_:Nat)<3 by simp[ixD],n⟩)⟩
 | .ring,_,⟨t,h1,h2⟩=>exact⟨t,_,h1,h2,.inr (.inl rfl)⟩
theorem zFo.ty{K:PySem.W.Frag}{H:Hp}{u:V}(h:zFo H v u):∃t s b,TyOf K H v t/\TyOf K H u s/\PySem.W.kitOne K t (.type "bool")=some b/\PySem.W.kitOne K s (.type "bool")=some b:=by
 rcases h with⟨f,rfl⟩|⟨a,b,z,rfl,rfl,⟨h1,h2⟩|⟨h1,h2⟩|⟨h1,h2⟩⟩
 .rcases f with⟨x,rfl,_⟩|rfl|⟨b,rfl⟩|⟨i,rfl⟩
  .exact ⟨_,_,_,TyOf.str x,TyOf.str x,rfl,rfl⟩
  .exact ⟨_,_,_,TyOf.non,TyOf.non,rfl,rfl⟩
  .exact ⟨_,_,_,TyOf.bl b,TyOf.bl b,rfl,rfl⟩
  .exact ⟨_,_,_,TyOf.int i,TyOf.int i,rfl,rfl⟩
 .exact ⟨_,_,_,TyOf.lst h1,TyOf.lst h2,rfl,rfl⟩
 .exact ⟨_,_,_,TyOf.tup h1,TyOf.tup h2,rfl,rfl⟩
 .exact ⟨_,_,_,TyOf.dK h1,TyOf.dK h2,rfl,rfl⟩
section
variable{P:Program}{w:World}{K:PySem.W.Frag}{mg:Str->Option Value}{base:Heap}{CB:Addr}{c:CC}
def spSame:Sp:=λvs H Q _=>∃x y,vs=[x,y]/\zFo H y x/\Q (.bl true) H
abbrev s_same:Stmt:=top 50
theorem sc_same:FnScope ["_law_found","_law_due_here"] ["_law_found","_law_due_here"] (zAe s_same):=fnS
theorem ok_same(F:Fun K "_law_same" "_law_same" s_same f fd)(T:Txt K mg):FnOk P w K mg base CX0 1 f fd ["_law_found","_law_due_here"] spSame:=by
 refine F.ok sc_same (λvs H Q E h=>?_) (λcdv A outer s H vs Q E hr h=>?_)
 .obtain ⟨x,y,rfl,_⟩:=h;rfl
 .obtain ⟨x,y,rfl,cp,k⟩:=h;refine⟨_,(zAd (zAm (pe_and (zBh (op_eqC (K:=K) hr) (pv 0) (pv 1) (zAq _)) (pe_one (zBh zDr (zAg zA6 (by rfl) T.z_isinstance zAf (zAa (pv 0) (zAa (zBi (by rfl) T.z_bool bo_bool (v:=.ty "bool") rfl) zAb))) (zAg zA6 (by rfl) T.z_isinstance zAf (zAa (pv 1) (zAa (zBi (by rfl) T.z_bool bo_bool (v:=.ty "bool") rfl) zAb))) (zAq _)))))),?_⟩;obtain⟨t,s,b,t1,t2,b1,b2⟩:=cp.ty (K:=K);refine⟨_,rfl,_,rfl,cp,_,rfl,iteT ⟨_,rfl,_,_,_,_,rfl,t2,b2,_,rfl,_,_,_,_,rfl,t1,b1,rfl,?_⟩⟩;rw[qAP rfl];exact k
def zGw(c:CC):Sp:=λvs H Q _=>∃(a m:Addr)(v:V)(dx:Option Addr)(d:Du)(ns:List Str) (qs:List (List Str×Addr)),vs=[.ref a,v,.ref m]/\H a=some (excD a (c.of d) dx)/\XAt c ns qs H (.ref (c.of d)) dx d/\DueAt H v ns d/\(d= .ring->Ords H m qs)/\∀H',Kp [] H H'->Q (.bl true) H'
abbrev zG3:Stmt:=top 51
theorem sc_refused:FnScope ["_law_e","_law_due_here","_law_pairs_here"] ["_law_e","_law_due_here","_law_pairs_here"] (zAe zG3):=fnS
theorem ok_refused{dd:Nat->Addr}(F:Fun K "_law_refused" "_law_refused" zG3 f fd)(KS:∀d,d≠.fine->KX K dd CB (c.of d) (ixD d))(NS:∀d,ixD d<3->KN K (c.of d) "name")(NR:KN K c.R "ring")(C_kinds:Cal P w K mg base "_law_kinds" 1 ["_law_e"] (spKinds K dd))(C_is_ring:Cal P w K mg base "_law_is_ring" 1 ["_law_found","_law_orders"] spIsRing)(C_same:Cal P w K mg base "_law_same" 1 ["_law_found","_law_due_here"] spSame):FnOk P w K mg base CX0 2 f fd ["_law_e","_law_due_here","_law_pairs_here"] (zGw c):=by
 refine F.ok sc_refused (λvs H Q E h=>?_) (λcdv A outer s H vs Q E hr h=>?_)
 .obtain ⟨a,m,v,dx,d,ns,qs,rfl,_⟩:=h;rfl
 .obtain ⟨a,m,v,dx,d,ns,qs,rfl,ha,xa,du,ord,k⟩:=h
  refine⟨_,(zAc (zA1 (PW.pt (pw_or (zAo op_isN (pv 1) zEe (zAq _)) (zH3 (zAo (op_neL hr) (zAj C_kinds hr rfl (zAa (pv 0) zAb)) (zAt (zAa (zBe ix_tup (pv 1) zAh (λ_ _=>rfl)) zAb)) (zAq _))))) (zAd (zAm zD1)) zAl) (zAc (zA1 (zAo zDr (zBe ix_tup (pv 1) zAh (fun _ _=>rfl)) zAk (zAq _))
    (zAd (zAm (zAj C_is_ring hr rfl (zAa (zIx (K:=K) rfl (pv 0) rfl) (zAa (pv 2) zAb)))))
    zAl)
   (zAc (zA1 (zAo zDr (zBe ix_tup (pv 1) zAh (fun _ _=>rfl)) zAk (zAq _))
    (zAd (zAm zD1))
    zAl)
   (zAd (zAm (zAj C_same hr rfl (zAa (zIx (K:=K) rfl (pv 0) rfl) (zAa (zBe ix_tup (pv 1) zAh (λ_ _=>rfl)) zAb)))))))),?_⟩
  refine hid4 ?_;intro _ _ _ _;have X:=KS d xa.cls.1;obtain⟨t,u,rfl,ht,cs⟩:=agree xa du;refine⟨_,rfl,rfl,_,rfl,iteF ?_⟩;refine⟨_,rfl,a,c.of d,dx,ixD d,rfl,ha,X.kf,ixD_lt d,λl H4 k4 hl=>?_⟩;refine⟨_,rfl,_,_,_,_,rfl,rfl,SqT.of (k4 _ _ ht (by simp)),zA9 (by decide) rfl,by walk_at"ln",λl2 g2=>?_⟩;have k5:Kp [] H4 (upd H4 l2 (.lst [.str (zA8.getD (ixD d) "")])):=Kp.new Kp.refl g2;refine⟨_,_,_,_,rfl,rfl,SqL.of (k5 _ _ hl (by simp)),SqL.of upd_same,rfl,zGr (ns:=[zA8.getD (ixD d) ""]),_,rfl,iteF ?_⟩;have k45:=k4.trans k5;have h25:=k45 _ _ ht (by simp);have ha:=k45 _ _ ha (by simp);have xa:=xa.kp k45;have ord:d= .ring->Ords _ m qs:=λz=>(ord z).kp k45 (by simp) (by simp);have cs:d= .many\/d= .ring\/(ixD d<3/\Nm _ dx u):=cs.imp id (Or.imp id λz=>⟨z.1,z.2.kp k45⟩);generalize upd H4 l2 (.lst [.str (zA8.getD (ixD d) "")])=H5 at *
  refine⟨_,rfl,_,_,_,_,rfl,rfl,SqT.of h25,zA9 (by decide) rfl,rfl,_,rfl,?_⟩;rcases cs with rfl|rfl|⟨i3,b,y,rfl,cp,hb⟩
  .exact iteF ⟨_,rfl,_,_,_,_,rfl,rfl,SqT.of h25,zA9 (by decide) rfl,rfl,_,rfl,iteT (k _ k45)⟩
  .obtain ⟨_,b,p,rs,rfl,h1,h2,h3,h4⟩:=xa;exact iteT ⟨_,rfl,a,c.R,b,_,.ref p,rfl,ha,h1,NR.gt,NR.nr,rfl,_,rfl,p,m,rs,qs,rfl,h2,ord rfl,h3,h4,λH6 k6=>k _ (k45.trans k6)⟩
  .have no:zA8.getD (ixD d) "" ≠ "ring"/\zA8.getD (ixD d) "" ≠ "many":= by
    have:ixD d=0\/ixD d=1\/ixD d=2:=by lia
    rcases this with e|e|e<;>rw[e]<;>decide
   refine ite2 (λz=>absurd (V.str.inj (qA1 z)) no.1) (λ_=>?_);refine⟨_,rfl,_,_,_,_,rfl,rfl,SqT.of h25,zA9 (by decide) rfl,rfl,_,rfl,ite2 (λz=>absurd (V.str.inj (qA1 z)) no.2) (λ_=>?_)⟩;exact⟨_,rfl,a,c.of d,b,_,y,rfl,ha,hb,(NS d i3).gt,(NS d i3).nr,rfl,_,rfl,_,_,_,_,rfl,rfl,SqT.of h25,zA9 (by decide) rfl,y,u,rfl,cp,k _ k45⟩
def spMade(c:CC):Sp:=λas H Q _=>∃(l m:Addr)(vs:List V) (ts:List (Addr×V×V)),as=[.ref l,.ref m]/\Rw H l vs/\Pw H m ts/\ts.length<=306/\(∀a dx H',Kp [] H H'->XAt c (vs.map strV) (qsOf ts) H' (.ref (c.of (zCu vs ts))) dx (zCu vs ts)->H' a=some (excD a (c.of (zCu vs ts)) dx)->Q (.ref a) H') /\
 (zCu vs ts= .fine->∀x J H',JobsAt c.J H' x J->J.ns=vs.map strV->(∃r:Str->Nat,∀q∈J.zs,r (fst q)<r (snd q))->Kp [] H H'->Q (.ref x) H')
abbrev s_made:Stmt:=top 52
theorem zG1:FnScope ["_law_row","_law_pairs_here","_law_told","_law_e"] ["_law_row","_law_pairs_here"] (zAe s_made):=fnS
theorem ok_made{dd:Nat->Addr}(F:Fun K "_law_made" "_law_made" s_made f fd)(mgB:mg "BenchError"=some (.ref CB))(xB:excB K CB=true)(KS:∀d,d≠.fine->KX K dd CB (c.of d) (ixD d))(M_Jobs:MkrF P w K mg base c.J "Jobs" 6 ["self","names","orders"] (zIk c)):FnOk P w K mg base CX0 8 f fd ["_law_row","_law_pairs_here"] (spMade c):=by
 refine F.ok zG1 (λvs H Q E h=>?_) (λcdv A outer s H vs Q E hr h=>?_)
 .obtain ⟨l,m,vs,ts,rfl,_⟩:=h;rfl
 .obtain ⟨l,m,vs,ts,rfl,rw0,pw0,lt,k1,k2⟩:=h
  refine⟨_,(zAc (psS (i:=2) zG1.nd zEe) (zAc (ps_tryF (i:=3) rfl rfl rfl rfl zG1.nd rfl rfl rfl mgB xB
     (λpl ξ E p own=>zAd (psS (i:=2) zG1.nd (pe_makeF (E:=E) M_Jobs hr rfl p (zAa (pv 0) (zAa (pv 1) zAb)))))
     (λa=>zAd (psS (i:=2) zG1.nd (pv 3))))
   (zAd (zAm (pv 2))))),?_⟩
  refine hid3 ?_;intro _ _ _;refine zG9 (λσ H'=>∃u,σ=[some (.ref l),some (.ref m),some u,none]/\Q u H') (λN hN=>?_) (λσ H' ⟨u,e,q⟩=>by subst e;exact⟨_,rfl,q⟩);refine⟨_,rfl,_,rfl,λx dx hx hdx nxd=>?_⟩;have k5:Kp [] H (upd (upd H dx (.own x)) x (.ins c.J dx [])):=Kp.new (Kp.new Kp.refl hdx) hx;have back:∀{H'},Kp [x] (upd (upd H dx (.own x)) x (.ins c.J dx [])) H'->Kp [] H H':=λ{H'} k b o hb _=>k b o (k5 b o hb (by simp)) (nm1 (zAi hb hx));refine⟨x,dx,l,m,vs,ts,rfl,upd_same,rw0.kp k5,pw0.kp k5,lt,λk d H' xa kk=>?_,λe J H' A en rk kk=>⟨rfl,hN _ _ ⟨_,rfl,k2 e x J H' A en rk (back kk)⟩⟩⟩;obtain⟨nf,rfl⟩:=xa.cls;have X:=KS _ nf;refine⟨_,rfl,X.x,X.s,λa ha=>⟨_,rfl,hN _ _ ⟨_,rfl,k1 a d _ ((back kk).trans (Kp.new Kp.refl ha)) (xa.kp (Kp.new Kp.refl ha)) upd_same⟩⟩⟩
end
section
def tA:TE:=λ_ H Q=>∀p,H p=none->Q (.ref p) (upd H p (.dK [(Sum.inr "a",.int 1)]))
theorem pe_dA{k v:Expr}(hk:PE X k (tC (.str "a")))(hv:PE X v (tC (.int 1))):PE X (.Dict [some k] [v] pos) tA:=λpins s σ H Q I h=>pe_disp (pps_cons hk hv pps_nil) rfl rfl (by simp) (show(1:Nat)<=15 by decide) pins s σ H Q I λp hp=>⟨upd_same,[(Sum.inr "a",.int 1)],rfl,by decide,by rw[zCg];exact h p hp⟩
def spThing:Sp:=λvs H Q _=>∃p,vs=[.ref p]/\zB1 H p/\∀v H',Odd H' v->nmV v=false->(∀a,v= .ref a->Fre H a)->zB1 H' p->Kp [p] H H'->Q v H'
abbrev s_thing:Stmt:=top 45
theorem sc_thing:FnScope ["_law_purse_here","_law_some"] ["_law_purse_here"] (zAe s_thing):=fnS
theorem zFk(h:(decide (x.length<=100)&&x.cps.toList.all (decide <| ·<16^8))=true):FlatT (.str x):=by
 rw[qA3]at h;exact .inl ⟨x,rfl,qA1 h.1,λc hc=>qA1 (qA4.mp h.2 c hc)⟩
theorem ok_thing(F:Fun K "_law_thing" "_law_thing" s_thing f fd)(T:Txt K mg)(C_take:Cal P w K mg base "_law_take" 1 ["_law_purse_here","_law_many"] zGt):FnOk P w K mg base CX0 2 f fd ["_law_purse_here"] spThing:=by
 refine F.ok sc_thing (λvs H Q E h=>?_) (λcdv A outer s H vs Q E hr h=>?_)
 .obtain ⟨p,rfl,_⟩:=h;rfl
 .obtain ⟨p,rfl,hP,k⟩:=h
  refine⟨_,(@zAc _ _ _ _ _ (@zEc _ _ 1 _ _ _ _ (by exact sc_thing.nd) (by rfl) (by walk_at"lc") (@zDi _ _ _ _ (zAr zAk (zAr zAk (zAr zAk (zAr zAk (zAr zAk (zAr zAk (zAr zAk (zAr zAk (zAr zEe (zAr zAh (zAr zD1 (zAr zAh (zAr (by exact(zBg (zAa zAk zAb))) (zAr (by exact(zAt (zAa zAk zAb))) (zAr (by exact(pe_dA zAk zAh)) zDj)))))))))))))))) (by rfl) (by first|exact Or.inl rfl|exact Or.inr rfl)) (zAd (zAm (zBe zAw (pv 1) (zAj C_take hr rfl (zAa (pv 0) (zAa (zAg zAn (by rfl) T.z_len zBr (zAa (pv 1) zAb)) zAb))) (λ_ _=>rfl))))),?_⟩
  refine hid2 ?_;intro _ _;refine⟨(by walk_at"ln"),λt ht=>⟨(by walk_at"ln"),λe he d hd=>⟨(by walk_at"ln"),λB hB=>?_⟩⟩⟩;have k1:Kp [] H (upd H t (.tup [.str "a"])):=Kp.new Kp.refl ht;have h1:upd H t (.tup [.str "a"]) t=some (.tup [.str "a"]):=upd_same;generalize upd H t (.tup [.str "a"])=H1 at *
  have k2:Kp [] H1 (upd H1 e (.lst [.str "a"])):=Kp.new Kp.refl he;have h2:upd H1 e (.lst [.str "a"]) e=some (.lst [.str "a"]):=upd_same;generalize upd H1 e (.lst [.str "a"])=H2 at *
  have k3:Kp [] H2 (upd H2 d (.dK [(Sum.inr "a",.int 1)])):=Kp.new Kp.refl hd;have h3:upd H2 d (.dK [(Sum.inr "a",.int 1)]) d=some (.dK [(Sum.inr "a",.int 1)]):=upd_same;generalize upd H2 d (.dK [(Sum.inr "a",.int 1)])=H3 at *
  have gd:∀v∈[V.str "",.str "abcdefghi",.str "A",.str "a b",.str "a1",.str "_",.str " a",.str "-",.non,.int 5,.bl true,.int 0,.ref t,.ref e,.ref d],Odd H3 v/\nmV v=false/\∀a,v= .ref a->Fre H a:=by
   have s:∀x:Str,(decide (x.length<=100)&&x.cps.toList.all (decide <| ·<16^8))=true->zDk x=false->Odd H3 (.str x)/\nmV (.str x)=false/\∀a,V.str x= .ref a->Fre H a:=λx h1 h2=>⟨.inl (zFk h1),h2,nofun⟩;have r:∀a:Addr,Fre H a->(H3 a=some (.lst [.str "a"])\/H3 a=some (.tup [.str "a"])\/H3 a=some (.dK [(Sum.inr "a",.int 1)]))->Odd H3 (.ref a)/\nmV (.ref a)=false/\∀b,V.ref a= .ref b->Fre H b:=λa f h=>⟨.inr ⟨a,"a",rfl,by decide,by decide,h⟩,rfl,λb z=>by cases z;exact f⟩;simp only[List.forall_mem_cons];refine⟨s _ (by decide) (by decide),s _ (by decide) (by decide),s _ (by decide) (by decide),s _ (by decide) (by decide),s _ (by decide) (by decide),s _ (by decide) (by decide),s _ (by decide) (by decide),s _ (by decide) (by decide),⟨.inl (.inr (.inl rfl)),rfl,nofun⟩,⟨.inl (.inr (.inr (.inr ⟨_,rfl⟩))),rfl,nofun⟩,⟨.inl (.inr (.inr (.inl ⟨_,rfl⟩))),rfl,nofun⟩,⟨.inl (.inr (.inr (.inr ⟨_,rfl⟩))),rfl,nofun⟩,r t ht (.inr (.inl (k3 _ _ (k2 _ _ h1 (by simp)) (by simp)))),r e (k1.fre he (by simp)) (.inl (k3 _ _ h2 (by simp))),r d ((k1.trans k2).fre hd (by simp)) (.inr (.inr h3)),nofun⟩
  generalize eL:[V.str "",.str "abcdefghi",.str "A",.str "a b",.str "a1",.str "_",.str " a",.str "-",.non,.int 5,.bl true,.int 0,.ref t,.ref e,.ref d]=L at *
  have lL:L.length=15:=by rw[<-eL];rfl
  have k4:Kp [] H3 (upd H3 B (.lst L)):=Kp.new Kp.refl hB;have h4:upd H3 B (.lst L) B=some (.lst L):=upd_same;have kk:=k1.trans (k2.trans (k3.trans k4));refine⟨_,rfl,_,rfl,_,rfl,_,_,rfl,.inl (SqL.of h4),p,_,rfl,hP.kp kk (by simp),by rw[lL];decide,by rw[lL];decide,λi H5 i0 i1 P5 k5=>?_⟩;rw[lL]at i1;have iL:i.toNat<L.length:=by lia
  have npB:B≠p:=by obtain⟨a,b,z,_⟩:=hP.kp (k1.trans (k2.trans k3)) (by simp);exact(ne_fre (show Fre H3 B from hB) z).symm
  refine⟨_,_,_,L[i.toNat],rfl,rfl,SqL.of (k5 _ _ h4 (nm1 npB)),zA9 i0 (qAa iL),?_⟩;obtain⟨g1,g2,g3⟩:=gd _ (qBD iL);refine k _ _ ((g1.kp0 k4).kpO k5 λa ha z=>?_) g2 g3 P5 (kk.of0.trans k5)
  cases qAQ.mp ha
  obtain⟨x,y,q,_⟩:=hP;exact absurd (g3 _ z) (by rw[Fre,q];exact nofun)
def zDv:List Str:=zB2.map λx=>Txt.mul x 8
theorem eights_ok(h:x∈zDv):zCd x:=(zDt x).mp (qA4.mp (show zDv.all zDk=true by decide +kernel) x h)
theorem mulok8(h:x.length=1):MulOk x 8:=⟨by decide,λ_ _=>by rw[h];decide,λ_ _=>by rw[h];decide⟩
def spNoJob:Sp:=λvs H Q _=>∃(l:Addr)(ns:List Str),vs=[.ref l]/\Txs H l ns/\ns.length<=20/\∀x H',Kp [] H H'->zCd x->x∉ns->Q (.str x) H'
abbrev zGb:Stmt:=top 46
theorem sc_no_job:FnScope ["_law_row"] ["_law_row"] (zAe zGb):=fnS
theorem ok_no_job(F:Fun K "_law_no_job" "_law_no_job" zGb f fd):FnOk P w K mg base CX0 1 f fd ["_law_row"] spNoJob:=by
 refine F.ok sc_no_job (λvs H Q E h=>?_) (λcdv A outer s H vs Q E hr h=>?_)
 .obtain ⟨l,ns,rfl,_⟩:=h;rfl
 .obtain ⟨l,ns,rfl,hl,few,k⟩:=h;refine⟨_,(zAd (zAm (zBe zAw (zBs rfl (zBt (sc:=zAe zGb) rfl (by decide +kernel)) (Draws.own (x:="_law_letter") (dtk (i:=0) rfl Draws.nil)) (pi_str zAk) (λ_ _ _ _=>(pgB (i:=0))) (λ_ _ _ _=>(zEz (zAo (zFe (K:=K)) (zAv zH5 (pv 0) zAh) (pv 1) (by rfl)))) (λ_ _ _ _=>(zAv zH5 (pv 0) zAh))) zAh (λ_ _=>rfl)))),?_⟩;refine⟨_,rfl,λB hB=>zJn (z:=zBv) (λi ys τ H8=>(∃o0,τ=[o0,some (.ref l)])/\ys=((zDv.take i).filter λx=>decide (x∉ns)).map V.str/\H8=upd H B (.lst ys)) ⟨⟨_,rfl⟩,rfl,rfl⟩ ?_ ?_⟩
  .rintro i c ys τ H8 hc ⟨⟨o0,rfl⟩,rfl,rfl⟩;have en:zDv[i]?=some (Txt.mul ⟨#[c]⟩ 8):=by unfold zDv zB2;rw[qAN,qAN,hc];rfl
   refine⟨_,rfl,_,_,rfl,rfl,mulok8 rfl,_,rfl,_,_,rfl,.inl (SqL.of ((upd_ne (ne_fre (show Fre H B from hB) hl)).trans hl)),rfl,zCb ns,_,rfl,?_⟩;rw[qAC rfl,zD4];rw[show(!decide (Txt.mul ⟨#[c]⟩ 8∈ns))=decide (Txt.mul ⟨#[c]⟩ 8∉ns) by simp];refine ite2 (λq=>?_) (λq=>?_)
   .refine ⟨_,rfl,_,_,rfl,rfl,mulok8 rfl,upd_same,?_,⟨_,rfl⟩,?_,zCg⟩
    .rw [qAE];exact zGj (by unfold zDv;rw[qAE,zCv];decide)
    .rw [zGi (p:=λx=>decide (x∉ns)) en q,qAb];rfl
   .exact ⟨⟨_,rfl⟩,by rw[zJi (p:=λx=>decide (x∉ns)) en q],rfl⟩
  .rintro ys τ H8 ⟨_,rfl,rfl⟩;have l26:zDv.length=26:=by unfold zDv;rw[qAE,zCv]
   rw[show zDv.take zBv.length=zDv from qBQ (by rw[l26];decide)];have hne:=some_of (L:=zDv) (found:=ns) (by decide +kernel) l26 few
   have hmm:∀y,y∈(zDv.filter λx=>decide (x∉ns))->zCd y/\y∉ns:=λy hy=>by
    have:=qBM.mp hy;exact⟨eights_ok this.1,qA1 this.2⟩
   generalize (zDv.filter λx=>decide (x∉ns))=L at hne hmm
   match L,hne with
   |y::r,_=>exact⟨_,_,_,.str y,rfl,rfl,SqL.of upd_same,zA9 (by decide) rfl,k y _ (Kp.new Kp.refl hB) (hmm y qAX).1 (hmm y qAX).2⟩
end
def Off(L:List Addr)(v:V):Prop:=∀a∈L,v≠.ref a
theorem zJb{vs:List V}(h:20<vs.length\/(∃v∈vs,nmV v=false)\/¬(vs.map strV).Nodup):nDue vs≠none:=λz=>by
 obtain⟨a,b,c⟩:=nDue_none z;rcases h with h|⟨v,hv,e⟩|h
 .lia
 .rw [b v hv]at e;cases e
 .exact h c
structure SR(H0 H:Hp)(p l m:Addr)(ns:List Str)(b n:Nat)(vs:List V)(ts:List (Addr×V×V)):Prop where
 row:H l=some (.lst vs)
 prs:H m=some (.lst (ts.map λt=>V.ref t.1))
 tup:∀t∈ts,H t.1=some (.tup [t.2.1,t.2.2])
 odd:∀v∈vs++zCt ts,Odd H v/\Off [p,l,m] v
 nlm:l≠m
 npl:p≠l
 npm:p≠m
 pur:zB1 H p
 kp:Kp [p] H0 H
 fl:Fre H0 l
 fm:Fre H0 m
 lv:vs.length<=b
 lt:ts.length<=n
 bad:nDue vs=none->vs=ns.map V.str
section
variable{H0 H H':Hp}{p l m:Addr}{ns:List Str}{b n:Nat}{vs:List V}{ts:List (Addr×V×V)}(S:SR H0 H p l m ns b n vs ts)
include S
theorem SR.go(k:Kp [p] H H')(q:zB1 H' p):SR H0 H' p l m ns b n vs ts:={S with
 row:=k _ _ S.row (nm1 S.npl.symm)
 prs:=k _ _ S.prs (nm1 S.npm.symm)
 tup:=λt ht=>k _ _ (S.tup t ht) (nm1 λz=>by
  obtain⟨x,y,e,_⟩:=S.pur;rw[<-z,S.tup t ht]at e;cases e)
 odd:=λv hv=>⟨(S.odd v hv).1.kpO k λa ha=>(S.odd v hv).2 a (by rw[qAQ.mp ha];simp),(S.odd v hv).2⟩
 pur:=q
 kp:=S.kp.trans k}
theorem SR.go0(k:Kp [] H H'):SR H0 H' p l m ns b n vs ts:=S.go k.of0 (S.pur.kp k (by simp))
theorem SR.more{b':Nat}(h:b<=b'):SR H0 H p l m ns b' n vs ts:={S with lv:=qAf S.lv h}
theorem SR.off(h:∀a,v= .ref a->Fre H a):Off [p,l,m] v:=λa ha e=>by
 have f:=h a e;obtain⟨x,y,q,_⟩:=S.pur;simp only[qAL,qA9,qBL]at ha;rcases ha with rfl|rfl|rfl
 .rw [Fre,q]at f;cases f
 .rw [Fre,S.row]at f;cases f
 .rw [Fre,S.prs]at f;cases f
theorem SR.ins{v:V}{i:Nat}(o:Odd H v)(f:Off [p,l,m] v)(hb:nDue (vs.take i++v::vs.drop i)≠none):SR H0 (upd H l (.lst (vs.take i++v::vs.drop i))) p l m ns (b+1) n (vs.take i++v::vs.drop i) ts:={S with
 row:=upd_same
 prs:=(upd_ne S.nlm.symm).trans S.prs
 tup:=λt ht=>(upd_ne (zBf (S.tup t ht) S.row λz=>nomatch z)).trans (S.tup t ht)
 odd:=λx hx=>by
  have:Odd H x/\Off [p,l,m] x:=by
   rcases qAY.mp hx with z|z
   .rcases qAL.mp ((ST.ins_perm vs i v).mem_iff.mp z)with rfl|z
    .exact ⟨o,f⟩
    .exact S.odd x (qAo _ z)
   .exact S.odd x (qAt _ z)
  exact⟨this.1.kpO (L:=[l]) (Kp.put Kp.refl (by simp)) λa ha=>this.2 a (by rw[qAQ.mp ha];simp),this.2⟩
 pur:=S.pur.kp (M:=[l]) (Kp.put Kp.refl (by simp)) (nm1 S.npl)
 kp:=Kp.new S.kp S.fl
 lv:=by rw[(ST.ins_perm vs i v).length_eq,qAZ];have:=S.lv;lia
 bad:=λz=>absurd z hb}
theorem SR.new{l':Addr}{xs:List V}(hl:H l'=none)(h:∀x∈xs,x∈vs\/∃s,zCd s/\x= .str s)(lx:xs.length<=b+1)(hb:20<xs.length):SR H0 (upd H l' (.lst xs)) p l' m ns (b+1) n xs ts:=by
 have k:Kp [] H (upd H l' (.lst xs)):=Kp.new Kp.refl hl;have S':=S.go0 k
 have ob:∀x,Odd H x->x≠.ref l':=λx o e=>by
  subst e;rcases o with(⟨_,z,_⟩|z|⟨_,z⟩|⟨_,z⟩)|⟨a,_,z,_,_,q⟩
  all_goals try cases z
  rcases q with q|q|q<;>rw[hl]at q<;>cases q
 exact {S' with
  row:=upd_same
  odd:=λx hx=>by
   rcases qAY.mp hx with z|z
   .rcases h x z with z|⟨s,hs,rfl⟩
    .have:=S.odd x (qAo _ z);refine⟨this.1.kp0 k,λa ha=>?_⟩;simp only[qAL,qA9,qBL]at ha;rcases ha with rfl|rfl|rfl
     .exact this.2 _ (by simp)
     .exact ob x this.1
     .exact this.2 _ (by simp)
    .exact ⟨.inl hs.flat,λa _ z=>nomatch z⟩
   .have:=S.odd x (qAt _ z);refine⟨this.1.kp0 k,λa ha=>?_⟩;simp only[qAL,qA9,qBL]at ha;rcases ha with rfl|rfl|rfl
    .exact this.2 _ (by simp)
    .exact ob x this.1
    .exact this.2 _ (by simp)
  nlm:=(ne_fre (show Fre H l' from hl) S.prs).symm
  npl:=by obtain⟨x,y,q,_⟩:=S.pur;exact ne_fre (show Fre H l' from hl) q
  fl:=S.kp.fre (show Fre H l' from hl) (nm1 (by obtain⟨x,y,q,_⟩:=S.pur;exact(ne_fre (show Fre H l' from hl) q).symm))
  lv:=lx
  bad:=λz=>absurd z (zJb (.inl hb))}
theorem SR.pair{t:Addr}{x y:V}{i:Nat}(ht:H t=some (.tup [x,y]))(ox:Odd H x/\Off [p,l,m] x)(oy:Odd H y/\Off [p,l,m] y):SR H0 (upd H m (.lst ((ts.take i++(t,x,y)::ts.drop i).map λt=>V.ref t.1))) p l m ns b (n+1) vs (ts.take i++(t,x,y)::ts.drop i):={S with
 row:=(upd_ne S.nlm).trans S.row
 prs:=upd_same
 tup:=λq hq=>by
  have:H q.1=some (.tup [q.2.1,q.2.2]):=by
   rcases qAL.mp ((ST.ins_perm ts i (t,x,y)).mem_iff.mp hq)with rfl|z
   .exact ht
   .exact S.tup q z
  exact(upd_ne (zBf this S.prs λz=>nomatch z)).trans this
 odd:=λv hv=>by
  have:Odd H v/\Off [p,l,m] v:=by
   rcases qAY.mp hv with z|z
   .exact S.odd v (qAo _ z)
   .obtain ⟨q,hq,hz⟩:=qCb.mp z;rcases qAL.mp ((ST.ins_perm ts i (t,x,y)).mem_iff.mp hq)with rfl|hq
    .simp only[qAL,qA9,qBL]at hz;rcases hz with rfl|rfl
     .exact ox
     .exact oy
    .exact S.odd v (qAt _ (qCb.mpr ⟨q,hq,hz⟩))
  exact⟨this.1.kpO (L:=[m]) (Kp.put Kp.refl (by simp)) λa ha=>this.2 a (by rw[qAQ.mp ha];simp),this.2⟩
 pur:=S.pur.kp (M:=[m]) (Kp.put Kp.refl (by simp)) (nm1 S.npm)
 kp:=Kp.new S.kp S.fm
 lt:=by rw[(ST.ins_perm ts i (t,x,y)).length_eq,qAZ];have:=S.lt;lia}
end
section
def spSpoilt:Sp:=λas H Q _=>∃(p l m:Addr)(ns:List Str) (qs:List (List Str×Addr)),as=[.ref p,.ref l,.ref m]/\zB1 H p/\Txs H l ns/\Ords H m qs/\(∀n∈ns,zCd n)/\(∀q∈qs,∀x∈q.1,zCd x)/\ns.length<=20/\qs.length<=192 /\
 ∀(t l' m':Addr)(vs:List V) (ts:List (Addr×V×V)) (H':Hp),H' t=some (.tup [.ref l',.ref m'])->Rw H' l' vs->Pw H' m' ts->vs.length<=50->ts.length<=200->(nDue vs=none->vs=ns.map V.str)->zB1 H' p->Kp [p] H H'->Q (.ref t) H'
def SpQ(H0:Hp)(p l m:Addr)(ns:List Str)(z:Str)(b n:Nat)(kk way at_:Int)(σ:St)(H:Hp):Prop:=∃(l' m':Addr)(vs:List V) (ts:List (Addr×V×V)) (o9 o10 o11:Option V),σ=[some (.ref p),some (.ref l),some (.ref m),some (.ref l'),some (.ref m'),some (.str z),some (.int kk),some (.int way),some (.int at_),o9,o10,o11]/\SR H0 H p l' m' ns b n vs ts/\at_<=vs.length
abbrev zGa:Stmt:=top 47
theorem zBj:FnScope ["_law_purse_here","_law_names_here","_law_orders","_law_row","_law_pairs_here","_law_none","_law_k","_law_way","_law_at","_law_part","_law_pair","_law_good"] ["_law_purse_here","_law_names_here","_law_orders"] (zAe zGa):=fnS
def zJc:Str:="abcdefghijklmnopqrstuvwx"
def zzs:List Str:=zJc.cps.toList.map λc=>⟨#[c]⟩++ "zz"
theorem zzs_len:zzs.length=24:=by decide +kernel
theorem newO{a:Addr}{o:HO}(h:H a=none):∃H',upd H a o=H'/\Kp [] H H'/\H' a=some o:=⟨_,rfl,Kp.new Kp.refl h,upd_same⟩
theorem twice_out{vs:List V}{i:Nat}(h:v∈vs):nDue (vs.take i++v::vs.drop i)≠none:=zJb (.inr (.inr λz=>(qBJ.mp (((ST.ins_perm vs i v).map strV).nodup_iff.mp z)).1 (qAM.mpr ⟨v,h,rfl⟩)))
theorem zzs_ok(h:x∈zzs):zCd x:=(zDt x).mp (qA4.mp (show zzs.all zDk=true by decide +kernel) x h)
theorem ok_spoilt(F:Fun K "_law_spoilt" "_law_spoilt" zGa f fd)(T:Txt K mg)(C_take:Cal P w K mg base "_law_take" 1 ["_law_purse_here","_law_many"] zGt)(C_thing:Cal P w K mg base "_law_thing" 2 ["_law_purse_here"] spThing)(C_no_job:Cal P w K mg base "_law_no_job" 1 ["_law_row"] spNoJob):FnOk P w K mg base CX0 3 f fd ["_law_purse_here","_law_names_here","_law_orders"] spSpoilt:=by
 refine F.ok zBj (λvs H Q E h=>?_) (λcdv A outer s H vs Q E hr h=>?_)
 .obtain ⟨p,l,m,ns,qs,rfl,_⟩:=h;rfl
 .obtain ⟨p,l,m,ns,qs,rfl,hP,hl,hm,nm,nq,few,lq,k⟩:=h;have hr1:=hr.mono (j:=1) (by decide)
  refine⟨_,(zAc (psS (i:=3) zBj.nd (zA0 zBq (by rfl) T.z_list zCi (zAa (pv 1) zAb))) (zAc (psS (i:=4) zBj.nd (zA0 zBq (by rfl) T.z_list zCi (zAa (pv 2) zAb)))
   (zAc (psS (i:=5) zBj.nd (zAj C_no_job hr1 rfl (zAa (pv 1) zAb)))
   (zAc (zBk qAr rfl (zBc rfl T.z_range (zAa (zAj C_take hr1 rfl (zAa (pv 0) (zAa zAh zAb))) zAb)) (pgN (i:=6) zBj.nd)
    (zAc (psS (i:=7) zBj.nd (zAj C_take hr1 rfl (zAa (pv 0) (zAa zAh zAb))))
    (zAc (psS (i:=8) zBj.nd (zAj C_take hr1 rfl (zAa (pv 0) (zAa (zAv zDs (zAg zAn (by rfl) T.z_len zBr (zAa (pv 3) zAb)) zAh) zAb))))
    (zAc (zA1 (zAo zDr (pv 7) zAh (zAq _))
     (zAd (psS (i:=3) zBj.nd (zAv zG8 (zAv zG8 (zEk zFq (pv 3) zFv (zFu (pv 8))) (zEk zFq (zBs rfl (zBt (sc:=zAe zGa) rfl (by decide +kernel)) (Draws.own (x:="_law_letter") Draws.nil) (pi_str zAk) (λ_ _ _ _=>(pgB (i:=0))) (λ_ _ _ _=>zB6) (λ_ _ _ _=>(zAv zH7 (pv 0) zAk))) (zFu (zAg zAn (by rfl) T.z_len zBr (zAa (pv 3) zAb))) zFv)) (zEk zFq (pv 3) (zFu (pv 8)) zFv))))
     zAl)
    (zAc (zA1 (zAo zDr (pv 7) zAh (zAq _))
     (zAd (zA4 (zFd qBF qCy qCz zEf (pv 3) (zAa (pv 8) (zAa (zAj C_thing hr rfl (zAa (pv 0) zAb)) zAb)))))
     zAl)
    (zAc (zA1 (PW.pt (pw_and (zAo zDr (pv 7) zAh (zAq _)) (zIs (zAo (zI1 hr1) (pv 3) (zAt zAb) (zAq _)))))
     (zAd (zA4 (zFd qBF qCy qCz zEf (pv 3) (zAa (pv 8) (zAa (zBe zAw (pv 3) (zAj C_take hr1 rfl (zAa (pv 0) (zAa (zAg zAn (by rfl) T.z_len zBr (zAa (pv 3) zAb)) zAb))) (λ_ _=>rfl)) zAb)))))
     zAl)
    (zAc (psS (i:=9) zBj.nd (zBe zAw (zAt (zAa (zAj C_thing hr rfl (zAa (pv 0) zAb)) (zAa (pv 5) zAb))) (zAj C_take hr1 rfl (zAa (pv 0) (zAa zAh zAb))) (fun _ _=>rfl)))
    (zAc (psS (i:=10) zBj.nd (zBe zAw (zAt (zAa (zBg (zAa (pv 9) (zAa (pv 5) zAb))) (zAa (zBg (zAa (pv 9) (zAa (pv 9) zAb))) (zAa (zBg (zAa (pv 5) (zAa (pv 9) zAb))) zAb)))) (zAj C_take hr1 rfl (zAa (pv 0) (zAa zAh zAb))) (fun _ _=>rfl)))
    (zAc (zA1 (zAo (zI1 hr1) (pv 1) (zAt zAb) (zAq _))
     (zAc (psS (i:=11) zBj.nd (zBe zAw (pv 1) (zAj C_take hr1 rfl (zAa (pv 0) (zAa (zAg zAn (by rfl) T.z_len zBr (zAa (pv 1) zAb)) zAb))) (fun _ _=>rfl)))
     (zAd (psS (i:=10) zBj.nd (zBe zAw (zAt (zAa (zBg (zAa (pv 9) (zAa (pv 11) zAb))) (zAa (zBg (zAa (pv 11) (zAa (pv 9) zAb))) (zAa (zBg (zAa (pv 9) (zAa (pv 5) zAb))) (zAa (zBg (zAa (pv 11) (zAa (pv 11) zAb))) zAb))))) (zAj C_take hr1 rfl (zAa (pv 0) (zAa zAh zAb))) (λ_ _=>rfl)))))
     zAl)
    (zAd (zA1 (zAo op_gt (pv 7) zAh (zAq _))
     (zAd (zA4 (zFd qBF qCy qCz zEf (pv 4) (zAa (zAj C_take hr1 rfl (zAa (pv 0) (zAa (zAv zDs (zAg zAn (by rfl) T.z_len zBr (zAa (pv 4) zAb)) zAh) zAb))) (zAa (pv 10) zAb)))))
     zAl)))))))))))
   (zAd (zAm (zBg (zAa (pv 3) (zAa (pv 4) zAb))))))))),?_⟩
  refine hid5 ?_;intro _ _ _ _ _;have hs:=qAS;refine⟨_,rfl,_,_,rfl,.inl (SqL.of hl),λl' fl=>?_⟩;have k1:Kp [] H (upd H l' (.lst (ns.map V.str))):=Kp.new Kp.refl fl;have h1:upd H l' (.lst (ns.map V.str)) l'=some (.lst (ns.map V.str)):=upd_same;generalize upd H l' (.lst (ns.map V.str))=H1 at *
  refine⟨_,rfl,_,_,rfl,.inl (SqL.of (k1 _ _ hm.top (by simp))),λm' fm=>?_⟩;have k2:Kp [] H1 (upd H1 m' (.lst (qs.map λq=>V.ref q.2))):=Kp.new Kp.refl fm;have h2:upd H1 m' (.lst (qs.map λq=>V.ref q.2)) m'=some (.lst (qs.map λq=>V.ref q.2)):=upd_same;generalize upd H1 m' (.lst (qs.map λq=>V.ref q.2))=H2 at *
  have k12:=k1.trans k2;refine⟨_,rfl,l,ns,rfl,k12 _ _ hl (by simp),few,λz H3 k3 nz _=>?_⟩;have k13:=k12.trans k3;have pw:Pw H3 m' (tsOf qs):=Pw.of ⟨k3 _ _ h2 (by simp),λq hq=>k13 _ _ (hm.row q hq) (by simp),hm.two⟩ nq
  have S0:SR H H3 p l' m' ns 24 192 (ns.map V.str) (tsOf qs):=by
   obtain⟨x,y,e,_⟩:=id hP;refine⟨k3 _ _ (k2 _ _ h1 (by simp)) (by simp),pw.top,pw.row,λv hv=>?_,ne_fre (show Fre H1 m' from fm) h1,ne_fre (show Fre H l' from fl) e,ne_fre (show Fre H1 m' from fm) (k1 _ _ e (by simp)),hP.kp k13 (by simp),k13.of0,fl,k1.fre fm (by simp),by rw[qAE];lia,by unfold tsOf;rw[qAE];exact lq,λ_=>rfl⟩;rcases qAY.mp hv with q|q
   .obtain ⟨n,hn,rfl⟩:=qAM.mp q;exact⟨.inl (nm n hn).flat,λ_ _ z=>nomatch z⟩
   .obtain ⟨x,rfl,hx⟩:=zI0 hm.two nq v q;exact⟨.inl hx.flat,λ_ _ z=>nomatch z⟩
  have hl3:=k13 _ _ hl (by simp)
  have npl:p≠l:=by
   obtain⟨x,y,e,_⟩:=hP;rintro rfl;have:=qAW ((show H p=_ from hl).symm.trans e)
   cases ns with
   |nil=>cases this
   |cons n ns=>cases this
  have zo:∀{H' L},Odd H' (.str z)/\Off L (.str z):=⟨.inl nz.flat,λ_ _ z=>nomatch z⟩;clear hm pw nq lq k12 k13 k1 k2 k3 h1 h2;refine⟨_,rfl,p,4,rfl,S0.pur,by decide,by decide,λd H4 d0 d1 P4 k4=>?_⟩;refine⟨_,rfl,by lia,by lia,zBm (lo:=0) (n:=d.toNat) (λi σ H5=>∃(l' m':Addr)(vs:List V) (ts:List (Addr×V×V)) (o6 o7 o8 o9 o10 o11:Option V),σ=[some (.ref p),some (.ref l),some (.ref m),some (.ref l'),some (.ref m'),some (.str z),o6,o7,o8,o9,o10,o11]/\SR H H5 p l' m' ns (24+3*i) (192+i) vs ts) ⟨_,_,_,_,_,_,_,_,_,_,rfl,S0.go k4 P4⟩ ?_ ?_⟩
  .rintro i σ H5 hi ⟨l',m',vs,ts,o6,o7,o8,o9,o10,o11,rfl,S⟩;refine hid9 ?_;intro _ _ _ _ _ _ _ _ _;have b1:=S.lv;have b2:=S.lt;refine⟨_,rfl,p,5,rfl,S.pur,by decide,by decide,λway H6 w0 w1 P6 k6=>?_⟩;have S:=S.go k6 P6;refine⟨_,rfl,_,rfl,_,_,rfl,.inl (SqL.of S.row),_,_,rfl,rfl,p,_,rfl,S.pur,by lia,by lia,λa H7 a0 a1 P7 k7=>?_⟩;have S:=S.go k7 P7;refine zG9 (SpQ H p l m ns z (24+3*i+1) (192+i) (0+i) way a) (λN hN=>?_) ?_
   .refine ⟨_,rfl,rfl,_,rfl,ite2 (λc=>?_) (λc=>hN _ _ ⟨_,_,_,_,_,_,_,rfl,S.more (by lia),by lia⟩)⟩;refine⟨_,rfl,_,rfl,_,rfl,_,_,rfl,SqL.of S.row,λB1 g1=>?_⟩;rw[cut_to _ a0];obtain⟨H8,e8,k8,h8⟩:=newO (o:=.lst (vs.take a.toNat)) g1;rw[e8];refine⟨_,rfl,λD hD=>zHl (z:=zJc) (λi ys τ H'=>(∃o0,τ=[o0])/\ys=(zzs.take i).map V.str/\H'=upd H8 D (.lst ys)) ⟨⟨_,rfl⟩,rfl,rfl⟩ ?_ ?_⟩
    .rintro j c ys τ H' hc ⟨⟨o0,rfl⟩,rfl,rfl⟩;have en:zzs[j]?=some ((⟨#[c]⟩:Str)++ "zz"):=by unfold zzs;rw[qAN,hc];rfl
     refine⟨_,rfl,_,_,rfl,rfl,by rw[hs];show(3:Nat)<=_;decide,upd_same,?_,⟨_,rfl⟩,?_,zCg⟩
     .rw [qAE,qAd,zzs_len,hs];lia
     .rw [zAp en,qAb];rfl
    .rintro ys τ H' ⟨_,rfl,rfl⟩;rw[show zzs.take zJc.length=zzs from qBQ (by rw[zzs_len];decide)];obtain⟨H9,e9,k9,h9⟩:=newO (o:=.lst (zzs.map V.str)) hD;rw[e9];have S:=S.go0 (k8.trans k9);refine⟨_,rfl,_,_,rfl,.inl (SqL.of S.row),_,rfl,_,_,rfl,SqL.of h9,λB2 g2=>?_⟩;rw[zJl _ (by lia),qCf];obtain⟨H10,e10,k10,h10⟩:=newO (o:=.lst ((zzs.map V.str).drop vs.length)) g2;rw[e10];have lz:((zzs.map V.str).drop vs.length).length=24-vs.length:=by rw[qBN,qAE,zzs_len]
     have la:(vs.take a.toNat).length=a.toNat:=by rw[qAd];lia
     refine⟨_,_,_,_,rfl,rfl,k10 _ _ (k9 _ _ h8 (by simp)) (by simp),h10,by rw[la,lz,hs];lia,λB3 g3=>?_⟩;obtain⟨H11,e11,k11,h11⟩:=newO (o:=.lst (vs.take a.toNat++(zzs.map V.str).drop vs.length)) g3;rw[e11];have S:=S.go0 (k10.trans k11);refine⟨_,rfl,_,rfl,_,rfl,_,_,rfl,SqL.of S.row,λB4 g4=>?_⟩;rw[zJl _ a0];obtain⟨H12,e12,k12,h12⟩:=newO (o:=.lst (vs.drop a.toNat)) g4;rw[e12];have S:=S.go0 k12;have lx:(vs.take a.toNat++(zzs.map V.str).drop vs.length++vs.drop a.toNat).length=vs.length+(24-vs.length):=by rw[qAm,qAm,la,lz,qBN];lia
     refine⟨_,_,_,_,rfl,rfl,k12 _ _ h11 (by simp),h12,by rw[qAm]at lx;rw[lx,hs];lia,λl2 g5=>hN _ _ ⟨l2,_,_,_,_,_,_,rfl,S.new g5 (λx hx=>?_) (by rw[lx];lia) (by rw[lx];lia),by rw[lx];lia⟩⟩;rcases qAY.mp hx with q|q
     .rcases qAY.mp q with q|q
      .exact .inl (qB3 q)
      .obtain ⟨y,hy,rfl⟩:=qAM.mp (qCP q);exact .inr ⟨y,zzs_ok hy,rfl⟩
     .exact .inl (qCP q)
   clear S b1 b2;rintro σ H7 ⟨l',m',vs,ts,o9,o10,o11,rfl,S,a1⟩;have b1:=S.lv;refine zIn (SpQ H p l m ns z (24+3*i+2) (192+i) (0+i) way a) (λN hN=>?_) ?_
   .refine ⟨_,rfl,rfl,_,rfl,ite2 (λc=>?_) (λc=>hN _ _ ⟨_,_,_,_,_,_,_,rfl,S.more (by lia),a1⟩)⟩;refine⟨_,rfl,.inl ⟨rfl,_,SqL.of S.row⟩,_,rfl,_,rfl,p,rfl,S.pur,λv H8 ov nv fv P8 k8=>?_⟩;have S8:=S.go k8 P8;refine⟨_,_,_,_,rfl,rfl,S8.row,by rw[hs];lia,a0,a1,hN _ _ ⟨_,_,_,_,_,_,_,rfl,S8.ins ov (S.off fv) (zJb (.inr (.inl ⟨v,by simp,nv⟩))),?_⟩⟩;rw[(ST.ins_perm vs a.toNat v).length_eq,qAZ];lia
   clear S b1 a1;rintro σ H7 ⟨l',m',vs,ts,o9,o10,o11,rfl,S,a1⟩;have b1:=S.lv;refine zIn (SpQ H p l m ns z (24+3*i+3) (192+i) (0+i) way a) (λN hN=>?_) ?_
   .refine ⟨_,rfl,rfl,_,rfl,ite2 (λc=>?_) (λc=>hN _ _ ⟨_,_,_,_,_,_,_,rfl,S.more (by lia),a1⟩)⟩;refine⟨_,rfl,(by walk_at"ln"),λe he=>?_⟩;obtain⟨H8,e8,k8,h8⟩:=newO (o:=.lst []) he;rw[e8];have S:=S.go0 k8;refine zE1 (xs:=vs) (SqL.of S.row) (SqL.of h8) λbb hbb=>⟨_,rfl,?_⟩
    cases bb with
    |false=>exact iteF (hN _ _ ⟨_,_,_,_,_,_,_,rfl,S.more (by lia),a1⟩)
    |true=>
     have ne:=List.length_pos_iff.mpr (hbb rfl);refine iteT ⟨_,rfl,.inl ⟨rfl,_,SqL.of S.row⟩,_,rfl,_,rfl,_,rfl,_,rfl,_,_,rfl,.inl (SqL.of S.row),p,_,rfl,S.pur,by lia,by lia,λj H9 j0 j1 P9 k9=>?_⟩;have S:=S.go k9 P9;have hj:j.toNat<vs.length:=by lia
     refine⟨_,_,_,vs[j.toNat],rfl,rfl,SqL.of S.row,zA9 j0 (qAa hj),?_⟩;have mv:=qBD hj;have ov:=S.odd _ (qAo _ mv);refine⟨_,_,_,_,rfl,rfl,S.row,by rw[hs];lia,a0,a1,hN _ _ ⟨_,_,_,_,_,_,_,rfl,S.ins ov.1 ov.2 (twice_out mv),?_⟩⟩;rw[(ST.ins_perm vs a.toNat _).length_eq,qAZ];lia
   clear S b1 a1;rintro σ H7 ⟨l',m',vs,ts,o9,o10,o11,rfl,S,a1⟩;have b2:=S.lt;refine⟨_,rfl,p,rfl,S.pur,λv H8 ov nv fv P8 k8=>?_⟩;have fv:=S.off fv;have S:=S.go k8 P8;refine⟨_,rfl,(by walk_at"ln"),λB gB=>?_⟩;obtain⟨H9,e9,k9,h9⟩:=newO (o:=.lst [v,.str z]) gB;rw[e9];have ov:=ov.kp0 k9;have nB:B≠p:=by obtain⟨x,y,q,_⟩:=S.pur;exact(ne_fre (show Fre H8 B from gB) q).symm
   have S:=S.go0 k9;refine⟨_,rfl,p,2,rfl,S.pur,by decide,by decide,λj H10 j0 j1 P10 k10=>?_⟩;have ov:=ov.kpO k10 λa ha=>fv a (by rw[qAQ.mp ha];simp);have S:=S.go k10 P10
   obtain⟨u,eu,ou⟩:∃u,[v,.str z][j.toNat]?=some u/\Odd H10 u/\Off [p,l',m'] u:=by
    rcases(show j=0\/j=1 by lia)with rfl|rfl
    .exact ⟨v,rfl,ov,fv⟩
    .exact ⟨_,rfl,zo⟩
   refine⟨_,_,_,u,rfl,rfl,SqL.of (k10 _ _ h9 (nm1 nB)),zA9 j0 eu,?_⟩;clear fv nv ov;refine⟨_,rfl,_,rfl,(by walk_at"ln"),λt1 g1=>?_⟩;obtain⟨H11,e11,k11,h11⟩:=newO (o:=.tup [u,.str z]) g1;rw[e11];refine⟨_,rfl,_,rfl,(by walk_at"ln"),λt2 g2=>?_⟩;obtain⟨H12,e12,k12,h12⟩:=newO (o:=.tup [u,u]) g2;rw[e12];refine⟨_,rfl,_,rfl,(by walk_at"ln"),λt3 g3=>?_⟩;obtain⟨H13,e13,k13,h13⟩:=newO (o:=.tup [.str z,u]) g3;rw[e13];refine⟨(by walk_at"ln"),λB gB=>?_⟩;obtain⟨H14,e14,k14,h14⟩:=newO (o:=.lst [.ref t1,.ref t2,.ref t3]) gB;rw[e14];have kk:=k11.trans (k12.trans (k13.trans k14));have S:=S.go0 kk;refine⟨_,rfl,p,3,rfl,S.pur,by decide,by decide,λj H15 j0 j1 P15 k15=>?_⟩;have ou:Odd H15 u/\Off [p,l',m'] u:=⟨(ou.1.kp0 kk).kpO k15 λa ha=>ou.2 a (by rw[qAQ.mp ha];simp),ou.2⟩
   have pn:∀{x:Addr}{o:HO},H14 x=some o->(∀y w:Int,o≠.lst [.int y,.int w])->H15 x=some o:=λh q=>k15 _ _ h (nm1 λz=>by
    obtain⟨y,w,e,_⟩:=S.pur;rw[z,e]at h;exact q y w (qAW h).symm)
   have S:=S.go k15 P15
   obtain⟨t,x,y,et,ht,ox,oy⟩:∃t x y,[V.ref t1,.ref t2,.ref t3][j.toNat]?=some (.ref t)/\H15 t=some (.tup [x,y])/\(Odd H15 x/\Off [p,l',m'] x)/\(Odd H15 y/\Off [p,l',m'] y):=by
    rcases(show j=0\/j=1\/j=2 by lia)with rfl|rfl|rfl
    .exact ⟨t1,_,_,rfl,pn (k14 _ _ (k13 _ _ (k12 _ _ h11 (by simp)) (by simp)) (by simp)) nofun,ou,zo⟩
    .exact ⟨t2,_,_,rfl,pn (k14 _ _ (k13 _ _ h12 (by simp)) (by simp)) nofun,ou,ou⟩
    .exact ⟨t3,_,_,rfl,pn (k14 _ _ h13 (by simp)) nofun,zo,ou⟩
   refine⟨_,_,_,.ref t,rfl,rfl,SqL.of (pn h14 nofun),zA9 j0 et,?_⟩;refine zG9 (λσ H16=>∃(o9 o11:Option V)(t:Addr)(x y:V),σ=[some (.ref p),some (.ref l),some (.ref m),some (.ref l'),some (.ref m'),some (.str z),some (.int (0+i)),some (.int way),some (.int a),o9,some (.ref t),o11]/\SR H H16 p l' m' ns (24+3*i+3) (192+i) vs ts/\H16 t=some (.tup [x,y])/\(Odd H16 x/\Off [p,l',m'] x)/\(Odd H16 y/\Off [p,l',m'] y)) (λN hN=>?_) ?_
   .refine ⟨_,rfl,(by walk_at"ln"),λe he=>?_⟩;have hl5:=S.kp _ _ hl (nm1 npl.symm);obtain⟨H16,e16,k16,h16⟩:=newO (o:=.lst []) he;rw[e16];refine zE1 (xs:=ns.map V.str) (SqL.of (k16 _ _ hl5 (by simp))) (SqL.of h16) λbb hbb=>⟨_,rfl,?_⟩;have S:=S.go0 k16
    cases bb with
    |false=>exact iteF (hN _ _ ⟨_,_,t,x,y,rfl,S,k16 _ _ ht (by simp),⟨ox.1.kp0 k16,ox.2⟩,⟨oy.1.kp0 k16,oy.2⟩⟩)
    |true=>
     have ne:=List.length_pos_iff.mpr (hbb rfl);rw[qAE]at ne;have hl6:=k16 _ _ hl5 (by simp);have ou:Odd H16 u/\Off [p,l',m'] u:=⟨ou.1.kp0 k16,ou.2⟩;refine iteT ⟨_,rfl,_,rfl,_,rfl,_,_,rfl,.inl (SqL.of hl6),p,_,rfl,S.pur,by rw[qAE];lia,by rw[qAE];lia,λj H17 j0 j1 P17 k17=>?_⟩;rw[qAE]at j1;have hj:j.toNat<ns.length:=by lia
     have gj:ns[j.toNat]?=some ns[j.toNat]:=qAa hj;have ou:Odd H17 u/\Off [p,l',m'] u:=⟨ou.1.kpO k17 λa ha=>ou.2 a (by rw[qAQ.mp ha];simp),ou.2⟩;refine⟨_,_,_,.str ns[j.toNat],rfl,rfl,SqL.of (k17 _ _ hl6 (nm1 npl.symm)),zA9 j0 (by rw[qAN,gj];rfl),?_⟩;have S:=S.go k17 P17;have go:∀{H' L},Odd H' (.str ns[j.toNat])/\Off L (.str ns[j.toNat]):=⟨.inl (nm _ (qAT gj)).flat,λ_ _ z=>nomatch z⟩;generalize ns[j.toNat]=g at *
     refine⟨_,rfl,_,rfl,(by walk_at"ln"),λt1 g1=>?_⟩;obtain⟨H11,e11,k11,h11⟩:=newO (o:=.tup [u,.str g]) g1;rw[e11];refine⟨_,rfl,_,rfl,(by walk_at"ln"),λt2 g2=>?_⟩;obtain⟨H12,e12,k12,h12⟩:=newO (o:=.tup [.str g,u]) g2;rw[e12];refine⟨_,rfl,_,rfl,(by walk_at"ln"),λt3 g3=>?_⟩;obtain⟨H13,e13,k13,h13⟩:=newO (o:=.tup [u,.str z]) g3;rw[e13];refine⟨_,rfl,_,rfl,(by walk_at"ln"),λt4 g4=>?_⟩;obtain⟨H18,e18,k18,h18⟩:=newO (o:=.tup [.str g,.str g]) g4;rw[e18];refine⟨(by walk_at"ln"),λB gB=>?_⟩;obtain⟨H14,e14,k14,h14⟩:=newO (o:=.lst [.ref t1,.ref t2,.ref t3,.ref t4]) gB;rw[e14];have kk:=k11.trans (k12.trans (k13.trans (k18.trans k14)));have S:=S.go0 kk;refine⟨_,rfl,p,4,rfl,S.pur,by decide,by decide,λj H15 j0 j1 P15 k15=>?_⟩;have ou:Odd H15 u/\Off [p,l',m'] u:=⟨(ou.1.kp0 kk).kpO k15 λa ha=>ou.2 a (by rw[qAQ.mp ha];simp),ou.2⟩
     have pn:∀{x:Addr}{o:HO},H14 x=some o->(∀y w:Int,o≠.lst [.int y,.int w])->H15 x=some o:=λh q=>k15 _ _ h (nm1 λz=>by
      obtain⟨y,w,e,_⟩:=S.pur;rw[z,e]at h;exact q y w (qAW h).symm)
     have S:=S.go k15 P15
     obtain⟨t,x,y,et,ht,ox,oy⟩:∃t x y,[V.ref t1,.ref t2,.ref t3,.ref t4][j.toNat]?=some (.ref t)/\H15 t=some (.tup [x,y])/\(Odd H15 x/\Off [p,l',m'] x)/\(Odd H15 y/\Off [p,l',m'] y):=by
      rcases(show j=0\/j=1\/j=2\/j=3 by lia)with rfl|rfl|rfl|rfl
      .exact ⟨t1,_,_,rfl,pn (k14 _ _ (k18 _ _ (k13 _ _ (k12 _ _ h11 (by simp)) (by simp)) (by simp)) (by simp)) nofun,ou,go⟩
      .exact ⟨t2,_,_,rfl,pn (k14 _ _ (k18 _ _ (k13 _ _ h12 (by simp)) (by simp)) (by simp)) nofun,go,ou⟩
      .exact ⟨t3,_,_,rfl,pn (k14 _ _ (k18 _ _ h13 (by simp)) (by simp)) nofun,ou,zo⟩
      .exact ⟨t4,_,_,rfl,pn (k14 _ _ h18 (by simp)) nofun,go,go⟩
     exact⟨_,_,_,.ref t,rfl,rfl,SqL.of (pn h14 nofun),zA9 j0 et,hN _ _ ⟨_,_,t,x,y,rfl,S,ht,ox,oy⟩⟩
   clear S ht ox oy pn;rintro σ H16 ⟨o9,o11,t,x,y,rfl,S,ht,ox,oy⟩;refine⟨_,rfl,_,_,rfl,rfl,_,rfl,ite2 (λc=>?_) (λc=>⟨_,_,_,_,_,_,_,_,_,_,rfl,{S.more (b':=24+3*(i+1)) (by lia)with lt:=by have:=S.lt;lia}⟩)⟩;refine⟨_,rfl,.inl ⟨rfl,_,SqL.of S.prs⟩,_,rfl,_,rfl,_,_,rfl,.inl (SqL.of S.prs),_,_,rfl,rfl,p,_,rfl,S.pur,by lia,by rw[qAE];lia,λj H17 j0 j1 P17 k17=>?_⟩;have ux:∀{v},Odd H16 v/\Off [p,l',m'] v->Odd H17 v/\Off [p,l',m'] v:=λou=>⟨ou.1.kpO k17 λa ha=>ou.2 a (by rw[qAQ.mp ha];simp),ou.2⟩
   have ht:H17 t=some (.tup [x,y]):=k17 _ _ ht (nm1 λz=>by
    obtain⟨y,w,e,_⟩:=S.pur;rw[<-z,ht]at e;cases e)
   have S:=S.go k17 P17;rw[qAE]at j1;refine⟨_,rfl,_,_,_,_,rfl,rfl,S.prs,by rw[qAE,hs];lia,j0,by rw[qAE];lia,?_⟩;have S:=S.pair (i:=j.toNat) ht (ux ox) (ux oy);rw[qAb,qAl,qCp,qCq]at S;exact⟨_,_,_,_,_,_,_,_,_,_,rfl,S.more (by lia)⟩
  .rintro σ H5 ⟨l',m',vs,ts,o6,o7,o8,o9,o10,o11,rfl,S⟩;have b1:=S.lv;have b2:=S.lt;refine⟨_,rfl,_,rfl,(by walk_at"ln"),λt ft=>?_⟩;have S:=S.go0 (H':=upd H5 t (.tup [.ref l',.ref m'])) (Kp.new Kp.refl ft);exact k t l' m' vs ts _ upd_same ⟨S.row,λv hv=>(S.odd v (qAo _ hv)).1⟩ ⟨S.prs,S.tup,λv hv=>(S.odd v (qAt _ hv)).1⟩ (by lia) (by lia) S.bad S.pur S.kp
end
section
variable{P:Program}{w:World}{K:PySem.W.Frag}{mg:Str->Option Value}{base:Heap}{c:CC}
theorem notOne(nm:∀n∈ns,zCd n)(h:zDk x=false):zBl (.str x) ns=false:=qAO λz=>by rw[(zDt x).mpr (nm x z)]at h;cases h
def zGu(c:CC):Sp:=λas H Q _=>∃(j l:Addr)(J:JR),as=[.ref j,.ref l]/\JobsAt c.J H j J/\Txs H l J.ns/\(∀n∈J.ns,zCd n)/\∀H',Kp [] H H'->Q (.bl true) H'
abbrev zEw:Stmt:=top 54
theorem zBx:FnScope ["_law_jobs_here","_law_names_here","_law_things","_law_k","_law_way","_law_due_here","_law_name"] ["_law_jobs_here","_law_names_here"] (zAe zEw):=fnS
theorem ok_strangers(F:Fun K "_law_strangers" "_law_strangers" zEw f fd)(T:Txt K mg)(C_no_job:Cal P w K mg base "_law_no_job" 1 ["_law_row"] spNoJob)(C_asked:Cal P w K mg base "_law_asked" 7 ["_law_jobs_here","_law_way","_law_one","_law_other"] (spAsked c))(C_refused:Cal P w K mg base "_law_refused" 2 ["_law_e","_law_due_here","_law_pairs_here"] (zGw c)):FnOk P w K mg base CX0 8 f fd ["_law_jobs_here","_law_names_here"] (zGu c):=by
 refine F.ok zBx (λvs H Q E h=>?_) (λcdv A outer s H vs Q E hr h=>?_)
 .obtain ⟨j,l,J,rfl,_⟩:=h;rfl
 .obtain ⟨j,l,J,rfl,A0,hl,nm,k⟩:=h;have hr1:=hr.mono (j:=1) (by decide);have hr2:=hr.mono (j:=2) (by decide)
  refine⟨_,(@zAc _ _ _ _ _ (@zEc _ _ 2 _ _ _ _ (by exact zBx.nd) (by rfl) (by walk_at"lc") (@zDi _ _ _ _ (zAr zAk (zAr (by exact(zAj C_no_job hr1 rfl (zAa (pv 1) zAb))) (zAr zAk (zAr zEe (zAr zAh (zAr zD1 (zAr (by exact(zBg (zAa zAk zAb))) (zAr (by exact(zAt (zAa zAk zAb))) (zAr (by exact(pe_dA zAk zAh)) zDj)))))))))) (by rfl) (by first|exact Or.inl rfl|exact Or.inr rfl)) (zAc (zBk qAr rfl (zBc rfl T.z_range (zAa (zAg zAn (by rfl) T.z_len zBr (zAa (pv 2) zAb)) zAb)) (pgN (i:=3) zBx.nd)
    (zAc (zBk qAr rfl (zBc rfl T.z_range (zAa zAh zAb)) (pgN (i:=4) zBx.nd)
     (zAc (psS (i:=5) zBx.nd (zBg (zAa zAk (zAa (zBe zAw (pv 2) (pv 3) (fun _ _=>rfl)) zAb))))
     (zAd (zA1 (zCl (zA7 (zAj C_refused hr2 rfl (zAa (zAj C_asked hr rfl (zAa (pv 0) (zAa (pv 4) (zAa (zBe zAw (pv 2) (pv 3) (fun _ _=>rfl)) (zAa (zBe zAw (pv 2) (zAv zEs (pv 3) zAh) (fun _ _=>rfl)) zAb))))) (zAa (pv 5) (zAa (zAt zAb) zAb))))))
      (zAd (zAm zD1))
      zAl))))
    (zAd (zBk qAr rfl (zA5 (zEk zFq (pv 1) zFv (zFu zAh))) (pgN (i:=6) zBx.nd)
     (zAd (zA1 (zCl (zA7 (zAj C_refused hr2 rfl (zAa (zAj C_asked hr rfl (zAa (pv 0) (zAa zAh (zAa (pv 6) (zAa (zBe zAw (pv 2) (pv 3) (fun _ _=>rfl)) zAb))))) (zAa (zBg (zAa zAk (zAa (zBe zAw (pv 2) (pv 3) (fun _ _=>rfl)) zAb))) (zAa (zAt zAb) zAb))))))
      (zAd (zAm zD1))
      zAl))))))
   (zAd (zAm zD1)))),?_⟩
  refine hid3 ?_;intro _ _ _;refine⟨_,rfl,l,J.ns,rfl,hl,A0.few,λx H0 k0 nx xn=>⟨(by walk_at"ln"),λt ht=>⟨(by walk_at"ln"),λe he d hd=>⟨(by walk_at"ln"),λB hB=>?_⟩⟩⟩⟩;obtain⟨H1,e1,k1,h1⟩:=newO (o:=.tup [.str "a"]) ht;rw[e1]at he hd hB ⊢;obtain⟨H2,e2,k2,h2⟩:=newO (o:=.lst [.str "a"]) he;rw[e2]at hd hB ⊢;obtain⟨H3,e3,k3,h3⟩:=newO (o:=.dK [(Sum.inr "a",.int 1)]) hd;rw[e3]at hB ⊢
  have gd:∀v∈[V.str "",.str x,.str "A",.non,.int 5,.bl true,.ref t,.ref e,.ref d],Odd H3 v/\zBl v J.ns=false:=by
   have r:∀a:Addr,(H3 a=some (.lst [.str "a"])\/H3 a=some (.tup [.str "a"])\/H3 a=some (.dK [(Sum.inr "a",.int 1)]))->Odd H3 (.ref a)/\zBl (.ref a) J.ns=false:=λa h=>⟨.inr ⟨a,"a",rfl,by decide,by decide,h⟩,rfl⟩;simp only[List.forall_mem_cons];exact⟨⟨.inl (zFk (by decide)),notOne nm (by decide)⟩,⟨.inl nx.flat,qAO xn⟩,⟨.inl (zFk (by decide)),notOne nm (by decide)⟩,⟨.inl (.inr (.inl rfl)),rfl⟩,⟨.inl (.inr (.inr (.inr ⟨_,rfl⟩))),rfl⟩,⟨.inl (.inr (.inr (.inl ⟨_,rfl⟩))),rfl⟩,r t (.inr (.inl (k3 _ _ (k2 _ _ h1 (by simp)) (by simp)))),r e (.inl (k3 _ _ h2 (by simp))),r d (.inr (.inr h3)),nofun⟩
  have ad:∀i:Nat,i<9->∃u∈[V.str "",.str x,.str "A",.non,.int 5,.bl true,.ref t,.ref e,.ref d],atI [V.str "",.str x,.str "A",.non,.int 5,.bl true,.ref t,.ref e,.ref d] (0+(i:Int)-1)=some u:=λi hi=>by
   cases i with
   |zero=>exact⟨.ref d,by simp,rfl⟩
   |succ i=>exact⟨_,qBD (show(0+((i+1:Nat):Int)-1).toNat<9 by lia),zA9 (by lia) (qAa _)⟩
  generalize eL:[V.str "",.str x,.str "A",.non,.int 5,.bl true,.ref t,.ref e,.ref d]=L at *
  have lL:L.length=9:=by rw[<-eL];rfl
  obtain⟨H4,e4,k4,h4⟩:=newO (o:=.lst L) hB;rw[e4];have kk:=k0.trans (k1.trans (k2.trans (k3.trans k4)));have gd:∀v∈L,Odd H4 v/\zBl v J.ns=false:=λv hv=>⟨(gd v hv).1.kp0 k4,(gd v hv).2⟩;have A4:=A0.kp0 kk;have hl4:=kk _ _ hl (by simp);clear eL h1 h2 h3 k1 k2 k3 k4 k0 A0 hl e1 e2 e3 e4 he hd hB ht;refine⟨_,rfl,_,_,rfl,.inl (SqL.of h4),?_⟩;rw[lL];refine⟨_,rfl,by decide,by decide,zBm (lo:=0) (n:=9) (λi σ H5=>(∃o3 o4 o5 o6:Option V,σ=[some (.ref j),some (.ref l),some (.ref B),o3,o4,o5,o6])/\Kp [] H4 H5) ⟨⟨_,_,_,_,rfl⟩,Kp.refl⟩ ?_ ?_⟩
  .rintro i σ H5 hi ⟨⟨o3,o4,o5,o6,rfl⟩,k5⟩;refine hid2 ?_;intro _ _;have iL:(0+(i:Int)).toNat<L.length:=by lia
   have ai:atI L (0+(i:Int))=some L[(0+(i:Int)).toNat]:=zA9 (by lia) (qAa iL);have gv:=gd _ (qBD iL);obtain⟨u,mu,au⟩:=ad i hi;have gu:=gd u mu;generalize L[(0+(i:Int)).toNat]=v at *
   refine⟨_,rfl,by decide,by decide,zBm (lo:=0) (n:=4) (λn σ H5=>(∃o4 o5 o6:Option V,σ=[some (.ref j),some (.ref l),some (.ref B),some (.int (0+i)),o4,o5,o6])/\Kp [] H4 H5) ⟨⟨_,_,_,rfl⟩,k5⟩ ?_ ?_⟩
   .rintro n σ H5 hn ⟨⟨o4,o5,o6,rfl⟩,k5⟩;refine hid2 ?_;intro _ _;refine⟨_,rfl,_,rfl,_,_,_,_,rfl,rfl,SqL.of (k5 _ _ h4 (by simp)),ai,(by walk_at"ln"),λt ht=>?_⟩;obtain⟨H6,e6,k6,h6⟩:=newO (o:=.tup [.str "stranger",v]) ht;rw[e6];have k46:=k5.trans k6;have h46:=k46 _ _ h4 (by simp);refine⟨_,rfl,_,rfl,_,rfl,_,rfl,_,_,_,_,rfl,rfl,SqL.of h46,ai,_,rfl,_,rfl,_,_,rfl,rfl,_,_,_,_,rfl,rfl,SqL.of h46,au,j,J,_,v,u,rfl,A4.kp0 k46,gv.1.kp0 k46,gu.1.kp0 k46,λz=>absurd (gv.2.symm.trans z) (by decide),λa dx H7 k7 q ha=>⟨_,rfl,(by walk_at"ln"),λb hb=>?_⟩⟩;rw[gv.2,qAB (by decide)]at q;obtain⟨H8,e8,k8,h8⟩:=newO (o:=.lst []) hb;rw[e8];exact⟨a,b,_,dx,.strange v,[],[],rfl,k8 _ _ ha (by simp),⟨rfl,q.kp k8⟩,⟨t,rfl,k8 _ _ (k7 _ _ h6 (by simp)) (by simp)⟩,nofun,λH9 k9=>⟨_,rfl,iteF ⟨⟨_,_,_,rfl⟩,k46.trans (k7.trans (k8.trans k9))⟩⟩⟩
   .rintro σ H5 ⟨⟨o4,o5,o6,rfl⟩,k5⟩;refine⟨_,rfl,_,rfl,_,_,rfl,SqL.of (k5 _ _ hl4 (by simp)),λb gb=>?_⟩;rw[cut_to _ (by decide)];obtain⟨H6,e6,k6,h6⟩:=newO (o:=.lst ((J.ns.map V.str).take (1:Int).toNat)) gb;rw[e6];refine⟨_,rfl,⟨_,SqL.of h6⟩,zCa (λn σ H7=>(∃o4 o5 o6:Option V,σ=[some (.ref j),some (.ref l),some (.ref B),some (.int (0+i)),o4,o5,o6])/\Kp [] H6 H7) ⟨⟨_,_,_,rfl⟩,Kp.refl⟩ (λn σ H7 _ ⟨_,k7⟩=>SqL.of (k7 _ _ h6 (by simp))) ?_ ?_⟩
    .rintro n y σ H7 hy ⟨⟨o4,o5,o6,rfl⟩,k7⟩;obtain⟨g,mg,rfl⟩:=qAM.mp (qB3 (qAT hy));have k47:=k5.trans (k6.trans k7);have one:zBl (.str g) J.ns=true:=qAP mg;refine⟨_,rfl,_,rfl,_,rfl,_,rfl,_,_,_,_,rfl,rfl,SqL.of (k47 _ _ h4 (by simp)),ai,j,J,0,.str g,v,rfl,A4.kp0 k47,.inl (nm g mg).flat,gv.1.kp0 k47,λ_=>⟨rfl,gv.2⟩,λa dx H8 k8 q ha=>?_⟩;rw[one,qAC rfl]at q;refine⟨_,rfl,_,rfl,_,_,_,_,rfl,rfl,SqL.of (k8 _ _ (k47 _ _ h4 (by simp)) (by simp)),ai,(by walk_at"ln"),λt ht=>?_⟩;obtain⟨H9,e9,k9,h9⟩:=newO (o:=.tup [.str "stranger",v]) ht;rw[e9];refine⟨(by walk_at"ln"),λb hb=>?_⟩;obtain⟨H10,e10,k10,h10⟩:=newO (o:=.lst []) hb;rw[e10];have k90:=k9.trans k10;exact⟨a,b,_,dx,.strange v,[],[],rfl,k90 _ _ ha (by simp),⟨rfl,q.kp k90⟩,⟨t,rfl,k10 _ _ h9 (by simp)⟩,nofun,λH11 k11=>⟨_,rfl,iteF ⟨⟨_,_,_,rfl⟩,k7.trans (k8.trans (k90.trans k11))⟩⟩⟩
    .rintro σ H7 ⟨⟨o4,o5,o6,rfl⟩,k7⟩;exact⟨⟨_,_,_,_,rfl⟩,k5.trans (k6.trans k7)⟩
  .rintro σ H5 ⟨_,k5⟩;exact k _ (kk.trans k5)
end
end My
namespace L2
open PySem PySem.Spec PyProof.Rows PySem.W
section
variable{X:Cx}{pins:List (Addr×Obj)}{σ:St}{H:Hp}{s:Shared}{h':Heap}
theorem Inv.laidN{a:Addr}{o:HO}{t':Nat}(I:Inv X pins σ H s)(k:∀b u,s.heap.get? b=some u->h'.get? b=some u)(hp:s.heap.get? a=none)(new:zAz X.prog X.w (upd H a o) h' a o):Inv X pins σ (upd H a o) {s with heap:=h',toks:=t'}:=by
 have hn:H a=none:=by
  cases q:H a with
  |none=>rfl
  |some u=>
   obtain⟨_,e⟩:=zC1 (I.hok a u q);rw[hp]at e;cases e
 refine I.un ⟨λb u q _ _ _=>k b u q,λb u q _ _ _=>⟨u.slots,k b u q⟩,λb u q n _=>by rw[upd_ne (λz=>by rw[z,hp]at q;cases q)];exact n,λb u q _=>⟨u,k b u q⟩,λb xs q=>by rw[upd_ne (zAi q hn)];exact q,λb u xs q=>by rw[upd_ne (zAi q hn)];exact q,λb ps q=>⟨#[],by rw[upd_ne (zAi q hn),q];simp⟩⟩ λb u e=>?_
 by_cases hb:b=a
 .subst hb;rw[upd_same]at e;cases e;exact new
 .rw [upd_ne hb]at e;exact(I.hok b u e).stay (λc v _ q=>k c v q) (λc q=>by rw[upd_ne (zAi q hn)];exact q) λc xs q=>by rw[upd_ne (zAi q hn)];exact q
end
section
variable{X:Cx}{C f:Addr}{k:Nat}{fd:FuncData}{ps:List Str}{sp:Sp}{x:Str}{np pos:Pos}{a:Expr}{es:List Expr}{t:TA}
def tMakeE(C:Addr)(sp:Sp)(t:TA):TE:=λσ H Q=>t σ H λvs H1=>vs.length<=sizeLine/\∀e,H1 e=none->sp (.ref e::vs) (upd H1 e (excN e C none)) (λv H2=>v= .non/\∃dd,H2 e=some (excN e C dd)/\Q (.ref e) (upd H2 e (excD e C dd))) E0
theorem pe_makeE(hg:Gl X x)(hm:X.mg x=some (.ref C))(M:MkX X.K C f)(F:FnOk X.prog X.w X.K X.mg X.base CX0 k f fd ps sp)(hr:Room (k+1) X.A)(hb:zCe X.K fd ps [])(hp:zHo CX0 X E0)(ha:PA X (a::es) t)
  (hd:(x==("__debug__": Str))=false:=by decide) (he:starEach (a::es) X.env=(false,eval a X.env)::starEach es X.env:=by rfl) (hpl:(backTo pos (starEach es X.env)).any (·.1)=false:=by rfl) :
  PE X (.Call (.Name x np) (a::es) [] pos) (tMakeE C sp t):=by
 intro pins s σ H Q I h;refine qBa (zC2 I hg hm ?_ hd);refine callWith_K (h₀:=X.base) I.ok.mod.kin M.kp (thn (ha pos pins s σ H _ I h) λus s1 ⟨vs,H1,I1,r,z,q⟩=>⟨I1.kIn,?_⟩) he hpl;obtain⟨h1,g1,d1,t1,os1⟩:=s1;refine exc_call I1.kIn M.exc M.init (qA7.mp M.fn) (show us.length<=sizeLine by rw[<-r.length];exact z) λh' e le mk=>?_;have fe:H1 e=none:=I1.hok.fresh le;obtain⟨t0,ge,_,_⟩:=mk.there;have I2:Inv X pins σ (upd H1 e (excN e C none)) ⟨h',g1,d1,t1,os1⟩:=I1.laid (h':=h') (t':=t1) mk.keeps le (zJj ⟨_,_,ge,rfl,rfl,rfl,rfl,rfl,rfl⟩);have hq:=q e fe;have r2:Vals (V.ref e::vs) (Value.ref e::us):=.cons rfl r;have hl:(Value.ref e::us).length=ps.length:=by rw[<-r2.length];exact F.len _ _ _ _ hq
 have bd:=hb ⟨h',g1,d1,t1,os1⟩ (Value.ref e::us) I2.kIn (by rw[qAu];exact hl);rw[qAu]at bd;refine qBI (qBV (F.run _ X.stack _ _ ⟨Value.ref e::us,[]⟩ _ _ _ _ (hr.make C us []) (I2.env0.make C us []) bd r2 hq) λrr s' hq'=>?_)
 cases rr with
 |error y=>exact hp pins σ _ _ y s' I2 hq'
 |ok fl=>
  cases fl with
  |ret u=>
   obtain⟨v,H',I3,rv,ev,dd,e3,q3⟩:=I2.after hq';subst ev;obtain⟨⟨o,ws,y1,y2,y3,y4,y5,y6,y7⟩,_⟩:=(show zAz _ _ _ _ _ (excN e C dd)from I3.hok e _ e3);exact⟨rv,.ref e,_,I3.retell e3 nofun nofun nofun (λo v z=>by have:=I3.base.frzs e o v z;rw[e3]at this;cases this) (excD_ok ⟨o,y1,y2,y3,ws,y4,y7⟩),rfl,q3⟩
  |next=>exact False.elim hq'
  |brk=>exact False.elim hq'
  |cont=>exact False.elim hq'
def tMakeP(C:Addr)(t:TA):TE:=λσ H Q=>t σ H λvs H1=>vs.length<=sizeLine/\∀e,H1 e=none->Q (.ref e) (upd H1 e (excD e C none))
theorem zIw(hg:Gl X x)(hm:X.mg x=some (.ref C))(q:excIn X.K C bmVE "ValueError.__new__"=true)(kp:keepIn X.K (.ref C)=true)(ha:PA X (a::es) t)
  (hd:(x==("__debug__": Str))=false:=by decide) (he:starEach (a::es) X.env=(false,eval a X.env)::starEach es X.env:=by rfl) (hpl:(backTo pos (starEach es X.env)).any (·.1)=false:=by rfl) :
  PE X (.Call (.Name x np) (a::es) [] pos) (tMakeP C t):=by
 intro pins s σ H Q I h;obtain⟨bm,N,nm,qn,bs,hdct,sn,sub,ab,col,dd,k0,k1,k2,k3,k5,mN,hC,hN,hni,T⟩:=xcls_at I.ok.mod.kin q;refine qBa (zC2 I hg hm ?_ hd);refine callWith_K (h₀:=X.base) I.ok.mod.kin kp (thn (ha pos pins s σ H _ I h) λus s1 ⟨vs,H1,I1,r,z,q1⟩=>⟨I1.kIn,?_⟩) he hpl;obtain⟨h1,g1,d1,t1,os1⟩:=s1;refine wpAny_call_exc_subU (hrest:=by show us.length<=sizeLine;rw[<-r.length];exact z) qCX (by decide +kernel) qCX (T.keeps I1.bk) (I1.bk _ _ hC) (hN.keeps I1.bk) hni λh' e mk=>?_;obtain⟨t0,ge,_,_⟩:=mk.there;have I2:Inv X pins σ (upd H1 e (excD e C none)) ⟨h',g1,d1,t1,os1⟩:=I1.laidN (h':=h') (t':=t1) mk.keeps mk.new (excD_ok ⟨_,ge,rfl,rfl,_,rfl,rfl⟩);refine⟨.ref e,_,I2,rfl,q1 e ?_⟩
 cases y:H1 e with
 |none=>rfl
 |some u=>
  obtain⟨_,w⟩:=zC1 (I1.hok e u y);rw[show h1.get? e=none from mk.new]at w;cases w
end
end L2
namespace My
open PySem L2
variable{x:Str}{C f:Addr}
theorem pe_callC0{X:Cx}{k:Nat}{sp:Sp}{p pos:Pos}(C:Cal X.prog X.w X.K X.mg X.base x k [] sp)(hr:Room k X.A)(hg:Gl X x)(hdb:(x==("__debug__": Str))=false:=by decide):PE X (.Call (.Name x p) [] [] pos) (tCall sp [] E0 tNil):=by
 obtain⟨f,fd,h1,h2,h3,h4⟩:=C.to;exact pe_call0 h4 hr hg h1 h2 h3 .nil pass0 hdb
theorem zGd{X:Cx}{k:Nat}{ps:List Str}{sp:Sp}{np pos:Pos}{a:Expr}{es:List Expr}{t:TA}(hg:Gl X x)(hm:X.mg x=some (.ref C))(M:MkrX X.prog X.w X.K X.mg X.base C k ps sp)(hr:Room (k+1) X.A)(ha:PA X (a::es) t)
  (hd:(x==("__debug__": Str))=false:=by decide) (he:starEach (a::es) X.env=(false,eval a X.env)::starEach es X.env:=by rfl) (hpl:(backTo pos (starEach es X.env)).any (·.1)=false:=by rfl):PE X (.Call (.Name x np) (a::es) [] pos) (tMakeE C sp t):=by
 obtain⟨f,fd,h1,h2,h3⟩:=M.to;exact pe_makeE hg hm h1 h3 hr h2 pass0 ha hd he hpl
section
variable{P:Program}{w:World}{K:PySem.W.Frag}{mg:Str->Option Value}{base:Heap}{CB:Addr}{c:CC}
def spHand:Sp:=λvs H Q _=>vs=[]/\∀H',Kp [] H H'->Q (.bl true) H'
abbrev s_hand:Stmt:=top 55
theorem zFr:FnScope ["_law_made_here","_law_fields","_law_ring","_law_words","_law_due_here"] [] (zAe s_hand):=fnS
theorem madeN{H:Hp}{C e dx:Addr}{fs:List (Str×V)}(he:H e=none)(hx:upd H e (excN e C none) dx=none):∃H',upd (upd (upd (upd H e (excN e C none)) dx (.xd fs)) e (excN e C (some dx))) e (excD e C (some dx))=H'/\Kp [] H H'/\H' e=some (excD e C (some dx))/\H' dx=some (.xd fs):=by
 have nx:e≠dx:=ne_fre hx (show upd H e _ e=some _ from upd_same);have fx:Fre H dx:=by have:=hx;rw[upd_ne (qAV nx)]at this;exact this
 exact⟨_,rfl,Kp.new (Kp.new (Kp.new (Kp.new Kp.refl he) fx) he) he,upd_same,by rw[upd_ne (qAV nx),upd_ne (qAV nx),upd_same]⟩
theorem ok_hand{dd:Nat->Addr}{fd:FuncData}{CX CY:Addr}(F:Fun K "_law_by_hand" "_law_by_hand" s_hand f fd)(KS:∀d,d≠.fine->KX K dd CB (c.of d) (ixD d))(NS:∀d,ixD d<3->KN K (c.of d) "name")(NR:KN K c.R "ring")(RN:XF K mg CB c.N "NoName")(RT:XF K mg CB c.T "Twice")(RS:XF K mg CB c.S "Stranger")(mR:mg "Ring"=some (.ref c.R))(RM:X0 K mg CB c.M "TooMany")(RX:X0 K mg CB CX "NoText")(RY:X0 K mg CB CY "NoBench")(kM:PySem.W.keepIn K (.ref c.M)=true)(kX:PySem.W.keepIn K (.ref CX)=true)(kY:PySem.W.keepIn K (.ref CY)=true)(FX:KF K dd CX 5)(FY:KF K dd CY 6)
  (C_kinds:Cal P w K mg base "_law_kinds" 1 ["_law_e"] (spKinds K dd)) (M_NoName:MkrX P w K mg base c.N 2 ["self","name"] (zCo c.N)) (M_Twice:MkrX P w K mg base c.T 2 ["self","name"] (zCo c.T)) (M_Stranger:MkrX P w K mg base c.S 2 ["self","name"] (zCo c.S)) (M_Ring:MkrX P w K mg base c.R 1 ["self","ring"] (spRing c.R)):FnOk P w K mg base CX0 4 f fd [] spHand:=by
 refine F.ok zFr (λvs H Q E h=>?_) (λcdv A outer s H vs Q E hr h=>?_)
 .obtain ⟨rfl,_⟩:=h;rfl
 .obtain ⟨rfl,k⟩:=h;have hr1:=hr.mono (j:=1) (by decide);have hr2:=hr.mono (j:=2) (by decide)
  refine⟨_,(@zAc _ _ _ _ _ (@zEc _ _ 0 _ _ _ _ (by exact zFr.nd) (by rfl) (by walk_at"lc") (@zDi _ _ _ _ (zAr (by exact(zGd rfl RN.mgX M_NoName hr (zAa zAk zAb))) (zAr (by exact(zGd rfl RT.mgX M_Twice hr (zAa zAk zAb))) (zAr (by exact(zGd rfl RS.mgX M_Stranger hr (zAa zAh zAb))) zDj)))) (by rfl) (by first|exact Or.inl rfl|exact Or.inr rfl)) (@zAc _ _ _ _ _ (zG4 (i:=1) rfl (zBt (sc:=zAe s_hand) rfl (by decide +kernel)) (Draws.own (x:= "_law_e") Draws.nil) (zA5 (pv 0)) (fun _ _ _ _=>(pgB (i:=0))) (fun _ _ _ _=>zB6) (fun _ _ _ _=>(zIx (K:=K) rfl (pv 0) rfl)) zFr.nd rfl rfl)
   (@zAc _ _ _ _ _ (psS (i:=2) zFr.nd (zGd rfl mR M_Ring hr2 (zAa (zAt (zAa zAk (zAa zAk zAb))) zAb)))
   (@zAc _ _ _ _ _ (zG4 (i:=3) rfl (zBt (sc:=zAe s_hand) rfl (by decide +kernel)) (Draws.own (x:= "_law_e") Draws.nil) (zA5 (zAv zG8 (pv 0) (zAt (zAa (pv 2) (zAa (zIw rfl RM.mgX RM.ok kM (zAa zAk zAb)) (zAa (zIw rfl RX.mgX RX.ok kX (zAa zAk zAb)) (zAa (zIw rfl RY.mgX RY.ok kY (zAa zAk zAb)) zAb))))))) (fun _ _ _ _=>(pgB (i:=0))) (fun _ _ _ _=>zB6) (fun _ _ _ _=>(zAj C_kinds hr1 rfl (zAa (pv 0) zAb))) zFr.nd rfl rfl)
   (@zAc _ _ _ _ _ (@zEc _ _ 4 _ _ _ _ (by exact zFr.nd) (by rfl) (by walk_at "lc") (@zDi _ _ _ _ (zAr (by exact (zAt (zAa zAk zAb))) (zAr (by exact (zAt (zAa zAk zAb))) (zAr (by exact (zAt (zAa zAk zAb))) (zAr (by exact (zAt (zAa zAk zAb))) (zAr (by exact (zAt (zAa zAk zAb))) (zAr (by exact (zAt (zAa zAk zAb))) (zAr (by exact (zAt (zAa zAk zAb))) zDj)))))))) (by rfl) (by first| exact Or.inl rfl| exact Or.inr rfl))
   (zAd (zAm (pe_and (zBh (op_eqL hr1) (pv 1) (zAt (zAa zAk (zAa zAk (zAa zAh zAb)))) (zAq _)) (pe_and (zBh (op_eqL hr1) (zIx (K:=K) rfl (pv 2) rfl) (zAt (zAa zAk (zAa zAk zAb))) (zAq _)) (pe_one (zBh (op_eqL hr1) (pv 3) (pv 4) (zAq _)))))))))))),?_⟩
  refine hid6 ?_;intro _ _ _ _ _ _;have hs:=qAS;refine⟨by walk_at"ln",λe0 g0=>⟨e0,_,rfl,upd_same,.inl (zFk (by decide)),λx0 y0=>⟨rfl,_,upd_same,?_⟩⟩⟩;obtain⟨H1,q1,k1,h1,f1⟩:=madeN (C:=c.N) (fs:=[("name",.str "a")]) g0 y0;rw[q1];refine⟨by walk_at"ln",λe1 g1=>⟨e1,_,rfl,upd_same,.inl (zFk (by decide)),λx1 y1=>⟨rfl,_,upd_same,?_⟩⟩⟩;obtain⟨H2,q2,k2,h2,f2⟩:=madeN (C:=c.T) (fs:=[("name",.str "b")]) g1 y1;rw[q2];refine⟨by walk_at"ln",λe2 g2=>⟨e2,_,rfl,upd_same,.inl (.inr (.inr (.inr ⟨_,rfl⟩))),λx2 y2=>⟨rfl,_,upd_same,?_⟩⟩⟩;obtain⟨H3,q3,k3,h3,f3⟩:=madeN (C:=c.S) (fs:=[("name",.int 5)]) g2 y2;rw[q3];refine⟨by walk_at"ln",λl g=>?_⟩;obtain⟨H4,q4,k4,h4⟩:=newO (o:=.lst [.ref e0,.ref e1,.ref e2]) g;rw[q4];have k24:=k2.trans (k3.trans k4)
  have nm:∀(i:Nat)(v:V),[V.ref e0,.ref e1,.ref e2][i]?=some v->∃a C dx y,v= .ref a/\H4 a=some (excD a C (some dx))/\H4 dx=some (.xd [("name",y)])/\KN K C "name"/\[V.str "a",.str "b",.int 5][i]?=some y:=λi v h=>by
   match i,h with
   |0,rfl=>exact⟨e0,c.N,x0,_,rfl,k4 _ _ (k3 _ _ (k2 _ _ h1 (by simp)) (by simp)) (by simp),k4 _ _ (k3 _ _ (k2 _ _ f1 (by simp)) (by simp)) (by simp),NS (.name .non) (by simp[ixD]),rfl⟩
   |1,rfl=>exact⟨e1,c.T,x1,_,rfl,k4 _ _ (k3 _ _ h2 (by simp)) (by simp),k4 _ _ (k3 _ _ f2 (by simp)) (by simp),NS .twice (by simp[ixD]),rfl⟩
   |2,rfl=>exact⟨e2,c.S,x2,_,rfl,k4 _ _ h3 (by simp),k4 _ _ f3 (by simp),NS (.strange .non) (by simp[ixD]),rfl⟩
  refine⟨_,rfl,_,rfl,⟨_,SqL.of h4⟩,λB gB=>zBz [.ref e0,.ref e1,.ref e2] (λi ys τ H'=>(∃o0,τ=[o0])/\ys=[V.str "a",.str "b",.int 5].take i/\H'=upd H4 B (.lst ys)) ⟨⟨_,rfl⟩,rfl,rfl⟩ (λi ys τ H' ⟨_,_,e⟩=>by subst e;exact SqL.of ((upd_ne (ne_fre (show Fre H4 B from gB) h4)).trans h4)) ?_ ?_⟩
  .rintro i v ys τ H' hv ⟨⟨o0,rfl⟩,rfl,rfl⟩;obtain⟨a,C,dx,y,rfl,a1,a2,a3,a4⟩:=nm i v hv;exact⟨_,rfl,a,C,dx,_,y,rfl,(upd_ne (ne_fre (show Fre H4 B from gB) a1)).trans a1,(upd_ne (ne_fre (show Fre H4 B from gB) a2)).trans a2,a3.gt,a3.nr,rfl,upd_same,by rw[qAd,hs];show min i 3<_;lia,⟨_,rfl⟩,by rw[zAp a4],zCg⟩
  rintro ys τ H' ⟨_,rfl,rfl⟩;obtain⟨H5,q5,k5,h5⟩:=newO (o:=.lst ([V.str "a",.str "b",.int 5].take 3)) gB;rw[show[V.ref e0,V.ref e1,V.ref e2].length=3 from rfl,q5];refine⟨by walk_at"ln",λl2 g2=>?_⟩;obtain⟨H6,q6,k6,h6⟩:=newO (o:=.lst [.str "a",.str "b"]) g2;rw[q6];refine⟨by walk_at"ln",λe3 g3=>⟨e3,l2,["a","b"],rfl,upd_same,(Kp.new (M:=[]) Kp.refl g3) _ _ h6 (by simp),by simp,by decide,λy hy=>(zDt y).mp (qA4.mp (show(["a","b"]:List Str).all zDk=true by decide) y hy),λx3 y3=>⟨rfl,_,upd_same,?_⟩⟩⟩;obtain⟨H7,q7,k7,h7,f7⟩:=madeN (C:=c.R) (fs:=[("ring",.ref l2)]) g3 y3;rw[q7];clear q1 q2 q3 q4 q5 q6 q7;refine⟨_,rfl,_,rfl,⟨by walk_at"ln",λe4 g4=>⟨by walk_at"ln",λe5 g5=>⟨by walk_at"ln",λe6 g6=>⟨by walk_at"ln",λl3 g7=>?_⟩⟩⟩⟩⟩;obtain⟨H8,q8,k8,h8⟩:=newO (o:=excD e4 c.M none) g4;rw[q8]at g5 g6 g7 ⊢;obtain⟨H9,q9,k9,h9⟩:=newO (o:=excD e5 CX none) g5;rw[q9]at g6 g7 ⊢;obtain⟨H10,q10,k10,h10⟩:=newO (o:=excD e6 CY none) g6;rw[q10]at g7 ⊢;obtain⟨H11,q11,k11,h11⟩:=newO (o:=.lst [.ref e3,.ref e4,.ref e5,.ref e6]) g7;rw[q11];have r1:=k9.trans (k10.trans k11);have r2:=k5.trans (k6.trans (k7.trans (k8.trans r1)));refine⟨_,_,_,_,rfl,rfl,r2 _ _ h4 (by simp),h11,by walk_at"ln",λl4 g8=>?_⟩;obtain⟨H12,q12,k12,h12⟩:=newO (o:=.lst ([.ref e0,.ref e1,.ref e2]++[.ref e3,.ref e4,.ref e5,.ref e6])) g8;rw[q12];clear q8 q9 q10 q11 q12
  have ex:∀(i:Nat)(v:V),([V.ref e0,.ref e1,.ref e2]++[.ref e3,.ref e4,.ref e5,.ref e6])[i]?=some v->i<7/\∃a C z,v= .ref a/\H12 a=some (excD a C z)/\KF K dd C i:=λi v h=>by
   have r3:=k24.trans (r2.trans k12);have r4:=r1.trans k12
   match i,h with
   |0,rfl=>exact⟨by decide,e0,c.N,_,rfl,r3 _ _ h1 (by simp),(KS (.name .non) nofun).kf⟩
   |1,rfl=>exact⟨by decide,e1,c.T,_,rfl,(k3.trans (k4.trans (r2.trans k12))) _ _ h2 (by simp),(KS .twice nofun).kf⟩
   |2,rfl=>exact⟨by decide,e2,c.S,_,rfl,(k4.trans (r2.trans k12)) _ _ h3 (by simp),(KS (.strange .non) nofun).kf⟩
   |3,rfl=>exact⟨by decide,e3,c.R,_,rfl,(k8.trans r4) _ _ h7 (by simp),(KS .ring nofun).kf⟩
   |4,rfl=>exact⟨by decide,e4,c.M,_,rfl,r4 _ _ h8 (by simp),(KS .many nofun).kf⟩
   |5,rfl=>exact⟨by decide,e5,CX,_,rfl,(k10.trans (k11.trans k12)) _ _ h9 (by simp),FX⟩
   |6,rfl=>exact⟨by decide,e6,CY,_,rfl,(k11.trans k12) _ _ h10 (by simp),FY⟩
  have kk:=(k1.trans k24).trans (r2.trans k12);have h5:=(k6.trans (k7.trans (k8.trans (r1.trans k12)))) _ _ h5 (by simp);have h6:=(k7.trans (k8.trans (r1.trans k12))) _ _ h6 (by simp);have h7:=(k8.trans (r1.trans k12)) _ _ h7 (by simp);have f7:=(k8.trans (r1.trans k12)) _ _ f7 (by simp);generalize eL:([V.ref e0,.ref e1,.ref e2]++[.ref e3,.ref e4,.ref e5,.ref e6])=L at *
  have lL:L.length=7:=by rw[<-eL];rfl
  clear h1 h2 h3 h4 f1 f2 f3 h8 h9 h10 h11 k1 k2 k3 k4 k24 k5 k6 k7 k8 k9 k10 k11 k12 r1 r2 eL;refine⟨_,rfl,⟨_,SqL.of h12⟩,λW gW=>zBz L (λi ys τ H'=>∃as:List Addr,(∃o0,τ=[o0])/\ys=as.map V.ref/\as.length=i/\Kp [] H12 H'/\H' W=some (.lst ys)/\∀n a,as[n]?=some a->H' a=some (.lst [.str (zA8.getD n "")])) ⟨[],⟨_,rfl⟩,rfl,rfl,Kp.new Kp.refl gW,upd_same,by simp⟩ (λi ys τ H' ⟨_,_,_,_,k',_⟩=>SqL.of (k' _ _ h12 (by simp))) ?_ ?_⟩
  .rintro i v ys τ H' hv ⟨as,⟨o0,rfl⟩,rfl,la,k',hW,ha⟩;obtain⟨i7,a,C,z,rfl,a1,a2⟩:=ex i v hv;refine⟨_,rfl,a,C,z,i,rfl,k' _ _ a1 (by simp),a2,by lia,λb H'' k'' hb=>⟨k'' _ _ hW (by simp),by rw[qAE,la,hs];lia,as++[b],⟨_,rfl⟩,by rw[qAb];rfl,by rw[qAm,la];rfl,Kp.new (k'.trans k'') gW,upd_same,λn x hx=>?_⟩⟩
   have up:∀{x:Addr}{u:Str},H'' x=some (.lst [.str u])->upd H'' W (.lst (as.map V.ref++[.ref b])) x=some (.lst [.str u]):=λ{x u} h=>(upd_ne λz=>by
    rw[z,k'' _ _ hW (by simp)]at h
    cases as with
    |nil=>cases h
    |cons y r=>cases h).trans h
   by_cases e:n<as.length
   .rw [qBC e]at hx;exact up (k'' _ _ (ha n x hx) (by simp))
   .obtain ⟨hl,he⟩:=qAg.mp hx;rw[qAm,qC5]at hl;have:n=as.length:=by lia
    subst this;rw[List.getElem?_concat_length]at hx
    cases hx
    rw[la];exact up hb
  rintro ys τ H13 ⟨as,_,rfl,la,k13,hW,ha⟩;rw[lL]at la;have h5:=k13 _ _ h5 (by simp);have h6:=k13 _ _ h6 (by simp);have h7:=k13 _ _ h7 (by simp);have f7:=k13 _ _ f7 (by simp);refine⟨by walk_at"ln",λd0 g=>?_⟩;obtain⟨D0,q,m0,w0⟩:=newO (o:=.lst [.str "name"]) g;rw[q];clear q;refine⟨by walk_at"ln",λd1 g=>?_⟩;obtain⟨D1,q,m1,w1⟩:=newO (o:=.lst [.str "twice"]) g;rw[q];clear q;refine⟨by walk_at"ln",λd2 g=>?_⟩;obtain⟨D2,q,m2,w2⟩:=newO (o:=.lst [.str "stranger"]) g;rw[q];clear q;refine⟨by walk_at"ln",λd3 g=>?_⟩;obtain⟨D3,q,m3,w3⟩:=newO (o:=.lst [.str "ring"]) g;rw[q];clear q;refine⟨by walk_at"ln",λd4 g=>?_⟩;obtain⟨D4,q,m4,w4⟩:=newO (o:=.lst [.str "many"]) g;rw[q];clear q;refine⟨by walk_at"ln",λd5 g=>?_⟩;obtain⟨D5,q,m5,w5⟩:=newO (o:=.lst [.str "text"]) g;rw[q];clear q;refine⟨by walk_at"ln",λd6 g=>?_⟩;obtain⟨D6,q,m6,w6⟩:=newO (o:=.lst [.str "bench"]) g;rw[q];clear q;refine⟨by walk_at"ln",λU g=>?_⟩;obtain⟨D7,q,m7,w7⟩:=newO (o:=.lst [.ref d0,.ref d1,.ref d2,.ref d3,.ref d4,.ref d5,.ref d6]) g;rw[q];clear q;have n6:=m7;have n5:=m6.trans n6;have n4:=m5.trans n5;have n3:=m4.trans n4;have n2:=m3.trans n3;have n1:=m2.trans n2;have n0:=m1.trans n1;have nn:=m0.trans n0
  have du:∀(n:Nat)(v:V),[V.ref d0,.ref d1,.ref d2,.ref d3,.ref d4,.ref d5,.ref d6][n]?=some v->∃a,v= .ref a/\D7 a=some (.lst [.str (zA8.getD n "")]):=λn v h=>by
   match n,h with
   |0,rfl=>exact⟨d0,rfl,n0 _ _ w0 (by simp)⟩
   |1,rfl=>exact⟨d1,rfl,n1 _ _ w1 (by simp)⟩
   |2,rfl=>exact⟨d2,rfl,n2 _ _ w2 (by simp)⟩
   |3,rfl=>exact⟨d3,rfl,n3 _ _ w3 (by simp)⟩
   |4,rfl=>exact⟨d4,rfl,n4 _ _ w4 (by simp)⟩
   |5,rfl=>exact⟨d5,rfl,n5 _ _ w5 (by simp)⟩
   |6,rfl=>exact⟨d6,rfl,n6 _ _ w6 (by simp)⟩
  generalize eU:[V.ref d0,.ref d1,.ref d2,.ref d3,.ref d4,.ref d5,.ref d6]=UL at *
  have lU:UL.length=7:=by rw[<-eU];rfl
  refine⟨_,rfl,by walk_at"ln",λb1 g1=>?_⟩;obtain⟨E1,q,p1,v1⟩:=newO (o:=.lst [.str "a",.str "b",.int 5]) g1;rw[q];refine .inl ⟨_,_,_,_,rfl,rfl,SqL.of (p1 _ _ (nn _ _ h5 (by simp)) (by simp)),SqL.of v1,rfl,λi x y e1 e2=>?_,_,rfl,iteT ?_⟩
  .rw [show[V.str "a",.str "b",.int 5].take 3=[V.str "a",.str "b",.int 5]from rfl,e2]at e1
   cases e1
   have:=qAT e2;simp only[qAL,qA9,qBL]at this;rcases this with rfl|rfl|rfl<;>exact .flat rfl
  have g:∀{a o},H13 a=some o->E1 a=some o:=λh=>p1 _ _ (nn _ _ h (by simp)) (by simp);refine⟨_,rfl,e3,c.R,x3,_,.ref l2,rfl,g h7,g f7,NR.gt,NR.nr,rfl,by walk_at"ln",λb2 g2=>?_⟩;obtain⟨E2,q,p2,v2⟩:=newO (o:=.lst [.str "a",.str "b"]) g2;rw[q];refine .inl ⟨_,_,_,_,rfl,rfl,SqL.of (p2 _ _ (g h6) (by simp)),SqL.of v2,rfl,zGr (ns:=["a","b"]),_,rfl,iteT ?_⟩;have g:∀{a o},H13 a=some o->E2 a=some o:=λh=>p2 _ _ (g h) (by simp);refine⟨_,rfl,_,rfl,.inl ⟨_,_,_,_,rfl,rfl,SqL.of (g hW),SqL.of (p2 _ _ (p1 _ _ w7 (by simp)) (by simp)),by rw[qAE,la,lU],λi x y e1 e2=>?_,k _ (kk.trans (k13.trans (nn.trans (p1.trans p2))))⟩⟩;rw[qAN]at e1;obtain⟨a,ea,rfl⟩:=qBb.mp e1;obtain⟨b,rfl,hb⟩:=du i y e2;exact .lists (SqL.of (g (ha i a ea))) (SqL.of (p2 _ _ (p1 _ _ hb (by simp)) (by simp))) rfl (zGr (ns:=[zA8.getD i ""]))
end
theorem alike_self{K:PySem.W.Frag}{H H2:Hp}{v:V}{n:Nat}(o:Odd H v):Alike K H2 n v v:=by
 rcases o with(⟨x,rfl,_⟩|rfl|⟨b,rfl⟩|⟨i,rfl⟩)|⟨a,z,rfl,_⟩
 .exact .flat rfl
 .exact .flat rfl
 .exact .flat rfl
 .exact .flat rfl
 .exact .same
theorem one_list{α:Type}{xs:List α}{p:α->α->Prop}(h:∀x∈xs,p x x):∀(i:Nat)(x y:α),xs[i]?=some x->xs[i]?=some y->p x y:=λi x y e1 e2=>by
 rw[e1]at e2
 cases e2
 exact h x (qAT e1)
section
variable{P:Program}{w:World}{K:PySem.W.Frag}{mg:Str->Option Value}{base:Heap}{CB:Addr}{c:CC}
def spLaw(K:PySem.W.Frag):Sp:=λvs H Q _=>∃(a:Addr)(ns:List Int),vs=[.ref a]/\SqL K H a (ns.map V.int)/\ns.length<=63/\∀H',Q (.bl true) H'
abbrev s_law:Stmt:=top 56
theorem zD9:FnScope ["_law_script","_law_k","_law_purse_here","_law_names_here","_law_orders","_law_row","_law_pairs_here","_law_due_here","_law_kept","_law_told","_law_jobs_here"] ["_law_script"] (zAe s_law):=fnS
theorem ok_law{fd:FuncData}(F:Fun K "law" "law" s_law f fd)(T:Txt K mg)(U:JC K mg c.J)(VJ:JI K c.J)(C_cell:Cal P w K mg base "_law_cell" 1 ["_law_script","_law_k"] (spCell K))(C_purse:Cal P w K mg base "_law_purse" 1 ["_law_cell_here","_law_k"] spPurse)(C_take:Cal P w K mg base "_law_take" 1 ["_law_purse_here","_law_many"] zGt)
  (C_jobs:Cal P w K mg base "_law_jobs" 3 ["_law_purse_here","_law_most"] spLJobs) (C_spoilt:Cal P w K mg base "_law_spoilt" 3 ["_law_purse_here","_law_names_here","_law_orders"] spSpoilt) (C_due:Cal P w K mg base "_law_due" 2 ["_law_row","_law_pairs_here"] spDue) (C_made:Cal P w K mg base "_law_made" 8 ["_law_row","_law_pairs_here"] (spMade c)) (C_strangers:Cal P w K mg base "_law_strangers" 8 ["_law_jobs_here","_law_names_here"] (zGu c)) (C_refused:Cal P w K mg base "_law_refused" 2 ["_law_e","_law_due_here","_law_pairs_here"] (zGw c)) (C_hand:Cal P w K mg base "_law_by_hand" 4 [] spHand) (M_turned:Mth P w K mg base c.J "turned" 8 ["self"] (spTurned c)):FnOk P w K mg base CX0 9 f fd ["_law_script"] (spLaw K):=by
 refine F.ok zD9 (λvs H Q E h=>?_) (λcdv A outer s H vs Q E hr h=>?_)
 .obtain ⟨a,ns,rfl,_⟩:=h;rfl
 .obtain ⟨sc,is,rfl,hS,hlen,k⟩:=h;have hr1:=hr.mono (j:=1) (by decide);have hr2:=hr.mono (j:=2) (by decide);have hr3:=hr.mono (j:=3) (by decide);have hr4:=hr.mono (j:=4) (by decide)
  refine⟨_,(zAc (zA1 (zCl (zA7 (pe_callC0 C_hand hr4 rfl))) (zAd (zAm zD1)) zAl) (zAc (zBk qAr rfl (zBc rfl T.z_range (zAa (zAg (call_max2 rfl) (by rfl) T.z_max bo_max (zAa zAh (zAa (zAg (call_min2 rfl) (by rfl) T.z_min bo_min (zAa (zAg zAn (by rfl) T.z_len zBr (zAa (pv 0) zAb)) (zAa zAh zAb))) zAb))) zAb)) (pgN (i:=1) zD9.nd)
    (zAc (psS (i:=2) zD9.nd (zAj C_purse hr1 rfl (zAa (zAj C_cell hr1 rfl (zAa (pv 0) (zAa (pv 1) zAb))) (zAa (pv 1) zAb))))
    (zAc (ps_asg (zAj C_jobs hr3 rfl (zAa (pv 2) (zAa (zBe zAw (zAt (zAa zAh (zAa zAh zAb))) (zAj C_take hr1 rfl (zAa (pv 2) (zAa zAh zAb))) (fun _ _=>rfl)) zAb))) (pg_tup rfl (zBa (pgN (i:=3) zD9.nd) (zBa (pgN (i:=4) zD9.nd) zEd))))
    (zAc (ps_asg (zAj C_spoilt hr3 rfl (zAa (pv 2) (zAa (pv 3) (zAa (pv 4) zAb)))) (pg_tup rfl (zBa (pgN (i:=5) zD9.nd) (zBa (pgN (i:=6) zD9.nd) zEd))))
    (zAc (psS (i:=7) zD9.nd (zAj C_due hr2 rfl (zAa (pv 5) (zAa (pv 6) zAb))))
    (zAc (psS (i:=8) zD9.nd (zAt (zAa (zA0 zBq (by rfl) T.z_list zCi (zAa (pv 5) zAb)) (zAa (zA0 zBq (by rfl) T.z_list zCi (zAa (pv 6) zAb)) zAb))))
    (zAc (psS (i:=9) zD9.nd (zAj C_made hr rfl (zAa (pv 5) (zAa (pv 6) zAb))))
    (zAc (zA1 (zAo (op_neL hr1) (zAt (zAa (pv 5) (zAa (pv 6) zAb))) (pv 8) (zAq _))
     (zAd (zAm zD1))
     zAl)
    (zAc (zA1 (PW.pt (pw_and (zAo op_isN (pv 7) zEe (zAq _)) (zIs (zCl (zA7 (zAg call_isC (by rfl) T.z_isinstance zAf (zAa (pv 9) (zAa (zBd rfl U.mgC (v:=.ref c.J) rfl) zAb))))))))
     (zAd (zAm zD1))
     zAl)
    (zAc (zA1 (zAo op_isN (pv 7) zEe (zAq _))
     (zAd (zBk qAr rfl (zA5 (zAt (zAa (pv 9) (zAa (pe_methC0 M_turned U.cl hr (pv 9)) zAb)))) (pgN (i:=10) zD9.nd)
      (zAd (zA1 (zCl (zA7 (zAj C_strangers hr rfl (zAa (pv 10) (zAa (pv 3) zAb)))))
       (zAd (zAm zD1))
       zAl))))
     zAl)
    (zAd (zA1 (PW.pt (pw_and (zAo op_notN (pv 7) zEe (zAq _)) (zIs (zCl (zA7 (zAj C_refused hr2 rfl (zAa (pv 9) (zAa (pv 7) (zAa (pv 6) zAb)))))))))
     (zAd (zAm zD1))
     zAl))))))))))))
   (zAd (zAm zD1)))),?_⟩
  refine hid3 ?_;intro _ _ _;refine⟨rfl,λH1 k1=>⟨_,rfl,iteF ?_⟩⟩;refine⟨_,rfl,_,_,rfl,.inl (k1.seq hS),_,_,rfl,_,_,rfl,?_⟩;rw[qAE];have hN:∀m:Nat,(0:Int)<=(if(if(30:Int)<m then 30 else(m:Int))>1 then(if(30:Int)<m then 30 else(m:Int))else 1)/\(if(if(30:Int)<m then 30 else(m:Int))>1 then(if(30:Int)<m then 30 else(m:Int))else 1)<=30:=λm=>by split<;>split<;>lia
  have hN:=hN is.length;generalize (if(if(30:Int)<(is.length:Int)then 30 else(is.length:Int))>1 then(if(30:Int)<(is.length:Int)then 30 else(is.length:Int))else 1)=N at hN ⊢;refine⟨_,rfl,by lia,by lia,zBm (lo:=0) (n:=N.toNat) (λi σ H2=>(∃o1 o2 o3 o4 o5 o6 o7 o8 o9 o10:Option V,σ=[some (.ref sc),o1,o2,o3,o4,o5,o6,o7,o8,o9,o10])/\Kp [] H H2) ⟨⟨_,_,_,_,_,_,_,_,_,_,rfl⟩,k1⟩ ?_ (λσ H2 _=>k H2)⟩;rintro i σ H2 hi ⟨⟨o1,o2,o3,o4,o5,o6,o7,o8,o9,o10,rfl⟩,k2⟩;refine hid10 ?_;intro _ _ _ _ _ _ _ _ _ _;refine⟨_,rfl,_,rfl,sc,is,_,rfl,k2.seq hS,by lia,λcv=>?_⟩;refine⟨_,rfl,cv,_,rfl,by lia,by lia,λp H3 fp P3 K3=>?_⟩;refine⟨_,rfl,by walk_at"ln",λB gB=>?_⟩;obtain⟨H4,q4,k4,h4⟩:=newO (o:=.lst [.int 20,.int 5]) gB;rw[q4];have nB:B≠p:=by obtain⟨x,y,q,_⟩:=P3;exact(ne_fre (show Fre H3 B from gB) q).symm
  refine⟨_,rfl,p,2,rfl,P3.kp k4 (by simp),by decide,by decide,λd H5 d0 d1 P5 k5=>?_⟩
  obtain⟨mo,emo,m0,m1⟩:∃mo:Int,[V.int 20,.int 5][d.toNat]?=some (.int mo)/\0<=mo/\mo<=20:=by
   rcases(show d=0\/d=1 by lia)with rfl|rfl
   .exact ⟨20,rfl,by decide,by decide⟩
   .exact ⟨5,rfl,by decide,by decide⟩
  refine⟨_,_,_,.int mo,rfl,rfl,SqL.of (k5 _ _ h4 (nm1 nB)),zA9 d0 emo,p,mo,rfl,m0,m1,P5,λt l m ns qs r H6 l20 l192 ht ft fl fm fq hl hm G P6 k6=>?_⟩;have k26:Kp [] H2 H6:=Kp.drop (Kp.drop (K3.trans k4) fp k5) fp k6;refine⟨_,_,rfl,.inl (.inl ht),rfl,_,_,rfl,_,_,rfl,rfl,?_⟩;refine⟨_,rfl,_,rfl,_,rfl,p,l,m,ns,qs,rfl,P6,hl,hm,G.nm,λq hq x hx=>G.nm x (G.qin q hq x hx),by lia,l192,λt2 l' m' vs ts H7 ht2 rw7 pw7 lv lt bad P7 k7=>?_⟩;have nlp:l≠p:=by obtain⟨x,y,q,_⟩:=P5;exact(ne_fre fl q).symm
  have hl7:=k7 _ _ hl (nm1 nlp);have k27:Kp [] H2 H7:=Kp.drop k26 fp k7;refine⟨_,_,rfl,.inl (.inl ht2),rfl,_,_,rfl,_,_,rfl,rfl,?_⟩;refine⟨_,rfl,_,rfl,l',m',vs,ts,rfl,rw7,pw7,by lia,by lia,λv H8 k8 du=>?_⟩;have rw8:=rw7.kp k8;have pw8:=pw7.kp k8;refine⟨_,rfl,_,_,rfl,.inl (SqL.of rw8.top),λb1 g1=>?_⟩;obtain⟨H9,q9,k9,h9⟩:=newO (o:=.lst vs) g1;rw[q9];refine⟨_,rfl,_,_,rfl,.inl (SqL.of (pw8.kp k9).top),λb2 g2=>?_⟩;obtain⟨H10,q10,k10,h10⟩:=newO (o:=.lst (ts.map λt=>V.ref t.1)) g2;rw[q10];refine⟨by walk_at"ln",λb3 g3=>?_⟩;obtain⟨H11,q11,k11,h11⟩:=newO (o:=.lst [.ref b1,.ref b2]) g3;rw[q11];have k811:=k9.trans (k10.trans k11);have h9:=k11 _ _ (k10 _ _ h9 (by simp)) (by simp);have h10:=k11 _ _ h10 (by simp);have rw9:=rw8.kp k811;have pw9:=pw8.kp k811;have du:=du.kp k811;have hl11:=(k8.trans k811) _ _ hl7 (by simp);have kk:=k2.trans (k27.trans (k8.trans k811));clear k26 k27 k8 k9 k10 k11 k811 rw7 pw7 rw8 pw8 q4 q9 q10 q11 hl7 k4 k5 k6 k7 P5 P6 P7 h4 ht ht2 hm fl fm fq ft gB g1 g2 g3;refine zG9 (λσ H12=>∃u,σ=[some (.ref sc),some (.int (0+(i:Int))),some (.ref p),some (.ref l),some (.ref m),some (.ref l'),some (.ref m'),some v,some (.ref b3),some u,o10]/\Kp [] H11 H12/\((zCu vs ts= .fine/\∃x J,u= .ref x/\JobsAt c.J H12 x J/\J.ns=vs.map strV/\∃r:Str->Nat,∀q∈J.zs,r (fst q)<r (snd q))\/∃a dx,u= .ref a/\H12 a=some (excD a (c.of (zCu vs ts)) dx)/\XAt c (vs.map strV) (qsOf ts) H12 (.ref (c.of (zCu vs ts))) dx (zCu vs ts))) (λN hN=>⟨_,rfl,_,rfl,l',m',vs,ts,rfl,rw9,pw9,by lia,λa dx H12 k12 xa ha=>hN _ _ ⟨_,rfl,k12,.inr ⟨a,dx,rfl,ha,xa⟩⟩,λe x J H12 A en rk k12=>hN _ _ ⟨_,rfl,k12,.inl ⟨e,x,J,rfl,A,en,rk⟩⟩⟩) ?_;rintro σ H12 ⟨u,rfl,k12,tv⟩;refine⟨_,rfl,_,rfl,by walk_at"ln",λb4 g4=>?_⟩;obtain⟨H13,q13,k13,h13⟩:=newO (o:=.lst [.ref l',.ref m']) g4;rw[q13];clear q13 g4;have g:∀{a o},H11 a=some o->H13 a=some o:=λh=>k13 _ _ (k12 _ _ h (by simp)) (by simp);refine⟨_,rfl,_,_,_,_,rfl,rfl,SqL.of h13,SqL.of (g h11),rfl,λn x y e1 e2=>?_,_,rfl,iteF ?_⟩
  .match n,e1,e2 with
   |0,rfl,rfl=>exact .lists (SqL.of (g rw9.top)) (SqL.of (g h9)) rfl (one_list λx hx=>alike_self (rw9.odd x hx))
   |1,rfl,rfl=>exact .lists (SqL.of (g pw9.top)) (SqL.of (g h10)) rfl (one_list λx hx=>by
     obtain⟨t,_,rfl⟩:=qAM.mp hx;exact .same)
  have du:=du.kp (k12.trans k13);have kk:=kk.trans (k12.trans k13);rcases tv with⟨e,x,J,rfl,A,en,r,rk⟩|⟨a,dx,rfl,ha,xa⟩
  .-- made
   rw[e]at du
   cases (show v= .non from du)
   have A:=A.kp0 k13
   have nn:nDue vs=none:=by
    cases z:nDue vs with
    |none=>rfl
    |some d=>
     rw[due_n z]at e;subst e;unfold nDue at z;split at z
     .cases z
     .split at z
      .cases z
      .split at z<;>cases z
   have en:J.ns=ns:=by rw[en,bad nn,zE4]
   refine⟨_,rfl,rfl,_,rfl,iteT ⟨_,rfl,_,_,_,_,rfl,TyOf.ins A.ob U.cl VJ.a VJ.n VJ.t VJ.m,zB8 (by simp),_,rfl,iteF ?_⟩⟩;refine⟨_,rfl,rfl,_,rfl,iteT ?_⟩;refine⟨_,rfl,_,rfl,x,J.dx,_,rfl,A.ob,J.no (by decide +kernel) (by decide +kernel) (by decide +kernel),x,J,r,rfl,A,en▸G.nm,rk,λx2 J2 H14 A2 en2 k14=>⟨by walk_at"ln",λb5 g5=>?_⟩⟩;obtain⟨H15,q15,k15,h15⟩:=newO (o:=.lst [.ref x,.ref x2]) g5;rw[q15];have k135:=k14.trans k15
   have js:∀(n:Nat)(y:V),[V.ref x,.ref x2][n]?=some y->∃j J',y= .ref j/\JobsAt c.J H15 j J'/\J'.ns=ns:=λn y h=>by
    match n,h with
    |0,rfl=>exact⟨x,J,rfl,A.kp0 k135,en⟩
    |1,rfl=>exact⟨x2,J2,rfl,A2.kp0 k15,en2.trans en⟩
   have hl15:=k135 _ _ (g hl11) (by simp);refine⟨_,rfl,⟨_,SqL.of h15⟩,zCa (λn σ H16=>(∃o10:Option V,σ=[some (.ref sc),some (.int (0+(i:Int))),some (.ref p),some (.ref l),some (.ref m),some (.ref l'),some (.ref m'),some .non,some (.ref b3),some (.ref x),o10])/\Kp [] H15 H16) ⟨⟨_,rfl⟩,Kp.refl⟩ (λn σ H16 _ ⟨_,k16⟩=>SqL.of (k16 _ _ h15 (by simp))) ?_ ?_⟩
   .rintro n y σ H16 hy ⟨⟨o10,rfl⟩,k16⟩;obtain⟨j,J',rfl,A',en'⟩:=js n y hy;exact⟨_,rfl,_,rfl,j,l,J',rfl,A'.kp0 k16,en'▸k16 _ _ hl15 (by simp),en'▸G.nm,λH17 k17=>⟨_,rfl,iteF ⟨⟨_,rfl⟩,k16.trans k17⟩⟩⟩
   .rintro σ H16 ⟨⟨o10,rfl⟩,k16⟩;exact⟨_,rfl,rfl,_,rfl,iteF ⟨⟨_,_,_,_,_,_,_,_,_,_,rfl⟩,kk.trans (k135.trans k16)⟩⟩
  .-- refused
   have xa:=xa.kp k13;have ha:=k13 _ _ ha (by simp);have pw:=pw9.kp (k12.trans k13)
   have or:zCu vs ts= .ring->Ords H13 m' (qsOf ts):=λe=>by
    refine(ords_of (ns:=vs.map strV) pw ?_).1
    cases z:(zCt ts).find? (λv=>!zBl v (vs.map strV))with
    |none=>rfl
    |some y=>
     unfold zCu pDue at e;rw[z]at e;unfold nDue at e;split at e
     .cases e
     .split at e
      .cases e
      .split at e<;>cases e
   obtain⟨t,y,rfl,_⟩:=agree xa du;refine⟨_,rfl,rfl,_,rfl,iteF ?_⟩;refine⟨_,rfl,rfl,_,rfl,iteF ?_⟩;exact⟨_,rfl,rfl,_,rfl,iteT ⟨_,rfl,_,rfl,_,rfl,a,m',_,dx,_,_,_,rfl,ha,xa,du,or,λH14 k14=>⟨_,rfl,iteF ⟨⟨_,_,_,_,_,_,_,_,_,_,rfl⟩,kk.trans k14⟩⟩⟩⟩
end
section
variable{P:Program}{w:World}{K:PySem.W.Frag}{mg:Str->Option Value}{base:Heap}
theorem ok_isNameV{fd:FuncData}(F:Fun K "is_name" "is_name" zDq f fd)(T:Txt K mg):FnOk P w K mg base CX0 1 f fd ["thing"] zGx:=nameV_of (ok_is_name F T) (ok_isNot F T)
end
def Hd(K:PySem.W.Frag)(x q:Str)(st:Stmt)(f:Addr):Prop:=∃oc od kV dc pm an cd ct sl,K.lookup f=some ⟨oc,od,.func (PySem.W.fnOf x q (zCc st) (zBp st) (zAe st) .none kV dc pm an cd ct),sl⟩/\PySem.W.codeIn K cd q=true/\PySem.W.keepIn K (.ref f)=true
def Dft(K:PySem.W.Frag)(x:Str)(st:Stmt)(f:Addr):Prop:=PySem.W.nsIn K mainGlobals x=some (some (.ref f))/\Hd K x x st f
def nnB(K:PySem.W.Frag)(x:Str):Bool:=match PySem.W.nsIn K mainGlobals x with
 |some none=>true
 |_=>false
theorem nnB_of{K:PySem.W.Frag}{h:Heap}{mg:Str->Option Value}(X:K.In h)(G:h.Ns mainGlobals mg){xs:List Str}(a:xs.all (nnB K)=true)(m:x∈xs):mg x=none:=by
 have e:=qA4.mp a x m;unfold nnB at e;split at e
 .rename_i e2;exact PySem.W.mg_none_of X G e2
 .cases e
theorem Hd.to{K:PySem.W.Frag}{q:Str}{st:Stmt}(t:Hd K x q st f):∃fd,Fun K x q st f fd:=by
 obtain⟨_,_,_,_,_,_,_,_,_,l,c,k⟩:=t;exact⟨_,fun_mk l c k⟩
section
variable{K:PySem.W.Frag}{x q a b c d g:Str}{st:Stmt}{f:Addr}{fd:FuncData}(F:Fun K x q st f fd)
include F
theorem _root_.L2.Fun.b0(h:∀(kV doc pm:Value)(an:Option Addr)(cdv ct:Value),bindArgs (PySem.W.fnOf x q (zCc st) (zBp st) (zAe st) .none kV doc pm an cdv ct) ⟨[],[]⟩=pure []:=by intros;rfl):zCe K fd [] []:=F.binds λkV doc pm an cdv ct us hl=>match us,hl with|[],_=>h kV doc pm an cdv ct 
theorem _root_.L2.Fun.b1(h:∀(kV doc pm:Value)(an:Option Addr)(cdv ct u:Value),bindArgs (PySem.W.fnOf x q (zCc st) (zBp st) (zAe st) .none kV doc pm an cdv ct) ⟨[u],[]⟩=pure [(a,u)]:=by intros;rfl):zCe K fd [a] []:=F.binds λkV doc pm an cdv ct us hl=>match us,hl with|[u],_=>h kV doc pm an cdv ct u
theorem _root_.L2.Fun.b2(h:∀(kV doc pm:Value)(an:Option Addr)(cdv ct u v:Value),bindArgs (PySem.W.fnOf x q (zCc st) (zBp st) (zAe st) .none kV doc pm an cdv ct) ⟨[u,v],[]⟩=pure [(a,u),(b,v)]:=by intros;rfl):zCe K fd [a,b] []:=F.binds λkV doc pm an cdv ct us hl=>match us,hl with|[u,v],_=>h kV doc pm an cdv ct u v
theorem _root_.L2.Fun.b3(h:∀(kV doc pm:Value)(an:Option Addr)(cdv ct u v w:Value),bindArgs (PySem.W.fnOf x q (zCc st) (zBp st) (zAe st) .none kV doc pm an cdv ct) ⟨[u,v,w],[]⟩=pure [(a,u),(b,v),(c,w)]:=by intros;rfl):zCe K fd [a,b,c] []:=F.binds λkV doc pm an cdv ct us hl=>match us,hl with|[u,v,w],_=>h kV doc pm an cdv ct u v w
theorem _root_.L2.Fun.b4(h:∀(kV doc pm:Value)(an:Option Addr)(cdv ct u v w z:Value),bindArgs (PySem.W.fnOf x q (zCc st) (zBp st) (zAe st) .none kV doc pm an cdv ct) ⟨[u,v,w,z],[]⟩=pure [(a,u),(b,v),(c,w),(d,z)]:=by intros;rfl):zCe K fd [a,b,c,d] []:=F.binds λkV doc pm an cdv ct us hl=>match us,hl with|[u,v,w,z],_=>h kV doc pm an cdv ct u v w z
end
section
variable{K:PySem.W.Frag}{mg:Str->Option Value}{x q:Str}{st:Stmt}{f:Addr}{fd:FuncData}{ps:List Str}{sp:Sp}{k:Nat}(P:Program)(w:World)(base:Heap)
theorem cal(g:mg x=some (.ref f))(F:Fun K x q st f fd)(b:zCe K fd ps [])(h:FnOk P w K mg base CX0 k f fd ps sp):Cal P w K mg base x k ps sp:=⟨f,fd,g,F.kp,b,h⟩
theorem calX(g:mg x=some (.ref f))(F:Fun K x q st f fd)(b:zCe K fd ps [])(h:FnOk P w K mg base (CX1 P w) k f fd ps sp):CalX P w K mg base x k ps sp:=⟨f,fd,g,F.kp,b,h⟩
def Dfm(K:PySem.W.Frag)(C:Addr)(m q:Str)(st:Stmt)(f:Addr):Prop:=PySem.W.findIn K (.ref C) m=some (some (.ref f))/\PySem.W.isFn K (.ref f)=true/\Hd K m q st f
theorem mth{m:Str}(t:Dfm K C m q st f)(F:Fun K m q st f fd)(b:zCe K fd ps [])(h:FnOk P w K mg base CX0 k f fd ps sp):Mth P w K mg base C m k ps sp:=⟨f,fd,⟨t.1,t.2.1,F.kp⟩,b,h⟩
theorem mthX{m:Str}(t:Dfm K C m q st f)(F:Fun K m q st f fd)(b:zCe K fd ps [])(h:FnOk P w K mg base (CX1 P w) k f fd ps sp):MthX P w K mg base C m k ps sp:=⟨f,fd,⟨t.1,t.2.1,F.kp⟩,b,h⟩
end
def DftD(K:PySem.W.Frag)(x:Str)(st:Stmt)(f:Addr)(dv:Int):Prop:=∃T t,PySem.W.nsIn K mainGlobals x=some (some (.ref f))/\(∃oc od kV dc pm an cd ct sl,K.lookup f=some ⟨oc,od,.func (PySem.W.fnOf x x (zCc st) (zBp st) (zAe st) (.ref T) kV dc pm an cd ct),sl⟩/\PySem.W.codeIn K cd x=true/\PySem.W.keepIn K (.ref f)=true)/\∃To Td Tn Ts,K.lookup T=some ⟨To,Td,.seq #[.int dv t] Tn,Ts⟩
theorem all_mk{l:PySem.W.OpenLaw}{w:World}{K:PySem.W.Frag}{h:Heap}{mg:Str->Option Value}{fa:Addr}(X:K.In h)(G:h.Ns mainGlobals mg)(hfa:mg "law"=some (.ref fa)){f0 f1 f2 f3 f4 f5 f6 f7 f8 f9 f10 f11 f12 f13 f14 f15 f16 f17 f18 f19 f20 f21 f22 f23 f24 f25 f26 f27 f28 f29 f30 f31 f32 f33 f34 f35 f36 f37 f38 f39 f40 f41 f42 c_BenchError c_NoName c_Twice c_Stranger c_Ring c_TooMany c_NoText c_NoBench c_NoRow c_NoWood c_NoEnd c_NoJob c_NoWindow c_NoLength c_NoPaper c_NoTurns c_NoLine:Addr}{t_MOST_JOBS t_LONGEST_NAME:Tok}
  (aC:PySem.W.nsIn K mainGlobals "Jobs"=some (some (.ref C)))
  (x_BenchError:PySem.W.nsIn K mainGlobals "BenchError"=some (some (.ref c_BenchError)))
  (x_NoName:PySem.W.nsIn K mainGlobals "NoName"=some (some (.ref c_NoName)))
  (x_Twice:PySem.W.nsIn K mainGlobals "Twice"=some (some (.ref c_Twice)))
  (x_Stranger:PySem.W.nsIn K mainGlobals "Stranger"=some (some (.ref c_Stranger)))
  (x_Ring:PySem.W.nsIn K mainGlobals "Ring"=some (some (.ref c_Ring)))
  (x_TooMany:PySem.W.nsIn K mainGlobals "TooMany"=some (some (.ref c_TooMany)))
  (x_NoText:PySem.W.nsIn K mainGlobals "NoText"=some (some (.ref c_NoText)))
  (x_NoBench:PySem.W.nsIn K mainGlobals "NoBench"=some (some (.ref c_NoBench)))
  (x_NoRow:PySem.W.nsIn K mainGlobals "NoRow"=some (some (.ref c_NoRow)))
  (x_NoWood:PySem.W.nsIn K mainGlobals "NoWood"=some (some (.ref c_NoWood)))
  (x_NoEnd:PySem.W.nsIn K mainGlobals "NoEnd"=some (some (.ref c_NoEnd)))
  (x_NoJob:PySem.W.nsIn K mainGlobals "NoJob"=some (some (.ref c_NoJob)))
  (x_NoWindow:PySem.W.nsIn K mainGlobals "NoWindow"=some (some (.ref c_NoWindow)))
  (x_NoLength:PySem.W.nsIn K mainGlobals "NoLength"=some (some (.ref c_NoLength)))
  (x_NoPaper:PySem.W.nsIn K mainGlobals "NoPaper"=some (some (.ref c_NoPaper)))
  (x_NoTurns:PySem.W.nsIn K mainGlobals "NoTurns"=some (some (.ref c_NoTurns)))
  (x_NoLine:PySem.W.nsIn K mainGlobals "NoLine"=some (some (.ref c_NoLine)))
  (l0:Dft K "_law_take" s_take f0)
  (l1:Dft K "_law_purse" s_purse f1)
  (l2:Dft K "_law_cell" s_cell f2)
  (l3:Dft K "is_name" zDq f3)
  (l4:Dft K "is_one_of" zEx f4)
  (l5:Dft K "words_for" zEv f5)
  (l6:Dfm K c_NoName "__init__" "NoName.__init__" zCh f6)
  (l7:Dfm K c_Twice "__init__" "Twice.__init__" zCp f7)
  (l8:Dfm K c_Stranger "__init__" "Stranger.__init__" zBu f8)
  (l9:DftD K "own_copy" zBn f9 12)
  (l10:Dft K "check_job" zEy f10)
  (l11:Dft K "check_names" zDz f11)
  (l12:Dft K "check_parts" zDy f12)
  (l13:Dft K "told_ahead" zEa f13)
  (l14:Dft K "has_all" zE7 f14)
  (l15:Dft K "joined" zIr f15)
  (l16:Dft K "ring_among" zC6 f16)
  (l17:Dfm K c_Ring "__init__" "Ring.__init__" zCy f17)
  (l18:Dft K "all_ahead" zCx f18)
  (l19:Dfm K C "__init__" "Jobs.__init__" zB5 f19)
  (l20:Dfm K C "turned" "Jobs.turned" zCs f20)
  (l21:Dfm K C "behind" "Jobs.behind" zD0 f21)
  (l22:Dfm K C "ahead" "Jobs.ahead" zEb f22)
  (l23:Dfm K C "straight" "Jobs.straight" zCz f23)
  (l24:Dfm K C "is_ahead" "Jobs.is_ahead" zC0 f24)
  (l25:Dft K "_law_names" zIp f25)
  (l26:Dft K "_law_pairs" s_pairs f26)
  (l27:Dft K "_law_jobs" s_jobs f27)
  (l28:Dft K "_law_kinds" zIq f28)
  (l29:Dft K "_law_is_ring" zE6 f29)
  (l30:Dft K "_law_is_name" zEi f30)
  (l31:Dft K "_law_thing" s_thing f31)
  (l32:Dft K "_law_no_job" zGb f32)
  (l33:Dft K "_law_spoilt" zGa f33)
  (l34:Dft K "_law_goes_round" zCk f34)
  (l35:Dft K "_law_due" s_due f35)
  (l36:Dft K "_law_same" s_same f36)
  (l37:Dft K "_law_refused" zG3 f37)
  (l38:Dft K "_law_made" s_made f38)
  (l39:Dft K "_law_asked" s_asked f39)
  (l40:Dft K "_law_strangers" zEw f40)
  (l41:Dft K "_law_by_hand" s_hand f41)
  (l42:Dft K "law" s_law f42)
  (pg:PySem.W.plainGet K C Str.empty=true)
  (hd:PySem.W.hasDictIn K C=true)
  (po:PySem.W.plainOver K C=true)
  (sa:PySem.W.findIn K (.ref C) "__setattr__"=some (some (.builtin "object.__setattr__")))
  (mk:PySem.W.makesIn K C=true)
  (kc:PySem.W.keepIn K (.ref C)=true)
  (iA:PySem.W.findIn K (.ref C) "__class__"=some (some (.builtin "object.__class__")))
  (iN:PySem.W.specialIn K (.builtin "object.__class__") "__get__"=some (some (.builtin "getset_descriptor.__get__")))
  (iT:PySem.W.takesIn K (.builtin "object.__class__")=some true)
  (iM:PySem.W.mroIn K C (.type "object")=some true)
  (n_row:PySem.W.findIn K (.ref C) "row"=some none)
  (n_pairs:PySem.W.findIn K (.ref C) "pairs"=some none)
  (n_above:PySem.W.findIn K (.ref C) "above"=some none)
  (zz:List.all (α:=Str) ["len","max","range","int","str","list","all","min","any","dict","bool","reversed","sum","zip","abs","enumerate","isinstance","sorted","set","tuple","ValueError"] (nnB K)=true)
  (f_ga:PySem.W.specialIn K (.ref c_BenchError) "__getattribute__"=some (some (.builtin "type.__getattribute__")))
  (f_rd:PySem.W.readsIn K c_BenchError (.type "type")=true)
  (f_fi:PySem.W.findCls K (.ref c_BenchError) (.type "type") "__init__"=some (.val (.builtin "ValueError.__init__")))
  (f_sa_NoName:PySem.W.findIn K (.ref c_NoName) "__setattr__"=some (some (.builtin "object.__setattr__")))
  (f_hd_NoName:PySem.W.hasDictIn K c_NoName=true)
  (f_ob_NoName:PySem.W.mroIn K c_NoName (.type "object")=some true)
  (f_be_NoName:PySem.W.mroIn K c_NoName (.type "BaseException")=some true)
  (f_nr_NoName:PySem.W.findIn K (.ref c_NoName) "name"=some none)
  (f_gg_NoName:PySem.W.findIn K (.ref c_NoName) "__getattribute__"=some (some (.builtin "BaseException.__getattribute__")))
  (f_gn_NoName:PySem.W.findIn K (.ref c_NoName) "__getattr__"=some none)
  (f_kp_NoName:PySem.W.keepIn K (.ref c_NoName)=true)
  (f_sa_Twice:PySem.W.findIn K (.ref c_Twice) "__setattr__"=some (some (.builtin "object.__setattr__")))
  (f_hd_Twice:PySem.W.hasDictIn K c_Twice=true)
  (f_ob_Twice:PySem.W.mroIn K c_Twice (.type "object")=some true)
  (f_be_Twice:PySem.W.mroIn K c_Twice (.type "BaseException")=some true)
  (f_nr_Twice:PySem.W.findIn K (.ref c_Twice) "name"=some none)
  (f_gg_Twice:PySem.W.findIn K (.ref c_Twice) "__getattribute__"=some (some (.builtin "BaseException.__getattribute__")))
  (f_gn_Twice:PySem.W.findIn K (.ref c_Twice) "__getattr__"=some none)
  (f_kp_Twice:PySem.W.keepIn K (.ref c_Twice)=true)
  (f_sa_Stranger:PySem.W.findIn K (.ref c_Stranger) "__setattr__"=some (some (.builtin "object.__setattr__")))
  (f_hd_Stranger:PySem.W.hasDictIn K c_Stranger=true)
  (f_ob_Stranger:PySem.W.mroIn K c_Stranger (.type "object")=some true)
  (f_be_Stranger:PySem.W.mroIn K c_Stranger (.type "BaseException")=some true)
  (f_nr_Stranger:PySem.W.findIn K (.ref c_Stranger) "name"=some none)
  (f_gg_Stranger:PySem.W.findIn K (.ref c_Stranger) "__getattribute__"=some (some (.builtin "BaseException.__getattribute__")))
  (f_gn_Stranger:PySem.W.findIn K (.ref c_Stranger) "__getattr__"=some none)
  (f_kp_Stranger:PySem.W.keepIn K (.ref c_Stranger)=true)
  (f_sa_Ring:PySem.W.findIn K (.ref c_Ring) "__setattr__"=some (some (.builtin "object.__setattr__")))
  (f_hd_Ring:PySem.W.hasDictIn K c_Ring=true)
  (f_ob_Ring:PySem.W.mroIn K c_Ring (.type "object")=some true)
  (f_be_Ring:PySem.W.mroIn K c_Ring (.type "BaseException")=some true)
  (f_nr_Ring:PySem.W.findIn K (.ref c_Ring) "ring"=some none)
  (f_gg_Ring:PySem.W.findIn K (.ref c_Ring) "__getattribute__"=some (some (.builtin "BaseException.__getattribute__")))
  (f_gn_Ring:PySem.W.findIn K (.ref c_Ring) "__getattr__"=some none)
  (f_kp_Ring:PySem.W.keepIn K (.ref c_Ring)=true)
  (f_ok_TooMany:PySem.W.excIn K c_TooMany bmVE "ValueError.__new__"=true)
  (f_kp_TooMany:PySem.W.keepIn K (.ref c_TooMany)=true)
  (f_ok_NoText:PySem.W.excIn K c_NoText bmVE "ValueError.__new__"=true)
  (f_kp_NoText:PySem.W.keepIn K (.ref c_NoText)=true)
  (f_ok_NoBench:PySem.W.excIn K c_NoBench bmVE "ValueError.__new__"=true)
  (f_kp_NoBench:PySem.W.keepIn K (.ref c_NoBench)=true)
  (f_sub_NoName:PySem.W.mroIn K c_NoName (.ref c_BenchError)=some true)
  (f_sub_Twice:PySem.W.mroIn K c_Twice (.ref c_BenchError)=some true)
  (f_sub_Stranger:PySem.W.mroIn K c_Stranger (.ref c_BenchError)=some true)
  (f_sub_Ring:PySem.W.mroIn K c_Ring (.ref c_BenchError)=some true)
  (f_sub_TooMany:PySem.W.mroIn K c_TooMany (.ref c_BenchError)=some true)
  (f_sub_NoText:PySem.W.mroIn K c_NoText (.ref c_BenchError)=some true)
  (f_sub_NoBench:PySem.W.mroIn K c_NoBench (.ref c_BenchError)=some true)
  (f_xb_BenchError:excB K c_BenchError=true)
  (f_xb_NoName:excB K c_NoName=true)
  (f_xb_Twice:excB K c_Twice=true)
  (f_xb_Stranger:excB K c_Stranger=true)
  (f_xb_Ring:excB K c_Ring=true)
  (f_kx_NoName:kxB K [c_NoName,c_Twice,c_Stranger,c_Ring,c_TooMany,c_NoText,c_NoBench,c_NoRow,c_NoWood,c_NoEnd,c_NoJob,c_NoWindow,c_NoLength,c_NoPaper,c_NoTurns,c_NoLine] c_BenchError c_NoName 0=true)
  (f_kx_Twice:kxB K [c_NoName,c_Twice,c_Stranger,c_Ring,c_TooMany,c_NoText,c_NoBench,c_NoRow,c_NoWood,c_NoEnd,c_NoJob,c_NoWindow,c_NoLength,c_NoPaper,c_NoTurns,c_NoLine] c_BenchError c_Twice 1=true)
  (f_kx_Stranger:kxB K [c_NoName,c_Twice,c_Stranger,c_Ring,c_TooMany,c_NoText,c_NoBench,c_NoRow,c_NoWood,c_NoEnd,c_NoJob,c_NoWindow,c_NoLength,c_NoPaper,c_NoTurns,c_NoLine] c_BenchError c_Stranger 2=true)
  (f_kx_Ring:kxB K [c_NoName,c_Twice,c_Stranger,c_Ring,c_TooMany,c_NoText,c_NoBench,c_NoRow,c_NoWood,c_NoEnd,c_NoJob,c_NoWindow,c_NoLength,c_NoPaper,c_NoTurns,c_NoLine] c_BenchError c_Ring 3=true)
  (f_kx_TooMany:kxB K [c_NoName,c_Twice,c_Stranger,c_Ring,c_TooMany,c_NoText,c_NoBench,c_NoRow,c_NoWood,c_NoEnd,c_NoJob,c_NoWindow,c_NoLength,c_NoPaper,c_NoTurns,c_NoLine] c_BenchError c_TooMany 4=true)
  (f_kx_NoText:kxB K [c_NoName,c_Twice,c_Stranger,c_Ring,c_TooMany,c_NoText,c_NoBench,c_NoRow,c_NoWood,c_NoEnd,c_NoJob,c_NoWindow,c_NoLength,c_NoPaper,c_NoTurns,c_NoLine] c_BenchError c_NoText 5=true)
  (f_kx_NoBench:kxB K [c_NoName,c_Twice,c_Stranger,c_Ring,c_TooMany,c_NoText,c_NoBench,c_NoRow,c_NoWood,c_NoEnd,c_NoJob,c_NoWindow,c_NoLength,c_NoPaper,c_NoTurns,c_NoLine] c_BenchError c_NoBench 6=true)
  (e_MOST_JOBS:PySem.W.nsIn K mainGlobals "MOST_JOBS"=some (some (.int 20 t_MOST_JOBS)))
  (e_LONGEST_NAME:PySem.W.nsIn K mainGlobals "LONGEST_NAME"=some (some (.int 8 t_LONGEST_NAME)))
  :∃fd:FuncData,(∀(s:Shared)(v:Value),BindsTo s fd ⟨[v],[]⟩ [("_law_script",v)])/\∀base:Heap,K.In base->base.Ns mainGlobals mg->FnOk l.prog w K mg base CX0 9 fa fd ["_law_script"] (spLaw K):=by
 have z:∀x,x∈_->mg x=none:=λx m=>nnB_of X G zz m;have m:=λ(x:Str)(v:Value) (e:PySem.W.nsIn K mainGlobals x=some (some v))=>PySem.W.mg_of X G e;obtain⟨a,_,_,kV,dc,pm,an,cd,ct,_,u,v,k⟩:=l42
 cases hfa.symm.trans (m _ _ a)
 have T:Txt K mg:={z_len:=z _ (by decide),z_max:=z _ (by decide),z_range:=z _ (by decide),z_int:=z _ (by decide),z_str:=z _ (by decide),z_list:=z _ (by decide),z_all:=z _ (by decide),z_min:=z _ (by decide),z_any:=z _ (by decide),z_dict:=z _ (by decide),z_bool:=z _ (by decide),z_reversed:=z _ (by decide),z_sum:=z _ (by decide),z_zip:=z _ (by decide),z_abs:=z _ (by decide),z_enumerate:=z _ (by decide),z_isinstance:=z _ (by decide),z_sorted:=z _ (by decide),z_set:=z _ (by decide),z_tuple:=z _ (by decide),c_MOST_JOBS:=⟨_,m _ _ e_MOST_JOBS⟩,c_LONGEST_NAME:=⟨_,m _ _ e_LONGEST_NAME⟩};have U:JC K mg C:=⟨⟨pg,hd,po,sa⟩,n_row,n_pairs,n_above,m _ _ aC⟩;have kx_NoName:KX K (ofL [c_NoName,c_Twice,c_Stranger,c_Ring,c_TooMany,c_NoText,c_NoBench,c_NoRow,c_NoWood,c_NoEnd,c_NoJob,c_NoWindow,c_NoLength,c_NoPaper,c_NoTurns,c_NoLine]) c_BenchError c_NoName 0:=KX.of f_kx_NoName f_xb_NoName (zB7 f_sub_NoName) rfl rfl;have kx_Twice:KX K (ofL [c_NoName,c_Twice,c_Stranger,c_Ring,c_TooMany,c_NoText,c_NoBench,c_NoRow,c_NoWood,c_NoEnd,c_NoJob,c_NoWindow,c_NoLength,c_NoPaper,c_NoTurns,c_NoLine]) c_BenchError c_Twice 1:=KX.of f_kx_Twice f_xb_Twice (zB7 f_sub_Twice) rfl rfl;have kx_Stranger:KX K (ofL [c_NoName,c_Twice,c_Stranger,c_Ring,c_TooMany,c_NoText,c_NoBench,c_NoRow,c_NoWood,c_NoEnd,c_NoJob,c_NoWindow,c_NoLength,c_NoPaper,c_NoTurns,c_NoLine]) c_BenchError c_Stranger 2:=KX.of f_kx_Stranger f_xb_Stranger (zB7 f_sub_Stranger) rfl rfl;have kx_Ring:KX K (ofL [c_NoName,c_Twice,c_Stranger,c_Ring,c_TooMany,c_NoText,c_NoBench,c_NoRow,c_NoWood,c_NoEnd,c_NoJob,c_NoWindow,c_NoLength,c_NoPaper,c_NoTurns,c_NoLine]) c_BenchError c_Ring 3:=KX.of f_kx_Ring f_xb_Ring (zB7 f_sub_Ring) rfl rfl;have kx_TooMany:KX K (ofL [c_NoName,c_Twice,c_Stranger,c_Ring,c_TooMany,c_NoText,c_NoBench,c_NoRow,c_NoWood,c_NoEnd,c_NoJob,c_NoWindow,c_NoLength,c_NoPaper,c_NoTurns,c_NoLine]) c_BenchError c_TooMany 4:=KX.of f_kx_TooMany (excB_of f_ok_TooMany) (zB7 f_sub_TooMany) rfl rfl;have kx_NoText:KX K (ofL [c_NoName,c_Twice,c_Stranger,c_Ring,c_TooMany,c_NoText,c_NoBench,c_NoRow,c_NoWood,c_NoEnd,c_NoJob,c_NoWindow,c_NoLength,c_NoPaper,c_NoTurns,c_NoLine]) c_BenchError c_NoText 5:=KX.of f_kx_NoText (excB_of f_ok_NoText) (zB7 f_sub_NoText) rfl rfl;have kx_NoBench:KX K (ofL [c_NoName,c_Twice,c_Stranger,c_Ring,c_TooMany,c_NoText,c_NoBench,c_NoRow,c_NoWood,c_NoEnd,c_NoJob,c_NoWindow,c_NoLength,c_NoPaper,c_NoTurns,c_NoLine]) c_BenchError c_NoBench 6:=KX.of f_kx_NoBench (excB_of f_ok_NoBench) (zB7 f_sub_NoBench) rfl rfl;have RR:RC K mg c_BenchError c_Ring:={bi:=⟨f_ga,f_rd,f_fi⟩,mgB:=m _ _ x_BenchError,xc:=⟨f_xb_Ring,f_sa_Ring,f_hd_Ring,f_ob_Ring⟩,nr:=f_nr_Ring,mgR:=m _ _ x_Ring,gt:=⟨f_hd_Ring,f_be_Ring,f_gg_Ring,f_gn_Ring⟩,self:=zB7 f_sub_Ring};have RN:XF K mg c_BenchError c_NoName "NoName":= {bi:=⟨f_ga,f_rd,f_fi⟩,mgB:=m _ _ x_BenchError,xc:=⟨f_xb_NoName,f_sa_NoName,f_hd_NoName,f_ob_NoName⟩,nr:=f_nr_NoName,mgX:=m _ _ x_NoName,gt:=⟨f_hd_NoName,f_be_NoName,f_gg_NoName,f_gn_NoName⟩,self:=zB7 f_sub_NoName};have RT:XF K mg c_BenchError c_Twice "Twice":= {bi:=⟨f_ga,f_rd,f_fi⟩,mgB:=m _ _ x_BenchError,xc:=⟨f_xb_Twice,f_sa_Twice,f_hd_Twice,f_ob_Twice⟩,nr:=f_nr_Twice,mgX:=m _ _ x_Twice,gt:=⟨f_hd_Twice,f_be_Twice,f_gg_Twice,f_gn_Twice⟩,self:=zB7 f_sub_Twice};have RS:XF K mg c_BenchError c_Stranger "Stranger":= {bi:=⟨f_ga,f_rd,f_fi⟩,mgB:=m _ _ x_BenchError,xc:=⟨f_xb_Stranger,f_sa_Stranger,f_hd_Stranger,f_ob_Stranger⟩,nr:=f_nr_Stranger,mgX:=m _ _ x_Stranger,gt:=⟨f_hd_Stranger,f_be_Stranger,f_gg_Stranger,f_gn_Stranger⟩,self:=zB7 f_sub_Stranger};have RM:X0 K mg c_BenchError c_TooMany "TooMany":= ⟨f_ok_TooMany,m _ _ x_TooMany,zB7 f_sub_TooMany⟩;have RX:X0 K mg c_BenchError c_NoText "NoText":= ⟨f_ok_NoText,m _ _ x_NoText,zB7 f_sub_NoText⟩;have RY:X0 K mg c_BenchError c_NoBench "NoBench":= ⟨f_ok_NoBench,m _ _ x_NoBench,zB7 f_sub_NoBench⟩;have KMd:KM mg (ofL [c_NoName,c_Twice,c_Stranger,c_Ring,c_TooMany,c_NoText,c_NoBench,c_NoRow,c_NoWood,c_NoEnd,c_NoJob,c_NoWindow,c_NoLength,c_NoPaper,c_NoTurns,c_NoLine]):={m0:=m _ _ x_NoName,m1:=m _ _ x_Twice,m2:=m _ _ x_Stranger,m3:=m _ _ x_Ring,m4:=m _ _ x_TooMany,m5:=m _ _ x_NoText,m6:=m _ _ x_NoBench,m7:=m _ _ x_NoRow,m8:=m _ _ x_NoWood,m9:=m _ _ x_NoEnd,m10:=m _ _ x_NoJob,m11:=m _ _ x_NoWindow,m12:=m _ _ x_NoLength,m13:=m _ _ x_NoPaper,m14:=m _ _ x_NoTurns,m15:=m _ _ x_NoLine,zv:=z _ (by decide)}
 have KS:∀d,d≠.fine->KX K (ofL [c_NoName,c_Twice,c_Stranger,c_Ring,c_TooMany,c_NoText,c_NoBench,c_NoRow,c_NoWood,c_NoEnd,c_NoJob,c_NoWindow,c_NoLength,c_NoPaper,c_NoTurns,c_NoLine]) c_BenchError (CC.of ⟨C,c_NoName,c_Twice,c_Stranger,c_Ring,c_TooMany⟩ d) (ixD d):=λd nf=>by
  cases d with
  |many=>exact kx_TooMany
  |name _=>exact kx_NoName
  |twice=>exact kx_Twice
  |strange _=>exact kx_Stranger
  |ring=>exact kx_Ring
  |fine=>exact absurd rfl nf
 have NS:∀d,ixD d<3->KN K (CC.of ⟨C,c_NoName,c_Twice,c_Stranger,c_Ring,c_TooMany⟩ d) "name":= λd h=>by
  cases d with
  |name _=>exact⟨RN.gt,RN.nr⟩
  |twice=>exact⟨RT.gt,RT.nr⟩
  |strange _=>exact⟨RS.gt,RS.nr⟩
  |_=>exact absurd h (by decide)
 have VJ:JI K C:=⟨iA,iN,iT,iM⟩;obtain⟨_,F0⟩:=l0.2.to;obtain⟨_,F1⟩:=l1.2.to;obtain⟨_,F2⟩:=l2.2.to;obtain⟨_,F3⟩:=l3.2.to;obtain⟨_,F4⟩:=l4.2.to;obtain⟨_,F5⟩:=l5.2.to;obtain⟨_,F6⟩:=l6.2.2.to;obtain⟨_,F7⟩:=l7.2.2.to;obtain⟨_,F8⟩:=l8.2.2.to;obtain⟨T9,t9,a9,⟨_,_,_,_,_,_,_,_,_,u9,v9,k9⟩,_,_,_,_,d9⟩:=l9;have F9:FunD K "own_copy" "own_copy" zBn f9 _ T9 #[.int 12 t9]:=⟨⟨_,_,_,_,_,_,_,_,_,rfl,u9,v9⟩,⟨_,_,d9,rfl⟩,k9⟩;have b9:=F9.binds (ps:=["thing","depth"]) (ds:=[]) λ_ _ _ _ _ _ us hl=>match us,hl with|[_,_],_=>⟨_,rfl,rfl⟩
 have bd9:=F9.binds (ps:=["thing","depth"]) (ds:=[.int 12 t9]) λ_ _ _ _ _ _ us hl=>match us,(show us.length=1 by simpa using hl)with|[_],_=>⟨_,rfl,rfl⟩
 obtain⟨_,F10⟩:=l10.2.to;obtain⟨_,F11⟩:=l11.2.to;obtain⟨_,F12⟩:=l12.2.to;obtain⟨_,F13⟩:=l13.2.to;obtain⟨_,F14⟩:=l14.2.to;obtain⟨_,F15⟩:=l15.2.to;obtain⟨_,F16⟩:=l16.2.to;obtain⟨_,F17⟩:=l17.2.2.to;obtain⟨_,F18⟩:=l18.2.to;obtain⟨_,F19⟩:=l19.2.2.to;obtain⟨_,F20⟩:=l20.2.2.to;obtain⟨_,F21⟩:=l21.2.2.to;obtain⟨_,F22⟩:=l22.2.2.to;obtain⟨_,F23⟩:=l23.2.2.to;obtain⟨_,F24⟩:=l24.2.2.to;obtain⟨_,F25⟩:=l25.2.to;obtain⟨_,F26⟩:=l26.2.to;obtain⟨_,F27⟩:=l27.2.to;obtain⟨_,F28⟩:=l28.2.to;obtain⟨_,F29⟩:=l29.2.to;obtain⟨_,F30⟩:=l30.2.to;obtain⟨_,F31⟩:=l31.2.to;obtain⟨_,F32⟩:=l32.2.to;obtain⟨_,F33⟩:=l33.2.to;obtain⟨_,F34⟩:=l34.2.to;obtain⟨_,F35⟩:=l35.2.to;obtain⟨_,F36⟩:=l36.2.to;obtain⟨_,F37⟩:=l37.2.to;obtain⟨_,F38⟩:=l38.2.to;obtain⟨_,F39⟩:=l39.2.to;obtain⟨_,F40⟩:=l40.2.to;obtain⟨_,F41⟩:=l41.2.to;have F42:=fun_mk (st:=s_law) u v k;refine⟨PySem.W.fnOf "law" "law" (zCc s_law) (zBp s_law) (zAe s_law) .none kV dc pm an cd ct,λs v=>.of_eq rfl,λB _ _=>?_⟩;have C_take:=cal l.prog w B (m _ _ l0.1) F0 F0.b2 (ok_take F0);have C_purse:=cal l.prog w B (m _ _ l1.1) F1 F1.b2 (ok_purse F1 T);have C_cell:=cal l.prog w B (m _ _ l2.1) F2 F2.b2 (ok_cell F2 T);have C_is_name:=cal l.prog w B (m _ _ l3.1) F3 F3.b1 (ok_isNameV F3 T);have C_is_one_of:=cal l.prog w B (m _ _ l4.1) F4 F4.b2 (ok_oneV F4 T);have C_words_for:=cal l.prog w B (m _ _ l5.1) F5 F5.b2 (ok_words_for F5 T);have M_NoName:MkrX l.prog w K mg B c_NoName 2 ["self","name"] (zCo c_NoName):=⟨f6,_,⟨f_xb_NoName,l6.1,l6.2.1,f_kp_NoName⟩,F6.b2,(zHt F6 RN C_words_for)⟩;have M_Twice:MkrX l.prog w K mg B c_Twice 2 ["self","name"] (zCo c_Twice):=⟨f7,_,⟨f_xb_Twice,l7.1,l7.2.1,f_kp_Twice⟩,F7.b2,(zI8 F7 RT C_words_for)⟩;have M_Stranger:MkrX l.prog w K mg B c_Stranger 2 ["self","name"] (zCo c_Stranger):=⟨f8,_,⟨f_xb_Stranger,l8.1,l8.2.1,f_kp_Stranger⟩,F8.b2,(zF4 F8 RS C_words_for)⟩;have C_own_copyF:CalD l.prog w K mg B "own_copy" 1 ["thing","depth"] [] zFp:=⟨f9,_,[],m _ _ a9,k9,b9,.nil,(ok_copyF F9 T)⟩;have C_own_copy:CalD l.prog w K mg B "own_copy" 2 ["thing","depth"] [.int 12] spCopy:=⟨f9,_,[.int 12 t9],m _ _ a9,k9,bd9,.cons ⟨_,rfl⟩ .nil,ok_copy (ok_copyF F9 T) (ok_copyL F9 T C_own_copyF) (ok_copyT F9 T C_own_copyF) (ok_copyD F9 T C_own_copyF)⟩;have C_check_job:=calX l.prog w B (m _ _ l10.1) F10 F10.b2 (ok_jobV (c:=⟨C,c_NoName,c_Twice,c_Stranger,c_Ring,c_TooMany⟩) F10 RS C_is_one_of C_own_copy M_Stranger);have C_check_names:=calX l.prog w B (m _ _ l11.1) F11 F11.b1 (ok_namesV (c:=⟨C,c_NoName,c_Twice,c_Stranger,c_Ring,c_TooMany⟩) F11 T RM RN RT C_is_name C_own_copy M_NoName M_Twice);have C_check_parts:=calX l.prog w B (m _ _ l12.1) F12 F12.b2 (ok_partsV (c:=⟨C,c_NoName,c_Twice,c_Stranger,c_Ring,c_TooMany⟩) F12 C_check_job);have C_told_ahead:=cal l.prog w B (m _ _ l13.1) F13 F13.b2 (zI4 F13);have C_has_all:=cal l.prog w B (m _ _ l14.1) F14 F14.b2 (ok_has_all F14 T);have C_joined:=cal l.prog w B (m _ _ l15.1) F15 F15.b2 (ok_joined F15);have C_ring_among:=cal l.prog w B (m _ _ l16.1) F16 F16.b2 (zI5 F16 T);have M_Ring:MkrX l.prog w K mg B c_Ring 1 ["self","ring"] (spRing c_Ring):=⟨f17,_,⟨f_xb_Ring,l17.1,l17.2.1,f_kp_Ring⟩,F17.b2,(ok_Ring_init F17 RR)⟩;have C_all_ahead:=calX l.prog w B (m _ _ l18.1) F18 F18.b2 (zI7 F18 T RR M_Ring C_ring_among C_has_all C_joined);have M_Jobs:MkrF l.prog w K mg B C "Jobs" 6 ["self","names","orders"] (zIk ⟨C,c_NoName,c_Twice,c_Stranger,c_Ring,c_TooMany⟩):=⟨f19,_,⟨mk,l19.1,l19.2.1,kc⟩,m _ _ aC,F19.b3,(ok_initV (c:=⟨C,c_NoName,c_Twice,c_Stranger,c_Ring,c_TooMany⟩) F19 T U C_check_names C_check_parts C_all_ahead C_told_ahead)⟩;have M_turned:=mth l.prog w B l20 F20 F20.b1 (zHu (c:=⟨C,c_NoName,c_Twice,c_Stranger,c_Ring,c_TooMany⟩) F20 T U M_Jobs);have M_behind:=mthX l.prog w B l21 F21 F21.b2 (ok_behindX (c:=⟨C,c_NoName,c_Twice,c_Stranger,c_Ring,c_TooMany⟩) F21 U C_check_job);have M_ahead:=mthX l.prog w B l22 F22 F22.b2 (ok_aheadX (c:=⟨C,c_NoName,c_Twice,c_Stranger,c_Ring,c_TooMany⟩) F22 U C_check_job);have M_straight:=mthX l.prog w B l23 F23 F23.b2 (ok_straightX (c:=⟨C,c_NoName,c_Twice,c_Stranger,c_Ring,c_TooMany⟩) F23 U M_behind);have M_is_ahead:=mthX l.prog w B l24 F24 F24.b3 (ok_is_aheadX (c:=⟨C,c_NoName,c_Twice,c_Stranger,c_Ring,c_TooMany⟩) F24 U C_check_job);have C_names:=cal l.prog w B (m _ _ l25.1) F25 F25.b2 (ok_names F25 T C_take);have C_pairs:=cal l.prog w B (m _ _ l26.1) F26 F26.b4 (ok_pairs F26 T C_take);have C_jobs:=cal l.prog w B (m _ _ l27.1) F27 F27.b2 (ok_jobs F27 T C_take C_names C_pairs);have C_kinds:=cal l.prog w B (m _ _ l28.1) F28 F28.b1 (ok_kinds F28 T KMd);have C_is_ring:=cal l.prog w B (m _ _ l29.1) F29 F29.b2 (ok_is_ring F29 T);have C_lis_name:=cal l.prog w B (m _ _ l30.1) F30 F30.b1 (ok_lis_name F30 T);have C_thing:=cal l.prog w B (m _ _ l31.1) F31 F31.b1 (ok_thing F31 T C_take);have C_no_job:=cal l.prog w B (m _ _ l32.1) F32 F32.b1 (ok_no_job F32);have C_spoilt:=cal l.prog w B (m _ _ l33.1) F33 F33.b3 (ok_spoilt F33 T C_take C_thing C_no_job);have C_goes_round:=cal l.prog w B (m _ _ l34.1) F34 F34.b2 (zI6 F34 T);have C_due:=cal l.prog w B (m _ _ l35.1) F35 F35.b2 (ok_due F35 T C_lis_name C_goes_round);have C_same:=cal l.prog w B (m _ _ l36.1) F36 F36.b2 (ok_same F36 T);have C_refused:=cal l.prog w B (m _ _ l37.1) F37 F37.b3 (ok_refused (c:=⟨C,c_NoName,c_Twice,c_Stranger,c_Ring,c_TooMany⟩) F37 KS NS ⟨RR.gt,RR.nr⟩ C_kinds C_is_ring C_same);have C_made:=cal l.prog w B (m _ _ l38.1) F38 F38.b2 (ok_made (c:=⟨C,c_NoName,c_Twice,c_Stranger,c_Ring,c_TooMany⟩) F38 RS.mgB f_xb_BenchError KS M_Jobs);have C_asked:=cal l.prog w B (m _ _ l39.1) F39 F39.b4 (ok_asked (c:=⟨C,c_NoName,c_Twice,c_Stranger,c_Ring,c_TooMany⟩) F39 U RS f_xb_BenchError M_behind M_ahead M_straight M_is_ahead);have C_strangers:=cal l.prog w B (m _ _ l40.1) F40 F40.b2 (ok_strangers (c:=⟨C,c_NoName,c_Twice,c_Stranger,c_Ring,c_TooMany⟩) F40 T C_no_job C_asked C_refused);have C_by_hand:=cal l.prog w B (m _ _ l41.1) F41 F41.b0 (ok_hand (c:=⟨C,c_NoName,c_Twice,c_Stranger,c_Ring,c_TooMany⟩) F41 KS NS ⟨RR.gt,RR.nr⟩ RN RT RS RR.mgR RM RX RY f_kp_TooMany f_kp_NoText f_kp_NoBench kx_NoText.kf kx_NoBench.kf C_kinds M_NoName M_Twice M_Stranger M_Ring);exact ok_law (c:=⟨C,c_NoName,c_Twice,c_Stranger,c_Ring,c_TooMany⟩) F42 T U VJ C_cell C_purse C_take C_jobs C_spoilt C_due C_made C_strangers C_refused C_by_hand M_turned
theorem walk{l:PySem.W.OpenLaw}{q:Program}{loose:List Str}{XP:(Str->Option Value)->Heap->Prop}{YP:World->Heap->Prop}{d:DefRec}{K:Params->PySem.W.Frag}(hn:l.most=some 63)(hdf:d.params.defaults=[])
  (hY:∀(w:World)(h:Heap),YP w h->(K w.params).In h)
  (F:∀(w:World) (mg:Str->Option Value) (fa:Addr) (h:Heap),(K w.params).In h->h.Ns mainGlobals mg->mg d.name=some (.ref fa) ->
   ∃fd:FuncData,(∀(s:Shared)(u:Value),BindsTo s fd ⟨[u],[]⟩ [("_law_script",u)])/\∀base:Heap,(K w.params).In base->base.Ns mainGlobals mg->FnOk l.prog w (K w.params) mg base CX0 9 fa fd ["_law_script"] (spLaw (K w.params))) :
  PySem.W.WalkO q loose XP YP l.row.toRowW d [] (λf vs=>PySem.call f vs) :=
 L2.walk_of (n:=63) (k:=9) (x:="_law_script") (CX:=λ_=>CX0) (sp:=λw=>spLaw (K w.params)) hn (by decide) hdf ⟨rfl,by decide,by decide,rfl⟩ hY F (λ_ _ a ns hl _ hS=>⟨a,ns,rfl,hS,hl,λ_=>rfl⟩) λ_ _ _ _ _ z=>z
end My
namespace PySem.W.Fast
def tw266358665484479656:Nat:=0
def tw2745046152519498246:Nat:=0
def tw14601730420839690738:Nat:=0
def tw2096854156700860485:Nat:=0
def tw1524335620372157771:Nat:=0
def tw6789562539524967631:Nat:=0
def tw13005575765438373991:Nat:=0
def tw12360081462922028775:Nat:=0
def tw11628343202765092725:Nat:=0
def tw1995053827784753070:Nat:=0
def tw16843788483708519080:Nat:=0
def tw2898252995625578834:Nat:=0
def tw548712463132557412:Nat:=0
def tw7534185567773474491:Nat:=0
def tw4862860329575691516:Nat:=0
def tw13005437320755593343:Nat:=0
def tw2564570038140120240:Nat:=0
def tw13902438046623040095:Nat:=0
def tw3422259113995712091:Nat:=0
def tw5236741382167804279:Nat:=0
def tw6943190385736579372:Nat:=0
def tw9958386288870269447:Nat:=0
def tw3082806285434529066:Nat:=0
def tw4434900419932272255:Nat:=0
def tw2644912260629853327:Nat:=0
def tw16441271233736919477:Nat:=0
def tw16497608791860426687:Nat:=0
def tw7390947111820900656:Nat:=0
def tw14397090284683422065:Nat:=0
def tw7251727662583219507:Nat:=0
def tw10603403707563164675:Nat:=0
def tw16928538007736949399:Nat:=0
def tw17796731610880172524:Nat:=0
def tw13464175199604630559:Nat:=0
def tw9512942615572182328:Nat:=0
def tw13893970419089226203:Nat:=0
def tw15741604423767857658:Nat:=0
def tw8736805156532830773:Nat:=0
def tw13711918270048516933:Nat:=0
def tw15625931169850862726:Nat:=0
def tw13628343603395556069:Nat:=0
def tw10615604593207367661:Nat:=0
def tw9358002850680621191:Nat:=0
def tw7090162893817741552:Nat:=0
def tw9723839284751408418:Nat:=0
def tw387610537618673333:Nat:=0
def tw2394115843436572588:Nat:=0
def tw2071662890973727284:Nat:=0
def tw7349467358293141649:Nat:=0
def tw13878026708478268375:Nat:=0
def tw6207426659241374539:Nat:=0
def tw6324084049694019227:Nat:=0
def tw15824753181553824323:Nat:=0
def tw17074822071834036262:Nat:=0
def tw9531474466821127369:Nat:=0
def tw2899324794507000251:Nat:=0
def tw14947268182354027605:Nat:=0
def tw1351849847056538782:Nat:=0
def tw4078912210929806989:Nat:=0
def tw1663434450204395090:Nat:=0
def tw9012415435560343166:Nat:=0
def tw16513457633123061996:Nat:=0
def tw15447486161126834892:Nat:=0
def tw13076982069946792276:Nat:=0
def tw13463626131861826936:Nat:=0
def tw2693332028586027896:Nat:=0
def tw16785747082993706752:Nat:=0
def tw14796755378980289795:Nat:=0
def tw8094125013449847362:Nat:=0
def tw16848091556650376018:Nat:=0
def tw12913720834366286749:Nat:=0
def tw10090786981699241195:Nat:=0
def tw9032542321313431911:Nat:=0
def tw8884087613659964196:Nat:=0
def tw15882034062914735049:Nat:=0
def tw7103711428371961111:Nat:=0
def tw13678063886353518681:Nat:=0
def tw10936978571663717885:Nat:=0
def tw12170560466801940501:Nat:=0
def tw3050959483465206680:Nat:=0
def tw15560742362602629121:Nat:=0
def tw14443111705252093895:Nat:=0
def tw9978510334479408541:Nat:=0
def tw17962600397534866403:Nat:=0
def tw6035812581057164404:Nat:=0
def tw1244820793229760698:Nat:=0
def tw15429468709594222408:Nat:=0
def tw8136507838753372149:Nat:=0
def tw10698949993472722772:Nat:=0
def tw4785684146477214220:Nat:=0
def tw9261310739303632683:Nat:=0
def tw3549734644457649974:Nat:=0
def tw12199104716505976363:Nat:=0
def tw198182726617030998:Nat:=0
def tw7162639628871122386:Nat:=0
def tw2385917257375885233:Nat:=0
def tw14232083525118749090:Nat:=0
def tw15278691222211810900:Nat:=0
def tw6906976407090751846:Nat:=0
def tw2003706786070938373:Nat:=0
def tw8186552631711287380:Nat:=0
def tw1605977368659133751:Nat:=0
def tw164426287330567323:Nat:=0
def tw10301217753340165860:Nat:=0
def tw9823282025896581668:Nat:=0
def tw13587499232908241040:Nat:=0
def tw2817136732126549056:Nat:=0
def tw7882749670771247234:Nat:=0
def tw15120988271156022694:Nat:=0
def tw12600400385286480590:Nat:=0
def tw17216702796230809159:Nat:=0
def tw12960729922430644969:Nat:=0
def tw14374582626884823065:Nat:=0
def tw10458547497888039505:Nat:=0
def tw4762658719396183843:Nat:=0
def tw549306995342297618:Nat:=0
def tw7480370609849824633:Nat:=0
def tw3281752461815835534:Nat:=0
def tw16310396937080980624:Nat:=0
def tw3747545159628515677:Nat:=0
def tw6493863982492589689:Nat:=0
def tw4527180963709468890:Nat:=0
def tw7144216924586039491:Nat:=0
def tw7968718035714030979:Nat:=0
def tw13313055587779315783:Nat:=0
def tw295446344266141668:Nat:=0
def tw9689402574560562995:Nat:=0
def tw12991132089822743023:Nat:=0
def tw15633695205234621093:Nat:=0
def tw10790521811642902899:Nat:=0
def tw17821858089319304648:Nat:=0
def tw17024733401840103994:Nat:=0
def tw11056732239080928916:Nat:=0
def tw30442797846578184:Nat:=0
def tw13997909825533527191:Nat:=0
def tw15362418875540250957:Nat:=0
def tw15292041098859204036:Nat:=0
def tw2888250061536198018:Nat:=0
def tw3482985066298903737:Nat:=0
def tw438438502220485918:Nat:=0
def tw2537401650303826251:Nat:=0
def tw18189219741635701843:Nat:=0
def tw8340546830957301580:Nat:=0
def tw17465888413958673023:Nat:=0
def tw10022881518459306024:Nat:=0
def tw5527828192152967641:Nat:=0
def tw6207046247767670921:Nat:=0
def tw9239418809415121307:Nat:=0
def tw14090809985406426118:Nat:=0
def tw12983268303741794378:Nat:=0
def tw9840605993162569426:Nat:=0
def tw628375171858018711:Nat:=0
def tw9262209084744510558:Nat:=0
def tw3852249311869401644:Nat:=0
def tw7905069910776974571:Nat:=0
def tw1902713607037267933:Nat:=0
def tw1233009662771556546:Nat:=0
def tw6850007380016585370:Nat:=0
def tw4455630025407958754:Nat:=0
def tw13725100855623164895:Nat:=0
def tw1325018318906629734:Nat:=0
def tw13494139280491172775:Nat:=0
def tw11329536303307917928:Nat:=0
def tw8683060658177328864:Nat:=0
def tw10083640518249581037:Nat:=0
def tw7064328610309566850:Nat:=0
def tw14904031034580936712:Nat:=0
def tw5060400723094408635:Nat:=0
def tw8400344036014564528:Nat:=0
def tw15312836970179418194:Nat:=0
def tw4253758431859594171:Nat:=0
def tw6066678733271225534:Nat:=0
def tw4971870111586565490:Nat:=0
def tw3493741598165945819:Nat:=0
def tw8946466115216424692:Nat:=0
def tw15031139829936285730:Nat:=0
def tw9023658567872714625:Nat:=0
def tw1627429558008316837:Nat:=0
def tw12383085258374392278:Nat:=0
def tw8924546827731958688:Nat:=0
def tw15976059459230583866:Nat:=0
def tw5315179247732187784:Nat:=0
def tw7887357205243429644:Nat:=0
def tw13461918605017527624:Nat:=0
def tw12475871133192002823:Nat:=0
def tw13916265923308670906:Nat:=0
def tw8926756648419180522:Nat:=0
def tw15094509622584661176:Nat:=0
def tw6922766366219346458:Nat:=0
def tw291573949119410998:Nat:=0
def tw7622698930466485906:Nat:=0
def tw8930636759268019431:Nat:=0
def tw7153380889447945476:Nat:=0
def tw17357692672982421220:Nat:=0
def tw5430128485986069528:Nat:=0
def tw11680423468925625376:Nat:=0
def tw12605864556010005576:Nat:=0
def tw8599497775803099223:Nat:=0
def tw10057769208896853859:Nat:=0
def tw15132005972560307530:Nat:=0
def tw16780052517683708927:Nat:=0
def tw651056417638285908:Nat:=0
def tw5829726122283258752:Nat:=0
def tw3224449441427706733:Nat:=0
def tw3968998055143195124:Nat:=0
def tw12739265320210410287:Nat:=0
def tw14416433459926232297:Nat:=0
def tw2528399742511466099:Nat:=0
def tw11623970470212879922:Nat:=0
def tw2235967551709397294:Nat:=0
def tw15027385072416047388:Nat:=0
def tw11329886089944550226:Nat:=0
def tw4773629112107219101:Nat:=0
def tw16143443064301700163:Nat:=0
def tw12104542981527169129:Nat:=0
def tw15157066971029129098:Nat:=0
def tw93047606117841333:Nat:=0
def tw14491231469420864170:Nat:=0
def tw2272994956704357800:Nat:=0
def tw11226846984394617723:Nat:=0
def tw15407786663270791708:Nat:=0
def tw5630064029788321187:Nat:=0
end PySem.W.Fast
open PySem PySem.W PyProof.Rows
set_option maxRecDepth 100000 in
set_option maxHeartbeats 0 in
theorem PySem.Challenge.cw_levelbench_k13_jobs_refused_holds : PySem.Challenge.rw_levelbench_k13_jobs_refused.Holds := by
 w_on;o_law;k_head;(case hw=>w_witness2)
 k_fill
 refine My.walk (l:=PySem.Challenge.rw_levelbench_k13_jobs_refused) rfl rfl (λw h Y=>PySem.W.kIn_of Y) ?F
 case F=>
  intro w mg fa h KX G hmg;refine' My.all_mk KX G hmg ?h0 ?h1 ?h2 ?h3 ?h4 ?h5 ?h6 ?h7 ?h8 ?h9 ?h10 ?h11 ?h12 ?h13 ?h14 ?h15 ?h16 ?h17 ?h18 ?h19 ?h20 ?h21 ?h22 ?h23 ?h24 ?h25 ?h26 ?h27 ?h28 ?h29 ?h30 ?h31 ?h32 ?h33 ?h34 ?h35 ?h36 ?h37 ?h38 ?h39 ?h40 ?h41 ?h42 ?h43 ?h44 ?h45 ?h46 ?h47 ?h48 ?h49 ?h50 ?h51 ?h52 ?h53 ?h54 ?h55 ?h56 ?h57 ?h58 ?h59 ?h60 ?h61 ?h62 ?h63 ?h64 ?h65 ?h66 ?h67 ?h68 ?h69 ?h70 ?h71 ?h72 ?h73 ?h74 ?h75 ?h76 ?h77 ?h78 ?h79 ?h80 ?h81 ?h82 ?h83 ?h84 ?h85 ?h86 ?h87 ?h88 ?h89 ?h90 ?h91 ?h92 ?h93 ?h94 ?h95 ?h96 ?h97 ?h98 ?h99 ?h100 ?h101 ?h102 ?h103 ?h104 ?h105 ?h106 ?h107 ?h108 ?h109 ?h110 ?h111 ?h112 ?h113 ?h114 ?h115 ?h116 ?h117 ?h118 ?h119 ?h120 ?h121 ?h122 ?h123 ?h124 ?h125 ?h126 ?h127 ?h128 ?h129 ?h130 ?h131 ?h132 ?h133 ?h134 ?h135 ?h136
  all_goals try first|k_is|exact⟨by k_is,_,_,_,_,_,_,_,_,_,by k_is,by k_is,by k_is⟩|exact⟨by k_is,by k_is,_,_,_,_,_,_,_,_,_,by k_is,by k_is,by k_is⟩|exact⟨_,_,by k_is,⟨_,_,_,_,_,_,_,_,_,by k_is,by k_is,by k_is⟩,_,_,_,_,by k_is⟩|k_exc|kernel_rfl
