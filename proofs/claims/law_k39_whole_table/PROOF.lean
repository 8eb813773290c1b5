import PyProof.Rows.All
import Wide.All
import OpenK.AllK
import Wide.FinOn
import Lean
import PyProof.EqAt
import PyProof.EqKinds
import PyProof.TupleCall
import PySem.Challenge.RW_stripmeld_k39_whole_table
set_option Elab.async false
set_option linter.all false
set_option maxRecDepth 100000
noncomputable section
def Yl:=@List.getElem?_eq_getElem
def Ym:=@List.length_map
def Yn:=@PySem.wpAny_bind
def Yo:=@List.getD_eq_getElem?_getD
def Yp:=@if_neg
def Yq:=@decide_eq_true
def Yr:=@if_pos
def Ys:=@PySem.wpAny_pure
def Yt:=@List.getElem?_map
def Yu:=@of_decide_eq_true
def Yv:=@PySem.Heap.get?_push_of_some
def Yw:=@List.length_append
def Yx:=@List.mem_singleton
def Yy:=@Nat.le_refl
def Yz:=@Option.some.inj
def Y0:=@List.size_toArray
def Y1:=@PySem.Heap.lt_size
def Y2:=@List.mem_cons
def Y3:=@List.mem_filter
def Y4:=@Nat.le_trans
def Y5:=@PySem.Heap.get?_push_size
def Y6:=@Bool.false_ne_true
def Y7:=@List.mem_of_getElem?
def Y8:=@List.map_append
def Y9:=@List.map_cons
def YA:=@decide_eq_false
def YB:=@Int.toNat_natCast
def YC:=@List.getElem_mem
def YD:=@List.getElem?_eq_some_iff
def YE:=@List.length_cons
def YF:=@List.mem_cons_of_mem
def YG:=@List.mem_append
def YH:=@PySem.PassesOwn.never
def YI:=@List.getElem?_append_left
def YJ:=@PySem.F.plainAttrs_list
def YK:=@List.getElem?_append_right
def YL:=@List.mem_map
def YM:=@Nat.ne_of_lt
def YN:=@List.mem_cons_self
def YO:=@List.length_singleton
def YQ:=@congrArg
def YR:=@List.map_map
def YS:=@List.mem_range
def YT:=@List.nodup_cons
def YU:=@Classical.byContradiction
def YV:=@List.mem_append_right
def YW:=@Nat.lt_of_lt_of_le
def YX:=@Nat.add_le_add
def YY:=@List.take_succ_eq_append_getElem
def YZ:=@List.length_filter_le
def Wa:=@Array.length_toList
def Wb:=@List.append_nil
def Wc:=@Bool.and_eq_true
def Wd:=@PySem.W.mg_none_of
def We:=@PySem.Heap.get?_update_self
def Wf:=@List.getElem?_cons_succ
def Wg:=@PySem.wpAny_newObj_type
def Wh:=@Classical.not_not
def Wi:=@PySem.Heap.get?_update_other
def Wj:=@List.length_take
def Wk:=@PySem.F.slot_list_append
def Wl:=@PySem.F.type_list_append
def Wm:=@List.eq_nil_or_concat
def Wn:=@PySem.wpAny_mono
def Wo:=@List.length_set
def Wp:=@Nat.lt_of_le_of_lt
def Wq:=@PySem.Obj.data_mapFields
def Wr:=@List.lookup_cons
def Ws:=@PySem.Heap.SameBut.update
def Wt:=@List.nodup_append
def Wu:=@PySem.W.mg_of
def Wv:=@Array.getElem?_toList
def Ww:=@Nat.zero_le
def Wx:=@PySem.W.kia_one
def Wy:=@List.pairwise_cons
def Wz:=@List.mem_iff_getElem
def W1:=@Nat.pow_le_pow_right
def W2:=@List.map_congr_left
def W3:=@Array.getElem?_eq_getElem
def W4:=@List.concat_eq_append
def W5:=@List.getElem?_take_of_lt
def W6:=@Nat.lt_irrefl
def W7:=@PySem.F.slot_list_index
def W8:=@beq_eq_false_iff_ne
def W9:=@List.replicate_succ
def WA:=@List.sum_cons
def WB:=@List.take_length
def WC:=@PySem.wpAny_setField
def WD:=@PySem.Obj.isFreed_of_fields
def WE:=@Nat.ge_two_pow_of_testBit
def WG:=@Nat.le_of_eq
def WH:=@PySem.F.slot_dict_valueiterator_next
def WI:=@List.dropLast_concat
def WJ:=@List.length_range
def WK:=@PySem.wpAny_typeNameOfWhole_valiter
def WL:=@List.getElem?_replicate
def WM:=@List.length_eq_zero_iff
def WN:=@PySem.F.type_list_index
def WO:=@List.filterMap_cons
def WQ:=@PySem.mem_of_lookup
def WR:=@PySem.wpAny_call_entry
def WS:=@PyProof.Rows.F.plain_set_update_loop
def WT:=@PySem.wpAny_passesOwn
def WU:=@List.getElem?_eq_none
def WV:=@PySem.wpAny_truthy_bool
def WW:=@List.flatten_cons
def WX:=@PySem.wpAny_setState_of
def WY:=@Nat.lt_succ_of_lt
def WZ:=@decide_eq_true_eq
def Qa:=@List.mem_append_left
def Qb:=@List.pairwise_iff_getElem
def Qc:=@PySem.Around.under_plainId
def Qd:=@List.getLast?_concat
def Qe:=@PySem.Heap.size_push
def Qf:=@List.nodup_nil
def Qg:=@Nat.lt_succ_self
def Qh:=@List.all_eq_true
def Qi:=@PySem.wpAny_typeNameOf_valiter
def Qj:=@Int.add_zero
def Qk:=@List.length_pos_iff
def Ql:=@List.any_cons
def Qm:=@Bool.true_and
def Qn:=@List.find?_cons
def Qo:=@PySem.codeAny_builtin
def Qp:=@Nat.add_sub_cancel
def Qq:=@List.cons.injEq
def Qr:=@List.filter_append
def Qs:=@Int.natCast_pow
def Qt:=@List.getElem?_set_self
def Qu:=@List.take_of_length_le
def Qv:=@List.filterMap_eq_map'
def Qw:=@Nat.testBit_lt_two_pow
def Qx:=@Bool.eq_false_iff
def Qy:=@PySem.codeAny_mono
def Qz:=@Nat.lt_trans
def Q0:=@Nat.lt_or_ge
def Q1:=@List.filterMap_append
def Q2:=@PySem.F.slot_list_pop
def Q3:=@PySem.F.type_list_pop
def Q4:=@PyProof.Rows.callWith_type1
def Q5:=@List.getElem?_set_ne
def Q6:=@List.ext_getElem
def Q7:=@List.getElem_map
def Q8:=@PySem.wpAny_holding
def Q9:=@Array.getElem?_eq_some_iff
def QA:=@List.drop_eq_getElem_cons
def QB:=@List.range_succ
def QC:=@List.getLast?_eq_getElem?
def QD:=@PyProof.Rows.boot_isinstance
def QE:=@Nat.le_of_lt
def QF:=@PySem.wpAny_Call_Name_kw
def QG:=@PySem.F.args_tuple_add_2
def QH:=@PyProof.Rows.F.entry_set_update_loop
def QI:=@Bool.false_eq_true
def QJ:=@List.idxOf_lt_length_iff
def QK:=@Int.ne_of_lt
def QL:=@List.map_singleton
def QM:=@Bool.false_and
def QN:=@Bool.and_false
def QO:=@Nat.sub_le
def QP:=@PySem.F.entry_tuple_add
def QR:=@PySem.wpAny_callSpecial?_slot
def QS:=@Nat.add_sub_cancel_left
def QT:=@List.take_sublist
def QU:=@List.append_assoc
def QV:=@PySem.fits_of_scanBound
def QW:=@PySem.Obj.cls_mapFields
def QX:=@List.ext_getElem?
def QY:=@Nat.le_succ
def QZ:=@PySem.F.slot_tuple_add
def Va:=@Array.getElem?_eq_none
def Vb:=@List.all_cons
def Vc:=@PySem.plainId_quiet
def Vd:=@List.length_drop
def Ve:=@if_false
def Vf:=@List.cons_append
def Vg:=@List.not_mem_nil
def Vh:=@List.flatten_replicate_singleton
def Vi:=@PySem.W.methodCall_KW
def Vj:=@PySem.wpAny_isOneOf_valiter
def Vk:=@List.getElem?_reverse
def Vl:=@PySem.Heap.get?_none_of_le
def Vm:=@PySem.wpAny_execs_nil
def Vn:=@Bool.eq_iff_iff
def Vo:=@PySem.call_meets
def Vp:=@Option.map_some
def Vq:=@List.forIn_cons
def Vr:=@List.pairwise_append
def Vs:=@Nat.not_lt
def Vt:=@List.mem_of_mem_take
def Vu:=@Nat.sub_self
def Vv:=@PySem.W.plainGet_of
def Vw:=@List.filter_sublist
def Vx:=@List.filter_eq_self
def Vy:=@List.length_reverse
def Vz:=@List.mem_map_of_mem
def V0:=@List.getElem_of_mem
def V1:=@PySem.wpAny_field
def V2:=@Int.one_mul
def V3:=@List.mem_filterMap
def V4:=@PySem.W.callWith_K
def V5:=@List.getElem_idxOf
def V6:=@List.getElem_range
def V7:=@Int.emod_lt_of_pos
def V8:=@List.any_eq_false
def V9:=@Bool.not_eq_true'
def VA:=@List.getElem?_set
def VB:=@Nat.ne_of_gt
def VC:=@List.map_nil
abbrev Za:=PySem.W.Frag
namespace L2
open PySem PySem.Spec PyProof.Rows
abbrev Key:=Sum Int Str
def P2:Key->Value->Bool
 | .inl k,v=>Value.isInt k v
 | .inr x,v=>Value.isStrOf x v
def keyH(w:World):Key->Int
 | .inl k=>hashInt k
 | .inr x=>hashStr w x
def K6:∀{k:Key}{v:Value},P2 k v=true->(∃i t,k=Sum.inl i/\v=Value.int i t)\/(∃x t,k=Sum.inr x/\v=Value.str x t)
 | .inl i,v,h=>by
  obtain⟨t,e⟩:=Value.isInt_shape (k:=i) (v:=v) h;exact .inl ⟨i,t,rfl,e⟩
 | .inr x,v,h=>by
  obtain⟨t,e⟩:=Value.isStrOf_shape (x:=x) (v:=v) h;exact .inr ⟨x,t,rfl,e⟩
def Zdf(i:Int)(t:Tok):P2 (.inl i) (.int i t)=true:=by simp[P2,Value.isInt]
def O8(x:Str)(t:Tok):P2 (.inr x) (.str x t)=true:=by simp[P2,Value.isStrOf]
def LL(a b:Int):decide ((Sum.inl a:Key)=Sum.inl b)=(a==b):=by
 by_cases e:a=b
 ·subst e;simp
 ·have h:¬(Sum.inl a:Key)=Sum.inl b:=fun q=>e (Sum.inl.inj q);rw[YA h];exact(W8.mpr e).symm
def Zd0(a b:Str):decide ((Sum.inr a:Key)=Sum.inr b)=decide (a=b):=by
 by_cases e:a=b
 ·subst e;simp
 ·have h:¬(Sum.inr a:Key)=Sum.inr b:=fun q=>e (Sum.inr.inj q);rw[YA h,YA e]
def Zc6(a:Int)(b:Str):decide ((Sum.inl a:Key)=Sum.inr b)=false:=YA (fun q=>nomatch q)
def Zai(a:Str)(b:Int):decide ((Sum.inr a:Key)=Sum.inl b)=false:=YA (fun q=>nomatch q)
def X8(prog:Program)(w:World):PySem.KeyKind prog w Key where
 is:=P2
 hash:=keyH w
 inj:=fun v a b ha hb=>by
  rcases K6 ha with⟨i,t,rfl,rfl⟩|⟨x,t,rfl,rfl⟩
  ·rcases K6 hb with⟨j,u,rfl,e⟩|⟨y,u,rfl,e⟩
   ·injection e with e1 _;rw[e1]
   ·exact nomatch e
  ·rcases K6 hb with⟨j,u,rfl,e⟩|⟨y,u,rfl,e⟩
   ·exact nomatch e
   ·injection e with e1 _;rw[e1]
 byValue:=fun k v h=>by
  rcases K6 h with⟨i,t,rfl,rfl⟩|⟨x,t,rfl,rfl⟩<;>rfl
 pyHash:=fun hv h=>by
  rcases K6 hv with⟨i,t,rfl,rfl⟩|⟨x,t,rfl,rfl⟩
  ·exact wpAny_pyHash_int h
  ·exact wpAny_pyHash_str h
 eqBool:=fun hu hv h=>by
  rcases K6 hu with⟨i,t,rfl,rfl⟩|⟨x,t,rfl,rfl⟩
  ·rcases K6 hv with⟨j,u,rfl,rfl⟩|⟨y,u,rfl,rfl⟩
   ·rw[LL]at h;exact wpAny_eqBool_int h
   ·rw[Zc6]at h;exact SeqAt.EqAt.int_str i t y u _ _ _ _ h
  ·rcases K6 hv with⟨j,u,rfl,rfl⟩|⟨y,u,rfl,rfl⟩
   ·rw[Zai]at h;exact SeqAt.EqAt.str_int x t j u _ _ _ _ h
   ·rw[Zd0]at h;exact wpAny_eqBool_str h
 «strs»:=fun k x t v h=>by
  rcases K6 h with⟨i,u,rfl,e⟩|⟨y,u,rfl,e⟩
  ·exact nomatch e
  ·injection e with e1 _;subst e1;cases v<;>rfl
def RH(prog:Program)(w:World)(i:Int)(t:Tok):(X8 prog w).is (.inl i) (.int i t)=true:=Zdf i t
def Ir(prog:Program)(w:World)(x:Str)(t:Tok):(X8 prog w).is (.inr x) (.str x t)=true:=O8 x t
inductive V where
 |non|bl (b:Bool)|int (i:Int)|str (x:Str)|byt (b:Array UInt8)|flt (b:UInt64)|ref (a:Addr)|ty (n:String)
 deriving DecidableEq
def RelV:V->Value->Prop
 | .non,u=>u=Value.none
 | .bl b,u=>u=Value.bool b
 | .int i,u=>∃t,u=Value.int i t
 | .str x,u=>∃t,u=Value.str x t
 | .byt b,u=>∃t,u=Value.bytes b t
 | .flt b,u=>∃t,u=Value.float b t
 | .ref a,u=>u=Value.ref a
 | .ty n,u=>u=Value.type n
abbrev Vals:List V->List Value->Prop:=Paired RelV
def Vals.length {xs:List V}{us:List Value} (r:Vals xs us):xs.length=us.length:=Paired.length r
def Vals.get:∀{xs:List V}{us:List Value}{i:Nat}{x:V},Vals xs us->xs[i]?=some x->∃u,us[i]?=some u/\RelV x u
 |_,_,_,_,.nil,e=>by simp at e
 |_,_,0,_,.cons r _,e=>by simp at e;subst e;exact⟨_,rfl,r⟩
 |_,_,i+1,x,.cons _ t,e=>by
  obtain⟨u,h1,h2⟩:=Vals.get (i:=i) (x:=x) t (by simpa using e);exact⟨u,by simpa using h1,h2⟩
def Vals.set {x:V}{u:Value} (r:RelV x u):∀{xs:List V}{us:List Value} (i:Nat),Vals xs us->Vals (xs.set i x) (us.set i u)
 |_,_,_,.nil=>.nil
 |_,_,0,.cons _ t=>.cons r t
 |_,_,i+1,.cons q t=>.cons q (Vals.set r i t)
def Vals.append:∀{xs ys:List V}{us ws:List Value},Vals xs us->Vals ys ws->Vals (xs++ys) (us++ws)
 |_,_,_,_,.nil,s=>s
 |_,_,_,_,.cons r t,s=>.cons r (Vals.append t s)
def Vals.take:∀{xs:List V}{us:List Value} (n:Nat),Vals xs us->Vals (xs.take n) (us.take n)
 |_,_,0,_=>.nil
 |_,_,_+1,.nil=>.nil
 |_,_,n+1,.cons r t=>.cons r (Vals.take n t)
def Vals.drop:∀{xs:List V}{us:List Value} (n:Nat),Vals xs us->Vals (xs.drop n) (us.drop n)
 |_,_,0,r=>r
 |_,_,_+1,.nil=>.nil
 |_,_,n+1,.cons _ t=>Vals.drop n t
def RelO:Option V->Option Value->Prop
 |some v,some u=>RelV v u
 |none,none=>True
 |_,_=>False
def KV{κ:Type}:List (κ×V)->List (κ×Value)->Prop:=Paired fun(p:κ×V) (q:κ×Value)=>p.1=q.1/\RelV p.2 q.2
def kV:Key->V
 | .inl i=>.int i
 | .inr x=>.str x
inductive HO where
 |lst (xs:List V)
 |tup (xs:List V)
 |dK (kvs:List (Key×V))|dT (kvs:List (List Key×V))
 |set (S:Int->Bool) (n:Nat)
 |ins (C dx:Addr) (fs:List (Str×V))
 |own (x:Addr)
 |xd (fs:List (Str×V))
 |met (f x:Addr)
 |rng (lo hi:Int)
 |frz (o:Obj) (u:HO)
 |tbl (ps:Array Value)
 |ext (φ:Heap->Prop)
abbrev Hp:=Addr->Option HO
def upd(H:Hp)(a:Addr)(o:HO):Hp:=fun b=>if b=a then some o else H b
def U6{H:Hp}{a:Addr}{o:HO}:upd H a o a=some o:=by unfold upd;rw[Yr rfl]
def Um{H:Hp}{a b:Addr}{o:HO}(h:b≠a):upd H a o b=H b:=by unfold upd;rw[Yp h]
def Ma{H:Hp}{a:Addr}{o u:HO}:upd (upd H a o) a u=upd H a u:=by
 funext b;unfold upd;split<;>rfl
def Ej{H:Hp}{a b:Addr}{o u:HO}(h:H a=some o)(h':H b=some u)(d:o≠u):a≠b:=by
 intro e;subst e;rw[h]at h';exact d (Yz h')
def X6{H:Hp}{a b:Addr}{o:HO}(h:H a=some o)(h':H b=none):a≠b:=by
 intro e;subst e;rw[h]at h';cases h'
section
variable (P:Program) (w:World)
def ObjOk(H:Hp)(h:Heap)(a:Addr):HO->Prop
 | .lst xs=>xs.length<=sizeLine/\∃(its:List Value) (n:Nat),Vals xs its/\h.get? a=some {cls:=.type "list",data:=.seq its.toArray n}
 | .tup xs=>xs.length<=sizeLine/\∃its:List Value,Vals xs its/\IsTup h a its.toArray
 | .dK kvs=>kvs.length<=sizeLine/\(a==sysModules)=false/\∃vs,KV kvs vs/\h.DictOf (X8 P w) a vs
 | .dT kvs=>kvs.length<=sizeLine/\(a==sysModules)=false/\∃xs:List (List Key×Addr×Value),
   Paired (fun(p:List Key×V) (q:List Key×Addr×Value)=>p.1=q.1/\H q.2.1=some (.tup (p.1.map kV))/\RelV p.2 q.2.2) kvs xs/\
   ∃o es ep,h.get? a=some o/\o.ExactDict/\o.data=.dict es ep/\es.toList=xs.map (entryOfKey (tupleKind (X8 P w)))/\(xs.map (·.1)).Nodup
 | .set S n=>h.SetOf (intKind P w) a S n
 | .ins C dx fs=>H dx=some (.own a)/\fs.length<=1000/\dx≠a/\h.get? a=some (PySem.W.instObj C dx)/\
   ∃mA,h.Ns1 dx mA/\(∀f,RelO (fs.lookup f) (mA f))/\PySem.Within mA (fs.map (·.1))
 | .own _=>∃o,h.get? a=some o
 | .xd fs=>∃mA,h.Ns1 a mA/\∀f,RelO (fs.lookup f) (mA f)
 | .rng lo hi=>∃t u v,h.get? a=some {cls:=.type "range",data:=.fields #[.int lo t,.int hi u,.int 1 v]}
 | .frz o u=>h.get? a=some o/\ObjOk H h a u
 | .tbl ps=>h.get? a=some {cls:=.none,data:=.fields ps}
 | .met f x=>h.get? a=some (PySem.W.methodObj (.ref f) (.ref x))
 | .ext φ=>φ h/\(∃o,h.get? a=some o)/\∀h1 h2:Heap,φ h1->(∀o,h1.get? a=some o->h2.get? a=some o)->φ h2
def HOk(H:Hp)(h:Heap):Prop:=∀a o,H a=some o->ObjOk P w H h a o
end
section
variable {P:Program}{w:World}{H H':Hp}{h h':Heap}{a:Addr}{o:HO}
def ObjOk.lt (x:ObjOk P w H h a o):a<h.objs.size:=by
 cases o with
 |lst xs=>obtain⟨_,_,_,_,e⟩:=x;exact Y1 e
 |tup xs=>obtain⟨_,_,_,p⟩:=x;exact p.lt
 |dK kvs=>obtain⟨_,_,_,_,o,_,_,e,_⟩:=x;exact Y1 e
 |dT kvs=>obtain⟨_,_,_,_,o,_,_,e,_⟩:=x;exact Y1 e
 |set S n=>obtain⟨o,_,_,_,e,_⟩:=x;exact Y1 e
 |ins C dx fs=>obtain⟨_,_,_,e,_⟩:=x;exact Y1 e
 |own y=>obtain⟨_,e⟩:=x;exact Y1 e
 |xd fs=>obtain⟨_,⟨_,_,_,e,_⟩,_⟩:=x;exact Y1 e
 |rng lo hi=>obtain⟨_,_,_,e⟩:=x;exact Y1 e
 |frz ob u=>obtain⟨e,_⟩:=x;exact Y1 e
 |tbl ps=>exact Y1 (show h.get? a=some _ from x)
 |met f y=>exact Y1 (show h.get? a=some _ from x)
 |ext φ=>obtain⟨_,⟨_,e⟩,_⟩:=x;exact Y1 e
def Paired.mapP {α β:Type}{F G:α->β->Prop}:∀{l₁:List α}{l₂:List β},Paired F l₁ l₂->(∀a b,F a b->G a b)->Paired G l₁ l₂
 |_,_,.nil,_=>.nil
 |_,_,.cons r t,f=>.cons (f _ _ r) (Paired.mapP t f)
def ObjOk.stay (x:ObjOk P w H h a o) (k:∀b u,(b=a\/H b=some (.own a))->h.get? b=some u->h'.get? b=some u)
  (ho:∀b,H b=some (.own a)->H' b=some (.own a)) (ht:∀b xs,H b=some (.tup xs)->H' b=some (.tup xs)):ObjOk P w H' h' a o:=by
 induction o with
 |lst xs=>obtain⟨z,its,n,r,e⟩:=x;exact⟨z,its,n,r,k _ _ (.inl rfl) e⟩
 |tup xs=>obtain⟨z,its,r,ob,e,c⟩:=x;exact⟨z,its,r,ob,k _ _ (.inl rfl) e,c⟩
 |dK kvs=>obtain⟨z,y,vs,r,ob,es,ep,e,c⟩:=x;exact⟨z,y,vs,r,ob,es,ep,k _ _ (.inl rfl) e,c⟩
 |dT kvs=>
  obtain⟨z,y,xs,r,ob,es,ep,e,c⟩:=x;exact⟨z,y,xs,Paired.mapP r fun p q z=>⟨z.1,ht _ _ z.2.1,z.2.2⟩,ob,es,ep,k _ _ (.inl rfl) e,c⟩
 |set S n=>obtain⟨ob,es,ep,t,e,c⟩:=x;exact⟨ob,es,ep,t,k _ _ (.inl rfl) e,c⟩
 |ins C dx fs=>
  obtain⟨d,z,ne,e,mA,⟨od,es,ep,e2,c⟩,r⟩:=x;exact⟨ho _ d,z,ne,k _ _ (.inl rfl) e,mA,⟨od,es,ep,k _ _ (.inr d) e2,c⟩,r⟩
 |own y=>obtain⟨ob,e⟩:=x;exact⟨ob,k _ _ (.inl rfl) e⟩
 |xd fs=>obtain⟨mA,⟨od,es,ep,e,c⟩,r⟩:=x;exact⟨mA,⟨od,es,ep,k _ _ (.inl rfl) e,c⟩,r⟩
 |rng lo hi=>obtain⟨t,u,v,e⟩:=x;exact⟨t,u,v,k _ _ (.inl rfl) e⟩
 |frz ob u ih=>obtain⟨e,q⟩:=x;exact⟨k _ _ (.inl rfl) e,ih q⟩
 |tbl ps=>
  have e:h.get? a=some {cls:=.none,data:=.fields ps}:=x;show h'.get? a=some {cls:=.none,data:=.fields ps};exact k a _ (.inl rfl) e
 |met f y=>
  have e:h.get? a=some (PySem.W.methodObj (.ref f) (.ref y)):=x;show h'.get? a=some (PySem.W.methodObj (.ref f) (.ref y));exact k a _ (.inl rfl) e
 |ext φ=>obtain⟨p,⟨o,e⟩,st⟩:=x;exact⟨st _ _ p fun o q=>k _ _ (.inl rfl) q,⟨o,k _ _ (.inl rfl) e⟩,st⟩
def HOk.lt (x:HOk P w H h) (e:H a=some o):a<h.objs.size:=(x a o e).lt
def HOk.fresh (x:HOk P w H h) (e:h.objs.size<=a):H a=none:=by
 cases q:H a with
 |none=>rfl
 |some u=>exact absurd (YW (x.lt q) e) (W6 _)
def HOk.kept (x:HOk P w H h) (k:∀b u,h.get? b=some u->h'.get? b=some u):HOk P w H h':=fun a o e=>
 (x a o e).stay (fun b u _ q=>k b u q) (fun _ q=>q) fun _ _ q=>q
def HOk.laid (x:HOk P w H h) (k:∀b u,h.get? b=some u->h'.get? b=some u) (hp:h.objs.size<=a) (new:ObjOk P w (upd H a o) h' a o):HOk P w (upd H a o) h':=fun b u e=>by
 have hn:=x.fresh hp;by_cases hb:b=a
 ·subst hb;rw[U6]at e;cases e;exact new
 ·rw[Um hb]at e;exact(x b u e).stay (fun c v _ q=>k c v q) (fun c q=>by rw[Um (X6 q hn)];exact q) fun c xs q=>by rw[Um (X6 q hn)];exact q
end
def Rd(H:Hp)(a:Addr)(u:HO):Prop:=H a=some u\/∃o,H a=some (.frz o u)
def Rd.ok {P:Program}{w:World}{H:Hp}{h:Heap}{a:Addr}{u:HO} (r:Rd H a u) (x:HOk P w H h):ObjOk P w H h a u:=by
 rcases r with r|⟨o,r⟩
 ·exact x a u r
 ·obtain⟨_,q⟩:=x a _ r;exact q
def Mut:Option HO->Prop
 |some (.lst _)=>True
 |some (.dK _)=>True
 |some (.dT _)=>True
 |some (.set _ _)=>True
 |some (.ins _ _ _)=>True
 |some (.ext _)=>True
 |_=>False
section
variable {P:Program}{w:World}{H:Hp}{h h':Heap}{x e:Addr}{o':HO}
def HOk.write (ok:HOk P w H h) (mu:Mut (H x)) (he:e=x\/H e=some (.own x)) (k:∀b u,b≠e->h.get? b=some u->h'.get? b=some u) (heo:∃u,h'.get? e=some u)
  (new:ObjOk P w (upd H x o') h' x o'):HOk P w (upd H x o') h':=fun b u q=>by
 have nown:∀c y,H c=some (.own y)->c≠x:=fun c y r z=>by subst z;rw[r]at mu;exact mu
 have ntup:∀c xs,H c=some (.tup xs)->c≠x:=fun c xs r z=>by subst z;rw[r]at mu;exact mu
 by_cases hb:b=x
 ·subst hb;rw[U6]at q;cases q;exact new
 ·rw[Um hb]at q;by_cases hbe:b=e
  ·have q':H b=some (.own x):=by
    rcases he with z|z
    ·exact absurd (hbe.trans z) hb
    ·rw[hbe];exact z
   rw[q]at q';cases q';obtain⟨v,hv⟩:=heo;exact⟨v,by rw[hbe];exact hv⟩
  ·refine(ok b u q).stay (fun c v hc r=>k c v ?_ r) (fun c r=>by rw[Um (nown c b r)];exact r) fun c xs r=>by rw[Um (ntup c xs r)];exact r
   rcases hc with rfl|hc
   ·exact hbe
   ·rintro rfl;rcases he with z|z
    ·exact nown c b hc z
    ·rw[hc]at z;cases z;exact hb rfl
end
structure Un (fs ex:List Addr) (H H':Hp) (h h':Heap):Prop where
 keep:∀b o,h.get? b=some o->H b=none->b∉fs->b∉ex->h'.get? b=some o
 slot:∀b o,h.get? b=some o->H b=none->b∈fs->b∉ex->∃sl,h'.get? b=some {o with slots:=sl}
 free:∀b o,h.get? b=some o->H b=none->b∉ex->H' b=none
 there:∀b o,h.get? b=some o->b∉ex->∃o',h'.get? b=some o'
 tups:∀b xs,H b=some (.tup xs)->H' b=some (.tup xs)
 frzs:∀b o u,H b=some (.frz o u)->H' b=some (.frz o u)
 tbls:∀b ps,H b=some (.tbl ps)->∃more,H' b=some (.tbl (ps++more))
section
variable {fs fs' ex ex':List Addr}{H H1 H2:Hp}{h h1 h2 h':Heap}{a x e:Addr}{o:HO}
def Un.any (u:Un fs ex H H1 h h1) {b:Addr}{ob:Obj} (q:h.get? b=some ob) (n:H b=none) (hx:b∉ex):∃sl,h1.get? b=some {ob with slots:=sl}:=by
 by_cases hb:b∈fs
 ·exact u.slot b ob q n hb hx
 ·exact⟨ob.slots,u.keep b ob q n hb hx⟩
def Un.kept (k:∀b u,h.get? b=some u->h'.get? b=some u):Un fs ex H H h h':=
 ⟨fun b ob q _ _ _=>k b ob q,fun b ob q _ _ _=>⟨ob.slots,k b ob q⟩,fun _ _ _ n _=>n,fun b ob q _=>⟨ob,k b ob q⟩,fun _ _ q=>q,fun _ _ _ q=>q,fun _ ps q=>⟨#[],by rw[q];simp⟩⟩
def Un.refl:Un fs ex H H h h:=Un.kept fun _ _ q=>q
def Un.laid (k:∀b u,h.get? b=some u->h'.get? b=some u) (hp:h.objs.size<=a) (hn:H a=none):Un fs ex H (upd H a o) h h' where
 keep:=fun b u q _ _ _=>k b u q
 slot:=fun b u q _ _ _=>⟨u.slots,k b u q⟩
 free:=fun b u q n _=>by rw[Um (YM (YW (Y1 q) hp))];exact n
 there:=fun b u q _=>⟨u,k b u q⟩
 tups:=fun b xs q=>by rw[Um (X6 q hn)];exact q
 frzs:=fun b u xs q=>by rw[Um (X6 q hn)];exact q
 tbls:=fun b ps q=>⟨#[],by rw[Um (X6 q hn),q];simp⟩
def Un.write (mu:Mut (H x)) (he:e=x\/H e=some (.own x)) (k:∀b u,b≠e->h.get? b=some u->h'.get? b=some u) (heo:∃u,h'.get? e=some u):Un fs ex H (upd H x o) h h':=by
 have hx:∀b,H b=none->b≠x:=fun b n z=>by subst z;rw[n]at mu;exact mu
 have hb:∀b,H b=none->b≠e:=fun b n z=>by
  subst z;rcases he with r|r
  ·exact hx b n r
  ·rw[n]at r;cases r
 have hm:∀b u,H b=some u->¬Mut (some u)->b≠x:=fun b u q nm z=>by subst z;rw[q]at mu;exact nm mu
 refine⟨fun b u q n _ _=>k b u (hb b n) q,fun b u q n _ _=>⟨u.slots,k b u (hb b n) q⟩,fun b u q n _=>by rw[Um (hx b n)];exact n,fun b u q _=>?_,
  fun b xs q=>by rw[Um (hm b _ q fun z=>z)];exact q,fun b u xs q=>by rw[Um (hm b _ q fun z=>z)];exact q,fun b ps q=>⟨#[],by rw[Um (hm b _ q fun z=>z),q];simp⟩⟩
 by_cases hbe:b=e
 ·subst hbe;exact heo
 ·exact⟨u,k b u hbe q⟩
end
def trk(h:Heap)(H:Hp):List Addr:=(List.range h.objs.size).filter fun a=>(H a).isSome
def hidT(h:Heap)(H:Hp):Heap:=PySem.W.hideAll h (trk h H)
def LB(h:Heap)(H:Hp):(hidT h H).objs.size=h.objs.size:=PySem.W.hideAll_size _ _
def Lx{h:Heap}{H:Hp}{b:Addr}{o:Obj}(e:h.get? b=some o)(n:H b=none):(hidT h H).get? b=some o:=
 PySem.W.hideAll_get _ e fun hm=>by
  have q:(H b).isSome=true:=(Y3.mp hm).2;rw[n]at q;simp at q
def Zah{h:Heap}{H:Hp}{b:Addr}{o:Obj}(e:(hidT h H).get? b=some o):h.get? b=some o/\H b=none:=by
 have e':h.get? b=some o:=PySem.W.of_hideAll (trk h H) e;refine⟨e',?_⟩;cases q:H b with
 |none=>rfl
 |some x=>
  have hm:b∈trk h H:=Y3.mpr ⟨YS.mpr (Y1 e'),by simp[q]⟩;have z:(hidT h H).get? b=none:=PySem.W.hideAll_none (trk h H) hm;rw[z]at e;cases e
def LU(g h:Heap)(L:Addr):List (Addr×Obj):=(List.range h.objs.size).filterMap fun a=>if a=L\/(g.get? a).isSome=true then none else(h.get? a).map fun o=>(a,o)
def rest(g h:Heap)(L d:Addr):List (Addr×Obj):=(LU g h L).filter fun p=>decide (p.1≠d)
structure Mod (K:Za) (mg:Str->Option Value) (base:Heap):Prop where
 kin:K.In base
 glob:base.Ns mainGlobals mg
 blt:∃mb,base.Ns builtinsNs mb/\∀x:Str,x≠"__name__"->mb x=bootBuiltins x
 nolimit:base.NoLimit
structure Cx where
 prog:Program
 w:World
 K:Za
 mg:Str->Option Value
 base:Heap
 A:Around
 N:List Str
 s₀:Shared
 H₀:Hp
 env:Env
 outer:List Env
 stack:List Env
 ex:List Addr
 fn:Str->Bool
 calm:Bool
 pn:List (Addr×Obj)
 xe:Value->Shared->Prop
def frs(l:List Env):List Addr:=l.filterMap (·.frame)
abbrev Cx.fs (X:Cx):List Addr:=frs X.outer
def Vis(sc:Scope)(x:Str):Prop:=sc.names.lookup x=some .local\/sc.names.lookup x=some .cell\/sc.names.lookup x=some .free
def Loc(sc:Scope)(x:Str):Prop:=sc.names.lookup x=some .local\/sc.names.lookup x=some .cell
def Look(env:Env)(h:Heap)(m:Str->Option Value)(x:Str)(u:Value):Prop:=
 (env.kindOf x=some .local/\m x=some u)\/((env.kindOf x=some .cell\/env.kindOf x=some .free)/\∃c,env.cells.lookup x=some c/\h.IsCell c (some u))
structure Cx.Ok (X:Cx):Prop where
 mod:Mod X.K X.mg X.base
 kind:X.env.scope.kind=.function
 glob:X.env.globals=mainGlobals
 blt:X.env.builtins=builtinsNs
 above:X.s₀.heap.objs.size<=X.env.locals
 inj:∀x y c,X.env.cells.lookup x=some c->X.env.cells.lookup y=some c->x=y
 has:∀x,(X.env.kindOf x=some .cell\/X.env.kindOf x=some .free)->∃c,X.env.cells.lookup x=some c
 cab:∀x c,X.fn x=true->X.env.cells.lookup x=some c->X.s₀.heap.objs.size<=c
 hd:X.calm=true->X.A.handled=none
 frames:X.A.frames=some X.stack
 stk:X.stack=X.outer\/(X.stack=X.env::X.outer/\X.env.frame=some X.env.locals)
 exf:∀b∈X.ex,b≠X.env.locals/\∀x c,X.env.cells.lookup x=some c->c≠b
 bs:∀b o,X.base.get? b=some o->X.s₀.heap.get? b=some o/\X.H₀ b=none
 bsz:X.base.objs.size<=X.s₀.heap.objs.size
 noex:∀b o,X.base.get? b=some o->b∉X.ex
 exfs:∀b∈X.ex,b∉X.fs
 funs:X.s₀.heap.FunFrames X.base X.outer
 frf:∀b∈X.fs,X.H₀ b=none
structure Inv (X:Cx) (pins:List (Addr×Obj)) (σ:List (Option V)) (H:Hp) (s:Shared):Prop where
 ok:X.Ok
 os:s.os=X.s₀.os
 bare:AllBare s.gens
 base:Un X.fs X.ex X.H₀ H X.s₀.heap s.heap
 loc:∃m,s.heap.Ns X.env.locals m/\∀(i:Nat) (x:Str) (v:V),X.N[i]?=some x->σ[i]?=some (some v)->Vis X.env.scope x->∃u,RelV v u/\Look X.env s.heap m x u
 cell:∀x c,X.env.cells.lookup x=some c->∃v,s.heap.IsCell c v
 free:H X.env.locals=none
 freeC:∀x c,X.env.cells.lookup x=some c->H c=none
 pin:∀p∈X.pn++pins,s.heap.get? p.1=some p.2/\H p.1=none/\p.1≠X.env.locals/\p.1∉X.fs/\∀v,p.2.data≠.cell v
 hok:HOk X.prog X.w H s.heap
 len:σ.length=X.N.length
section
variable {X:Cx}{pins:List (Addr×Obj)}{σ:List (Option V)}{H H':Hp}{s:Shared}{h':Heap}
def Cx.Ok.nofr (ok:X.Ok) {b:Addr}{o:Obj} (e:X.base.get? b=some o):b∉X.fs:=fun hb=>by
 have:=(ok.funs.mem hb).1
 rw[e]at this;cases this
def Inv.bs (I:Inv X pins σ H s):∀b o,X.base.get? b=some o->s.heap.get? b=some o/\H b=none:=fun b o e=>
 ⟨I.base.keep b o (I.ok.bs b o e).1 (I.ok.bs b o e).2 (I.ok.nofr e) (I.ok.noex b o e),I.base.free b o (I.ok.bs b o e).1 (I.ok.bs b o e).2 (I.ok.noex b o e)⟩
def Inv.bk (I:Inv X pins σ H s):∀b o,X.base.get? b=some o->s.heap.get? b=some o:=fun b o e=>(I.bs b o e).1
def Inv.mod (I:Inv X pins σ H s):Mod X.K X.mg X.base:=I.ok.mod
def Inv.kIn (I:Inv X pins σ H s):X.K.In s.heap:=I.ok.mod.kin.keeps I.bk
def Inv.lt (I:Inv X pins σ H s):X.env.locals<s.heap.objs.size:=let ⟨_,hn,_⟩:=I.loc;hn.lt
def Inv.sz (I:Inv X pins σ H s):X.s₀.heap.objs.size<=s.heap.objs.size:=Y4 I.ok.above (QE I.lt)
def Inv.nofs (I:Inv X pins σ H s) {a:Addr} (h:s.heap.objs.size<=a):a∉X.fs:=fun hb=>by
 obtain⟨_,o,ho,_⟩:=I.ok.funs.mem hb;exact absurd (YW (Y1 ho) (Y4 I.sz h)) (W6 _)
def Inv.cne (I:Inv X pins σ H s):∀x c,X.env.cells.lookup x=some c->c≠X.env.locals:=fun x c e z=>by
 obtain⟨v,o,ho,hd⟩:=I.cell x c e;obtain⟨m,⟨o',es,ep,ho',hd',_⟩,_⟩:=I.loc;rw[z,ho']at ho;cases ho;rw[hd']at hd;cases hd
def Inv.funs (I:Inv X pins σ H s):s.heap.FunFrames X.base X.outer:=by
 have all:∀(l:List Env),(∀b∈frs l,b∈X.fs)->X.s₀.heap.FunFrames X.base l->s.heap.FunFrames X.base l:=by
  intro l
  induction l with
  |nil=>intro _ _;trivial
  |cons env r ih=>
   intro hs hl;obtain⟨hk,⟨L,o,hf,hn,ho,hd⟩,hr⟩:=hl;have hL:L∈X.fs:=hs L (by unfold frs;rw[WO,hf];exact YN);obtain⟨sl,e⟩:=I.base.slot L o ho (I.ok.frf L hL) hL fun z=>I.ok.exfs L z hL;exact⟨hk,⟨L,_,hf,hn,e,hd⟩,ih (fun b hb=>hs b (by unfold frs;rw[WO,hf];exact YF _ hb)) hr⟩
 exact all X.outer (fun _ hb=>hb) I.ok.funs
def Inv.stack (I:Inv X pins σ H s):s.heap.FunFrames X.base X.stack:=by
 rcases I.ok.stk with e|⟨e,hf⟩
 ·rw[e];exact I.funs
 ·rw[e];obtain⟨m,hn,_⟩:=I.loc;refine .cons (by rw[I.ok.kind];decide) hf hn ?_ I.funs;exact Vl (Y4 I.ok.bsz I.ok.above)
def Inv.stkSub (I:Inv X pins σ H s):∀b∈frs X.stack,b∈X.env.locals::X.fs:=fun b hb=>by
 rcases I.ok.stk with e|⟨e,hf⟩
 ·rw[e]at hb;exact YF _ hb
 ·rw[e]at hb;unfold frs at hb;rw[WO,hf]at hb;exact hb
def Inv.stkFree (I:Inv X pins σ H s):∀b∈frs X.stack,H b=none:=fun b hb=>by
 rcases Y2.mp (I.stkSub b hb)with e|hb
 ·rw[e];exact I.free
 ·obtain⟨_,o,ho,_⟩:=I.ok.funs.mem hb;exact I.base.free b o ho (I.ok.frf b hb) fun z=>I.ok.exfs b z hb
def Inv.step {g':Array GenState}{t':Nat}{d':Drawn}{ch:List Addr} (I:Inv X pins σ H s)
  (hch:∀b∈ch,(b∈X.ex\/X.s₀.heap.objs.size<=b)/\b≠X.env.locals/\(∀x c,X.env.cells.lookup x=some c->c≠b)/\∀p∈X.pn++pins,p.1≠b)
  (keep:∀b o,b≠X.env.locals->b∉X.fs->b∉ch->s.heap.get? b=some o->H b=none->h'.get? b=some o)
  (slot:∀b o,b≠X.env.locals->b∈X.fs->b∉ch->s.heap.get? b=some o->H b=none->∃sl,h'.get? b=some {o with slots:=sl}) (free:∀b o,b∉ch->s.heap.get? b=some o->H b=none->H' b=none)
  (there:∀b o,b∉ch->s.heap.get? b=some o->∃o',h'.get? b=some o')
  (tups:∀b xs,H b=some (.tup xs)->H' b=some (.tup xs)) (frzs:∀b o u,H b=some (.frz o u)->H' b=some (.frz o u)) (tbls:∀b ps,H b=some (.tbl ps)->∃more,H' b=some (.tbl (ps++more)))
  (ns:∀m,s.heap.Ns X.env.locals m->h'.Ns X.env.locals m) (hok:HOk X.prog X.w H' h') (hg:AllBare g') :
  Inv X pins σ H' {s with heap:=h',gens:=g',drawn:=d',toks:=t'}:=by
 have neL:∀b o,X.s₀.heap.get? b=some o->b≠X.env.locals:=fun b o e=>YM (YW (Y1 e) I.ok.above)
 have neC:∀b o,X.s₀.heap.get? b=some o->b∉X.ex->b∉ch:=fun b o e hx hb=>by
  rcases(hch b hb).1 with z|z
  ·exact hx z
  ·exact absurd (YW (Y1 e) z) (W6 _)
 have cellK:∀x c,X.env.cells.lookup x=some c->∀v,s.heap.IsCell c v->h'.IsCell c v:=fun x c e v ⟨o,ho,hd⟩=>by
  have nch:c∉ch:=fun z=>(hch c z).2.2.1 x c e rfl;by_cases hc:c∈X.fs
  ·obtain⟨sl,q⟩:=slot c o (I.cne x c e) hc nch ho (I.freeC x c e);exact⟨_,q,hd⟩
  ·exact⟨o,keep c o (I.cne x c e) hc nch ho (I.freeC x c e),hd⟩
 refine⟨I.ok,I.os,hg,⟨fun b o e n hb hx=>?_,fun b o e n hb hx=>?_,fun b o e n hx=>?_,fun b o e hx=>?_,fun b xs e=>tups b xs (I.base.tups b xs e),fun b o xs e=>frzs b o xs (I.base.frzs b o xs e),fun b ps e=>?_⟩,?_,fun x c e=>?_,?_,fun x c e=>?_,fun p hp=>?_,hok,I.len⟩
 ·exact keep b o (neL b o e) hb (neC b o e hx) (I.base.keep b o e n hb hx) (I.base.free b o e n hx)
 ·obtain⟨sl,e1⟩:=I.base.slot b o e n hb hx;obtain⟨sl',e2⟩:=slot b _ (neL b o e) hb (neC b o e hx) e1 (I.base.free b o e n hx);exact⟨sl',e2⟩
 ·obtain⟨o',e1⟩:=I.base.there b o e hx;exact free b o' (neC b o e hx) e1 (I.base.free b o e n hx)
 ·obtain⟨o',e1⟩:=I.base.there b o e hx;exact there b o' (neC b o e hx) e1
 ·obtain⟨m1,e1⟩:=I.base.tbls b ps e;obtain⟨m2,e2⟩:=tbls b _ e1;exact⟨m1++m2,by rw[e2,Array.append_assoc]⟩
 ·obtain⟨m,hn,hl⟩:=I.loc;refine⟨m,ns m hn,fun i x v e1 e2 e3=>?_⟩;obtain⟨u,r,l⟩:=hl i x v e1 e2 e3;refine⟨u,r,?_⟩;rcases l with l|⟨k,c,e,z⟩
  ·exact .inl l
  ·exact .inr ⟨k,c,e,cellK x c e _ z⟩
 ·obtain⟨v,z⟩:=I.cell x c e;exact⟨v,cellK x c e v z⟩
 ·obtain⟨m,⟨o,_,_,ho,_⟩,_⟩:=I.loc;exact free _ o (fun z=>(hch _ z).2.1 rfl) ho I.free
 ·obtain⟨v,o,ho,hd⟩:=I.cell x c e;exact free c o (fun z=>(hch c z).2.2.1 x c e rfl) ho (I.freeC x c e)
 ·obtain⟨e,n,ne,nf,d⟩:=I.pin p hp;have nch:p.1∉ch:=fun z=>(hch p.1 z).2.2.2 p hp rfl;exact⟨keep p.1 p.2 ne nf nch e n,free p.1 p.2 nch e n,ne,nf,d⟩
def Inv.un {t':Nat} (I:Inv X pins σ H s) (u:Un X.fs [] H H' s.heap h') (hok:HOk X.prog X.w H' h'):Inv X pins σ H' {s with heap:=h',toks:=t'}:=by
 obtain⟨m,⟨o,es,ep,ho,r⟩,_⟩:=id I.loc;obtain⟨sl,hL⟩:=u.any ho I.free (by simp)
 exact I.step (g':=s.gens) (d':=s.drawn) (ch:=[]) (fun _ z=>nomatch z) (fun b o _ hb _ e n=>u.keep b o e n hb (by simp)) (fun b o _ hb _ e n=>u.slot b o e n hb (by simp)) (fun b o _ e n=>u.free b o e n (by simp)) (fun b o _ e=>u.there b o e (by simp)) u.tups u.frzs u.tbls (fun m' hm=>by
  obtain⟨o',es',ep',ho',r'⟩:=hm;rw[ho]at ho';cases ho';exact⟨_,es',ep',hL,r'⟩) hok I.bare
def Inv.call {g':Array GenState}{t':Nat}{d':Drawn}{ch:List Addr} (I:Inv X pins σ H s) (u:Un (frs X.stack) ch H H' s.heap h') (hok:HOk X.prog X.w H' h') (hg:AllBare g')
  (hch:∀b∈ch,(b∈X.ex\/X.s₀.heap.objs.size<=b)/\b≠X.env.locals/\(∀x c,X.env.cells.lookup x=some c->c≠b)/\∀p∈X.pn++pins,p.1≠b) :
  Inv X pins σ H' {s with heap:=h',gens:=g',drawn:=d',toks:=t'}:=by
 obtain⟨m,⟨o,es,ep,ho,r⟩,_⟩:=id I.loc;obtain⟨sl,hL⟩:=u.any ho I.free fun z=>(hch _ z).2.1 rfl
 exact I.step (ch:=ch) hch (fun b o hL hb hc e n=>u.keep b o e n (fun z=>(Y2.mp (I.stkSub b z)).elim hL hb) hc) (fun b o _ _ hc e n=>u.any e n hc) (fun b o hc e n=>u.free b o e n hc) (fun b o hc e=>u.there b o e hc) u.tups u.frzs u.tbls (fun m' hm=>by
  obtain⟨o',es',ep',ho',r'⟩:=hm;rw[ho]at ho';cases ho';exact⟨_,es',ep',hL,r'⟩) hok hg
def Inv.turned {t':Nat}{it:Addr} (I:Inv X pins σ H s) (k:∀b o,b≠it->s.heap.get? b=some o->h'.get? b=some o) (hn:H it=none) (hL:it≠X.env.locals)
  (h1:it∈X.ex\/X.s₀.heap.objs.size<=it) (h2:∀x c,X.env.cells.lookup x=some c->c≠it) (h3:∀p∈X.pn++pins,p.1≠it):Inv X pins σ H {s with heap:=h',toks:=t'}:=by
 have nit:∀b u,H b=some u->b≠it:=fun b u e z=>by rw[z,hn]at e;cases e
 refine I.step (g':=s.gens) (d':=s.drawn) (ch:=[it]) (fun b hb=>?_) (fun b o _ _ hc e _=>k b o (fun z=>hc (by simp[z])) e) (fun b o _ _ hc e _=>⟨o.slots,k b o (fun z=>hc (by simp[z])) e⟩) (fun _ _ _ _ n=>n)
  (fun b o hc e=>⟨o,k b o (fun z=>hc (by simp[z])) e⟩) (fun _ _ e=>e) (fun _ _ _ e=>e) (fun b ps e=>⟨#[],by rw[e];simp⟩) (fun m hm=>?_) (fun b u e=>?_) I.bare
 ·have e:b=it:=by simpa using hb
  subst e;exact⟨h1,hL,h2,h3⟩
 ·obtain⟨o,es,ep,ho,r⟩:=hm;exact⟨o,es,ep,k _ o (Ne.symm hL) ho,r⟩
 ·refine(I.hok b u e).stay (fun c v hc q=>k c v ?_ q) (fun _ q=>q) fun _ _ q=>q;rcases hc with z|z
  ·rw[z];exact nit b u e
  ·exact nit c _ z
def Inv.tok (I:Inv X pins σ H s) (t:Nat):Inv X pins σ H {s with toks:=t}:=I.un (h':=s.heap) (t':=t) Un.refl I.hok
def Inv.kept {t':Nat} (I:Inv X pins σ H s) (k:∀b u,s.heap.get? b=some u->h'.get? b=some u):Inv X pins σ H {s with heap:=h',toks:=t'}:=I.un (Un.kept k) (I.hok.kept k)
def Inv.laid {a:Addr}{o:HO}{t':Nat} (I:Inv X pins σ H s) (k:∀b u,s.heap.get? b=some u->h'.get? b=some u) (hp:s.heap.objs.size<=a) (new:ObjOk X.prog X.w (upd H a o) h' a o) :
  Inv X pins σ (upd H a o) {s with heap:=h',toks:=t'}:=I.un (Un.laid k hp (I.hok.fresh hp)) (I.hok.laid k hp new)
def Inv.write {x e:Addr}{o:HO}{t':Nat} (I:Inv X pins σ H s) (mu:Mut (H x)) (he:e=x\/H e=some (.own x)) (k:∀b u,b≠e->s.heap.get? b=some u->h'.get? b=some u) (heo:∃u,h'.get? e=some u)
  (new:ObjOk X.prog X.w (upd H x o) h' x o):Inv X pins σ (upd H x o) {s with heap:=h',toks:=t'}:=I.un (Un.write mu he k heo) (I.hok.write mu he k heo new)
def Inv.weak {σ':List (Option V)} (I:Inv X pins σ H s) (hl:σ'.length=σ.length) (w:∀(i:Nat) v,σ'[i]?=some (some v)->σ[i]?=some (some v)):Inv X pins σ' H s:=
 ⟨I.ok,I.os,I.bare,I.base,let ⟨m,hn,hl'⟩:=I.loc;⟨m,hn,fun i x v e1 e2 e3=>hl' i x v e1 (w i v e2) e3⟩,I.cell,I.free,I.freeC,I.pin,I.hok,hl.trans I.len⟩
def Inv.pins_of {pins':List (Addr×Obj)} (I:Inv X pins σ H s) (h:∀p∈pins',s.heap.get? p.1=some p.2/\H p.1=none/\p.1≠X.env.locals/\p.1∉X.fs/\∀v,p.2.data≠.cell v):Inv X pins' σ H s:=
 ⟨I.ok,I.os,I.bare,I.base,I.loc,I.cell,I.free,I.freeC,fun p hp=>(YG.mp hp).elim (fun z=>I.pin p (Qa _ z)) (h p),I.hok,I.len⟩
def EG{N:List Str}(hN:N.Nodup){i j:Nat}{x:Str}(a:N[i]?=some x)(b:N[j]?=some x):i=j:=by
 obtain⟨h1,e1⟩:=YD.mp a;obtain⟨h2,e2⟩:=YD.mp b;exact(List.getElem_inj hN).mp (e1.trans e2.symm)
def Ze7{M:Model}{A:Around}{E:Value->Shared->Prop}{i:Nat}{x:Str}{v:V}{u:Value}{Q:Unit->Shared->Prop}(I:Inv X pins σ H s)(hN:X.N.Nodup)(hi:X.N[i]?=some x)(hx:Loc X.env.scope x)(r:RelV v u)(h:∀s',Inv X pins (σ.set i (some v)) H s'->(∃a,Heap.SameBut a s.heap s'.heap/\(a=X.env.locals\/X.env.cells.lookup x=some a))->Q () s')(hf:X.fn x=true\/X.env.scope.names.lookup x=some .local:=by first|exact .inl rfl|exact .inr rfl|assumption):wpAny M A (storeName X.env x u) Q E s:=by
 obtain⟨m,hn,hl⟩:=id I.loc;have hcls:(X.env.scope.kind == .class || (X.env.scope.kind == .module&&X.env.locals != X.env.globals))=false:=by rw[I.ok.kind];rfl
 have hiσ:i<σ.length:=by rw[I.len];exact(YD.mp hi).1
 have cne:=I.cne
 have tracked:∀{a:Addr} {h':Heap},(∃o,s.heap.get? a=some o/\H a=none)->Heap.SameBut a s.heap h'->HOk X.prog X.w H h':=fun {a h'} ha hs b ob e=>by
  obtain⟨_,_,hfree⟩:=ha;refine(I.hok b ob e).stay (fun c w' hc q=>(hs.2 c ?_).trans q) (fun _ q=>q) fun _ _ q=>q;rintro rfl;rcases hc with rfl|hc
  ·rw[hfree]at e;cases e
  ·rw[hfree]at hc;cases hc
 rcases hx with hk|hk
 ·refine wpAny_storeName_local hk hn (fun h' hn' hs=>?_) hcls;obtain⟨oL,_,_,hoL,_⟩:=id hn;refine h _ ⟨I.ok,I.os,I.bare,⟨fun b o e n hb hx=>?_,fun b o e n hb hx=>?_,I.base.free,fun b o e hx=>?_,I.base.tups,I.base.frzs,I.base.tbls⟩,⟨_,hn',fun j y v' e1 e2 e3=>?_⟩,fun y c e=>?_,I.free,I.freeC,fun p hp=>?_,tracked ⟨oL,hoL,I.free⟩ hs,by simpa using I.len⟩ ⟨_,hs,.inl rfl⟩
  ·exact(hs.2 b (YM (YW (Y1 e) I.ok.above))).trans (I.base.keep b o e n hb hx)
  ·obtain⟨sl,e1⟩:=I.base.slot b o e n hb hx;exact⟨sl,(hs.2 b (YM (YW (Y1 e) I.ok.above))).trans e1⟩
  ·obtain⟨o',e1⟩:=I.base.there b o e hx;exact⟨o',(hs.2 b (YM (YW (Y1 e) I.ok.above))).trans e1⟩
  ·by_cases hj:j=i
   ·subst hj;rw[hi]at e1;cases e1;rw[Qt hiσ]at e2;cases e2
    exact⟨u,r,.inl ⟨hk,by simp⟩⟩
   ·rw[Q5 (Ne.symm hj)]at e2;obtain⟨u',r',q⟩:=hl j y v' e1 e2 e3;refine⟨u',r',?_⟩;rcases q with⟨k,e⟩|⟨k,c,e,z⟩
    ·refine .inl ⟨k,?_⟩
     have:y≠x:=fun e=>hj (EG hN e1 (e▸hi))
     simp[this,e]
    ·exact .inr ⟨k,c,e,z.sameBut hs (cne y c e)⟩
  ·obtain⟨w',z⟩:=I.cell y c e;exact⟨w',z.sameBut hs (cne y c e)⟩
  ·obtain⟨e,n,ne,nf,d⟩:=I.pin p hp;exact⟨(hs.2 p.1 ne).trans e,n,ne,nf,d⟩
 ·have hfn:X.fn x=true:=by
   rcases hf with z|z
   ·exact z
   ·rw[z]at hk;cases hk
  obtain⟨c,hc⟩:=I.ok.has x (.inl hk);obtain⟨w',z⟩:=I.cell x c hc;refine wpAny_storeName_cell I.ok.kind hk hc z (fun h' hc' hs=>?_);obtain⟨oc,hoc,hocd⟩:=id z;refine h {s with heap:=h'} ⟨I.ok,I.os,I.bare,⟨fun b o e n hb hx=>?_,fun b o e n hb hx=>?_,I.base.free,fun b o e hx=>?_,I.base.tups,I.base.frzs,I.base.tbls⟩,⟨m,hn.sameBut hs (Ne.symm (cne x c hc)),fun j y v' e1 e2 e3=>?_⟩,fun y c' e=>?_,I.free,I.freeC,fun p hp=>?_,tracked ⟨oc,hoc,I.freeC x c hc⟩ hs,by simpa using I.len⟩ ⟨c,hs,.inr hc⟩
  ·exact(hs.2 b (YM (YW (Y1 e) (I.ok.cab x c hfn hc)))).trans (I.base.keep b o e n hb hx)
  ·obtain⟨sl,e1⟩:=I.base.slot b o e n hb hx;exact⟨sl,(hs.2 b (YM (YW (Y1 e) (I.ok.cab x c hfn hc)))).trans e1⟩
  ·obtain⟨o',e1⟩:=I.base.there b o e hx;exact⟨o',(hs.2 b (YM (YW (Y1 e) (I.ok.cab x c hfn hc)))).trans e1⟩
  ·by_cases hj:j=i
   ·subst hj;rw[hi]at e1;cases e1;rw[Qt hiσ]at e2;cases e2
    exact⟨u,r,.inr ⟨.inl hk,c,hc,hc'⟩⟩
   ·rw[Q5 (Ne.symm hj)]at e2;obtain⟨u',r',q⟩:=hl j y v' e1 e2 e3;refine⟨u',r',?_⟩;rcases q with q|⟨k,c',e,z'⟩
    ·exact .inl q
    ·refine .inr ⟨k,c',e,z'.sameBut hs ?_⟩;rintro rfl;exact hj (EG hN e1 (I.ok.inj _ _ _ e hc▸hi))
  ·by_cases hcc:c'=c
   ·subst hcc;exact⟨_,hc'⟩
   ·obtain⟨w2,z2⟩:=I.cell y c' e;exact⟨w2,z2.sameBut hs hcc⟩
  ·obtain⟨e,n,ne,nf,d⟩:=I.pin p hp;refine⟨(hs.2 p.1 ?_).trans e,n,ne,nf,d⟩;intro q;rw[q,hoc]at e;have q':oc=p.2:=Yz e;exact d w' (by rw[←q'];exact hocd)
def Sb{M:Model}{A:Around}{E:Value->Shared->Prop}{i:Nat}{x:Str}{v:V}{u:Value}{Q:Unit->Shared->Prop}(I:Inv X pins σ H s)(hN:X.N.Nodup)(hi:X.N[i]?=some x)(hx:Loc X.env.scope x)(r:RelV v u)(h:∀s',Inv X pins (σ.set i (some v)) H s'->Q () s')(hf:X.fn x=true\/X.env.scope.names.lookup x=some .local:=by first|exact .inl rfl|exact .inr rfl|assumption):wpAny M A (storeName X.env x u) Q E s:=
 Ze7 I hN hi hx r (fun s' I' _=>h s' I') hf
def Inv.call' {s':Shared}{ch:List Addr} (I:Inv X pins σ H s) (ho:s'.os=s.os) (u:Un (frs X.stack) ch H H' s.heap s'.heap) (hok:HOk X.prog X.w H' s'.heap) (hg:AllBare s'.gens)
  (hch:∀b∈ch,(b∈X.ex\/X.s₀.heap.objs.size<=b)/\b≠X.env.locals/\(∀x c,X.env.cells.lookup x=some c->c≠b)/\∀p∈X.pn++pins,p.1≠b):Inv X pins σ H' s':=by
 obtain⟨h',g',d',t',o'⟩:=s';have e:o'=s.os:=ho;subst e;exact I.call (g':=g') (t':=t') (d':=d') u hok hg hch
end
abbrev XK:=Value->Option Addr->Hp->Prop
abbrev St:=List (Option V)
abbrev VK:=V->Hp->Prop
abbrev TE:=St->Hp->VK->Prop
abbrev TT:=St->Hp->(Bool->Hp->Prop)->Prop
abbrev TA:=St->Hp->(List V->Hp->Prop)->Prop
structure Ends where
 nx:St->Hp->Prop
 rt:VK
 bk:St->Hp->Prop:=fun _ _=>False
 ct:St->Hp->Prop:=fun _ _=>False
abbrev TS:=Ends->St->Hp->Prop
def EP(X:Cx)(pins:List (Addr×Obj))(σ:St)(Q:VK)(u:Value)(s':Shared):Prop:=∃v H',Inv X pins σ H' s'/\RelV v u/\Q v H'
def TP(X:Cx)(pins:List (Addr×Obj))(σ:St)(Q:Bool->Hp->Prop)(b:Bool)(s':Shared):Prop:=∃H',Inv X pins σ H' s'/\Q b H'
def AP(X:Cx)(pins:List (Addr×Obj))(σ:St)(Q:List V->Hp->Prop)(us:List Value)(s':Shared):Prop:=∃vs H',Inv X pins σ H' s'/\Vals vs us/\Q vs H'
def SP(X:Cx)(pins:List (Addr×Obj))(D:Ends)(f:Flow)(s':Shared):Prop:=
 match f with
 | .next=>∃σ' H',Inv X pins σ' H' s'/\D.nx σ' H'
 | .brk=>∃σ' H',Inv X pins σ' H' s'/\D.bk σ' H'
 | .cont=>∃σ' H',Inv X pins σ' H' s'/\D.ct σ' H'
 | .ret u=>∃v σ' H',Inv X pins σ' H' s'/\RelV v u/\D.rt v H'
def PE(X:Cx)(e:Expr)(t:TE):Prop:=
 ∀(pins:List (Addr×Obj)) (s:Shared) (σ:St) (H:Hp) (Q:VK),Inv X pins σ H s->t σ H Q->wpAny (model X.prog X.w) X.A (eval e X.env) (EP X pins σ Q) X.xe s
def PT(X:Cx)(e:Expr)(t:TT):Prop:=
 ∀(pins:List (Addr×Obj)) (s:Shared) (σ:St) (H:Hp) (Q:Bool->Hp->Prop),Inv X pins σ H s->t σ H Q->wpAny (model X.prog X.w) X.A (isTrue e X.env (eval e X.env)) (TP X pins σ Q) X.xe s
def PW(X:Cx)(e:Expr)(t:TT):Prop:=
 ∀(whole:Sem Value) (pins:List (Addr×Obj)) (s:Shared) (σ:St) (H:Hp) (Q:Bool->Hp->Prop),Inv X pins σ H s->t σ H Q->wpAny (model X.prog X.w) X.A (isTrue e X.env whole) (TP X pins σ Q) X.xe s
def PW.pt {X:Cx}{e:Expr}{t:TT} (h:PW X e t):PT X e t:=h _
def PA(X:Cx)(es:List Expr)(t:TA):Prop:=
 ∀(pos:Pos) (pins:List (Addr×Obj)) (s:Shared) (σ:St) (H:Hp) (Q:List V->Hp->Prop),Inv X pins σ H s->t σ H Q->wpAny (model X.prog X.w) X.A (spliced (backTo pos (starEach es X.env))) (AP X pins σ Q) X.xe s
def PS(X:Cx)(st:Stmt)(t:TS):Prop:=
 ∀(pins:List (Addr×Obj)) (s:Shared) (σ:St) (H:Hp) (D:Ends),Inv X pins σ H s->t D σ H->wpAny (model X.prog X.w) X.A (exec st X.env) (SP X pins D) X.xe s
def PSs(X:Cx)(st:List Stmt)(t:TS):Prop:=
 ∀(pins:List (Addr×Obj)) (s:Shared) (σ:St) (H:Hp) (D:Ends),Inv X pins σ H s->t D σ H->wpAny (model X.prog X.w) X.A (execs st X.env) (SP X pins D) X.xe s
def thn{α:Type}{t:Sem α}{Q Q':α->Shared->Prop}{M:Model}{A:Around}{E:Value->Shared->Prop}{s:Shared}(h:wpAny M A t Q E s)(hQ:∀a s,Q a s->Q' a s):wpAny M A t Q' E s:=Wn h hQ fun _ _ x=>x
section
variable {X:Cx}
def bin{a b:Expr}{ta tb:TE}(ha:PE X a ta)(hb:PE X b tb){pins:List (Addr×Obj)}{s:Shared}{σ:St}{H:Hp}{R:V->V->Hp->Prop}(I:Inv X pins σ H s)(h:ta σ H fun x H1=>tb σ H1 fun y H2=>R x y H2){α:Type}{Q:α->Shared->Prop}{f:Value->Value->Sem α}(hf:∀v u s2 x y H2,Inv X pins σ H2 s2->RelV x v->RelV y u->R x y H2->wpAny (model X.prog X.w) X.A (f v u) Q X.xe s2) :
  wpAny (model X.prog X.w) X.A (eval a X.env) (fun v s₁=>wpAny (model X.prog X.w) X.A (eval b X.env) (fun u s₂=>wpAny (model X.prog X.w) X.A (f v u) Q X.xe s₂) X.xe s₁) X.xe s:=by
 refine thn (ha pins s σ H _ I h) fun v s1 ⟨x,H1,I1,r1,q1⟩=>?_;refine thn (hb pins s1 σ H1 _ I1 q1) fun u s2 ⟨y,H2,I2,r2,q2⟩=>?_;exact hf v u s2 x y H2 I2 r1 r2 q2
def tVar(i:Nat):TE:=fun σ H Q=>∃v,σ[i]?=some (some v)/\Q v H
def tC(v:V):TE:=fun _ H Q=>Q v H
def Zc5{i:Nat}{x:Str}{pos:Pos}(hN:X.N[i]?=some x)(hv:Vis X.env.scope x)(hd:(x==("__debug__" : Str))=false:=by decide)(hcd:(x==("__classdict__" : Str))=false:=by decide):PE X (.Name x pos) (tVar i):=by
 intro pins s σ H Q I h;obtain⟨v,e,h⟩:=h;obtain⟨m,hn,hl⟩:=I.loc;obtain⟨u,r,l⟩:=hl i x v hN e hv;have fin:EP X pins σ Q u s:=⟨v,H,I,r,h⟩;rcases l with⟨hk,hm⟩|⟨hk,c,hc,hcell⟩
 ·exact wpAny_Name (wpAny_loadName_local I.ok.kind hk hn hm fin) hd
 ·rcases hk with hk|hk
  ·exact wpAny_Name (wpAny_loadName_cell I.ok.kind hk hc hcell fin) hd
  ·exact wpAny_Name (wpAny_loadName_free I.ok.kind hk hc hcell fin hcd) hd
def JI{i j pos}:PE X (.Constant (.int i) j pos) (tC (.int i)):=fun _ _ _ H _ I h=>wpAny_Constant_int ⟨.int i,H,I.tok _,⟨_,rfl⟩,h⟩
def UE{b j pos}:PE X (.Constant (.bool b) j pos) (tC (.bl b)):=fun _ _ _ H _ I h=>Constant_bool ⟨.bl b,H,I,rfl,h⟩
def U0{x j pos}:PE X (.Constant (.str x) j pos) (tC (.str x)):=fun _ _ _ H _ I h=>Calls.Constant_str ⟨.str x,H,I.tok _,⟨_,rfl⟩,h⟩
def Gl(X:Cx)(x:Str):Prop:=X.env.kindOf x=some .globalImplicit
def NN{E:Value->Shared->Prop}{pins:List (Addr×Obj)}{s:Shared}{σ:St}{H:Hp}{x:Str}{u:Value}{pos:Pos}{Q:Value->Shared->Prop}(I:Inv X pins σ H s)(hg:Gl X x)(hm:X.mg x=some u)(h:Q u s)(hd:(x==("__debug__" : Str))=false:=by decide):wpAny (model X.prog X.w) X.A (eval (.Name x pos) X.env) Q E s:=
 Calls.Name_function_global I.ok.kind hg (Calls.loadGlobal_global (by rw[I.ok.glob];exact I.mod.glob.keeps I.bk) hm h) hd
def TZ{E:Value->Shared->Prop}{pins:List (Addr×Obj)}{s:Shared}{σ:St}{H:Hp}{x:Str}{u:Value}{pos:Pos}{Q:Value->Shared->Prop}(I:Inv X pins σ H s)(hg:Gl X x)(hm:X.mg x=none)(hv:bootBuiltins x=some u)(h:Q u s)(hn:x≠"__name__":=by decide)(hd:(x==("__debug__" : Str))=false:=by decide):wpAny (model X.prog X.w) X.A (eval (.Name x pos) X.env) Q E s:=by
 obtain⟨mb,h1,h2⟩:=I.mod.blt;exact Calls.Name_function_global I.ok.kind hg (Calls.loadGlobal_builtin (by rw[I.ok.glob];exact I.mod.glob.keeps I.bk) hm (by rw[I.ok.blt];exact h1.keeps I.bk) ((h2 x hn).trans hv) h) hd
def Zeb{x:Str}{v:V}{u:Value}{pos:Pos}(hg:Gl X x)(hm:X.mg x=some u)(r:RelV v u)(hd:(x==("__debug__" : Str))=false:=by decide):PE X (.Name x pos) (tC v):=
 fun _ _ _ H _ I h=>NN I hg hm ⟨v,H,I,r,h⟩ hd
def TL{x:Str}{v:V}{u:Value}{pos:Pos}(hg:Gl X x)(hm:X.mg x=none)(hv:bootBuiltins x=some u)(r:RelV v u)(hn:x≠"__name__":=by decide)(hd:(x==("__debug__" : Str))=false:=by decide):PE X (.Name x pos) (tC v):=
 fun _ _ _ H _ I h=>TZ I hg hm hv ⟨v,H,I,r,h⟩ hn hd
variable {a b:Expr}{ta tb:TE}{pos:Pos}
def PC(X:Cx)(op:CmpOp)(a b:Expr)(t:TE):Prop:=
 ∀(pins:List (Addr×Obj)) (s:Shared) (σ:St) (H:Hp) (Q:VK),Inv X pins σ H s->t σ H Q->
  wpAny (model X.prog X.w) X.A (eval a X.env) (fun v s₁=>wpAny (model X.prog X.w) X.A (eval b X.env) (fun u s₂=>wpAny (model X.prog X.w) X.A (compareOp op v u) (EP X pins σ Q) X.xe s₂) X.xe s₁) X.xe s
def RD(b:Expr){op:CmpOp}(h:op≠.In)(h2:op≠.NotIn):behindInMarks op b=false:=by
 have e1:(op==CmpOp.In)=false:=by cases op<;>first|rfl|exact absurd rfl h
 have e2:(op==CmpOp.NotIn)=false:=by cases op<;>first|rfl|exact absurd rfl h2
 cases b<;>simp[behindInMarks,e1,e2]
def tB(t:TE):TT:=fun σ H Q=>t σ H fun x H1=>∃c,x=.bl c/\Q c H1
def Zcq{op:CmpOp}{t:TE}(h:PC X op a b t)(h1:behindInMarks op b=false:=by first|exact RD _ (by decide) (by decide)|rfl):PT X (.Compare a [op] [b] pos) (tB t):=by
 intro pins s σ H Q I hw;refine wpAny_isTrue_Compare1 (thn (h pins s σ H _ I hw) fun v s1 h1=>thn h1 fun u s2 h2=>thn h2 fun c s3 ⟨x,H1,I1,r1,q1⟩=>?_) h1;obtain⟨d,rfl,q⟩:=q1;cases r1
 exact WV ⟨H1,I1,q⟩
variable {tA tB':TT}{rest:List Expr}
def tAnd(t u:TT):TT:=fun σ H Q=>t σ H fun c H1=>if c=true then u σ H1 Q else Q false H1
def tOr(t u:TT):TT:=fun σ H Q=>t σ H fun c H1=>if c=true then Q true H1 else u σ H1 Q
def tNot(t:TT):TT:=fun σ H Q=>t σ H fun c H1=>Q (!c) H1
def PJ(ha:PT X a tA):PW X (.BoolOp .And [a] pos) tA:=by
 intro wh pins s σ H Q I h;refine isTrue_and (thn (ha pins s σ H Q I h) fun c s1 e=>?_);cases c with
 |true=>exact isTrue_and_nil e
 |false=>exact e
def Xu(ha:PT X a tA):PW X (.BoolOp .Or [a] pos) tA:=by
 intro wh pins s σ H Q I h;refine isTrue_or (thn (ha pins s σ H Q I h) fun c s1 e=>?_);cases c with
 |false=>exact isTrue_or_nil e
 |true=>exact e
def Pn(ha:PT X a tA)(hb:PW X (.BoolOp .And (b::rest) pos) tB'):PW X (.BoolOp .And (a::b::rest) pos) (tAnd tA tB'):=by
 intro wh pins s σ H Q I h;refine isTrue_and (thn (ha pins s σ H _ I h) fun c s1 ⟨H1,I1,q1⟩=>?_);cases c with
 |true=>exact hb wh pins s1 σ H1 Q I1 q1
 |false=>exact⟨H1,I1,q1⟩
def Xl(ha:PT X a tA)(hb:PW X (.BoolOp .Or (b::rest) pos) tB'):PW X (.BoolOp .Or (a::b::rest) pos) (tOr tA tB'):=by
 intro wh pins s σ H Q I h;refine isTrue_or (thn (ha pins s σ H _ I h) fun c s1 ⟨H1,I1,q1⟩=>?_);cases c with
 |true=>exact⟨H1,I1,q1⟩
 |false=>exact hb wh pins s1 σ H1 Q I1 q1
def Xi(ha:PT X a tA):PT X (.UnaryOp .Not a pos) (tNot tA):=by
 intro pins s σ H Q I h;exact isTrue_not (ha pins s σ H (fun c H1=>Q (!c) H1) I h)
def CY(ta tb:TE):TE:=fun σ H Q=>ta σ H fun x H1=>∃c,x=.bl c/\if c=true then tb σ H1 Q else Q (.bl false) H1
def Dx(ta:TE):TE:=fun σ H Q=>ta σ H fun x H1=>∃c,x=.bl c/\Q (.bl (!c)) H1
def NX{op}{t:TE}(h:PE X a t):PE X (.BoolOp op [a] pos) t:=fun pins s σ H Q I hw=>BoolOp_one (h pins s σ H Q I hw)
def ND(ha:PE X a ta)(hb:PE X (.BoolOp .And (b::rest) pos) tb):PE X (.BoolOp .And (a::b::rest) pos) (CY ta tb):=by
 intro pins s σ H Q I h;refine BoolOp_and (thn (ha pins s σ H _ I h) fun v s1 ⟨x,H1,I1,r1,q1⟩=>?_);obtain⟨c,rfl,q1⟩:=q1;cases r1
 refine WV ?_;cases c with
 |true=>exact hb pins s1 σ H1 Q I1 q1
 |false=>exact⟨.bl false,H1,I1,rfl,q1⟩
def Fg(ha:PE X a ta):PE X (.UnaryOp .Not a pos) (Dx ta):=by
 intro pins s σ H Q I h;refine UnaryOp_ (thn (ha pins s σ H _ I h) fun v s1 ⟨x,H1,I1,r1,q1⟩=>?_);obtain⟨c,rfl,q1⟩:=q1;cases r1
 exact not_of (WV ⟨.bl (!c),H1,I1,rfl,q1⟩)
end
def SqL(K:Za)(H:Hp)(a:Addr)(xs:List V):Prop:=
 Rd H a (.lst xs)\/
  ∃(o:Obj) (its:Array Value) (n:Nat),K.lookup a=some o/\o.cls=.type "list"/\o.dict=none/\o.data=.seq its n/\its.size<=sizeLine/\Vals xs its.toList
def SqT(K:Za)(H:Hp)(a:Addr)(xs:List V):Prop:=
 Rd H a (.tup xs)\/
  ∃(o:Obj) (its:Array Value) (n:Nat),K.lookup a=some o/\o.cls=.type "tuple"/\o.data=.seq its n/\its.size<=sizeLine/\Vals xs its.toList
def absV:Value->Option V
 | .none=>some .non
 | .bool b=>some (.bl b)
 | .int i _=>some (.int i)
 | .str x _=>some (.str x)
 | .bytes b _=>some (.byt b)
 | .float b _=>some (.flt b)
 | .ref a=>some (.ref a)
 | .type n=>some (.ty n)
 |_=>none
def RelV.abs {x:V}{u:Value} (r:RelV x u):absV u=some x:=by
 cases x with
 |non=>cases r;rfl
 |bl _=>cases r;rfl
 |int _=>obtain⟨t,rfl⟩:=r;rfl
 |str _=>obtain⟨t,rfl⟩:=r;rfl
 |byt _=>obtain⟨t,rfl⟩:=r;rfl
 |flt _=>obtain⟨t,rfl⟩:=r;rfl
 |ref _=>cases r;rfl
 |ty _=>cases r;rfl
def RelV.inj {x y:V}{u:Value} (r:RelV x u) (q:RelV y u):x=y:=Yz (r.abs.symm.trans q.abs)
def Vals.inj:∀{xs ys:List V}{us:List Value},Vals xs us->Vals ys us->xs=ys
 |_,_,_,.nil,.nil=>rfl
 |_,_,_,.cons r t,.cons r' t'=>by rw[r.inj r',Vals.inj t t']
section
variable {X:Cx}{pins:List (Addr×Obj)}{σ:St}{H:Hp}{s:Shared}{a:Addr}{xs ys:List V}
def SqL.of {K:Za} (h:H a=some (.lst xs)):SqL K H a xs:=.inl (.inl h)
def SqT.of {K:Za} (h:H a=some (.tup xs)):SqT K H a xs:=.inl (.inl h)
def Inv.list (I:Inv X pins σ H s) (h:SqL X.K H a xs):∃its:List Value,Vals xs its/\PlainL s.heap a its.toArray/\xs.length<=sizeLine:=by
 rcases h with h|⟨o,its,n,hk,hc,hd,hs,hz,r⟩
 ·obtain⟨z,its,n,r,e⟩:=h.ok I.hok;exact⟨its,r,⟨_,n,e,rfl,rfl,rfl⟩,z⟩
 ·refine⟨its.toList,r,⟨o,n,I.kIn a o hk,hc,hd,by simpa using hs⟩,?_⟩;have e:=r.length;simp only[Wa]at e;omega
def Inv.tuple (I:Inv X pins σ H s) (h:SqT X.K H a xs):∃its:List Value,Vals xs its/\IsTup s.heap a its.toArray/\xs.length<=sizeLine:=by
 rcases h with h|⟨o,its,n,hk,hc,hs,hz,r⟩
 ·obtain⟨z,its,r,p⟩:=h.ok I.hok;exact⟨its,r,p,z⟩
 ·refine⟨its.toList,r,⟨o,I.kIn a o hk,hc,n,by simpa using hs⟩,?_⟩;have e:=r.length;simp only[Wa]at e;omega
def Inv.list_inj (I:Inv X pins σ H s) (h:SqL X.K H a xs) (h':SqL X.K H a ys):xs=ys:=by
 obtain⟨its,r,⟨o,n,e,_,_,d⟩,_⟩:=I.list h;obtain⟨its',r',⟨o',n',e',_,_,d'⟩,_⟩:=I.list h';rw[e]at e';cases e';rw[d]at d';injection d' with d1 _
 have:its=its':=by simpa using YQ Array.toList d1
 subst this;exact r.inj r'
def Inv.tuple_inj (I:Inv X pins σ H s) (h:SqT X.K H a xs) (h':SqT X.K H a ys):xs=ys:=by
 obtain⟨its,r,⟨o,e,_,n,d⟩,_⟩:=I.tuple h;obtain⟨its',r',⟨o',e',_,n',d'⟩,_⟩:=I.tuple h';rw[e]at e';cases e';rw[d]at d';injection d' with d1 _
 have:its=its':=by simpa using YQ Array.toList d1
 subst this;exact r.inj r'
end
abbrev Cx.wish (X:Cx) (E:Value->Shared->Prop):Cx:={X with xe:=E}
abbrev Cx.nox (X:Cx):Cx:=X.wish fun _ _=>False
def Cx.Ok.wish {X:Cx} (ok:X.Ok) (E:Value->Shared->Prop):(X.wish E).Ok:=
 ⟨ok.mod,ok.kind,ok.glob,ok.blt,ok.above,ok.inj,ok.has,ok.cab,ok.hd,ok.frames,ok.stk,ok.exf,ok.bs,ok.bsz,ok.noex,ok.exfs,ok.funs,ok.frf⟩
def Cx.Ok.unwish {X:Cx}{E:Value->Shared->Prop} (ok:(X.wish E).Ok):X.Ok:=
 ⟨ok.mod,ok.kind,ok.glob,ok.blt,ok.above,ok.inj,ok.has,ok.cab,ok.hd,ok.frames,ok.stk,ok.exf,ok.bs,ok.bsz,ok.noex,ok.exfs,ok.funs,ok.frf⟩
section
variable {X:Cx}{pins:List (Addr×Obj)}{σ:St}{H:Hp}{s:Shared}{E:Value->Shared->Prop}
def Inv.wish (I:Inv X pins σ H s) (E:Value->Shared->Prop):Inv (X.wish E) pins σ H s:=⟨I.ok.wish E,I.os,I.bare,I.base,I.loc,I.cell,I.free,I.freeC,I.pin,I.hok,I.len⟩
def Inv.unwish (I:Inv (X.wish E) pins σ H s):Inv X pins σ H s:=⟨I.ok.unwish,I.os,I.bare,I.base,I.loc,I.cell,I.free,I.freeC,I.pin,I.hok,I.len⟩
def SP.unwish {D:Ends}{f:Flow}{s':Shared} (h:SP (X.wish E) pins D f s'):SP X pins D f s':=by
 cases f with
 |next=>obtain⟨σ',H',I,q⟩:=h;exact⟨σ',H',I.unwish,q⟩
 |brk=>obtain⟨σ',H',I,q⟩:=h;exact⟨σ',H',I.unwish,q⟩
 |cont=>obtain⟨σ',H',I,q⟩:=h;exact⟨σ',H',I.unwish,q⟩
 |ret u=>obtain⟨v,σ',H',I,r,q⟩:=h;exact⟨v,σ',H',I.unwish,r,q⟩
def PSs.nox {st:List Stmt}{t:TS} (h:PSs X.nox st t):PSs X st t:=fun pins s σ H D I hw=>
 Wn (h pins s σ H D (I.wish _) hw) (fun _ _ q=>q.unwish) fun _ _ z=>False.elim z
end
section
variable {X:Cx}{st:Stmt}{rest:List Stmt}{t u:TS}{e:Expr}{te:TE}{pos:Pos}
def Ce:TS:=fun D σ H=>D.nx σ H
def tSeq(t u:TS):TS:=fun D σ H=>t {D with nx:=u D} σ H
def JW:PSs X [] Ce:=fun _ _ σ H _ I h=>Vm ⟨σ,H,I,h⟩
def JJ(h1:PS X st t)(h2:PSs X rest u):PSs X (st::rest) (tSeq t u):=by
 intro pins s σ H D I h;refine wpAny_execs_cons (thn (h1 pins s σ H {D with nx:=u D} I h) fun f s1 q=>?_)
 cases f with
 |next=>
  obtain⟨σ',H',I',q⟩:=q;exact h2 pins s1 σ' H' D I' q
 |ret v=>exact q
 |brk=>exact q
 |cont=>exact q
def JL(h1:PS X st t):PSs X [st] t:=by
 intro pins s σ H D I h;refine wpAny_execs_cons (thn (h1 pins s σ H D I h) fun f s1 q=>?_);cases f with
 |next=>exact Vm q
 |ret v=>exact q
 |brk=>exact q
 |cont=>exact q
def Inv.quiet {pins:List (Addr×Obj)}{σ:St}{H:Hp}{s:Shared} (I:Inv X pins σ H s):interactive X.env=false:=by simp[interactive,I.ok.kind]
def S8(te:TE):TS:=fun D σ H=>te σ H fun _ H1=>D.nx σ H1
def U9(he:PE X e te)(hs:swapsWith e none pos.line X.env=pure false:=by rfl):PS X (.Expr e pos) (S8 te):=by
 intro pins s σ H D I h;exact wpAny_Expr_any (thn (he pins s σ H _ I h) fun v s1 ⟨x,H1,I1,r1,q1⟩=>⟨σ,H1,I1,q1⟩) I.quiet hs
def tRet(te:TE):TS:=fun D σ H=>te σ H D.rt
def JQ(he:PE X e te):PS X (.Return (some e) pos) (tRet te):=by
 intro pins s σ H D I h;exact wpAny_Return_some (thn (he pins s σ H _ I h) fun v s1 ⟨x,H1,I1,r1,q1⟩=>⟨x,σ,H1,I1,r1,q1⟩)
def tIfS(c:TT)(t u:TS):TS:=fun D σ H=>c σ H fun b H1=>if b=true then t D σ H1 else u D σ H1
def JV{c:Expr}{a b:List Stmt}{tc:TT}(hc:PT X c tc)(ha:PSs X a t)(hb:PSs X b u):PS X (.If c a b pos) (tIfS tc t u):=by
 intro pins s σ H D I h;refine wpAny_If (thn (hc pins s σ H _ I h) fun d s1 ⟨H1,I1,q1⟩=>?_);cases d with
 |true=>exact ha pins s1 σ H1 D I1 q1
 |false=>exact hb pins s1 σ H1 D I1 q1
def Ds:TS:=fun _ _ _=>False
def LZ:PS X st Ds:=fun _ _ _ _ _ _ h=>h.elim
end
abbrev TG:=V->St->Hp->(St->Hp->Prop)->Prop
abbrev TGs:=List V->St->Hp->(St->Hp->Prop)->Prop
def PG(X:Cx)(target:Expr)(t:TG):Prop:=
 ∀(pins:List (Addr×Obj)) (s:Shared) (σ:St) (H:Hp) (v:V) (u:Value) (Q:St->Hp->Prop),Inv X pins σ H s->RelV v u->t v σ H Q->
  wpAny (model X.prog X.w) X.A (assign target X.env u) (fun _ s'=>∃σ' H',Inv X pins σ' H' s'/\Q σ' H') X.xe s
def PGs(X:Cx)(ts:List Expr)(t:TGs):Prop:=
 ∀(pins:List (Addr×Obj)) (s:Shared) (σ:St) (H:Hp) (vs:List V) (us:List Value) (Q:St->Hp->Prop),Inv X pins σ H s->Vals vs us->t vs σ H Q->
  wpAny (model X.prog X.w) X.A (assignInOrder ((assignEach ts X.env).map (·.2)) us) (fun _ s'=>∃σ' H',Inv X pins σ' H' s'/\Q σ' H') X.xe s
abbrev TSet:=V->V->V->Hp->(Hp->Prop)->Prop
def PSet(X:Cx)(t:TSet):Prop:=
 ∀(pins:List (Addr×Obj)) (s:Shared) (σ:St) (H:Hp) (o i v:V) (ov iv u:Value) (Q:Hp->Prop),Inv X pins σ H s->RelV o ov->RelV i iv->RelV v u->t o i v H Q->
  wpAny (model X.prog X.w) X.A (setItem ov iv u) (fun _ s'=>∃H',Inv X pins σ H' s'/\Q H') X.xe s
abbrev TIp:=V->V->Hp->VK->Prop
def PIp(X:Cx)(op:Operator)(t:TIp):Prop:=
 ∀(pins:List (Addr×Obj)) (s:Shared) (σ:St) (H:Hp) (x y:V) (v u:Value) (Q:VK),Inv X pins σ H s->RelV x v->RelV y u->t x y H Q->
  wpAny (model X.prog X.w) X.A (inplaceOp op v u) (EP X pins σ Q) X.xe s
section
variable {X:Cx}{pos:Pos}
def P8(i:Nat):TG:=fun v σ H Q=>Q (σ.set i (some v)) H
def Bv{i:Nat}{x:Str}(hN:X.N.Nodup)(hi:X.N[i]?=some x)(hx:Loc X.env.scope x)(hf:X.fn x=true\/X.env.scope.names.lookup x=some .local:=by first|exact .inl rfl|exact .inr rfl|assumption):PG X (.Name x pos) (P8 i):=by
 intro pins s σ H v u Q I r h;exact wpAny_assign_Name (Sb I hN hi hx r (fun s' I'=>⟨_,H,I',h⟩) hf)
def gNil:TGs:=fun vs σ H Q=>vs=[]/\Q σ H
def Df(t:TG)(u:TGs):TGs:=fun vs σ H Q=>∃v r,vs=v::r/\t v σ H fun σ' H'=>u r σ' H' Q
def PP:PGs X [] gNil:=by
 intro pins s σ H vs us Q I r h;obtain⟨e,h⟩:=h;subst e;cases r
 exact assignInOrder_nil ⟨σ,H,I,h⟩
def Kb{e:Expr}{es:List Expr}{t:TG}{u:TGs}(h1:PG X e t)(h2:PGs X es u)(hs:(assignEach (e::es) X.env).map (·.2)=assign e X.env::(assignEach es X.env).map (·.2):=by rfl):PGs X (e::es) (Df t u):=by
 intro pins s σ H vs us Q I r h;obtain⟨v,vr,e1,h⟩:=h;subst e1;cases r with
 |cons r rr=>
  rw[hs];refine assignInOrder_cons (thn (h1 pins s σ H _ _ _ I r h) fun _ s1 ⟨σ1,H1,I1,q1⟩=>?_);exact h2 pins s1 σ1 H1 _ _ Q I1 rr q1
def gTup(K:Za)(n:Nat)(t:TGs):TG:=fun v σ H Q=>∃a xs,v=.ref a/\SqT K H a xs/\xs.length=n/\t xs σ H Q
def RX{es:List Expr}{k:Nat}{t:TGs}{n:Nat}(hc:X.calm=true)(h:PGs X es t)(hn:(assignEach es X.env).length=n:=by rfl)(hst:(assignEach es X.env).findIdx? (·.1)=none:=by rfl):PG X (.Tuple es k pos) (gTup X.K n t):=by
 intro pins s σ H v u Q I r hw;obtain⟨a,xs,e1,hq,hl,hw⟩:=hw;subst e1;cases r
 obtain⟨its,rv,ht,hz⟩:=I.tuple hq;refine assign_Tuple_tuple (I.ok.hd hc) ht (by simp[hn,←hl,rv.length]) hst fun h' hx=>?_;have I1:Inv X pins σ H {s with heap:=h'}:=I.kept (t':=s.toks) fun b o e=>hx b o (YM (Y1 e)) e
 exact h pins _ σ H xs _ Q I1 (by simpa using rv) hw
def tAsg(te:TE)(g:TG):TS:=fun D σ H=>te σ H fun x H1=>g x σ H1 D.nx
def Zab{i:Nat}{x:Str}{e:Expr}{te:TE}{pos':Pos}(hN:X.N.Nodup)(hi:X.N[i]?=some x)(hx:Loc X.env.scope x)(he:PE X e te)(hs:swapsWith e (some (.Name x pos')) pos.line X.env=pure false:=by rfl)(hf:X.fn x=true\/X.env.scope.names.lookup x=some .local:=by first|exact .inl rfl|exact .inr rfl|assumption) :
  PS X (.Assign [.Name x pos'] e pos) (tAsg te (P8 i)):=by
 intro pins s σ H D I h;refine wpAny_Assign_Name (thn (he pins s σ H _ I h) fun v s1 ⟨y,H1,I1,r1,q1⟩=>?_) hs;exact Sb I1 hN hi hx r1 (fun s2 I2=>⟨_,H1,I2,q1⟩) hf
def tAug(i:Nat)(te:TE)(ti:TIp):TS:=fun D σ H=>∃x,σ[i]?=some (some x)/\te σ H fun y H1=>ti x y H1 fun z H2=>D.nx (σ.set i (some z)) H2
def Dj{i:Nat}{x:Str}{e:Expr}{te:TE}{op:Operator}{ti:TIp}{pos':Pos}(hN:X.N.Nodup)(hi:X.N[i]?=some x)(hx:Loc X.env.scope x)(he:PE X e te)(ho:PIp X op ti)(hf:X.fn x=true\/X.env.scope.names.lookup x=some .local:=by first|exact .inl rfl|exact .inr rfl|assumption) :
  PS X (.AugAssign (.Name x pos') op e pos) (tAug i te ti):=by
 intro pins s σ H D I h;obtain⟨v,e1,h⟩:=h;obtain⟨m,hn,hl⟩:=I.loc;have vis:Vis X.env.scope x:=by rcases hx with k|k;exact .inl k;exact .inr (.inl k)
 obtain⟨u,r,l⟩:=hl i x v hi e1 vis;refine wpAny_AugAssign_Name ?_
 have go:wpAny (model X.prog X.w) X.A (eval e X.env) (fun w s₂=>wpAny (model X.prog X.w) X.A (inplaceOp op u w) (fun r s₃=>wpAny (model X.prog X.w) X.A (storeName X.env x r) (fun _=>SP X pins D .next) X.xe s₃) X.xe s₂) X.xe s:=by
  refine thn (he pins s σ H _ I h) fun w s1 ⟨y,H1,I1,r1,q1⟩=>?_;refine thn (ho pins s1 σ H1 v y u w _ I1 r r1 q1) fun z s2 ⟨zv,H2,I2,r2,q2⟩=>?_;exact Sb I2 hN hi hx r2 (fun s3 I3=>⟨_,H2,I3,q2⟩) hf
 rcases l with⟨hk,hm⟩|⟨hk,c,hc,hcell⟩
 ·exact wpAny_loadName_local I.ok.kind hk hn hm go
 ·rcases hk with hk|hk
  ·exact wpAny_loadName_cell I.ok.kind hk hc hcell go
  ·rcases hx with k|k
   ·have:X.env.scope.names.lookup x=some .free:=hk
    rw[k]at this;cases this
   ·have:X.env.scope.names.lookup x=some .free:=hk
    rw[k]at this;cases this
def Bo(to ti te:TE)(tget:V->V->Hp->VK->Prop)(tip:TIp)(tset:TSet):TS:=fun D σ H=>to σ H fun o H1=>ti σ H1 fun i H2=>tget o i H2 fun x H3=>te σ H3 fun y H4=>tip x y H4 fun z H5=>tset o i z H5 fun H6=>D.nx σ H6
def PGet(X:Cx)(t:V->V->Hp->VK->Prop):Prop:=
 ∀(pins:List (Addr×Obj)) (s:Shared) (σ:St) (H:Hp) (o i:V) (ov iv:Value) (Q:VK),Inv X pins σ H s->RelV o ov->RelV i iv->t o i H Q->
  wpAny (model X.prog X.w) X.A (getItem ov iv) (EP X pins σ Q) X.xe s
def Es{o i e:Expr}{to ti te:TE}{tget:V->V->Hp->VK->Prop}{tip:TIp}{tset:TSet}{op:Operator}{tpos:Pos}(ho:PE X o to)(hi:PE X i ti)(hg:PGet X tget)(he:PE X e te)(hp:PIp X op tip)(hs:PSet X tset)(ha:∀ov iv new,augStore i ov iv new=(do holding [new,ov,iv] (setItem ov iv new);release [new,ov,iv] [];pure .next):=by intros;rfl):PS X (.AugAssign (.Subscript o i tpos) op e pos) (Bo to ti te tget tip tset):=by
 intro pins s σ H D I h;refine wpAny_AugAssign_SubscriptAny (thn (ho pins s σ H _ I h) fun ov s1 ⟨x1,H1,I1,r1,q1⟩=>?_) ha;refine thn (hi pins s1 σ H1 _ I1 q1) fun iv s2 ⟨x2,H2,I2,r2,q2⟩=>?_;refine thn (hg pins s2 σ H2 x1 x2 ov iv _ I2 r1 r2 q2) fun old s3 ⟨x3,H3,I3,r3,q3⟩=>?_;refine thn (he pins s3 σ H3 _ I3 q3) fun v s4 ⟨x4,H4,I4,r4,q4⟩=>?_;refine thn (hp pins s4 σ H4 x3 x4 old v _ I4 r3 r4 q4) fun new s5 ⟨x5,H5,I5,r5,q5⟩=>?_;exact thn (hs pins s5 σ H5 x1 x2 x5 ov iv new _ I5 r1 r2 r5 q5) fun _ s6 ⟨H6,I6,q6⟩=>⟨σ,H6,I6,q6⟩
def ipI(f:Int->Int->Int):TIp:=fun x y H Q=>∃i j,x=.int i/\y=.int j/\Q (.int (f i j)) H
def Ex:PIp X .Add (ipI fun i j=>i+j):=by
 intro pins s σ H x y v u Q I r1 r2 h;obtain⟨i,j,e1,e2,q⟩:=h;subst e1;subst e2;obtain⟨t,rfl⟩:=r1;obtain⟨t',rfl⟩:=r2;exact iadd_int ⟨.int _,H,I.tok _,⟨_,rfl⟩,q⟩
end
section
variable {X:Cx}{pos:Pos}
def Hc(c:TT)(tb:TS):TS:=fun D σ H=>∃W:Nat->St->Hp->Prop,(∃m,W m σ H)/\∀m σ H,W m σ H->
 c σ H fun b H1=>if b=true then ∃N:St->Hp->Prop,(∀σ' H',N σ' H'->∃m',m'<m/\W m' σ' H')/\tb {D with nx:=N,ct:=N,bk:=D.nx} σ H1 else D.nx σ H1
def FR{c:Expr}{body:List Stmt}{tc:TT}{tb:TS}(hp:PassesOwn (model X.prog X.w) X.A X.env X.xe)(hc:PT X c tc)(hb:PSs X body tb):PS X (.While c body [] pos) (Hc tc tb):=by
 intro pins s σ H D I h;obtain⟨W,⟨m0,w0⟩,turn⟩:=h;refine wpAny_While (codeAny_whileLoop (fun n s'=>∃σ' H',Inv X pins σ' H' s'/\W n σ' H') ?_ m0 ⟨σ,H,I,w0⟩);rintro n s1 ⟨σ1,H1,I1,w1⟩;refine WT hp (thn (hc pins s1 σ1 H1 _ I1 (turn n σ1 H1 w1)) fun b s2 ⟨H2,I2,q2⟩=>?_);cases b with
 |true=>
  obtain⟨N,hN,q2⟩:=q2;rw[Yr rfl];refine WT hp (thn (hb pins s2 σ1 H2 _ I2 q2) fun f s3 q3=>?_);cases f with
  |next=>
   obtain⟨σ3,H3,I3,n3⟩:=q3;obtain⟨m',hm,w3⟩:=hN σ3 H3 n3;exact⟨m',hm,σ3,H3,I3,w3⟩
  |cont=>
   obtain⟨σ3,H3,I3,n3⟩:=q3;obtain⟨m',hm,w3⟩:=hN σ3 H3 n3;exact⟨m',hm,σ3,H3,I3,w3⟩
  |brk=>exact q3
  |ret v=>exact q3
 |false=>
  rw[Yp Y6];exact Vm ⟨σ1,H2,I2,q2⟩
end
structure It where
 go:Nat->Hp->Prop
 yld:Nat->Hp->V->Hp->Prop
 stop:Nat->Hp->Prop
def FpOk(X:Cx)(pins:List (Addr×Obj))(H:Hp)(b:Addr):Prop:=
 H b=none/\b≠X.env.locals/\b∉X.fs/\(b∈X.ex\/X.s₀.heap.objs.size<=b)/\(∀x c,X.env.cells.lookup x=some c->c≠b)/\∀p∈X.pn++pins,p.1≠b
def Inv.fpOk {X:Cx}{pins:List (Addr×Obj)}{σ:St}{H H':Hp}{s:Shared}{b:Addr} (I:Inv X pins σ H s) (hb:s.heap.objs.size<=b) (hn:H' b=none):FpOk X pins H' b:=by
 refine⟨hn,VB (YW I.lt hb),I.nofs hb,.inr (Y4 I.sz hb),fun x c e z=>?_,fun p hp z=>?_⟩
 ·obtain⟨v,q⟩:=I.cell x c e;exact absurd (YW q.lt (by rw[z];exact hb)) (W6 _)
 ·exact absurd (YW (Y1 (I.pin p hp).1) (by rw[z];exact hb)) (W6 _)
structure Turn (P:Program) (w:World) (K:Za) (tg:Expr) (J:It) (fp:List Addr) (it:Addr) (tn:Nat->Heap->Prop):Prop where
 mem:it∈fp
 obj:∀i h,tn i h->∀b∈fp,∃o,h.get? b=some o/\∀v,o.data≠.cell v
 keep:∀i h h',tn i h->(∀b∈fp,∀o,h.get? b=some o->h'.get? b=some o)->tn i h'
 item:∀(X:Cx),X.prog=P->X.w=w->X.K=K->X.calm=true->∀(i:Nat) (pins:List (Addr×Obj)) (s:Shared) (σ:St) (H:Hp) (E:Value->Shared->Prop),Inv X pins σ H s->(∀b∈fp,FpOk X pins H b)->tn i s.heap->J.go i H->
  wpAny (model P w) X.A (pyNext (.ref it)) (fun r s1=>∃u,r=some u/\
   wpAny (model P w) X.A (letOwnedTupleGo tg (.ref it) u) (fun _ s2=>∃x H',Inv X pins σ H' s2/\RelV x u/\J.yld i H x H'/\tn (i+1) s2.heap/\∀b∈fp,H' b=none) E s1) E s
 done:∀(X:Cx),X.prog=P->X.w=w->X.K=K->X.calm=true->∀(i:Nat) (pins:List (Addr×Obj)) (s:Shared) (σ:St) (H:Hp) (E:Value->Shared->Prop),Inv X pins σ H s->(∀b∈fp,FpOk X pins H b)->tn i s.heap->J.stop i H->
  wpAny (model P w) X.A (pyNext (.ref it)) (fun r s1=>r=none/\Inv X pins σ H s1) E s
 self:∀(A:Around) (i:Nat) (s:Shared) (Q:Value->Shared->Prop) (E:Value->Shared->Prop),tn i s.heap->Q (.ref it) s->wpAny (model P w) A (pyIter (.ref it)) Q E s
abbrev TI:=St->Hp->(It->Hp->Prop)->Prop
def PIE(X:Cx)(pins:List (Addr×Obj))(σ:St)(tg:Expr)(R:It->Hp->Prop)(itv:Value)(s2:Shared):Prop:=
 ∃(it:Addr) (fp:List Addr) (tn:Nat->Heap->Prop) (J:It) (H':Hp),itv=.ref it/\Inv X pins σ H' s2/\Turn X.prog X.w X.K tg J fp it tn/\tn 0 s2.heap/\(∀b∈fp,FpOk X pins H' b)/\R J H'
def PI(X:Cx)(tg iter:Expr)(wi:TI):Prop:=
 ∀(pins:List (Addr×Obj)) (s:Shared) (σ:St) (H:Hp) (R:It->Hp->Prop),Inv X pins σ H s->wi σ H R->
  wpAny (model X.prog X.w) X.A (eval iter X.env) (fun v s1=>wpAny (model X.prog X.w) X.A (pyIter v) (PIE X pins σ tg R) X.xe s1) X.xe s
def FO {M : Model} {A : Around} {E : Value → Shared → Prop} {s : Shared} {tg : Expr} {it : Addr} {u : Value} {o : Obj} {n : String} {vs : Array Value} {Q : Unit → Shared → Prop} (ho : s.heap.get? it = some o) (hc : o.cls = .type n) (hd : o.data = .fields vs)
    (hn : ["enumerate", "zip", "dict_itemiterator", "dict_reverseitemiterator", "odict_iterator", "itertools.zip_longest", "itertools.pairwise"].contains n = false) (hQ : Q () s) : wpAny M A (letOwnedTupleGo tg (.ref it) u) Q E s := by
  unfold letOwnedTupleGo
  cases tg <;> first
    | exact Ys hQ
    | (cases u <;> first
        | exact Ys hQ
        | (refine Yn (wpAny_load ho ?_)
           rw [hc, hd]
           show wpAny M A (if (["enumerate", "zip", "dict_itemiterator", "dict_reverseitemiterator", "odict_iterator", "itertools.zip_longest", "itertools.pairwise"].contains n && vs[0]? == some (rawInt _)) = true then _ else _) Q E s
           rw [Yp (by intro h; rw [hn, QM] at h; cases h)]
           exact Ys hQ))
def Itl(K:Za)(a:Addr):It:=
 ⟨fun i H=>∃xs x,SqL K H a xs/\xs[i]?=some x,fun i H x H'=>H'=H/\∀xs,SqL K H a xs->xs[i]?=some x,fun i H=>∃xs,SqL K H a xs/\xs.length<=i⟩
def Itt(K:Za)(a:Addr):It:=
 ⟨fun i H=>∃xs x,SqT K H a xs/\xs[i]?=some x,fun i H x H'=>H'=H/\∀xs,SqT K H a xs->xs[i]?=some x,fun i H=>∃xs,SqT K H a xs/\xs.length<=i⟩
def Itr(lo:Int)(n:Nat):It:=⟨fun i _=>i<n,fun i H x H'=>H'=H/\x=.int (lo+i),fun i _=>n<=i⟩
def HM{P:Program}{w:World}{K:Za}{tg:Expr}(a it:Addr):Turn P w K tg (Itl K a) [it] it (fun i h=>h.IsListIter it a i) where
 mem:=by simp
 obj:=fun i h st b hb=>by
  have e:b=it:=by simpa using hb
  subst e;obtain⟨o,e,c,d⟩:=st;exact⟨o,e,fun v z=>by rw[d]at z;cases z⟩
 keep:=fun i h h' st k=>st.at fun o e=>k it (by simp) o e
 item:=by
  intro X hP hw hK hc i pins s σ H E I hf st hg;subst hP hw hK;obtain⟨xs,x,hq,hx⟩:=hg;obtain⟨its,rv,p,hz⟩:=I.list hq;obtain⟨u,hu,ru⟩:=rv.get hx;obtain⟨f0,f1,f2,f3,f4,f5⟩:=hf it (by simp);refine wpAny_pyNext_list_item st p.isList (x:=u) (by simpa using hu) fun h' st' sb=>?_;have I1:Inv X pins σ H {s with heap:=h'}:=I.turned (t':=s.toks) (fun b o hb e=>(sb.2 b hb).trans e) f0 f1 f3 f4 f5
  obtain⟨o,e,c,d⟩:=id st';exact⟨u,rfl,FO (s:={s with heap:=h'}) e c d (by decide) ⟨x,H,I1,ru,⟨rfl,fun ys hy=>by rw[I.list_inj hy hq];exact hx⟩,st',fun b hb=>(hf b hb).1⟩⟩
 done:=by
  intro X hP hw hK hc i pins s σ H E I hf st hg;subst hP hw hK;obtain⟨xs,hq,hx⟩:=hg;obtain⟨its,rv,p,hz⟩:=I.list hq;obtain⟨f0,f1,f2,f3,f4,f5⟩:=hf it (by simp);have hl:=rv.length;exact wpAny_pyNext_list_end (I.ok.hd hc) st p.isList (by simp;omega) fun h' eb=>⟨rfl,I.turned (t':=s.toks) (fun b o hb e=>eb b o hb e) f0 f1 f3 f4 f5⟩
 self:=fun _ _ _ _ _ st h=>wpAny_pyIter_listiter st h
def Zdx{P:Program}{w:World}{K:Za}{tg:Expr}(a it:Addr):Turn P w K tg (Itt K a) [it] it (fun i h=>h.IsTupleIter it a i) where
 mem:=by simp
 obj:=fun i h st b hb=>by
  have e:b=it:=by simpa using hb
  subst e;obtain⟨o,e,c,d⟩:=st;exact⟨o,e,fun v z=>by rw[d]at z;cases z⟩
 keep:=fun i h h' st k=>st.at fun o e=>k it (by simp) o e
 item:=by
  intro X hP hw hK hc i pins s σ H E I hf st hg;subst hP hw hK;obtain⟨xs,x,hq,hx⟩:=hg;obtain⟨its,rv,p,hz⟩:=I.tuple hq;obtain⟨u,hu,ru⟩:=rv.get hx;obtain⟨f0,f1,f2,f3,f4,f5⟩:=hf it (by simp);refine wpAny_pyNext_tuple_item st (show s.heap.IsTuple a its.toArray from p) (x:=u) (by simpa using hu) fun h' st' sb=>?_
  have I1:Inv X pins σ H {s with heap:=h'}:=I.turned (t':=s.toks) (fun b o hb e=>(sb.2 b hb).trans e) f0 f1 f3 f4 f5
  obtain⟨o,e,c,d⟩:=id st';exact⟨u,rfl,FO (s:={s with heap:=h'}) e c d (by decide) ⟨x,H,I1,ru,⟨rfl,fun ys hy=>by rw[I.tuple_inj hy hq];exact hx⟩,st',fun b hb=>(hf b hb).1⟩⟩
 done:=by
  intro X hP hw hK hc i pins s σ H E I hf st hg;subst hP hw hK;obtain⟨xs,hq,hx⟩:=hg;obtain⟨its,rv,p,hz⟩:=I.tuple hq;obtain⟨f0,f1,f2,f3,f4,f5⟩:=hf it (by simp);have hl:=rv.length;exact wpAny_pyNext_tuple_end (I.ok.hd hc) st (show s.heap.IsTuple a its.toArray from p) (by simp;omega) fun h' eb=>⟨rfl,I.turned (t':=s.toks) (fun b o hb e=>eb b o hb e) f0 f1 f3 f4 f5⟩
 self:=fun _ _ _ _ _ st h=>wpAny_pyIter_tupleiter st h
def Zal{P:Program}{w:World}{K:Za}{tg:Expr}(it:Addr)(lo:Int)(n:Nat):Turn P w K tg (Itr lo n) [it] it (fun i h=>IsRangeIter h it (lo+(i:Nat)*1) ((n:Int)-(i:Nat)) 1) where
 mem:=by simp
 obj:=fun i h st b hb=>by
  have e:b=it:=by simpa using hb
  subst e
  exact⟨_,st,fun v z=>by
   have z':Data.fields _=Data.cell v:=z;cases z'⟩
 keep:=fun i h h' st k=>k it (by simp) _ st
 item:=by
  intro X hP hw hK hc i pins s σ H E I hf st hg;subst hP hw hK;obtain⟨f0,f1,f2,f3,f4,f5⟩:=hf it (by simp);have W:=Walks.range (prog:=X.prog) (w:=X.w) (I.ok.hd hc) it lo 1 n;refine W.item i s _ _ hg st fun v h' tk hv st' kk=>?_;obtain⟨t,rfl⟩:=hv;have I1:Inv X pins σ H {s with heap:=h',toks:=tk}:=I.turned (fun b o hb e=>kk b o (by simpa using hb) e) f0 f1 f3 f4 f5
  refine⟨_,rfl,FO (s:={s with heap:=h',toks:=tk}) (n:="range_iterator") st' rfl rfl (by decide) ⟨.int (lo+i),H,I1,⟨t,?_⟩,⟨rfl,rfl⟩,st',fun b hb=>(hf b hb).1⟩⟩
  rw[Int.mul_one]
 done:=by
  intro X hP hw hK hc i pins s σ H E I hf st hg;subst hP hw hK;obtain⟨f0,f1,f2,f3,f4,f5⟩:=hf it (by simp);exact wpAny_pyNext_range_end (I.ok.hd hc) st (by have:n<=i:=hg;omega) fun h' eb=>⟨rfl,I.turned (t':=s.toks) (fun b o hb e=>eb b o hb e) f0 f1 f3 f4 f5⟩
 self:=fun _ _ _ _ _ st h=>wpAny_pyIter_rangeiter st h
section
variable {X:Cx}{tg:Expr}
def Si(K:Za)(tl:TE):TI:=fun σ H R=>tl σ H fun x H1=>∃a,x=.ref a/\(∃xs,SqL K H1 a xs)/\R (Itl K a) H1
def iTup(K:Za)(tl:TE):TI:=fun σ H R=>tl σ H fun x H1=>∃a,x=.ref a/\(∃xs,SqT K H1 a xs)/\R (Itt K a) H1
def GM{l:Expr}{tl:TE}(hl:PE X l tl):PI X tg l (Si X.K tl):=by
 intro pins s σ H R I h;refine thn (hl pins s σ H _ I h) fun v s1 ⟨x,H1,I1,r1,q1⟩=>?_;obtain⟨a,e,⟨xs,hq⟩,q⟩:=q1;subst e;cases r1
 obtain⟨its,rv,p,hz⟩:=I1.list hq;refine wpAny_pyIter_list p.isList ?_;refine⟨s1.heap.objs.size,[s1.heap.objs.size],_,_,H1,rfl,I1.kept (t':=s1.toks) fun b o e=>Yv _ e,HM a _,⟨_,Y5 _ rfl,rfl,rfl⟩,fun b hb=>?_,q⟩;have e:b=s1.heap.objs.size:=by simpa using hb
 subst e;exact I1.fpOk (Yy _) (I1.hok.fresh (Yy _))
def Zeu{l:Expr}{tl:TE}(hl:PE X l tl):PI X tg l (iTup X.K tl):=by
 intro pins s σ H R I h;refine thn (hl pins s σ H _ I h) fun v s1 ⟨x,H1,I1,r1,q1⟩=>?_;obtain⟨a,e,⟨xs,hq⟩,q⟩:=q1;subst e;cases r1
 obtain⟨its,rv,p,hz⟩:=I1.tuple hq;refine wpAny_pyIter_tuple (show s1.heap.IsTuple a its.toArray from p) ?_
 refine⟨s1.heap.objs.size,[s1.heap.objs.size],_,_,H1,rfl,I1.kept (t':=s1.toks) fun b o e=>Yv _ e,Zdx a _,⟨_,Y5 _ rfl,rfl,rfl⟩,fun b hb=>?_,q⟩;have e:b=s1.heap.objs.size:=by simpa using hb
 subst e;exact I1.fpOk (Yy _) (I1.hok.fresh (Yy _))
def Dh{pins:List (Addr×Obj)}{σ:St}{H:Hp}{s:Shared}{R:It->Hp->Prop}{E:Value->Shared->Prop}{lo hi:Int}{t u v:Tok}{tk:Nat}(I:Inv X pins σ H s)(h1:-(2 ^ 62)<=lo)(h2:lo<2 ^ 62)(h3:-(2 ^ 62)<=hi)(h4:hi<2 ^ 62)(q:R (Itr lo (hi-lo).toNat) H):wpAny (model X.prog X.w) X.A (pyIter (.ref s.heap.objs.size)) (PIE X pins σ tg R) E {s with heap:=s.heap.push {cls:=.type "range",data:=.fields #[.int lo t,.int hi u,.int 1 v]},toks:=tk}:=by
 refine wpAny_pyIter_range (IsRange.new ..) (small_one h1 h2 h3 h4) ?_;have I1:Inv X pins σ H {s with heap:=s.heap.push {cls:=.type "range",data:=.fields #[.int lo t,.int hi u,.int 1 v]},toks:=tk}:=I.kept fun b o e=>Yv _ e
 refine⟨(s.heap.push {cls:=.type "range",data:=.fields #[.int lo t,.int hi u,.int 1 v]}).objs.size,[(s.heap.push {cls:=.type "range",data:=.fields #[.int lo t,.int hi u,.int 1 v]}).objs.size],_,_,H,rfl,
  I1.kept (t':=tk) fun b o e=>Yv _ e,Zal _ lo (hi-lo).toNat,?_,fun b hb=>?_,q⟩
 ·have e1:lo+((0:Nat):Int)*1=lo:=by simp
  have e2:(((hi-lo).toNat:Nat):Int)-((0:Nat):Int)=Builtin.Range.rangeSize lo hi 1:=by rw[rangeSize_one];split<;>omega
  show IsRangeIter _ _ (lo+((0:Nat):Int)*1) ((((hi-lo).toNat:Nat):Int)-((0:Nat):Int)) 1;rw[e1,e2];exact Y5 _ rfl
 ·have e:b=(s.heap.push {cls:=.type "range",data:=.fields #[.int lo t,.int hi u,.int 1 v]}).objs.size:=by simpa using hb
  subst e;exact I1.fpOk (Yy _) (I1.hok.fresh (Yy _))
def Ho(ta:TA):TI:=fun σ H R=>ta σ H fun vs H1=>∃j:Int,vs=[.int j]/\-(2 ^ 62)<=j/\j<2 ^ 62/\R (Itr 0 j.toNat) H1
def DP(ta:TA):TI:=fun σ H R=>ta σ H fun vs H1=>∃i j:Int,vs=[.int i,.int j]/\(-(2 ^ 62)<=i/\i<2 ^ 62/\-(2 ^ 62)<=j/\j<2 ^ 62)/\R (Itr i (j-i).toNat) H1
def Kq{a:Expr}{ta:TA}{p pos:Pos}(hg:Gl X "range")(hm:X.mg "range"=none)(ha:PA X [a] ta)(hs:starEach [a] X.env=[(false,eval a X.env)]:=by rfl):PI X tg (.Call (.Name "range" p) [a] [] pos) (Ho ta):=by
 intro pins s σ H R I h;refine Call_ (TZ I hg hm boot_range (Q4 (thn (ha pos pins s σ H _ I h) fun us s1 ⟨vs,H1,I1,r1,q1⟩=>?_) hs rfl));obtain⟨j,e,q1,q2,q⟩:=q1;subst e;cases r1 with
 |cons r rr=>
  cases rr
  obtain⟨t,rfl⟩:=r;exact call_range_1 (Dh I1 (by omega) (by omega) q1 q2 (by simpa using q))
def D7{a b:Expr}{ta:TA}{p pos:Pos}(hg:Gl X "range")(hm:X.mg "range"=none)(ha:PA X [a,b] ta)(hs:starEach [a,b] X.env=[(false,eval a X.env),(false,eval b X.env)]:=by rfl)(hs2:starEach [b] X.env=[(false,eval b X.env)]:=by rfl) :
  PI X tg (.Call (.Name "range" p) [a,b] [] pos) (DP ta):=by
 intro pins s σ H R I h;refine Call_ (TZ I hg hm boot_range (Q4 (thn (ha pos pins s σ H _ I h) fun us s1 ⟨vs,H1,I1,r1,q1⟩=>?_) (by rw[hs,hs2]) (by rw[hs2];rfl)));obtain⟨i,j,e,⟨q1,q2,q3,q4⟩,q⟩:=q1;subst e;cases r1 with
 |cons r rr=>
  cases rr with
  |cons r' rr=>
   cases rr
   obtain⟨t,rfl⟩:=r;obtain⟨t',rfl⟩:=r';exact call_range_2 (Dh I1 q1 q2 q3 q4 q)
def tFor(wi:TI)(g:TG)(tb:TS):TS:=fun D σ H=>wi σ H fun J H1=>∃W:Nat->Nat->St->Hp->Prop,(∃m,W 0 m σ H1)/\∀i m σ H,W i m σ H->
 (J.stop i H/\D.nx σ H)\/(J.go i H/\∃N:St->Hp->Prop,(∀σ' H',N σ' H'->∃m',m'<m/\W (i+1) m' σ' H')/\∀x H',J.yld i H x H'->g x σ H' fun σ2 H2=>tb {D with nx:=N,ct:=N,bk:=D.nx} σ2 H2)
def Tf(fp:List Addr)(h:Heap):List (Addr×Obj):=fp.filterMap fun b=>(h.get? b).map fun o=>(b,o)
def S7{fp:List Addr}{h:Heap}{b:Addr}{o:Obj}(hb:b∈fp)(e:h.get? b=some o):(b,o)∈Tf fp h:=V3.mpr ⟨b,hb,by rw[e];rfl⟩
def Zfn{fp:List Addr}{h:Heap}{p:Addr×Obj}(hp:p∈Tf fp h):p.1∈fp/\h.get? p.1=some p.2:=by
 obtain⟨b,hb,e⟩:=V3.mp hp;cases q:h.get? b with
 |none=>rw[q]at e;cases e
 |some o=>
  rw[q]at e;have e':(b,o)=p:=Yz e;subst e';exact⟨hb,q⟩
def Inv.pinned {pins:List (Addr×Obj)}{σ:St}{H:Hp}{s:Shared}{fp:List Addr} (I:Inv X pins σ H s) (hf:∀b∈fp,FpOk X pins H b) (ho:∀b∈fp,∃o,s.heap.get? b=some o/\∀v,o.data≠.cell v):Inv X (pins++Tf fp s.heap) σ H s:=
 I.pins_of fun p hp=>(YG.mp hp).elim (fun z=>I.pin p (YV _ z)) fun z=>by
  obtain⟨hb,e⟩:=Zfn z;obtain⟨f0,f1,f2,_⟩:=hf p.1 hb;obtain⟨o,e',d⟩:=ho p.1 hb;rw[e]at e';cases e';exact⟨e,f0,f1,f2,d⟩
def Inv.unpinned {pins pl:List (Addr×Obj)}{σ:St}{H:Hp}{s:Shared} (I:Inv X (pins++pl) σ H s):Inv X pins σ H s:=I.pins_of fun p hp=>I.pin p (YV _ (Qa _ hp))
def UF{iter:Expr}{body:List Stmt}{wi:TI}{g:TG}{tb:TS}{pos:Pos}(hp:PassesOwn (model X.prog X.w) X.A X.env X.xe)(hc:X.calm=true)(hi:PI X tg iter wi)(hg:PG X tg g)(hb:PSs X body tb)(hs:∀x,foldedSetIterable iter X.env x=pure x:=by intro _;rfl):PS X (.For tg iter body [] pos) (tFor wi g tb):=by
 intro pins s σ H D I h;refine wpAny_For (thn (hi pins s σ H _ I h) fun v s1 h1=>thn h1 fun itv s2 h2=>?_) hs;obtain⟨it,fp,tn,J,H2,e,I2,T,st2,f2,W,⟨m0,w0⟩,turn⟩:=h2;subst e;have stat:∀{H':Hp},(∀b∈fp,H' b=none)->∀b∈fp,FpOk X pins H' b:=fun hn b hb=>⟨hn b hb,(f2 b hb).2⟩;refine codeAny_forLoop_any (fun n s'=>∃i σ' H',Inv X pins σ' H' s'/\tn i s'.heap/\(∀b∈fp,H' b=none)/\W i n σ' H') ?_ m0 ⟨0,σ,H2,I2,st2,fun b hb=>(f2 b hb).1,w0⟩;rintro n s3 ⟨i,σ3,H3,I3,st3,fr3,w3⟩;rcases turn i n σ3 H3 w3 with⟨stop,qn⟩|⟨go,N,hN,step⟩
 ·refine WT hp (thn (T.done X rfl rfl rfl hc i pins s3 σ3 H3 X.xe I3 (stat fr3) st3 stop) fun r s4 ⟨hr,I4⟩=>?_);subst hr;exact Vm ⟨σ3,H3,I4,qn⟩
 ·refine WT hp (thn (T.item X rfl rfl rfl hc i pins s3 σ3 H3 X.xe I3 (stat fr3) st3 go) fun r s4 ⟨u,hr,h4⟩=>?_);subst hr;refine WT hp (thn h4 fun _ s5 ⟨x,H5,I5,r5,y5,st5,fr5⟩=>?_);have I5':=I5.pinned (stat fr5) (T.obj _ _ st5);refine WT hp (thn (hg _ s5 σ3 H5 x u _ I5' r5 (step x H5 y5)) fun _ s6 ⟨σ6,H6,I6,q6⟩=>?_);refine WT hp (thn (hb _ s6 σ6 H6 _ I6 q6) fun f s7 q7=>?_)
  have again:∀{σ7:St} {H7:Hp},Inv X (pins++Tf fp s5.heap) σ7 H7 s7->N σ7 H7->∃m,m<n/\∃i σ' H',Inv X pins σ' H' s7/\tn i s7.heap/\(∀b∈fp,H' b=none)/\W i m σ' H':=fun {σ7 H7} I7 n7=>by
   obtain⟨m',hm,w7⟩:=hN σ7 H7 n7;refine⟨m',hm,i+1,σ7,H7,I7.unpinned,T.keep _ _ _ st5 fun b hb o e=>(I7.pin (b,o) (YV _ (YV _ (S7 hb e)))).1,fun b hb=>?_,w7⟩;obtain⟨o,e,d⟩:=T.obj _ _ st5 b hb;exact(I7.pin (b,o) (YV _ (YV _ (S7 hb e)))).2.1
  cases f with
  |next=>obtain⟨σ7,H7,I7,n7⟩:=q7;exact again I7 n7
  |cont=>obtain⟨σ7,H7,I7,n7⟩:=q7;exact again I7 n7
  |brk=>obtain⟨σ7,H7,I7,q7⟩:=q7;exact⟨σ7,H7,I7.unpinned,q7⟩
  |ret v=>obtain⟨x7,σ7,H7,I7,r7,q7⟩:=q7;exact⟨x7,σ7,H7,I7.unpinned,r7,q7⟩
end
abbrev R2:=V->V->Hp->VK->Prop
def OpR(X:Cx)(f:Value->Value->Sem Value)(r:R2):Prop:=
 ∀(pins:List (Addr×Obj)) (s:Shared) (σ:St) (H:Hp) (x y:V) (v u:Value) (Q:VK),Inv X pins σ H s->RelV x v->RelV y u->r x y H Q->
  wpAny (model X.prog X.w) X.A (f v u) (EP X pins σ Q) X.xe s
def UnR(X:Cx)(f:Value->Sem Value)(r:V->Hp->VK->Prop):Prop:=
 ∀(pins:List (Addr×Obj)) (s:Shared) (σ:St) (H:Hp) (x:V) (v:Value) (Q:VK),Inv X pins σ H s->RelV x v->r x H Q->
  wpAny (model X.prog X.w) X.A (f v) (EP X pins σ Q) X.xe s
def UX(X:Cx)(f:Value)(r:List V->Hp->VK->Prop):Prop:=
 ∀(pins:List (Addr×Obj)) (s:Shared) (σ:St) (H:Hp) (xs:List V) (us:List Value) (Q:VK),Inv X pins σ H s->Vals xs us->r xs H Q->
  wpAny (model X.prog X.w) X.A (call f us) (EP X pins σ Q) X.xe s
def TruR(X:Cx)(r:V->Hp->(Bool->Hp->Prop)->Prop):Prop:=
 ∀(pins:List (Addr×Obj)) (s:Shared) (σ:St) (H:Hp) (x:V) (v:Value) (Q:Bool->Hp->Prop),Inv X pins σ H s->RelV x v->r x H Q->
  wpAny (model X.prog X.w) X.A (truthy v) (TP X pins σ Q) X.xe s
def tOp(r:R2)(ta tb:TE):TE:=fun σ H Q=>ta σ H fun x H1=>tb σ H1 fun y H2=>r x y H2 Q
def tUn(r:V->Hp->VK->Prop)(ta:TE):TE:=fun σ H Q=>ta σ H fun x H1=>r x H1 Q
def rI(C:Int->Int->Prop)(g:Int->Int->V):R2:=fun x y H Q=>∃i j,x=.int i/\y=.int j/\C i j/\Q (g i j) H
def rI0(g:Int->Int->V):R2:=fun x y H Q=>∃i j,x=.int i/\y=.int j/\Q (g i j) H
def rU(g:Int->V):V->Hp->VK->Prop:=fun x H Q=>∃i,x=.int i/\Q (g i) H
section
variable {X:Cx}{a b c:Expr}{ta tb tc:TE}{pos:Pos}
def binT(ha:PE X a ta)(hb:PE X b tb){pins:List (Addr×Obj)}{s:Shared}{σ:St}{H:Hp}{R:V->V->Hp->Prop}(I:Inv X pins σ H s)(h:ta σ H fun x H1=>tb σ H1 fun y H2=>R x y H2){Q:Value->Shared->Prop}{f:Value->Value->Sem Value}(hf:∀v u s2 x y H2,Inv X pins σ H2 s2->RelV x v->RelV y u->R x y H2->wpAny (model X.prog X.w) X.A (f v u) Q X.xe s2) :
  wpAny (model X.prog X.w) X.A (eval a X.env) (fun v s₁=>wpAny (model X.prog X.w) X.A (eval b X.env) (fun u s₂=>wpAny (model X.prog X.w) X.A (f v u) Q X.xe s₂) X.xe s₁) X.xe s:=by
 refine thn (ha pins s σ H _ I h) fun v s1 ⟨x,H1,I1,r1,q1⟩=>?_;refine thn (hb pins s1 σ H1 _ I1 q1) fun u s2 ⟨y,H2,I2,r2,q2⟩=>?_;exact hf v u s2 x y H2 I2 r1 r2 q2
def JO{op:Operator}{r:R2}(ho:OpR X (binaryOp op) r)(ha:PE X a ta)(hb:PE X b tb):PE X (.BinOp a op b pos) (tOp r ta tb):=by
 intro pins s σ H Q I h;exact wpAny_BinOp (binT ha hb I h fun v u s2 x y H2 I2 rx ry q=>ho pins s2 σ H2 x y v u Q I2 rx ry q)
def Xe{op:UnaryOp}{r:V->Hp->VK->Prop}(ho:UnR X (unaryOp op) r)(ha:PE X a ta):PE X (.UnaryOp op a pos) (tUn r ta):=by
 intro pins s σ H Q I h;exact UnaryOp_ (thn (ha pins s σ H _ I h) fun v s1 ⟨x,H1,I1,r1,q1⟩=>ho pins s1 σ H1 x v Q I1 r1 q1)
def opI{f:Value->Value->Sem Value}{C:Int->Int->Prop}{g:Int->Int->Int}(rule:∀(i j:Int) (t u:Tok) (s:Shared) (Q:Value->Shared->Prop) (E:Value->Shared->Prop),C i j->Q (.int (g i j) s.toks) {s with toks:=s.toks+1}->wpAny (model X.prog X.w) X.A (f (.int i t) (.int j u)) Q E s) :
  OpR X f (rI C fun i j=>.int (g i j)):=by
 intro pins s σ H x y v u Q I rx ry h;obtain⟨i,j,rfl,rfl,hc,q⟩:=h;obtain⟨t,rfl⟩:=rx;obtain⟨t',rfl⟩:=ry;exact rule i j t t' s _ _ hc ⟨.int (g i j),H,I.tok _,⟨_,rfl⟩,q⟩
def opI0{f:Value->Value->Sem Value}{g:Int->Int->Int}(rule:∀(i j:Int) (t u:Tok) (s:Shared) (Q:Value->Shared->Prop) (E:Value->Shared->Prop),Q (.int (g i j) s.toks) {s with toks:=s.toks+1}->wpAny (model X.prog X.w) X.A (f (.int i t) (.int j u)) Q E s) :
  OpR X f (rI0 fun i j=>.int (g i j)):=by
 intro pins s σ H x y v u Q I rx ry h;obtain⟨i,j,rfl,rfl,q⟩:=h;obtain⟨t,rfl⟩:=rx;obtain⟨t',rfl⟩:=ry;exact rule i j t t' s _ _ ⟨.int (g i j),H,I.tok _,⟨_,rfl⟩,q⟩
def opB0{f:Value->Value->Sem Value}{g:Int->Int->Bool}(rule:∀(i j:Int) (t u:Tok) (s:Shared) (Q:Value->Shared->Prop) (E:Value->Shared->Prop),Q (.bool (g i j)) s->wpAny (model X.prog X.w) X.A (f (.int i t) (.int j u)) Q E s) :
  OpR X f (rI0 fun i j=>.bl (g i j)):=by
 intro pins s σ H x y v u Q I rx ry h;obtain⟨i,j,rfl,rfl,q⟩:=h;obtain⟨t,rfl⟩:=rx;obtain⟨t',rfl⟩:=ry;exact rule i j t t' s _ _ ⟨.bl (g i j),H,I,rfl,q⟩
def CDiv(i j:Int):Prop:=0<j/\j<1073741824
def CPow(i j:Int):Prop:=0<=j/\j<=1000000/\i.natAbs<2 ^ 64
def CMul(i j:Int):Prop:=(-(2 ^ 64)<i/\i<2 ^ 64)\/(-(2 ^ 64)<j/\j<2 ^ 64)
def CMul.ok {i j:Int} (h:CMul i j):IntMulOk i j:=by
 rcases h with⟨h1,h2⟩|⟨h1,h2⟩
 ·exact .of_left (intBits_le_64 h1 h2)
 ·exact .of_right (intBits_le_64 h1 h2)
def two_pow_nn(k:Nat):(0:Int)<=2 ^ k:=by
 rw[two_pow_cast];exact Int.natCast_nonneg _
def Ux:OpR X (binaryOp .Add) (rI0 fun i j=>.int (i+j)):=opI0 fun _ _ _ _ _ _ _ q=>add_int q
def UW:OpR X (binaryOp .Sub) (rI0 fun i j=>.int (i-j)):=opI0 fun _ _ _ _ _ _ _ q=>sub_int q
def KM:OpR X (binaryOp .Mult) (rI CMul fun i j=>.int (i*j)):=opI fun _ _ _ _ _ _ _ hc q=>mul_int q hc.ok
def UJ:OpR X (binaryOp .FloorDiv) (rI CDiv fun i j=>.int (i / j)):=opI fun i j _ _ _ _ _ hc q=>by
 have h1:(0:Int)<j:=hc.1;have h2:j<1073741824:=hc.2;exact floordiv_int (by omega) (by rw[Int.fdiv_eq_ediv_of_nonneg i (by omega)];exact q) (.inl (PyProof.noPylong_small (by omega)))
def Ut:OpR X (binaryOp .Mod) (rI (fun _ j=>0<j) fun i j=>.int (i % j)):=opI fun i j _ _ _ _ _ hc q=>by
 have h1:(0:Int)<j:=hc;exact mod_int' (by omega) (by rw[Int.fmod_eq_emod_of_nonneg i (by omega)];exact q)
def Am:OpR X (binaryOp .Pow) (rI CPow fun i j=>.int (i ^ j.toNat)):=opI fun _ _ _ _ _ _ _ hc q=>pow_int_small hc.1 hc.2.1 hc.2.2 q
def TU:OpR X (binaryOp .LShift) (rI CPow fun i j=>.int (i*2 ^ j.toNat)):=opI fun _ _ _ _ _ _ _ hc q=>lshift_int_small hc.1 hc.2.1 hc.2.2 q
def SR:OpR X (binaryOp .RShift) (rI (fun _ j=>0<=j) fun i j=>.int (i / 2 ^ j.toNat)):=opI fun i j _ _ _ _ _ hc q=>
 rshift_int hc (by rw[Int.fdiv_eq_ediv_of_nonneg i (two_pow_nn _)];exact q)
def NL:OpR X (binaryOp .BitAnd) (rI0 fun i j=>.int (Builtin.bitAnd i j)):=opI0 fun _ _ _ _ _ _ _ q=>and_int q
def LF:OpR X (inplaceOp .Add) (rI0 fun i j=>.int (i+j)):=opI0 fun _ _ _ _ _ _ _ q=>iadd_int q
def Zec:OpR X (inplaceOp .BitOr) (rI0 fun i j=>.int (Builtin.bitOr i j)):=opI0 fun _ _ _ _ _ _ _ q=>ior_int q
def unI{f:Value->Sem Value}{g:Int->Int}(rule:∀(i:Int) (t:Tok) (s:Shared) (Q:Value->Shared->Prop) (E:Value->Shared->Prop),Q (.int (g i) s.toks) {s with toks:=s.toks+1}->wpAny (model X.prog X.w) X.A (f (.int i t)) Q E s) :
  UnR X f (rU fun i=>.int (g i)):=by
 intro pins s σ H x v Q I rx h;obtain⟨i,rfl,q⟩:=h;obtain⟨t,rfl⟩:=rx;exact rule i t s _ _ ⟨.int (g i),H,I.tok _,⟨_,rfl⟩,q⟩
def Xd:UnR X (unaryOp .USub) (rU fun i=>.int (-i)):=unI fun _ _ _ _ _ q=>neg_int q
end
def scal:V->V->Bool
 | .non,.non=>true | .non,.int _=>true | .int _,.non=>true | .non,.bl _=>true | .bl _,.non=>true | .non,.str _=>true | .str _,.non=>true
 | .int _,.int _=>true | .bl _,.bl _=>true | .str _,.str _=>true | .byt _,.byt _=>true
 | .int _,.str _=>true | .str _,.int _=>true | .bl _,.str _=>true | .str _,.bl _=>true
 |_,_=>false
def rEq:R2:=fun x y H Q=>scal x y=true/\Q (.bl (decide (x=y))) H
def rNe:R2:=fun x y H Q=>scal x y=true/\Q (.bl (!decide (x=y))) H
def EO{i j:Int}:decide (V.int i=V.int j)=(i==j):=by
 rw[Vn];simp
def CT{i j:Bool}:decide (V.bl i=V.bl j)=(i==j):=by
 rw[Vn];simp
def Cg{i j:Str}:decide (V.str i=V.str j)=(i==j):=by
 rw[Vn];simp
def G4{i j:Array UInt8}:decide (V.byt i=V.byt j)=(i.toList==j.toList):=by
 rw[Vn];cases i
 cases j
 simp
section
variable {X:Cx}{a b c:Expr}{ta tb tc:TE}{pos:Pos}
def U5{pins:List (Addr×Obj)}{σ:St}{H:Hp}{s:Shared}{Q:VK}{k k':Bool}(I:Inv X pins σ H s)(q:Q (.bl k) H)(e:k=k'):EP X pins σ Q (.bool k') s:=by
 subst e;exact⟨.bl k,H,I,rfl,q⟩
def op_eq:OpR X (compareOp .Eq) rEq:=by
 intro pins s σ H x y v u Q I rx ry h;obtain⟨hs,q⟩:=h;cases x with
 |non=>
  cases rx
  cases y with
  |non=>cases ry;exact PySem.EqNone.eq_none_none (U5 I q (by simp))
  |bl j=>cases ry;exact PySem.EqNone.eq_none_bool (U5 I q (by simp))
  |int j=>obtain⟨t',rfl⟩:=ry;exact PySem.EqNone.eq_none_int (U5 I q (by simp))
  |str j=>obtain⟨t',rfl⟩:=ry;exact PySem.EqNone.eq_none_str (U5 I q (by simp))
  |_=>exact absurd (show false=true from hs) Y6
 |bl i=>
  cases rx
  cases y with
  |non=>cases ry;exact PySem.EqNone.eq_bool_none (U5 I q (by simp))
  |bl j=>cases ry;exact eq_bool (U5 I q CT)
  |str j=>obtain⟨t',rfl⟩:=ry;exact PySem.EqMixed.eq_bool_str (U5 I q (by simp))
  |_=>exact absurd (show false=true from hs) Y6
 |int i=>
  obtain⟨t,rfl⟩:=rx;cases y with
  |non=>cases ry;exact PySem.EqNone.eq_int_none (U5 I q (by simp))
  |int j=>obtain⟨t',rfl⟩:=ry;exact eq_int (U5 I q EO)
  |str j=>obtain⟨t',rfl⟩:=ry;exact PySem.EqMixed.eq_int_str (U5 I q (by simp))
  |_=>exact absurd (show false=true from hs) Y6
 |str i=>
  obtain⟨t,rfl⟩:=rx;cases y with
  |non=>cases ry;exact PySem.EqNone.eq_str_none (U5 I q (by simp))
  |bl j=>cases ry;exact PySem.EqMixed.eq_str_bool (U5 I q (by simp))
  |int j=>obtain⟨t',rfl⟩:=ry;exact PySem.EqMixed.eq_str_int (U5 I q (by simp))
  |str j=>obtain⟨t',rfl⟩:=ry;exact eq_str (U5 I q Cg)
  |_=>exact absurd (show false=true from hs) Y6
 |byt i=>
  obtain⟨t,rfl⟩:=rx;cases y with
  |byt j=>obtain⟨t',rfl⟩:=ry;exact PySem.W.eq_bytes (U5 I q G4)
  |_=>exact absurd (show false=true from hs) Y6
 |_=>cases y<;>exact absurd (show false=true from hs) Y6
def op_ne:OpR X (compareOp .NotEq) rNe:=by
 intro pins s σ H x y v u Q I rx ry h;obtain⟨hs,q⟩:=h;cases x with
 |non=>
  cases rx
  cases y with
  |non=>cases ry;exact PySem.EqNone.ne_none_none (U5 I q (by simp))
  |bl j=>cases ry;exact PySem.EqNone.ne_none_bool (U5 I q (by simp))
  |int j=>obtain⟨t',rfl⟩:=ry;exact PySem.EqNone.ne_none_int (U5 I q (by simp))
  |str j=>obtain⟨t',rfl⟩:=ry;exact PySem.EqNone.ne_none_str (U5 I q (by simp))
  |_=>exact absurd (show false=true from hs) Y6
 |bl i=>
  cases rx
  cases y with
  |non=>cases ry;exact PySem.EqNone.ne_bool_none (U5 I q (by simp))
  |bl j=>cases ry;exact ne_bool (U5 I q (YQ not CT))
  |str j=>obtain⟨t',rfl⟩:=ry;exact PySem.EqMixed.ne_bool_str (U5 I q (by simp))
  |_=>exact absurd (show false=true from hs) Y6
 |int i=>
  obtain⟨t,rfl⟩:=rx;cases y with
  |non=>cases ry;exact PySem.EqNone.ne_int_none (U5 I q (by simp))
  |int j=>obtain⟨t',rfl⟩:=ry;exact ne_int (U5 I q (YQ not EO))
  |str j=>obtain⟨t',rfl⟩:=ry;exact PySem.EqMixed.ne_int_str (U5 I q (by simp))
  |_=>exact absurd (show false=true from hs) Y6
 |str i=>
  obtain⟨t,rfl⟩:=rx;cases y with
  |non=>cases ry;exact PySem.EqNone.ne_str_none (U5 I q (by simp))
  |bl j=>cases ry;exact PySem.EqMixed.ne_str_bool (U5 I q (by simp))
  |int j=>obtain⟨t',rfl⟩:=ry;exact PySem.EqMixed.ne_str_int (U5 I q (by simp))
  |str j=>obtain⟨t',rfl⟩:=ry;exact ne_str (U5 I q (YQ not Cg))
  |_=>exact absurd (show false=true from hs) Y6
 |byt i=>
  obtain⟨t,rfl⟩:=rx;cases y with
  |byt j=>obtain⟨t',rfl⟩:=ry;exact PySem.W.ne_bytes (U5 I q (YQ not G4))
  |_=>exact absurd (show false=true from hs) Y6
 |_=>cases y<;>exact absurd (show false=true from hs) Y6
def X1:OpR X (compareOp .Lt) (rI0 fun i j=>.bl (decide (i<j))):=opB0 fun _ _ _ _ _ _ _ q=>lt_int q
def Mm:OpR X (compareOp .LtE) (rI0 fun i j=>.bl (decide (i<=j))):=opB0 fun _ _ _ _ _ _ _ q=>le_int q
def Xp:OpR X (compareOp .Gt) (rI0 fun i j=>.bl (decide (j<i))):=opB0 fun _ _ _ _ _ _ _ q=>gt_int q
def P3:OpR X (compareOp .GtE) (rI0 fun i j=>.bl (decide (j<=i))):=opB0 fun _ _ _ _ _ _ _ q=>ge_int q
def OpR.or {f:Value->Value->Sem Value}{r r':R2} (h:OpR X f r) (h':OpR X f r'):OpR X f (fun x y H Q=>r x y H Q\/r' x y H Q):=by
 intro pins s σ H x y v u Q I rx ry q;rcases q with q|q
 ·exact h pins s σ H x y v u Q I rx ry q
 ·exact h' pins s σ H x y v u Q I rx ry q
def Ul(b:Expr){op:CmpOp}(h:op≠.In:=by decide)(h2:op≠.NotIn:=by decide):behindInMarks op b=false:=by
 have e1:(op==CmpOp.In)=false:=by cases op<;>first|rfl|exact absurd rfl h
 have e2:(op==CmpOp.NotIn)=false:=by cases op<;>first|rfl|exact absurd rfl h2
 cases b<;>simp[behindInMarks,e1,e2]
def KF{op:CmpOp}{r:R2}(ho:OpR X (compareOp op) r)(ha:PE X a ta)(hb:PE X b tb)(hm:behindInMarks op b=false):PE X (.Compare a [op] [b] pos) (tOp r ta tb):=by
 intro pins s σ H Q I h;exact wpAny_Compare1 (binT ha hb I h fun v u s2 x y H2 I2 rx ry q=>ho pins s2 σ H2 x y v u Q I2 rx ry q) hm
def Sw(t:TE):TT:=fun σ H Q=>t σ H fun x H'=>∃k,x=.bl k/\Q k H'
def Ui{op:CmpOp}{r:R2}(ho:OpR X (compareOp op) r)(ha:PE X a ta)(hb:PE X b tb)(hm:behindInMarks op b=false):PT X (.Compare a [op] [b] pos) (Sw (tOp r ta tb)):=by
 intro pins s σ H Q I h
 refine wpAny_isTrue_Compare1 (thn (ha pins s σ H _ I h) fun v s1 ⟨x,H1,I1,r1,q1⟩=>thn (hb pins s1 σ H1 _ I1 q1) fun u s2 ⟨y,H2,I2,r2,q2⟩=>
  thn (ho pins s2 σ H2 x y v u _ I2 r1 r2 q2) fun c s3 ⟨z,H3,I3,r3,k,e,q3⟩=>?_) hm
 subst e;cases r3
 exact WV ⟨H3,I3,q3⟩
def TruV(K:Za)(x:V)(H:Hp)(k:Bool):Prop:=
 match x with
 | .non=>k=false
 | .bl b=>k=b
 | .int i=>k=(i != 0)
 | .str y=>y.length<=sizeLine/\k=((y.length:Int) != 0)
 | .byt y=>y.size<=sizeLine/\k=((y.size:Int) != 0)
 | .ref p=>(∃xs,SqL K H p xs/\k=!xs.isEmpty)\/(∃xs,SqT K H p xs/\k=!xs.isEmpty)\/∃kvs,H p=some (.dK kvs)/\k=!kvs.isEmpty
 |_=>False
def OW{κ:Type}{kvs:List (κ×V)}{vs:List (κ×Value)}(r:KV kvs vs):(!vs.isEmpty)=!kvs.isEmpty:=by
 cases r<;>rfl
def CZ{xs:List V}{its:List Value}(r:Vals xs its):(!its.toArray.isEmpty)=!xs.isEmpty:=by
 cases r<;>simp
def Ta:(sizeLine:Nat)<2 ^ 63:=by rw[sizeLine_eq];decide
def MA:TruR X (fun x H Q=>∃k,TruV X.K x H k/\Q k H):=by
 intro pins s σ H x v Q I rx h;obtain⟨k,e,q⟩:=h;have hl:=Ta;have hs:sizeLine=16777216:=sizeLine_eq;cases x with
 |non=>
  cases rx
  have e':k=false:=e;subst e';exact truthy_none ⟨H,I,q⟩
 |bl b=>
  cases rx
  have e':k=b:=e;subst e';exact WV ⟨H,I,q⟩
 |int i=>
  obtain⟨t,rfl⟩:=rx;have e':k=(i != 0):=e;subst e';exact PySem.P.truthy_int ⟨H,I,q⟩
 |str y=>
  obtain⟨t,rfl⟩:=rx;obtain⟨hy,e'⟩:y.length<=sizeLine/\k=((y.length:Int) != 0):=e;subst e';exact PySem.P.truthy_str (by omega) ⟨H,I.tok _,q⟩
 |byt y=>
  obtain⟨t,rfl⟩:=rx;obtain⟨hy,e'⟩:y.size<=sizeLine/\k=((y.size:Int) != 0):=e;subst e';exact PySem.W.truthy_bytes (by omega) ⟨H,I.tok _,q⟩
 |ref p=>
  cases rx
  have e':(∃xs,SqL X.K H p xs/\k=!xs.isEmpty)\/(∃xs,SqT X.K H p xs/\k=!xs.isEmpty)\/∃kvs,H p=some (.dK kvs)/\k=!kvs.isEmpty:=e;rcases e' with⟨xs,hx,e'⟩|⟨xs,hx,e'⟩|⟨kvs,hx,e'⟩
  ·subst e';obtain⟨its,r,pl,hz⟩:=I.list hx;have hlen:=r.length;exact wpAny_truthy_list pl.isList (by simp only[Y0];omega) ⟨H,I.tok _,by rw[CZ r];exact q⟩
  ·subst e';obtain⟨its,r,pl,hz⟩:=I.tuple hx;have hlen:=r.length;exact truthy_tuple pl (by simp only[Y0];omega) ⟨H,I.tok _,by rw[CZ r];exact q⟩
  ·subst e';obtain⟨hz,hS,vs,r,m⟩:kvs.length<=sizeLine/\(p==sysModules)=false/\∃vs,KV kvs vs/\s.heap.DictOf (X8 X.prog X.w) p vs:=I.hok p _ hx;have hlen:kvs.length=vs.length:=Paired.length r;exact wpAny_truthy_dict hS m (by omega) ⟨H,I.tok _,by rw[OW r];exact q⟩
 |_=>exact(show False from e).elim
def M8(ha:PE X a ta)(he:∀whole,isTrue a X.env whole=(do let v ←whole;standAt a.pos;holding [v] (truthy v))) :
  PT X a (fun σ H Q=>ta σ H fun x H'=>∃k,TruV X.K x H' k/\Q k H'):=by
 intro pins s σ H Q I h;exact isTrue_plain (thn (ha pins s σ H _ I h) fun v s1 ⟨x,H1,I1,r1,q1⟩=>MA pins s1 σ H1 x v Q I1 r1 q1) (he _)
def vals1{x:V}{us:List Value}(r:Vals [x] us):∃u,us=[u]/\RelV x u:=by
 cases r with
 |cons r1 r2=>cases r2;exact⟨_,rfl,r1⟩
def vals2{x y:V}{us:List Value}(r:Vals [x,y] us):∃u w',us=[u,w']/\RelV x u/\RelV y w':=by
 cases r with
 |cons r1 r2=>
  cases r2 with
  |cons r3 r4=>cases r4;exact⟨_,_,rfl,r1,r3⟩
def GQ(hc:X.calm=true):UX X (.builtin "max") (fun xs H Q=>∃i j,xs=[.int i,.int j]/\Q (.int (if j>i then j else i)) H):=by
 intro pins s σ H xs us Q I r h;obtain⟨i,j,rfl,q⟩:=h;obtain⟨u,w',rfl,⟨t,rfl⟩,⟨t',rfl⟩⟩:=vals2 r;refine max_two_ints (I.ok.hd hc) fun h' tk k=>⟨_,H,I.kept k,?_,q⟩;by_cases hj:j>i
 ·rw[Yr hj,Yr hj];exact⟨_,rfl⟩
 ·rw[Yp hj,Yp hj];exact⟨_,rfl⟩
def Ri:UX X (.type "int") (fun xs H Q=>(∃i,xs=[.int i]/\Q (.int i) H)\/∃k,xs=[.bl k]/\Q (.int (if k then 1 else 0)) H):=by
 intro pins s σ H xs us Q I r h;rcases h with⟨i,rfl,q⟩|⟨k,rfl,q⟩
 ·obtain⟨u,rfl,t,rfl⟩:=vals1 r;exact call_int_int ⟨.int i,H,I,⟨_,rfl⟩,q⟩
 ·obtain⟨u,rfl,r1⟩:=vals1 r;cases r1
  exact call_int_bool ⟨.int (if k then 1 else 0),H,I.tok _,⟨_,rfl⟩,q⟩
def LenV(K:Za)(x:V)(H:Hp)(n:Nat):Prop:=
 match x with
 | .str y=>y.length<=sizeLine/\n=y.length
 | .byt y=>y.size<=sizeLine/\n=y.size
 | .ref p=>(∃xs,SqL K H p xs/\n=xs.length)\/∃xs,SqT K H p xs/\n=xs.length
 |_=>False
def RM:UX X (.builtin "len") (fun xs H Q=>∃x n,xs=[x]/\LenV X.K x H n/\Q (.int n) H):=by
 intro pins s σ H xs us Q I r h;obtain⟨x,n,rfl,e,q⟩:=h;obtain⟨u,rfl,rx⟩:=vals1 r;have hl:=Ta;have hs:sizeLine=16777216:=sizeLine_eq;cases x with
 |str y=>
  obtain⟨t,rfl⟩:=rx;obtain⟨hy,e'⟩:y.length<=sizeLine/\n=y.length:=e;subst e';exact len_str (by omega) ⟨.int _,H,I.tok _,⟨_,rfl⟩,q⟩
 |byt y=>
  obtain⟨t,rfl⟩:=rx;obtain⟨hy,e'⟩:y.size<=sizeLine/\n=y.size:=e;subst e';exact PySem.W.len_bytes (by omega) ⟨.int _,H,I.tok _,⟨_,rfl⟩,q⟩
 |ref p=>
  cases rx
  have e':(∃xs,SqL X.K H p xs/\n=xs.length)\/∃xs,SqT X.K H p xs/\n=xs.length:=e;rcases e' with⟨xs,hx,e'⟩|⟨xs,hx,e'⟩
  ·subst e';obtain⟨its,r',pl,hz⟩:=I.list hx;have hlen:=r'.length;exact Calls.call_len_list pl.isList (by simp only[Y0];omega) ⟨.int xs.length,H,I.tok _,⟨_,by simp only[Y0];rw[hlen]⟩,q⟩
  ·subst e';obtain⟨its,r',pl,hz⟩:=I.tuple hx;have hlen:=r'.length;exact len_tuple pl (by simp only[Y0];omega) ⟨.int xs.length,H,I.tok _,⟨_,by simp only[Y0];rw[hlen]⟩,q⟩
 |_=>exact(show False from e).elim
end
structure ObjM (h:Heap) (x dx C:Addr) (mA:Str->Option Value):Prop where
 obj:h.get? x=some (PySem.W.instObj C dx)
 ns:h.Ns1 dx mA
 ne:dx≠x
def OD{h:Heap}{dx:Addr}{mA:Str->Option Value}(n:h.Ns1 dx mA):∃od,h.get? dx=some od/\∀name,PySem.W.lookIn name od=some (mA name):=by
 obtain⟨o,es,ep,ho,hd,hk,_,hm⟩:=n;refine⟨o,ho,fun name=>?_⟩;have e:=hm name;unfold nsFind findBy at e;rw[←Array.find?_toList]at e;unfold PySem.W.lookIn;rw[hd]
 dsimp only
 split
 ·rename_i y q;rw[q]at e;exact YQ some e
 ·rename_i q;rw[q]at e
  have a:es.toList.any (·.refKey)=false:=by
   rw[V8];intro y hy;obtain⟨z,t,hkey⟩:=hk y (Array.mem_toList_iff.mp hy);simp[DictEntry.refKey,hkey]
  have a':¬es.toList.any (·.refKey)=true:=by rw[a];exact Y6
  rw[Yp a'];exact YQ some e
def ObjM.look {h:Heap}{x dx C:Addr}{mA:Str->Option Value} (I:ObjM h x dx C mA):∃od,PySem.W.InstAt h x (PySem.W.instObj C dx) C (some od)/\∀name,PySem.W.lookIn name od=some (mA name):=
 let ⟨od,ho,hl⟩:=OD I.ns
 ⟨od,⟨I.obj,rfl,rfl,ho⟩,hl⟩
section
variable {prog:Program}{w:World}{A:Around}{E:Value->Shared->Prop}{s:Shared}{K:Za}{x dx C f:Addr}{mA:Str->Option Value}{name:Str}{v:Value}
def MG{expr:Bool}{Q:Value->Shared->Prop}(X:K.In s.heap)(I:ObjM s.heap x dx C mA)(hg:PySem.W.plainGet K C name=true)(hh:PySem.W.hasDictIn K C=true)(ha:PySem.W.findIn K (.ref C) name=some none)(hv:mA name=some v)(hv':PySem.W.handedIn v=true)(h:Q v {s with toks:=s.toks+1}) :
  wpAny (model prog w) A (getAttr (.ref x) name expr) Q E s:=by
 obtain⟨od,J,hl⟩:=I.look;exact PySem.W.get_value X J (Vv hg).1 (PySem.W.findObj_own hh ha rfl (by rw[hl,hv])) hv' h
def Zb5{pl:Sem Bool}{Q:Value×List Value->Shared->Prop}(X:K.In s.heap)(I:ObjM s.heap x dx C mA)(hg:PySem.W.plainGet K C name=true)(hf:PySem.W.findIn K (.ref C) name=some (some (.ref f)))(ht:PySem.W.isFn K (.ref f)=true)(hv:mA name=none)(h:Q (.ref f,[.ref x]) s) :
  wpAny (model prog w) A (getMethod (.ref x) name pl) Q E s:=by
 obtain⟨od,J,hl⟩:=I.look;exact PySem.W.method_fn X J (Vv hg).1 (Vv hg).2 hf (beq_iff_eq.mp ht) (by show(PySem.W.lookIn name od).map (·.isSome)=some false;rw[hl,hv];rfl) h
def Zbi{ns:List Str}{Q:Unit->Shared->Prop}(X:K.In s.heap)(I:ObjM s.heap x dx C mA)(hs:PySem.W.findIn K (.ref C) "__setattr__"=some (some (.builtin "object.__setattr__")))(hp:PySem.W.plainOver K C=true)(ht:PySem.W.takerIn K C name=some none)(hh:PySem.W.hasDictIn K C=true)(hw:PySem.Within mA ns)(hsz:ns.length<=sizeLine)(h:∀h',ObjM h' x dx C (fun y=>if y=name then some v else mA y)->Heap.SameBut dx s.heap h'->Q () {s with heap:=h',toks:=s.toks+2}) :
  wpAny (model prog w) A (setAttr (.ref x) name v) Q E s:=by
 obtain⟨od,J,hl⟩:=I.look;refine PySem.W.set_plain X J hs (PySem.W.osa_open (s:={s with toks:=s.toks+1}) (r:=none) X J hp ht fun b=>?_)
 obtain⟨cd,hc,hd'⟩:=PySem.W.any_some hh;have hx:s.heap.get? x=some ⟨.ref C,some dx,.plain,#[]⟩:=I.obj;refine Yn (Ys (Yn (Yn (wpAny_loadPart hx (Yn (PySem.W.Looks.here (s:={s with toks:=s.toks+1}) (PySem.W.looks_clsIn X hc) ?_))))))
 rw[hd'];refine Ys (a:=some dx) (Yn (Ys (Yn ?_)));refine wpAny_nsSet1 (s:={s with toks:=s.toks+1}) I.ns fun h' hn2 hs2=>?_
 obtain⟨oD,esD,epD,hoD,hdD,hcD⟩:=hn2.count (PySem.Within.cons name v hw);refine Yn (wpAny_lookBehind hoD (by rw[hdD];exact pastItsLine_dict (Y4 hcD (by rw[YE];omega))) ?_);exact Ys (h _ ⟨(hs2.2 _ (Ne.symm I.ne)).trans I.obj,hn2,I.ne⟩ hs2)
def Zbb{R:Result->Shared->Prop}{vs:List Value}{kw:List (Str×Value)}(X:K.In s.heap)(hm:PySem.W.makesIn K C=true)(hi:PySem.W.findIn K (.ref C) "__init__"=some (some (.ref f)))(hf:PySem.W.typeIn K (.ref f)=some (.type "function"))
  (h:codeAny (model prog w) (A.under (.builtin "type.__call__" ⟨.ref C::vs,kw⟩)) (.call (.ref f) ⟨.ref (s.heap.objs.size+1)::vs,kw⟩) (PySem.W.InitBack (s.heap.objs.size+1) R)
   {s with heap:=(s.heap.push PySem.W.emptyDict).push (PySem.W.instObj C s.heap.objs.size)}) :
  codeAny (model prog w) A (.call (.ref C) ⟨vs,kw⟩) R s:=by
 obtain⟨hh,g,d,t,os⟩:=s;exact PySem.W.make_core (PySem.W.makes_of X hm) (PySem.W.looks_findIn X hi) (fun self=>PySem.W.bind_fn X self hf) (.inl rfl) h
end
def putF(f:Str)(v:V):List (Str×V)->List (Str×V)
 |[]=>[(f,v)]
 |(g,x)::r=>if g=f then(g,v)::r else(g,x)::putF f v r
def Ef(f g:Str)(v:V):∀fs:List (Str×V),(putF f v fs).lookup g=if g=f then some v else fs.lookup g
 |[]=>by
  show List.lookup g [(f,v)]=_;by_cases h:g=f
  ·have hb:(g==f)=true:=beq_iff_eq.mpr h;simp only[List.lookup,hb,Yr h]
  ·have hb:(g==f)=false:=W8.mpr h;simp only[List.lookup,hb,Yp h]
 |(k,x)::r=>by
  have ih:=Ef f g v r;rw[show putF f v ((k,x)::r)=(if k=f then(k,v)::r else(k,x)::putF f v r)from rfl]
  by_cases hk:k=f
  ·rw[Yr hk];by_cases h:g=k
   ·have hb:(g==k)=true:=beq_iff_eq.mpr h;simp only[List.lookup,hb,Yr (h.trans hk)]
   ·have hb:(g==k)=false:=W8.mpr h;simp only[List.lookup,hb,Yp (fun e:g=f=>h (e.trans hk.symm))]
  ·rw[Yp hk];by_cases h:g=k
   ·have hb:(g==k)=true:=beq_iff_eq.mpr h;simp only[List.lookup,hb,Yp (fun e:g=f=>hk (h.symm.trans e))]
   ·have hb:(g==k)=false:=W8.mpr h;simp only[List.lookup,hb];exact ih
def BL(f:Str)(v:V):∀fs:List (Str×V),f∈(putF f v fs).map (·.1)/\∀g,g∈fs.map (·.1)->g∈(putF f v fs).map (·.1)
 |[]=>⟨by simp[putF],fun g h=>by simp at h⟩
 |(k,x)::r=>by
  obtain⟨i1,i2⟩:=BL f v r;rw[show putF f v ((k,x)::r)=(if k=f then(k,v)::r else(k,x)::putF f v r)from rfl]
  by_cases hk:k=f
  ·rw[Yr hk];subst hk;exact⟨by simp,fun g h=>by simpa using h⟩
  ·rw[Yp hk];refine⟨?_,fun g h=>?_⟩
   ·rw[Y9];exact YF _ i1
   ·rw[Y9]at h ⊢;rcases Y2.mp h with e|e
    ·exact Y2.mpr (.inl e)
    ·exact YF _ (i2 g e)
def Cj(f:Str)(v:V):∀fs:List (Str×V),(putF f v fs).length<=fs.length+1
 |[]=>by simp[putF]
 |(k,x)::r=>by
  have ih:=Cj f v r;rw[show putF f v ((k,x)::r)=(if k=f then(k,v)::r else(k,x)::putF f v r)from rfl]
  by_cases hk:k=f
  ·rw[Yr hk,YE,YE];omega
  ·rw[Yp hk,YE,YE];omega
def RelO.some_of {v:V}{o:Option Value} (r:RelO (some v) o):∃u,o=some u/\RelV v u:=by
 cases o with
 |none=>exact(show False from r).elim
 |some u=>exact⟨u,rfl,r⟩
def RelO.none_of {o:Option Value} (r:RelO none o):o=none:=by
 cases o with
 |none=>rfl
 |some u=>exact(show False from r).elim
def Ln{v:V}{u:Value}(r:RelV v u):PySem.W.handedIn u=true:=by
 cases v with
 |non=>cases (show u=Value.none from r);rfl
 |bl b=>cases (show u=Value.bool b from r);rfl
 |int i=>obtain⟨t,e⟩:=(show ∃t,u=Value.int i t from r);cases e;rfl
 |str x=>obtain⟨t,e⟩:=(show ∃t,u=Value.str x t from r);cases e;rfl
 |byt b=>obtain⟨t,e⟩:=(show ∃t,u=Value.bytes b t from r);cases e;rfl
 |flt b=>obtain⟨t,e⟩:=(show ∃t,u=Value.float b t from r);cases e;rfl
 |ref a=>cases (show u=Value.ref a from r);rfl
 |ty n=>cases (show u=Value.type n from r);rfl
section
variable {P:Program}{w:World}{H H':Hp}{h h':Heap}{a C dx:Addr}{fs fs':List (Str×V)}
def N7(hok:HOk P w H h)(e:H a=some (.ins C dx fs)):∃mA,ObjM h a dx C mA/\(∀f,RelO (fs.lookup f) (mA f))/\PySem.Within mA (fs.map (·.1))/\fs.length<=1000/\H dx=some (.own a):=by
 obtain⟨d,z,ne,ob,mA,n,r,q⟩:=(show ObjOk P w H h a (.ins C dx fs)from hok a _ e)
 exact⟨mA,⟨ob,n,ne⟩,r,q,z,d⟩
end
structure Cls (K:Za) (C:Addr):Prop where
 pg:PySem.W.plainGet K C Str.empty=true
 hd:PySem.W.hasDictIn K C=true
 po:PySem.W.plainOver K C=true
 sa:PySem.W.findIn K (.ref C) "__setattr__"=some (some (.builtin "object.__setattr__"))
def Cls.get {K:Za}{C:Addr} (c:Cls K C) (f:Str):PySem.W.plainGet K C f=true:=c.pg
def NoAttr(K:Za)(C:Addr)(f:Str):Prop:=PySem.W.findIn K (.ref C) f=some none
def NoAttr.taker {K:Za}{C:Addr}{f:Str} (n:NoAttr K C f):PySem.W.takerIn K C f=some none:=by
 unfold PySem.W.takerIn;rw[show PySem.W.findIn K (.ref C) f=some none from n]
 rfl
structure Meth (K:Za) (C:Addr) (m:Str) (f:Addr):Prop where
 at_:PySem.W.findIn K (.ref C) m=some (some (.ref f))
 fn:PySem.W.isFn K (.ref f)=true
 kp:PySem.W.keepIn K (.ref f)=true
section
variable {X:Cx}{pins:List (Addr×Obj)}{σ:St}{H:Hp}{s:Shared}{a C dx:Addr}{fs:List (Str×V)}{f:Str}{v:V}{A:Around}{E:Value->Shared->Prop}
def Zfa{b:Bool}{Q:Value->Shared->Prop}(I:Inv X pins σ H s)(e:H a=some (.ins C dx fs))(c:Cls X.K C)(n:NoAttr X.K C f)(l:fs.lookup f=some v)(h:∀u s',Inv X pins σ H s'->RelV v u->Q u s'):wpAny (model X.prog X.w) A (getAttr (.ref a) f b) Q E s:=by
 obtain⟨mA,O,r,_,_,_⟩:=N7 I.hok e;obtain⟨u,hu,ru⟩:=RelO.some_of (v:=v) (o:=mA f) (by rw[←l];exact r f);exact MG I.kIn O (c.get f) c.hd n hu (Ln ru) (h u _ (I.tok _) ru)
def AA{m:Str}{g:Addr}{pl:Sem Bool}{Q:Value×List Value->Shared->Prop}(I:Inv X pins σ H s)(e:H a=some (.ins C dx fs))(c:Cls X.K C)(k:Meth X.K C m g)(l:fs.lookup m=none)(h:Q (.ref g,[.ref a]) s):wpAny (model X.prog X.w) A (getMethod (.ref a) m pl) Q E s:=by
 obtain⟨mA,O,r,_,_,_⟩:=N7 I.hok e;have hn:mA m=none:=RelO.none_of (by rw[←l];exact r m);exact Zb5 I.kIn O (c.get m) k.at_ k.fn hn h
def R8{y:V}{u:Value}{Q:Unit->Shared->Prop}(I:Inv X pins σ H s)(e:H a=some (.ins C dx fs))(c:Cls X.K C)(n:NoAttr X.K C f)(hl:fs.length<1000)(ry:RelV y u)(h:∀s',Inv X pins σ (upd H a (.ins C dx (putF f y fs))) s'->Q () s'):wpAny (model X.prog X.w) A (setAttr (.ref a) f u) Q E s:=by
 obtain⟨mA,O,r,wi,_,ho⟩:=N7 I.hok e;have hz:(fs.map (·.1)).length<=sizeLine:=by rw[Ym,sizeLine_eq];omega
 refine Zbi I.kIn O c.sa c.po n.taker c.hd wi hz fun h' O' sb=>h _ ?_;have hd:∃o,h'.get? dx=some o:=let ⟨o,_,_,e',_⟩:=O'.ns;⟨o,e'⟩;refine I.write (x:=a) (e:=dx) (by rw[e];exact True.intro) (.inr ho) (fun b q hb z=>(sb.2 b hb).trans z) hd ?_;refine⟨by rw[Um O.ne];exact ho,?_,O.ne,O'.obj,_,O'.ns,fun g=>?_,fun g hg=>?_⟩
 ·have:=Cj f y fs;omega
 ·show RelO ((putF f y fs).lookup g) (if g=f then some u else mA g);rw[Ef];by_cases q:g=f
  ·rw[Yr q,Yr q];exact ry
  ·rw[Yp q,Yp q];exact r g
 ·by_cases q:g=f
  ·rw[q];exact(BL f y fs).1
  ·refine(BL f y fs).2 g (wi g fun z=>hg ?_);show(if g=f then some u else mA g)=none;rw[Yp q];exact z
def Inv.made (I:Inv X pins σ H s):Inv X pins σ (upd (upd H s.heap.objs.size (.own (s.heap.objs.size+1))) (s.heap.objs.size+1) (.ins C s.heap.objs.size []))
  {s with heap:=(s.heap.push PySem.W.emptyDict).push (PySem.W.instObj C s.heap.objs.size)}:=by
 have e1:(s.heap.push PySem.W.emptyDict).get? s.heap.objs.size=some PySem.W.emptyDict:=Y5 s.heap rfl
 have e2:((s.heap.push PySem.W.emptyDict).push (PySem.W.instObj C s.heap.objs.size)).get? (s.heap.objs.size+1)=some (PySem.W.instObj C s.heap.objs.size):=by
  have:=Y5 (s.heap.push PySem.W.emptyDict) (o:=PySem.W.instObj C s.heap.objs.size) rfl
  rwa[Qe]at this
 have e3:(s.heap.push PySem.W.emptyDict).Ns s.heap.objs.size (fun _=>none):=⟨PySem.W.emptyDict,#[],_,e1,rfl,(fun e he=>absurd he (by simp)),fun _=>rfl⟩;have I1:=I.laid (a:=s.heap.objs.size) (o:=.own (s.heap.objs.size+1)) (h':=s.heap.push PySem.W.emptyDict) (t':=s.toks) (fun b u q=>Yv _ q) (Yy _) ⟨_,e1⟩;refine I1.laid (a:=s.heap.objs.size+1) (o:=.ins C s.heap.objs.size []) (t':=s.toks) (fun b u q=>Yv _ q) (WG (Qe _ _)) ?_;have ne:s.heap.objs.size≠s.heap.objs.size+1:=YM (Qg _);refine⟨by rw[Um ne,U6],Ww _,ne,e2,fun _=>none,(Heap.Ns1.of_empty e3).at fun o q=>Yv _ q,fun _=>True.intro,fun y hy=>absurd rfl hy⟩
def IW{prog:Program}{w:World}{env:Env}{e:Expr}{f:Str}{pos:Pos}{s:Shared}{Q:Value->Shared->Prop}(hb:attributeBase e f env (eval e env)=eval e env)(h:wpAny (model prog w) A (eval e env) (fun o s₁=>wpAny (model prog w) A (getAttr o f true) Q E s₁) E s):wpAny (model prog w) A (eval (.Attribute e f pos) env) Q E s:=
 Attribute_any_ h (by rw[arm_eval_Attribute,hb])
end
def tFld(K:Za)(ta:TE)(f:Str):TE:=fun σ H Q=>ta σ H fun x H1=>∃a C dx fs v,x=.ref a/\H1 a=some (.ins C dx fs)/\Cls K C/\NoAttr K C f/\fs.lookup f=some v/\Q v H1
def sFld(K:Za)(ta tv:TE)(f:Str):TS:=fun D σ H=>tv σ H fun y H1=>ta σ H1 fun x H2=>∃a C dx fs,x=.ref a/\H2 a=some (.ins C dx fs)/\Cls K C/\NoAttr K C f/\fs.length<1000/\
 D.nx σ (upd H2 a (.ins C dx (putF f y fs)))
section
variable {X:Cx}{o e value:Expr}{f:Str}{pos pos' tpos:Pos}{ta tv:TE}
def Km(he:PE X e ta)(hb:attributeBase e f X.env (eval e X.env)=eval e X.env):PE X (.Attribute e f pos) (tFld X.K ta f):=by
 intro pins s σ H Q I h;refine IW hb (thn (he pins s σ H _ I h) fun u s1 ⟨x,H1,I1,rx,a,C,dx,fs,v,ex,ea,c,n,l,q⟩=>?_);subst ex;obtain rfl:u=Value.ref a:=rx;exact Zfa I1 ea c n l fun u' s2 I2 ru=>⟨v,H1,I2,ru,q⟩
def Br(ha:PE X o ta)(hv:PE X value tv)(hs:swapsWith value (some (.Attribute o f pos')) pos.line X.env=pure false):PS X (.Assign [.Attribute o f pos'] value pos) (sFld X.K ta tv f):=by
 intro pins s σ H D I h;refine plainObj_wpAny_Assign_Attribute (thn (hv pins s σ H _ I h) fun u s1 ⟨y,H1,I1,ry,q⟩=>thn (ha pins s1 σ H1 _ I1 q) fun ov s2 ⟨x,H2,I2,rx,a,C,dx,fs,ex,ea,c,n,l,q2⟩=>?_) hs;subst ex;obtain rfl:ov=Value.ref a:=rx;exact R8 I2 ea c n l ry fun s3 I3=>⟨σ,_,I3,q2⟩
def Zfq{pl:Sem Bool}{m:Str}{apos:Pos}{args:List Expr}{pins:List (Addr×Obj)}{s:Shared}{σ:St}{H:Hp}{Q:Value->Shared->Prop}{te:TE}(he:PE X e te)(I:Inv X pins σ H s)
  (h:te σ H fun x H1=>∃a C dx fs g,x=.ref a/\H1 a=some (.ins C dx fs)/\Cls X.K C/\Meth X.K C m g/\fs.lookup m=none/\
   ∀s1,Inv X pins σ H1 s1->wpAny (model X.prog X.w) X.A (callWith pos (.ref g) [.ref a] (backTo pos (starEach args X.env)) (backToKw pos (keywordEach [] X.env))) Q X.xe s1)
  (ht:eval (.Call (.Attribute e m apos) args [] pos) X.env=(do
   let ov ←eval e X.env
   standAt apos.atName
   let (f,first) ←holding [ov] (getMethod ov m pl)
   callWith pos f first (backTo pos (starEach args X.env)) (backToKw pos (keywordEach [] X.env)))) :
  wpAny (model X.prog X.w) X.A (eval (.Call (.Attribute e m apos) args [] pos) X.env) Q X.xe s:=by
 refine Vi (pl:=pl) (thn (he pins s σ H _ I h) fun u s1 ⟨x,H1,I1,rx,a,C,dx,fs,g,ex,ea,c,k,l,q⟩=>?_) ht;subst ex;obtain rfl:u=Value.ref a:=rx;exact AA I1 ea c k l (q s1 I1)
end
section
variable {X:Cx}{pins:List (Addr×Obj)}{σ:St}{H:Hp}{s:Shared}{A:Around}{E:Value->Shared->Prop}{Q:Value->Shared->Prop}{c:Value}{b:Bool}
inductive TyOf (K:Za) (H:Hp):V->Value->Prop where
 |non:TyOf K H .non (.type "NoneType")
 |bl (x:Bool):TyOf K H (.bl x) (.type "bool")
 |int (i:Int):TyOf K H (.int i) (.type "int")
 |str (x:Str):TyOf K H (.str x) (.type "str")
 |flt (x:UInt64):TyOf K H (.flt x) (.type "float")
 |lst {a:Addr} {xs:List V} (e:H a=some (.lst xs)):TyOf K H (.ref a) (.type "list")
 |frz {a:Addr} {o:Obj} {xs:List V} (e:H a=some (.frz o (.lst xs))):TyOf K H (.ref a) (.type "list")
 |tup {a:Addr} {xs:List V} (e:H a=some (.tup xs)):TyOf K H (.ref a) (.type "tuple")
 |dK {a:Addr} {kvs:List (Key×V)} (e:H a=some (.dK kvs)):TyOf K H (.ref a) (.type "dict")
 |dT {a:Addr} {kvs:List (List Key×V)} (e:H a=some (.dT kvs)):TyOf K H (.ref a) (.type "dict")
 |ins {a C dx:Addr} {fs:List (Str×V)} (e:H a=some (.ins C dx fs)) (cl:Cls K C) (ha:PySem.W.findIn K (.ref C) "__class__"=some (some (.builtin "object.__class__")))
   (hn:PySem.W.specialIn K (.builtin "object.__class__") "__get__"=some (some (.builtin "getset_descriptor.__get__"))) (htk:PySem.W.takesIn K (.builtin "object.__class__")=some true)
   (hm:PySem.W.mroIn K C (.type "object")=some true):TyOf K H (.ref a) (.ref C)
def IC{x:V}{u t:Value}(I:Inv X pins σ H s)(rx:RelV x u)(ty:TyOf X.K H x t)(e:PySem.W.kitOne X.K t c=some b)(h:∀tk,Q (.bool b) {s with toks:=tk}) :
  wpAny (model X.prog X.w) A (call (.builtin "isinstance") [u,c]) Q E s:=by
 cases ty with
 |non=>cases (show u=Value.none from rx);exact Wx PySem.W.kitx_none I.kIn True.intro e (fun z=>nomatch z) h
 |bl y=>cases (show u=Value.bool y from rx);exact Wx PySem.W.kitx_bool I.kIn True.intro e (fun z=>nomatch z) h
 |int i=>obtain⟨t,q⟩:=(show ∃t,u=Value.int i t from rx);cases q;exact Wx PySem.W.kitx_int I.kIn True.intro e (fun z=>nomatch z) h
 |str y=>obtain⟨t,q⟩:=(show ∃t,u=Value.str y t from rx);cases q;exact Wx PySem.W.kitx_str I.kIn True.intro e (fun z=>nomatch z) h
 |flt y=>obtain⟨t,q⟩:=(show ∃t,u=Value.float y t from rx);cases q;exact Wx PySem.W.kitx_float I.kIn True.intro e (fun z=>nomatch z) h
 | @lst a xs ea=>
  cases (show u=Value.ref a from rx)
  obtain⟨_,_,n,_,h1⟩:=(show ObjOk X.prog X.w H s.heap a (.lst xs)from I.hok a _ ea)
  exact Wx PySem.W.kitx_list I.kIn ⟨_,h1,rfl⟩ e (fun z=>nomatch z) h
 | @frz a ob xs ea=>
  cases (show u=Value.ref a from rx)
  obtain⟨_,_,_,n,_,h1⟩:=(show ObjOk X.prog X.w H s.heap a (.frz ob (.lst xs))from I.hok a _ ea)
  exact Wx PySem.W.kitx_list I.kIn ⟨_,h1,rfl⟩ e (fun z=>nomatch z) h
 | @tup a xs ea=>
  cases (show u=Value.ref a from rx)
  obtain⟨_,_,_,p⟩:=(show ObjOk X.prog X.w H s.heap a (.tup xs)from I.hok a _ ea)
  obtain⟨o,h1,h2,_⟩:=p;exact Wx PySem.W.kitx_tuple I.kIn ⟨o,h1,h2⟩ e (fun z=>nomatch z) h
 | @dK a kvs ea=>
  cases (show u=Value.ref a from rx)
  obtain⟨_,_,vs,_,p⟩:=(show ObjOk X.prog X.w H s.heap a (.dK kvs)from I.hok a _ ea)
  obtain⟨o,es,ep,h1,h2,_⟩:=p;exact Wx PySem.W.kitx_dict I.kIn ⟨o,h1,h2.1⟩ e (fun z=>nomatch z) h
 | @dT a kvs ea=>
  cases (show u=Value.ref a from rx)
  obtain⟨_,_,xs,_,o,es,ep,h1,h2,_⟩:=(show ObjOk X.prog X.w H s.heap a (.dT kvs)from I.hok a _ ea)
  exact Wx PySem.W.kitx_dict I.kIn ⟨o,h1,h2.1⟩ e (fun z=>nomatch z) h
 | @ins a C dx fs ea cl ha hn htk hm=>
  cases (show u=Value.ref a from rx)
  obtain⟨mA,O,_⟩:=N7 I.hok ea;obtain⟨od,J,_⟩:=O.look;exact Wx (PySem.W.kitx_own (cl.get _) cl.hd ha hn htk hm) I.kIn J e (fun z=>nomatch z) h
end
structure Room (k:Nat) (A:Around):Prop where
 hd:A.handled=none
 dp:A.depth+3*k+5<recursionLimit
 un:A.units+16*k+200<cLine
def Room.mono {j k:Nat}{A:Around} (r:Room k A) (h:j<=k):Room j A:=⟨r.hd,by have:=r.dp;omega,by have:=r.un;omega⟩
def Room.deeper {k:Nat}{A:Around} (r:Room (k+1) A) (env:Env):Room k (A.deeper env):=
 ⟨r.hd,by have:=r.dp;show A.depth+1+3*k+5<_;omega,by have:=r.un;show A.units+3+16*k+200<_;omega⟩
def R1{A:Around}{C:Addr}{us:List Value}{kw:List (Str×Value)}:(A.under (.builtin "type.__call__" ⟨.ref C::us,kw⟩)).depth=A.depth+1:=by
 first|rfl|simp[Around.under,Code.weight,Code.isCreation,Code.isGuard,Code.isCaller,Code.frames,Code.isFrame,guardIds]
def Le{A:Around}{C:Addr}{us:List Value}{kw:List (Str×Value)}:(A.under (.builtin "type.__call__" ⟨.ref C::us,kw⟩)).units=A.units+1:=by
 first|rfl|simp[Around.under,Code.cUnits,Code.frames,Code.isFrame]
def Room.make {k:Nat}{A:Around} (r:Room (k+1) A) (C:Addr) (us:List Value) (kw:List (Str×Value)):Room k (A.under (.builtin "type.__call__" ⟨.ref C::us,kw⟩)):=
 ⟨r.hd,by have:=r.dp;rw[R1];omega,by have:=r.un;rw[Le];omega⟩
def Room.depth {k:Nat}{A:Around} (r:Room k A):A.depth<recursionLimit:=by have:=r.dp;omega
def Room.units {k:Nat}{A:Around} (r:Room k A):A.units+64<cLine:=by have:=r.un;omega
def Room.units0 {k:Nat}{A:Around} (r:Room k A):A.units<cLine:=by have:=r.un;omega
def tNil:TA:=fun _ H Q=>Q [] H
def UU(ta:TE)(tr:TA):TA:=fun σ H Q=>ta σ H fun x H1=>tr σ H1 fun xs H2=>Q (x::xs) H2
section
variable {X:Cx}{e:Expr}{es:List Expr}{te:TE}{t:TA}{pos:Pos}
def Uv:PA X [] tNil:=fun _ _ _ _ H Q I h=>Calls.spliced_nil ⟨[],H,I,.nil,h⟩
def JU(ha:PE X e te)(hr:PA X es t)(hs:starEach (e::es) X.env=(false,eval e X.env)::starEach es X.env:=by rfl):PA X (e::es) (UU te t):=by
 intro pos pins s σ H Q I h;rw[hs];show wpAny _ _ (spliced ((false,eval e X.env)::backTo pos (starEach es X.env))) _ _ s;refine Calls.spliced_cons (thn (ha pins s σ H _ I h) fun u s1 ⟨x,H1,I1,r1,q1⟩=>?_);exact thn (hr pos pins s1 σ H1 _ I1 q1) fun us s2 ⟨xs,H2,I2,r2,q2⟩=>⟨x::xs,H2,I2,.cons r1 r2,q2⟩
def tTup(t:TA):TE:=fun σ H Q=>t σ H fun xs H1=>xs.length<=sizeLine/\∀p,H1 p=none->Q (.ref p) (upd H1 p (.tup xs))
def tLst(t:TA):TE:=fun σ H Q=>t σ H fun xs H1=>xs.length<=sizeLine/\∀p,H1 p=none->Q (.ref p) (upd H1 p (.lst xs))
def Up{x1}(h:PA X es t):PE X (.Tuple es x1 pos) (tTup t):=by
 intro pins s σ H Q I hq;refine wpAny_Tuple_spliced (thn (h pos pins s σ H _ I hq) fun us s1 ⟨xs,H1,I1,r,z,q⟩=>⟨by rw[←r.length];exact z,?_⟩);have hf:H1 s1.heap.objs.size=none:=I1.hok.fresh (Yy _);refine⟨.ref s1.heap.objs.size,upd H1 s1.heap.objs.size (.tup xs),I1.laid (t':=s1.toks) (fun b u e=>Yv _ e) (Yy _) ?_,rfl,q _ hf⟩;exact⟨z,us,r,⟨_,Y5 _ rfl,rfl,_,rfl⟩⟩
def Ug(h:PA X es t):PE X (.List es pos) (tLst t):=by
 intro pins s σ H Q I hq;refine wpAny_List_spliced (thn (h pos pins s σ H _ I hq) fun us s1 ⟨xs,H1,I1,r,z,q⟩=>⟨by rw[←r.length];exact z,?_⟩);have hf:H1 s1.heap.objs.size=none:=I1.hok.fresh (Yy _);refine⟨.ref s1.heap.objs.size,upd H1 s1.heap.objs.size (.lst xs),I1.laid (t':=s1.toks) (fun b u e=>Yv _ e) (Yy _) ?_,rfl,q _ hf⟩;exact⟨z,us,0,r,Y5 _ rfl⟩
end
abbrev Sp:=List V->Hp->VK->XK->Prop
abbrev CXT:=List Env->Hp->Shared->XK->Value->Shared->Prop
structure Env0 (P:Program) (w:World) (K:Za) (mg:Str->Option Value) (base:Heap) (A:Around) (outer:List Env) (s:Shared) (H:Hp):Prop where
 frames:A.frames=some outer
 mod:Mod K mg base
 bs:∀b o,base.get? b=some o->s.heap.get? b=some o/\H b=none
 bsz:base.objs.size<=s.heap.objs.size
 funs:s.heap.FunFrames base outer
 frf:∀b∈frs outer,H b=none
 hok:HOk P w H s.heap
 bare:AllBare s.gens
def CE(outer:List Env)(P:Program)(w:World)(H:Hp)(s:Shared)(Q:VK)(u:Value)(s':Shared):Prop:=
 ∃v H',s'.os=s.os/\AllBare s'.gens/\Un (frs outer) [] H H' s.heap s'.heap/\HOk P w H' s'.heap/\RelV v u/\Q v H'
def CR(CX:CXT)(outer:List Env)(P:Program)(w:World)(H:Hp)(s:Shared)(Q:VK)(E:XK)(r:Result)(s':Shared):Prop:=
 match r with
 | .ok (.ret u)=>CE outer P w H s Q u s'
 | .ok _=>False
 | .error e=>CX outer H s E e s'
structure FnOk (P:Program) (w:World) (K:Za) (mg:Str->Option Value) (base:Heap) (CX:CXT) (k:Nat) (f:Addr) (fd:FuncData) (ps:List Str) (sp:Sp):Prop where
 len:∀vs H Q E,sp vs H Q E->vs.length=ps.length
 run:∀(A:Around) (outer:List Env) (s:Shared) (H:Hp) (args:Args) (us:List Value) (vs:List V) (Q:VK) (E:XK),Room k A->Env0 P w K mg base A outer s H->BindsTo s fd args (ps.zip us)->Vals vs us->sp vs H Q E->
  codeAny (model P w) A (.call (.ref f) args) (CR CX outer P w H s Q E) s
def FnOk.imp {P:Program}{w:World}{K:Za}{mg:Str->Option Value}{base:Heap}{CX:CXT}{k:Nat}{f:Addr}{fd:FuncData}{ps:List Str}{sp sp':Sp} (F:FnOk P w K mg base CX k f fd ps sp)
  (h:∀vs H Q E,sp' vs H Q E->sp vs H Q E):FnOk P w K mg base CX k f fd ps sp':=
 ⟨fun vs H Q E q=>F.len vs H Q E (h _ _ _ _ q),fun A outer s H args us vs Q E hr he hb hv hs=>F.run A outer s H args us vs Q E hr he hb hv (h _ _ _ _ hs)⟩
def Env0.make {P:Program}{w:World}{K:Za}{mg:Str->Option Value}{base:Heap}{A:Around}{outer:List Env}{s:Shared}{H:Hp} (e:Env0 P w K mg base A outer s H) (C:Addr) (us:List Value) (kw:List (Str×Value)) :
  Env0 P w K mg base (A.under (.builtin "type.__call__" ⟨.ref C::us,kw⟩)) outer s H:=⟨by first|exact e.frames|(simpa [Around.under,Code.envs,Code.isFrame,pushEnvs]using e.frames),e.mod,e.bs,e.bsz,e.funs,e.frf,e.hok,e.bare⟩
section
variable {X:Cx}{pins:List (Addr×Obj)}{σ:St}{H:Hp}{s s':Shared}
def Inv.env0 (I:Inv X pins σ H s):Env0 X.prog X.w X.K X.mg X.base X.A X.stack s H:=
 ⟨I.ok.frames,I.ok.mod,I.bs,Y4 I.ok.bsz I.sz,I.stack,I.stkFree,I.hok,I.bare⟩
def Inv.after {Q:VK}{u:Value} (I:Inv X pins σ H s) (h:CE X.stack X.prog X.w H s Q u s'):EP X pins σ Q u s':=by
 obtain⟨v,H',os,bare,un,hok,r,q⟩:=h;obtain⟨hh,g,d,t,os'⟩:=s';obtain rfl:os'=s.os:=os;exact⟨v,H',I.call (h':=hh) (g':=g) (d':=d) (t':=t) (ch:=[]) un hok bare (fun b z=>absurd z (by simp)),r,q⟩
end
def KO(sp:Sp)(dvs:List V)(E:XK)(t:TA):TE:=fun σ H Q=>t σ H fun vs H1=>sp (vs++dvs) H1 Q E
def KS(C:Addr)(m:Str)(sp:Sp)(dvs:List V)(E:XK)(ta:TE)(t:TA):TE:=fun σ H Q=>ta σ H fun x H1=>∃a dx fs,x=.ref a/\H1 a=some (.ins C dx fs)/\fs.lookup m=none/\
 t σ H1 fun vs H2=>sp (x::(vs++dvs)) H2 Q E
def Bj(C:Addr)(sp:Sp)(dvs:List V)(E:XK)(t:TA):TE:=fun σ H Q=>t σ H fun vs H1=>∀x dx,H1 x=none->H1 dx=none->dx≠x->
 sp (.ref x::(vs++dvs)) (upd (upd H1 dx (.own x)) x (.ins C dx [])) (fun v H2=>v=.non/\Q (.ref x) H2) E
def Binds(K:Za)(fd:FuncData)(ps:List Str)(ds:List Value):Prop:=
 ∀(s:Shared) (us:List Value),K.In s.heap->(us++ds).length=ps.length->BindsTo s fd ⟨us,[]⟩ (ps.zip (us++ds))
def Binds.all {K:Za}{fd:FuncData}{ps:List Str} (h:∀us:List Value,us.length=ps.length->bindArgs fd ⟨us,[]⟩=pure (ps.zip us)):Binds K fd ps []:=fun s us _ hl=>by
 rw[Wb]at hl ⊢;exact .of_eq (h us hl)
def XI(CX:CXT)(X:Cx)(E:XK):Prop:=∀(pins:List (Addr×Obj)) (σ:St) (H:Hp) (s:Shared) (e:Value) (s':Shared),Inv X pins σ H s->CX X.stack H s E e s'->X.xe e s'
section
variable {X:Cx}{CX:CXT}{k:Nat}{f C:Addr}{fd:FuncData}{ps:List Str}{sp:Sp}{dvs:List V}{ds:List Value}{E:XK}{x m:Str}{p pos apos:Pos}{e o:Expr}{es:List Expr}{ta:TE}{t:TA}
def BB{pins:List (Addr×Obj)}{σ:St}{H:Hp}{s:Shared}{Q:VK}{us:List Value}{vs:List V}(F:FnOk X.prog X.w X.K X.mg X.base CX k f fd ps sp)(hr:Room k X.A)(hb:Binds X.K fd ps ds)(hd:Vals dvs ds)(hx:XI CX X E)(I:Inv X pins σ H s)(r:Vals vs us)(h:sp (vs++dvs) H Q E):wpAny (model X.prog X.w) X.A (call (.ref f) us) (EP X pins σ Q) X.xe s:=by
 have r2:Vals (vs++dvs) (us++ds):=r.append hd;have hl:(us++ds).length=ps.length:=by rw[←r2.length];exact F.len _ _ _ _ h
 refine wpAny_call (Qy (F.run X.A X.stack s H ⟨us,[]⟩ (us++ds) (vs++dvs) Q E hr I.env0 (hb s us I.kIn hl) r2 h) fun r s' hq=>?_);cases r with
 |error e=>exact hx pins σ H s e s' I hq
 |ok fl=>
  cases fl with
  |ret u=>exact I.after hq
  |next=>exact False.elim hq
  |brk=>exact False.elim hq
  |cont=>exact False.elim hq
def HQ(F:FnOk X.prog X.w X.K X.mg X.base CX k f fd ps sp)(hr:Room k X.A)(hg:Gl X x)(hm:X.mg x=some (.ref f))(hk:PySem.W.keepIn X.K (.ref f)=true)(hb:Binds X.K fd ps ds)(hd:Vals dvs ds)(hx:XI CX X E)(ha:PA X (e::es) t)(hdb:(x==("__debug__" : Str))=false:=by decide)(he:starEach (e::es) X.env=(false,eval e X.env)::starEach es X.env:=by rfl)(hpl:(backTo pos (starEach es X.env)).any (·.1)=false:=by rfl) :
  PE X (.Call (.Name x p) (e::es) [] pos) (KO sp dvs E t):=by
 intro pins s σ H Q I h;refine QF (NN I hg hm ?_ hdb);refine V4 (h₀:=X.base) I.ok.mod.kin hk (thn (ha pos pins s σ H _ I h) fun us s1 ⟨vs,H1,I1,r,q⟩=>⟨I1.kIn,?_⟩) he hpl;exact BB F hr hb hd hx I1 r q
def Oj{pl:Sem Bool}(he:PE X o ta)(c:Cls X.K C)(hm:Meth X.K C m f)(F:FnOk X.prog X.w X.K X.mg X.base CX k f fd ps sp)(hr:Room k X.A)(hb:Binds X.K fd ps ds)(hd:Vals dvs ds)(hx:XI CX X E)(ha:PA X (e::es) t)(hst:starEach (e::es) X.env=(false,eval e X.env)::starEach es X.env:=by rfl)(hpl:(backTo pos (starEach es X.env)).any (·.1)=false:=by rfl)
  (ht:eval (.Call (.Attribute o m apos) (e::es) [] pos) X.env=(do
   let ov ←eval o X.env
   standAt apos.atName
   let (f,first) ←holding [ov] (getMethod ov m pl)
   callWith pos f first (backTo pos (starEach (e::es) X.env)) (backToKw pos (keywordEach [] X.env))):=by rfl) :
  PE X (.Call (.Attribute o m apos) (e::es) [] pos) (KS C m sp dvs E ta t):=by
 intro pins s σ H Q I h;refine Vi (pl:=pl) (thn (he pins s σ H _ I h) fun u s1 ⟨x,H1,I1,rx,a,dx,fs,ex,ea,l,q⟩=>?_) ht;subst ex;obtain rfl:u=Value.ref a:=rx;refine AA I1 ea c hm l ?_;refine V4 (first:=[.ref a]) (h₀:=X.base) I.ok.mod.kin hm.kp (thn (ha pos pins s1 σ H1 _ I1 q) fun us s2 ⟨vs,H2,I2,r,q2⟩=>⟨I2.kIn,?_⟩) hst hpl
 exact BB (us:=.ref a::us) (vs:=.ref a::vs) F hr hb hd hx I2 (.cons rfl r) q2
def Rg{pl:Sem Bool}(he:PE X o ta)(c:Cls X.K C)(hm:Meth X.K C m f)(F:FnOk X.prog X.w X.K X.mg X.base CX k f fd ps sp)(hr:Room k X.A)(hb:Binds X.K fd ps ds)(hd:Vals dvs ds)(hx:XI CX X E)
  (ht:eval (.Call (.Attribute o m apos) [] [] pos) X.env=(do
   let ov ←eval o X.env
   standAt apos.atName
   let (f,first) ←holding [ov] (getMethod ov m pl)
   callWith pos f first (backTo pos (starEach [] X.env)) (backToKw pos (keywordEach [] X.env))):=by rfl) :
  PE X (.Call (.Attribute o m apos) [] [] pos) (KS C m sp dvs E ta tNil):=by
 intro pins s σ H Q I h;refine Vi (pl:=pl) (thn (he pins s σ H _ I h) fun u s1 ⟨x,H1,I1,rx,a,dx,fs,ex,ea,l,q⟩=>?_) ht;subst ex;obtain rfl:u=Value.ref a:=rx;refine AA I1 ea c hm l ?_;exact PySem.W.callWith_K0 (first:=[.ref a]) I1.kIn hm.kp (BB (us:=[.ref a]) (vs:=[.ref a]) F hr hb hd hx I1 (.cons rfl .nil) q)
structure Mk (K:Za) (C f:Addr):Prop where
 makes:PySem.W.makesIn K C=true
 init:PySem.W.findIn K (.ref C) "__init__"=some (some (.ref f))
 fn:PySem.W.isFn K (.ref f)=true
 kp:PySem.W.keepIn K (.ref C)=true
def IY{pins:List (Addr×Obj)}{σ:St}{H:Hp}{s:Shared}{Q:VK}{us:List Value}{vs:List V}(M:Mk X.K C f)(F:FnOk X.prog X.w X.K X.mg X.base CX k f fd ps sp)(hr:Room (k+1) X.A)(hb:Binds X.K fd ps ds)(hd:Vals dvs ds)(hx:XI CX X E)(I:Inv X pins σ H s)(r:Vals vs us)(h:∀x dx,H x=none->H dx=none->dx≠x->sp (.ref x::(vs++dvs)) (upd (upd H dx (.own x)) x (.ins C dx [])) (fun v H2=>v=.non/\Q (.ref x) H2) E) :
  wpAny (model X.prog X.w) X.A (call (.ref C) us) (EP X pins σ Q) X.xe s:=by
 have hq:=h (s.heap.objs.size+1) s.heap.objs.size (I.hok.fresh (QY _)) (I.hok.fresh (Yy _)) (YM (Qg _));have I2:=Inv.made (C:=C) I;have r2:Vals (V.ref (s.heap.objs.size+1)::(vs++dvs)) (Value.ref (s.heap.objs.size+1)::(us++ds)):=.cons rfl (r.append hd)
 have hl:(Value.ref (s.heap.objs.size+1)::us++ds).length=ps.length:=by
  have e:=r2.length;rw[F.len _ _ _ _ hq]at e;exact e.symm
 refine wpAny_call (Zbb (f:=f) I.kIn M.makes M.init (beq_iff_eq.mp M.fn) (Qy (F.run _ X.stack _ _ ⟨Value.ref (s.heap.objs.size+1)::us,[]⟩ (Value.ref (s.heap.objs.size+1)::(us++ds)) _ _ E (hr.make C us [])
  (I2.env0.make C us []) (hb _ (Value.ref (s.heap.objs.size+1)::us) I2.kIn hl) r2 hq) fun r s' hq'=>?_))
 cases r with
 |error e=>exact hx pins σ _ _ e s' I2 hq'
 |ok fl=>
  cases fl with
  |ret u=>
   obtain⟨v,H',I3,rv,ev,q3⟩:=I2.after hq';subst ev;exact⟨rv,⟨V.ref (s.heap.objs.size+1),H',I3,rfl,q3⟩⟩
  |next=>exact False.elim hq'
  |brk=>exact False.elim hq'
  |cont=>exact False.elim hq'
def M5(M:Mk X.K C f)(F:FnOk X.prog X.w X.K X.mg X.base CX k f fd ps sp)(hr:Room (k+1) X.A)(hg:Gl X x)(hm:X.mg x=some (.ref C))(hb:Binds X.K fd ps ds)(hd:Vals dvs ds)(hx:XI CX X E)(ha:PA X (e::es) t)(hdb:(x==("__debug__" : Str))=false:=by decide)(he:starEach (e::es) X.env=(false,eval e X.env)::starEach es X.env:=by rfl)(hpl:(backTo pos (starEach es X.env)).any (·.1)=false:=by rfl) :
  PE X (.Call (.Name x p) (e::es) [] pos) (Bj C sp dvs E t):=by
 intro pins s σ H Q I h;refine QF (NN I hg hm ?_ hdb);refine V4 (h₀:=X.base) I.ok.mod.kin M.kp (thn (ha pos pins s σ H _ I h) fun us s1 ⟨vs,H1,I1,r,q⟩=>⟨I1.kIn,?_⟩) he hpl;exact IY M F hr hb hd hx I1 r q
end
structure FnScope (N P:List Str) (sc:Scope):Prop where
 kind:sc.kind=.function
 co:sc.isCoroutine=false
 gen:sc.isGenerator=false
 nd:N.Nodup
 pre:N.take P.length=P
 par:∀x∈P,sc.names.lookup x=some .local\/sc.names.lookup x=some .cell
 nofree:∀y∈sc.names,y.2≠.free
def DC{kindOf:Str->Option NameKind}{x:Str}:∀{binds:List (Str×Value)}{m:Str->Option Value},(∀v,(x,v)∉binds)->bindL kindOf binds m x=m x
 |[],_,_=>rfl
 |(n,v)::r,m,h=>by
  unfold bindL;rw[DC fun w hw=>h w (YF _ hw)];split
  ·have:x≠n:=by rintro rfl;exact h v YN
   simp[this]
  ·rfl
def G2{kindOf:Str->Option NameKind}{x:Str}:∀{binds:List (Str×Value)}{m:Str->Option Value},(∀v,(x,v)∉binds)->bindC kindOf binds m x=m x
 |[],_,_=>rfl
 |(n,v)::r,m,h=>by
  unfold bindC;rw[G2 fun w hw=>h w (YF _ hw)];split
  ·rfl
  ·have:x≠n:=by rintro rfl;exact h v YN
   simp[this]
def EL{kindOf:Str->Option NameKind}{x:Str}{v:Value}:∀{P:List Str}{vs:List Value}{i:Nat}{m:Str->Option Value},P.Nodup->P[i]?=some x->vs[i]?=some v->kindOf x=some .local->
  bindL kindOf (P.zip vs) m x=some v
 |[],_,_,_,_,h,_,_=>by simp at h
 |_::_,[],_,_,_,_,h,_=>by simp at h
 |p::P,w::vs,0,m,nd,h1,h2,hk=>by
  simp at h1 h2;subst h1;subst h2;show bindL kindOf ((p,w)::P.zip vs) m p=_;unfold bindL;rw[DC fun v hv=>(YT.mp nd).1 (List.of_mem_zip hv).1,Yr hk];simp
 |p::P,w::vs,i+1,m,nd,h1,h2,hk=>by
  show bindL kindOf ((p,w)::P.zip vs) m x=_;unfold bindL;exact EL (i:=i) (YT.mp nd).2 (by simpa using h1) (by simpa using h2) hk
def Ei{kindOf:Str->Option NameKind}{x:Str}{v:Value}:∀{P:List Str}{vs:List Value}{i:Nat}{m:Str->Option Value},P.Nodup->P[i]?=some x->vs[i]?=some v->kindOf x≠some .local->
  bindC kindOf (P.zip vs) m x=some v
 |[],_,_,_,_,h,_,_=>by simp at h
 |_::_,[],_,_,_,_,h,_=>by simp at h
 |p::P,w::vs,0,m,nd,h1,h2,hk=>by
  simp at h1 h2;subst h1;subst h2;show bindC kindOf ((p,w)::P.zip vs) m p=_;unfold bindC;rw[G2 fun v hv=>(YT.mp nd).1 (List.of_mem_zip hv).1,Yp hk];simp
 |p::P,w::vs,i+1,m,nd,h1,h2,hk=>by
  show bindC kindOf ((p,w)::P.zip vs) m x=_;unfold bindC;exact Ei (i:=i) (YT.mp nd).2 (by simpa using h1) (by simpa using h2) hk
def start(N:List Str)(vs:List V):St:=vs.map some++List.replicate (N.length-vs.length) none
def cxOf(CX:CXT)(P:Program)(w:World)(K:Za)(mg:Str->Option Value)(base:Heap)(N:List Str)(qual:Str)(scope:Scope)(f:Addr)(cd:Value)(A:Around)(outer:List Env)(s:Shared)(H:Hp)(E:XK):Cx where
 prog:=P
 w:=w
 K:=K
 mg:=mg
 base:=base
 A:=A.deeper (envOfC qual scope s.heap.objs.size f cd)
 N:=N
 s₀:=s
 H₀:=H
 env:=envOfC qual scope s.heap.objs.size f cd
 outer:=outer
 stack:=envOfC qual scope s.heap.objs.size f cd::outer
 ex:=[]
 calm:=true
 fn:=fun _=>true
 pn:=[]
 xe:=fun e s'=>wpAny (model P w) (A.deeper (envOfC qual scope s.heap.objs.size f cd)) (leaving (envOfC qual scope s.heap.objs.size f cd) e) (fun _ s''=>CX outer H s E e s'') (fun e' s''=>CX outer H s E e' s'') s'
def Ci{sc:Scope}{n:Nat}{x:Str}(h:sc.names.lookup x=some .cell):∃c,(cellsFrom n sc.names []).lookup x=some c:=by
 have q:=PySem.W.cellsFrom_some sc.names n [] (.inl h);exact Option.isSome_iff_exists.mp q
def Rk{CX:CXT}{P:Program}{w:World}{K:Za}{mg:Str->Option Value}{base:Heap}{N ps:List Str}{qual:Str}{scope:Scope}{f:Addr}{cd:Value}{A:Around}{outer:List Env}{s s1:Shared}{H:Hp}{E:XK}{us:List Value}{vs:List V}(S:FnScope N ps scope)(hd:A.handled=none)(e0:Env0 P w K mg base A outer s H)(hl:vs.length=ps.length)(r:Vals vs us)(x:InCallC s s.heap.objs.size (bindL (envOfC qual scope s.heap.objs.size f cd).kindOf (ps.zip us) fun _=>none) (cellsFrom (s.heap.objs.size+1) scope.names []) (bindC (envOfC qual scope s.heap.objs.size f cd).kindOf (ps.zip us) fun _=>none) s1) :
  Inv (cxOf CX P w K mg base N qual scope f cd A outer s H E) [] (start N vs) H s1:=by
 have hpl:ps.length<=N.length:=by have:=YQ List.length S.pre;rw[Wj]at this;omega
 obtain⟨h1,tk,rfl,hk⟩:=x.done;have noA:∀b:Addr,b∉(cxOf CX P w K mg base N qual scope f cd A outer s H E).ex:=fun b z=>absurd (show b∈([]:List Addr)from z) (by simp)
 refine⟨⟨e0.mod,S.kind,rfl,rfl,Yy _,fun y z c h1 h2=>?_,fun y hy=>?_,fun y c _ h=>?_,fun _=>hd,Around.frames_deeper e0.frames,.inr ⟨rfl,rfl⟩,fun b z=>absurd z (noA b),e0.bs,e0.bsz,fun b _ _=>noA b,fun b z=>absurd z (noA b),e0.funs,e0.frf⟩,
  rfl,e0.bare,Un.kept hk,⟨_,x.toInCall.ns,fun i y v h1 h2 h3=>?_⟩,fun y c h=>⟨_,x.cell y c h⟩,e0.hok.fresh (Yy _),fun y c h=>?_,fun p hp=>absurd (show p∈([]:List (Addr×Obj))from hp) (by simp),e0.hok.kept hk,?_⟩
 ·exact name_of_addr x.apart (WQ h1) (WQ h2)
 ·have hy:scope.names.lookup y=some .cell\/scope.names.lookup y=some .free:=hy;rcases hy with hy|hy
  ·exact Ci hy
  ·exact absurd rfl (S.nofree _ (WQ hy))
 ·exact QE (x.above y c (WQ h))
 ·have hi:i<vs.length:=by
   unfold start at h2;by_cases hi:i<vs.length
   ·exact hi
   ·rw[YK (by simpa using hi)]at h2;rw[WL]at h2;split at h2<;>cases h2
  have ha:vs[i]?=some v:=by
   unfold start at h2;rw[YI (by simpa using hi),Yt]at h2;cases e:vs[i]? with
   |none=>rw[e]at h2;cases h2
   |some a=>rw[e]at h2;cases h2;rfl
  obtain⟨u,hu,rv⟩:=r.get ha
  have hp:ps[i]?=some y:=by
   rw[←S.pre,W5 (by omega)];exact h1
  have ndP:ps.Nodup:=by rw[←S.pre];exact S.nd.sublist (QT _ _)
  refine⟨u,rv,?_⟩;rcases S.par y (Y7 hp)with k|k
  ·exact .inl ⟨k,EL ndP hp hu k⟩
  ·obtain⟨c,e⟩:=Ci (n:=s.heap.objs.size+1) k;refine .inr ⟨.inl k,c,e,?_⟩;have q:=x.cell y c e;rw[Ei ndP hp hu (by show scope.names.lookup y≠_;rw[k];decide)]at q;exact q
 ·exact e0.hok.fresh (QE (x.above y c (WQ h)))
 ·unfold start;show _=N.length;rw[Yw,Ym,List.length_replicate];omega
def F4{CX:CXT}{P:Program}{w:World}{K:Za}{mg:Str->Option Value}{base:Heap}{k:Nat}{f:Addr}{name qual:Str}{params:Arguments}{body:List Stmt}{scope:Scope}{dV kV doc pm cdv ct oc:Value}{an od:Option Addr}{osl:Array (Option Value)}{N ps:List Str}{sp:Sp}(lk:K.lookup f=some ⟨oc,od,.func (PySem.W.fnOf name qual params body scope dV kV doc pm an cdv ct),osl⟩)(hcd:PySem.W.codeIn K cdv qual=true)(S:FnScope N ps scope)(len:∀vs H Q E,sp vs H Q E->vs.length=ps.length)
  (hbody:∀(A:Around) (outer:List Env) (s:Shared) (H:Hp) (vs:List V) (Q:VK) (E:XK),Room k (A.deeper (envOfC qual scope s.heap.objs.size f cdv))->sp vs H Q E->
   ∃t,PSs (cxOf CX P w K mg base N qual scope f cdv A outer s H E) body t/\t {nx:=fun _ H'=>Q .non H',rt:=Q} (start N vs) H) :
  FnOk P w K mg base CX (k+1) f (PySem.W.fnOf name qual params body scope dV kV doc pm an cdv ct) ps sp:=by
 refine⟨len,fun A outer s H args us vs Q E hr e0 hb r hsp=>?_⟩;have hl:=len _ _ _ _ hsp;have KX:K.In s.heap:=e0.mod.kin.keeps fun b o e=>(e0.bs b o e).1;have lim:s.heap.NoLimit:=e0.mod.nolimit.keeps fun b o e=>(e0.bs b o e).1
 have hkind:∀y∈ps.zip us,scope.names.lookup y.1=some .local\/(scope.names.lookup y.1=some .cell/\((cellsFrom (s.heap.objs.size+1) scope.names []).lookup y.1).isSome=true):=fun⟨n,v⟩ hy=>by
  rcases S.par n (List.of_mem_zip hy).1 with q|q
  ·exact .inl q
  ·exact .inr ⟨q,PySem.W.cellsFrom_some _ _ _ (.inl q)⟩
 refine codeAny_call_function hr.depth (KX _ _ lk) rfl S.co S.gen rfl (PySem.W.codeRec_of KX hcd) (hb _ _ _ _ ?_);refine wpAny_newFunctionEnv_cells S.kind hkind fun env he s1 x=>?_;subst he;refine⟨lim.keeps x.toInCall.keep,codeAny_func ?_⟩;obtain⟨t,ht,hq⟩:=hbody A outer s H vs Q E (hr.deeper _) hsp;have I:Inv (cxOf CX P w K mg base N qual scope f cdv A outer s H E) [] (start N vs) H s1:=Rk S hr.hd e0 hl r x;refine Wn (ht [] s1 (start N vs) H _ I hq) (fun fl s' hs=>?_) fun e s' hs=>hs
 have fin:∀{σ':St} {H':Hp} {v:V} {u:Value},Inv (cxOf CX P w K mg base N qual scope f cdv A outer s H E) [] σ' H' s'->RelV v u->Q v H'->CE outer P w H s Q u s':=
  fun {σ' H' v u} J rv q=>⟨v,H',J.os,J.bare,J.base,J.hok,rv,q⟩
 cases fl with
 |ret u=>
  obtain⟨v,σ',H',J,rv,q⟩:=hs;exact fin J rv q
 |next=>
  obtain⟨σ',H',J,q⟩:=hs;exact fin (v:=V.non) (u:=Value.none) J rfl q
 |brk=>
  obtain⟨_,_,_,q⟩:=hs;exact False.elim q
 |cont=>
  obtain⟨_,_,_,q⟩:=hs;exact False.elim q
section
variable {X:Cx}{x:Str}{p pos:Pos}{e:Expr}{es:List Expr}{t:TA}{id T:String}{r:List V->Hp->VK->Prop}
def tCB(r:List V->Hp->VK->Prop)(t:TA):TE:=fun σ H Q=>t σ H fun vs H1=>r vs H1 Q
def UV(hc:UX X (.builtin id) r)(hg:Gl X x)(hm:X.mg x=none)(hv:bootBuiltins x=some (.builtin id))(ha:PA X (e::es) t)(hn:x≠"__name__":=by decide)(hdb:(x==("__debug__" : Str))=false:=by decide)(he:starEach (e::es) X.env=(false,eval e X.env)::starEach es X.env:=by rfl)(hpl:(backTo pos (starEach es X.env)).any (·.1)=false:=by rfl):PE X (.Call (.Name x p) (e::es) [] pos) (tCB r t):=by
 intro pins s σ H Q I h;refine QF (TZ I hg hm hv ?_ hn hdb);exact PyProof.Rows.callWith_builtin1 (thn (ha pos pins s σ H _ I h) fun us s1 ⟨vs,H1,I1,r1,q1⟩=>hc pins s1 σ H1 vs us Q I1 r1 q1) he hpl
def Ky(hc:UX X (.type T) r)(hg:Gl X x)(hm:X.mg x=none)(hv:bootBuiltins x=some (.type T))(ha:PA X (e::es) t)(hn:x≠"__name__":=by decide)(hdb:(x==("__debug__" : Str))=false:=by decide)(he:starEach (e::es) X.env=(false,eval e X.env)::starEach es X.env:=by rfl)(hpl:(backTo pos (starEach es X.env)).any (·.1)=false:=by rfl):PE X (.Call (.Name x p) (e::es) [] pos) (tCB r t):=by
 intro pins s σ H Q I h;refine QF (TZ I hg hm hv ?_ hn hdb);exact Q4 (thn (ha pos pins s σ H _ I h) fun us s1 ⟨vs,H1,I1,r1,q1⟩=>hc pins s1 σ H1 vs us Q I1 r1 q1) he hpl
end
end L2
namespace HT
open PySem PyProof.Rows
section
variable {prog:Program}{w:World}{A:Around}{E:Value->Shared->Prop}{s:Shared}
def Rh{t b:Addr}{vs ws:List Value}{Q:Value->Shared->Prop}(ht:IsTup s.heap t vs.toArray)(hb:IsTup s.heap b ws.toArray)(hv:vs≠[])(h1:ws=[]->Q (.ref t) s)(h2:ws≠[]->Q (.ref s.heap.objs.size) {s with heap:=s.heap.push {cls:=.type "tuple",data:=.seq (vs++ws).toArray}})(hsz:vs.length+ws.length<=sizeLine):wpAny (model prog w) A (binaryOp .Add (.ref t) (.ref b)) Q E s:=by
 obtain⟨⟨cls,dd,data,sl⟩,ho,hc,n,hd⟩:=id ht;obtain⟨⟨cls2,dd2,data2,sl2⟩,ho2,hc2,n2,hd2⟩:=id hb;simp only at hc hd hc2 hd2;subst hc hd hc2 hd2;have e:vs.toArray++ws.toArray=(vs++ws).toArray:=by simp
 by_cases hw:ws=[]
 ·exact concat_meets ⟨_,ho,rfl⟩ ⟨_,ho2,rfl⟩ noFill_tuple_add seq_tuple_add QZ QP (QG _ _)
   (tuple_addW1 t b vs.toArray ws.toArray n n2 dd dd2 sl sl2 (by simpa using hv) (by simp[hw])) ⟨ho,ho2,h1 hw⟩
 ·refine concat_meets ⟨_,ho,rfl⟩ ⟨_,ho2,rfl⟩ noFill_tuple_add seq_tuple_add QZ QP (QG _ _)
   (tuple_addW2 t b vs.toArray ws.toArray n n2 dd dd2 sl sl2 (by simpa using hv) (by simpa using hw) (by rw[Y0,Y0];exact hsz)) ⟨ho,ho2,?_⟩
  rw[e];exact h2 hw
def sIx(n d:Nat):Option Int->Nat
 |none=>d
 |some v=>if v<0 then(v+(n:Int)).toNat else min v.toNat n
def EA(n d:Nat):sIx n d none=d:=rfl
def Sx(n d k:Nat):sIx n d (some (k:Int))=min k n:=by
 show(if (k:Int)<0 then((k:Int)+(n:Int)).toNat else min (k:Int).toNat n)=min k n;rw[Yp (by omega),YB]
end
end HT
namespace L2
open PySem PySem.Spec PyProof.Rows
abbrev TO:=St->Hp->(Option Int->Hp->Prop)->Prop
def PO(X:Cx)(e:Option Expr)(t:TO):Prop:=
 ∀(pins:List (Addr×Obj)) (s:Shared) (σ:St) (H:Hp) (Q:Option Int->Hp->Prop),Inv X pins σ H s->t σ H Q->
  wpAny (model X.prog X.w) X.A (evalPart e X.env) (fun u s'=>∃o H',Inv X pins σ H' s'/\IsPart u o/\Q o H') X.xe s
def Cf:TO:=fun _ H Q=>Q none H
def Cw(t:TE):TO:=fun σ H Q=>t σ H fun x H1=>∃i,x=.int i/\Q (some i) H1
def N4{ns:List Int}:∀{us:List Value},Vals (ns.map V.int) us->IntsAre us ns:=by
 induction ns with
 |nil=>intro us r;rw[VC]at r;cases r;exact .nil
 |cons n ns ih=>
  intro us r;rw[Y9]at r;cases r with
  |cons r1 r2=>
   obtain⟨t,e⟩:=r1;subst e;exact .cons n t (ih r2)
section
variable {X:Cx}{e:Expr}{te:TE}{lo hi:Option Expr}{tl th:TO}{pos p2:Pos}
def XW:PO X none Cf:=by
 intro pins s σ H Q I h;rw[evalPart_none];exact Ys ⟨none,H,I,.none,h⟩
def X0(h:PE X e te):PO X (some e) (Cw te):=by
 intro pins s σ H Q I hw;rw[evalPart_some];refine thn (h pins s σ H _ I hw) fun u s1 ⟨x,H1,I1,r1,q1⟩=>?_;obtain⟨i,rfl,q⟩:=q1;obtain⟨t,rfl⟩:=r1;exact⟨some i,H1,I1,.int i t,q⟩
def SlR(X:Cx)(r:V->Option Int->Option Int->Hp->VK->Prop):Prop:=
 ∀(pins:List (Addr×Obj)) (s:Shared) (σ:St) (H:Hp) (x:V) (v vl vu:Value) (lo hi:Option Int) (sl:Addr) (Q:VK),Inv X pins σ H s->RelV x v->s.heap.IsSliceOf sl vl vu .none->IsPart vl lo->IsPart vu hi->r x lo hi H Q->
  ∃T id,typeLookup (.type T) "__getitem__"=pure (some (.builtin id))/\s.TypeIs v T/\wpAny (model X.prog X.w) X.A (getItem v (.ref sl)) (EP X pins σ Q) X.xe s
def tSl(r:V->Option Int->Option Int->Hp->VK->Prop)(te:TE)(tl th:TO):TE:=fun σ H Q=>te σ H fun x H1=>tl σ H1 fun l H2=>th σ H2 fun u H3=>r x l u H3 Q
def XE{r:V->Option Int->Option Int->Hp->VK->Prop}(hr:SlR X r)(he:PE X e te)(hl:PO X lo tl)(hu:PO X hi th):PE X (.Subscript e (.Slice lo hi none p2) pos) (tSl r te tl th):=by
 intro pins s σ H Q I h;refine Subscript_ (thn (he pins s σ H _ I h) fun v s1 ⟨x,H1,I1,r1,q1⟩=>?_);refine wpAny_Slice (thn (hl pins s1 σ H1 _ I1 q1) fun vl s2 ⟨l,H2,I2,pl,q2⟩=>thn (hu pins s2 σ H2 _ I2 q2) fun vu s3 ⟨u,H3,I3,pu,q3⟩=>?_);rw[evalPart_none];refine Ys ?_;have I4:Inv X pins σ H3 {s3 with heap:=s3.heap.push {cls:=.type "slice",data:=.fields #[vl,vu,.none]}}:=I3.kept (t':=s3.toks) fun b ob q=>Yv _ q
 obtain⟨T,id,hT,ht,hg⟩:=hr pins {s3 with heap:=s3.heap.push {cls:=.type "slice",data:=.fields #[vl,vu,.none]}} σ H3 x v vl vu l u s3.heap.objs.size Q I4 r1 (Heap.IsSliceOf.new ..) pl pu q3
 show wpAny (model X.prog X.w) X.A (subscriptTail e (.Slice lo hi none p2) v (.ref s3.heap.objs.size)) (EP X pins σ Q) X.xe {s3 with heap:=s3.heap.push {cls:=.type "slice",data:=.fields #[vl,vu,.none]}}
 exact tail_any (ops:=[.ref s3.heap.objs.size,v]) ht hT hg (by with_unfolding_all rfl)
def cutV(xs:List V)(lo hi:Option Int):List V:=(xs.drop (HT.sIx xs.length 0 lo)).take (HT.sIx xs.length xs.length hi-HT.sIx xs.length 0 lo)
def Os(xs:List V)(lo hi:Option Int):(cutV xs lo hi).length<=xs.length:=by
 unfold cutV;rw[Wj,Vd];omega
def Ze8(K:Za):R2:=fun x y H Q=>∃a b xs ys,x=.ref a/\y=.ref b/\SqT K H a xs/\SqT K H b ys/\xs≠[]/\xs.length+ys.length<=sizeLine/\
 (ys=[]->Q (.ref a) H)/\(ys≠[]->∀p,H p=none->Q (.ref p) (upd H p (.tup (xs++ys))))
def Vals.nil_iff {xs:List V}{us:List Value} (r:Vals xs us):us=[]↔xs=[]:=by
 cases r with
 |nil=>simp
 |cons _ _=>simp
def Zeg:OpR X (binaryOp .Add) (Ze8 X.K):=by
 intro pins s σ H x y v u Q I rx ry h;obtain⟨a,b,xs,ys,rfl,rfl,ha,hb,hx,hz,q1,q2⟩:=h;cases rx
 cases ry
 obtain⟨its,r1,p1,_⟩:=I.tuple ha;obtain⟨its2,r2,p2,_⟩:=I.tuple hb;refine HT.Rh p1 p2 (fun z=>hx (r1.nil_iff.mp z)) (fun z=>⟨.ref a,H,I,rfl,q1 (r2.nil_iff.mp z)⟩) (fun z=>?_) (by rw[←r1.length,←r2.length];exact hz);refine⟨.ref s.heap.objs.size,_,I.laid (t':=s.toks) (o:=.tup (xs++ys)) (fun b ob q=>Yv _ q) (Yy _) ?_,rfl,q2 (fun w=>z (r2.nil_iff.mpr w)) _ (I.hok.fresh (Yy _))⟩;exact⟨by rw[Yw];exact hz,_,r1.append r2,IsTup.new _ _⟩
end
def ixN(n:Nat)(i:Int):Option Nat:=if 0<=i then(if i<n then some i.toNat else none)else if -(n:Int)<=i then some (i+n).toNat else none
def atI{α:Type}(xs:List α)(i:Int):Option α:=(ixN xs.length i).bind fun j=>xs[j]?
def EE{n:Nat}{i:Int}{j:Nat}(h:ixN n i=some j):seqIndex? i n=some j/\j<n/\-(n:Int)<=i/\i<n:=by
 unfold ixN at h;by_cases h0:0<=i
 ·rw[Yr h0]at h;by_cases h1:i<n
  ·rw[Yr h1]at h;have e:i.toNat=j:=Yz h;exact⟨by rw[seqIndex_of h0 h1,e],by omega,by omega,h1⟩
  ·rw[Yp h1]at h;cases h
 ·rw[Yp h0]at h;by_cases h1:-(n:Int)<=i
  ·rw[Yr h1]at h;have e:(i+n).toNat=j:=Yz h;exact⟨by rw[seqIndex_neg (by omega) h1,e],by omega,h1,by omega⟩
  ·rw[Yp h1]at h;cases h
def Bh{α:Type}{xs:List α}{i:Int}{v:α}(h:atI xs i=some v):∃j,seqIndex? i xs.length=some j/\xs[j]?=some v/\j<xs.length/\-(xs.length:Int)<=i/\i<xs.length:=by
 unfold atI at h;cases e:ixN xs.length i with
 |none=>rw[e]at h;cases h
 |some j=>
  rw[e]at h;obtain⟨h1,h2,h3,h4⟩:=EE e;exact⟨j,h1,h,h2,h3,h4⟩
def NK{α:Type}{xs:List α}{j:Nat}{v:α}(h:xs[j]?=some v):atI xs (j:Int)=some v:=by
 have hj:j<xs.length:=(YD.mp h).1
 have e:ixN xs.length (j:Int)=some j:=by
  unfold ixN;rw[Yr (by omega),Yr (by omega)];simp
 unfold atI;rw[e];exact h
def EF(b:Expr):Prop:=∀o i,subscripted b false o i=operate [o,i] (getItem o i)
def IxR(X:Cx)(r:R2):Prop:=
 ∀(value slice:Expr) (pins:List (Addr×Obj)) (s:Shared) (σ:St) (H:Hp) (x y:V) (v u:Value) (Q:VK),Inv X pins σ H s->RelV x v->RelV y u->r x y H Q->
  subscripted slice false v u=operate [v,u] (getItem v u)->wpAny (model X.prog X.w) X.A (subscriptTail value slice v u) (EP X pins σ Q) X.xe s
def MtR(X:Cx)(id:String)(r:V->List V->Hp->VK->Prop):Prop:=
 ∀(pins:List (Addr×Obj)) (s:Shared) (σ:St) (H:Hp) (x:V) (xs:List V) (v:Value) (us:List Value) (Q:VK),Inv X pins σ H s->RelV x v->Vals xs us->r x xs H Q->
  wpAny (model X.prog X.w) X.A (call (.builtin id) (v::us)) (EP X pins σ Q) X.xe s
section
variable {X:Cx}{a b:Expr}{ta tb:TE}{pos:Pos}
def IxR.or {r r':R2} (h:IxR X r) (h':IxR X r'):IxR X (fun x y H Q=>r x y H Q\/r' x y H Q):=by
 intro value slice pins s σ H x y v u Q I rx ry q hs;rcases q with q|q
 ·exact h value slice pins s σ H x y v u Q I rx ry q hs
 ·exact h' value slice pins s σ H x y v u Q I rx ry q hs
def Hj{r:R2}(hr:IxR X r)(ha:PE X a ta)(hb:PE X b tb)(hs:EF b):PE X (.Subscript a b pos) (tOp r ta tb):=by
 intro pins s σ H Q I h;exact Subscript_ (binT ha hb I h fun v u s2 x y H2 I2 rx ry q=>hr a b pins s2 σ H2 x y v u Q I2 rx ry q (hs _ _))
def rIxL(K:Za):R2:=fun x y H Q=>∃p xs i v,x=.ref p/\y=.int i/\SqL K H p xs/\atI xs i=some v/\Q v H
def rIxT(K:Za):R2:=fun x y H Q=>∃p xs i v,x=.ref p/\y=.int i/\SqT K H p xs/\atI xs i=some v/\Q v H
def ix_list:IxR X (rIxL X.K):=by
 intro value slice pins s σ H x y v u Q I rx ry h hs;obtain⟨p,xs,i,z,rfl,rfl,hq,he,q⟩:=h;cases rx
 obtain⟨t,rfl⟩:=ry;obtain⟨its,r,pl,hz⟩:=I.list hq;obtain⟨j,h1,h2,h3,h4,h5⟩:=Bh he;obtain⟨w,ew,rw'⟩:=r.get h2;have hl:=r.length;have hn:=Ta;have fin:EP X pins σ Q w s:=⟨z,H,I,rw',q⟩;by_cases h0:0<=i
 ·have hj:i.toNat=j:=by
   rw[seqIndex_of h0 h5]at h1;exact Yz h1
  exact item_listR pl.isList h0 (by omega) (by rw[hj];simpa using ew) fin hs
 ·have hj:(i+(its.toArray.size:Int)).toNat=j:=by
   rw[seqIndex_neg (by omega) h4]at h1;rw[Y0,←hl];exact Yz h1
  exact subscriptTail_builtinR (x:=w) pl.isList.typeIs slot_list_getitem.lookup
   (wpAny_getItem_list_neg (Q:=fun r s'=>r=w/\EP X pins σ Q r s') pl.isList (by omega) (by rw[Y0]<;>omega) (by omega) (by rw[hj];simpa using ew) ⟨rfl,fin⟩) hs
def ON:IxR X (rIxT X.K):=by
 intro value slice pins s σ H x y v u Q I rx ry h hs;obtain⟨p,xs,i,z,rfl,rfl,hq,he,q⟩:=h;cases rx
 obtain⟨t,rfl⟩:=ry;obtain⟨its,r,pl,hz⟩:=I.tuple hq;obtain⟨j,h1,h2,h3,h4,h5⟩:=Bh he;obtain⟨w,ew,rw'⟩:=r.get h2;have hl:=r.length;have hn:=Ta;have fin:EP X pins σ Q w s:=⟨z,H,I,rw',q⟩
 exact subscriptTail_builtinR (x:=w) pl.typeIs slot_tuple_getitem.lookup
  (getItem_tuple (j:=j) (Q:=fun r s'=>r=w/\EP X pins σ Q r s') pl (by omega) (by omega) (by rw[Y0,←hl];exact h1) (by simpa using ew) ⟨rfl,fin⟩) hs
def Lz(its:List Value)(n j:Nat)(u:Value):Obj.mapSeq (·.setIfInBounds j u) {cls:=.type "list",data:=.seq its.toArray n}={cls:=.type "list",data:=.seq (its.set j u).toArray n}:=by
 simp[Obj.mapSeq]
def Inv.lst {pins:List (Addr×Obj)}{σ:St}{H:Hp}{s:Shared}{p:Addr}{xs:List V} (I:Inv X pins σ H s) (h:H p=some (.lst xs)) :
  ∃(its:List Value) (n:Nat),Vals xs its/\s.heap.get? p=some {cls:=.type "list",data:=.seq its.toArray n}/\xs.length<=sizeLine:=by
 obtain⟨z,its,n,r,e⟩:=I.hok p _ h;exact⟨its,n,r,e,z⟩
def Inv.lstUpd {pins:List (Addr×Obj)}{σ:St}{H:Hp}{s:Shared}{p:Addr}{xs ys:List V}{its its':List Value}{n n':Nat}{f:Obj->Obj} (I:Inv X pins σ H s) (h:H p=some (.lst xs))
  (ho:s.heap.get? p=some {cls:=.type "list",data:=.seq its.toArray n}) (hf:f {cls:=.type "list",data:=.seq its.toArray n}={cls:=.type "list",data:=.seq its'.toArray n'}) (r:Vals ys its') (hz:ys.length<=sizeLine) (t:Nat) :
  Inv X pins σ (upd H p (.lst ys)) {s with heap:=s.heap.update p f,toks:=t}:=by
 have e:(s.heap.update p f).get? p=some {cls:=.type "list",data:=.seq its'.toArray n'}:=by
  rw[We f ho (by rw[hf]<;>rfl),hf]
 refine I.write (x:=p) (e:=p) (by rw[h];trivial) (.inl rfl) (fun b u hb q=>(Wi _ _ (Ne.symm hb)).trans q) ⟨_,e⟩ ?_;exact⟨hz,its',n',r,e⟩
def SZ:V->V->V->Hp->(Hp->Prop)->Prop:=fun o i v H Q=>∃p xs k j,o=.ref p/\i=.int k/\H p=some (.lst xs)/\ixN xs.length k=some j/\Q (upd H p (.lst (xs.set j v)))
def DL:PSet X SZ:=by
 intro pins s σ H o i v ov iv u Q I ro ri rv h;obtain⟨p,xs,k,j,rfl,rfl,hp,hj,q⟩:=h;cases ro
 obtain⟨t,rfl⟩:=ri;obtain⟨its,n,r,ho,hz⟩:=I.lst hp;obtain⟨h1,h2,h3,h4⟩:=EE hj;have hl:=r.length;have hn:=Ta
 have I':Inv X pins σ (upd H p (.lst (xs.set j v))) {s with heap:=s.heap.update p (Obj.mapSeq (·.setIfInBounds j u))}:=
  I.lstUpd hp ho (Lz its n j u) (r.set rv j) (by rw[Wo];exact hz) s.toks
 by_cases h0:0<=k
 ·have hk:k.toNat=j:=by
   rw[seqIndex_of h0 h4]at h1;exact Yz h1
  exact PySem.W.ki_setAt ho h0 (by omega) (by rw[Y0,←hl];exact h4) (by rw[hk];exact⟨_,I',q⟩)
 ·have hk:(k+(its.toArray.size:Int)).toNat=j:=by
   rw[seqIndex_neg (by omega) h3]at h1;rw[Y0,←hl];exact Yz h1
  exact PySem.W.ki_setBack ho (by omega) (by rw[Y0,←hl];exact h3) (by omega) (by rw[hk];exact⟨_,I',q⟩)
def IE(lo hi:Option Int)(n:Nat):(sliceBounds lo hi none n).1=((HT.sIx n 0 lo:Nat):Int)/\(sliceBounds lo hi none n).2.1=((HT.sIx n n hi:Nat):Int)/\(sliceBounds lo hi none n).2.2=1:=by
 refine⟨?_,?_,rfl⟩
 ·cases lo with
  |none=>simp[sliceBounds,HT.sIx]
  |some i=>
   simp only[sliceBounds,HT.sIx,Option.getD_none,show(1:Int)>0 by decide,if_true];by_cases h:i<0
   ·simp only[h,if_true]<;>omega
   ·simp only[h,Ve]<;>omega
 ·cases hi with
  |none=>simp[sliceBounds,HT.sIx]
  |some i=>
   simp only[sliceBounds,HT.sIx,Option.getD_none,show(1:Int)>0 by decide,if_true];by_cases h:i<0
   ·simp only[h,if_true]<;>omega
   ·simp only[h,Ve]<;>omega
def OM(its:List Value)(lo hi:Option Int):slicePick its.toArray lo hi none=((its.drop (HT.sIx its.length 0 lo)).take (HT.sIx its.length its.length hi-HT.sIx its.length 0 lo)).toArray:=by
 obtain⟨h1,h2,h3⟩:=IE lo hi its.toArray.size;unfold slicePick;rw[h1,h2,h3];simp only[sliceRange_one,pick_run,Y0]<;>rfl
def rSlL(K:Za):V->Option Int->Option Int->Hp->VK->Prop:=fun x lo hi H Q=>∃a xs,x=.ref a/\SqL K H a xs/\∀p,H p=none->Q (.ref p) (upd H p (.lst (cutV xs lo hi)))
def LH:SlR X (rSlL X.K):=by
 intro pins s σ H x v vl vu lo hi sl Q I rx hs pl pu h;obtain⟨a,xs,rfl,hx,q⟩:=h;cases rx
 obtain⟨its,r,ht,hz⟩:=I.list hx;have hlen:=r.length;refine⟨"list",_,slot_list_getitem.lookup,ht.isList.typeIs,?_⟩;refine wpAny_getItem_list_slice ht.isList hs pl pu .none (by simp) ?_ (by rw[Y0]<;>omega);rw[OM,←hlen];refine⟨.ref s.heap.objs.size,_,I.laid (t':=s.toks) (o:=.lst (cutV xs lo hi)) (fun b ob q=>Yv _ q) (Yy _) ?_,rfl,q _ (I.hok.fresh (Yy _))⟩;exact⟨Y4 (Os xs lo hi) hz,_,0,(r.drop (HT.sIx xs.length 0 lo)).take (HT.sIx xs.length xs.length hi-HT.sIx xs.length 0 lo),Y5 _ rfl⟩
def X2:V->Bool
 | .non=>true
 | .bl _=>true
 | .int _=>true
 | .str _=>true
 |_=>false
def eqV:V->V->Bool
 | .non,.non=>true
 | .bl a,.bl b=>a==b
 | .bl a,.int b=>(if a then 1 else 0)==b
 | .int a,.bl b=>a==(if b then 1 else 0)
 | .int a,.int b=>a==b
 | .str a,.str b=>a==b
 |_,_=>false
def Hd{A:Around}{s:Shared}{y x:V}{u v:Value}(ry:RelV y u)(rx:RelV x v)(fy:X2 y=true)(fx:X2 x=true):SeqAt.EqAt A s u v (eqV y x):=by
 cases y with
 |non=>
  cases ry
  cases x with
  |non=>cases rx;exact SeqAt.EqAt.same _
  |bl b=>cases rx;exact SeqAt.EqAt.none_bool b
  |int b=>obtain⟨t,rfl⟩:=rx;exact SeqAt.EqAt.none_int b t
  |str b=>obtain⟨t,rfl⟩:=rx;exact SeqAt.EqAt.none_str b t
  |_=>exact absurd (show false=true from fx) Y6
 |bl a=>
  cases ry
  cases x with
  |non=>cases rx;exact SeqAt.EqAt.bool_none a
  |bl b=>cases rx;exact SeqAt.EqAt.bool_bool a b
  |int b=>obtain⟨t,rfl⟩:=rx;exact SeqAt.EqAt.bool_int a b t
  |str b=>obtain⟨t,rfl⟩:=rx;exact SeqAt.EqAt.bool_str a b t
  |_=>exact absurd (show false=true from fx) Y6
 |int a=>
  obtain⟨t',rfl⟩:=ry;cases x with
  |non=>cases rx;exact SeqAt.EqAt.int_none a t'
  |bl b=>cases rx;exact SeqAt.EqAt.int_bool a t' b
  |int b=>obtain⟨t,rfl⟩:=rx;exact SeqAt.EqAt.int_int a t' b t
  |str b=>obtain⟨t,rfl⟩:=rx;exact SeqAt.EqAt.int_str a t' b t
  |_=>exact absurd (show false=true from fx) Y6
 |str a=>
  obtain⟨t',rfl⟩:=ry;cases x with
  |non=>cases rx;exact SeqAt.EqAt.str_none a t'
  |bl b=>cases rx;exact SeqAt.EqAt.str_bool a t' b
  |int b=>obtain⟨t,rfl⟩:=rx;exact SeqAt.EqAt.str_int a t' b t
  |str b=>obtain⟨t,rfl⟩:=rx;exact SeqAt.EqAt.str_str a t' b t
  |_=>exact absurd (show false=true from fx) Y6
 |_=>exact absurd (show false=true from fy) Y6
def eqU(x:V)(u:Value):Bool:=match u with
 | .none=>eqV .non x
 | .bool b=>eqV (.bl b) x
 | .int i _=>eqV (.int i) x
 | .str z _=>eqV (.str z) x
 |_=>false
def Hq{x y:V}{u:Value}(r:RelV y u)(f:X2 y=true):eqU x u=eqV y x:=by
 cases y with
 |non=>cases r;rfl
 |bl b=>cases r;rfl
 |int i=>obtain⟨t,rfl⟩:=r;rfl
 |str z=>obtain⟨t,rfl⟩:=r;rfl
 |_=>exact absurd (show false=true from f) Y6
def Ni{x:V}:∀{xs:List V}{us:List Value},Vals xs us->xs.all X2=true->us.any (eqU x)=xs.any fun y=>eqV y x
 |_,_,.nil,_=>rfl
 |y::xs,u::us,.cons r t,f=>by
  rw[Vb,Wc]at f;rw[Ql,Ql,Hq r f.1,Ni t f.2]
def T1{A:Around}{s:Shared}{x:V}{v:Value}(rx:RelV x v)(fx:X2 x=true):∀{xs:List V}{us:List Value},Vals xs us->xs.all X2=true->∀u∈us,SeqAt.EqAt A s u v (eqU x u)
 |_,_,.nil,_=>fun u hu=>by cases hu
 |y::xs,u::us,.cons r t,f=>fun u' hu=>by
  rw[Vb,Wc]at f;rcases Y2.mp hu with rfl|hu
  ·rw[Hq r f.1];exact Hd r rx f.1 fx
  ·exact T1 rx fx t f.2 u' hu
def inV(x:V)(xs:List V):Bool:=xs.any fun y=>eqV y x
def rIn(K:Za)(neg:Bool):R2:=fun x y H Q=>∃p xs,y=.ref p/\(SqL K H p xs\/SqT K H p xs)/\X2 x=true/\xs.all X2=true/\Q (.bl (if neg then !inV x xs else inV x xs)) H
def RV:OpR X (compareOp .In) (rIn X.K false):=by
 intro pins s σ H x y v u Q I rx ry h;obtain⟨p,xs,rfl,hq,fx,fs,q⟩:=h;cases ry
 rcases hq with hq|hq
 ·obtain⟨its,r,pl,hz⟩:=I.list hq;refine SeqAt.in_listAt (eqU x) pl.isList (fun w hw=>T1 rx fx r fs w (by simpa using hw)) ⟨.bl _,H,I,rfl,?_⟩;rw[show its.toArray.any (eqU x)=its.any (eqU x) by simp,Ni r fs];exact q
 ·obtain⟨its,r,pl,hz⟩:=I.tuple hq;refine SeqAt.in_tupleAt (eqU x) pl (fun w hw=>T1 rx fx r fs w (by simpa using hw)) ⟨.bl _,H,I,rfl,?_⟩;rw[show its.toArray.any (eqU x)=its.any (eqU x) by simp,Ni r fs];exact q
def Za4:OpR X (compareOp .NotIn) (rIn X.K true):=by
 intro pins s σ H x y v u Q I rx ry h;obtain⟨p,xs,rfl,hq,fx,fs,q⟩:=h;cases ry
 rcases hq with hq|hq
 ·obtain⟨its,r,pl,hz⟩:=I.list hq;refine SeqAt.notIn_listAt (eqU x) pl.isList (fun w hw=>T1 rx fx r fs w (by simpa using hw)) ⟨.bl _,H,I,rfl,?_⟩;rw[show its.toArray.any (eqU x)=its.any (eqU x) by simp,Ni r fs];exact q
 ·obtain⟨its,r,pl,hz⟩:=I.tuple hq;refine SeqAt.notIn_tupleAt (eqU x) pl (fun w hw=>T1 rx fx r fs w (by simpa using hw)) ⟨.bl _,H,I,rfl,?_⟩;rw[show its.toArray.any (eqU x)=its.any (eqU x) by simp,Ni r fs];exact q
def IB:UX X (.type "list") (fun xs H Q=>∃p ys,xs=[.ref p]/\(SqL X.K H p ys\/SqT X.K H p ys)/\∀l,H l=none->Q (.ref l) (upd H l (.lst ys))):=by
 intro pins s σ H xs us Q I r h;obtain⟨p,ys,rfl,hq,q⟩:=h;obtain⟨u,rfl,rx⟩:=vals1 r;cases rx
 have fin:∀(its:List Value),Vals ys its->ys.length<=sizeLine->∀(h':Heap) (c':Nat),(∀b o',s.heap.get? b=some o'->h'.get? b=some o')->
   h'.get? s.heap.objs.size=some {cls:=.type "list",dict:=none,data:=.seq its.toArray c',slots:=#[]}->EP X pins σ Q (.ref s.heap.objs.size) {s with heap:=h'}:=fun its r' hz h' c' kp e=>
  ⟨.ref s.heap.objs.size,_,I.laid (t':=s.toks) kp (Yy _) (show ObjOk X.prog X.w _ h' _ (.lst ys)from⟨hz,its,c',r',e⟩),rfl,q _ (I.hok.fresh (Yy _))⟩
 rcases hq with hq|hq
 ·obtain⟨its,r',pl,hz⟩:=I.list hq;have hlen:=r'.length;obtain⟨o,ho,hc,n,hd⟩:=pl.isList;exact call_list_seq p (.inl rfl) ho hc hd (fun h' c' kp e=>fin its r' hz h' c' kp e) (by simp only[Y0]<;>omega)
 ·obtain⟨its,r',pl,hz⟩:=I.tuple hq;have hlen:=r'.length;obtain⟨o,ho,hc,n,hd⟩:=pl;exact call_list_seq p (.inr rfl) ho hc hd (fun h' c' kp e=>fin its r' hz h' c' kp e) (by simp only[Y0]<;>omega)
def Zcy:UX X (.type "tuple") (fun xs H Q=>∃p ys,xs=[.ref p]/\((SqL X.K H p ys/\∀l,H l=none->Q (.ref l) (upd H l (.tup ys)))\/(SqT X.K H p ys/\Q (.ref p) H))):=by
 intro pins s σ H xs us Q I r h;obtain⟨p,ys,rfl,h⟩:=h;obtain⟨u,rfl,rx⟩:=vals1 r;cases rx
 rcases h with⟨hq,q⟩|⟨hq,q⟩
 ·obtain⟨its,r',pl,hz⟩:=I.list hq;have hlen:=r'.length;refine call_tuple_list pl.isList (fun h' kp=>?_) (by simp only[Y0]<;>omega);have I1:Inv X pins σ H {s with heap:=h'}:=I.kept (t':=s.toks) kp
  have I2:Inv X pins σ (upd H h'.objs.size (.tup ys)) {s with heap:=h'.push {cls:=.type "tuple",data:=.seq its.toArray}}:=
   I1.laid (t':=s.toks) (fun b o e=>Yv _ e) (Yy _) (show ObjOk X.prog X.w _ _ _ (.tup ys)from⟨hz,its,r',IsTup.new _ _⟩)
  exact⟨.ref h'.objs.size,_,I2,rfl,q _ (I1.hok.fresh (Yy _))⟩
 ·obtain⟨its,r',pl,hz⟩:=I.tuple hq;exact call_tuple_same pl ⟨.ref p,H,I,rfl,q⟩
def tyV(K:Za)(T:String)(x:V)(H:Hp):Prop:=match x with
 | .str _=>T = "str"
 | .int _=>T = "int"
 | .ref p=>(T = "list"/\∃xs,SqL K H p xs)\/(T = "tuple"/\∃o,K.lookup p=some o/\o.cls=.type "tuple"/\o.dict=none)\/
   (T = "dict"/\((∃kvs,H p=some (.dK kvs))\/∃kvs,H p=some (.dT kvs)))\/(T = "set"/\∃S n,H p=some (.set S n))
 |_=>False
def Gd{pins:List (Addr×Obj)}{σ:St}{H:Hp}{s:Shared}{T:String}{x:V}{v:Value}(I:Inv X pins σ H s)(r:RelV x v)(ty:tyV X.K T x H) :
  s.TypeIs v T/\∀a,v=.ref a->∃ob,s.heap.get? a=some ob/\ob.dict=none:=by
 cases x with
 |str z=>
  obtain⟨t,rfl⟩:=r;cases (show T = "str" from ty)
  exact⟨typeIs_str s z t,fun _ e=>nomatch e⟩
 |int i=>
  obtain⟨t,rfl⟩:=r;cases (show T = "int" from ty)
  exact⟨typeIs_int s i t,fun _ e=>nomatch e⟩
 |ref p=>
  cases r
  rcases ty with⟨rfl,xs,hq⟩|⟨rfl,o,hk,hc,hd⟩|⟨rfl,hk⟩|⟨rfl,S,n,hk⟩
  ·obtain⟨its,_,pl,_⟩:=I.list hq;refine⟨pl.isList.typeIs,fun a e=>?_⟩;cases e
   obtain⟨o,n,e,c,hd,_⟩:=pl;exact⟨o,e,hd⟩
  ·refine⟨⟨o,I.kIn p o hk,hc⟩,fun a e=>?_⟩;cases e
   exact⟨o,I.kIn _ o hk,hd⟩
  ·have z:∃o,s.heap.get? p=some o/\o.ExactDict:=by
    rcases hk with⟨kvs,hk⟩|⟨kvs,hk⟩
    ·obtain⟨_,_,_,_,o,_,_,e,ex,_⟩:=I.hok p _ hk;exact⟨o,e,ex⟩
    ·obtain⟨_,_,_,_,o,_,_,e,ex,_⟩:=I.hok p _ hk;exact⟨o,e,ex⟩
   obtain⟨o,e,ex⟩:=z;refine⟨⟨o,e,ex.1⟩,fun a e2=>?_⟩;cases e2
   exact⟨o,e,ex.2.1⟩
  ·obtain⟨o,_,_,_,e,ex,_⟩:=I.hok p _ hk;refine⟨⟨o,e,ex.1⟩,fun a e2=>?_⟩;cases e2
   exact⟨o,e,ex.2.1⟩
 |_=>exact False.elim ty
def tBM0(K:Za)(T:String)(r:V->List V->Hp->VK->Prop)(to:TE):TE:=fun σ H Q=>to σ H fun x H1=>tyV K T x H1/\r x [] H1 Q
def tBM(K:Za)(T:String)(r:V->List V->Hp->VK->Prop)(to:TE)(t:TA):TE:=fun σ H Q=>to σ H fun x H1=>tyV K T x H1/\t σ H1 fun xs H2=>r x xs H2 Q
variable {o e:Expr}{es:List Expr}{to:TE}{t:TA}{name:Str}{apos cpos:Pos}{T id:String}{r:V->List V->Hp->VK->Prop}
def TM(pa:PlainAttrs T)(slot:Slot T name id)(hty:typeOf (.builtin id)=pure (.type "method_descriptor"))(hm:MtR X id r)(ho:PE X o to)(hbase:attributeBase o name X.env (eval o X.env)=eval o X.env:=by rfl)(hline:(apos.endLine==cpos.line)=true:=by rfl):PE X (.Call (.Attribute o name apos) [] [] cpos) (tBM0 X.K T r to):=by
 intro pins s σ H Q I h;refine wpAny_Call_method0_late hbase hline (thn (ho pins s σ H _ I h) fun v s1 ⟨x,H1,I1,r1,ty,q1⟩=>?_);obtain⟨h1,h2⟩:=Gd I1 r1 ty;exact⟨T,id,pa,slot,hty,h1,h2,Calls.callWith_builtin rfl (PySem.evalArgs_none (hm pins s1 σ H1 x [] v [] Q I1 r1 .nil q1))⟩
def Kz(pa:PlainAttrs T)(slot:Slot T name id)(hty:typeOf (.builtin id)=pure (.type "method_descriptor"))(hm:MtR X id r)(ho:PE X o to)(ha:PA X (e::es) t)(hbase:attributeBase o name X.env (eval o X.env)=eval o X.env:=by rfl)
  (hfew:((backTo cpos (starEach (e::es) X.env)).all (fun x=>!x.1)&&(backToKw cpos (keywordEach [] X.env)).all (fun x=>x.1.isSome)
   && decide ((e::es).length+([]:List Keyword).length+(if ([]:List Keyword).isEmpty then 0 else 1)<30))=true:=by rfl)
  (hline:(apos.endLine==cpos.line)=true:=by rfl) (hs:starEach (e::es) X.env=(false,eval e X.env)::starEach es X.env:=by rfl) (hplain:(backTo cpos (starEach es X.env)).any (·.1)=false:=by rfl) :
  PE X (.Call (.Attribute o name apos) (e::es) [] cpos) (tBM X.K T r to t):=by
 intro pins s σ H Q I h;refine wpAny_Call_method_late hbase hfew hline rfl (thn (ho pins s σ H _ I h) fun v s1 ⟨x,H1,I1,r1,ty,q1⟩=>?_);obtain⟨h1,h2⟩:=Gd I1 r1 ty;refine⟨T,id,pa,slot,hty,h1,h2,?_⟩;have hA:=ha cpos pins s1 σ H1 _ I1 q1;rw[hs]at hA ⊢;refine Calls.callWith_builtin (by show(false || (backTo cpos (starEach es X.env)).any (·.1))=false;rw[hplain]<;>rfl) (Calls.evalArgs_plain ?_);exact thn hA fun us s2 ⟨vs,H2,I2,r2,q2⟩=>hm pins s2 σ H2 x vs v us Q I2 r1 r2 q2
end
def MtM(X:Cx)(id:String)(r:V->List V->Hp->VK->Prop):Prop:=
 ∀(pins:List (Addr×Obj)) (s:Shared) (σ:St) (H:Hp) (x:V) (xs:List V) (v:Value) (us:List Value) (Q:VK),Inv X pins σ H s->RelV x v->Vals xs us->r x xs H Q->
  wpAny (model X.prog X.w) X.A (call (.builtin id) (v::us)) (EP X pins σ Q) X.xe s
def Vals.one:∀{x:V}{us:List Value},Vals [x] us->∃u,us=[u]/\RelV x u
 |_,_,.cons r .nil=>⟨_,rfl,r⟩
def Vals.zero:∀{us:List Value},Vals [] us->us=[]
 |_,.nil=>rfl
def Vals.dropLast {xs:List V}{us:List Value} (h:Vals xs us):Vals xs.dropLast us.dropLast:=by
 induction h with
 |nil=>exact .nil
 |cons r t ih=>
  cases t with
  |nil=>exact .nil
  |cons q t'=>exact .cons r ih
def Vals.rep {xs:List V}{us:List Value} (h:Vals xs us):∀k:Nat,Vals (List.replicate k xs).flatten (List.replicate k us).flatten
 | 0=>.nil
 |k+1=>by
  rw[W9,W9,WW,WW];exact Vals.append h (Vals.rep h k)
def Od{α:Type}(l:List α):l.eraseIdx (l.length-1)=l.dropLast:=by
 induction l with
 |nil=>rfl
 |cons a r ih=>
  cases r with
  |nil=>rfl
  |cons b r=>
   have e:(a::b::r).length-1=((b::r).length-1)+1:=by
    have h1:(a::b::r).length=r.length+2:=rfl;have h2:(b::r).length=r.length+1:=rfl;omega
   rw[e,List.eraseIdx_cons_succ,ih]
   all_goals rfl
def DR(its:List Value):∀(k:Nat) (acc:List Value),
  List.foldl (fun x1 x2=>x1++x2) acc.toArray (List.replicate k its.toArray)=(acc++(List.replicate k its).flatten).toArray
 | 0,acc=>by simp
 |k+1,acc=>by
  have e:acc.toArray++its.toArray=(acc++its).toArray:=by simp
  have e2:(acc++its)++(List.replicate k its).flatten=acc++(List.replicate (k+1) its).flatten:=by
   rw[W9,WW,QU]
  rw[←e2,←DR its k (acc++its),←e,W9,List.foldl_cons]
section
variable {X:Cx}{pins:List (Addr×Obj)}{σ:St}{H:Hp}{s:Shared}{l b:Addr}{xs ys zs:List V}
def Inv.lset {its its':List Value}{n:Nat}{f:Array Value->Array Value}{t':Nat} (I:Inv X pins σ H s) (hH:H l=some (.lst xs))
  (e:s.heap.get? l=some {cls:=.type "list",data:=.seq its.toArray n}) (hf:f its.toArray=its'.toArray) (hv:Vals ys its') (hz:ys.length<=sizeLine) :
  Inv X pins σ (upd H l (.lst ys)) {s with heap:=s.heap.update l (Obj.mapSeq f),toks:=t'}:=by
 have q:=PySem.IsL.update e f;rw[hf]at q;refine I.write (x:=l) (e:=l) (by rw[hH];exact trivial) (.inl rfl) (fun b' u hb hu=>(Wi s.heap (Obj.mapSeq f) (Ne.symm hb)).trans hu) ⟨_,q⟩ ?_;exact⟨hz,its',_,hv,q⟩
def Inv.lnew {its:List Value}{t':Nat} (I:Inv X pins σ H s) (hv:Vals ys its) (hz:ys.length<=sizeLine) :
  Inv X pins σ (upd H s.heap.objs.size (.lst ys)) {s with heap:=s.heap.push {cls:=.type "list",data:=.seq its.toArray},toks:=t'}:=
 I.laid (fun _ _ q=>Yv _ q) (Yy _) ⟨hz,its,0,hv,Y5 _ rfl⟩
def Inv.fresh (I:Inv X pins σ H s):H s.heap.objs.size=none:=I.hok.fresh (Yy _)
def Inv.lstM (I:Inv X pins σ H s) (hH:H l=some (.lst xs)):xs.length<=sizeLine/\∃(its:List Value) (n:Nat),Vals xs its/\xs.length=its.length/\s.heap.get? l=some {cls:=.type "list",data:=.seq its.toArray n}:=by
 obtain⟨z,its,n,r,e⟩:=I.hok l _ hH;exact⟨z,its,n,r,r.length,e⟩
def E3{n:Nat}(h:n<=sizeLine):Builtin.List.listTooLong n=false:=by
 unfold Builtin.List.listTooLong;exact YA (by omega)
end
section
variable {X:Cx}
def Fx:V->List V->Hp->VK->Prop:=fun x vs H Q=>∃l xs y,x=.ref l/\vs=[y]/\H l=some (.lst xs)/\xs.length<sizeLine/\Q .non (upd H l (.lst (xs++[y])))
def KA:MtM X "list.append" Fx:=by
 intro pins s σ H x vs v us Q I rx rv h;obtain⟨l,xs,y,rfl,rfl,hH,hz,q⟩:=h;cases rx
 obtain⟨u,rfl,ru⟩:=rv.one;obtain⟨z,its,n,r,hl,e⟩:=I.lstM hH;refine Vo F.slot_list_append ⟨_,e,rfl⟩ F.entry_list_append (F.args_list_append_2 _ _) (PySem.list_append l its.toArray n u (by rw[Y0];omega)) ⟨e,?_⟩;refine⟨.non,_,I.lset (its':=its++[u]) hH e (by simp) (r.append (.cons ru .nil)) ?_,rfl,q⟩;rw[Yw,YO];omega
def Oy:V->List V->Hp->VK->Prop:=fun x vs H Q=>∃l b xs zs,x=.ref l/\vs=[.ref b]/\H l=some (.lst xs)/\H b=some (.lst zs)/\xs.length+zs.length<=sizeLine/\Q .non (upd H l (.lst (xs++zs)))
def Zft:MtM X "list.extend" Oy:=by
 intro pins s σ H x vs v us Q I rx rv h;obtain⟨l,b,xs,zs,rfl,rfl,hH,hB,hz,q⟩:=h;cases rx
 obtain⟨u,rfl,ru⟩:=rv.one;cases ru
 obtain⟨z,its,n,r,hl,e⟩:=I.lstM hH;obtain⟨z2,its2,n2,r2,hl2,e2⟩:=I.lstM hB;have hsz:its.toArray.size+its2.toArray.size<=sizeLine:=by rw[Y0,Y0];omega
 have hlong:¬(!its.toArray.isEmpty&&Builtin.List.listTooLong (its.toArray.size+its2.toArray.size))=true:=by
  rw[E3 hsz,QN];exact Y6
 refine Vo F.slot_list_extend ⟨_,e,rfl⟩ F.entry_list_extend (F.args_list_extend_2 _ _)
  (AutoSeq1.list_extend_list_list_0 l its.toArray n b its2.toArray n2 hlong (by rw[Y0];omega) (by omega)) ⟨e,e2,?_⟩
 refine⟨.non,_,I.lset (its':=its++its2) hH e (by simp) (r.append r2) ?_,rfl,q⟩;rw[Yw];omega
def rPop:V->List V->Hp->VK->Prop:=fun x vs H Q=>∃l xs y,x=.ref l/\vs=[]/\H l=some (.lst xs)/\xs[xs.length-1]?=some y/\Q y (upd H l (.lst xs.dropLast))
def Sg:MtM X "list.pop" rPop:=by
 intro pins s σ H x vs v us Q I rx rv h;obtain⟨l,xs,y,rfl,rfl,hH,hy,q⟩:=h;cases rx
 have hus:=rv.zero;subst hus;obtain⟨z,its,n,r,hl,e⟩:=I.lstM hH;obtain⟨u,hu,ru⟩:=r.get hy
 have hy':its.toArray[its.toArray.size-1]?=some u:=by
  show its.toArray[its.length-1]?=some u;rw[←Wv,←hl];exact hu
 refine Vo F.slot_list_pop ⟨_,e,rfl⟩ F.entry_list_pop (F.args_list_pop_1 _) (MeetsSeq.list_pop_last l its.toArray n u hy' (by rw[Y0];omega)) ⟨e,?_⟩;refine⟨y,_,I.lset (its':=its.dropLast) hH e ?_ r.dropLast ?_,ru,q⟩
 ·show its.toArray.eraseIdxIfInBounds (its.toArray.size-1)=its.dropLast.toArray;rw[Y0,List.eraseIdxIfInBounds_toArray,Od]
 ·rw[List.length_dropLast];omega
def rCat:R2:=fun x y H Q=>∃l b xs zs,x=.ref l/\y=.ref b/\H l=some (.lst xs)/\H b=some (.lst zs)/\xs.length+zs.length<=sizeLine/\∀p,H p=none->Q (.ref p) (upd H p (.lst (xs++zs)))
def Xr:OpR X (binaryOp .Add) rCat:=by
 intro pins s σ H x y v u Q I rx ry h;obtain⟨l,b,xs,zs,rfl,rfl,hH,hB,hz,q⟩:=h;cases rx
 cases ry
 obtain⟨z,its,n,r,hl,e⟩:=I.lstM hH;obtain⟨z2,its2,n2,r2,hl2,e2⟩:=I.lstM hB;refine PySem.P.add_list e e2 ?_ (by rw[Y0,Y0];omega);have ea:its.toArray++its2.toArray=(its++its2).toArray:=by simp
 rw[ea];exact⟨.ref _,_,I.lnew (t':=s.toks) (r.append r2) (by rw[Yw];omega),rfl,q _ I.fresh⟩
def rRep:R2:=fun x y H Q=>∃l k xs,x=.ref l/\y=.int k/\H l=some (.lst xs)/\-(2 ^ 63)<=k/\k<2 ^ 63/\xs.length*k.toNat<=sizeLine/\
 ∀p,H p=none->Q (.ref p) (upd H p (.lst (List.replicate k.toNat xs).flatten))
def Mn{α:Type}(xs:List α)(k:Nat):(List.replicate k xs).flatten.length=k*xs.length:=by
 induction k with
 |zero=>simp
 |succ k ih=>rw[W9,WW,Yw,ih,Nat.succ_mul,Nat.add_comm]
def Gn:OpR X (binaryOp .Mult) rRep:=by
 intro pins s σ H x y v u Q I rx ry h;obtain⟨l,k,xs,rfl,rfl,hH,h1,h2,hz,q⟩:=h;cases rx
 obtain⟨t,rfl⟩:=ry;obtain⟨z,its,n,r,hl,e⟩:=I.lstM hH;have hlen:its.toArray.size*k.toNat<=sizeLine:=by rw[Y0,←hl];exact hz
 have hcap:¬its.toArray.size*k.toNat>(2 ^ 63-1) / 8:=by
  have:(sizeLine:Nat)<=(2 ^ 63-1) / 8:=by decide
  omega
 have hfit:¬(!Builtin.List.listFitsIndex k)=true:=by
  rw[fitsIndex_both h1 h2];exact Y6
 have hlong:¬Builtin.List.listTooLong (its.toArray.size*k.toNat)=true:=by
  rw[E3 hlen];exact Y6
 have hnew:List.foldl (fun x1 x2=>x1++x2) #[] (List.replicate (if its.toArray.isEmpty=true then 0 else k.toNat) its.toArray)=(List.replicate k.toNat its).flatten.toArray:=by
  have f0:∀m:Nat,List.foldl (fun x1 x2=>x1++x2) #[] (List.replicate m its.toArray)=(List.replicate m its).flatten.toArray:=fun m=>by
   have:=DR its m []
   rw[List.nil_append]at this;exact this
  rw[f0];cases its with
  |nil=>simp
  |cons a r'=>rw[Yp (by simp)]
 refine wpAny_binaryOp_repeat_ref (T:="list") (U:="int") (by decide) ⟨_,e,rfl⟩ (fun s'=>typeIs_int s' k t) noFill_list_mul F.fills_int_mul F.slot_int_rmul repeat_list F.slot_int_index.lookup
  (Vo F.slot_int_rmul (typeIs_int s k t) F.entry_int_rmul (F.args_int_rmul_2 _ _) (int___rmul___int_list k t l its.toArray n)
   ⟨e,rfl,⟨_,e,rfl⟩,Vo F.slot_list_mul ⟨_,e,rfl⟩ F.entry_list_mul (F.args_list_mul_2 _ _) (AutoListH.list___mul___list_int_3 l its.toArray n k t hfit hcap hlong) ⟨e,?_⟩⟩)
 rw[hnew];exact⟨.ref _,_,I.lnew (t':=s.toks) (r.rep k.toNat) (by rw[Mn,Nat.mul_comm];exact hz),rfl,q _ I.fresh⟩
end
end L2
namespace Att
open PySem PySem.W PySem.Calls PyProof.Rows
def Zdc{P:Params}{h:Heap}:∀(ns:List Int) (vs:List Value),WellAll P h vs (ns.map WData.int)->IntsAre vs ns:=by
 intro ns
 induction ns with
 |nil=>
  intro vs w;rw[VC]at w;cases w
  exact .nil
 |cons n ns ih=>
  intro vs w;rw[Y9]at w;cases w with
  |cons a b=>
   cases a
   exact .cons _ _ (ih _ b)
def Zds{l:OpenLaw}{n:Nat}(hn:l.most=some n){P:Params}{h:Heap}{args:List WData}{vals:List Value}(hpre:l.row.toRowW.claim.pre args=true)(hwl:WellAll P h vals args) :
  ∃a vs ns,vals=[Value.ref a]/\args=[WData.list (ns.map WData.int)]/\h.get? a=some {cls:=.type "list",data:=.seq vs.toArray}/\IntsAre vs ns/\ns.length<=n:=by
 have hsh:WShape.hasAll [] args [.list .int]=true:=(pre_splitW hpre).1;have hc:l.pre.holds [] {args:=args}=true:=(pre_splitW hpre).2;obtain⟨d,r,rfl,h1,h2⟩:=hasAllW_cons hsh;obtain rfl:=hasAllW_nil h2;obtain⟨xs,rfl,h3⟩:=hasW_list h1;obtain⟨ns,rfl⟩:=items_int h3
 have hlen:ns.length<=n:=by
  unfold OpenLaw.pre at hc
  have h4:(WTm.not (.lt (.lit (.int (n:Int))) (.len (.arg 0)))).holds [] {args:=[.list (ns.map .int)]}=true:=by
   have h4:=(holds_andW hc).1;rw[hn]at h4;exact h4
  have h5:=condW_of h4 (w_not (w_lt w_lit (w_len_list (w_arg rfl))));rw[Ym]at h5;refine Nat.le_of_not_lt fun q=>?_;have q':(n:Int)<((ns.length:Nat):Int):=by omega
  first
   |(rw[Yq q']at h5;exact absurd h5 (by decide))
   |(simp at h5;omega)
 cases hwl with
 |cons w1 w2=>
  cases w2
  cases w1 with
  |list ho hall=>exact⟨_,_,ns,rfl,rfl,ho,Zdc ns _ hall,hlen⟩
def Zar(l:OpenLaw)(args:List WData):l.row.toRowW.claim.post args (.bool true) args=true:=
 postW_of (r:=l.row.toRowW) (X:=(true==true))
  (show WShape.has [] (.bool true) .bool=true by first|rfl|decide|simp[WShape.has,WShape.arms,WShape.armsAll])
  (show(WTm.eq .res (.lit (.bool true))).value [] {args:=args,res:=some (.bool true),after:=args}=some (.bool (true==true))from w_eq_bool (w_res rfl) w_lit) rfl
def Za3{l:OpenLaw}{n:Nat}{q:Program}{loose:List Str}{XP:(Str->Option Value)->Heap->Prop}{YP:World->Heap->Prop}{d:DefRec}(hn:l.most=some n)(hdf:d.params.defaults=[])
  (call:∀(w:World) (s₀ s₁:Shared) (mg mb:Str->Option Value) (fa:Addr) (o:Obj) (pm cd doc:Value) (a:Addr) (vs:List Value) (ns:List Int),
   Ground q loose [] XP w s₀ mg mb s₁.heap->YP w s₁.heap->
   s₁.heap.get? fa=some o->o.data=.func (docDef d.name d.params d.body d.scope pm cd doc)->s₁.heap.CodeRec cd d.name->mg d.name=some (.ref fa)->
   s₁.heap.get? a=some {cls:=.type "list",data:=.seq vs.toArray}->IntsAre vs ns->ns.length<=n->s₁.gens=#[]->
   codeAny (model l.prog w) callerA (.call (.ref fa) ⟨[.ref a],[]⟩) (fun r s'=>r=.ok (.ret (.bool true))/\OldK s₁.heap s'.heap/\s'.os=s₁.os/\AllBare s'.gens) s₁) :
  WalkO q loose XP YP l.row.toRowW d [] (fun f vs=>PySem.call f vs):=by
 intro w s₀ s₁ mg mb G Y fa o pm cd doc dV kV ho hd hcd hD hmg hg args vals as hpre hlay hrd hwl hlo;obtain rfl:dV=.none:=Dflts.none hD hdf;obtain rfl:kV=.none:=Dflts.noKw hD;obtain⟨a,vs,ns,rfl,rfl,hobj,hints,hlen⟩:=Zds hn hpre hwl;refine enter_call (Qy (call w s₀ s₁ mg mb fa o pm cd doc a vs ns G Y ho (fd_plain hd) hcd hmg hobj hints hlen hg) fun r s' hq=>?_);obtain⟨rfl,h2,h3,h4⟩:=hq;exact⟨.inl ⟨.bool true,.bool true,[],rfl,fun _=>rfl,.bool true,Zar l _,fun _=>⟨List.Pairwise.nil,fun _ hm=>(nomatch hm)⟩⟩,h2,h3,h4⟩
end Att
namespace L2
open PySem PySem.Spec PyProof.Rows
def NC:∀{vs:List Value}{ns:List Int},IntsAre vs ns->Vals (ns.map V.int) vs
 |_,_,.nil=>.nil
 |_,_,.cons n t h=>.cons ⟨t,rfl⟩ (NC h)
def Only(H:Hp):Prop:=∀b,H b=none\/∃o xs,H b=some (.frz o (.lst xs))
def Mr{P:Program}{w:World}{K:Za}{mg mb:Str->Option Value}{CX:CXT}{k:Nat}{fa a:Addr}{fd:FuncData}{x:Str}{sp:Sp}{s₁:Shared}{vs:List Value}{ns:List Int}(KX:K.In s₁.heap)(hns:s₁.heap.Ns mainGlobals mg)(hb:s₁.heap.Ns builtinsNs mb)(hbb:∀x:Str,x≠"__name__"->mb x=bootBuiltins x)(hlim:s₁.heap.NoLimit)(hg:s₁.gens=#[])(ha:s₁.heap.get? a=some {cls:=.type "list",data:=.seq vs.toArray})(hi:IntsAre vs ns)(hl:ns.length<=sizeLine)(hr:Room k callerA)(F:∀base:Heap,K.In base->base.Ns mainGlobals mg->FnOk P w K mg base CX k fa fd [x] sp)(hbind:∀(s:Shared) (u:Value),BindsTo s fd ⟨[u],[]⟩ [(x,u)])(hsp:∀H:Hp,Only H->SqL K H a (ns.map V.int)->sp [.ref a] H (fun v _=>v=.bl true) fun _ _ _=>False)(hCX:∀H e s',CX [] H s₁ (fun _ _ _=>False) e s'->False) :
  codeAny (model P w) callerA (.call (.ref fa) ⟨[.ref a],[]⟩) (fun r s'=>r=.ok (.ret (.bool true))/\OldK s₁.heap s'.heap/\s'.os=s₁.os/\AllBare s'.gens) s₁:=by
 have rv:=NC hi;have lenV:=hi.length
 have core:∀H:Hp,Only H->SqL K H a (ns.map V.int)->HOk P w H s₁.heap->(∀b,H b≠none->b=a)->(H a≠none->K.lookup a=none)->
   codeAny (model P w) callerA (.call (.ref fa) ⟨[.ref a],[]⟩) (fun r s'=>r=.ok (.ret (.bool true))/\OldK s₁.heap s'.heap/\s'.os=s₁.os/\AllBare s'.gens) s₁:=by
  intro H hO hS hok hA hK;have base_of:∀{b:Addr} {o:Obj},s₁.heap.get? b=some o->H b=none->(hidT s₁.heap H).get? b=some o:=fun e n=>Lx e n
  have noA:∀{b:Addr} {o:Obj} {es:Array DictEntry} {ep:Nat},s₁.heap.get? b=some o->o.data=.dict es ep->H b=none:=fun {b o es ep} e d=>by
   cases q:H b with
   |none=>rfl
   |some u=>
    have e':b=a:=hA b (by rw[q];simp);subst e';rw[ha]at e;cases e;have d':Data.seq vs.toArray _=Data.dict es ep:=d;cases d'
  have nsK:∀{b:Addr} {m:Str->Option Value},s₁.heap.Ns b m->(hidT s₁.heap H).Ns b m:=fun {b m} ⟨o,es,ep,e,d,r⟩=>⟨o,es,ep,base_of e (noA e d),d,r⟩
  have hKb:K.In (hidT s₁.heap H):=fun b o e=>base_of (KX b o e) (by
   cases q:H b with
   |none=>rfl
   |some u=>
    have e':b=a:=hA b (by rw[q];simp);subst e';rw[hK (by rw[q];simp)]at e;cases e)
  have hM:Mod K mg (hidT s₁.heap H):=⟨hKb,nsK hns,⟨mb,nsK hb,hbb⟩,let ⟨mc,h1,h2⟩:=hlim;⟨mc,nsK h1,h2⟩⟩;have e0:Env0 P w K mg (hidT s₁.heap H) callerA [] s₁ H:=⟨rfl,hM,fun b o e=>Zah e,WG (LB _ _),trivial,fun b hb=>absurd (show b∈([]:List Addr)from hb) (by simp),hok,.of_eq hg⟩
  refine Qy ((F _ hKb (nsK hns)).run callerA [] s₁ H ⟨[.ref a],[]⟩ [.ref a] [.ref a] _ _ hr e0 (hbind s₁ (.ref a)) (.cons rfl .nil) (hsp H hO hS)) fun r s' h=>?_;cases r with
  |error e=>exact(hCX H e s' h).elim
  |ok fl=>
   cases fl with
   |next=>exact False.elim h
   |brk=>exact False.elim h
   |cont=>exact False.elim h
   |ret u=>
    obtain⟨v,H',os,bare,un,hok',r',q⟩:=h;have q':v=.bl true:=q;subst q';obtain rfl:u=Value.bool true:=r';refine⟨rfl,OldK.of_keep fun b o e=>?_,os,bare⟩;cases q:H b with
    |none=>exact un.keep b o e q (by intro z;exact absurd (show b∈([]:List Addr)from z) (by simp)) (by simp)
    |some u=>
     rcases hO b with z|⟨ob,xs,z⟩
     ·rw[q]at z;cases z
     ·have z2:=un.frzs b ob _ z;obtain⟨e1,_⟩:=hok b _ z;obtain⟨e2,_⟩:=hok' b _ z2;rw[e]at e1;cases e1;exact e2
 cases hk:K.lookup a with
 |some o=>
  have e:=KX a o hk;rw[ha]at e;cases e
  refine core (fun _=>none) (fun _=>.inl rfl) (.inr ⟨_,vs.toArray,_,hk,rfl,rfl,rfl,by rw[Y0,lenV];exact hl,by simpa using rv⟩) (fun b u z=>by have z':(none:Option HO)=some u:=z;cases z') (fun b z=>absurd rfl z) fun z=>absurd rfl z
 |none=>
  refine core (fun b=>if b=a then some (.frz {cls:=.type "list",data:=.seq vs.toArray} (.lst (ns.map V.int)))else none) (fun b=>?_) (.inl (.inr ⟨{cls:=.type "list",data:=.seq vs.toArray},Yr rfl⟩)) (fun b u z=>?_) (fun b z=>?_) fun _=>hk
  ·by_cases hb:b=a
   ·exact .inr ⟨_,_,Yr hb⟩
   ·exact .inl (Yp hb)
  ·by_cases hb:b=a
   ·have z':=(Yr hb).symm.trans z;cases z'
    subst hb;exact⟨ha,by rw[Ym];exact hl,vs,_,rv,ha⟩
   ·have z':=(Yp hb).symm.trans z;cases z'
  ·by_cases hb:b=a
   ·exact hb
   ·exact absurd (Yp hb) z
def Oe{l:PySem.W.OpenLaw}{n k:Nat}{q:Program}{loose:List Str}{XP:(Str->Option Value)->Heap->Prop}{YP:World->Heap->Prop}{d:DefRec}{K:Params->Za}{CX:World->CXT}{sp:World->Sp}{x:Str}(hn:l.most=some n)(hn2:n<=sizeLine)(hdf:d.params.defaults=[])(hr:Room k callerA)(hY:∀(w:World) (h:Heap),YP w h->(K w.params).In h)
  (F:∀(w:World) (mg:Str->Option Value) (fa:Addr) (h:Heap),(K w.params).In h->h.Ns mainGlobals mg->mg d.name=some (.ref fa)->
   ∃fd:FuncData,(∀(s:Shared) (u:Value),BindsTo s fd ⟨[u],[]⟩ [(x,u)])/\
    ∀base:Heap,(K w.params).In base->base.Ns mainGlobals mg->FnOk l.prog w (K w.params) mg base (CX w) k fa fd [x] (sp w))
  (hsp:∀(w:World) (H:Hp) (a:Addr) (ns:List Int),ns.length<=n->Only H->SqL (K w.params) H a (ns.map V.int)->sp w [.ref a] H (fun v _=>v=.bl true) fun _ _ _=>False)
  (hCX:∀(w:World) (H:Hp) (s:Shared) (e:Value) (s':Shared),CX w [] H s (fun _ _ _=>False) e s'->False) :
  PySem.W.WalkO q loose XP YP l.row.toRowW d [] (fun f vs=>PySem.call f vs):=by
 refine Att.Za3 hn hdf fun w s₀ s₁ mg mb fa o pm cd doc a vs ns G Y ho hd hcd hmg hobj hints hlen hg=>?_;have KX:=hY w _ Y;obtain⟨fd,hb,hF⟩:=F w mg fa _ KX G.T.g hmg;exact Mr KX G.T.g G.T.b G.T.builtins G.T.nolimit hg hobj hints (Y4 hlen hn2) hr hF hb (fun H hO hS=>hsp w H a ns hlen hO hS) fun H e s'=>hCX w H s₁ e s'
def Zcs{l:PySem.W.OpenLaw}{n k:Nat}{q:Program}{loose:List Str}{XP:(Str->Option Value)->Heap->Prop}{YP:World->Heap->Prop}{d:DefRec}{K:Params->Za}{CX:CXT}{sp:Za->Sp}{x:Str}(hn:l.most=some n)(hn2:n<=sizeLine)(hdf:d.params.defaults=[])(hr:Room k callerA)(hY:∀(w:World) (h:Heap),YP w h->(K w.params).In h)
  (F:∀(w:World) (mg:Str->Option Value) (fa:Addr) (h:Heap),(K w.params).In h->h.Ns mainGlobals mg->mg d.name=some (.ref fa)->
   ∃fd:FuncData,(∀(s:Shared) (u:Value),BindsTo s fd ⟨[u],[]⟩ [(x,u)])/\
    ∀base:Heap,(K w.params).In base->base.Ns mainGlobals mg->FnOk l.prog w (K w.params) mg base CX k fa fd [x] (sp (K w.params)))
  (hsp:∀(K:Za) (H:Hp) (a:Addr) (ns:List Int),ns.length<=n->Only H->SqL K H a (ns.map V.int)->sp K [.ref a] H (fun v _=>v=.bl true) fun _ _ _=>False)
  (hCX:∀(H:Hp) (s:Shared) (e:Value) (s':Shared),CX [] H s (fun _ _ _=>False) e s'->False) :
  PySem.W.WalkO q loose XP YP l.row.toRowW d [] (fun f vs=>PySem.call f vs):=
 Oe (K:=K) (CX:=fun _=>CX) (sp:=fun w=>sp (K w.params)) hn hn2 hdf hr hY F (fun w H a ns h1 h2 h3=>hsp (K w.params) H a ns h1 h2 h3) fun _ H s e s'=>hCX H s e s'
def inClass(s:Stmt)(j:Nat):Stmt:=match s with
 | .ClassDef _ _ _ body _ _ _ _ _ _ _=>body.getD j (.Pass ⟨0,0,0,0⟩)
 |_=>.Pass ⟨0,0,0,0⟩
def Ka(s:Stmt):Arguments:=match s with
 | .FunctionDef _ a _ _ _ _ _ _ _ _=>a
 |_=>{posonlyargs:=[],args:=[],vararg:=none,kwonlyargs:=[],kw_defaults:=[],kwarg:=none,defaults:=[]}
def UZ(s:Stmt):List Stmt:=match s with
 | .FunctionDef _ _ b _ _ _ _ _ _ _=>b
 |_=>[]
def JR(s:Stmt):Scope:=match s with
 | .FunctionDef _ _ _ _ _ _ sc _ _ _=>sc
 |_=>{kind:=.function,names:=[],isGenerator:=false,isCoroutine:=false}
abbrev CX0:CXT:=fun _ _ _ _ _ _=>False
abbrev E0:XK:=fun _ _ _=>False
def UI{X:Cx}:XI CX0 X E0:=fun _ _ _ _ _ _ _ h=>h.elim
structure Fun (K:Za) (x qual:Str) (st:Stmt) (f:Addr) (fd:FuncData):Prop where
 ex:∃(oc:Value) (od:Option Addr) (kV doc pm:Value) (an:Option Addr) (cdv ct:Value) (osl:Array (Option Value)),
  fd=PySem.W.fnOf x qual (Ka st) (UZ st) (JR st) .none kV doc pm an cdv ct/\K.lookup f=some ⟨oc,od,.func fd,osl⟩/\PySem.W.codeIn K cdv qual=true
 kp:PySem.W.keepIn K (.ref f)=true
section
variable {P:Program}{w:World}{K:Za}{mg:Str->Option Value}{base:Heap}
def Fun.ok {x qual:Str}{st:Stmt}{f:Addr}{fd:FuncData}{N ps:List Str}{k:Nat}{sp:Sp} (F:Fun K x qual st f fd) (S:FnScope N ps (JR st)) (len:∀vs H Q E,sp vs H Q E->vs.length=ps.length)
  (hbody:∀(cdv:Value) (A:Around) (outer:List Env) (s:Shared) (H:Hp) (vs:List V) (Q:VK) (E:XK),Room k (A.deeper (envOfC qual (JR st) s.heap.objs.size f cdv))->sp vs H Q E->
   ∃t,PSs (cxOf CX0 P w K mg base N qual (JR st) f cdv A outer s H E).nox (UZ st) t/\t {nx:=fun _ H'=>Q .non H',rt:=Q} (start N vs) H):FnOk P w K mg base CX0 (k+1) f fd ps sp:=by
 obtain⟨oc,od,kV,doc,pm,an,cdv,ct,osl,rfl,lk,hcd⟩:=F.ex;refine F4 lk hcd S len fun A outer s H vs Q E hr hsp=>?_;obtain⟨t,h,q⟩:=hbody cdv A outer s H vs Q E hr hsp;exact⟨t,h.nox,q⟩
def Fun.binds {x qual:Str}{st:Stmt}{f:Addr}{fd:FuncData}{ps:List Str} (F:Fun K x qual st f fd)
  (h:∀(kV doc pm:Value) (an:Option Addr) (cdv ct:Value) (us:List Value),us.length=ps.length->bindArgs (PySem.W.fnOf x qual (Ka st) (UZ st) (JR st) .none kV doc pm an cdv ct) ⟨us,[]⟩=pure (ps.zip us)):Binds K fd ps []:=by
 obtain⟨oc,od,kV,doc,pm,an,cdv,ct,osl,rfl,lk,hcd⟩:=F.ex;exact .all (h kV doc pm an cdv ct)
def FE{x qual:Str}{st:Stmt}{f:Addr}{oc:Value}{od an:Option Addr}{osl:Array (Option Value)}{kV doc pm cdv ct:Value}(l:K.lookup f=some ⟨oc,od,.func (PySem.W.fnOf x qual (Ka st) (UZ st) (JR st) .none kV doc pm an cdv ct),osl⟩)(c:PySem.W.codeIn K cdv qual=true)(k:PySem.W.keepIn K (.ref f)=true):Fun K x qual st f (PySem.W.fnOf x qual (Ka st) (UZ st) (JR st) .none kV doc pm an cdv ct):=⟨⟨oc,od,kV,doc,pm,an,cdv,ct,osl,rfl,l,c⟩,k⟩
end
def UC{A:Around}{k:Nat}(hr:Room k A):A.units+1<cLine:=Wp (Nat.add_le_add_left (by decide:1<=64) _) hr.units
def Ld{n:Nat}(h:n<=1000):n<sizeLine:=Wp h (by decide)
section
variable {X:Cx}
def pv(i:Nat){x:Str}{pos:Pos}(hN:X.N[i]?=some x:=by rfl)(hv:Vis X.env.scope x:=by first|exact Or.inl rfl|exact Or.inr (Or.inl rfl)|exact Or.inr (Or.inr rfl))(hd:(x==("__debug__" : Str))=false:=by decide)(hcd:(x==("__classdict__" : Str))=false:=by decide):PE X (.Name x pos) (tVar i):=Zc5 hN hv hd hcd
end
def iteF{A B:Prop}(h:B):if false=true then A else B:=by
 rw[Yp Y6];exact h
def iteT{A B:Prop}(h:A):if true=true then A else B:=by
 rw[Yr rfl];exact h
def ite2{c A B:Prop}[Decidable c](h1:c->A)(h2:¬c->B):if c then A else B:=by
 by_cases h:c
 ·rw[Yr h];exact h1 h
 ·rw[Yp h];exact h2 h
def Ag{c A B:Prop}[Decidable c](hc:c)(h:B):if (!decide c)=true then A else B:=by
 rw[Yq hc];exact iteF h
def Same(H H':Hp):Prop:=∀b o,H b=some o->H' b=some o
def Same.refl (H:Hp):Same H H:=fun _ _ h=>h
def Same.trans {H H1 H2:Hp} (a:Same H H1) (b:Same H1 H2):Same H H2:=fun c o h=>b c o (a c o h)
def Same.free {H H':Hp} (e:Same H H') {l:Addr} (h:H' l=Option.none):H l=Option.none:=by
 cases q:H l with
 |none=>rfl
 |some o=>
  rw[e l o q]at h;cases h
def Same.seq {K:Za}{H H':Hp}{a:Addr}{xs:List V} (e:Same H H') (h:SqL K H a xs):SqL K H' a xs:=by
 rcases h with(h|⟨o,h⟩)|h
 ·exact .inl (.inl (e _ _ h))
 ·exact .inl (.inr ⟨o,e _ _ h⟩)
 ·exact .inr h
end L2
set_option maxHeartbeats 4000000
namespace L2
open PySem PySem.Spec PyProof.Rows
section
variable {κ:Type} [DecidableEq κ]
def valV(kvs:List (κ×V))(k:κ):Option V:=(kvs.find? fun kv=>decide (kv.1=k)).map (·.2)
def putK(kvs:List (κ×V))(k:κ)(v:V):List (κ×V):=
 if (kvs.any fun kv=>decide (kv.1=k))=true then kvs.map (fun kv=>if kv.1=k then(kv.1,v)else kv)else kvs++[(k,v)]
def XZ{p:κ×V}{r:List (κ×V)}{k:κ}(e:p.1=k):valV (p::r) k=some p.2:=by simp[valV,Qn,e]
def Kf{p:κ×V}{r:List (κ×V)}{k:κ}(e:¬p.1=k):valV (p::r) k=valV r k:=by simp[valV,Qn,e]
def Tz(k:κ):∀kvs:List (κ×V),(kvs.any fun kv=>decide (kv.1=k))=(valV kvs k).isSome
 |[]=>rfl
 |p::r=>by
  rw[Ql];by_cases e:p.1=k
  ·simp only[XZ e,Yq e,Bool.true_or,Option.isSome_some]
  ·rw[Kf e,YA e,Bool.false_or];exact Tz k r
def Dc(k j:κ)(y:V):∀kvs:List (κ×V),valV (kvs.map fun kv=>if kv.1=k then(kv.1,y)else kv) j=(valV kvs j).map fun x=>if j=k then y else x
 |[]=>rfl
 |p::r=>by
  have ih:=Dc k j y r;rw[Y9];by_cases h:p.1=k
  ·rw[Yr h];by_cases e:p.1=j
   ·rw[XZ (p:=(p.1,y)) e,XZ e,Vp,Yr (e.symm.trans h)]
   ·rw[Kf (p:=(p.1,y)) e,Kf e,ih]
  ·rw[Yp h];by_cases e:p.1=j
   ·rw[XZ (p:=p) e,XZ e,Vp,Yp (fun z=>h (e.trans z))]
   ·rw[Kf (p:=p) e,Kf e,ih]
def DY(k j:κ)(y:V):∀kvs:List (κ×V),valV kvs k=none->valV (kvs++[(k,y)]) j=if j=k then some y else valV kvs j
 |[],_=>by
  by_cases e:k=j
  ·rw[Yr e.symm];exact XZ (p:=(k,y)) e
  ·rw[Yp (fun z=>e z.symm)];exact Kf (p:=(k,y)) e
 |p::r,hn=>by
  rw[Vf];have hk:¬p.1=k:=fun z=>by rw[XZ z]at hn;cases hn
  rw[Kf hk]at hn;have ih:=DY k j y r hn;by_cases e:p.1=j
  ·rw[XZ e,XZ e,Yp (fun z=>hk (e.trans z))]
  ·rw[Kf e,Kf e,ih]
def Sz(kvs:List (κ×V))(k j:κ)(y:V):valV (putK kvs k y) j=if j=k then some y else valV kvs j:=by
 unfold putK;by_cases a:(kvs.any fun kv=>decide (kv.1=k))=true
 ·rw[Yr a,Dc];rw[Tz]at a;by_cases e:j=k
  ·obtain⟨x,hx⟩:=Option.isSome_iff_exists.mp a;rw[Yr e,e,hx,Vp,Yr rfl]
  ·rw[Yp e];cases valV kvs j with
   |none=>rfl
   |some x=>rw[Vp,Yp e]
 ·rw[Yp a];refine DY k j y kvs ?_;rw[Tz]at a;cases q:valV kvs k with
  |none=>rfl
  |some x=>rw[q]at a;exact(a rfl).elim
def NU(kvs:List (κ×V))(k:κ)(v:V):(putK kvs k v).length<=kvs.length+1:=by
 unfold putK;split
 ·rw[Ym];omega
 ·rw[Yw,YE,List.length_nil];omega
def Zd3{kvs:List (κ×V)}{k:κ}(v:V)(h:valV kvs k=none):putK kvs k v=kvs++[(k,v)]:=by
 unfold putK;rw[Tz,h];exact Yp (by decide)
def RelO.isSome_eq {o:Option V}{u:Option Value} (r:RelO o u):o.isSome=u.isSome:=by
 cases o with
 |none=>cases u with
  |none=>rfl
  |some _=>exact(show False from r).elim
 |some _=>cases u with
  |none=>exact(show False from r).elim
  |some _=>rfl
def KV.val {kvs:List (κ×V)}{vs:List (κ×Value)} (r:KV kvs vs) (k:κ):RelO (valV kvs k) (valueAt vs k):=by
 unfold KV at r
 induction r with
 |nil=>exact True.intro
 | @cons p q ps qs h t ih=>
  obtain⟨h1,h2⟩:=h;by_cases e:p.1=k
  ·have e':q.1=k:=h1.symm.trans e;have b:valueAt (q::qs) k=some q.2:=by simp[valueAt,Qn,e']
   rw[XZ e,b];exact h2
  ·have e':¬q.1=k:=fun z=>e (h1.trans z);have b:valueAt (q::qs) k=valueAt qs k:=by simp[valueAt,Qn,e']
   rw[Kf e,b];exact ih
def KV.any {kvs:List (κ×V)}{vs:List (κ×Value)} (r:KV kvs vs) (k:κ):(kvs.any fun kv=>decide (kv.1=k))=vs.any fun kv=>decide (kv.1=k):=by
 unfold KV at r
 induction r with
 |nil=>rfl
 |cons h t ih=>rw[Ql,Ql,ih,h.1]
def KV.repl {kvs:List (κ×V)}{vs:List (κ×Value)} (r:KV kvs vs) (k:κ) {y:V}{u:Value} (ry:RelV y u) :
  KV (kvs.map fun kv=>if kv.1=k then(kv.1,y)else kv) (vs.map fun kv=>if kv.1=k then(kv.1,u)else kv):=by
 unfold KV at r ⊢
 induction r with
 |nil=>exact .nil
 | @cons p q ps qs h t ih=>
  rw[Y9,Y9];refine .cons ?_ ih;obtain⟨h1,h2⟩:=h;by_cases e:p.1=k
  ·rw[Yr e,Yr (h1.symm.trans e)];exact⟨h1,ry⟩
  ·rw[Yp e,Yp (fun z=>e (h1.trans z))];exact⟨h1,h2⟩
def KV.put {kvs:List (κ×V)}{vs:List (κ×Value)} (r:KV kvs vs) (k:κ) {y:V}{u:Value} (ry:RelV y u):KV (putK kvs k y) (stored vs k u):=by
 unfold putK stored;rw[r.any k];by_cases e:(vs.any fun kv=>decide (kv.1=k))=true
 ·rw[Yr e,Yr e];exact r.repl k ry
 ·rw[Yp e,Yp e];exact Paired.snoc r ⟨rfl,ry⟩
def KV.length {kvs:List (κ×V)}{vs:List (κ×Value)} (r:KV kvs vs):kvs.length=vs.length:=Paired.length r
end
def NW{P:Program}{w:World}{k:Key}{u:Value}(r:RelV (kV k) u):(X8 P w).is k u=true:=by
 cases k with
 |inl i=>obtain⟨t,e⟩:=(show ∃t,u=Value.int i t from r);subst e;exact RH P w i t
 |inr x=>obtain⟨t,e⟩:=(show ∃t,u=Value.str x t from r);subst e;exact Ir P w x t
def Cd{P:Program}{w:World}:∀{ks:List Key}{us:List Value},Vals (ks.map kV) us->ItemsAre (X8 P w) ks us
 |[],_,r=>by rw[VC]at r;cases r;exact .nil
 |k::ks,_,r=>by
  rw[Y9]at r;cases r with
  |cons h t=>exact .cons (NW h) (Cd t)
abbrev KT(H:Hp):List (List Key×V)->List (List Key×Addr×Value)->Prop:=Paired fun p q=>p.1=q.1/\H q.2.1=some (.tup (p.1.map kV))/\RelV p.2 q.2.2
def KT.val {H:Hp}{kvs:List (List Key×V)}{xs:List (List Key×Addr×Value)} (r:KT H kvs xs) (k:List Key):RelO (valV kvs k) ((atKey xs k).map (·.2)):=by
 induction r with
 |nil=>exact True.intro
 | @cons p q ps qs h t ih=>
  obtain⟨h1,_,h2⟩:=h;by_cases e:p.1=k
  ·have e':q.1=k:=h1.symm.trans e;have b:atKey (q::qs) k=some q.2:=by simp[atKey,Qn,e']
   rw[XZ e,b];exact h2
  ·have e':¬q.1=k:=fun z=>e (h1.trans z);have b:atKey (q::qs) k=atKey qs k:=by simp[atKey,Qn,e']
   rw[Kf e,b];exact ih
def KT.repl {H:Hp}{kvs:List (List Key×V)}{xs:List (List Key×Addr×Value)} (r:KT H kvs xs) (k:List Key) {y:V}{u:Value} (ry:RelV y u) :
  KT H (kvs.map fun kv=>if kv.1=k then(kv.1,y)else kv) (xs.map (putAt k u)):=by
 induction r with
 |nil=>exact .nil
 | @cons p q ps qs h t ih=>
  rw[Y9,Y9];refine .cons ?_ ih;obtain⟨h1,h2,h3⟩:=h;unfold putAt;by_cases e:p.1=k
  ·rw[Yr e,Yr (h1.symm.trans e)];exact⟨h1,h2,ry⟩
  ·rw[Yp e,Yp (fun z=>e (h1.trans z))];exact⟨h1,h2,h3⟩
def KT.put {H:Hp}{kvs:List (List Key×V)}{xs:List (List Key×Addr×Value)} (r:KT H kvs xs) (k:List Key) {b:Addr}{y:V}{u:Value} (hb:H b=some (.tup (k.map kV))) (ry:RelV y u) :
  KT H (putK kvs k y) (storedH xs k b u):=by
 have e:(kvs.any fun kv=>decide (kv.1=k))=(atKey xs k).isSome:=by
  rw[Tz,(r.val k).isSome_eq,Option.isSome_map]
 unfold putK storedH;rw[e];by_cases q:(atKey xs k).isSome=true
 ·rw[Yr q,Yr q];exact r.repl k ry
 ·rw[Yp q,Yp q];exact Paired.snoc r ⟨rfl,hb,ry⟩
def KT.keeps {H H':Hp}{kvs:List (List Key×V)}{xs:List (List Key×Addr×Value)} (r:KT H kvs xs) (ht:∀b ys,H b=some (.tup ys)->H' b=some (.tup ys)):KT H' kvs xs:=
 Paired.mapP r fun _ _ z=>⟨z.1,ht _ _ z.2.1,z.2.2⟩
section
variable {P:Program}{w:World}{H:Hp}{h:Heap}{a:Addr}
def HA{u:HO}(ok:HOk P w H h)(e:Rd H a u):ObjOk P w H h a u:=e.ok ok
def Sr{kvs:List (Key×V)}(ok:HOk P w H h)(e:Rd H a (.dK kvs)):kvs.length<=sizeLine/\(a==sysModules)=false/\∃vs,KV kvs vs/\h.DictOf (X8 P w) a vs:=
 show ObjOk P w H h a (.dK kvs)from HA ok e
def HW{kvs:List (Key×V)}(ok:HOk P w H h)(e:H a=some (.dK kvs)):kvs.length<=sizeLine/\(a==sysModules)=false/\∃vs,KV kvs vs/\h.DictOf (X8 P w) a vs:=Sr ok (.inl e)
def Nd{ks:List Key}(ok:HOk P w H h)(e:H a=some (.tup (ks.map kV))):(tupleKind (X8 P w)).is h ks a:=by
 obtain⟨_,its,r,o,h1,h2,n,h3⟩:=(show ObjOk P w H h a (.tup (ks.map kV))from ok a _ e)
 exact⟨o,its.toArray,n,h1,h2,h3,by simpa using Cd r⟩
def Sv{kvs:List (List Key×V)}(ok:HOk P w H h)(e:Rd H a (.dT kvs)):kvs.length<=sizeLine/\(a==sysModules)=false/\
  ∃xs,KT H kvs xs/\h.DictOfH (tupleKind (X8 P w)) a xs:=by
 obtain⟨z,y,xs,r,o,es,ep,h1,h2,h3,h4,h5⟩:=(show ObjOk P w H h a (.dT kvs)from HA ok e)
 refine⟨z,y,xs,r,o,es,ep,h1,h2,h3,h4,fun x hx=>?_,h5⟩
 have all:∀{l:List (List Key×V)} {m:List (List Key×Addr×Value)},KT H l m->∀x∈m,(tupleKind (X8 P w)).is h x.1 x.2.1:=by
  intro l m q
  induction q with
  |nil=>intro x hx;exact nomatch hx
  | @cons p q ps qs hq t ih=>
   intro x hx;rcases Y2.mp hx with e|hx
   ·subst e;exact Nd ok (by rw[←hq.1];exact hq.2.1)
   ·exact ih x hx
 exact all r x hx
def SC{kvs:List (List Key×V)}(ok:HOk P w H h)(e:H a=some (.dT kvs)):kvs.length<=sizeLine/\(a==sysModules)=false/\
  ∃xs,KT H kvs xs/\h.DictOfH (tupleKind (X8 P w)) a xs:=Sv ok (.inl e)
end
def DGet(H:Hp)(a:Addr)(y:V)(r:Option V):Prop:=
 (∃kvs k,Rd H a (.dK kvs)/\y=kV k/\r=valV kvs k)\/∃kvs k b,Rd H a (.dT kvs)/\y=.ref b/\H b=some (.tup (k.map kV))/\r=valV kvs k
def DPut(H:Hp)(a:Addr)(y v:V)(H':Hp):Prop:=
 (∃kvs k,H a=some (.dK kvs)/\y=kV k/\kvs.length<sizeLine/\H'=upd H a (.dK (putK kvs k v)))\/
 ∃kvs k b,H a=some (.dT kvs)/\y=.ref b/\H b=some (.tup (k.map kV))/\kvs.length<sizeLine/\H'=upd H a (.dT (putK kvs k v))
def DGet.k {H:Hp}{a:Addr}{kvs:List (Key×V)}{k:Key} (e:H a=some (.dK kvs)):DGet H a (kV k) (valV kvs k):=.inl ⟨kvs,k,.inl e,rfl,rfl⟩
def DGet.t {H:Hp}{a b:Addr}{kvs:List (List Key×V)}{k:List Key} (e:H a=some (.dT kvs)) (eb:H b=some (.tup (k.map kV))):DGet H a (.ref b) (valV kvs k):=.inr ⟨kvs,k,b,.inl e,rfl,eb,rfl⟩
def DPut.k {H:Hp}{a:Addr}{kvs:List (Key×V)}{k:Key}{v:V} (e:H a=some (.dK kvs)) (hl:kvs.length<sizeLine):DPut H a (kV k) v (upd H a (.dK (putK kvs k v))):=.inl ⟨kvs,k,e,rfl,hl,rfl⟩
def DPut.t {H:Hp}{a b:Addr}{kvs:List (List Key×V)}{k:List Key}{v:V} (e:H a=some (.dT kvs)) (eb:H b=some (.tup (k.map kV))) (hl:kvs.length<sizeLine) :
  DPut H a (.ref b) v (upd H a (.dT (putK kvs k v))):=.inr ⟨kvs,k,b,e,rfl,eb,hl,rfl⟩
section
variable {X:Cx}{pins:List (Addr×Obj)}{σ:St}{H:Hp}{s:Shared}{a:Addr}{y v:V}{u r:Value}{o:Option V}{A:Around}{E:Value->Shared->Prop}
def Inv.big (I:Inv X pins σ H s):sysModules<s.heap.objs.size:=by
 have h:mainGlobals<s.heap.objs.size:=(I.mod.glob.keeps I.bk).lt;exact Qz (by decide) h
def Ij{Q:Value->Shared->Prop}(hu:A.units+1<cLine)(I:Inv X pins σ H s)(g:DGet H a y (some v))(ry:RelV y u)(h:∀w' s',Inv X pins σ H s'->RelV v w'->Q w' s') :
  wpAny (model X.prog X.w) A (getItem (.ref a) u) Q E s:=by
 rcases g with⟨kvs,k,e,ey,l⟩|⟨kvs,k,b,e,ey,eb,l⟩
 ·subst ey;obtain⟨z,hd,vs,rel,dd⟩:=Sr I.hok e;obtain⟨w',hw,rw'⟩:=RelO.some_of (v:=v) (o:=valueAt vs k) (by rw[l];exact rel.val k);exact wpAny_getItem_of (NW ry) dd.mapOf hw (h w' _ (I.tok _) rw')
 ·subst ey;cases (show u=Value.ref b from ry)
  obtain⟨z,hd,xs,rel,dd⟩:=Sv I.hok e;obtain⟨w',hw,rw'⟩:=RelO.some_of (v:=v) (o:=(atKey xs k).map (·.2)) (by rw[l];exact rel.val k);obtain⟨p,hp,hp2⟩:=Option.map_eq_some_iff.mp hw;refine wpAny_getItem_heap (tupleKind_room_in1 hu) (Nd I.hok eb) dd hp ?_;rw[hp2];exact h w' _ (I.tok _) rw'
def Lw{Q:Value->Shared->Prop}(hu:A.units+1<cLine)(I:Inv X pins σ H s)(g:DGet H a y o)(ry:RelV y u)(h:∀s',Inv X pins σ H s'->Q (.bool (!o.isSome)) s') :
  wpAny (model X.prog X.w) A (compareOp .NotIn u (.ref a)) Q E s:=by
 rcases g with⟨kvs,k,e,ey,l⟩|⟨kvs,k,b,e,ey,eb,l⟩
 ·subst ey;obtain⟨z,hd,vs,rel,dd⟩:=Sr I.hok e;refine wpAny_notIn_of (NW ry) hd dd.mapOf ?_;rw[←(rel.val k).isSome_eq,←l];exact h _ (I.tok _)
 ·subst ey;cases (show u=Value.ref b from ry)
  obtain⟨z,hd,xs,rel,dd⟩:=Sv I.hok e;refine wpAny_notIn_heap (tupleKind_room_in1 hu) (Nd I.hok eb) hd dd ?_;have q:=(rel.val k).isSome_eq;rw[Option.isSome_map]at q;rw[←q,←l];exact h _ (I.tok _)
def FQ{h':Heap}{t':Nat}{ob:HO}(I:Inv X pins σ H s)(mu:Mut (H a))(hs:Heap.SameBut a s.heap h')(he:∃q,h'.get? a=some q)(new:ObjOk X.prog X.w (upd H a ob) h' a ob) :
  Inv X pins σ (upd H a ob) {s with heap:=h',toks:=t'}:=
 I.write (x:=a) (e:=a) mu (.inl rfl) (fun b q hb z=>(hs.2 b hb).trans z) he new
def Zd9{P:Program}{w:World}{H':Hp}{h':Heap}{kvs:List (Key×V)}{vs:List (Key×Value)}(z:kvs.length<=sizeLine)(hd:(a==sysModules)=false)(rel:KV kvs vs)(dd:h'.DictOf (X8 P w) a vs) :
  ObjOk P w H' h' a (.dK kvs):=⟨z,hd,vs,rel,dd⟩
def HZ{H':Hp}{Q:Unit->Shared->Prop}(hu:A.units+1<cLine)(I:Inv X pins σ H s)(g:DPut H a y v H')(ry:RelV y u)(rv:RelV v r)(h:∀s',Inv X pins σ H' s'->Q () s') :
  wpAny (model X.prog X.w) A (setItem (.ref a) u r) Q E s:=by
 rcases g with⟨kvs,k,e,ey,l,eH⟩|⟨kvs,k,b,e,ey,eb,l,eH⟩
 ·subst ey eH;obtain⟨z,hd,vs,rel,dd⟩:=HW I.hok e;have hz:vs.length<=sizeLine:=by rw[←rel.length];exact z
  have hl:(putK kvs k v).length<=sizeLine:=by have:=NU kvs k v;omega
  refine wpAny_setItem_pairs (hsz:=hz) (NW ry) dd fun h' dd' hs=>h _ ?_;have he:∃q,h'.get? a=some q:=let ⟨q,_,_,hq,_⟩:=dd';⟨q,hq⟩;exact FQ I (by rw[e];exact True.intro) hs he (Zd9 hl hd (rel.put k rv) dd')
 ·subst ey eH;cases (show u=Value.ref b from ry)
  obtain⟨z,hd,xs,rel,dd⟩:=SC I.hok e;have hz:xs.length<=sizeLine:=by rw[←Paired.length rel];exact z
  have hl:(putK kvs k v).length<=sizeLine:=by have:=NU kvs k v;omega
  refine wpAny_setItem_heap (hsz:=hz) (tupleKind_room_in1 hu) (Nd I.hok eb) dd fun h' dd' hs=>h _ ?_;obtain⟨q,es,ep,hq,h2,h3,h4,_,h5⟩:=dd';refine FQ I (by rw[e];exact True.intro) hs ⟨q,hq⟩ ⟨hl,hd,_,(rel.put k eb rv).keeps fun c ys ec=>?_,q,es,ep,hq,h2,h3,h4,h5⟩;rw[Um (Ej ec e (fun z=>nomatch z))];exact ec
end
def NoSl(i:Expr):Prop:=∀ov iv,subscripted i false ov iv=operate [ov,iv] (getItem ov iv)
def Zbg{prog:Program}{w:World}{A:Around}{E:Value->Shared->Prop}{s:Shared}{env:Env}{value slice:Expr}{pos:Pos}{T id:String}{Q:Value->Shared->Prop}(hl:typeLookup (.type T) "__getitem__"=pure (some (.builtin id)))(hs:NoSl slice)(h:wpAny (model prog w) A (eval value env) (fun o s₁=>wpAny (model prog w) A (eval slice env) (fun i s₂=>s₂.TypeIs o T/\wpAny (model prog w) A (getItem o i) Q E s₂) E s₁) E s) :
  wpAny (model prog w) A (eval (.Subscript value slice pos) env) Q E s:=by
 refine Subscript_ (Wn h (fun o s₁ h₁=>Wn h₁ (fun i s₂ h₂=>?_) fun _ _ x=>x) fun _ _ x=>x);obtain⟨hT,h₂⟩:=h₂;unfold subscriptTail;refine Yn ?_;rw[getitemInPython_of_ne hT.not_modules];refine Yn (wpAny_specialOf hT hl ?_)
 have fin:wpAny (model prog w) A (subscripted slice false o i) (fun r s₃=>wpAny (model prog w) A (letTemporaryGo value o r >>= fun _=>pure r) Q E s₃) E s₂:=by
  rw[hs o i];exact wpAny_operating (Wn h₂ (fun r s₃ h₃=>Yn (wpAny_letTemporaryGo (Ys h₃))) fun _ _ x=>x)
 first
  |exact Ys (Yn fin)
  |exact Yn (Ys (Yn fin))
  |exact Yn fin
def ID{X:Cx}{pins:List (Addr×Obj)}{σ:St}{H:Hp}{s:Shared}{a:Addr}{y:V}{o:Option V}(I:Inv X pins σ H s)(g:DGet H a y o):s.TypeIs (.ref a) "dict":=by
 rcases g with⟨kvs,k,e,_,_⟩|⟨kvs,k,b,e,_,_,_⟩
 ·obtain⟨_,_,vs,_,dd⟩:=Sr I.hok e;exact dd.typeIs
 ·obtain⟨_,_,xs,_,dd⟩:=Sv I.hok e;exact dd.typeIs
def Et(td ty:TE):TE:=fun σ H Q=>td σ H fun x H1=>ty σ H1 fun y H2=>∃a v,x=.ref a/\DGet H2 a y (some v)/\Q v H2
def GX(ty td:TE):TE:=fun σ H Q=>ty σ H fun y H1=>td σ H1 fun x H2=>∃a o,x=.ref a/\DGet H2 a y o/\Q (.bl (!o.isSome)) H2
def EZ(td ty tv:TE):TS:=fun D σ H=>tv σ H fun v H1=>td σ H1 fun x H2=>ty σ H2 fun y H3=>∃a H4,x=.ref a/\DPut H3 a y v H4/\D.nx σ H4
section
variable {X:Cx}{o i e value:Expr}{pos pos' tpos:Pos}{td ty tv:TE}
def Tu(hu:X.A.units+1<cLine)(ho:PE X o td)(hi:PE X i ty)(hs:NoSl i):PE X (.Subscript o i pos) (Et td ty):=by
 intro pins s σ H Q I h;refine Zbg PySem.F.slot_dict_getitem.lookup hs (thn (ho pins s σ H _ I h) fun u s1 ⟨x,H1,I1,rx,q1⟩=>thn (hi pins s1 σ H1 _ I1 q1) fun iv s2 ⟨y,H2,I2,ry,a,v,ex,g,q2⟩=>?_);subst ex;obtain rfl:u=Value.ref a:=rx;exact⟨ID I2 g,Ij hu I2 g ry fun w' s3 I3 rw'=>⟨v,H2,I3,rw',q2⟩⟩
def OQ(hu:X.A.units+1<cLine)(hi:PE X i ty)(ho:PE X o td):PC X .NotIn i o (GX ty td):=by
 intro pins s σ H Q I h;refine thn (hi pins s σ H _ I h) fun iv s1 ⟨y,H1,I1,ry,q1⟩=>thn (ho pins s1 σ H1 _ I1 q1) fun u s2 ⟨x,H2,I2,rx,a,ov,ex,g,q2⟩=>?_;subst ex;obtain rfl:u=Value.ref a:=rx;exact Lw hu I2 g ry fun s3 I3=>⟨.bl (!ov.isSome),H2,I3,rfl,q2⟩
def B9(hu:X.A.units+1<cLine)(ho:PE X o td)(hi:PE X i ty)(hv:PE X value tv)(hs:swapsWith value (some (.Subscript o i pos')) pos.line X.env=pure false) :
  PS X (.Assign [.Subscript o i pos'] value pos) (EZ td ty tv):=by
 intro pins s σ H D I h;refine wpAny_Assign_Subscript (thn (hv pins s σ H _ I h) fun r s1 ⟨v,H1,I1,rv,q1⟩=>thn (ho pins s1 σ H1 _ I1 q1) fun u s2 ⟨x,H2,I2,rx,q2⟩=>thn (hi pins s2 σ H2 _ I2 q2) fun iv s3 ⟨y,H3,I3,ry,a,H4,ex,g,q3⟩=>?_) hs;subst ex;obtain rfl:u=Value.ref a:=rx;exact HZ hu I3 g ry rv fun s4 I4=>⟨σ,H4,I4,q3⟩
end
def LA{P:Program}{w:World}{H:Hp}(h:Heap)(hb:sysModules<h.objs.size):ObjOk P w H (h.push {cls:=.type "dict",data:=.dict #[]}) h.objs.size (.dK []):=
 ⟨Ww _,W8.mpr (Ne.symm (YM hb)),[],.nil,Heap.DictOf.new h⟩
def Ee{P:Program}{w:World}{H:Hp}(h:Heap)(hb:sysModules<h.objs.size):ObjOk P w H (h.push {cls:=.type "dict",data:=.dict #[]}) h.objs.size (.dT []):=
 ⟨Ww _,W8.mpr (Ne.symm (YM hb)),[],.nil,_,#[],0,Y5 _ rfl,⟨rfl,rfl,rfl⟩,rfl,rfl,Qf⟩
def G5:TE:=fun _ H Q=>∀p,H p=none->Q (.ref p) (upd H p (.dK []))
def Cs:TE:=fun _ H Q=>∀p,H p=none->Q (.ref p) (upd H p (.dT []))
section
variable {X:Cx}{pos:Pos}
def Mg:PE X (.Dict [] [] pos) G5:=fun pins s σ H Q I h=>
 wpAny_Dict_empty ⟨.ref s.heap.objs.size,_,I.laid (a:=s.heap.objs.size) (o:=.dK []) (t':=s.toks) (fun _ _ q=>Yv _ q) (Yy _) (LA s.heap I.big),rfl,h _ (I.hok.fresh (Yy _))⟩
def RF:PE X (.Dict [] [] pos) Cs:=fun pins s σ H Q I h=>
 wpAny_Dict_empty ⟨.ref s.heap.objs.size,_,I.laid (a:=s.heap.objs.size) (o:=.dT []) (t':=s.toks) (fun _ _ q=>Yv _ q) (Yy _) (Ee s.heap I.big),rfl,h _ (I.hok.fresh (Yy _))⟩
end
def Ew:List (TE×TE)->St->Hp->(List (V×V)->Hp->Prop)->Prop
 |[],_,H,Q=>Q [] H
 |(tk,tv)::r,σ,H,Q=>tk σ H fun x H1=>tv σ H1 fun y H2=>Ew r σ H2 fun ps H3=>Q ((x,y)::ps) H3
abbrev VV:List (V×V)->List (Value×Value)->Prop:=Paired fun p q=>RelV p.1 q.1/\RelV p.2 q.2
def PPs(X:Cx)(pos:Pos)(keys:List (Option Expr))(values:List Expr)(trs:List (TE×TE)):Prop:=
 ∀(pins:List (Addr×Obj)) (s:Shared) (σ:St) (H:Hp) (Q:List (V×V)->Hp->Prop),Inv X pins σ H s->Ew trs σ H Q->
  wpAny (model X.prog X.w) X.A (evalPairs (pairTrees keys values X.env pos)) (fun vs s'=>∃ps H',Inv X pins σ H' s'/\VV ps vs/\Q ps H') X.xe s
def O2{X:Cx}{pos:Pos}:PPs X pos [] [] []:=fun pins s σ H Q I h=>pairTrees_nil_walk ⟨[],H,I,.nil,h⟩
def OL{X:Cx}{pos:Pos}{k v:Expr}{ks:List (Option Expr)}{vs:List Expr}{tk tv:TE}{trs:List (TE×TE)}(hk:PE X k tk)(hv:PE X v tv)(hr:PPs X pos ks vs trs) :
  PPs X pos (some k::ks) (v::vs) ((tk,tv)::trs):=fun pins s σ H Q I h=>
 pairTrees_cons_walk (thn (hk pins s σ H _ I h) fun u s1 ⟨x,H1,I1,rx,q1⟩=>thn (hv pins s1 σ H1 _ I1 q1) fun w2 s2 ⟨y,H2,I2,ry,q2⟩=>
  thn (hr pins s2 σ H2 _ I2 q2) fun ws s3 ⟨ps,H3,I3,rel,q3⟩=>⟨(x,y)::ps,H3,I3,.cons ⟨rx,ry⟩ rel,q3⟩)
end L2
set_option genInjectivity false
set_option genSizeOfSpec false
namespace Own
open PySem PySem.Spec PyProof.Rows L2
structure Def (K:Za) (mg:Str->Option Value) (x:Str) (st:Stmt) (ps:List Str):Prop where
 ex:∃f fd,Fun K x x st f fd/\mg x=some (.ref f)/\Binds K fd ps []
structure Callee (P:Program) (w:World) (K:Za) (mg:Str->Option Value) (base:Heap) (CX:CXT) (k:Nat) (x:Str) (ps:List Str) (sp:Sp):Prop where
 ex:∃f fd,FnOk P w K mg base CX k f fd ps sp/\mg x=some (.ref f)/\PySem.W.keepIn K (.ref f)=true/\(∃o:Obj,K.lookup f=some o/\o.data=.func fd)/\Binds K fd ps []
section
variable {P:Program}{w:World}{K:Za}{mg:Str->Option Value}{base:Heap}
def Callee.at {CX:CXT}{x:Str}{st:Stmt}{f:Addr}{fd:FuncData}{k:Nat}{ps:List Str}{sp:Sp} (C:Callee P w K mg base CX k x ps sp) (hm:mg x=some (.ref f)) (F:Fun K x x st f fd) (_:Def K mg x st ps):FnOk P w K mg base CX k f fd ps sp:=by
 obtain⟨f',fd',Fo,hm',_,hl,_⟩:=C.ex;rw[hm]at hm';cases hm'
 obtain⟨oc,od,kV,doc,pm,an,cdv,ct,osl,_,lk,_⟩:=F.ex;obtain⟨o',lk',hd'⟩:=hl;rw[lk]at lk';cases lk'
 cases hd'
 exact Fo
def Def.ok {x:Str}{st:Stmt}{N ps:List Str}{k:Nat}{sp:Sp} (D:Def K mg x st ps) (S:FnScope N ps (JR st)) (len:∀vs H Q E,sp vs H Q E->vs.length=ps.length)
  (hbody:∀(f:Addr) (cdv:Value) (A:Around) (outer:List Env) (s:Shared) (H:Hp) (vs:List V) (Q:VK) (E:XK),Room k (A.deeper (envOfC x (JR st) s.heap.objs.size f cdv))->sp vs H Q E->
   ∃t,PSs (cxOf CX0 P w K mg base N x (JR st) f cdv A outer s H E).nox (UZ st) t/\t {nx:=fun _ H'=>Q .non H',rt:=Q} (start N vs) H):Callee P w K mg base CX0 (k+1) x ps sp:=by
 obtain⟨f,fd,F,hm,hb⟩:=D.ex;refine⟨f,fd,F.ok S len fun cdv A outer s H vs Q E hr h=>hbody f cdv A outer s H vs Q E hr h,hm,F.kp,?_,hb⟩;obtain⟨oc,od,kV,doc,pm,an,cdv,ct,osl,_,lk,_⟩:=F.ex;exact⟨_,lk,rfl⟩
end
section
variable {X:Cx}{CX:CXT}{k:Nat}{ps:List Str}{sp:Sp}{E:XK}{x:Str}{p pos:Pos}{e:Expr}{es:List Expr}{t:TA}
def Xs(C:Callee X.prog X.w X.K X.mg X.base CX k x ps sp)(hr:Room k X.A)(hx:XI CX X E)(ha:PA X (e::es) t)(hg:Gl X x:=by rfl)(hdb:(x==("__debug__" : Str))=false:=by decide)(he:starEach (e::es) X.env=(false,eval e X.env)::starEach es X.env:=by rfl)(hpl:(backTo pos (starEach es X.env)).any (·.1)=false:=by rfl) :
  PE X (.Call (.Name x p) (e::es) [] pos) (KO sp [] E t):=by
 obtain⟨f,fd,F,hm,hk,_,hb⟩:=C.ex;exact HQ F hr hg hm hk hb .nil hx ha hdb he hpl
def I0:UX X (.builtin "isinstance") (fun xs H Q=>∃x n t b,xs=[x,.ty n]/\TyOf X.K H x t/\PySem.W.kitOne X.K t (.type n)=some b/\Q (.bl b) H):=by
 intro pins s σ H xs us Q I rv h;obtain⟨x,n,t,b,rfl,ty,e,q⟩:=h;cases rv with
 |cons r rr=>
  cases rr with
  |cons r' rr'=>
   cases rr'
   obtain rfl:_=Value.type n:=r';exact IC I r ty e fun tk=>⟨.bl b,H,I.tok tk,rfl,q⟩
def Rw:IxR X (fun x y H Q=>rIxL X.K x y H Q\/rIxT X.K x y H Q):=ix_list.or ON
end
def CN(t u:TS):TS:=fun D σ H=>∃J:L2.St->Hp->Prop,t {D with nx:=J} σ H/\∀σ' H',J σ' H'->u D σ' H'
def Nt{X:Cx}{st:Stmt}{rest:List Stmt}{t u:TS}(h1:PS X st t)(h2:PSs X rest u):PSs X (st::rest) (CN t u):=by
 intro pins s σ H D I h;obtain⟨J,h,k⟩:=h;refine wpAny_execs_cons (thn (h1 pins s σ H {D with nx:=J} I h) fun f s1 q=>?_)
 cases f with
 |next=>
  obtain⟨σ',H',I',q⟩:=q;exact h2 pins s1 σ' H' D I' (k σ' H' q)
 |ret v=>exact q
 |brk=>exact q
 |cont=>exact q
def Lo(K:Za)(n:String):PySem.W.kitOne K (.type n) (.type n)=some true:=by
 unfold PySem.W.kitOne;rw[Yr (by simp)]
def KG{α β:Type}{f:α->β}{xs:List α}{i:Int}{v:α}(h:atI xs i=some v):atI (xs.map f) i=some (f v):=by
 unfold atI at h ⊢;rw[Ym];cases e:ixN xs.length i with
 |none=>rw[e]at h;cases h
 |some j=>
  rw[e]at h;have h':xs[j]?=some v:=h;show(xs.map f)[j]?=some (f v);rw[Yt,h'];rfl
def Tn{α:Type}{xs:List α}{i:Int}{v:α}(h0:0<=i)(h:xs[i.toNat]?=some v):atI xs i=some v:=by
 have e:((i.toNat:Nat):Int)=i:=by omega
 have:=NK h
 rwa[e]at this
def UP{H:Hp}{a:Addr}{o:HO}(h:H a=none):Same H (upd H a o):=fun b u e=>by rw[Um (X6 e h)];exact e
def Same.upd {H H':Hp}{a:Addr}{o:HO} (S:Same H H') (h:H a=none):Same H (upd H' a o):=fun b u e=>by rw[Um (X6 e h)];exact S b u e
def Same.new {H H':Hp}{a:Addr}{o:HO} (S:Same H H') (h:H' a=none):Same H (L2.upd H' a o):=Own.Same.upd S (S.free h)
def Zeh{env:Env}(names:List (Str×NameKind))(hall:∀x∈names,x.2=.free->∃c,env.cells.lookup x.1=some c):∀cs0:List (Str×Addr),(∀x c,cs0.lookup x=some c->env.cells.lookup x=some c)->
  ∃cl:List (Str×Addr),(forIn names cs0 (fun(x:Str×NameKind) (cs:List (Str×Addr))=>if (x.2 == .free)=true then(do let c ←cellOf env x.1;pure (ForInStep.yield ((x.1,c)::cs)))else pure (ForInStep.yield cs)):Sem (List (Str×Addr)))=pure cl/\
   (∀x c,cl.lookup x=some c->env.cells.lookup x=some c)/\(∀x,(∃c,cs0.lookup x=some c)->∃c,cl.lookup x=some c)/\∀x∈names,x.2=.free->∃c,cl.lookup x.1=some c:=by
 induction names with
 |nil=>
  intro cs0 h0;exact⟨cs0,rfl,h0,fun _ h=>h,fun x hx=>by cases hx⟩
 |cons y r ih=>
  intro cs0 h0;have ih':=ih fun x hx=>hall x (YF _ hx);obtain⟨n,k⟩:=y;by_cases hk:k=.free
  ·subst hk;obtain⟨c,hc⟩:=hall (n,.free) YN rfl
   have h1:∀x d,List.lookup x ((n,c)::cs0)=some d->env.cells.lookup x=some d:=fun x d e=>by
    rw[Wr]at e;by_cases hx:x=n
    ·subst hx;simp at e;subst e;exact hc
    ·have:(x==n)=false:=by simpa using hx
     rw[this]at e;exact h0 x d e
   obtain⟨cl,e,p1,p2,p3⟩:=ih' ((n,c)::cs0) h1;refine⟨cl,?_,p1,fun x hx=>p2 x ?_,fun x hx hf=>?_⟩
   ·rw[Vq];show((if (NameKind.free==NameKind.free)=true then(do let c ←cellOf env n;pure (ForInStep.yield ((n,c)::cs0)))else pure (ForInStep.yield cs0)) >>= _)=_
    rw[Yr (show(NameKind.free==NameKind.free)=true by decide)];have ec:cellOf env n=pure c:=by unfold cellOf;rw[hc]
    rw[ec];exact e
   ·rw[Wr];cases (x==n)
    ·exact hx
    ·exact⟨c,rfl⟩
   ·rcases Y2.mp hx with rfl|hx
    ·exact p2 n ⟨c,by simp[Wr]⟩
    ·exact p3 x hx hf
  ·obtain⟨cl,e,p1,p2,p3⟩:=ih' cs0 h0;refine⟨cl,?_,p1,p2,fun x hx hf=>?_⟩
   ·rw[Vq];have hb:(k==NameKind.free)=false:=by simpa using hk
    show((if (k==NameKind.free)=true then(do let c ←cellOf env n;pure (ForInStep.yield ((n,c)::cs0)))else pure (ForInStep.yield cs0)) >>= _)=_
    rw[Yp (by rw[hb];decide)];exact e
   ·rcases Y2.mp hx with rfl|hx
    ·exact absurd hf hk
    ·exact p3 x hx hf
def MQ{env:Env}{sc:Scope}(hall:∀x∈sc.names,x.2=.free->∃c,env.cells.lookup x.1=some c) :
  ∃cl:List (Str×Addr),closureFor sc env=pure cl/\(∀x c,cl.lookup x=some c->env.cells.lookup x=some c)/\∀x∈sc.names,x.2=.free->∃c,cl.lookup x.1=some c:=by
 obtain⟨cl,e,p1,_,p3⟩:=Zeh sc.names hall [] (fun x c h=>by cases h);refine⟨cl,?_,p1,p3⟩;unfold closureFor;show((forIn sc.names ([]:List (Str×Addr)) (fun(x:Str×NameKind) (cs:List (Str×Addr))=>if (x.2 == .free)=true then(do let c ←cellOf env x.1;pure (ForInStep.yield ((x.1,c)::cs)))else pure (ForInStep.yield cs)):Sem (List (Str×Addr))) >>= fun cs=>pure cs)=pure cl
 rw[e];rfl
def Xg(X:Cx)(N':List Str)(sc:Scope)(cl:List (Str×Addr))(C:Addr)(s₃:Shared)(H₃:Hp)(ex:List Addr):Cx:=
 {X with N:=N',s₀:=s₃,H₀:=H₃,env:=compEnvC sc cl C X.env,outer:=X.stack,ex:=ex,fn:=fun _=>false,pn:=[],xe:=fun _ _=>False}
structure CompOk (X:Cx) (N':List Str) (φ:List (Option Nat)) (sc:Scope):Prop where
 kind:sc.kind=.function
 okind:X.env.scope.kind=.function
 nocell:∀y∈sc.names,y.2≠.cell
 names:∀y∈sc.names,y.2=.local->sc.names.lookup y.1=some .local
 frees:∀y∈sc.names,y.2=.free->X.env.scope.names.lookup y.1=some .cell
 len:φ.length=N'.length
 pick:∀(i:Nat) (x:Str) (j:Nat),N'[i]?=some x->φ[i]?=some (some j)->X.N[j]?=some x/\sc.names.lookup x=some .free
def atStart(φ:List (Option Nat))(σ:L2.St):L2.St:=φ.map fun o=>o.bind fun j=>(σ[j]?).join
def Sub(σ σ':L2.St):Prop:=σ'.length=σ.length/\∀(i:Nat) (v:V),σ[i]?=some (some v)->σ'[i]?=some (some v)
def Sub.refl {σ:L2.St}:Sub σ σ:=⟨rfl,fun _ _ h=>h⟩
def Sub.skip {σ σ':L2.St}{x:Option V} (h:Sub σ σ'):Sub (none::σ) (x::σ'):=by
 refine⟨by simp[h.1],fun i v e=>?_⟩;cases i with
 |zero=>simp at e
 |succ i=>simp at e ⊢;exact h.2 i v e
def Ge{env:Env}(hk:env.scope.kind=.function):∀{names:List (Str×NameKind)}{x:Str},names.lookup x=some .free->env.scope.names.lookup x=some .cell->
  (names.map fun(n,k)=>if (k==NameKind.free&&env.scope.kind == .function&&env.kindOf n==some .cell)then(n,NameKind.cell)else(n,k)).lookup x=some .cell
 |[],_,h,_=>by simp at h
 |(n,k)::r,x,h,hc=>by
  have ih:=@Ge env hk r x;show List.lookup x ((if (k==NameKind.free&&env.scope.kind == .function&&env.kindOf n==some .cell)=true then(n,NameKind.cell)else(n,k))::_)=_;cases hx:x==n with
  |true=>
   simp only[Wr,hx]at h;cases h
   have e:x=n:=by simpa using hx
   subst e;have hkk:env.kindOf x=some .cell:=hc;rw[hk,hkk];simp[Wr]
  |false=>
   simp only[Wr,hx]at h;by_cases hcc:(k==NameKind.free&&env.scope.kind == .function&&env.kindOf n==some .cell)=true
   ·rw[Yr hcc];simp only[Wr,hx];exact ih h hc
   ·rw[Yp hcc];simp only[Wr,hx];exact ih h hc
def Fe{env:Env}:∀{names:List (Str×NameKind)}{x:Str}{q:NameKind},
  (names.map fun(n,k)=>if (k==NameKind.free&&env.scope.kind == .function&&env.kindOf n==some .cell)then(n,NameKind.cell)else(n,k)).lookup x=some q->∃k,(x,k)∈names/\(q=k\/k=.free)
 |[],_,_,h=>by simp at h
 |(n,k)::r,x,q,h=>by
  have ih:=@Fe env r x q;have h':List.lookup x ((if (k==NameKind.free&&env.scope.kind == .function&&env.kindOf n==some .cell)=true then(n,NameKind.cell)else(n,k))::(r.map fun(n,k)=>if (k==NameKind.free&&env.scope.kind == .function&&env.kindOf n==some .cell)then(n,NameKind.cell)else(n,k)))=some q:=h;cases hx:x==n with
  |true=>
   have e:x=n:=by simpa using hx
   subst e;by_cases hcc:(k==NameKind.free&&env.scope.kind == .function&&env.kindOf x==some .cell)=true
   ·refine⟨k,YN,.inr ?_⟩
    have:=(Wc _ _▸(Wc _ _▸hcc).1).1
    simpa using this
   ·rw[Yp hcc]at h';simp[Wr]at h';exact⟨k,YN,.inl h'.symm⟩
  |false=>
   have h2:List.lookup x (r.map fun(n,k)=>if (k==NameKind.free&&env.scope.kind == .function&&env.kindOf n==some .cell)then(n,NameKind.cell)else(n,k))=some q:=by
    by_cases hcc:(k==NameKind.free&&env.scope.kind == .function&&env.kindOf n==some .cell)=true
    ·rw[Yr hcc]at h';simp only[Wr,hx]at h';exact h'
    ·rw[Yp hcc]at h';simp only[Wr,hx]at h';exact h'
   obtain⟨k',hm,hq⟩:=ih h2;exact⟨k',YF _ hm,hq⟩
def HD{prog:Program}{w:World}{A:Around}{R:Result->Shared->Prop}{s:Shared}{elt target iter:Expr}{ifs:List Expr}{scope:Scope}{pos:Pos}{it acc:Value}{env:Env}(I:Nat->Shared->Prop)
  (turn:∀n s,I n s->wpAny (model prog w) A (pyNext it) (fun r s₁=>match r with
   |none=>R (.ok .next) s₁
   |some v=>wpAny (model prog w) A (letOwnedTupleGo target it v) (fun _ s₁'=>wpAny (model prog w) A (assign target env v) (fun _ s₂=>
     wpAny (model prog w) A (forIn ifs true fun c r=>if r=true then do let ok ←isTrue c env (eval c env);pure (ForInStep.yield ok)else pure (ForInStep.yield r)) (fun ok s₃=>
      if ok=true then wpAny (model prog w) A (eval elt env) (fun x s₄=>
       wpAny (model prog w) A (call (.builtin "list.append") [acc,x]) (fun _ s₅=>∃m,m<n/\I m s₅) (fun _ _=>False) s₄) (fun _ _=>False) s₃
      else ∃m,m<n/\I m s₃) (fun _ _=>False) s₂) (fun _ _=>False) s₁') (fun _ _=>False) s₁) (fun _ _=>False) s)
  (n:Nat) (h:I n s) :
  codeAny (model prog w) A (.compLoop (.ListComp elt [⟨target,iter,ifs,0⟩] scope pos) 0 it acc env) R s:=by
 refine codeAny_loop rfl I (fun n s hI=>?_) n h;show wpAny _ A ((compTurn (.ListComp elt [⟨target,iter,ifs,0⟩] scope pos) 0 it acc env).onRaise (fun x=>do noteFrame x env;theTreesLotGoes x)) _ _ s
 refine wpAny_noted ?_;rw[compTurn_list];refine Yn (wpAny_standAt (Yn (Wn (turn n s hI) (fun r s₁ h₁=>?_) fun _ _ h'=>h'.elim)));cases r with
 |none=>exact Ys h₁
 |some v=>
  refine Yn (Wn h₁ (fun _ s₁' h₁'=>?_) fun _ _ h'=>h'.elim);refine Yn (Wn h₁' (fun _ s₂ h₂=>Yn (Wn h₂ (fun ok s₃ h₃=>?_) fun _ _ h'=>h'.elim)) fun _ _ h'=>h'.elim);cases ok with
  |false=>exact Ys ⟨rfl,h₃⟩
  |true=>
   exact Yn (Yn (Wn h₃ (fun x s₄ h₄=>Yn (Wn h₄ (fun _ s₅ h₅=>Ys (Ys ⟨rfl,h₅⟩)) fun _ _ h'=>h'.elim)) fun _ _ h'=>h'.elim))
def PIfs(X:Cx)(ifs:List Expr)(t:TT):Prop:=
 ∀(pins:List (Addr×Obj)) (s:Shared) (σ:L2.St) (H:Hp) (Q:Bool->Hp->Prop),Inv X pins σ H s->t σ H Q->
  wpAny (model X.prog X.w) X.A (forIn ifs true fun c r=>if r=true then do let ok ←isTrue c X.env (eval c X.env);pure (ForInStep.yield ok)else pure (ForInStep.yield r)) (TP X pins σ Q) X.xe s
def DH:TT:=fun _ H Q=>Q true H
def Xq{X:Cx}:PIfs X [] DH:=fun _ _ _ H _ I h=>Ys ⟨H,I,h⟩
def X5{X:Cx}{c:Expr}{t:TT}(hc:PT X c t):PIfs X [c] t:=by
 intro pins s σ H Q I h;rw[Vq];refine Yn ?_;rw[Yr rfl];exact Yn (thn (hc pins s σ H Q I h) fun b s1 q=>Ys (Ys q))
def TQ(φ:List (Option Nat))(wi:TI)(g:TG)(tc:TT)(te:TE):TE:=fun σ H Q=>wi σ H fun J H1=>∀D,H1 D=none->∃W:Nat->Nat->List V->Hp->Prop,(∃m,W 0 m [] (upd H1 D (.lst [])))/\
 ∀i m ys H2,W i m ys H2->(J.stop i H2/\Q (.ref D) H2)\/(J.go i H2/\∀x H3,J.yld i H2 x H3->g x (atStart φ σ) H3 fun σ2 H4=>Sub (atStart φ σ) σ2/\tc σ2 H4 fun b H5=>
  if b=true then te σ2 H5 fun y H6=>H6 D=some (.lst ys)/\ys.length<sizeLine/\∃m',m'<m/\W (i+1) m' (ys++[y]) (upd H6 D (.lst (ys++[y])))else ∃m',m'<m/\W (i+1) m' ys H5)
def Inv.weak {X:Cx}{pins:List (Addr×Obj)}{σ σ':L2.St}{H:Hp}{s:Shared} (I:Inv X pins σ' H s) (S:Sub σ σ'):Inv X pins σ H s:=
 ⟨I.ok,I.os,I.bare,I.base,let ⟨m,hn,hl⟩:=I.loc;⟨m,hn,fun i x v h1 h2 h3=>hl i x v h1 (S.2 i v h2) h3⟩,I.cell,I.free,I.freeC,I.pin,I.hok,by rw[←S.1];exact I.len⟩
def BZ{φ:List (Option Nat)}{σ:L2.St}{i:Nat}{v:V}(h:(atStart φ σ)[i]?=some (some v)):∃j,φ[i]?=some (some j)/\σ[j]?=some (some v):=by
 unfold atStart at h;rw[Yt]at h;cases e:φ[i]? with
 |none=>rw[e]at h;cases h
 |some o=>
  rw[e]at h;cases o with
  |none=>simp at h
  |some j=>
   refine⟨j,rfl,?_⟩;simp at h;cases e2:σ[j]? with
   |none=>rw[e2]at h;simp at h
   |some w=>rw[e2]at h;simp at h;rw[h]
def CompEnd(X:Cx)(pins:List (Addr×Obj))(σ:L2.St)(Q:VK)(use:Option (Value->Sem Unit))(QQ:Value->Shared->Prop):Prop:=
 ∀(D C:Addr) (H5:Hp) (s6:Shared),Q (.ref D) H5->Inv X pins σ H5 s6->(∃m,s6.heap.Ns C m)->H5 C=none->C≠X.env.locals->X.s₀.heap.objs.size<=C->(∀x c,X.env.cells.lookup x=some c->c≠C)->(∀p∈X.pn++pins,p.1≠C)->C∉X.fs->
  compPost (model X.prog X.w) X.A X.xe use QQ (.ref D) C (.ok .next) s6
def Hx{X:Cx}{N':List Str}{φ:List (Option Nat)}{sc:Scope}{elt iter tg:Expr}{ifs:List Expr}{pos pos':Pos}{wi:TI}{g:TG}{tc:TT}{te:TE}{use:Option (Value->Sem Unit)}{QQ:Value->Shared->Prop}(hcalm:X.calm=true)(S:CompOk X N' φ sc)(hi:PI X tg iter wi)(hin:∀cl C s₃ H₃ ex,PG (Xg X N' sc cl C s₃ H₃ ex) tg g/\PIfs (Xg X N' sc cl C s₃ H₃ ex) ifs tc/\PE (Xg X N' sc cl C s₃ H₃ ex) elt te)(hs:∀x,foldedSetIterable iter X.env x=pure x){pins:List (Addr×Obj)}{s:Shared}{σ:L2.St}{H:Hp}{Q:VK}(I:Inv X pins σ H s)(h:TQ φ wi g tc te σ H Q)(fin:CompEnd X pins σ Q use QQ) :
  wpAny (model X.prog X.w) X.A (comprehension (.ListComp elt [⟨tg,iter,ifs,0⟩] sc pos) sc X.env pos' (newList []) false (eval iter X.env) use) QQ X.xe s:=by
 obtain⟨cl,hcl,p1,p3⟩:=MQ (env:=X.env) (sc:=sc) fun x hx hf=>I.ok.has x.1 (.inl (S.frees x hx hf));refine wpAny_comprehension_free (use:=use) rfl hs hcl S.kind S.names ?_;refine thn (hi pins s σ H _ I h) fun v s1 h1=>thn h1 fun itv s2 h2=>?_;obtain⟨it,fp,tn,J,H2,e,I2,T,st2,f2,hR⟩:=h2;subst e;refine Wg ?_;have hf:H2 s2.heap.objs.size=none:=I2.hok.fresh (Yy _);obtain⟨W,⟨m0,w0⟩,turn⟩:=hR s2.heap.objs.size hf;generalize eD:s2.heap.objs.size=D at *
 have I3:Inv X pins σ (upd H2 D (.lst [])) {s2 with heap:=s2.heap.push {cls:=.type "list",dict:=none,data:=.seq ([]:List Value).toArray}}:=
  I2.laid (t':=s2.toks) (fun b u e=>Yv _ e) (WG eD) ⟨Ww _,[],0,.nil,by rw[←eD];exact Y5 _ rfl⟩
 have st3:tn 0 (s2.heap.push {cls:=.type "list",dict:=none,data:=.seq ([]:List Value).toArray}):=T.keep _ _ _ st2 fun b _ o e=>Yv _ e
 have hfpD:∀b∈fp,b≠D:=fun b hb z=>by
  obtain⟨o,ho,_⟩:=T.obj _ _ st2 b hb
  have:=Y1 ho
  rw[z,←eD]at this;exact W6 _ this
 have f3:∀b∈fp,FpOk X pins (upd H2 D (.lst [])) b:=fun b hb=>⟨by rw[Um (hfpD b hb)];exact(f2 b hb).1,(f2 b hb).2⟩;generalize es3:({s2 with heap:=s2.heap.push {cls:=.type "list",dict:=none,data:=.seq ([]:List Value).toArray}}:Shared)=s3 at *
 have st3':tn 0 s3.heap:=by rw[←es3];exact st3
 generalize eH3:upd H2 D (.lst [])=H3 at *;refine wpAny_newFunctionEnv S.nocell (by intro y hy;simp at hy) (fun h₁ hns₁ hsb₁=>?_) S.kind;have hh3:s3.heap=s2.heap.push {cls:=.type "list",dict:=none,data:=.seq ([]:List Value).toArray}:=by rw[←es3]
 rw[hh3]at hns₁ hsb₁;rw[←hh3]at hns₁ hsb₁;have old:∀b o,s3.heap.get? b=some o->h₁.get? b=some o:=fun b o e=>hsb₁.extBut b o (YM (Y1 e)) (Yv _ e)
 have hC0:s3.heap.get? s3.heap.objs.size=none:=by
  cases e:s3.heap.get? s3.heap.objs.size with
  |none=>rfl
  |some o=>exact absurd (Y1 e) (W6 _)
 generalize eC:s3.heap.objs.size=C at *;have hH3C:H3 C=none:=I3.hok.fresh (WG eC)
 have OK:(Xg X N' sc cl C s3 H3 fp).Ok:=by
  refine⟨I.ok.mod,?_,I.ok.glob,I.ok.blt,WG eC,fun x y c h1 h2=>I.ok.inj x y c (p1 x c h1) (p1 y c h2),?_,(fun x c hx=>by cases hx),I.ok.hd,I.ok.frames,.inl rfl,?_,I3.bs,Y4 I.ok.bsz I3.sz,?_,?_,I3.stack,I3.stkFree⟩
  ·exact S.kind
  ·intro x hx;have hx':(∃k,(x,k)∈sc.names/\(NameKind.cell=k\/k=.free))\/∃k,(x,k)∈sc.names/\(NameKind.free=k\/k=.free):=hx.imp Fe Fe
   have hfr:(x,NameKind.free)∈sc.names:=by
    rcases hx' with⟨k,hm,rfl|rfl⟩|⟨k,hm,rfl|rfl⟩
    ·exact absurd rfl (S.nocell _ hm)
    ·exact hm
    ·exact hm
    ·exact hm
   exact p3 _ hfr rfl
  ·intro b hb;refine⟨fun z=>?_,fun x c hx=>(f3 b hb).2.2.2.2.1 x c (p1 x c hx)⟩;obtain⟨o,ho,_⟩:=T.obj _ _ st3' b hb;have z':b=C:=z;rw[z',hC0]at ho;cases ho
  ·intro b o hb hx;obtain⟨_,_,_,q,_,_⟩:=f3 b hx;rcases q with q|q
   ·exact I.ok.noex b o hb q
   ·have:=YW (Y1 hb) (Y4 I.ok.bsz q)
    exact W6 _ this
  ·intro b hb hz;rcases Y2.mp (I.stkSub b hz)with q|q
   ·exact(f3 b hb).2.1 q
   ·exact(f3 b hb).2.2.1 q
 have hlen0:(atStart φ σ).length=N'.length:=by unfold atStart;rw[Ym];exact S.len
 have I4:Inv (Xg X N' sc cl C s3 H3 fp) [] (atStart φ σ) H3 {s3 with heap:=h₁,toks:=s3.toks+([]:List (Str×Value)).length}:=by
  refine⟨OK,rfl,I3.bare,Un.kept old,⟨_,hns₁,fun i x v h1 h2 h3=>?_⟩,fun x c hx=>?_,hH3C,fun x c hx=>I3.freeC x c (p1 x c hx),fun p hp=>?_,I3.hok.kept old,hlen0⟩
  ·obtain⟨j,hj,hv⟩:=BZ h2;obtain⟨hN,hfr⟩:=S.pick i x j h1 hj;obtain⟨m,_,hl⟩:=I3.loc;have hm:(x,NameKind.free)∈sc.names:=WQ hfr;have hcell:=S.frees _ hm rfl;obtain⟨u,ru,lk⟩:=hl j x v hN hv (.inr (.inl hcell));refine⟨u,ru,.inr ⟨.inl (Ge S.okind hfr hcell),?_⟩⟩;obtain⟨c,hc⟩:=p3 _ hm rfl;rcases lk with⟨hk,_⟩|⟨_,c',hc',hcl'⟩
   ·have hk':X.env.scope.names.lookup x=some .local:=hk;rw[hcell]at hk';cases hk'
   ·have e:=p1 _ _ hc;rw[hc']at e;cases e
    obtain⟨o,ho,hd⟩:=hcl';exact⟨_,hc,o,old _ o ho,hd⟩
  ·obtain⟨v,hv⟩:=I3.cell x c (p1 x c hx);obtain⟨o,ho,hd⟩:=hv;exact⟨v,o,old _ o ho,hd⟩
  ·exact absurd hp (by simp[Xg])
 have st4:tn 0 h₁:=T.keep _ _ _ st3' fun b _ o e=>old b o e
 have stat:∀{H':Hp},(∀b∈fp,H' b=none)->∀b∈fp,FpOk (Xg X N' sc cl C s3 H3 fp) [] H' b:=fun hn b hb=>
  ⟨hn b hb,(OK.exf b hb).1,OK.exfs b hb,.inl hb,(OK.exf b hb).2,fun p hp=>absurd hp (by simp[Xg])⟩
 obtain⟨hPG,hPI,hPE⟩:=hin cl C s3 H3 fp
 have loop:codeAny (model X.prog X.w) X.A (.compLoop (.ListComp elt [⟨tg,iter,ifs,0⟩] sc pos) 0 (.ref it) (.ref D) (compEnvC sc cl C X.env)) (compPost (model X.prog X.w) X.A X.xe use QQ (.ref D) C) {s3 with heap:=h₁,toks:=s3.toks+([]:List (Str×Value)).length}:=by
  refine HD (fun n s'=>∃i ys σ' H',Inv (Xg X N' sc cl C s3 H3 fp) [] σ' H' s'/\Sub (atStart φ σ) σ'/\tn i s'.heap/\(∀b∈fp,H' b=none)/\W i n ys H') ?_ m0 ⟨0,[],_,_,I4,Sub.refl,st4,fun b hb=>(f3 b hb).1,w0⟩;rintro n s5 ⟨i,ys,σ5,H5,I5,sub5,st5,fr5,w5⟩;have I5':=Own.Inv.weak I5 sub5;rcases turn i n ys H5 w5 with⟨stop,qn⟩|⟨go,step⟩
  ·refine thn (T.done (Xg X N' sc cl C s3 H3 fp) rfl rfl rfl hcalm i [] s5 _ H5 _ I5' (stat fr5) st5 stop) fun r s6 ⟨hr,I6⟩=>?_;subst hr;obtain⟨m,hn,_⟩:=I6.loc;obtain⟨hh,gg,dd,tt,oo⟩:=s6;obtain rfl:oo=s3.os:=I6.os;have R:Inv X pins σ H5 {s3 with heap:=hh,gens:=gg,drawn:=dd,toks:=tt}:=I3.call (ch:=fp) (h':=hh) (g':=gg) (d':=dd) (t':=tt) I6.base I6.hok I6.bare fun b hb=>⟨(f3 b hb).2.2.2.1,(f3 b hb).2.1,(f3 b hb).2.2.2.2.1,(f3 b hb).2.2.2.2.2⟩
   have hC3:s3.heap.objs.size<=C:=WG eC;obtain⟨q0,q1,q2,q3,q4,q5⟩:=I3.fpOk (b:=C) (H':=H3) hC3 hH3C;refine fin D C H5 _ qn R ⟨m,hn⟩ I6.free q1 (Y4 I3.sz hC3) q4 q5 q2
  ·refine thn (T.item (Xg X N' sc cl C s3 H3 fp) rfl rfl rfl hcalm i [] s5 _ H5 _ I5' (stat fr5) st5 go) fun r s6 ⟨u,hr,h6⟩=>?_;subst hr;refine thn h6 fun _ s7 ⟨x,H7,I7,r7,y7,st7,fr7⟩=>?_;have I7':=I7.pinned (stat fr7) (T.obj _ _ st7);refine thn (hPG _ s7 _ H7 x u _ I7' r7 (step x H7 y7)) fun _ s8 ⟨σ8,H8,I8,sub8,q8⟩=>?_;refine thn (hPI _ s8 σ8 H8 _ I8 q8) fun ok s9 ⟨H9,I9,q9⟩=>?_
   have again:∀{s10:Shared} {H10:Hp} {ys':List V} {m':Nat},Inv (Xg X N' sc cl C s3 H3 fp) ([]++Tf fp s7.heap) σ8 H10 s10->W (i+1) m' ys' H10->∃i ys σ' H',Inv (Xg X N' sc cl C s3 H3 fp) [] σ' H' s10/\Sub (atStart φ σ) σ'/\tn i s10.heap/\(∀b∈fp,H' b=none)/\W i m' ys H':=fun {s10 H10 ys' m'} J10 w10=>by
    refine⟨i+1,ys',σ8,H10,J10.unpinned,sub8,T.keep _ _ _ st7 fun b hb o e=>(J10.pin (b,o) (YV _ (YV _ (S7 hb e)))).1,fun b hb=>?_,w10⟩;obtain⟨o,e,d⟩:=T.obj _ _ st7 b hb;exact(J10.pin (b,o) (YV _ (YV _ (S7 hb e)))).2.1
   cases ok with
   |false=>
    obtain⟨m',hm,w'⟩:=q9;exact⟨m',hm,again I9 w'⟩
   |true=>
    refine thn (hPE _ s9 σ8 H9 _ I9 q9) fun xv s10 ⟨y,H10,I10,r10,hD,hl,m',hm,w'⟩=>?_;refine thn (KA _ s10 σ8 H10 (.ref D) [y] (.ref D) [xv] (fun _ H11=>H11=upd H10 D (.lst (ys++[y]))) I10 rfl (.cons r10 .nil) ⟨D,ys,y,rfl,rfl,hD,hl,rfl⟩) fun _ s11 ⟨_,H11,I11,_,e11⟩=>?_;subst e11;exact⟨m',hm,again I11 w'⟩
 refine codeAny_compStart_list loop (T.self _ 0 _ _ _ st4 loop)
def Xa{X:Cx}{N':List Str}{φ:List (Option Nat)}{sc:Scope}{elt iter tg:Expr}{ifs:List Expr}{pos:Pos}{wi:TI}{g:TG}{tc:TT}{te:TE}(hcalm:X.calm=true)(S:CompOk X N' φ sc)(hi:PI X tg iter wi)(hin:∀cl C s₃ H₃ ex,PG (Xg X N' sc cl C s₃ H₃ ex) tg g/\PIfs (Xg X N' sc cl C s₃ H₃ ex) ifs tc/\PE (Xg X N' sc cl C s₃ H₃ ex) elt te)(hs:∀x,foldedSetIterable iter X.env x=pure x:=by intro _;rfl):PE X (.ListComp elt [⟨tg,iter,ifs,0⟩] sc pos) (TQ φ wi g tc te):=by
 intro pins s σ H Q I h;rw[eval_ListComp];refine Hx (use:=none) hcalm S hi hin hs I h fun D C H5 s6 q R hm c0 c1 c2 c3 c4 c5=>?_;obtain⟨m,hn⟩:=hm;exact⟨m,hn,fun h' sb=>⟨.ref D,H5,R.turned (it:=C) (t':=s6.toks) (fun b o hb e=>sb.extBut b o hb e) c0 c1 (.inr c2) c3 c4,rfl,q⟩⟩
def Kl{X:Cx}{N':List Str}{φ:List (Option Nat)}{sc:Scope}{elt iter tg:Expr}{ifs:List Expr}{pos spos py:Pos}{wi:TI}{g:TG}{tc:TT}{te:TE}{i:Nat}{y:Str}(hN:X.N.Nodup)(hy:X.N[i]?=some y)(hl:X.env.scope.names.lookup y=some .local)(hcalm:X.calm=true)(S:CompOk X N' φ sc)(hi:PI X tg iter wi)(hin:∀cl C s₃ H₃ ex,PG (Xg X N' sc cl C s₃ H₃ ex) tg g/\PIfs (Xg X N' sc cl C s₃ H₃ ex) ifs tc/\PE (Xg X N' sc cl C s₃ H₃ ex) elt te)(hs:∀x,foldedSetIterable iter X.env x=pure x:=by intro _;rfl)(hsw:swapsWith (.ListComp elt [⟨tg,iter,ifs,0⟩] sc pos) (some (.Name y py)) spos.line X.env=pure true:=by rfl) :
  PS X (.Assign [.Name y py] (.ListComp elt [⟨tg,iter,ifs,0⟩] sc pos) spos) (tAsg (TQ φ wi g tc te) (P8 i)):=by
 intro pins s σ H D0 I h;rw[exec_Assign_Name_used _ _ _ _ hsw];refine Yn (wpAny_standAt (Yn ?_));show wpAny _ X.A (do let _ ←comprehension (.ListComp elt [⟨tg,iter,ifs,0⟩] sc pos) sc X.env _ (newList []) false (eval iter X.env) (some (assign (.Name y py) X.env))) _ _ s
 refine Yn (Wn (Hx (use:=some (assign (.Name y py) X.env)) (QQ:=fun _ s'=>SP X pins D0 .next s') hcalm S hi hin hs I h fun D C H5 s6 q R hm c0 c1 c2 c3 c4 c5=>?_) (fun _ s' z=>Ys (Ys z)) fun _ _ e=>e);obtain⟨m,oC,es,ep,hoC,hdC,rC⟩:=hm
 have R2:Inv X (pins++[(C,oC)]) σ H5 s6:=R.pins_of fun p hp=>(YG.mp hp).elim (fun z=>R.pin p (YV _ z)) fun z=>by
  rw[Yx.mp z];exact⟨hoC,c0,c1,c5,fun v e=>by rw[hdC]at e;cases e⟩
 show wpAny _ X.A (assign (.Name y py) X.env (.ref D)) _ _ _;refine wpAny_assign_Name (Sb R2 hN hy (.inl hl) (v:=.ref D) (u:=.ref D) rfl (fun s7 I7=>?_) (.inr hl));have hC7:=(I7.pin (C,oC) (YV _ (YV _ (Yx.mpr rfl)))).1;refine⟨m,⟨oC,es,ep,hC7,hdC,rC⟩,fun h' sb=>?_⟩;have I8:Inv X pins (σ.set i (some (.ref D))) H5 s7:=I7.unpinned;exact⟨_,H5,I8.turned (it:=C) (t':=s7.toks) (fun b o hb e=>sb.extBut b o hb e) c0 c1 (.inr c2) c3 c4,q⟩
def Ha(sc osc:Scope)(N N':List Str)(φ:List (Option Nat)):Bool:=
 sc.kind == .function&&osc.kind == .function&&(sc.names.all fun y=>y.2 != .cell&&(y.2 != .local || sc.names.lookup y.1==some .local)&&(y.2 != .free || osc.names.lookup y.1==some .cell)) &&
  φ.length==N'.length&&((N'.zip φ).all fun p=>match p.2 with|none=>true|some j=>N[j]? == some p.1&&sc.names.lookup p.1==some .free)
def CompOk.of {X:Cx}{N':List Str}{φ:List (Option Nat)}{sc:Scope} (h:Ha sc X.env.scope X.N N' φ=true):CompOk X N' φ sc:=by
 unfold Ha at h;simp only[Wc,beq_iff_eq,Qh,Bool.or_eq_true,bne_iff_ne,ne_eq]at h;obtain⟨⟨⟨⟨h1,h2⟩,h3⟩,h4⟩,h5⟩:=h;refine⟨h1,h2,fun y hy=>(h3 y hy).1.1,fun y hy hl=>?_,fun y hy hf=>?_,h4,fun i x j hi hj=>?_⟩
 ·rcases(h3 y hy).1.2 with z|z
  ·exact absurd hl z
  ·exact z
 ·rcases(h3 y hy).2 with z|z
  ·exact absurd hf z
  ·exact z
 ·have hz:(N'.zip φ)[i]?=some (x,some j):=by rw[List.getElem?_zip_eq_some];exact⟨hi,hj⟩
  have:=h5 _ (Y7 hz)
  simpa using this
end Own
namespace SetR
open PySem PySem.Spec PyProof.Rows L2
def Ris(xs:Array Nat):Prop:=∀i j,i<j->j<xs.size->xs.getD i 0<xs.getD j 0
def Gv{xs:Array Nat}{i a b:Nat}(h:i<xs.size):xs.getD i a=xs.getD i b:=by simp[Array.getD,h]
def Zfm{xs:Array Nat}(R:Ris xs)(j:Nat):∀(fuel lo hi:Nat),hi-lo<=fuel->lo<=hi->hi<=xs.size->(∀k,k<lo->xs.getD k 0<j)->(∀k,hi<=k->k<xs.size->j<=xs.getD k 0)->
  let r:=SetTable.below.go xs j fuel lo hi
  r<=xs.size/\(∀k,k<r->xs.getD k 0<j)/\∀k,r<=k->k<xs.size->j<=xs.getD k 0:=by
 intro fuel
 induction fuel with
 |zero=>
  intro lo hi h1 h2 h3 h4 h5;have e:lo=hi:=by omega
  subst e;exact⟨h3,h4,h5⟩
 |succ fuel ih=>
  intro lo hi h1 h2 h3 h4 h5;show(let r:=(if lo<hi then(if xs.getD ((lo+hi) / 2) j<j then SetTable.below.go xs j fuel ((lo+hi) / 2+1) hi else SetTable.below.go xs j fuel lo ((lo+hi) / 2))else lo);r<=xs.size/\(∀k,k<r->xs.getD k 0<j)/\∀k,r<=k->k<xs.size->j<=xs.getD k 0);by_cases hl:lo<hi
  ·rw[Yr hl];have hm:(lo+hi) / 2<xs.size:=by omega
   by_cases hc:xs.getD ((lo+hi) / 2) j<j
   ·rw[Yr hc];refine ih _ _ (by omega) (by omega) h3 (fun k hk=>?_) h5;rw[Gv (b:=0) hm]at hc;by_cases e:k=(lo+hi) / 2
    ·rw[e];exact hc
    ·exact Qz (R k _ (by omega) hm) hc
   ·rw[Yp hc];refine ih _ _ (by omega) (by omega) (by omega) h4 (fun k hk hk2=>?_);rw[Gv (b:=0) hm]at hc;by_cases e:k=(lo+hi) / 2
    ·rw[e];omega
    ·have:=R _ k (show(lo+hi) / 2<k by omega) hk2
     omega
  ·rw[Yp hl];have e:lo=hi:=by omega
   subst e;exact⟨h3,h4,h5⟩
def Gc{xs:Array Nat}(R:Ris xs)(j:Nat):SetTable.below xs j<=xs.size/\(∀k,k<SetTable.below xs j->xs.getD k 0<j)/\∀k,SetTable.below xs j<=k->k<xs.size->j<=xs.getD k 0:=
 Zfm R j xs.size 0 xs.size (by omega) (by omega) (by omega) (fun k hk=>by omega) (fun k h1 h2=>by omega)
def Zea{xs:Array Nat}(R:Ris xs){i:Nat}(hi:i<=xs.size){slot:Nat}(h1:∀k,k<i->xs.getD k 0<slot)(h2:∀k,i<=k->k<xs.size->slot<=xs.getD k 0):SetTable.below xs slot=i:=by
 obtain⟨a,b,c⟩:=Gc R slot;rcases Nat.lt_trichotomy (SetTable.below xs slot) i with h|h|h
 ·have:=c _ (Yy _) (by omega)
  have:=h1 _ h
  omega
 ·exact h
 ·have:=b i h
  have:=h2 i (Yy _) (by omega)
  omega
def Rise(xs:Array Nat):Prop:=xs.toList.Pairwise (· < ·)
def Rise.ris {xs:Array Nat} (h:Rise xs):Ris xs:=by
 intro i j hij hj;have hi:i<xs.size:=by omega
 have:=(Qb.mp h) i j (by simpa using hi) (by simpa using hj) hij
 simpa [Array.getD,hi,hj]using this
def R5{xs:Array Nat}{j:Nat}(h:Rise xs)(hn:xs[SetTable.below xs j]?≠some j):Rise (SetTable.insertAt xs (SetTable.below xs j) j):=by
 obtain⟨a,b,c⟩:=Gc h.ris j;generalize SetTable.below xs j=p at *;unfold Rise;rw[SetTable.toList_insertAt];refine Vr.mpr ⟨h.sublist (QT _ _),Wy.mpr ⟨fun y hy=>?_,h.sublist (List.drop_sublist _ _)⟩,fun x hx y hy=>?_⟩
 ·obtain⟨k,hk,e⟩:=List.mem_drop_iff_getElem.mp hy
  have hk':p+k<xs.size:=by
   simp only[Wa]at hk;omega
  have h1:=c (p+k) (by omega) hk';have e':xs.getD (p+k) 0=y:=by simpa [Array.getD,hk']using e
  rw[e']at h1;rcases Q0 j y with h2|h2
  ·exact h2
  ·have ey:y=j:=by omega
   exfalso;rcases Nat.eq_zero_or_pos k with rfl|hk0
   ·apply hn;rw[W3 (by omega)]
    have:xs[p]=y:=by simpa using e
    rw[this,ey]
   ·have h3:=h.ris p (p+k) (by omega) hk';have h4:=c p (Yy _) (by omega);omega
 ·have hx':x<j:=by
   obtain⟨k,hk,e⟩:=List.mem_take_iff_getElem.mp hx;have hk1:k<p:=by omega
   have hk2:k<xs.size:=by omega
   have:=b k hk1
   have e':xs.getD k 0=x:=by simpa [Array.getD,hk2]using e
   omega
  rcases Y2.mp hy with rfl|hy
  ·exact hx'
  ·obtain⟨k,hk,e⟩:=List.mem_drop_iff_getElem.mp hy
   have hk':p+k<xs.size:=by
    simp only[Wa]at hk;omega
   have h1:=c (p+k) (by omega) hk';have e':xs.getD (p+k) 0=y:=by simpa [Array.getD,hk']using e
   omega
structure Tb (b:Bool) (t:SetTable):Prop where
 led:t.led=b
 dum:t.dummies=#[]
 ris:Rise t.place
def Gg(j:Nat):SetTable.has #[] j=false:=by
 unfold SetTable.has;simp
def Tb.fresh (b:Bool):Tb b (.fresh 0 0 b):=⟨rfl,rfl,List.Pairwise.nil⟩
def Lg(n:Nat):Rise (Array.range n):=by
 unfold Rise;rw[Array.toList_range];exact List.pairwise_lt_range
def Tb.stand {b:Bool}{t:SetTable} (h:Tb b t) (n:Nat):Tb b (t.standIn n):=⟨h.led,rfl,Lg n⟩
def Tb.orStand {b:Bool}{t:SetTable} (h:Tb b t) (n:Nat):Tb b (t.orStandIn n):=by
 unfold SetTable.orStandIn;split
 ·exact h
 ·exact h.stand n
def Tb.plainOff {b:Bool}{t:SetTable} (h:Tb b t):Tb b {t with plain:=false}:=⟨h.led,h.dum,h.ris⟩
def Tb.put {b:Bool}{t:SetTable} (h:Tb b t) {j:Nat} (hn:t.place[SetTable.below t.place j]?≠some j):Tb b (t.put j).1:=by
 refine⟨h.led,?_,R5 h.ris hn⟩;show(if SetTable.has t.dummies j=true then _ else t.dummies)=#[];rw[h.dum,Gg];rfl
def Zdy{b:Bool}{t:SetTable}(h:Tb b t)(f:Nat->Int)(z:Int):∀(fuel:Nat) (p:SetTable.Probe) (j:Nat) (d:Option Nat),p.dummy=none->SetTable.probe.go t f z fuel p=some (.empty j d)->d=none/\t.place[SetTable.below t.place j]?≠some j:=by
 intro fuel
 induction fuel with
 |zero=>intro p j d _ e;cases e
 |succ fuel ih=>
  intro p j d hp e;unfold SetTable.probe.go at e
  have hadv:∀q:SetTable.Probe,q.dummy=none->(t.advance q).dummy=none:=fun q hq=>by
   unfold SetTable.advance;split
   ·exact hq
   ·exact hq
  cases es:t.slot p.j with
  |empty=>
   rw[es]at e;have e':=Yz e;injection e' with e1 e2;subst e1;refine⟨e2.symm.trans hp,fun hz=>?_⟩;unfold SetTable.slot at es
   dsimp only at es
   rw[hz]at es;simp at es
  |dummy=>
   exfalso;unfold SetTable.slot at es
   dsimp only at es
   split at es
   ·cases es
   ·rw[h.dum,Gg]at es;simp at es
  |live i=>
   rw[es]at e
   dsimp only at e
   split at e
   ·cases e
   ·exact ih _ j d (hadv p hp) e
def Tb.layNew {b:Bool}{t:SetTable} (h:Tb b t) (es:Array (Int×Value)) (z:Int) (x:Value):Tb b (PySem.layNew t es z x).2.1:=by
 unfold PySem.layNew;split
 ·rename_i slot wasDummy e
  have hn:t.place[SetTable.below t.place slot]?≠some slot:=by
   unfold SetTable.freeSlot SetTable.probe at e;split at e
   ·rename_i j dummy e';obtain⟨h1,h2⟩:=Zdy h _ _ _ _ _ _ rfl e';subst h1
    have:=Yz e
    have hj:j=slot:=YQ Prod.fst this;rw[←hj];exact h2
   ·cases e
  exact(h.put hn).orStand _
 ·exact h.stand _
def LK(n:Nat)(f:Nat->Option Nat):((List.range n).filterMap fun j=>(f j).map (j,·)).Pairwise (fun a b=>a.1<b.1):=by
 refine List.Pairwise.filterMap _ ?_ List.pairwise_lt_range;intro a a' haa b hb b' hb';cases e:f a with
 |none=>rw[e]at hb;cases hb
 |some v=>
  cases e':f a' with
  |none=>rw[e']at hb';cases hb'
  |some v'=>
   rw[e]at hb;rw[e']at hb';cases hb
   cases hb'
   exact haa
def Tb.relayAll {b:Bool}{t:SetTable} (h:Tb b t) (es:Array (Int×Value)) (n:Nat):Tb b (PySem.relayAll t es n).2.1:=by
 unfold PySem.relayAll;split
 ·rename_i t' order e
  dsimp only
  split
  ·unfold SetTable.relaid SetTable.laid at e;cases e2:SetTable.layClean (SetTable.sizeAbove n-1) (es.map (·.1))with
   |none=>rw[e2]at e;cases e
   |some owner=>
    rw[e2]at e;have e':=YQ Prod.fst (Yz e);subst e';refine⟨h.led,rfl,?_⟩;show(List.map (fun x:Nat×Nat=>x.fst) ((List.range (SetTable.sizeAbove n-1+1)).filterMap fun j=>(owner.getD j none).map (j,·))).toArray.toList.Pairwise (· < ·);rw[List.toList_toArray,List.pairwise_map];exact LK _ _
  ·exact h.stand _
 ·exact h.stand _
def keyOf(e:Int×Value):Int:=match e.2 with
 | .int k _=>k
 |_=>0
def Ent(e:Int×Value):Prop:=∃(k:Int) (t:Tok),e=(hashInt k,.int k t)
section
variable (prog:Program) (w:World)
def XN(w:World):Bool:=w.params.followText "set-order"
structure SetAt (h:Heap) (a:Addr) (js:List Int) (es:Array (Int×Value)) (ep:Nat) (t:SetTable):Prop where
 obj:∃o,h.get? a=some o/\o.ExactSet/\o.data=.set es ep t
 ent:∀e∈es.toList,Ent e
 per:(es.toList.map keyOf).Perm js
 nod:js.Nodup
 few:es.size<scanBound
 fit:t.fits es.size=true
 tab:Tb (!XN w) t
def SetB(h:Heap)(a:Addr)(js:List Int):Prop:=∃es ep t,SetAt w h a js es ep t
end
section
variable {prog:Program}{w:World}{A:Around}{E:Value->Shared->Prop}{s:Shared}
def Ent.elems {l:List (Int×Value)} (h:∀e∈l,Ent e):ElemsOf (intKind prog w) l:=fun e he=>by
 obtain⟨k,t,rfl⟩:=h e he;exact⟨⟨k,intKind_is _ _ _ _,rfl⟩,rfl⟩
def D4{e:Int×Value}(h:Ent e)(k:Int):(intKind prog w).is k e.2=decide (k=keyOf e):=by
 obtain⟨k',t,rfl⟩:=h;show Value.isInt k (.int k' t)=decide (k=k');by_cases e:k=k'
 ·subst e;simp[Value.isInt]
 ·rw[YA e];simp[Value.isInt];exact fun z=>e z.symm
def SetB.len {h:Heap}{a:Addr}{js:List Int}{es:Array (Int×Value)}{ep:Nat}{t:SetTable} (S:SetAt w h a js es ep t):es.size=js.length:=by
 have:=S.per.length_eq
 simpa using this
def SetB.at {h h':Heap}{a:Addr}{js:List Int} (S:SetB w h a js) (k:∀o,h.get? a=some o->h'.get? a=some o):SetB w h' a js:=by
 obtain⟨es,ep,t,⟨o,ho,r⟩,b,c,d,e,f,g⟩:=S;exact⟨es,ep,t,⟨o,k o ho,r⟩,b,c,d,e,f,g⟩
def SetAt.store {h:Heap}{a:Addr}{js js':List Int}{es es':Array (Int×Value)}{ep:Nat}{t t':SetTable} (S:SetAt w h a js es ep t) (h1:∀e∈es'.toList,Ent e) (h2:(es'.toList.map keyOf).Perm js') (h3:js'.Nodup) (h4:es'.size<scanBound)
  (h5:t'.fits es'.size=true) (h6:Tb (!XN w) t'):SetAt w (h.update a (Obj.putSet es' t')) a js' es' (ep+1) t':=by
 obtain⟨o,ho,hx,hd⟩:=S.obj;refine⟨⟨{o with data:=.set es' (ep+1) t'},?_,hx,rfl⟩,h1,h2,h3,h4,h5,h6⟩
 have q:=We (Obj.putSet es' t') ho (by rw[putSet_of es' t' hd];rfl);rwa[putSet_of es' t' hd]at q
def Gz{g:Bool->Sem Unit}(hg:∀(b:Bool) (s':Shared) (R':Unit->Shared->Prop),R' () s'->wpAny (model prog w) A (g b) R' E s'){a:Addr}{js js':List Int}{es es':Array (Int×Value)}{ep:Nat}{t t':SetTable}(S:SetAt w s.heap a js es ep t)(h1:∀e∈es'.toList,Ent e)(h2:(es'.toList.map keyOf).Perm js')(h3:js'.Nodup)(h4:es'.size<scanBound)(h5:t'.fits es'.size=true)(h6:Tb (!XN w) t'){d:Bool}{R:Option Bool->Shared->Prop}(fin:∀h',Heap.SameBut a s.heap h'->SetB w h' a js'->R (some true) {s with heap:=h'}) :
  wpAny (model prog w) A (do
    storeSet a es' t'
    if (!d&&t'.tooFull)=true then do
      g (relayAll t' es' (SetTable.grown es'.size)).2.2
      storeSet a (relayAll t' es' (SetTable.grown es'.size)).1 (relayAll t' es' (SetTable.grown es'.size)).2.1
      pure (some true)
     else pure (some true)) R E s:=by
 obtain⟨o,ho,hx,hd⟩:=S.obj;have S1:=S.store h1 h2 h3 h4 h5 h6;obtain⟨o1,ho1,hx1,hd1⟩:=S1.obj;have B1:=Ws s.heap a (Obj.putSet es' t');refine Yn (wpAny_storeSet_of ho hd ?_ (QV h4));split
 ·have pp:=relayAll_perm t' es' (SetTable.grown es'.size);have ff:=relayAll_fits t' es' (SetTable.grown es'.size);have tt:=h6.relayAll es' (SetTable.grown es'.size);generalize relayAll t' es' (SetTable.grown es'.size)=y at pp ff tt ⊢;obtain⟨es2,t2,g2⟩:=y
  dsimp only at pp ff tt ⊢
  have z:es2.size=es'.size:=by rw[←Wa,pp.length_eq,Wa]
  refine Yn (hg _ _ _ (Yn (wpAny_storeSet_of ho1 hd1 ?_ (QV (by rw[z];exact h4)))));exact Ys (fin _ (B1.trans (Ws _ a _)) ⟨_,_,_,S1.store (fun e he=>h1 e (pp.mem_iff.mp he)) ((pp.map keyOf).trans h2) h3 (by rw[z];exact h4) ff tt⟩)
 ·exact Ys (fin _ B1 ⟨_,_,_,S1⟩)
def addJ(js:List Int)(k:Int):List Int:=if k∈js then js else js++[k]
def RJ{a:Addr}{js:List Int}{k:Int}{tk:Tok}{R:Bool->Shared->Prop}(S:SetB w s.heap a js)(room:js.length+1<scanBound)(fin:∀(r:Bool) h',Heap.SameBut a s.heap h'->SetB w h' a (addJ js k)->R r {s with heap:=h'}) :
  wpAny (model prog w) A (setAddHashed a (.int k tk) (hashInt k)) R E s:=by
 obtain⟨es,ep,t,S⟩:=S;obtain⟨o,ho,hx,hd⟩:=S.obj;have el:=Ent.elems (prog:=prog) (w:=w) S.ent;have hz:es.size=js.length:=SetB.len S;unfold setAddHashed setAddHashedIn;refine Q8 (Yn (WX ho hd S.fit ?_))
 dsimp only
 rw[byScan_of (x:=.int k tk) rfl S.few el];simp only[↓reduceIte];unfold setAddByScan;refine Yn (Yn (wpAny_rule (Yn (wpAny_setScan_of (knd:=intKind prog w) (k:=k) (intKind_is _ _ _ _) ho hd S.fit el ?_))));have mem:∀z:Int,z∈js↔∃e∈es.toList,keyOf e=z:=fun z=>by rw[←S.per.mem_iff,YL]
 cases q:List.findIdx? (fun e=>(intKind prog w).is k e.2) es.toList with
 |some j=>
  dsimp only
  obtain⟨hj,pj,_⟩:=List.findIdx?_eq_some_iff_getElem.mp q
  have hk:k∈js:=by
   rw[D4 (S.ent _ (YC hj))]at pj;exact(mem k).mpr ⟨_,YC hj,(Yu pj).symm⟩
  refine Ys (Ys ?_);have f:=fin false s.heap (Heap.SameBut.refl a s.heap);unfold addJ at f;rw[Yr hk]at f;exact f ⟨_,_,_,S⟩
 |none=>
  dsimp only
  have hk:¬k∈js:=fun hz=>by
   obtain⟨e,he,hke⟩:=(mem k).mp hz
   have:=List.findIdx?_eq_none_iff.mp q e he
   rw[D4 (S.ent e he),Yq hke.symm]at this;cases this
  have P:=layNew_perm t es (hashInt k) (.int k tk);have F:=layNew_fits t es (hashInt k) (.int k tk);have T:=S.tab.layNew es (hashInt k) (.int k tk);change wpAny (model prog w) A (match layNew t es (hashInt k) (.int k tk)with|(es,t,wasDummy,gave)=>_) _ _ _
  generalize layNew t es (hashInt k) (.int k tk)=y at P F T ⊢;obtain⟨es1,t1,d1,g1⟩:=y
  dsimp only at P F T ⊢
  rw[Array.toList_push]at P
  have e1:∀e∈es1.toList,Ent e:=fun e he=>by
   rcases YG.mp (P.mem_iff.mp he)with he|he
   ·exact S.ent e he
   ·rw[Yx.mp he];exact⟨k,tk,rfl⟩
  have e2:(es1.toList.map keyOf).Perm (js++[k]):=by
   refine(P.map keyOf).trans ?_;rw[Y8];exact S.per.append_right _
  have e3:(js++[k]).Nodup:=Wt.mpr ⟨S.nod,by simp,fun x hx y hy=>by rw[Yx.mp hy];rintro rfl;exact hk hx⟩
  have e4:es1.size<scanBound:=by
   rw[←Wa,P.length_eq,Yw,Wa,hz];exact room
  have fin':∀h',Heap.SameBut a s.heap h'->SetB w h' a (js++[k])->R true {s with heap:=h'}:=fun h' sb q'=>by
   have f:=fin true h' sb;unfold addJ at f;rw[Yp hk]at f;exact f q'
  have gw:∀(b:Bool) {s':Shared} {R':Unit->Shared->Prop},R' () s'->wpAny (model prog w) A (match b with|true=>rule "set.scan.the-table-gave-way" |false=>pure ()) R' E s':=fun b s' R' r'=>by cases b<;>first|exact Ys r'|exact wpAny_rule r'
  refine Yn (gw _ ?_);split
  ·refine Yn ?_;rw[hashByValue_scannable 8 (x:=.int k tk) rfl];refine Ys (Gz (fun b s' R' r'=>gw b r') S e1 e2 e3 e4 ?_ ?_ fun h' sb q'=>Ys (fin' h' sb q'))
   ·split
    ·exact F
    ·exact SetTable.fits_plain_off F
   ·split
    ·exact T
    ·exact T.plainOff
  ·refine Yn (Ys ?_);simp only[↓reduceIte];exact Gz (fun b s' R' r'=>gw b r') S e1 e2 e3 e4 F T fun h' sb q'=>Ys (fin' h' sb q')
def Za1{R:Result->Shared->Prop}{I:Addr}{fp wr:List Addr}{P:Nat->Value->Prop}{St:Nat->Heap->Prop}{ns:List Int}(W:Walks prog w A.in1 I fp wr ns.length P St)(S:Addr)(hS:S∉fp)(hv:∀i v,P i v->∃t,v=.int (ns.getD i 0) t)(room:ns.length+1<scanBound):∀(k i:Nat) (s:Shared) (js:List Int),ns.length-i=k->i<=ns.length->St i s.heap->SetB w s.heap S js->js.length<=i->
   (∀h' tk,(∀b o,b∉S::wr->s.heap.get? b=some o->h'.get? b=some o)->SetB w h' S ((ns.drop i).foldl addJ js)->R (.ok (.ret .none)) {s with heap:=h',toks:=tk})->
   codeAny (model prog w) A (.builtin "set.update.loop" ⟨[.ref S,.ref I],[]⟩) R s:=by
 have hSw:S∉wr:=fun z=>hS (W.sub _ z);intro k
 induction k with
 |zero=>
  intro i s js hk hi st B hj fin;have ei:i=ns.length:=by omega
  refine Qo QH ?_;rw[Qc WS _];show wpAny _ A.in1 (pyNext (.ref I) >>= _) _ _ s;refine Yn (W.done s _ _ (ei▸st) fun h' tk keep=>?_);show wpAny _ A.in1 (ret Value.none) _ _ _;refine Ys (fin h' tk (fun b o hb e=>keep b o (fun z=>hb (YF _ z)) e) ?_);rw[ei,List.drop_length];exact B.at fun o e=>keep S o hSw e
 |succ k ih=>
  intro i s js hk hi st B hj fin;have hlt:i<ns.length:=by omega
  refine Qo QH ?_;rw[Qc WS _];show wpAny _ A.in1 (pyNext (.ref I) >>= _) _ _ s;refine Yn (W.item i s _ _ hlt st fun v h1 tk1 pv st1 keep1=>?_);obtain⟨t,rfl⟩:=hv i v pv;have B1:SetB w h1 S js:=B.at fun o e=>keep1 S o hSw e;show wpAny _ A.in1 (holding [Value.int (ns.getD i 0) t] (setAdd S (.int (ns.getD i 0) t)) >>= _) _ _ _;unfold setAdd;refine Yn (Q8 (Q8 (Yn ((intKind prog w).pyHash (k:=ns.getD i 0) (intKind_is _ _ _ _) ?_))));refine RJ (k:=ns.getD i 0) B1 (by omega) fun r h2 sb B2=>?_
  have el:(addJ js (ns.getD i 0)).length<=i+1:=by
   unfold addJ;split
   ·omega
   ·simp;omega
  refine Ys ⟨Vc WS _,ih (i+1) _ _ (by omega) hlt (W.frame _ h1 _ st1 fun b hb o e=>?_) B2 el fun h' tk keep B'=>?_⟩
  ·rw[sb.2 b (fun z:b=S=>hS (by rw[←z];exact hb))];exact e
  ·refine fin h' tk (fun b o hb e=>keep b o hb ?_) ?_
   ·rw[sb.2 b (fun z:b=S=>hb (by rw[z];exact YN))];exact keep1 b o (fun z=>hb (YF _ z)) e
   ·have e1:ns.drop i=ns.getD i 0::ns.drop (i+1):=by
     rw[QA hlt,Yo,Yl hlt];rfl
    rw[e1];exact B'
def Zfg(a:Value){Q:Value->Shared->Prop}(fin:Q (.ref s.heap.objs.size) {s with heap:=s.heap.push {cls:=.type "set",dict:=none,data:=.set #[] 0 (.fresh 0 0 (!XN w))}}) :
  codeAny (model prog w) A (.call (.builtin "set.__new__") ⟨[.type "set",a],[]⟩) (wants Q E) s:=by
 refine codeAny_of_tree (show wpAny _ A.in1 (do checkBuiltinCall "set.__new__" ⟨[.type "set",a],[]⟩;again (.builtin "set.__new__" ⟨[.type "set",a],[]⟩)) _ _ s from ?_)
 refine Yn (wpAny_of_eq (F.newCall_set_1 a) (Ys ⟨Vc F.plain_set_new _,Qo F.entry_set_new ?_⟩));have und:=Qc (A:=A) F.plain_set_new ⟨[.type "set",a],[]⟩;rw[und];unfold Builtin.«set.__new__» Builtin.Frozenset.newClass;have q1:=sub_set_self;obtain⟨hh,gg,dd,tt,oo⟩:=s
 dsimp only
 wp_walk
 refine wpAny_askSetting (Ys (show wpAny _ _ _ _ _ _ from ?_))
 dsimp only
 simp only[newObj];exact Yn (wpAny_alloc (Ys (Ys fin)))
set_option maxHeartbeats 4000000 in
def LD{l:Addr}{its:Array Value}{ns:List Int}{Q:Value->Shared->Prop}(hh:A.handled=none)(hl:s.heap.IsList l its)(hi:IntsAre its.toList ns)(room:ns.length+1<scanBound)(fin:∀(h':Heap) (tk:Nat),SetB w h' s.heap.objs.size (ns.foldl addJ [])->(∀b o,b<s.heap.objs.size->s.heap.get? b=some o->h'.get? b=some o)->Q (.ref s.heap.objs.size) {s with heap:=h',toks:=tk}) :
  wpAny (model prog w) A (call (.type "set") [.ref l]) Q E s:=by
 have hn:its.size=ns.length:=by have:=IntsAre.length hi;simpa using this
 obtain⟨mroC,mroT,mro⟩:=F.called_set.mro;have made:=F.called_set.made;have subs:=F.called_set.sub;refine wpAny_call (codeAny_of_tree (show wpAny _ _ (callAny (.type "set") _) _ _ _ from ?_))
 refine Ys ⟨Code.quiet_builtin _ (by decide +kernel),Qo F.entry_type_call ?_⟩;have wt:=Around.under_plain (A:=A) (weight_type_call_type "set" [.ref l] []) rfl;rw[wt];have nt:=F.called_set.notType;have cc:=F.called_set.canCreate;have tc:=F.typeCall_set_1 (.ref l)
 repeat (any_goals (first|assumption|wp_step))
 refine Qy (Zfg (.ref l) (E:=E) (Q:=fun obj s1=>obj=.ref s.heap.objs.size/\s1={s with heap:=s.heap.push {cls:=.type "set",dict:=none,data:=.set #[] 0 (.fresh 0 0 (!XN w))}}) ⟨rfl,rfl⟩) fun r s1 hr=>?_
 cases r with
 |error e=>exact hr
 |ok fl=>
  cases fl with
  |next=>exact hr.elim
  |brk=>exact hr.elim
  |cont=>exact hr.elim
  |ret obj=>
   obtain⟨rfl,rfl⟩:=hr;generalize eH:s.heap.push {cls:=.type "set",dict:=none,data:=.set #[] 0 (.fresh 0 0 (!XN w))}=H1;have g1:H1.get? s.heap.objs.size=some {cls:=.type "set",dict:=none,data:=.set #[] 0 (.fresh 0 0 (!XN w))}:=by rw[←eH];exact Y5 _ rfl
   have hT:Shared.TypeIs {s with heap:=H1} (.ref s.heap.objs.size) "set":=⟨_,g1,rfl⟩
   have ini:=F.called_set.init.lookup;have inb:=F.called_set.init.bind (.ref s.heap.objs.size)
   repeat (any_goals (first|assumption|wp_step))
   refine Qy (codeAny_call_builtin (R:=wants (fun r s2=>r=.none/\∃h' tk,s2={s with heap:=h',toks:=tk}/\SetB w h' s.heap.objs.size (ns.foldl addJ [])/\(∀b o,b<s.heap.objs.size->s.heap.get? b=some o->h'.get? b=some o)) E)
    F.called_set.init.plain F.entry_set_init (check_set_init_1 hT ?_)) fun r2 s2 hr2=>?_
   ·obtain⟨ob,hob,hcl,nl,hdl⟩:=hl;obtain⟨c1,d1,dt1,sl1⟩:=ob;simp only at hcl hdl;subst hcl;subst hdl;have hob1:H1.get? l=some {cls:=.type "list",dict:=d1,data:=.seq its nl,slots:=sl1}:=by rw[←eH];exact Yv _ hob
    have sz1:H1.objs.size=s.heap.objs.size+1:=by rw[←eH,Qe]
    have no1:=F.sub_list_set;have no2:=F.sub_list_frozenset;have no3:(Value.type "list" == Value.type "dict")=false:=by decide
    have L1:H1.IsList l its:=⟨_,hob1,rfl,nl,rfl⟩;unfold Builtin.«set.__init__» noKeywords Builtin.Frozenset.updateFrom;generalize eP:pyIter=PI
    wp_walk
    subst eP;refine wpAny_pyIter_list L1 (Yn (wpAny_runValue ?_));have lt1:l<s.heap.objs.size:=Y1 hob;have hd3:A.in1.in1.in1.handled=none:=by simp[hh]
    have ne1:l≠H1.objs.size:=by rw[sz1];exact YM (WY lt1)
    have no4:s.heap.objs.size∉[H1.objs.size,l]:=by
     rw[sz1];simp only[Y2,Vg,or_false,not_or];exact⟨YM (Qg _),VB lt1⟩
    have W0:=Walks.list (prog:=prog) (w:=w) hd3 H1.objs.size l ne1 its;rw[hn]at W0;refine Za1 (ns:=ns) W0 s.heap.objs.size no4 (fun i v hv=>IntsAre.int_at hi i v (by rw[Wv];exact hv)) room (ns.length-0) 0 _ [] rfl (Ww _) ⟨⟨_,Y5 _ rfl,rfl,rfl⟩,L1.push _⟩ ?_ (Ww _) fun h' tk keep B=>?_
    ·exact⟨#[],0,_,⟨_,Yv _ g1,⟨rfl,rfl,rfl⟩,rfl⟩,fun e he=>by simp at he,by simp,Qf,by show(0:Nat)<4096;decide,rfl,Tb.fresh _⟩
    ·show wpAny _ _ _ _ _ _;refine Ys (show wpAny _ _ (ret Value.none) _ _ _ from Ys ⟨rfl,h',tk,rfl,B,fun b o hb e=>?_⟩)
     refine keep b o ?_ (Yv _ (by rw[←eH];exact Yv _ e));rw[sz1];simp only[Y2,Vg,or_false,not_or];exact⟨YM hb,YM (WY hb)⟩
   ·cases r2 with
    |error e=>exact hr2
    |ok f2=>
     cases f2 with
     |next=>exact hr2.elim
     |brk=>exact hr2.elim
     |cont=>exact hr2.elim
     |ret r=>
      obtain⟨rfl,h',tk,rfl,B,keep⟩:=hr2
      repeat (any_goals (first|assumption|wp_step))
      exact fin _ _ B keep
end
def si_slot:Slot "set_iterator" "__next__" "set_iterator.__next__":=
 Slot.of (owner:="set_iterator") (n:="__next__") (by rw[typeLookup_type,builtinLookup_eq_fast];kernel_rfl) (by decide +kernel) (by decide +kernel) (by decide +kernel)
  (by first|exact Or.inl (by decide +kernel)|exact Or.inr (by decide +kernel)) (by rw[isSubtype_type];kernel_rfl)
def RO:entryFor table "set_iterator.__next__"=some Builtin.«set_iterator.__next__»:=entryFor_of_tree (by kernel_rfl)
def Io(a:Value):argsOk "set_iterator.__next__" ⟨[a],[]⟩:=by unfold argsOk;kernel_rfl
def O4:entryFor table "set.__iter__"=some Builtin.«frozenset.__iter__»:=entryFor_alias (id':="frozenset.__iter__") (by kernel_rfl) rfl (by decide +kernel) (by kernel_rfl)
def AH:Slot "set_iterator" "__iter__" "set_iterator.__iter__":=
 Slot.of (owner:="set_iterator") (n:="__iter__") (by rw[typeLookup_type,builtinLookup_eq_fast];kernel_rfl) (by decide +kernel) (by decide +kernel) (by decide +kernel)
  (by first|exact Or.inl (by decide +kernel)|exact Or.inr (by decide +kernel)) (by rw[isSubtype_type];kernel_rfl)
def Zd7:entryFor table "set_iterator.__iter__"=some Builtin.«dict_keyiterator.__iter__»:=entryFor_alias (id':="dict_keyiterator.__iter__") (by kernel_rfl) rfl (by decide +kernel) (by kernel_rfl)
def Zad(a:Value):argsOk "set_iterator.__iter__" ⟨[a],[]⟩:=by unfold argsOk;kernel_rfl
def SI(h:Heap)(I a:Addr)(first:Value)(i n ep:Nat):Prop:=∃o,h.get? I=some o/\o.cls=.type "set_iterator"/\o.data=.fields #[first,.int i 0,.ref a,.int n 0,.int ep 0]
section
variable {prog:Program}{w:World}{A:Around}{E:Value->Shared->Prop}{s:Shared}{I a:Addr}{first:Value}{i n ep:Nat}{js:List Int}{es:Array (Int×Value)}{t:SetTable}
def SI.typ (h:SI s.heap I a first i n ep):s.TypeIs (.ref I) "set_iterator":=let ⟨o,ho,hc,_⟩:=h;⟨o,ho,hc⟩
def SI.at {h h':Heap} (x:SI h I a first i n ep) (k:∀o,h.get? I=some o->h'.get? I=some o):SI h' I a first i n ep:=let ⟨o,ho,r⟩:=x;⟨o,k o ho,r⟩
def PK(first:Value)(a I:Addr)(i ep:Int):Sem PySem.Fin:=
 match first with
 |Value.int slot _=>do
  match ←setNext a slot.toNat i.toNat ep.toNat with
  |some (x,next)=>
   setField (.ref I) 0 (rawInt next)
   setField (.ref I) 1 (rawInt (i+1))
   ret x
  |none=>
   setField (.ref I) 2 .none
   raiseNew (←newExc (.type "StopIteration") [])
 |_=>do
  let some places ←seqItems? first|unsupported "internal:set_iterator"
  match places[i.toNat]? with
  |some (.int place _)=>
   let x ←setNextDrawn a place.toNat ep.toNat
   setField (.ref I) 1 (rawInt (i+1))
   ret x
  |some _=>unsupported "internal:set_iterator"
  |none=>
   setField (.ref I) 0 (rawInt 0)
   setField (.ref I) 2 .none
   raiseNew (←newExc (.type "StopIteration") [])
def Sn{Q:Option Value->Shared->Prop}(hit:SI s.heap I a first i es.size ep)(S:SetAt w s.heap a js es ep t)
  (body:wpAny (model prog w) A.in1 (PK first a I i ep) (fun fin s'=>∃v,fin=.done (.ret v)/\Q (some v) s')
   (fun e s'=>wpAny (model prog w) A (isInstance e (.type "StopIteration")) (fun b s''=>b=true/\Q none s'') E s') s) :
  wpAny (model prog w) A (pyNext (.ref I)) Q E s:=by
 obtain⟨o,ho,hc,hd⟩:=id hit;obtain⟨ob,hob,hx,hdd⟩:=S.obj;unfold pyNext;refine Yn (wpAny_attempt (QR (name:=Str.ofString "__next__") hit.typ si_slot (WR si_slot hit.typ RO ?_ (Io _))));unfold Builtin.«set_iterator.__next__»;refine Yn (Ys (Yn (wpAny_fieldsOf ho hd ?_)));show wpAny _ _ (setEntries a >>= fun x=>if ((x.size:Int) != (es.size:Int))=true then _ else PK first a I i ep) _ _ s
 refine Yn (wpAny_setEntries_of hob hdd S.fit ?_);rw[Yp (by simp)];refine Wn body (fun fin s' h=>?_) fun e s' h=>?_
 ·obtain⟨v,e,q⟩:=h;exact⟨v,e,Ys q⟩
 ·refine Yn (Wn h (fun b s'' h2=>?_) fun _ _ z=>z);obtain⟨rfl,q⟩:=h2;exact Ys q
def Em{Q:Option Value->Shared->Prop}{o:Obj}{vs:Array Value}(hh:A.handled=none)(ho:s.heap.get? I=some o)(hd:o.data=.fields vs)(h2:2<vs.size)(fin:∀h',Heap.ExtBut I s.heap h'->Q none {s with heap:=h'}){R:PySem.Fin->Shared->Prop} :
  wpAny (model prog w) A.in1 (do setField (.ref I) 2 .none;raiseNew (←newExc (.type "StopIteration") [])) R (fun e s'=>wpAny (model prog w) A (isInstance e (.type "StopIteration")) (fun b s''=>b=true/\Q none s'') E s') s:=by
 refine Yn (WC ho hd h2 (Yn ?_));simp only[newExc,newTuple];refine Yn (Wg ?_ (by size_fits));refine Yn (m:=firstArgMember _ _) (wpAny_of_eq (a:=Value.none) (by first|rfl|(simp only[firstArgMember];rfl)) (Wg ?_ (by size_fits)))
 simp only[raiseNew];refine Yn (wpAny_handled ?_);have e1:A.in1.handled=none:=hh;rw[e1];refine Yn (Ys (wpAny_throw ?_));refine wpAny_isInstance (T:="StopIteration") (b:=true) ⟨_,Y5 _ rfl,rfl⟩ isSubtype_stop ?_;exact⟨rfl,fin _ (((Ws ..).extBut.push _).push _)⟩
def SI.step1 {o:Obj}{x:Value} (ho:s.heap.get? I=some o) (hc:o.cls=.type "set_iterator") (hd:o.data=.fields #[first,.int i 0,.ref a,.int n 0,.int ep 0]) :
  SI (s.heap.update I (Obj.mapFields (·.setIfInBounds 1 (rawInt ((i:Int)+1))))) I a first (i+1) n ep:=
 ⟨_,We _ ho (WD (Wq hd _)),(QW ..).trans hc,by rw[Wq hd];simp[rawInt]⟩
def NZ{Q:Bool->Shared->Prop}(h:Q (XN w) s):wpAny (model prog w) A setsByText Q E s:=by
 unfold setsByText;exact Yn (wpAny_askSetting (Ys h))
def OX{Q:Option (Value×Nat)->Shared->Prop}{slot:Nat}(S:SetAt w s.heap a js es ep t)(hb:XN w=true)(h:Q (((pickOrder (w.params.setOrder a ep) es)[i]?).map fun e=>(e.2,slot)) s) :
  wpAny (model prog w) A (setNext a slot i ep) Q E s:=by
 obtain⟨ob,hob,hx,hdd⟩:=S.obj;unfold setNext;refine Yn (WX hob hdd S.fit (Yn (NZ ?_)));rw[hb,Yr rfl]
 dsimp only
 rw[Yp (by simp)];refine Yn ?_;unfold setWalk;refine Yn (WX hob hdd S.fit (Yn (NZ ?_)));rw[hb,Yr rfl];exact Yn (wpAny_askSetting (Ys (Ys h)))
def Zd2{Q:Option (Value×Nat)->Shared->Prop}{slot:Nat}(S:SetAt w s.heap a js es ep t)(hb:XN w=false)(hp:(!t.plain&&decide (es.size>1))=false)(h:Q (match es[SetTable.below t.place slot]?,t.place[SetTable.below t.place slot]? with|some (_,x),some j=>some (x,j+1)|_,_=>none) s):wpAny (model prog w) A (setNext a slot i ep) Q E s:=by
 obtain⟨ob,hob,hx,hdd⟩:=S.obj;unfold setNext;refine Yn (WX hob hdd S.fit (Yn (NZ ?_)));rw[hb,Yp (by decide)]
 dsimp only
 show wpAny _ _ (if (!t.plain&&decide (es.size>1))=true then _ else _) _ _ _;rw[hp,Yp (by decide)];refine Yn (?_:wpAny _ _ (if (!t.led && !es.isEmpty)=true then unsupported "set:maker-not-led" else pure ()) _ _ _);have hl:t.led=true:=by rw[S.tab.led,hb];rfl
 rw[hl,Yp (by simp)];exact Ys (Ys h)
def Zed{Q:Value->Shared->Prop}{p:Nat}{e:Int×Value}(S:SetAt w s.heap a js es ep t)(he:es[p]?=some e)(h:Q e.2 s):wpAny (model prog w) A (setNextDrawn a p ep) Q E s:=by
 obtain⟨ob,hob,hx,hdd⟩:=S.obj;unfold setNextDrawn;refine Yn (WX hob hdd S.fit ?_)
 dsimp only
 rw[Yp (by simp),he];exact Ys h
def Mh{Q:Nat->Shared->Prop}{src:Source}{m:Nat}(hm:m≠0)(h:∀k d,k<m->Q k {s with drawn:=d}):wpAny (model prog w) A (choose src m) Q E s:=by
 intro Γ p hΓ;unfold choose;rw[Sem.wp_choose];exact⟨hm,h _ _ (Nat.mod_lt _ (Nat.pos_of_ne_zero hm))⟩
def FX{α:Type}:∀(xs:List α) (k:Nat) (h:k<xs.length),(xs[k]::xs.eraseIdx k).Perm xs
 |x::r,0,_=>List.Perm.refl _
 |x::r,k+1,h=>by
  have hk:k<r.length:=by simpa using h
  have ih:=FX r k hk;show(r[k]::x::r.eraseIdx k).Perm (x::r);exact(List.Perm.swap _ _ _).trans (List.Perm.cons _ ih)
def Ms{α:Type}:∀(m:Nat) (xs:List α) (s:Shared) {Q:List α->Shared->Prop},xs.length=m->(∀ys d,ys.Perm xs->Q ys {s with drawn:=d})->wpAny (model prog w) A (drawOrder m xs) Q E s:=by
 intro m
 induction m with
 |zero=>
  intro xs s Q hl h;have e:xs=[]:=WM.mp hl;subst e;exact Ys (h [] s.drawn (List.Perm.refl _))
 |succ m ih=>
  intro xs s Q hl h;cases xs with
  |nil=>simp at hl
  |cons x r=>
   unfold drawOrder;refine Yn (Mh (by simp) fun k d hk=>?_);rw[Yl hk];refine Yn (ih _ _ (by rw[List.length_eraseIdx_of_lt hk];simpa using hl) fun ys d2 hp=>Ys ?_);exact h _ d2 ((List.Perm.cons _ hp).trans (FX _ _ hk))
def SetAt.keep {h h':Heap} (S:SetAt w h a js es ep t) (k:∀o,h.get? a=some o->h'.get? a=some o):SetAt w h' a js es ep t:=by
 obtain⟨⟨o,ho,r⟩,b,c,d,e,f,g⟩:=S;exact⟨⟨o,k o ho,r⟩,b,c,d,e,f,g⟩
def De{Q:Value->Shared->Prop}(hit:SI s.heap I a first i n ep)(h:Q (.ref I) s):wpAny (model prog w) A (pyIter (.ref I)) Q E s:=by
 refine wpAny_pyIter_slot hit.typ AH (WR AH hit.typ Zd7 ?_ (Zad _));show wpAny _ _ (ret (.ref I)) _ _ s;exact Ys ⟨_,rfl, "set_iterator",_,hit.typ,si_slot.lookup,h⟩
def Do(hh:A.handled=none)(I a:Addr)(hne:a≠I)(vs:List Value)(hl:vs.length=es.size)(sl:Nat->Nat)(nx:∀(A:Around) (E:Value->Shared->Prop) (s:Shared) (i:Nat) (Q:Option (Value×Nat)->Shared->Prop),i<=es.size->SetAt w s.heap a js es ep t->Q ((vs[i]?).map fun v=>(v,sl (i+1))) s->wpAny (model prog w) A (setNext a (sl i) i ep) Q E s) :
  Walks prog w A I [I,a] [I] es.size (fun i v=>vs[i]?=some v) (fun i h=>SI h I a (.int (sl i) 0) i es.size ep/\SetAt w h a js es ep t) where
 sub:=fun b hb=>by simp at hb;simp[hb]
 frame:=fun _ _ _ st k=>⟨st.1.at fun o e=>k I (by simp) o e,st.2.keep fun o e=>k a (by simp) o e⟩
 item:=fun i s Q E hi st fin=>by
  obtain⟨o,ho,hc,hd⟩:=id st.1;refine Sn st.1 st.2 ?_;unfold PK
  dsimp only
  rw[YB,YB,YB];refine Yn (nx _ _ s i _ (QE hi) st.2 ?_);have hi2:i<vs.length:=by omega
  rw[Yl hi2];show wpAny _ _ (do setField (.ref I) 0 (rawInt (sl (i+1)));setField (.ref I) 1 (rawInt ((i:Int)+1));ret vs[i]) _ _ s
  refine Yn (WC ho hd (by simp) ?_);have g1:=We (Obj.mapFields (·.setIfInBounds 0 (rawInt (sl (i+1):Int)))) ho (WD (Wq hd _));have d1:(Obj.mapFields (·.setIfInBounds 0 (rawInt (sl (i+1):Int))) o).data=.fields #[.int (sl (i+1)) 0,.int i 0,.ref a,.int es.size 0,.int ep 0]:=by rw[Wq hd];simp[rawInt]
  refine Yn (WC g1 d1 (by simp) ?_);have sb:=(Ws s.heap I (Obj.mapFields (·.setIfInBounds 0 (rawInt (sl (i+1):Int))))).trans (Ws _ I (Obj.mapFields (·.setIfInBounds 1 (rawInt ((i:Int)+1)))));refine Ys ⟨_,rfl,fin vs[i] _ s.toks (Yl hi2) ⟨?_,st.2.keep fun o e=>sb.extBut a o hne e⟩ fun b o hb e=>sb.extBut b o (fun z=>hb (by simp[z])) e⟩;exact SI.step1 (s:={s with heap:=_}) (x:=.none) g1 ((QW ..).trans hc) d1
 done:=fun s Q E st fin=>by
  obtain⟨o,ho,hc,hd⟩:=id st.1;refine Sn st.1 st.2 ?_;unfold PK
  dsimp only
  rw[YB,YB,YB];refine Yn (nx _ _ s es.size _ (Yy _) st.2 ?_);rw[WU (by omega)];exact Em hh ho hd (by simp) fun h' eb=>fin h' s.toks fun b o hb e=>eb b o (fun z=>hb (by simp[z])) e
 self:=fun _ _ _ _ st fin=>De st.1 fin
def Zby(hh:A.handled=none)(I a T:Addr)(hne:a≠I)(hT:T≠I)(ps:List Nat)(hl:ps.length=es.size)(hps:∀p∈ps,p<es.size)(vs:List Value)(hvs:vs=ps.map fun p=>((es[p]?).map (·.2)).getD .none) :
  Walks prog w A I [I,a,T] [I] es.size (fun i v=>vs[i]?=some v) (fun i h=>SI h I a (.ref T) i es.size ep/\SetAt w h a js es ep t/\∃o,h.get? T=some o/\∃c,o.data=.seq (ps.map fun(p:Nat)=>rawInt p).toArray c) where
 sub:=fun b hb=>by simp at hb;simp[hb]
 frame:=fun _ _ _ st k=>⟨st.1.at fun o e=>k I (by simp) o e,st.2.1.keep fun o e=>k a (by simp) o e,let ⟨o,ho,c⟩:=st.2.2;⟨o,k T (by simp) o ho,c⟩⟩
 item:=fun i s Q E hi st fin=>by
  obtain⟨o,ho,hc,hd⟩:=id st.1;obtain⟨oT,hoT,c,hdT⟩:=st.2.2;refine Sn st.1 st.2.1 ?_;unfold PK
  dsimp only
  refine Yn (wpAny_seqItems hoT hdT ?_);have hi2:i<ps.length:=by omega
  have e1:(ps.map fun(p:Nat)=>rawInt p).toArray[(i:Int).toNat]?=some (.int ps[i] 0):=by
   rw[YB,List.getElem?_toArray,Yt,Yl hi2];rfl
  have hp:=hps _ (YC hi2)
  dsimp only
  rw[e1]
  dsimp only
  have e2:es[ps[i]]?=some es[ps[i]]:=W3 hp;have e3:vs[i]?=some (es[ps[i]]).2:=by rw[hvs,Yt,Yl hi2];simp[hp]
  rw[YB,YB];refine Yn (Zed st.2.1 e2 (Yn (WC ho hd (by simp) ?_)));have sb:=Ws s.heap I (Obj.mapFields (·.setIfInBounds 1 (rawInt ((i:Int)+1))));exact Ys ⟨_,rfl,fin _ _ s.toks e3 ⟨SI.step1 (x:=.none) ho hc hd,st.2.1.keep fun o e=>sb.extBut a o hne e,oT,sb.extBut T oT hT hoT,c,hdT⟩ fun b o hb e=>sb.extBut b o (fun z=>hb (by simp[z])) e⟩
 done:=fun s Q E st fin=>by
  obtain⟨o,ho,hc,hd⟩:=id st.1;obtain⟨oT,hoT,c,hdT⟩:=st.2.2;refine Sn st.1 st.2.1 ?_;unfold PK
  dsimp only
  refine Yn (wpAny_seqItems hoT hdT ?_)
  have e1:(ps.map fun(p:Nat)=>rawInt p).toArray[(es.size:Int).toNat]?=none:=by
   rw[YB,List.getElem?_toArray,Yt,WU (by omega)];rfl
  dsimp only
  rw[e1]
  dsimp only
  refine Yn (WC ho hd (by simp) ?_);have g1:=We (Obj.mapFields (·.setIfInBounds 0 (rawInt 0))) ho (WD (Wq hd _));have sb:=Ws s.heap I (Obj.mapFields (·.setIfInBounds 0 (rawInt 0)));refine Em (s:={s with heap:=_}) hh g1 (Wq hd _) (by simp) fun h' eb=>fin h' s.toks fun b o hb e=>eb b o (fun z=>hb (by simp[z])) (sb.extBut b o (fun z=>hb (by simp[z])) e)
 self:=fun _ _ _ _ st fin=>De st.1 fin
def Zae{α:Type}(nx:Nat->Nat):∀(m k:Nat) (left:List α) (out:Array α),left.length=m->(pickOrder.go nx m k left out).toList.Perm (out.toList++left):=by
 intro m
 induction m with
 |zero=>
  intro k left out hl;have e:left=[]:=WM.mp hl;subst e;show out.toList.Perm (out.toList++[]);rw[Wb]
 |succ m ih=>
  intro k left out hl;have hlt:nx k % left.length<left.length:=Nat.mod_lt _ (by omega);unfold pickOrder.go;rw[Yl hlt]
  dsimp only
  refine(ih _ _ _ (by rw[List.length_eraseIdx_of_lt hlt];omega)).trans ?_;rw[Array.toList_push,QU];exact(FX left _ hlt).append_left _
def DM{α:Type}(nx:Nat->Nat)(xs:Array α):(pickOrder nx xs).toList.Perm xs.toList:=by
 have:=Zae nx xs.size 0 xs.toList #[] (by simp)
 simpa [pickOrder]using this
def slotAt(t:SetTable)(i:Nat):Nat:=if i=0 then 0 else t.place.getD (i-1) 0+1
def Hr{m:Nat}(h:t.fits m=true):t.place.size=m:=by
 simp only[SetTable.fits,Wc,beq_iff_eq]at h;exact h.1
def Zb9(S:SetAt w s.heap a js es ep t){i:Nat}(hi:i<=es.size):SetTable.below t.place (slotAt t i)=i:=by
 have hz:=Hr S.fit;have R:=S.tab.ris.ris;refine Zea R (by omega) (fun k hk=>?_) fun k h1 h2=>?_
 ·unfold slotAt;rw[Yp (by omega)];by_cases e:k=i-1
  ·rw[e];omega
  ·have:=R k (i-1) (by omega) (by omega)
   omega
 ·unfold slotAt;by_cases h0:i=0
  ·rw[Yr h0];omega
  ·rw[Yp h0]
   have:=R (i-1) k (by omega) h2
   omega
def Zei{Q:Value->Shared->Prop}{A':Around}(hh:A'.handled=none)(S:SetAt w s.heap a js es ep t)
  (fin:∀(I:Addr) (fp:List Addr) (vs:List Value) (St:Nat->Heap->Prop) (h1:Heap) (d1:Drawn),Walks prog w A' I fp [I] es.size (fun i v=>vs[i]?=some v) St->St 0 h1->(∀b∈fp,b=a\/s.heap.get? b=none)->vs.length=es.size->vs.Perm (es.toList.map (·.2))->
   s.heap.get? I=none->(∀b o,s.heap.get? b=some o->h1.get? b=some o)->Q (.ref I) {s with heap:=h1,drawn:=d1}) :
  wpAny (model prog w) A (pyIter (.ref a)) Q E s:=by
 obtain⟨ob,hob,hx,hdd⟩:=S.obj;have hT:s.TypeIs (.ref a) "set":=⟨ob,hob,hx.1⟩;have ha:a<s.heap.objs.size:=Y1 hob
 have new:∀b,s.heap.objs.size<=b->s.heap.get? b=none:=fun b hb=>by
  cases e:s.heap.get? b with
  |none=>rfl
  |some o=>exact absurd (Y1 e) (Vs.mpr hb)
 refine wpAny_pyIter_slot hT F.slot_set_iter (WR F.slot_set_iter hT O4 ?_ (F.args_set_iter_1 _));unfold Builtin.«frozenset.__iter__»;show wpAny _ _ (Builtin.Frozenset.sizeOf a >>= _) _ _ s;unfold Builtin.Frozenset.sizeOf;refine Yn (Yn (wpAny_setEntries_of hob hdd S.fit (Ys ?_)));refine Yn ?_;unfold setDrawn;refine Yn (WX hob hdd S.fit (Yn (NZ (Ys ?_))))
 dsimp only
 change wpAny _ _ (if (!XN w&&(!t.plain&&decide (es.size>1)))=true then _ else _) _ _ _;cases hd:(!XN w&&(!t.plain&&decide (es.size>1)))with
 |false=>
  rw[Yp (by decide)];refine Yn (Ys (Yn (wpAny_setEpoch_of hob hdd S.fit (Yn (Wg (Ys ⟨_,rfl, "set_iterator",_,⟨_,Y5 _ rfl,rfl⟩,si_slot.lookup,?_⟩))))));have hne:a≠s.heap.objs.size:=YM ha;have S1:SetAt w (s.heap.push {cls:=.type "set_iterator",data:=.fields [rawInt 0,rawInt 0,.ref a,rawInt es.size,rawInt ep].toArray}) a js es ep t:=S.keep fun o e=>Yv _ e
  have lt:∀b∈[s.heap.objs.size,a],b=a\/s.heap.get? b=none:=fun b hb=>by
   rcases Y2.mp hb with rfl|hb
   ·exact .inr (new _ (Yy _))
   ·exact .inl (Yx.mp hb)
  cases hb:XN w with
  |true=>
   have hl:((pickOrder (w.params.setOrder a ep) es).toList.map (·.2)).length=es.size:=by
    rw[Ym,(DM _ _).length_eq];simp
   refine fin _ _ _ _ _ s.drawn (Do (t:=t) (js:=js) (ep:=ep) hh s.heap.objs.size a hne ((pickOrder (w.params.setOrder a ep) es).toList.map (·.2)) hl (fun _=>0) fun A E s i Q hi S' q=>OX S' hb ?_) ⟨⟨_,Y5 _ rfl,rfl,rfl⟩,S1⟩ lt hl ((DM _ _).map _) (new _ (Yy _)) fun b o e=>Yv _ e;rw[Yt]at q;rw[←Wv];cases e:(pickOrder (w.params.setOrder a ep) es).toList[i]? with
   |none=>rw[e]at q;exact q
   |some x=>rw[e]at q;exact q
  |false=>
   have hp:(!t.plain&&decide (es.size>1))=false:=by rw[hb]at hd;simpa using hd
   refine fin _ _ _ _ _ s.drawn (Do (t:=t) (js:=js) (ep:=ep) hh s.heap.objs.size a hne (es.toList.map (·.2)) (by simp) (slotAt t) fun A E s i Q hi S' q=>Zd2 S' hb hp ?_) ⟨⟨_,Y5 _ rfl,rfl,rfl⟩,S1⟩ lt (by simp) (List.Perm.refl _) (new _ (Yy _)) fun b o e=>Yv _ e;rw[Zb9 S' hi];have hz:=Hr S'.fit;rw[Yt]at q;by_cases hlt:i<es.size
   ·have e1:es[i]?=some es[i]:=W3 hlt;have e2:t.place[i]?=some t.place[i]:=W3 (by omega);have e3:es.toList[i]?=some es[i]:=by rw[Wv];exact e1
    rw[e3]at q;rw[e1,e2]
    have e4:slotAt t (i+1)=t.place[i]+1:=by
     unfold slotAt;rw[Yp (by omega)]
     have:i<t.place.size:=by omega
     simp[Array.getD,this]
    have q':Q (some (es[i].2,slotAt t (i+1))) s:=q;rw[e4]at q';exact q'
   ·have e1:es[i]?=none:=Va (by omega);have e3:es.toList[i]?=none:=by rw[Wv];exact e1
    rw[e3]at q;rw[e1];exact q
 |true=>
  rw[Yr rfl];refine Yn (Ms _ _ s (by simp) fun ps d hp=>?_);have hl:ps.length=es.size:=by rw[hp.length_eq];simp
  have hps:∀p∈ps,p<es.size:=fun p hm=>YS.mp (hp.mem_iff.mp hm);refine Yn (Wg ?_ (by show(ps.map fun(i:Nat)=>rawInt i).toArray.size<=sizeLine;rw[Y0,Ym,hl];exact QV S.few));have hob1:=Yv {cls:=.type "tuple",data:=.seq (ps.map fun(i:Nat)=>rawInt i).toArray} hob;refine Yn (wpAny_setEpoch_of hob1 hdd S.fit (Yn (Wg (Ys ⟨_,rfl, "set_iterator",_,⟨_,Y5 _ rfl,rfl⟩,si_slot.lookup,?_⟩))));have zT:(s.heap.push {cls:=.type "tuple",data:=.seq (ps.map fun(i:Nat)=>rawInt i).toArray}).objs.size=s.heap.objs.size+1:=Qe ..
  have eq1:(List.range es.size).map (fun p=>((es[p]?).map (·.2)).getD Value.none)=es.toList.map (·.2):=by
   apply QX;intro k;by_cases hk:k<es.size
   ·simp[hk]
   ·have:es.size<=k:=by omega
    simp[this]
  refine fin _ _ _ _ _ d (Zby (t:=t) (js:=js) (ep:=ep) hh _ a s.heap.objs.size ?_ ?_ ps hl hps _ rfl) ⟨⟨_,Y5 _ rfl,rfl,rfl⟩,S.keep fun o e=>Yv _ (Yv _ e),_,Yv _ (Y5 _ rfl),0,rfl⟩ (fun b hb=>?_) (by rw[Ym];exact hl) ?_ (new _ ?_) fun b o e=>Yv _ (Yv _ e)
  ·show a≠_;rw[zT];exact YM (WY ha)
  ·show s.heap.objs.size≠_;rw[zT];exact YM (Qg _)
  ·rcases Y2.mp hb with rfl|hb
   ·refine .inr (new _ ?_);show s.heap.objs.size<=_;rw[zT];exact QY _
   ·rcases Y2.mp hb with rfl|hb
    ·exact .inl rfl
    ·rw[Yx.mp hb];exact .inr (new _ (Yy _))
  ·rw[←eq1];exact hp.map _
  ·show s.heap.objs.size<=_;rw[zT];exact QY _
def RU{Q:Bool->Shared->Prop}(hT:s.TypeIs (.ref a) "set")(h:Q false s):wpAny (model prog w) A (Builtin.List.listLengthHint (.ref a)) Q E s:=by
 unfold Builtin.List.listLengthHint;refine Yn (wpAny_specialOf hT F.slot_set_len.lookup ?_);generalize eid:("set.__len__" : String)=z
 wp_delta
 have sp:splitId z=some ("set","__len__"):=by subst eid;decide +kernel
 rw[sp];subst eid;refine Yn (wpAny_isInstance (T:="set") (b:=true) hT (by rw[isSubtype_type];kernel_rfl) (wpAny_ite_split (fun z=>absurd z (by decide)) fun _=>?_));exact wpAny_ite_split (fun _=>Yn (wpAny_typeOf hT (Ys h))) fun z=>absurd (by decide +kernel) z
def Rj{R:Result->Shared->Prop}(hh:A.handled=none)(S:SetAt w s.heap a js es ep t)(D:Addr)(c:Nat)(res:Value)(hD:s.heap.get? D=some {cls:=.type "list",data:=.seq #[] c})(hne:D≠a)(fin:∀(h':Heap) (tk:Nat) (d:Drawn) (vs:List Value) (c':Nat),vs.Perm (es.toList.map (·.2))->h'.get? D=some {cls:=.type "list",dict:=none,data:=.seq vs.toArray c',slots:=#[]}->(∀b o,b≠D->s.heap.get? b=some o->h'.get? b=some o)->R (.ok (.ret res)) {s with heap:=h',toks:=tk,drawn:=d}) :
  wpAny (model prog w) A.in1 (Builtin.List.listExtendWith (.ref D) (.ref a) res) (fun f s'=>match f with | .done f=>R (.ok f) s' | .again c'=>c'.quiet=true/\codeAny (model prog w) A c' R s') (fun e s'=>R (.error e) s') s:=by
 obtain⟨ob,hob,hx,hdd⟩:=S.obj;have hT:s.TypeIs (.ref a) "set":=⟨ob,hob,hx.1⟩;unfold Builtin.List.listExtendWith;refine Yn (wpAny_typeOf (T:="set") hT ?_);have n1:Builtin.List.listSameRef (.ref D) (.ref a)=false:=by simp[Builtin.List.listSameRef,hne]
 have n2:(Value.type "set" == Value.type "list")=false:=by decide
 have n3:(Value.type "set" == Value.type "tuple")=false:=by decide
 simp only[n1,n2,n3,Bool.or_false,QI,Ve];refine Yn (Zei (A':=A.in1) hh S fun I fp vs St h1 d1 W st0 flt hl hp hI keep=>?_);have hDI:D≠I:=fun z=>by rw[←z,hD]at hI;cases hI
 have loop:∀(h:Heap) (tk c1:Nat),St 0 h->(∀b o,b≠D->s.heap.get? b=some o->h.get? b=some o)->h.get? D=some {cls:=.type "list",data:=.seq #[] c1}->D∉fp->
   codeAny (model prog w) A (.builtin "list.extend.loop" ⟨[.ref D,.ref I,res],[]⟩) R {s with heap:=h,toks:=tk,drawn:=d1}:=fun h tk c1 st hk hD1 hDf=>by
  refine codeAny_extend_loopS W.toS (QV S.few) D hDf res es.size 0 _ #[] c1 rfl (Ww _) st hD1 (ItemsOf.nil _) fun s' acc c' hm hD' hacc=>?_
  have ev:acc.toList=vs:=by
   apply QX;intro k;by_cases hk2:k<acc.size
   ·have e1:acc[k]?=some acc[k]:=W3 hk2;rw[Wv,e1];exact(hacc.2 k _ e1).symm
   ·rw[Wv,Va (by omega),WU (by have:=hacc.1;omega)]
  have e2:acc=vs.toArray:=by rw[←ev]
  rw[e2]at hD';rw[Moved.eq_with hm];refine fin s'.heap s'.toks d1 vs c' hp hD' fun b o hb e=>hm.heap b o (fun hmem=>?_) (hk b o hb e);rcases Y2.mp hmem with z|z
  ·exact hb z
  ·rw[Yx.mp z,hI]at e;cases e
 have hDf:D∉fp:=fun hm=>by
  rcases flt D hm with z|z
  ·exact hne z
  ·rw[hD]at z;cases z
 have hT1:Shared.TypeIs {s with heap:=h1,drawn:=d1} (.ref a) "set":=⟨ob,keep _ _ hob,hx.1⟩
 refine Yn (Q8 (RU hT1 ?_));have hD1:=keep _ _ hD;refine wpAny_ite_split (fun _=>?_) fun _=>Ys ⟨Vc F.plain_extend_loop _,loop _ _ c st0 (fun b o _ e=>keep b o e) hD1 hDf⟩;refine Yn (wpAny_rule (Yn (?_:wpAny _ _ (updateSeq D (·.push .none) >>= fun _=>updateSeq D (·.pop)) _ _ _)));refine Yn (wpAny_updateSeq hD1 rfl ?_);have hD2:=We (Obj.mapSeq (·.push Value.none)) hD1 rfl;refine wpAny_updateSeq (hz:=by seq_fits) hD2 rfl ?_;have hD3:=We (Obj.mapSeq (·.pop)) hD2 rfl
 have oth:∀b o,b≠D->h1.get? b=some o->((h1.update D (Obj.mapSeq (·.push Value.none))).update D (Obj.mapSeq (·.pop))).get? b=some o:=fun b o hb e=>
  (Wi _ _ (Ne.symm hb)).trans ((Wi _ _ (Ne.symm hb)).trans e)
 exact Ys ⟨Vc F.plain_extend_loop _,loop _ _ _ (W.frame 0 _ _ st0 fun b hb o e=>oth b o (fun z=>hDf (z▸hb)) e) (fun b o hb e=>oth b o hb (keep b o e)) hD3 hDf⟩
def L7{R:List Value->Shared->Prop}(hh:A.handled=none)(S:SetAt w s.heap a js es ep t)(fin:∀(h':Heap) (tk:Nat) (d:Drawn) (vs:List Value),vs.Perm (es.toList.map (·.2))->(∀b o,s.heap.get? b=some o->h'.get? b=some o)->s.heap.objs.size<h'.objs.size->R vs {s with heap:=h',toks:=tk,drawn:=d}) :
  wpAny (model prog w) A (collect (.ref a)) R E s:=by
 obtain⟨ob,hob,hx,hdd⟩:=S.obj;have hne:s.heap.objs.size≠a:=VB (Y1 hob);unfold collect;refine Yn (wpAny_runValue (Qo entry_proto_collect' ?_));have u1:=Qc (A:=A) PySem.F.plain_proto_collect ⟨[.ref a],[]⟩;rw[u1];refine(show wpAny _ A.in1 (newList [] >>= fun l=>again (.builtin "list.__iadd__" ⟨[l,.ref a],[]⟩)) _ _ s from Yn (Wg (Ys ⟨Vc PySem.F.plain_list_iadd _,Qo entry_list_iadd' ?_⟩)))
 have u2:=Qc (A:=A) PySem.F.plain_list_iadd ⟨[.ref s.heap.objs.size,.ref a],[]⟩;rw[u2];have g1:(s.heap.push {cls:=.type "list",data:=.seq ([]:List Value).toArray}).get? s.heap.objs.size=some {cls:=.type "list",data:=.seq #[]}:=Y5 _ rfl;show wpAny _ A.in1 (Builtin.List.listExtendWith (.ref s.heap.objs.size) (.ref a) (.ref s.heap.objs.size)) _ _ _
 have key:=Rj (prog:=prog) (A:=A) (s:={s with heap:=s.heap.push {cls:=.type "list",data:=.seq ([]:List Value).toArray}})
  (R:=fun q s'=>∃h' tk d vs c',q=.ok (.ret (.ref s.heap.objs.size))/\s'={s with heap:=h',toks:=tk,drawn:=d}/\vs.Perm (es.toList.map (·.2))/\(∀b o,s.heap.get? b=some o->h'.get? b=some o)/\
   h'.get? s.heap.objs.size=some {cls:=.type "list",dict:=none,data:=.seq vs.toArray c',slots:=#[]}) hh (S.keep fun o e=>Yv _ e) s.heap.objs.size 0 (.ref s.heap.objs.size) g1 hne
  fun h' tk d vs c' hp hD hk=>⟨h',tk,d,vs,c',rfl,rfl,hp,fun b o e=>hk b o (YM (Y1 e)) (Yv _ e),hD⟩
 refine Wn key (fun f s' x=>?_) fun e s' x=>?_
 ·cases f with
  |done f=>
   obtain⟨h',tk,d,vs,c',e,rfl,hp,hk,hD⟩:=x;cases e
   refine(show wpAny _ A (load s.heap.objs.size >>= _) _ _ _ from Yn (wpAny_load hD (Ys ?_)))
   exact fin h' tk d vs hp hk (Y1 hD)
  |again c1=>
   refine⟨x.1,Qy x.2 fun q s2 y=>?_⟩;obtain⟨h',tk,d,vs,c',rfl,rfl,hp,hk,hD⟩:=y;refine(show wpAny _ A (load s.heap.objs.size >>= _) _ _ _ from Yn (wpAny_load hD (Ys ?_)))
   exact fin h' tk d vs hp hk (Y1 hD)
 ·obtain⟨_,_,_,_,_,e',_⟩:=x;cases e'
def D5:∀{l:List (Int×Value)},(∀e∈l,Ent e)->IntsAre (l.map (·.2)) (l.map keyOf)
 |[],_=>.nil
 |e::r,h=>by
  obtain⟨k,t,rfl⟩:=h e YN;exact .cons k t (D5 fun x hx=>h x (YF _ hx))
def Lq{vs us:List Value}(p:vs.Perm us):∀{ns:List Int},IntsAre us ns->∃ms,IntsAre vs ms/\ms.Perm ns:=by
 induction p with
 |nil=>intro ns h;cases h;exact⟨[],.nil,List.Perm.refl _⟩
 |cons x _ ih=>
  intro ns h;cases h with
  |cons n t r=>
   obtain⟨ms,h1,h2⟩:=ih r;exact⟨n::ms,.cons n t h1,List.Perm.cons _ h2⟩
 |swap x y l=>
  intro ns h;cases h with
  |cons n t r=>
   cases r with
   |cons n' t' r'=>exact⟨n'::n::_,.cons n' t' (.cons n t r'),List.Perm.swap _ _ _⟩
 |trans _ _ ih1 ih2=>
  intro ns h;obtain⟨ms,h1,h2⟩:=ih2 h;obtain⟨ks,h3,h4⟩:=ih1 h1;exact⟨ks,h3,h4.trans h2⟩
def Zez{Q:Value->Shared->Prop}(hh:A.handled=none)(B:SetB w s.heap a js)(h64:js.length<64)
  (fin:∀(l:Addr) (h':Heap) (tk:Nat) (d:Drawn) (out:List Value) (ns:List Int) (e:Nat),IntsAre out ns->ns.Perm js->ns.Pairwise (·<=·)->s.heap.get? l=none->s.heap.objs.size<=l->h'.get? l=some {cls:=.type "list",data:=.seq out.toArray e}->
   (∀b o,s.heap.get? b=some o->h'.get? b=some o)->Q (.ref l) {s with heap:=h',toks:=tk,drawn:=d}) :
  wpAny (model prog w) A (call (.builtin "sorted") [.ref a]) Q E s:=by
 obtain⟨es,ep,t,S⟩:=B;refine Calls.call_function_entry kind_sorted plain_sorted entry_sorted (args_sorted1 _) ?_;unfold Builtin.«sorted»;refine Yn (m:=checkCount "sorted" 1 1 _) (Ys (Yn (L7 (A:=A.in1) hh S fun h1 tk d vs hp keep big=>?_)));obtain⟨ms,hI,hms⟩:=Lq hp (D5 S.ent);have hms2:ms.Perm js:=hms.trans S.per;have hl:vs.length<64:=by rw[IntsAre.length hI,hms2.length_eq];exact h64
 refine Yn (wpAny_newList ?_ (by have:(64:Nat)<=sizeLine:=(by decide);omega));have g1:(h1.push (seqObj "list" vs.toArray 0)).get? h1.objs.size=some (seqObj "list" vs.toArray 0):=Y5 _ rfl;refine Yn (Q8 (WR slot_list_sort ⟨_,g1,rfl⟩ entry_list_sort (list_sort_tree g1 hI hl fun out ns a1 a2 a3=>⟨_,rfl,?_⟩) (args_list_sort _)));obtain⟨e,he⟩:=sortedHeap_at (out:=out) g1;have hsz:s.heap.objs.size<=h1.objs.size:=QE big;refine Ys ⟨_,rfl,fin h1.objs.size _ tk d out.toList ns e a1 (a2.trans hms2) a3 ?_ hsz (by simpa [seqObj]using he) fun b o q=>?_⟩
 ·cases q:s.heap.get? h1.objs.size with
  |none=>rfl
  |some o=>exact absurd (Y1 (keep _ _ q)) (W6 _)
 ·have hlt:=Y1 (keep b o q);rw[sortedHeap_old (YM hlt) (by rw[size_push'];exact WY hlt)];exact Yv _ (keep b o q)
end
end SetR
namespace Own
open PySem PySem.Spec PyProof.Rows L2
def SetH(w:World)(l:Addr)(js:List Int):HO:=.ext fun h=>SetR.SetB w h l js
section
variable {X:Cx}
def IR{P:Program}{w:World}{H:Hp}{h:Heap}{l:Addr}{js:List Int}(B:SetR.SetB w h l js):ObjOk P w H h l (SetH w l js):=by
 refine⟨B,?_,fun h1 h2 B1 k=>B1.at k⟩;obtain⟨es,ep,t,S⟩:=B;obtain⟨o,ho,_⟩:=S.obj;exact⟨o,ho⟩
def L3(hc:X.calm=true):UX X (.type "set") (fun xs H Q=>∃(p:Addr) (ns:List Int),xs=[.ref p]/\SqL X.K H p (ns.map V.int)/\ns.length+1<4096/\∀l,H l=none->Q (.ref l) (upd H l (SetH X.w l (ns.foldl SetR.addJ [])))):=by
 intro pins s σ H xs us Q I rv h;obtain⟨p,ns,rfl,hS,hz,q⟩:=h;obtain⟨u,rfl,ru⟩:=rv.one;obtain rfl:u=Value.ref p:=ru;obtain⟨its,r,pl,_⟩:=I.list hS;refine SetR.LD (I.ok.hd hc) pl.isList (by simpa using N4 r) hz fun h' tk B keep=>?_;have hf:H s.heap.objs.size=none:=I.hok.fresh (Yy _);exact⟨.ref s.heap.objs.size,upd H s.heap.objs.size (SetH X.w s.heap.objs.size _),I.laid (t':=tk) (fun b o e=>keep b o (Y1 e) e) (Yy _) (IR B),rfl,q _ hf⟩
def GC(hc:X.calm=true):UX X (.builtin "sorted") (fun xs H Q=>∃(p:Addr) (js:List Int),xs=[.ref p]/\js.length<64/\(SqL X.K H p (js.map V.int)\/H p=some (SetH X.w p js))/\
  ∀(l:Addr) (ns:List Int),H l=none->ns.Perm js->ns.Pairwise (·<=·)->Q (.ref l) (upd H l (.lst (ns.map V.int)))):=by
 intro pins s σ H xs us Q I rv h;obtain⟨p,js,rfl,hz,hS,q⟩:=h;obtain⟨u,rfl,ru⟩:=rv.one;obtain rfl:u=Value.ref p:=ru
 have big:∀{ns:List Int},ns.Perm js->(ns.map V.int).length<=sizeLine:=fun hp=>by
  rw[Ym,hp.length_eq]
  have:(64:Nat)<=sizeLine:=by decide
  omega
 rcases hS with hS|hS
 ·obtain⟨its,r,pl,_⟩:=I.list hS;have hI:IntsAre its js:=by simpa using N4 r
  refine sorted_ints pl.isList hI (by rw[IntsAre.length hI];exact hz) fun out ns a1 a2 a3=>?_;obtain⟨e,he⟩:=sortedAll_at s.heap its out;have hf:H (s.heap.objs.size+1)=none:=I.hok.fresh (QY _);refine⟨.ref (s.heap.objs.size+1),upd H (s.heap.objs.size+1) (.lst (ns.map V.int)),I.laid (t':=s.toks) (fun b o e=>sortedAll_old e) (QY _) ⟨big a2,out.toList,e,NC a1,?_⟩,rfl,q _ ns hf a2 a3⟩;simpa [seqObj]using he
 ·have B:SetR.SetB X.w s.heap p js:=(show ObjOk X.prog X.w H s.heap p (SetH X.w p js)from I.hok p _ hS).1
  refine SetR.Zez (I.ok.hd hc) B hz fun l h' tk d out ns e a1 a2 a3 nl hl he keep=>?_;have hf:H l=none:=I.hok.fresh hl;refine⟨.ref l,upd H l (.lst (ns.map V.int)),?_,rfl,q l ns hf a2 a3⟩;have ok:HOk X.prog X.w (upd H l (.lst (ns.map V.int))) h':=I.hok.laid keep hl ⟨big a2,out,e,NC a1,he⟩;exact I.call (ch:=[]) (h':=h') (g':=s.gens) (d':=d) (t':=tk) (Un.laid keep hl hf) ok I.bare (fun b z=>absurd z (by simp))
end
section
variable {X:Cx}{K:Za}
def AI(hK:X.K=K:=by rfl):IxR X (fun x y H Q=>rIxL K x y H Q\/rIxT K x y H Q):=by subst hK;exact Rw
def Zci(hK:X.K=K:=by rfl):UX X (.builtin "len") (fun xs H Q=>∃x n,xs=[x]/\LenV K x H n/\Q (.int n) H):=by subst hK;exact RM
def Zb0(hK:X.K=K:=by rfl):OpR X (compareOp .In) (rIn K false):=by subst hK;exact RV
def Rc(hK:X.K=K:=by rfl):OpR X (compareOp .NotIn) (rIn K true):=by subst hK;exact Za4
def Td{pos:Pos}{es:List Expr}{k:Nat}{t:TGs}{n:Nat}(hc:X.calm=true)(h:PGs X es t)(hK:X.K=K:=by rfl)(hn:(assignEach es X.env).length=n:=by rfl)(hst:(assignEach es X.env).findIdx? (·.1)=none:=by rfl):PG X (.Tuple es k pos) (gTup K n t):=by subst hK;exact RX hc h hn hst
end
section
variable {α:Type}{R:Hp->V->α->Prop}{φ:List (Option Nat)}{g:TG}{tc:TT}{te:TE}{σ:L2.St}{H1:Hp}{F:Hp->Prop}{D:Addr}
def Zct{K:Za}{a:Addr}{xs:List V}{ds:List α}(f:α->Option V)(hS:SqL K H1 a xs)(hd:xs.length=ds.length)(hD:H1 D=none)(hz:ds.length<=sizeLine)(turn:∀(i:Nat) (x:V) (d:α) (H2:Hp),xs[i]?=some x->ds[i]?=some d->Same H1 H2->∀k:Option V->Hp->Prop,k (f d) H2->g x (atStart φ σ) H2 fun σ2 H4=>Sub (atStart φ σ) σ2/\tc σ2 H4 fun b H5=>if b=true then te σ2 H5 fun y H6=>k (some y) H6 else k none H5)(done:F (upd H1 D (.lst (ds.filterMap f)))) :
  ∃W:Nat->Nat->List V->Hp->Prop,(∃m,W 0 m [] (upd H1 D (.lst [])))/\
   ∀i m ys H2,W i m ys H2->((Itl K a).stop i H2/\F H2)\/((Itl K a).go i H2/\∀x H3,(Itl K a).yld i H2 x H3->g x (atStart φ σ) H3 fun σ2 H4=>Sub (atStart φ σ) σ2/\tc σ2 H4 fun b H5=>
    if b=true then te σ2 H5 fun y H6=>H6 D=some (.lst ys)/\ys.length<sizeLine/\∃m',m'<m/\W (i+1) m' (ys++[y]) (upd H6 D (.lst (ys++[y])))else ∃m',m'<m/\W (i+1) m' ys H5):=by
 refine⟨fun i m ys H2=>m=ds.length-i/\i<=ds.length/\ys=(ds.take i).filterMap f/\H2=upd H1 D (.lst ys),⟨ds.length,by simp,Ww _,by simp,rfl⟩,?_⟩;rintro i m ys H2 ⟨rfl,hi,rfl,rfl⟩;have S2:Same H1 (upd H1 D (.lst ((ds.take i).filterMap f))):=UP hD;by_cases hlt:i<ds.length
 ·refine .inr ⟨⟨xs,xs[i]'(by omega),S2.seq hS,by simp[hd,hlt]⟩,fun x H3 y=>?_⟩;obtain⟨e,y⟩:=y;subst e;have hx:=y xs (S2.seq hS);have ed:ds[i]?=some ds[i]:=Yl hlt
  refine turn i x ds[i] _ hx ed S2 (fun o H'=>match o with
   |some y=>H' D=some (.lst ((ds.take i).filterMap f))/\((ds.take i).filterMap f).length<sizeLine/\∃m',m'<ds.length-i/\(m'=ds.length-(i+1)/\i+1<=ds.length/\(ds.take i).filterMap f++[y]=(ds.take (i+1)).filterMap f/\upd H' D (.lst ((ds.take i).filterMap f++[y]))=upd H1 D (.lst ((ds.take i).filterMap f++[y])))
   |none=>∃m',m'<ds.length-i/\(m'=ds.length-(i+1)/\i+1<=ds.length/\(ds.take i).filterMap f=(ds.take (i+1)).filterMap f/\H'=upd H1 D (.lst ((ds.take i).filterMap f)))) ?_
  have et:ds.take (i+1)=ds.take i++[ds[i]]:=YY hlt;cases ef:f ds[i]with
  |some y=>
   refine⟨U6,?_,ds.length-(i+1),by omega,rfl,hlt,?_,Ma⟩
   ·have h1:=List.length_filterMap_le f (ds.take i);rw[Wj]at h1;omega
   ·rw[et,Q1];simp[ef]
  |none=>
   refine⟨ds.length-(i+1),by omega,rfl,hlt,?_,rfl⟩;rw[et,Q1];simp[ef]
 ·have e:i=ds.length:=by omega
  subst e;refine .inl ⟨⟨xs,S2.seq hS,by omega⟩,?_⟩;rw[WB];exact done
end
def eqL(xs ys:List V):Bool:=decide (xs.length=ys.length)&&(List.range xs.length).all fun j=>eqV (xs.getD j .non) (ys.getD j .non)
def rEqL(K:Za)(neg:Bool):R2:=fun x y H Q=>∃(p q:Addr) (xs ys:List V),x=.ref p/\y=.ref q/\SqL K H p xs/\SqL K H q ys/\xs.all X2=true/\ys.all X2=true/\Q (.bl (if neg then !eqL xs ys else eqL xs ys)) H
section
variable {X:Cx}
def Bs{A:Around}{s:Shared}{xs ys:List V}{us ws:List Value}(r1:Vals xs us)(r2:Vals ys ws)(f1:xs.all X2=true)(f2:ys.all X2=true)(j:Nat)(h1:j<us.toArray.size)(h2:j<ws.toArray.size) :
  SeqAt.EqAt A s us.toArray[j] ws.toArray[j] (eqV (xs.getD j .non) (ys.getD j .non)):=by
 have l1:=r1.length;have l2:=r2.length;have g1:j<us.length:=by simpa using h1
 have g2:j<ws.length:=by simpa using h2
 have k1:xs[j]?=some (xs[j]'(by omega)):=Yl _;have k2:ys[j]?=some (ys[j]'(by omega)):=Yl _;obtain⟨u,eu,ru⟩:=r1.get k1;obtain⟨w,ew,rw'⟩:=r2.get k2
 have e1:us.toArray[j]=u:=by
  have:us[j]?=some us[j]:=Yl g1
  rw[this]at eu;simpa using Yz eu
 have e2:ws.toArray[j]=w:=by
  have:ws[j]?=some ws[j]:=Yl g2
  rw[this]at ew;simpa using Yz ew
 have d1:xs.getD j .non=xs[j]'(by omega):=by rw[Yo,k1];rfl
 have d2:ys.getD j .non=ys[j]'(by omega):=by rw[Yo,k2];rfl
 rw[e1,e2,d1,d2];exact Hd ru rw' (Qh.mp f1 _ (YC _)) (Qh.mp f2 _ (YC _))
def IU(hu:X.A.units<cLine):OpR X (compareOp .Eq) (rEqL X.K false):=by
 intro pins s σ H x y v u Q I rx ry h;obtain⟨p,q,xs,ys,rfl,rfl,hp,hq,f1,f2,k⟩:=h;obtain rfl:v=Value.ref p:=rx;obtain rfl:u=Value.ref q:=ry;obtain⟨us,r1,p1,_⟩:=I.list hp;obtain⟨ws,r2,p2,_⟩:=I.list hq;have l1:=r1.length;have l2:=r2.length;have k':Q (.bl (eqL xs ys)) H:=k;by_cases e:xs.length=ys.length
 ·refine SeqAt.eq_listAt p1.isList p2.isList (by simp;omega) hu (fun j h1 h2=>Bs r1 r2 f1 f2 j h1 h2) ⟨.bl (eqL xs ys),H,I,?_,k'⟩;show _=Value.bool (eqL xs ys);unfold eqL;rw[Yq e,Qm,Y0,←l1]
 ·refine SeqAt.eq_list_lengthsAt p1.isList p2.isList (by simp;omega) hu ⟨.bl (eqL xs ys),H,I,?_,k'⟩;show _=Value.bool (eqL xs ys);unfold eqL;rw[YA e];rfl
def Ze2(hu:X.A.units<cLine):OpR X (compareOp .NotEq) (rEqL X.K true):=by
 intro pins s σ H x y v u Q I rx ry h;obtain⟨p,q,xs,ys,rfl,rfl,hp,hq,f1,f2,k⟩:=h;obtain rfl:v=Value.ref p:=rx;obtain rfl:u=Value.ref q:=ry;obtain⟨us,r1,p1,_⟩:=I.list hp;obtain⟨ws,r2,p2,_⟩:=I.list hq;have l1:=r1.length;have l2:=r2.length;have k':Q (.bl (!eqL xs ys)) H:=k;by_cases e:xs.length=ys.length
 ·refine SeqAt.RcNeAt.lists p1.isList p2.isList (by simp;omega) hu (fun j h1 h2=>Bs r1 r2 f1 f2 j h1 h2) _ _ _ _ ⟨.bl (!eqL xs ys),H,I,?_,k'⟩;show _=Value.bool (!eqL xs ys);unfold eqL;rw[Yq e,Qm,Y0,←l1]
 ·refine SeqAt.RcNeAt.lists_lengths p1.isList p2.isList (by simp;omega) hu _ _ _ _ ⟨.bl (!eqL xs ys),H,I,?_,k'⟩;show _=Value.bool (!eqL xs ys);unfold eqL;rw[YA e];rfl
def By{xs:List Int}{us:List Value}(r:Vals (xs.map V.int) us)(z:Int):∀(j:Nat) (h1:j<us.length) (h2:j<xs.length),Value.isInt z us[j]=(xs[j]==z):=by
 intro j h1 h2;obtain⟨u,eu,t,rfl⟩:=r.get (x:=V.int xs[j]) (i:=j) (by rw[Yt,Yl h2];rfl);rw[Yl h1]at eu;rw[Yz eu];simp[Value.isInt]
def Zbz{xs:List Int}{us:List Value}(r:Vals (xs.map V.int) us)(z:Int)(t:Tok):∀y,y∈us.toArray->MeetsSeq.EqGives y (.int z t) (Value.isInt z y):=by
 intro y hy;obtain⟨j,hj,rfl⟩:=Wz.mp (by simpa using hy:y∈us);have l1:=r.length;rw[Ym]at l1;rw[By r z j hj (by omega)];obtain⟨u,eu,t',rfl⟩:=r.get (x:=V.int (xs[j]'(by omega))) (i:=j) (by rw[Yt,Yl (show j<xs.length by omega)];rfl);rw[Yl hj]at eu;rw[Yz eu];exact MeetsSeq.EqGives.int _ _ _ _
def Fn(K:Za):V->List V->Hp->VK->Prop:=fun x vs H Q=>∃(l:Addr) (xs:List Int) (z:Int),x=.ref l/\vs=[.int z]/\SqL K H l (xs.map V.int)/\z∈xs/\Q (.int (xs.idxOf z:Nat)) H
def Zaw:MtM X "list.index" (Fn X.K):=by
 intro pins s σ H x vs v us Q I rx rv h;obtain⟨l,xs,z,rfl,rfl,hS,hz,q⟩:=h;cases rx
 obtain⟨u,rfl,t,rfl⟩:=rv.one;obtain⟨its,r,p1,hsz⟩:=I.list hS;obtain⟨o,n,ho,hc,hdn,hd⟩:=p1;obtain⟨c1,d1,dt1,sl1⟩:=o;simp only at hc hdn hd;subst hc hdn hd;have l1:=r.length;rw[Ym]at l1;have hj:xs.idxOf z<xs.length:=QJ.mpr hz;have hb:xs.length<=2 ^ 24:=by rw[Ym]at hsz;exact hsz
 refine Vo W7 ⟨_,ho,rfl⟩ PySem.F.entry_list_index (PySem.F.args_list_index_2 _ _)
  (SeqAt.list_indexAt l its.toArray n none sl1 (.int z t) (Value.isInt z) (xs.idxOf z) (by simpa [←l1]using hj) (by omega) ?_ ?_) ⟨ho,fun y hy=>(Zbz r z t y hy).at _ _,⟨.int (xs.idxOf z:Nat),H,I.tok _,⟨_,rfl⟩,q⟩⟩
 ·have e:=By r z (xs.idxOf z) (by omega) hj;show Value.isInt z its[xs.idxOf z]=true;rw[e];simpa using V5 hj
 ·intro m hm hlt;have hm':m<its.length:=by simpa using hm
  have e:=By r z m hm' (by omega);show Value.isInt z its[m]=false;rw[e]
  have:=List.not_of_lt_findIdx (p:=(· == z)) (xs:=xs) (i:=m) hlt
  simpa using this
end
section
variable {X:Cx}{K:Za}
def TJ(hK:X.K=K:=by rfl):MtM X "list.index" (Fn K):=by subst hK;exact Zaw
def Np{o e:Expr}{es:List Expr}{to:TE}{t:TA}{name:Str}{apos cpos:Pos}{T id:String}{r:V->List V->Hp->VK->Prop}(pa:PlainAttrs T)(slot:Slot T name id)(hty:typeOf (.builtin id)=pure (.type "method_descriptor"))(hm:MtM X id r)(ho:PE X o to)(ha:PA X (e::es) t)(hK:X.K=K:=by rfl)(hbase:attributeBase o name X.env (eval o X.env)=eval o X.env:=by rfl)
  (hfew:((backTo cpos (starEach (e::es) X.env)).all (fun x=>!x.1)&&(backToKw cpos (keywordEach [] X.env)).all (fun x=>x.1.isSome)
   && decide ((e::es).length+([]:List Keyword).length+(if ([]:List Keyword).isEmpty then 0 else 1)<30))=true:=by rfl)
  (hline:(apos.endLine==cpos.line)=true:=by rfl) (hs:starEach (e::es) X.env=(false,eval e X.env)::starEach es X.env:=by rfl) (hplain:(backTo cpos (starEach es X.env)).any (·.1)=false:=by rfl) :
  PE X (.Call (.Attribute o name apos) (e::es) [] cpos) (tBM K T r to t):=by
 subst hK;exact Kz pa slot hty hm ho ha hbase hfew hline hs hplain
end
def BG(xs ys:List Int):eqL (xs.map V.int) (ys.map V.int)=decide (xs=ys):=by
 unfold eqL;rw[Ym,Ym];by_cases e:xs=ys
 ·subst e;rw[Yq rfl,Yq rfl,Qm,Qh];intro j hj;have hj':j<xs.length:=by simpa using hj
  rw[Yo,Yt,Yl hj'];show(xs[j]==xs[j])=true;simp
 ·rw[YA e];by_cases hl:xs.length=ys.length
  ·rw[Yq hl,Qm,Qx];intro hall;apply e;apply Q6 hl;intro j h1 h2
   have:=Qh.mp hall j (by simpa using h1)
   rw[Yo,Yt,Yl h1,Yo,Yt,Yl h2]at this;have h3:(xs[j]==ys[j])=true:=this;simpa using h3
  ·rw[YA hl];rfl
def KE(xs:List Int):(xs.map V.int).all X2=true:=by
 rw[List.all_map];exact Qh.mpr fun _ _=>rfl
end Own
namespace M
open PySem PySem.Spec PyProof.Rows L2 Own
def LV{α:Type}(R:Hp->V->α->Prop)(H:Hp)(vs:List V)(xs:List α):Prop:=
 vs.length=xs.length/\∀(i:Nat) (x:α),xs[i]?=some x->∃v,vs[i]?=some v/\R H v x
def LAt{α:Type}(R:Hp->V->α->Prop)(H:Hp)(l:Addr)(xs:List α):Prop:=∃vs,H l=some (.lst vs)/\LV R H vs xs
def XG(H:Hp)(v:V)(q:Int×Int):Prop:=∃a,v=.ref a/\H a=some (.tup [.int q.1,.int q.2])
section
variable {α:Type}{R:Hp->V->α->Prop}{H H':Hp}{vs:List V}{xs:List α}{l:Addr}
def LV.get {i:Nat}{v:V} (h:LV R H vs xs) (e:vs[i]?=some v):∃x,xs[i]?=some x/\R H v x:=by
 have hi:i<xs.length:=by rw[←h.1];exact(YD.mp e).1
 obtain⟨v',e',r⟩:=h.2 i xs[i] (by simp[hi]);rw[e]at e';cases e';exact⟨_,by simp[hi],r⟩
end
def Menu(m:List Int):Prop:=∃a b c d e:Int,m=[a,b,c,d,e]/\(1<=a/\a<=10)/\(1<=b/\b<=9/\(b=1\/b=3\/b=7\/b=9))/\(0<=c/\c<=9)/\(1<=d/\d<=1000)/\(1<=e/\e+d<=1001)
def Field(ps:List (Int×Int)):Prop:=∀q∈ps,1<=q.1/\q.1<=10/\1<=q.2/\q.2<=1000
def II(js:List Int)(k z:Int):z∈SetR.addJ js k↔z∈js\/z=k:=by
 unfold SetR.addJ;split
 ·rename_i h;constructor
  ·exact fun x=>.inl x
  ·rintro(x|rfl)
   ·exact x
   ·exact h
 ·simp
def G6:∀(ns js:List Int) (z:Int),z∈ns.foldl SetR.addJ js↔z∈js\/z∈ns
 |[],js,z=>by simp
 |n::r,js,z=>by
  rw[List.foldl_cons,G6 r,II,Y2];constructor
  ·rintro((h|h)|h)
   ·exact .inl h
   ·exact .inr (.inl h)
   ·exact .inr (.inr h)
  ·rintro(h|h|h)
   ·exact .inl (.inl h)
   ·exact .inl (.inr h)
   ·exact .inr h
def Zcu{js:List Int}(k:Int)(h:js.Nodup):(SetR.addJ js k).Nodup:=by
 unfold SetR.addJ;split
 ·exact h
 ·rename_i hk;exact Wt.mpr ⟨h,by simp,fun x hx y hy=>by rw[Yx.mp hy];rintro rfl;exact hk hx⟩
def AS:∀(ns:List Int) {js:List Int},js.Nodup->(ns.foldl SetR.addJ js).Nodup
 |[],_,h=>h
 |n::r,js,h=>AS r (Zcu n h)
def DA:∀(ns js:List Int),(ns.foldl SetR.addJ js).length<=js.length+ns.length
 |[],js=>by simp
 |n::r,js=>by
  have h1:=DA r (SetR.addJ js n)
  have h2:(SetR.addJ js n).length<=js.length+1:=by
   unfold SetR.addJ;split
   ·omega
   ·simp
  rw[List.foldl_cons,YE];omega
def GI{l:List Int}(h:l.Pairwise (·<=·))(n:l.Nodup):l.Pairwise (· < ·):=by
 have:=h.and n
 exact this.imp fun {a b} h=>by have:=h.1;have:=h.2;omega
def GA{l₁ l₂:List Int}(h1:l₁.Pairwise (· < ·))(h2:l₂.Pairwise (· < ·))(h:∀z,z∈l₁↔z∈l₂):l₁=l₂:=by
 have n1:l₁.Nodup:=h1.imp fun {a b} h=>by omega
 have n2:l₂.Nodup:=h2.imp fun {a b} h=>by omega
 have p:l₁.Perm l₂:=(List.perm_ext_iff_of_nodup n1 n2).mpr h;exact p.eq_of_pairwise (le:=(· < ·)) (fun a b _ _ x y=>by omega) h1 h2
def tenL:List Int:=[1,2,3,4,5,6,7,8,9,10]
def Zak{z:Int}:z∈tenL↔1<=z/\z<=10:=by
 unfold tenL;constructor
 ·intro h;simp only[Y2,Vg,or_false]at h;omega
 ·rintro⟨h1,h2⟩;simp only[Y2,Vg,or_false];omega
def Uh(ps:List (Int×Int)):List Int:=tenL.filter fun h=>decide (h∈ps.map (·.1))
def KB(ps:List (Int×Int)):(Uh ps).Pairwise (· < ·):=List.Pairwise.filter _ (by unfold tenL;decide)
def N3{ps:List (Int×Int)}(hF:Field ps){z:Int}:z∈Uh ps↔z∈ps.map (·.1):=by
 unfold Uh;rw[Y3,WZ,Zak];constructor
 ·exact fun h=>h.2
 ·intro h;obtain⟨q,hq,rfl⟩:=YL.mp h
  have:=hF q hq
  exact⟨⟨this.1,this.2.1⟩,h⟩
def Py(ps:List (Int×Int)):(Uh ps).length<=10:=by
 have:=YZ (fun h=>decide (h∈ps.map (·.1))) tenL
 exact this
def Zd6{ps:List (Int×Int)}{ns:List Int}(hF:Field ps)(p:ns.Perm ((ps.map (·.1)).foldl SetR.addJ []))(h:ns.Pairwise (·<=·)):ns=Uh ps:=by
 have nd:ns.Nodup:=p.symm.nodup (AS _ Qf);refine GA (GI h nd) (KB ps) fun z=>?_;rw[p.mem_iff,G6,N3 hF];simp
def Cb(z:Int)(xs:List Int):inV (.int z) (xs.map V.int)=decide (z∈xs):=by
 unfold inV;rw[List.any_map]
 induction xs with
 |nil=>simp
 |cons x r ih=>
  rw[Ql,ih];show((x==z) || _)=_;by_cases e:x=z
  ·subst e;simp
  ·have:(x==z)=false:=by simpa using e
   rw[this];simp only[Bool.false_or];by_cases h:z∈r
   ·rw[Yq h,Yq (YF _ h)]
   ·rw[YA h,YA];intro hz;rcases Y2.mp hz with hz|hz
    ·exact e hz.symm
    ·exact h hz
def Og:tenL=(List.range 10).map fun(i:Nat)=>(1:Int)+(i:Int):=by decide
def Zc0{ps:List (Int×Int)}{os ns:List Int}(hp:os.Perm (Uh ps))(h1:ns.Perm os)(h2:ns.Pairwise (·<=·)):ns=Uh ps:=by
 have nd:(Uh ps).Nodup:=(KB ps).imp fun {a b} h=>by omega
 have p:=h1.trans hp;have nd2:ns.Nodup:=p.symm.nodup nd;exact GA (GI h2 nd2) (KB ps) fun z=>p.mem_iff
section
variable (ps:List (Int×Int))
def tpM(y:Int):Nat->Int
 | 0=>0
 |j+1=>tpM y j+(if (ps.getD j (0,0)).1=y then(ps.getD j (0,0)).2 else 0)
def pcM(x y:Int):Nat->Int
 | 0=>0
 |k+1=>pcM x y k+(if x≠y/\(ps.getD k (0,0)).1=x then tpM ps y k*(ps.getD k (0,0)).2 else 0)
def ordM(n:Nat):List Int->Int
 |[]=>0
 |a::r=>(r.map fun b=>pcM ps a b n).sum+ordM n r
def aftM(n:Nat)(h:Int):List Int->Int
 |[]=>0
 |a::r=>if a=h then(r.map fun b=>tpM ps b n).sum else aftM n h r
def rsM(os:List Int)(h:Int):Nat->Int
 | 0=>0
 |j+1=>rsM os h j+(if os.idxOf h<os.idxOf (ps.getD j (0,0)).1 then(ps.getD j (0,0)).2 else 0)
def priM(os:List Int):Nat->Int
 | 0=>0
 |k+1=>priM os k+rsM ps os (ps.getD k (0,0)).1 k*(ps.getD k (0,0)).2
end
def Bq{a b:Int}{r:List Int}(h:a≠b):(a::r).idxOf b=r.idxOf b+1:=by
 rw[List.idxOf_cons]
 have:(a==b)=false:=by simpa using h
 rw[this];rfl
def EH(f g:Int->Int)(l:List Int):(l.map fun b=>f b+g b).sum=(l.map f).sum+(l.map g).sum:=by
 induction l with
 |nil=>rfl
 |cons b r ih=>
  simp only[Y9,WA];rw[ih];omega
def Ti{f g:Int->Int}{l:List Int}(h:∀b∈l,f b=g b):(l.map f).sum=(l.map g).sum:=by
 rw[W2 h]
def Cn(l:List Int):(l.map fun _=>(0:Int)).sum=0:=by
 induction l with
 |nil=>rfl
 |cons b r ih=>simp only[Y9,WA,ih];rfl
def Zdq(f:Int->Int)(w:Int)(l:List Int):(l.map fun b=>f b*w).sum=(l.map f).sum*w:=by
 induction l with
 |nil=>simp
 |cons b r ih=>
  simp only[Y9,WA];rw[ih,Int.add_mul]
def Zc7{l:List Int}(h:Int)(w:Int)(nd:l.Nodup):(l.map fun b=>if h=b then w else 0).sum=if h∈l then w else 0:=by
 induction l with
 |nil=>simp
 |cons b r ih=>
  simp only[Y9,WA];have hb:=(YT.mp nd).1;rw[ih (YT.mp nd).2];by_cases e:h=b
  ·subst e;rw[Yr rfl,Yp hb,Yr YN];omega
  ·rw[Yp e];by_cases hm:h∈r
   ·rw[Yr hm,Yr (YF _ hm)];omega
   ·rw[Yp hm,Yp]
    ·omega
    ·intro z;rcases Y2.mp z with z|z
     ·exact e z
     ·exact hm z
section
variable {ps:List (Int×Int)}
def GK{n:Nat}:∀{os:List Int},(ps.getD n (0,0)).1∉os->ordM ps (n+1) os=ordM ps n os
 |[],_=>rfl
 |a::r,h=>by
  have h1:(ps.getD n (0,0)).1≠a:=fun z=>h (by rw[z];exact YN);have h2:(ps.getD n (0,0)).1∉r:=fun z=>h (YF _ z);simp only[ordM];rw[GK h2];congr 1;apply Ti;intro b _;simp only[pcM];rw[Yp (fun z=>h1 z.2)];omega
def DT{n:Nat}:∀{os:List Int},os.Nodup->(ps.getD n (0,0)).1∈os->ordM ps (n+1) os=ordM ps n os+aftM ps n (ps.getD n (0,0)).1 os*(ps.getD n (0,0)).2
 |[],_,h=>by cases h
 |a::r,nd,h=>by
  obtain⟨na,nr⟩:=YT.mp nd;simp only[ordM,aftM];by_cases e:a=(ps.getD n (0,0)).1
  ·rw[Yr e];have hr:(ps.getD n (0,0)).1∉r:=by rw[←e];exact na
   rw[GK hr,←Zdq]
   have e2:(r.map fun b=>pcM ps a b (n+1)).sum=(r.map fun b=>pcM ps a b n+tpM ps b n*(ps.getD n (0,0)).2).sum:=by
    apply Ti;intro b hb;simp only[pcM];rw[Yr ⟨fun z=>na (by rw[z];exact hb),e.symm⟩]
   rw[e2,EH];omega
  ·rw[Yp e]
   have hr:(ps.getD n (0,0)).1∈r:=by
    rcases Y2.mp h with z|z
    ·exact absurd z.symm e
    ·exact z
   rw[DT nr hr]
   have e2:(r.map fun b=>pcM ps a b (n+1)).sum=(r.map fun b=>pcM ps a b n).sum:=by
    apply Ti;intro b _;simp only[pcM];rw[Yp (fun z=>e z.2.symm)];omega
   rw[e2];omega
def DE{n:Nat}{h:Int}:∀{os:List Int},(ps.getD n (0,0)).1∉os->aftM ps (n+1) h os=aftM ps n h os
 |[],_=>rfl
 |a::r,hn=>by
  have h2:(ps.getD n (0,0)).1∉r:=fun z=>hn (YF _ z);simp only[aftM];rw[DE h2]
  have e2:(r.map fun b=>tpM ps b (n+1)).sum=(r.map fun b=>tpM ps b n).sum:=by
   apply Ti;intro b hb;simp only[tpM];rw[Yp (fun z=>h2 (by rw[z];exact hb))];omega
  rw[e2]
def EV{n:Nat}{h:Int}:∀{os:List Int},os.Nodup->h∈os->(ps.getD n (0,0)).1∈os->
  aftM ps (n+1) h os=aftM ps n h os+(if os.idxOf h<os.idxOf (ps.getD n (0,0)).1 then(ps.getD n (0,0)).2 else 0)
 |[],_,hh,_=>by cases hh
 |a::r,nd,hh,hm=>by
  obtain⟨na,nr⟩:=YT.mp nd;generalize eg:(ps.getD n (0,0)).1=g at hm ⊢;generalize ew:(ps.getD n (0,0)).2=w at ⊢;simp only[aftM];by_cases e:a=h
  ·subst e;rw[Yr rfl,Yr rfl]
   have e2:(r.map fun b=>tpM ps b (n+1)).sum=(r.map fun b=>tpM ps b n+(if g=b then w else 0)).sum:=by
    apply Ti;intro b _;simp only[tpM];rw[eg,ew]
   rw[e2,EH,Zc7 g w nr];have i0:(a::r).idxOf a=0:=by simp
   rw[i0];by_cases eq:g=a
   ·subst eq;rw[i0,Yp na,Yp (by omega)]
   ·have gr:g∈r:=by
     rcases Y2.mp hm with z|z
     ·exact absurd z eq
     ·exact z
    have:(a::r).idxOf g=r.idxOf g+1:=Bq (Ne.symm eq)
    rw[this,Yr gr,Yr (by omega)]
  ·rw[Yp e,Yp e]
   have hr:h∈r:=by
    rcases Y2.mp hh with z|z
    ·exact absurd z.symm e
    ·exact z
   have ih1:(a::r).idxOf h=r.idxOf h+1:=Bq e;by_cases eq:g=a
   ·subst eq;have i0:(g::r).idxOf g=0:=by simp
    rw[DE (by rw[eg];exact na),i0,Yp (by omega)];omega
   ·have gr:g∈r:=by
     rcases Y2.mp hm with z|z
     ·exact absurd z eq
     ·exact z
    have ih2:(a::r).idxOf g=r.idxOf g+1:=Bq (Ne.symm eq);rw[EV nr hr (by rw[eg];exact gr),eg,ew,ih1,ih2];congr 1;by_cases hlt:r.idxOf h<r.idxOf g
    ·rw[Yr hlt,Yr (by omega)]
    ·rw[Yp hlt,Yp (by omega)]
def EX{os:List Int}{h:Int}(nd:os.Nodup)(hh:h∈os):∀(n:Nat),(∀j,j<n->(ps.getD j (0,0)).1∈os)->aftM ps n h os=rsM ps os h n
 | 0,_=>by
  have:∀l:List Int,aftM ps 0 h l=0:=by
   intro l
   induction l with
   |nil=>rfl
   |cons a r ih=>
    simp only[aftM,tpM];rw[Cn,ih];split<;>rfl
  rw[this];rfl
 |n+1,hm=>by
  rw[EV nd hh (hm n (by omega)),EX nd hh n fun j hj=>hm j (by omega)];rfl
def Gp{os:List Int}(nd:os.Nodup):∀(n:Nat),(∀j,j<n->(ps.getD j (0,0)).1∈os)->ordM ps n os=priM ps os n
 | 0,_=>by
  have:∀l:List Int,ordM ps 0 l=0:=by
   intro l
   induction l with
   |nil=>rfl
   |cons a r ih=>
    simp only[ordM,pcM];rw[Cn,ih];rfl
  rw[this];rfl
 |n+1,hm=>by
  rw[DT nd (hm n (by omega)),Gp nd n (fun j hj=>hm j (by omega)),EX nd (hm n (by omega)) n fun j hj=>hm j (by omega)];rfl
end
end M
namespace ExcR
open PySem PySem.Spec PyProof.Rows L2
structure KeepX (fs ex:List Addr) (h h':Heap):Prop where
 keep:∀b o,h.get? b=some o->b∉fs->b∉ex->h'.get? b=some o
 slot:∀b o,h.get? b=some o->b∉ex->∃sl,h'.get? b=some {o with slots:=sl}
 size:h.objs.size<=h'.objs.size
def KeepX.trans {fs ex:List Addr}{h1 h2 h3:Heap} (a:KeepX fs ex h1 h2) (b:KeepX fs ex h2 h3):KeepX fs ex h1 h3:=
 ⟨fun c o e n m=>b.keep c o (a.keep c o e n m) n m,fun c o e m=>by
  obtain⟨s1,e1⟩:=a.slot c o e m;obtain⟨s2,e2⟩:=b.slot c _ e1 m;exact⟨s2,e2⟩,Y4 a.size b.size⟩
def KeepX.mono {fs fs' ex ex':List Addr}{h1 h2:Heap} (a:KeepX fs ex h1 h2) (hf:∀b∈fs,b∈fs') (hx:∀b∈ex,b∈ex'):KeepX fs' ex' h1 h2:=
 ⟨fun c o e n m=>a.keep c o e (fun z=>n (hf c z)) (fun z=>m (hx c z)),fun c o e m=>a.slot c o e fun z=>m (hx c z),a.size⟩
structure Trc (h:Heap) (e T:Addr) (cls fl:Value):Prop where
 ne:T≠e
 exc:∃oe vs,h.get? e=some oe/\oe.cls=cls/\oe.data=.fields vs/\vs[1]?=some (.ref T)
 ent:∃oT ts,h.get? T=some oT/\oT.data=.fields ts/\ts[3]?=some fl
section
variable {M:Model}{A:Around}{E:Value->Shared->Prop}{s:Shared}{base:Heap}{env:Env}{outer:List Env}{L e:Addr}
def DF{oe:Obj}{vs:Array Value}{head:Value}{hadNext:Bool}{Q:Unit->Shared->Prop}(hfr:A.frames=some (env::outer))(hl:s.heap.FunFrames base (env::outer))(hf:env.frame=some L)(he:s.heap.get? e=some oe)(hd:oe.data=.fields vs)(hsz:1<vs.size)(h:∀h' T,s.heap.objs.size<=T->Trc h' e T oe.cls (rawInt L)->KeepX (frs (env::outer)) [e] s.heap h'->Q () {s with heap:=h'}) :
  wpAny M A (do let a ←frameOf env;let pl ←entryPlaceOf L hadNext;let b ←EntryCells.newEntry head a .none (rawInt L) .none pl;setField (.ref e) 1 b) Q E s:=by
 have hene:e∉frs (env::outer):=fun hm=>by
  obtain⟨_,o,ho,hnf⟩:=hl.mem hm;rw[he]at ho;cases ho
  exact hnf vs hd
 refine Yn (wpAny_frameOf_fun hfr hl hf fun h1 s1=>Yn (wpAny_entryPlaceOf fun pl hpl=>?_));unfold EntryCells.newEntry newFields;refine Yn (Wg ?_ (hpl.sizeOk5 _ _ _ _ _));have he1:h1.get? e=some oe:=(s1.2.1 e hene).trans he;generalize eo:({cls:=.type "traceback",dict:=none,data:=.fields ([head,.ref L,.none,rawInt L,.none]++(if pl.isEmpty then List.replicate 6 Value.none else pl)).toArray}:Obj)=ot;have he2:=Yv (h:=h1) ot he1;refine WC he2 hd hsz (h _ h1.objs.size (WG s1.1.symm) ?_ ?_)
 ·have ne1:h1.objs.size≠e:=VB (Y1 he1);have d3:=Wq hd (·.setIfInBounds 1 (Value.ref h1.objs.size));refine⟨ne1,⟨_,_,We _ he2 (WD d3),QW _ _,d3,by simp[hsz]⟩,ot,_,?_,by rw[←eo],?_⟩
  ·exact(Wi _ _ (Ne.symm ne1)).trans (Y5 h1 (by rw[←eo];rfl))
  ·first
    |(simp;done)
    |(rcases hpl with rfl|⟨_,_,_,_,_,_,_,rfl⟩<;>simp)
 ·refine⟨fun b o q nb nx=>?_,fun b o q nx=>?_,?_⟩
  ·have hbe:b≠e:=fun z=>nx (by simp[z]);rw[Wi _ _ (Ne.symm hbe)];exact Yv _ ((s1.2.1 b nb).trans q)
  ·have hbe:b≠e:=fun z=>nx (by simp[z]);obtain⟨sl,q1⟩:=s1.2.2 b o q;exact⟨sl,by rw[Wi _ _ (Ne.symm hbe)];exact Yv _ q1⟩
  ·rw[Heap.size_update,Qe,s1.1];exact QY _
def RA{oe:Obj}{vs:Array Value}{Q:Unit->Shared->Prop}(hfr:A.frames=some (env::outer))(hl:s.heap.FunFrames base (env::outer))(hf:env.frame=some L)(he:s.heap.get? e=some oe)(hd:oe.data=.fields vs)(h1:vs[1]?=some .none)(h:∀h' T,s.heap.objs.size<=T->Trc h' e T oe.cls (rawInt L)->KeepX (frs (env::outer)) [e] s.heap h'->Q () {s with heap:=h'}):wpAny M A (noteFrame (.ref e) env) Q E s:=by
 unfold noteFrame;simp only[hf];refine Yn (V1 he hd h1 ?_);rw[Yp (by decide)];exact DF hfr hl hf he hd (Q9.mp h1).1 h
def GH{T:Addr}{cls fl:Value}{Q:Unit->Shared->Prop}(x:Trc s.heap e T cls fl)(h:∀h',Trc h' e T cls .none->KeepX [] [T] s.heap h'->Q () {s with heap:=h'}) :
  wpAny M A (setField (.ref T) 3 .none) Q E s:=by
 obtain⟨ne,⟨oe,vs,g1,g2,g3,g4⟩,oT,ts,k1,k2,k3⟩:=x;have hz:=(Q9.mp k3).1;refine WC k1 k2 hz (h _ ?_ ?_)
 ·have d3:=Wq k2 (·.setIfInBounds 3 Value.none);exact⟨ne,⟨oe,vs,(Wi _ _ ne).trans g1,g2,g3,g4⟩,_,_,We _ k1 (WD d3),d3,by simp[hz]⟩
 ·have ot:∀b,b≠T->(s.heap.update T (Obj.mapFields (·.setIfInBounds 3 Value.none))).get? b=s.heap.get? b:=fun b hb=>Wi _ _ (Ne.symm hb);exact⟨fun b o q _ nx=>(ot b fun z=>nx (by simp[z])).trans q,fun b o q nx=>⟨o.slots,(ot b fun z=>nx (by simp[z])).trans q⟩,WG (Heap.size_update ..).symm⟩
def RG{T:Addr}{cls:Value}{Q:Unit->Shared->Prop}(hfr:A.frames=some (env::outer))(hl:s.heap.FunFrames base (env::outer))(hf:env.frame=some L)(x:Trc s.heap e T cls .none)(h:∀h' T',s.heap.objs.size<=T'->Trc h' e T' cls (rawInt L)->KeepX (frs (env::outer)) [e,T] s.heap h'->Q () {s with heap:=h'}):wpAny M A (noteFrame (.ref e) env) Q E s:=by
 obtain⟨ne,⟨oe,vs,g1,g2,g3,g4⟩,oT,ts,k1,k2,k3⟩:=id x;unfold noteFrame;simp only[hf];refine Yn (V1 g1 g3 g4 ?_);rw[Yr (show(Value.ref T != Value.none)=true from by simp)]
 refine Yn (V1 k1 k2 k3 ?_);rw[Yp (show ¬((Value.none==rawInt L)=true)from by simp[rawInt])]
 refine Yn (GH x fun h1 x1 K1=>?_)
 have hTf:T∉frs (env::outer):=fun hm=>by
  obtain⟨_,o,ho,hnf⟩:=hl.mem hm;rw[k1]at ho;cases ho
  exact hnf ts k2
 have hl1:h1.FunFrames base (env::outer):=hl.of_keeps fun b o q hnf=>⟨o,K1.keep b o q (by simp) (fun z=>by
  rw[Yx.mp z,k1]at q;cases q
  exact hnf ts k2),rfl⟩
 obtain⟨_,⟨oe1,vs1,p1,p2,p3,p4⟩,_⟩:=id x1;refine DF (s:={s with heap:=h1}) hfr hl1 hf p1 p3 (Q9.mp p4).1 fun h2 T' hT' x2 K2=>h h2 T' (Y4 K1.size hT') (by rw[←p2];exact x2) ?_
 exact(K1.mono (by simp) (by simp)).trans (K2.mono (fun _ z=>z) (by simp))
def GZ{T:Addr}{cls fl:Value}{Q:Unit->Shared->Prop}(x:Trc s.heap e T cls fl)(h:∀h',Trc h' e T cls .none->KeepX [] [T] s.heap h'->Q () {s with heap:=h'}) :
  wpAny M A (setFlight (.ref e) none) Q E s:=by
 obtain⟨ne,⟨oe,vs,g1,g2,g3,g4⟩,_⟩:=id x;unfold setFlight;refine Yn (V1 g1 g3 g4 ?_);rw[Yr (show(Value.ref T != Value.none)=true from by simp)]
 exact GH x h
def RZ{oe:Obj}{vs:Array Value}{Q:Unit->Shared->Prop}(hfr:A.frames=some (env::outer))(hl:s.heap.FunFrames base (env::outer))(hf:env.frame=some L)(he:s.heap.get? e=some oe)(hd:oe.data=.fields vs)(h1:vs[1]?=some .none)(h:∀h' T,s.heap.objs.size<=T->Trc h' e T oe.cls .none->KeepX (frs (env::outer)) [e] s.heap h'->Q () {s with heap:=h'}):wpAny M A (leaving env (.ref e)) Q E s:=by
 unfold leaving;refine Yn (RA hfr hl hf he hd h1 fun h2 T hT x K=>GZ x fun h3 x3 K3=>h h3 T hT x3 ?_);refine⟨fun b o q nb nx=>K3.keep b o (K.keep b o q nb nx) (by simp) (fun z=>?_),fun b o q nx=>?_,Y4 K.size K3.size⟩
 ·rw[Yx.mp z]at q;exact absurd (Y1 q) (Vs.mpr hT)
 ·obtain⟨sl,q2⟩:=K.slot b o q nx;exact⟨sl,K3.keep b _ q2 (by simp) (fun z=>by rw[Yx.mp z]at q;exact absurd (Y1 q) (Vs.mpr hT))⟩
def Zfc{T:Addr}{cls:Value}{Q:Unit->Shared->Prop}(hfr:A.frames=some (env::outer))(hl:s.heap.FunFrames base (env::outer))(hf:env.frame=some L)(x:Trc s.heap e T cls .none)(h:∀h' T',s.heap.objs.size<=T'->Trc h' e T' cls .none->KeepX (frs (env::outer)) [e,T] s.heap h'->Q () {s with heap:=h'}):wpAny M A (leaving env (.ref e)) Q E s:=by
 unfold leaving;refine Yn (RG hfr hl hf x fun h2 T' hT x2 K=>GZ x2 fun h3 x3 K3=>h h3 T' hT x3 ?_);refine⟨fun b o q nb nx=>K3.keep b o (K.keep b o q nb nx) (by simp) (fun z=>?_),fun b o q nx=>?_,Y4 K.size K3.size⟩
 ·rw[Yx.mp z]at q;exact absurd (Y1 q) (Vs.mpr hT)
 ·obtain⟨sl,q2⟩:=K.slot b o q nx;exact⟨sl,K3.keep b _ q2 (by simp) (fun z=>by rw[Yx.mp z]at q;exact absurd (Y1 q) (Vs.mpr hT))⟩
end
section
variable {P:Program}{w:World}{H H':Hp}{h h':Heap}{a:Addr}{o:HO}{fs ex:List Addr}
def has(x:ObjOk P w H h a o):∃u,h.get? a=some u:=by
 cases o with
 |lst xs=>exact let ⟨_,_,_,_,e⟩:=x;⟨_,e⟩
 |tup xs=>exact let ⟨_,_,_,u,e,_⟩:=x;⟨u,e⟩
 |dK kvs=>exact let ⟨_,_,_,_,u,_,_,e,_⟩:=x;⟨u,e⟩
 |dT kvs=>exact let ⟨_,_,_,_,u,_,_,e,_⟩:=x;⟨u,e⟩
 |set S n=>exact let ⟨u,_,_,_,e,_⟩:=x;⟨u,e⟩
 |ins C dx fs=>exact let ⟨_,_,_,e,_⟩:=x;⟨_,e⟩
 |own y=>exact x
 |xd fs=>exact let ⟨_,⟨u,_,_,e,_⟩,_⟩:=x;⟨u,e⟩
 |rng lo hi=>exact let ⟨_,_,_,e⟩:=x;⟨_,e⟩
 |frz ob u=>exact⟨_,x.1⟩
 |tbl ps=>exact⟨_,x⟩
 |met f y=>exact⟨_,x⟩
 |ext φ=>exact x.2.1
def Md(ok:HOk P w H h)(e:h.get? a=none):H a=none:=by
 cases q:H a with
 |none=>rfl
 |some o=>
  obtain⟨u,z⟩:=has (ok a o q);rw[e]at z;cases z
def CM(ok:HOk P w H h)(k:KeepX fs ex h h')(hf:∀b∈fs,H b=none)(hx:∀b∈ex,H b=none):HOk P w H h':=fun a o e=>by
 refine(ok a o e).stay (fun b u hb q=>?_) (fun _ q=>q) (fun _ _ q=>q)
 have hn:H b≠none:=by
  rcases hb with rfl|hb
  ·rw[e];simp
  ·rw[hb];simp
 exact k.keep b u q (fun z=>hn (hf b z)) fun z=>hn (hx b z)
end
structure XAt (P:Program) (w:World) (outer:List Env) (H H':Hp) (s s':Shared) (a T C:Addr):Prop where
 os:s'.os=s.os
 bare:AllBare s'.gens
 un:Un (frs outer) [] H H' s.heap s'.heap
 hok:HOk P w H' s'.heap
 na:s.heap.get? a=none
 nT:s.heap.get? T=none
 fa:H' a=none
 fT:H' T=none
 tr:Trc s'.heap a T (.ref C) .none
def CXe(P:Program)(w:World):CXT:=fun outer H s E e s'=>∃a T C H',e=.ref a/\XAt P w outer H H' s s' a T C/\E (.ref C) none H'
section
variable {X:Cx}{pins:List (Addr×Obj)}{σ:L2.St}{H H':Hp}{s s':Shared}{a T C:Addr}
def Cq{ex:List Addr}{h':Heap}(I:Inv X pins σ H s)(hex:X.ex=[])(k:KeepX (frs X.stack) ex s.heap h')(hx:∀b∈ex,X.s₀.heap.get? b=none):Un X.fs [] X.H₀ H X.s₀.heap h':=by
 have B:=I.base;rw[hex]at B;have out:∀b o,X.s₀.heap.get? b=some o->b∉ex:=fun b o q z=>by rw[hx b z]at q;cases q
 have nl:∀b o,X.s₀.heap.get? b=some o->b∉X.fs->b∉frs X.stack:=fun b o q nf z=>by
  rcases Y2.mp (I.stkSub b z)with e|e
  ·have h1:=Y1 q;have h2:=I.ok.above;rw[e]at h1;exact absurd h1 (Vs.mpr h2)
  ·exact nf e
 refine⟨fun b o q n nf ne=>k.keep b o (B.keep b o q n nf ne) (nl b o q nf) (out b o q),fun b o q n hf ne=>?_,fun b o q n ne=>B.free b o q n ne,fun b o q ne=>?_,B.tups,B.frzs,B.tbls⟩
 ·obtain⟨sl,q1⟩:=B.slot b o q n hf ne;obtain⟨sl2,q2⟩:=k.slot b _ q1 (out b o q);exact⟨sl2,q2⟩
 ·obtain⟨o1,q1⟩:=B.there b o q ne;obtain⟨sl2,q2⟩:=k.slot b _ q1 (out b o q);exact⟨_,q2⟩
def T3{b:Addr}(I:Inv X pins σ H s)(hex:X.ex=[])(e:s.heap.get? b=none):X.s₀.heap.get? b=none:=by
 cases q:X.s₀.heap.get? b with
 |none=>rfl
 |some o=>
  obtain⟨u,z⟩:=I.base.there b o q (by rw[hex];simp);rw[e]at z;cases z
variable {E:Value->Shared->Prop}
def OE(I:Inv X pins σ H s)(hex:X.ex=[])(hst:X.stack=X.env::X.outer)(hfr:X.env.frame=some X.env.locals)(x:XAt X.prog X.w X.stack H H' s s' a T C) :
  wpAny (model X.prog X.w) X.A (leaving X.env (.ref a)) (fun _ s2=>∃T2,XAt X.prog X.w X.outer X.H₀ H' X.s₀ s2 a T2 C) E s':=by
 have J:Inv X pins σ H' s':=I.call' (ch:=[]) x.os x.un x.hok x.bare fun b z=>absurd z (by simp);have hF:=J.stack;have hA:=J.ok.frames;rw[hst]at hF hA;refine Zfc hA hF hfr x.tr fun h2 T2 hT2 tr k=>⟨T2,J.os,J.bare,?_,?_,T3 I hex x.na,?_,x.fa,x.hok.fresh hT2,tr⟩
 ·exact Cq J hex (by rw[hst];exact k) fun b hb=>by
   rcases Y2.mp hb with rfl|hb
   ·exact T3 I hex x.na
   ·rw[Yx.mp hb];exact T3 I hex x.nT
 ·refine CM x.hok k (fun b hb=>J.stkFree b (by rw[hst];exact hb)) fun b hb=>?_;rcases Y2.mp hb with rfl|hb
  ·exact x.fa
  ·rw[Yx.mp hb];exact x.fT
 ·exact Vl (Y4 J.sz hT2)
def MH{h':Heap}{oe:Obj}{vs:Array Value}(I:Inv X pins σ H s)(hex:X.ex=[])(hst:X.stack=X.env::X.outer)(hfr:X.env.frame=some X.env.locals)(keeps:∀b o,s.heap.get? b=some o->h'.get? b=some o)(new:s.heap.get? a=none)(he:h'.get? a=some oe)(hc:oe.cls=.ref C)(hd:oe.data=.fields vs)(h1:vs[1]?=some .none) :
  wpAny (model X.prog X.w) X.A (leaving X.env (.ref a)) (fun _ s2=>∃T2,XAt X.prog X.w X.outer X.H₀ H X.s₀ s2 a T2 C) E {s with heap:=h'}:=by
 have J:Inv X pins σ H {s with heap:=h'}:=I.call' (s':={s with heap:=h'}) (ch:=[]) rfl (Un.kept keeps) (I.hok.kept keeps) I.bare fun b z=>absurd z (by simp)
 have hF:=J.stack;have hA:=J.ok.frames;rw[hst]at hF hA;have fa:=Md I.hok new;refine RZ (s:={s with heap:=h'}) hA hF hfr he hd h1 fun h2 T2 hT2 tr k=>⟨T2,J.os,J.bare,?_,?_,T3 I hex new,?_,fa,J.hok.fresh hT2,by rw[←hc];exact tr⟩
 ·exact Cq J hex (by rw[hst];exact k) fun b hb=>by rw[Yx.mp hb];exact T3 I hex new
 ·exact CM J.hok k (fun b hb=>J.stkFree b (by rw[hst];exact hb)) fun b hb=>by rw[Yx.mp hb];exact fa
 ·exact Vl (Y4 J.sz hT2)
end
structure ErrCls (K:Za) (C:Addr):Prop where
 q:PySem.W.excIn K C [.type "ValueError",.type "Exception",.type "BaseException",.type "object"] "ValueError.__new__"=true
def ErrCls.obj {K:Za}{C:Addr}{h:Heap} (c:ErrCls K C) (k:K.In h):∃bm N nm q bs hdct sn sub ab col dd k0 k1 k2 k3 k5 mN,h.get? C=some (excClassObj nm q C N bs bm hdct sn sub ab col dd k0 k1 k2 k3 k5 "ValueError.__new__")/\h.Ns N mN/\mN "__init__"=none/\
  OwnTail h [.type "ValueError",.type "Exception",.type "BaseException",.type "object"] bm:=by
 have e:=c.q;unfold PySem.W.excIn at e;split at e
 next dd cd sl ho=>
  split at e
  next C1 bm k0 k1 k2 k3 n k5 hm hs=>
   simp only[Wc,beq_iff_eq,V9]at e;obtain⟨⟨⟨⟨⟨e1,e2⟩,e3⟩,e4⟩,e5⟩,e6⟩:=e;subst e1 e2;have hg:=k _ _ ho;cases cd with
   |mk nm bs mro ns qn hd sn sub ab col del=>
    simp only at hm e3 e5 e6
    have hsl:sl=#[k0,k1,k2,k3,some (.builtin "ValueError.__new__"),k5]:=by
     cases sl with
     |mk l=>simp only at hs;rw[hs]
    rw[hm,e3,hsl]at hg;exact⟨bm,ns,nm,qn,bs,hd,sn,sub,ab,col,dd,k0,k1,k2,k3,k5,_,hg,.of_isNs (PySem.W.isNs_of_in k e5),PySem.W.nsMap_none_of_in k e5 e6,PySem.W.tail_of_in k e4⟩
  next=>cases e
 next=>cases e
abbrev TF:=L2.St->Hp->Str->(Str->Hp->Prop)->Prop
def PF(X:Cx)(es:List Expr)(t:TF):Prop:=
 ∀(pins:List (Addr×Obj)) (s:Shared) (σ:L2.St) (H:Hp) (out:Str) (Q:Str->Hp->Prop),Inv X pins σ H s->t σ H out Q->
  wpAny (model X.prog X.w) X.A (joinParts out (evalEach es X.env)) (fun u s'=>∃x H',Inv X pins σ H' s'/\RelV (.str x) u/\Q x H') X.xe s
section
variable {X:Cx}{e e1 e2:Expr}{es:List Expr}{t:TF}{tv:TE}{pos:Pos}
def fNil:TF:=fun _ H out Q=>out.length<=sizeLine/\Q out H
def fStr(x:Str)(t:TF):TF:=fun σ H out Q=>(out++x).length<=sizeLine/\t σ H (out++x) Q
def fVal(tv:TE)(t:TF):TF:=fun σ H out Q=>tv σ H fun v H1=>(∃i:Int,v=.int i/\i.natAbs.log2<1920/\(out++(Str.ofString (toString i))).length<=sizeLine/\t σ H1 (out++Str.ofString (toString i)) Q)\/
 ∃x:Str,v=.str x/\x.length<=sizeLine/\(out++x).length<=sizeLine/\t σ H1 (out++x) Q
def Pk:PF X [] fNil:=fun pins s σ H out Q I h=>joinParts_nilE (joinParts_nil ⟨out,H,I.tok _,⟨_,rfl⟩,h.2⟩ h.1)
def XY{x:Str}{j}(h:PF X es t):PF X (.Constant (.str x) j pos::es) (fStr x t):=fun pins s σ H out Q I q=>
 joinParts_consE (joinParts_cons (Calls.Constant_str ⟨q.1,h pins _ σ H _ Q (I.tok _) q.2⟩))
def Po(hv:PE X e tv)(h:PF X es t):PF X (.FormattedValue e (-1) none pos::es) (fVal tv t):=fun pins s σ H out Q I q=>by
 refine joinParts_consE (joinParts_cons (FormattedValue_plain (thn (hv pins s σ H _ I q) fun u s1 ⟨v,H1,I1,r,q1⟩=>?_)));rcases q1 with⟨i,rfl,hs,hz,q2⟩|⟨x,rfl,hx,hz,q2⟩
 ·obtain⟨tk,rfl⟩:=r;exact formatField_int_small hs ⟨hz,h pins _ σ H1 _ Q (I1.tok _) q2⟩
 ·obtain⟨tk,rfl⟩:=r;exact formatField_str (fun t' tk'=>⟨hz,h pins _ σ H1 _ Q (I1.tok _) q2⟩) hx
def tF(t:TF):TE:=fun σ H Q=>t σ H Str.empty fun x H'=>Q (.str x) H'
def pe_f(h:PF X (e1::e2::es) t):PE X (.JoinedStr (e1::e2::es) pos) (tF t):=fun pins s σ H Q I q=>
 JoinedStr_many (thn (h pins s σ H _ _ I q) fun u s1 ⟨x,H1,I1,r,q1⟩=>⟨.str x,H1,I1,r,q1⟩)
end
def Cy(X:Cx)(E:XK):Prop:=∀(pins:List (Addr×Obj)) (σ:L2.St) (H:Hp) (s:Shared) (C a:Addr) (h':Heap) (args:List Value),Inv X pins σ H s->Heap.MadeExcOf s.heap h' a (.ref C) args->E (.ref C) none H->X.xe (.ref a) {s with heap:=h'}
def Gs(C:Addr)(E:XK)(t:TA):TS:=fun _ σ H=>t σ H fun vs H1=>vs.length<=sizeLine/\E (.ref C) none H1
section
variable {X:Cx}{x:Str}{C:Addr}{E:XK}{e:Expr}{es:List Expr}{t:TA}{p cpos pos:Pos}
def Xw(c:ErrCls X.K C)(hm:X.mg x=some (.ref C))(hR:Cy X E)(hc:X.calm=true)(ha:PA X (e::es) t)(hg:Gl X x:=by rfl)(hdb:(x==("__debug__" : Str))=false:=by decide)(he:starEach (e::es) X.env=(false,eval e X.env)::starEach es X.env:=by rfl)(hpl:(backTo cpos (starEach es X.env)).any (·.1)=false:=by rfl):PS X (.Raise (some (.Call (.Name x p) (e::es) [] cpos)) none pos) (Gs C E t):=by
 intro pins s σ H D I h;obtain⟨bm,N,nm,q,bs,hdct,sn,sub,ab,col,dd,k0,k1,k2,k3,k5,mN,hC,hN,hni,hT⟩:=c.obj I.ok.mod.kin
 have hpl':(backTo cpos (starEach (e::es) X.env)).any (·.1)=false:=by
  rw[he];show(false || (backTo cpos (starEach es X.env)).any (·.1))=false;rw[hpl];rfl
 refine wpAny_Raise_call_subU (C:=C) (nm:=nm) (q:=q) (N:=N) (bs:=bs) (bm:=bm) (hdct:=hdct) (sn:=sn) (sub:=sub) (ab:=ab) (col:=col) (dd:=dd) (k0:=k0) (k1:=k1) (k2:=k2) (k3:=k3) (k5:=k5)
  PySem.F.excBase_ValueError (by decide +kernel) PySem.F.excBase_ValueError (hT.hasType (by decide +kernel)) (I.ok.hd hc) hpl' hni (NN I hg hm ⟨rfl,?_⟩ hdb)
 have hA:=ha cpos pins s σ H _ I h;rw[he]at hA ⊢;refine Calls.evalArgs_plain (thn hA fun us s2 ⟨vs,H2,I2,r2,q1,q2⟩=>⟨rfl,by rw[←r2.length];exact q1,I2.bk _ _ hC,hN.keeps I2.bk,hT.keeps I2.bk,fun h' a hm'=>?_⟩);exact hR pins σ H2 s2 C a h' us I2 hm' q2
end
section
variable {P:Program}{w:World}{K:Za}{mg:Str->Option Value}{base:Heap}{N ps:List Str}{qual x:Str}{scope:Scope}{f:Addr}{cd:Value}{A:Around}{outer:List Env}{s:Shared}{H:Hp}{E:XK}
def Xo:Cy (cxOf (CXe P w) P w K mg base N qual scope f cd A outer s H E) E:=by
 intro pins σ H1 s1 C a h' args I m q;obtain⟨t,ht,_,_⟩:=m.there;exact Wn (MH I rfl rfl rfl m.keeps m.new ht rfl rfl rfl) (fun _ s3 ⟨T2,y⟩=>⟨a,T2,C,H1,rfl,y,q⟩) fun _ _ z=>z
def UO:XI (CXe P w) (cxOf (CXe P w) P w K mg base N qual scope f cd A outer s H E) E:=by
 rintro pins σ H1 s1 e s2 I ⟨a,T,C,H',rfl,y,q⟩;exact Wn (OE I rfl rfl rfl y) (fun _ s3 ⟨T2,z⟩=>⟨a,T2,C,H',rfl,z,q⟩) fun _ _ z=>z
def Ze5:PassesOwn (model P w) (cxOf (CXe P w) P w K mg base N qual scope f cd A outer s H E).A (cxOf (CXe P w) P w K mg base N qual scope f cd A outer s H E).env (cxOf (CXe P w) P w K mg base N qual scope f cd A outer s H E).xe:=PassesOwn.leaving
def Def.okX {st:Stmt}{k:Nat}{sp:Sp} (D:Own.Def K mg x st ps) (S:FnScope N ps (JR st)) (len:∀vs H Q E,sp vs H Q E->vs.length=ps.length)
  (hbody:∀(f:Addr) (cdv:Value) (A:Around) (outer:List Env) (s:Shared) (H:Hp) (vs:List V) (Q:VK) (E:XK),Room k (A.deeper (envOfC x (JR st) s.heap.objs.size f cdv))->sp vs H Q E->
   ∃t,PSs (cxOf (CXe P w) P w K mg base N x (JR st) f cdv A outer s H E) (UZ st) t/\t {nx:=fun _ H'=>Q .non H',rt:=Q} (start N vs) H):Own.Callee P w K mg base (CXe P w) (k+1) x ps sp:=by
 obtain⟨f,fd,F,hm,hb⟩:=D.ex;have kp:=F.kp;obtain⟨oc,od,kV,doc,pm,an,cdv,ct,osl,rfl,lk,hcd⟩:=F.ex;exact⟨f,_,F4 lk hcd S len fun A outer s H vs Q E hr hsp=>hbody f cdv A outer s H vs Q E hr hsp,hm,kp,⟨_,lk,rfl⟩,hb⟩
end
end ExcR
namespace ExcR
open PySem PySem.Spec PyProof.Rows L2
open Sem (wp)
structure ErrGet (K:Za) (C:Addr):Prop where
 c:ErrCls K C
 ga:PySem.W.findIn K (.ref C) "__getattribute__"=some (some (.builtin "BaseException.__getattribute__"))
 gt:PySem.W.findIn K (.ref C) "__getattr__"=some none
 cl:PySem.W.findIn K (.ref C) "__class__"=some (some (.builtin "object.__class__"))
 is:(PySem.W.clsIn K C).isSome=true
end ExcR
namespace ExcR
open PySem PySem.Spec PyProof.Rows L2
def ErrH(a C:Addr):HO:=.ext fun h=>∃o,h.get? a=some o/\o.cls=.ref C/\∃vs,o.data=.fields vs
def sufD(i:Nat)(D:Ends):Ends:={nx:=fun σ H=>D.nx (σ.set i none) H,rt:=D.rt,bk:=fun σ H=>D.bk (σ.set i none) H,ct:=fun σ H=>D.ct (σ.set i none) H}
def hx(K:Za)(C0:Addr)(i:Nat)(ts:TS)(D:Ends):L2.St->XK:=fun σ c _ H=>∃C,c=.ref C/\ErrGet K C/\PySem.W.exmOne K (.ref C) (.ref C0)=some true/\
 ∀a,H a=none->ts (sufD i D) (σ.set i (some (.ref a))) (upd H a (ErrH a C))
def JP(mg:Str->Option Value)(x:Str):Addr:=match mg x with
 |some (.ref C)=>C
 |_=>0
def Dm{mg:Str->Option Value}{x:Str}{C:Addr}(h:mg x=some (.ref C)):JP mg x=C:=by unfold JP;rw[h]
def XF{X:Cx}{x:Str}{v:V}{pos:Pos}(h:∃u,X.mg x=some u/\RelV v u)(hg:Gl X x:=by rfl)(hd:(x==("__debug__" : Str))=false:=by decide):PE X (.Name x pos) (tC v):=by
 obtain⟨u,h1,h2⟩:=h;exact Zeb hg h1 h2 hd
end ExcR
namespace Own
open PySem PySem.Spec PyProof.Rows L2 M
section
variable {X:Cx}{pins:List (Addr×Obj)}{σ:L2.St}{H:Hp}{s:Shared}
def G1{p:Int×Int}{its:List Value}(r:Vals [V.int p.1,V.int p.2] its):∃t1 t2,its=[.int p.1 t1,.int p.2 t2]:=by
 cases r with
 |cons r1 rr=>
  cases rr with
  |cons r2 r3=>
   cases r3
   obtain⟨t1,rfl⟩:=r1;obtain⟨t2,rfl⟩:=r2;exact⟨t1,t2,rfl⟩
def Zag{A:Around}{x y:V}{p q:Int×Int}{u v:Value}(I:Inv X pins σ H s)(hu:A.units<cLine)(rx:RelV x u)(ry:RelV y v)(hp:XG H x p)(hq:XG H y q):SeqAt.EqAt A s u v (decide (p=q)):=by
 obtain⟨a,rfl,ha⟩:=hp;obtain⟨b,rfl,hb⟩:=hq;obtain rfl:u=Value.ref a:=rx;obtain rfl:v=Value.ref b:=ry;by_cases hab:a=b
 ·subst hab;rw[ha]at hb
  have e:p=q:=by
   injection hb with hb;injection hb with hb;injection hb with h1 h2;injection h2 with h2 _;exact Prod.ext (V.int.inj h1) (V.int.inj h2)
  rw[Yq e];exact SeqAt.EqAt.same _
 ·obtain⟨_,its,r1,t1⟩:=(show ObjOk X.prog X.w H s.heap a (.tup [.int p.1,.int p.2])from I.hok a _ ha)
  obtain⟨_,jts,r2,t2⟩:=(show ObjOk X.prog X.w H s.heap b (.tup [.int q.1,.int q.2])from I.hok b _ hb)
  obtain⟨k1,k2,rfl⟩:=G1 r1;obtain⟨k3,k4,rfl⟩:=G1 r2
  have h:=SeqAt.RcAt.tuples (A:=A) (s:=s) (e:=fun j=>if j=0 then p.1==q.1 else p.2==q.2) t1 t2 hu (fun j h1 h2=>by
   have hj:j=0\/j=1:=by
    have h1':j<2:=h1;omega
   rcases hj with rfl|rfl
   ·exact SeqAt.EqAt.int_int _ _ _ _
   ·exact SeqAt.EqAt.int_int _ _ _ _)
  have e:((List.range (min ([Value.int p.1 k1,Value.int p.2 k2].toArray).size ([Value.int q.1 k3,Value.int q.2 k4].toArray).size)).all (fun j=>if j=0 then p.1==q.1 else p.2==q.2)&&([Value.int p.1 k1,Value.int p.2 k2].toArray).size==([Value.int q.1 k3,Value.int q.2 k4].toArray).size)=decide (p=q):=by
   show((List.range 2).all (fun j=>if j=0 then p.1==q.1 else p.2==q.2)&&true)=decide (p=q);rw[Bool.and_true];have e2:(List.range 2).all (fun j=>if j=0 then p.1==q.1 else p.2==q.2)=((p.1==q.1)&&(p.2==q.2)):=by simp[List.range,List.range.loop]
   rw[e2];by_cases h1:p.1=q.1
   ·by_cases h2:p.2=q.2
    ·rw[Yq (Prod.ext h1 h2)];simp[h1,h2]
    ·rw[YA (fun z=>h2 (by rw[z]))];simp[h2]
   ·rw[YA (fun z=>h1 (by rw[z]))];simp[h1]
  rw[e]at h;exact SeqAt.EqAt.of_refs hab h
def eP(H:Hp)(q:Int×Int)(u:Value):Bool:=match u with
 | .ref a=>(match H a with
  |some (.tup [.int i,.int j])=>decide ((i,j)=q)
  |_=>false)
 |_=>false
def Gu{v:V}{u:Value}{p q:Int×Int}(h:XG H v p)(r:RelV v u):eP H q u=decide (p=q):=by
 obtain⟨a,rfl,ha⟩:=h;obtain rfl:u=Value.ref a:=r;unfold eP;simp only[ha]
def A8{q:Int×Int}:∀{vs:List V}{us:List Value}{ps:List (Int×Int)},Vals vs us->LV XG H vs ps->us.any (eP H q)=decide (q∈ps)
 |_,_,[],.nil,_=>rfl
 |_,_,_::_,.nil,h=>absurd h.1 (by simp)
 |v::vs,u::us,[],.cons _ _,h=>absurd h.1 (by simp)
 |v::vs,u::us,p::ps,.cons r t,h=>by
  obtain⟨v',e,hv⟩:=h.2 0 p rfl;cases e
  have ht:LV XG H vs ps:=⟨by simpa using h.1,fun i x e=>h.2 (i+1) x e⟩;rw[Ql,Gu hv r,A8 t ht];by_cases e1:p=q
  ·subst e1;simp
  ·by_cases e2:q∈ps
   ·simp[e1,e2]
   ·have:¬q=p:=fun z=>e1 z.symm
    simp[e1,e2,this]
def rInP(neg:Bool):R2:=fun x y H Q=>∃(l:Addr) (ps:List (Int×Int)) (q:Int×Int),y=.ref l/\XG H x q/\LAt XG H l ps/\Q (.bl (if neg then !decide (q∈ps)else decide (q∈ps))) H
def BK{A:Around}{x:V}{v:Value}{q:Int×Int}(I:Inv X pins σ H s)(hu:A.units<cLine)(rx:RelV x v)(hx:XG H x q):∀{vs:List V}{us:List Value}{ps:List (Int×Int)},Vals vs us->LV XG H vs ps->∀u∈us,SeqAt.EqAt A s u v (eP H q u)
 |_,_,_,.nil,_,u,hu'=>by cases hu'
 |w::vs,u::us,[],.cons _ _,h,_,_=>absurd h.1 (by simp)
 |w::vs,u::us,p::ps,.cons r t,h,u',hu'=>by
  obtain⟨w',e,hw⟩:=h.2 0 p rfl;cases e
  have ht:LV XG H vs ps:=⟨by simpa using h.1,fun i x e=>h.2 (i+1) x e⟩;rcases Y2.mp hu' with rfl|hu'
  ·rw[Gu hw r];exact Zag I hu r rx hw hx
  ·exact BK I hu rx hx t ht u' hu'
def Zcz(hu:X.A.in1.units<cLine):OpR X (compareOp .In) (rInP false):=by
 intro pins s σ H x y v u Q I rx ry h;obtain⟨l,ps,q,rfl,hx,⟨vs,hl,hv⟩,k⟩:=h;cases ry
 obtain⟨its,r,pl,hz⟩:=I.list (SqL.of hl);refine SeqAt.in_listAt (eP H q) pl.isList (fun w hw=>BK I hu rx hx r hv w (by simpa using hw)) ⟨.bl _,H,I,rfl,?_⟩;rw[show its.toArray.any (eP H q)=its.any (eP H q) by simp,A8 r hv];exact k
def Zem(hu:X.A.in1.units<cLine):OpR X (compareOp .NotIn) (rInP true):=by
 intro pins s σ H x y v u Q I rx ry h;obtain⟨l,ps,q,rfl,hx,⟨vs,hl,hv⟩,k⟩:=h;cases ry
 obtain⟨its,r,pl,hz⟩:=I.list (SqL.of hl);refine SeqAt.notIn_listAt (eP H q) pl.isList (fun w hw=>BK I hu rx hx r hv w (by simpa using hw)) ⟨.bl _,H,I,rfl,?_⟩;rw[show its.toArray.any (eP H q)=its.any (eP H q) by simp,A8 r hv];exact k
end
end Own
namespace M
open PySem PySem.Spec PyProof.Rows L2 Own
section
variable {α:Type}{R:Hp->V->α->Prop}{H:Hp}
def pick(c:α->Bool)(d:V×α):Option V:=if c d.2=true then some d.1 else none
end
end M
namespace Own
open PySem PySem.Spec PyProof.Rows L2
section
variable {X:Cx}{K:Za}
def S4(hc:X.calm=true)(hK:X.K=K:=by rfl):UX X (.builtin "sum") (fun xs H Q=>∃(p:Addr) (ns:List Int),xs=[.ref p]/\SqL K H p (ns.map V.int)/\Q (.int ns.sum) H):=by
 subst hK;intro pins s σ H xs us Q I rv h;obtain⟨p,ns,rfl,hS,q⟩:=h;obtain⟨u,rfl,ru⟩:=rv.one;obtain rfl:u=Value.ref p:=ru;obtain⟨its,r,pl,_⟩:=I.list hS;have hi:IntsAre its ns:=by simpa using N4 r
 obtain⟨ys,hx⟩:=hi.allInts.items;have hl:=pl.isList;rw[hx]at hl;refine sum_intListG (I.ok.hd hc) hl fun h' tk t' hk=>?_
 have e1:ns=ys.toList.map (·.1):=by
  rw[←nums_intItems,←hx];exact(show numsOf its.toArray.toList=ns from hi.numsOf).symm
 have e2:preSum (numAt ys) ys.size=ns.sum:=by
  rw[preSum_eq,Qu (by simp),e1]
 rw[e2];exact⟨.int ns.sum,H,I.kept (t':=tk) hk,⟨_,rfl⟩,q⟩
def HY(hc:X.calm=true)(hK:X.K=K:=by rfl):UX X (.builtin "min") (fun xs H Q=>∃(p:Addr) (ns:List Int),xs=[.ref p]/\SqL K H p (ns.map V.int)/\0<ns.length/\∀M,M∈ns->(∀a∈ns,M<=a)->Q (.int M) H):=by
 subst hK;intro pins s σ H xs us Q I rv h;obtain⟨p,ns,rfl,hS,hne,q⟩:=h;obtain⟨u,rfl,ru⟩:=rv.one;obtain rfl:u=Value.ref p:=ru;obtain⟨its,r,pl,_⟩:=I.list hS;have hi:IntsAre its ns:=by simpa using N4 r
 obtain⟨ys,e⟩:=hi.allInts.items;have hl:=pl.isList;rw[e]at hl;have hns:ns=ys.toList.map (·.1):=by rw[←hi.numsOf,←nums_intItems,←e]
 have hsz:0<ys.size:=by
  have h3:=hne;rw[hns,Ym,Wa]at h3;exact h3
 refine min_intList (I.ok.hd hc) hl hsz fun v h' tk hv hk=>?_;obtain⟨t,rfl⟩:=intItems_at hv;obtain⟨h1,h2⟩:=argBest_lt (numAt ys) (ys.size-1);refine⟨.int _,H,I.kept (t':=tk) hk,⟨_,rfl⟩,q _ ?_ fun a ha=>?_⟩
 ·rw[hns,numAt_eq];exact getD_mem (by rw[Ym,Wa];omega)
 ·rw[hns]at ha;obtain⟨j,hj,rfl⟩:=Wz.mp ha;rw[Ym,Wa]at hj
  have:=h2 j (by omega)
  rw[numAt_eq ys j]at this;rw[Yo,Yl (by rw[Ym,Wa];exact hj)]at this;exact this
def Dg:∀{bs:List Bool}{us:List Value},Vals (bs.map V.bl) us->LSm.BoolsAre us bs
 |[],_,.nil=>.nil
 |b::r,_,.cons h t=>by
  cases (show _=Value.bool b from h)
  exact .cons b (Dg t)
def Dl(hc:X.calm=true)(hK:X.K=K:=by rfl):UX X (.builtin "any") (fun xs H Q=>∃(p:Addr) (bs:List Bool),xs=[.ref p]/\SqL K H p (bs.map V.bl)/\Q (.bl (bs.any id)) H):=by
 subst hK;intro pins s σ H xs us Q I rv h;obtain⟨p,bs,rfl,hS,q⟩:=h;obtain⟨u,rfl,ru⟩:=rv.one;obtain rfl:u=Value.ref p:=ru;obtain⟨its,r,pl,_⟩:=I.list hS;have hb:=Dg r;have hl:=pl.isList;have hlt:p<s.heap.objs.size:=by obtain⟨_,e,_⟩:=hl;exact Y1 e
 refine call_any_walk (wpAny_pyIter_list hl ?_)
 refine⟨s.heap.objs.size,[s.heap.objs.size,p],[s.heap.objs.size],its.toArray.size,_,_,fun i=>(bs[i]?).getD false,rfl,Walks.list (A:=X.A.in1) (I.ok.hd hc) _ p (YM hlt) its.toArray,
  ⟨⟨_,Y5 _ rfl,rfl,rfl⟩,hl.push _⟩,fun i v s' Q' E' hP hQ=>?_,fun h' tk hk=>?_⟩
 ·obtain⟨b,e,rfl⟩:=hb.get i v (by simpa using hP);simp only[e,Option.getD_some]at hQ;exact WV hQ
 ·have e:((List.range its.toArray.size).any fun i=>(bs[i]?).getD false)=bs.any id:=by
   rw[Y0,hb.length];exact LSm.range_any bs
  rw[e];exact⟨.bl (bs.any id),H,I.kept (t':=tk) (LSm.kept_iter hk),rfl,q⟩
def rEqE(K:Za)(neg:Bool):R2:=fun x y H Q=>∃(p q:Addr) (xs:List V),x=.ref p/\y=.ref q/\SqL K H p xs/\SqL K H q []/\Q (.bl (if neg then !xs.isEmpty else xs.isEmpty)) H
def A4(hu:X.A.units<cLine)(hK:X.K=K:=by rfl):OpR X (compareOp .Eq) (rEqE K false):=by
 subst hK;intro pins s σ H x y v u Q I rx ry h;obtain⟨p,q,xs,rfl,rfl,hp,hq,k⟩:=h;obtain rfl:v=Value.ref p:=rx;obtain rfl:u=Value.ref q:=ry;obtain⟨us,r1,p1,_⟩:=I.list hp;obtain⟨ws,r2,p2,_⟩:=I.list hq;have l1:=r1.length;have l2:0=ws.length:=r2.length;have k':Q (.bl xs.isEmpty) H:=k;by_cases e:xs.length=0
 ·refine SeqAt.eq_listAt (e:=fun _=>true) p1.isList p2.isList (by simp;omega) hu (fun j h1 h2=>by simp at h2;omega) ⟨.bl xs.isEmpty,H,I,?_,k'⟩;show _=Value.bool xs.isEmpty
  have:xs=[]:=WM.mp e
  subst this;rw[Y0,←l1];rfl
 ·refine SeqAt.eq_list_lengthsAt p1.isList p2.isList (by simp;omega) hu ⟨.bl xs.isEmpty,H,I,?_,k'⟩;show _=Value.bool xs.isEmpty;cases xs with
  |nil=>exact absurd rfl e
  |cons a r=>rfl
def Zcd(hu:X.A.units<cLine)(hK:X.K=K:=by rfl):OpR X (compareOp .NotEq) (rEqE K true):=by
 subst hK;intro pins s σ H x y v u Q I rx ry h;obtain⟨p,q,xs,rfl,rfl,hp,hq,k⟩:=h;obtain rfl:v=Value.ref p:=rx;obtain rfl:u=Value.ref q:=ry;obtain⟨us,r1,p1,_⟩:=I.list hp;obtain⟨ws,r2,p2,_⟩:=I.list hq;have l1:=r1.length;have l2:0=ws.length:=r2.length;have k':Q (.bl (!xs.isEmpty)) H:=k;by_cases e:xs.length=0
 ·refine SeqAt.RcNeAt.lists (e:=fun _=>true) p1.isList p2.isList (by simp;omega) hu (fun j h1 h2=>by simp at h2;omega) _ _ _ _ ⟨.bl (!xs.isEmpty),H,I,?_,k'⟩;show _=Value.bool (!xs.isEmpty)
  have:xs=[]:=WM.mp e
  subst this;rw[Y0,←l1];rfl
 ·refine SeqAt.RcNeAt.lists_lengths p1.isList p2.isList (by simp;omega) hu _ _ _ _ ⟨.bl (!xs.isEmpty),H,I,?_,k'⟩;show _=Value.bool (!xs.isEmpty);cases xs with
  |nil=>exact absurd rfl e
  |cons a r=>rfl
end
end Own
namespace M
open PySem PySem.Spec PyProof.Rows L2 Own
def KQ(ws:List (Int×Int))(ls:List Int):List (Int×Int):=ws.filter fun q=>decide (q.1∈ls)&&decide (q.2∈ls)
def XT(ws:List (Int×Int))(ls:List Int):List Int:=ls.filter fun h=>decide (h∈(KQ ws ls).map (·.2))
def U3(ws:List (Int×Int))(ls:List Int):Nat->List Int
 | 0=>ls
 |n+1=>XT ws (U3 ws ls n)
def FP(ws:List (Int×Int))(r:List Int):Prop:=∀(i:Nat) (x y:Int),r[i]?=some x->r[i+1]?=some y->(x,y)∈ws
structure Ring (hs:List Int) (ws:List (Int×Int)) (r:List Int):Prop where
 two:2<=r.length
 nodup:r.Nodup
 sub:∀x∈r,x∈hs
 chain:FP ws r
 last:∀x y,r[0]?=some x->r[r.length-1]?=some y->(y,x)∈ws
def Ring.ahead {hs:List Int}{ws:List (Int×Int)}{r:List Int} (R:Ring hs ws r) {x:Int} (hx:x∈r):∃y∈r,(y,x)∈ws:=by
 obtain⟨i,hi,e⟩:=Wz.mp hx;have two:=R.two;cases i with
 |zero=>
  have hl:r.length-1<r.length:=by omega
  exact⟨r[r.length-1],YC hl,R.last x _ (by rw[Yl hi,e]) (Yl hl)⟩
 |succ i=>
  have hl:i<r.length:=by omega
  exact⟨r[i],YC hl,R.chain i _ x (Yl hl) (by rw[Yl hi,e])⟩
def mem_peel{ws:List (Int×Int)}{ls:List Int}{x:Int}:x∈XT ws ls↔x∈ls/\∃y∈ls,(y,x)∈ws:=by
 unfold XT KQ;rw[Y3];constructor
 ·rintro⟨h1,h2⟩;obtain⟨q,hq,e⟩:=YL.mp (Yu h2);obtain⟨h3,h4⟩:=Y3.mp hq;rw[Wc]at h4;refine⟨h1,q.1,Yu h4.1,?_⟩;rw[←e];exact h3
 ·rintro⟨h1,y,h2,h3⟩;refine⟨h1,Yq (YL.mpr ⟨(y,x),Y3.mpr ⟨h3,?_⟩,rfl⟩)⟩;rw[Yq h2,Yq h1];rfl
def FV{hs:List Int}{ws:List (Int×Int)}{r:List Int}(R:Ring hs ws r):∀(n:Nat) (x:Int),x∈r->x∈U3 ws hs n
 | 0,x,hx=>R.sub x hx
 |n+1,x,hx=>by
  obtain⟨y,hy,h⟩:=R.ahead hx;exact mem_peel.mpr ⟨FV R n x hx,y,FV R n y hy,h⟩
def FN(ws:List (Int×Int))(ls:List Int):(XT ws ls).Sublist ls:=Vw
def Cp(ws:List (Int×Int))(hs:List Int):∀n,(U3 ws hs n).Sublist hs
 | 0=>List.Sublist.refl _
 |n+1=>(FN ws _).trans (Cp ws hs n)
def Dr(ws:List (Int×Int))(hs:List Int):∀n,(∃k,k<n/\XT ws (U3 ws hs k)=U3 ws hs k)\/(U3 ws hs n).length+n<=hs.length
 | 0=>.inr (Yy _)
 |n+1=>by
  rcases Dr ws hs n with⟨k,hk,e⟩|h
  ·exact .inl ⟨k,by omega,e⟩
  ·by_cases e:XT ws (U3 ws hs n)=U3 ws hs n
   ·exact .inl ⟨n,by omega,e⟩
   ·have hl:(XT ws (U3 ws hs n)).length<(U3 ws hs n).length:=by
     have h1:=(FN ws (U3 ws hs n)).length_le;rcases Q0 (XT ws (U3 ws hs n)).length (U3 ws hs n).length with h2|h2
     ·exact h2
     ·exact absurd ((FN ws (U3 ws hs n)).eq_of_length (by omega)) e
    refine .inr ?_;show(XT ws (U3 ws hs n)).length+(n+1)<=hs.length;omega
def GR(ws:List (Int×Int))(hs:List Int){k:Nat}(e:XT ws (U3 ws hs k)=U3 ws hs k):∀n,U3 ws hs (k+n)=U3 ws hs k
 | 0=>rfl
 |n+1=>by
  show XT ws (U3 ws hs (k+n))=_;rw[GR ws hs e n,e]
def B5:∀{xs ys:List Int},xs.Nodup->(∀x∈xs,x∈ys)->xs.length<=ys.length
 |[],_,_,_=>Ww _
 |x::xs,ys,nd,h=>by
  obtain⟨h1,h2⟩:=YT.mp nd;have hx:x∈ys:=h x (YN ..);have ih:=B5 (ys:=ys.erase x) h2 fun z hz=>(List.mem_erase_of_ne (fun e:z=x=>h1 (e▸hz))).mpr (h z (YF _ hz));rw[List.length_erase_of_mem hx]at ih
  have:0<ys.length:=List.length_pos_of_mem hx
  rw[YE];omega
def D6{ws:List (Int×Int)}{ls:List Int}(hu:∀q∈ws,q.1≠q.2)(hne:ls≠[])(h:∀x∈ls,∃y∈ls,(y,x)∈ws):∃r,Ring ls ws r:=by
 have grow:∀(n:Nat) (r:List Int),r≠[]->r.Nodup->(∀x∈r,x∈ls)->FP ws r->ls.length<r.length+n->∃r,Ring ls ws r:=by
  intro n
  induction n with
  |zero=>
   intro r hr nd sub ch hl
   have:=B5 nd sub
   omega
  |succ n ih=>
   intro r hr nd sub ch hl;cases r with
   |nil=>exact absurd rfl hr
   |cons x t=>
    obtain⟨y,hy,hw⟩:=h x (sub x (YN ..));by_cases hm:y∈x::t
    ·obtain⟨i,hi,e⟩:=Wz.mp hm
     have hi0:i≠0:=fun z=>by
      subst z;have e':x=y:=e;exact hu _ hw e'.symm
     have hlen:((x::t).take (i+1)).length=i+1:=by
      rw[Wj];omega
     refine⟨(x::t).take (i+1),by omega,nd.sublist (QT _ _),fun z hz=>sub z (Vt hz),fun k a b h1 h2=>?_,fun a b h1 h2=>?_⟩
     ·have hk:k+1<i+1:=by
       have:=(YD.mp h2).1
       omega
      rw[W5 (by omega)]at h1;rw[W5 hk]at h2;exact ch k a b h1 h2
     ·rw[hlen,Qp,W5 (by omega),Yl hi,e]at h2;rw[W5 (by omega)]at h1;cases h1
      cases h2
      exact hw
    ·refine ih (y::x::t) (by simp) (YT.mpr ⟨hm,nd⟩) (fun z hz=>?_) (fun k a b h1 h2=>?_) (by rw[YE];omega)
     ·rcases Y2.mp hz with rfl|hz
      ·exact hy
      ·exact sub z hz
     ·cases k with
      |zero=>
       cases h1
       cases h2
       exact hw
      |succ k=>exact ch k a b h1 h2
 obtain⟨x,hx⟩:=List.exists_mem_of_ne_nil ls hne;exact grow (ls.length+1) [x] (by simp) (by simp) (fun y hy=>by rw[Yx.mp hy];exact hx) (fun i a b h1 h2=>by simp at h2) (by show ls.length<1+(ls.length+1);omega)
def Dp{ws:List (Int×Int)}{hs:List Int}(hu:∀q∈ws,q.1≠q.2):U3 ws hs hs.length=[]↔¬ ∃r,Ring hs ws r:=by
 constructor
 ·rintro h ⟨r,R⟩;have two:=R.two;have h0:0<r.length:=by omega
  have:=FV R hs.length r[0] (YC h0)
  rw[h]at this;cases this
 ·intro h;rcases Dr ws hs hs.length with⟨k,hk,e⟩|hl
  ·have e2:=GR ws hs e (hs.length-k);rw[show k+(hs.length-k)=hs.length by omega]at e2;rw[e2];by_cases hne:U3 ws hs k=[]
   ·exact hne
   ·obtain⟨r,R⟩:=D6 hu hne (fun x hx=>by
     rw[←e]at hx;exact(mem_peel.mp hx).2)
    exact absurd ⟨r,R.two,R.nodup,fun x hx=>(Cp ws hs k).subset (R.sub x hx),R.chain,R.last⟩ h
  ·exact WM.mp (by omega)
end M
namespace M
def sl:List Int->List Int->Prop
 |x::xs,y::ys=>x<y\/(x=y/\sl xs ys)
 |_,_=>False
def sl_cons{l:Int}{a b:List Int}:sl (l::a) (l::b)↔sl a b:=by
 show(l<l\/(l=l/\sl a b))↔sl a b;constructor
 ·rintro(h|⟨_,h⟩)
  ·omega
  ·exact h
 ·exact fun h=>.inr ⟨rfl,h⟩
def Uy(g:Int):List Int->Int
 |[]=>g
 |x::t=>Uy x t
def Ph(g:Int):∀(a b:List Int),Uy g (a++b)=Uy (Uy g a) b
 |[],b=>rfl
 |x::a,b=>Ph x a b
def Aa(g:Int):∀(t:List Int),(g::t)[t.length]?=some (Uy g t)
 |[]=>rfl
 |x::t=>by
  rw[YE,Wf];exact Aa x t
def Path(C:Int->Prop)(ws:List (Int×Int)):Int->List Int->Prop
 |_,[]=>True
 |g,x::t=>C x/\(g,x)∈ws/\Path C ws x t
section
variable {C:Int->Prop}{ws:List (Int×Int)}
def path_app:∀{g:Int}{a b:List Int},Path C ws g (a++b)↔Path C ws g a/\Path C ws (Uy g a) b
 |g,[],b=>⟨fun h=>⟨trivial,h⟩,fun h=>h.2⟩
 |g,x::a,b=>by
  rw[Vf];constructor
  ·rintro⟨h1,h2,h3⟩
   have:=path_app.mp h3
   exact⟨⟨h1,h2,this.1⟩,this.2⟩
  ·rintro⟨⟨h1,h2,h3⟩,h4⟩;exact⟨h1,h2,path_app.mpr ⟨h3,h4⟩⟩
def Gy:∀{g:Int}{t:List Int},Path C ws g t->∀x∈t,C x
 |g,[],_,x,h=>by cases h
 |g,y::t,⟨h1,_,h3⟩,x,h=>by
  rcases Y2.mp h with rfl|h
  ·exact h1
  ·exact Gy h3 x h
def CF:∀{g:Int}{t:List Int},Path C ws g t->FP ws (g::t)
 |g,[],_=>fun i x y h1 h2=>by simp at h2
 |g,z::t,⟨h1,h2,h3⟩=>fun i x y k1 k2=>by
  cases i with
  |zero=>
   cases k1
   cases k2
   exact h2
  |succ i=>exact CF h3 i x y k1 k2
end
def Gr(hs:List Int)(l:Int):Int->Prop:=fun x=>x∈hs/\l<x
def PH(hs:List Int)(ws:List (Int×Int))(l:Int)(t:List Int):Prop:=Path (Gr hs l) ws l t/\(Uy l t,l)∈ws
def G3:∀(r:List Int),r≠[]->∃i,∃h:i<r.length,∀x∈r,r[i]<=x
 |[],h=>absurd rfl h
 |[a],_=>⟨0,by simp,fun x hx=>by rw[Yx.mp hx];exact Int.le_refl _⟩
 |a::b::r,_=>by
  obtain⟨i,hi,h⟩:=G3 (b::r) (by simp);by_cases c:a<=(b::r)[i]
  ·refine⟨0,by simp,fun x hx=>?_⟩;rcases Y2.mp hx with rfl|hx
   ·exact Int.le_refl _
   ·exact Int.le_trans c (h x hx)
  ·refine⟨i+1,by simpa using hi,fun x hx=>?_⟩;have e:(a::b::r)[i+1]'(by simpa using hi)=(b::r)[i]:=rfl;rw[e];rcases Y2.mp hx with rfl|hx
   ·omega
   ·exact h x hx
def CO:∀{t:List Int},¬t.Nodup->∃a x b c,t=a++x::(b++x::c)
 |[],h=>absurd Qf h
 |y::t,h=>by
  by_cases hy:y∈t
  ·obtain⟨b,c,e⟩:=List.append_of_mem hy;exact⟨[],y,b,c,by rw[e];rfl⟩
  ·obtain⟨a,x,b,c,e⟩:=CO (t:=t) fun z=>h (YT.mpr ⟨hy,z⟩);exact⟨y::a,x,b,c,by rw[e];rfl⟩
def CQ{hs:List Int}{ws:List (Int×Int)}{l:Int}{t:List Int}(hu:∀q∈ws,q.1≠q.2)(hl:l∈hs)(hc:PH hs ws l t)(hmin:∀u,PH hs ws l u->t.length<=u.length):Ring hs ws (l::t):=by
 have hne:t≠[]:=fun z=>by
  have h2:=hc.2;rw[z]at h2;exact hu _ h2 rfl
 have hg:=Gy hc.1;refine⟨by have:=Qk.mpr hne;simp;omega,YT.mpr ⟨fun z=>absurd (hg l z).2 (by omega),?_⟩,fun x hx=>?_,CF hc.1,fun x y h1 h2=>?_⟩
 ·refine YU fun z=>?_;obtain⟨a,x,b,c,e⟩:=CO z;have h1:=hc.1;rw[e]at h1;obtain⟨p1,p2⟩:=path_app.mp h1;have p3:=(path_app (a:=x::b) (b:=x::c) (g:=Uy l a)).mp p2
  have cl:PH hs ws l (a++x::c):=by
   refine⟨path_app.mpr ⟨p1,p2.1,p2.2.1,p3.2.2.2⟩,?_⟩
   have e2:Uy l (a++x::c)=Uy l t:=by
    rw[e,Ph,Ph];show Uy x c=Uy x (b++x::c);rw[Ph];rfl
   rw[e2];exact hc.2
  have:=hmin _ cl
  rw[e]at this;simp at this;omega
 ·rcases Y2.mp hx with rfl|hx
  ·exact hl
  ·exact(hg x hx).1
 ·cases h1
  have e:=Aa l t;simp only[YE,Qp]at h2;rw[e]at h2;cases h2
  exact hc.2
def Ks(ws:List (Int×Int)):Prop:=ws.length<=20/\ws.Nodup/\∀q∈ws,(1<=q.1/\q.1<=10/\1<=q.2/\q.2<=10)/\q.1≠q.2
end M
namespace Pu
open PySem PySem.Spec PyProof.Rows L2 Own
inductive D where
 |int (i:Int)|bl (b:Bool)|non|str (x:Str)|ty (n:String)|tup (ds:List D)|lst (ds:List D)|scr (ns:List Int)|dK (kvs:List (Key×V))|dT (kvs:List (List Key×V))|loc (a:Addr) (d:D)|err (C:Addr)|ref (a:Addr)|ins (C:Addr) (xs:List Str) (ds:List D)|dF (kvs:List (List Key×V))
mutual
inductive Rp (K:Za) (H:Hp):D->V->Prop
 |int (i:Int):Rp K H (.int i) (.int i)
 |bl (b:Bool):Rp K H (.bl b) (.bl b)
 |non:Rp K H .non .non
 |str (x:Str):Rp K H (.str x) (.str x)
 |ty (n:String):Rp K H (.ty n) (.ty n)
 |tup {ds:List D} {vs:List V} {a:Addr}:H a=some (.tup vs)->Rps K H ds vs->Rp K H (.tup ds) (.ref a)
 |lst {ds:List D} {vs:List V} {a:Addr}:H a=some (.lst vs)->Rps K H ds vs->Rp K H (.lst ds) (.ref a)
 |scr {ns:List Int} {a:Addr}:SqL K H a (ns.map V.int)->Rp K H (.scr ns) (.ref a)
 |dK {kvs:List (Key×V)} {a:Addr}:H a=some (.dK kvs)->Rp K H (.dK kvs) (.ref a)
 |dT {kvs:List (List Key×V)} {a:Addr}:H a=some (.dT kvs)->Rp K H (.dT kvs) (.ref a)
 |dF {kvs:List (List Key×V)} {o:Obj} {a:Addr}:H a=some (.frz o (.dT kvs))->Rp K H (.dF kvs) (.ref a)
 |loc {d:D} {a:Addr}:Rp K H d (.ref a)->Rp K H (.loc a d) (.ref a)
 |err {C a:Addr}:H a=some (ExcR.ErrH a C)->Rp K H (.err C) (.ref a)
 |ref (a:Addr):Rp K H (.ref a) (.ref a)
 |ins {C a dx:Addr} {xs:List Str} {ds:List D} {vs:List V}:H a=some (.ins C dx (xs.zip vs))->xs.length=vs.length->Rps K H ds vs->Rp K H (.ins C xs ds) (.ref a)
inductive Rps (K:Za) (H:Hp):List D->List V->Prop
 |nil:Rps K H [] []
 |cons {d:D} {v:V} {ds:List D} {vs:List V}:Rp K H d v->Rps K H ds vs->Rps K H (d::ds) (v::vs)
end
section
variable {K:Za}{H H':Hp}
mutual
def Rp.mono (S:Same H H'):∀{d:D}{v:V},Rp K H d v->Rp K H' d v
 |_,_,.int i=>.int i
 |_,_,.bl b=>.bl b
 |_,_,.non=>.non
 |_,_,.str x=>.str x
 |_,_,.ty n=>.ty n
 |_,_,.tup h r=>.tup (S _ _ h) (Rps.mono S r)
 |_,_,.lst h r=>.lst (S _ _ h) (Rps.mono S r)
 |_,_,.scr h=>.scr (S.seq h)
 |_,_,.dK h=>.dK (S _ _ h)
 |_,_,.dT h=>.dT (S _ _ h)
 |_,_,.loc h=>.loc (Rp.mono S h)
 |_,_,.dF h=>.dF (S _ _ h)
 |_,_,.err h=>.err (S _ _ h)
 |_,_,.ref a=>.ref a
 |_,_,.ins h e r=>.ins (S _ _ h) e (Rps.mono S r)
def Rps.mono (S:Same H H'):∀{ds:List D}{vs:List V},Rps K H ds vs->Rps K H' ds vs
 |_,_,.nil=>.nil
 |_,_,.cons h r=>.cons (Rp.mono S h) (Rps.mono S r)
end
def Rps.len:∀{ds:List D}{vs:List V},Rps K H ds vs->vs.length=ds.length
 |_,_,.nil=>rfl
 |_,_,.cons _ r=>YQ (· + 1) (Rps.len r)
def Rps.get:∀{ds:List D}{vs:List V}{i:Nat}{d:D},Rps K H ds vs->ds[i]?=some d->∃v,vs[i]?=some v/\Rp K H d v
 |_,_,_,_,.nil,e=>by simp at e
 |_,_,0,_,.cons h _,e=>by simp at e;subst e;exact⟨_,rfl,h⟩
 |_,_,i+1,d,.cons _ r,e=>by
  obtain⟨v,h1,h2⟩:=Rps.get (i:=i) (d:=d) r (by simpa using e);exact⟨v,by simpa using h1,h2⟩
def Rps.append:∀{ds es:List D}{vs us:List V},Rps K H ds vs->Rps K H es us->Rps K H (ds++es) (vs++us)
 |_,_,_,_,.nil,s=>s
 |_,_,_,_,.cons h r,s=>.cons h (Rps.append r s)
def Rps.drop:∀{ds:List D}{vs:List V} (n:Nat),Rps K H ds vs->Rps K H (ds.drop n) (vs.drop n)
 |_,_,0,r=>r
 |_,_,_+1,.nil=>.nil
 |_,_,n+1,.cons _ r=>Rps.drop n r
def Rps.take:∀{ds:List D}{vs:List V} (n:Nat),Rps K H ds vs->Rps K H (ds.take n) (vs.take n)
 |_,_,0,_=>.nil
 |_,_,_+1,.nil=>.nil
 |_,_,n+1,.cons h r=>.cons h (Rps.take n r)
end
mutual
def imm:D->Bool
 | .tup ds=>imms ds
 | .lst _=>false
 | .scr _=>false
 | .dK _=>false
 | .dT _=>false
 | .loc _ _=>false
 | .err _=>false
 | .ins _ _ _=>false
 |_=>true
def imms:List D->Bool
 |[]=>true
 |d::r=>imm d&&imms r
end
open Classical in
noncomputable def off(Z:Addr->Prop)(H:Hp):Hp:=fun b=>if Z b then none else H b
section
variable {K:Za}{H H':Hp}{Z Z':Addr->Prop}
def XD{b:Addr}{o:HO}(h:off Z H b=some o):H b=some o/\¬Z b:=by
 unfold off at h;by_cases z:Z b
 ·rw[Yr z]at h;cases h
 ·rw[Yp z]at h;exact⟨h,z⟩
def U7{b:Addr}{o:HO}(h:H b=some o)(z:¬Z b):off Z H b=some o:=by
 unfold off;rw[Yp z];exact h
def Uk(S:Same H H')(hz:∀b o,H b=some o->¬Z b->¬Z' b):Same (off Z H) (off Z' H'):=fun b o h=>by
 obtain⟨h1,h2⟩:=XD h;exact U7 (S b o h1) (hz b o h1 h2)
def off_sub:Same (off Z H) H:=fun _ _ h=>(XD h).1
mutual
def Rp.off (hm:∀b,Z b->Mut (H b)):∀{d:D}{v:V},Rp K H d v->imm d=true->Rp K (off Z H) d v
 |_,_,.int i,_=>.int i
 |_,_,.bl b,_=>.bl b
 |_,_,.non,_=>.non
 |_,_,.str x,_=>.str x
 |_,_,.ty n,_=>.ty n
 |_,_,.tup h r,e=>.tup (U7 h fun z=>by have:=hm _ z;rw[h]at this;exact this) (Rps.off hm r (by unfold imm at e;exact e))
 |_,_,.lst _ _,e=>by unfold imm at e;cases e
 |_,_,.scr _,e=>by unfold imm at e;cases e
 |_,_,.dK _,e=>by unfold imm at e;cases e
 |_,_,.dT _,e=>by unfold imm at e;cases e
 |_,_,.loc _,e=>by unfold imm at e;cases e
 |_,_,.dF h,_=>.dF (U7 h fun z=>by have:=hm _ z;rw[h]at this;exact this)
 |_,_,.err _,e=>by unfold imm at e;cases e
 |_,_,.ref a,_=>.ref a
 |_,_,.ins _ _ _,e=>by unfold imm at e;cases e
def Rps.off (hm:∀b,Z b->Mut (H b)):∀{ds:List D}{vs:List V},Rps K H ds vs->imms ds=true->Rps K (off Z H) ds vs
 |_,_,.nil,_=>.nil
 |_,_,.cons h r,e=>by
  unfold imms at e;rw[Wc]at e;exact .cons (Rp.off hm h e.1) (Rps.off hm r e.2)
end
end
inductive O where
 |lst (ds:List D)|dK (kvs:List (Key×V))|dT (kvs:List (List Key×V))|ins (a C:Addr) (xs:List Str) (cs:List (Addr×List D))|lsA (a:Addr) (ds:List D)|nst (cs:List (Addr×List D))|nsl (a:Addr) (cs:List (Addr×List D))
instance:Coe (List D) O:=⟨O.lst⟩
def O.d:O->D
 | .lst ds=>.lst ds | .dK kvs=>.dK kvs | .dT kvs=>.dT kvs | .ins _ C xs cs=>.ins C xs (cs.map fun c=>.lst c.2) | .lsA _ ds=>.lst ds | .nst cs=>.tup (cs.map fun c=>.lst c.2) | .nsl _ cs=>.lst (cs.map fun c=>.lst c.2)
def O.adr (a:Addr):O->Addr->Prop
 | .lst _=>fun b=>b=a
 | .dK _=>fun b=>b=a
 | .dT _=>fun b=>b=a
 | .ins x _ _ cs=>fun b=>b=x\/∃c∈cs,b=c.1
 | .lsA x _=>fun b=>b=x
 | .nst cs=>fun b=>∃c∈cs,b=c.1
 | .nsl x cs=>fun b=>b=x\/∃c∈cs,b=c.1
def OR(K:Za)(F H:Hp)(a:Addr):O->Prop
 | .lst ds=>∃vs,H a=some (.lst vs)/\Rps K F ds vs
 | .dK kvs=>H a=some (.dK kvs)
 | .dT kvs=>H a=some (.dT kvs)
 | .lsA x ds=>a=x/\∃vs,H a=some (.lst vs)/\Rps K F ds vs
 | .ins x C xs cs=>a=x/\xs.length=cs.length/\(∃dx,H a=some (.ins C dx (xs.zip (cs.map fun c=>V.ref c.1))))/\(∀c∈cs,∃vs,H c.1=some (.lst vs)/\Rps K F c.2 vs)/\(cs.map (·.1)).Nodup
 | .nsl x cs=>a=x/\H a=some (.lst (cs.map fun c=>V.ref c.1))/\(∀c∈cs,∃vs,H c.1=some (.lst vs)/\Rps K F c.2 vs)/\(x::cs.map (·.1)).Nodup
 | .nst cs=>F a=some (.tup (cs.map fun c=>V.ref c.1))/\(∀c∈cs,∃vs,H c.1=some (.lst vs)/\Rps K F c.2 vs)/\(cs.map (·.1)).Nodup
def OR.mono {K:Za}{F F' H H':Hp}{a:Addr}{o:O} (S1:Same F F') (S2:∀b,o.adr a b->∀x,H b=some x->H' b=some x) (h:OR K F H a o):OR K F' H' a o:=by
 cases o with
 |lst ds=>obtain⟨vs,h1,h2⟩:=h;exact⟨vs,S2 _ rfl _ h1,Rps.mono S1 h2⟩
 |dK kvs=>exact S2 _ rfl _ h
 |dT kvs=>exact S2 _ rfl _ h
 |lsA x ds=>obtain⟨rfl,vs,h1,h2⟩:=h;exact⟨rfl,vs,S2 _ rfl _ h1,Rps.mono S1 h2⟩
 |nsl x cs=>
  obtain⟨e,h1,h2,h3⟩:=h;exact⟨e,S2 _ (.inl e) _ h1,fun c hc=>let ⟨vs,q1,q2⟩:=h2 c hc;⟨vs,S2 _ (.inr ⟨c,hc,rfl⟩) _ q1,Rps.mono S1 q2⟩,h3⟩
 |nst cs=>
  obtain⟨h1,h2,h3⟩:=h;exact⟨S1 _ _ h1,fun c hc=>let ⟨vs,q1,q2⟩:=h2 c hc;⟨vs,S2 _ ⟨c,hc,rfl⟩ _ q1,Rps.mono S1 q2⟩,h3⟩
 |ins x C xs cs=>
  obtain⟨e,l,⟨dx,h1⟩,h2,h3⟩:=h;exact⟨e,l,⟨dx,S2 _ (.inl e) _ h1⟩,fun c hc=>let ⟨vs,q1,q2⟩:=h2 c hc;⟨vs,S2 _ (.inr ⟨c,hc,rfl⟩) _ q1,Rps.mono S1 q2⟩,h3⟩
def KU{K:Za}{F:Hp}:∀{cs:List (Addr×List D)},(∀c∈cs,∃vs,F c.1=some (.lst vs)/\Rps K F c.2 vs)->Rps K F (cs.map fun c=>.lst c.2) (cs.map fun c=>V.ref c.1)
 |[],_=>.nil
 |c::cs,h=>let ⟨_,q1,q2⟩:=h c YN;.cons (.lst q1 q2) (KU fun c' hc=>h c' (YF _ hc))
def OR.rpIn {K:Za}{F F' H:Hp}{a:Addr}{o:O} (S1:Same F F') (S2:∀b,o.adr a b->∀x,H b=some x->F' b=some x) (h:OR K F H a o):Rp K F' o.d (.ref a):=by
 cases o with
 |lst ds=>obtain⟨vs,h1,h2⟩:=h;exact .lst (S2 _ rfl _ h1) (Rps.mono S1 h2)
 |dK kvs=>exact .dK (S2 _ rfl _ h)
 |dT kvs=>exact .dT (S2 _ rfl _ h)
 |lsA x ds=>obtain⟨rfl,vs,h1,h2⟩:=h;exact .lst (S2 _ rfl _ h1) (Rps.mono S1 h2)
 |nsl x cs=>
  obtain⟨e,h1,h2,h3⟩:=h;exact .lst (S2 _ (.inl e) _ h1) (KU fun c hc=>let ⟨vs,q1,q2⟩:=h2 c hc;⟨vs,S2 _ (.inr ⟨c,hc,rfl⟩) _ q1,Rps.mono S1 q2⟩)
 |nst cs=>
  obtain⟨h1,h2,h3⟩:=h;exact .tup (S1 _ _ h1) (KU fun c hc=>let ⟨vs,q1,q2⟩:=h2 c hc;⟨vs,S2 _ ⟨c,hc,rfl⟩ _ q1,Rps.mono S1 q2⟩)
 |ins x C xs cs=>
  obtain⟨e,l,⟨dx,h1⟩,h2,h3⟩:=h;exact .ins (S2 _ (.inl e) _ h1) (by rw[Ym];exact l) (KU fun c hc=>let ⟨vs,q1,q2⟩:=h2 c hc;⟨vs,S2 _ (.inr ⟨c,hc,rfl⟩) _ q1,Rps.mono S1 q2⟩)
def OR.rp {K:Za}{F H:Hp}{a:Addr}{o:O} (S1:Same F H) (h:OR K F H a o):Rp K H o.d (.ref a):=h.rpIn S1 fun _ _ _ e=>e
def OR.mut {K:Za}{F H:Hp}{a:Addr}{o:O} (h:OR K F H a o):∀b,o.adr a b->Mut (H b):=by
 cases o with
 |lst ds=>obtain⟨vs,h1,h2⟩:=h;intro b e;rw[show b=a from e,h1];trivial
 |dK kvs=>intro b e;rw[show b=a from e,show H a=some (.dK kvs)from h];trivial
 |dT kvs=>intro b e;rw[show b=a from e,show H a=some (.dT kvs)from h];trivial
 |lsA x ds=>obtain⟨rfl,vs,h1,h2⟩:=h;intro b e;rw[show b=a from e,h1];trivial
 |nsl x cs=>
  obtain⟨e,h1,h2,h3⟩:=h;intro b hb;rcases hb with hb|⟨c,hc,hb⟩
  ·rw[show b=a from hb.trans e.symm,h1];trivial
  ·obtain⟨vs,q1,_⟩:=h2 c hc;rw[hb,q1];trivial
 |nst cs=>
  obtain⟨h1,h2,h3⟩:=h;rintro b ⟨c,hc,hb⟩;obtain⟨vs,q1,_⟩:=h2 c hc;rw[hb,q1];trivial
 |ins x C xs cs=>
  obtain⟨e,l,⟨dx,h1⟩,h2,h3⟩:=h;intro b hb;rcases hb with hb|⟨c,hc,hb⟩
  ·rw[show b=a from hb.trans e.symm,h1];trivial
  ·obtain⟨vs,q1,_⟩:=h2 c hc;rw[hb,q1];trivial
inductive S where
 |bor (d:D)|sh (d:D)|own (o:O)|view (o:O)|tmp (d:D)
abbrev Γ:=List (Option S)
def D.strip:D->D
 | .loc _ d=>d|d=>d
def Rp.strip {K:Za}{H:Hp}{d:D}{v:V} (h:Rp K H d v):Rp K H d.strip v:=by
 cases h with
 |loc h=>exact h
 |int i=>exact .int i
 |bl b=>exact .bl b
 |non=>exact .non
 |str x=>exact .str x
 |ty n=>exact .ty n
 |tup h r=>exact .tup h r
 |lst h r=>exact .lst h r
 |scr h=>exact .scr h
 |dK h=>exact .dK h
 |dT h=>exact .dT h
 |dF h=>exact .dF h
 |err h=>exact .err h
 |ref a=>exact .ref a
 |ins h e r=>exact .ins h e r
def S.d:S->D
 | .bor d=>d.strip | .sh d=>d | .own o=>o.d | .view o=>o.d | .tmp d=>d
def arg(d:D):S:=match imm d with|true=>.sh d|false=>.bor d
def argT(d:D):S:=match imm d with|true=>.sh d|false=>.tmp d
def S.sub:S->D->S
 | .bor _,e=>arg e | .tmp _,e=>argT e | .own (.nst _),e=>argT e | .view (.nst _),e=>argT e | .own (.nsl _ _),e=>argT e | .view (.nsl _ _),e=>argT e|_,e=>.sh e
def S.shd:S->Option D
 | .sh d=>some d | .own o=>some o.d
 | .bor d=>match imm d with|true=>some d|false=>none
 | .tmp d=>match imm d with|true=>some d|false=>none
 | .view _=>none
def S.slot:S->Option S
 | .view _=>none | .bor d=>some (.bor d) | .sh d=>some (.sh d) | .own ds=>some (.own ds)
 | .tmp d=>match imm d with|true=>some (.sh d)|false=>none
def Zbm(γ:Γ)(σ:L2.St)(b:Addr):Prop:=∃(i:Nat) (ds:O) (a:Addr),γ[i]?=some (some (.own ds))/\σ[i]?=some (some (.ref a))/\ds.adr a b
def zof(B:Addr->Prop)(γ:Γ)(σ:L2.St):Addr->Prop:=fun b=>B b\/Zbm γ σ b
def SV(K:Za)(Z:Addr->Prop)(H0 H:Hp):S->V->Prop
 | .bor d,v=>Rp K H0 d v
 | .sh d,v=>Rp K (off Z H) d v
 | .own o,v=>∃a,v=.ref a/\(∀b,o.adr a b->H0 b=none)/\OR K (off Z H) H a o
 |_,_=>False
def TV(K:Za)(Z:Addr->Prop)(H0 H H':Hp):S->V->Prop
 | .bor d,v=>Rp K H0 d v
 | .sh d,v=>Rp K (off Z H') d v
 | .own o,v=>∃a,v=.ref a/\(∀b,o.adr a b->H b=none)/\OR K (off (fun b=>Z b\/o.adr a b) H') H' a o
 | .view o,v=>∃a,v=.ref a/\OR K (off Z H') H' a o
 | .tmp d,v=>Rp K H' d v
structure EnvR (K:Za) (H0:Hp) (B:Addr->Prop) (H:Hp) (σ:L2.St) (γ:Γ):Prop where
 same:Same H0 H
 len:σ.length=γ.length
 bm:∀b,B b->Mut (H b)
 own:∀(i j:Nat) (a a':Addr) (ds es:O) (b:Addr),γ[i]?=some (some (.own ds))->γ[j]?=some (some (.own es))->σ[i]?=some (some (.ref a))->σ[j]?=some (some (.ref a'))->ds.adr a b->es.adr a' b->i=j
 slot:∀(i:Nat) (s:S),γ[i]?=some (some s)->∃v,σ[i]?=some (some v)/\SV K (zof B γ σ) H0 H s v
section
variable {K:Za}{H0 H H1 H':Hp}{B Z Z':Addr->Prop}{σ:L2.St}{γ:Γ}
def Ki(S:Same H H'){b:Addr}(h:Mut (H b)):Mut (H' b):=by
 cases e:H b with
 |none=>rw[e]at h;exact h.elim
 |some o=>rw[S b o e,←e];exact h
def K4{b:Addr}(h:Mut (H b)):∃o,H b=some o:=by
 cases e:H b with
 |none=>rw[e]at h;exact h.elim
 |some o=>exact⟨o,rfl⟩
def EnvR.grow (E:EnvR K H0 B H σ γ) (S:Same H H'):EnvR K H0 B H' σ γ where
 same:=E.same.trans S
 len:=E.len
 bm b h:=Ki S (E.bm b h)
 own:=E.own
 slot i s h:=by
  obtain⟨v,h1,h2⟩:=E.slot i s h;refine⟨v,h1,?_⟩;cases s with
  |bor d=>exact h2
  |sh d=>exact Rp.mono (Uk S fun _ _ _ z=>z) h2
  |own ds=>
   obtain⟨a,e1,e3,e4⟩:=h2;exact⟨a,e1,e3,e4.mono (Uk S fun _ _ _ z=>z) fun b _ x=>S b x⟩
  |view ds=>exact h2
  |tmp d=>exact h2
def EnvR.zm (E:EnvR K H0 B H σ γ):∀b,zof B γ σ b->Mut (H b):=fun b h=>by
 rcases h with h|⟨i,ds,x,h1,h2,hb⟩
 ·exact E.bm b h
 ·obtain⟨v,e1,a,e2,e3,e4⟩:=E.slot i _ h1;rw[h2]at e1;cases e1
  cases e2
  exact e4.mut b hb
def TV.rp {s:S}{v:V} (h0:Same H0 H') (h:TV K Z H0 H H' s v):Rp K H' s.d v:=by
 cases s with
 |bor d=>exact(Rp.mono h0 h).strip
 |sh d=>exact Rp.mono off_sub h
 |own ds=>
  obtain⟨a,rfl,_,r⟩:=h;exact r.rp off_sub
 |view ds=>
  obtain⟨a,rfl,r⟩:=h;exact r.rp off_sub
 |tmp d=>exact h
def TV.grow {s:S}{v:V} (S1:Same H' H1) (h:TV K Z H0 H H' s v):TV K Z H0 H H1 s v:=by
 cases s with
 |bor d=>exact h
 |sh d=>exact Rp.mono (Uk S1 fun _ _ _ z=>z) h
 |own ds=>
  obtain⟨a,rfl,e0,r⟩:=h;exact⟨a,rfl,e0,r.mono (Uk S1 fun _ _ _ z=>z) fun b _ x=>S1 b x⟩
 |view ds=>
  obtain⟨a,rfl,r⟩:=h;exact⟨a,rfl,r.mono (Uk S1 fun _ _ _ z=>z) fun b _ x=>S1 b x⟩
 |tmp d=>exact Rp.mono S1 h
def TV.weak {s:S}{v:V} (S1:Same H H1) (hz:∀b,Z b->Z' b) (h:TV K Z' H0 H1 H' s v):TV K Z H0 H H' s v:=by
 cases s with
 |bor d=>exact h
 |sh d=>exact Rp.mono (Uk (Same.refl _) fun b _ _ z y=>z (hz b y)) h
 |own ds=>
  obtain⟨a,rfl,e0,r⟩:=h;exact⟨a,rfl,fun b hb=>S1.free (e0 b hb),r.mono (Uk (Same.refl _) fun b _ _ z y=>z (y.imp (hz b) id)) fun _ _ _ q=>q⟩
 |view ds=>
  obtain⟨a,rfl,r⟩:=h;exact⟨a,rfl,r.mono (Uk (Same.refl _) fun b _ _ z y=>z (hz b y)) fun _ _ _ q=>q⟩
 |tmp d=>exact h
def TV.shd {s:S}{v:V}{d:D} (h0:Same H0 H') (hm:∀b,Z b->Mut (H b)) (S1:Same H H') (h:TV K Z H0 H H' s v) (e:s.shd=some d):Rp K (off Z H') d v:=by
 have hm':∀b,Z b->Mut (H' b):=fun b z=>Ki S1 (hm b z);cases s with
 |bor d'=>
  unfold S.shd at e;cases q:imm d' with
  |false=>simp[q]at e
  |true=>
   simp[q]at e;subst e;exact Rp.off hm' (Rp.mono h0 h) q
 |sh d'=>cases e;exact h
 |own ds=>
  cases e
  obtain⟨a,rfl,e0,r⟩:=h;exact r.rpIn (Uk (Same.refl _) fun b _ _ z y=>z (.inl y)) fun b hb x e=>U7 e fun z=>by have:=hm _ z;rw[e0 b hb]at this;exact this
 |view ds=>cases e
 |tmp d'=>
  unfold S.shd at e;cases q:imm d' with
  |false=>simp[q]at e
  |true=>
   simp[q]at e;subst e;exact Rp.off hm' h q
def argR{d:D}{v:V}(hm:∀b,Z b->Mut (H' b))(h0:Same H0 H')(h:Rp K H0 d v):TV K Z H0 H H' (arg d) v:=by
 unfold arg;cases q:imm d with
 |true=>exact Rp.off hm (Rp.mono h0 h) q
 |false=>exact h
def Kj{d:D}{v:V}(hm:∀b,Z b->Mut (H' b))(h:Rp K H' d v):TV K Z H0 H H' (argT d) v:=by
 unfold argT;cases q:imm d with
 |true=>exact Rp.off hm h q
 |false=>exact h
def Rp.lst_inv {ds:List D}{v:V} (h:Rp K H (.lst ds) v):∃a vs,v=.ref a/\H a=some (.lst vs)/\Rps K H ds vs:=by
 cases h with
 |lst h r=>exact⟨_,_,rfl,h,r⟩
def Rp.tup_inv {ds:List D}{v:V} (h:Rp K H (.tup ds) v):∃a vs,v=.ref a/\H a=some (.tup vs)/\Rps K H ds vs:=by
 cases h with
 |tup h r=>exact⟨_,_,rfl,h,r⟩
def TV.part {s:S}{v:V} (h0:Same H0 H') (hm:∀b,Z b->Mut (H b)) (S1:Same H H') (h:TV K Z H0 H H' s v) :
  (∀ds,s.d=.lst ds->∃a vs,v=.ref a/\H' a=some (.lst vs)/\vs.length=ds.length/\∀(i:Nat) d,ds[i]?=some d->∃u,vs[i]?=some u/\TV K Z H0 H H' (s.sub d) u)/\
  (∀ds,s.d=.tup ds->∃a vs,v=.ref a/\H' a=some (.tup vs)/\vs.length=ds.length/\∀(i:Nat) d,ds[i]?=some d->∃u,vs[i]?=some u/\TV K Z H0 H H' (s.sub d) u):=by
 have hm':∀b,Z b->Mut (H' b):=fun b z=>Ki S1 (hm b z);cases s with
 |bor d=>
  have h:=Rp.strip h;refine⟨fun ds e=>?_,fun ds e=>?_⟩<;>rw[show d.strip=_ from e]at h
  ·obtain⟨a,vs,rfl,h,r⟩:=Rp.lst_inv h;exact⟨_,_,rfl,h0 _ _ h,r.len,fun i d e=>let ⟨u,h1,h2⟩:=r.get e;⟨u,h1,argR hm' h0 h2⟩⟩
  ·obtain⟨a,vs,rfl,h,r⟩:=Rp.tup_inv h;exact⟨_,_,rfl,h0 _ _ h,r.len,fun i d e=>let ⟨u,h1,h2⟩:=r.get e;⟨u,h1,argR hm' h0 h2⟩⟩
 |sh d=>
  refine⟨fun ds e=>?_,fun ds e=>?_⟩<;>(have e':d=_:=e;subst e')
  ·obtain⟨a,vs,rfl,h,r⟩:=Rp.lst_inv h;exact⟨_,_,rfl,off_sub _ _ h,r.len,fun i d e=>r.get e⟩
  ·obtain⟨a,vs,rfl,h,r⟩:=Rp.tup_inv h;exact⟨_,_,rfl,off_sub _ _ h,r.len,fun i d e=>r.get e⟩
 |own es=>
  cases es with
  |lst es=>
   refine⟨fun ds e=>?_,fun ds e=>by cases e⟩;cases e
   obtain⟨a,rfl,e0,vs,e,r⟩:=h;exact⟨a,vs,rfl,e,r.len,fun i d e=>let ⟨u,h1,h2⟩:=r.get e;⟨u,h1,Rp.mono (Uk (Same.refl _) fun b _ _ z y=>z (.inl y)) h2⟩⟩
  |lsA x es=>
   refine⟨fun ds e=>?_,fun ds e=>by cases e⟩;cases e
   obtain⟨a,rfl,e0,_,vs,e,r⟩:=h;exact⟨a,vs,rfl,e,r.len,fun i d e=>let ⟨u,h1,h2⟩:=r.get e;⟨u,h1,Rp.mono (Uk (Same.refl _) fun b _ _ z y=>z (.inl y)) h2⟩⟩
  |dK es=>exact⟨(fun ds e=>by cases e),(fun ds e=>by cases e)⟩
  |dT es=>exact⟨(fun ds e=>by cases e),(fun ds e=>by cases e)⟩
  |nsl x cs=>
   refine⟨fun ds e=>?_,fun ds e=>by cases e⟩;cases e
   obtain⟨a,rfl,e0,_,e1,e2,e3⟩:=h;have r:Rps K H' (cs.map fun c=>D.lst c.2) (cs.map fun c=>V.ref c.1):=KU fun c hc=>let ⟨vs,q1,q2⟩:=e2 c hc;⟨vs,q1,Rps.mono off_sub q2⟩;exact⟨a,_,rfl,e1,r.len,fun i d e=>let ⟨u,h1,h2⟩:=r.get e;⟨u,h1,Kj hm' h2⟩⟩
  |nst cs=>
   refine⟨(fun ds e=>by cases e),fun ds e=>?_⟩;cases e
   obtain⟨a,rfl,e0,e1,e2,e3⟩:=h;have r:Rps K H' (cs.map fun c=>D.lst c.2) (cs.map fun c=>V.ref c.1):=KU fun c hc=>let ⟨vs,q1,q2⟩:=e2 c hc;⟨vs,q1,Rps.mono off_sub q2⟩;exact⟨a,_,rfl,off_sub _ _ e1,r.len,fun i d e=>let ⟨u,h1,h2⟩:=r.get e;⟨u,h1,Kj hm' h2⟩⟩
  |ins x C xs cs=>exact⟨(fun ds e=>by cases e),(fun ds e=>by cases e)⟩
 |view es=>
  cases es with
  |lst es=>
   refine⟨fun ds e=>?_,fun ds e=>by cases e⟩;cases e
   obtain⟨a,rfl,vs,e,r⟩:=h;exact⟨a,vs,rfl,e,r.len,fun i d e=>r.get e⟩
  |lsA x es=>
   refine⟨fun ds e=>?_,fun ds e=>by cases e⟩;cases e
   obtain⟨a,rfl,_,vs,e,r⟩:=h;exact⟨a,vs,rfl,e,r.len,fun i d e=>r.get e⟩
  |dK es=>exact⟨(fun ds e=>by cases e),(fun ds e=>by cases e)⟩
  |dT es=>exact⟨(fun ds e=>by cases e),(fun ds e=>by cases e)⟩
  |nsl x cs=>
   refine⟨fun ds e=>?_,fun ds e=>by cases e⟩;cases e
   obtain⟨a,rfl,_,e1,e2,e3⟩:=h;have r:Rps K H' (cs.map fun c=>D.lst c.2) (cs.map fun c=>V.ref c.1):=KU fun c hc=>let ⟨vs,q1,q2⟩:=e2 c hc;⟨vs,q1,Rps.mono off_sub q2⟩;exact⟨a,_,rfl,e1,r.len,fun i d e=>let ⟨u,h1,h2⟩:=r.get e;⟨u,h1,Kj hm' h2⟩⟩
  |nst cs=>
   refine⟨(fun ds e=>by cases e),fun ds e=>?_⟩;cases e
   obtain⟨a,rfl,e1,e2,e3⟩:=h;have r:Rps K H' (cs.map fun c=>D.lst c.2) (cs.map fun c=>V.ref c.1):=KU fun c hc=>let ⟨vs,q1,q2⟩:=e2 c hc;⟨vs,q1,Rps.mono off_sub q2⟩;exact⟨a,_,rfl,off_sub _ _ e1,r.len,fun i d e=>let ⟨u,h1,h2⟩:=r.get e;⟨u,h1,Kj hm' h2⟩⟩
  |ins x C xs cs=>exact⟨(fun ds e=>by cases e),(fun ds e=>by cases e)⟩
 |tmp d=>
  refine⟨fun ds e=>?_,fun ds e=>?_⟩<;>(have e':d=_:=e;subst e')
  ·obtain⟨a,vs,rfl,h,r⟩:=Rp.lst_inv h;exact⟨_,_,rfl,h,r.len,fun i d e=>let ⟨u,h1,h2⟩:=r.get e;⟨u,h1,Kj hm' h2⟩⟩
  ·obtain⟨a,vs,rfl,h,r⟩:=Rp.tup_inv h;exact⟨_,_,rfl,h,r.len,fun i d e=>let ⟨u,h1,h2⟩:=r.get e;⟨u,h1,Kj hm' h2⟩⟩
def Fr(B:Addr->Prop)(H:Hp)(σ:L2.St)(γ:Γ)(H':Hp)(σ':L2.St)(γ':Γ):Prop:=∀b o,H b=some o->¬zof B γ σ b->H' b=some o/\¬zof B γ' σ' b
def Fr.refl:Fr B H σ γ H σ γ:=fun _ _ h z=>⟨h,z⟩
def Fr.trans {H1 H2:Hp}{σ1 σ2:L2.St}{γ1 γ2:Γ} (a:Fr B H σ γ H1 σ1 γ1) (b:Fr B H1 σ1 γ1 H2 σ2 γ2):Fr B H σ γ H2 σ2 γ2:=fun x o h z=>let ⟨h1,z1⟩:=a x o h z;b x o h1 z1
def Fr.grow (S1:Same H H'):Fr B H σ γ H' σ γ:=fun _ _ h z=>⟨S1 _ _ h,z⟩
def Fr.off {H':Hp}{σ':L2.St}{γ':Γ} (f:Fr B H σ γ H' σ' γ'):Same (off (zof B γ σ) H) (Pu.off (zof B γ' σ') H'):=fun b o h=>by
 obtain⟨h1,h2⟩:=XD h;obtain⟨h3,h4⟩:=f b o h1 h2;exact U7 h3 h4
def U4{α:Type}{l:List α}{i j:Nat}{x y:α}(h:(l.set i x)[j]?=some y):(j=i/\x=y/\i<l.length)\/(j≠i/\l[j]?=some y):=by
 rw[VA]at h;by_cases e:i=j
 ·subst e;rw[Yr rfl]at h;by_cases e2:i<l.length
  ·rw[Yr e2]at h;exact .inl ⟨rfl,Yz h,e2⟩
  ·rw[Yp e2]at h;cases h
 ·rw[Yp e]at h;exact .inr ⟨fun z=>e z.symm,h⟩
def Su{α:Type}{l:List α}{i:Nat}{x:α}(h:i<l.length):(l.set i x)[i]?=some x:=by rw[Qt h]
def Pe{α:Type}{l:List α}{i j:Nat}{x:α}(h:j≠i):(l.set i x)[j]?=l[j]?:=Q5 fun z=>h z.symm
def EnvR.drop (E:EnvR K H0 B H σ γ) (i:Nat):EnvR K H0 B H σ (γ.set i none)/\Fr B H σ γ H σ (γ.set i none):=by
 have hz:∀b,zof B (γ.set i none) σ b->zof B γ σ b:=fun b z=>z.imp id fun⟨j,ds,a,h1,h2,h3⟩=>by
  rcases U4 h1 with⟨_,e,_⟩|⟨_,e⟩
  ·cases e
  ·exact⟨j,ds,a,e,h2,h3⟩
 refine⟨⟨E.same,by rw[Wo];exact E.len,E.bm,fun k j a a' ds es b h1 h2=>?_,fun k s h=>?_⟩,fun b o h z=>⟨h,fun y=>z (hz b y)⟩⟩
 ·rcases U4 h1 with⟨_,e,_⟩|⟨_,e1⟩
  ·cases e
  ·rcases U4 h2 with⟨_,e,_⟩|⟨_,e2⟩
   ·cases e
   ·exact E.own k j a a' ds es b e1 e2
 ·rcases U4 h with⟨_,e,_⟩|⟨_,e⟩
  ·cases e
  ·obtain⟨v,h1,h2⟩:=E.slot k s e;refine⟨v,h1,?_⟩;have S1:Same (Pu.off (zof B γ σ) H) (Pu.off (zof B (γ.set i none) σ) H):=Uk (Same.refl _) fun b _ _ z y=>z (hz b y);cases s with
   |bor d=>exact h2
   |sh d=>exact Rp.mono S1 h2
   |own ds=>
    obtain⟨a,e1,e3,e4⟩:=h2;exact⟨a,e1,e3,e4.mono S1 fun _ _ _ q=>q⟩
   |view ds=>exact h2
   |tmp d=>exact h2
def EnvR.put {i:Nat}{s s':S}{v:V} (E:EnvR K H0 B H σ γ) (S1:Same H H') (h:TV K (zof B γ σ) H0 H H' s v) (e:s.slot=some s') (hi:i<γ.length) :
  EnvR K H0 B H' (σ.set i (some v)) (γ.set i (some s'))/\Fr B H σ γ H' (σ.set i (some v)) (γ.set i (some s')):=by
 have hiσ:i<σ.length:=by rw[E.len];exact hi
 have E':=E.grow S1
 have isown:∀ds,s'=.own ds->s=.own ds:=fun ds q=>by
  subst q;cases s with
  |own es=>cases e;rfl
  |bor d=>cases e
  |sh d=>cases e
  |view d=>cases e
  |tmp d=>unfold S.slot at e;cases q:imm d<;>simp[q]at e
 have hown:∀b,zof B (γ.set i (some s')) (σ.set i (some v)) b->zof B γ σ b\/∃ds a,s=.own ds/\v=.ref a/\ds.adr a b:=fun b z=>by
  rcases z with z|⟨j,ds,a,h1,h2,h3⟩
  ·exact .inl (.inl z)
  ·rcases U4 h1 with⟨ej,e1,_⟩|⟨nj,e1⟩
   ·subst ej;rw[Su hiσ]at h2
    have:s'=.own ds:=Yz e1
    exact .inr ⟨ds,a,isown ds this,Yz (Yz h2),h3⟩
   ·rw[Pe nj]at h2;exact .inl (.inr ⟨j,ds,a,e1,h2,h3⟩)
 have fresh:∀ds a b,s=.own ds->v=.ref a->ds.adr a b->H b=none:=fun ds a b es ev hb=>by
  subst es;obtain⟨a',e1,e0,_⟩:=h;rw[ev]at e1;cases e1
  exact e0 b hb
 have hz:∀b o,H b=some o->¬zof B γ σ b->¬zof B (γ.set i (some s')) (σ.set i (some v)) b:=fun b o hb z y=>by
  rcases hown b y with y|⟨ds,a,y1,y2,y3⟩
  ·exact z y
  ·rw[fresh ds a b y1 y2 y3]at hb;cases hb
 have So:Same (off (zof B γ σ) H) (Pu.off (zof B (γ.set i (some s')) (σ.set i (some v))) H'):=Uk S1 hz;refine⟨⟨E'.same,by rw[Wo,Wo];exact E.len,E'.bm,fun k j a a' ds es b h1 h2 h3 h4 h5 h6=>?_,fun k u hk=>?_⟩,fun b o hb z=>⟨S1 b o hb,hz b o hb z⟩⟩
 ·have old:∀(k:Nat) (ds:O) (a b:Addr),γ[k]?=some (some (.own ds))->σ[k]?=some (some (.ref a))->ds.adr a b->∃o,H b=some o:=fun k ds a b e1 e2 e3=>by
   obtain⟨u,q1,a',q2,_,q3⟩:=E.slot k _ e1;rw[e2]at q1;cases q1
   cases q2
   exact K4 (q3.mut b e3)
  rcases U4 h1 with⟨ek,e1,_⟩|⟨nk,e1⟩
  ·rcases U4 h2 with⟨ej,e2,_⟩|⟨nj,e2⟩
   ·rw[ek,ej]
   ·subst ek;rw[Su hiσ]at h3;rw[Pe nj]at h4;obtain⟨o,ho⟩:=old j es a' b e2 h4 h6;rw[fresh ds a b (isown ds (Yz e1)) (Yz (Yz h3)) h5]at ho;cases ho
  ·rcases U4 h2 with⟨ej,e2,_⟩|⟨nj,e2⟩
   ·subst ej;rw[Su hiσ]at h4;rw[Pe nk]at h3;obtain⟨o,ho⟩:=old k ds a b e1 h3 h5;rw[fresh es a' b (isown es (Yz e2)) (Yz (Yz h4)) h6]at ho;cases ho
   ·rw[Pe nk]at h3;rw[Pe nj]at h4;exact E.own k j a a' ds es b e1 e2 h3 h4 h5 h6
 ·rcases U4 hk with⟨ek,e1,_⟩|⟨nk,e1⟩
  ·subst ek
   have:u=s':=(Yz e1).symm
   subst this;refine⟨v,Su hiσ,?_⟩;cases s with
   |own ds=>
    cases e
    obtain⟨a,rfl,e0,r⟩:=h;refine⟨a,rfl,fun b hb=>E.same.free (e0 b hb),r.mono (Uk (Same.refl _) fun b o _ z y=>?_) fun _ _ _ q=>q⟩;rcases hown b y with y|⟨_,_,y1,y,y2⟩
    ·exact z (.inl y)
    ·cases y;cases y1;exact z (.inr y2)
   |sh d=>
    cases e
    refine Rp.mono (Uk (Same.refl _) fun b o _ z y=>?_) h;rcases hown b y with y|⟨_,_,y,_⟩
    ·exact z y
    ·cases y
   |bor d=>cases e;exact h
   |view d=>cases e
   |tmp d=>
    unfold S.slot at e;cases q:imm d with
    |false=>simp[q]at e
    |true=>
     simp[q]at e;subst e;refine Rp.off (fun b y=>?_) h q;rcases hown b y with y|⟨_,_,y,_⟩
     ·exact Ki S1 (E.zm b y)
     ·cases y
  ·obtain⟨w,q1,q2⟩:=E.slot k u e1;refine⟨w,by rw[Pe nk];exact q1,?_⟩;cases u with
   |bor d=>exact q2
   |sh d=>exact Rp.mono So q2
   |own ds=>
    obtain⟨a,e1,e3,e4⟩:=q2;exact⟨a,e1,e3,e4.mono So fun b _ x=>S1 b x⟩
   |view ds=>exact q2
   |tmp d=>exact q2
def frz(i:Nat)(γ:Γ):Γ:=match γ[i]? with
 |some (some (.own o))=>γ.set i (some (.sh o.d))
 |_=>γ
def EnvR.frz (E:EnvR K H0 B H σ γ) (hB:∀b,B b->∃o,H0 b=some o) (i:Nat):EnvR K H0 B H σ (frz i γ)/\Fr B H σ γ H σ (Pu.frz i γ):=by
 unfold Pu.frz;split
 ·rename_i ds hi;have hlt:i<γ.length:=(YD.mp hi).1
  have hz:∀b,zof B (γ.set i (some (.sh ds.d))) σ b->zof B γ σ b:=fun b z=>z.imp id fun⟨j,es,a,h1,h2,h3⟩=>by
   rcases U4 h1 with⟨_,e,_⟩|⟨_,e⟩
   ·cases e
   ·exact⟨j,es,a,e,h2,h3⟩
  have S1:Same (Pu.off (zof B γ σ) H) (Pu.off (zof B (γ.set i (some (.sh ds.d))) σ) H):=Uk (Same.refl _) fun b _ _ z y=>z (hz b y);refine⟨⟨E.same,by rw[Wo];exact E.len,E.bm,fun k j a a' es es' b h1 h2=>?_,fun k s h=>?_⟩,fun b o h z=>⟨h,fun y=>z (hz b y)⟩⟩
  ·rcases U4 h1 with⟨_,e,_⟩|⟨_,e1⟩
   ·cases e
   ·rcases U4 h2 with⟨_,e,_⟩|⟨_,e2⟩
    ·cases e
    ·exact E.own k j a a' es es' b e1 e2
  ·rcases U4 h with⟨ek,e,_⟩|⟨nk,e⟩
   ·subst ek
    have:=Yz e
    subst this;obtain⟨v,h1,a,rfl,h3,h4⟩:=E.slot k _ hi;refine⟨_,h1,h4.rpIn S1 fun b hb x h2=>U7 h2 fun z=>?_⟩;rcases z with z|⟨j,es,a',e1,e2,e3⟩
    ·obtain⟨o,ho⟩:=hB b z;rw[h3 b hb]at ho;cases ho
    ·rcases U4 e1 with⟨_,q,_⟩|⟨nj,q⟩
     ·cases q
     ·exact nj (E.own j k a' a es ds b q hi e2 h1 e3 hb)
   ·obtain⟨v,h1,h2⟩:=E.slot k s e;refine⟨v,h1,?_⟩;cases s with
    |bor d=>exact h2
    |sh d=>exact Rp.mono S1 h2
    |own ds=>
     obtain⟨a,e1,e3,e4⟩:=h2;exact⟨a,e1,e3,e4.mono S1 fun _ _ _ q=>q⟩
    |view ds=>exact h2
    |tmp d=>exact h2
 ·exact⟨E,Fr.refl⟩
def EnvR.change {i:Nat}{a:Addr}{o o':O} (E:EnvR K H0 B H σ γ) (hi:γ[i]?=some (some (.own o))) (ha:σ[i]?=some (some (.ref a)))
  (hH:∀b x,H b=some x->¬o.adr a b->H' b=some x) (hm:∀b,o.adr a b->Mut (H' b)) (hadr:∀b,o'.adr a b->o.adr a b\/H b=none) (r:OR K (Pu.off (zof B (γ.set i (some (.own o'))) σ) H') H' a o') :
  EnvR K H0 B H' σ (γ.set i (some (.own o')))/\Fr B H σ γ H' σ (γ.set i (some (.own o'))):=by
 have hlt:i<γ.length:=(YD.mp hi).1;obtain⟨v,h1,a',rfl,h3,h4⟩:=E.slot i _ hi;rw[ha]at h1;cases h1
 have za:∀b,o.adr a b->zof B γ σ b:=fun b hb=>.inr ⟨i,o,a,hi,ha,hb⟩
 have hz:∀b x,H b=some x->zof B (γ.set i (some (.own o'))) σ b->zof B γ σ b:=fun b x hx z=>by
  rcases z with z|⟨j,fs,a',e1,e2,e3⟩
  ·exact .inl z
  ·rcases U4 e1 with⟨ej,q,_⟩|⟨_,e⟩
   ·subst ej;cases q
    rw[ha]at e2;cases e2
    rcases hadr b e3 with k|k
    ·exact za b k
    ·rw[k]at hx;cases hx
   ·exact .inr ⟨j,fs,a',e,e2,e3⟩
 have S1:Same (Pu.off (zof B γ σ) H) (Pu.off (zof B (γ.set i (some (.own o'))) σ) H'):=fun b x h=>by
  obtain⟨q1,q2⟩:=XD h;exact U7 (hH b x q1 fun k=>q2 (za b k)) fun z=>q2 (hz b x q1 z)
 have old:∀(k:Nat) (ds:O) (a b:Addr),γ[k]?=some (some (.own ds))->σ[k]?=some (some (.ref a))->ds.adr a b->∃o,H b=some o:=fun k ds a b e1 e2 e3=>by
  obtain⟨u,q1,a',q2,_,q3⟩:=E.slot k _ e1;rw[e2]at q1;cases q1
  cases q2
  exact K4 (q3.mut b e3)
 refine⟨⟨fun b x h=>?_,by rw[Wo];exact E.len,fun b hb=>?_,fun k j x x' fs fs' b e1 e2 e3 e4 e5 e6=>?_,fun k s h=>?_⟩,fun b x h z=>⟨?_,fun y=>z (hz b x h y)⟩⟩
 ·exact hH b x (E.same b x h) fun k=>by rw[h3 b k]at h;cases h
 ·by_cases k:o.adr a b
  ·exact hm b k
  ·have:=E.bm b hb
   obtain⟨x,hx⟩:=K4 this;rw[hH b x hx k,←hx];exact this
 ·rcases U4 e1 with⟨ek,q1,_⟩|⟨nk,q1⟩
  ·rcases U4 e2 with⟨ej,_,_⟩|⟨nj,q2⟩
   ·rw[ek,ej]
   ·subst ek;cases q1
    rw[ha]at e3;cases e3
    rcases hadr b e5 with w|w
    ·exact E.own k j _ _ _ _ b hi q2 ha e4 w e6
    ·obtain⟨u,hu⟩:=old j fs' x' b q2 e4 e6;rw[w]at hu;cases hu
  ·rcases U4 e2 with⟨ej,q2,_⟩|⟨nj,q2⟩
   ·subst ej;cases q2
    rw[ha]at e4;cases e4
    rcases hadr b e6 with w|w
    ·exact E.own k j _ _ _ _ b q1 hi e3 ha e5 w
    ·obtain⟨u,hu⟩:=old k fs x b q1 e3 e5;rw[w]at hu;cases hu
   ·exact E.own k j x x' fs fs' b q1 q2 e3 e4 e5 e6
 ·rcases U4 h with⟨ek,e,_⟩|⟨nk,e⟩
  ·subst ek
   have:=Yz e
   subst this;exact⟨_,ha,a,rfl,fun b hb=>(hadr b hb).elim (h3 b) fun w=>E.same.free w,r⟩
  ·obtain⟨v,q1,q2⟩:=E.slot k s e;refine⟨v,q1,?_⟩;cases s with
   |bor d=>exact q2
   |sh d=>exact Rp.mono S1 q2
   |own fs=>
    obtain⟨x,rfl,e3,e4⟩:=q2;exact⟨x,rfl,e3,e4.mono S1 fun b hb y e2=>hH b y e2 fun w=>nk (E.own k i x a fs o b e hi q1 ha hb w)⟩
   |view ds=>exact q2
   |tmp d=>exact q2
 ·exact hH b x h fun k=>z (za b k)
def EnvR.mutate {i:Nat}{a:Addr}{ds es:O}{us:HO} (E:EnvR K H0 B H σ γ) (hi:γ[i]?=some (some (.own ds))) (ha:σ[i]?=some (some (.ref a))) (hu:Mut (some us)) (r:∀F H':Hp,Same (Pu.off (zof B γ σ) H) F->H' a=some us->OR K F H' a es)
  (k1:ds.adr a=fun b=>b=a:=by rfl) (k2:es.adr a=fun b=>b=a:=by rfl) :
  EnvR K H0 B (upd H a us) σ (γ.set i (some (.own es)))/\Fr B H σ γ (upd H a us) σ (γ.set i (some (.own es))):=by
 refine E.change (o:=ds) (o':=es) hi ha (fun b x h n=>by rw[Um (fun z=>n (by rw[k1];exact z))];exact h) (fun b h=>by rw[k1]at h;rw[show b=a from h,U6];exact hu) (fun b h=>.inl (by rw[k1];rw[k2]at h;exact h)) (r _ _ ?_ U6)
 intro b x h;obtain⟨q1,q2⟩:=XD h;have nb:b≠a:=fun z=>q2 (.inr ⟨i,ds,a,hi,ha,by rw[k1];exact z⟩);refine U7 (by rw[Um nb];exact q1) fun z=>q2 ?_;rcases z with z|⟨j,fs,a',e1,e2,e3⟩
 ·exact .inl z
 ·rcases U4 e1 with⟨ej,q,_⟩|⟨_,e⟩
  ·subst ej;cases q
   rw[ha]at e2;cases e2
   rw[k2]at e3;exact absurd e3 nb
  ·exact .inr ⟨j,fs,a',e,e2,e3⟩
end
end Pu
namespace Pu
open PySem PySem.Spec PyProof.Rows L2 Own
abbrev XR:=Str->Prop
abbrev PTE:=Γ->(S->Prop)->XR->Prop
abbrev PTT:=Γ->(Bool->Prop)->XR->Prop
abbrev PTA:=Γ->(List S->Prop)->XR->Prop
abbrev PTO:=Γ->(Option Int->Prop)->XR->Prop
structure PEnds where
 nx:Γ->Prop
 rt:S->Prop
 ex:Γ->Str->Prop
 bk:Γ->Prop:=fun _=>False
 ct:Γ->Prop:=fun _=>False
 rv:Γ->D->Prop:=fun _ _=>False
abbrev PTS:=PEnds->Γ->Prop
abbrev PTG:=S->Γ->(Γ->Prop)->Prop
abbrev PTGs:=List S->Γ->(Γ->Prop)->Prop
inductive TVs (K:Za) (Z:Addr->Prop) (H0 H H':Hp):List S->List V->Prop
 |nil:TVs K Z H0 H H' [] []
 |cons {s:S} {v:V} {ss:List S} {vs:List V}:TV K Z H0 H H' s v->TVs K Z H0 H H' ss vs->TVs K Z H0 H H' (s::ss) (v::vs)
section
variable (K:Za) (mg:Str->Option Value) (E:L2.St->XK)
def SndE(t:TE)(p:PTE):Prop:=∀(H0:Hp) (B:Addr->Prop) (H:Hp) (σ:L2.St) (γ:Γ) (R:S->Prop) (X:XR) (Q:VK),EnvR K H0 B H σ γ->p γ R X->
 (∀s v H',R s->Same H H'->TV K (zof B γ σ) H0 H H' s v->Q v H')->(∀c H',X c->Same H H'->E σ (.ref (ExcR.JP mg c)) none H')->t σ H Q
def SndT(t:TT)(p:PTT):Prop:=∀(H0:Hp) (B:Addr->Prop) (H:Hp) (σ:L2.St) (γ:Γ) (R:Bool->Prop) (X:XR) (Q:Bool->Hp->Prop),EnvR K H0 B H σ γ->p γ R X->
 (∀b H',R b->Same H H'->Q b H')->(∀c H',X c->Same H H'->E σ (.ref (ExcR.JP mg c)) none H')->t σ H Q
def SndA(t:TA)(p:PTA):Prop:=∀(H0:Hp) (B:Addr->Prop) (H:Hp) (σ:L2.St) (γ:Γ) (R:List S->Prop) (X:XR) (Q:List V->Hp->Prop),EnvR K H0 B H σ γ->p γ R X->
 (∀ss vs H',R ss->Same H H'->TVs K (zof B γ σ) H0 H H' ss vs->Q vs H')->(∀c H',X c->Same H H'->E σ (.ref (ExcR.JP mg c)) none H')->t σ H Q
def SndO(t:TO)(p:PTO):Prop:=∀(H0:Hp) (B:Addr->Prop) (H:Hp) (σ:L2.St) (γ:Γ) (R:Option Int->Prop) (X:XR) (Q:Option Int->Hp->Prop),EnvR K H0 B H σ γ->p γ R X->
 (∀o H',R o->Same H H'->Q o H')->(∀c H',X c->Same H H'->E σ (.ref (ExcR.JP mg c)) none H')->t σ H Q
structure EndR (H0:Hp) (B:Addr->Prop) (H:Hp) (σ:L2.St) (γ:Γ) (R:PEnds) (D:Ends):Prop where
 nx:∀σ' γ' H',R.nx γ'->EnvR K H0 B H' σ' γ'->Fr B H σ γ H' σ' γ'->D.nx σ' H'
 rt:∀s v H',R.rt s->Same H0 H'->TV K B H0 H0 H' s v->D.rt v H'
 ex:∀σ' γ' c H',R.ex γ' c->EnvR K H0 B H' σ' γ'->Fr B H σ γ H' σ' γ'->E σ' (.ref (ExcR.JP mg c)) none H'
 bk:∀σ' γ' H',R.bk γ'->EnvR K H0 B H' σ' γ'->Fr B H σ γ H' σ' γ'->D.bk σ' H'
 ct:∀σ' γ' H',R.ct γ'->EnvR K H0 B H' σ' γ'->Fr B H σ γ H' σ' γ'->D.ct σ' H'
 rv:∀σ' γ' d v H',R.rv γ' d->EnvR K H0 B H' σ' γ'->Fr B H σ γ H' σ' γ'->Rp K (off (zof B γ' σ') H') d v->D.rt v H'
def SndS(t:TS)(p:PTS):Prop:=∀(H0:Hp) (B:Addr->Prop) (H:Hp) (σ:L2.St) (γ:Γ) (R:PEnds) (D:Ends),(∀b,B b->∃o,H0 b=some o)->EnvR K H0 B H σ γ->p R γ->EndR K mg E H0 B H σ γ R D->t D σ H
end
section
variable {K:Za}{mg:Str->Option Value}{E:L2.St->XK}{H0 H H1 H':Hp}{B Z Z':Addr->Prop}{σ:L2.St}{γ:Γ}
def TVs.weakG {H1 H2:Hp}:∀{ss:List S}{vs:List V},Same H H1->TVs K Z H0 H1 H2 ss vs->TVs K Z H0 H H2 ss vs
 |_,_,_,.nil=>.nil
 |_,_,S1,.cons h r=>.cons (TV.weak S1 (fun _ z=>z) h) (TVs.weakG S1 r)
def TVs.rps (h0:Same H0 H'):∀{ss:List S}{vs:List V},TVs K Z H0 H H' ss vs->Rps K H' (ss.map S.d) vs
 |_,_,.nil=>.nil
 |_,_,.cons h r=>.cons (h.rp h0) (TVs.rps h0 r)
def TVs.shd {ds:List D} (h0:Same H0 H') (hm:∀b,Z b->Mut (H b)) (S1:Same H H'):∀{ss:List S}{vs:List V}{ds:List D},TVs K Z H0 H H' ss vs->ss.map S.shd=ds.map some->Rps K (off Z H') ds vs
 |_,_,[],.nil,_=>.nil
 |_,_,_::_,.nil,e=>by cases e
 |_,_,[],.cons _ _,e=>by cases e
 |_,_,d::ds,.cons h r,e=>by
  rw[Y9,Y9,Qq]at e;exact .cons (h.shd h0 hm S1 e.1) (TVs.shd (ds:=ds) h0 hm S1 r e.2)
def Rp.int_inv {i:Int}{v:V} (h:Rp K H (.int i) v):v=.int i:=by cases h;rfl
def Rp.bl_inv {b:Bool}{v:V} (h:Rp K H (.bl b) v):v=.bl b:=by cases h;rfl
def Rp.str_inv {x:Str}{v:V} (h:Rp K H (.str x) v):v=.str x:=by cases h;rfl
def Rp.non_inv {v:V} (h:Rp K H .non v):v=.non:=by cases h;rfl
def Rp.ty_inv {n:String}{v:V} (h:Rp K H (.ty n) v):v=.ty n:=by cases h;rfl
def pVar(i:Nat):PTE:=fun γ R _=>match γ[i]? with
 |some (some (.own ds))=>R (.view ds)
 |some (some s)=>R s
 |_=>False
def JG(i:Nat):SndE K mg E (tVar i) (pVar i):=by
 intro H0 B H σ γ R X Q env h q _;unfold pVar at h;split at h
 ·rename_i ds e;obtain⟨v,h1,a,rfl,h3,h4⟩:=env.slot i _ e;exact⟨_,h1,q _ _ H h (Same.refl _) ⟨a,rfl,h4⟩⟩
 ·rename_i s ns e;obtain⟨v,h1,h2⟩:=env.slot i _ e;refine⟨v,h1,q _ _ H h (Same.refl _) ?_⟩;cases s with
  |bor d=>exact h2
  |sh d=>exact h2
  |own ds=>exact absurd rfl (ns ds)
  |view ds=>exact h2.elim
  |tmp d=>exact h2.elim
 ·exact h.elim
def pC(d:D):PTE:=fun _ R _=>R (.sh d)
def se_c{d:D}{v:V}(h:∀H,Rp K H d v):SndE K mg E (tC v) (pC d):=by
 intro H0 B H σ γ R X Q env p q _;exact q _ _ H p (Same.refl _) (h _)
def JH{i:Int}:SndE K mg E (tC (.int i)) (pC (.int i)):=se_c fun _=>.int i
def UG{b:Bool}:SndE K mg E (tC (.bl b)) (pC (.bl b)):=se_c fun _=>.bl b
def U1{x:Str}:SndE K mg E (tC (.str x)) (pC (.str x)):=se_c fun _=>.str x
def T7{n:String}:SndE K mg E (tC (.ty n)) (pC (.ty n)):=se_c fun _=>.ty n
def p2(a b:PTE)(f:S->S->(S->Prop)->Prop):PTE:=fun γ R X=>a γ (fun x=>b γ (fun y=>f x y R) X) X
def se_2{r:R2}{ta tb:TE}{a b:PTE}{f:S->S->(S->Prop)->Prop}(ha:SndE K mg E ta a)(hb:SndE K mg E tb b)(hr:∀(H0 H H2:Hp) (Z:Addr->Prop) (x y:S) (v u:V) (R:S->Prop) (Q:VK),Same H0 H2->Same H H2->(∀b,Z b->Mut (H b))->TV K Z H0 H H2 x v->TV K Z H0 H H2 y u->f x y R->(∀s z H',R s->Same H2 H'->TV K Z H0 H H' s z->Q z H')->r v u H2 Q) :
  SndE K mg E (tOp r ta tb) (p2 a b f):=by
 intro H0 B H σ γ R X Q env p q qx;refine ha H0 B H σ γ _ X _ env p (fun x v H1 h1 S1 t1=>?_) qx;have env1:=env.grow S1;refine hb H0 B H1 σ γ _ X _ env1 h1 (fun y u H2 h2 S2 t2=>?_) fun c H' hc S'=>qx c H' hc (S1.trans S');exact hr H0 H H2 _ x y v u R Q (env1.same.trans S2) (S1.trans S2) env.zm (t1.grow S2) (TV.weak S1 (fun _ z=>z) t2) h2 fun s z H' hs S3 t3=>q s z H' hs ((S1.trans S2).trans S3) t3
def fI0(g:Int->Int->D):S->S->(S->Prop)->Prop:=fun x y R=>match x.d,y.d with
 | .int i,.int j=>R (.sh (g i j))
 |_,_=>False
def fI(C:Int->Int->Prop)(g:Int->Int->D):S->S->(S->Prop)->Prop:=fun x y R=>match x.d,y.d with
 | .int i,.int j=>C i j/\R (.sh (g i j))
 |_,_=>False
def Pg{g:Int->Int->V}{g':Int->Int->D}{ta tb:TE}{a b:PTE}(hg:∀H i j,Rp K H (g' i j) (g i j))(ha:SndE K mg E ta a)(hb:SndE K mg E tb b):SndE K mg E (tOp (rI0 g) ta tb) (p2 a b (fI0 g')):=by
 refine se_2 ha hb fun H0 H H2 Z x y v u R Q s0 s1 hm tx ty h q=>?_;unfold fI0 at h;have rx:=tx.rp s0;have ry:=ty.rp s0;split at h
 ·rename_i i j e1 e2;rw[e1]at rx;rw[e2]at ry;exact⟨i,j,rx.int_inv,ry.int_inv,q _ _ H2 h (Same.refl _) (hg _ i j)⟩
 ·exact h.elim
def se_I{C:Int->Int->Prop}{g:Int->Int->V}{g':Int->Int->D}{ta tb:TE}{a b:PTE}(hg:∀H i j,Rp K H (g' i j) (g i j))(ha:SndE K mg E ta a)(hb:SndE K mg E tb b):SndE K mg E (tOp (rI C g) ta tb) (p2 a b (fI C g')):=by
 refine se_2 ha hb fun H0 H H2 Z x y v u R Q s0 s1 hm tx ty h q=>?_;unfold fI at h;have rx:=tx.rp s0;have ry:=ty.rp s0;split at h
 ·rename_i i j e1 e2;rw[e1]at rx;rw[e2]at ry;exact⟨i,j,rx.int_inv,ry.int_inv,h.1,q _ _ H2 h.2 (Same.refl _) (hg _ i j)⟩
 ·exact h.elim
section
variable {ta tb tc:TE}{a b c:PTE}
def Uw(ha:SndE K mg E ta a)(hb:SndE K mg E tb b):SndE K mg E (tOp (rI0 fun i j=>.int (i+j)) ta tb) (p2 a b (fI0 fun i j=>.int (i+j))):=Pg (fun _ _ _=>.int _) ha hb
def UY(ha:SndE K mg E ta a)(hb:SndE K mg E tb b):SndE K mg E (tOp (rI0 fun i j=>.int (i-j)) ta tb) (p2 a b (fI0 fun i j=>.int (i-j))):=Pg (fun _ _ _=>.int _) ha hb
def KZ(ha:SndE K mg E ta a)(hb:SndE K mg E tb b):SndE K mg E (tOp (rI CMul fun i j=>.int (i*j)) ta tb) (p2 a b (fI CMul fun i j=>.int (i*j))):=se_I (fun _ _ _=>.int _) ha hb
def UK(ha:SndE K mg E ta a)(hb:SndE K mg E tb b):SndE K mg E (tOp (rI CDiv fun i j=>.int (i / j)) ta tb) (p2 a b (fI CDiv fun i j=>.int (i / j))):=se_I (fun _ _ _=>.int _) ha hb
def Us(ha:SndE K mg E ta a)(hb:SndE K mg E tb b):SndE K mg E (tOp (rI (fun _ j=>0<j) fun i j=>.int (i % j)) ta tb) (p2 a b (fI (fun _ j=>0<j) fun i j=>.int (i % j))):=se_I (fun _ _ _=>.int _) ha hb
def F6(ha:SndE K mg E ta a)(hb:SndE K mg E tb b):SndE K mg E (tOp (rI CPow fun i j=>.int (i ^ j.toNat)) ta tb) (p2 a b (fI CPow fun i j=>.int (i ^ j.toNat))):=se_I (fun _ _ _=>.int _) ha hb
def X4(ha:SndE K mg E ta a)(hb:SndE K mg E tb b):SndE K mg E (tOp (rI0 fun i j=>.bl (decide (i<j))) ta tb) (p2 a b (fI0 fun i j=>.bl (decide (i<j)))):=Pg (fun _ _ _=>.bl _) ha hb
def RE(ha:SndE K mg E ta a)(hb:SndE K mg E tb b):SndE K mg E (tOp (rI0 fun i j=>.bl (decide (i<=j))) ta tb) (p2 a b (fI0 fun i j=>.bl (decide (i<=j)))):=Pg (fun _ _ _=>.bl _) ha hb
def Xv(ha:SndE K mg E ta a)(hb:SndE K mg E tb b):SndE K mg E (tOp (rI0 fun i j=>.bl (decide (j<i))) ta tb) (p2 a b (fI0 fun i j=>.bl (decide (j<i)))):=Pg (fun _ _ _=>.bl _) ha hb
def Te(ha:SndE K mg E ta a)(hb:SndE K mg E tb b):SndE K mg E (tOp (rI0 fun i j=>.bl (decide (j<=i))) ta tb) (p2 a b (fI0 fun i j=>.bl (decide (j<=i)))):=Pg (fun _ _ _=>.bl _) ha hb
def fEq(neg:Bool):S->S->(S->Prop)->Prop:=fun x y R=>match x.d,y.d with
 | .int i,.int j=>R (.sh (.bl (if neg then !decide (i=j)else decide (i=j))))
 | .str i,.str j=>R (.sh (.bl (if neg then !decide (i=j)else decide (i=j))))
 | .bl i,.bl j=>R (.sh (.bl (if neg then !decide (i=j)else decide (i=j))))
 |_,_=>False
def PN{α β:Type}[DecidableEq α][DecidableEq β]{f:α->β}(hf:∀a b,f a=f b->a=b)(a b:α):decide (f a=f b)=decide (a=b):=by
 by_cases e:a=b
 ·rw[Yq e,Yq (YQ f e)]
 ·rw[YA e,YA fun z=>e (hf a b z)]
def fIx:S->S->(S->Prop)->Prop:=fun x y R=>match x.d,y.d with
 | .lst ds,.int k=>∃d,atI ds k=some d/\R (x.sub d)
 | .tup ds,.int k=>∃d,atI ds k=some d/\R (x.sub d)
 | .scr ns,.int k=>∃i,atI ns k=some i/\R (.sh (.int i))
 |_,_=>False
def DX{ds:List D}{vs:List V}{k:Int}{d:D}{P:D->V->Prop}(hl:vs.length=ds.length)(h:∀(i:Nat) d,ds[i]?=some d->∃u,vs[i]?=some u/\P d u)(e:atI ds k=some d):∃u,atI vs k=some u/\P d u:=by
 unfold atI at e ⊢;rw[hl];cases q:ixN ds.length k with
 |none=>rw[q]at e;cases e
 |some j=>
  rw[q]at e;exact h j d e
def JM(ha:SndE K mg E ta a)(hb:SndE K mg E tb b):SndE K mg E (tOp (fun x y H Q=>rIxL K x y H Q\/rIxT K x y H Q) ta tb) (p2 a b fIx):=by
 refine se_2 ha hb fun H0 H H2 Z x y v u R Q s0 s1 hm tx ty h q=>?_;unfold fIx at h;have ry:=ty.rp s0;obtain⟨pl,pt⟩:=tx.part s0 hm s1;split at h
 ·rename_i ds k e1 e2;rw[e2]at ry;obtain⟨d,hd,hR⟩:=h;obtain⟨l,vs,rfl,hl,hn,hp⟩:=pl ds e1;obtain⟨z,hz,tz⟩:=DX hn hp hd;exact .inl ⟨l,vs,k,z,rfl,ry.int_inv,SqL.of hl,hz,q _ _ H2 hR (Same.refl _) tz⟩
 ·rename_i ds k e1 e2;rw[e2]at ry;obtain⟨d,hd,hR⟩:=h;obtain⟨l,vs,rfl,hl,hn,hp⟩:=pt ds e1;obtain⟨z,hz,tz⟩:=DX hn hp hd;exact .inr ⟨l,vs,k,z,rfl,ry.int_inv,SqT.of hl,hz,q _ _ H2 hR (Same.refl _) tz⟩
 ·rename_i ns k e1 e2;rw[e2]at ry;obtain⟨i,hi,hR⟩:=h;have rx:=tx.rp s0;rw[e1]at rx;cases rx with
  |scr hs=>exact .inl ⟨_,_,k,.int i,rfl,ry.int_inv,hs,KG hi,q _ _ H2 hR (Same.refl _) (.int i)⟩
 ·exact h.elim
def Zaa(a b:PTE):PTE:=fun γ R X=>a γ (fun x=>match x.d with | .bl c=>if c=true then b γ R X else R (.sh (.bl false))|_=>False) X
def Ll(a:PTE):PTE:=fun γ R X=>a γ (fun x=>match x.d with | .bl c=>R (.sh (.bl (!c)))|_=>False) X
def Sq(ha:SndE K mg E ta a)(hb:SndE K mg E tb b):SndE K mg E (CY ta tb) (Zaa a b):=by
 intro H0 B H σ γ R X Q env p q qx;refine ha H0 B H σ γ _ X _ env p (fun x v H1 h1 S1 t1=>?_) qx;have env1:=env.grow S1;have rx:=t1.rp env1.same;split at h1
 ·rename_i c e1;rw[e1]at rx;refine⟨c,rx.bl_inv,?_⟩;split at h1
  ·rename_i hc;rw[Yr hc];exact hb H0 B H1 σ γ _ X _ env1 h1 (fun y u H2 h2 S2 t2=>q y u H2 h2 (S1.trans S2) (TV.weak S1 (fun _ z=>z) t2)) fun c H' hc S'=>qx c H' hc (S1.trans S')
  ·rename_i hc;rw[Yp hc];exact q _ _ H1 h1 S1 (.bl _)
 ·exact h1.elim
def FF(ha:SndE K mg E ta a):SndE K mg E (Dx ta) (Ll a):=by
 intro H0 B H σ γ R X Q env p q qx;refine ha H0 B H σ γ _ X _ env p (fun x v H1 h1 S1 t1=>?_) qx;have rx:=t1.rp (env.grow S1).same;split at h1
 ·rename_i c e1;rw[e1]at rx;exact⟨c,rx.bl_inv,q _ _ H1 h1 S1 (.bl _)⟩
 ·exact h1.elim
def pNeg(a:PTE):PTE:=fun γ R X=>a γ (fun x=>match x.d with | .int i=>R (.sh (.int (-i)))|_=>False) X
def Xh(ha:SndE K mg E ta a):SndE K mg E (tUn (rU fun i=>.int (-i)) ta) (pNeg a):=by
 intro H0 B H σ γ R X Q env p q qx;refine ha H0 B H σ γ _ X _ env p (fun x v H1 h1 S1 t1=>?_) qx;have rx:=t1.rp (env.grow S1).same;split at h1
 ·rename_i c e1;rw[e1]at rx;exact⟨c,rx.int_inv,q _ _ H1 h1 S1 (.int _)⟩
 ·exact h1.elim
def CI(a:PTE):PTT:=fun γ R X=>a γ (fun x=>match x.d with | .bl c=>R c|_=>False) X
def JT(ha:SndE K mg E ta a):SndT K mg E (Sw ta) (CI a):=by
 intro H0 B H σ γ R X Q env p q qx;refine ha H0 B H σ γ _ X _ env p (fun x v H1 h1 S1 t1=>?_) qx;have rx:=t1.rp (env.grow S1).same;split at h1
 ·rename_i c e1;rw[e1]at rx;exact⟨c,rx.bl_inv,q _ H1 h1 S1⟩
 ·exact h1.elim
def st_b(ha:SndE K mg E ta a):SndT K mg E (tB ta) (CI a):=JT ha
variable {sa sb:TT}{pa pb:PTT}
def pAnd(a b:PTT):PTT:=fun γ R X=>a γ (fun c=>if c=true then b γ R X else R false) X
def pOr(a b:PTT):PTT:=fun γ R X=>a γ (fun c=>if c=true then R true else b γ R X) X
def pNot(a:PTT):PTT:=fun γ R X=>a γ (fun c=>R (!c)) X
def Pl(ha:SndT K mg E sa pa)(hb:SndT K mg E sb pb):SndT K mg E (tAnd sa sb) (pAnd pa pb):=by
 intro H0 B H σ γ R X Q env p q qx;refine ha H0 B H σ γ _ X _ env p (fun c H1 h1 S1=>?_) qx;split at h1
 ·rename_i hc;rw[Yr hc];exact hb H0 B H1 σ γ _ X _ (env.grow S1) h1 (fun y H2 h2 S2=>q y H2 h2 (S1.trans S2)) fun c H' hc S'=>qx c H' hc (S1.trans S')
 ·rename_i hc;rw[Yp hc];exact q _ H1 h1 S1
def Xm(ha:SndT K mg E sa pa)(hb:SndT K mg E sb pb):SndT K mg E (tOr sa sb) (pOr pa pb):=by
 intro H0 B H σ γ R X Q env p q qx;refine ha H0 B H σ γ _ X _ env p (fun c H1 h1 S1=>?_) qx;split at h1
 ·rename_i hc;rw[Yr hc];exact q _ H1 h1 S1
 ·rename_i hc;rw[Yp hc];exact hb H0 B H1 σ γ _ X _ (env.grow S1) h1 (fun y H2 h2 S2=>q y H2 h2 (S1.trans S2)) fun c H' hc S'=>qx c H' hc (S1.trans S')
def XM(ha:SndT K mg E sa pa):SndT K mg E (tNot sa) (pNot pa):=by
 intro H0 B H σ γ R X Q env p q qx;exact ha H0 B H σ γ _ X _ env p (fun c H1 h1 S1=>q _ H1 h1 S1) qx
end
def pNil:PTA:=fun _ R _=>R []
def Pr(a:PTE)(r:PTA):PTA:=fun γ R X=>a γ (fun s=>r γ (fun ss=>R (s::ss)) X) X
def Uj:SndA K mg E tNil pNil:=by
 intro H0 B H σ γ R X Q env p q _;exact q _ _ H p (Same.refl _) .nil
def Ud{te:TE}{ta:TA}{a:PTE}{r:PTA}(ha:SndE K mg E te a)(hr:SndA K mg E ta r):SndA K mg E (UU te ta) (Pr a r):=by
 intro H0 B H σ γ R X Q env p q qx;refine ha H0 B H σ γ _ X _ env p (fun s v H1 h1 S1 t1=>?_) qx;refine hr H0 B H1 σ γ _ X _ (env.grow S1) h1 (fun ss vs H2 h2 S2 t2=>?_) fun c H' hc S'=>qx c H' hc (S1.trans S');exact q _ _ H2 h2 (S1.trans S2) (.cons (t1.grow S2) (TVs.weakG S1 t2))
def shds:List S->Option (List D)
 |[]=>some []
 |s::r=>match s.shd,shds r with
  |some d,some ds=>some (d::ds)
  |_,_=>none
def Aw:∀{ss:List S}{ds:List D},shds ss=some ds->ss.map S.shd=ds.map some
 |[],ds,h=>by cases h;rfl
 |s::r,ds,h=>by
  unfold shds at h;split at h
  ·rename_i d es e1 e2;cases h
   rw[Y9,Y9,e1,Aw e2]
  ·cases h
def pTup(r:PTA):PTE:=fun γ R X=>r γ (fun ss=>match shds ss with|some ds=>ds.length<=1000/\R (.sh (.tup ds))|none=>False) X
def pLst(r:PTA):PTE:=fun γ R X=>r γ (fun ss=>match shds ss with|some ds=>ds.length<=1000/\R (.own ds)|none=>False) X
def FJ{n:Nat}(h:n<=1000):n<=sizeLine:=QE (Ld h)
def Uq{ta:TA}{r:PTA}(hr:SndA K mg E ta r):SndE K mg E (tTup ta) (pTup r):=by
 intro H0 B H σ γ R X Q env p q qx;refine hr H0 B H σ γ _ X _ env p (fun ss vs H1 h1 S1 t1=>?_) qx;split at h1
 ·rename_i ds e;have env1:=env.grow S1;have rp:=t1.shd (ds:=ds) env1.same env.zm S1 (Aw e);refine⟨by rw[rp.len];exact FJ h1.1,fun l nl=>?_⟩;have S2:=UP (o:=.tup vs) nl;refine q _ _ _ h1.2 (S1.trans S2) (.tup (U7 U6 fun z=>?_) (Rps.mono (Uk S2 fun _ _ _ z=>z) rp))
  have:=env1.zm l z
  rw[nl]at this;exact this
 ·exact h1.elim
def KN{H H1:Hp}{l:Addr}{vs:List V}{ds:List D}(S1:Same H H1)(nl:H1 l=none)(rp:Rps K (off Z H1) ds vs):TV K Z H0 H (upd H1 l (.lst vs)) (.own ds) (.ref l):=
 ⟨l,rfl,(fun _ e=>e▸S1.free nl),vs,U6,Rps.mono (Uk (UP nl) fun b o hb z y=>y.elim z fun e=>by rw[e,nl]at hb;cases hb) rp⟩
def Ue{ta:TA}{r:PTA}(hr:SndA K mg E ta r):SndE K mg E (tLst ta) (pLst r):=by
 intro H0 B H σ γ R X Q env p q qx;refine hr H0 B H σ γ _ X _ env p (fun ss vs H1 h1 S1 t1=>?_) qx;split at h1
 ·rename_i ds e;have env1:=env.grow S1;have rp:=t1.shd (ds:=ds) env1.same env.zm S1 (Aw e);refine⟨by rw[rp.len];exact FJ h1.1,fun l nl=>?_⟩;exact q _ _ _ h1.2 (S1.trans (UP nl)) (KN S1 nl rp)
 ·exact h1.elim
abbrev Pc:=List D->(S->Prop)->XR->Prop
def spOf(mg:Str->Option Value)(c:Pc)(K:Za):Sp:=fun vs H Q E=>∃ds R X,Rps K H ds vs/\c ds R X/\(∀s v H',R s->Same H H'->TV K (fun b=>Mut (H b)) H H H' s v->Q v H')/\∀e H',X e->Same H H'->E (.ref (ExcR.JP mg e)) none H'
def S.back:S->S
 | .bor d=>argT d | .view o=>.tmp o.d|s=>s
def TV.back {s:S}{v:V} (env:EnvR K H0 B H1 σ γ) (S1:Same H H1) (S2:Same H1 H') (h:TV K (fun b=>Mut (H1 b)) H1 H1 H' s v):TV K (zof B γ σ) H0 H H' s.back v:=by
 cases s with
 |bor d=>exact Kj (fun b z=>Ki S2 (env.zm b z)) (Rp.mono S2 h)
 |sh d=>exact Rp.mono (Uk (Same.refl _) fun b _ _ z y=>z (env.zm b y)) h
 |own ds=>
  obtain⟨a,rfl,e0,r⟩:=h;exact⟨a,rfl,(fun b hb=>S1.free (e0 b hb)),r.mono (Uk (Same.refl _) fun b _ _ z y=>z (y.imp (env.zm b) id)) fun _ _ _ q=>q⟩
 |view ds=>
  obtain⟨a,rfl,r⟩:=h;exact r.rp off_sub
 |tmp d=>exact h
def ML(c:Pc)(r:PTA):PTE:=fun γ R X=>r γ (fun ss=>c (ss.map S.d) (fun s=>R s.back) fun _=>False) X
def R9(c:Pc)(r:PTA):PTE:=fun γ R X=>r γ (fun ss=>c (ss.map S.d) (fun s=>R s.back) X) X
def Ub{c:Pc}{ta:TA}{r:PTA}(hr:SndA K mg E ta r):SndE K mg E (KO (spOf mg c K) [] E0 ta) (ML c r):=by
 intro H0 B H σ γ R X Q env p q qx;refine hr H0 B H σ γ _ X _ env p (fun ss vs H1 h1 S1 t1=>?_) qx;rw[Wb];have env1:=env.grow S1;exact⟨_,_,_,t1.rps env1.same,h1,fun s v H' hs S2 tv=>q _ _ H' hs (S1.trans S2) (tv.back env1 S1 S2),fun _ _ z=>z.elim⟩
def X7{c:Pc}{ta:TA}{r:PTA}{Ec:XK}(hr:SndA K mg (fun _=>Ec) ta r):SndE K mg (fun _=>Ec) (KO (spOf mg c K) [] Ec ta) (R9 c r):=by
 intro H0 B H σ γ R X Q env p q qx;refine hr H0 B H σ γ _ X _ env p (fun ss vs H1 h1 S1 t1=>?_) qx;rw[Wb];have env1:=env.grow S1;exact⟨_,_,X,t1.rps env1.same,h1,fun s v H' hs S2 tv=>q _ _ H' hs (S1.trans S2) (tv.back env1 S1 S2),fun e H' he S2=>qx e H' he (S1.trans S2)⟩
end
section
variable {K:Za}{mg:Str->Option Value}{E:L2.St->XK}{H0 H H1 H':Hp}{B Z Z':Addr->Prop}{σ:L2.St}{γ:Γ}
def EnvR.set {i:Nat}{s s':S}{v:V} (Ev:EnvR K H0 B H σ γ) (S1:Same H H') (h:TV K (zof B γ σ) H0 H H' s v) (e:s.slot=some s') :
  EnvR K H0 B H' (σ.set i (some v)) (γ.set i (some s'))/\Fr B H σ γ H' (σ.set i (some v)) (γ.set i (some s')):=by
 by_cases hi:i<γ.length
 ·exact Ev.put S1 h e hi
 ·rw[List.set_eq_of_length_le (by rw[Ev.len];omega),List.set_eq_of_length_le (by omega)];exact⟨Ev.grow S1,Fr.grow S1⟩
def Upd(is:List Nat)(σ σ':L2.St):Prop:=(∀j,j∉is->σ'[j]?=σ[j]?)/\σ'.length=σ.length
def KP(K:Za)(is:List Nat)(t:TG)(p:PTG):Prop:=∀(H0:Hp) (B:Addr->Prop) (H H':Hp) (σ:L2.St) (γ:Γ) (s:S) (v:V) (R:Γ->Prop) (Q:L2.St->Hp->Prop),EnvR K H0 B H σ γ->Same H H'->TV K (zof B γ σ) H0 H H' s v->p s γ R->
 (∀σ' γ',R γ'->EnvR K H0 B H' σ' γ'->Fr B H σ γ H' σ' γ'->Upd is σ σ'->Q σ' H')->t v σ H' Q
def GE(i:Nat):PTG:=fun s γ R=>match s.slot with|some s'=>R (γ.set i (some s'))|none=>False
def JN(i:Nat):KP K [i] (P8 i) (GE i):=by
 intro H0 B H H' σ γ s v R Q env S1 tv p q;unfold GE at p;split at p
 ·rename_i s' e;obtain⟨e1,f1⟩:=env.set (i:=i) S1 tv e;exact q _ _ p e1 f1 ⟨fun j hj=>Pe fun z=>hj (by rw[z];exact Yx.mpr rfl),Wo⟩
 ·exact p.elim
def Ik:PTGs:=fun ss γ R=>match ss with|[]=>R γ|_=>False
def RT(g:PTG)(r:PTGs):PTGs:=fun ss γ R=>match ss with|s::t=>g s γ fun γ'=>r t γ' R|[]=>False
def TV.notown {s:S}{v:V}{σ':L2.St}{γ':Γ}{Hb:Hp} (f:Fr B H σ γ H' σ' γ') (hb:Same H H') (n:∀ds,s≠.own ds) (nv:∀ds,s≠.view ds) (h:TV K (zof B γ σ) H0 Hb H s v):TV K (zof B γ' σ') H0 H' H' s v:=by
 cases s with
 |bor d=>exact h
 |sh d=>exact Rp.mono f.off h
 |own ds=>exact absurd rfl (n ds)
 |view ds=>exact absurd rfl (nv ds)
 |tmp d=>exact Rp.mono hb h
def TVs.notown {σ':L2.St}{γ':Γ}{Hb:Hp} (f:Fr B H σ γ H σ' γ'):∀{ss:List S}{vs:List V},(∀s∈ss,∀ds,s≠.own ds/\s≠.view ds)->TVs K (zof B γ σ) H0 Hb H ss vs->TVs K (zof B γ' σ') H0 H H ss vs
 |_,_,_,.nil=>.nil
 |_,_,n,.cons h r=>.cons (h.notown f (Same.refl _) (fun ds=>(n _ YN ds).1) fun ds=>(n _ YN ds).2) (TVs.notown f (fun s hs=>n s (YF _ hs)) r)
def SN(d:D):arg d=.sh d\/arg d=.bor d:=by unfold arg;cases imm d<;>simp
def Th(d:D):argT d=.sh d\/argT d=.tmp d:=by unfold argT;cases imm d<;>simp
def D3(s:S)(d:D):∀ds,s.sub d≠.own ds/\s.sub d≠.view ds:=fun ds=>by
 cases s with
 |bor b=>rcases SN d with e|e<;>(show arg d≠_/\arg d≠_;rw[e];exact⟨(fun z=>by cases z),(fun z=>by cases z)⟩)
 |tmp b=>rcases Th d with e|e<;>(show argT d≠_/\argT d≠_;rw[e];exact⟨(fun z=>by cases z),(fun z=>by cases z)⟩)
 |sh b=>exact⟨(fun z=>by cases z),(fun z=>by cases z)⟩
 |own b=>
  cases b with
  |nst cs=>rcases Th d with e|e<;>(show argT d≠_/\argT d≠_;rw[e];exact⟨(fun z=>by cases z),(fun z=>by cases z)⟩)
  |nsl a cs=>rcases Th d with e|e<;>(show argT d≠_/\argT d≠_;rw[e];exact⟨(fun z=>by cases z),(fun z=>by cases z)⟩)
  |_=>exact⟨(fun z=>by cases z),(fun z=>by cases z)⟩
 |view b=>
  cases b with
  |nst cs=>rcases Th d with e|e<;>(show argT d≠_/\argT d≠_;rw[e];exact⟨(fun z=>by cases z),(fun z=>by cases z)⟩)
  |nsl a cs=>rcases Th d with e|e<;>(show argT d≠_/\argT d≠_;rw[e];exact⟨(fun z=>by cases z),(fun z=>by cases z)⟩)
  |_=>exact⟨(fun z=>by cases z),(fun z=>by cases z)⟩
def Sm(K:Za)(is:List Nat)(t:TGs)(p:PTGs):Prop:=∀(H0:Hp) (B:Addr->Prop) (H:Hp) (σ:L2.St) (γ:Γ) (ss:List S) (vs:List V) (R:Γ->Prop) (Q:L2.St->Hp->Prop),EnvR K H0 B H σ γ->TVs K (zof B γ σ) H0 H H ss vs->(∀s∈ss,∀ds,s≠.own ds/\s≠.view ds)->p ss γ R->
 (∀σ' γ',R γ'->EnvR K H0 B H σ' γ'->Fr B H σ γ H σ' γ'->Upd is σ σ'->Q σ' H)->t vs σ H Q
def Tj:Sm K [] gNil Ik:=by
 intro H0 B H σ γ ss vs R Q env tv no p q;cases tv with
 |nil=>exact⟨rfl,q _ _ p env Fr.refl ⟨fun _ _=>rfl,rfl⟩⟩
 |cons _ _=>exact p.elim
def Kx{is js:List Nat}{g:TG}{r:TGs}{pg:PTG}{pr:PTGs}(hg:KP K is g pg)(hr:Sm K js r pr):Sm K (is++js) (Df g r) (RT pg pr):=by
 intro H0 B H σ γ ss vs R Q env tv no p q;cases tv with
 |nil=>exact p.elim
 |cons h t=>
  refine⟨_,_,rfl,hg H0 B H H σ γ _ _ _ _ env (Same.refl _) h p fun σ1 γ1 p1 e1 f1 k1=>?_⟩;refine hr H0 B H σ1 γ1 _ _ _ _ e1 (TVs.notown f1 (fun s hs=>no s (YF _ hs)) t) (fun s hs=>no s (YF _ hs)) p1 fun σ2 γ2 p2 e2 f2 k2=>?_;exact q σ2 γ2 p2 e2 (f1.trans f2) ⟨fun j hj=>(k2.1 j fun z=>hj (YV _ z)).trans (k1.1 j fun z=>hj (Qa _ z)),k2.2.trans k1.2⟩
def Hf(n:Nat)(r:PTGs):PTG:=fun s γ R=>match s.d with | .tup ds=>ds.length=n/\r (ds.map s.sub) γ R|_=>False
def TVs.of_part {ds:List D}{s:S}:∀{vs:List V}{ds:List D},vs.length=ds.length->(∀(i:Nat) d,ds[i]?=some d->∃u,vs[i]?=some u/\TV K Z H0 H H' (s.sub d) u)->TVs K Z H0 H H' (ds.map s.sub) vs
 |[],[],_,_=>.nil
 |[],_::_,e,_=>by cases e
 |_::_,[],e,_=>by cases e
 |v::vs,d::ds,e,h=>by
  obtain⟨u,h1,h2⟩:=h 0 d rfl;cases h1
  exact .cons h2 (TVs.of_part (ds:=ds) (by simpa using e) fun i d' hd=>by simpa using h (i+1) d' (by simpa using hd))
def Ts{n:Nat}{is:List Nat}{r:TGs}{pr:PTGs}(hr:Sm K is r pr):KP K is (gTup K n r) (Hf n pr):=by
 intro H0 B H H' σ γ s v R Q env S1 tv p q;unfold Hf at p;have env1:=env.grow S1;obtain⟨_,pt⟩:=tv.part env1.same env.zm S1;split at p
 ·rename_i ds e;obtain⟨a,vs,rfl,ha,hn,hp⟩:=pt ds e;refine⟨a,vs,rfl,SqT.of ha,hn.trans p.1,?_⟩;have tvs:=TVs.of_part (ds:=ds) hn hp;refine hr H0 B H' σ γ _ vs R Q env1 (TVs.notown (Fr.refl) (fun s' hs ds=>?_) tvs) (fun s' hs ds=>?_) p.2 fun σ' γ' hR e1 f1 k1=>q σ' γ' hR e1 (Fr.trans (Fr.grow S1) f1) k1
  ·obtain⟨d,_,rfl⟩:=YL.mp hs;exact D3 s d ds
  ·obtain⟨d,_,rfl⟩:=YL.mp hs;exact D3 s d ds
 ·exact p.elim
def EndR.from {R:PEnds}{D:Ends}{σ1:L2.St}{γ1:Γ} (e:EndR K mg E H0 B H σ γ R D) (f:Fr B H σ γ H1 σ1 γ1):EndR K mg E H0 B H1 σ1 γ1 R D:=
 ⟨fun σ' γ' H' h1 h2 h3=>e.nx σ' γ' H' h1 h2 (f.trans h3),e.rt,fun σ' γ' c H' h1 h2 h3=>e.ex σ' γ' c H' h1 h2 (f.trans h3),fun σ' γ' H' h1 h2 h3=>e.bk σ' γ' H' h1 h2 (f.trans h3),fun σ' γ' H' h1 h2 h3=>e.ct σ' γ' H' h1 h2 (f.trans h3),fun σ' γ' d v H' h1 h2 h3=>e.rv σ' γ' d v H' h1 h2 (f.trans h3)⟩
variable {te:TE}{a:PTE}{tt:TT}{c:PTT}{t u:TS}{p q:PTS}
def Zcw:PTS:=fun R γ=>R.nx γ
def JX:SndS K mg E Ce Zcw:=fun _ _ _ _ _ _ _ _ env h e=>e.nx _ _ _ h env Fr.refl
def pSeq(p q:PTS):PTS:=fun R γ=>p {R with nx:=q R} γ
def JK(hp:SndS K mg E t p)(hq:SndS K mg E u q):SndS K mg E (tSeq t u) (pSeq p q):=by
 intro H0 B H σ γ R D hB env h e;refine hp H0 B H σ γ _ _ hB env h ⟨fun σ' γ' H' h1 e1 f1=>?_,e.rt,e.ex,e.bk,e.ct,e.rv⟩;exact hq H0 B H' σ' γ' R D hB e1 h1 (e.from f1)
structure JoinW (p q:PTS) (R:PEnds) (γ:Γ):Prop where
 w:∃J:Γ->Prop,p {R with nx:=J} γ/\∀γ',J γ'->q R γ'
def LX(p q:PTS):PTS:=fun R γ=>JoinW p q R γ
def T9(hp:SndS K mg E t p)(hq:SndS K mg E u q):SndS K mg E (CN t u) (LX p q):=by
 intro H0 B H σ γ R D hB env h e;obtain⟨J,h,k⟩:=h.w;refine⟨fun σ' H'=>∃γ',J γ'/\EnvR K H0 B H' σ' γ'/\Fr B H σ γ H' σ' γ',hp H0 B H σ γ _ _ hB env h ⟨fun σ' γ' H' h1 e1 f1=>⟨γ',h1,e1,f1⟩,e.rt,e.ex,e.bk,e.ct,e.rv⟩,?_⟩;rintro σ' H' ⟨γ',h1,e1,f1⟩;exact hq H0 B H' σ' γ' R D hB e1 (k γ' h1) (e.from f1)
def pFrz(i:Nat)(p:PTS):PTS:=fun R γ=>p R (frz i γ)
def Uc(i:Nat)(hp:SndS K mg E t p):SndS K mg E t (pFrz i p):=by
 intro H0 B H σ γ R D hB env h e;obtain⟨e1,f1⟩:=env.frz hB i;exact hp H0 B H σ _ R D hB e1 h (e.from f1)
def pAsg(a:PTE)(g:PTG):PTS:=fun R γ=>a γ (fun s=>g s γ R.nx) (R.ex γ)
def JS{is:List Nat}{g:TG}{pg:PTG}(ha:SndE K mg E te a)(hg:KP K is g pg):SndS K mg E (tAsg te g) (pAsg a pg):=by
 intro H0 B H σ γ R D hB env h e;refine ha H0 B H σ γ _ _ _ env h (fun s v H1 h1 S1 t1=>?_) fun c H' hc S'=>e.ex σ γ c H' hc (env.grow S') (Fr.grow S');exact hg H0 B H H1 σ γ s v _ _ env S1 t1 h1 fun σ' γ' h2 e2 f2 _=>e.nx σ' γ' H1 h2 e2 f2
def pAug(i:Nat)(f:Int->Int->Int)(a:PTE):PTS:=fun R γ=>match γ[i]? with
 |some (some (.sh (.int x)))=>a γ (fun y=>match y.d with | .int j=>R.nx (γ.set i (some (.sh (.int (f x j)))))|_=>False) (R.ex γ)
 |_=>False
def GN{i:Nat}{f:Int->Int->Int}(ha:SndE K mg E te a):SndS K mg E (tAug i te (ipI f)) (pAug i f a):=by
 intro H0 B H σ γ R D hB env h e;unfold pAug at h;split at h
 ·rename_i x hx;obtain⟨v,h1,h2⟩:=env.slot i _ hx;refine⟨v,h1,ha H0 B H σ γ _ _ _ env h (fun y u H1 h3 S1 t1=>?_) fun c H' hc S'=>e.ex σ γ c H' hc (env.grow S') (Fr.grow S')⟩;have rx:=t1.rp (env.grow S1).same;split at h3
  ·rename_i j ej;rw[ej]at rx;refine⟨x,j,Rp.int_inv h2,rx.int_inv,?_⟩;obtain⟨e1,f1⟩:=env.set (i:=i) (s:=.sh (.int (f x j))) (v:=.int (f x j)) S1 (.int _) rfl;exact e.nx _ _ H1 h3 e1 f1
  ·exact h3.elim
 ·exact h.elim
def pRet(a:PTE):PTS:=fun R γ=>a γ R.rt (R.ex γ)
def JY(ha:SndE K mg E te a):SndS K mg E (tRet te) (pRet a):=by
 intro H0 B H σ γ R D hB env h e;refine ha H0 B H σ γ _ _ _ env h (fun s v H1 h1 S1 t1=>?_) fun c H' hc S'=>e.ex σ γ c H' hc (env.grow S') (Fr.grow S');exact e.rt s v H1 h1 (env.same.trans S1) (TV.weak env.same (fun b z=>.inl z) t1)
def EM(i:Nat):PTS:=fun R γ=>match γ[i]? with|some (some s)=>R.rt s|_=>False
def XA(i:Nat):SndS K mg E (tRet (tVar i)) (EM i):=by
 intro H0 B H σ γ R D hB env h e;unfold EM at h;split at h
 ·rename_i s hs;obtain⟨v,h1,h2⟩:=env.slot i _ hs;refine⟨v,h1,e.rt s v H h env.same ?_⟩;cases s with
  |bor d=>exact h2
  |sh d=>exact Rp.mono (Uk (Same.refl _) fun b _ _ z y=>z (.inl y)) h2
  |own ds=>
   obtain⟨l,rfl,e2,e3⟩:=h2;exact⟨l,rfl,e2,e3.mono (Uk (Same.refl _) fun b _ _ z y=>z (y.elim .inl fun w=>.inr ⟨i,ds,l,hs,h1,w⟩)) fun _ _ _ q=>q⟩
  |view ds=>exact h2.elim
  |tmp d=>exact h2.elim
 ·exact h.elim
def pIfS(c:PTT)(p q:PTS):PTS:=fun R γ=>c γ (fun b=>if b=true then p R γ else q R γ) (R.ex γ)
def JZ(hc:SndT K mg E tt c)(hp:SndS K mg E t p)(hq:SndS K mg E u q):SndS K mg E (tIfS tt t u) (pIfS c p q):=by
 intro H0 B H σ γ R D hB env h e;refine hc H0 B H σ γ _ _ _ env h (fun b H1 h1 S1=>?_) fun c H' hc S'=>e.ex σ γ c H' hc (env.grow S') (Fr.grow S');split at h1
 ·rename_i hb;rw[Yr hb];exact hp H0 B H1 σ γ R D hB (env.grow S1) h1 (e.from (Fr.grow S1))
 ·rename_i hb;rw[Yp hb];exact hq H0 B H1 σ γ R D hB (env.grow S1) h1 (e.from (Fr.grow S1))
def RI(a:PTE):PTS:=fun R γ=>a γ (fun _=>R.nx γ) (R.ex γ)
def Xx(ha:SndE K mg E te a):SndS K mg E (S8 te) (RI a):=by
 intro H0 B H σ γ R D hB env h e;exact ha H0 B H σ γ _ _ _ env h (fun s v H1 h1 S1 t1=>e.nx σ γ H1 h1 (env.grow S1) (Fr.grow S1)) fun c H' hc S'=>e.ex σ γ c H' hc (env.grow S') (Fr.grow S')
def Ry:PTS:=fun _ _=>False
def Zef:SndS K mg E Ds Ry:=fun _ _ _ _ _ _ _ _ _ h _=>h
def Rb(x:Str)(r:PTA):PTS:=fun R γ=>r γ (fun ss=>ss.length<=1000/\R.ex γ x) (R.ex γ)
def TVs.len:∀{ss:List S}{vs:List V},TVs K Z H0 H H' ss vs->vs.length=ss.length
 |_,_,.nil=>rfl
 |_,_,.cons _ r=>YQ (· + 1) (TVs.len r)
def Xt{x:Str}{ta:TA}{r:PTA}{Ec:XK}(hr:SndA K mg (fun _=>Ec) ta r):SndS K mg (fun _=>Ec) (ExcR.Gs (ExcR.JP mg x) Ec ta) (Rb x r):=by
 intro H0 B H σ γ R D hB env h e;refine hr H0 B H σ γ _ _ _ env h (fun ss vs H1 h1 S1 t1=>⟨?_,?_⟩) fun c H' hc S'=>e.ex σ γ c H' hc (env.grow S') (Fr.grow S')
 ·rw[t1.len];exact FJ h1.1
 ·exact e.ex σ γ x H1 h1.2 (env.grow S1) (Fr.grow S1)
def fPar(i j:Nat)(γ:Γ)(R:Γ->Prop):List S->Prop
 |[.sh d,.sh e]=>R ((γ.set i (some (.sh d))).set j (some (.sh e)))
 |_=>False
def clr:List Nat->Γ->Γ
 |[],γ=>γ
 |i::r,γ=>clr r (γ.set i none)
def EnvR.clr:∀(is:List Nat) {γ:Γ},EnvR K H0 B H σ γ->EnvR K H0 B H σ (clr is γ)/\Fr B H σ γ H σ (Pu.clr is γ)
 |[],_,e=>⟨e,Fr.refl⟩
 |i::r,γ,e=>by
  obtain⟨e1,f1⟩:=e.drop i;obtain⟨e2,f2⟩:=EnvR.clr r e1;exact⟨e2,f1.trans f2⟩
def Later(H0:Hp)(Z:Addr->Prop)(H1:Hp)(Z':Addr->Prop)(H':Hp):Prop:=Same H0 H'/\(∀b,Z' b->Mut (H' b))/\∀b o,H1 b=some o->¬Z b->H' b=some o/\¬Z' b
def Later.of {σ':L2.St}{γ':Γ} (e:EnvR K H0 B H' σ' γ') (f:Fr B H1 σ γ H' σ' γ'):Later H0 (zof B γ σ) H1 (zof B γ' σ') H':=⟨e.same,e.zm,f⟩
def Later.off (l:Later H0 Z H1 Z' H'):Same (off Z H1) (Pu.off Z' H'):=fun b o h=>by
 obtain⟨h1,h2⟩:=XD h;obtain⟨h3,h4⟩:=l.2.2 b o h1 h2;exact U7 h3 h4
structure ItOk (K:Za) (H0:Hp) (B:Addr->Prop) (H1:Hp) (σ:L2.St) (γ:Γ) (J:It) (n:Nat) (item:Nat->S):Prop where
 go:∀(i:Nat) (H':Hp) (Z':Addr->Prop),i<n->Later H0 (zof B γ σ) H1 Z' H'->J.go i H'/\∀x H'',J.yld i H' x H''->Same H' H''/\TV K Z' H0 H' H'' (item i) x
 stop:∀(H':Hp) (Z':Addr->Prop),Later H0 (zof B γ σ) H1 Z' H'->J.stop n H'
abbrev PTI:=Γ->(Nat->(Nat->S)->Prop)->XR->Prop
def SndI(K:Za)(mg:Str->Option Value)(E:L2.St->XK)(wi:TI)(it:PTI):Prop:=∀(H0:Hp) (B:Addr->Prop) (H:Hp) (σ:L2.St) (γ:Γ) (R:Nat->(Nat->S)->Prop) (X:XR) (Q:It->Hp->Prop),EnvR K H0 B H σ γ->it γ R X->
 (∀n item J H1,R n item->Same H H1->ItOk K H0 B H1 σ γ J n item->Q J H1)->(∀c H',X c->Same H H'->E σ (.ref (ExcR.JP mg c)) none H')->wi σ H Q
structure ForW (js:List Nat) (γ:Γ) (g:PTG) (body:PTS) (R:PEnds) (n:Nat) (item:Nat->S):Prop where
 w:∃inv:Nat->Γ->Prop,inv 0 (clr js γ)/\
 (∀i γ',i<n->inv i γ'->g (item i) γ' fun γ2=>body {R with nx:=fun γ3=>inv (i+1) (clr js γ3),ct:=fun γ3=>inv (i+1) (clr js γ3),bk:=R.nx} γ2)/\∀γ',inv n γ'->R.nx γ'
def pFor(js:List Nat)(it:PTI)(g:PTG)(body:PTS):PTS:=fun R γ=>it γ (fun n item=>ForW js γ g body R n item) (R.ex γ)
def UD{is:List Nat}{wi:TI}{g:TG}{it:PTI}{pg:PTG}(js:List Nat)(hi:SndI K mg E wi it)(hg:KP K is g pg)(hb:SndS K mg E t p):SndS K mg E (tFor wi g t) (pFor js it pg p):=by
 intro H0 B H σ γ R D hB env h e;refine hi H0 B H σ γ _ _ _ env h (fun n item J H1 h1 S1 ok=>?_) fun c H' hc S'=>e.ex σ γ c H' hc (env.grow S') (Fr.grow S');obtain⟨inv,h0,hs,hd⟩:=h1.w;have env1:=env.grow S1;refine⟨fun i m σ' H'=>m=n-i/\i<=n/\∃γ',inv i γ'/\EnvR K H0 B H' σ' γ'/\Fr B H1 σ γ H' σ' γ',⟨n,by simp,Ww _,_,h0,(env1.clr js).1,(env1.clr js).2⟩,?_⟩;rintro i m σ' H' ⟨rfl,hin,γ',hi',e',f'⟩;by_cases hlt:i<n
 ·obtain⟨go,yl⟩:=ok.go i H' _ hlt (Later.of e' f');refine .inr ⟨go,fun σ2 H2=>∃γ2,inv (i+1) γ2/\EnvR K H0 B H2 σ2 γ2/\Fr B H1 σ γ H2 σ2 γ2,fun σ2 H2 ⟨γ2,a1,a2,a3⟩=>⟨n-(i+1),by omega,rfl,hlt,γ2,a1,a2,a3⟩,fun x H'' y=>?_⟩;obtain⟨S2,tv⟩:=yl x H'' y;refine hg H0 B H' H'' σ' γ' _ _ _ _ e' S2 tv (hs i γ' hlt hi') fun σ2 γ2 q2 e2 f2 _=>?_;have fall:=f'.trans f2;refine hb H0 B H'' σ2 γ2 _ _ hB e2 q2 ⟨fun σ3 γ3 H3 q3 e3 f3=>?_,e.rt,fun σ3 γ3 c H3 q3 e3 f3=>e.ex σ3 γ3 c H3 q3 e3 ((Fr.grow S1).trans (fall.trans f3)),fun σ3 γ3 H3 q3 e3 f3=>e.nx σ3 γ3 H3 q3 e3 ((Fr.grow S1).trans (fall.trans f3)),fun σ3 γ3 H3 q3 e3 f3=>?_,fun σ3 γ3 d v H3 q3 e3 f3=>e.rv σ3 γ3 d v H3 q3 e3 ((Fr.grow S1).trans (fall.trans f3))⟩
  ·exact⟨_,q3,(e3.clr js).1,(fall.trans f3).trans (e3.clr js).2⟩
  ·exact⟨_,q3,(e3.clr js).1,(fall.trans f3).trans (e3.clr js).2⟩
 ·have:i=n:=by omega
  subst this;exact .inl ⟨ok.stop H' _ (Later.of e' f'),e.nx σ' γ' H' (hd γ' hi') e' ((Fr.grow S1).trans f')⟩
def S.fix:S->Bool
 | .bor _=>true | .sh _=>true | .own (.nsl _ _)=>false | .own _=>true|_=>false
def pIL(a:PTE):PTI:=fun γ R X=>a γ (fun s=>match s.d with
 | .lst ds=>s.fix=true/\R ds.length fun i=>s.sub (ds.getD i .non)
 | .scr ns=>s.fix=true/\R ns.length fun i=>.sh (.int (ns.getD i 0))
 |_=>False) X
def TV.last {s:S}{v:V}{ds:List D} (env:EnvR K H0 B H σ γ) (S1:Same H H1) (tv:TV K (zof B γ σ) H0 H H1 s v) (hf:s.fix=true) (hd:s.d=.lst ds):∃l vs,v=.ref l/\vs.length=ds.length/\
  ∀(H':Hp) (Z':Addr->Prop),Later H0 (zof B γ σ) H1 Z' H'->H' l=some (.lst vs)/\∀(i:Nat) d,ds[i]?=some d->∃u,vs[i]?=some u/\TV K Z' H0 H' H' (s.sub d) u:=by
 have env1:=env.grow S1
 have key:∀{s:S},(∀d,s.sub d=.sh d)->Rp K (Pu.off (zof B γ σ) H1) (.lst ds) v->∃l vs,v=.ref l/\vs.length=ds.length/\
   ∀(H':Hp) (Z':Addr->Prop),Later H0 (zof B γ σ) H1 Z' H'->H' l=some (.lst vs)/\∀(i:Nat) d,ds[i]?=some d->∃u,vs[i]?=some u/\TV K Z' H0 H' H' (s.sub d) u:=fun hs h=>by
  obtain⟨l,vs,rfl,h1,h2⟩:=Rp.lst_inv h;refine⟨l,vs,rfl,h2.len,fun H' Z' lt=>⟨off_sub _ _ (lt.off _ _ h1),fun i d hi=>?_⟩⟩;obtain⟨u,h3,h4⟩:=h2.get hi;refine⟨u,h3,?_⟩;rw[hs];exact Rp.mono lt.off h4
 cases s with
 |bor d=>
  have tv:=Rp.strip tv;rw[show d.strip=.lst ds from hd]at tv
  obtain⟨l,vs,rfl,h1,h2⟩:=Rp.lst_inv tv;refine⟨l,vs,rfl,h2.len,fun H' Z' lt=>⟨lt.1 _ _ h1,fun i d hi=>?_⟩⟩;obtain⟨u,h3,h4⟩:=h2.get hi;exact⟨u,h3,argR lt.2.1 lt.1 h4⟩
 |sh d=>
  have:d=.lst ds:=hd
  subst this;exact key (fun _=>rfl) tv
 |own es=>
  cases es with
  |lst es=>
   cases hd
   exact key (fun _=>rfl) (tv.shd env1.same env.zm S1 rfl)
  |lsA x es=>
   cases hd
   exact key (fun _=>rfl) (tv.shd env1.same env.zm S1 rfl)
  |dK es=>cases hd
  |dT es=>cases hd
  |ins x C xs cs=>cases hd
  |nst cs=>cases hd
  |nsl a cs=>cases hf
 |view es=>cases hf
 |tmp d=>cases hf
def Xj{te:TE}{a:PTE}(ha:SndE K mg E te a):SndI K mg E (Si K te) (pIL a):=by
 intro H0 B H σ γ R X Q env h q qx;refine ha H0 B H σ γ _ X _ env h (fun s v H1 h1 S1 t1=>?_) qx;have env1:=env.grow S1;split at h1
 ·rename_i ds ed;obtain⟨l,vs,rfl,hn,hl⟩:=t1.last env S1 h1.1 ed;obtain⟨hl1,_⟩:=hl H1 _ (Later.of env1 Fr.refl);refine⟨l,rfl,⟨vs,SqL.of hl1⟩,q _ _ _ H1 h1.2 S1 ⟨fun i H' Z' hi lt=>?_,fun H' Z' lt=>?_⟩⟩
  ·obtain⟨k1,k2⟩:=hl H' Z' lt;have hd:ds[i]?=some (ds.getD i .non):=by rw[Yo,Yl hi];rfl
   obtain⟨u,hu,tu⟩:=k2 i _ hd;refine⟨⟨vs,u,SqL.of k1,hu⟩,fun x H'' y=>?_⟩;obtain⟨rfl,y⟩:=y
   have:=y vs (SqL.of k1)
   rw[hu]at this;cases this
   exact⟨Same.refl _,tu⟩
  ·exact⟨vs,SqL.of (hl H' Z' lt).1,by omega⟩
 ·rename_i ns ed
  have hs:∃l,v=.ref l/\∀(H':Hp) (Z':Addr->Prop),Later H0 (zof B γ σ) H1 Z' H'->SqL K H' l (ns.map V.int):=by
   cases s with
   |bor d=>
    have t1:=Rp.strip t1;rw[show d.strip=.scr ns from ed]at t1
    cases t1 with
    |scr hs=>exact⟨_,rfl,fun H' Z' lt=>lt.1.seq hs⟩
   |sh d=>
    have:d=.scr ns:=ed
    subst this;cases t1 with
    |scr hs=>exact⟨_,rfl,fun H' Z' lt=>off_sub.seq (lt.off.seq hs)⟩
   |own es=>cases es<;>cases ed
   |view es=>cases es<;>cases ed
   |tmp d=>cases h1.1
  obtain⟨l,rfl,hl⟩:=hs;refine⟨l,rfl,⟨_,hl H1 _ (Later.of env1 Fr.refl)⟩,q _ _ _ H1 h1.2 S1 ⟨fun i H' Z' hi lt=>?_,fun H' Z' lt=>?_⟩⟩
  ·have k1:=hl H' Z' lt
   have hu:(ns.map V.int)[i]?=some (.int (ns.getD i 0)):=by
    rw[Yt,Yl hi,Yo,Yl hi];rfl
   refine⟨⟨_,_,k1,hu⟩,fun x H'' y=>?_⟩;obtain⟨rfl,y⟩:=y
   have:=y _ k1
   rw[hu]at this;cases this
   exact⟨Same.refl _,.int _⟩
  ·exact⟨_,hl H' Z' lt,by rw[Ym];exact Yy _⟩
 ·exact h1.elim
def fR1(R:Nat->(Nat->S)->Prop):List D->Prop
 |[.int j]=>(-(2 ^ 62)<=j/\j<2 ^ 62)/\R j.toNat fun i=>.sh (.int (0+(i:Int)))
 |_=>False
def fR2(R:Nat->(Nat->S)->Prop):List D->Prop
 |[.int i,.int j]=>(-(2 ^ 62)<=i/\i<2 ^ 62/\-(2 ^ 62)<=j/\j<2 ^ 62)/\R (j-i).toNat fun k=>.sh (.int (i+(k:Int)))
 |_=>False
def pIR1(r:PTA):PTI:=fun γ R X=>r γ (fun ss=>fR1 R (ss.map S.d)) X
def pIR2(r:PTA):PTI:=fun γ R X=>r γ (fun ss=>fR2 R (ss.map S.d)) X
def Rps.one_inv {d:D}{vs:List V} (h:Rps K H [d] vs):∃v,vs=[v]/\Rp K H d v:=by
 cases h with
 |cons h r=>cases r;exact⟨_,rfl,h⟩
def Rps.two_inv {d e:D}{vs:List V} (h:Rps K H [d,e] vs):∃v u,vs=[v,u]/\Rp K H d v/\Rp K H e u:=by
 cases h with
 |cons h r=>cases r with|cons h2 r=>cases r;exact⟨_,_,rfl,h,h2⟩
def Gj{lo:Int}{n:Nat}:ItOk K H0 B H1 σ γ (Itr lo n) n fun i=>.sh (.int (lo+(i:Int))):=by
 refine⟨fun i H' Z' hi lt=>⟨hi,fun x H'' y=>?_⟩,fun H' Z' lt=>Yy _⟩;obtain⟨e,y⟩:=y;subst e y;exact⟨Same.refl _,.int _⟩
def Kv{ta:TA}{r:PTA}(hr:SndA K mg E ta r):SndI K mg E (Ho ta) (pIR1 r):=by
 intro H0 B H σ γ R X Q env h q qx;refine hr H0 B H σ γ _ X _ env h (fun ss vs H1 h1 S1 t1=>?_) qx;have rv:=t1.rps (env.grow S1).same;unfold fR1 at h1;split at h1
 ·rename_i j ej;rw[ej]at rv;obtain⟨v,rfl,r1⟩:=rv.one_inv;rw[r1.int_inv];exact⟨j,rfl,h1.1.1,h1.1.2,q _ _ _ H1 h1.2 S1 Gj⟩
 ·exact h1.elim
def Er{ta:TA}{r:PTA}(hr:SndA K mg E ta r):SndI K mg E (DP ta) (pIR2 r):=by
 intro H0 B H σ γ R X Q env h q qx;refine hr H0 B H σ γ _ X _ env h (fun ss vs H1 h1 S1 t1=>?_) qx;have rv:=t1.rps (env.grow S1).same;unfold fR2 at h1;split at h1
 ·rename_i i j ej;rw[ej]at rv;obtain⟨v,u,rfl,r1,r2⟩:=rv.two_inv;rw[r1.int_inv,r2.int_inv];exact⟨i,j,rfl,h1.1,q _ _ _ H1 h1.2 S1 Gj⟩
 ·exact h1.elim
structure WhileW (js:List Nat) (γ:Γ) (c:PTT) (body:PTS) (R:PEnds):Prop where
 w:∃(inv:Γ->Prop) (μ:Γ->Nat),inv (clr js γ)/\∀γ',inv γ'->c γ' (fun b=>if b=true then
  body {R with nx:=fun γ3=>inv (clr js γ3)/\μ (clr js γ3)<μ γ',ct:=fun γ3=>inv (clr js γ3)/\μ (clr js γ3)<μ γ',bk:=R.nx} γ' else R.nx γ') (R.ex γ')
def Zdi(js:List Nat)(c:PTT)(body:PTS):PTS:=fun R γ=>WhileW js γ c body R
def Al(js:List Nat)(hc:SndT K mg E tt c)(hb:SndS K mg E t p):SndS K mg E (Hc tt t) (Zdi js c p):=by
 intro H0 B H σ γ R D hB env h e;obtain⟨inv,μ,h0,hs⟩:=h.w;refine⟨fun m σ' H'=>∃γ',m=μ γ'/\inv γ'/\EnvR K H0 B H' σ' γ'/\Fr B H σ γ H' σ' γ',⟨_,_,rfl,h0,(env.clr js).1,(env.clr js).2⟩,?_⟩;rintro m σ' H' ⟨γ',rfl,hi,e',f'⟩;refine hc H0 B H' σ' γ' _ _ _ e' (hs γ' hi) (fun b H1 h1 S1=>?_) fun c H'' hc S'=>e.ex σ' γ' c H'' hc (e'.grow S') (f'.trans (Fr.grow S'));have e1:=e'.grow S1;have f1:=f'.trans (Fr.grow S1);cases b with
 |false=>
  rw[Yp Y6]at h1 ⊢;exact e.nx σ' γ' H1 h1 e1 f1
 |true=>
  rw[Yr rfl]at h1 ⊢;refine⟨fun σ2 H2=>∃γ2,μ γ2<μ γ'/\inv γ2/\EnvR K H0 B H2 σ2 γ2/\Fr B H σ γ H2 σ2 γ2,fun σ2 H2 ⟨γ2,k,a1,a2,a3⟩=>⟨_,k,γ2,rfl,a1,a2,a3⟩,?_⟩;refine hb H0 B H1 σ' γ' _ _ hB e1 h1 ⟨fun σ3 γ3 H3 q3 e3 f3=>?_,e.rt,fun σ3 γ3 c H3 q3 e3 f3=>e.ex σ3 γ3 c H3 q3 e3 (f1.trans f3),fun σ3 γ3 H3 q3 e3 f3=>e.nx σ3 γ3 H3 q3 e3 (f1.trans f3),fun σ3 γ3 H3 q3 e3 f3=>?_,fun σ3 γ3 d v H3 q3 e3 f3=>e.rv σ3 γ3 d v H3 q3 e3 (f1.trans f3)⟩
  ·exact⟨_,q3.2,q3.1,(e3.clr js).1,(f1.trans f3).trans (e3.clr js).2⟩
  ·exact⟨_,q3.2,q3.1,(e3.clr js).1,(f1.trans f3).trans (e3.clr js).2⟩
end
section
variable {K:Za}{mg:Str->Option Value}{E:L2.St->XK}{H0 H H1 H':Hp}{B Z Z':Addr->Prop}{σ:L2.St}{γ:Γ}
def Kr(N:List Str)(ds:List D):Γ:=ds.map (fun d=>some (arg d))++List.replicate (N.length-ds.length) none
def HN{N:List Str}{ds:List D}{vs:List V}(r:Rps K H ds vs)(hn:ds.length<=N.length):EnvR K H (fun b=>Mut (H b)) H (start N vs) (Kr N ds):=by
 have hlen:=r.len
 have get:∀(i:Nat) (s:S),(Kr N ds)[i]?=some (some s)->∃d,ds[i]?=some d/\s=arg d:=fun i s h=>by
  unfold Kr at h;by_cases hi:i<ds.length
  ·rw[YI (by rw[Ym];exact hi),Yt,Yl hi]at h;exact⟨_,Yl hi,(Yz (Yz h)).symm⟩
  ·rw[YK (by rw[Ym];omega),WL]at h;split at h<;>cases h
 have noown:∀(i:Nat) (es:O),(Kr N ds)[i]?≠some (some (.own es)):=fun i es h=>by
  obtain⟨d,_,e⟩:=get i _ h;rcases SN d with q|q<;>rw[q]at e<;>cases e
 refine⟨Same.refl _,?_,fun b h=>h,fun i j a a' es es' b h=>absurd h (noown i es),fun i s h=>?_⟩
 ·unfold L2.start Kr;simp[hlen]
 ·obtain⟨d,hd,rfl⟩:=get i s h;obtain⟨v,hv,rv⟩:=r.get hd;refine⟨v,?_,?_⟩
  ·unfold L2.start;rw[YI (by rw[Ym];exact(YD.mp hv).1),Yt,hv];rfl
  ·have tv:=argR (K:=K) (Z:=zof (fun b=>Mut (H b)) (Kr N ds) (start N vs)) (H0:=H) (H:=H) (H':=H) (fun b z=>z.elim id fun⟨k,es,_,k1,_⟩=>absurd k1 (noown k es)) (Same.refl _) rv;rcases SN d with q|q<;>rw[q]at tv ⊢<;>exact tv
def Rt{c:Pc}{N:List Str}{t:TS}{p:PTS}{vs:List V}{Q:VK}{Ec:XK}{n:Nat}(h:spOf mg c K vs H Q Ec)(snd:SndS K mg (fun _=>Ec) t p)(hn:n<=N.length)(hp:∀ds R X,c ds R X->ds.length=n/\p {nx:=fun _=>R (.sh .non),rt:=R,ex:=fun _ e=>X e} (Kr N ds)):t {nx:=fun _ H'=>Q .non H',rt:=Q} (start N vs) H:=by
 obtain⟨ds,R,X,r,hc,hQ,hX⟩:=h;obtain⟨e,hp⟩:=hp ds R X hc;refine snd H (fun b=>Mut (H b)) H _ _ _ _ (fun b z=>K4 z) (HN r (by rw[e];exact hn)) hp ⟨fun σ' γ' H' h1 e1 f1=>hQ _ _ H' h1 e1.same .non,fun s v H' h1 S1 tv=>hQ s v H' h1 S1 tv,fun σ' γ' c H' h1 e1 f1=>hX c H' h1 e1.same,fun _ _ _ z=>z.elim,fun _ _ _ z=>z.elim,fun _ _ _ _ _ z=>z.elim⟩
def LY{c:Pc}{vs:List V}{Q:VK}{Ec:XK}{n:Nat}(h:spOf mg c K vs H Q Ec)(hn:∀ds R X,c ds R X->ds.length=n):vs.length=n:=by
 obtain⟨ds,R,X,r,hc,_⟩:=h;rw[r.len];exact hn ds R X hc
def atP(φ:List (Option Nat))(γ:Γ):Γ:=φ.map fun o=>o.bind fun j=>(γ[j]?).join
structure CompW (φ:List (Option Nat)) (γ:Γ) (g:PTG) (c:PTT) (e:PTE) (n:Nat) (item:Nat->S) (R:S->Prop):Prop where
 w:n<=100000/\∃f:Nat->Option D,(∀i,i<n->g (item i) (atP φ γ) fun γ2=>c γ2 (fun b=>if b=true then e γ2 (fun s=>∃d,s.shd=some d/\f i=some d) (fun _=>False)else f i=none) (fun _=>False))/\R (.own ((List.range n).filterMap f))
def Oi(φ:List (Option Nat))(it:PTI)(g:PTG)(c:PTT)(e:PTE):PTE:=fun γ R X=>it γ (fun n item=>CompW φ γ g c e n item R) X
def Ny{φ:List (Option Nat)}{i:Nat}{s:S}(h:(atP φ γ)[i]?=some (some s)):∃j,φ[i]?=some (some j)/\γ[j]?=some (some s):=by
 unfold atP at h;rw[Yt]at h;cases e:φ[i]? with
 |none=>rw[e]at h;cases h
 |some o=>
  rw[e]at h;cases o with
  |none=>simp at h
  |some j=>
   refine⟨j,rfl,?_⟩;simp at h;cases e2:γ[j]? with
   |none=>rw[e2]at h;simp at h
   |some w=>rw[e2]at h;simp at h;rw[h]
def Ax:∀{φ:List (Option Nat)},(φ.filterMap id).Nodup->∀(i j k:Nat),φ[i]?=some (some k)->φ[j]?=some (some k)->i=j
 |[],_,i,_,_,h,_=>by simp at h
 |none::r,hn,i,j,k,h1,h2=>by
  cases i with
  |zero=>simp at h1
  |succ i=>
   cases j with
   |zero=>simp at h2
   |succ j=>exact YQ (· + 1) (Ax (φ:=r) (by simpa using hn) i j k (by simpa using h1) (by simpa using h2))
 |some m::r,hn,i,j,k,h1,h2=>by
  have hn':m∉r.filterMap id/\(r.filterMap id).Nodup:=by simpa using hn
  have mem:∀{j:Nat},r[j]?=some (some k)->k∈r.filterMap id:=fun h=>V3.mpr ⟨some k,Y7 h,rfl⟩;cases i with
  |zero=>
   cases j with
   |zero=>rfl
   |succ j=>
    have e:m=k:=by simpa using h1
    subst e;exact absurd (mem (by simpa using h2)) hn'.1
  |succ i=>
   cases j with
   |zero=>
    have e:m=k:=by simpa using h2
    subst e;exact absurd (mem (by simpa using h1)) hn'.1
   |succ j=>exact YQ (· + 1) (Ax (φ:=r) hn'.2 i j k (by simpa using h1) (by simpa using h2))
def Nv{φ:List (Option Nat)}{i j:Nat}(h1:φ[i]?=some (some j)){v:V}(h2:σ[j]?=some (some v)):(atStart φ σ)[i]?=some (some v):=by
 unfold atStart;rw[Yt,h1];simp[h2]
def FM{φ:List (Option Nat)}{L:Addr}(env:EnvR K H0 B H σ γ)(nL:H L=none):∀b o,H b=some o->¬zof B γ σ b->¬zof (fun b=>zof B γ σ b\/b=L) (atP φ γ) (atStart φ σ) b:=fun b o hb z y=>by
 rcases y with(y|y)|⟨i',ds,x,y1,y2,y3⟩
 ·exact z y
 ·rw[y,nL]at hb;cases hb
 ·obtain⟨m,m1,m2⟩:=Ny y1;obtain⟨w,w1,_⟩:=env.slot m _ m2;rw[Nv m1 w1]at y2;exact z (.inr ⟨m,ds,x,m2,by rw[w1];exact YQ some (Yz y2),y3⟩)
def GV{φ:List (Option Nat)}{L:Addr}(env:EnvR K H0 B H σ γ)(S1:Same H H')(nL:H L=none)(hL:∃ys,H' L=some (.lst ys))(hφ:(φ.filterMap id).Nodup) :
  EnvR K H0 (fun b=>zof B γ σ b\/b=L) H' (atStart φ σ) (atP φ γ):=by
 refine⟨env.same.trans S1,by unfold atStart atP;simp,fun b z=>?_,fun i j a a' ds es b h1 h2 h3 h4 h5 h6=>?_,fun i s h=>?_⟩
 ·rcases z with z|rfl
  ·exact Ki S1 (env.zm b z)
  ·obtain⟨ys,e⟩:=hL;rw[e];trivial
 ·obtain⟨k,k1,k2⟩:=Ny h1;obtain⟨l,l1,l2⟩:=Ny h2;obtain⟨v,v1,_⟩:=env.slot k _ k2;obtain⟨u,u1,_⟩:=env.slot l _ l2;rw[Nv k1 v1]at h3;rw[Nv l1 u1]at h4
  have:=env.own k l a a' ds es b k2 l2 (by rw[v1];exact YQ some (Yz h3)) (by rw[u1];exact YQ some (Yz h4)) h5 h6
  subst this;exact Ax hφ i j k k1 l1
 ·obtain⟨k,k1,k2⟩:=Ny h;obtain⟨v,v1,v2⟩:=env.slot k _ k2;have So:Same (off (zof B γ σ) H) (off (zof (fun b=>zof B γ σ b\/b=L) (atP φ γ) (atStart φ σ)) H'):=Uk S1 (FM env nL);refine⟨v,Nv k1 v1,?_⟩;cases s with
  |bor d=>exact v2
  |sh d=>exact Rp.mono So v2
  |own ds=>
   obtain⟨a,e1,e3,e4⟩:=v2;exact⟨a,e1,e3,e4.mono So fun b _ x=>S1 b x⟩
  |view ds=>exact v2
  |tmp d=>exact v2
def Sub.of {σ σ':L2.St}{is:List Nat} (hl:σ'.length=σ.length) (h1:∀j,j∉is->σ'[j]?=σ[j]?) (h2:∀j∈is,∀v,σ[j]?≠some (some v)):Sub σ σ':=⟨hl,fun i v e=>by
 by_cases hi:i∈is
 ·exact absurd e (h2 i hi v)
 ·rw[h1 i hi];exact e⟩
structure ItOkC (K:Za) (H0:Hp) (B:Addr->Prop) (H1:Hp) (σ:L2.St) (γ:Γ) (J:It) (n:Nat) (item:Nat->S):Prop where
 go:∀(i:Nat) (H':Hp) (Z':Addr->Prop),i<n->Same H1 H'->Later H0 (zof B γ σ) H1 Z' H'->J.go i H'/\∀x H'',J.yld i H' x H''->Same H' H''/\TV K Z' H0 H' H'' (item i) x
 stop:∀(H':Hp) (Z':Addr->Prop),Same H1 H'->Later H0 (zof B γ σ) H1 Z' H'->J.stop n H'
def NR(K:Za)(mg:Str->Option Value)(E:L2.St->XK)(wi:TI)(it:PTI):Prop:=∀(H0:Hp) (B:Addr->Prop) (H:Hp) (σ:L2.St) (γ:Γ) (R:Nat->(Nat->S)->Prop) (X:XR) (Q:It->Hp->Prop),EnvR K H0 B H σ γ->it γ R X->
 (∀n item J H1,R n item->Same H H1->ItOkC K H0 B H1 σ γ J n item->Q J H1)->(∀c H',X c->Same H H'->E σ (.ref (ExcR.JP mg c)) none H')->wi σ H Q
def SndI.c {wi:TI}{it:PTI} (h:SndI K mg E wi it):NR K mg E wi it:=fun H0 B H σ γ R X Q env p q qx=>
 h H0 B H σ γ R X Q env p (fun n item J H1 hR S1 ok=>q n item J H1 hR S1 ⟨fun i H' Z' hi _ lt=>ok.go i H' Z' hi lt,fun H' Z' _ lt=>ok.stop H' Z' lt⟩) qx
def pILc(a:PTE):PTI:=fun γ R X=>a γ (fun s=>match s.d with
 | .lst ds=>R ds.length fun i=>s.sub (ds.getD i .non)
 | .tup ds=>False
 | .scr ns=>R ns.length fun i=>.sh (.int (ns.getD i 0))
 |_=>False) X
def US{te:TE}{a:PTE}(ha:SndE K mg E te a):NR K mg E (Si K te) (pILc a):=by
 intro H0 B H σ γ R X Q env h q qx;refine ha H0 B H σ γ _ X _ env h (fun s v H1 h1 S1 t1=>?_) qx;have env1:=env.grow S1;split at h1
 ·rename_i ds ed;have rv:=t1.rp env1.same;rw[ed]at rv;obtain⟨l,vs,rfl,hl1,r1⟩:=rv.lst_inv;refine⟨l,rfl,⟨vs,SqL.of hl1⟩,q _ _ _ H1 h1 S1 ⟨fun i H' Z' hi S2 lt=>?_,fun H' Z' S2 lt=>⟨vs,SqL.of (S2 _ _ hl1),by rw[r1.len];exact Yy _⟩⟩⟩;have hd:ds[i]?=some (ds.getD i .non):=by rw[Yo,Yl hi];rfl
  have hi':∃u,vs[i]?=some u/\TV K Z' H0 H' H' (s.sub (ds.getD i .non)) u:=by
   cases s with
   |bor d=>
    have t1:=Rp.strip t1;rw[show d.strip=.lst ds from ed]at t1
    obtain⟨l',vs',e',h3,r3⟩:=Rp.lst_inv t1;cases e'
    rw[env1.same _ _ h3]at hl1;cases hl1
    obtain⟨u,h4,h5⟩:=r3.get hd;exact⟨u,h4,argR lt.2.1 lt.1 h5⟩
   |sh d=>
    have:d=.lst ds:=ed
    subst this;obtain⟨l',vs',e',h3,r3⟩:=Rp.lst_inv t1;cases e'
    rw[off_sub _ _ h3]at hl1;cases hl1
    obtain⟨u,h4,h5⟩:=r3.get hd;exact⟨u,h4,Rp.mono lt.off h5⟩
   |own es=>
    cases es with
    |dK es=>cases ed
    |dT es=>cases ed
    |ins x C xs cs=>cases ed
    |nst cs=>cases ed
    |nsl x cs=>
     obtain⟨u,h4,h5⟩:=r1.get hd;exact⟨u,h4,Kj lt.2.1 (Rp.mono S2 h5)⟩
    |lsA x es=>
     cases ed
     obtain⟨l',e',h0,_,vs',h3,r3⟩:=t1;cases e'
     rw[h3]at hl1;cases hl1
     obtain⟨u,h4,h5⟩:=r3.get hd;exact⟨u,h4,Rp.mono lt.off (Rp.mono (Uk (Same.refl _) fun b _ _ z y=>z (.inl y)) h5)⟩
    |lst es=>
    cases ed
    obtain⟨l',e',h0,vs',h3,r3⟩:=t1;cases e'
    rw[h3]at hl1;cases hl1
    obtain⟨u,h4,h5⟩:=r3.get hd;exact⟨u,h4,Rp.mono lt.off (Rp.mono (Uk (Same.refl _) fun b _ _ z y=>z (.inl y)) h5)⟩
   |view es=>
    cases es with
    |dK es=>cases ed
    |dT es=>cases ed
    |ins x C xs cs=>cases ed
    |nst cs=>cases ed
    |nsl x cs=>
     obtain⟨u,h4,h5⟩:=r1.get hd;exact⟨u,h4,Kj lt.2.1 (Rp.mono S2 h5)⟩
    |lsA x es=>
     cases ed
     obtain⟨l',e',_,vs',h3,r3⟩:=t1;cases e'
     rw[h3]at hl1;cases hl1
     obtain⟨u,h4,h5⟩:=r3.get hd;exact⟨u,h4,Rp.mono lt.off h5⟩
    |lst es=>
    cases ed
    obtain⟨l',e',vs',h3,r3⟩:=t1;cases e'
    rw[h3]at hl1;cases hl1
    obtain⟨u,h4,h5⟩:=r3.get hd;exact⟨u,h4,Rp.mono lt.off h5⟩
   |tmp d=>
    have:d=.lst ds:=ed
    subst this;obtain⟨l',vs',e',h3,r3⟩:=Rp.lst_inv t1;cases e'
    rw[h3]at hl1;cases hl1
    obtain⟨u,h4,h5⟩:=r3.get hd;exact⟨u,h4,Kj lt.2.1 (Rp.mono S2 h5)⟩
  obtain⟨u,hu,tu⟩:=hi';refine⟨⟨vs,u,SqL.of (S2 _ _ hl1),hu⟩,fun x H'' y=>?_⟩;obtain⟨rfl,y⟩:=y
  have:=y vs (SqL.of (S2 _ _ hl1))
  rw[hu]at this;cases this
  exact⟨Same.refl _,tu⟩
 ·exact h1.elim
 ·rename_i ns ed;have rv:=t1.rp env1.same;rw[ed]at rv;cases rv with
  |scr hs=>
   refine⟨_,rfl,⟨_,hs⟩,q _ _ _ H1 h1 S1 ⟨fun i H' Z' hi S2 lt=>?_,fun H' Z' S2 lt=>⟨_,S2.seq hs,by rw[Ym];exact Yy _⟩⟩⟩
   have hu:(ns.map V.int)[i]?=some (.int (ns.getD i 0)):=by
    rw[Yt,Yl hi,Yo,Yl hi];rfl
   refine⟨⟨_,_,S2.seq hs,hu⟩,fun x H'' y=>?_⟩;obtain⟨rfl,y⟩:=y
   have:=y _ (S2.seq hs)
   rw[hu]at this;cases this
   exact⟨Same.refl _,.int _⟩
 ·exact h1.elim
def U8{φ:List (Option Nat)}{is:List Nat}{wi:TI}{g:TG}{tc:TT}{te:TE}{it:PTI}{pg:PTG}{c:PTT}{a:PTE}(hi:NR K mg E wi it)(hg:KP K is g pg)(hc:SndT K mg E tc c)(he:SndE K mg E te a)(h1:(φ.filterMap id).Nodup:=by decide)(h2:∀j∈is,φ[j]?=some none:=by decide):SndE K mg E (TQ φ wi g tc te) (Oi φ it pg c a):=by
 intro H0 B H σ γ R X Q env h q qx;refine hi H0 B H σ γ _ X _ env h (fun n item J H1 h1' S1 ok=>?_) qx;obtain⟨hn,f,hf,hR⟩:=h1'.w;have env1:=env.grow S1;have hbig:n<=sizeLine:=Y4 hn (by decide);intro L nL;refine⟨fun i m ys H2=>m=n-i/\i<=n/\Same H1 H2/\H2 L=some (.lst ys)/\Rps K (off (fun b=>zof B γ σ b\/b=L) H2) ((List.range i).filterMap f) ys,⟨n,by simp,Ww _,UP nL,U6,.nil⟩,?_⟩;rintro i m ys H2 ⟨rfl,hin,S2,hL,hys⟩;have env2:=env1.grow S2;by_cases hlt:i<n
 ·have envI2:=GV (φ:=φ) env1 S2 nL ⟨ys,hL⟩ h1;obtain⟨go,yl⟩:=ok.go i H2 _ hlt S2 ⟨env2.same,envI2.zm,fun b o hb z=>⟨S2 _ _ hb,FM env1 nL b o hb z⟩⟩;refine .inr ⟨go,fun x H3 y=>?_⟩;obtain⟨S3,tv⟩:=yl x H3 y;refine hg H0 _ H2 H3 _ _ _ _ _ _ envI2 S3 tv (hf i hlt) fun σ2 γ2 p2 e2 f2 k2=>⟨?_,?_⟩
  ·refine Sub.of (is:=is) k2.2 k2.1 fun j hj v z=>?_;obtain⟨k,k1,_⟩:=BZ z;rw[h2 j hj]at k1;cases k1
  ·refine hc H0 _ H3 σ2 γ2 _ _ _ e2 p2 (fun b H5 q5 S5=>?_) fun _ _ z=>z.elim;have e5:=e2.grow S5;cases b with
   |false=>
    rw[Yp Y6]at q5 ⊢;refine⟨n-(i+1),by omega,rfl,hlt,(S2.trans S3).trans S5,(S3.trans S5) _ _ hL,?_⟩;rw[QB,Q1];simp only[WO,q5,List.filterMap_nil,Wb];exact Rps.mono (Uk (S3.trans S5) fun _ _ _ z=>z) hys
   |true=>
    rw[Yr rfl]at q5 ⊢;refine he H0 _ H5 σ2 γ2 _ _ _ e5 q5 (fun s v H6 q6 S6 t6=>?_) fun _ _ z=>z.elim;obtain⟨d,hd,hfd⟩:=q6;have S26:=(S3.trans S5).trans S6;have hr:=t6.shd (e5.grow S6).same e5.zm S6 hd
    have hlen:ys.length<=i:=by
     rw[hys.len];exact Y4 (List.length_filterMap_le _ _) (by rw[WJ];exact Yy _)
    refine⟨S26 _ _ hL,by omega,n-(i+1),by omega,rfl,hlt,fun b o hb=>?_,U6,?_⟩
    ·rw[Um (X6 hb nL)];exact S26 _ _ (S2 _ _ hb)
    ·rw[QB,Q1];have ef:[i].filterMap f=[d]:=by simp[hfd]
     rw[ef]
     have So:Same (off (fun b=>zof B γ σ b\/b=L) H6) (off (fun b=>zof B γ σ b\/b=L) (upd H6 L (.lst (ys++[v])))):=fun b o h=>by
      obtain⟨a1,a2⟩:=XD h;refine U7 ?_ a2;rw[Um fun z=>a2 (.inr z)];exact a1
     refine Rps.append (Rps.mono So (Rps.mono (Uk S26 fun _ _ _ z=>z) hys)) (.cons (Rp.mono So (Rp.mono (Uk (Same.refl _) fun b _ _ z y=>z (.inl y)) hr)) .nil)
 ·have:i=n:=by omega
  subst this;exact .inl ⟨ok.stop H2 _ S2 (Later.of env2 (Fr.grow S2)),q _ _ H2 hR (S1.trans S2) ⟨L,rfl,(fun _ e=>e▸S1.free nL),ys,hL,hys⟩⟩
def pYes:PTT:=fun _ R _=>R true
def Xz:SndT K mg E DH pYes:=fun _ _ H _ _ _ _ _ _ p q _=>q _ H p (Same.refl _)
def Zd5{α β:Type}(xs:List α)(f:α->Option β):(List.range xs.length).filterMap (fun i=>(xs[i]?).bind f)=xs.filterMap f:=by
 induction xs with
 |nil=>rfl
 |cons x r ih=>
  rw[YE,List.range_succ_eq_map,WO,List.filterMap_map,WO]
  have e:(fun i=>((x::r)[i]?).bind f)∘Nat.succ=fun i=>(r[i]?).bind f:=by
   funext i;simp
  rw[e,ih];rfl
end
open M
section
variable {K:Za}{mg:Str->Option Value}{E:L2.St->XK}{H0 H H1 H':Hp}{B Z Z':Addr->Prop}{σ:L2.St}{γ:Γ}
def pCB(f:List S->(S->Prop)->Prop)(r:PTA):PTE:=fun γ R X=>r γ (fun ss=>f ss R) X
def XX{rr:List V->Hp->VK->Prop}{f:List S->(S->Prop)->Prop}{ta:TA}{r:PTA}(hr:SndA K mg E ta r)(h:∀(H0 H H1:Hp) (Z:Addr->Prop) (ss:List S) (vs:List V) (R:S->Prop) (Q:VK),Same H0 H1->Same H H1->(∀b,Z b->Mut (H b))->TVs K Z H0 H H1 ss vs->f ss R->(∀s z H',R s->Same H1 H'->TV K Z H0 H H' s z->Q z H')->rr vs H1 Q) :
  SndE K mg E (tCB rr ta) (pCB f r):=by
 intro H0 B H σ γ R X Q env p q qx;refine hr H0 B H σ γ _ X _ env p (fun ss vs H1 h1 S1 t1=>?_) qx;exact h H0 H H1 _ ss vs R Q (env.grow S1).same S1 env.zm t1 h1 fun s z H' hs S2 tv=>q s z H' hs (S1.trans S2) tv
def S.free:S->List D->Bool
 | .bor _,ds=>imms ds | .tmp _,ds=>imms ds | .view (.nst _),ds=>imms ds | .view (.nsl _ _),ds=>imms ds|_,_=>true
def TVs.one_inv {s:S}{vs:List V} (h:TVs K Z H0 H H' [s] vs):∃v,vs=[v]/\TV K Z H0 H H' s v:=by
 cases h with
 |cons h r=>cases r;exact⟨_,rfl,h⟩
def TVs.two_inv {s t:S}{vs:List V} (h:TVs K Z H0 H H' [s,t] vs):∃v u,vs=[v,u]/\TV K Z H0 H H' s v/\TV K Z H0 H H' t u:=by
 cases h with
 |cons h r=>cases r with|cons h2 r=>cases r;exact⟨_,_,rfl,h,h2⟩
def TV.items {s:S}{v:V}{ds:List D} (h0:Same H0 H') (hm:∀b,Z b->Mut (H b)) (S1:Same H H') (h:TV K Z H0 H H' s v) (hf:s.free ds=true) :
  (s.d=.lst ds->∃a vs,v=.ref a/\H' a=some (.lst vs)/\Rps K (off Z H') ds vs)/\(s.d=.tup ds->∃a vs,v=.ref a/\H' a=some (.tup vs)/\Rps K (off Z H') ds vs):=by
 have hm':∀b,Z b->Mut (H' b):=fun b z=>Ki S1 (hm b z);cases s with
 |bor d=>
  have h:=Rp.strip h;refine⟨fun e=>?_,fun e=>?_⟩<;>rw[show d.strip=_ from e]at h
  ·obtain⟨a,vs,rfl,h1,r⟩:=Rp.lst_inv h;exact⟨a,vs,rfl,h0 _ _ h1,Rps.off hm' (Rps.mono h0 r) hf⟩
  ·obtain⟨a,vs,rfl,h1,r⟩:=Rp.tup_inv h;exact⟨a,vs,rfl,h0 _ _ h1,Rps.off hm' (Rps.mono h0 r) hf⟩
 |sh d=>
  refine⟨fun e=>?_,fun e=>?_⟩<;>(have e':d=_:=e;subst e')
  ·obtain⟨a,vs,rfl,h1,r⟩:=Rp.lst_inv h;exact⟨a,vs,rfl,off_sub _ _ h1,r⟩
  ·obtain⟨a,vs,rfl,h1,r⟩:=Rp.tup_inv h;exact⟨a,vs,rfl,off_sub _ _ h1,r⟩
 |own es=>
  cases es with
  |dK es=>exact⟨(fun e=>by cases e),(fun e=>by cases e)⟩
  |dT es=>exact⟨(fun e=>by cases e),(fun e=>by cases e)⟩
  |ins x C xs cs=>exact⟨(fun e=>by cases e),(fun e=>by cases e)⟩
  |nsl x cs=>
   refine⟨fun e=>?_,fun e=>by cases e⟩;have h2:=h.shd h0 hm S1 (d:=.lst (cs.map fun c=>.lst c.2)) rfl;cases e
   obtain⟨a,vs,rfl,h1,r⟩:=Rp.lst_inv h2;exact⟨a,vs,rfl,off_sub _ _ h1,r⟩
  |nst cs=>
   refine⟨(fun e=>by cases e),fun e=>?_⟩;have h2:=h.shd h0 hm S1 (d:=.tup (cs.map fun c=>.lst c.2)) rfl;cases e
   obtain⟨a,vs,rfl,h1,r⟩:=Rp.tup_inv h2;exact⟨a,vs,rfl,off_sub _ _ h1,r⟩
  |lst es=>
   refine⟨fun e=>?_,fun e=>by cases e⟩;cases e
   obtain⟨a,rfl,e0,vs,e,r⟩:=h;exact⟨a,vs,rfl,e,Rps.mono (Uk (Same.refl _) fun b _ _ z y=>z (.inl y)) r⟩
  |lsA x es=>
   refine⟨fun e=>?_,fun e=>by cases e⟩;cases e
   obtain⟨a,rfl,e0,_,vs,e,r⟩:=h;exact⟨a,vs,rfl,e,Rps.mono (Uk (Same.refl _) fun b _ _ z y=>z (.inl y)) r⟩
 |view es=>
  cases es with
  |dK es=>exact⟨(fun e=>by cases e),(fun e=>by cases e)⟩
  |dT es=>exact⟨(fun e=>by cases e),(fun e=>by cases e)⟩
  |ins x C xs cs=>exact⟨(fun e=>by cases e),(fun e=>by cases e)⟩
  |nsl x cs=>
   refine⟨fun e=>?_,fun e=>by cases e⟩;have h2:=h.rp h0;rw[e]at h2;obtain⟨a,vs,rfl,h1,r⟩:=Rp.lst_inv h2;exact⟨a,vs,rfl,h1,Rps.off hm' r hf⟩
  |nst cs=>
   refine⟨(fun e=>by cases e),fun e=>?_⟩;have h2:=h.rp h0;rw[e]at h2;obtain⟨a,vs,rfl,h1,r⟩:=Rp.tup_inv h2;exact⟨a,vs,rfl,h1,Rps.off hm' r hf⟩
  |lst es=>
   refine⟨fun e=>?_,fun e=>by cases e⟩;cases e
   obtain⟨a,rfl,vs,e,r⟩:=h;exact⟨a,vs,rfl,e,r⟩
  |lsA x es=>
   refine⟨fun e=>?_,fun e=>by cases e⟩;cases e
   obtain⟨a,rfl,_,vs,e,r⟩:=h;exact⟨a,vs,rfl,e,r⟩
 |tmp d=>
  refine⟨fun e=>?_,fun e=>?_⟩<;>(have e':d=_:=e;subst e')
  ·obtain⟨a,vs,rfl,h1,r⟩:=Rp.lst_inv h;exact⟨a,vs,rfl,h1,Rps.off hm' r hf⟩
  ·obtain⟨a,vs,rfl,h1,r⟩:=Rp.tup_inv h;exact⟨a,vs,rfl,h1,Rps.off hm' r hf⟩
def fLen:List S->(S->Prop)->Prop
 |[s],R=>(match s.d with
  | .lst ds=>R (.sh (.int ds.length)) | .tup ds=>R (.sh (.int ds.length)) | .scr ns=>R (.sh (.int ns.length)) | .str x=>x.length<=sizeLine/\R (.sh (.int x.length))|_=>False)
 |_,_=>False
def U2{ta:TA}{r:PTA}(hr:SndA K mg E ta r):SndE K mg E (tCB (fun xs H Q=>∃x n,xs=[x]/\LenV K x H n/\Q (.int n) H) ta) (pCB fLen r):=by
 refine XX hr fun H0 H H1 Z ss vs R Q s0 s1 hm tv h q=>?_;unfold fLen at h;split at h
 ·rename_i s;obtain⟨v,rfl,t1⟩:=tv.one_inv;have rv:=t1.rp s0;split at h
  ·rename_i ds e;rw[e]at rv;obtain⟨a,us,rfl,h1,r1⟩:=rv.lst_inv;exact⟨_,_,rfl,.inl ⟨us,SqL.of h1,rfl⟩,by rw[r1.len];exact q _ _ H1 h (Same.refl _) (.int _)⟩
  ·rename_i ds e;rw[e]at rv;obtain⟨a,us,rfl,h1,r1⟩:=rv.tup_inv;exact⟨_,_,rfl,.inr ⟨us,SqT.of h1,rfl⟩,by rw[r1.len];exact q _ _ H1 h (Same.refl _) (.int _)⟩
  ·rename_i ns e;rw[e]at rv;cases rv with
   |scr hs=>exact⟨_,_,rfl,.inl ⟨_,hs,rfl⟩,by rw[Ym];exact q _ _ H1 h (Same.refl _) (.int _)⟩
  ·rename_i x e;rw[e]at rv;rw[rv.str_inv];exact⟨_,_,rfl,⟨h.1,rfl⟩,q _ _ H1 h.2 (Same.refl _) (.int _)⟩
  ·exact h.elim
 ·exact h.elim
def DJ:List S->(S->Prop)->Prop
 |[s],R=>(match s.d with
  | .lst ds=>s.free ds=true/\R (.own ds) | .tup ds=>s.free ds=true/\R (.own ds)|_=>False)
 |_,_=>False
def Nf{ta:TA}{r:PTA}(hr:SndA K mg E ta r):SndE K mg E (tCB (fun xs H Q=>∃p ys,xs=[.ref p]/\(SqL K H p ys\/SqT K H p ys)/\∀l,H l=none->Q (.ref l) (upd H l (.lst ys))) ta) (pCB DJ r):=by
 refine XX hr fun H0 H H1 Z ss vs R Q s0 s1 hm tv h q=>?_;unfold DJ at h;split at h
 ·rename_i s;obtain⟨v,rfl,t1⟩:=tv.one_inv;split at h
  ·rename_i ds e;obtain⟨a,us,rfl,h1,r1⟩:=(t1.items s0 hm s1 h.1).1 e;exact⟨a,us,rfl,.inl (SqL.of h1),fun l nl=>q _ _ _ h.2 (UP nl) (KN s1 nl r1)⟩
  ·rename_i ds e;obtain⟨a,us,rfl,h1,r1⟩:=(t1.items s0 hm s1 h.1).2 e;exact⟨a,us,rfl,.inr (SqT.of h1),fun l nl=>q _ _ _ h.2 (UP nl) (KN s1 nl r1)⟩
  ·exact h.elim
 ·exact h.elim
def CV:List S->(S->Prop)->Prop
 |[s],R=>(match s.d with
  | .lst ds=>s.free ds=true/\R (.sh (.tup ds)) | .tup ds=>s.free ds=true/\R (.sh (.tup ds))|_=>False)
 |_,_=>False
def CH{ta:TA}{r:PTA}(hr:SndA K mg E ta r):SndE K mg E (tCB (fun xs H Q=>∃p ys,xs=[.ref p]/\((SqL K H p ys/\∀l,H l=none->Q (.ref l) (upd H l (.tup ys)))\/(SqT K H p ys/\Q (.ref p) H))) ta) (pCB CV r):=by
 refine XX hr fun H0 H H1 Z ss vs R Q s0 s1 hm tv h q=>?_;have hm':∀b,Z b->Mut (H1 b):=fun b z=>Ki s1 (hm b z);unfold CV at h;split at h
 ·rename_i s;obtain⟨v,rfl,t1⟩:=tv.one_inv;split at h
  ·rename_i ds e;obtain⟨a,us,rfl,h1,r1⟩:=(t1.items s0 hm s1 h.1).1 e;refine⟨a,us,rfl,.inl ⟨SqL.of h1,fun l nl=>q _ _ _ h.2 (UP nl) (.tup (U7 U6 fun z=>?_) (Rps.mono (Uk (UP nl) fun _ _ _ z=>z) r1))⟩⟩
   have:=hm' l z
   rw[nl]at this;exact this
  ·rename_i ds e;obtain⟨a,us,rfl,h1,r1⟩:=(t1.items s0 hm s1 h.1).2 e;refine⟨a,us,rfl,.inr ⟨SqT.of h1,q _ _ _ h.2 (Same.refl _) (.tup (U7 h1 fun z=>?_) r1)⟩⟩
   have:=hm' a z
   rw[h1]at this;exact this
  ·exact h.elim
 ·exact h.elim
def Rps.ints {K:Za}{H:Hp}:∀{js:List Int}{vs:List V},Rps K H (js.map D.int) vs->vs=js.map V.int
 |[],_,.nil=>rfl
 |j::r,_,.cons h t=>by rw[Rp.int_inv h,Rps.ints t];rfl
def Rps.of_ints {K:Za}{H:Hp}:∀(js:List Int),Rps K H (js.map D.int) (js.map V.int)
 |[]=>.nil
 |j::r=>.cons (.int j) (Rps.of_ints r)
def AX:List S->(S->Prop)->Prop
 |[s],R=>∃js:List Int,s.d=.lst (js.map D.int)/\js.length<64/\∀ns:List Int,ns.Perm js->ns.Pairwise (·<=·)->R (.own (ns.map D.int))
 |_,_=>False
def Fd{w:World}{ta:TA}{r:PTA}(hr:SndA K mg E ta r):SndE K mg E (tCB (fun xs H Q=>∃(p:Addr) (js:List Int),xs=[.ref p]/\js.length<64/\(SqL K H p (js.map V.int)\/H p=some (SetH w p js))/\
  ∀(l:Addr) (ns:List Int),H l=none->ns.Perm js->ns.Pairwise (·<=·)->Q (.ref l) (upd H l (.lst (ns.map V.int)))) ta) (pCB AX r):=by
 refine XX hr fun H0 H H1 Z ss vs R Q s0 s1 hm tv h q=>?_;unfold AX at h;split at h
 ·rename_i s;obtain⟨v,rfl,t1⟩:=tv.one_inv;obtain⟨js,e,hz,k⟩:=h;have rv:=t1.rp s0;rw[e]at rv;obtain⟨a,us,rfl,h1,r1⟩:=rv.lst_inv;rw[r1.ints]at h1;exact⟨a,js,rfl,hz,.inl (SqL.of h1),fun l ns nl hp hs=>q _ _ _ (k ns hp hs) (UP nl) (KN s1 nl (Rps.of_ints ns))⟩
 ·exact h.elim
def D2:List S->(S->Prop)->Prop
 |[s,t],R=>(match s.d,t.d with | .int i,.int j=>R (.sh (.int (if j>i then j else i)))|_,_=>False)
 |_,_=>False
def G8{ta:TA}{r:PTA}(hr:SndA K mg E ta r):SndE K mg E (tCB (fun xs H Q=>∃i j,xs=[.int i,.int j]/\Q (.int (if j>i then j else i)) H) ta) (pCB D2 r):=by
 refine XX hr fun H0 H H1 Z ss vs R Q s0 s1 hm tv h q=>?_;unfold D2 at h;split at h
 ·obtain⟨v,u,rfl,t1,t2⟩:=tv.two_inv;have r1:=t1.rp s0;have r2:=t2.rp s0;split at h
  ·rename_i i j e1 e2;rw[e1]at r1;rw[e2]at r2;rw[r1.int_inv,r2.int_inv];exact⟨i,j,rfl,q _ _ H1 h (Same.refl _) (.int _)⟩
  ·exact h.elim
 ·exact h.elim
def fAbs:List S->(S->Prop)->Prop
 |[s],R=>(match s.d with | .int i=>R (.sh (.int (if i<0 then -i else i)))|_=>False)
 |_,_=>False
def tyD:D->Option String
 | .int _=>some "int" | .bl _=>some "bool" | .non=>some "NoneType" | .str _=>some "str" | .tup _=>some "tuple" | .lst _=>some "list" | .dK _=>some "dict" | .dT _=>some "dict" |_=>none
inductive IsiR:String->String->Bool->Prop
 |same (n:String):IsiR n n true
 |ib:IsiR "int" "bool" false
 |bi:IsiR "bool" "int" true
 |tl:IsiR "tuple" "list" false
 |lt:IsiR "list" "tuple" false
 |it:IsiR "int" "tuple" false
 |il:IsiR "int" "list" false
 |bt:IsiR "bool" "tuple" false
 |bL:IsiR "bool" "list" false
 |ti:IsiR "tuple" "int" false
 |li:IsiR "list" "int" false
 |si:IsiR "str" "int" false
 |is:IsiR "int" "str" false
 |ni:IsiR "NoneType" "int" false
 |nl:IsiR "NoneType" "list" false
 |nt:IsiR "NoneType" "tuple" false
def IsiR.kit {m n:String}{b:Bool} (h:IsiR m n b):PySem.W.kitOne K (.type m) (.type n)=some b:=by
 cases h with
 |same=>exact Lo K _
 |_=>rfl
def fIsi:List S->(S->Prop)->Prop
 |[s,t],R=>(match tyD s.d,t.d with|some m,.ty n=>∃b,IsiR m n b/\R (.sh (.bl b))|_,_=>False)
 |_,_=>False
def Iq{d:D}{v:V}{m:String}(h:Rp K H d v)(e:tyD d=some m):TyOf K H v (.type m):=by
 cases h with
 |int i=>cases e;exact .int i
 |bl b=>cases e;exact .bl b
 |non=>cases e;exact .non
 |str x=>cases e;exact .str x
 |ty n=>cases e
 |tup h r=>cases e;exact .tup h
 |lst h r=>cases e;exact .lst h
 |scr h=>cases e
 |dK h=>cases e;exact .dK h
 |dT h=>cases e;exact .dT h
 |dF h=>cases e
 |loc h=>cases e
 |err h=>cases e
 |ref a=>cases e
 |ins h q r=>cases e
def Nl{ta:TA}{r:PTA}(hr:SndA K mg E ta r):SndE K mg E (tCB (fun xs H Q=>∃x n t b,xs=[x,.ty n]/\TyOf K H x t/\PySem.W.kitOne K t (.type n)=some b/\Q (.bl b) H) ta) (pCB fIsi r):=by
 refine XX hr fun H0 H H1 Z ss vs R Q s0 s1 hm tv h q=>?_;unfold fIsi at h;split at h
 ·obtain⟨v,u,rfl,t1,t2⟩:=tv.two_inv;have r1:=t1.rp s0;have r2:=t2.rp s0;split at h
  ·rename_i m n e1 e2;rw[e2]at r2;rw[r2.ty_inv];obtain⟨b,k,hR⟩:=h;exact⟨v,n,_,b,rfl,Iq r1 e1,k.kit,q _ _ H1 hR (Same.refl _) (.bl _)⟩
  ·exact h.elim
 ·exact h.elim
def pBM(f:S->List S->(S->Prop)->Prop)(a:PTE)(r:PTA):PTE:=fun γ R X=>a γ (fun s=>(∃ds,s.d=.lst ds)/\r γ (fun ss=>f s ss R) X) X
def Zfk{rr:V->List V->Hp->VK->Prop}{f:S->List S->(S->Prop)->Prop}{te:TE}{ta:TA}{a:PTE}{r:PTA}(ha:SndE K mg E te a)(hr:SndA K mg E ta r)(h:∀(H0 H H1:Hp) (Z:Addr->Prop) (s:S) (v:V) (ss:List S) (vs:List V) (R:S->Prop) (Q:VK),Same H0 H1->Same H H1->(∀b,Z b->Mut (H b))->TV K Z H0 H H1 s v->TVs K Z H0 H H1 ss vs->f s ss R->(∀s z H',R s->Same H1 H'->TV K Z H0 H H' s z->Q z H')->rr v vs H1 Q) :
  SndE K mg E (tBM K "list" rr te ta) (pBM f a r):=by
 intro H0 B H σ γ R X Q env p q qx;refine ha H0 B H σ γ _ X _ env p (fun s v H1 h1 S1 t1=>?_) qx;have env1:=env.grow S1;obtain⟨⟨ds,ed⟩,h1⟩:=h1;have rv:=t1.rp env1.same;rw[ed]at rv;obtain⟨l,us,rfl,hl,_⟩:=rv.lst_inv;refine⟨.inl ⟨rfl,us,SqL.of hl⟩,hr H0 B H1 σ γ _ X _ env1 h1 (fun ss vs H2 h2 S2 t2=>?_) fun c H' hc S'=>qx c H' hc (S1.trans S')⟩;exact h H0 H H2 _ s _ ss vs R Q (env1.grow S2).same (S1.trans S2) env.zm (t1.grow S2) (TVs.weakG S1 t2) h2 fun s z H' hs S3 tv=>q s z H' hs ((S1.trans S2).trans S3) tv
def AY:S->List S->(S->Prop)->Prop:=fun s ss R=>match ss with
 |[t]=>(match t.d with | .int z=>∃xs:List Int,s.d=.lst (xs.map D.int)/\z∈xs/\R (.sh (.int (xs.idxOf z:Nat)))|_=>False)
 |_=>False
def TN{te:TE}{ta:TA}{a:PTE}{r:PTA}(ha:SndE K mg E te a)(hr:SndA K mg E ta r):SndE K mg E (tBM K "list" (Fn K) te ta) (pBM AY a r):=by
 refine Zfk ha hr fun H0 H H1 Z s v ss vs R Q s0 s1 hm t1 t2 h q=>?_;unfold AY at h;split at h
 ·obtain⟨u,rfl,t2'⟩:=t2.one_inv;have r2:=t2'.rp s0;split at h
  ·rename_i z e;rw[e]at r2;obtain⟨xs,ex,hz,hR⟩:=h;have r1:=t1.rp s0;rw[ex]at r1;obtain⟨l,us,rfl,hl,r1⟩:=r1.lst_inv;rw[r1.ints]at hl;exact⟨l,xs,z,rfl,by rw[r2.int_inv],SqL.of hl,hz,q _ _ H1 hR (Same.refl _) (.int _)⟩
  ·exact h.elim
 ·exact h.elim
def prD(p:Int×Int):D:=.tup [.int p.1,.int p.2]
inductive InR:D->D->Bool->Prop
 |li (i:Int) (hs:List Int):InR (.int i) (.lst (hs.map D.int)) (decide (i∈hs))
 |ti (i:Int) (hs:List Int):InR (.int i) (.tup (hs.map D.int)) (decide (i∈hs))
 |lp (q:Int×Int) (ps:List (Int×Int)):InR (prD q) (.lst (ps.map prD)) (decide (q∈ps))
def fIn(neg:Bool):S->S->(S->Prop)->Prop:=fun x y R=>∃b,InR x.d y.d b/\R (.sh (.bl (if neg then !b else b)))
def Rp.pair {q:Int×Int}{v:V} (h:Rp K H (prD q) v):XG H v q:=by
 obtain⟨a,vs,rfl,h1,r⟩:=Rp.tup_inv h;obtain⟨x,y,rfl,r1,r2⟩:=r.two_inv;rw[r1.int_inv,r2.int_inv]at h1;exact⟨a,rfl,h1⟩
def Rps.lv {K:Za}{H:Hp}{ps:List (Int×Int)}{vs:List V} (h:Rps K H (ps.map prD) vs):LV XG H vs ps:=by
 refine⟨by rw[h.len,Ym],fun i p hp=>?_⟩;obtain⟨v,h1,h2⟩:=h.get (i:=i) (d:=prD p) (by rw[Yt,hp];rfl);exact⟨v,h1,h2.pair⟩
def Xy{neg:Bool}{ta tb:TE}{a b:PTE}(ha:SndE K mg E ta a)(hb:SndE K mg E tb b):SndE K mg E (tOp (fun x y H Q=>rIn K neg x y H Q\/rInP neg x y H Q) ta tb) (p2 a b (fIn neg)):=by
 refine se_2 ha hb fun H0 H H2 Z x y v u R Q s0 s1 hm tx ty h q=>?_;obtain⟨k,hk,hR⟩:=h;have rx:=tx.rp s0;have ry:=ty.rp s0;generalize ex:x.d=dx at hk rx;generalize ey:y.d=dy at hk ry;cases hk with
 |li i hs=>
  obtain⟨l,us,rfl,hl,r⟩:=ry.lst_inv;rw[r.ints]at hl;rw[rx.int_inv];refine .inl ⟨l,_,rfl,.inl (SqL.of hl),rfl,KE _,?_⟩;rw[Cb];exact q _ _ H2 hR (Same.refl _) (.bl _)
 |ti i hs=>
  obtain⟨l,us,rfl,hl,r⟩:=ry.tup_inv;rw[r.ints]at hl;rw[rx.int_inv];refine .inl ⟨l,_,rfl,.inr (SqT.of hl),rfl,KE _,?_⟩;rw[Cb];exact q _ _ H2 hR (Same.refl _) (.bl _)
 |lp p ps=>
  obtain⟨l,us,rfl,hl,r⟩:=ry.lst_inv;exact .inr ⟨l,ps,p,rfl,rx.pair,⟨us,hl,r.lv⟩,q _ _ H2 hR (Same.refl _) (.bl _)⟩
def fEqU(neg:Bool):S->S->(S->Prop)->Prop:=fun x y R=>match x.d,y.d with
 | .lst ds,.lst es=>∃xs ys:List Int,ds=xs.map D.int/\es=ys.map D.int/\R (.sh (.bl (if neg then !decide (xs=ys)else decide (xs=ys))))
 |_,_=>fEq neg x y R
def Ur{ta tb:TE}{a b:PTE}(ha:SndE K mg E ta a)(hb:SndE K mg E tb b):SndE K mg E (tOp (fun x y H Q=>rEq x y H Q\/rEqL K false x y H Q) ta tb) (p2 a b (fEqU false)):=by
 refine se_2 ha hb fun H0 H H2 Z x y v u R Q s0 s1 hm tx ty h q=>?_;have rx:=tx.rp s0;have ry:=ty.rp s0;unfold fEqU at h;split at h
 ·rename_i ds es e1 e2;obtain⟨xs,ys,rfl,rfl,hR⟩:=h;rw[e1]at rx;rw[e2]at ry;obtain⟨l,us,rfl,hl,r⟩:=rx.lst_inv;obtain⟨m,ws,rfl,hm,r'⟩:=ry.lst_inv;rw[r.ints]at hl;rw[r'.ints]at hm;refine .inr ⟨l,m,_,_,rfl,rfl,SqL.of hl,SqL.of hm,KE _,KE _,?_⟩;rw[BG];exact q _ _ H2 hR (Same.refl _) (.bl _)
 ·refine .inl ?_;unfold fEq at h;split at h
  ·rename_i i j e1 e2;rw[e1]at rx;rw[e2]at ry;rw[rx.int_inv,ry.int_inv];refine⟨rfl,?_⟩;rw[PN (f:=V.int) fun _ _ z=>V.int.inj z];exact q _ _ H2 h (Same.refl _) (.bl _)
  ·rename_i i j e1 e2;rw[e1]at rx;rw[e2]at ry;rw[rx.str_inv,ry.str_inv];refine⟨rfl,?_⟩;rw[PN (f:=V.str) fun _ _ z=>V.str.inj z];exact q _ _ H2 h (Same.refl _) (.bl _)
  ·rename_i i j e1 e2;rw[e1]at rx;rw[e2]at ry;rw[rx.bl_inv,ry.bl_inv];refine⟨rfl,?_⟩;rw[PN (f:=V.bl) fun _ _ z=>V.bl.inj z];exact q _ _ H2 h (Same.refl _) (.bl _)
  ·exact h.elim
def KJ{ta tb:TE}{a b:PTE}(ha:SndE K mg E ta a)(hb:SndE K mg E tb b):SndE K mg E (tOp (fun x y H Q=>rNe x y H Q\/rEqL K true x y H Q) ta tb) (p2 a b (fEqU true)):=by
 refine se_2 ha hb fun H0 H H2 Z x y v u R Q s0 s1 hm tx ty h q=>?_;have rx:=tx.rp s0;have ry:=ty.rp s0;unfold fEqU at h;split at h
 ·rename_i ds es e1 e2;obtain⟨xs,ys,rfl,rfl,hR⟩:=h;rw[e1]at rx;rw[e2]at ry;obtain⟨l,us,rfl,hl,r⟩:=rx.lst_inv;obtain⟨m,ws,rfl,hm,r'⟩:=ry.lst_inv;rw[r.ints]at hl;rw[r'.ints]at hm;refine .inr ⟨l,m,_,_,rfl,rfl,SqL.of hl,SqL.of hm,KE _,KE _,?_⟩;rw[BG];exact q _ _ H2 hR (Same.refl _) (.bl _)
 ·refine .inl ?_;unfold fEq at h;split at h
  ·rename_i i j e1 e2;rw[e1]at rx;rw[e2]at ry;rw[rx.int_inv,ry.int_inv];refine⟨rfl,?_⟩;rw[PN (f:=V.int) fun _ _ z=>V.int.inj z];exact q _ _ H2 h (Same.refl _) (.bl _)
  ·rename_i i j e1 e2;rw[e1]at rx;rw[e2]at ry;rw[rx.str_inv,ry.str_inv];refine⟨rfl,?_⟩;rw[PN (f:=V.str) fun _ _ z=>V.str.inj z];exact q _ _ H2 h (Same.refl _) (.bl _)
  ·rename_i i j e1 e2;rw[e1]at rx;rw[e2]at ry;rw[rx.bl_inv,ry.bl_inv];refine⟨rfl,?_⟩;rw[PN (f:=V.bl) fun _ _ z=>V.bl.inj z];exact q _ _ H2 h (Same.refl _) (.bl _)
  ·exact h.elim
abbrev tTru(K:Za)(ta:TE):TT:=fun σ H Q=>ta σ H fun x H'=>∃k,TruV K x H' k/\Q k H'
def pTru(a:PTE):PTT:=fun γ R X=>a γ (fun x=>match x.d with
 | .bl b=>R b | .lst ds=>R (!ds.isEmpty) | .tup ds=>R (!ds.isEmpty) | .int i=>R (i != 0) | .non=>R false|_=>False) X
def BS{α β:Type}{l:List α}{m:List β}(h:l.length=m.length):l.isEmpty=m.isEmpty:=by
 cases l<;>cases m<;>simp at h ⊢
def Xb{te:TE}{a:PTE}(ha:SndE K mg E te a):SndT K mg E (tTru K te) (pTru a):=by
 intro H0 B H σ γ R X Q env p q qx;refine ha H0 B H σ γ _ X _ env p (fun x v H1 h1 S1 t1=>?_) qx;have rx:=t1.rp (env.grow S1).same;split at h1
 ·rename_i b e;rw[e]at rx;rw[rx.bl_inv];exact⟨b,rfl,q _ H1 h1 S1⟩
 ·rename_i ds e;rw[e]at rx;obtain⟨l,us,rfl,hl,r⟩:=rx.lst_inv;exact⟨!us.isEmpty,.inl ⟨us,SqL.of hl,rfl⟩,by rw[BS r.len];exact q _ H1 h1 S1⟩
 ·rename_i ds e;rw[e]at rx;obtain⟨l,us,rfl,hl,r⟩:=rx.tup_inv;exact⟨!us.isEmpty,.inr (.inl ⟨us,SqT.of hl,rfl⟩),by rw[BS r.len];exact q _ H1 h1 S1⟩
 ·rename_i i e;rw[e]at rx;rw[rx.int_inv];exact⟨_,rfl,q _ H1 h1 S1⟩
 ·rename_i e;rw[e]at rx;rw[rx.non_inv];exact⟨_,rfl,q _ H1 h1 S1⟩
 ·exact h1.elim
def cutD{α:Type}(xs:List α)(lo hi:Option Int):List α:=(xs.drop (HT.sIx xs.length 0 lo)).take (HT.sIx xs.length xs.length hi-HT.sIx xs.length 0 lo)
def MT:PTO:=fun _ R _=>R none
def Ol(a:PTE):PTO:=fun γ R X=>a γ (fun s=>match s.d with | .int i=>R (some i)|_=>False) X
def XQ:SndO K mg E Cf MT:=fun _ _ H _ _ _ _ _ _ p q _=>q _ H p (Same.refl _)
def X3{te:TE}{a:PTE}(ha:SndE K mg E te a):SndO K mg E (Cw te) (Ol a):=by
 intro H0 B H σ γ R X Q env p q qx;refine ha H0 B H σ γ _ X _ env p (fun x v H1 h1 S1 t1=>?_) qx;have rx:=t1.rp (env.grow S1).same;split at h1
 ·rename_i i e;rw[e]at rx;exact⟨i,rx.int_inv,q _ H1 h1 S1⟩
 ·exact h1.elim
def pSl(a:PTE)(l u:PTO):PTE:=fun γ R X=>a γ (fun s=>l γ (fun lo=>u γ (fun hi=>match s.d with | .lst ds=>s.free ds=true/\R (.own (cutD ds lo hi))|_=>False) X) X) X
def Rps.cut {ds:List D}{vs:List V}{lo hi:Option Int} (r:Rps K H ds vs):Rps K H (cutD ds lo hi) (cutV vs lo hi):=by
 unfold cutD cutV;rw[r.len];exact Rps.take _ (Rps.drop _ r)
def XO{te:TE}{tl th:TO}{a:PTE}{l u:PTO}(ha:SndE K mg E te a)(hl:SndO K mg E tl l)(hu:SndO K mg E th u):SndE K mg E (tSl (rSlL K) te tl th) (pSl a l u):=by
 intro H0 B H σ γ R X Q env p q qx;refine ha H0 B H σ γ _ X _ env p (fun x v H1 h1 S1 t1=>?_) qx;refine hl H0 B H1 σ γ _ X _ (env.grow S1) h1 (fun lo H2 h2 S2=>?_) fun c H' hc S'=>qx c H' hc (S1.trans S');refine hu H0 B H2 σ γ _ X _ ((env.grow S1).grow S2) h2 (fun hi H3 h3 S3=>?_) fun c H' hc S'=>qx c H' hc ((S1.trans S2).trans S');have S13:=(S1.trans S2).trans S3;split at h3
 ·rename_i ds e;obtain⟨b,us,rfl,hb,r⟩:=((t1.grow (S2.trans S3)).items (env.grow S13).same env.zm S13 h3.1).1 e;exact⟨b,us,rfl,SqL.of hb,fun m nm=>q _ _ _ h3.2 (S13.trans (UP nm)) (KN S13 nm r.cut)⟩
 ·exact h3.elim
def fCat:S->S->(S->Prop)->Prop:=fun x y R=>match x.d,y.d with
 | .lst ds,.lst es=>x.free ds=true/\y.free es=true/\ds.length+es.length<=100000/\R (.own (ds++es))
 |_,_=>False
def Xn{ta tb:TE}{a b:PTE}(ha:SndE K mg E ta a)(hb:SndE K mg E tb b):SndE K mg E (tOp rCat ta tb) (p2 a b fCat):=by
 refine se_2 ha hb fun H0 H H2 Z x y v u R Q s0 s1 hm tx ty h q=>?_;unfold fCat at h;split at h
 ·rename_i ds es e1 e2;obtain⟨l,us,rfl,hl,r⟩:=(tx.items s0 hm s1 h.1).1 e1;obtain⟨m,ws,rfl,hm',r'⟩:=(ty.items s0 hm s1 h.2.1).1 e2;have hz:us.length+ws.length<=sizeLine:=by rw[r.len,r'.len];exact Y4 h.2.2.1 (by decide)
  exact⟨l,m,us,ws,rfl,rfl,hl,hm',hz,fun p np=>q _ _ _ h.2.2.2 (UP np) (KN s1 np (r.append r'))⟩
 ·exact h.elim
def HC(i:Nat)(a:PTE):PTS:=fun R γ=>match γ[i]? with
 |some (some (.own (.lst ds)))=>a γ (fun s=>match s.shd with
  |some d=>ds.length<10000000/\R.nx (γ.set i (some (.own (ds++[d]))))
  |none=>False) (R.ex γ)
 |some (some (.own (.lsA x ds)))=>a γ (fun s=>match s.shd with
  |some d=>ds.length<10000000/\R.nx (γ.set i (some (.own (.lsA x (ds++[d])))))
  |none=>False) (R.ex γ)
 |_=>False
def Na(i:Nat){te:TE}{a:PTE}(ha:SndE K mg E te a):SndS K mg E (S8 (tBM K "list" Fx (tVar i) (UU te tNil))) (HC i a):=by
 intro H0 B H σ γ R D hB env h e;unfold HC at h;split at h
 ·rename_i ds hi;obtain⟨v,hv,b,rfl,hb0,us,hb,rb⟩:=env.slot i _ hi;refine⟨_,hv,.inl ⟨rfl,us,SqL.of hb⟩,ha H0 B H σ γ _ _ _ env h (fun s u H1 h1 S1 t1=>?_) fun c H' hc S'=>e.ex σ γ c H' hc (env.grow S') (Fr.grow S')⟩;have env1:=env.grow S1;split at h1
  ·rename_i d e2;have rd:=t1.shd env1.same env.zm S1 e2;refine⟨b,us,u,rfl,rfl,S1 _ _ hb,by rw[rb.len];exact Qz h1.1 (by decide),?_⟩;obtain⟨e2,f2⟩:=env1.mutate (es:=.lst (ds++[d])) (us:=.lst (us++[u])) hi hv trivial fun F H' SF hF=>⟨_,hF,Rps.mono SF (Rps.append (Rps.mono (Uk S1 fun _ _ _ z=>z) rb) (.cons rd .nil))⟩;exact e.nx _ _ _ h1.2 e2 ((Fr.grow S1).trans f2)
  ·exact h1.elim
 ·rename_i x ds hi;obtain⟨v,hv,b,rfl,hb0,rfl,us,hb,rb⟩:=env.slot i _ hi;refine⟨_,hv,.inl ⟨rfl,us,SqL.of hb⟩,ha H0 B H σ γ _ _ _ env h (fun s u H1 h1 S1 t1=>?_) fun c H' hc S'=>e.ex σ γ c H' hc (env.grow S') (Fr.grow S')⟩;have env1:=env.grow S1;split at h1
  ·rename_i d e2;have rd:=t1.shd env1.same env.zm S1 e2;refine⟨b,us,u,rfl,rfl,S1 _ _ hb,by rw[rb.len];exact Qz h1.1 (by decide),?_⟩;obtain⟨e2,f2⟩:=env1.mutate (es:=.lsA b (ds++[d])) (us:=.lst (us++[u])) hi hv trivial fun F H' SF hF=>⟨rfl,_,hF,Rps.mono SF (Rps.append (Rps.mono (Uk S1 fun _ _ _ z=>z) rb) (.cons rd .nil))⟩;exact e.nx _ _ _ h1.2 e2 ((Fr.grow S1).trans f2)
  ·exact h1.elim
 ·exact h.elim
end
section
variable {X:Cx}{K:Za}
def Ke(hu:X.A.in1.units<cLine)(hK:X.K=K:=by rfl):OpR X (compareOp .In) (fun x y H Q=>rIn K false x y H Q\/rInP false x y H Q):=(Zb0 hK).or (Zcz hu)
def AB(hu:X.A.in1.units<cLine)(hK:X.K=K:=by rfl):OpR X (compareOp .NotIn) (fun x y H Q=>rIn K true x y H Q\/rInP true x y H Q):=(Rc hK).or (Zem hu)
def PR(hu:X.A.units<cLine)(hK:X.K=K:=by rfl):OpR X (compareOp .Eq) (fun x y H Q=>rEq x y H Q\/rEqL K false x y H Q):=by subst hK;exact op_eq.or (IU hu)
def L8(hu:X.A.units<cLine)(hK:X.K=K:=by rfl):OpR X (compareOp .NotEq) (fun x y H Q=>rNe x y H Q\/rEqL K true x y H Q):=by subst hK;exact op_ne.or (Ze2 hu)
def UL{e:Expr}{te:TE}(ha:PE X e te)(hK:X.K=K:=by rfl)(he:∀whole,isTrue e X.env whole=(do let v ←whole;standAt e.pos;holding [v] (truthy v)):=by intro _;rfl):PT X e (tTru K te):=by
 subst hK;exact M8 ha he
def To(hK:X.K=K:=by rfl):UX X (.type "list") (fun xs H Q=>∃p ys,xs=[.ref p]/\(SqL K H p ys\/SqT K H p ys)/\∀l,H l=none->Q (.ref l) (upd H l (.lst ys))):=by subst hK;exact IB
def AJ(hK:X.K=K:=by rfl):UX X (.type "tuple") (fun xs H Q=>∃p ys,xs=[.ref p]/\((SqL K H p ys/\∀l,H l=none->Q (.ref l) (upd H l (.tup ys)))\/(SqT K H p ys/\Q (.ref p) H))):=by subst hK;exact Zcy
def Nc(hK:X.K=K:=by rfl):UX X (.builtin "isinstance") (fun xs H Q=>∃x n t b,xs=[x,.ty n]/\TyOf K H x t/\PySem.W.kitOne K t (.type n)=some b/\Q (.bl b) H):=by subst hK;exact I0
def XC(hK:X.K=K:=by rfl):SlR X (rSlL K):=by subst hK;exact LH
def Bp(hc:X.calm=true){w:World}(hK:X.K=K:=by rfl)(hw:X.w=w:=by rfl):UX X (.builtin "sorted") (fun xs H Q=>∃(p:Addr) (js:List Int),xs=[.ref p]/\js.length<64/\(SqL K H p (js.map V.int)\/H p=some (SetH w p js))/\
  ∀(l:Addr) (ns:List Int),H l=none->ns.Perm js->ns.Pairwise (·<=·)->Q (.ref l) (upd H l (.lst (ns.map V.int)))):=by subst hK;subst hw;exact GC hc
def Uu{tg l:Expr}{tl:TE}(hl:PE X l tl)(hK:X.K=K:=by rfl):PI X tg l (Si K tl):=by subst hK;exact GM hl
end
section
variable {P:Program}{w:World}{K:Za}{mg:Str->Option Value}{base:Heap}{H H':Hp}
def Zc1{CX:CXT}{k:Nat}{x:Str}{ps:List Str}{sp:Sp}{c:Pc}(C:Callee P w K mg base CX k x ps sp)(h:∀ds R X vs H (Q:VK) (E:XK),Rps K H ds vs->c ds R X->(∀s v H',R s->Same H H'->TV K (fun b=>Mut (H b)) H H H' s v->Q v H')->(∀e H',X e->Same H H'->E (.ref (ExcR.JP mg e)) none H')->sp vs H Q E) :
  Callee P w K mg base CX k x ps (spOf mg c K):=by
 obtain⟨f,fd,F,rest⟩:=C.ex;exact⟨f,fd,F.imp fun vs H Q E ⟨ds,R,X,r,hc,hQ,hX⟩=>h ds R X vs H Q E r hc hQ hX,rest⟩
def Rp.scr_inv {ns:List Int}{v:V} (h:Rp K H (.scr ns) v):∃a,v=.ref a/\SqL K H a (ns.map V.int):=by
 cases h with
 |scr h=>exact⟨_,rfl,h⟩
def Rp.ints_inv {ns:List Int}{v:V} (h:Rp K H (.lst (ns.map D.int)) v):∃a,v=.ref a/\H a=some (.lst (ns.map V.int)):=by
 obtain⟨a,vs,rfl,h1,r⟩:=h.lst_inv;rw[r.ints]at h1;exact⟨a,rfl,h1⟩
def Rp.pairs_inv {ps:List (Int×Int)}{v:V} (h:Rp K H (.lst (ps.map prD)) v):∃a,v=.ref a/\LAt XG H a ps:=by
 obtain⟨a,vs,rfl,h1,r⟩:=h.lst_inv;exact⟨a,rfl,vs,h1,r.lv⟩
def Zcc{a:Addr}{ns:List Int}(n:H a=none)(h:H' a=some (.lst (ns.map V.int))):TV K (fun b=>Mut (H b)) H H H' (.own (ns.map D.int)) (.ref a):=⟨a,rfl,(fun _ e=>e▸n),_,h,Rps.of_ints ns⟩
def Sk:∀(ns:List Int),imms (ns.map D.int)=true
 |[]=>by unfold List.map imms;rfl
 |n::r=>by rw[Y9];unfold imms;rw[Sk r];unfold imm;rfl
def O1(p:Int×Int):imm (prD p)=true:=by unfold prD imm imms imm imms imm imms;rfl
def Kw:∀(ps:List (Int×Int)),imms (ps.map prD)=true
 |[]=>by unfold List.map imms;rfl
 |p::r=>by rw[Y9];unfold imms;rw[Kw r,O1];rfl
def FS{α:Type}{f:α->D}{xs:List α}{i:Nat}(h:i<xs.length):(xs.map f).getD i .non=f xs[i]:=by
 rw[Yo,Yt,Yl h];rfl
def P1{α:Type}{f:α->D}{xs:List α}{i:Int}(h0:0<=i)(h:i<(xs.length:Int)):atI (xs.map f) i=some (f (xs[i.toNat]'(by omega))):=by
 have h':i.toNat<xs.length:=by omega
 exact KG (Tn h0 (Yl h'))
def Kc{α:Type}{f:α->D}{xs:List α}{i:Nat}(h:i<xs.length):atI (xs.map f) (i:Int)=some (f xs[i]):=KG (NK (Yl h))
def UH{α:Type}{φ:List (Option Nat)}{γ:Γ}{g:PTG}{c:PTT}{e:PTE}{s:S}{R:S->Prop}{xs:List α}{emb:α->D}(f:α->Option D)(hz:xs.length<=100000)(turn:∀x∈xs,g (s.sub (emb x)) (atP φ γ) fun γ2=>c γ2 (fun b=>if b=true then e γ2 (fun s=>∃d,s.shd=some d/\f x=some d) (fun _=>False)else f x=none) fun _=>False)(done:R (.own (xs.filterMap f))) :
  CompW φ γ g c e (xs.map emb).length (fun i=>s.sub ((xs.map emb).getD i .non)) R:=by
 rw[Ym];refine⟨⟨hz,fun i=>(xs[i]?).bind f,fun i hi=>?_,by rw[Zd5];exact done⟩⟩;have e1:(xs[i]?).bind f=f xs[i]:=by rw[Yl hi];rfl
 have t:=turn xs[i] (YC hi);rw[←e1]at t;rw[←FS (f:=emb) hi]at t;exact t
def N0{φ:List (Option Nat)}{γ:Γ}{g:PTG}{c:PTT}{e:PTE}{item:Nat->S}{R:S->Prop}{n:Nat}(f:Nat->Option D)(hz:n<=100000)(turn:∀i,i<n->g (item i) (atP φ γ) fun γ2=>c γ2 (fun b=>if b=true then e γ2 (fun s=>∃d,s.shd=some d/\f i=some d) (fun _=>False)else f i=none) fun _=>False)(done:R (.own ((List.range n).filterMap f))) :
  CompW φ γ g c e n item R:=⟨⟨hz,f,turn,done⟩⟩
def Xk{α:Type}{js:List Nat}{γ:Γ}{g:PTG}{body:PTS}{s:S}{R:PEnds}{xs:List α}{emb:α->D}(inv:Nat->Γ->Prop)(h0:inv 0 (clr js γ))(turn:∀(i:Nat) (hi:i<xs.length) γ',inv i γ'->g (s.sub (emb xs[i])) γ' fun γ2=>body {R with nx:=fun γ3=>inv (i+1) (clr js γ3),ct:=fun γ3=>inv (i+1) (clr js γ3),bk:=R.nx} γ2)(done:∀γ',inv xs.length γ'->R.nx γ') :
  ForW js γ g body R (xs.map emb).length (fun i=>s.sub ((xs.map emb).getD i .non)):=by
 refine⟨⟨inv,h0,fun i γ' hi h=>?_,fun γ' h=>?_⟩⟩
 ·rw[Ym]at hi;have t:=turn i hi γ' h;rw[←FS (f:=emb) hi]at t;exact t
 ·rw[Ym]at h;exact done γ' h
def KY{js:List Nat}{γ:Γ}{g:PTG}{body:PTS}{R:PEnds}{n:Nat}{item:Nat->S}(inv:Nat->Γ->Prop)(h0:inv 0 (clr js γ))(turn:∀(i:Nat) γ',i<n->inv i γ'->g (item i) γ' fun γ2=>body {R with nx:=fun γ3=>inv (i+1) (clr js γ3),ct:=fun γ3=>inv (i+1) (clr js γ3),bk:=R.nx} γ2)(done:∀γ',inv n γ'->R.nx γ'):ForW js γ g body R n item:=⟨⟨inv,h0,turn,done⟩⟩
def A5{js:List Nat}{γ:Γ}{c:PTT}{body:PTS}{R:PEnds}(inv:Γ->Prop)(μ:Γ->Nat)(h0:inv (clr js γ))(turn:∀γ',inv γ'->c γ' (fun b=>if b=true then body {R with nx:=fun γ3=>inv (clr js γ3)/\μ (clr js γ3)<μ γ',ct:=fun γ3=>inv (clr js γ3)/\μ (clr js γ3)<μ γ',bk:=R.nx} γ' else R.nx γ') (R.ex γ')):WhileW js γ c body R:=⟨⟨inv,μ,h0,turn⟩⟩
def Tp{p q:PTS}{R:PEnds}{γ:Γ}(J:Γ->Prop)(h1:p {R with nx:=J} γ)(h2:∀γ',J γ'->q R γ'):JoinW p q R γ:=⟨⟨J,h1,h2⟩⟩
def XH{α:Type}(c:α->Bool)(emb:α->D):∀ws:List α,ws.filterMap (fun q=>if c q=true then some (emb q)else none)=(ws.filter c).map emb
 |[]=>rfl
 |q::r=>by
  by_cases h:c q=true
  ·rw[List.filterMap_cons_some (b:=emb q) (by rw[Yr h]),List.filter_cons_of_pos h,Y9,XH c emb r]
  ·rw[List.filterMap_cons_none (by rw[Yp h]),List.filter_cons_of_neg h,XH c emb r]
def mapD{α:Type}(emb:α->D)(ws:List α):ws.filterMap (fun q=>some (emb q))=ws.map emb:=by rw[Qv]
def Pv{α:Type}(f:α->D)(xs:List α)(lo hi:Option Int):cutD (xs.map f) lo hi=(cutD xs lo hi).map f:=by
 unfold cutD;rw[Ym,List.map_take,List.map_drop]
def BX{α:Type}(xs:List α){n:Int}(h:0<=n):cutD xs none (some n)=xs.take n.toNat:=by
 unfold cutD;have e:n=(n.toNat:Int):=by omega
 rw[HT.EA,e,HT.Sx,List.drop_zero];rw[Nat.sub_zero,YB];by_cases c:n.toNat<=xs.length
 ·rw[Nat.min_eq_left c]
 ·rw[Nat.min_eq_right (by omega),Qu (Yy _),Qu (by omega)]
def NS{α:Type}(xs:List α){n:Int}(h:0<=n):cutD xs (some n) none=xs.drop n.toNat:=by
 unfold cutD;have e:n=(n.toNat:Int):=by omega
 rw[HT.EA,e,HT.Sx,YB];by_cases c:n.toNat<=xs.length
 ·rw[Nat.min_eq_left c,Qu (by rw[Vd];omega)]
 ·rw[Nat.min_eq_right (by omega),List.drop_of_length_le (Yy _),List.drop_of_length_le (by omega)];simp
def Fu(K:Za):Sp:=fun vs H Q _=>∃(a:Addr) (ns:List Int),vs=[.ref a]/\SqL K H a (ns.map V.int)/\∀H',Q (.bl true) H'
def EY:Pc:=fun ds R _=>∃ns:List Int,ds=[.scr ns]/\R (.sh (.bl true))
def MB{vs:List V}{Q:VK}{Ec:XK}(h:Fu K vs H Q Ec):spOf mg EY K vs H Q Ec:=by
 obtain⟨a,ns,rfl,hS,q⟩:=h;refine⟨[.scr ns],fun s=>s=.sh (.bl true),fun _=>False,.cons (.scr hS) .nil,⟨ns,rfl,rfl⟩,fun s v H' e S1 tv=>?_,fun _ _ z=>z.elim⟩;subst e;cases tv
 exact q H'
end
section
variable {K:Za}{mg:Str->Option Value}{E:L2.St->XK}{H0 H H1 H':Hp}{B Z Z':Addr->Prop}{σ:L2.St}{γ:Γ}
def NM:D->Option V
 | .int i=>some (.int i) | .bl b=>some (.bl b) | .non=>some .non | .str x=>some (.str x)|_=>none
def vD:V->D
 | .int i=>.int i | .bl b=>.bl b | .str x=>.str x|_=>.non
def NB:V->Bool
 | .int _=>true | .bl _=>true | .str _=>true | .non=>true|_=>false
def FB{v:V}(h:NB v=true):Rp K H (vD v) v:=by
 cases v with
 |int i=>exact .int i
 |bl b=>exact .bl b
 |str x=>exact .str x
 |non=>exact .non
 |_=>cases h
def Ff{d:D}{v u:V}(h:Rp K H d v)(e:NM d=some u):v=u:=by
 cases h with
 |int i=>cases e;rfl
 |bl b=>cases e;rfl
 |non=>cases e;rfl
 |str x=>cases e;rfl
 |_=>cases e
def keyD:D->Option Key
 | .int i=>some (.inl i) | .str x=>some (.inr x)|_=>none
def PL:List D->Option (List Key)
 |[]=>some []
 |d::r=>match keyD d,PL r with
  |some k,some ks=>some (k::ks)
  |_,_=>none
def PY:D->Option (List Key)
 | .tup ds=>PL ds
 |_=>none
def N8{d:D}{v:V}{k:Key}(h:Rp K H d v)(e:keyD d=some k):v=kV k:=by
 cases h with
 |int i=>cases e;rfl
 |str x=>cases e;rfl
 |_=>cases e
def Eo:∀{ds:List D}{vs:List V}{ks:List Key},Rps K H ds vs->PL ds=some ks->vs=ks.map kV
 |[],_,_,.nil,e=>by cases e;rfl
 |d::r,_,ks,.cons h t,e=>by
  unfold PL at e;split at e
  ·rename_i k js e1 e2;cases e
   rw[N8 h e1,Eo t e2];rfl
  ·cases e
def Sl{d:D}{v:V}{ks:List Key}(h:Rp K H d v)(e:PY d=some ks):∃b,v=.ref b/\H b=some (.tup (ks.map kV)):=by
 cases h with
 |tup h r=>
  rw[Eo r e]at h;exact⟨_,rfl,h⟩
 |_=>cases e
def Rp.dK_inv {kvs:List (Key×V)}{v:V} (h:Rp K H (.dK kvs) v):∃a,v=.ref a/\H a=some (.dK kvs):=by
 cases h with
 |dK h=>exact⟨_,rfl,h⟩
def Rp.dT_inv {kvs:List (List Key×V)}{v:V} (h:Rp K H (.dT kvs) v):∃a,v=.ref a/\H a=some (.dT kvs):=by
 cases h with
 |dT h=>exact⟨_,rfl,h⟩
def MJ:PTE:=fun _ R _=>R (.own (.dK []))
def Rv:PTE:=fun _ R _=>R (.own (.dT []))
def Zbn:SndE K mg E G5 MJ:=by
 intro H0 B H σ γ R X Q env p q _;intro l nl;exact q _ _ _ p (UP nl) ⟨l,rfl,(fun _ e=>e▸nl),U6⟩
def Mp:SndE K mg E Cs Rv:=by
 intro H0 B H σ γ R X Q env p q _;intro l nl;exact q _ _ _ p (UP nl) ⟨l,rfl,(fun _ e=>e▸nl),U6⟩
def AV:S->S->(S->Prop)->Prop:=fun x y R=>match x.d with
 | .dK kvs=>∃k v,keyD y.d=some k/\valV kvs k=some v/\NB v=true/\R (.sh (vD v))
 | .dT kvs=>∃k v,PY y.d=some k/\valV kvs k=some v/\NB v=true/\R (.sh (vD v))
 |_=>False
def Nr{td ty:TE}{a b:PTE}(ha:SndE K mg E td a)(hb:SndE K mg E ty b):SndE K mg E (Et td ty) (p2 a b AV):=by
 show SndE K mg E (tOp (fun x y H Q=>∃a v,x=.ref a/\DGet H a y (some v)/\Q v H) td ty) _;refine se_2 ha hb fun H0 H H2 Z x y v u R Q s0 s1 hm tx ty h q=>?_;have rx:=tx.rp s0;have ry:=ty.rp s0;unfold AV at h;split at h
 ·rename_i kvs e;rw[e]at rx;obtain⟨l,rfl,hl⟩:=rx.dK_inv;obtain⟨k,w,h1,h2,h3,h4⟩:=h;refine⟨l,w,rfl,?_,q _ _ H2 h4 (Same.refl _) (FB h3)⟩;rw[N8 ry h1,←h2];exact DGet.k hl
 ·rename_i kvs e;rw[e]at rx;obtain⟨l,rfl,hl⟩:=rx.dT_inv;obtain⟨k,w,h1,h2,h3,h4⟩:=h;obtain⟨b,rfl,hb⟩:=Sl ry h1;refine⟨l,w,rfl,?_,q _ _ H2 h4 (Same.refl _) (FB h3)⟩;rw[←h2];exact DGet.t hl hb
 ·exact h.elim
def fDIn(neg:Bool):S->S->(S->Prop)->Prop:=fun y x R=>match x.d with
 | .dK kvs=>∃k,keyD y.d=some k/\R (.sh (.bl (if neg then !(valV kvs k).isSome else(valV kvs k).isSome)))
 | .dT kvs=>∃k,PY y.d=some k/\R (.sh (.bl (if neg then !(valV kvs k).isSome else(valV kvs k).isSome)))
 |_=>False
def Zej{td ty:TE}{a b:PTE}(ha:SndE K mg E ty a)(hb:SndE K mg E td b):SndE K mg E (GX ty td) (p2 a b (fDIn true)):=by
 show SndE K mg E (tOp (fun y x H Q=>∃a o,x=.ref a/\DGet H a y o/\Q (.bl (!o.isSome)) H) ty td) _;refine se_2 ha hb fun H0 H H2 Z y x u v R Q s0 s1 hm ty tx h q=>?_;have rx:=tx.rp s0;have ry:=ty.rp s0;unfold fDIn at h;split at h
 ·rename_i kvs e;rw[e]at rx;obtain⟨l,rfl,hl⟩:=rx.dK_inv;obtain⟨k,h1,h4⟩:=h;refine⟨l,_,rfl,?_,q _ _ H2 h4 (Same.refl _) (.bl _)⟩;rw[N8 ry h1];exact DGet.k hl
 ·rename_i kvs e;rw[e]at rx;obtain⟨l,rfl,hl⟩:=rx.dT_inv;obtain⟨k,h1,h4⟩:=h;obtain⟨b,rfl,hb⟩:=Sl ry h1;exact⟨l,_,rfl,DGet.t hl hb,q _ _ H2 h4 (Same.refl _) (.bl _)⟩
 ·exact h.elim
def GP(i:Nat)(b a:PTE):PTS:=fun R γ=>match γ[i]? with
 |some (some (.own (.dK kvs)))=>a γ (fun s=>b γ (fun y=>∃k u,keyD y.d=some k/\NM s.d=some u/\kvs.length<100000/\R.nx (γ.set i (some (.own (.dK (putK kvs k u)))))) (R.ex γ)) (R.ex γ)
 |some (some (.own (.dT kvs)))=>a γ (fun s=>b γ (fun y=>∃k u,PY y.d=some k/\NM s.d=some u/\kvs.length<100000/\R.nx (γ.set i (some (.own (.dT (putK kvs k u)))))) (R.ex γ)) (R.ex γ)
 |_=>False
def BD(i:Nat){ty tv:TE}{a b:PTE}(hb:SndE K mg E ty b)(ha:SndE K mg E tv a):SndS K mg E (EZ (tVar i) ty tv) (GP i b a):=by
 intro H0 B H σ γ R D hB env h e;have hx:∀c H',R.ex γ c->Same H H'->E σ (.ref (ExcR.JP mg c)) none H':=fun c H' hc S'=>e.ex σ γ c H' hc (env.grow S') (Fr.grow S');unfold GP at h;split at h
 ·rename_i kvs hi;obtain⟨v,hv,l,rfl,hb0,hl⟩:=env.slot i _ hi;refine ha H0 B H σ γ _ _ _ env h (fun s u H1 h1 S1 t1=>⟨_,hv,?_⟩) hx;have env1:=env.grow S1;refine hb H0 B H1 σ γ _ _ _ env1 h1 (fun y w H2 h2 S2 t2=>?_) fun c H' hc S'=>hx c H' hc (S1.trans S');obtain⟨k,z,k1,k2,k3,k4⟩:=h2;have env2:=env1.grow S2;have eu:=Ff (t1.rp env1.same) k2;have ew:=N8 (t2.rp env2.same) k1;subst eu ew;refine⟨l,_,rfl,DPut.k (S2 _ _ (S1 _ _ hl)) (Qz k3 (by decide)),?_⟩;obtain⟨e2,f2⟩:=env2.mutate (es:=.dK (putK kvs k u)) (us:=.dK (putK kvs k u)) hi hv trivial fun F H' SF hF=>hF;exact e.nx _ _ _ k4 e2 ((Fr.grow (S1.trans S2)).trans f2)
 ·rename_i kvs hi;obtain⟨v,hv,l,rfl,hb0,hl⟩:=env.slot i _ hi;refine ha H0 B H σ γ _ _ _ env h (fun s u H1 h1 S1 t1=>⟨_,hv,?_⟩) hx;have env1:=env.grow S1;refine hb H0 B H1 σ γ _ _ _ env1 h1 (fun y w H2 h2 S2 t2=>?_) fun c H' hc S'=>hx c H' hc (S1.trans S');obtain⟨k,z,k1,k2,k3,k4⟩:=h2;have env2:=env1.grow S2;have eu:=Ff (t1.rp env1.same) k2;obtain⟨b',rfl,hb'⟩:=Sl (t2.rp env2.same) k1;subst eu;refine⟨l,_,rfl,DPut.t (S2 _ _ (S1 _ _ hl)) hb' (Qz k3 (by decide)),?_⟩;obtain⟨e2,f2⟩:=env2.mutate (es:=.dT (putK kvs k u)) (us:=.dT (putK kvs k u)) hi hv trivial fun F H' SF hF=>hF;exact e.nx _ _ _ k4 e2 ((Fr.grow (S1.trans S2)).trans f2)
 ·exact h.elim
def Zch(a:PTE):PTS:=fun R γ=>a γ (fun s=>match s.shd with|some d=>R.rt (.sh d)|none=>False) (R.ex γ)
def Hh{te:TE}{a:PTE}(ha:SndE K mg E te a):SndS K mg E (tRet te) (Zch a):=by
 intro H0 B H σ γ R D hB env h e;refine ha H0 B H σ γ _ _ _ env h (fun s v H1 h1 S1 t1=>?_) fun c H' hc S'=>e.ex σ γ c H' hc (env.grow S') (Fr.grow S');split at h1
 ·rename_i d hd;have r:=t1.shd (env.grow S1).same env.zm S1 hd;exact e.rt (.sh d) v H1 h1 (env.same.trans S1) (Rp.mono (Uk (Same.refl _) fun b _ _ z y=>z (.inl y)) r)
 ·exact h1.elim
def ET(i:Nat)(γ:Γ):Nat:=match γ[i]? with
 |some (some (.own (.lst ds)))=>ds.length
 |_=>0
def X9{α:Type}(d:α)(ds:List α):atI (d::ds) 0=some d:=Tn (by decide) rfl
def em(l:Int)(p:List Int):D:=.lst ((l::p).map D.int)
def Bk(l:Int)(p:List Int):atI ((l::p).map D.int) (-1)=some (.int (Uy l p)):=by
 refine KG ?_;unfold atI ixN;rw[Yp (by omega),Yr (by rw[YE];omega)];have e:(-1+((l::p).length:Int)).toNat=p.length:=by rw[YE];omega
 rw[e];exact Aa l p
end
section
variable {K:Za}{mg:Str->Option Value}{E:L2.St->XK}{H0 H H1 H':Hp}{B Z Z':Addr->Prop}{σ:L2.St}{γ:Γ}
def EJ:List S->(S->Prop)->Prop
 |[s],R=>∃ns:List Int,s.d=.lst (ns.map D.int)/\R (.sh (.int ns.sum))
 |_,_=>False
def SE{ta:TA}{r:PTA}(hr:SndA K mg E ta r):SndE K mg E (tCB (fun xs H Q=>∃(p:Addr) (ns:List Int),xs=[.ref p]/\SqL K H p (ns.map V.int)/\Q (.int ns.sum) H) ta) (pCB EJ r):=by
 refine XX hr fun H0 H H1 Z ss vs R Q s0 s1 hm tv h q=>?_;unfold EJ at h;split at h
 ·obtain⟨v,rfl,t1⟩:=tv.one_inv;obtain⟨ns,e,hR⟩:=h;have rv:=t1.rp s0;rw[e]at rv;obtain⟨a,rfl,ha⟩:=rv.ints_inv;exact⟨a,ns,rfl,SqL.of ha,q _ _ H1 hR (Same.refl _) (.int _)⟩
 ·exact h.elim
def GG:List S->(S->Prop)->Prop
 |[s],R=>∃ns:List Int,s.d=.lst (ns.map D.int)/\0<ns.length/\∀m,m∈ns->(∀a∈ns,m<=a)->R (.sh (.int m))
 |_,_=>False
def MR{ta:TA}{r:PTA}(hr:SndA K mg E ta r):SndE K mg E (tCB (fun xs H Q=>∃(p:Addr) (ns:List Int),xs=[.ref p]/\SqL K H p (ns.map V.int)/\0<ns.length/\∀M,M∈ns->(∀a∈ns,M<=a)->Q (.int M) H) ta) (pCB GG r):=by
 refine XX hr fun H0 H H1 Z ss vs R Q s0 s1 hm tv h q=>?_;unfold GG at h;split at h
 ·obtain⟨v,rfl,t1⟩:=tv.one_inv;obtain⟨ns,e,hne,hR⟩:=h;have rv:=t1.rp s0;rw[e]at rv;obtain⟨a,rfl,ha⟩:=rv.ints_inv;exact⟨a,ns,rfl,SqL.of ha,hne,fun m h1 h2=>q _ _ H1 (hR m h1 h2) (Same.refl _) (.int _)⟩
 ·exact h.elim
def DS:List S->(S->Prop)->Prop
 |[s],R=>∃bs:List Bool,s.d=.lst (bs.map D.bl)/\R (.sh (.bl (bs.any id)))
 |_,_=>False
def Rps.bls {K:Za}{H:Hp}:∀{js:List Bool}{vs:List V},Rps K H (js.map D.bl) vs->vs=js.map V.bl
 |[],_,.nil=>rfl
 |j::r,_,.cons h t=>by rw[Rp.bl_inv h,Rps.bls t];rfl
def Eu{ta:TA}{r:PTA}(hr:SndA K mg E ta r):SndE K mg E (tCB (fun xs H Q=>∃(p:Addr) (bs:List Bool),xs=[.ref p]/\SqL K H p (bs.map V.bl)/\Q (.bl (bs.any id)) H) ta) (pCB DS r):=by
 refine XX hr fun H0 H H1 Z ss vs R Q s0 s1 hm tv h q=>?_;unfold DS at h;split at h
 ·obtain⟨v,rfl,t1⟩:=tv.one_inv;obtain⟨bs,e,hR⟩:=h;have rv:=t1.rp s0;rw[e]at rv;obtain⟨a,us,rfl,ha,r1⟩:=rv.lst_inv;rw[r1.bls]at ha;exact⟨a,bs,rfl,SqL.of ha,q _ _ H1 hR (Same.refl _) (.bl _)⟩
 ·exact h.elim
def fEqE(neg:Bool):S->S->(S->Prop)->Prop:=fun x y R=>match x.d,y.d with
 | .lst ds,.lst []=>R (.sh (.bl (if neg then !ds.isEmpty else ds.isEmpty)))
 |_,_=>False
def SD{neg:Bool}{ta tb:TE}{a b:PTE}(ha:SndE K mg E ta a)(hb:SndE K mg E tb b):SndE K mg E (tOp (rEqE K neg) ta tb) (p2 a b (fEqE neg)):=by
 refine se_2 ha hb fun H0 H H2 Z x y v u R Q s0 s1 hm tx ty h q=>?_;have rx:=tx.rp s0;have ry:=ty.rp s0;unfold fEqE at h;split at h
 ·rename_i ds e1 e2;rw[e1]at rx;rw[e2]at ry;obtain⟨l,us,rfl,hl,r⟩:=rx.lst_inv;obtain⟨m,ws,rfl,hm',r'⟩:=ry.lst_inv;cases r'
  refine⟨l,m,us,rfl,rfl,SqL.of hl,SqL.of hm',?_⟩;rw[BS r.len];exact q _ _ H2 h (Same.refl _) (.bl _)
 ·exact h.elim
def SU(x y:Int){k:Int}(h:k=0\/k=1):atI [D.int x,D.int y] k=some (.int (if k=0 then x else y)):=by
 rcases h with rfl|rfl
 ·rfl
 ·rfl
def KD{α:Type}(xs:List α)(lo hi:Option Int):(cutD xs lo hi).Sublist xs:=(QT _ _).trans (List.drop_sublist _ _)
end
section
variable {K:Za}{mg:Str->Option Value}{E:L2.St->XK}{H0 H H1 H':Hp}{B Z Z':Addr->Prop}{σ:L2.St}{γ:Γ}
def Zfp(i:Nat)(b a:PTE):PTS:=fun R γ=>match γ[i]? with
 |some (some (.own (.lst ds)))=>a γ (fun s=>b γ (fun y=>match y.d with
   | .int k=>∃j d,ixN ds.length k=some j/\s.shd=some d/\R.nx (γ.set i (some (.own (.lst (ds.set j d)))))
   |_=>False) (R.ex γ)) (R.ex γ)
 |some (some (.own (.lsA x ds)))=>a γ (fun s=>b γ (fun y=>match y.d with
   | .int k=>∃j d,ixN ds.length k=some j/\s.shd=some d/\R.nx (γ.set i (some (.own (.lsA x (ds.set j d)))))
   |_=>False) (R.ex γ)) (R.ex γ)
 |_=>False
def Rps.set {d:D}{v:V} (h:Rp K H d v):∀{ds:List D}{vs:List V} (j:Nat),Rps K H ds vs->Rps K H (ds.set j d) (vs.set j v)
 |_,_,_,.nil=>.nil
 |_,_,0,.cons _ r=>.cons h r
 |_,_,j+1,.cons k r=>.cons k (Rps.set h j r)
def fRep:S->S->(S->Prop)->Prop:=fun x y R=>match x.d,y.d with
 | .lst ds,.int k=>x.free ds=true/\(-(2 ^ 63)<=k/\k<2 ^ 63)/\ds.length*k.toNat<=10000000/\R (.own (.lst (List.replicate k.toNat ds).flatten))
 |_,_=>False
def Rps.rep {ds:List D}{vs:List V} (h:Rps K H ds vs):∀k:Nat,Rps K H (List.replicate k ds).flatten (List.replicate k vs).flatten
 | 0=>.nil
 |k+1=>by
  rw[W9,W9,WW,WW];exact Rps.append h (Rps.rep h k)
def CB{ta tb:TE}{a b:PTE}(ha:SndE K mg E ta a)(hb:SndE K mg E tb b):SndE K mg E (tOp rRep ta tb) (p2 a b fRep):=by
 refine se_2 ha hb fun H0 H H2 Z x y v u R Q s0 s1 hm tx ty h q=>?_;unfold fRep at h;have ry:=ty.rp s0;split at h
 ·rename_i ds k e1 e2;rw[e2]at ry;obtain⟨l,us,rfl,hl,r⟩:=(tx.items s0 hm s1 h.1).1 e1;refine⟨l,k,us,rfl,ry.int_inv,hl,h.2.1.1,h.2.1.2,by rw[r.len];exact Y4 h.2.2.1 (by decide),fun p np=>?_⟩;exact q _ _ _ h.2.2.2 (UP np) (KN s1 np (r.rep _))
 ·exact h.elim
end
end Pu
namespace PySem
open Sem (wp)
structure VPairs {K:Type} (es:List DictEntry) (kvs:List (K×Value)):Prop where
 length:es.length=kvs.length
 get?:∀{i:Nat} {e:DictEntry} {k:K} {v:Value},es[i]?=some e->kvs[i]?=some (k,v)->True/\e.val=v
def VDict{K:Type}(h:Heap)(a:Addr)(kvs:List (K×Value))(ep:Nat):Prop:=
 ∃o es,h.get? a=some o/\o.ExactDict/\o.data=.dict es ep/\True/\VPairs es.toList kvs/\True
section
variable {prog:Program}{w:World}{K:Type}{A:Around}{E:Value->Shared->Prop}{s:Shared}
def Zbh(d:Addr)(hd:(d==sysModules)=false) :
  MeetsIn prog w (Builtin.«dict.values» ⟨[.ref d],[]⟩) (fun _ R s=>s.TypeIs (.ref d) "dict"/\
   R (.ok (.ret (.ref s.heap.objs.size))) {s with heap:=s.heap.push {cls:=.type "dict_values",data:=.fields #[.ref d]}}):=
 .of_wp fun A R s ⟨hm,h⟩=>by
  refine Yn ?_;unfold Builtin.Dict.noArgs;refine Yn (wpAny_notOrdered_dict hm ?_);show wpAny _ _ (pure d) _ _ s;refine Ys ?_;show wpAny _ _ (Builtin.Dict.showsAll d >>= _) _ _ s;unfold Builtin.Dict.showsAll;rw[Yp (by rw[hd];exact Y6)];refine Yn (Ys ?_);exact Yn (Wg (Ys ⟨_,rfl,h⟩))
def Lv{v d:Addr}{kvs:List (K×Value)}{ep:Nat}{Q:Value->Shared->Prop}(hv:s.heap.IsValuesView v d)(hm:VDict s.heap d kvs ep)(hQ:Q (.ref s.heap.objs.size) {s with heap:=s.heap.push {cls:=.type "dict_valueiterator",data:=.fields #[.ref d,.int 0 0,.int kvs.length 0,.int ep 0]}}) :
  wpAny (model prog w) A (pyIter (.ref v)) Q E s:=by
 obtain⟨ov,hov,hcv,hdv⟩:=id hv;obtain⟨o,es,ho,hc,hdat,hk,hp,hn⟩:=id hm;refine wpAny_pyIter_slot hv.typeIs F.slot_dict_values_iter (WR F.slot_dict_values_iter hv.typeIs F.entry_dict_values_iter ?_ (F.args_dict_values_iter_1 _));unfold Builtin.«dict_values.__iter__»;refine Yn (Ys ?_);refine Yn ?_;unfold Builtin.Dict_items.dictOf;refine Yn (V1 hov hdv (x:=.ref d) rfl (Ys ?_));refine Yn ?_;unfold Builtin.Dict_items.newIterator;refine Yn (wpAny_dictEntries ho hdat ?_);refine Yn (wpAny_dictEpoch ho hdat ?_);have hsz:es.size=kvs.length:=by rw[←hp.length];simp
 have hown:Builtin.Dict_items.ownsTuple "dict_valueiterator"=false:=by decide
 simp only[hown,QI,Ve];refine Wg (Ys ⟨_,rfl, "dict_valueiterator",_,⟨_,Y5 _ rfl,rfl⟩,F.slot_dict_valueiterator_next.lookup,?_⟩);simpa [rawInt,hsz]using hQ
def Oc{it d:Addr}{i ep:Nat}{kvs:List (K×Value)}{k:K}{v:Value}{Q:Option Value->Shared->Prop}(hit:s.heap.IsValIter it d i kvs.length ep)(hm:VDict s.heap d kvs ep)(hx:kvs[i]?=some (k,v))(hQ:∀h',h'.IsValIter it d (i+1) kvs.length ep->Heap.SameBut it s.heap h'->Q (some v) {s with heap:=h'}) :
  wpAny (model prog w) A (pyNext (.ref it)) Q E s:=by
 obtain⟨o,ho,hc,hd⟩:=id hit;obtain⟨od,es,hod,hcd,hdd,hk,hp,hn⟩:=id hm;unfold pyNext
 refine Yn (wpAny_attempt (QR (name:=Str.ofString "__next__") hit.typeIs WH
  (WR WH hit.typeIs F.entry_dict_valueiterator_next ?_ (F.args_dict_valueiterator_next_1 _))))
 refine Yn (Ys ?_);refine Yn ?_;refine Yn ?_
 first|refine Yn (WK hit.typeIs (Ys ?_))|refine Yn (Qi hit.typeIs (Ys ?_))
 refine Yn (wpAny_fieldsOf ho hd ?_);have hown:Builtin.Dict_items.ownsTuple "dict_valueiterator"=false:=by decide
 simp only[hown,QI,Ve];show wpAny _ _ (if (Value.ref d==Value.none)=true then _ else _) _ _ s;rw[Yp (show ¬((Value.ref d==Value.none)=true)from Y6)]
 refine Yn (Ys ?_);refine Yn (wpAny_dictEntries hod hdd ?_);have hsz:es.size=kvs.length:=by rw[←hp.length];simp
 rw[Yp (by rw[hsz];simp)];refine Yn (Ys ?_);refine Yn (wpAny_dictEpoch hod hdd ?_);rw[Yp (by simp)];refine Ys ?_
 have hlt:i<kvs.length:=by
  rcases Q0 i kvs.length with h|h
  ·exact h
  ·simp[WU h]at hx
 have hlt':i<es.size:=by rw[hsz];exact hlt
 have hval:es[i].val=v:=(hp.get? (e:=es[i]) (by simp[hlt']) hx).2;simp only[show ¬((i:Int)<0)from by omega,Ve,YB,W3 hlt']
 refine Yn ?_
 first|refine Yn (WK hit.typeIs (Ys ?_))|refine Yn (Qi hit.typeIs (Ys ?_))
 refine Yn (Vj hit.typeIs ?_);show wpAny _ _ (setField (.ref it) 1 (rawInt ((i:Int)+1)) >>= _) _ _ s;refine Yn (WC ho hd (by simp) ?_)
 have hit':(s.heap.update it (Obj.mapFields (·.setIfInBounds 1 (rawInt ((i:Int)+1))))).IsValIter it d (i+1) kvs.length ep:=
  ⟨_,We _ ho (WD (Wq hd _)),(QW ..).trans hc,by rw[Wq hd];simp[rawInt]⟩
 refine Yn (Q8 ?_);refine Yn (Vj (s:={s with heap:=s.heap.update it (Obj.mapFields (·.setIfInBounds 1 (rawInt ((i:Int)+1))))}) hit'.typeIs ?_)
 refine Yn (Vj (s:={s with heap:=s.heap.update it (Obj.mapFields (·.setIfInBounds 1 (rawInt ((i:Int)+1))))}) hit'.typeIs ?_)
 show wpAny _ _ (pure es[i].val) _ _ _;exact Ys (Ys ⟨_,rfl,Ys (hval▸hQ _ hit' (Ws ..))⟩)
def MY{it d:Addr}{i ep:Nat}{kvs:List (K×Value)}{Q:Option Value->Shared->Prop}(hh:A.handled=none)(hit:s.heap.IsValIter it d i kvs.length ep)(hm:VDict s.heap d kvs ep)(hx:kvs[i]?=none)(hQ:∀h',Heap.ExtBut it s.heap h'->Q none {s with heap:=h'}):wpAny (model prog w) A (pyNext (.ref it)) Q E s:=by
 obtain⟨o,ho,hc,hd⟩:=id hit;obtain⟨od,es,hod,hcd,hdd,hk,hp,hn⟩:=id hm;unfold pyNext
 refine Yn (wpAny_attempt (QR (name:=Str.ofString "__next__") hit.typeIs WH
  (WR WH hit.typeIs F.entry_dict_valueiterator_next ?_ (F.args_dict_valueiterator_next_1 _))))
 refine Yn (Ys ?_);refine Yn ?_;refine Yn ?_
 first|refine Yn (WK hit.typeIs (Ys ?_))|refine Yn (Qi hit.typeIs (Ys ?_))
 refine Yn (wpAny_fieldsOf ho hd ?_);have hown:Builtin.Dict_items.ownsTuple "dict_valueiterator"=false:=by decide
 simp only[hown,QI,Ve];show wpAny _ _ (if (Value.ref d==Value.none)=true then _ else _) _ _ s;rw[Yp (show ¬((Value.ref d==Value.none)=true)from Y6)]
 refine Yn (Ys ?_);refine Yn (wpAny_dictEntries hod hdd ?_);have hsz:es.size=kvs.length:=by rw[←hp.length];simp
 rw[Yp (by rw[hsz];simp)];refine Yn (Ys ?_);refine Yn (wpAny_dictEpoch hod hdd ?_);rw[Yp (by simp)];refine Ys ?_;have hge:es.size<=i:=by rw[hsz];simpa using hx
 simp only[show ¬((i:Int)<0)from by omega,Ve,YB,Va hge]
 refine Yn ?_
 first|refine Yn (WK hit.typeIs (Ys ?_))|refine Yn (Qi hit.typeIs (Ys ?_))
 show wpAny _ _ (setField (.ref it) 0 .none >>= _) _ _ s;refine Yn (WC ho hd (by simp) ?_);show wpAny _ _ (newExc (.type "StopIteration") [] >>= _) _ _ _;refine Yn ?_;simp only[newExc,newTuple];refine Yn (Wg ?_ (by size_fits));refine Yn (m:=firstArgMember _ _) (wpAny_of_eq (a:=Value.none) (by first|rfl|(simp only[firstArgMember];rfl)) ?_)
 refine Wg ?_ (by size_fits);simp only[raiseNew];refine Yn (wpAny_handled ?_);rw[show A.in1.handled=none from hh]
 refine Yn (Ys (wpAny_throw ?_));refine Yn (wpAny_isInstance (T:="StopIteration") (b:=true) ⟨_,Y5 _ rfl,rfl⟩ isSubtype_stop ?_);exact Ys (hQ _ (((Ws ..).extBut.push _).push _))
end
end PySem
namespace Own
open PySem PySem.Spec PyProof.Rows L2
def Gi(K:Za):R2:=fun x y H Q=>∃a b xs ys,x=.ref a/\y=.ref b/\SqT K H a xs/\SqT K H b ys/\xs.length+ys.length<=sizeLine/\
 (xs=[]->Q (.ref b) H)/\(xs≠[]->ys=[]->Q (.ref a) H)/\(xs≠[]->ys≠[]->∀p,H p=none->Q (.ref p) (upd H p (.tup (xs++ys))))
section
variable {X:Cx}{K:Za}
def M2(hK:X.K=K:=by rfl):OpR X (binaryOp .Add) (Gi K):=by
 subst hK;intro pins s σ H x y v u Q I rx ry h;obtain⟨a,b,xs,ys,rfl,rfl,ha,hb,hz,q0,q1,q2⟩:=h;cases rx
 cases ry
 by_cases hx:xs=[]
 ·obtain⟨its,r1,p1,_⟩:=I.tuple ha;obtain⟨its2,r2,p2,_⟩:=I.tuple hb;have e:its=[]:=r1.nil_iff.mpr hx;obtain⟨⟨cls,dd,data,sl⟩,ho,hc,n,hd⟩:=id p1;obtain⟨⟨cls2,dd2,data2,sl2⟩,ho2,hc2,n2,hd2⟩:=id p2;simp only at hc hd hc2 hd2;subst hc hd hc2 hd2
  exact concat_meets ⟨_,ho,rfl⟩ ⟨_,ho2,rfl⟩ noFill_tuple_add seq_tuple_add QZ QP (QG _ _)
   (tuple_addW0 a b its.toArray its2.toArray n n2 dd dd2 sl sl2 (by simp[e])) ⟨ho,ho2,⟨.ref b,H,I,rfl,q0 hx⟩⟩
 ·exact Zeg pins s σ H (.ref a) (.ref b) _ _ Q I rfl rfl ⟨a,b,xs,ys,rfl,rfl,ha,hb,hx,hz,q1 hx,q2 hx⟩
def Zco{b:Addr}{x:V}{ws:List (Value×Value)}(h:VV [(.ref b,x)] ws):∃r,ws=[(.ref b,r)]/\RelV x r:=by
 cases h with
 |cons h t=>
  cases t
  rename_i y;obtain⟨u,r⟩:=y;obtain⟨h1,h2⟩:=h;cases (show u=Value.ref b from h1)
  exact⟨r,rfl,h2⟩
def Eh(tk tv:TE):TE:=fun σ H Q=>∀p,H p=none->tk σ (upd H p (.dT [])) fun y H1=>tv σ H1 fun x H2=>H2 p=some (.dT [])/\∃b ks,y=.ref b/\H2 b=some (.tup (ks.map kV))/\Q (.ref p) (upd H2 p (.dT [(ks,x)]))
def Ze0{k v:Expr}{tk tv:TE}{pos:Pos}(hu:X.A.units+1<cLine)(hk:PE X k tk)(hv:PE X v tv):PE X (.Dict [some k] [v] pos) (Eh tk tv):=by
 intro pins s σ H Q I q;have hn:=I.hok.fresh (Yy s.heap.objs.size);have I1:=I.laid (a:=s.heap.objs.size) (o:=.dT []) (h':=s.heap.push {cls:=.type "dict",data:=.dict #[]}) (t':=s.toks) (fun _ _ q=>Yv _ q) (Yy _) (Ee s.heap I.big)
 refine wpAny_Dict_any rfl rfl (by simp) (by simp) (thn ((OL hk hv O2) pins _ σ _ (fun ps H2=>match ps with
  |[(y,x)]=>H2 s.heap.objs.size=some (.dT [])/\∃b ks,y=.ref b/\H2 b=some (.tup (ks.map kV))/\Q (.ref s.heap.objs.size) (upd H2 s.heap.objs.size (.dT [(ks,x)]))
  |_=>False) I1 (q _ hn)) fun ws s2 ⟨ps,H2,I2,rel,h2⟩=>?_)
 split at h2
 ·rename_i y x;obtain⟨e,b,ks,ey,eb,q2⟩:=h2;subst ey;obtain⟨wv,ew,rv⟩:=Zco rel;subst ew;obtain⟨z,hd,xs,rel',dd⟩:=SC I2.hok e;cases rel'
  unfold storeAll;rw[Vq];refine Yn (Yn (wpAny_dictSet_heap (hsz:=Ww _) (show(tupleKind _).room X.A from Nat.lt_of_succ_lt hu) (Nd I2.hok eb) dd fun h' dd' hs=>Ys ?_))
  dsimp only
  rw[List.forIn_nil];refine Ys ?_;obtain⟨qo,es,ep,hq,h2,h3,h4,_,h5⟩:=dd';refine⟨.ref s.heap.objs.size,_,FQ (ob:=.dT [(ks,x)]) I2 (by rw[e];exact True.intro) hs ⟨qo,hq⟩ ⟨(by show 1<=sizeLine;decide),hd,[(ks,b,wv)],?_,qo,es,ep,hq,h2,h3,h4,h5⟩,rfl,q2⟩;refine .cons ⟨rfl,?_,rv⟩ .nil;rw[Um (Ej eb e (fun z=>nomatch z))];exact eb
 ·exact h2.elim
end
section
variable {prog:Program}{w:World}{A:Around}{K:Type}{d r:Addr}{kvs:List (K×Value)}{ep:Nat}{h h':Heap}
def VDict.at (x:VDict h d kvs ep) (e:∀o,h.get? d=some o->h'.get? d=some o):VDict h' d kvs ep:=let ⟨o,es,ho,r⟩:=x;⟨o,es,e _ ho,r⟩
def VDict.lt (x:VDict h d kvs ep):d<h.objs.size:=let ⟨_,_,ho,_⟩:=x;Y1 ho
def Mq(hh:A.handled=none)(I d:Addr)(hne:d≠I)(kvs:List (K×Value))(ep:Nat) :
  Walks prog w A I [I,d] [I] kvs.length (fun i v=>∃k,kvs[i]?=some (k,v)) (fun i h=>h.IsValIter I d i kvs.length ep/\VDict h d kvs ep) where
 sub:=fun b hb=>by simp at hb;simp[hb]
 frame:=fun _ _ _ st hk=>⟨st.1.at fun o e=>hk I (by simp) o e,VDict.at st.2 fun o e=>hk d (by simp) o e⟩
 item:=fun i s Q E hi st hQ=>by
  refine Oc (k:=(kvs[i]).1) (v:=(kvs[i]).2) st.1 st.2 (by simp[hi]) fun h' hit' hs'=>?_;exact hQ _ h' s.toks ⟨(kvs[i]).1,by simp[hi]⟩ ⟨hit',VDict.at st.2 fun o e=>hs'.extBut d o hne e⟩ fun b o hb e=>hs'.extBut b o (fun h=>hb (by simp[h])) e
 done:=fun s Q E st hQ=>MY hh st.1 st.2 (by simp) fun h' he'=>hQ h' s.toks fun b o hb e=>he' b o (fun h=>hb (by simp[h])) e
 self:=fun _ _ _ _ st hQ=>wpAny_pyIter_valiter st.1 hQ
def LM:PySem.W.KdlSrc prog w "dict_values" r d kvs.length (fun i v=>∃k,kvs[i]?=some (k,v)) (fun h=>h.IsValuesView r d/\VDict h d kvs ep) where
 type:=fun _ hm=>hm.1.typeIs
 there:=fun _ hm=>⟨let ⟨_,ho,_⟩:=hm.1;Y1 ho,VDict.lt hm.2⟩
 keep:=fun _ _ hm hk=>⟨let ⟨o,ho,x⟩:=hm.1;⟨o,hk r (.inl rfl) o ho,x⟩,VDict.at hm.2 fun o e=>hk d (.inr rfl) o e⟩
 notList:=by decide
 notTuple:=by decide
 hint:=fun _ _ _ _ hm hq=>PySem.W.kdl_hint_values hm.1.typeIs hq
 iter:=fun _ _ hh hm=>⟨_,_,(fun _ _ hq=>Lv hm.1 hm.2 hq),Mq hh _ d (YM (VDict.lt hm.2)) kvs ep,⟨⟨_,Y5 _ rfl,rfl,rfl⟩,VDict.at hm.2 fun o e=>Yv _ e⟩⟩
end
def T6(v d:Addr):HO:=.ext fun h=>h.IsValuesView v d
def A6:V->List V->Hp->VK->Prop:=fun x vs H Q=>∃d kvs,x=.ref d/\vs=[]/\H d=some (.dT kvs)/\∀v,H v=none->Q (.ref v) (upd H v (T6 v d))
section
variable {X:Cx}
def Rz:MtR X "dict.values" A6:=by
 intro pins s σ H x xs v us Q I rx rv h;obtain⟨d,kvs,rfl,rfl,hd,q⟩:=h;cases rx
 have hus:=rv.zero;subst hus;obtain⟨z,lo,xs,rel,dd⟩:=SC I.hok hd;obtain⟨o,es,ep,ho,hx,_⟩:=id dd;refine call_meetsIn PySem.F.slot_dict_values ⟨o,ho,hx.1⟩ PySem.F.entry_dict_values (PySem.F.args_dict_values_1 _) (Zbh d lo) ⟨⟨o,ho,hx.1⟩,?_⟩;refine⟨.ref s.heap.objs.size,_,I.laid (a:=s.heap.objs.size) (o:=T6 s.heap.objs.size d) (t':=s.toks) (fun _ _ q=>Yv _ q) (Yy _) ⟨⟨_,Y5 _ rfl,rfl,rfl⟩,⟨_,Y5 _ rfl⟩,fun h1 h2 ⟨o,ho,r⟩ e=>⟨o,e o ho,r⟩⟩,rfl,q _ (I.hok.fresh (Yy _))⟩
def Ze6{K:Za}{o:Expr}{to:TE}{name:Str}{apos cpos:Pos}(ho:PE X o to)(hK:X.K=K:=by rfl)(hn:name = "values":=by rfl)(hbase:attributeBase o name X.env (eval o X.env)=eval o X.env:=by rfl)(hline:(apos.endLine==cpos.line)=true:=by rfl):PE X (.Call (.Attribute o name apos) [] [] cpos) (tBM0 K "dict" A6 to):=by
 subst hK hn;exact TM PySem.F.plainAttrs_dict PySem.F.slot_dict_values PySem.F.type_dict_values Rz ho hbase hline
def FI{H:Hp}:∀{kvs:List (List Key×V)}{xs:List (List Key×Addr×Value)},KT H kvs xs->Vals (kvs.map (·.2)) (xs.map (·.2.2))
 |_,_,.nil=>.nil
 |_,_,.cons h r=>.cons h.2.2 (FI r)
def IT(hc:X.calm=true):UX X (.type "list") (fun xs H Q=>∃(v d:Addr) (kvs:List (List Key×V)),xs=[.ref v]/\H v=some (T6 v d)/\H d=some (.dT kvs)/\∀l,H l=none->Q (.ref l) (upd H l (.lst (kvs.map (·.2))))):=by
 intro pins s σ H xs us Q I rv h;obtain⟨v,d,kvs,rfl,hv,hd,q⟩:=h;obtain⟨u,rfl,ru⟩:=rv.one;obtain rfl:u=Value.ref v:=ru;obtain⟨z,lo,xs,rel,dd⟩:=SC I.hok hd;obtain⟨o,es,ep,ho,hx,hdat,he,hk,hn⟩:=id dd;have view:s.heap.IsValuesView v d:=(I.hok v _ hv).1;have hl:xs.length=kvs.length:=by simpa using(FI rel).length.symm
 have vd:VDict s.heap d (xs.map fun x=>((),x.2.2)) ep:=by
  refine⟨o,es,ho,hx,hdat,trivial,⟨by rw[he,Ym,Ym],fun {i e k v} h1 h2=>⟨trivial,?_⟩⟩,trivial⟩;rw[he,Yt]at h1;rw[Yt]at h2;cases hi:xs[i]? with
  |none=>rw[hi]at h1;cases h1
  |some x=>
   rw[hi]at h1 h2;cases h1
   cases h2
   rfl
 refine PySem.W.kdl_call LM (I.ok.hd hc) ⟨view,vd⟩ (by rw[Ym];omega) fun h' tk acc' c' hk hD hacc=>?_;refine⟨.ref s.heap.objs.size,upd H s.heap.objs.size (.lst (kvs.map (·.2))),?_,rfl,q _ (I.hok.fresh (Yy _))⟩;have ev:=PySem.W.kdl_vals_eq (kvs:=xs.map fun x=>((),x.2.2)) acc'.toList (by rw[Wa];exact hacc.1) fun j u hu=>hacc.2 j u (by rw[←hu,Wv]);refine I.laid (t':=tk) hk (Yy _) ⟨by rw[Ym];exact z,acc'.toList,c',?_,by simpa using hD⟩;rw[ev,YR];exact FI rel
end
end Own
namespace Pu
open PySem PySem.Spec PyProof.Rows L2 Own M
section
variable {K:Za}{mg:Str->Option Value}{E:L2.St->XK}{H0 H H1 H':Hp}{B Z Z':Addr->Prop}{σ:L2.St}{γ:Γ}
def tupD:Option D->Option (List D)
 |some (.tup ds)=>some ds|_=>none
def B8{o:Option D}{ds:List D}(h:tupD o=some ds):o=some (.tup ds):=by
 unfold tupD at h;split at h
 ·cases h;rfl
 ·cases h
def Mu:S->S->(S->Prop)->Prop:=fun x y R=>∃ds es,tupD x.shd=some ds/\tupD y.shd=some es/\ds.length+es.length<=100000/\R (.sh (.tup (ds++es)))
def Zd4{ta tb:TE}{a b:PTE}(ha:SndE K mg E ta a)(hb:SndE K mg E tb b):SndE K mg E (tOp (Gi K) ta tb) (p2 a b Mu):=by
 refine se_2 ha hb fun H0 H H2 Z x y v u R Q s0 s1 hm tx ty h q=>?_;obtain⟨ds,es,e1,e2,hz,h⟩:=h;have hm':∀b,Z b->Mut (H2 b):=fun b z=>Ki s1 (hm b z);have r1:=tx.shd s0 hm s1 (B8 e1);have r2:=ty.shd s0 hm s1 (B8 e2);obtain⟨l,us,rfl,h1,k1⟩:=Rp.tup_inv r1;obtain⟨m,ws,rfl,h2,k2⟩:=Rp.tup_inv r2;refine⟨l,m,us,ws,rfl,rfl,SqT.of (off_sub _ _ h1),SqT.of (off_sub _ _ h2),by rw[k1.len,k2.len];exact Y4 hz (by decide),fun e=>?_,fun _ e=>?_,fun _ _ p np=>?_⟩
 ·subst e;cases k1
  exact q _ _ _ h (Same.refl _) r2
 ·subst e;cases k2
  refine q _ _ _ h (Same.refl _) ?_;rw[Wb];exact r1
 ·refine q _ _ _ h (UP np) (.tup (U7 U6 fun z=>?_) (Rps.mono (Uk (UP np) fun _ _ _ z=>z) (k1.append k2)))
  have:=hm' p z
  rw[np]at this;exact this
def pIT(a:PTE):PTI:=fun γ R X=>a γ (fun s=>∃ds,tupD s.shd=some ds/\R ds.length fun i=>.sh (ds.getD i .non)) X
def TR{te:TE}{a:PTE}(ha:SndE K mg E te a):SndI K mg E (iTup K te) (pIT a):=by
 intro H0 B H σ γ R X Q env h q qx;refine ha H0 B H σ γ _ X _ env h (fun s v H1 h1 S1 t1=>?_) qx;have env1:=env.grow S1;obtain⟨ds,ed,h1⟩:=h1;have r1:=t1.shd env1.same env.zm S1 (B8 ed);obtain⟨l,vs,rfl,hl,k1⟩:=Rp.tup_inv r1;refine⟨l,rfl,⟨vs,SqT.of (off_sub _ _ hl)⟩,q _ _ _ H1 h1 S1 ⟨fun i H' Z' hi lt=>?_,fun H' Z' lt=>?_⟩⟩
 ·have hd:ds[i]?=some (ds.getD i .non):=by rw[Yo,Yl hi];rfl
  obtain⟨u,hu,tu⟩:=k1.get hd;have k:=off_sub _ _ (lt.off _ _ hl);refine⟨⟨vs,u,SqT.of k,hu⟩,fun x H'' y=>?_⟩;obtain⟨rfl,y⟩:=y
  have:=y vs (SqT.of k)
  rw[hu]at this;cases this
  exact⟨Same.refl _,Rp.mono lt.off tu⟩
 ·exact⟨vs,SqT.of (off_sub _ _ (lt.off _ _ hl)),by rw[k1.len];exact Yy _⟩
def PD:List (List Key×V)->Bool
 |[]=>true
 |p::r=>NB p.2&&PD r
def EW:∀{kvs:List (List Key×V)},PD kvs=true->Rps K H (kvs.map fun p=>vD p.2) (kvs.map (·.2))
 |[],_=>.nil
 |p::r,h=>by
  unfold PD at h;rw[Wc]at h;exact .cons (FB h.1) (EW h.2)
def OT:List V->Hp->VK->Prop:=fun xs H Q=>∃(v d:Addr) (kvs:List (List Key×V)),xs=[.ref v]/\H v=some (T6 v d)/\H d=some (.dT kvs)/\∀l,H l=none->Q (.ref l) (upd H l (.lst (kvs.map (·.2))))
def L5(a:PTE):PTE:=fun γ R X=>a γ (fun s=>∃kvs,s.d=.dT kvs/\PD kvs=true/\R (.own (.lst (kvs.map fun p=>vD p.2)))) X
def Ze3{te:TE}{a:PTE}(ha:SndE K mg E te a):SndE K mg E (tCB OT (UU (tBM0 K "dict" A6 te) tNil)) (L5 a):=by
 intro H0 B H σ γ R X Q env h q qx;refine ha H0 B H σ γ _ X _ env h (fun s v H1 h1 S1 t1=>?_) qx;obtain⟨kvs,e,hs,hR⟩:=h1;have env1:=env.grow S1;have rx:=t1.rp env1.same;rw[e]at rx;obtain⟨l,rfl,hl⟩:=rx.dT_inv;refine⟨.inr (.inr (.inl ⟨rfl,.inr ⟨kvs,hl⟩⟩)),l,kvs,rfl,rfl,hl,fun p np=>?_⟩;refine⟨p,l,kvs,rfl,U6,by rw[Um (X6 hl np)];exact hl,fun m nm=>?_⟩;have S2:Same H1 (upd H1 p (T6 p l)):=UP np;exact q _ _ _ hR ((S1.trans S2).trans (UP nm)) ⟨m,rfl,(fun _ e=>e▸(S1.trans S2).free nm),_,U6,EW hs⟩
def O6(a b:PTE):PTE:=fun γ R X=>a γ (fun y=>b γ (fun x=>∃ks u,PY y.d=some ks/\NM x.d=some u/\R (.own (.dT [(ks,u)]))) X) X
def Lr{tk tv:TE}{a b:PTE}(ha:SndE K mg E tk a)(hb:SndE K mg E tv b):SndE K mg E (Eh tk tv) (O6 a b):=by
 intro H0 B H σ γ R X Q env h q qx;intro p np;have S0:Same H (upd H p (.dT [])):=UP np;have env0:=env.grow S0;refine ha H0 B _ σ γ _ X _ env0 h (fun y v H1 h1 S1 t1=>?_) fun c H' hc S'=>qx c H' hc (S0.trans S');have env1:=env0.grow S1;refine hb H0 B H1 σ γ _ X _ env1 h1 (fun x w H2 h2 S2 t2=>?_) fun c H' hc S'=>qx c H' hc ((S0.trans S1).trans S');have env2:=env1.grow S2;obtain⟨ks,u,k1,k2,k3⟩:=h2;have eu:=Ff (t2.rp env2.same) k2;obtain⟨b',rfl,hb'⟩:=Sl (Rp.mono S2 (t1.rp env1.same)) k1;subst eu;refine⟨S2 _ _ (S1 _ _ U6),b',ks,rfl,hb',q _ _ _ k3 (fun c o hc=>?_) ⟨p,rfl,(fun _ e=>e▸np),U6⟩⟩
 have:c≠p:=fun e=>by subst e;rw[np]at hc;cases hc
 rw[Um this];exact S2 _ _ (S1 _ _ (S0 _ _ hc))
end
section
variable {X:Cx}{K:Za}
def Tr{tg l:Expr}{tl:TE}(hl:PE X l tl)(hK:X.K=K:=by rfl):PI X tg l (iTup K tl):=by subst hK;exact Zeu hl
end
end Pu
namespace M
open PySem PySem.Spec PyProof.Rows L2 Own Pu
def tD(ms:List Int):D:=.tup (ms.map D.int)
def kT(ms:List Int):List Key:=ms.map Sum.inl
def HS(ms:List Int):arg (tD ms)=.sh (tD ms):=by
 unfold arg tD imm;rw[Sk]
def Nh{N:List Str}{ms:List Int}{ds:List D}:Kr N (tD ms::ds)=some (.sh (tD ms))::(ds.map (fun d=>some (arg d))++List.replicate (N.length-(ds.length+1)) none):=by
 unfold Kr;rw[Y9,HS];rfl
def NT(ms:List Int):PY (tD ms)=some (kT ms):=by
 show PL (ms.map D.int)=some (ms.map Sum.inl)
 induction ms with
 |nil=>rfl
 |cons m r ih=>
  rw[Y9,Y9];unfold PL;rw[ih];rfl
def Zc8(ms:List Int):tupD (some (tD ms))=some (ms.map D.int):=rfl
def Ua(ms:List Int)(h:Int):List Int:=ms.filter fun m=>decide (m≠h)
def Xc(ws:List (Int×Int))(ms:List Int)(h:Int):Bool:=!(ws.any fun q=>decide (q.1=h)&&decide (q.2∈ms))
def firstM(ws:List (Int×Int))(ms:List Int)(h:Int):Bool:=!(ws.any fun q=>decide (q.2=h)&&decide (q.1∈ms))
def Uo(hs:List Int):List (List Int):=hs.foldl (fun S h=>S++S.map (·++[h])) [[]]
def K0(hs:List Int)(h:Int):Uo (hs++[h])=Uo hs++(Uo hs).map (·++[h]):=by
 unfold Uo;rw[List.foldl_append];rfl
def Pa{P:List Int->Prop}(h0:P [])(h1:∀r h,P r->P (r++[h]))(l:List Int):P l:=by
 have key:∀r:List Int,P r.reverse:=fun r=>by
  induction r with
  |nil=>exact h0
  |cons a r ih=>rw[List.reverse_cons];exact h1 _ _ ih
 rw[←List.reverse_reverse l];exact key _
def XB(hs:List Int):(Uo hs).length=2 ^ hs.length:=by
 refine Pa (P:=fun hs=>(Uo hs).length=2 ^ hs.length) rfl (fun r h ih=>?_) hs;rw[K0,Yw,Ym,ih,Yw,YO,Nat.pow_succ];omega
def PQ(hs:List Int):∀ms∈Uo hs,ms.Sublist hs:=by
 refine Pa (P:=fun hs=>∀ms∈Uo hs,ms.Sublist hs) (fun ms h=>?_) (fun r h ih ms hm=>?_) hs
 ·have:ms=[]:=by simpa [Uo]using h
  subst this;exact .slnil
 ·rw[K0,YG]at hm;rcases hm with hm|hm
  ·exact(ih _ hm).trans (List.sublist_append_left _ _)
  ·obtain⟨n,hn,rfl⟩:=YL.mp hm;exact(ih _ hn).append (List.Sublist.refl _)
def oc(c:Int->Int->Int):List Int->Int
 |[]=>0
 |a::r=>(r.map (c a)).sum+oc c r
def Keeps(ws:List (Int×Int))(o:List Int):Prop:=o.Pairwise fun a b=>(b,a)∉ws
structure Least (ws:List (Int×Int)) (c:Int->Int->Int) (ms:List Int) (v:Int):Prop where
 is:∃o:List Int,o.Perm ms/\Keeps ws o/\oc c o=v
 le:∀o:List Int,o.Perm ms->Keeps ws o->v<=oc c o
def Least.uniq {ws:List (Int×Int)}{c:Int->Int->Int}{ms:List Int}{v u:Int} (h:Least ws c ms v) (k:Least ws c ms u):v=u:=by
 obtain⟨o,o1,o2,o3⟩:=h.is;obtain⟨p,p1,p2,p3⟩:=k.is
 have:=h.le p p1 p2
 have:=k.le o o1 o2
 omega
def NF(c:Int->Int->Int)(l:Int):∀o:List Int,oc c (o++[l])=oc c o+(o.map (c · l)).sum
 |[]=>by simp[oc]
 |a::r=>by
  rw[Vf];unfold oc;rw[NF c l r];simp only[Y8,Y9,VC,List.sum_append,WA,List.sum_nil];omega
def Kk{f:Int->Int}{xs ys:List Int}(h:xs.Perm ys):(xs.map f).sum=(ys.map f).sum:=by
 induction h with
 |nil=>rfl
 |cons x _ ih=>rw[Y9,Y9,WA,WA,ih]
 |swap x y l=>
  simp only[Y9,WA];omega
 |trans _ _ i1 i2=>exact i1.trans i2
def XU{ms:List Int}{h:Int}(nd:ms.Nodup)(hm:h∈ms):ms.Perm (h::Ua ms h):=by
 have e:Ua ms h=ms.erase h:=by
  unfold Ua;rw[nd.erase_eq_filter];congr 1;funext m;by_cases z:m=h<;>simp[z,bne]
 rw[e];exact List.perm_cons_erase hm
def less_sub{ms:List Int}{h:Int}:(Ua ms h).Sublist ms:=Vw
def lastM_iff{ws:List (Int×Int)}{ms:List Int}{h:Int}:Xc ws ms h=true↔∀b∈ms,(h,b)∉ws:=by
 unfold Xc;rw[V9,V8];constructor
 ·intro k b hb hw;exact k _ hw (by simp[hb])
 ·intro k q hq z;simp only[Wc,WZ]at z;obtain⟨z1,z2⟩:=z;subst z1;exact k q.2 z2 hq
def firstM_iff{ws:List (Int×Int)}{ms:List Int}{h:Int}:firstM ws ms h=true↔∀b∈ms,(b,h)∉ws:=by
 unfold firstM;rw[V9,V8];constructor
 ·intro k b hb hw;exact k _ hw (by simp[hb])
 ·intro k q hq z;simp only[Wc,WZ]at z;obtain⟨z1,z2⟩:=z;subst z1;exact k q.1 z2 hq
def He{ws:List (Int×Int)}{c:Int->Int->Int}{ms:List Int}{vs:Int->Int}{M:Int}(nd:ms.Nodup)(hw:∀q∈ws,q.1≠q.2)(hv:∀l∈ms,Least ws c (Ua ms l) (vs l))(h1:∃l∈ms,Xc ws ms l=true/\M=vs l+((Ua ms l).map (c · l)).sum)(h2:∀l∈ms,Xc ws ms l=true->M<=vs l+((Ua ms l).map (c · l)).sum):Least ws c ms M:=by
 constructor
 ·obtain⟨l,hl,hlast,e⟩:=h1;obtain⟨o,o1,o2,o3⟩:=(hv l hl).is;refine⟨o++[l],?_,?_,?_⟩
  ·exact(List.perm_append_singleton l o).trans (((List.Perm.cons l o1)).trans (XU nd hl).symm)
  ·refine Vr.mpr ⟨o2,List.pairwise_singleton _ _,fun a ha b hb=>?_⟩;rw[Yx.mp hb];exact lastM_iff.mp hlast a (less_sub.subset (o1.mem_iff.mp ha))
  ·rw[NF,o3,e,Kk o1]
 ·intro o o1 o2;rcases Wm o with rfl|⟨p,l,rfl⟩
  ·obtain⟨l,hl,_⟩:=h1;rw[o1.nil_eq.symm]at hl;cases hl
  ·rw[W4]at o1 o2 ⊢;have hl:l∈ms:=o1.mem_iff.mp (by simp);obtain⟨k1,_,k2⟩:=Vr.mp o2
   have pp:p.Perm (Ua ms l):=by
    have:=((List.perm_append_singleton l p).symm.trans o1).trans (XU nd hl)
    exact this.cons_inv
   have hlast:Xc ws ms l=true:=lastM_iff.mpr fun b hb=>by
    rcases Y2.mp ((XU nd hl).mem_iff.mp hb)with e|hb'
    ·subst e;exact fun z=>hw _ z rfl
    ·exact k2 b (pp.mem_iff.mpr hb') l (Yx.mpr rfl)
   have a1:=h2 l hl hlast;have a2:=(hv l hl).le p pp k1;rw[NF,Kk pp];omega
def Gm(a b:List Int)(l:Int):Ua (a++b) l=Ua a l++Ua b l:=Qr ..
def Ed{a:List Int}{l:Int}(h:l∉a):Ua a l=a:=Vx.mpr fun m hm=>Yq fun e=>h (e▸hm)
def Rf(hs:List Int):∃T,Uo hs=[]::T:=by
 refine Pa (P:=fun hs=>∃T,Uo hs=[]::T) ⟨[],rfl⟩ (fun r h ⟨T,e⟩=>?_) hs;rw[K0,e];exact⟨_,rfl⟩
def SG(hs:List Int):(Uo hs).getLast?=some hs:=by
 refine Pa (P:=fun hs=>(Uo hs).getLast?=some hs) rfl (fun r h e=>?_) hs;rw[K0,List.getLast?_append,List.getLast?_map,e];rfl
def Dv{hs:List Int}:hs.Nodup->(Uo hs).Nodup:=by
 refine Pa (P:=fun hs=>hs.Nodup->(Uo hs).Nodup) (fun _=>by simp[Uo]) (fun r h ih nd=>?_) hs;obtain⟨n1,_,n2⟩:=Wt.mp nd;rw[K0];refine Wt.mpr ⟨ih n1,?_,fun a ha b hb e=>?_⟩
 ·exact List.Pairwise.map _ (fun a b hne e=>hne (List.append_cancel_right e)) (ih n1)
 ·obtain⟨c,hc,rfl⟩:=YL.mp hb;subst e;exact n2 h ((PQ r _ ha).subset (by simp)) h (by simp) rfl
def Gq{hs:List Int}:hs.Nodup->∀(k:Nat) (ms:List Int),(Uo hs)[k]?=some ms->∀l∈ms,∃j:Nat,j<k/\(Uo hs)[j]?=some (Ua ms l):=by
 refine Pa (P:=fun hs=>hs.Nodup->∀(k:Nat) (ms:List Int),(Uo hs)[k]?=some ms->∀l∈ms,∃j:Nat,j<k/\(Uo hs)[j]?=some (Ua ms l)) (fun _ k ms e l hl=>?_) (fun r h ih nd k ms e l hl=>?_) hs
 ·have:ms=[]:=by
   have:=Y7 e
   simpa [Uo]using this
  subst this;cases hl
 ·obtain⟨n1,_,n2⟩:=Wt.mp nd;rw[K0]at e ⊢;by_cases hk:k<(Uo r).length
  ·rw[YI hk]at e;obtain⟨j,hj,ej⟩:=ih n1 k ms e l hl;exact⟨j,hj,by rw[YI (by omega)];exact ej⟩
  ·rw[YK (by omega),Yt]at e;cases q:(Uo r)[k-(Uo r).length]? with
   |none=>rw[q]at e;cases e
   |some n=>
    rw[q]at e;cases e
    have hh:h∉n:=fun z=>n2 h ((PQ r n (Y7 q)).subset z) h (by simp) rfl;by_cases el:l=h
    ·subst el
     have e1:Ua (n++[l]) l=n:=by
      rw[Gm,Ed hh];simp[Ua]
     obtain⟨j,hj,ej⟩:=Wz.mp (Y7 q);refine⟨j,by omega,?_⟩;rw[YI hj,e1,Yl hj,ej]
    ·have hln:l∈n:=by
      rcases YG.mp hl with z|z
      ·exact z
      ·exact absurd (Yx.mp z) el
     have e1:Ua (n++[h]) l=Ua n l++[h]:=by
      rw[Gm];congr 1;exact Ed fun z=>el (Yx.mp z)
     obtain⟨j,hj,ej⟩:=ih n1 _ n q l hln;refine⟨(Uo r).length+j,by omega,?_⟩;rw[YK (by omega),Yt,QS,ej,e1];rfl
def NJ{a b:List Int}(h:kT a=kT b):a=b:=List.map_inj_right (fun _ _=>Sum.inl.inj) |>.mp h
def Nb(hs:List Int)(ws:List (Int×Int)):Prop:=∀ms:List Int,ms.Sublist hs->ms≠[]->∃l∈ms,∀b∈ms,(l,b)∉ws
structure Tab (ws:List (Int×Int)) (c:Int->Int->Int) (S:List (List Int)) (kvs:List (List Key×V)):Prop where
 keys:kvs.map (·.1)=S.map kT
 val:∀ms∈S,∃v,valV kvs (kT ms)=some (.int v)/\Least ws c ms v
def Rr(ws:List (Int×Int))(c:Int->Int->Int):Tab ws c [[]] [([],.int 0)]:=by
 refine⟨rfl,fun ms hm=>?_⟩;rw[Yx.mp hm];refine⟨0,rfl,⟨[],.refl _,.nil,rfl⟩,fun o ho _=>?_⟩;rw[ho.eq_nil];exact Int.le_refl _
def Tab.put {ws:List (Int×Int)}{c:Int->Int->Int}{S:List (List Int)}{kvs:List (List Key×V)}{ms:List Int}{v:Int} (T:Tab ws c S kvs) (hn:ms∉S) (L:Least ws c ms v):Tab ws c (S++[ms]) (putK kvs (kT ms) (.int v)):=by
 have no:valV kvs (kT ms)=none:=by
  cases e:valV kvs (kT ms)with
  |none=>rfl
  |some u=>
   unfold valV at e;cases q:kvs.find? (fun kv=>decide (kv.1=kT ms))with
   |none=>rw[q]at e;cases e
   |some x=>
    have h1:=List.mem_of_find?_eq_some q;have h2:=List.find?_some q;have h3:x.1∈kvs.map (·.1):=YL.mpr ⟨x,h1,rfl⟩;rw[T.keys,Yu h2]at h3;obtain⟨n,hn',e'⟩:=YL.mp h3;rw[NJ e']at hn';exact absurd hn' hn
 constructor
 ·rw[Zd3 _ no,Y8,Y8,T.keys];rfl
 ·intro n hn';rw[Sz];by_cases e:n=ms
  ·subst e;exact⟨v,Yr rfl,L⟩
  ·rw[Yp fun z=>e (NJ z)];rcases YG.mp hn' with z|z
   ·exact T.val n z
   ·exact absurd (Yx.mp z) e
open Classical in
def ER{ms:List Int}{P:Int->Int->Prop}(h:∀l∈ms,∃v,P l v):∃f:Int->Int,∀l∈ms,P l (f l):=
 ⟨fun l=>if hl:l∈ms then Classical.choose (h l hl)else 0,fun l hl=>by
  simp only[dif_pos hl];exact Classical.choose_spec (h l hl)⟩
def Ii{ls:List Int}{ws:List (Int×Int)}{r:List Int}(R:Ring ls (ws.map fun q=>(q.2,q.1)) r):Ring ls ws r.reverse:=by
 have sw:∀{x y:Int},(x,y)∈(ws.map fun q=>(q.2,q.1))->(y,x)∈ws:=fun h=>by
  obtain⟨q,hq,e⟩:=YL.mp h;cases e
  exact hq
 refine⟨by rw[Vy];exact R.two,List.pairwise_reverse.mpr (R.nodup.imp fun h=>Ne.symm h),fun x hx=>R.sub x (List.mem_reverse.mp hx),fun i x y h1 h2=>?_,fun x y h1 h2=>?_⟩
 ·have hi:i+1<r.length:=by
   have:=(YD.mp h2).1
   rw[Vy]at this;exact this
  rw[Vk (by omega)]at h1 h2;exact sw (R.chain (r.length-1-(i+1)) y x h2 (by rw[←h1];congr 1;omega))
 ·have two:=R.two;rw[Vk (by omega)]at h1;rw[Vy,Vk (by omega)]at h2;exact sw (R.last y x (by rw[←h2];congr 1;omega) (by rw[←h1];congr 1))
def F5{hs:List Int}{ws:List (Int×Int)}(hu:∀q∈ws,q.1≠q.2)(h:¬ ∃r,Ring hs ws r):Nb hs ws:=fun ms hm hne=>by
 refine YU fun z=>h ?_
 have h1:∀x∈ms,∃y∈ms,(y,x)∈(ws.map fun q=>(q.2,q.1)):=fun x hx=>by
  refine YU fun k=>z ⟨x,hx,fun b hb hw=>k ⟨b,hb,YL.mpr ⟨_,hw,rfl⟩⟩⟩
 obtain⟨r,R⟩:=D6 (ws:=ws.map fun q=>(q.2,q.1)) (fun q hq=>by
  obtain⟨p,hp,e⟩:=YL.mp hq;subst e;exact fun e=>hu p hp e.symm) hne h1
 have F:=Ii R;exact⟨_,F.two,F.nodup,fun x hx=>hm.subset (F.sub x hx),F.chain,F.last⟩
def GJ:∀{kvs:List (List Key×V)},(kvs.map (·.1)).Nodup->∀p∈kvs,valV kvs p.1=some p.2
 |[],_,p,h=>by cases h
 |q::r,nd,p,h=>by
  rw[Y9,YT]at nd;rcases Y2.mp h with e|h
  ·rw[e];exact XZ rfl
  ·rw[Kf fun e=>nd.1 (YL.mpr ⟨p,h,e.symm⟩)];exact GJ nd.2 p h
def TabV(ws:List (Int×Int))(c:Int->Int->Int)(S:List (List Int))(vs:List Int):Prop:=vs.length=S.length/\∀(i:Nat) (ms:List Int) (v:Int),S[i]?=some ms->vs[i]?=some v->Least ws c ms v
def Tab.vals {ws:List (Int×Int)}{c:Int->Int->Int}{S:List (List Int)}{kvs:List (List Key×V)} (T:Tab ws c S kvs) (nd:S.Nodup):∃vs:List Int,kvs.map (·.2)=vs.map V.int/\TabV ws c S vs:=by
 have nk:(kvs.map (·.1)).Nodup:=by
  rw[T.keys];exact List.Pairwise.map _ (fun a b hne e=>hne (NJ e)) nd
 have hk:∀p∈kvs,∃ms∈S,p.1=kT ms/\∃v,p.2=.int v/\Least ws c ms v:=fun p hp=>by
  have h1:p.1∈kvs.map (·.1):=YL.mpr ⟨p,hp,rfl⟩;rw[T.keys]at h1;obtain⟨ms,hm,e⟩:=YL.mp h1;obtain⟨v,h2,h3⟩:=T.val ms hm;rw[e,GJ nk p hp]at h2;exact⟨ms,hm,e.symm,v,Yz h2,h3⟩
 have hl:kvs.length=S.length:=by
  have:=YQ List.length T.keys
  rw[Ym,Ym]at this;exact this
 refine⟨kvs.map fun p=>match p.2 with | .int v=>v|_=>0,?_,by rw[Ym,hl],fun i ms v h1 h2=>?_⟩
 ·rw[YR];refine W2 fun p hp=>?_;obtain⟨ms,_,_,v,e,_⟩:=hk p hp;show p.2=V.int (match p.2 with | .int v=>v|_=>0)
  rw[e]
 ·rw[Yt]at h2;cases q:kvs[i]? with
  |none=>rw[q]at h2;cases h2
  |some p=>
   rw[q]at h2;obtain⟨ms',hm',e1,u,e2,L⟩:=hk p (Y7 q);have h3:(kvs.map (·.1))[i]?=some p.1:=by rw[Yt,q];rfl
   rw[T.keys,Yt,h1]at h3;have e3:ms=ms':=NJ ((Yz h3).trans e1);subst e3
   have e4:u=v:=by
    have:=Yz h2
    simp only[e2]at this;exact this
   rw[←e4];exact L
def E5:∀{kvs:List (List Key×V)}{vs:List Int},kvs.map (·.2)=vs.map V.int->PD kvs=true/\kvs.map (fun p=>vD p.2)=vs.map D.int
 |[],[],_=>⟨rfl,rfl⟩
 |p::r,v::vs,h=>by
  rw[Y9,Y9,Qq]at h;obtain⟨h1,h2⟩:=E5 h.2;unfold PD;rw[h1,Y9,Y9,h2,h.1];exact⟨rfl,rfl⟩
structure Best (ws:List (Int×Int)) (c:Int->Int->Int) (ms o:List Int):Prop where
 perm:o.Perm ms
 keeps:Keeps ws o
 le:∀p:List Int,p.Perm ms->Keeps ws p->oc c o<=oc c p
 first:∀p:List Int,p.Perm ms->Keeps ws p->oc c p=oc c o->o=p\/sl o p
def OO(ws:List (Int×Int))(c:Int->Int->Int):Best ws c [] []:=by
 refine⟨.refl _,.nil,fun p hp _=>?_,fun p hp _ _=>.inl hp.eq_nil.symm⟩;rw[hp.eq_nil];exact Int.le_refl _
def FC{ws:List (Int×Int)}{c:Int->Int->Int}{ms:List Int}{vs:Int->Int}{V g:Int}{p:List Int}(nd:ms.Nodup)(hu:∀q∈ws,q.1≠q.2)(hv:∀l∈ms,Least ws c (Ua ms l) (vs l))(hV:Least ws c ms V)(hp:(g::p).Perm ms)(hk:Keeps ws (g::p))(e:oc c (g::p)=V):g∈ms/\firstM ws ms g=true/\vs g+((Ua ms g).map (c g)).sum=V/\p.Perm (Ua ms g)/\oc c p=vs g:=by
 have hg:g∈ms:=hp.mem_iff.mp (YN ..);have pp:p.Perm (Ua ms g):=(hp.trans (XU nd hg)).cons_inv;obtain⟨k1,k2⟩:=Wy.mp hk
 have hf:firstM ws ms g=true:=firstM_iff.mpr fun b hb=>by
  rcases Y2.mp ((XU nd hg).mem_iff.mp hb)with e|hb'
  ·subst e;exact fun z=>hu _ z rfl
  ·exact k1 b (pp.mem_iff.mpr hb')
 have a1:=(hv g hg).le p pp k2;obtain⟨o,o1,o2,o3⟩:=(hv g hg).is;have a2:=hV.le (g::o) ((List.Perm.cons g o1).trans (XU nd hg).symm) (Wy.mpr ⟨fun b hb=>firstM_iff.mp hf b (less_sub.subset (o1.mem_iff.mp hb)),o2⟩);have e1:oc c (g::p)=(p.map (c g)).sum+oc c p:=rfl;have e2:oc c (g::o)=(o.map (c g)).sum+oc c o:=rfl;have s1:=Kk (f:=c g) pp;have s2:=Kk (f:=c g) o1;exact⟨hg,hf,by omega,pp,by omega⟩
def Zfd{ws:List (Int×Int)}{c:Int->Int->Int}{ms o:List Int}{vs:Int->Int}{V f:Int}(nd:ms.Nodup)(hu:∀q∈ws,q.1≠q.2)(hv:∀l∈ms,Least ws c (Ua ms l) (vs l))(hV:Least ws c ms V)(hf:f∈ms)(h1:firstM ws ms f=true)(h2:vs f+((Ua ms f).map (c f)).sum=V)(h3:∀g∈ms,firstM ws ms g=true->vs g+((Ua ms g).map (c g)).sum=V->f<=g)(B:Best ws c (Ua ms f) o):Best ws c ms (f::o):=by
 have eo:oc c o=vs f:=by
  obtain⟨p,p1,p2,p3⟩:=(hv f hf).is
  have:=(hv f hf).le o B.perm B.keeps
  have:=B.le p p1 p2
  omega
 have es:=Kk (f:=c f) B.perm
 have e:oc c (f::o)=V:=by
  show(o.map (c f)).sum+oc c o=V;omega
 refine⟨(List.Perm.cons f B.perm).trans (XU nd hf).symm,Wy.mpr ⟨fun b hb=>firstM_iff.mp h1 b (less_sub.subset (B.perm.mem_iff.mp hb)),B.keeps⟩,fun p p1 p2=>?_,fun p p1 p2 p3=>?_⟩
 ·rw[e];exact hV.le p p1 p2
 ·cases p with
  |nil=>rw[p1.nil_eq.symm]at hf;cases hf
  |cons g p=>
   obtain⟨q1,q2,q3,q4,q5⟩:=FC nd hu hv hV p1 p2 (p3.trans e);have hle:=h3 g q1 q2 q3;by_cases eg:f=g
   ·subst eg;rcases B.first p q4 (Wy.mp p2).2 (q5.trans eo.symm)with z|z
    ·exact .inl (by rw[z])
    ·exact .inr (sl_cons.mpr z)
   ·exact .inr (.inl (by omega))
end M
namespace Pu
open PySem PySem.Spec PyProof.Rows L2 Own
section
variable {K:Za}{mg:Str->Option Value}{E:L2.St->XK}{H0 H H1 H':Hp}{B Z Z':Addr->Prop}{σ:L2.St}{γ:Γ}
def O.from:O->O->Prop
 | .ins x _ _ cs,.ins x' _ _ cs'=>x'=x/\∀c∈cs,∃c'∈cs',c'.1=c.1
 | .lsA x _,.lsA x' _=>x'=x
 |_,_=>False
def O.from_adr {o o':O}{a:Addr} (h:o.from o'):∀b,o.adr a b->o'.adr a b:=by
 unfold O.from at h
 split at h
 ·intro b hb;rcases hb with hb|⟨c,hc,hb⟩
  ·exact .inl (hb.trans h.1.symm)
  ·obtain⟨c',q1,q2⟩:=h.2 c hc;exact .inr ⟨c',q1,hb.trans q2.symm⟩
 ·intro b hb;exact(show b=_ from hb).trans h.symm
 ·exact h.elim
def O.from_at {o o':O}{a a':Addr}{F F' H H':Hp} (h:o.from o') (h1:OR K F H a o) (h2:OR K F' H' a' o'):a'=a:=by
 unfold O.from at h
 split at h
 ·exact h2.1.trans (h.1.trans h1.1.symm)
 ·exact h2.1.trans (h.trans h1.1.symm)
 ·exact h.elim
abbrev Pw:=O->List S->(O->D->Prop)->(O->Str->Prop)->Prop
def S.pass:S->Option S
 | .sh d=>some (.sh d) | .own o=>some (.sh o.d)
 | .bor d=>match imm d with|true=>some (.sh d)|false=>some (.bor d)
 | .tmp d=>match imm d with|true=>some (.sh d)|false=>none
 | .view _=>none
def S.flat:S->Prop
 | .sh _=>True | .bor _=>True|_=>False
def passes:List S->Option (List S)
 |[]=>some []
 |s::r=>match s.pass,passes r with|some s',some r'=>some (s'::r')|_,_=>none
structure After (K:Za) (B:Addr->Prop) (H:Hp) (a:Addr) (o o':O) (H':Hp):Prop where
 same:Same (off (o.adr a) H) H'
 old:∀b,o.adr a b->o'.adr a b
 new:∀b,o'.adr a b->o.adr a b\/H b=none
 at_:OR K (off (fun b=>B b\/o'.adr a b) H') H' a o'
def spW(mg:Str->Option Value)(c:Pw)(K:Za):Sp:=fun vs H Q E=>∃(o:O) (a:Addr) (ss:List S) (us:List V) (B:Addr->Prop) (R:O->D->Prop) (X:O->Str->Prop),
 vs=.ref a::us/\(∀b,B b->Mut (H b)/\¬o.adr a b)/\OR K (off (fun b=>B b\/o.adr a b) H) H a o/\TVs K (fun b=>B b\/o.adr a b) (off (o.adr a) H) H H ss us/\(∀s∈ss,s.flat)/\c o ss R X/\
 (∀o' d v H',R o' d->After K B H a o o' H'->Rp K (off (fun b=>B b\/o'.adr a b) H') d v->Q v H')/\∀o' e H',X o' e->After K B H a o o' H'->E (.ref (ExcR.JP mg e)) none H'
def TVs.get:∀{ss:List S}{vs:List V}{i:Nat}{s:S},TVs K Z H0 H H' ss vs->ss[i]?=some s->∃v,vs[i]?=some v/\TV K Z H0 H H' s v
 |_,_,_,_,.nil,e=>by simp at e
 |_,_,0,_,.cons h _,e=>by simp at e;subst e;exact⟨_,rfl,h⟩
 |_,_,i+1,s,.cons _ r,e=>by
  obtain⟨v,h1,h2⟩:=TVs.get (i:=i) (s:=s) r (by simpa using e);exact⟨v,by simpa using h1,h2⟩
def KI(N:List Str)(o:O)(ss:List S):Γ:=some (.own o)::(ss.map some++List.replicate (N.length-(ss.length+1)) none)
def MN{N:List Str}{o:O}{a:Addr}{ss:List S}{us:List V}(hB:∀b,B b->Mut (H b)/\¬o.adr a b)(ho:OR K (off (fun b=>B b\/o.adr a b) H) H a o)(r:TVs K (fun b=>B b\/o.adr a b) (off (o.adr a) H) H H ss us)(hf:∀s∈ss,s.flat)(hn:ss.length+1<=N.length) :
  EnvR K (off (o.adr a) H) B H (start N (.ref a::us)) (KI N o ss):=by
 have hlen:=r.len
 have get:∀(i:Nat) (s:S),(KI N o ss)[i+1]?=some (some s)->ss[i]?=some s:=fun i s h=>by
  unfold KI at h;rw[Wf]at h;by_cases hi:i<ss.length
  ·rw[YI (by rw[Ym];exact hi),Yt,Yl hi]at h;rw[Yl hi];exact YQ some (Yz (Yz h))
  ·rw[YK (by rw[Ym];omega),WL]at h;split at h<;>cases h
 have noown:∀(i:Nat) (es:O),(KI N o ss)[i+1]?≠some (some (.own es)):=fun i es h=>hf _ (Y7 (get i _ h))
 have st0:(start N (V.ref a::us))[0]?=some (some (.ref a)):=by
  unfold L2.start;rfl
 have hz:∀b,zof B (KI N o ss) (start N (V.ref a::us)) b->B b\/o.adr a b:=fun b z=>by
  rcases z with z|⟨i,es,a',h1,h2,h3⟩
  ·exact .inl z
  ·cases i with
   |zero=>
    rw[st0]at h2;cases h2
    have:o=es:=by
     have h1:some (some (S.own o))=some (some (S.own es)):=h1;cases h1
     rfl
    subst this;exact .inr h3
   |succ i=>exact absurd h1 (noown i es)
 refine⟨off_sub,?_,fun b h=>(hB b h).1,fun i j x x' es es' b h1 h2 _ _ _ _=>?_,fun i s h=>?_⟩
 ·unfold L2.start KI;simp[hlen]
 ·cases i with
  |succ i=>exact absurd h1 (noown i es)
  |zero=>
   cases j with
   |zero=>rfl
   |succ j=>exact absurd h2 (noown j es')
 ·cases i with
  |zero=>
   have h:some (some (S.own o))=some (some s):=h;cases h
   refine⟨_,st0,a,rfl,fun b hb=>?_,ho.mono (Uk (Same.refl _) fun b _ _ z y=>z (hz b y)) fun _ _ _ q=>q⟩;unfold off;rw[Yr hb]
  |succ i=>
   have hs:=get i s h;obtain⟨v,hv,tv⟩:=r.get hs;refine⟨v,?_,?_⟩
   ·unfold L2.start;rw[YI (by rw[Ym,YE];have:=(YD.mp hv).1;omega),Yt,Wf,hv];rfl
   ·have:=hf s (Y7 hs)
    cases s with
    |bor d=>exact tv
    |sh d=>exact Rp.mono (Uk (Same.refl _) fun b _ _ z y=>z (hz b y)) tv
    |own _=>exact this.elim
    |view _=>exact this.elim
    |tmp _=>exact this.elim
def finW(o:O)(R:O->D->Prop)(γ:Γ)(d:D):Prop:=∃o',γ[0]?=some (some (.own o'))/\o.from o'/\R o' d
def finX(o:O)(X:O->Str->Prop)(γ:Γ)(e:Str):Prop:=∃o',γ[0]?=some (some (.own o'))/\o.from o'/\X o' e
def Ey(o:O)(R:O->D->Prop)(X:O->Str->Prop):PEnds:={nx:=fun γ=>finW o R γ .non,rt:=fun _=>False,ex:=finX o X,rv:=finW o R}
def FW{a:Addr}{o o':O}{σ':L2.St}{γ':Γ}(ho:OR K (off (fun b=>B b\/o.adr a b) H) H a o)(e:EnvR K (off (o.adr a) H) B H' σ' γ')(h:γ'[0]?=some (some (.own o')))(k:o.from o'):After K B H a o o' H'/\∀b,B b\/o'.adr a b->zof B γ' σ' b:=by
 obtain⟨v,h1,a',rfl,h2,h3⟩:=e.slot 0 _ h;have ea:=O.from_at k ho h3;subst ea;have hz:∀b,B b\/o'.adr a' b->zof B γ' σ' b:=fun b z=>z.imp id fun z=>⟨0,o',a',h,h1,z⟩;refine⟨⟨e.same,O.from_adr k,fun b hb=>?_,h3.mono (Uk (Same.refl _) fun b _ _ z y=>z (hz b y)) fun _ _ _ q=>q⟩,hz⟩
 have:=h2 b hb
 unfold off at this;by_cases q:o.adr a' b
 ·exact .inl q
 ·rw[Yp q]at this;exact .inr this
def O3{c:Pw}{N:List Str}{t:TS}{p:PTS}{vs:List V}{Q:VK}{Ec:XK}{n:Nat}(h:spW mg c K vs H Q Ec)(snd:SndS K mg (fun _=>Ec) t p)(hn:n+1<=N.length)(hp:∀o ss R X,c o ss R X->ss.length=n/\p (Ey o R X) (KI N o ss)):t {nx:=fun _ H'=>Q .non H',rt:=Q} (start N vs) H:=by
 obtain⟨o,a,ss,us,B,R,X,rfl,hB,ho,r,hf,hc,hQ,hX⟩:=h;obtain⟨e,hp⟩:=hp o ss R X hc;have env:=MN (N:=N) hB ho r hf (by rw[e];exact hn);refine snd _ B H _ _ _ _ (fun b z=>?_) env hp ⟨fun σ' γ' H' h1 e1 f1=>?_,fun _ _ _ z=>z.elim,fun σ' γ' c H' h1 e1 f1=>?_,fun _ _ _ z=>z.elim,fun _ _ _ z=>z.elim,fun σ' γ' d v H' h1 e1 f1 rd=>?_⟩
 ·obtain⟨q1,q2⟩:=hB b z;obtain⟨x,hx⟩:=K4 q1;exact⟨x,U7 hx q2⟩
 ·obtain⟨o',q1,q2,q3⟩:=h1;exact hQ o' .non .non H' q3 (FW ho e1 q1 q2).1 .non
 ·obtain⟨o',q1,q2,q3⟩:=h1;exact hX o' c H' q3 (FW ho e1 q1 q2).1
 ·obtain⟨o',q1,q2,q3⟩:=h1;obtain⟨k1,k2⟩:=FW ho e1 q1 q2;exact hQ o' d v H' q3 k1 (Rp.mono (Uk (Same.refl _) fun b _ _ z y=>z (k2 b y)) rd)
def Zbv{c:Pw}{vs:List V}{Q:VK}{Ec:XK}{n:Nat}(h:spW mg c K vs H Q Ec)(hn:∀o ss R X,c o ss R X->ss.length=n):vs.length=n+1:=by
 obtain⟨o,a,ss,us,B,R,X,rfl,_,_,r,_,hc,_⟩:=h;rw[YE,r.len,hn o ss R X hc]
abbrev PTW:=Γ->(Γ->D->Prop)->(Γ->Str->Prop)->Prop
def SndW(K:Za)(mg:Str->Option Value)(E:L2.St->XK)(t:TE)(p:PTW):Prop:=∀(H0:Hp) (B:Addr->Prop) (H:Hp) (σ:L2.St) (γ:Γ) (R:Γ->D->Prop) (X:Γ->Str->Prop) (Q:VK),(∀b,B b->∃o,H0 b=some o)->EnvR K H0 B H σ γ->p γ R X->
 (∀γ' d v H',R γ' d->EnvR K H0 B H' σ γ'->Fr B H σ γ H' σ γ'->Rp K (off (zof B γ' σ) H') d v->Q v H')->(∀γ' c H',X γ' c->EnvR K H0 B H' σ γ'->Fr B H σ γ H' σ γ'->E σ (.ref (ExcR.JP mg c)) none H')->t σ H Q
variable {te:TE}{w:PTW}
def RB(w:PTW)(g:PTG):PTS:=fun R γ=>w γ (fun γ' d=>g (.sh d) γ' R.nx) R.ex
def OP{is:List Nat}{g:TG}{pg:PTG}(hw:SndW K mg E te w)(hg:KP K is g pg):SndS K mg E (tAsg te g) (RB w pg):=by
 intro H0 B H σ γ R D hB env h e;refine hw H0 B H σ γ _ _ _ hB env h (fun γ' d v H1 h1 e1 f1 rd=>?_) fun γ' c H' hc e' f'=>e.ex σ γ' c H' hc e' f';exact hg H0 B H1 H1 σ γ' (.sh d) v _ _ e1 (Same.refl _) rd h1 fun σ2 γ2 h2 e2 f2 _=>e.nx σ2 γ2 H1 h2 e2 (f1.trans f2)
def O7(w:PTW):PTS:=fun R γ=>w γ (fun γ' _=>R.nx γ') R.ex
def P0(hw:SndW K mg E te w):SndS K mg E (S8 te) (O7 w):=by
 intro H0 B H σ γ R D hB env h e;exact hw H0 B H σ γ _ _ _ hB env h (fun γ' d v H1 h1 e1 f1 _=>e.nx σ γ' H1 h1 e1 f1) fun γ' c H' hc e' f'=>e.ex σ γ' c H' hc e' f'
def Zbw(w:PTW):PTS:=fun R γ=>w γ R.rv R.ex
def Kg(hw:SndW K mg E te w):SndS K mg E (tRet te) (Zbw w):=by
 intro H0 B H σ γ R D hB env h e;exact hw H0 B H σ γ _ _ _ hB env h (fun γ' d v H1 h1 e1 f1 rd=>e.rv σ γ' d v H1 h1 e1 f1 rd) fun γ' c H' hc e' f'=>e.ex σ γ' c H' hc e' f'
def MU(a:PTE):PTS:=fun R γ=>a γ (fun s=>match s.shd with|some d=>R.rv γ d|none=>False) (R.ex γ)
def P4{a:PTE}(ha:SndE K mg E te a):SndS K mg E (tRet te) (MU a):=by
 intro H0 B H σ γ R D hB env h e;refine ha H0 B H σ γ _ _ _ env h (fun s v H1 h1 S1 t1=>?_) fun c H' hc S'=>e.ex σ γ c H' hc (env.grow S') (Fr.grow S');split at h1
 ·rename_i d ed;exact e.rv σ γ d v H1 h1 (env.grow S1) (Fr.grow S1) (t1.shd (env.grow S1).same env.zm S1 ed)
 ·exact h1.elim
def LQ{s s':S}(h:s.pass=some s'):s'.flat:=by
 cases s with
 |sh d=>cases h;trivial
 |own o=>cases h;trivial
 |bor d=>unfold S.pass at h;cases q:imm d<;>simp[q]at h<;>subst h<;>trivial
 |tmp d=>
  unfold S.pass at h;cases q:imm d<;>simp[q]at h
  subst h;trivial
 |view o=>cases h
def T8:∀{ss ss':List S},passes ss=some ss'->∀s∈ss',s.flat
 |[],_,h=>by cases h;simp
 |s::r,_,h=>by
  unfold passes at h;split at h
  ·rename_i s1 r1 e1 e2;cases h
   intro x hx;rcases Y2.mp hx with rfl|hx
   ·exact LQ e1
   ·exact T8 e2 x hx
  ·cases h
def TV.pass {s s':S}{v:V}{P W:Addr->Prop}{HB:Hp} (h0:Same H0 H') (hm:∀b,Z b->Mut (H b)) (S1:Same H H') (hb:Same H0 (off P HB)) (hs:Same (off Z H') (off W HB)) (h:TV K Z H0 H H' s v) (e:s.pass=some s'):TV K W (off P HB) HB HB s' v:=by
 have shd:∀d,s.shd=some d->Rp K (off W HB) d v:=fun d ed=>Rp.mono hs (h.shd h0 hm S1 ed);cases s with
 |sh d=>cases e;exact shd _ rfl
 |own o=>cases e;exact shd _ rfl
 |view o=>cases e
 |tmp d=>
  unfold S.pass at e;cases q:imm d with
  |false=>simp[q]at e
  |true=>simp[q]at e;subst e;exact shd d (by unfold S.shd;simp[q])
 |bor d=>
  unfold S.pass at e;cases q:imm d with
  |false=>simp[q]at e;subst e;exact Rp.mono hb h
  |true=>simp[q]at e;subst e;exact shd d (by unfold S.shd;simp[q])
def TVs.pass {P W:Addr->Prop}{HB:Hp} (h0:Same H0 H') (hm:∀b,Z b->Mut (H b)) (S1:Same H H') (hb:Same H0 (off P HB)) (hs:Same (off Z H') (off W HB)):∀{ss ss':List S}{vs:List V},TVs K Z H0 H H' ss vs->passes ss=some ss'->TVs K W (off P HB) HB HB ss' vs
 |_,_,_,.nil,e=>by cases e;exact .nil
 |_,_,_,.cons h r,e=>by
  unfold passes at e;split at e
  ·rename_i s1 r1 e1 e2;cases e
   exact .cons (h.pass h0 hm S1 hb hs e1) (TVs.pass h0 hm S1 hb hs r e2)
  ·cases e
def A0{c:Pw}{i:Nat}{o:O}{a:Addr}{ss ss':List S}{us:List V}{R:Γ->D->Prop}{X:Γ->Str->Prop}{Q:VK}{Ec:XK}(env:EnvR K H0 B H σ γ)(hB:∀b,B b->∃o,H0 b=some o)(S1:Same H H1)(hi:γ[i]?=some (some (.own o)))(ha:σ[i]?=some (some (.ref a)))(t1:TVs K (zof B γ σ) H0 H H1 ss us)(hp:passes ss=some ss')(hc:c o ss' (fun o' d=>R (γ.set i (some (.own o'))) d) (fun o' e=>X (γ.set i (some (.own o'))) e))(q:∀γ' d v H',R γ' d->EnvR K H0 B H' σ γ'->Fr B H σ γ H' σ γ'->Rp K (off (zof B γ' σ) H') d v->Q v H')(qx:∀γ' c H',X γ' c->EnvR K H0 B H' σ γ'->Fr B H σ γ H' σ γ'->Ec (.ref (ExcR.JP mg c)) none H'):spW mg c K (.ref a::us) H1 Q Ec:=by
 have env1:=env.grow S1;obtain⟨v,h1,a',ev,h3,h4⟩:=env1.slot i _ hi;rw[ha]at h1;cases h1
 cases ev
 have za:∀b,o.adr a b->zof B γ σ b:=fun b hb=>.inr ⟨i,o,a,hi,ha,hb⟩
 have aft:∀o' H',After K (fun b=>zof B γ σ b/\¬o.adr a b) H1 a o o' H'->EnvR K H0 B H' σ (γ.set i (some (.own o')))/\Fr B H σ γ H' σ (γ.set i (some (.own o')))/\∀b x,H' b=some x->¬((zof B γ σ b/\¬o.adr a b)\/o'.adr a b)->¬zof B (γ.set i (some (.own o'))) σ b:=fun o' H' A=>by
  have hzz:∀b x,H' b=some x->¬((zof B γ σ b/\¬o.adr a b)\/o'.adr a b)->¬zof B (γ.set i (some (.own o'))) σ b:=fun b x _ n z=>by
   rcases z with z|⟨j,fs,a',e1,e2,e3⟩
   ·refine n (.inl ⟨.inl z,fun w=>?_⟩);obtain⟨u,hu⟩:=hB b z;rw[h3 b w]at hu;cases hu
   ·rcases U4 e1 with⟨ej,q,_⟩|⟨nj,q⟩
    ·subst ej;cases q
     rw[ha]at e2;cases e2
     exact n (.inr e3)
    ·exact n (.inl ⟨.inr ⟨j,fs,a',q,e2,e3⟩,fun w=>nj (env.own j i a' a fs o b q hi e2 ha e3 w)⟩)
  obtain⟨k1,k2⟩:=env1.change (o':=o') (H':=H') hi ha (fun b x hx n=>A.same b x (U7 hx n)) (fun b hb=>A.at_.mut b (A.old b hb)) A.new (A.at_.mono (Uk (Same.refl _) fun b x hx z=>hzz b x hx z) fun _ _ _ q=>q);exact⟨k1,(Fr.grow S1).trans k2,hzz⟩
 refine⟨o,a,ss',us,fun b=>zof B γ σ b/\¬o.adr a b,_,_,rfl,fun b hb=>⟨env1.zm b hb.1,hb.2⟩,h4.mono (Uk (Same.refl _) fun b _ _ z y=>z (y.elim (fun y=>y.1) (za b))) fun _ _ _ q=>q,?_,T8 hp,hc,fun o' d v H' hR A rd=>?_,fun o' e H' hX A=>?_⟩
 ·refine t1.pass env1.same env.zm S1 (fun b x hx=>U7 (env1.same b x hx) fun w=>?_) (Uk (Same.refl _) fun b _ _ z y=>z (y.elim (fun y=>y.1) (za b))) hp;rw[h3 b w]at hx;cases hx
 ·obtain⟨k1,k2,k3⟩:=aft o' H' A;exact q _ d v H' hR k1 k2 (Rp.mono (fun b x h=>let ⟨p1,p2⟩:=XD h;U7 p1 (k3 b x p1 p2)) rd)
 ·obtain⟨k1,k2,_⟩:=aft o' H' A;exact qx _ e H' hX k1 k2
def Zfu(i:Nat)(c:Pw)(r:PTA):PTW:=fun γ R X=>match γ[i]? with
 |some (some (.own o))=>r γ (fun ss=>match passes ss with|some ss'=>c o ss' (fun o' d=>R (γ.set i (some (.own o'))) d) (fun o' e=>X (γ.set i (some (.own o'))) e)|none=>False) (X γ)
 |_=>False
def AG(i:Nat)(c:Pw)(r:PTA):PTW:=fun γ R X=>match γ[i]? with
 |some (some (.own o))=>r γ (fun ss=>match passes ss with|some ss'=>c o ss' (fun o' d=>R (γ.set i (some (.own o'))) d) (fun _ _=>False)|none=>False) (X γ)
 |_=>False
def Re(i:Nat){c:Pw}{ta:TA}{r:PTA}(hr:SndA K mg E ta r):SndW K mg E (KO (spW mg c K) [] E0 (UU (tVar i) ta)) (AG i c r):=by
 intro H0 B H σ γ R X Q hB env h q qx;unfold AG at h;split at h
 ·rename_i o hi;obtain⟨v,hv,a,rfl,_,_⟩:=env.slot i _ hi;refine⟨_,hv,hr H0 B H σ γ _ _ _ env h (fun ss us H1 h1 S1 t1=>?_) fun c H' hc S'=>qx γ c H' hc (env.grow S') (Fr.grow S')⟩;show spW mg c K ((V.ref a::us)++[]) H1 Q E0;rw[Wb];split at h1
  ·rename_i ss' ep;exact A0 (X:=fun _ _=>False) env hB S1 hi hv t1 ep h1 q fun _ _ _ z=>z.elim
  ·exact h1.elim
 ·exact h.elim
def fFld(C:Addr)(xs:List Str)(j:Nat):S->(S->Prop)->Prop
 | .view (.ins _ C' xs' cs),R=>C'=C/\xs'=xs/\∃c,cs[j]?=some c/\R (.view (.lst c.2))
 | .bor (.ins C' xs' ds),R=>C'=C/\xs'=xs/\∃d,ds[j]?=some d/\R (arg d)
 |_,_=>False
def pFld(C:Addr)(xs:List Str)(j:Nat)(a:PTE):PTE:=fun γ R X=>a γ (fun s=>fFld C xs j s R) X
def Rp.ins_inv {C:Addr}{xs:List Str}{ds:List D}{v:V} (h:Rp K H (.ins C xs ds) v):∃a dx vs,v=.ref a/\H a=some (.ins C dx (xs.zip vs))/\xs.length=vs.length/\Rps K H ds vs:=by
 cases h with
 |ins h e r=>exact⟨_,_,_,rfl,h,e,r⟩
def FldAt(f:Str)(xs:List Str)(j:Nat):Prop:=∀vs:List V,xs.length=vs.length->(xs.zip vs).lookup f=vs[j]?
def TH{C:Addr}{f:Str}{xs:List Str}(j:Nat){a:PTE}(hc:Cls K C)(hn:NoAttr K C f)(hj:FldAt f xs j)(ha:SndE K mg E te a):SndE K mg E (tFld K te f) (pFld C xs j a):=by
 intro H0 B H σ γ R X Q env p q qx;refine ha H0 B H σ γ _ X _ env p (fun s v H1 h1 S1 t1=>?_) qx;have env1:=env.grow S1;unfold fFld at h1;split at h1
 ·rename_i x C' xs' cs;obtain⟨rfl,rfl,c,ec,hR⟩:=h1;obtain⟨b,rfl,e1,e2,⟨dx,e3⟩,e4,e5⟩:=t1;obtain⟨us,u1,u2⟩:=e4 c (Y7 ec);refine⟨b,_,dx,_,_,rfl,e3,hc,hn,?_,q _ _ H1 hR S1 ⟨c.1,rfl,us,u1,u2⟩⟩;rw[hj _ (by rw[Ym];exact e2),Yt,ec];rfl
 ·rename_i C' xs' ds;obtain⟨rfl,rfl,d,ed,hR⟩:=h1;obtain⟨b,dx,vs,rfl,e1,e2,e3⟩:=Rp.ins_inv (show Rp K H0 (.ins C' xs' ds) v from t1)
  obtain⟨u,hu,ru⟩:=e3.get ed;refine⟨b,_,dx,_,u,rfl,env1.same _ _ e1,hc,hn,by rw[hj _ e2];exact hu,q _ _ H1 hR S1 (argR env1.zm env1.same ru)⟩
 ·exact h1.elim
def CA(C:Addr)(xs:List Str)(c:Pc)(a:PTE)(r:PTA):PTE:=fun γ R X=>a γ (fun s=>match s.d with
 | .ins C' xs' ds=>C'=C/\xs'=xs/\r γ (fun ss=>c (.ins C' xs' ds::ss.map S.d) (fun s=>R s.back) X) X
 |_=>False) X
def NoFld(m:Str)(xs:List Str):Prop:=∀vs:List V,(xs.zip vs).lookup m=none
def CL(C:Addr)(m:Str)(sp:Sp)(E:L2.St->XK)(ta:TE)(t:TA):TE:=fun σ H Q=>ta σ H fun x H1=>∃a dx fs,x=.ref a/\H1 a=some (.ins C dx fs)/\fs.lookup m=none/\t σ H1 fun vs H2=>sp (x::(vs++[])) H2 Q (E σ)
def L4{C:Addr}{m:Str}{xs:List Str}{c:Pc}{ta:TA}{a:PTE}{r:PTA}(hx:NoFld m xs)(ha:SndE K mg E te a)(hr:SndA K mg E ta r):SndE K mg E (CL C m (spOf mg c K) E te ta) (CA C xs c a r):=by
 intro H0 B H σ γ R X Q env p q qx;refine ha H0 B H σ γ _ X _ env p (fun s v H1 h1 S1 t1=>?_) qx;have env1:=env.grow S1;split at h1
 ·rename_i C' xs' ds ed;obtain⟨rfl,rfl,h1⟩:=h1;have rs:=t1.rp env1.same;rw[ed]at rs;obtain⟨b,dx,vs,rfl,e1,e2,e3⟩:=Rp.ins_inv rs;refine⟨b,dx,_,rfl,e1,hx vs,hr H0 B H1 σ γ _ X _ env1 h1 (fun ss us H2 h2 S2 t2=>?_) fun c H' hc S'=>qx c H' hc (S1.trans S')⟩;have env2:=env1.grow S2;rw[Wb];refine⟨_,_,X,Rps.cons (Rp.mono S2 rs) (t2.rps env2.same),h2,fun s v H' hs S3 tv=>q _ _ H' hs ((S1.trans S2).trans S3) (tv.back env2 (S1.trans S2) S3),fun e H' he S3=>qx e H' he ((S1.trans S2).trans S3)⟩
 ·exact h1.elim
def T4{C:Addr}{m:Str}{xs:List Str}{c:Pc}{ta:TA}{a:PTE}{r:PTA}{Ec:XK}(hx:NoFld m xs)(ha:SndE K mg (fun _=>Ec) te a)(hr:SndA K mg (fun _=>Ec) ta r):SndE K mg (fun _=>Ec) (KS C m (spOf mg c K) [] Ec te ta) (CA C xs c a r):=L4 (E:=fun _=>Ec) hx ha hr
def Iu(C:Addr)(xs:List Str)(c:Pc)(a:PTE)(r:PTA):PTE:=fun γ R X=>a γ (fun s=>match s.d with
 | .ins C' xs' ds=>C'=C/\xs'=xs/\r γ (fun ss=>c (.ins C' xs' ds::ss.map S.d) (fun s=>R s.back) fun _=>False) X
 |_=>False) X
def Xf{C:Addr}{m:Str}{xs:List Str}{c:Pc}{ta:TA}{a:PTE}{r:PTA}(hx:NoFld m xs)(ha:SndE K mg E te a)(hr:SndA K mg E ta r):SndE K mg E (KS C m (spOf mg c K) [] E0 te ta) (Iu C xs c a r):=by
 intro H0 B H σ γ R X Q env p q qx;refine ha H0 B H σ γ _ X _ env p (fun s v H1 h1 S1 t1=>?_) qx;have env1:=env.grow S1;split at h1
 ·rename_i C' xs' ds ed;obtain⟨rfl,rfl,h1⟩:=h1;have rs:=t1.rp env1.same;rw[ed]at rs;obtain⟨b,dx,vs,rfl,e1,e2,e3⟩:=Rp.ins_inv rs;refine⟨b,dx,_,rfl,e1,hx vs,hr H0 B H1 σ γ _ X _ env1 h1 (fun ss us H2 h2 S2 t2=>?_) fun c H' hc S'=>qx c H' hc (S1.trans S')⟩;have env2:=env1.grow S2;rw[Wb];exact⟨_,_,_,Rps.cons (Rp.mono S2 rs) (t2.rps env2.same),h2,fun s v H' hs S3 tv=>q _ _ H' hs ((S1.trans S2).trans S3) (tv.back env2 (S1.trans S2) S3),fun _ _ z=>z.elim⟩
 ·exact h1.elim
def FL(i:Nat)(C:Addr)(xs:List Str)(c:Pw)(r:PTA):PTW:=fun γ R X=>match γ[i]? with
 |some (some (.own (.ins x C' xs' cs)))=>C'=C/\xs'=xs/\r γ (fun ss=>match passes ss with|some ss'=>c (.ins x C' xs' cs) ss' (fun o' d=>R (γ.set i (some (.own o'))) d) (fun o' e=>X (γ.set i (some (.own o'))) e)|none=>False) (X γ)
 |_=>False
def Im(i:Nat){C:Addr}{m:Str}{xs:List Str}{c:Pw}{ta:TA}{r:PTA}(hx:NoFld m xs)(hr:SndA K mg E ta r):SndW K mg E (CL C m (spW mg c K) E (tVar i) ta) (FL i C xs c r):=by
 intro H0 B H σ γ R X Q hB env h q qx;unfold FL at h;split at h
 ·rename_i x C' xs' cs hi;obtain⟨rfl,rfl,h⟩:=h;obtain⟨v,hv,a,rfl,_,e1,e2,⟨dx,e3⟩,e4⟩:=env.slot i _ hi;refine⟨_,hv,a,dx,_,rfl,e3,hx _,hr H0 B H σ γ _ _ _ env h (fun ss us H1 h1 S1 t1=>?_) fun c H' hc S'=>qx γ c H' hc (env.grow S') (Fr.grow S')⟩;rw[Wb];split at h1
  ·rename_i ss' ep;exact A0 env hB S1 hi hv t1 ep h1 q qx
  ·exact h1.elim
 ·exact h.elim
def Tq(i:Nat){C:Addr}{m:Str}{xs:List Str}{c:Pw}{ta:TA}{r:PTA}{Ec:XK}(hx:NoFld m xs)(hr:SndA K mg (fun _=>Ec) ta r):SndW K mg (fun _=>Ec) (KS C m (spW mg c K) [] Ec (tVar i) ta) (FL i C xs c r):=Im (E:=fun _=>Ec) i hx hr
def Ht(i:Nat)(C:Addr)(xs:List Str)(c:Pw)(r:PTA):PTW:=fun γ R X=>match γ[i]? with
 |some (some (.own (.ins x C' xs' cs)))=>C'=C/\xs'=xs/\r γ (fun ss=>match passes ss with|some ss'=>c (.ins x C' xs' cs) ss' (fun o' d=>R (γ.set i (some (.own o'))) d) (fun _ _=>False)|none=>False) (X γ)
 |_=>False
def P6(i:Nat){C:Addr}{m:Str}{xs:List Str}{c:Pw}{ta:TA}{r:PTA}(hx:NoFld m xs)(hr:SndA K mg E ta r):SndW K mg E (KS C m (spW mg c K) [] E0 (tVar i) ta) (Ht i C xs c r):=by
 intro H0 B H σ γ R X Q hB env h q qx;unfold Ht at h;split at h
 ·rename_i x C' xs' cs hi;obtain⟨rfl,rfl,h⟩:=h;obtain⟨v,hv,a,rfl,_,e1,e2,⟨dx,e3⟩,e4⟩:=env.slot i _ hi;refine⟨_,hv,a,dx,_,rfl,e3,hx _,hr H0 B H σ γ _ _ _ env h (fun ss us H1 h1 S1 t1=>?_) fun c H' hc S'=>qx γ c H' hc (env.grow S') (Fr.grow S')⟩;rw[Wb];split at h1
  ·rename_i ss' ep;exact A0 (X:=fun _ _=>False) env hB S1 hi hv t1 ep h1 q fun _ _ _ z=>z.elim
  ·exact h1.elim
 ·exact h.elim
def SK{α:Type}:∀{l:List α}{i j:Nat}{x:α},l.Nodup->l[i]?=some x->l[j]?=some x->i=j
 |[],_,_,_,_,h,_=>by simp at h
 |y::r,0,0,_,_,_,_=>rfl
 |y::r,0,j+1,x,hn,h1,h2=>by
  have e:y=x:=by simpa using h1
  exact absurd (e▸Y7 (show r[j]?=some x by simpa using h2)) (YT.mp hn).1
 |y::r,i+1,0,x,hn,h1,h2=>by
  have e:y=x:=by simpa using h2
  exact absurd (e▸Y7 (show r[i]?=some x by simpa using h1)) (YT.mp hn).1
 |y::r,i+1,j+1,x,hn,h1,h2=>YQ (· + 1) (SK (l:=r) (YT.mp hn).2 (by simpa using h1) (by simpa using h2))
def EnvR.cell {i j:Nat}{x C:Addr}{xs:List Str}{cs:List (Addr×List D)}{b:Addr}{ds es:List D}{us:List V} (env:EnvR K H0 B H σ γ) (hi:γ[i]?=some (some (.own (.ins x C xs cs)))) (hj:cs[j]?=some (b,ds)) (r:Rps K (off (zof B γ σ) H) es us) :
  EnvR K H0 B (upd H b (.lst us)) σ (γ.set i (some (.own (.ins x C xs (cs.set j (b,es))))))/\Fr B H σ γ (upd H b (.lst us)) σ (γ.set i (some (.own (.ins x C xs (cs.set j (b,es)))))):=by
 obtain⟨v,hv,a,rfl,e0,e1,e2,⟨dx,e3⟩,e4,e5⟩:=env.slot i _ hi;subst e1;have hjl:j<cs.length:=(YD.mp hj).1;have hbm:(b,ds)∈cs:=Y7 hj
 have hab:a≠b:=fun z=>by
  obtain⟨ws,w1,_⟩:=e4 _ hbm;rw[←show a=b from z,e3]at w1
  cases w1
 have em:(cs.set j (b,es)).map (·.1)=cs.map (·.1):=by
  apply QX;intro k;rw[Yt,Yt,VA];by_cases e:j=k
  ·subst e;rw[Yr rfl,Yr hjl,hj];rfl
  ·rw[Yp e]
 have em2:(cs.set j (b,es)).map (fun c=>V.ref c.1)=cs.map fun c=>V.ref c.1:=by
  have:=YQ (List.map V.ref) em
  rw[YR,YR]at this;exact this
 have adr:∀c,(O.ins a C xs (cs.set j (b,es))).adr a c->(O.ins a C xs cs).adr a c:=fun c hc=>by
  rcases hc with hc|⟨d,hd,hc⟩
  ·exact .inl hc
  ·have:d.1∈(cs.set j (b,es)).map (·.1):=Vz hd
   rw[em]at this;obtain⟨d',q1,q2⟩:=YL.mp this;exact .inr ⟨d',q1,hc.trans q2.symm⟩
 have zb:∀c,(O.ins a C xs cs).adr a c->zof B γ σ c:=fun c hc=>.inr ⟨i,_,a,hi,hv,hc⟩
 have So:Same (off (zof B γ σ) H) (off (zof B (γ.set i (some (.own (.ins a C xs (cs.set j (b,es)))))) σ) (upd H b (.lst us))):=fun c u h=>by
  obtain⟨q1,q2⟩:=XD h;have nb:c≠b:=fun z=>q2 (zb c (.inr ⟨_,hbm,z⟩));refine U7 (by rw[Um nb];exact q1) fun z=>q2 ?_;rcases z with z|⟨k,fs,a',k1,k2,k3⟩
  ·exact .inl z
  ·rcases U4 k1 with⟨ek,q,_⟩|⟨_,q⟩
   ·subst ek;cases q
    rw[hv]at k2;cases k2
    exact zb c (adr c k3)
   ·exact .inr ⟨k,fs,a',q,k2,k3⟩
 refine env.change hi hv (fun c u hu n=>?_) (fun c hc=>?_) (fun c hc=>.inl (adr c hc)) ⟨rfl,by rw[Wo];exact e2,⟨dx,?_⟩,fun c hc=>?_,by rw[em];exact e5⟩
 ·rw[Um fun z=>n (.inr ⟨_,hbm,z⟩)];exact hu
 ·by_cases z:c=b
  ·rw[z,U6];trivial
  ·rw[Um z];exact env.zm c (zb c hc)
 ·rw[Um hab,em2];exact e3
 ·obtain⟨k,hk,ek⟩:=V0 hc;have hk':(cs.set j (b,es))[k]?=some c:=by rw[Yl hk,ek]
  rcases U4 hk' with⟨_,q,_⟩|⟨nk,q⟩
  ·subst q;exact⟨us,U6,Rps.mono So r⟩
  ·obtain⟨ws,w1,w2⟩:=e4 c (Y7 q)
   have nb:c.1≠b:=fun z=>nk (by
    have h1:(cs.map (·.1))[k]?=some b:=by rw[Yt,q];exact YQ some z
    have h2:(cs.map (·.1))[j]?=some b:=by rw[Yt,hj];rfl
    exact SK e5 h1 h2)
   exact⟨ws,by rw[Um nb];exact w1,Rps.mono So w2⟩
def Gf(i j:Nat)(C:Addr)(xs:List Str)(a:PTE):PTW:=fun γ R X=>match γ[i]? with
 |some (some (.own (.ins x C' xs' cs)))=>C'=C/\xs'=xs/\∃c,cs[j]?=some c/\a γ (fun s=>match s.shd with
  |some d=>c.2.length<10000000/\R (γ.set i (some (.own (.ins x C' xs' (cs.set j (c.1,c.2++[d])))))) .non
  |none=>False) (X γ)
 |_=>False
def FD(i j:Nat){C:Addr}{f:Str}{xs:List Str}{a:PTE}(hc:Cls K C)(hn:NoAttr K C f)(hj:FldAt f xs j)(ha:SndE K mg E te a):SndW K mg E (tBM K "list" Fx (tFld K (tVar i) f) (UU te tNil)) (Gf i j C xs a):=by
 intro H0 B H σ γ R X Q hB env h q qx;unfold Gf at h;split at h
 ·rename_i x C' xs' cs hi;obtain⟨rfl,rfl,c,ec,h⟩:=h;obtain⟨v,hv,b,rfl,_,e1,e2,⟨dx,e3⟩,e4,e5⟩:=env.slot i _ hi;obtain⟨us,u1,u2⟩:=e4 c (Y7 ec);refine⟨_,hv,b,_,dx,_,V.ref c.1,rfl,e3,hc,hn,?_,.inl ⟨rfl,us,SqL.of u1⟩,ha H0 B H σ γ _ _ _ env h (fun s u H1 h1 S1 t1=>?_) fun c H' hc S'=>qx γ c H' hc (env.grow S') (Fr.grow S')⟩
  ·rw[hj _ (by rw[Ym];exact e2),Yt,ec];rfl
  ·have env1:=env.grow S1;split at h1
   ·rename_i d ed;have rd:=t1.shd env1.same env.zm S1 ed;refine⟨c.1,us,u,rfl,rfl,S1 _ _ u1,by rw[u2.len];exact Qz h1.1 (by decide),?_⟩;obtain⟨k1,k2⟩:=env1.cell (es:=c.2++[d]) (us:=us++[u]) hi ec (Rps.append (Rps.mono (Uk S1 fun _ _ _ z=>z) u2) (.cons rd .nil));exact q _ _ _ _ h1.2 k1 ((Fr.grow S1).trans k2) .non
   ·exact h1.elim
 ·exact h.elim
def Dw(i j:Nat)(C:Addr)(xs:List Str):PTW:=fun γ R _=>match γ[i]? with
 |some (some (.own (.ins x C' xs' cs)))=>C'=C/\xs'=xs/\∃c d,cs[j]?=some c/\c.2[c.2.length-1]?=some d/\R (γ.set i (some (.own (.ins x C' xs' (cs.set j (c.1,c.2.dropLast)))))) d
 |_=>False
def Rps.dropLast:∀{ds:List D}{vs:List V},Rps K H ds vs->Rps K H ds.dropLast vs.dropLast
 |_,_,.nil=>.nil
 |_,_,.cons _ .nil=>.nil
 |_,_,.cons h (.cons h' r)=>.cons h (Rps.dropLast (.cons h' r))
def Au(i j:Nat){C:Addr}{f:Str}{xs:List Str}(hc:Cls K C)(hn:NoAttr K C f)(hj:FldAt f xs j):SndW K mg E (tBM0 K "list" rPop (tFld K (tVar i) f)) (Dw i j C xs):=by
 intro H0 B H σ γ R X Q hB env h q qx;unfold Dw at h;split at h
 ·rename_i x C' xs' cs hi;obtain⟨rfl,rfl,c,d,ec,ed,h⟩:=h;obtain⟨v,hv,b,rfl,_,e1,e2,⟨dx,e3⟩,e4,e5⟩:=env.slot i _ hi;obtain⟨us,u1,u2⟩:=e4 c (Y7 ec);obtain⟨u,hu,ru⟩:=u2.get ed;refine⟨_,hv,b,_,dx,_,V.ref c.1,rfl,e3,hc,hn,?_,.inl ⟨rfl,us,SqL.of u1⟩,c.1,us,u,rfl,rfl,u1,by rw[u2.len];exact hu,?_⟩
  ·rw[hj _ (by rw[Ym];exact e2),Yt,ec];rfl
  ·obtain⟨k1,k2⟩:=env.cell (es:=c.2.dropLast) (us:=us.dropLast) hi ec (Rps.dropLast u2);exact q _ _ _ _ h k1 k2 (Rp.mono k2.off ru)
 ·exact h.elim
def PutAt(f:Str)(xs:List Str):Prop:=∀(vs:List V) (y:V),xs.length=vs.length->putF f y (xs.zip vs)=(xs++[f]).zip (vs++[y])
def Ia(i:Nat)(C:Addr)(f:Str)(xs:List Str)(a:PTE):PTS:=fun R γ=>a γ (fun s=>match s with
 | .own (.lst ds)=>(match γ[i]? with
  |some (some (.own (.ins x C' xs' cs)))=>C'=C/\xs'=xs/\xs.length<1000/\∀b,R.nx (γ.set i (some (.own (.ins x C' (xs++[f]) (cs++[(b,ds)])))))
  |_=>False)
 |_=>False) (R.ex γ)
def Ae(i:Nat){C:Addr}{f:Str}{xs:List Str}{a:PTE}(hc:Cls K C)(hn:NoAttr K C f)(hp:PutAt f xs)(ha:SndE K mg E te a):SndS K mg E (sFld K (tVar i) te f) (Ia i C f xs a):=by
 intro H0 B H σ γ R D hB env h e;refine ha H0 B H σ γ _ _ _ env h (fun s v H1 h1 S1 t1=>?_) fun c H' hc S'=>e.ex σ γ c H' hc (env.grow S') (Fr.grow S');have env1:=env.grow S1;split at h1
 ·rename_i ds;split at h1
  ·rename_i x C' xs' cs hi;obtain⟨rfl,rfl,hl,h1⟩:=h1;obtain⟨u,hv,b,rfl,e0,e1,e2,⟨dx,e3⟩,e4,e5⟩:=env.slot i _ hi;subst e1;obtain⟨l,rfl,l0,vs,l1,l2⟩:=t1;have l0:H l=none:=l0 l rfl;have na:b≠l:=X6 e3 l0;refine⟨_,hv,b,_,dx,_,rfl,S1 _ _ e3,hc,hn,?_,?_⟩
   ·rw[List.length_zip,Ym];omega
   ·rw[hp _ _ (by rw[Ym];exact e2)]
    have nl:∀c∈cs,c.1≠l:=fun c hc=>by
     obtain⟨ws,w1,_⟩:=e4 c hc;exact X6 w1 l0
    have nb:∀c∈cs,c.1≠b:=fun c hc z=>by
     obtain⟨ws,w1,_⟩:=e4 c hc;rw[z,e3]at w1;cases w1
    have zb:∀c,(O.ins b C' xs' cs).adr b c->zof B γ σ c:=fun c hc=>.inr ⟨i,_,b,hi,hv,hc⟩
    have key:∀c u,H1 c=some u->¬(zof B γ σ c\/c=l)->¬zof B (γ.set i (some (.own (.ins b C' (xs'++[f]) (cs++[(l,ds)]))))) σ c:=fun c u _ n z=>by
     rcases z with z|⟨k,fs,a',k1,k2,k3⟩
     ·exact n (.inl (.inl z))
     ·rcases U4 k1 with⟨ek,q,_⟩|⟨_,q⟩
      ·subst ek;cases q
       rw[hv]at k2;cases k2
       rcases k3 with k3|⟨d,hd,k3⟩
       ·exact n (.inl (zb c (.inl k3)))
       ·rcases YG.mp hd with hd|hd
        ·exact n (.inl (zb c (.inr ⟨d,hd,k3⟩)))
        ·rw[Yx]at hd;subst hd;exact n (.inr k3)
      ·exact n (.inl (.inr ⟨k,fs,a',q,k2,k3⟩))
    have So:Same (off (fun c=>zof B γ σ c\/c=l) H1) (off (zof B (γ.set i (some (.own (.ins b C' (xs'++[f]) (cs++[(l,ds)]))))) σ) (upd H1 b (.ins C' dx ((xs'++[f]).zip ((cs.map fun c=>V.ref c.1)++[.ref l]))))):=fun c u h=>by
     obtain⟨q1,q2⟩:=XD h;exact U7 (by rw[Um fun z=>q2 (.inl (zb c (.inl z)))];exact q1) (key c u q1 q2)
    have S0:Same (off (zof B γ σ) H) (off (fun c=>zof B γ σ c\/c=l) H1):=Uk S1 fun c u hc z y=>y.elim z fun y=>by rw[y,l0]at hc;cases hc
    obtain⟨k1,k2⟩:=env.change (o':=.ins b C' (xs'++[f]) (cs++[(l,ds)])) (H':=upd H1 b (.ins C' dx ((xs'++[f]).zip ((cs.map fun c=>V.ref c.1)++[.ref l])))) hi hv
     (fun c u hu n=>by rw[Um fun z=>n (.inl z)];exact S1 _ _ hu)
     (fun c hc=>by
      by_cases z:c=b
      ·rw[z,U6];trivial
      ·rw[Um z];exact env1.zm c (zb c hc))
     (fun c hc=>by
      rcases hc with hc|⟨d,hd,hc⟩
      ·exact .inl (.inl hc)
      ·rcases YG.mp hd with hd|hd
       ·exact .inl (.inr ⟨d,hd,hc⟩)
       ·rw[Yx]at hd;subst hd;exact .inr (by rw[show c=l from hc];exact l0))
     ⟨rfl,by rw[Yw,Yw,e2];rfl,⟨dx,by rw[U6,Y8];rfl⟩,fun c hc=>by
      rcases YG.mp hc with hc|hc
      ·obtain⟨ws,w1,w2⟩:=e4 c hc;exact⟨ws,by rw[Um (nb c hc)];exact S1 _ _ w1,Rps.mono So (Rps.mono S0 w2)⟩
      ·rw[Yx]at hc;subst hc;exact⟨vs,by rw[Um (fun z=>na z.symm)];exact l1,Rps.mono So l2⟩,by
      rw[Y8,Wt]
      exact⟨e5,by simp,fun c hc d hd z=>by
       obtain⟨c',q1,q2⟩:=YL.mp hc
       have:d=l:=by simpa using hd
       exact nl c' q1 (q2.trans (z.trans this))⟩⟩
    exact e.nx _ _ _ (h1 l) k1 k2
  ·exact h1.elim
 ·exact h1.elim
def HJ{C:Addr}{c:Pw}{ss ss':List S}{us:List V}{R:S->Prop}{X:XR}{Q:VK}{Ec:XK}(env:EnvR K H0 B H σ γ)(S1:Same H H1)(t1:TVs K (zof B γ σ) H0 H H1 ss us)(ep:passes ss=some ss')(h1:∀x,c (.ins x C [] []) ss' (fun o' d=>d=.non/\R (.own o')) (fun _ e=>X e))(q:∀s v H',R s->Same H H'->TV K (zof B γ σ) H0 H H' s v->Q v H')(qx:∀c H',X c->Same H H'->Ec (.ref (ExcR.JP mg c)) none H') :
  ∀x dx,H1 x=none->H1 dx=none->dx≠x->spW mg c K (.ref x::us) (upd (upd H1 dx (.own x)) x (.ins C dx [])) (fun v H2=>v=.non/\Q (.ref x) H2) Ec:=by
 have env1:=env.grow S1;intro x dx nx ndx nex
 have S2:Same H1 (upd (upd H1 dx (.own x)) x (.ins C dx [])):=fun b o e=>by
  rw[Um (X6 e nx),Um (X6 e ndx)];exact e
 have aft:∀o' H',After K (zof B γ σ) (upd (upd H1 dx (.own x)) x (.ins C dx [])) x (.ins x C [] []) o' H'->Same H1 H'/\∀b,o'.adr x b->H b=none:=fun o' H' A=>by
  refine⟨fun b o e=>A.same b o (U7 (S2 b o e) fun z=>?_),fun b hb=>?_⟩
  ·rcases z with z|⟨c,hc,_⟩
   ·rw[z,nx]at e;cases e
   ·cases hc
  ·rcases A.new b hb with(z|⟨c,hc,_⟩)|z
   ·rw[z];exact S1.free nx
   ·cases hc
   ·exact S1.free (S2.free z)
 refine⟨.ins x C [] [],x,ss',us,zof B γ σ,_,_,rfl,fun b hb=>⟨Ki S2 (env1.zm b hb),fun z=>?_⟩,⟨rfl,rfl,⟨dx,U6⟩,(fun c hc=>by cases hc),Qf⟩,?_,T8 ep,h1 x,fun o' d v H' hR A rd=>?_,fun o' e H' hX A=>?_⟩
 ·rcases z with z|⟨c,hc,_⟩
  ·have:=env1.zm b hb
   rw[z,nx]at this;exact this
  ·cases hc
 ·refine t1.pass env1.same env.zm S1 (fun b o e=>U7 (S2 _ _ (env1.same b o e)) fun z=>?_) (Uk S2 fun b o e z y=>?_) ep
  ·rcases z with z|⟨c,hc,_⟩
   ·rw[z,(env1.same).free nx]at e;cases e
   ·cases hc
  ·rcases y with y|y|⟨c,hc,_⟩
   ·exact z y
   ·rw[y,nx]at e;cases e
   ·cases hc
 ·obtain⟨rfl,hR⟩:=hR;obtain⟨k1,k2⟩:=aft o' H' A;exact⟨Rp.non_inv rd,q _ _ H' hR (S1.trans k1) ⟨x,rfl,k2,A.at_⟩⟩
 ·exact qx e H' hX (S1.trans (aft o' H' A).1)
def OG(C:Addr)(c:Pw)(r:PTA):PTE:=fun γ R X=>r γ (fun ss=>match passes ss with|some ss'=>∀x,c (.ins x C [] []) ss' (fun o' d=>d=.non/\R (.own o')) (fun _ _=>False)|none=>False) X
def O0{C:Addr}{c:Pw}{ta:TA}{r:PTA}(hr:SndA K mg E ta r):SndE K mg E (Bj C (spW mg c K) [] E0 ta) (OG C c r):=by
 intro H0 B H σ γ R X Q env p q qx;refine hr H0 B H σ γ _ X _ env p (fun ss us H1 h1 S1 t1=>?_) qx;split at h1
 ·rename_i ss' ep;rw[Wb];exact HJ (X:=fun _=>False) env S1 t1 ep h1 q fun _ _ z=>z.elim
 ·exact h1.elim
end
def len1{α:Type}{us:List α}(h:us.length=1):∃a,us=[a]:=List.length_eq_one_iff.mp h
def len2{α:Type}{us:List α}(h:us.length=2):∃a b,us=[a,b]:=by
 cases us with
 |nil=>cases h
 |cons a r=>obtain⟨b,rfl⟩:=len1 (us:=r) (by simpa using h);exact⟨a,b,rfl⟩
def len3{α:Type}{us:List α}(h:us.length=3):∃a b c,us=[a,b,c]:=by
 cases us with
 |nil=>cases h
 |cons a r=>obtain⟨b,c,rfl⟩:=len2 (us:=r) (by simpa using h);exact⟨a,b,c,rfl⟩
def len4{α:Type}{us:List α}(h:us.length=4):∃a b c d,us=[a,b,c,d]:=by
 cases us with
 |nil=>cases h
 |cons a r=>obtain⟨b,c,d,rfl⟩:=len3 (us:=r) (by simpa using h);exact⟨a,b,c,d,rfl⟩
def len5{α:Type}{us:List α}(h:us.length=5):∃a b c d e,us=[a,b,c,d,e]:=by
 cases us with
 |nil=>cases h
 |cons a r=>obtain⟨b,c,d,e,rfl⟩:=len4 (us:=r) (by simpa using h);exact⟨a,b,c,d,e,rfl⟩
structure DefM (K:Za) (W:Addr->Prop) (x q:Str) (st:Stmt) (ps:List Str):Prop where
 ex:∃f fd,Fun K x q st f fd/\W f/\Binds K fd ps []
structure CalleeM (P:Program) (w:World) (K:Za) (mg:Str->Option Value) (base:Heap) (CX:CXT) (k:Nat) (W:Addr->Prop) (ps:List Str) (sp:Sp):Prop where
 ex:∃f fd,FnOk P w K mg base CX k f fd ps sp/\W f/\Binds K fd ps []
section
variable {P:Program}{w:World}{K:Za}{mg:Str->Option Value}{base:Heap}{W:Addr->Prop}
def DefM.ok {x q:Str}{st:Stmt}{N ps:List Str}{k:Nat}{sp:Sp} (D:DefM K W x q st ps) (S:FnScope N ps (JR st)) (len:∀vs H Q E,sp vs H Q E->vs.length=ps.length)
  (hbody:∀(f:Addr) (cdv:Value) (A:Around) (outer:List Env) (s:Shared) (H:Hp) (vs:List V) (Q:VK) (E:XK),Room k (A.deeper (envOfC q (JR st) s.heap.objs.size f cdv))->sp vs H Q E->
   ∃t,PSs (cxOf CX0 P w K mg base N q (JR st) f cdv A outer s H E).nox (UZ st) t/\t {nx:=fun _ H'=>Q .non H',rt:=Q} (start N vs) H):CalleeM P w K mg base CX0 (k+1) W ps sp:=by
 obtain⟨f,fd,F,hm,hb⟩:=D.ex;exact⟨f,fd,F.ok S len fun cdv A outer s H vs Q E hr h=>hbody f cdv A outer s H vs Q E hr h,hm,hb⟩
def DefM.okX {x q:Str}{st:Stmt}{N ps:List Str}{k:Nat}{sp:Sp} (D:DefM K W x q st ps) (S:FnScope N ps (JR st)) (len:∀vs H Q E,sp vs H Q E->vs.length=ps.length)
  (hbody:∀(f:Addr) (cdv:Value) (A:Around) (outer:List Env) (s:Shared) (H:Hp) (vs:List V) (Q:VK) (E:XK),Room k (A.deeper (envOfC q (JR st) s.heap.objs.size f cdv))->sp vs H Q E->
   ∃t,PSs (cxOf (ExcR.CXe P w) P w K mg base N q (JR st) f cdv A outer s H E) (UZ st) t/\t {nx:=fun _ H'=>Q .non H',rt:=Q} (start N vs) H):CalleeM P w K mg base (ExcR.CXe P w) (k+1) W ps sp:=by
 obtain⟨f,fd,F,hm,hb⟩:=D.ex;obtain⟨oc,od,kV,doc,pm,an,cdv,ct,osl,rfl,lk,hcd⟩:=F.ex;exact⟨f,_,F4 lk hcd S len fun A outer s H vs Q E hr hsp=>hbody f cdv A outer s H vs Q E hr hsp,hm,hb⟩
def An{X:Cx}:XI (ExcR.CXe P w) X E0:=fun _ _ _ _ _ _ _ h=>by
 obtain⟨a,T,C,H',_,_,z⟩:=h;exact z.elim
end
section
variable {X:Cx}{CX:CXT}{k:Nat}{Cc:Addr}{ps:List Str}{sp:Sp}{E:XK}{ES:L2.St->XK}{x m:Str}{p pos apos:Pos}{e o:Expr}{es:List Expr}{ta:TE}{t:TA}
def Ku{pl:Sem Bool}(C:CalleeM X.prog X.w X.K X.mg X.base CX k (Meth X.K Cc m) ps sp)(c:Cls X.K Cc)(hr:Room k X.A)(hx:XI CX X E)(he:PE X o ta)(ha:PA X (e::es) t)(hst:starEach (e::es) X.env=(false,eval e X.env)::starEach es X.env:=by rfl)(hpl:(backTo pos (starEach es X.env)).any (·.1)=false:=by rfl)
  (ht:eval (.Call (.Attribute o m apos) (e::es) [] pos) X.env=(do
   let ov ←eval o X.env
   standAt apos.atName
   let (f,first) ←holding [ov] (getMethod ov m pl)
   callWith pos f first (backTo pos (starEach (e::es) X.env)) (backToKw pos (keywordEach [] X.env))):=by rfl) :
  PE X (.Call (.Attribute o m apos) (e::es) [] pos) (KS Cc m sp [] E ta t):=by
 obtain⟨f,fd,F,hm,hb⟩:=C.ex;exact Oj he c hm F hr hb .nil hx ha hst hpl ht
def UB{pl:Sem Bool}(C:CalleeM X.prog X.w X.K X.mg X.base CX k (Meth X.K Cc m) ps sp)(c:Cls X.K Cc)(hr:Room k X.A)(hx:XI CX X E)(he:PE X o ta)
  (ht:eval (.Call (.Attribute o m apos) [] [] pos) X.env=(do
   let ov ←eval o X.env
   standAt apos.atName
   let (f,first) ←holding [ov] (getMethod ov m pl)
   callWith pos f first (backTo pos (starEach [] X.env)) (backToKw pos (keywordEach [] X.env))):=by rfl) :
  PE X (.Call (.Attribute o m apos) [] [] pos) (KS Cc m sp [] E ta tNil):=by
 obtain⟨f,fd,F,hm,hb⟩:=C.ex;exact Rg he c hm F hr hb .nil hx ht
def Zfo(C:CalleeM X.prog X.w X.K X.mg X.base CX k (Mk X.K Cc) ps sp)(hm:X.mg x=some (.ref Cc))(hr:Room (k+1) X.A)(hx:XI CX X E)(ha:PA X (e::es) t)(hg:Gl X x:=by rfl)(hdb:(x==("__debug__" : Str))=false:=by decide)(he:starEach (e::es) X.env=(false,eval e X.env)::starEach es X.env:=by rfl)(hpl:(backTo pos (starEach es X.env)).any (·.1)=false:=by rfl) :
  PE X (.Call (.Name x p) (e::es) [] pos) (Bj Cc sp [] E t):=by
 obtain⟨f,fd,F,M,hb⟩:=C.ex;exact M5 M F hr hg hm hb .nil hx ha hdb he hpl
end
abbrev PTF:=Γ->Str->(Str->Prop)->XR->Prop
section
variable {K:Za}{mg:Str->Option Value}{E:L2.St->XK}{t:ExcR.TF}{p:PTF}{te:TE}{a:PTE}
def SndF(K:Za)(mg:Str->Option Value)(E:L2.St->XK)(t:ExcR.TF)(p:PTF):Prop:=∀(H0:Hp) (B:Addr->Prop) (H:Hp) (σ:L2.St) (γ:Γ) (out:Str) (R:Str->Prop) (X:XR) (Q:Str->Hp->Prop),EnvR K H0 B H σ γ->p γ out R X->
 (∀x H',R x->Same H H'->Q x H')->(∀c H',X c->Same H H'->E σ (.ref (ExcR.JP mg c)) none H')->t σ H out Q
def Oz:PTF:=fun _ out R _=>out.length<=sizeLine/\R out
def Pp:SndF K mg E ExcR.fNil Oz:=fun H0 B H σ γ out R X Q env h q _=>⟨h.1,q _ H h.2 (Same.refl _)⟩
def Zbp(x:Str)(p:PTF):PTF:=fun γ out R X=>(out++x).length<=sizeLine/\p γ (out++x) R X
def Kd{x:Str}(h:SndF K mg E t p):SndF K mg E (ExcR.fStr x t) (Zbp x p):=fun H0 B H σ γ out R X Q env hp q qx=>⟨hp.1,h H0 B H σ γ _ R X Q env hp.2 q qx⟩
def Lc(a:PTE)(p:PTF):PTF:=fun γ out R X=>a γ (fun s=>match s.d with
 | .int i=>i.natAbs.log2<1920/\(out++(Str.ofString (toString i))).length<=sizeLine/\p γ (out++Str.ofString (toString i)) R X
 | .str x=>x.length<=sizeLine/\(out++x).length<=sizeLine/\p γ (out++x) R X
 |_=>False) X
def Px(ha:SndE K mg E te a)(h:SndF K mg E t p):SndF K mg E (ExcR.fVal te t) (Lc a p):=fun H0 B H σ γ out R X Q env hp q qx=>by
 refine ha H0 B H σ γ _ X _ env hp (fun s v H1 h1 S1 t1=>?_) qx;have env1:=env.grow S1;have rs:=t1.rp env1.same;split at h1
 ·rename_i i ei;rw[ei]at rs;exact .inl ⟨i,rs.int_inv,h1.1,h1.2.1,h H0 B H1 σ γ _ R X Q env1 h1.2.2 (fun x H' hx S'=>q x H' hx (S1.trans S')) fun c H' hc S'=>qx c H' hc (S1.trans S')⟩
 ·rename_i x ex;rw[ex]at rs;exact .inr ⟨x,rs.str_inv,h1.1,h1.2.1,h H0 B H1 σ γ _ R X Q env1 h1.2.2 (fun x H' hx S'=>q x H' hx (S1.trans S')) fun c H' hc S'=>qx c H' hc (S1.trans S')⟩
 ·exact h1.elim
def pF(p:PTF):PTE:=fun γ R X=>p γ Str.empty (fun x=>R (.sh (.str x))) X
def se_f(h:SndF K mg E t p):SndE K mg E (ExcR.tF t) (pF p):=fun H0 B H σ γ R X Q env hp q qx=>
 h H0 B H σ γ _ _ X _ env hp (fun x H' hx S'=>q _ _ H' hx S' (.str x)) qx
end
open M
abbrev plD(f:List (Int×Int)):D:=.lst (f.map prD)
abbrev dD(q:Str×List Int):D:=.tup (.str q.1::q.2.map D.int)
abbrev vF:List Str:=["book","fields","wished"]
abbrev vO(C x b1 b2 b3:Addr)(bk:List (Str×List Int))(fs ws:List (List (Int×Int))):O:=.ins x C vF [(b1,bk.map dD),(b2,fs.map plD),(b3,ws.map plD)]
abbrev vilD(C:Addr)(bk:List (Str×List Int))(fs ws:List (List (Int×Int))):D:=.ins C vF [.lst (bk.map dD),.lst (fs.map plD),.lst (ws.map plD)]
def PV{α:Type}(f:α->D)(xs:List α)(x:α):atI ((xs++[x]).map f) (-1)=some (f x):=by
 refine KG ?_;unfold atI ixN;rw[Yp (by omega),Yr (by rw[Yw,YO];omega)];show(xs++[x])[_]?=some x;have e:((-1:Int)+((xs++[x]).length:Int)).toNat=xs.length:=by rw[Yw,YO];omega
 rw[e,YK (Yy _),Vu];rfl
def UR(e:Option Str)(X:Str->Prop)(R:Prop):Prop:=match e with|some c=>X c|none=>R
def PM(h:Int):Option Str:=if 1<=h/\h<=10 then none else some "BadHolder"
def KH:List (Int×Int)->Option Str
 |[]=>none
 |q::r=>if ¬(1<=q.1/\q.1<=10)then some "BadHolder" else if ¬(1<=q.2/\q.2<=1000)then some "BadWidth" else KH r
def PB(ps:List (Int×Int)):Option Str:=if 40<ps.length then some "TooManyStrips" else KH ps
def EK:∀{ps:List (Int×Int)},Field ps->KH ps=none
 |[],_=>rfl
 |q::r,h=>by
  obtain⟨h1,h2,h3,h4⟩:=h q YN;unfold KH;rw[Yp (fun z=>z ⟨h1,h2⟩),Yp (fun z=>z ⟨h3,h4⟩)];exact EK fun x hx=>h x (YF _ hx)
def OY{ps:List (Int×Int)}(h:Field ps)(hl:ps.length<=40):PB ps=none:=by
 unfold PB;rw[Yp (by omega)];exact EK h
def N6(ps:List (Int×Int))(p:Int):Option Str:=if p<1\/(ps.length:Int)<p then some "NoStrip" else none
def atP1(ps:List (Int×Int))(p:Int):Int×Int:=ps.getD (p-1).toNat (0,0)
def UT(ps:List (Int×Int))(p h:Int):Option Str:=if p<1\/(ps.length:Int)<p then some "NoStrip" else if ¬(1<=h/\h<=10)then some "BadHolder" else if (atP1 ps p).1=h then some "OwnStrip" else none
def Kt(ps:List (Int×Int))(p h:Int):List (Int×Int):=ps.set (p-1).toNat (h,(atP1 ps p).2)
def EN{ps:List (Int×Int)}{p:Int}{x:Int×Int}(h1:1<=p)(h2:p<=ps.length):cutD (ps.map prD) none (some (p-1))++[prD x]++cutD (ps.map prD) (some p) none=(ps.set (p-1).toNat x).map prD:=by
 rw[Pv,Pv,BX ps (by omega),NS ps (by omega)];have e:p.toNat=(p-1).toNat+1:=by omega
 rw[e,List.set_eq_take_append_cons_drop,Yr (by omega),Y8,Y9,QU];rfl
def K7{ps:List (Int×Int)}{p:Int}(h1:1<=p)(h2:p<=ps.length):atI (ps.map prD) (p-1)=some (prD (atP1 ps p)):=by
 rw[P1 (by omega) (by omega)];unfold atP1;rw[Yo,Yl (show(p-1).toNat<ps.length by omega)];rfl
def Zbk(ps:List (Int×Int))(p h:Int):(Kt ps p h).length=ps.length:=Wo ..
def Zbr{ps:List (Int×Int)}{p h:Int}(hF:Field ps)(e:UT ps p h=none):Field (Kt ps p h):=by
 unfold UT at e;split at e
 ·cases e
 ·split at e
  ·cases e
  ·rename_i c1 c2;have hl:(p-1).toNat<ps.length:=by omega
   intro q hq;unfold Kt at hq;rcases List.mem_or_eq_of_mem_set hq with hq|rfl
   ·exact hF q hq
   ·have:atP1 ps p∈ps:=by
     unfold atP1;rw[Yo,Yl hl];exact YC hl
    obtain⟨_,_,w1,w2⟩:=hF _ this
    have:=Wh.mp c2
    exact⟨this.1,this.2,w1,w2⟩
def IQ(q:Int×Int)(r:List (Int×Int)):KH (q::r)=if ¬(1<=q.1/\q.1<=10)then some ("BadHolder" : Str)else if ¬(1<=q.2/\q.2<=1000)then some ("BadWidth" : Str)else KH r:=rfl
def Nk(ps:List (Int×Int))(p h:Int):List Bool:=if p<1\/(ps.length:Int)<p then[true,true,false,false]else if ¬(1<=h/\h<=10)then[true,false,true,false]else if (atP1 ps p).1=h then[true,false,false,true]else[]
def Zfs(ps:List (Int×Int))(p h:Int):(UT ps p h=some ("NoStrip" : Str)/\Nk ps p h=[true,true,false,false])\/(UT ps p h=some ("BadHolder" : Str)/\Nk ps p h=[true,false,true,false])\/(UT ps p h=some ("OwnStrip" : Str)/\Nk ps p h=[true,false,false,true])\/
  (UT ps p h=none/\Nk ps p h=[]/\1<=p/\p<=ps.length):=by
 unfold UT Nk;by_cases c:p<1\/(ps.length:Int)<p
 ·rw[Yr c,Yr c];exact .inl ⟨rfl,rfl⟩
 ·rw[Yp c,Yp c];by_cases c2:1<=h/\h<=10
  ·rw[Yp (Wh.mpr c2),Yp (Wh.mpr c2)];by_cases c3:(atP1 ps p).1=h
   ·rw[Yr c3,Yr c3];exact .inr (.inr (.inl ⟨rfl,rfl⟩))
   ·rw[Yp c3,Yp c3];exact .inr (.inr (.inr ⟨rfl,rfl,by omega,by omega⟩))
  ·rw[Yr c2,Yr c2];exact .inr (.inl ⟨rfl,rfl⟩)
def UQ(ps:List (Int×Int))(p w:Int):Option Str:=if p<1\/(ps.length:Int)<p then some "NoStrip" else if w<1\/(atP1 ps p).2<=w then some "BadPart" else if 40<=ps.length then some "TooManyStrips" else none
def XJ(ps:List (Int×Int))(p w:Int):List (Int×Int):=ps.take (p-1).toNat++[((atP1 ps p).1,w),((atP1 ps p).1,(atP1 ps p).2-w)]++ps.drop p.toNat
def Ng(ps:List (Int×Int))(p w:Int):List Bool:=if p<1\/(ps.length:Int)<p then[true,true,false,false]else if w<1\/(atP1 ps p).2<=w then[true,false,true,false]else if 40<=ps.length then[true,false,false,true]else[]
def Iw(ps:List (Int×Int))(p w:Int):(UQ ps p w=some ("NoStrip" : Str)/\Ng ps p w=[true,true,false,false])\/(UQ ps p w=some ("BadPart" : Str)/\Ng ps p w=[true,false,true,false])\/(UQ ps p w=some ("TooManyStrips" : Str)/\Ng ps p w=[true,false,false,true])\/
  (UQ ps p w=none/\Ng ps p w=[]/\1<=p/\p<=ps.length/\1<=w/\w<(atP1 ps p).2/\ps.length<40):=by
 unfold UQ Ng;by_cases c:p<1\/(ps.length:Int)<p
 ·rw[Yr c,Yr c];exact .inl ⟨rfl,rfl⟩
 ·rw[Yp c,Yp c];by_cases c2:w<1\/(atP1 ps p).2<=w
  ·rw[Yr c2,Yr c2];exact .inr (.inl ⟨rfl,rfl⟩)
  ·rw[Yp c2,Yp c2];by_cases c3:40<=ps.length
   ·rw[Yr c3,Yr c3];exact .inr (.inr (.inl ⟨rfl,rfl⟩))
   ·rw[Yp c3,Yp c3];exact .inr (.inr (.inr ⟨rfl,rfl,by omega,by omega,by omega,by omega,by omega⟩))
def Sy{ps:List (Int×Int)}{p:Int}(h1:1<=p)(h2:p<=ps.length):atP1 ps p∈ps:=by
 have hl:(p-1).toNat<ps.length:=by omega
 unfold atP1;rw[Yo,Yl hl];exact YC hl
def Ez{ps:List (Int×Int)}{p w:Int}(h1:1<=p):cutD (ps.map prD) none (some (p-1))++[prD ((atP1 ps p).1,w),prD ((atP1 ps p).1,(atP1 ps p).2-w)]++cutD (ps.map prD) (some p) none=(XJ ps p w).map prD:=by
 rw[Pv,Pv,BX ps (by omega),NS ps (by omega)];unfold XJ;rw[Y8,Y8];rfl
def OB{ps:List (Int×Int)}{p w:Int}(h1:1<=p)(h2:p<=ps.length):(XJ ps p w).length=ps.length+1:=by
 unfold XJ;rw[Yw,Yw,Wj,Vd];simp;omega
def RY{ps:List (Int×Int)}{p w:Int}(hF:Field ps)(h1:1<=p)(h2:p<=ps.length)(h3:1<=w)(h4:w<(atP1 ps p).2):Field (XJ ps p w):=by
 obtain⟨a1,a2,a3,a4⟩:=hF _ (Sy h1 h2);intro q hq;unfold XJ at hq;rcases YG.mp hq with hq|hq
 ·rcases YG.mp hq with hq|hq
  ·exact hF q (Vt hq)
  ·rcases Y2.mp hq with rfl|hq
   ·exact⟨a1,a2,h3,by show w<=1000;omega⟩
   ·rw[Yx]at hq;subst hq;exact⟨a1,a2,by show 1<=_-w;omega,by show _-w<=1000;omega⟩
 ·exact hF q (List.mem_of_mem_drop hq)
def UM(ws:List (Int×Int))(a b:Int):Option Str:=if ¬(1<=a/\a<=10)then some "BadHolder" else if ¬(1<=b/\b<=10)then some "BadHolder" else if a=b then some "LikeHolders" else if (a,b)∈ws then some "WishStands" else if 20<=ws.length then some "TooManyWishes" else none
def UN(ws:List (Int×Int))(a b:Int):Option Str:=if (a,b)∈ws then none else some "NoWish"
def Kn(ws:List (Int×Int))(a b:Int):List (Int×Int):=ws.filter fun q=>!decide (q=(a,b))
def uniE(ps:List (Int×Int))(p:Int):Option Str:=if p<1\/(ps.length:Int)<=p then some "NoStrip" else if ¬(atP1 ps p).1=(atP1 ps (p+1)).1 then some "UnlikeHolders" else if 1000<(atP1 ps p).2+(atP1 ps (p+1)).2 then some "TooWide" else none
def uniL(ps:List (Int×Int))(p:Int):List (Int×Int):=ps.take (p-1).toNat++[((atP1 ps p).1,(atP1 ps p).2+(atP1 ps (p+1)).2)]++ps.drop (p+1).toNat
def Co{ps:List (Int×Int)}{p:Int}(h1:1<=p):cutD (ps.map prD) none (some (p-1))++[prD ((atP1 ps p).1,(atP1 ps p).2+(atP1 ps (p+1)).2)]++cutD (ps.map prD) (some (p+1)) none=(uniL ps p).map prD:=by
 rw[Pv,Pv,BX ps (by omega),NS ps (by omega)];unfold uniL;rw[Y8,Y8];rfl
def Mj{ps:List (Int×Int)}{p:Int}(h1:1<=p)(h2:p<ps.length):(uniL ps p).length+1=ps.length:=by
 unfold uniL;rw[Yw,Yw,Wj,Vd];simp;omega
def Zbo{ps:List (Int×Int)}{p:Int}(hF:Field ps)(e:uniE ps p=none):Field (uniL ps p):=by
 unfold uniE at e;split at e
 ·cases e
 split at e
 ·cases e
 split at e
 ·cases e
 rename_i c1 c2 c3;obtain⟨a1,a2,a3,a4⟩:=hF _ (Sy (ps:=ps) (p:=p) (by omega) (by omega));obtain⟨b1,b2,b3,b4⟩:=hF _ (Sy (ps:=ps) (p:=p+1) (by omega) (by omega));intro q hq;unfold uniL at hq;rcases YG.mp hq with hq|hq
 ·rcases YG.mp hq with hq|hq
  ·exact hF q (Vt hq)
  ·rw[Yx]at hq;subst hq;exact⟨a1,a2,by show 1<=_+_;omega,by show _+_<=1000;omega⟩
 ·exact hF q (List.mem_of_mem_drop hq)
def Mc{ws:List (Int×Int)}{a b:Int}(h:Ks ws)(e:UM ws a b=none):Ks (ws++[(a,b)]):=by
 unfold UM at e;split at e
 ·cases e
 split at e
 ·cases e
 split at e
 ·cases e
 split at e
 ·cases e
 split at e
 ·cases e
 rename_i c1 c2 c3 c4 c5;obtain⟨h1,h2,h3⟩:=h;have k1:=Wh.mp c1;have k2:=Wh.mp c2;refine⟨by rw[Yw,YO];omega,?_,fun q hq=>?_⟩
 ·rw[Wt];exact⟨h2,by simp,fun x hx y hy z=>by rw[Yx]at hy;subst hy;exact c4 (z▸hx)⟩
 ·rcases YG.mp hq with hq|hq
  ·exact h3 q hq
  ·rw[Yx]at hq;subst hq;exact⟨⟨k1.1,k1.2,k2.1,k2.2⟩,c3⟩
def MK{ws:List (Int×Int)}{a b:Int}(h:Ks ws):Ks (Kn ws a b):=
 ⟨Y4 (YZ _ _) h.1,h.2.1.filter _,fun q hq=>h.2.2 q (Y3.mp hq).1⟩
def RP:Ks []:=⟨by decide,Qf,fun q hq=>by cases hq⟩
def Zck(m:List Int)(k:Int):Int:=1+(k*m.getD 1 0+m.getD 2 0) % 10
def uniK(ps:List (Int×Int))(p:Int):List Bool:=if p<1\/(ps.length:Int)<=p then[true,true,false,false]else if ¬(atP1 ps p).1=(atP1 ps (p+1)).1 then[true,false,true,false]else if 1000<(atP1 ps p).2+(atP1 ps (p+1)).2 then[true,false,false,true]else[]
def M9(ps:List (Int×Int))(p:Int):(uniE ps p=some ("NoStrip" : Str)/\uniK ps p=[true,true,false,false])\/(uniE ps p=some ("UnlikeHolders" : Str)/\uniK ps p=[true,false,true,false])\/(uniE ps p=some ("TooWide" : Str)/\uniK ps p=[true,false,false,true])\/
  (uniE ps p=none/\uniK ps p=[]/\1<=p/\p<ps.length):=by
 unfold uniE uniK;by_cases c:p<1\/(ps.length:Int)<=p
 ·rw[Yr c,Yr c];exact .inl ⟨rfl,rfl⟩
 ·rw[Yp c,Yp c];by_cases c2:(atP1 ps p).1=(atP1 ps (p+1)).1
  ·rw[Yp (Wh.mpr c2),Yp (Wh.mpr c2)];by_cases c3:1000<(atP1 ps p).2+(atP1 ps (p+1)).2
   ·rw[Yr c3,Yr c3];exact .inr (.inr (.inl ⟨rfl,rfl⟩))
   ·rw[Yp c3,Yp c3];exact .inr (.inr (.inr ⟨rfl,rfl,by omega,by omega⟩))
  ·rw[Yr c2,Yr c2];exact .inr (.inl ⟨rfl,rfl⟩)
def MM{ps:List (Int×Int)}{p:Int}(h1:1<=p)(h2:p<ps.length):atI (ps.map prD) p=some (prD (atP1 ps (p+1))):=by
 have:=K7 (ps:=ps) (p:=p+1) (by omega) (by omega)
 rwa[show p+1-1=p by omega]at this
abbrev d3(k:Str)(a b:Int):D:=.tup [.str k,.int a,.int b]
end Pu
namespace M
open PySem PySem.Spec PyProof.Rows L2 Own Pu
def O5(c:Int->Int->Int):∀o:List Int,oc c o.reverse=oc (fun x y=>c y x) o
 |[]=>rfl
 |a::r=>by
  rw[List.reverse_cons,NF,O5 c r,Kk (List.reverse_perm r)];simp only[oc];omega
def AL(ps:List (Int×Int)):∀o:List Int,oc (fun x y=>pcM ps x y ps.length) o=ordM ps ps.length o
 |[]=>rfl
 |a::r=>by
  unfold oc ordM;rw[AL ps r]
def Zfb{ps:List (Int×Int)}{o:List Int}(hF:Field ps)(h:o.Perm (Uh ps)):oc (fun x y=>pcM ps x y ps.length) o=priM ps o ps.length:=by
 rw[AL];refine Gp (h.nodup_iff.mpr ((KB ps).imp (fun h=>QK h))) ps.length fun j hj=>?_;rw[Yo,Yl hj];exact h.mem_iff.mpr ((N3 hF).mpr (YL.mpr ⟨_,YC hj,rfl⟩))
def Zde{ps:List (Int×Int)}{o:List Int}(hF:Field ps)(h:o.Perm (Uh ps)):∀p∈ps,p.1∈o:=fun p hp=>h.mem_iff.mpr ((N3 hF).mpr (YL.mpr ⟨p,hp,rfl⟩))
end M
namespace Pu
open PySem PySem.Spec PyProof.Rows L2 Own
section
variable {K:Za}{mg:Str->Option Value}{E:L2.St->XK}
def rNeT(K:Za):R2:=fun x y H Q=>∃(p q:Addr) (xs ys:List V),x=.ref p/\y=.ref q/\SqT K H p xs/\SqT K H q ys/\xs.all X2=true/\ys.all X2=true/\Q (.bl (!eqL xs ys)) H
def Ck{X:Cx}(hu:X.A.units<cLine)(hK:X.K=K:=by rfl):OpR X (compareOp .NotEq) (rNeT K):=by
 subst hK;intro pins s σ H x y v u Q I rx ry h;obtain⟨p,q,xs,ys,rfl,rfl,hp,hq,f1,f2,k⟩:=h;obtain rfl:v=Value.ref p:=rx;obtain rfl:u=Value.ref q:=ry;obtain⟨us,r1,p1,_⟩:=I.tuple hp;obtain⟨ws,r2,p2,_⟩:=I.tuple hq;have l1:=r1.length;have l2:=r2.length;refine SeqAt.RcNeAt.tuples p1 p2 hu (fun j h1 h2=>Bs r1 r2 f1 f2 j h1 h2) _ _ _ _ ⟨.bl (!eqL xs ys),H,I,?_,k⟩;show _=Value.bool (!eqL xs ys);unfold eqL;rw[Y0,Y0,←l1,←l2];by_cases e:xs.length=ys.length
 ·rw[Yq e,Qm,←e,Nat.min_self,beq_self_eq_true,Bool.and_true]
 ·rw[YA e,QM,W8.mpr e,QN]
def fNeT:S->S->(S->Prop)->Prop:=fun x y R=>∃xs ys:List Int,x.d=.tup (xs.map D.int)/\y.d=.tup (ys.map D.int)/\R (.sh (.bl (!decide (xs=ys))))
def DW{ta tb:TE}{a b:PTE}(ha:SndE K mg E ta a)(hb:SndE K mg E tb b):SndE K mg E (tOp (rNeT K) ta tb) (p2 a b fNeT):=by
 refine se_2 ha hb fun H0 H H2 Z x y v u R Q s0 s1 hm tx ty h q=>?_;obtain⟨xs,ys,e1,e2,hR⟩:=h;have rx:=tx.rp s0;have ry:=ty.rp s0;rw[e1]at rx;rw[e2]at ry;obtain⟨p,us,rfl,hp,r1⟩:=Rp.tup_inv rx;obtain⟨p',ws,rfl,hp',r2⟩:=Rp.tup_inv ry;rw[r1.ints]at hp;rw[r2.ints]at hp';refine⟨p,p',_,_,rfl,rfl,SqT.of hp,SqT.of hp',KE _,KE _,?_⟩;rw[BG];exact q _ _ H2 hR (Same.refl _) (.bl _)
def Hv:List S->(S->Prop)->Prop
 |[s],R=>(match s.d with | .int i=>R (.sh (.int i)) | .bl k=>R (.sh (.int (if k then 1 else 0)))|_=>False)
 |_,_=>False
def Mt{ta:TA}{r:PTA}(hr:SndA K mg E ta r):SndE K mg E (tCB (fun xs H Q=>(∃i,xs=[.int i]/\Q (.int i) H)\/∃k,xs=[.bl k]/\Q (.int (if k then 1 else 0)) H) ta) (pCB Hv r):=by
 refine XX hr fun H0 H H1 Z ss vs R Q s0 s1 hm tv h q=>?_;unfold Hv at h;split at h
 ·rename_i s;obtain⟨v,rfl,t1⟩:=tv.one_inv;have rv:=t1.rp s0;split at h
  ·rename_i i e;rw[e]at rv;exact .inl ⟨i,by rw[rv.int_inv],q _ _ H1 h (Same.refl _) (.int _)⟩
  ·rename_i k e;rw[e]at rv;exact .inr ⟨k,by rw[rv.bl_inv],q _ _ H1 h (Same.refl _) (.int _)⟩
  ·exact h.elim
 ·exact h.elim
def Zdm(p q:Int×Int):decide ([p.1,p.2]=[q.1,q.2])=decide (p=q):=by
 by_cases h:p=q
 ·rw[h,Yq rfl,Yq rfl]
 ·rw[YA h,YA];intro z;simp only[Qq,and_true]at z;exact h (Prod.ext z.1 z.2)
def IX{p q:Int×Int}{R:S->Prop}(h:R (.sh (.bl (!decide (p=q))))):fNeT (.sh (prD p)) (.sh (prD q)) R:=by
 refine⟨[p.1,p.2],[q.1,q.2],rfl,rfl,?_⟩
 have e:decide ([p.1,p.2]=[q.1,q.2])=decide (p=q):=by
  by_cases h:p=q
  ·rw[h,Yq rfl,Yq rfl]
  ·rw[YA h,YA];intro z;simp only[Qq,and_true]at z;exact h (Prod.ext z.1 z.2)
 rw[e];exact h
end
structure DI (K:Za) (x:Str) (st:Stmt):Prop where
 ex:∃f fd,PySem.W.nsIn K mainGlobals x=some (some (.ref f))/\Fun K x x st f fd
structure MI (K:Za) (C:Addr) (m q:Str) (st:Stmt):Prop where
 ex:∃f fd,PySem.W.findIn K (.ref C) m=some (some (.ref f))/\PySem.W.isFn K (.ref f)=true/\Fun K m q st f fd
section
variable {K:Za}{h:Heap}{mg:Str->Option Value}
def di{x:Str}{st:Stmt}{f:Addr}{oc:Value}{od an:Option Addr}{osl:Array (Option Value)}{kV doc pm cdv ct:Value}(a:PySem.W.nsIn K mainGlobals x=some (some (.ref f)))(l:K.lookup f=some ⟨oc,od,.func (PySem.W.fnOf x x (Ka st) (UZ st) (JR st) .none kV doc pm an cdv ct),osl⟩)(c:PySem.W.codeIn K cdv x=true)(k:PySem.W.keepIn K (.ref f)=true):DI K x st:=⟨f,_,a,FE l c k⟩
def mi{C:Addr}{m q:Str}{st:Stmt}{f:Addr}{oc:Value}{od an:Option Addr}{osl:Array (Option Value)}{kV doc pm cdv ct:Value}(a:PySem.W.findIn K (.ref C) m=some (some (.ref f)))(i:PySem.W.isFn K (.ref f)=true)(l:K.lookup f=some ⟨oc,od,.func (PySem.W.fnOf m q (Ka st) (UZ st) (JR st) .none kV doc pm an cdv ct),osl⟩)(c:PySem.W.codeIn K cdv q=true)(k:PySem.W.keepIn K (.ref f)=true):MI K C m q st:=⟨f,_,a,i,FE l c k⟩
def DI.d {x:Str}{st:Stmt}{ps:List Str} (D:DI K x st) (X:K.In h) (G0:h.Ns mainGlobals mg)
  (b:∀(kV doc pm:Value) (an:Option Addr) (cdv ct:Value) (us:List Value),us.length=ps.length->bindArgs (PySem.W.fnOf x x (Ka st) (UZ st) (JR st) .none kV doc pm an cdv ct) ⟨us,[]⟩=pure (ps.zip us)):Def K mg x st ps:=
 let ⟨_,_,a,F⟩:=D.ex
 ⟨_,_,F,Wu X G0 a,F.binds b⟩
def MI.d {C C':Addr}{m q:Str}{st:Stmt}{ps:List Str} (D:MI K C m q st) (e:C'=C)
  (b:∀(kV doc pm:Value) (an:Option Addr) (cdv ct:Value) (us:List Value),us.length=ps.length->bindArgs (PySem.W.fnOf m q (Ka st) (UZ st) (JR st) .none kV doc pm an cdv ct) ⟨us,[]⟩=pure (ps.zip us)):DefM K (Meth K C' m) m q st ps:=
 let ⟨_,_,a,i,F⟩:=D.ex
 ⟨_,_,F,by rw[e];exact⟨a,i,F.kp⟩,F.binds b⟩
def MI.i {C C':Addr}{q:Str}{st:Stmt}{ps:List Str} (D:MI K C "__init__" q st) (e:C'=C) (mk:PySem.W.makesIn K C=true) (kc:PySem.W.keepIn K (.ref C)=true)
  (b:∀(kV doc pm:Value) (an:Option Addr) (cdv ct:Value) (us:List Value),us.length=ps.length->bindArgs (PySem.W.fnOf "__init__" q (Ka st) (UZ st) (JR st) .none kV doc pm an cdv ct) ⟨us,[]⟩=pure (ps.zip us)):DefM K (Mk K C') "__init__" q st ps:=
 let ⟨_,_,a,i,F⟩:=D.ex
 ⟨_,_,F,by rw[e];exact⟨mk,a,i,kc⟩,F.binds b⟩
end
def fs{N P:List Str}{sc:Scope}(h1:sc.kind=.function:=by rfl)(h2:sc.isCoroutine=false:=by rfl)(h3:sc.isGenerator=false:=by rfl)(h4:N.Nodup:=by decide +kernel)(h5:N.take P.length=P:=by rfl)(h6:∀x∈P,sc.names.lookup x=some .local\/sc.names.lookup x=some .cell:=by decide +kernel)(h7:∀y∈sc.names,y.2≠.free:=by decide +kernel):FnScope N P sc:=⟨h1,h2,h3,h4,h5,h6,h7⟩
def pz{X:Cx}{pos:Pos}{x:Str}{e:Expr}{te:TE}{pos':Pos}(i:Nat)(hN:X.N.Nodup)(he:PE X e te)(hi:X.N[i]?=some x:=by rfl)(hx:Loc X.env.scope x:=by first|exact Or.inl rfl|exact Or.inr rfl)(hs:swapsWith e (some (.Name x pos')) pos.line X.env=pure false:=by rfl)(hf:X.fn x=true\/X.env.scope.names.lookup x=some .local:=by first|exact .inl rfl|exact .inr rfl|assumption) :
  PS X (.Assign [.Name x pos'] e pos) (tAsg te (P8 i)):=Zab hN hi hx he hs hf
section
variable {K:Za}{mg:Str->Option Value}{E:L2.St->XK}{H0 H H1 H':Hp}{B Z Z':Addr->Prop}{σ:L2.St}{γ:Γ}
def EnvR.named {i:Nat}{a:Addr}{ds:List D} (env:EnvR K H0 B H σ γ) (hi:γ[i]?=some (some (.own (.lst ds)))) (ha:σ[i]?=some (some (.ref a))):EnvR K H0 B H σ (γ.set i (some (.own (.lsA a ds))))/\Fr B H σ γ H σ (γ.set i (some (.own (.lsA a ds)))):=by
 obtain⟨v,hv,b,rfl,hb0,us,hb,rb⟩:=env.slot i _ hi;rw[ha]at hv;cases hv
 have hz:∀b,zof B (γ.set i (some (.own (.lsA a ds)))) σ b->zof B γ σ b:=fun b z=>by
  rcases z with z|⟨j,fs,a',e1,e2,e3⟩
  ·exact .inl z
  ·rcases U4 e1 with⟨ej,q,_⟩|⟨_,e⟩
   ·subst ej;cases q
    rw[ha]at e2;cases e2
    exact .inr ⟨j,_,a,hi,ha,e3⟩
   ·exact .inr ⟨j,fs,a',e,e2,e3⟩
 exact env.change (o:=.lst ds) (o':=.lsA a ds) hi ha (fun _ _ h _=>h) (fun b h=>by rw[show b=a from h,hb];trivial) (fun b h=>.inl h) ⟨rfl,us,hb,Rps.mono (Uk (Same.refl _) fun b _ _ z y=>z (hz b y)) rb⟩
def pNm(i:Nat)(p:PTS):PTS:=fun R γ=>match γ[i]? with
 |some (some (.own (.lst ds)))=>∀a,p R (γ.set i (some (.own (.lsA a ds))))
 |_=>p R γ
def Tg(i:Nat){t:TS}{p:PTS}(hp:SndS K mg E t p):SndS K mg E t (pNm i p):=by
 intro H0 B H σ γ R D hB env h e;unfold pNm at h;split at h
 ·rename_i ds hi;obtain⟨v,hv,b,rfl,hb0,us,hb,rb⟩:=env.slot i _ hi;obtain⟨e1,f1⟩:=env.named hi hv;exact hp H0 B H σ _ R D hB e1 (h b) (e.from f1)
 ·exact hp H0 B H σ γ R D hB env h e
def EnvR.change2 {i j:Nat}{a1 a2:Addr}{o1 o1' o2 o2':O} (E:EnvR K H0 B H σ γ) (hij:i≠j) (hi:γ[i]?=some (some (.own o1))) (hj:γ[j]?=some (some (.own o2))) (ha1:σ[i]?=some (some (.ref a1))) (ha2:σ[j]?=some (some (.ref a2)))
  (hH:∀b x,H b=some x->¬o1.adr a1 b->¬o2.adr a2 b->H' b=some x) (hm:∀b,o1.adr a1 b\/o2.adr a2 b->Mut (H' b)) (n1:∀b,o1'.adr a1 b->o1.adr a1 b\/H b=none) (n2:∀b,o2'.adr a2 b->o2.adr a2 b\/H b=none) (ap:∀b,o1'.adr a1 b->¬o2'.adr a2 b)
  (r1:OR K (Pu.off (zof B ((γ.set i (some (.own o1'))).set j (some (.own o2'))) σ) H') H' a1 o1') (r2:OR K (Pu.off (zof B ((γ.set i (some (.own o1'))).set j (some (.own o2'))) σ) H') H' a2 o2') :
  EnvR K H0 B H' σ ((γ.set i (some (.own o1'))).set j (some (.own o2')))/\Fr B H σ γ H' σ ((γ.set i (some (.own o1'))).set j (some (.own o2'))):=by
 generalize eg:(γ.set i (some (S.own o1'))).set j (some (.own o2'))=γ2 at r1 r2 ⊢
 have get:∀(k:Nat) (s:S),γ2[k]?=some (some s)->(k=j/\s=.own o2')\/(k=i/\k≠j/\s=.own o1')\/(k≠i/\k≠j/\γ[k]?=some (some s)):=fun k s h=>by
  rw[←eg]at h;rcases U4 h with⟨e1,e2,_⟩|⟨e1,e2⟩
  ·exact .inl ⟨e1,(Yz e2).symm⟩
  ·rcases U4 e2 with⟨f1,f2,_⟩|⟨f1,f2⟩
   ·exact .inr (.inl ⟨f1,e1,(Yz f2).symm⟩)
   ·exact .inr (.inr ⟨f1,e1,f2⟩)
 obtain⟨v1,q1,x1,rfl,h1,k1⟩:=E.slot i _ hi;rw[ha1]at q1;cases q1
 obtain⟨v2,q2,x2,rfl,h2,k2⟩:=E.slot j _ hj;rw[ha2]at q2;cases q2
 have za:∀b,o1.adr a1 b\/o2.adr a2 b->zof B γ σ b:=fun b hb=>hb.elim (fun hb=>.inr ⟨i,o1,a1,hi,ha1,hb⟩) fun hb=>.inr ⟨j,o2,a2,hj,ha2,hb⟩
 have hz:∀b x,H b=some x->zof B γ2 σ b->zof B γ σ b:=fun b x hx z=>by
  rcases z with z|⟨k,fs,a',e1,e2,e3⟩
  ·exact .inl z
  ·rcases get k _ e1 with⟨ek,es⟩|⟨ek,_,es⟩|⟨_,_,e⟩
   ·subst ek;cases es;rw[ha2]at e2;cases e2;rcases n2 b e3 with w|w
    ·exact za b (.inr w)
    ·rw[w]at hx;cases hx
   ·subst ek;cases es;rw[ha1]at e2;cases e2;rcases n1 b e3 with w|w
    ·exact za b (.inl w)
    ·rw[w]at hx;cases hx
   ·exact .inr ⟨k,fs,a',e,e2,e3⟩
 have hH':∀b x,H b=some x->¬(o1.adr a1 b\/o2.adr a2 b)->H' b=some x:=fun b x hx n=>hH b x hx (fun z=>n (.inl z)) fun z=>n (.inr z)
 have S1:Same (Pu.off (zof B γ σ) H) (Pu.off (zof B γ2 σ) H'):=fun b x h=>by
  obtain⟨q1,q2⟩:=XD h;exact U7 (hH' b x q1 fun k=>q2 (za b k)) fun z=>q2 (hz b x q1 z)
 have old:∀(k:Nat) (ds:O) (a b:Addr),γ[k]?=some (some (.own ds))->σ[k]?=some (some (.ref a))->ds.adr a b->∃o,H b=some o:=fun k ds a b e1 e2 e3=>by
  obtain⟨u,q1,a',q2,_,q3⟩:=E.slot k _ e1;rw[e2]at q1;cases q1
  cases q2
  exact K4 (q3.mut b e3)
 have apart1:∀(k:Nat) (ds:O) (a b:Addr),k≠i->γ[k]?=some (some (.own ds))->σ[k]?=some (some (.ref a))->ds.adr a b->¬o1'.adr a1 b:=fun k ds a b nk e1 e2 e3 w=>by
  rcases n1 b w with w|w
  ·exact nk (E.own k i a a1 ds o1 b e1 hi e2 ha1 e3 w)
  ·obtain⟨u,hu⟩:=old k ds a b e1 e2 e3;rw[w]at hu;cases hu
 have apart2:∀(k:Nat) (ds:O) (a b:Addr),k≠j->γ[k]?=some (some (.own ds))->σ[k]?=some (some (.ref a))->ds.adr a b->¬o2'.adr a2 b:=fun k ds a b nk e1 e2 e3 w=>by
  rcases n2 b w with w|w
  ·exact nk (E.own k j a a2 ds o2 b e1 hj e2 ha2 e3 w)
  ·obtain⟨u,hu⟩:=old k ds a b e1 e2 e3;rw[w]at hu;cases hu
 refine⟨⟨fun b x h=>?_,by rw[←eg,Wo,Wo];exact E.len,fun b hb=>?_,fun k l x x' fs fs' b e1 e2 e3 e4 e5 e6=>?_,fun k s h=>?_⟩,fun b x h z=>⟨?_,fun y=>z (hz b x h y)⟩⟩
 ·exact hH' b x (E.same b x h) fun k=>by
   rcases k with k|k
   ·rw[h1 b k]at h;cases h
   ·rw[h2 b k]at h;cases h
 ·by_cases k:o1.adr a1 b\/o2.adr a2 b
  ·exact hm b k
  ·have:=E.bm b hb
   obtain⟨x,hx⟩:=K4 this;rw[hH' b x hx k,←hx];exact this
 ·rcases get k _ e1 with⟨ek,es⟩|⟨ek,nk,es⟩|⟨nk,nk',e⟩<;>rcases get l _ e2 with⟨el,et⟩|⟨el,nl,et⟩|⟨nl,nl',e'⟩
  ·rw[ek,el]
  ·subst ek el;cases es;cases et;rw[ha2]at e3;cases e3;rw[ha1]at e4;cases e4;exact absurd e5 (ap b e6)
  ·subst ek;cases es;rw[ha2]at e3;cases e3;exact absurd e5 (apart2 l fs' x' b nl' e' e4 e6)
  ·subst ek el;cases es;cases et;rw[ha1]at e3;cases e3;rw[ha2]at e4;cases e4;exact absurd e6 (ap b e5)
  ·rw[ek,el]
  ·subst ek;cases es;rw[ha1]at e3;cases e3;exact absurd e5 (apart1 l fs' x' b nl e' e4 e6)
  ·subst el;cases et;rw[ha2]at e4;cases e4;exact absurd e6 (apart2 k fs x b nk' e e3 e5)
  ·subst el;cases et;rw[ha1]at e4;cases e4;exact absurd e6 (apart1 k fs x b nk e e3 e5)
  ·exact E.own k l x x' fs fs' b e e' e3 e4 e5 e6
 ·rcases get k s h with⟨ek,es⟩|⟨ek,_,es⟩|⟨nk,nk',e⟩
  ·subst ek es;exact⟨_,ha2,a2,rfl,fun b hb=>(n2 b hb).elim (h2 b) fun w=>E.same.free w,r2⟩
  ·subst ek es;exact⟨_,ha1,a1,rfl,fun b hb=>(n1 b hb).elim (h1 b) fun w=>E.same.free w,r1⟩
  ·obtain⟨v,q1,q2⟩:=E.slot k s e;refine⟨v,q1,?_⟩;cases s with
   |bor d=>exact q2
   |sh d=>exact Rp.mono S1 q2
   |own fs=>
    obtain⟨x,rfl,e3,e4⟩:=q2;exact⟨x,rfl,e3,e4.mono S1 fun b hb y e2=>hH b y e2 (fun w=>nk (E.own k i x a1 fs o1 b e hi q1 ha1 hb w)) fun w=>nk' (E.own k j x a2 fs o2 b e hj q1 ha2 hb w)⟩
   |view ds=>exact q2
   |tmp d=>exact q2
 ·exact hH' b x h fun k=>z (za b k)
abbrev Pw2:=O->O->List S->(O->O->D->Prop)->(O->O->Str->Prop)->Prop
def two(o1 o2:O)(a1 a2:Addr):Addr->Prop:=fun b=>o1.adr a1 b\/o2.adr a2 b
structure After2 (K:Za) (B:Addr->Prop) (H:Hp) (a1 a2:Addr) (o1 o2 o1' o2':O) (H':Hp):Prop where
 same:Same (off (two o1 o2 a1 a2) H) H'
 old1:∀b,o1.adr a1 b->o1'.adr a1 b
 old2:∀b,o2.adr a2 b->o2'.adr a2 b
 new1:∀b,o1'.adr a1 b->o1.adr a1 b\/H b=none
 new2:∀b,o2'.adr a2 b->o2.adr a2 b\/H b=none
 apart:∀b,o1'.adr a1 b->¬o2'.adr a2 b
 at1:OR K (off (fun b=>B b\/two o1' o2' a1 a2 b) H') H' a1 o1'
 at2:OR K (off (fun b=>B b\/two o1' o2' a1 a2 b) H') H' a2 o2'
def spW2(mg:Str->Option Value)(c:Pw2)(K:Za):Sp:=fun vs H Q E=>∃(o1 o2:O) (a1 a2:Addr) (ss:List S) (us:List V) (B:Addr->Prop) (R:O->O->D->Prop) (X:O->O->Str->Prop),
 vs=.ref a1 :: .ref a2::us/\(∀b,B b->Mut (H b)/\¬two o1 o2 a1 a2 b)/\(∀b,o1.adr a1 b->¬o2.adr a2 b)/\OR K (off (fun b=>B b\/two o1 o2 a1 a2 b) H) H a1 o1/\OR K (off (fun b=>B b\/two o1 o2 a1 a2 b) H) H a2 o2/\
 TVs K (fun b=>B b\/two o1 o2 a1 a2 b) (off (two o1 o2 a1 a2) H) H H ss us/\(∀s∈ss,s.flat)/\c o1 o2 ss R X/\
 (∀o1' o2' d v H',R o1' o2' d->After2 K B H a1 a2 o1 o2 o1' o2' H'->Rp K (off (fun b=>B b\/two o1' o2' a1 a2 b) H') d v->Q v H')/\∀o1' o2' e H',X o1' o2' e->After2 K B H a1 a2 o1 o2 o1' o2' H'->E (.ref (ExcR.JP mg e)) none H'
def Kh(N:List Str)(o1 o2:O)(ss:List S):Γ:=some (.own o1)::some (.own o2)::(ss.map some++List.replicate (N.length-(ss.length+2)) none)
def Zda{N:List Str}{o1 o2:O}{a1 a2:Addr}{ss:List S}{us:List V}(hB:∀b,B b->Mut (H b)/\¬two o1 o2 a1 a2 b)(ap:∀b,o1.adr a1 b->¬o2.adr a2 b)(ho1:OR K (off (fun b=>B b\/two o1 o2 a1 a2 b) H) H a1 o1)(ho2:OR K (off (fun b=>B b\/two o1 o2 a1 a2 b) H) H a2 o2)(r:TVs K (fun b=>B b\/two o1 o2 a1 a2 b) (off (two o1 o2 a1 a2) H) H H ss us)(hf:∀s∈ss,s.flat)(hn:ss.length+2<=N.length) :
  EnvR K (off (two o1 o2 a1 a2) H) B H (start N (.ref a1 :: .ref a2::us)) (Kh N o1 o2 ss):=by
 have hlen:=r.len
 have get:∀(i:Nat) (s:S),(Kh N o1 o2 ss)[i+2]?=some (some s)->ss[i]?=some s:=fun i s h=>by
  unfold Kh at h;rw[Wf,Wf]at h;by_cases hi:i<ss.length
  ·rw[YI (by rw[Ym];exact hi),Yt,Yl hi]at h;rw[Yl hi];exact YQ some (Yz (Yz h))
  ·rw[YK (by rw[Ym];omega),WL]at h;split at h<;>cases h
 have noown:∀(i:Nat) (es:O),(Kh N o1 o2 ss)[i+2]?≠some (some (.own es)):=fun i es h=>hf _ (Y7 (get i _ h))
 have st0:(start N (V.ref a1::V.ref a2::us))[0]?=some (some (.ref a1)):=by
  unfold L2.start;rfl
 have st1:(start N (V.ref a1::V.ref a2::us))[1]?=some (some (.ref a2)):=by
  unfold L2.start;rfl
 have g0:∀s,(Kh N o1 o2 ss)[0]?=some (some s)->s=.own o1:=fun s h=>by
  have h:some (some (S.own o1))=some (some s):=h;cases h
  rfl
 have g1:∀s,(Kh N o1 o2 ss)[1]?=some (some s)->s=.own o2:=fun s h=>by
  have h:some (some (S.own o2))=some (some s):=h;cases h
  rfl
 have hz:∀b,zof B (Kh N o1 o2 ss) (start N (V.ref a1::V.ref a2::us)) b->B b\/two o1 o2 a1 a2 b:=fun b z=>by
  rcases z with z|⟨i,es,a',h1,h2,h3⟩
  ·exact .inl z
  ·match i,h1,h2 with
   | 0,h1,h2=>
    rw[st0]at h2;cases h2
    cases g0 _ h1
    exact .inr (.inl h3)
   | 1,h1,h2=>
    rw[st1]at h2;cases h2
    cases g1 _ h1
    exact .inr (.inr h3)
   |i+2,h1,_=>exact absurd h1 (noown i es)
 have toz:∀{o:O} {a:Addr},OR K (off (fun b=>B b\/two o1 o2 a1 a2 b) H) H a o->OR K (off (zof B (Kh N o1 o2 ss) (start N (V.ref a1::V.ref a2::us))) H) H a o:=fun h=>h.mono (Uk (Same.refl _) fun b _ _ z y=>z (hz b y)) fun _ _ _ q=>q;refine⟨off_sub,?_,fun b h=>(hB b h).1,fun i j x x' es es' b h1 h2 h3 h4 h5 h6=>?_,fun i s h=>?_⟩
 ·unfold L2.start Kh;simp[hlen]
 ·match i,j,h1,h2,h3,h4 with
  | 0,0,_,_,_,_=>rfl
  | 1,1,_,_,_,_=>rfl
  | 0,1,h1,h2,h3,h4=>
   cases g0 _ h1
   cases g1 _ h2
   rw[st0]at h3;cases h3
   rw[st1]at h4;cases h4
   exact absurd h6 (ap b h5)
  | 1,0,h1,h2,h3,h4=>
   cases g1 _ h1
   cases g0 _ h2
   rw[st1]at h3;cases h3
   rw[st0]at h4;cases h4
   exact absurd h5 (ap b h6)
  |i+2,_,h1,_,_,_=>exact absurd h1 (noown i es)
  | 0,j+2,_,h2,_,_=>exact absurd h2 (noown j es')
  | 1,j+2,_,h2,_,_=>exact absurd h2 (noown j es')
 ·match i,h with
  | 0,h=>
   cases g0 _ h
   refine⟨_,st0,a1,rfl,fun b hb=>?_,toz ho1⟩;unfold off;rw[Yr (.inl hb)]
  | 1,h=>
   cases g1 _ h
   refine⟨_,st1,a2,rfl,fun b hb=>?_,toz ho2⟩;unfold off;rw[Yr (.inr hb)]
  |i+2,h=>
   have hs:=get i s h;obtain⟨v,hv,tv⟩:=r.get hs;refine⟨v,?_,?_⟩
   ·unfold L2.start;rw[YI (by rw[Ym,YE,YE];have:=(YD.mp hv).1;omega),Yt,Wf,Wf,hv];rfl
   ·have:=hf s (Y7 hs)
    cases s with
    |bor d=>exact tv
    |sh d=>exact Rp.mono (Uk (Same.refl _) fun b _ _ z y=>z (hz b y)) tv
    |own _=>exact this.elim
    |view _=>exact this.elim
    |tmp _=>exact this.elim
def Ek(o1 o2:O)(R:O->O->D->Prop)(γ:Γ)(d:D):Prop:=∃o1' o2',γ[0]?=some (some (.own o1'))/\γ[1]?=some (some (.own o2'))/\o1.from o1'/\o2.from o2'/\R o1' o2' d
def Zd8(o1 o2:O)(X:O->O->Str->Prop)(γ:Γ)(e:Str):Prop:=∃o1' o2',γ[0]?=some (some (.own o1'))/\γ[1]?=some (some (.own o2'))/\o1.from o1'/\o2.from o2'/\X o1' o2' e
def E2(o1 o2:O)(R:O->O->D->Prop)(X:O->O->Str->Prop):PEnds:={nx:=fun γ=>Ek o1 o2 R γ .non,rt:=fun _=>False,ex:=Zd8 o1 o2 X,rv:=Ek o1 o2 R}
def Bf{a1 a2:Addr}{o1 o2 o1' o2':O}{σ':L2.St}{γ':Γ}(ho1:OR K (off (fun b=>B b\/two o1 o2 a1 a2 b) H) H a1 o1)(ho2:OR K (off (fun b=>B b\/two o1 o2 a1 a2 b) H) H a2 o2)(e:EnvR K (off (two o1 o2 a1 a2) H) B H' σ' γ')(h1:γ'[0]?=some (some (.own o1')))(h2:γ'[1]?=some (some (.own o2')))(k1:o1.from o1')(k2:o2.from o2') :
  After2 K B H a1 a2 o1 o2 o1' o2' H'/\∀b,B b\/two o1' o2' a1 a2 b->zof B γ' σ' b:=by
 obtain⟨v1,s1,x1,rfl,p1,q1⟩:=e.slot 0 _ h1;obtain rfl:=O.from_at k1 ho1 q1;obtain⟨v2,s2,x2,rfl,p2,q2⟩:=e.slot 1 _ h2;obtain rfl:=O.from_at k2 ho2 q2
 have hz:∀b,B b\/two o1' o2' x1 x2 b->zof B γ' σ' b:=fun b z=>by
  rcases z with z|z|z
  ·exact .inl z
  ·exact .inr ⟨0,o1',x1,h1,s1,z⟩
  ·exact .inr ⟨1,o2',x2,h2,s2,z⟩
 have ap:∀b,o1'.adr x1 b->¬o2'.adr x2 b:=fun b z y=>absurd (e.own 0 1 x1 x2 o1' o2' b h1 h2 s1 s2 z y) (by decide);have fromZ:∀{o:O} {a:Addr},OR K (off (zof B γ' σ') H') H' a o->OR K (off (fun b=>B b\/two o1' o2' x1 x2 b) H') H' a o:=fun h=>h.mono (Uk (Same.refl _) fun b _ _ z y=>z (hz b y)) fun _ _ _ q=>q
 have free:∀b,off (two o1 o2 x1 x2) H b=none->two o1 o2 x1 x2 b\/H b=none:=fun b w=>by
  unfold off at w;by_cases q:two o1 o2 x1 x2 b
  ·exact .inl q
  ·rw[Yp q]at w;exact .inr w
 refine⟨⟨e.same,O.from_adr k1,O.from_adr k2,fun b hb=>?_,fun b hb=>?_,ap,fromZ q1,fromZ q2⟩,hz⟩
 ·rcases free b (p1 b hb)with(w|w)|w
  ·exact .inl w
  ·exact absurd (O.from_adr k2 b w) (ap b hb)
  ·exact .inr w
 ·rcases free b (p2 b hb)with(w|w)|w
  ·exact absurd hb (ap b (O.from_adr k1 b w))
  ·exact .inl w
  ·exact .inr w
def OV{c:Pw2}{N:List Str}{t:TS}{p:PTS}{vs:List V}{Q:VK}{Ec:XK}{n:Nat}(h:spW2 mg c K vs H Q Ec)(snd:SndS K mg (fun _=>Ec) t p)(hn:n+2<=N.length)(hp:∀o1 o2 ss R X,c o1 o2 ss R X->ss.length=n/\p (E2 o1 o2 R X) (Kh N o1 o2 ss)):t {nx:=fun _ H'=>Q .non H',rt:=Q} (start N vs) H:=by
 obtain⟨o1,o2,a1,a2,ss,us,B,R,X,rfl,hB,ap,ho1,ho2,r,hf,hc,hQ,hX⟩:=h;obtain⟨e,hp⟩:=hp o1 o2 ss R X hc;have env:=Zda (N:=N) hB ap ho1 ho2 r hf (by rw[e];exact hn);refine snd _ B H _ _ _ _ (fun b z=>?_) env hp ⟨fun σ' γ' H' h1 e1 f1=>?_,fun _ _ _ z=>z.elim,fun σ' γ' c H' h1 e1 f1=>?_,fun _ _ _ z=>z.elim,fun _ _ _ z=>z.elim,fun σ' γ' d v H' h1 e1 f1 rd=>?_⟩
 ·obtain⟨q1,q2⟩:=hB b z;obtain⟨x,hx⟩:=K4 q1;exact⟨x,U7 hx q2⟩
 ·obtain⟨o1',o2',q1,q2,q3,q4,q5⟩:=h1;exact hQ o1' o2' .non .non H' q5 (Bf ho1 ho2 e1 q1 q2 q3 q4).1 .non
 ·obtain⟨o1',o2',q1,q2,q3,q4,q5⟩:=h1;exact hX o1' o2' c H' q5 (Bf ho1 ho2 e1 q1 q2 q3 q4).1
 ·obtain⟨o1',o2',q1,q2,q3,q4,q5⟩:=h1;obtain⟨k1,k2⟩:=Bf ho1 ho2 e1 q1 q2 q3 q4;exact hQ o1' o2' d v H' q5 k1 (Rp.mono (Uk (Same.refl _) fun b _ _ z y=>z (k2 b y)) rd)
def OI{c:Pw2}{vs:List V}{Q:VK}{Ec:XK}{n:Nat}(h:spW2 mg c K vs H Q Ec)(hn:∀o1 o2 ss R X,c o1 o2 ss R X->ss.length=n):vs.length=n+2:=by
 obtain⟨o1,o2,a1,a2,ss,us,B,R,X,rfl,_,_,_,_,r,_,hc,_⟩:=h;rw[YE,YE,r.len,hn o1 o2 ss R X hc]
def Zdl{c:Pw2}{i j:Nat}{o1 o2:O}{a1 a2:Addr}{ss ss':List S}{us:List V}{R:Γ->D->Prop}{X:Γ->Str->Prop}{Q:VK}{Ec:XK}(env:EnvR K H0 B H σ γ)(hB:∀b,B b->∃o,H0 b=some o)(S1:Same H H1)(hij:i≠j)(hi:γ[i]?=some (some (.own o1)))(hj:γ[j]?=some (some (.own o2)))(ha1:σ[i]?=some (some (.ref a1)))(ha2:σ[j]?=some (some (.ref a2)))(t1:TVs K (zof B γ σ) H0 H H1 ss us)(hp:passes ss=some ss')(hc:c o1 o2 ss' (fun o1' o2' d=>R ((γ.set i (some (.own o1'))).set j (some (.own o2'))) d) (fun o1' o2' e=>X ((γ.set i (some (.own o1'))).set j (some (.own o2'))) e))(q:∀γ' d v H',R γ' d->EnvR K H0 B H' σ γ'->Fr B H σ γ H' σ γ'->Rp K (off (zof B γ' σ) H') d v->Q v H')(qx:∀γ' c H',X γ' c->EnvR K H0 B H' σ γ'->Fr B H σ γ H' σ γ'->Ec (.ref (ExcR.JP mg c)) none H'):spW2 mg c K (.ref a1 :: .ref a2::us) H1 Q Ec:=by
 have env1:=env.grow S1;obtain⟨v1,h1,x1,e1,h3,h4⟩:=env1.slot i _ hi;rw[ha1]at h1;cases h1
 cases e1
 obtain⟨v2,h2,x2,e2,h5,h6⟩:=env1.slot j _ hj;rw[ha2]at h2;cases h2
 cases e2
 have ap:∀b,o1.adr a1 b->¬o2.adr a2 b:=fun b z y=>hij (env.own i j a1 a2 o1 o2 b hi hj ha1 ha2 z y);have za:∀b,two o1 o2 a1 a2 b->zof B γ σ b:=fun b hb=>hb.elim (fun hb=>.inr ⟨i,o1,a1,hi,ha1,hb⟩) fun hb=>.inr ⟨j,o2,a2,hj,ha2,hb⟩;have h0:∀b,two o1 o2 a1 a2 b->H0 b=none:=fun b hb=>hb.elim (h3 b) (h5 b);have down:∀{o:O} {a:Addr},OR K (off (zof B γ σ) H1) H1 a o->OR K (off (fun b=>(zof B γ σ b/\¬two o1 o2 a1 a2 b)\/two o1 o2 a1 a2 b) H1) H1 a o:=fun h=>h.mono (Uk (Same.refl _) fun b _ _ z y=>z (y.elim (fun y=>y.1) (za b))) fun _ _ _ q=>q
 have aft:∀o1' o2' H',After2 K (fun b=>zof B γ σ b/\¬two o1 o2 a1 a2 b) H1 a1 a2 o1 o2 o1' o2' H'->EnvR K H0 B H' σ ((γ.set i (some (.own o1'))).set j (some (.own o2')))/\Fr B H σ γ H' σ ((γ.set i (some (.own o1'))).set j (some (.own o2')))/\∀b x,H' b=some x->¬((zof B γ σ b/\¬two o1 o2 a1 a2 b)\/two o1' o2' a1 a2 b)->¬zof B ((γ.set i (some (.own o1'))).set j (some (.own o2'))) σ b:=fun o1' o2' H' A=>by
  have hzz:∀b x,H' b=some x->¬((zof B γ σ b/\¬two o1 o2 a1 a2 b)\/two o1' o2' a1 a2 b)->¬zof B ((γ.set i (some (.own o1'))).set j (some (.own o2'))) σ b:=fun b x _ n z=>by
   rcases z with z|⟨k,fs,a',e1,e2,e3⟩
   ·refine n (.inl ⟨.inl z,fun w=>?_⟩);obtain⟨u,hu⟩:=hB b z;rw[h0 b w]at hu;cases hu
   ·rcases U4 e1 with⟨ek,q,_⟩|⟨nk,q⟩
    ·subst ek;cases q
     rw[ha2]at e2;cases e2
     exact n (.inr (.inr e3))
    ·rcases U4 q with⟨ek,q',_⟩|⟨nk',q'⟩
     ·subst ek;cases q'
      rw[ha1]at e2;cases e2
      exact n (.inr (.inl e3))
     ·refine n (.inl ⟨.inr ⟨k,fs,a',q',e2,e3⟩,fun w=>?_⟩);rcases w with w|w
      ·exact nk' (env.own k i a' a1 fs o1 b q' hi e2 ha1 e3 w)
      ·exact nk (env.own k j a' a2 fs o2 b q' hj e2 ha2 e3 w)
  have up:∀{o:O} {a:Addr},OR K (off (fun b=>(zof B γ σ b/\¬two o1 o2 a1 a2 b)\/two o1' o2' a1 a2 b) H') H' a o->OR K (off (zof B ((γ.set i (some (.own o1'))).set j (some (.own o2'))) σ) H') H' a o:=fun h=>h.mono (Uk (Same.refl _) fun b x hx z=>hzz b x hx z) fun _ _ _ q=>q;obtain⟨k1,k2⟩:=env1.change2 (o1':=o1') (o2':=o2') (H':=H') hij hi hj ha1 ha2 (fun b x hx n1 n2=>A.same b x (U7 hx fun w=>w.elim n1 n2)) (fun b hb=>hb.elim (fun hb=>A.at1.mut b (A.old1 b hb)) fun hb=>A.at2.mut b (A.old2 b hb)) A.new1 A.new2 A.apart (up A.at1) (up A.at2);exact⟨k1,(Fr.grow S1).trans k2,hzz⟩
 refine⟨o1,o2,a1,a2,ss',us,fun b=>zof B γ σ b/\¬two o1 o2 a1 a2 b,_,_,rfl,fun b hb=>⟨env1.zm b hb.1,hb.2⟩,ap,down h4,down h6,?_,T8 hp,hc,fun o1' o2' d v H' hR A rd=>?_,fun o1' o2' e H' hX A=>?_⟩
 ·refine t1.pass env1.same env.zm S1 (fun b x hx=>U7 (env1.same b x hx) fun w=>?_) (Uk (Same.refl _) fun b _ _ z y=>z (y.elim (fun y=>y.1) (za b))) hp;rw[h0 b w]at hx;cases hx
 ·obtain⟨k1,k2,k3⟩:=aft o1' o2' H' A;exact q _ d v H' hR k1 k2 (Rp.mono (fun b x h=>let ⟨p1,p2⟩:=XD h;U7 p1 (k3 b x p1 p2)) rd)
 ·obtain⟨k1,k2,_⟩:=aft o1' o2' H' A;exact qx _ e H' hX k1 k2
def Zfr(i j:Nat)(c:Pw2)(r:PTA):PTW:=fun γ R X=>match γ[i]?,γ[j]? with
 |some (some (.own o1)),some (some (.own o2))=>r γ (fun ss=>match passes ss with|some ss'=>c o1 o2 ss' (fun o1' o2' d=>R ((γ.set i (some (.own o1'))).set j (some (.own o2'))) d) (fun o1' o2' e=>X ((γ.set i (some (.own o1'))).set j (some (.own o2'))) e)|none=>False) (X γ)
 |_,_=>False
def AZ(i j:Nat)(c:Pw2)(r:PTA):PTW:=fun γ R X=>match γ[i]?,γ[j]? with
 |some (some (.own o1)),some (some (.own o2))=>r γ (fun ss=>match passes ss with|some ss'=>c o1 o2 ss' (fun o1' o2' d=>R ((γ.set i (some (.own o1'))).set j (some (.own o2'))) d) (fun _ _ _=>False)|none=>False) (X γ)
 |_,_=>False
def Sa(i j:Nat)(hij:i≠j){c:Pw2}{ta:TA}{r:PTA}(hr:SndA K mg E ta r):SndW K mg E (KO (spW2 mg c K) [] E0 (UU (tVar i) (UU (tVar j) ta))) (AZ i j c r):=by
 intro H0 B H σ γ R X Q hB env h q qx;unfold AZ at h;split at h
 ·rename_i o1 o2 hi hj;obtain⟨v1,hv1,a1,rfl,_,_⟩:=env.slot i _ hi;obtain⟨v2,hv2,a2,rfl,_,_⟩:=env.slot j _ hj;refine⟨_,hv1,_,hv2,hr H0 B H σ γ _ _ _ env h (fun ss us H1 h1 S1 t1=>?_) fun c H' hc S'=>qx γ c H' hc (env.grow S') (Fr.grow S')⟩;show spW2 mg c K ((V.ref a1::V.ref a2::us)++[]) H1 Q E0;rw[Wb];split at h1
  ·rename_i ss' ep;exact Zdl (X:=fun _ _=>False) env hB S1 hij hi hj hv1 hv2 t1 ep h1 q fun _ _ _ z=>z.elim
  ·exact h1.elim
 ·exact h.elim
abbrev PTV:=Γ->(Γ->Bool->Prop)->(Γ->Str->Prop)->Prop
def SndV(K:Za)(mg:Str->Option Value)(E:L2.St->XK)(t:TT)(p:PTV):Prop:=∀(H0:Hp) (B:Addr->Prop) (H:Hp) (σ:L2.St) (γ:Γ) (R:Γ->Bool->Prop) (X:Γ->Str->Prop) (Q:Bool->Hp->Prop),(∀b,B b->∃o,H0 b=some o)->EnvR K H0 B H σ γ->p γ R X->
 (∀γ' b H',R γ' b->EnvR K H0 B H' σ γ'->Fr B H σ γ H' σ γ'->Q b H')->(∀γ' c H',X γ' c->EnvR K H0 B H' σ γ'->Fr B H σ γ H' σ γ'->E σ (.ref (ExcR.JP mg c)) none H')->t σ H Q
def pVW(w:PTW):PTV:=fun γ R X=>w γ (fun γ' d=>match d with | .bl c=>R γ' c|_=>False) X
def sv_w{te:TE}{w:PTW}(hw:SndW K mg E te w):SndV K mg E (tTru K te) (pVW w):=by
 intro H0 B H σ γ R X Q hB env h q qx;refine hw H0 B H σ γ _ _ _ hB env h (fun γ' d v H' h1 e1 f1 rd=>?_) qx;split at h1
 ·rw[rd.bl_inv];exact⟨_,rfl,q _ _ _ h1 e1 f1⟩
 ·exact h1.elim
def L6(p:PTV):PTV:=fun γ R X=>p γ (fun γ' b=>R γ' (!b)) X
def NP{t:TT}{p:PTV}(hp:SndV K mg E t p):SndV K mg E (tNot t) (L6 p):=by
 intro H0 B H σ γ R X Q hB env h q qx;exact hp H0 B H σ γ _ _ _ hB env h (fun γ' b H' h1 e1 f1=>q γ' (!b) H' h1 e1 f1) qx
def pIfV(c:PTV)(p q:PTS):PTS:=fun R γ=>c γ (fun γ' b=>if b=true then p R γ' else q R γ') R.ex
def Nz{tt:TT}{c:PTV}{t u:TS}{p q:PTS}(hc:SndV K mg E tt c)(hp:SndS K mg E t p)(hq:SndS K mg E u q):SndS K mg E (tIfS tt t u) (pIfV c p q):=by
 intro H0 B H σ γ R D hB env h e;refine hc H0 B H σ γ _ _ _ hB env h (fun γ' b H' h1 e1 f1=>?_) fun γ' c H' h1 e1 f1=>e.ex _ _ _ _ h1 e1 f1;cases b with
 |true=>
  rw[Yr rfl];exact hp H0 B H' σ γ' R D hB e1 (by simpa using h1) (e.from f1)
 |false=>
  rw[Yp (by decide)];exact hq H0 B H' σ γ' R D hB e1 (by simpa using h1) (e.from f1)
def Hw(i:Nat):PTW:=fun γ R _=>match γ[i]? with
 |some (some (.own (.lsA x ds)))=>∃d,ds[ds.length-1]?=some d/\R (γ.set i (some (.own (.lsA x ds.dropLast)))) d
 |some (some (.own (.lst ds)))=>∃d,ds[ds.length-1]?=some d/\R (γ.set i (some (.own (.lst ds.dropLast)))) d
 |_=>False
def Zbs(i:Nat):SndW K mg E (tBM0 K "list" rPop (tVar i)) (Hw i):=by
 intro H0 B H σ γ R X Q hB env h q qx;unfold Hw at h;split at h
 ·rename_i x ds hi;obtain⟨d,ed,h⟩:=h;obtain⟨v,hv,b,rfl,hb0,rfl,us,hb,rb⟩:=env.slot i _ hi;obtain⟨u,hu,ru⟩:=rb.get ed;refine⟨_,hv,.inl ⟨rfl,us,SqL.of hb⟩,b,us,u,rfl,rfl,hb,by rw[rb.len];exact hu,?_⟩;obtain⟨e2,f2⟩:=env.mutate (es:=.lsA b ds.dropLast) (us:=.lst us.dropLast) hi hv trivial fun F H' SF hF=>⟨rfl,_,hF,Rps.mono SF (Rps.dropLast rb)⟩;exact q _ _ _ _ h e2 f2 (Rp.mono f2.off ru)
 ·rename_i ds hi;obtain⟨d,ed,h⟩:=h;obtain⟨v,hv,b,rfl,hb0,us,hb,rb⟩:=env.slot i _ hi;obtain⟨u,hu,ru⟩:=rb.get ed;refine⟨_,hv,.inl ⟨rfl,us,SqL.of hb⟩,b,us,u,rfl,rfl,hb,by rw[rb.len];exact hu,?_⟩;obtain⟨e2,f2⟩:=env.mutate (es:=.lst ds.dropLast) (us:=.lst us.dropLast) hi hv trivial fun F H' SF hF=>⟨_,hF,Rps.mono SF (Rps.dropLast rb)⟩;exact q _ _ _ _ h e2 f2 (Rp.mono f2.off ru)
 ·exact h.elim
abbrev Pq:=List S->(S->Prop)->(Str->Prop)->Prop
def spS(mg:Str->Option Value)(c:Pq)(K:Za):Sp:=fun vs H Q E=>∃(ss:List S) (B:Addr->Prop) (R:S->Prop) (X:Str->Prop),(∀b,B b->Mut (H b))/\TVs K B H H H ss vs/\(∀s∈ss,s.flat)/\c ss R X/\
 (∀s v H',R s->Same H H'->TV K B H H H' s v->Q v H')/\∀e H',X e->Same H H'->E (.ref (ExcR.JP mg e)) none H'
def Pb(N:List Str)(ss:List S):Γ:=ss.map some++List.replicate (N.length-ss.length) none
def Zfh{N:List Str}{ss:List S}{us:List V}(hB:∀b,B b->Mut (H b))(r:TVs K B H H H ss us)(hf:∀s∈ss,s.flat)(hn:ss.length<=N.length):EnvR K H B H (start N us) (Pb N ss):=by
 have hlen:=r.len
 have get:∀(i:Nat) (s:S),(Pb N ss)[i]?=some (some s)->ss[i]?=some s:=fun i s h=>by
  unfold Pb at h;by_cases hi:i<ss.length
  ·rw[YI (by rw[Ym];exact hi),Yt,Yl hi]at h;rw[Yl hi];exact YQ some (Yz (Yz h))
  ·rw[YK (by rw[Ym];omega),WL]at h;split at h<;>cases h
 have noown:∀(i:Nat) (es:O),(Pb N ss)[i]?≠some (some (.own es)):=fun i es h=>hf _ (Y7 (get i _ h))
 have hz:∀b,zof B (Pb N ss) (start N us) b->B b:=fun b z=>by
  rcases z with z|⟨i,es,a',h1,h2,h3⟩
  ·exact z
  ·exact absurd h1 (noown i es)
 refine⟨Same.refl _,?_,hB,fun i j x x' es es' b h1 _ _ _ _ _=>absurd h1 (noown i es),fun i s h=>?_⟩
 ·unfold L2.start Pb;simp[hlen]
 ·have hs:=get i s h;obtain⟨v,hv,tv⟩:=r.get hs;refine⟨v,?_,?_⟩
  ·unfold L2.start;rw[YI (by rw[Ym];exact(YD.mp hv).1),Yt,hv];rfl
  ·have:=hf s (Y7 hs)
   cases s with
   |bor d=>exact tv
   |sh d=>exact Rp.mono (Uk (Same.refl _) fun b _ _ z y=>z (hz b y)) tv
   |own _=>exact this.elim
   |view _=>exact this.elim
   |tmp _=>exact this.elim
def HU{c:Pq}{N:List Str}{t:TS}{p:PTS}{vs:List V}{Q:VK}{Ec:XK}{n:Nat}(h:spS mg c K vs H Q Ec)(snd:SndS K mg (fun _=>Ec) t p)(hn:n<=N.length)(hp:∀ss R X,c ss R X->ss.length=n/\p {nx:=fun _=>R (.sh .non),rt:=R,ex:=fun _ e=>X e} (Pb N ss)):t {nx:=fun _ H'=>Q .non H',rt:=Q} (start N vs) H:=by
 obtain⟨ss,B,R,X,hB,r,hf,hc,hQ,hX⟩:=h;obtain⟨e,hp⟩:=hp ss R X hc;exact snd H B H _ _ _ _ (fun b z=>K4 (hB b z)) (Zfh hB r hf (by rw[e];exact hn)) hp ⟨fun σ' γ' H' h1 e1 f1=>hQ _ _ H' h1 e1.same .non,fun s v H' h1 S1 tv=>hQ s v H' h1 S1 tv,fun σ' γ' c H' h1 e1 f1=>hX c H' h1 e1.same,fun _ _ _ z=>z.elim,fun _ _ _ z=>z.elim,fun _ _ _ _ _ z=>z.elim⟩
def HV{c:Pq}{vs:List V}{Q:VK}{Ec:XK}{n:Nat}(h:spS mg c K vs H Q Ec)(hn:∀ss R X,c ss R X->ss.length=n):vs.length=n:=by
 obtain⟨ss,B,R,X,_,r,_,hc,_⟩:=h;rw[r.len];exact hn ss R X hc
def TV.backS {s:S}{v:V} (env:EnvR K H0 B H1 σ γ) (S1:Same H H1) (S2:Same H1 H') (h:TV K (zof B γ σ) H1 H1 H' s v):TV K (zof B γ σ) H0 H H' s.back v:=by
 cases s with
 |bor d=>exact Kj (fun b z=>Ki S2 (env.zm b z)) (Rp.mono S2 h)
 |sh d=>exact h
 |own ds=>
  obtain⟨a,rfl,e0,r⟩:=h;exact⟨a,rfl,(fun b hb=>S1.free (e0 b hb)),r⟩
 |view ds=>
  obtain⟨a,rfl,r⟩:=h;exact r.rp off_sub
 |tmp d=>exact h
def TV.passS {s s':S}{v:V} (env:EnvR K H0 B H1 σ γ) (hm:∀b,zof B γ σ b->Mut (H b)) (S1:Same H H1) (h:TV K (zof B γ σ) H0 H H1 s v) (e:s.pass=some s'):TV K (zof B γ σ) H1 H1 H1 s' v:=by
 have shd:∀d,s.shd=some d->Rp K (off (zof B γ σ) H1) d v:=fun d ed=>h.shd env.same hm S1 ed;cases s with
 |sh d=>cases e;exact shd _ rfl
 |own o=>cases e;exact shd _ rfl
 |view o=>cases e
 |tmp d=>
  unfold S.pass at e;cases q:imm d with
  |false=>simp[q]at e
  |true=>simp[q]at e;subst e;exact shd d (by unfold S.shd;simp[q])
 |bor d=>
  unfold S.pass at e;cases q:imm d with
  |false=>simp[q]at e;subst e;exact Rp.mono env.same h
  |true=>simp[q]at e;subst e;exact shd d (by unfold S.shd;simp[q])
def TVs.passS (env:EnvR K H0 B H1 σ γ) (hm:∀b,zof B γ σ b->Mut (H b)) (S1:Same H H1):∀{ss ss':List S}{vs:List V},TVs K (zof B γ σ) H0 H H1 ss vs->passes ss=some ss'->TVs K (zof B γ σ) H1 H1 H1 ss' vs
 |_,_,_,.nil,e=>by cases e;exact .nil
 |_,_,_,.cons h r,e=>by
  unfold passes at e;split at e
  ·rename_i s1 r1 e1 e2;cases e
   exact .cons (h.passS env hm S1 e1) (TVs.passS env hm S1 r e2)
  ·cases e
def Zen(c:Pq)(r:PTA):PTE:=fun γ R X=>r γ (fun ss=>match passes ss with|some ss'=>c ss' (fun s=>R s.back) (fun _=>False)|none=>False) X
def SQ{c:Pq}{ta:TA}{r:PTA}(hr:SndA K mg E ta r):SndE K mg E (KO (spS mg c K) [] E0 ta) (Zen c r):=by
 intro H0 B H σ γ R X Q env p q qx;refine hr H0 B H σ γ _ X _ env p (fun ss vs H1 h1 S1 t1=>?_) qx;rw[Wb];have env1:=env.grow S1;split at h1
 ·rename_i ss' ep;exact⟨ss',zof B γ σ,_,_,env1.zm,t1.passS env1 env.zm S1 ep,T8 ep,h1,fun s v H' hs S2 tv=>q _ _ H' hs (S1.trans S2) (tv.backS env1 S1 S2),fun _ _ z=>z.elim⟩
 ·exact h1.elim
def pSlN(a:PTE)(l u:PTO):PTE:=fun γ R X=>a γ (fun s=>l γ (fun lo=>u γ (fun hi=>match s.d with | .scr ns=>R (.own ((cutD ns lo hi).map D.int))|_=>False) X) X) X
def ME(ns:List Int)(lo hi:Option Int):cutV (ns.map V.int) lo hi=(cutD ns lo hi).map V.int:=by
 unfold cutV cutD;rw[Ym,List.map_take,List.map_drop]
def La{te:TE}{tl th:TO}{a:PTE}{l u:PTO}(ha:SndE K mg E te a)(hl:SndO K mg E tl l)(hu:SndO K mg E th u):SndE K mg E (tSl (rSlL K) te tl th) (pSlN a l u):=by
 intro H0 B H σ γ R X Q env p q qx;refine ha H0 B H σ γ _ X _ env p (fun x v H1 h1 S1 t1=>?_) qx;refine hl H0 B H1 σ γ _ X _ (env.grow S1) h1 (fun lo H2 h2 S2=>?_) fun c H' hc S'=>qx c H' hc (S1.trans S');refine hu H0 B H2 σ γ _ X _ ((env.grow S1).grow S2) h2 (fun hi H3 h3 S3=>?_) fun c H' hc S'=>qx c H' hc ((S1.trans S2).trans S');have S13:=(S1.trans S2).trans S3;split at h3
 ·rename_i ns e;have rx:=(t1.grow (S2.trans S3)).rp (env.grow S13).same;rw[e]at rx;obtain⟨b,rfl,hb⟩:=rx.scr_inv;refine⟨b,_,rfl,hb,fun m nm=>?_⟩;rw[ME];exact q _ _ _ h3 (S13.trans (UP nm)) (KN S13 nm (Rps.of_ints _))
 ·exact h3.elim
end
open M
inductive Dd where
 |sell (p h:Int)|part (p w:Int)|unite (p:Int)|wish (a b:Int)|drop (a b:Int)
def Dd.q:Dd->Str×List Int
 | .sell p h=>("sell",[p,h]) | .part p w=>("part",[p,w]) | .unite p=>("unite",[p]) | .wish a b=>("wish",[a,b]) | .drop a b=>("drop",[a,b])
def Dd.land:Dd->Bool
 | .sell _ _=>true | .part _ _=>true | .unite _=>true|_=>false
def Dd.err (f w:List (Int×Int)):Dd->Option Str
 | .sell p h=>UT f p h | .part p v=>UQ f p v | .unite p=>uniE f p | .wish a b=>UM w a b | .drop a b=>UN w a b
def Dd.fld (f:List (Int×Int)):Dd->List (Int×Int)
 | .sell p h=>Kt f p h | .part p v=>XJ f p v | .unite p=>uniL f p|_=>f
def Dd.wsh (w:List (Int×Int)):Dd->List (Int×Int)
 | .wish a b=>w++[(a,b)] | .drop a b=>Kn w a b|_=>w
def codeN:Option Str->Int
 |none=>0
 |some c=>if c=("NoStrip" : Str)then 1 else if c=("BadHolder" : Str)then 2 else if c=("OwnStrip" : Str)then 3 else if c=("BadPart" : Str)then 4 else if c=("TooManyStrips" : Str)then 5 else if c=("UnlikeHolders" : Str)then 6 else if c=("TooWide" : Str)then 7 else if c=("LikeHolders" : Str)then 8 else if c=("WishStands" : Str)then 9 else if c=("TooManyWishes" : Str)then 10 else 11
def NQ:codeN (some "NoStrip")=1:=by decide +kernel
def NG:codeN (some "BadHolder")=2:=by decide +kernel
def Hy:codeN (some "OwnStrip")=3:=by decide +kernel
def BA:codeN (some "BadPart")=4:=by decide +kernel
def Ga:codeN (some "TooManyStrips")=5:=by decide +kernel
def Gw:codeN (some "UnlikeHolders")=6:=by decide +kernel
def CK:codeN (some "TooWide")=7:=by decide +kernel
def GT:codeN (some "LikeHolders")=8:=by decide +kernel
def E4:codeN (some "WishStands")=9:=by decide +kernel
def AK:codeN (some "TooManyWishes")=10:=by decide +kernel
def Di:codeN (some "NoWish")=11:=by decide +kernel
def Dd.fld' (f:List (Int×Int)) (x:Dd):List (Int×Int):=if x.err f []=none then x.fld f else f
def Dd.wsh' (w:List (Int×Int)) (x:Dd):List (Int×Int):=if x.err [] w=none then x.wsh w else w
def Dd.nf (f w:List (Int×Int)) (x:Dd):List (Int×Int):=if x.err f w=none then x.fld f else f
def Dd.nw (f w:List (Int×Int)) (x:Dd):List (Int×Int):=if x.err f w=none then x.wsh w else w
def Dd.err_land {x:Dd} (h:x.land=true) (f w u:List (Int×Int)):x.err f w=x.err f u:=by
 cases x<;>first|rfl|cases h
def Dd.err_wish {x:Dd} (h:x.land=false) (f g w:List (Int×Int)):x.err f w=x.err g w:=by
 cases x<;>first|rfl|cases h
def Dd.err_cases (f w : List (Int × Int)) (x : Dd) : x.err f w = none ∨ x.err f w = some ("NoStrip" : Str) ∨ x.err f w = some ("BadHolder" : Str) ∨ x.err f w = some ("OwnStrip" : Str) ∨ x.err f w = some ("BadPart" : Str) ∨ x.err f w = some ("TooManyStrips" : Str) ∨ x.err f w = some ("UnlikeHolders" : Str) ∨ x.err f w = some ("TooWide" : Str) ∨ x.err f w = some ("LikeHolders" : Str) ∨ x.err f w = some ("WishStands" : Str) ∨ x.err f w = some ("TooManyWishes" : Str) ∨ x.err f w = some ("NoWish" : Str) := by
  cases x with
  | sell p h => show UT f p h = _ ∨ UT f p h = _ ∨ UT f p h = _ ∨ UT f p h = _ ∨ _; unfold UT; repeat' split
                all_goals simp
  | part p h => show UQ f p h = _ ∨ UQ f p h = _ ∨ UQ f p h = _ ∨ UQ f p h = _ ∨ UQ f p h = _ ∨ UQ f p h = _ ∨ _; unfold UQ; repeat' split
                all_goals simp
  | unite p => show uniE f p = _ ∨ uniE f p = _ ∨ uniE f p = _ ∨ uniE f p = _ ∨ uniE f p = _ ∨ uniE f p = _ ∨ uniE f p = _ ∨ uniE f p = _ ∨ _; unfold uniE; repeat' split
               all_goals simp
  | wish a b => show UM w a b = _ ∨ UM w a b = _ ∨ UM w a b = _ ∨ UM w a b = _ ∨ UM w a b = _ ∨ UM w a b = _ ∨ UM w a b = _ ∨ UM w a b = _ ∨ UM w a b = _ ∨ UM w a b = _ ∨ UM w a b = _ ∨ _; unfold UM; repeat' split
                all_goals simp
  | drop a b => show UN w a b = _ ∨ UN w a b = _ ∨ UN w a b = _ ∨ UN w a b = _ ∨ UN w a b = _ ∨ UN w a b = _ ∨ UN w a b = _ ∨ UN w a b = _ ∨ UN w a b = _ ∨ UN w a b = _ ∨ UN w a b = _ ∨ UN w a b = _; unfold UN; repeat' split
                all_goals simp
abbrev Hist:=List (Dd×List (Int×Int)×List (Int×Int))
def bkH(hs:Hist):List (Str×List Int):=hs.map fun h=>h.1.q
def fsH(f0:List (Int×Int))(hs:Hist):List (List (Int×Int)):=f0::hs.map fun h=>h.2.1
def wsH(hs:Hist):List (List (Int×Int)):=[]::hs.map fun h=>h.2.2
def pstD(h:Dd×List (Int×Int)×List (Int×Int)):D:=.tup [plD h.2.1,plD h.2.2,dD h.1.q]
def pst0(f0:List (Int×Int)):D:=.tup [plD f0,.lst [],.tup []]
def UA(f0:List (Int×Int))(hs:Hist):List D:=pst0 f0::hs.map pstD
def curF(f0:List (Int×Int))(hs:Hist):List (Int×Int):=match hs.getLast? with|some h=>h.2.1|none=>f0
def curW(hs:Hist):List (Int×Int):=match hs.getLast? with|some h=>h.2.2|none=>[]
def A7(f0:List (Int×Int))(hs:Hist):∃fs,fsH f0 hs=fs++[curF f0 hs]/\fs.length=hs.length:=by
 unfold fsH curF;rcases Wm hs with rfl|⟨h,x,rfl⟩
 ·exact⟨[],rfl,rfl⟩
 ·refine⟨f0::h.map fun h=>h.2.1,?_,by simp⟩;simp
def Fm(hs:Hist):∃ws,wsH hs=ws++[curW hs]/\ws.length=hs.length:=by
 unfold wsH curW;rcases Wm hs with rfl|⟨h,x,rfl⟩
 ·exact⟨[],rfl,rfl⟩
 ·refine⟨[]::h.map fun h=>h.2.2,?_,by simp⟩;simp
def SA(f0:List (Int×Int))(hs:Hist):∃d,atI (UA f0 hs) (-1)=some (.tup [plD (curF f0 hs),plD (curW hs),d]):=by
 have key:∀(l:List D) (x:D),l≠[]->l[l.length-1]?=some x->atI l (-1)=some x:=fun l x hn h=>by
  have hp:0<l.length:=Qk.mpr hn;unfold atI ixN;rw[Yp (by omega),Yr (by omega)];show l[_]?=_;rw[show((-1:Int)+(l.length:Int)).toNat=l.length-1 by omega];exact h
 unfold UA curF curW;rcases Wm hs with rfl|⟨h,x,rfl⟩
 ·exact⟨.tup [],key _ _ (by simp) rfl⟩
 ·refine⟨dD x.1.q,key _ _ (by simp) ?_⟩;rw[W4,Qd,YE,Ym,Yw,YO,Qp,Wf,Y8,YK (by rw[Ym];exact Yy _),Ym,Vu];rfl
def SH(hs:Hist)(h:Dd×List (Int×Int)×List (Int×Int)):bkH (hs++[h])=bkH hs++[h.1.q]:=by unfold bkH;rw[Y8];rfl
def Nu(f0:List (Int×Int))(hs:Hist)(h:Dd×List (Int×Int)×List (Int×Int)):fsH f0 (hs++[h])=fsH f0 hs++[h.2.1]:=by unfold fsH;rw[Y8];rfl
def Sd(hs:Hist)(h:Dd×List (Int×Int)×List (Int×Int)):wsH (hs++[h])=wsH hs++[h.2.2]:=by unfold wsH;rw[Y8];rfl
def N2(f0:List (Int×Int))(hs:Hist)(h:Dd×List (Int×Int)×List (Int×Int)):UA f0 (hs++[h])=UA f0 hs++[pstD h]:=by unfold UA;rw[Y8];rfl
def BR(hs:Hist):(bkH hs).length=hs.length:=Ym ..
def Zcn(f0:List (Int×Int))(hs:Hist):(fsH f0 hs).length=hs.length+1:=by unfold fsH;rw[YE,Ym]
def L9(hs:Hist):(wsH hs).length=hs.length+1:=by unfold wsH;rw[YE,Ym]
def N5(f0:List (Int×Int))(hs:Hist):(UA f0 hs).length=hs.length+1:=by unfold UA;rw[YE,Ym]
end Pu
namespace Pu
@[irreducible] def mixP (c k:Int):Int:=((c % 2147483647+7919*k+1)*48271 % 2147483647+104729*k+11)*69621 % 2147483647
open L2 M Own PyProof.Rows PySem PySem.Spec
def Dd.fld_ok {f w:List (Int×Int)}{d:Dd} (hF:Field f) (hl:f.length<=40) (e:d.err f w=none):Field (d.fld f)/\(d.fld f).length<=40:=by
 cases d with
 |sell p h=>exact⟨Zbr hF e,by rw[show(Dd.sell p h).fld f=Kt f p h from rfl,Zbk];exact hl⟩
 |part p v=>
  have e:UQ f p v=none:=e;rcases Iw f p v with⟨z,_⟩|⟨z,_⟩|⟨z,_⟩|⟨_,_,h1,h2,h3,h4,h5⟩
  ·rw[e]at z;cases z
  ·rw[e]at z;cases z
  ·rw[e]at z;cases z
  ·exact⟨RY hF h1 h2 h3 h4,by rw[show(Dd.part p v).fld f=XJ f p v from rfl,OB h1 h2];omega⟩
 |unite p=>
  have e:uniE f p=none:=e;rcases M9 f p with⟨z,_⟩|⟨z,_⟩|⟨z,_⟩|⟨_,_,h1,h2⟩
  ·rw[e]at z;cases z
  ·rw[e]at z;cases z
  ·rw[e]at z;cases z
  ·exact⟨Zbo hF e,by rw[show(Dd.unite p).fld f=uniL f p from rfl];have:=Mj h1 h2;omega⟩
 |wish a b=>exact⟨hF,hl⟩
 |drop a b=>exact⟨hF,hl⟩
def Dd.wsh_ok {f w:List (Int×Int)}{d:Dd} (hW:Ks w) (e:d.err f w=none):Ks (d.wsh w):=by
 cases d with
 |wish a b=>exact Mc hW e
 |drop a b=>exact MK hW
 |sell p h=>exact hW
 |part p v=>exact hW
 |unite p=>exact hW
def FineH(f0:List (Int×Int))(hs:Hist):Prop:=(∀g∈fsH f0 hs,Field g/\g.length<=40)/\∀g∈wsH hs,Ks g
def FineH.cur {f0:List (Int×Int)}{hs:Hist} (h:FineH f0 hs):(Field (curF f0 hs)/\(curF f0 hs).length<=40)/\Ks (curW hs):=by
 obtain⟨fs,ef,_⟩:=A7 f0 hs;obtain⟨ws,ew,_⟩:=Fm hs;exact⟨h.1 _ (by rw[ef];simp),h.2 _ (by rw[ew];simp)⟩
def FineH.nil {f0:List (Int×Int)} (hF:Field f0) (hl:f0.length<=40):FineH f0 []:=
 ⟨fun g hg=>by rw[show fsH f0 []=[f0]from rfl,Yx]at hg;subst hg;exact⟨hF,hl⟩,fun g hg=>by rw[show wsH []=[[]]from rfl,Yx]at hg;subst hg;exact RP⟩
def FineH.snoc {f0:List (Int×Int)}{hs:Hist}{x:Dd×List (Int×Int)×List (Int×Int)} (h:FineH f0 hs) (h1:Field x.2.1/\x.2.1.length<=40) (h2:Ks x.2.2):FineH f0 (hs++[x]):=
 ⟨fun g hg=>by rw[Nu]at hg;rcases YG.mp hg with hg|hg;{exact h.1 g hg};{rw[Yx]at hg;subst hg;exact h1},fun g hg=>by rw[Sd]at hg;rcases YG.mp hg with hg|hg;{exact h.2 g hg};{rw[Yx]at hg;subst hg;exact h2}⟩
def FineH.init {f0:List (Int×Int)}{hs:Hist}{x:Dd×List (Int×Int)×List (Int×Int)} (h:FineH f0 (hs++[x])):FineH f0 hs:=
 ⟨fun g hg=>h.1 g (by rw[Nu];exact Qa _ hg),fun g hg=>h.2 g (by rw[Sd];exact Qa _ hg)⟩
def FineH.back {f0:List (Int×Int)}{hs:Hist} (h:FineH f0 hs):FineH f0 hs.dropLast:=by
 rcases Wm hs with rfl|⟨l,x,rfl⟩
 ·exact h
 ·rw[W4]at h ⊢;rw[WI];exact h.init
def addH(f0:List (Int×Int))(hs:Hist)(d:Dd):Hist:=if d.err (curF f0 hs) (curW hs)=none then hs++[(d,d.fld (curF f0 hs),d.wsh (curW hs))]else hs
def GY(f0:List (Int×Int))(hs:Hist)(d:Dd):(addH f0 hs d).length<=hs.length+1:=by
 unfold addH;split
 ·rw[Yw,YO];exact Yy _
 ·omega
def FineH.add {f0:List (Int×Int)}{hs:Hist} (h:FineH f0 hs) (d:Dd):FineH f0 (addH f0 hs d):=by
 unfold addH;split
 ·rename_i e;obtain⟨⟨h1,h2⟩,h3⟩:=h.cur;exact h.snoc (Dd.fld_ok h1 h2 e) (Dd.wsh_ok h3 e)
 ·exact h
def Dd.code_pos {f w:List (Int×Int)}{x:Dd} (h:¬x.err f w=none):0<codeN (x.err f w):=by
 rcases x.err_cases f w with e|e|e|e|e|e|e|e|e|e|e|e<;>rw[e]at h ⊢
 ·exact absurd rfl h
 ·rw[NQ];decide
 ·rw[NG];decide
 ·rw[Hy];decide
 ·rw[BA];decide
 ·rw[Ga];decide
 ·rw[Gw];decide
 ·rw[CK];decide
 ·rw[GT];decide
 ·rw[E4];decide
 ·rw[AK];decide
 ·rw[Di];decide
def Dd.not_back (d:Dd):¬d.q.1=("back" : Str):=by
 cases d with
 |sell p h=>exact(by decide +kernel:¬("sell" : Str) = "back")
 |part p h=>exact(by decide +kernel:¬("part" : Str) = "back")
 |unite p=>exact(by decide +kernel:¬("unite" : Str) = "back")
 |wish p h=>exact(by decide +kernel:¬("wish" : Str) = "back")
 |drop p h=>exact(by decide +kernel:¬("drop" : Str) = "back")
def Pz(ds:List D):Nat:=match ds.getLast? with
 |some (.tup (_ :: .lst w::_))=>w.length
 |_=>0
def Zb4(γ:List (Option Pu.S)):Nat:=match γ[1]? with
 |some (some (Pu.S.own (Pu.O.lsA _ ds)))=>Pz ds
 |_=>0
def Zbc(ds:List D)(x:D):Pz (ds++[x])=Pz [x]:=by
 unfold Pz;rw[Qd];rfl
def Hu(f0:List (Int×Int))(hs:Hist):Pz (UA f0 hs)=(curW hs).length:=by
 rcases Wm hs with rfl|⟨l,x,rfl⟩
 ·rfl
 ·rw[W4,N2,Zbc];unfold curW;rw[Qd];show(List.map prD x.2.2).length=_;rw[Ym]
def Zdp{w:List (Int×Int)}{a b:Int}(h:(a,b)∈w):(Kn w a b).length<w.length:=by
 unfold Kn;refine Nat.lt_of_le_of_ne (YZ _ _) fun e=>?_
 have:=List.length_filter_eq_length_iff.mp e _ h
 simp at this
def OA{f0:List (Int×Int)}{hs:Hist}{a b:Int}(h:(a,b)∈curW hs):addH f0 hs (.drop a b)=hs++[(.drop a b,curF f0 hs,Kn (curW hs) a b)]:=by
 unfold addH;rw[Yr]
 ·rfl
 ·show UN (curW hs) a b=none;unfold UN;rw[Yr h]
def EU(hs:Hist)(x:Dd×List (Int×Int)×List (Int×Int)):curW (hs++[x])=x.2.2:=by unfold curW;rw[Qd]
def Zbt(f0:List (Int×Int))(hs:Hist)(x:Dd×List (Int×Int)×List (Int×Int)):curF f0 (hs++[x])=x.2.1:=by unfold curF;rw[Qd]
def Zdb{α:Type}(f:α->D){xs:List α}(h:xs≠[]):∃x∈xs,atI (xs.map f) (-1)=some (f x):=by
 rcases Wm xs with rfl|⟨l,x,rfl⟩
 ·exact absurd rfl h
 ·rw[W4];exact⟨x,by simp,PV f l x⟩
def OC{hs r:List Int}(h:Ring hs [] r):False:=by
 have h2:=h.two
 have:=h.last r[0] (r[r.length-1]'(by omega)) (Yl (by omega)) (Yl (by omega))
 cases this
def TabV.last {ws:List (Int×Int)}{c:Int->Int->Int}{hs vs:List Int} (h:TabV ws c (Uo hs) vs):∃v,atI (vs.map D.int) (-1)=some (.int v)/\Least ws c hs v:=by
 have e1:=SG hs;rw[QC]at e1;have hi:=(YD.mp e1).1;have hl:=h.1;have hne:vs≠[]:=fun z=>by rw[z,List.length_nil]at hl;omega
 rcases Wm vs with rfl|⟨l,v,rfl⟩
 ·exact absurd rfl hne
 rw[W4]at h hl ⊢;refine⟨v,PV D.int l v,h.2 _ _ _ e1 ?_⟩;rw[←hl,Yw,YO,Qp,YK (Yy _),Vu];rfl
end Pu
namespace Own
open PySem PySem.Spec PyProof.Rows L2
section
variable {prog:Program}{w:World}{A:Around}{E:Value->Shared->Prop}{s:Shared}{l:Addr}{xs:Array (Int×Tok)}
def IK{Q:Value->Shared->Prop}(hh:A.handled=none)(hl:s.heap.IsTuple l (intItems xs))(hne:0<xs.size)(h:∀v h' tk,(intItems xs)[argBest (fun i j=>decide (numAt xs i<numAt xs j)) (xs.size-1)]?=some v->(∀b o,s.heap.get? b=some o->h'.get? b=some o)->Q v {s with heap:=h',toks:=tk}) :
  wpAny (model prog w) A (call (.builtin "min") [.ref l]) Q E s:=by
 have hlt:l<s.heap.objs.size:=by obtain⟨_,e,_⟩:=hl;exact Y1 e
 refine call_min_walk (wpAny_pyIter_tuple hl ?_);refine⟨_,[_,l],[_],_,_,_,_,rfl,Walks.tuple (A:=A.in1) hh _ l (YM hlt) (intItems xs),⟨⟨_,Y5 _ rfl,rfl,rfl⟩,hl.push _⟩,fun c hc=>?_,by simpa [intItems]using hne,CmpOf.ints_lt (numAt xs) (fun _ _=>intItems_at),fun v h' tk hP hk=>?_⟩
 ·show c<(s.heap.push _).objs.size;rw[Qe];rcases Y2.mp hc with rfl|hc
  ·exact Qg _
  ·rcases Y2.mp hc with rfl|hc
   ·exact WY hlt
   ·cases hc
 ·refine h v h' tk (by simpa [intItems]using hP) fun b o e=>hk b o (fun hm=>?_) (Yv _ e);rcases Y2.mp hm with e1|hm
  ·exact absurd (e1▸Y1 e) (W6 _)
  ·cases hm
def IZ{Q:Value->Shared->Prop}(hh:A.handled=none)(hl:s.heap.IsTuple l (intItems xs))(hne:0<xs.size)(h:∀v h' tk,(intItems xs)[argBest (fun i j=>decide (numAt xs i>numAt xs j)) (xs.size-1)]?=some v->(∀b o,s.heap.get? b=some o->h'.get? b=some o)->Q v {s with heap:=h',toks:=tk}) :
  wpAny (model prog w) A (call (.builtin "max") [.ref l]) Q E s:=by
 have hlt:l<s.heap.objs.size:=by obtain⟨_,e,_⟩:=hl;exact Y1 e
 refine call_max_walk (wpAny_pyIter_tuple hl ?_);refine⟨_,[_,l],[_],_,_,_,_,rfl,Walks.tuple (A:=A.in1) hh _ l (YM hlt) (intItems xs),⟨⟨_,Y5 _ rfl,rfl,rfl⟩,hl.push _⟩,fun c hc=>?_,by simpa [intItems]using hne,CmpOf.ints_gt (numAt xs) (fun _ _=>intItems_at),fun v h' tk hP hk=>?_⟩
 ·show c<(s.heap.push _).objs.size;rw[Qe];rcases Y2.mp hc with rfl|hc
  ·exact Qg _
  ·rcases Y2.mp hc with rfl|hc
   ·exact WY hlt
   ·cases hc
 ·refine h v h' tk (by simpa [intItems]using hP) fun b o e=>hk b o (fun hm=>?_) (Yv _ e);rcases Y2.mp hm with e1|hm
  ·exact absurd (e1▸Y1 e) (W6 _)
  ·cases hm
end
section
variable {X:Cx}{K:Za}
def M0(hc:X.calm=true)(hK:X.K=K:=by rfl):UX X (.builtin "min") (fun xs H Q=>∃(p:Addr) (a b:Int),xs=[.ref p]/\SqT K H p [.int a,.int b]/\Q (.int (if b<a then b else a)) H):=by
 subst hK;intro pins s σ H xs us Q I rv h;obtain⟨p,a,b,rfl,hS,q⟩:=h;obtain⟨u,rfl,ru⟩:=rv.one;obtain rfl:u=Value.ref p:=ru;obtain⟨its,r,pl,_⟩:=I.tuple hS;cases r with
 |cons r1 r=>
  cases r with
  |cons r2 r=>
   cases r
   obtain⟨t1,rfl⟩:=r1;obtain⟨t2,rfl⟩:=r2;have hl:s.heap.IsTuple p (intItems #[(a,t1),(b,t2)]):=by have this:s.heap.IsTuple p _:=pl;simpa [intItems]using this
   refine IK (I.ok.hd hc) hl (by simp) fun v h' tk hP hk=>?_;have hP':(intItems #[(a,t1),(b,t2)])[argBest (fun i j=>decide (numAt #[(a,t1),(b,t2)] i<numAt #[(a,t1),(b,t2)] j)) 1]?=some v:=hP;by_cases hba:b<a
   ·have e:argBest (fun i j=>decide (numAt #[(a,t1),(b,t2)] i<numAt #[(a,t1),(b,t2)] j)) 1=1:=by simp[argBest,numAt,hba]
    rw[e]at hP';obtain rfl:Value.int b t2=v:=by simpa [intItems]using hP'
    rw[Yr hba]at q;exact⟨.int b,H,I.kept (t':=tk) hk,⟨_,rfl⟩,q⟩
   ·have e:argBest (fun i j=>decide (numAt #[(a,t1),(b,t2)] i<numAt #[(a,t1),(b,t2)] j)) 1=0:=by simp[argBest,numAt,hba]
    rw[e]at hP';obtain rfl:Value.int a t1=v:=by simpa [intItems]using hP'
    rw[Yp hba]at q;exact⟨.int a,H,I.kept (t':=tk) hk,⟨_,rfl⟩,q⟩
def Il(hc:X.calm=true)(hK:X.K=K:=by rfl):UX X (.builtin "max") (fun xs H Q=>∃(p:Addr) (a b:Int),xs=[.ref p]/\SqT K H p [.int a,.int b]/\Q (.int (if b>a then b else a)) H):=by
 subst hK;intro pins s σ H xs us Q I rv h;obtain⟨p,a,b,rfl,hS,q⟩:=h;obtain⟨u,rfl,ru⟩:=rv.one;obtain rfl:u=Value.ref p:=ru;obtain⟨its,r,pl,_⟩:=I.tuple hS;cases r with
 |cons r1 r=>
  cases r with
  |cons r2 r=>
   cases r
   obtain⟨t1,rfl⟩:=r1;obtain⟨t2,rfl⟩:=r2;have hl:s.heap.IsTuple p (intItems #[(a,t1),(b,t2)]):=by have this:s.heap.IsTuple p _:=pl;simpa [intItems]using this
   refine IZ (I.ok.hd hc) hl (by simp) fun v h' tk hP hk=>?_;have hP':(intItems #[(a,t1),(b,t2)])[argBest (fun i j=>decide (numAt #[(a,t1),(b,t2)] i>numAt #[(a,t1),(b,t2)] j)) 1]?=some v:=hP;by_cases hba:b>a
   ·have e:argBest (fun i j=>decide (numAt #[(a,t1),(b,t2)] i>numAt #[(a,t1),(b,t2)] j)) 1=1:=by simp[argBest,numAt,hba]
    rw[e]at hP';obtain rfl:Value.int b t2=v:=by simpa [intItems]using hP'
    rw[Yr hba]at q;exact⟨.int b,H,I.kept (t':=tk) hk,⟨_,rfl⟩,q⟩
   ·have e:argBest (fun i j=>decide (numAt #[(a,t1),(b,t2)] i>numAt #[(a,t1),(b,t2)] j)) 1=0:=by simp[argBest,numAt,hba]
    rw[e]at hP';obtain rfl:Value.int a t1=v:=by simpa [intItems]using hP'
    rw[Yp hba]at q;exact⟨.int a,H,I.kept (t':=tk) hk,⟨_,rfl⟩,q⟩
end
end Own
namespace Pu
open PySem PySem.Spec PyProof.Rows L2 Own
section
variable {K:Za}{mg:Str->Option Value}{E:L2.St->XK}
def D1:List S->(S->Prop)->Prop
 |[s],R=>(match s.d with | .tup [.int a,.int b]=>R (.sh (.int (if b<a then b else a)))|_=>False)
 |_,_=>False
def G9:List S->(S->Prop)->Prop
 |[s],R=>(match s.d with | .tup [.int a,.int b]=>R (.sh (.int (if b>a then b else a)))|_=>False)
 |_,_=>False
def Zao{ta:TA}{r:PTA}(hr:SndA K mg E ta r):SndE K mg E (tCB (fun xs H Q=>∃(p:Addr) (a b:Int),xs=[.ref p]/\SqT K H p [.int a,.int b]/\Q (.int (if b<a then b else a)) H) ta) (pCB D1 r):=by
 refine XX hr fun H0 H H1 Z ss vs R Q s0 s1 hm tv h q=>?_;unfold D1 at h;split at h
 ·rename_i s;obtain⟨v,rfl,t1⟩:=tv.one_inv;have rv:=t1.rp s0;split at h
  ·rename_i a b e;rw[e]at rv;obtain⟨p,us,rfl,hp,r1⟩:=Rp.tup_inv rv;obtain⟨x,y,rfl,q1,q2⟩:=r1.two_inv;rw[q1.int_inv,q2.int_inv]at hp;exact⟨p,a,b,rfl,SqT.of hp,q _ _ H1 h (Same.refl _) (.int _)⟩
  ·exact h.elim
 ·exact h.elim
def Ot{ta:TA}{r:PTA}(hr:SndA K mg E ta r):SndE K mg E (tCB (fun xs H Q=>∃(p:Addr) (a b:Int),xs=[.ref p]/\SqT K H p [.int a,.int b]/\Q (.int (if b>a then b else a)) H) ta) (pCB G9 r):=by
 refine XX hr fun H0 H H1 Z ss vs R Q s0 s1 hm tv h q=>?_;unfold G9 at h;split at h
 ·rename_i s;obtain⟨v,rfl,t1⟩:=tv.one_inv;have rv:=t1.rp s0;split at h
  ·rename_i a b e;rw[e]at rv;obtain⟨p,us,rfl,hp,r1⟩:=Rp.tup_inv rv;obtain⟨x,y,rfl,q1,q2⟩:=r1.two_inv;rw[q1.int_inv,q2.int_inv]at hp;exact⟨p,a,b,rfl,SqT.of hp,q _ _ H1 h (Same.refl _) (.int _)⟩
  ·exact h.elim
 ·exact h.elim
end
section
variable {X:Cx}{k j:Nat}{x:Str}{ps:List Str}{sp:Sp}{e a b c:Expr}{es:List Expr}{t:TA}{te tf tg:TE}{p pos:Pos}
def fz(C:Callee X.prog X.w X.K X.mg X.base CX0 k x ps sp)(hr:Room j X.A)(ha:PA X (e::es) t)(hk:k<=j:=by decide)(hg:Gl X x:=by rfl)(hdb:(x==("__debug__" : Str))=false:=by decide)(he:starEach (e::es) X.env=(false,eval e X.env)::starEach es X.env:=by rfl)(hpl:(backTo pos (starEach es X.env)).any (·.1)=false:=by rfl) :
  PE X (.Call (.Name x p) (e::es) [] pos) (KO sp [] E0 t):=Xs C (hr.mono hk) UI ha hg hdb he hpl
def jx(K:Za)(ha:PE X a te)(hb:PE X b tf)(hK:X.K=K:=by rfl)(hs:EF b:=by intro _ _;rfl):PE X (.Subscript a b pos) (tOp (fun x y H Q=>rIxL K x y H Q\/rIxT K x y H Q) te tf):=Hj (AI hK) ha hb hs
def gz(i:Nat)(hN:X.N.Nodup)(hi:X.N[i]?=some x:=by rfl)(hx:Loc X.env.scope x:=by first|exact Or.inl rfl|exact Or.inr rfl)(hf:X.fn x=true\/X.env.scope.names.lookup x=some .local:=by first|exact .inl rfl|exact .inr rfl|assumption):PG X (.Name x pos) (P8 i):=Bv hN hi hx hf
def ln(K:Za)(hm:X.mg "len"=none)(ha:PE X a te)(hK:X.K=K:=by rfl)(hg:Gl X "len":=by rfl)(hs:starEach [a] X.env=(false,eval a X.env)::starEach [] X.env:=by rfl)(hpl:(backTo pos (starEach [] X.env)).any (·.1)=false:=by rfl) :
  PE X (.Call (.Name "len" p) [a] [] pos) (tCB (fun xs H Q=>∃x n,xs=[x]/\LenV K x H n/\Q (.int (n:Nat)) H) (UU te tNil)):=UV (Zci hK) hg hm PySem.boot_len (JU ha Uv hs) (by decide) (by decide) hs hpl
def cq(K:Za)(hr:Room j X.A)(ha:PE X a te)(hb:PE X b tf)(hK:X.K=K:=by rfl):PT X (.Compare a [.Eq] [b] pos) (Sw (tOp (fun x y H Q=>rEq x y H Q\/rEqL K false x y H Q) te tf)):=Ui (PR hr.units0 hK) ha hb (Ul _)
def cn(K:Za)(hr:Room j X.A)(ha:PE X a te)(hb:PE X b tf)(hK:X.K=K:=by rfl):PT X (.Compare a [.NotEq] [b] pos) (Sw (tOp (fun x y H Q=>rNe x y H Q\/rEqL K true x y H Q) te tf)):=Ui (L8 hr.units0 hK) ha hb (Ul _)
def az(ha:PE X a te)(h1:starEach [a] X.env=(false,eval a X.env)::starEach [] X.env:=by rfl):PA X [a] (UU te tNil):=JU ha Uv h1
def bz(ha:PE X a te)(hb:PE X b tf)(h1:starEach [a,b] X.env=(false,eval a X.env)::starEach [b] X.env:=by rfl)(h2:starEach [b] X.env=(false,eval b X.env)::starEach [] X.env:=by rfl):PA X [a,b] (UU te (UU tf tNil)):=JU ha (JU hb Uv h2) h1
def dz(ha:PE X a te)(hb:PE X b tf)(hc:PE X c tg)(h1:starEach [a,b,c] X.env=(false,eval a X.env)::starEach [b,c] X.env:=by rfl)(h2:starEach [b,c] X.env=(false,eval b X.env)::starEach [c] X.env:=by rfl)(h3:starEach [c] X.env=(false,eval c X.env)::starEach [] X.env:=by rfl):PA X [a,b,c] (UU te (UU tf (UU tg tNil))):=JU ha (JU hb (JU hc Uv h3) h2) h1
end
section
variable {K:Za}{mg:Str->Option Value}{E:L2.St->XK}{ta tb tc:TE}{a b c:PTE}
def sz(ha:SndE K mg E ta a):SndA K mg E (UU ta tNil) (Pr a pNil):=Ud ha Uj
def tz(ha:SndE K mg E ta a)(hb:SndE K mg E tb b):SndA K mg E (UU ta (UU tb tNil)) (Pr a (Pr b pNil)):=Ud ha (sz hb)
def uz(ha:SndE K mg E ta a)(hb:SndE K mg E tb b)(hc:SndE K mg E tc c):SndA K mg E (UU ta (UU tb (UU tc tNil))) (Pr a (Pr b (Pr c pNil))):=Ud ha (tz hb hc)
end
section
variable {K:Za}{h:Heap}{mg:Str->Option Value}{C C':Addr}{x m q:Str}{st:Stmt}{ps:List Str}
abbrev Bd(x q:Str)(st:Stmt)(ps:List Str):Prop:=∀(kV doc pm:Value) (an:Option Addr) (cdv ct:Value) (us:List Value),us.length=ps.length->bindArgs (PySem.W.fnOf x q (Ka st) (UZ st) (JR st) .none kV doc pm an cdv ct) ⟨us,[]⟩=pure (ps.zip us)
def DI.e (D:DI K x st) (X:K.In h) (G0:h.Ns mainGlobals mg) (b:Bd x x st ps:=by
  intro _ _ _ _ _ _ us hl
  first
   |(obtain⟨_,rfl⟩:=Pu.len1 hl;rfl)
   |(obtain⟨_,_,rfl⟩:=Pu.len2 hl;rfl)
   |(obtain⟨_,_,_,rfl⟩:=Pu.len3 hl;rfl)
   |(obtain⟨_,_,_,_,rfl⟩:=Pu.len4 hl;rfl)
   |(obtain⟨_,_,_,_,_,rfl⟩:=Pu.len5 hl;rfl)):Def K mg x st ps:=D.d X G0 b
def MI.e (D:MI K C m q st) (e:C'=C) (b:Bd m q st ps:=by
  intro _ _ _ _ _ _ us hl
  first
   |(obtain⟨_,rfl⟩:=Pu.len1 hl;rfl)
   |(obtain⟨_,_,rfl⟩:=Pu.len2 hl;rfl)
   |(obtain⟨_,_,_,rfl⟩:=Pu.len3 hl;rfl)
   |(obtain⟨_,_,_,_,rfl⟩:=Pu.len4 hl;rfl)):DefM K (Meth K C' m) m q st ps:=D.d e b
def MI.j (D:MI K C "__init__" q st) (e:C'=C) (mk:PySem.W.makesIn K C=true) (kc:PySem.W.keepIn K (.ref C)=true) (b:Bd "__init__" q st ps:=by
  intro _ _ _ _ _ _ us hl
  first
   |(obtain⟨_,rfl⟩:=Pu.len1 hl;rfl)
   |(obtain⟨_,_,rfl⟩:=Pu.len2 hl;rfl)
   |(obtain⟨_,_,_,rfl⟩:=Pu.len3 hl;rfl)):DefM K (Mk K C') "__init__" q st ps:=D.i e mk kc b
end
section
variable {P:Program}{w:World}{K:Za}{mg:Str->Option Value}{base:Heap}{N ps:List Str}{sp:Sp}{p:PTS}{x q:Str}{st:Stmt}{k:Nat}{W:Addr->Prop}
structure Uz (K:Za) (mg:Str->Option Value) (N ps:List Str) (sp:Sp) (p:PTS):Prop where
 len:∀vs H Q E,sp vs H Q E->vs.length=ps.length
 run:∀vs H Q E t,sp vs H Q E->SndS K mg (fun _=>E) t p->t {nx:=fun _ H'=>Q .non H',rt:=Q} (start N vs) H
def Uz.a {c:Pc} (hp:∀ds R X,c ds R X->ds.length=ps.length/\p {nx:=fun _=>R (.sh .non),rt:=R,ex:=fun _ e=>X e} (Kr N ds)) (hn:ps.length<=N.length:=by decide):Uz K mg N ps (spOf mg c K) p:=
 ⟨fun _ _ _ _ h=>LY h fun ds R X z=>(hp ds R X z).1,fun _ _ _ _ _ h s=>Rt h s hn hp⟩
def Uz.b {c:Pq} (hp:∀ss R X,c ss R X->ss.length=ps.length/\p {nx:=fun _=>R (.sh .non),rt:=R,ex:=fun _ e=>X e} (Pb N ss)) (hn:ps.length<=N.length:=by decide):Uz K mg N ps (spS mg c K) p:=
 ⟨fun _ _ _ _ h=>HV h fun ds R X z=>(hp ds R X z).1,fun _ _ _ _ _ h s=>HU h s hn hp⟩
def Uz.c {c:Pw}{y:Str} (hp:∀o ss R X,c o ss R X->ss.length=ps.length/\p (Ey o R X) (KI N o ss)) (hn:ps.length+1<=N.length:=by decide):Uz K mg N (y::ps) (spW mg c K) p:=
 ⟨fun _ _ _ _ h=>Zbv h fun o ds R X z=>(hp o ds R X z).1,fun _ _ _ _ _ h s=>O3 h s hn hp⟩
def Uz.d {c:Pw2}{y z:Str} (hp:∀o1 o2 ss R X,c o1 o2 ss R X->ss.length=ps.length/\p (E2 o1 o2 R X) (Kh N o1 o2 ss)) (hn:ps.length+2<=N.length:=by decide):Uz K mg N (y::z::ps) (spW2 mg c K) p:=
 ⟨fun _ _ _ _ h=>OI h fun o1 o2 ds R X z=>(hp o1 o2 ds R X z).1,fun _ _ _ _ _ h s=>OV h s hn hp⟩
def _root_.Own.Def.oz (D:Def K mg x st ps) (S:FnScope N ps (JR st))
  (tr:∀(f:Addr) (cdv:Value) (A:Around) (outer:List Env) (s:Shared) (H:Hp) (E:XK),Room k (A.deeper (envOfC x (JR st) s.heap.objs.size f cdv))->
   ∃t,PSs (cxOf CX0 P w K mg base N x (JR st) f cdv A outer s H E).nox (UZ st) t/\SndS K mg (fun _=>E) t p) (u:Uz K mg N ps sp p):Callee P w K mg base CX0 (k+1) x ps sp:=
 D.ok S u.len fun f cdv A outer s H vs Q E hr h=>(tr f cdv A outer s H E hr).elim fun t z=>⟨t,z.1,u.run _ _ _ _ _ h z.2⟩
def _root_.Own.Def.ox (D:Def K mg x st ps) (S:FnScope N ps (JR st))
  (tr:∀(f:Addr) (cdv:Value) (A:Around) (outer:List Env) (s:Shared) (H:Hp) (E:XK),Room k (A.deeper (envOfC x (JR st) s.heap.objs.size f cdv))->
   ∃t,PSs (cxOf (ExcR.CXe P w) P w K mg base N x (JR st) f cdv A outer s H E) (UZ st) t/\SndS K mg (fun _=>E) t p) (u:Uz K mg N ps sp p):Callee P w K mg base (ExcR.CXe P w) (k+1) x ps sp:=
 ExcR.Def.okX D S u.len fun f cdv A outer s H vs Q E hr h=>(tr f cdv A outer s H E hr).elim fun t z=>⟨t,z.1,u.run _ _ _ _ _ h z.2⟩
def DefM.oz (D:DefM K W x q st ps) (S:FnScope N ps (JR st))
  (tr:∀(f:Addr) (cdv:Value) (A:Around) (outer:List Env) (s:Shared) (H:Hp) (E:XK),Room k (A.deeper (envOfC q (JR st) s.heap.objs.size f cdv))->
   ∃t,PSs (cxOf CX0 P w K mg base N q (JR st) f cdv A outer s H E).nox (UZ st) t/\SndS K mg (fun _=>E) t p) (u:Uz K mg N ps sp p):CalleeM P w K mg base CX0 (k+1) W ps sp:=
 D.ok S u.len fun f cdv A outer s H vs Q E hr h=>(tr f cdv A outer s H E hr).elim fun t z=>⟨t,z.1,u.run _ _ _ _ _ h z.2⟩
def DefM.ox (D:DefM K W x q st ps) (S:FnScope N ps (JR st))
  (tr:∀(f:Addr) (cdv:Value) (A:Around) (outer:List Env) (s:Shared) (H:Hp) (E:XK),Room k (A.deeper (envOfC q (JR st) s.heap.objs.size f cdv))->
   ∃t,PSs (cxOf (ExcR.CXe P w) P w K mg base N q (JR st) f cdv A outer s H E) (UZ st) t/\SndS K mg (fun _=>E) t p) (u:Uz K mg N ps sp p):CalleeM P w K mg base (ExcR.CXe P w) (k+1) W ps sp:=
 D.okX S u.len fun f cdv A outer s H vs Q E hr h=>(tr f cdv A outer s H E hr).elim fun t z=>⟨t,z.1,u.run _ _ _ _ _ h z.2⟩
end
section
variable {K:Za}{h:Heap}{mg:Str->Option Value}{x:Str}{C:Addr}
structure EI (K:Za) (x:Str) (C:Addr):Prop where
 a:PySem.W.nsIn K mainGlobals x=some (some (.ref C))
 g:ExcR.ErrGet K C
def ei{d:ClassData}(a:PySem.W.nsIn K mainGlobals x=some (some (.ref C)))(q:PySem.W.excIn K C [.type "ValueError",.type "Exception",.type "BaseException",.type "object"] "ValueError.__new__"=true)(ga:PySem.W.findIn K (.ref C) "__getattribute__"=some (some (.builtin "BaseException.__getattribute__")))(gt:PySem.W.findIn K (.ref C) "__getattr__"=some none)(cl:PySem.W.findIn K (.ref C) "__class__"=some (some (.builtin "object.__class__")))(i:PySem.W.clsIn K C=some d):EI K x C:=⟨a,⟨⟨q⟩,ga,gt,cl,by rw[i];rfl⟩⟩
def EI.c (y:EI K x C) (X:K.In h) (G0:h.Ns mainGlobals mg):ExcR.JP mg x=C:=ExcR.Dm (Wu X G0 y.a)
def EI.m (y:EI K x C) (X:K.In h) (G0:h.Ns mainGlobals mg):mg x=some (.ref (ExcR.JP mg x)):=by rw[y.c X G0];exact Wu X G0 y.a
def EI.k (y:EI K x C) (X:K.In h) (G0:h.Ns mainGlobals mg):ExcR.ErrGet K (ExcR.JP mg x):=by rw[y.c X G0];exact y.g
end
section
variable {K:Za}{mg:Str->Option Value}{E:L2.St->XK}{H0 H H1 H':Hp}{B Z Z':Addr->Prop}{σ:L2.St}{γ:Γ}
def Zep{cs:List (Addr×List D)}{k:Int}{j:Nat}{c:Addr×List D}(h1:ixN cs.length k=some j)(h2:cs[j]?=some c):atI (cs.map fun c=>V.ref c.1) k=some (.ref c.1):=by
 unfold atI;rw[Ym,h1];show(cs.map fun c=>V.ref c.1)[j]?=_;rw[Yt,h2];rfl
end
def NoFld.of {m:Str}:∀{xs:List Str},(xs.all fun x=>!(m==x))=true->NoFld m xs
 |[],_,_=>rfl
 |_::_,_,[]=>rfl
 |x::xs,h,v::vs=>by
  rw[Vb,Wc]at h;show(match m==x with|true=>some v|false=>(xs.zip vs).lookup m)=none
  rw[show(m==x)=false by simpa using h.1];exact NoFld.of h.2 vs
def FldAt.of {f:Str} (h0:(f==f)=true):∀{xs:List Str}{j:Nat},((xs.take j).all fun x=>!(f==x))=true->xs[j]?=some f->FldAt f xs j
 |[],_,_,e,_,_=>by simp at e
 |_::_,_,_,_,[],e=>by cases e
 |x::xs,0,_,e,v::vs,_=>by
  simp at e;subst e;show(match x==x with|true=>some v|false=>(xs.zip vs).lookup x)=some v
  rw[h0]
 |x::xs,j+1,h,e,v::vs,l=>by
  rw[List.take_succ_cons,Vb,Wc]at h;show(match f==x with|true=>some v|false=>(xs.zip vs).lookup f)=(v::vs)[j+1]?
  rw[show(f==x)=false by simpa using h.1];exact FldAt.of h0 (j:=j) h.2 (by simpa using e) vs (by simpa using l)
def PutAt.of {f:Str}:∀{xs:List Str},(xs.all fun x=>decide (x≠f))=true->PutAt f xs
 |[],_,[],_,_=>rfl
 |[],_,_::_,_,e=>by cases e
 |_::_,_,[],_,e=>by cases e
 |x::xs,h,v::vs,y,e=>by
  rw[Vb,Wc]at h;show(if x=f then(x,y)::xs.zip vs else(x,v)::putF f y (xs.zip vs))=(x,v)::(xs++[f]).zip (vs++[y]);rw[Yp (Yu h.1),PutAt.of h.2 vs y (by simpa using e)]
end Pu
namespace Own
open PySem PySem.Spec PyProof.Rows L2
section
variable {X:Cx}{K:Za}
def AM(hK:X.K=K:=by rfl):PGet X (rIxL K):=by
 subst hK;intro pins s σ H x y v u Q I rx ry h;obtain⟨p,xs,i,z,rfl,rfl,hq,he,q⟩:=h;cases rx
 obtain⟨t,rfl⟩:=ry;obtain⟨its,r,pl,hz⟩:=I.list hq;obtain⟨j,h1,h2,h3,h4,h5⟩:=Bh he;obtain⟨w,ew,rw'⟩:=r.get h2;have hl:=r.length;have hn:=Ta;have fin:EP X pins σ Q w s:=⟨z,H,I,rw',q⟩;by_cases h0:0<=i
 ·have hj:i.toNat=j:=by
   rw[seqIndex_of h0 h5]at h1;exact Yz h1
  exact wpAny_getItem_list pl.isList h0 (by omega) (by rw[hj];simpa using ew) fin
 ·have hj:(i+(its.toArray.size:Int)).toNat=j:=by
   rw[seqIndex_neg (by omega) h4]at h1;rw[Y0,←hl];exact Yz h1
  exact wpAny_getItem_list_neg pl.isList (by omega) (by rw[Y0]<;>omega) (by omega) (by rw[hj];simpa using ew) fin
end
end Own
namespace Pu
open PySem PySem.Spec PyProof.Rows L2 Own
section
variable {K:Za}{mg:Str->Option Value}{E:L2.St->XK}{H0 H H1 H':Hp}{B Z Z':Addr->Prop}{σ:L2.St}{γ:Γ}
def Nq{ta tb:TE}{a b:PTE}(ha:SndE K mg E ta a)(hb:SndE K mg E tb b):SndE K mg E (tOp (rI CPow fun i j=>.int (i*2 ^ j.toNat)) ta tb) (p2 a b (fI CPow fun i j=>.int (i*2 ^ j.toNat))):=se_I (fun _ _ _=>.int _) ha hb
def BJ{ta tb:TE}{a b:PTE}(ha:SndE K mg E ta a)(hb:SndE K mg E tb b):SndE K mg E (tOp (rI (fun _ j=>0<=j) fun i j=>.int (i / 2 ^ j.toNat)) ta tb) (p2 a b (fI (fun _ j=>0<=j) fun i j=>.int (i / 2 ^ j.toNat))):=se_I (fun _ _ _=>.int _) ha hb
def Ss{ta tb:TE}{a b:PTE}(ha:SndE K mg E ta a)(hb:SndE K mg E tb b):SndE K mg E (tOp (rI0 fun i j=>.int (Builtin.bitAnd i j)) ta tb) (p2 a b (fI0 fun i j=>.int (Builtin.bitAnd i j))):=Pg (fun _ _ _=>.int _) ha hb
def Hg(i:Nat)(f:Int->Int->Int)(b a:PTE):PTS:=fun R γ=>match γ[i]? with
 |some (some (.own (.lst ds)))=>b γ (fun y=>match y.d with
  | .int k=>∃j x,ixN ds.length k=some j/\ds[j]?=some (.int x)/\a γ (fun s=>match s.d with
   | .int z=>R.nx (γ.set i (some (.own (.lst (ds.set j (.int (f x z)))))))
   |_=>False) (R.ex γ)
  |_=>False) (R.ex γ)
 |_=>False
def Ze1(i:Nat){f:Int->Int->Int}{tb te:TE}{a b:PTE}(hb:SndE K mg E tb b)(ha:SndE K mg E te a):SndS K mg E (Bo (tVar i) tb te (rIxL K) (rI0 fun i j=>.int (f i j)) SZ) (Hg i f b a):=by
 intro H0 B H σ γ R D hB env h e;have hx:∀c H',R.ex γ c->Same H H'->E σ (.ref (ExcR.JP mg c)) none H':=fun c H' hc S'=>e.ex σ γ c H' hc (env.grow S') (Fr.grow S');unfold Hg at h;split at h
 ·rename_i ds hi;obtain⟨v,hv,l,rfl,hb0,us,hl,ru⟩:=env.slot i _ hi;refine⟨_,hv,hb H0 B H σ γ _ _ _ env h (fun y w H1 h1 S1 t1=>?_) hx⟩;have env1:=env.grow S1;have ry:=t1.rp env1.same;split at h1
  ·rename_i k ek;rw[ek]at ry;obtain⟨j,x,h3,h4,h5⟩:=h1;obtain⟨u0,g1,g2⟩:=ru.get h4;have eu:=g2.int_inv;subst eu;refine⟨l,us,k,.int x,rfl,ry.int_inv,SqL.of (S1 _ _ hl),?_,?_⟩
   ·unfold atI;rw[ru.len,h3];exact g1
   refine ha H0 B H1 σ γ _ _ _ env1 h5 (fun s u H2 h2 S2 t2=>?_) fun c H' hc S'=>hx c H' hc (S1.trans S');have env2:=env1.grow S2;have rs:=t2.rp env2.same;split at h2
   ·rename_i z ez;rw[ez]at rs;refine⟨x,z,rfl,rs.int_inv,?_⟩;refine⟨l,us,k,j,rfl,ry.int_inv,(S1.trans S2) _ _ hl,by rw[ru.len];exact h3,?_⟩;obtain⟨e2,f2⟩:=env2.mutate (es:=.lst (ds.set j (.int (f x z)))) (us:=.lst (us.set j (.int (f x z)))) hi hv trivial fun F H' SF hF=>⟨_,hF,Rps.mono SF (Rps.set (.int _) j (Rps.mono (Uk (S1.trans S2) fun _ _ _ z=>z) ru))⟩;exact e.nx _ _ _ h2 e2 ((Fr.grow (S1.trans S2)).trans f2)
   ·exact h2.elim
  ·exact h1.elim
 ·exact h.elim
def EnvR.cellL {i j:Nat}{x:Addr}{cs:List (Addr×List D)}{b:Addr}{ds es:List D}{us:List V} (env:EnvR K H0 B H σ γ) (hi:γ[i]?=some (some (.own (.nsl x cs)))) (hj:cs[j]?=some (b,ds)) (r:Rps K (off (zof B γ σ) H) es us) :
  EnvR K H0 B (upd H b (.lst us)) σ (γ.set i (some (.own (.nsl x (cs.set j (b,es))))))/\Fr B H σ γ (upd H b (.lst us)) σ (γ.set i (some (.own (.nsl x (cs.set j (b,es)))))):=by
 obtain⟨v,hv,a,rfl,e0,e1,e3,e4,e5⟩:=env.slot i _ hi;subst e1;have hjl:j<cs.length:=(YD.mp hj).1;have hbm:(b,ds)∈cs:=Y7 hj;have e6:=YT.mp e5;have hab:a≠b:=fun z=>e6.1 (YL.mpr ⟨_,hbm,z.symm⟩)
 have em:(cs.set j (b,es)).map (·.1)=cs.map (·.1):=by
  apply QX;intro k;rw[Yt,Yt,VA];by_cases e:j=k
  ·subst e;rw[Yr rfl,Yr hjl,hj];rfl
  ·rw[Yp e]
 have em2:(cs.set j (b,es)).map (fun c=>V.ref c.1)=cs.map fun c=>V.ref c.1:=by
  have:=YQ (List.map V.ref) em
  rw[YR,YR]at this;exact this
 have adr:∀c,(O.nsl a (cs.set j (b,es))).adr a c->(O.nsl a cs).adr a c:=fun c hc=>by
  rcases hc with hc|⟨d,hd,hc⟩
  ·exact .inl hc
  ·have:d.1∈(cs.set j (b,es)).map (·.1):=Vz hd
   rw[em]at this;obtain⟨d',q1,q2⟩:=YL.mp this;exact .inr ⟨d',q1,hc.trans q2.symm⟩
 have zb:∀c,(O.nsl a cs).adr a c->zof B γ σ c:=fun c hc=>.inr ⟨i,_,a,hi,hv,hc⟩
 have So:Same (off (zof B γ σ) H) (off (zof B (γ.set i (some (.own (.nsl a (cs.set j (b,es)))))) σ) (upd H b (.lst us))):=fun c u h=>by
  obtain⟨q1,q2⟩:=XD h;have nb:c≠b:=fun z=>q2 (zb c (.inr ⟨_,hbm,z⟩));refine U7 (by rw[Um nb];exact q1) fun z=>q2 ?_;rcases z with z|⟨k,fs,a',k1,k2,k3⟩
  ·exact .inl z
  ·rcases U4 k1 with⟨ek,q,_⟩|⟨_,e⟩
   ·subst ek;cases q
    rw[hv]at k2;cases k2
    exact zb c (adr c k3)
   ·exact .inr ⟨k,fs,a',e,k2,k3⟩
 refine env.change hi hv (fun c u hu n=>?_) (fun c hc=>?_) (fun c hc=>.inl (adr c hc)) ⟨rfl,?_,fun c hc=>?_,by rw[em];exact e5⟩
 ·rw[Um fun z=>n (.inr ⟨_,hbm,z⟩)];exact hu
 ·by_cases z:c=b
  ·rw[z,U6];trivial
  ·rw[Um z];exact env.zm c (zb c hc)
 ·rw[em2,Um hab];exact e3
 ·obtain⟨k,hk,ek⟩:=V0 hc;have hk':(cs.set j (b,es))[k]?=some c:=by rw[Yl hk,ek]
  rcases U4 hk' with⟨_,q,_⟩|⟨nk,q⟩
  ·subst q;exact⟨us,U6,Rps.mono So r⟩
  ·obtain⟨ws,w1,w2⟩:=e4 c (Y7 q)
   have nb:c.1≠b:=fun z=>nk (by
    have h1:(cs.map (·.1))[k]?=some b:=by rw[Yt,q];exact YQ some z
    have h2:(cs.map (·.1))[j]?=some b:=by rw[Yt,hj];rfl
    exact SK e6.2 h1 h2)
   exact⟨ws,by rw[Um nb];exact w1,Rps.mono So w2⟩
def Gh(i:Nat)(f:Int->Int->Int)(c b a:PTE):PTS:=fun R γ=>match γ[i]? with
 |some (some (.own (.nsl x0 cs)))=>c γ (fun z=>match z.d with
  | .int k=>∃j e,ixN cs.length k=some j/\cs[j]?=some e/\b γ (fun y=>match y.d with
   | .int n=>∃m x,ixN e.2.length n=some m/\e.2[m]?=some (.int x)/\a γ (fun s=>match s.d with
    | .int z=>R.nx (γ.set i (some (.own (.nsl x0 (cs.set j (e.1,e.2.set m (.int (f x z))))))))
    |_=>False) (R.ex γ)
   |_=>False) (R.ex γ)
  |_=>False) (R.ex γ)
 |_=>False
def RR(i:Nat){f:Int->Int->Int}{tc tb te:TE}{a b c:PTE}(hc:SndE K mg E tc c)(hb:SndE K mg E tb b)(ha:SndE K mg E te a) :
  SndS K mg E (Bo (tOp (fun x y H Q=>rIxL K x y H Q\/rIxT K x y H Q) (tVar i) tc) tb te (rIxL K) (rI0 fun i j=>.int (f i j)) SZ) (Gh i f c b a):=by
 intro H0 B H σ γ R D hB env h e;have hx:∀c H',R.ex γ c->Same H H'->E σ (.ref (ExcR.JP mg c)) none H':=fun c H' hc S'=>e.ex σ γ c H' hc (env.grow S') (Fr.grow S');unfold Gh at h;split at h
 ·rename_i x0 cs hi;obtain⟨v,hv,l,rfl,e0,e1,e3,e4,e5⟩:=env.slot i _ hi;refine⟨_,hv,hc H0 B H σ γ _ _ _ env h (fun z w H1 h1 S1 t1=>?_) hx⟩;have env1:=env.grow S1;have rz:=t1.rp env1.same;split at h1
  ·rename_i k ek;rw[ek]at rz;obtain⟨j,c0,h3,h4,h5⟩:=h1;obtain⟨us,u1,u2⟩:=e4 c0 (Y7 h4);refine .inl ⟨l,_,k,.ref c0.1,rfl,rz.int_inv,SqL.of (S1 _ _ e3),Zep h3 h4,?_⟩;refine hb H0 B H1 σ γ _ _ _ env1 h5 (fun y w' H2 h6 S2 t2=>?_) fun c H' hc S'=>hx c H' hc (S1.trans S');have env2:=env1.grow S2;have S12:=S1.trans S2;have ry:=t2.rp env2.same;split at h6
   ·rename_i n en;rw[en]at ry;obtain⟨m,x,h7,h8,h9⟩:=h6;obtain⟨u0,g1,g2⟩:=u2.get h8;have eu:=g2.int_inv;subst eu;refine⟨c0.1,us,n,.int x,rfl,ry.int_inv,SqL.of (S12 _ _ u1),?_,?_⟩
    ·unfold atI;rw[u2.len,h7];exact g1
    refine ha H0 B H2 σ γ _ _ _ env2 h9 (fun s u H3 h10 S3 t3=>?_) fun c H' hc S'=>hx c H' hc (S12.trans S');have env3:=env2.grow S3;have S13:=S12.trans S3;have rs:=t3.rp env3.same;split at h10
    ·rename_i z ez;rw[ez]at rs;refine⟨x,z,rfl,rs.int_inv,?_⟩;refine⟨c0.1,us,n,m,rfl,ry.int_inv,S13 _ _ u1,by rw[u2.len];exact h7,?_⟩;obtain⟨k1,k2⟩:=env3.cellL (es:=c0.2.set m (.int (f x z))) (us:=us.set m (.int (f x z))) hi h4 (Rps.set (.int _) m (Rps.mono (Uk S13 fun _ _ _ z=>z) u2));exact e.nx _ _ _ h10 k1 ((Fr.grow S13).trans k2)
    ·exact h10.elim
   ·exact h6.elim
  ·exact h1.elim
 ·exact h.elim
structure CompNW (φ:List (Option Nat)) (γ:Γ) (g:PTG) (c:PTT) (e:PTE) (n:Nat) (item:Nat->S) (R:S->Prop):Prop where
 w:n<=100000/\∃f:Nat->List D,(∀i,i<n->g (item i) (atP φ γ) fun γ2=>c γ2 (fun b=>b=true/\e γ2 (fun s=>s=.own (.lst (f i))/\imms (f i)=true) (fun _=>False)) (fun _=>False))/\∀(x:Addr) (cs:List (Addr×List D)),cs.map (·.2)=(List.range n).map f->R (.own (.nsl x cs))
def Zat(φ:List (Option Nat))(it:PTI)(g:PTG)(c:PTT)(e:PTE):PTE:=fun γ R X=>it γ (fun n item=>CompNW φ γ g c e n item R) X
def R7{φ:List (Option Nat)}{is:List Nat}{wi:TI}{g:TG}{tc:TT}{te:TE}{it:PTI}{pg:PTG}{c:PTT}{a:PTE}(hi:NR K mg E wi it)(hg:KP K is g pg)(hc:SndT K mg E tc c)(he:SndE K mg E te a)(h1:(φ.filterMap id).Nodup:=by decide)(h2:∀j∈is,φ[j]?=some none:=by decide):SndE K mg E (TQ φ wi g tc te) (Zat φ it pg c a):=by
 intro H0 B H σ γ R X Q env h q qx;refine hi H0 B H σ γ _ X _ env h (fun n item J H1 h1' S1 ok=>?_) qx;obtain⟨hn,f,hf,hR⟩:=h1'.w;have env1:=env.grow S1;have hbig:n<=sizeLine:=Y4 hn (by decide);intro L nL
 refine⟨fun i m ys H2=>m=n-i/\i<=n/\Same H1 H2/\H2 L=some (.lst ys)/\∃cs:List (Addr×List D),ys=cs.map (fun c=>V.ref c.1)/\cs.map (·.2)=(List.range i).map f/\(∀c∈cs,H c.1=none/\imms c.2=true/\∃vs,H2 c.1=some (.lst vs)/\Rps K (off (fun b=>b=L) H2) c.2 vs)/\(L::cs.map (·.1)).Nodup,
  ⟨n,by simp,Ww _,UP nL,U6,[],rfl,rfl,(fun c hc=>nomatch hc),by simp⟩,?_⟩
 rintro i m ys H2 ⟨rfl,hin,S2,hL,cs,rfl,ec,hcs,hnd⟩;have env2:=env1.grow S2;by_cases hlt:i<n
 ·have envI2:=GV (φ:=φ) env1 S2 nL ⟨_,hL⟩ h1;obtain⟨go,yl⟩:=ok.go i H2 _ hlt S2 ⟨env2.same,envI2.zm,fun b o hb z=>⟨S2 _ _ hb,FM env1 nL b o hb z⟩⟩;refine .inr ⟨go,fun x H3 y=>?_⟩;obtain⟨S3,tv⟩:=yl x H3 y;refine hg H0 _ H2 H3 _ _ _ _ _ _ envI2 S3 tv (hf i hlt) fun σ2 γ2 p2 e2 f2 k2=>⟨?_,?_⟩
  ·refine Sub.of (is:=is) k2.2 k2.1 fun j hj v z=>?_;obtain⟨k,k1,_⟩:=BZ z;rw[h2 j hj]at k1;cases k1
  ·refine hc H0 _ H3 σ2 γ2 _ _ _ e2 p2 (fun b H5 q5 S5=>?_) fun _ _ z=>z.elim;have e5:=e2.grow S5;obtain⟨rfl,q5⟩:=q5;rw[Yr rfl];refine he H0 _ H5 σ2 γ2 _ _ _ e5 q5 (fun s v H6 q6 S6 t6=>?_) fun _ _ z=>z.elim;obtain⟨rfl,him⟩:=q6;obtain⟨a,rfl,a0,vs,a1,a2⟩:=t6;have S25:=S3.trans S5;have S26:=S25.trans S6;have na:H5 a=none:=a0 a rfl;have aL:a≠L:=fun z=>by have:=S25 _ _ hL;rw[←z,na]at this;cases this
   have hlen:(cs.map fun c=>V.ref c.1).length<=i:=by
    have:=YQ List.length ec
    rw[Ym,Ym,WJ]at this;rw[Ym];omega
   have So:Same (off (fun b=>b=L) H6) (off (fun b=>b=L) (upd H6 L (.lst ((cs.map fun c=>V.ref c.1)++[V.ref a])))):=fun b o h=>by
    obtain⟨k1,k2⟩:=XD h;exact U7 (by rw[Um k2];exact k1) k2
   refine⟨S26 _ _ hL,by omega,n-(i+1),by omega,rfl,hlt,fun b o hb=>?_,U6,cs++[(a,f i)],by rw[Y8];rfl,by rw[Y8,ec,QB,Y8];rfl,fun c hc=>?_,?_⟩
   ·rw[Um (X6 hb nL)];exact S26 _ _ (S2 _ _ hb)
   ·rcases YG.mp hc with hc|hc
    ·obtain⟨k1,k2,us,k3,k4⟩:=hcs c hc;have cL:c.1≠L:=fun z=>(YT.mp hnd).1 (YL.mpr ⟨c,hc,z⟩);exact⟨k1,k2,us,by rw[Um cL];exact S26 _ _ k3,Rps.mono So (Rps.mono (Uk S26 fun _ _ _ z=>z) k4)⟩
    ·rw[Yx.mp hc];refine⟨(S1.trans (S2.trans S25)).free na,him,vs,by rw[Um aL];exact a1,Rps.mono So (Rps.off (fun b z=>?_) (Rps.mono off_sub a2) him)⟩;rw[z,S26 _ _ hL];trivial
   ·rw[Y8];show((L::cs.map (·.1))++[a]).Nodup;refine Wt.mpr ⟨hnd,by simp,fun b hb d hd z=>?_⟩;rw[Yx.mp hd]at z;rcases Y2.mp hb with k|k
    ·exact aL (z.symm.trans k)
    ·obtain⟨c,hc,ec⟩:=YL.mp k;obtain⟨_,_,us,k3,_⟩:=hcs c hc
     have:=S25 _ _ k3
     rw[ec,z,na]at this;cases this
 ·have:i=n:=by omega
  subst this
  have hm:∀b,zof B γ σ b\/(O.nsl L cs).adr L b->Mut (H2 b):=fun b z=>by
   rcases z with z|z|⟨c,hc,z⟩
   ·exact env2.zm b z
   ·rw[z,hL];trivial
   ·obtain⟨_,_,us,k3,_⟩:=hcs c hc;rw[z,k3];trivial
  refine .inl ⟨ok.stop H2 _ S2 (Later.of env2 (Fr.grow S2)),q _ _ H2 (hR L cs ec) (S1.trans S2) ⟨L,rfl,fun b hb=>?_,rfl,hL,fun c hc=>?_,hnd⟩⟩
  ·rcases hb with hb|⟨c,hc,hb⟩
   ·rw[hb];exact S1.free nL
   ·rw[hb];exact(hcs c hc).1
  ·obtain⟨_,k2,us,k3,k4⟩:=hcs c hc;exact⟨us,k3,Rps.off hm (Rps.mono off_sub k4) k2⟩
end
end Pu
namespace M
open PySem PySem.Spec PyProof.Rows L2 Own Pu
def insN(n m:Nat):List Nat:=(List.range n).filter fun j=>m.testBit j
def insM(hs:List Int)(m:Nat):List Int:=(insN hs.length m).map fun j=>hs.getD j 0
def SB{r:List Int}{h:Int}{j:Nat}(hj:j<r.length):(r++[h]).getD j 0=r.getD j 0:=by
 rw[Yo,Yo,YI hj]
def En(r:List Int)(h:Int):(r++[h]).getD r.length 0=h:=by
 rw[Yo,YK (Yy _),Vu];rfl
def Nn{hs:List Int}{j:Nat}(h:j<hs.length):hs.getD j 0∈hs:=by
 rw[Yo,Yl h];exact YC h
def TC{hs:List Int}(nd:hs.Nodup){i j:Nat}(hi:i<hs.length)(hj:j<hs.length)(e:hs.getD i 0=hs.getD j 0):i=j:=by
 rw[Yo,Yl hi,Yo,Yl hj]at e;exact(List.getElem_inj (h₀:=hi) (h₁:=hj) nd).mp e
def Dn{r:List Int}{h:Int}{m:Nat}(hm:m<2 ^ r.length):insM (r++[h]) m=insM r m:=by
 unfold insM insN;rw[Yw,YO,QB,Qr];have e:([r.length].filter fun j=>m.testBit j)=[]:=by simp[Qw hm]
 rw[e,Wb];refine W2 fun j hj=>?_;exact SB (YS.mp (Y3.mp hj).1)
def CS{r:List Int}{h:Int}{m:Nat}(hm:m<2 ^ r.length):insM (r++[h]) (2 ^ r.length+m)=insM r m++[h]:=by
 unfold insM insN;rw[Yw,YO,QB,Qr];have e:([r.length].filter fun j=>(2 ^ r.length+m).testBit j)=[r.length]:=by simp[Nat.testBit_two_pow_add_eq,Qw hm]
 have e2:(List.range r.length).filter (fun j=>(2 ^ r.length+m).testBit j)=(List.range r.length).filter fun j=>m.testBit j:=
  List.filter_congr fun j hj=>Nat.testBit_two_pow_add_gt (YS.mp hj) m
 rw[e,e2,Y8,QL,En];congr 1;refine W2 fun j hj=>?_;exact SB (YS.mp (Y3.mp hj).1)
def insM_mem{hs:List Int}{m:Nat}{x:Int}:x∈insM hs m↔∃j,j<hs.length/\m.testBit j=true/\hs.getD j 0=x:=by
 unfold insM insN;rw[YL];constructor
 ·rintro⟨j,hj,e⟩;obtain⟨h1,h2⟩:=Y3.mp hj;exact⟨j,YS.mp h1,h2,e⟩
 ·rintro⟨j,h1,h2,e⟩;exact⟨j,Y3.mpr ⟨YS.mpr h1,h2⟩,e⟩
def DZ{k m:Nat}(h:m<2 ^ (k+1))(h2:¬m<2 ^ k):∃m',m'<2 ^ k/\m=2 ^ k+m':=⟨m-2 ^ k,by rw[Nat.pow_succ]at h;omega,by omega⟩
def Pj(hs:List Int):∀m,m<2 ^ hs.length->(Uo hs)[m]?=some (insM hs m):=by
 refine Pa (P:=fun hs=>∀m,m<2 ^ hs.length->(Uo hs)[m]?=some (insM hs m)) (fun m hm=>?_) (fun r h ih m hm=>?_) hs
 ·have:m=0:=by simpa using hm
  subst this;rfl
 ·rw[Yw,YO]at hm;rw[K0];by_cases c:m<2 ^ r.length
  ·rw[YI (by rw[XB];exact c),ih m c,Dn c]
  ·obtain⟨m',h1,rfl⟩:=DZ hm c;rw[YK (by rw[XB];omega),XB,QS,Yt,ih m' h1,CS h1];rfl
def Mi{ms:List Int}{h l:Int}(ne:h≠l):Ua (ms++[h]) l=Ua ms l++[h]:=by
 unfold Ua;rw[Qr];congr 1;simp[ne]
def Zey{ms:List Int}{h:Int}(hn:h∉ms):Ua (ms++[h]) h=ms:=by
 unfold Ua;rw[Qr,Vx.mpr fun x hx=>Yq (show x≠h from fun e=>hn (e▸hx))]
 simp
def Aq(hs:List Int):hs.Nodup->∀m j,m<2 ^ hs.length->j<hs.length->m.testBit j=true->(Uo hs)[m-2 ^ j]?=some (Ua (insM hs m) (hs.getD j 0)):=by
 refine Pa (P:=fun hs=>hs.Nodup->∀m j,m<2 ^ hs.length->j<hs.length->m.testBit j=true->(Uo hs)[m-2 ^ j]?=some (Ua (insM hs m) (hs.getD j 0))) (fun _ m j _ hj _=>by simp at hj) (fun r h ih nd m j hm hj hb=>?_) hs;obtain⟨n1,_,n2⟩:=Wt.mp nd;have hnr:h∉r:=fun z=>n2 h z h (by simp) rfl;rw[Yw,YO]at hm hj;rw[K0];by_cases c:m<2 ^ r.length
 ·have hjk:j<r.length:=by
   rcases Q0 j r.length with z|z
   ·exact z
   ·have:j=r.length:=by omega
    rw[this,Qw c]at hb;cases hb
  rw[YI (by rw[XB];exact Wp (QO _ _) c),ih n1 m j c hjk hb,Dn c,SB hjk]
 ·obtain⟨m',h1,rfl⟩:=DZ hm c;rw[CS h1];by_cases e:j=r.length
  ·rw[e,QS,YI (by rw[XB];exact h1),Pj r m' h1,En,Zey fun z=>?_];obtain⟨i,hi,_,ex⟩:=insM_mem.mp z;exact hnr (ex▸Nn hi)
  ·have hjk:j<r.length:=by omega
   rw[Nat.testBit_two_pow_add_gt hjk]at hb;have hge:=WE hb;have hne:h≠r.getD j 0:=fun z=>hnr (z▸Nn hjk);rw[SB hjk,Mi hne,YK (by rw[XB];omega),XB,show 2 ^ r.length+m'-2 ^ j-2 ^ r.length=m'-2 ^ j by omega,Yt,ih n1 m' j h1 hjk hb];rfl
def NA{hs:List Int}(nd:hs.Nodup)(m:Nat):(insM hs m).Nodup:=by
 unfold insM insN;rw[List.Nodup,List.pairwise_map];refine(List.Pairwise.and_mem.mp (List.nodup_range.filter _)).imp fun {a b} h e=>?_;have h1:=YS.mp (Y3.mp h.1).1;have h2:=YS.mp (Y3.mp h.2.1).1;exact h.2.2 (TC nd h1 h2 e)
def Ml{ws:List (Int×Int)}{c:Int->Int->Int}{hs vs:List Int}(nd:hs.Nodup)(hw:∀q∈ws,q.1≠q.2)(hl:Nb hs ws)(T:TabV ws c (Uo hs) vs){m:Nat}(h0:0<m)(hm:m<2 ^ hs.length) :
  (∀j,j<hs.length->m.testBit j=true->Xc ws (insM hs m) (hs.getD j 0)=true->vs.getD m 0<=vs.getD (m-2 ^ j) 0+((Ua (insM hs m) (hs.getD j 0)).map (c · (hs.getD j 0))).sum)/\
  ∃j,j<hs.length/\m.testBit j=true/\Xc ws (insM hs m) (hs.getD j 0)=true/\vs.getD m 0=vs.getD (m-2 ^ j) 0+((Ua (insM hs m) (hs.getD j 0)).map (c · (hs.getD j 0))).sum:=by
 have lv:vs.length=2 ^ hs.length:=T.1.trans (XB hs);have at_:∀k,k<vs.length->vs[k]?=some (vs.getD k 0):=fun k hk=>by rw[Yo,Yl hk];rfl
 have L:Least ws c (insM hs m) (vs.getD m 0):=T.2 m _ _ (Pj hs m hm) (at_ m (by omega));have key:∀j,j<hs.length->m.testBit j=true->Least ws c (Ua (insM hs m) (hs.getD j 0)) (vs.getD (m-2 ^ j) 0):=fun j hj hb=>T.2 _ _ _ (Aq hs nd m j hm hj hb) (at_ _ (by rw[lv];exact Wp (QO _ _) hm))
 have idx:∀j,j<hs.length->hs.idxOf (hs.getD j 0)=j:=fun j hj=>by
  rw[Yo,Yl hj];exact nd.idxOf_getElem j hj
 have hv:∀l∈insM hs m,Least ws c (Ua (insM hs m) l) ((fun l=>vs.getD (m-2 ^ hs.idxOf l) 0) l):=fun l h=>by
  obtain⟨j,hj,hb,rfl⟩:=insM_mem.mp h;show Least _ _ _ (vs.getD (m-2 ^ hs.idxOf (hs.getD j 0)) 0);rw[idx j hj];exact key j hj hb
 have sub:(insM hs m).Sublist hs:=PQ hs _ (Y7 (Pj hs m hm))
 have ne:insM hs m≠[]:=fun z=>by
  obtain⟨i,hi⟩:=Nat.exists_testBit_of_ne_zero (show m≠0 by omega)
  have hin:i<hs.length:=by
   rcases Q0 i hs.length with k|k
   ·exact k
   ·have:=WE hi
    have:=W1 (n:=2) (by decide) k
    omega
  have:=insM_mem.mpr ⟨i,hin,hi,rfl⟩
  rw[z]at this;cases this
 obtain⟨l0,hl0,hlast0⟩:=hl _ sub ne
 let g:=fun l=>vs.getD (m-2 ^ hs.idxOf l) 0+((Ua (insM hs m) l).map (c · l)).sum
 have hA:((insM hs m).filter fun l=>Xc ws (insM hs m) l).map g≠[]:=fun z=>by
  have:l0∈(insM hs m).filter fun l=>Xc ws (insM hs m) l:=Y3.mpr ⟨hl0,lastM_iff.mpr hlast0⟩
  rw[List.map_eq_nil_iff.mp z]at this;cases this
 obtain⟨i,hi,hmin⟩:=G3 _ hA;have hi':i<((insM hs m).filter fun l=>Xc ws (insM hs m) l).length:=by rw[Ym]at hi;exact hi
 have hmem:=Y3.mp (YC hi')
 have L2:=He (M:=(((insM hs m).filter fun l=>Xc ws (insM hs m) l).map g)[i]) (NA nd m) hw hv
  ⟨_,hmem.1,hmem.2,by rw[Q7]⟩ (fun l h1 h2=>hmin _ (YL.mpr ⟨l,Y3.mpr ⟨h1,h2⟩,rfl⟩))
 have ev:=L.uniq L2;refine⟨fun j hj hb hlast=>?_,?_⟩
 ·have:=hmin _ (YL.mpr ⟨hs.getD j 0,Y3.mpr ⟨insM_mem.mpr ⟨j,hj,hb,rfl⟩,hlast⟩,rfl⟩)
  rw[←ev]at this;simp only[g]at this;rw[idx j hj]at this;exact this
 ·obtain⟨j,hj,hb,ej⟩:=insM_mem.mp hmem.1;refine⟨j,hj,hb,by rw[ej];exact hmem.2,?_⟩;rw[ev,Q7];simp only[g];rw[←ej,idx j hj]
def Fw(m j:Nat):Builtin.bitAnd ((m:Int) / 2 ^ ((j:Int)).toNat) 1=if m.testBit j=true then 1 else 0:=by
 have e:((m:Int) / 2 ^ ((j:Int)).toNat)=((m / 2 ^ j:Nat):Int):=by
  rw[YB,Int.natCast_ediv,Qs];rfl
 rw[e,PyProof.Rows.bitAnd_pp (Int.natCast_nonneg _) (by decide),YB,show(1:Int).toNat=1 from rfl,Nat.and_one_is_mod,Nat.testBit_eq_decide_div_mod_eq]
 have:=Nat.mod_lt (m / 2 ^ j) (show 0<2 by decide)
 by_cases e:m / 2 ^ j % 2=1
 ·rw[Yq e,Yr rfl,e];rfl
 ·rw[YA e,Yp (by decide),show m / 2 ^ j % 2=0 by omega];rfl
def Zb6{a b n:Nat}(hb:b<2 ^ n):(Builtin.bitAnd (a:Int) (b:Int)=0)↔∀i,i<n->b.testBit i=true->a.testBit i=false:=by
 rw[PyProof.Rows.bitAnd_pp (by omega) (by omega),YB,YB];constructor
 ·intro h i hi hbi;have h0:a &&& b=0:=by omega
  have:=Nat.testBit_and a b i
  rw[h0,Nat.zero_testBit,hbi,Bool.and_true]at this;exact this.symm
 ·intro h
  have:a &&& b=0:=Nat.eq_of_testBit_eq fun i=>by
   rw[Nat.testBit_and,Nat.zero_testBit];by_cases hi:i<n
   ·cases e:b.testBit i with
    |false=>rw[QN]
    |true=>rw[h i hi e];rfl
   ·have:b.testBit i=false:=Qw (YW hb (W1 (by decide) (by omega)))
    rw[this,QN]
  rw[this];rfl
def OJ(a b:Nat):Builtin.bitOr (a:Int) (b:Int)=((a ||| b:Nat):Int):=by
 have n1:¬(0:Int)<=Builtin.bitNot (a:Int):=by unfold Builtin.bitNot;omega
 have n2:¬(0:Int)<=Builtin.bitNot (b:Int):=by unfold Builtin.bitNot;omega
 unfold Builtin.bitOr;rw[PyProof.Rows.bitAnd_nn n1 n2];unfold Builtin.bitNot;rw[show(-(-(a:Int)-1)-1).toNat=a by omega,show(-(-(b:Int)-1)-1).toNat=b by omega];omega
def Ai(ps:List (Int×Int))(x:Int):∀k,pcM ps x x k=0
 | 0=>rfl
 |k+1=>by
  unfold pcM;rw[Ai ps x k,Yp fun z=>z.1 rfl];rfl
def K8(wn:List Nat)(hs:List Int)(ws:List (Int×Int)):Prop:=wn.length=hs.length/\∀a b,a<hs.length->b<hs.length->((wn.getD a 0).testBit b=true↔(hs.getD a 0,hs.getD b 0)∈ws)
def Gx{wn:List Nat}{hs:List Int}{ws:List (Int×Int)}{m j:Nat}(h:K8 wn hs ws)(hj:j<hs.length)(hm:m<2 ^ hs.length):(Builtin.bitAnd ((wn.getD j 0:Nat):Int) (m:Int)=0)↔Xc ws (insM hs m) (hs.getD j 0)=true:=by
 rw[Zb6 hm,lastM_iff];constructor
 ·intro k b hb hw;obtain⟨i,hi,hbi,rfl⟩:=insM_mem.mp hb
  have:=(h.2 j i hj hi).mpr hw
  rw[k i hi hbi]at this;cases this
 ·intro k i hi hbi;cases e:(wn.getD j 0).testBit i with
  |false=>rfl
  |true=>exact absurd ((h.2 j i hj hi).mp e) (k _ (insM_mem.mpr ⟨i,hi,hbi,rfl⟩))
def Zbl{wn:List Nat}{hs:List Int}{ws:List (Int×Int)}{m j:Nat}(h:K8 wn hs ws)(hj:j<hs.length):((insN hs.length m).filter fun i=>(wn.getD i 0).testBit j)=[]↔firstM ws (insM hs m) (hs.getD j 0)=true:=by
 rw[List.filter_eq_nil_iff,firstM_iff];constructor
 ·intro k b hb hw;obtain⟨i,hi,hbi,rfl⟩:=insM_mem.mp hb;exact k i (Y3.mpr ⟨YS.mpr hi,hbi⟩) ((h.2 i j hi hj).mpr hw)
 ·intro k i hi e;obtain⟨h1,h2⟩:=Y3.mp hi;have hin:=YS.mp h1;exact k _ (insM_mem.mpr ⟨i,hin,h2,rfl⟩) ((h.2 i j hin hj).mp e)
def Iy{hs:List Int}(nd:hs.Nodup){m j:Nat}(hm:m<2 ^ hs.length)(hj:j<hs.length)(hb:m.testBit j=true):insM hs (m-2 ^ j)=Ua (insM hs m) (hs.getD j 0):=by
 have h1:=Aq hs nd m j hm hj hb;rw[Pj hs (m-2 ^ j) (Wp (QO _ _) hm)]at h1;exact Yz h1
def M4(hs:List Int):insM hs (2 ^ hs.length-1)=hs:=by
 have p0:0<2 ^ hs.length:=Nat.pow_pos (by decide);have h1:=SG hs;rw[QC,XB,Pj hs (2 ^ hs.length-1) (by omega)]at h1;exact Yz h1
def Za6{ws:List (Int×Int)}{c:Int->Int->Int}{ms o:List Int}{vs:Int->Int}{V f:Int}(nd:ms.Nodup)(hu:∀q∈ws,q.1≠q.2)(hv:∀l∈ms,Least ws c (Ua ms l) (vs l))(hV:Least ws c ms V)(B:Best ws c ms (f::o)) :
  f∈ms/\firstM ws ms f=true/\vs f+((Ua ms f).map (c f)).sum=V/\(∀g∈ms,firstM ws ms g=true->vs g+((Ua ms g).map (c g)).sum=V->f<=g)/\Best ws c (Ua ms f) o:=by
 have e:oc c (f::o)=V:=by
  obtain⟨p,p1,p2,p3⟩:=hV.is
  have:=hV.le _ B.perm B.keeps
  have:=B.le p p1 p2
  omega
 obtain⟨r1,r2,r3,r4,r5⟩:=FC nd hu hv hV B.perm B.keeps e;refine⟨r1,r2,r3,fun g h1 h2 h3=>?_,r4,(Wy.mp B.keeps).2,fun p p1 p2=>?_,fun p p1 p2 p3=>?_⟩
 ·obtain⟨p,p1,p2,p3⟩:=(hv g h1).is;have es:=Kk (f:=c g) p1
  have eg:oc c (g::p)=oc c (f::o):=by
   rw[e];show(p.map (c g)).sum+oc c p=V;omega
  rcases B.first (g::p) ((List.Perm.cons g p1).trans (XU nd h1).symm) (Wy.mpr ⟨fun b hb=>firstM_iff.mp h2 b (less_sub.subset (p1.mem_iff.mp hb)),p2⟩) eg with z|z
  ·have:=(List.cons.inj z).1
   omega
  ·have z:f<g\/(f=g/\sl o p):=z;omega
 ·rw[r5];exact(hv f r1).le p p1 p2
 ·have es:=Kk (f:=c f) p1
  have eg:oc c (f::p)=oc c (f::o):=by
   have es2:=Kk (f:=c f) r4;show(p.map (c f)).sum+oc c p=(o.map (c f)).sum+oc c o;omega
  rcases B.first (f::p) ((List.Perm.cons f p1).trans (XU nd r1).symm) (Wy.mpr ⟨fun b hb=>firstM_iff.mp r2 b (less_sub.subset (p1.mem_iff.mp hb)),p2⟩) eg with z|z
  ·exact .inl (List.cons.inj z).2
  ·exact .inr (sl_cons.mp z)
def IG{hs:List Int}(hr:hs.Pairwise (· < ·)){i j:Nat}(hi:i<hs.length)(hj:j<hs.length)(h:i<j):hs.getD i 0<hs.getD j 0:=by
 rw[Yo,Yl hi,Yo,Yl hj];exact Qb.mp hr i j hi hj h
end M
namespace Pu
open PySem PySem.Spec PyProof.Rows L2 Own M
abbrev natD(z:Nat):D:=.int z
abbrev rowE(ps:List (Int×Int))(hs:List Int)(a:Int):D:=.lst (hs.map fun b=>.int (pcM ps a b ps.length))
abbrev Kp(ps:List (Int×Int))(hs:List Int):D:=.lst (hs.map (rowE ps hs))
def Mat(cs:List (Addr×List D))(n:Nat)(F:Nat->Nat->Int):Prop:=cs.map (·.2)=(List.range n).map fun a=>(List.range n).map fun b=>D.int (F a b)
def Mat.len {cs:List (Addr×List D)}{n:Nat}{F:Nat->Nat->Int} (h:Mat cs n F):cs.length=n:=by
 have:=YQ List.length h
 rw[Ym,Ym,WJ]at this;exact this
def Mat.at {cs:List (Addr×List D)}{n:Nat}{F:Nat->Nat->Int} (h:Mat cs n F) {a:Nat} (ha:a<n):∃x,cs[a]?=some (x,(List.range n).map fun b=>D.int (F a b)):=by
 have hl:=h.len
 have e:(cs.map (·.2))[a]?=some ((List.range n).map fun b=>D.int (F a b)):=by
  rw[h,Yt,List.getElem?_range ha];rfl
 rw[Yt,Yl (show a<cs.length by omega)]at e;refine⟨cs[a].1,?_⟩;rw[Yl (show a<cs.length by omega),←Yz e]
def Mat.set {cs:List (Addr×List D)}{n:Nat}{F G:Nat->Nat->Int} (h:Mat cs n F) {a b:Nat}{x:Addr}{v:Int} (ha:a<n) (hb:b<n) (g1:G a b=v) (g2:∀a' b',a'<n->b'<n->¬(a'=a/\b'=b)->G a' b'=F a' b') :
  Mat (cs.set a (x,((List.range n).map fun b=>D.int (F a b)).set b (.int v))) n G:=by
 unfold Mat;rw[List.map_set,h];refine Q6 (by simp) fun i h1 h2=>?_;have hi:i<n:=by simpa using h2
 simp only[List.getElem_set,Q7,V6];by_cases e:a=i
 ·subst e;rw[Yr rfl];refine Q6 (by simp) fun j k1 k2=>?_;have hj:j<n:=by simpa using k2
  simp only[List.getElem_set,Q7,V6];by_cases e2:b=j
  ·subst e2;rw[Yr rfl,g1]
  ·rw[Yp e2,g2 a j ha hj fun z=>e2 z.2.symm]
 ·rw[Yp e];refine W2 fun j hj=>?_;rw[g2 i j hi (YS.mp hj) fun z=>e z.1.symm]
def Mat.same {cs:List (Addr×List D)}{n:Nat}{F G:Nat->Nat->Int} (h:Mat cs n F) (g:∀a b,a<n->b<n->G a b=F a b):Mat cs n G:=by
 unfold Mat;rw[h];refine W2 fun a ha=>W2 fun b hb=>?_;rw[g a b (YS.mp ha) (YS.mp hb)]
def Mat.cost {cs:List (Addr×List D)}{ps:List (Int×Int)}{hs:List Int} (h:Mat cs hs.length fun a b=>pcM ps (hs.getD a 0) (hs.getD b 0) ps.length):(cs.map fun c=>D.lst c.2)=hs.map (rowE ps hs):=by
 have e:hs=(List.range hs.length).map fun i=>hs.getD i 0:=by
  refine Q6 (by simp) fun i h1 h2=>?_;rw[Q7,V6,Yo,Yl h1];rfl
 have e2:∀f:Int->D,hs.map f=(List.range hs.length).map fun i=>f (hs.getD i 0):=fun f=>by
  have:=YQ (List.map f) e
  rw[YR]at this;exact this
 rw[show(cs.map fun c=>D.lst c.2)=(cs.map (·.2)).map D.lst by rw[YR];rfl,h,YR,e2];refine W2 fun a _=>?_;show D.lst _=D.lst (hs.map fun b=>.int (pcM ps (hs.getD a 0) b ps.length));rw[e2]
end Pu
namespace T
open PySem PySem.Spec PyProof.Rows L2
def top(i:Nat):Stmt:=PySem.Challenge.pw_stripmeld_k39_whole_table.main.body.getD i (.Pass ⟨0,0,0,0⟩)
abbrev Fk:Stmt:=top 22
def MD:FnScope ["holder"] ["holder"] (JR Fk):=Pu.fs
abbrev Bl:Stmt:=top 23
def Iv:FnScope ["width"] ["width"] (JR Bl):=Pu.fs
abbrev BF:Stmt:=top 24
def AD:FnScope ["strips","holder","width"] ["strips"] (JR BF):=Pu.fs
abbrev Fc:Stmt:=top 25
def Zex:FnScope ["strips"] ["strips"] (JR Fc):=Pu.fs
abbrev F3:Stmt:=top 27
def Pf:FnScope ["strips","ahead","behind","to_pass","cost","holder","width"] ["strips","ahead","behind"] (JR F3):=Pu.fs
abbrev Bw:Stmt:=top 29
def Zap:FnScope ["strips","place"] ["strips","place"] (JR Bw):=Pu.fs
abbrev BO:Stmt:=top 32
def T5:FnScope ["paths","left","wishes","longer","reached","path","holder"] ["paths","left","wishes"] (JR BO):=Pu.fs
abbrev A2:Stmt:=top 33
def Pm:FnScope ["least","holders","wishes","paths","left","rings","reached"] ["least","holders","wishes"] (JR A2):=Pu.fs
abbrev BC:Stmt:=top 34
def Tx:FnScope ["holders","wishes","ring","least","found"] ["holders","wishes"] (JR BC):=Pu.fs
abbrev Ah:Stmt:=top 35
def Ea:FnScope ["strips","wishes","ring"] ["strips","wishes"] (JR Ah):=Pu.fs
abbrev B0:Stmt:=top 37
def Zet:FnScope ["strips","place"] ["strips","place"] (JR B0):=Pu.fs
abbrev F1:Stmt:=top 38
def DU:FnScope ["strips","place","holder","strip"] ["strips","place","holder"] (JR F1):=Pu.fs
abbrev B4:Stmt:=top 39
def E6:FnScope ["strips","place","width","strip"] ["strips","place","width"] (JR B4):=Pu.fs
abbrev FY:Stmt:=top 40
def Ay:FnScope ["strips","place","left","right"] ["strips","place"] (JR FY):=Pu.fs
abbrev BI:Stmt:=top 41
def Zeq:FnScope ["wishes","ahead","behind"] ["wishes","ahead","behind"] (JR BI):=Pu.fs
abbrev Ac:Stmt:=top 42
def Zcv:FnScope ["wishes","ahead","behind"] ["wishes","ahead","behind"] (JR Ac):=Pu.fs
abbrev A3:Stmt:=top 44
def Nm:FnScope ["strips","holders","costs","ahead","behind"] ["strips"] (JR A3):=Pu.fs
abbrev Bc:Stmt:=top 45
def Se:FnScope ["holders","sets","holder"] ["holders"] (JR Bc):=Pu.fs
abbrev Bx:Stmt:=top 46
def IL:FnScope ["members","holder"] ["members","holder"] (JR Bx):=Pu.fs
abbrev Bn:Stmt:=top 47
def M7:FnScope ["members","holder","wishes"] ["members","holder","wishes"] (JR Bn):=Pu.fs
abbrev F2:Stmt:=top 48
def M6:FnScope ["members","holder","wishes"] ["members","holder","wishes"] (JR F2):=Pu.fs
abbrev Bt:Stmt:=top 49
def Hl:FnScope ["members","last","least","pairs","others"] ["members","last","least","pairs"] (JR Bt):=Pu.fs
abbrev As:Stmt:=top 50
def Cu:FnScope ["members","first","least","pairs","others"] ["members","first","least","pairs"] (JR As):=Pu.fs
abbrev Ba:Stmt:=top 51
def N9:FnScope ["strips","wishes","pairs","least","members","lasts"] ["strips","wishes","pairs"] (JR Ba):=Pu.fs
abbrev Ar:Stmt:=top 52
def DN:FnScope ["strips","wishes","least"] ["strips","wishes"] (JR Ar):=Pu.fs
abbrev BP:Stmt:=top 53
def KC:FnScope ["strips","wishes","pairs","least","members","order","firsts","best"] ["strips","wishes"] (JR BP):=Pu.fs
abbrev Ap:Stmt:=top 54
def Zcm:FnScope ["strips","wishes"] ["strips","wishes"] (JR Ap):=Pu.fs
abbrev FT:Stmt:=inClass (top 57) 0
def Za8:FnScope ["self","strips"] ["self","strips"] (JR FT):=Pu.fs
abbrev B7:Stmt:=inClass (top 57) 1
def Zax:FnScope ["self"] ["self"] (JR B7):=Pu.fs
abbrev A1:Stmt:=inClass (top 57) 2
def RN:FnScope ["self"] ["self"] (JR A1):=Pu.fs
abbrev FZ:Stmt:=inClass (top 57) 4
def Zd1:FnScope ["self"] ["self"] (JR FZ):=Pu.fs
abbrev SS:Stmt:=inClass (top 57) 5
def Zcg:FnScope ["self","deed","field","wishes"] ["self","deed","field","wishes"] (JR SS):=Pu.fs
abbrev BU:Stmt:=inClass (top 57) 6
def Dy:FnScope ["self","place","holder","field"] ["self","place","holder"] (JR BU):=Pu.fs
abbrev Fb:Stmt:=inClass (top 57) 7
def Hz:FnScope ["self","place","width","field"] ["self","place","width"] (JR Fb):=Pu.fs
abbrev Be:Stmt:=inClass (top 57) 8
def DV:FnScope ["self","place","field"] ["self","place"] (JR Be):=Pu.fs
abbrev B6:Stmt:=inClass (top 57) 9
def CJ:FnScope ["self","ahead","behind","wishes"] ["self","ahead","behind"] (JR B6):=Pu.fs
abbrev F9:Stmt:=inClass (top 57) 10
def Cz:FnScope ["self","ahead","behind","wishes"] ["self","ahead","behind"] (JR F9):=Pu.fs
abbrev Fi:Stmt:=inClass (top 57) 11
def LG:FnScope ["self"] ["self"] (JR Fi):=Pu.fs
abbrev B3:Stmt:=inClass (top 57) 14
def Zcj:FnScope ["self"] ["self"] (JR B3):=Pu.fs
abbrev FH:Stmt:=inClass (top 57) 15
def Lh:FnScope ["self"] ["self"] (JR FH):=Pu.fs
abbrev Bb:Stmt:=inClass (top 57) 16
def Zff:FnScope ["self"] ["self"] (JR Bb):=Pu.fs
abbrev SO:Stmt:=top 59
def MS:FnScope ["_law_script","_law_k"] ["_law_script","_law_k"] (JR SO):=Pu.fs
abbrev Ab:Stmt:=top 60
def Zam:FnScope ["_law_found"] ["_law_found"] (JR Ab):=Pu.fs
abbrev Fq:Stmt:=top 61
def AE:FnScope ["_law_cell","_law_place_here","_law_first_here"] ["_law_cell","_law_place_here"] (JR Fq):=Pu.fs
abbrev BH:Stmt:=top 62
def Zcf:FnScope ["_law_script","_law_k"] ["_law_script","_law_k"] (JR BH):=Pu.fs
abbrev Ak:Stmt:=top 63
def F7:FnScope ["_law_cell","_law_wide","_law_least"] ["_law_cell"] (JR Ak):=Pu.fs
abbrev BY:Stmt:=top 64
def HG:FnScope ["_law_menu_here","_law_k"] ["_law_menu_here","_law_k"] (JR BY):=Pu.fs
abbrev FK:Stmt:=top 65
def AW:FnScope ["_law_found","_law_due","_law_k"] ["_law_found","_law_due"] (JR FK):=Pu.fs
abbrev A9:Stmt:=top 66
def Dk:FnScope ["_law_strips","_law_owners"] ["_law_strips"] (JR A9):=Pu.fs
abbrev BM:Stmt:=top 67
def PU:FnScope ["_law_strips","_law_order","_law_ranks","_law_total","_law_k","_law_j"] ["_law_strips","_law_order"] (JR BM):=Pu.fs
abbrev Ao:Stmt:=top 68
def PX:FnScope ["_law_holders","_law_wishes","_law_left","_law_turn","_law_inside","_law_behind"] ["_law_holders","_law_wishes"] (JR Ao):=Pu.fs
abbrev Fy:Stmt:=top 69
def DO:FnScope ["_law_village","_law_past","_law_pair_here"] ["_law_village","_law_past"] (JR Fy):=Pu.fs
abbrev F0:Stmt:=top 70
def P7:FnScope ["_law_strips","_law_holders","_law_spots","_law_rows","_law_k","_law_j","_law_cost"] ["_law_strips","_law_holders"] (JR F0):=Pu.fs
abbrev F8:Stmt:=top 71
def P9:FnScope ["_law_told","_law_costs","_law_wants_here","_law_mask","_law_inside","_law_met","_law_last","_law_price_here"] ["_law_told","_law_costs","_law_wants_here","_law_mask"] (JR F8):=Pu.fs
abbrev AC:Stmt:=top 72
def NO:FnScope ["_law_holders","_law_wishes","_law_wants_here","_law_one","_law_two"] ["_law_holders","_law_wishes"] (JR AC):=Pu.fs
abbrev FG:Stmt:=top 73
def Af:FnScope ["_law_told","_law_holders","_law_costs","_law_wants_here","_law_number","_law_mask"] ["_law_told","_law_holders","_law_costs","_law_wants_here"] (JR FG):=Pu.fs
abbrev Fs:Stmt:=top 74
def Nx:FnScope ["_law_told","_law_costs","_law_wants_here","_law_mask","_law_spot","_law_inside","_law_j","_law_price_here"] ["_law_told","_law_costs","_law_wants_here","_law_mask","_law_spot"] (JR Fs):=Pu.fs
abbrev BQ:Stmt:=top 75
def Tv:FnScope ["_law_order","_law_told","_law_holders","_law_costs","_law_wants_here","_law_mask","_law_holder_here","_law_spot"] ["_law_order","_law_told","_law_holders","_law_costs","_law_wants_here"] (JR BQ):=Pu.fs
abbrev Fh:Stmt:=top 76
def TY:FnScope ["_law_strips","_law_deed_here","_law_place_here","_law_holder_here","_law_width_here","_law_parts"] ["_law_strips","_law_deed_here"] (JR Fh):=Pu.fs
abbrev Ft:Stmt:=top 77
def CC:FnScope ["_law_wishes","_law_deed_here","_law_pair_here"] ["_law_wishes","_law_deed_here"] (JR Ft):=Pu.fs
abbrev BV:Stmt:=top 78
def FA:FnScope ["_law_now","_law_deed_here","_law_step_here"] ["_law_now","_law_deed_here"] (JR BV):=Pu.fs
abbrev SM:Stmt:=top 79
def Zb2:FnScope ["_law_village","_law_deed_here"] ["_law_village","_law_deed_here"] (JR SM):=Pu.fs
abbrev SW:Stmt:=top 80
def SX:FnScope ["_law_village","_law_past","_law_deed_here","_law_step_here","_law_found"] ["_law_village","_law_past","_law_deed_here"] (JR SW):=Pu.fs
abbrev Bz:Stmt:=top 81
def Pd:FnScope ["_law_script","_law_menu_here","_law_many","_law_rest","_law_strips","_law_k","_law_cell","_law_width_here"] ["_law_script","_law_menu_here","_law_many"] (JR Bz):=Pu.fs
abbrev SL:Stmt:=top 82
def Zbe:FnScope ["_law_script","_law_most"] ["_law_script","_law_most"] (JR SL):=Pu.fs
abbrev Av:Stmt:=top 83
def Mx:FnScope ["_law_cell","_law_good"] ["_law_cell","_law_good"] (JR Av):=Pu.fs
abbrev Bm:Stmt:=top 84
def Zdt:FnScope ["_law_cell","_law_strips"] ["_law_cell","_law_strips"] (JR Bm):=Pu.fs
abbrev BE:Stmt:=top 85
def Tw:FnScope ["_law_cell","_law_menu_here","_law_pool","_law_one","_law_two","_law_ahead"] ["_law_cell","_law_menu_here"] (JR BE):=Pu.fs
abbrev Fp:Stmt:=top 86
def KL:FnScope ["_law_script","_law_menu_here","_law_seed","_law_many","_law_deeds","_law_k","_law_pair_here"] ["_law_script","_law_menu_here"] (JR Fp):=Pu.fs
abbrev BN:Stmt:=top 87
def Lp:FnScope ["_law_cell","_law_strips","_law_place_here"] ["_law_cell","_law_strips","_law_place_here"] (JR BN):=Pu.fs
abbrev Fv:Stmt:=top 88
def Pt:FnScope ["_law_cell","_law_menu_here","_law_now","_law_kind","_law_rest","_law_place_here","_law_more","_law_pair_here"] ["_law_cell","_law_menu_here","_law_now"] (JR Fv):=Pu.fs
abbrev Ko:Stmt:=top 89
def XS:FnScope ["_law_script","_law_menu_here","_law_strips","_law_village","_law_past","_law_deed_here","_law_cell","_law_holders","_law_costs","_law_wants_here","_law_told","_law_order"] ["_law_script"] (JR Ko):=Pu.fs
structure Glob (K:Za) (mg:Str->Option Value):Prop where
 any:mg "any"=none
 bool:mg "bool"=none
 int:mg "int"=none
 isinstance:mg "isinstance"=none
 len:mg "len"=none
 list:mg "list"=none
 max:mg "max"=none
 min:mg "min"=none
 range:mg "range"=none
 set:mg "set"=none
 sorted:mg "sorted"=none
 sum:mg "sum"=none
 tuple:mg "tuple"=none
 HOLDERS:∃u,mg "HOLDERS"=some u/\RelV (.int 10) u
 STRIPS:∃u,mg "STRIPS"=some u/\RelV (.int 40) u
 WIDEST:∃u,mg "WIDEST"=some u/\RelV (.int 1000) u
 MOST_WISHES:∃u,mg "MOST_WISHES"=some u/\RelV (.int 20) u
 MOST_DEEDS:∃u,mg "MOST_DEEDS"=some u/\RelV (.int 100) u
 m_TooManyStrips:mg "TooManyStrips"=some (.ref (ExcR.JP mg "TooManyStrips"))
 g_TooManyStrips:ExcR.ErrGet K (ExcR.JP mg "TooManyStrips")
 m_BadHolder:mg "BadHolder"=some (.ref (ExcR.JP mg "BadHolder"))
 g_BadHolder:ExcR.ErrGet K (ExcR.JP mg "BadHolder")
 m_BadWidth:mg "BadWidth"=some (.ref (ExcR.JP mg "BadWidth"))
 g_BadWidth:ExcR.ErrGet K (ExcR.JP mg "BadWidth")
 m_NoStrip:mg "NoStrip"=some (.ref (ExcR.JP mg "NoStrip"))
 g_NoStrip:ExcR.ErrGet K (ExcR.JP mg "NoStrip")
 m_OwnStrip:mg "OwnStrip"=some (.ref (ExcR.JP mg "OwnStrip"))
 g_OwnStrip:ExcR.ErrGet K (ExcR.JP mg "OwnStrip")
 m_BadPart:mg "BadPart"=some (.ref (ExcR.JP mg "BadPart"))
 g_BadPart:ExcR.ErrGet K (ExcR.JP mg "BadPart")
 m_UnlikeHolders:mg "UnlikeHolders"=some (.ref (ExcR.JP mg "UnlikeHolders"))
 g_UnlikeHolders:ExcR.ErrGet K (ExcR.JP mg "UnlikeHolders")
 m_TooWide:mg "TooWide"=some (.ref (ExcR.JP mg "TooWide"))
 g_TooWide:ExcR.ErrGet K (ExcR.JP mg "TooWide")
 m_LikeHolders:mg "LikeHolders"=some (.ref (ExcR.JP mg "LikeHolders"))
 g_LikeHolders:ExcR.ErrGet K (ExcR.JP mg "LikeHolders")
 m_WishStands:mg "WishStands"=some (.ref (ExcR.JP mg "WishStands"))
 g_WishStands:ExcR.ErrGet K (ExcR.JP mg "WishStands")
 m_TooManyWishes:mg "TooManyWishes"=some (.ref (ExcR.JP mg "TooManyWishes"))
 g_TooManyWishes:ExcR.ErrGet K (ExcR.JP mg "TooManyWishes")
 m_NoWish:mg "NoWish"=some (.ref (ExcR.JP mg "NoWish"))
 g_NoWish:ExcR.ErrGet K (ExcR.JP mg "NoWish")
 m_BookFull:mg "BookFull"=some (.ref (ExcR.JP mg "BookFull"))
 g_BookFull:ExcR.ErrGet K (ExcR.JP mg "BookFull")
 m_NothingDone:mg "NothingDone"=some (.ref (ExcR.JP mg "NothingDone"))
 g_NothingDone:ExcR.ErrGet K (ExcR.JP mg "NothingDone")
 m_Village:mg "Village"=some (.ref (ExcR.JP mg "Village"))
 cl_Village:Cls K (ExcR.JP mg "Village")
 n_Village_book:NoAttr K (ExcR.JP mg "Village") "book"
 n_Village_fields:NoAttr K (ExcR.JP mg "Village") "fields"
 n_Village_wished:NoAttr K (ExcR.JP mg "Village") "wished"
def TK:Pu.FldAt "book" ["book","fields","wished"] 0:=.of (by decide +kernel) (by decide +kernel) rfl
def Oh:Pu.PutAt "book" []:=.of (by decide +kernel)
def Aj:Pu.FldAt "fields" ["book","fields","wished"] 1:=.of (by decide +kernel) (by decide +kernel) rfl
def MW:Pu.PutAt "fields" ["book"]:=.of (by decide +kernel)
def Fl:Pu.FldAt "wished" ["book","fields","wished"] 2:=.of (by decide +kernel) (by decide +kernel) rfl
def Zcb:Pu.PutAt "wished" ["book","fields"]:=.of (by decide +kernel)
def KR:Pu.NoFld "strips" ["book","fields","wished"]:=.of (by decide +kernel)
def KW:Pu.NoFld "wishes" ["book","fields","wished"]:=.of (by decide +kernel)
def TX:Pu.NoFld "check_room" ["book","fields","wished"]:=.of (by decide +kernel)
def TB:Pu.NoFld "enter" ["book","fields","wished"]:=.of (by decide +kernel)
def L0:Pu.NoFld "sell" ["book","fields","wished"]:=.of (by decide +kernel)
def MO:Pu.NoFld "part" ["book","fields","wished"]:=.of (by decide +kernel)
def Za7:Pu.NoFld "unite" ["book","fields","wished"]:=.of (by decide +kernel)
def Lm:Pu.NoFld "wish" ["book","fields","wished"]:=.of (by decide +kernel)
def Zdn:Pu.NoFld "drop" ["book","fields","wished"]:=.of (by decide +kernel)
def IS:Pu.NoFld "take_back" ["book","fields","wished"]:=.of (by decide +kernel)
def Zbq:Pu.NoFld "order" ["book","fields","wished"]:=.of (by decide +kernel)
def Ra:Pu.NoFld "cost" ["book","fields","wished"]:=.of (by decide +kernel)
def MF:Pu.NoFld "table" ["book","fields","wished"]:=.of (by decide +kernel)
end T
namespace M
open PySem PySem.Spec PyProof.Rows L2 Own Pu
def Za0:Pc:=fun ds R X=>∃h:Int,ds=[.int h]/\UR (PM h) X (R (.sh .non))
def Fz(h:Int):Option Str:=if 1<=h/\h<=1000 then none else some "BadWidth"
def Zb3:Pc:=fun ds R X=>∃h:Int,ds=[.int h]/\UR (Fz h) X (R (.sh .non))
def GF(_:Za):Sp:=fun vs H Q _=>∃(l:Addr) (ps:List (Int×Int)),vs=[.ref l]/\LAt XG H l ps/\Field ps/\ps.length<=50/\
 ∀(q:Addr) (H':Hp),H q=none->Same H H'->H' q=some (.lst ((Uh ps).map V.int))->Q (.ref q) H'
def DB:Pc:=fun ds R _=>∃ps:List (Int×Int),ds=[.lst (ps.map prD)]/\Field ps/\ps.length<=50/\R (.own ((Uh ps).map D.int))
def Sj{P:Program}{w:World}{K:Za}{mg:Str->Option Value}{base:Heap}(C:Callee P w K mg base CX0 1 "holders_of" ["strips"] (GF K)):Callee P w K mg base CX0 1 "holders_of" ["strips"] (Pu.spOf mg DB K):=Zc1 C fun ds R X vs H Q E r hc hQ hX=>by
 obtain⟨ps,rfl,hF,hz,hR⟩:=hc;obtain⟨v,rfl,r1⟩:=r.one_inv;obtain⟨a,rfl,ha⟩:=r1.pairs_inv;exact⟨a,ps,rfl,ha,hF,hz,fun q H' nq S h=>hQ _ _ H' hR S (Zcc nq h)⟩
def Li:Pc:=fun ds R _=>∃(ps:List (Int×Int)) (x y:Int),ds=[.lst (ps.map prD),.int x,.int y]/\Field ps/\R (.sh (.int (pcM ps x y ps.length)))
def MZ:Pc:=fun ds R X=>∃(ps:List (Int×Int)) (p:Int),ds=[.lst (ps.map prD),.int p]/\(if p<1\/(ps.length:Int)<=p then X "NoStrip" else R (.sh .non))
def LW(ws:List (Int×Int))(l:Int)(ps:List (List Int))(ls:List Int)(lg:List (List Int)):Prop:=∀q∈lg,∃p∈ps,∃h∈ls,q=p++[h]/\(Uy l p,h)∈ws
def Mv:Pc:=fun ds R _=>∃(l:Int) (ps:List (List Int)) (ls:List Int) (ws:List (Int×Int)),ds=[.lst (ps.map (em l)),.lst (ls.map D.int),.lst (ws.map prD)]/\(∀p∈ps,p.length<=100)/\ls.length<=100/\
 ∀lg,LW ws l ps ls lg->lg.length<=ls.length->R (.own (lg.map (em l)))
def Zdu:Pc:=fun ds R X=>∃(ps:List (Int×Int)) (p:Int),ds=[plD ps,.int p]/\UR (N6 ps p) X (R (.sh .non))
def R3:Pc:=fun ds R X=>∃(ws:List (Int×Int)) (a b:Int),ds=[plD ws,.int a,.int b]/\ws.length<=1000/\UR (UN ws a b) X (R (.own ((Kn ws a b).map prD)))
def Ru:Pc:=fun ds R _=>∃hs:List Int,ds=[.lst (hs.map D.int)]/\hs.length<=10/\R (.own ((Uo hs).map tD))
def Ls:Pc:=fun ds R _=>∃(ms:List Int) (h:Int),ds=[tD ms,.int h]/\ms.length<=1000/\R (.sh (tD (Ua ms h)))
def Zfi:Pc:=fun ds R _=>∃(ms:List Int) (h:Int) (ws:List (Int×Int)),ds=[tD ms,.int h,.lst (ws.map prD)]/\ws.length<=50/\R (.sh (.bl (Xc ws ms h)))
def Zdo:Pc:=fun ds R _=>∃(ms:List Int) (h:Int) (ws:List (Int×Int)),ds=[tD ms,.int h,.lst (ws.map prD)]/\ws.length<=50/\R (.sh (.bl (firstM ws ms h)))
def Rn(C:Addr):Pc:=fun ds R _=>∃(bk:List (Str×List Int)) (fs ws:List (List (Int×Int))) (f:List (Int×Int)),ds=[vilD C bk (fs++[f]) ws]/\R (.own (f.map prD))
def LO(C:Addr):Pc:=fun ds R _=>∃(bk:List (Str×List Int)) (fs ws:List (List (Int×Int))) (f:List (Int×Int)),ds=[vilD C bk fs (ws++[f])]/\R (.own (f.map prD))
def Pi(bk:List (Str×List Int)):Option Str:=if 100<=bk.length then some "BookFull" else none
def Mf(C:Addr):Pc:=fun ds R X=>∃(bk:List (Str×List Int)) (fs ws:List (List (Int×Int))),ds=[vilD C bk fs ws]/\UR (Pi bk) X (R (.sh .non))
def Ze9(C:Addr):Pw:=fun o ss R _=>∃(x b1 b2 b3:Addr) (bk:List (Str×List Int)) (fs ws:List (List (Int×Int))) (q:Str×List Int) (f w:List (Int×Int)),o=vO C x b1 b2 b3 bk fs ws/\ss=[.sh (dD q),.sh (plD f),.sh (plD w)]/\bk.length<=1000/\fs.length<=1000/\ws.length<=1000/\
 R (vO C x b1 b2 b3 (bk++[q]) (fs++[f]) (ws++[w])) (.int (bk.length+1))
def IH(C:Addr):Pw:=fun o ss R X=>∃(x b1 b2 b3:Addr) (bk:List (Str×List Int)) (fs ws:List (List (Int×Int))),o=vO C x b1 b2 b3 bk fs ws/\ss=[]/\fs.length=bk.length+1/\ws.length=bk.length+1/\
 (bk=[]->X (vO C x b1 b2 b3 bk fs ws) "NothingDone")/\∀b0 q,bk=b0++[q]->R (vO C x b1 b2 b3 b0 fs.dropLast ws.dropLast) (dD q)
def Zav:Pc:=fun ds R _=>∃(ns:List Int) (k:Int),ds=[.scr ns,.int k]/\0<=k/\R (.sh (.int (ns.getD k.toNat 0)))
def OU:Pc:=fun ds R _=>∃i:Int,ds=[.int i]/\R (.sh (.bl true))
def IA:Pc:=fun ds R _=>∃c p:Int,ds=[.int c,.int p]/\R (.sh (.int (mixP c p)))
def Za9:Pc:=fun ds R _=>∃c:Int,ds=[.int c]/\∀m,Menu m->R (.own (m.map D.int))
def Ze4:Pc:=fun ds R _=>∃(m:List Int) (k:Int),ds=[.lst (m.map D.int),.int k]/\Menu m/\∀h:Int,1<=h->h<=10->h=Zck m k->R (.sh (.int h))
def IF:Pc:=fun ds R _=>∃ps:List (Int×Int),ds=[.lst (ps.map prD)]/\ps.length<=50/\R (.own ((Uh ps).map D.int))
def Za2:Pc:=fun ds R _=>∃(ps:List (Int×Int)) (os:List Int),ds=[.lst (ps.map prD),.lst (os.map D.int)]/\Field ps/\ps.length<=50/\(∀p∈ps,p.1∈os)/\R (.sh (.int (priM ps os ps.length)))
def Zfe:Pc:=fun ds R _=>∃(hs:List Int) (ws:List (Int×Int)),ds=[.lst (hs.map D.int),.lst (ws.map prD)]/\hs.length<=50/\ws.length<=50/\R (.sh (.bl (decide (U3 ws hs hs.length=[]))))
def RL:Pc:=fun ds R _=>∃(ps:List (Int×Int)) (hs:List Int),ds=[plD ps,.lst (hs.map D.int)]/\Field ps/\ps.length<=50/\hs.Nodup/\hs.length<=10/\(∀q∈ps,q.1∈hs)/\∀(x:Addr) (cs:List (Addr×List D)),(cs.map fun c=>D.lst c.2)=hs.map (rowE ps hs)->R (.own (.nsl x cs))
def Lf:Pc:=fun ds R _=>∃(ps ws:List (Int×Int)) (hs vs:List Int) (wn:List Nat) (m:Nat),ds=[.lst (vs.map D.int),Kp ps hs,.lst (wn.map natD),.int m]/\hs.Nodup/\hs.length<=10/\(∀q∈ws,q.1≠q.2)/\Nb hs ws/\TabV ws (fun x y=>pcM ps x y ps.length) (Uo hs) vs/\K8 wn hs ws/\0<m/\m<2 ^ hs.length/\R (.sh (.bl true))
def RC:Pc:=fun ds R _=>∃(hs:List Int) (ws:List (Int×Int)),ds=[.lst (hs.map D.int),.lst (ws.map prD)]/\hs.Nodup/\hs.length<=10/\∀wn:List Nat,K8 wn hs ws->R (.own (.lst (wn.map natD)))
def Zb1:Pc:=fun ds R _=>∃(ps ws:List (Int×Int)) (hs vs:List Int) (wn:List Nat) (m s:Nat),ds=[.lst (vs.map D.int),Kp ps hs,.lst (wn.map natD),.int m,.int s]/\hs.Nodup/\hs.length<=10/\vs.length=2 ^ hs.length/\K8 wn hs ws/\m<2 ^ hs.length/\s<hs.length/\m.testBit s=true/\firstM ws (insM hs m) (hs.getD s 0)=true/\
 vs.getD (m-2 ^ s) 0+((Ua (insM hs m) (hs.getD s 0)).map fun y=>pcM ps (hs.getD s 0) y ps.length).sum=vs.getD m 0/\(∀j,j<hs.length->m.testBit j=true->firstM ws (insM hs m) (hs.getD j 0)=true->vs.getD (m-2 ^ j) 0+((Ua (insM hs m) (hs.getD j 0)).map fun y=>pcM ps (hs.getD j 0) y ps.length).sum=vs.getD m 0->s<=j)/\R (.sh (.bl true))
def Zcr:Pq:=fun ss R _=>∃(f:List (Int×Int)) (x:Dd),ss=[.sh (plD f),.sh (dD x.q)]/\x.land=true/\f.length<=40/\R (.own [.int (codeN (x.err f [])),plD (x.fld' f)])
def Zb8:Pq:=fun ss R _=>∃(w:List (Int×Int)) (x:Dd),ss=[.sh (plD w),.sh (dD x.q)]/\x.land=false/\w.length<=20/\R (.own [.int (codeN (x.err [] w)),plD (x.wsh' w)])
def Zc3:Pc:=fun ds R _=>∃c g:Int,ds=[.int c,.int g]/\∀v:Int,R (.sh (.int v))
def Zcx:Pc:=fun ds R _=>∃(c:Int) (ps:List (Int×Int)),ds=[.int c,plD ps]/\ps.length<=1000/\∀v:Int,R (.sh (.int v))
def Zaz:Pc:=fun ds R _=>∃(c:Int) (ps:List (Int×Int)) (p:Int),ds=[.int c,plD ps,.int p]/\ps.length<=1000/\Field ps/\∀v:Int,R (.sh (.int v))
def Ox:Pc:=fun ds R X=>∃ps:List (Int×Int),ds=[plD ps]/\ps.length<=1000/\UR (PB ps) X (R (.sh .non))
def Zbd:Pc:=fun ds R _=>∃(l:Int) (hs:List Int) (ws:List (Int×Int)),ds=[.int l,.lst (hs.map D.int),.lst (ws.map prD)]/\hs.length<=50/\(∀t,¬PH hs ws l t)/\R (.sh (.lst []))
def IP:Pc:=fun ds R X=>∃(ps:List (Int×Int)) (p h:Int),ds=[plD ps,.int p,.int h]/\ps.length<=1000/\UR (UT ps p h) X (R (.own (Kt ps p h |>.map prD)))
def HK:Pc:=fun ds R X=>∃(ps:List (Int×Int)) (p w:Int),ds=[plD ps,.int p,.int w]/\ps.length<=1000/\UR (UQ ps p w) X (R (.own ((XJ ps p w).map prD)))
def R6:Pc:=fun ds R X=>∃(ps:List (Int×Int)) (p:Int),ds=[plD ps,.int p]/\ps.length<=1000/\UR (uniE ps p) X (R (.own ((uniL ps p).map prD)))
def Ob:Pc:=fun ds R X=>∃(ws:List (Int×Int)) (a b:Int),ds=[plD ws,.int a,.int b]/\ws.length<=1000/\UR (UM ws a b) X (R (.own ((ws++[(a,b)]).map prD)))
def LJ:Pc:=fun ds R _=>∃ps:List (Int×Int),ds=[.lst (ps.map prD)]/\Field ps/\ps.length<=50/\
 ∀kvs:List (List Key×V),(∀x∈Uh ps,∀y∈Uh ps,valV kvs [.inl x,.inl y]=some (.int (pcM ps x y ps.length)))->R (.own (.dT kvs))
def Ly:Pc:=fun ds R _=>∃(ms:List Int) (l:Int) (le pa:List (List Key×V)) (c:Int->Int) (v:Int),ds=[tD ms,.int l,.dT le,.dT pa]/\ms.length<=1000/\valV le (kT (Ua ms l))=some (.int v)/\
 (∀m∈Ua ms l,valV pa [.inl m,.inl l]=some (.int (c m)))/\R (.sh (.int (v+((Ua ms l).map c).sum)))
def Zbj:Pc:=fun ds R _=>∃(ms:List Int) (l:Int) (le pa:List (List Key×V)) (c:Int->Int) (v:Int),ds=[tD ms,.int l,.dT le,.dT pa]/\ms.length<=1000/\valV le (kT (Ua ms l))=some (.int v)/\
 (∀m∈Ua ms l,valV pa [.inl l,.inl m]=some (.int (c m)))/\R (.sh (.int (v+((Ua ms l).map c).sum)))
def NI(bk:List (Str×List Int))(w:List (Int×Int))(a b:Int):Option Str:=if 100<=bk.length then some "BookFull" else UN w a b
def Zb7(C:Addr):Pw:=fun o ss R X=>∃(x b1 b2 b3:Addr) (bk:List (Str×List Int)) (fs ws:List (List (Int×Int))) (f w:List (Int×Int)) (p h:Int),o=vO C x b1 b2 b3 bk (fs++[f]) (ws++[w])/\ss=[.sh (.int p),.sh (.int h)]/\bk.length<=1000/\fs.length<=900/\ws.length<=900/\w.length<=1000/\
 UR (NI bk w p h) (X (vO C x b1 b2 b3 bk (fs++[f]) (ws++[w]))) (R (vO C x b1 b2 b3 (bk++[(("drop" : Str),[p,h])]) (fs++[f]++[f]) (ws++[w]++[Kn w p h])) (.int (bk.length+1)))
def Zek:Pc:=fun ds R _=>∃(ns:List Int) (k:Int),ds=[.scr ns,.int k]/\0<=k/\∀v:Int,R (.sh (.int v))
def Zfj:Pc:=fun ds R _=>∃xs:List Int,ds=[.lst (xs.map D.int),.lst (xs.map D.int)]/\xs.length<=1000000/\R (.sh (.bl true))
def Zc2:Pc:=fun ds R _=>∃(ps ws:List (Int×Int)) (hs vs:List Int) (wn:List Nat),ds=[.lst (vs.map D.int),.lst (hs.map D.int),Kp ps hs,.lst (wn.map natD)]/\hs.Nodup/\hs.length<=10/\(∀q∈ws,q.1≠q.2)/\Nb hs ws/\TabV ws (fun x y=>pcM ps x y ps.length) (Uo hs) vs/\K8 wn hs ws/\R (.sh (.bl true))
def Zdw:Pc:=fun ds R _=>∃(ps ws:List (Int×Int)) (hs vs o:List Int) (wn:List Nat),ds=[.lst (o.map D.int),.lst (vs.map D.int),.lst (hs.map D.int),Kp ps hs,.lst (wn.map natD)]/\hs.Pairwise (· < ·)/\hs.length<=10/\(∀q∈ws,q.1≠q.2)/\TabV ws (fun x y=>pcM ps x y ps.length) (Uo hs) vs/\K8 wn hs ws/\Best ws (fun x y=>pcM ps x y ps.length) hs o/\R (.sh (.bl true))
def M3:Pq:=fun ss R _=>∃(f w:List (Int×Int)) (ds:List D) (x:Dd),ss=[.sh (.tup (plD f::plD w::ds)),.sh (dD x.q)]/\f.length<=40/\w.length<=20/\R (.own [.int (codeN (x.err f w)),plD (x.nf f w),plD (x.nw f w)])
def RK:Pc:=fun ds R _=>∃(ns m:List Int) (n:Int),ds=[.scr ns,.lst (m.map D.int),.int n]/\Menu m/\0<=n/\n<=1000/\∀ps:List (Int×Int),Field ps->ps.length=n.toNat->R (.own (ps.map prD))
def HX:Pc:=fun ds R _=>∃(ns:List Int) (n:Int),ds=[.scr ns,.int n]/\0<=n/\n<=1000/\∀cs:List Int,(cs.length:Int)<=n->R (.own (cs.map D.int))
def LP:Pc:=fun ds R _=>∃(c:Int) (m:List Int),ds=[.int c,.lst (m.map D.int)]/\Menu m/\∀a b:Int,R (.sh (prD (a,b)))
def Ov:Pc:=fun ds R _=>∃(hs:List Int) (ws:List (Int×Int)),ds=[.lst (hs.map D.int),.lst (ws.map prD)]/\hs.length<=50/\(∀l∈hs,∀t,¬PH hs ws l t)/\R (.sh (.lst []))
def Ig:Pc:=fun ds R _=>∃(ps ws:List (Int×Int)) (pa:List (List Key×V)) (c:Int->Int->Int),ds=[.lst (ps.map prD),.lst (ws.map prD),.dT pa]/\Field ps/\ps.length<=50/\ws.length<=50/\(∀q∈ws,q.1≠q.2)/\
 (∀x∈Uh ps,∀y∈Uh ps,valV pa [.inl x,.inl y]=some (.int (c x y)))/\Nb (Uh ps) ws/\∀kvs,Tab ws c (Uo (Uh ps)) kvs->R (.own (.dT kvs))
def HP(C:Addr):Pw:=fun o ss R X=>∃(x:Addr) (ps:List (Int×Int)),o=.ins x C [] []/\ss=[.sh (plD ps)]/\ps.length<=1000/\UR (PB ps) (X (.ins x C [] [])) (∀b1 b2 b3,R (vO C x b1 b2 b3 [] [ps] [[]]) .non)
def Sh(bk:List (Str×List Int))(f:List (Int×Int))(p h:Int):Option Str:=if 100<=bk.length then some "BookFull" else UT f p h
def My(C:Addr):Pw:=fun o ss R X=>∃(x b1 b2 b3:Addr) (bk:List (Str×List Int)) (fs ws:List (List (Int×Int))) (f w:List (Int×Int)) (p h:Int),o=vO C x b1 b2 b3 bk (fs++[f]) (ws++[w])/\ss=[.sh (.int p),.sh (.int h)]/\bk.length<=1000/\fs.length<=900/\ws.length<=900/\f.length<=1000/\
 UR (Sh bk f p h) (X (vO C x b1 b2 b3 bk (fs++[f]) (ws++[w]))) (R (vO C x b1 b2 b3 (bk++[(("sell" : Str),[p,h])]) (fs++[f]++[Kt f p h]) (ws++[w]++[w])) (.int (bk.length+1)))
def NY(bk:List (Str×List Int))(f:List (Int×Int))(p h:Int):Option Str:=if 100<=bk.length then some "BookFull" else UQ f p h
def HH(C:Addr):Pw:=fun o ss R X=>∃(x b1 b2 b3:Addr) (bk:List (Str×List Int)) (fs ws:List (List (Int×Int))) (f w:List (Int×Int)) (p h:Int),o=vO C x b1 b2 b3 bk (fs++[f]) (ws++[w])/\ss=[.sh (.int p),.sh (.int h)]/\bk.length<=1000/\fs.length<=900/\ws.length<=900/\f.length<=1000/\
 UR (NY bk f p h) (X (vO C x b1 b2 b3 bk (fs++[f]) (ws++[w]))) (R (vO C x b1 b2 b3 (bk++[(("part" : Str),[p,h])]) (fs++[f]++[XJ f p h]) (ws++[w]++[w])) (.int (bk.length+1)))
def NV(bk:List (Str×List Int))(f:List (Int×Int))(p:Int):Option Str:=if 100<=bk.length then some "BookFull" else uniE f p
def Zee(C:Addr):Pw:=fun o ss R X=>∃(x b1 b2 b3:Addr) (bk:List (Str×List Int)) (fs ws:List (List (Int×Int))) (f w:List (Int×Int)) (p:Int),o=vO C x b1 b2 b3 bk (fs++[f]) (ws++[w])/\ss=[.sh (.int p)]/\bk.length<=1000/\fs.length<=900/\ws.length<=900/\f.length<=1000/\
 UR (NV bk f p) (X (vO C x b1 b2 b3 bk (fs++[f]) (ws++[w]))) (R (vO C x b1 b2 b3 (bk++[(("unite" : Str),[p])]) (fs++[f]++[uniL f p]) (ws++[w]++[w])) (.int (bk.length+1)))
def N1(bk:List (Str×List Int))(w:List (Int×Int))(a b:Int):Option Str:=if 100<=bk.length then some "BookFull" else UM w a b
def Ib(C:Addr):Pw:=fun o ss R X=>∃(x b1 b2 b3:Addr) (bk:List (Str×List Int)) (fs ws:List (List (Int×Int))) (f w:List (Int×Int)) (p h:Int),o=vO C x b1 b2 b3 bk (fs++[f]) (ws++[w])/\ss=[.sh (.int p),.sh (.int h)]/\bk.length<=1000/\fs.length<=900/\ws.length<=900/\w.length<=1000/\
 UR (N1 bk w p h) (X (vO C x b1 b2 b3 bk (fs++[f]) (ws++[w]))) (R (vO C x b1 b2 b3 (bk++[(("wish" : Str),[p,h])]) (fs++[f]++[f]) (ws++[w]++[w++[(p,h)]])) (.int (bk.length+1)))
def M1:Pc:=fun ds R _=>∃(ns m:List Int),ds=[.scr ns,.lst (m.map D.int)]/\Menu m/\∀qs:List (Int×Int),qs.length<=24->R (.own (qs.map fun q=>dD (Dd.wish q.1 q.2).q))
def Me:Pc:=fun ds R _=>∃(c:Int) (m:List Int) (f w:List (Int×Int)) (es:List D),ds=[.int c,.lst (m.map D.int),.tup (plD f::plD w::es)]/\Menu m/\f.length<=1000/\Field f/\w.length<=1000/\(∀x:Dd,R (.sh (dD x.q)))/\R (.sh (.tup [.str "back"]))
def Iz:Pc:=fun ds R _=>∃(ps ws:List (Int×Int)),ds=[.lst (ps.map prD),.lst (ws.map prD)]/\Field ps/\ps.length<=50/\(∀q∈ws,q.1≠q.2)/\(¬ ∃r,Ring (Uh ps) ws r)/\R (.sh .non)
def BW(bk:List (Str×List Int))(f w:List (Int×Int))(d:Dd):Option Str:=if 100<=bk.length then some "BookFull" else d.err f w
def Zdj(C:Addr):Pw:=fun o ss R X=>∃(x b1 b2 b3:Addr) (bk:List (Str×List Int)) (fs ws:List (List (Int×Int))) (f w:List (Int×Int)) (d:Dd),o=vO C x b1 b2 b3 bk (fs++[f]) (ws++[w])/\ss=[.sh (dD d.q)]/\bk.length<=1000/\fs.length<=900/\ws.length<=900/\f.length<=1000/\w.length<=1000/\
 UR (BW bk f w d) (X (vO C x b1 b2 b3 bk (fs++[f]) (ws++[w]))) (R (vO C x b1 b2 b3 (bk++[d.q]) (fs++[f]++[d.fld f]) (ws++[w]++[d.wsh w])) (.int (bk.length+1)))
def pcc(ps:List (Int×Int)):Int->Int->Int:=fun x y=>pcM ps x y ps.length
def MV:Pc:=fun ds R _=>∃(ps ws:List (Int×Int)),ds=[.lst (ps.map prD),.lst (ws.map prD)]/\Field ps/\ps.length<=50/\ws.length<=50/\(∀q∈ws,q.1≠q.2)/\(¬ ∃r,Ring (Uh ps) ws r)/\
 ∀vs,TabV ws (pcc ps) (Uo (Uh ps)) vs->R (.own (vs.map D.int))
def Lj:Pc:=fun ds R _=>∃(ps ws:List (Int×Int)),ds=[.lst (ps.map prD),.lst (ws.map prD)]/\Field ps/\ps.length<=50/\ws.length<=50/\(∀q∈ws,q.1≠q.2)/\(¬ ∃r,Ring (Uh ps) ws r)/\
 ∀o,Best ws (pcc ps) (Uh ps) o->R (.own (o.map D.int))
def Zdk(C:Addr):Pw2:=fun o1 o2 ss R _=>∃(x b1 b2 b3 a:Addr) (f0:List (Int×Int)) (hs:Hist) (q:D),o1=vO C x b1 b2 b3 (bkH hs) (fsH f0 hs) (wsH hs)/\o2=.lsA a (UA f0 hs)/\ss=[.sh q]/\hs.length<100/\FineH f0 hs/\
 ((q=.tup [.str "back"]/\R (vO C x b1 b2 b3 (bkH hs.dropLast) (fsH f0 hs.dropLast) (wsH hs.dropLast)) (.lsA a (UA f0 hs.dropLast)) (.bl true))\/
  ∃d:Dd,q=dD d.q/\R (vO C x b1 b2 b3 (bkH (addH f0 hs d)) (fsH f0 (addH f0 hs d)) (wsH (addH f0 hs d))) (.lsA a (UA f0 (addH f0 hs d))) (.bl true))
def Zcl:Pc:=fun ds R _=>∃(ps ws:List (Int×Int)),ds=[.lst (ps.map prD),.lst (ws.map prD)]/\Field ps/\ps.length<=50/\ws.length<=50/\(∀q∈ws,q.1≠q.2)/\(¬ ∃r,Ring (Uh ps) ws r)/\
 ∀v,Least ws (pcc ps) (Uh ps) v->R (.sh (.int v))
def Ow(C:Addr):Pc:=fun ds R _=>∃(bk:List (Str×List Int)) (fs ws:List (List (Int×Int))) (f w:List (Int×Int)),ds=[vilD C bk (fs++[f]) (ws++[w])]/\Field f/\f.length<=50/\w.length<=50/\(∀q∈w,q.1≠q.2)/\(¬ ∃r,Ring (Uh f) w r)/\∀o,Best w (pcc f) (Uh f) o->R (.own (o.map D.int))
def RW(C:Addr):Pc:=fun ds R _=>∃(bk:List (Str×List Int)) (fs ws:List (List (Int×Int))) (f w:List (Int×Int)),ds=[vilD C bk (fs++[f]) (ws++[w])]/\Field f/\f.length<=50/\w.length<=50/\(∀q∈w,q.1≠q.2)/\(¬ ∃r,Ring (Uh f) w r)/\∀vs,TabV w (pcc f) (Uo (Uh f)) vs->R (.own (vs.map D.int))
def Zbx(C:Addr):Pw2:=fun o1 o2 ss R _=>∃(x b1 b2 b3 a:Addr) (f0:List (Int×Int)) (hs:Hist),o1=vO C x b1 b2 b3 (bkH hs) (fsH f0 hs) (wsH hs)/\o2=.lsA a (UA f0 hs)/\ss=[]/\hs.length<=60/\FineH f0 hs/\
 ∀hs':Hist,hs'.length<=hs.length+20->FineH f0 hs'->(¬ ∃r,Ring (Uh (curF f0 hs')) (curW hs') r)->curF f0 hs'=curF f0 hs->R (vO C x b1 b2 b3 (bkH hs') (fsH f0 hs') (wsH hs')) (.lsA a (UA f0 hs')) (.bl true)
def LI(C:Addr):Pc:=fun ds R _=>∃(bk:List (Str×List Int)) (fs ws:List (List (Int×Int))) (f w:List (Int×Int)),ds=[vilD C bk (fs++[f]) (ws++[w])]/\Field f/\f.length<=50/\w.length<=50/\(∀q∈w,q.1≠q.2)/\(¬ ∃r,Ring (Uh f) w r)/\∀v,Least w (pcc f) (Uh f) v->R (.sh (.int v))
variable (P:Program) (w:World) (K:Za) (mg:Str->Option Value) (base:Heap)
abbrev Sf:Prop:=Callee P w K mg base (ExcR.CXe P w) 1 "check_holder" ["holder"] (Pu.spOf mg Za0 K)
abbrev Da:Prop:=Callee P w K mg base (ExcR.CXe P w) 1 "check_width" ["width"] (Pu.spOf mg Zb3 K)
abbrev Nw:Prop:=Callee P w K mg base CX0 1 "holders_of" ["strips"] (Pu.spOf mg DB K)
abbrev Ct:Prop:=Callee P w K mg base CX0 1 "pair_cost" ["strips","ahead","behind"] (Pu.spOf mg Li K)
abbrev El:Prop:=Callee P w K mg base (ExcR.CXe P w) 1 "check_neighbours" ["strips","place"] (Pu.spOf mg MZ K)
abbrev E8:Prop:=Callee P w K mg base CX0 1 "longer_paths" ["paths","left","wishes"] (Pu.spOf mg Mv K)
abbrev Fj:Prop:=Callee P w K mg base (ExcR.CXe P w) 1 "check_place" ["strips","place"] (Pu.spOf mg Zdu K)
abbrev GB:Prop:=Callee P w K mg base (ExcR.CXe P w) 1 "without_wish" ["wishes","ahead","behind"] (Pu.spOf mg R3 K)
abbrev Hi:Prop:=Callee P w K mg base CX0 1 "sets_of" ["holders"] (Pu.spOf mg Ru K)
abbrev S9:Prop:=Callee P w K mg base CX0 1 "without" ["members","holder"] (Pu.spOf mg Ls K)
abbrev E1:Prop:=Callee P w K mg base CX0 1 "may_lie_last" ["members","holder","wishes"] (Pu.spOf mg Zfi K)
abbrev Ep:Prop:=Callee P w K mg base CX0 1 "may_lie_first" ["members","holder","wishes"] (Pu.spOf mg Zdo K)
abbrev K9:Prop:=Pu.CalleeM P w K mg base CX0 1 (Meth K (ExcR.JP mg "Village") "strips") ["self"] (Pu.spOf mg (Rn (ExcR.JP mg "Village")) K)
abbrev K5:Prop:=Pu.CalleeM P w K mg base CX0 1 (Meth K (ExcR.JP mg "Village") "wishes") ["self"] (Pu.spOf mg (LO (ExcR.JP mg "Village")) K)
abbrev PZ:Prop:=Pu.CalleeM P w K mg base (ExcR.CXe P w) 1 (Meth K (ExcR.JP mg "Village") "check_room") ["self"] (Pu.spOf mg (Mf (ExcR.JP mg "Village")) K)
abbrev P5:Prop:=Pu.CalleeM P w K mg base CX0 1 (Meth K (ExcR.JP mg "Village") "enter") ["self","deed","field","wishes"] (Pu.spW mg (Ze9 (ExcR.JP mg "Village")) K)
abbrev Hn:Prop:=Pu.CalleeM P w K mg base (ExcR.CXe P w) 1 (Meth K (ExcR.JP mg "Village") "take_back") ["self"] (Pu.spW mg (IH (ExcR.JP mg "Village")) K)
abbrev Tc:Prop:=Callee P w K mg base CX0 1 "_law_at" ["_law_script","_law_k"] (Pu.spOf mg Zav K)
abbrev NH:Prop:=Callee P w K mg base CX0 1 "_law_whole" ["_law_found"] (Pu.spOf mg OU K)
abbrev Nj:Prop:=Callee P w K mg base CX0 1 "_law_mix" ["_law_cell","_law_place_here"] (Pu.spOf mg IA K)
abbrev AQ:Prop:=Callee P w K mg base CX0 1 "_law_menu" ["_law_cell"] (Pu.spOf mg Za9 K)
abbrev Tt:Prop:=Callee P w K mg base CX0 1 "_law_holder" ["_law_menu_here","_law_k"] (Pu.spOf mg Ze4 K)
abbrev Bg:Prop:=Callee P w K mg base CX0 1 "_law_present" ["_law_strips"] (Pu.spOf mg IF K)
abbrev Cv:Prop:=Callee P w K mg base CX0 1 "_law_price" ["_law_strips","_law_order"] (Pu.spOf mg Za2 K)
abbrev E9:Prop:=Callee P w K mg base CX0 1 "_law_no_ring" ["_law_holders","_law_wishes"] (Pu.spOf mg Zfe K)
abbrev AR:Prop:=Callee P w K mg base CX0 1 "_law_pair_rows" ["_law_strips","_law_holders"] (Pu.spOf mg RL K)
abbrev CD:Prop:=Callee P w K mg base CX0 1 "_law_least_in" ["_law_told","_law_costs","_law_wants_here","_law_mask"] (Pu.spOf mg Lf K)
abbrev EC:Prop:=Callee P w K mg base CX0 1 "_law_wants" ["_law_holders","_law_wishes"] (Pu.spOf mg RC K)
abbrev GU:Prop:=Callee P w K mg base CX0 1 "_law_first_in" ["_law_told","_law_costs","_law_wants_here","_law_mask","_law_spot"] (Pu.spOf mg Zb1 K)
abbrev D8:Prop:=Callee P w K mg base CX0 1 "_law_field_step" ["_law_strips","_law_deed_here"] (Pu.spS mg Zcr K)
abbrev Ca:Prop:=Callee P w K mg base CX0 1 "_law_wish_step" ["_law_wishes","_law_deed_here"] (Pu.spS mg Zb8 K)
abbrev Bu:Prop:=Callee P w K mg base CX0 1 "_law_odd" ["_law_cell","_law_good"] (Pu.spOf mg Zc3 K)
abbrev CG:Prop:=Callee P w K mg base CX0 1 "_law_place" ["_law_cell","_law_strips"] (Pu.spOf mg Zcx K)
abbrev ED:Prop:=Callee P w K mg base CX0 1 "_law_width" ["_law_cell","_law_strips","_law_place_here"] (Pu.spOf mg Zaz K)
abbrev DK:Prop:=Callee P w K mg base (ExcR.CXe P w) 2 "check_strips" ["strips"] (Pu.spOf mg Ox K)
abbrev CU:Prop:=Callee P w K mg base CX0 2 "ring_from" ["least","holders","wishes"] (Pu.spOf mg Zbd K)
abbrev Du:Prop:=Callee P w K mg base (ExcR.CXe P w) 2 "sold" ["strips","place","holder"] (Pu.spOf mg IP K)
abbrev DG:Prop:=Callee P w K mg base (ExcR.CXe P w) 2 "parted" ["strips","place","width"] (Pu.spOf mg HK K)
abbrev Hs:Prop:=Callee P w K mg base (ExcR.CXe P w) 2 "united" ["strips","place"] (Pu.spOf mg R6 K)
abbrev GL:Prop:=Callee P w K mg base (ExcR.CXe P w) 2 "with_wish" ["wishes","ahead","behind"] (Pu.spOf mg Ob K)
abbrev Bi:Prop:=Callee P w K mg base CX0 2 "pair_costs" ["strips"] (Pu.spOf mg LJ K)
abbrev AF:Prop:=Callee P w K mg base CX0 2 "cost_with_last" ["members","last","least","pairs"] (Pu.spOf mg Ly K)
abbrev Cm:Prop:=Callee P w K mg base CX0 2 "cost_with_first" ["members","first","least","pairs"] (Pu.spOf mg Zbj K)
abbrev GD:Prop:=Pu.CalleeM P w K mg base (ExcR.CXe P w) 2 (Meth K (ExcR.JP mg "Village") "drop") ["self","ahead","behind"] (Pu.spW mg (Zb7 (ExcR.JP mg "Village")) K)
abbrev AN:Prop:=Callee P w K mg base CX0 2 "_law_draw" ["_law_script","_law_k"] (Pu.spOf mg Zek K)
abbrev DQ:Prop:=Callee P w K mg base CX0 2 "_law_row" ["_law_found","_law_due"] (Pu.spOf mg Zfj K)
abbrev G7:Prop:=Callee P w K mg base CX0 2 "_law_shows" ["_law_told","_law_holders","_law_costs","_law_wants_here"] (Pu.spOf mg Zc2 K)
abbrev D9:Prop:=Callee P w K mg base CX0 2 "_law_first" ["_law_order","_law_told","_law_holders","_law_costs","_law_wants_here"] (Pu.spOf mg Zdw K)
abbrev AO:Prop:=Callee P w K mg base CX0 2 "_law_step" ["_law_now","_law_deed_here"] (Pu.spS mg M3 K)
abbrev CW:Prop:=Callee P w K mg base CX0 2 "_law_start" ["_law_script","_law_menu_here","_law_many"] (Pu.spOf mg RK K)
abbrev Eg:Prop:=Callee P w K mg base CX0 2 "_law_days" ["_law_script","_law_most"] (Pu.spOf mg HX K)
abbrev SY:Prop:=Callee P w K mg base CX0 2 "_law_pair" ["_law_cell","_law_menu_here"] (Pu.spOf mg LP K)
abbrev EB:Prop:=Callee P w K mg base CX0 3 "find_ring" ["holders","wishes"] (Pu.spOf mg Ov K)
abbrev SJ:Prop:=Callee P w K mg base CX0 3 "least_costs" ["strips","wishes","pairs"] (Pu.spOf mg Ig K)
abbrev GS:Prop:=Pu.CalleeM P w K mg base (ExcR.CXe P w) 3 (Mk K (ExcR.JP mg "Village")) ["self","strips"] (Pu.spW mg (HP (ExcR.JP mg "Village")) K)
abbrev Hm:Prop:=Pu.CalleeM P w K mg base (ExcR.CXe P w) 3 (Meth K (ExcR.JP mg "Village") "sell") ["self","place","holder"] (Pu.spW mg (My (ExcR.JP mg "Village")) K)
abbrev Hk:Prop:=Pu.CalleeM P w K mg base (ExcR.CXe P w) 3 (Meth K (ExcR.JP mg "Village") "part") ["self","place","width"] (Pu.spW mg (HH (ExcR.JP mg "Village")) K)
abbrev Gk:Prop:=Pu.CalleeM P w K mg base (ExcR.CXe P w) 3 (Meth K (ExcR.JP mg "Village") "unite") ["self","place"] (Pu.spW mg (Zee (ExcR.JP mg "Village")) K)
abbrev E7:Prop:=Pu.CalleeM P w K mg base (ExcR.CXe P w) 3 (Meth K (ExcR.JP mg "Village") "wish") ["self","ahead","behind"] (Pu.spW mg (Ib (ExcR.JP mg "Village")) K)
abbrev Dq:Prop:=Callee P w K mg base CX0 3 "_law_opening" ["_law_script","_law_menu_here"] (Pu.spOf mg M1 K)
abbrev Eb:Prop:=Callee P w K mg base CX0 3 "_law_deed" ["_law_cell","_law_menu_here","_law_now"] (Pu.spOf mg Me K)
abbrev Ad:Prop:=Callee P w K mg base CX0 4 "check_no_ring" ["strips","wishes"] (Pu.spOf mg Iz K)
abbrev Gb:Prop:=Callee P w K mg base (ExcR.CXe P w) 4 "_law_call" ["_law_village","_law_deed_here"] (Pu.spW mg (Zdj (ExcR.JP mg "Village")) K)
abbrev Az:Prop:=Callee P w K mg base CX0 5 "cost_table" ["strips","wishes"] (Pu.spOf mg MV K)
abbrev Dz:Prop:=Callee P w K mg base CX0 5 "best_order" ["strips","wishes"] (Pu.spOf mg Lj K)
abbrev FU:Prop:=Callee P w K mg base CX0 5 "_law_go" ["_law_village","_law_past","_law_deed_here"] (Pu.spW2 mg (Zdk (ExcR.JP mg "Village")) K)
abbrev Cr:Prop:=Callee P w K mg base CX0 6 "least_cost" ["strips","wishes"] (Pu.spOf mg Zcl K)
abbrev GO:Prop:=Pu.CalleeM P w K mg base CX0 6 (Meth K (ExcR.JP mg "Village") "order") ["self"] (Pu.spOf mg (Ow (ExcR.JP mg "Village")) K)
abbrev Dt:Prop:=Pu.CalleeM P w K mg base CX0 6 (Meth K (ExcR.JP mg "Village") "table") ["self"] (Pu.spOf mg (RW (ExcR.JP mg "Village")) K)
abbrev CP:Prop:=Callee P w K mg base CX0 6 "_law_no_rings" ["_law_village","_law_past"] (Pu.spW2 mg (Zbx (ExcR.JP mg "Village")) K)
abbrev GW:Prop:=Pu.CalleeM P w K mg base CX0 7 (Meth K (ExcR.JP mg "Village") "cost") ["self"] (Pu.spOf mg (LI (ExcR.JP mg "Village")) K)
abbrev IV:Prop:=Callee P w K mg base CX0 8 "law" ["_law_script"] (Pu.spOf mg EY K)
end M
namespace M
open PySem PySem.Spec PyProof.Rows L2 Own Pu
structure LWs (ws:List (Int×Int)) (l:Int) (ps:List (List Int)) (ls:List Int) (lg:List (List Int)) (kvs:List (Key×V)):Prop where
 g:LW ws l ps ls lg
 nd:(lg.map (Uy l)).Nodup
 rc:∀h:Int,(valV kvs (.inl h)).isSome=true↔h∈lg.map (Uy l)
 len:kvs.length<=lg.length
section
variable {ws:List (Int×Int)}{l:Int}{ps:List (List Int)}{ls:List Int}{lg:List (List Int)}{kvs:List (Key×V)}
def LWs.len_le (L:LWs ws l ps ls lg kvs):lg.length<=ls.length:=by
 have:=B5 L.nd (ys:=ls) fun h hh=>by
  obtain⟨q,hq,e⟩:=YL.mp hh;obtain⟨p,_,x,hx,rfl,_⟩:=L.g q hq;rw[Ph]at e;rw[←e];exact hx
 rwa[Ym]at this
def LWs.put {p:List Int}{h:Int} (hp:p∈ps) (hh:h∈ls) (G:LWs ws l ps ls lg kvs) (new:(valV kvs (.inl h)).isSome=false) (hw:(Uy l p,h)∈ws):LWs ws l ps ls (lg++[p++[h]]) (putK kvs (.inl h) (.bl true)):=by
 have lh:Uy l (p++[h])=h:=by rw[Ph];rfl
 have nh:h∉lg.map (Uy l):=fun z=>by rw[(G.rc h).mpr z]at new;cases new
 refine⟨fun q hq=>?_,?_,fun x=>?_,?_⟩
 ·rcases YG.mp hq with hq|hq
  ·exact G.g q hq
  ·exact⟨p,hp,h,hh,Yx.mp hq,hw⟩
 ·rw[Y8,QL,lh];refine Wt.mpr ⟨G.nd,by simp,fun a ha b hb=>?_⟩;rw[Yx.mp hb];rintro rfl;exact nh ha
 ·rw[Y8,QL,lh,Sz,YG,Yx];by_cases e:x=h
  ·subst e;rw[Yr rfl];exact⟨fun _=>.inr rfl,fun _=>rfl⟩
  ·rw[Yp (fun z=>e (Sum.inl.inj z)),G.rc];exact⟨.inl,fun z=>z.elim id fun w=>absurd w e⟩
 ·rw[Yw]
  have:=NU kvs (.inl h) (.bl true)
  have:=G.len
  simp;omega
end
def AU(c:Int->Bool):∀ws:List Int,ws.filterMap (fun q=>if c q=true then some (D.int q)else none)=(ws.filter c).map D.int:=XH c D.int
def Zes{hs:List Int}{ws:List (Int×Int)}{l:Int}(hu:∀q∈ws,q.1≠q.2)(hN:¬ ∃r,Ring hs ws r)(hl:l∈hs):∀(n:Nat) (t:List Int),t.length<=n->¬PH hs ws l t:=by
 intro n
 induction n with
 |zero=>exact fun t ht hc=>hN ⟨_,CQ hu hl hc fun u _=>by omega⟩
 |succ n ih=>exact fun t ht hc=>hN ⟨_,CQ hu hl hc fun u hu'=>YU fun z=>ih u (by omega) hu'⟩
def RS(γ:List (Option Pu.S)):Nat:=match γ[4]? with
 |some (some (Pu.S.sh (Pu.D.tup ds)))=>ds.length
 |_=>0
def PV{α:Type}{xs:List α}{x:α}(h:xs[xs.length-1]?=some x):atI xs (-1)=some x:=by
 have hi:=(YD.mp h).1;unfold atI ixN;rw[Yp (by omega),Yr (by omega)];show xs[_]?=some x;rw[←h];congr 1;omega
end M
namespace T
open PySem PySem.Spec PyProof.Rows L2 Own M
section
variable {P:Program}{w:World}{K:Za}{mg:Str->Option Value}{base:Heap}
def Rq(G:Glob K mg)(D:Def K mg "holders_of" Fc ["strips"])
  : Callee P w K mg base CX0 1 "holders_of" ["strips"] (GF K):=by
 refine D.ok (k:=0) Zex (fun vs H Q E h=>?_) (fun f cdv A outer s H vs Q E hr h=>?_)
 ·obtain⟨l,ps,rfl,⟨vs,hl,hv⟩,hF,hz,q⟩:=h;rfl
 ·obtain⟨l,ps,rfl,⟨vs,hl,hv⟩,hF,hz,q⟩:=h;refine⟨_,(JL (JQ (UV (GC rfl) (by rfl) G.sorted boot_sorted (JU (Ky (L3 rfl) (by rfl) G.set boot_set (JU (Xa (N':=["holder","width"]) (φ:=[none,none]) rfl (Own.CompOk.of (by rfl)) (GM (pv 0)) (fun _ _ _ _ _=>⟨(Td (K:=K) (n:=2) rfl (Kb (Bv (i:=0) (show(["holder","width"]:List Str).Nodup from by decide +kernel) rfl (by first|exact Or.inl rfl|exact Or.inr rfl)) (Kb (Bv (i:=1) (show(["holder","width"]:List Str).Nodup from by decide +kernel) rfl (by first|exact Or.inl rfl|exact Or.inr rfl)) PP))),Xq,(pv 0)⟩)) Uv)) Uv)))),?_⟩
  have e1:=hv.1;refine⟨_,rfl,l,rfl,⟨_,SqL.of hl⟩,fun D nD=>Zct (ds:=ps) (fun d=>some (V.int d.1)) (SqL.of hl) e1 nD (Y4 hz (by decide)) (fun i x d H2 hx hd S k hk=>?_) ?_⟩
  ·obtain⟨d',hd',a,rfl,ha⟩:=hv.get hx;rw[hd]at hd';cases hd'
   exact⟨a,_,rfl,SqT.of (S _ _ ha),rfl,_,_,rfl,_,_,rfl,rfl,.skip (.skip .refl),_,rfl,hk⟩
  ·have em:ps.filterMap (fun d=>some (V.int d.1))=(ps.map (·.1)).map V.int:=by
    rw[Qv,YR];rfl
   rw[em];have S1:Same H (upd H D (.lst ((ps.map (·.1)).map V.int))):=UP nD;refine⟨D,ps.map (·.1),rfl,SqL.of U6,by rw[Ym];omega,fun s1 n1=>?_⟩;have S2:=Own.Same.new (o:=SetH w s1 ((ps.map (·.1)).foldl SetR.addJ [])) S1 n1;refine⟨s1,_,rfl,?_,.inr U6,fun r ns n2 hp hs=>?_⟩
   ·have:=DA (ps.map (·.1)) []
    rw[Ym]at this;simp at this ⊢;omega
   ·rw[Zd6 hF hp hs];exact q r _ (S2.free n2) (Own.Same.new S2 n2) U6
end
open Pu
section
variable {P:Program}{w:World}{K:Za}{mg:Str->Option Value}{base:Heap}
def LN(G:Glob K mg)(DD:Def K mg "check_holder" Fk ["holder"])
  : Sf P w K mg base:=by
 refine DD.ox (k:=0) MD (fun _ _ _ _ _ _ E hr=>⟨_,(JL (JV (PW.pt (Xl (Ui X1 (pv 0) JI (Ul _)) (Xu (Ui Xp (pv 0) (ExcR.XF G.HOLDERS) (Ul _))))) (JL (ExcR.Xw G.g_BadHolder.c G.m_BadHolder ExcR.Xo rfl (az (ExcR.pe_f (ExcR.XY (ExcR.Po (ExcR.XF G.HOLDERS) ExcR.Pk))))))
   JW)), (JZ (Xm (JT (X4 (JG 0) JH)) (JT (Xv (JG 0) JH))) (Xt (sz (se_f (Kd (Px JH Pp))))) JX)⟩) (.a fun ds R X h=>?_)
 ·obtain⟨h,rfl,hR⟩:=h;refine⟨rfl,?_⟩;unfold PM at hR;refine ite2 (fun g=>iteT ?_) (fun g=>?_)
  ·rw[Yp (by have:=Yu g;omega)]at hR;exact⟨by decide,by decide,by decide,by decide,by simp,hR⟩
  ·have g':¬h<1:=fun z=>g (Yq z);refine ite2 (fun g2=>?_) (fun g2=>?_)
   ·rw[Yp (by have:=Yu g2;omega)]at hR;exact⟨by decide,by decide,by decide,by decide,by simp,hR⟩
   ·have g2':¬10<h:=fun z=>g2 (Yq z);rw[Yr (by omega)]at hR;exact hR
def HE(G:Glob K mg)(DD:Def K mg "check_width" Bl ["width"])
  : Da P w K mg base:=by
 refine DD.ox (k:=0) Iv (fun _ _ _ _ _ _ E hr=>⟨_,(JL (JV (PW.pt (Xl (Ui X1 (pv 0) JI (Ul _)) (Xu (Ui Xp (pv 0) (ExcR.XF G.WIDEST) (Ul _))))) (JL (ExcR.Xw G.g_BadWidth.c G.m_BadWidth ExcR.Xo rfl (az (ExcR.pe_f (ExcR.XY (ExcR.Po (ExcR.XF G.WIDEST) ExcR.Pk))))))
   JW)), (JZ (Xm (JT (X4 (JG 0) JH)) (JT (Xv (JG 0) JH))) (Xt (sz (se_f (Kd (Px JH Pp))))) JX)⟩) (.a fun ds R X h=>?_)
 ·obtain⟨h,rfl,hR⟩:=h;refine⟨rfl,?_⟩;unfold Fz at hR;refine ite2 (fun g=>iteT ?_) (fun g=>?_)
  ·rw[Yp (by have:=Yu g;omega)]at hR;exact⟨by decide,by decide,by decide,by decide,by simp,hR⟩
  ·have g':¬h<1:=fun z=>g (Yq z);refine ite2 (fun g2=>?_) (fun g2=>?_)
   ·rw[Yp (by have:=Yu g2;omega)]at hR;exact⟨by decide,by decide,by decide,by decide,by simp,hR⟩
   ·have g2':¬1000<h:=fun z=>g2 (Yq z);rw[Yr (by omega)]at hR;exact hR
def Zay(G:Glob K mg)(DD:Def K mg "pair_cost" F3 ["strips","ahead","behind"])
  : Ct P w K mg base:=by
 refine DD.oz (k:=0) Pf (fun _ _ _ _ _ _ E hr=>⟨_,(JJ (Pu.pz 3 Pf.nd JI) (JJ (Pu.pz 4 Pf.nd JI) (JJ (UF YH rfl (Uu (K:=K) (pv 0)) (Td (K:=K) (n:=2) rfl (Kb (gz 5 Pf.nd) (Kb (gz 6 Pf.nd) PP))) (JL (JV (cq K hr (pv 5) (pv 2)) (JL (Dj (i:=3) Pf.nd rfl (by first|exact Or.inl rfl|exact Or.inr rfl) (pv 6) Ex)) (JL (JV (cq K hr (pv 5) (pv 1)) (JL (Dj (i:=4) Pf.nd rfl (by first|exact Or.inl rfl|exact Or.inr rfl) (JO KM (pv 3) (pv 6)) Ex))
   JW))))) (JL (JQ (pv 4)))))), (JK (JS JH (JN 3)) (JK (JS JH (JN 4)) (JK (Uc 0 (UD [5,6] (Xj (JG 0)) (Ts (Kx (JN 5) (Kx (JN 6) Tj))) (JZ (JT (Ur (JG 5) (JG 2))) (GN (JG 6)) (JZ (JT (Ur (JG 5) (JG 1))) (GN (KZ (JG 3) (JG 6))) JX)))) (XA 4))))⟩) (.a fun ds R X h=>?_)
 ·obtain⟨ps,x,y,rfl,hF,hR⟩:=h;refine⟨rfl,?_⟩;refine⟨rfl,Xk (xs:=ps) (emb:=prD) (fun i γ'=>γ'=[some (.bor (.lst (ps.map prD))),some (.sh (.int x)),some (.sh (.int y)),some (.sh (.int (tpM ps y i))),some (.sh (.int (pcM ps x y i))),none,none]) rfl ?_ ?_⟩
  ·rintro i hi γ' rfl;have hp:ps.getD i (0,0)=ps[i]:=by rw[Yo,Yl hi];rfl
   have hw:=hF _ (YC hi);have e1:tpM ps y (i+1)=tpM ps y i+(if ps[i].1=y then ps[i].2 else 0):=by simp only[tpM];rw[hp]
   have e2:pcM ps x y (i+1)=pcM ps x y i+(if x≠y/\ps[i].1=x then tpM ps y i*ps[i].2 else 0):=by simp only[pcM];rw[hp]
   rw[e1,e2];generalize ps[i]=p at hw;refine⟨rfl,ite2 (fun g=>?_) (fun g=>ite2 (fun g2=>?_) (fun g2=>?_))⟩
   ·have e:p.1=y:=Yu g;rw[Yr e,Yp (by rintro⟨z1,z2⟩;exact z1 (z2.symm.trans e)),Qj];rfl
   ·have e:¬p.1=y:=fun z=>g (Yq z);have e':p.1=x:=Yu g2;rw[Yp e,Yr ⟨fun z=>e (e'.trans z),e'⟩,Qj];exact⟨.inr ⟨by show -(2 ^ 64)<p.2;omega,by show p.2<2 ^ 64;omega⟩,rfl⟩
   ·have e:¬p.1=y:=fun z=>g (Yq z);have e':¬p.1=x:=fun z=>g2 (Yq z);rw[Yp e,Yp (by rintro⟨z1,z2⟩;exact e' z2),Qj,Qj];rfl
  ·rintro γ' rfl;exact hR
def Zaq(G:Glob K mg)(DD:Def K mg "check_neighbours" Bw ["strips","place"])
  : El P w K mg base:=by
 refine DD.ox (k:=0) Zap (fun _ _ _ _ _ _ E hr=>⟨_,(JL (JV (PW.pt (Xl (Ui X1 (pv 1) JI (Ul _)) (Xu (Ui P3 (pv 1) (ln K G.len (pv 0)) (Ul _))))) (JL (ExcR.Xw G.g_NoStrip.c G.m_NoStrip ExcR.Xo rfl (az U0)))
   JW)), (JZ (Xm (JT (X4 (JG 1) JH)) (JT (Te (JG 1) (U2 (sz (JG 0)))))) (Xt (sz U1)) JX)⟩) (.a fun ds R X h=>?_)
 ·obtain⟨ps,p,rfl,hR⟩:=h;refine⟨rfl,?_⟩;have hl:(ps.map prD).length=ps.length:=Ym ..;refine ite2 (fun g=>iteT ?_) (fun g=>?_)
  ·rw[Yr (.inl (Yu g))]at hR;exact⟨by simp,hR⟩
  ·have g':¬p<1:=fun z=>g (Yq z);refine ite2 (fun g2=>?_) (fun g2=>?_)
   ·have g2':((ps.map prD).length:Int)<=p:=Yu g2;rw[Yr (.inr (by omega))]at hR;exact⟨by simp,hR⟩
   ·have g2':¬((ps.map prD).length:Int)<=p:=fun z=>g2 (Yq z);rw[Yp (by omega)]at hR;exact hR
def Zdg(G:Glob K mg)(DD:Def K mg "longer_paths" BO ["paths","left","wishes"])
  : E8 P w K mg base:=by
 refine DD.oz (k:=0) T5 (fun _ _ _ _ _ _ E hr=>⟨_,(JJ (Pu.pz 3 T5.nd (Ug Uv)) (JJ (Pu.pz 4 T5.nd Mg) (JJ (UF YH rfl (Uu (K:=K) (pv 0)) (gz 5 T5.nd) (JL (UF YH rfl (Uu (K:=K) (pv 1)) (gz 6 T5.nd) (JL (JV (PW.pt (Pn (Zcq (OQ (UC hr) (pv 6) (pv 4))) (PJ (Ui (Ke (K:=K) (show _<cLine from UC hr)) (Up (bz (jx K (pv 5) (Xe Xd JI)) (pv 6))) (pv 2) (by with_unfolding_all rfl))))) (JJ (B9 (UC hr) (pv 4) (pv 6) UE rfl) (JL (U9 (Kz YJ Wk Wl KA (pv 3) (az (JO Xr (pv 5) (Ug (az (pv 6)))))))))
   JW))))) (JL (JQ (pv 3)))))), (JK (JS (Ue Uj) (JN 3)) (JK (JS Zbn (JN 4)) (JK (Uc 1 (Uc 0 (UD [5,6] (Xj (JG 0)) (JN 5) (Uc 1 (UD [6] (Xj (JG 1)) (JN 6) (JZ (Pl (st_b (Zej (JG 6) (JG 4))) (JT (Xy (Uq (tz (JM (JG 5) (Xh JH)) (JG 6))) (JG 2)))) (JK (BD 4 (JG 6) UG) (Uc 6 (Na 3 (Xn (JG 5) (Ue (sz (JG 6))))))) JX)))))) (XA 3))))⟩) (.a fun ds R X h=>?_)
 ·obtain⟨l,ps,ls,ws,rfl,hpl,hll,hR⟩:=h;refine⟨rfl,?_⟩
  refine⟨by simp,rfl,Xk (xs:=ps) (emb:=em l) (fun i γ'=>∃lg kvs,γ'=[some (.bor (.lst (ps.map (em l)))),some (.bor (.lst (ls.map D.int))),some (.bor (.lst (ws.map prD))),some (.own (lg.map (em l))),some (.own (.dK kvs)),none,none]/\LWs ws l ps ls lg kvs)
   ⟨[],[],rfl,(fun q hq=>by cases hq),Qf,(fun h=>by simp[valV]),Yy _⟩ ?_ ?_⟩
  ·rintro i hi γ' ⟨lg,kvs,rfl,G⟩;have hp:=YC hi;have hpi:=hpl ps[i] hp;generalize ps[i]=p at hp hpi ⊢;refine⟨rfl,Xk (xs:=ls) (emb:=D.int) (fun j γ'=>∃lg kvs,γ'=[some (.bor (.lst (ps.map (em l)))),some (.bor (.lst (ls.map D.int))),some (.bor (.lst (ws.map prD))),some (.own (lg.map (em l))),some (.own (.dK kvs)),some (.bor (em l p)),none]/\LWs ws l ps ls lg kvs) ⟨lg,kvs,rfl,G⟩ ?_ ?_⟩
   ·rintro j hj γ' ⟨lg,kvs,rfl,G⟩;have hh:=YC hj;generalize ls[j]=h at hh ⊢;have hlen:=G.len_le;have hkl:=G.len;refine⟨.inl h,rfl,ite2 (fun g=>?_) (fun g=>iteF ⟨lg,kvs,rfl,G⟩)⟩
    have g':(valV kvs (.inl h)).isSome=false:=by
     cases e:(valV kvs (.inl h)).isSome with
     |false=>rfl
     |true=>rw[e]at g;cases g
    refine⟨_,Bk l p,by simp,_,.lp (Uy l p,h) ws,ite2 (fun g2=>?_) (fun g2=>⟨lg,kvs,rfl,G⟩)⟩;refine⟨.inl h,.bl true,rfl,rfl,by omega,by simp,Sk _,rfl,by simp;omega,by rw[Ym];omega,lg++[p++[h]],_,?_,G.put hp hh g' (Yu g2)⟩;rw[Y8]
    have e:em l (p++[h])=.lst ((l::p).map D.int++[.int h]):=by
     unfold em;rw[←Vf,Y8];rfl
    rw[QL,e];rfl
   ·rintro γ' ⟨lg,kvs,rfl,G⟩;exact⟨lg,kvs,rfl,G⟩
  ·rintro γ' ⟨lg,kvs,rfl,G⟩;exact hR lg G.g G.len_le
def Zce(G:Glob K mg)(DD:Def K mg "check_place" B0 ["strips","place"])
  : Fj P w K mg base:=by
 refine DD.ox (k:=0) Zet (fun _ _ _ _ _ _ E hr=>⟨_,(JL (JV (PW.pt (Xl (Ui X1 (pv 1) JI (Ul _)) (Xu (Ui Xp (pv 1) (ln K G.len (pv 0)) (Ul _))))) (JL (ExcR.Xw G.g_NoStrip.c G.m_NoStrip ExcR.Xo rfl (az U0)))
   JW)), (JZ (Xm (JT (X4 (JG 1) JH)) (JT (Xv (JG 1) (U2 (sz (JG 0)))))) (Xt (sz U1)) JX)⟩) (.a fun ds R X h=>?_)
 ·obtain⟨ps,p,rfl,hR⟩:=h;refine⟨rfl,?_⟩;have hl:(ps.map prD).length=ps.length:=Ym ..;unfold N6 at hR;refine ite2 (fun g=>iteT ?_) (fun g=>?_)
  ·rw[Yr (.inl (Yu g))]at hR;exact⟨by simp,hR⟩
  ·have g':¬p<1:=fun z=>g (Yq z);refine ite2 (fun g2=>?_) (fun g2=>?_)
   ·have g2':((ps.map prD).length:Int)<p:=Yu g2;rw[Yr (.inr (by omega))]at hR;exact⟨by simp,hR⟩
   ·have g2':¬((ps.map prD).length:Int)<p:=fun z=>g2 (Yq z);rw[Yp (by omega)]at hR;exact hR
def HI(G:Glob K mg)(DD:Def K mg "without_wish" Ac ["wishes","ahead","behind"])
  : GB P w K mg base:=by
 refine DD.ox (k:=0) Zcv (fun _ _ _ _ _ _ E hr=>⟨_,(JJ (JV (Ui (AB (K:=K) (show _<cLine from UC hr)) (Up (bz (pv 1) (pv 2))) (pv 0) (by with_unfolding_all rfl)) (JL (ExcR.Xw G.g_NoWish.c G.m_NoWish ExcR.Xo rfl (az U0)))
   JW) (JL (JQ (Xa (N':=["wish","ahead","behind"]) (φ:=[none,some 1,some 2]) rfl (Own.CompOk.of (by rfl)) (Uu (K:=K) (pv 0)) (fun _ _ _ _ _=>⟨(gz 0 (show(["wish","ahead","behind"]:List Str).Nodup from by decide +kernel)),(X5 (Ui (Ck (K:=K) (show _<cLine from hr.units0)) (pv 0) (Up (bz (pv 1) (pv 2))) (Ul _))),(pv 0)⟩))))), (JK (JZ (JT (Xy (Uq (tz (JG 1) (JG 2))) (JG 0))) (Xt (sz U1)) JX) (Uc 2 (Uc 1 (JY (U8 (US (JG 0)) (JN 0) (JT (DW (JG 0) (Uq (tz (JG 1) (JG 2))))) (JG 0))))))⟩) (.a fun ds R X h=>?_)
 ·obtain⟨ws,a,b,rfl,hz,hR⟩:=h;refine⟨rfl,?_⟩;unfold UN at hR;refine⟨by simp,_,.lp (a,b) ws,ite2 (fun g=>?_) (fun g=>?_)⟩
  ·have g':¬(a,b)∈ws:=fun z=>by rw[Yr rfl,Yq z]at g;cases g
   rw[Yp g']at hR;exact⟨by simp,hR⟩
  ·have g':(a,b)∈ws:=YU fun z=>g (by rw[Yr rfl,YA z];rfl);rw[Yr g']at hR;refine UH (xs:=ws) (emb:=prD) (fun q=>if (!decide (q=(a,b)))=true then some (prD q)else none) (by omega) (fun q hq=>?_) ?_
   ·refine⟨by simp,?_⟩;show fNeT (.sh (prD q)) (.sh (prD (a,b))) _;refine IX ?_;exact ite2 (fun h=>⟨_,rfl,Yr h⟩) (fun h=>Yp h)
   ·rw[XH (fun q:Int×Int=>!decide (q=(a,b)))];exact hR
def Rx(G:Glob K mg)(DD:Def K mg "sets_of" Bc ["holders"])
  : Hi P w K mg base:=by
 refine DD.oz (k:=0) Se (fun _ _ _ _ _ _ E hr=>⟨_,(JJ (Pu.pz 1 Se.nd (Ug (az (Up Uv)))) (JJ (UF YH rfl (Uu (K:=K) (pv 0)) (gz 2 Se.nd) (JL (Pu.pz 1 Se.nd (JO Xr (pv 1) (Xa (N':=["members","holder"]) (φ:=[none,some 2]) rfl (Own.CompOk.of (by rfl)) (Uu (K:=K) (pv 1)) (fun _ _ _ _ _=>⟨(gz 0 (show(["members","holder"]:List Str).Nodup from by decide +kernel)),Xq,(JO (M2 (K:=K)) (pv 0) (Up (az (pv 1))))⟩)))))) (JL (JQ (pv 1))))), (JK (JS (Ue (sz (Uq Uj))) (JN 1)) (JK (Uc 0 (UD [2] (Xj (JG 0)) (JN 2) (Uc 2 (JS (Xn (JG 1) (U8 (US (JG 1)) (JN 0) Xz (Zd4 (JG 0) (Uq (sz (JG 1)))))) (JN 1))))) (XA 1)))⟩) (.a fun ds R X h=>?_)
 ·obtain⟨hs,rfl,hz,hR⟩:=h;refine⟨rfl,?_⟩;refine⟨by simp,by simp,rfl,Xk (xs:=hs) (emb:=D.int) (fun i γ'=>γ'=[some (.bor (.lst (hs.map D.int))),some (.own ((Uo (hs.take i)).map tD)),none]) rfl ?_ ?_⟩
  ·rintro i hi γ' rfl
   have hlen:(Uo (hs.take i)).length<=1024:=by
    rw[XB,Wj];exact W1 (j:=10) (by decide) (by omega)
   have hel:∀ms∈Uo (hs.take i),ms.length<=10:=fun ms hm=>by
    have:=(PQ _ ms hm).length_le
    rw[Wj]at this;omega
   rw[YY hi,K0];generalize Uo (hs.take i)=S at hlen hel ⊢;generalize hs[i]=h;refine UH (xs:=S) (emb:=tD) (fun ms=>some (tD (ms++[h]))) (by omega) (fun ms hm=>?_) ?_
   ·refine⟨by simp,_,_,Zc8 ms,rfl,?_,_,rfl,?_⟩
    ·have:=hel ms hm
     rw[Ym];show ms.length+1<=100000;omega
    ·unfold tD;rw[Y8];rfl
   ·rw[mapD];refine⟨rfl,rfl,?_,?_⟩
    ·rw[Ym,Ym];omega
    ·show[_,_,_]=[_,_,_];rw[Y8,YR];rfl
  ·rintro γ' rfl;rw[WB];exact hR
def Mw(G:Glob K mg)(DD:Def K mg "without" Bx ["members","holder"])
  : S9 P w K mg base:=by
 refine DD.oz (k:=0) IL (fun _ _ _ _ _ _ E hr=>⟨_,(JL (JQ (Ky (AJ (K:=K)) (by rfl) G.tuple boot_tuple (az (Xa (N':=["member","holder"]) (φ:=[none,some 1]) rfl (Own.CompOk.of (by rfl)) (Tr (K:=K) (pv 0)) (fun _ _ _ _ _=>⟨(gz 0 (show(["member","holder"]:List Str).Nodup from by decide +kernel)),(X5 (cn K hr (pv 0) (pv 1))),(pv 0)⟩)))))), (JY (CH (sz (U8 (SndI.c (TR (JG 0))) (JN 0) (JT (KJ (JG 0) (JG 1))) (JG 0)))))⟩) (.a fun ds R X h=>?_)
 ·obtain⟨ms,h,rfl,hz,hR⟩:=h;refine⟨rfl,?_⟩;rw[Nh];refine⟨_,rfl,UH (s:=.sh .non) (xs:=ms) (emb:=D.int) (fun m=>if decide (m≠h)=true then some (.int m)else none) (by omega) (fun m hm=>?_) ?_⟩
  ·show if (!decide (m=h))=true then _ else _;by_cases e:m=h
   ·rw[Yq e];exact iteF (by simp[e])
   ·rw[YA e];exact iteT ⟨_,rfl,Yr (Yq e)⟩
  ·rw[XH (fun m=>decide (m≠h))];exact⟨rfl,hR⟩
def MP(G:Glob K mg)(DD:Def K mg "may_lie_last" Bn ["members","holder","wishes"])
  : E1 P w K mg base:=by
 refine DD.oz (k:=0) M7 (fun _ _ _ _ _ _ E hr=>⟨_,(JL (JQ (Fg (UV (Dl (K:=K) rfl) (by rfl) G.any boot_any (az (Xa (N':=["ahead","behind","holder","members"]) (φ:=[none,none,some 1,some 0]) rfl (Own.CompOk.of (by rfl)) (Uu (K:=K) (pv 2)) (fun _ _ _ _ _=>⟨(Td (K:=K) (n:=2) rfl (Kb (gz 0 (show(["ahead","behind","holder","members"]:List Str).Nodup from by decide +kernel)) (Kb (gz 1 (show(["ahead","behind","holder","members"]:List Str).Nodup from by decide +kernel)) PP))),Xq,(ND (KF (PR (K:=K) (show _<cLine from hr.units0)) (pv 0) (pv 2) (Ul _)) (NX (KF (Ke (K:=K) (show _<cLine from UC hr)) (pv 1) (pv 3) (by with_unfolding_all rfl))))⟩))))))), (JY (FF (Eu (sz (U8 (US (JG 2)) (Ts (Kx (JN 0) (Kx (JN 1) Tj))) Xz (Sq (Ur (JG 0) (JG 2)) (Xy (JG 1) (JG 3))))))))⟩) (.a fun ds R X h=>?_)
 ·obtain⟨ms,h,ws,rfl,hz,hR⟩:=h;refine⟨rfl,?_⟩;rw[Nh];refine UH (xs:=ws) (emb:=prD) (fun q=>some (.bl (decide (q.1=h)&&decide (q.2∈ms)))) (by omega) (fun q hq=>?_) ?_
  ·refine⟨rfl,?_⟩;show if true=true then(if decide (q.1=h)=true then _ else _)else(some (D.bl (decide (q.1=h)&&decide (q.2∈ms)))=none);refine iteT (ite2 (fun g=>⟨_,.ti _ _,?_⟩) (fun g=>?_))
   ·refine⟨_,rfl,?_⟩;rw[g,Qm];rfl
   ·refine⟨_,rfl,?_⟩;rw[Qx.mpr g,QM]
  ·rw[mapD];refine⟨ws.map fun q=>decide (q.1=h)&&decide (q.2∈ms),by rw[YR];rfl,?_⟩;rw[List.any_map];exact hR
def OS(G:Glob K mg)(DD:Def K mg "may_lie_first" F2 ["members","holder","wishes"])
  : Ep P w K mg base:=by
 refine DD.oz (k:=0) M6 (fun _ _ _ _ _ _ E hr=>⟨_,(JL (JQ (Fg (UV (Dl (K:=K) rfl) (by rfl) G.any boot_any (az (Xa (N':=["ahead","behind","holder","members"]) (φ:=[none,none,some 1,some 0]) rfl (Own.CompOk.of (by rfl)) (Uu (K:=K) (pv 2)) (fun _ _ _ _ _=>⟨(Td (K:=K) (n:=2) rfl (Kb (gz 0 (show(["ahead","behind","holder","members"]:List Str).Nodup from by decide +kernel)) (Kb (gz 1 (show(["ahead","behind","holder","members"]:List Str).Nodup from by decide +kernel)) PP))),Xq,(ND (KF (PR (K:=K) (show _<cLine from hr.units0)) (pv 1) (pv 2) (Ul _)) (NX (KF (Ke (K:=K) (show _<cLine from UC hr)) (pv 0) (pv 3) (by with_unfolding_all rfl))))⟩))))))), (JY (FF (Eu (sz (U8 (US (JG 2)) (Ts (Kx (JN 0) (Kx (JN 1) Tj))) Xz (Sq (Ur (JG 1) (JG 2)) (Xy (JG 0) (JG 3))))))))⟩) (.a fun ds R X h=>?_)
 ·obtain⟨ms,h,ws,rfl,hz,hR⟩:=h;refine⟨rfl,?_⟩;rw[Nh];refine UH (xs:=ws) (emb:=prD) (fun q=>some (.bl (decide (q.2=h)&&decide (q.1∈ms)))) (by omega) (fun q hq=>?_) ?_
  ·refine⟨rfl,?_⟩;show if true=true then(if decide (q.2=h)=true then _ else _)else(some (D.bl (decide (q.2=h)&&decide (q.1∈ms)))=none);refine iteT (ite2 (fun g=>⟨_,.ti _ _,?_⟩) (fun g=>?_))
   ·refine⟨_,rfl,?_⟩;rw[g,Qm];rfl
   ·refine⟨_,rfl,?_⟩;rw[Qx.mpr g,QM]
  ·rw[mapD];refine⟨ws.map fun q=>decide (q.2=h)&&decide (q.1∈ms),by rw[YR];rfl,?_⟩;rw[List.any_map];exact hR
def Zaj(G:Glob K mg)(DD:Pu.DefM K (Meth K (ExcR.JP mg "Village") "strips") "strips" "Village.strips" B7 ["self"])
  : K9 P w K mg base:=by
 refine DD.oz (k:=0) Zax (fun _ _ _ _ _ _ E hr=>⟨_,(JL (JQ (Ky (To (K:=K)) (by rfl) G.list boot_list (az (jx K (Km (pv 0) rfl) (Xe Xd JI)))))), (JY (Nf (sz (JM (TH 1 G.cl_Village G.n_Village_fields Aj (JG 0)) (Xh JH)))))⟩) (.a fun ds R X h=>?_)
 ·obtain⟨bk,fs,ws,f,rfl,hR⟩:=h;refine⟨rfl,?_⟩;exact⟨rfl,rfl,_,rfl,_,PV plD fs f,Kw _,hR⟩
def Zdd(G:Glob K mg)(DD:Pu.DefM K (Meth K (ExcR.JP mg "Village") "wishes") "wishes" "Village.wishes" A1 ["self"])
  : K5 P w K mg base:=by
 refine DD.oz (k:=0) RN (fun _ _ _ _ _ _ E hr=>⟨_,(JL (JQ (Ky (To (K:=K)) (by rfl) G.list boot_list (az (jx K (Km (pv 0) rfl) (Xe Xd JI)))))), (JY (Nf (sz (JM (TH 2 G.cl_Village G.n_Village_wished Fl (JG 0)) (Xh JH)))))⟩) (.a fun ds R X h=>?_)
 ·obtain⟨bk,fs,ws,f,rfl,hR⟩:=h;refine⟨rfl,?_⟩;exact⟨rfl,rfl,_,rfl,_,PV plD ws f,Kw _,hR⟩
def R4(G:Glob K mg)(DD:Pu.DefM K (Meth K (ExcR.JP mg "Village") "check_room") "check_room" "Village.check_room" FZ ["self"])
  : PZ P w K mg base:=by
 refine DD.ox (k:=0) Zd1 (fun _ _ _ _ _ _ E hr=>⟨_,(JL (JV (Ui P3 (ln K G.len (Km (pv 0) rfl)) (ExcR.XF G.MOST_DEEDS) (Ul _)) (JL (ExcR.Xw G.g_BookFull.c G.m_BookFull ExcR.Xo rfl (az (ExcR.pe_f (ExcR.XY (ExcR.Po (ExcR.XF G.MOST_DEEDS) (ExcR.XY ExcR.Pk)))))))
   JW)), (JZ (JT (Te (U2 (sz (TH 0 G.cl_Village G.n_Village_book TK (JG 0)))) JH)) (Xt (sz (se_f (Kd (Px JH (Kd Pp)))))) JX)⟩) (.a fun ds R X h=>?_)
 ·obtain⟨bk,fs,ws,rfl,hR⟩:=h;refine⟨rfl,?_⟩;have hl:(bk.map dD).length=bk.length:=Ym ..;unfold Pi at hR;refine⟨rfl,rfl,_,rfl,ite2 (fun g=>?_) (fun g=>?_)⟩
  ·have g':(100:Int)<=((bk.map dD).length:Int):=Yu g;rw[Yr (by omega)]at hR;exact⟨by decide,by decide,by decide,by decide,by decide,by simp,hR⟩
  ·have g':¬(100:Int)<=((bk.map dD).length:Int):=fun z=>g (Yq z);rw[Yp (by omega)]at hR;exact hR
def OH(G:Glob K mg)(DD:Pu.DefM K (Meth K (ExcR.JP mg "Village") "enter") "enter" "Village.enter" SS ["self","deed","field","wishes"])
  : P5 P w K mg base:=by
 refine DD.oz (k:=0) Zcg (fun _ _ _ _ _ _ E hr=>⟨_,(JJ (U9 (Kz YJ Wk Wl KA (Km (pv 0) rfl) (az (pv 1)))) (JJ (U9 (Kz YJ Wk Wl KA (Km (pv 0) rfl) (az (pv 2)))) (JJ (U9 (Kz YJ Wk Wl KA (Km (pv 0) rfl) (az (pv 3)))) (JL (JQ (ln K G.len (Km (pv 0) rfl))))))), (JK (Uc 1 (P0 (FD 0 0 G.cl_Village G.n_Village_book TK (JG 1)))) (JK (Uc 2 (P0 (FD 0 1 G.cl_Village G.n_Village_fields Aj (JG 2)))) (JK (Uc 3 (P0 (FD 0 2 G.cl_Village G.n_Village_wished Fl (JG 3)))) (P4 (U2 (sz (TH 0 G.cl_Village G.n_Village_book TK (JG 0))))))))⟩) (.c fun o ss R X h=>?_)
 ·obtain⟨x,b1,b2,b3,bk,fs,ws,q,f,w,rfl,rfl,h1,h2,h3,hR⟩:=h;refine⟨rfl,?_⟩;have k1:(bk.map dD).length<10000000:=by rw[Ym];omega
  have k2:(fs.map plD).length<10000000:=by rw[Ym];omega
  have k3:(ws.map plD).length<10000000:=by rw[Ym];omega
  refine⟨rfl,rfl,_,rfl,k1,rfl,rfl,_,rfl,k2,rfl,rfl,_,rfl,k3,rfl,rfl,_,rfl,_,rfl,⟨rfl,by simp⟩,?_⟩;have e:(((bk.map dD++[dD q]).length:Nat):Int)=(bk.length:Int)+1:=by rw[Yw,Ym];simp
  show R (.ins x _ vF [(b1,bk.map dD++[dD q]),(b2,fs.map plD++[plD f]),(b3,ws.map plD++[plD w])]) (.int (((bk.map dD++[dD q]).length:Nat):Int));rw[e];have e1:bk.map dD++[dD q]=(bk++[q]).map dD:=by rw[Y8];rfl
  have e2:fs.map plD++[plD f]=(fs++[f]).map plD:=by rw[Y8];rfl
  have e3:ws.map plD++[plD w]=(ws++[w]).map plD:=by rw[Y8];rfl
  rw[e1,e2,e3];exact hR
def O9(G:Glob K mg)(DD:Pu.DefM K (Meth K (ExcR.JP mg "Village") "take_back") "take_back" "Village.take_back" Fi ["self"])
  : Hn P w K mg base:=by
 refine DD.ox (k:=0) LG (fun _ _ _ _ _ _ E hr=>⟨_,(JJ (JV (Xi (UL (K:=K) (Km (pv 0) rfl))) (JL (ExcR.Xw G.g_NothingDone.c G.m_NothingDone ExcR.Xo rfl (az U0)))
   JW) (JJ (U9 (TM YJ Q2 Q3 Sg (Km (pv 0) rfl))) (JJ (U9 (TM YJ Q2 Q3 Sg (Km (pv 0) rfl))) (JL (JQ (TM YJ Q2 Q3 Sg (Km (pv 0) rfl))))))), (JK (JZ (XM (Xb (TH 0 G.cl_Village G.n_Village_book TK (JG 0)))) (Xt (sz U1)) JX) (JK (P0 (Au 0 1 G.cl_Village G.n_Village_fields Aj)) (JK (P0 (Au 0 2 G.cl_Village G.n_Village_wished Fl)) (Kg (Au 0 0 G.cl_Village G.n_Village_book TK)))))⟩) (.c fun o ss R X h=>?_)
 ·obtain⟨x,b1,b2,b3,bk,fs,ws,rfl,rfl,h1,h2,hX,hR⟩:=h;refine⟨rfl,?_⟩;have emp:(bk.map dD).isEmpty=decide (bk=[]):=by cases bk<;>simp
  refine⟨rfl,rfl,_,rfl,?_⟩;show if (!(!(bk.map dD).isEmpty))=true then _ else _;rw[Bool.not_not,emp];refine ite2 (fun g=>⟨by simp,_,rfl,⟨rfl,by simp⟩,hX (Yu g)⟩) (fun g=>?_);have hne:bk≠[]:=fun z=>g (Yq z);obtain⟨b0,q,rfl⟩:∃b0 q,bk=b0++[q]:=⟨_,_,(List.dropLast_concat_getLast hne).symm⟩;have hl:(b0++[q]).length=b0.length+1:=by simp
  have f1:(fs.map plD)[(fs.map plD).length-1]?=some (plD (fs[fs.length-1]'(by omega))):=by
   rw[Ym,Yt,Yl (by omega)];rfl
  have w1:(ws.map plD)[(ws.map plD).length-1]?=some (plD (ws[ws.length-1]'(by omega))):=by
   rw[Ym,Yt,Yl (by omega)];rfl
  have q1:((b0++[q]).map dD)[((b0++[q]).map dD).length-1]?=some (dD q):=by
   rw[Ym,Yt,hl,Qp,YK (Yy _),Vu];rfl
  refine⟨rfl,rfl,_,_,rfl,f1,rfl,rfl,_,_,rfl,w1,rfl,rfl,_,_,rfl,q1,_,rfl,⟨rfl,by simp⟩,?_⟩;have e1:((b0++[q]).map dD).dropLast=b0.map dD:=by rw[Y8];exact WI
  have e2:(fs.map plD).dropLast=fs.dropLast.map plD:=List.map_dropLast.symm;have e3:(ws.map plD).dropLast=ws.dropLast.map plD:=List.map_dropLast.symm
  have:=hR b0 q rfl
  rw[show vO (ExcR.JP mg "Village") x b1 b2 b3 b0 fs.dropLast ws.dropLast=.ins x (ExcR.JP mg "Village") vF [(b1,((b0++[q]).map dD).dropLast),(b2,(fs.map plD).dropLast),(b3,(ws.map plD).dropLast)] by rw[e1,e2,e3]]at this;exact this
def Mb(G:Glob K mg)(DD:Def K mg "_law_at" SO ["_law_script","_law_k"])
  : Tc P w K mg base:=by
 refine DD.oz (k:=0) MS (fun _ _ _ _ _ _ E hr=>⟨_,(JJ (JV (Ui X1 (pv 1) (ln K G.len (pv 0)) (Ul _)) (JL (JQ (jx K (pv 0) (pv 1))))
   JW) (JL (JQ JI))), (JK (JZ (JT (X4 (JG 1) (U2 (sz (JG 0))))) (JY (JM (JG 0) (JG 1))) JX) (JY JH))⟩) (.a fun ds R X h=>?_)
 ·obtain⟨ns,k,rfl,hk,hR⟩:=h;refine⟨rfl,?_⟩;refine ite2 (fun g=>?_) (fun g=>?_)
  ·have g':k<(ns.length:Int):=Yu g;have e:=Yl (show k.toNat<ns.length by omega);rw[Yo,e]at hR;exact⟨_,Tn hk e,hR⟩
  ·have g':¬k<(ns.length:Int):=fun z=>g (Yq z);rw[Yo,WU (by omega)]at hR;exact hR
def OZ(G:Glob K mg)(DD:Def K mg "_law_whole" Ab ["_law_found"])
  : NH P w K mg base:=by
 refine DD.oz (k:=0) Zam (fun _ _ _ _ _ _ E hr=>⟨_,(JL (JQ (ND (UV (Nc (K:=K)) (by rfl) G.isinstance QD (bz (pv 0) (TL (v:=.ty "int") rfl G.int boot_int rfl))) (NX (Fg (UV (Nc (K:=K)) (by rfl) G.isinstance QD (bz (pv 0) (TL (v:=.ty "bool") rfl G.bool boot_bool rfl)))))))), (JY (Sq (Nl (tz (JG 0) T7)) (FF (Nl (tz (JG 0) T7)))))⟩) (.a fun ds R X h=>?_)
 ·obtain⟨i,rfl,hR⟩:=h;refine⟨rfl,?_⟩;exact⟨_,.same _,_,.ib,hR⟩
def HF(G:Glob K mg)(DD:Def K mg "_law_mix" Fq ["_law_cell","_law_place_here"])
  : Nj P w K mg base:=by
 refine DD.oz (k:=0) AE (fun _ _ _ _ _ _ E hr=>⟨_,(JJ (Pu.pz 2 AE.nd (JO Ut (JO KM (JO Ux (JO Ux (JO Ut (pv 0) JI) (JO KM JI (pv 1))) JI) JI) JI)) (JL (JQ (JO Ut (JO KM (JO Ux (JO Ux (pv 2) (JO KM JI (pv 1))) JI) JI) JI)))), (JK (JS (Us (KZ (Uw (Uw (Us (JG 0) JH) (KZ JH (JG 1))) JH) JH) JH) (JN 2)) (JY (Us (KZ (Uw (Uw (JG 2) (KZ JH (JG 1))) JH) JH) JH)))⟩) (.a fun ds R X h=>?_)
 ·obtain⟨c,p,rfl,hR⟩:=h;refine⟨rfl,?_⟩;unfold mixP at hR;exact⟨(by show(0:Int)<2147483647;decide),.inl ⟨by decide,by decide⟩,.inr ⟨by decide,by decide⟩,(by show(0:Int)<2147483647;decide),.inl ⟨by decide,by decide⟩,.inr ⟨by decide,by decide⟩,(by show(0:Int)<2147483647;decide),hR⟩
def Zdr(G:Glob K mg)(DD:Def K mg "_law_menu" Ak ["_law_cell"])
  : AQ P w K mg base:=by
 refine DD.oz (k:=0) F7 (fun _ _ _ _ _ _ E hr=>⟨_,(JJ (Pu.pz 1 F7.nd (jx K (Ug (JU JI (JU JI (JU JI (JU JI (JU JI Uv)))))) (JO Ut (JO UJ (pv 0) JI) JI))) (JJ (Pu.pz 2 F7.nd (jx K (Ug (JU JI (JU JI (JU JI (JU JI (JU JI Uv)))))) (JO Ut (JO UJ (pv 0) JI) JI))) (JL (JQ (Ug (JU (JO Ux JI (JO Ut (pv 0) JI)) (JU (jx K (Ug (JU JI (JU JI (JU JI (JU JI Uv))))) (JO Ut (JO UJ (pv 0) JI) JI)) (JU (JO Ut (JO UJ (pv 0) JI) JI) (JU (pv 1) (JU (pv 2) Uv)))))))))), (JK (JS (JM (Ue (Ud JH (Ud JH (Ud JH (Ud JH (Ud JH Uj)))))) (Us (UK (JG 0) JH) JH)) (JN 1)) (JK (JS (JM (Ue (Ud JH (Ud JH (Ud JH (Ud JH (Ud JH Uj)))))) (Us (UK (JG 0) JH) JH)) (JN 2)) (Uc 2 (Uc 1 (JY (Ue (Ud (Uw JH (Us (JG 0) JH)) (Ud (JM (Ue (Ud JH (Ud JH (Ud JH (Ud JH Uj))))) (Us (UK (JG 0) JH) JH)) (Ud (Us (UK (JG 0) JH) JH) (Ud (JG 1) (Ud (JG 2) Uj)))))))))))⟩) (.a fun ds R X h=>?_)
 ·obtain⟨c,rfl,hR⟩:=h;refine⟨rfl,?_⟩;have h1:0<=c / 10 % 4/\c / 10 % 4<4:=by omega
  have h2:0<=c / 400 % 5/\c / 400 % 5<5:=by omega
  have hb:∀v∈([1,3,7,9]:List Int),1<=v/\v<=9/\(v=1\/v=3\/v=7\/v=9):=by decide
  have hde:∀i:Int,0<=i->i<5->∃d e:Int,atI [D.int 1000,.int 3,.int 1,.int 2,.int 3] i=some (.int d)/\atI [D.int 1,.int 1,.int 1,.int 1,.int 998] i=some (.int e)/\(1<=d/\d<=1000)/\1<=e/\e+d<=1001:=fun i a b=>by
   have:i=0\/i=1\/i=2\/i=3\/i=4:=by omega
   rcases this with rfl|rfl|rfl|rfl|rfl
   ·exact⟨1000,1,rfl,rfl,by decide,by decide,by decide⟩
   ·exact⟨3,1,rfl,rfl,by decide,by decide,by decide⟩
   ·exact⟨1,1,rfl,rfl,by decide,by decide,by decide⟩
   ·exact⟨2,1,rfl,rfl,by decide,by decide,by decide⟩
   ·exact⟨3,998,rfl,rfl,by decide,by decide,by decide⟩
  obtain⟨d,e,e1,e2,hd,he⟩:=hde _ h2.1 h2.2;have hbb:=hb _ (YC (l:=([1,3,7,9]:List Int)) (n:=(c / 10 % 4).toNat) (by show(c / 10 % 4).toNat<4;omega));refine⟨by simp,⟨by decide,by decide⟩,(by show(0:Int)<5;decide),_,e1,by simp,⟨by decide,by decide⟩,(by show(0:Int)<5;decide),_,e2,(by show(0:Int)<10;decide),by simp,⟨by decide,by decide⟩,(by show(0:Int)<4;decide),_,P1 (f:=D.int) (xs:=[1,3,7,9]) h1.1 h1.2,⟨by decide,by decide⟩,(by show(0:Int)<10;decide),by simp,?_⟩;exact hR [_,_,_,_,_] ⟨_,_,_,_,_,rfl,by omega,hbb,by omega,hd,he⟩
def Zau(G:Glob K mg)(DD:Def K mg "_law_holder" BY ["_law_menu_here","_law_k"])
  : Tt P w K mg base:=by
 refine DD.oz (k:=0) HG (fun _ _ _ _ _ _ E hr=>⟨_,(JL (JQ (JO Ux JI (JO Ut (JO Ux (JO KM (pv 1) (jx K (pv 0) JI)) (jx K (pv 0) JI)) JI)))), (JY (Uw JH (Us (Uw (KZ (JG 1) (JM (JG 0) JH)) (JM (JG 0) JH)) JH)))⟩) (.a fun ds R X h=>?_)
 ·obtain⟨m,k,rfl,hM,hR⟩:=h;refine⟨rfl,?_⟩;obtain⟨a,b,c,d,e,rfl,ha,hb,hc,hd,he⟩:=hM;exact⟨_,rfl,.inr ⟨by omega,by omega⟩,_,rfl,(by show(0:Int)<10;decide),hR _ (by omega) (by omega) rfl⟩
def Ie(G:Glob K mg)(DD:Def K mg "_law_present" A9 ["_law_strips"])
  : Bg P w K mg base:=by
 refine DD.oz (k:=0) Dk (fun _ _ _ _ _ _ E hr=>⟨_,(JJ (Pu.pz 1 Dk.nd (Xa (N':=["_law_strip"]) (φ:=[none]) rfl (Own.CompOk.of (by rfl)) (Uu (K:=K) (pv 0)) (fun _ _ _ _ _=>⟨(gz 0 (show(["_law_strip"]:List Str).Nodup from by decide +kernel)),Xq,(jx K (pv 0) JI)⟩))) (JL (JQ (Xa (N':=["_law_holder_here","_law_owners"]) (φ:=[none,some 1]) rfl (Own.CompOk.of (by rfl)) (D7 rfl G.range (bz JI JI)) (fun _ _ _ _ _=>⟨(gz 0 (show(["_law_holder_here","_law_owners"]:List Str).Nodup from by decide +kernel)),(X5 (Ui (Ke (K:=K) (show _<cLine from UC hr)) (pv 0) (pv 1) (by with_unfolding_all rfl))),(pv 0)⟩))))), (JK (JS (U8 (US (JG 0)) (JN 0) Xz (JM (JG 0) JH)) (JN 1)) (JY (U8 (SndI.c (Er (tz JH JH))) (JN 0) (JT (Xy (JG 0) (JG 1))) (JG 0))))⟩) (.a fun ds R X h=>?_)
 ·obtain⟨ps,rfl,hz,hR⟩:=h;refine⟨rfl,?_⟩;refine UH (xs:=ps) (emb:=prD) (fun q=>some (.int q.1)) (by omega) (fun q hq=>⟨_,rfl,_,rfl,rfl⟩) ?_;rw[mapD (fun q:Int×Int=>D.int q.1),show ps.map (fun q:Int×Int=>D.int q.1)=(ps.map (·.1)).map D.int by rw[YR];rfl];refine⟨⟨by decide,by decide,by decide,by decide⟩,N0 (n:=10) (fun i=>if decide ((1:Int)+(i:Int)∈ps.map (·.1))=true then some (.int (1+(i:Int)))else none) (by decide) (fun i hi=>?_) ?_⟩
  ·exact⟨_,.li _ _,ite2 (fun g=>⟨_,rfl,Yr g⟩) (fun g=>Yp g)⟩
  rw[XH (fun i:Nat=>decide ((1:Int)+(i:Int)∈ps.map (·.1)))]
  have e:((List.range 10).filter fun i:Nat=>decide ((1:Int)+(i:Int)∈ps.map (·.1))).map (fun i:Nat=>D.int (1+(i:Int)))=(Uh ps).map D.int:=by
   unfold Uh;rw[Og,List.filter_map,YR];rfl
  rw[e];exact hR
def Zac(G:Glob K mg)(DD:Def K mg "_law_price" BM ["_law_strips","_law_order"])
  : Cv P w K mg base:=by
 refine DD.oz (k:=0) PU (fun _ _ _ _ _ _ E hr=>⟨_,(JJ (Kl (N':=["_law_strip","_law_order"]) (φ:=[none,some 1]) (i:=2) PU.nd rfl rfl rfl (Own.CompOk.of (by rfl)) (Uu (K:=K) (pv 0)) (fun _ _ _ _ _=>⟨(gz 0 (show(["_law_strip","_law_order"]:List Str).Nodup from by decide +kernel)),Xq,(Np (K:=K) YJ W7 WN (TJ (K:=K)) (pv 1) (az (jx K (pv 0) JI)))⟩)) (JJ (Pu.pz 3 PU.nd JI) (JJ (UF YH rfl (Kq rfl G.range (az (ln K G.len (pv 0)))) (gz 4 PU.nd) (JL (UF YH rfl (Kq rfl G.range (az (pv 4))) (gz 5 PU.nd) (JL (JV (Ui Xp (jx K (pv 2) (pv 5)) (jx K (pv 2) (pv 4)) (Ul _)) (JL (Pu.pz 3 PU.nd (JO Ux (pv 3) (JO KM (jx K (jx K (pv 0) (pv 5)) JI) (jx K (jx K (pv 0) (pv 4)) JI)))))
   JW))))) (JL (JQ (pv 3)))))), (JK (JS (U8 (US (JG 0)) (JN 0) Xz (TN (JG 1) (sz (JM (JG 0) JH)))) (JN 2)) (JK (JS JH (JN 3)) (JK (UD [4,5] (Kv (sz (U2 (sz (JG 0))))) (JN 4) (UD [5] (Kv (sz (JG 4))) (JN 5) (JZ (JT (Xv (JM (JG 2) (JG 5)) (JM (JG 2) (JG 4)))) (JS (Uw (JG 3) (KZ (JM (JM (JG 0) (JG 5)) JH) (JM (JM (JG 0) (JG 4)) JH))) (JN 3)) JX))) (XA 3))))⟩) (.a fun ds R X h=>?_)
 ·obtain⟨ps,os,rfl,hF,hz,hin,hR⟩:=h;refine⟨rfl,?_⟩;have hlm:(ps.map prD).length=ps.length:=Ym ..;refine UH (xs:=ps) (emb:=prD) (fun q=>some (.int (os.idxOf q.1:Nat))) (by omega) (fun q hq=>⟨⟨_,rfl⟩,_,rfl,os,rfl,hin q hq,_,rfl,rfl⟩) ?_;rw[mapD (fun q:Int×Int=>D.int (os.idxOf q.1:Nat)),show ps.map (fun q:Int×Int=>D.int (os.idxOf q.1:Nat))=(ps.map fun q:Int×Int=>((os.idxOf q.1:Nat):Int)).map D.int by rw[YR];rfl];generalize ers:(ps.map fun q:Int×Int=>((os.idxOf q.1:Nat):Int))=rs
  have rx:∀(j:Nat) (hj:j<ps.length),atI (rs.map D.int) (0+(j:Int))=some (.int (os.idxOf ps[j].1:Nat)):=fun j hj=>by
   rw[show(0:Int)+(j:Int)=(j:Int) by omega,←ers];exact KG (f:=D.int) (NK (by rw[Yt,Yl hj];rfl))
  have px:∀(j:Nat) (hj:j<ps.length),atI (ps.map prD) (0+(j:Int))=some (prD ps[j]):=fun j hj=>by
   rw[show(0:Int)+(j:Int)=(j:Int) by omega];exact KG (f:=prD) (NK (Yl hj))
  refine⟨⟨by omega,by omega⟩,KY (fun k γ'=>γ'=[some (.bor (.lst (ps.map prD))),some (.bor (.lst (os.map D.int))),some (.own (rs.map D.int)),some (.sh (.int (priM ps os k))),none,none]) rfl ?_ ?_⟩
  ·rintro k γ' hk rfl
   have hk':k<ps.length:=by
    have:k<(((ps.map prD).length:Nat):Int).toNat:=hk
    omega
   have hgk:ps.getD k (0,0)=ps[k]:=by rw[Yo,Yl hk'];rfl
   have ep:priM ps os (k+1)=priM ps os k+rsM ps os ps[k].1 k*ps[k].2:=by simp only[priM];rw[hgk]
   have hwk:=hF ps[k] (YC hk');refine⟨⟨by omega,by omega⟩,KY (fun j γ'=>γ'=[some (.bor (.lst (ps.map prD))),some (.bor (.lst (os.map D.int))),some (.own (rs.map D.int)),some (.sh (.int (priM ps os k+rsM ps os ps[k].1 j*ps[k].2))),some (.sh (.int (0+(k:Int)))),none]) ?_ ?_ ?_⟩
   ·rw[show rsM ps os ps[k].1 0=0 from rfl,Int.zero_mul,Qj]
    rfl
   ·rintro j γ' hj rfl
    have hj':j<ps.length:=by
     have:j<((0:Int)+(k:Int)).toNat:=hj
     omega
    have hgj:ps.getD j (0,0)=ps[j]:=by rw[Yo,Yl hj'];rfl
    have hwj:=hF ps[j] (YC hj');have step:rsM ps os ps[k].1 (j+1)=rsM ps os ps[k].1 j+(if os.idxOf ps[k].1<os.idxOf ps[j].1 then ps[j].2 else 0):=by simp only[rsM];rw[hgj]
    refine⟨_,rx j hj',_,rx k hk',ite2 (fun g=>?_) (fun g=>?_)⟩
    ·have g':((os.idxOf ps[k].1:Nat):Int)<((os.idxOf ps[j].1:Nat):Int):=Yu g;refine⟨_,px j hj',_,rfl,_,px k hk',_,rfl,.inl ⟨by show -(2 ^ 64)<ps[j].2;omega,by show ps[j].2<2 ^ 64;omega⟩,?_⟩;rw[step,Yr (by omega),Int.add_mul,←Int.add_assoc];rfl
    ·have g':¬((os.idxOf ps[k].1:Nat):Int)<((os.idxOf ps[j].1:Nat):Int):=fun z=>g (Yq z);rw[step,Yp (by omega),Qj];rfl
   ·rintro γ' rfl;rw[show((0:Int)+(k:Int)).toNat=k by omega,←ep];rfl
  ·rintro γ' rfl;rw[show(((ps.map prD).length:Nat):Int).toNat=ps.length by omega];exact hR
def Rm(G:Glob K mg)(DD:Def K mg "_law_no_ring" Ao ["_law_holders","_law_wishes"])
  : E9 P w K mg base:=by
 refine DD.oz (k:=0) PX (fun _ _ _ _ _ _ E hr=>⟨_,(JJ (Pu.pz 2 PX.nd (Ky (To (K:=K)) (by rfl) G.list boot_list (az (pv 0)))) (JJ (UF YH rfl (Uu (K:=K) (pv 0)) (gz 3 PX.nd) (JJ (Kl (N':=["_law_pair_here","_law_left"]) (φ:=[none,some 2]) (i:=4) PX.nd rfl rfl rfl (Own.CompOk.of (by rfl)) (Uu (K:=K) (pv 1)) (fun _ _ _ _ _=>⟨(gz 0 (show(["_law_pair_here","_law_left"]:List Str).Nodup from by decide +kernel)),(X5 (PW.pt (Pn (Ui (Ke (K:=K) (show _<cLine from UC hr)) (jx K (pv 0) JI) (pv 1) (by with_unfolding_all rfl)) (PJ (Ui (Ke (K:=K) (show _<cLine from UC hr)) (jx K (pv 0) JI) (pv 1) (by with_unfolding_all rfl)))))),(pv 0)⟩)) (JJ (Pu.pz 5 PX.nd (Xa (N':=["_law_pair_here"]) (φ:=[none]) rfl (Own.CompOk.of (by rfl)) (Uu (K:=K) (pv 4)) (fun _ _ _ _ _=>⟨(gz 0 (show(["_law_pair_here"]:List Str).Nodup from by decide +kernel)),Xq,(jx K (pv 0) JI)⟩))) (JL (Pu.pz 2 PX.nd (Xa (N':=["_law_holder_here","_law_behind"]) (φ:=[none,some 5]) rfl (Own.CompOk.of (by rfl)) (Uu (K:=K) (pv 2)) (fun _ _ _ _ _=>⟨(gz 0 (show(["_law_holder_here","_law_behind"]:List Str).Nodup from by decide +kernel)),(X5 (Ui (Ke (K:=K) (show _<cLine from UC hr)) (pv 0) (pv 1) (by with_unfolding_all rfl))),(pv 0)⟩))))))) (JL (JQ (KF (A4 (K:=K) (show _<cLine from hr.units0)) (pv 2) (Ug Uv) (Ul _)))))), (JK (JS (Nf (sz (JG 0))) (JN 2)) (JK (Uc 0 (UD [3,4,5] (Xj (JG 0)) (JN 3) (JK (JS (U8 (US (JG 1)) (JN 0) (Pl (JT (Xy (JM (JG 0) JH) (JG 1))) (JT (Xy (JM (JG 0) JH) (JG 1)))) (JG 0)) (JN 4)) (JK (JS (U8 (US (JG 4)) (JN 0) Xz (JM (JG 0) JH)) (JN 5)) (JS (U8 (US (JG 2)) (JN 0) (JT (Xy (JG 0) (JG 1))) (JG 0)) (JN 2)))))) (JY (SD (JG 2) (Ue Uj)))))⟩) (.a fun ds R X h=>?_)
 ·obtain⟨hs,ws,rfl,hz,hw,hR⟩:=h;refine⟨rfl,?_⟩;refine⟨Sk _,rfl,Xk (xs:=hs) (emb:=D.int) (fun i γ'=>γ'=[some (.bor (.lst (hs.map D.int))),some (.bor (.lst (ws.map prD))),some (.own ((U3 ws hs i).map D.int)),none,none,none]/\(U3 ws hs i).length<=50) ⟨rfl,hz⟩ ?_ ?_⟩
  ·rintro i hi γ' ⟨rfl,hl⟩;generalize e:U3 ws hs i=ls at hl;have e2:U3 ws hs (i+1)=XT ws ls:=YQ (XT ws) e;have li:(KQ ws ls).length<=50:=Y4 (YZ _ _) hw;refine UH (xs:=ws) (emb:=prD) (fun q=>if (decide (q.1∈ls)&&decide (q.2∈ls))=true then some (prD q)else none) (by omega) (fun q hq=>?_) ?_
   ·refine⟨_,rfl,_,.li _ _,ite2 (fun g1=>⟨_,rfl,_,.li _ _,ite2 (fun g2=>⟨_,rfl,Yr ?_⟩) (fun g2=>Yp ?_)⟩) (fun g1=>iteF (Yp ?_))⟩
    ·have g1':decide (q.1∈ls)=true:=g1;have g2':decide (q.2∈ls)=true:=g2;rw[g1',g2'];rfl
    ·have g2':decide (q.2∈ls)=false:=Qx.mpr g2;rw[g2',QN];exact Y6
    ·have g1':decide (q.1∈ls)=false:=Qx.mpr g1;rw[g1',QM];exact Y6
   rw[XH (fun q:Int×Int=>decide (q.1∈ls)&&decide (q.2∈ls))];show _;refine UH (xs:=KQ ws ls) (emb:=prD) (fun q=>some (.int q.2)) (by omega) (fun q hq=>⟨_,rfl,_,rfl,rfl⟩) ?_;rw[mapD (fun q:Int×Int=>D.int q.2),show(KQ ws ls).map (fun q:Int×Int=>D.int q.2)=((KQ ws ls).map (·.2)).map D.int by rw[YR];rfl];refine UH (xs:=ls) (emb:=D.int) (fun h=>if decide (h∈(KQ ws ls).map (·.2))=true then some (.int h)else none) (by omega) (fun h hh=>?_) ?_
   ·exact⟨_,.li _ _,ite2 (fun g=>⟨_,rfl,Yr g⟩) (fun g=>Yp g)⟩
   rw[XH (fun h:Int=>decide (h∈(KQ ws ls).map (·.2)))];exact⟨by rw[e2];rfl,by rw[e2];exact Y4 (YZ _ _) hl⟩
  ·rintro γ' ⟨rfl,hl⟩;refine⟨Ww _,?_⟩;have e:((U3 ws hs hs.length).map D.int).isEmpty=decide (U3 ws hs hs.length=[]):=by cases U3 ws hs hs.length<;>simp
   show R (.sh (.bl ((U3 ws hs hs.length).map D.int).isEmpty));rw[e];exact hR
def Za5(G:Glob K mg)(DD:Def K mg "_law_pair_rows" F0 ["_law_strips","_law_holders"])
  : AR P w K mg base:=by
 refine DD.oz (k:=0) P7 (fun _ _ _ _ _ _ E hr=>⟨_,(JJ (Kl (N':=["_law_strip","_law_holders"]) (φ:=[none,some 1]) (i:=2) P7.nd rfl rfl rfl (Own.CompOk.of (by rfl)) (Uu (K:=K) (pv 0)) (fun _ _ _ _ _=>⟨(gz 0 (show(["_law_strip","_law_holders"]:List Str).Nodup from by decide +kernel)),Xq,(Np (K:=K) YJ W7 WN (TJ (K:=K)) (pv 1) (az (jx K (pv 0) JI)))⟩)) (JJ (Kl (N':=["_law_holder_here","_law_holders"]) (φ:=[none,some 1]) (i:=3) P7.nd rfl rfl rfl (Own.CompOk.of (by rfl)) (Uu (K:=K) (pv 1)) (fun _ _ _ _ _=>⟨(gz 0 (show(["_law_holder_here","_law_holders"]:List Str).Nodup from by decide +kernel)),Xq,(JO Gn (Ug (az JI)) (ln K G.len (pv 1)))⟩)) (JJ (UF YH rfl (Kq rfl G.range (az (ln K G.len (pv 0)))) (gz 4 P7.nd) (JL (UF YH rfl (Kq rfl G.range (az (pv 4))) (gz 5 P7.nd) (JL (JV (cn K hr (jx K (pv 2) (pv 5)) (jx K (pv 2) (pv 4))) (JJ (Pu.pz 6 P7.nd (JO KM (jx K (jx K (pv 0) (pv 5)) JI) (jx K (jx K (pv 0) (pv 4)) JI))) (JL (Es (jx K (pv 3) (jx K (pv 2) (pv 4))) (jx K (pv 2) (pv 5)) (AM (K:=K)) (pv 6) LF DL)))
   JW))))) (JL (JQ (pv 3)))))), (JK (JS (U8 (US (JG 0)) (JN 0) Xz (TN (JG 1) (sz (JM (JG 0) JH)))) (JN 2)) (JK (JS (R7 (US (JG 1)) (JN 0) Xz (CB (Ue (sz JH)) (U2 (sz (JG 1))))) (JN 3)) (JK (UD [4,5,6] (Kv (sz (U2 (sz (JG 0))))) (JN 4) (UD [5,6] (Kv (sz (JG 4))) (JN 5) (JZ (JT (KJ (JM (JG 2) (JG 5)) (JM (JG 2) (JG 4)))) (JK (JS (KZ (JM (JM (JG 0) (JG 5)) JH) (JM (JM (JG 0) (JG 4)) JH)) (JN 6)) (RR 3 (JM (JG 2) (JG 4)) (JM (JG 2) (JG 5)) (JG 6))) JX))) (XA 3))))⟩) (.a fun ds R X h=>?_)
 ·obtain⟨ps,hs,rfl,hF,hz,nd,hz2,hin,hR⟩:=h;refine⟨rfl,?_⟩;have hl:(hs.map D.int).length=hs.length:=Ym ..;have hlp:(ps.map prD).length=ps.length:=Ym ..;refine UH (xs:=ps) (emb:=prD) (fun q=>some (.int (hs.idxOf q.1:Nat))) (by omega) (fun q hq=>?_) ?_
  ·exact⟨⟨_,rfl⟩,_,rfl,hs,rfl,hin q hq,_,rfl,rfl⟩
  rw[mapD (fun q:Int×Int=>D.int (hs.idxOf q.1:Nat))]
  have e0:(List.replicate (((hs.map D.int).length:Nat):Int).toNat [D.int 0]).flatten=(List.range hs.length).map fun _=>D.int 0:=by
   rw[Vh,YB,hl];refine Q6 (by simp) fun i h1 h2=>?_;simp
  refine⟨⟨by omega,fun _=>(List.range hs.length).map fun _=>D.int 0,fun i hi=>?_,fun x cs ec=>?_⟩⟩
  ·have hi':i<hs.length:=by rw[←hl];exact hi
   rw[FS (f:=D.int) hi'];refine⟨rfl,by simp,rfl,⟨by omega,by omega⟩,by show 1*(((hs.map D.int).length:Nat):Int).toNat<=10000000;omega,?_⟩;rw[e0];refine⟨rfl,?_⟩
   have key:∀l:List Nat,imms (l.map fun _=>D.int 0)=true:=fun l=>by
    induction l with
    |nil=>rfl
    |cons x l ih=>rw[Y9];unfold imms;rw[ih];rfl
   exact key _
  have ix:∀z,z∈hs->hs.idxOf z<hs.length/\hs.getD (hs.idxOf z) 0=z:=fun z hz=>by
   have h1:=QJ.mpr hz;exact⟨h1,by rw[Yo,Yl h1];exact V5 h1⟩
  have gp:∀k (hk:k<ps.length),ps.getD k (0,0)=ps[k]:=fun k hk=>by rw[Yo,Yl hk];rfl
  have as:∀(k:Nat) (hk:k<ps.length),atI (ps.map fun q:Int×Int=>D.int (hs.idxOf q.1:Nat)) (0+(k:Int))=some (.int (hs.idxOf ps[k].1:Nat)):=fun k hk=>by
   rw[show(0:Int)+(k:Int)=((k:Nat):Int) by omega];exact Kc (f:=fun q:Int×Int=>D.int (hs.idxOf q.1:Nat)) hk
  have ap:∀(k:Nat) (hk:k<ps.length),atI (ps.map prD) (0+(k:Int))=some (prD ps[k]):=fun k hk=>by
   rw[show(0:Int)+(k:Int)=((k:Nat):Int) by omega];exact Kc hk
  have m0:Mat cs hs.length fun a b=>pcM ps (hs.getD a 0) (hs.getD b 0) 0:=by
   unfold Mat;rw[ec,hl];rfl
  refine⟨⟨by omega,by omega⟩,KY (fun k γ'=>∃cs,Mat cs hs.length (fun a b=>pcM ps (hs.getD a 0) (hs.getD b 0) k)/\γ'=[some (.bor (plD ps)),some (.bor (.lst (hs.map D.int))),some (.own (.lst (ps.map fun q:Int×Int=>D.int (hs.idxOf q.1:Nat)))),some (.own (.nsl x cs)),none,none,none]) ⟨cs,m0,rfl⟩ ?_ ?_⟩
  ·rintro k γ' hk ⟨cs,hM,rfl⟩;have hk1:k<(((ps.map prD).length:Nat):Int).toNat:=hk;have hk':k<ps.length:=by omega
   obtain⟨sk1,sk2⟩:=ix _ (hin _ (YC hk'));have wk:=hF _ (YC hk');refine⟨⟨by omega,by omega⟩,KY (fun j γ'=>∃cs,Mat cs hs.length (fun a b=>pcM ps (hs.getD a 0) (hs.getD b 0) k+(if hs.getD a 0≠hs.getD b 0/\ps[k].1=hs.getD a 0 then tpM ps (hs.getD b 0) j*ps[k].2 else 0))/\γ'=[some (.bor (plD ps)),some (.bor (.lst (hs.map D.int))),some (.own (.lst (ps.map fun q:Int×Int=>D.int (hs.idxOf q.1:Nat)))),some (.own (.nsl x cs)),some (.sh (.int (0+(k:Int)))),none,none]) ⟨cs,hM.same fun a b _ _=>by simp[tpM],rfl⟩ ?_ ?_⟩
   ·rintro j γ' hj ⟨cs,hM,rfl⟩;have hj1:j<(0+(k:Int)).toNat:=hj;have hj':j<ps.length:=by omega
    obtain⟨sj1,sj2⟩:=ix _ (hin _ (YC hj'));have wj:=hF _ (YC hj')
    have etp:∀y,tpM ps y (j+1)=tpM ps y j+(if ps[j].1=y then ps[j].2 else 0):=fun y=>by
     show tpM ps y j+(if (ps.getD j (0,0)).1=y then(ps.getD j (0,0)).2 else 0)=_;rw[gp j hj']
    refine⟨_,as j hj',_,as k hk',?_⟩;refine ite2 (fun g=>?_) (fun g=>?_)
    ·have hne:ps[j].1≠ps[k].1:=fun e=>by
      rw[e]at g;simp at g
     refine⟨_,ap j hj',_,rfl,_,ap k hk',_,rfl,.inl ⟨by show -(2 ^ 64)<ps[j].2;omega,by show ps[j].2<2 ^ 64;omega⟩,?_⟩;obtain⟨y,ey⟩:=hM.at sk1;have lc:=hM.len;refine⟨_,as k hk',hs.idxOf ps[k].1,_,?_,ey,_,as j hj',hs.idxOf ps[j].1,_,?_,by rw[Yt,List.getElem?_range sj1];rfl,?_⟩
     ·unfold ixN;rw[lc,Yr (by omega),Yr (by omega)];rfl
     ·unfold ixN;rw[Ym,WJ,Yr (by omega),Yr (by omega)];rfl
     refine⟨_,hM.set (G:=fun a b=>pcM ps (hs.getD a 0) (hs.getD b 0) k+(if hs.getD a 0≠hs.getD b 0/\ps[k].1=hs.getD a 0 then tpM ps (hs.getD b 0) (j+1)*ps[k].2 else 0)) sk1 sj1 ?_ ?_,rfl⟩
     ·show _+_=_+_+ps[j].2*ps[k].2;rw[sk2,sj2,Yr ⟨fun z=>hne z.symm,rfl⟩,Yr ⟨fun z=>hne z.symm,rfl⟩,etp,Yr rfl,Int.add_mul];omega
     ·intro a b ha hb n;by_cases c:hs.getD a 0≠hs.getD b 0/\ps[k].1=hs.getD a 0
      ·have:¬ps[j].1=hs.getD b 0:=fun z=>n ⟨TC nd ha sk1 (c.2.symm.trans sk2.symm),TC nd hb sj1 (z.symm.trans sj2.symm)⟩
       simp only[Yr c];rw[etp,Yp this,Qj]
      ·simp only[Yp c]
    ·have heq:ps[j].1=ps[k].1:=YU fun hne=>g (by
      have:¬((hs.idxOf ps[j].1:Nat):Int)=((hs.idxOf ps[k].1:Nat):Int):=fun e=>hne (by
       have e':hs.idxOf ps[j].1=hs.idxOf ps[k].1:=by omega
       rw[←sj2,←sk2,e'])
      simp[this])
     refine⟨cs,hM.same fun a b ha hb=>?_,rfl⟩;by_cases c:hs.getD a 0≠hs.getD b 0/\ps[k].1=hs.getD a 0
     ·simp only[Yr c];rw[etp,Yp fun z=>c.1 (c.2.symm.trans (heq.symm.trans z)),Qj]
     ·simp only[Yp c]
   ·rintro γ' ⟨cs,hM,rfl⟩;refine⟨cs,hM.same fun a b _ _=>?_,rfl⟩;show pcM ps _ _ k+(if _≠_/\(ps.getD k (0,0)).1=_ then tpM ps _ k*(ps.getD k (0,0)).2 else 0)=_;rw[gp k hk',show(0+(k:Int)).toNat=k by omega]
  ·rintro γ' ⟨cs,hM,rfl⟩;rw[show(((ps.map prD).length:Nat):Int).toNat=ps.length by omega]at hM;exact hR x cs hM.cost
def Zan(G:Glob K mg)(DD:Def K mg "_law_least_in" F8 ["_law_told","_law_costs","_law_wants_here","_law_mask"])
  : CD P w K mg base:=by
 refine DD.oz (k:=0) P9 (fun _ _ _ _ _ _ E hr=>⟨_,(JJ (Kl (N':=["_law_j","_law_mask"]) (φ:=[none,some 3]) (i:=4) P9.nd rfl rfl rfl (Own.CompOk.of (by rfl)) (Kq rfl G.range (az (ln K G.len (pv 1)))) (fun _ _ _ _ _=>⟨(gz 0 (show(["_law_j","_law_mask"]:List Str).Nodup from by decide +kernel)),(X5 (cq K hr (JO NL (JO SR (pv 1) (pv 0)) JI) JI)),(pv 0)⟩)) (JJ (Pu.pz 5 P9.nd UE) (JJ (UF YH rfl (Uu (K:=K) (pv 4)) (gz 6 P9.nd) (JL (JV (cq K hr (JO NL (jx K (pv 2) (pv 6)) (pv 3)) JI) (JJ (Pu.pz 7 P9.nd (JO Ux (jx K (pv 0) (JO UW (pv 3) (JO TU JI (pv 6)))) (UV (S4 (K:=K) rfl) (by rfl) G.sum boot_sum (az (Xa (N':=["_law_j","_law_last","_law_costs"]) (φ:=[none,some 6,some 1]) rfl (Own.CompOk.of (by rfl)) (Uu (K:=K) (pv 4)) (fun _ _ _ _ _=>⟨(gz 0 (show(["_law_j","_law_last","_law_costs"]:List Str).Nodup from by decide +kernel)),Xq,(jx K (jx K (pv 2) (pv 0)) (pv 1))⟩)))))) (JJ (JV (Ui Xp (jx K (pv 0) (pv 3)) (pv 7) (Ul _)) (JL (JQ UE))
   JW) (JL (JV (cq K hr (jx K (pv 0) (pv 3)) (pv 7)) (JL (Pu.pz 5 P9.nd UE))
   JW))))
   JW))) (JL (JQ (pv 5)))))), (JK (JS (U8 (SndI.c (Kv (sz (U2 (sz (JG 1)))))) (JN 0) (JT (Ur (Ss (BJ (JG 1) (JG 0)) JH) JH)) (JG 0)) (JN 4)) (JK (JS UG (JN 5)) (JK (Uc 4 (UD [6,7] (Xj (JG 4)) (JN 6) (JZ (JT (Ur (Ss (JM (JG 2) (JG 6)) (JG 3)) JH)) (JK (JS (Uw (JM (JG 0) (UY (JG 3) (Nq JH (JG 6)))) (SE (sz (U8 (US (JG 4)) (JN 0) Xz (JM (JM (JG 2) (JG 0)) (JG 1)))))) (JN 7)) (JK (JZ (JT (Xv (JM (JG 0) (JG 3)) (JG 7))) (JY UG) JX) (JZ (JT (Ur (JM (JG 0) (JG 3)) (JG 7))) (JS UG (JN 5)) JX))) JX))) (XA 5))))⟩) (.a fun ds R X h=>?_)
 ·obtain⟨ps,ws,hs,vs,wn,m,rfl,nd,hz,hu,hL,hT,hW,h0,hm,hR⟩:=h;refine⟨rfl,?_⟩;have lv:vs.length=2 ^ hs.length:=hT.1.trans (XB hs);obtain⟨t1,t2⟩:=Ml nd hu hL hT h0 hm;have lh:(hs.map (rowE ps hs)).length=hs.length:=Ym ..;have p10:2 ^ hs.length<=1024:=W1 (j:=10) (by decide) hz;refine⟨⟨by omega,by omega⟩,N0 (fun i=>if m.testBit i=true then some (natD i)else none) (by omega) (fun i hi=>?_) ?_⟩
  ·have ez:(0:Int)+(i:Int)=((i:Nat):Int):=by omega
   rw[ez];refine⟨by omega,?_⟩;show if decide (Builtin.bitAnd ((m:Int) / 2 ^ ((i:Nat):Int).toNat) 1=1)=true then _ else _;rw[Fw];by_cases c:m.testBit i=true
   ·rw[Yr c];exact⟨_,rfl,Yr c⟩
   ·rw[Yp c];exact Yp c
  have ei:(List.range (((hs.map (rowE ps hs)).length:Nat):Int).toNat).filterMap (fun i:Nat=>if m.testBit i=true then some (natD i)else none)=(insN hs.length m).map natD:=by
   unfold insN;rw[YB,lh,←List.filterMap_eq_map,List.filterMap_filter];rfl
  rw[ei]
  have atv:∀(k:Nat) (z:Int),k<2 ^ hs.length->z=(k:Int)->atI (vs.map D.int) z=some (.int (vs.getD k 0)):=fun k z hk e=>by
   rw[e,Yo,Yl (show k<vs.length by omega)];exact Kc _
  refine⟨rfl,Xk (xs:=insN hs.length m) (emb:=natD) (fun i γ'=>∃b:Bool,(∀j∈(insN hs.length m).take i,Xc ws (insM hs m) (hs.getD j 0)=true->vs.getD m 0=vs.getD (m-2 ^ j) 0+((Ua (insM hs m) (hs.getD j 0)).map fun x=>pcM ps x (hs.getD j 0) ps.length).sum->b=true)/\γ'=[some (.bor (.lst (vs.map D.int))),some (.bor (Kp ps hs)),some (.bor (.lst (wn.map natD))),some (.sh (.int m)),some (.sh (.lst ((insN hs.length m).map natD))),some (.sh (.bl b)),none,none]) ⟨false,by simp,rfl⟩ ?_ ?_⟩
  ·rintro i hi γ' ⟨b,hb,rfl⟩;have hmem:=YC hi;have et:(insN hs.length m).take (i+1)=(insN hs.length m).take i++[(insN hs.length m)[i]]:=YY hi;rw[et];generalize (insN hs.length m)[i]=L at hmem ⊢;obtain⟨hL1,hL2⟩:=Y3.mp hmem;have hLn:L<hs.length:=YS.mp hL1;have hge:=WE hL2
   have aw:atI (wn.map natD) ((L:Nat):Int)=some (natD (wn.getD L 0)):=by
    have hw:=hW.1;rw[Yo,Yl (show L<wn.length by omega)];exact Kc _
   have keep:∀b':Bool,b'=b\/b'=true->(Xc ws (insM hs m) (hs.getD L 0)=true->vs.getD m 0=vs.getD (m-2 ^ L) 0+((Ua (insM hs m) (hs.getD L 0)).map fun x=>pcM ps x (hs.getD L 0) ps.length).sum->b'=true)->
     ∀j∈(insN hs.length m).take i++[L],Xc ws (insM hs m) (hs.getD j 0)=true->vs.getD m 0=vs.getD (m-2 ^ j) 0+((Ua (insM hs m) (hs.getD j 0)).map fun x=>pcM ps x (hs.getD j 0) ps.length).sum->b'=true:=fun b' e h j hj h1 h2=>by
    rcases YG.mp hj with hj|hj
    ·rcases e with e|e
     ·rw[e];exact hb j hj h1 h2
     ·exact e
    ·rw[Yx.mp hj]at h1 h2;exact h h1 h2
   refine⟨_,aw,?_⟩;refine ite2 (fun g=>?_) (fun g=>?_)
   ·have hlast:=(Gx hW hLn hm).mp (Yu g)
    have em:((m:Int)-1*2 ^ ((L:Nat):Int).toNat)=((m-2 ^ L:Nat):Int):=by
     rw[V2,YB,Int.natCast_sub hge,Qs];rfl
    have es:((insN hs.length m).map fun j=>pcM ps (hs.getD j 0) (hs.getD L 0) ps.length).sum=((Ua (insM hs m) (hs.getD L 0)).map fun x=>pcM ps x (hs.getD L 0) ps.length).sum:=by
     have e1:((insN hs.length m).map fun j=>pcM ps (hs.getD j 0) (hs.getD L 0) ps.length)=(insM hs m).map fun x=>pcM ps x (hs.getD L 0) ps.length:=by unfold insM;rw[YR];rfl
     rw[e1,Kk (XU (NA nd m) (insM_mem.mpr ⟨L,hLn,hL2,rfl⟩)),Y9,WA,Ai,Int.zero_add]
    refine⟨⟨by omega,by omega,by decide⟩,_,atv (m-2 ^ L) _ (Wp (QO _ _) hm) em,?_⟩;refine UH (xs:=insN hs.length m) (emb:=natD) (fun j=>some (.int (pcM ps (hs.getD j 0) (hs.getD L 0) ps.length))) (by unfold insN;have:=YZ (fun j=>m.testBit j) (List.range hs.length);rw[WJ]at this;omega) (fun j hj=>?_) ?_
    ·have hjn:j<hs.length:=YS.mp (Y3.mp hj).1
     have a1:atI (hs.map (rowE ps hs)) ((j:Nat):Int)=some (rowE ps hs (hs.getD j 0)):=by
      rw[Yo,Yl hjn];exact Kc hjn
     have a2:atI (hs.map fun b=>D.int (pcM ps (hs.getD j 0) b ps.length)) ((L:Nat):Int)=some (.int (pcM ps (hs.getD j 0) (hs.getD L 0) ps.length)):=by
      rw[show hs.getD L 0=hs[L] by rw[Yo,Yl hLn];rfl];exact Kc (f:=fun b=>D.int (pcM ps (hs.getD j 0) b ps.length)) hLn
     exact⟨_,a1,_,a2,_,rfl,rfl⟩
    rw[mapD (fun j:Nat=>D.int (pcM ps (hs.getD j 0) (hs.getD L 0) ps.length))];refine⟨(insN hs.length m).map fun j=>pcM ps (hs.getD j 0) (hs.getD L 0) ps.length,by rw[YR];rfl,?_⟩;rw[es];have le:=t1 L hLn hL2 hlast;refine⟨_,atv m _ hm rfl,ite2 (fun g=>absurd (Yu g) (by omega)) (fun _=>?_)⟩;refine⟨_,atv m _ hm rfl,ite2 (fun g=>?_) (fun g=>?_)⟩
    ·exact⟨true,keep true (.inr rfl) fun _ _=>rfl,rfl⟩
    ·exact⟨b,keep b (.inl rfl) fun _ h=>absurd (Yq h) g,rfl⟩
   ·exact⟨b,keep b (.inl rfl) fun h _=>absurd (Yq ((Gx hW hLn hm).mpr h)) g,rfl⟩
  ·rintro γ' ⟨b,hb,rfl⟩;rw[WB]at hb;obtain⟨j,hj,hbit,hlast,e⟩:=t2;rw[hb j (Y3.mpr ⟨YS.mpr hj,hbit⟩) hlast e];exact hR
def Zaf(G:Glob K mg)(DD:Def K mg "_law_wants" AC ["_law_holders","_law_wishes"])
  : EC P w K mg base:=by
 refine DD.oz (k:=0) NO (fun _ _ _ _ _ _ E hr=>⟨_,(JJ (Pu.pz 2 NO.nd (JO Gn (Ug (az JI)) (ln K G.len (pv 0)))) (JJ (UF YH rfl (Uu (K:=K) (pv 1)) (Td (K:=K) (n:=2) rfl (Kb (gz 3 NO.nd) (Kb (gz 4 NO.nd) PP))) (JL (JV (PW.pt (Pn (Ui (Ke (K:=K) (show _<cLine from UC hr)) (pv 3) (pv 0) (by with_unfolding_all rfl)) (PJ (Ui (Ke (K:=K) (show _<cLine from UC hr)) (pv 4) (pv 0) (by with_unfolding_all rfl))))) (JL (Es (pv 2) (Np (K:=K) YJ W7 WN (TJ (K:=K)) (pv 0) (az (pv 3))) (AM (K:=K)) (JO TU JI (Np (K:=K) YJ W7 WN (TJ (K:=K)) (pv 0) (az (pv 4)))) Zec DL))
   JW))) (JL (JQ (pv 2))))), (JK (JS (CB (Ue (sz JH)) (U2 (sz (JG 0)))) (JN 2)) (JK (Uc 1 (UD [3,4] (Xj (JG 1)) (Ts (Kx (JN 3) (Kx (JN 4) Tj))) (JZ (Pl (JT (Xy (JG 3) (JG 0))) (JT (Xy (JG 4) (JG 0)))) (Ze1 2 (TN (JG 0) (sz (JG 3))) (Nq JH (TN (JG 0) (sz (JG 4))))) JX))) (XA 2)))⟩) (.a fun ds R X h=>?_)
 ·obtain⟨hs,ws,rfl,nd,hz,hR⟩:=h;refine⟨rfl,?_⟩;have hl:(hs.map D.int).length=hs.length:=Ym ..;refine⟨by simp,rfl,⟨by omega,by omega⟩,by show 1*(((hs.map D.int).length:Nat):Int).toNat<=10000000;omega,?_⟩
  have e0:(List.replicate (((hs.map D.int).length:Nat):Int).toNat [D.int 0]).flatten=(List.replicate hs.length 0).map natD:=by
   rw[Vh,List.map_replicate,YB,hl];rfl
  rw[e0]
  have ix:∀z,z∈hs->hs.idxOf z<hs.length/\hs.getD (hs.idxOf z) 0=z:=fun z hz=>by
   have h1:=QJ.mpr hz;exact⟨h1,by rw[Yo,Yl h1];exact V5 h1⟩
  refine⟨rfl,Xk (xs:=ws) (emb:=prD) (fun i γ'=>∃wn:List Nat,K8 wn hs (ws.take i)/\γ'=[some (.bor (.lst (hs.map D.int))),some (.bor (.lst (ws.map prD))),some (.own (.lst (wn.map natD))),none,none]) ⟨_,⟨by simp,fun a b ha hb=>by simp[Yo,ha]⟩,rfl⟩ ?_ ?_⟩
  ·rintro i hi γ' ⟨wn,hw,rfl⟩;have et:ws.take (i+1)=ws.take i++[ws[i]]:=YY hi;rw[et];generalize ws[i]=q;generalize ws.take i=W at hw ⊢
   have same:¬(q.1∈hs/\q.2∈hs)->K8 wn hs (W++[q]):=fun n=>⟨hw.1,fun a b ha hb=>by
    rw[hw.2 a b ha hb,YG,Yx];refine⟨.inl,fun z=>z.resolve_right fun e=>n ?_⟩;rw[←e];exact⟨Nn ha,Nn hb⟩⟩
   refine⟨rfl,_,.li _ _,ite2 (fun g1=>⟨_,.li _ _,ite2 (fun g2=>?_) (fun g2=>?_)⟩) (fun g1=>?_)⟩
   ·have g1':q.1∈hs:=Yu g1;have g2':q.2∈hs:=Yu g2;obtain⟨i1,i2⟩:=ix _ g1';obtain⟨k1,k2⟩:=ix _ g2';have hj:hs.idxOf q.1<wn.length:=by rw[hw.1];exact i1
    have gd:wn.getD (hs.idxOf q.1) 0=wn[hs.idxOf q.1]:=by rw[Yo,Yl hj];rfl
    refine⟨⟨_,rfl⟩,hs,rfl,g1',hs.idxOf q.1,(wn[hs.idxOf q.1]:Nat),?_,by rw[Yt,Yl hj];rfl,⟨_,rfl⟩,hs,rfl,g2',⟨by omega,by omega,by decide⟩,?_⟩
    ·unfold ixN;rw[Ym,Yr (by omega),Yr (by omega)];rfl
    refine⟨wn.set (hs.idxOf q.1) (wn[hs.idxOf q.1] ||| 2 ^ hs.idxOf q.2),⟨by rw[Wo];exact hw.1,fun a b ha hb=>?_⟩,?_⟩
    ·rw[YG,Yx];by_cases e:a=hs.idxOf q.1
     ·have:(wn.set (hs.idxOf q.1) (wn[hs.idxOf q.1] ||| 2 ^ hs.idxOf q.2)).getD a 0=wn[hs.idxOf q.1] ||| 2 ^ hs.idxOf q.2:=by
       rw[e,Yo,Qt hj];rfl
      rw[this,Nat.testBit_or,Bool.or_eq_true,Nat.testBit_two_pow,WZ,←gd,hw.2 _ b i1 hb,←e];refine⟨fun z=>z.imp id fun z=>?_,fun z=>z.imp id fun z=>?_⟩
      ·rw[e,i2,←z,k2]
      ·have:hs.getD b 0=q.2:=YQ Prod.snd z
       exact TC nd k1 hb (k2.trans this.symm)
     ·have:(wn.set (hs.idxOf q.1) (wn[hs.idxOf q.1] ||| 2 ^ hs.idxOf q.2)).getD a 0=wn.getD a 0:=by
       rw[Yo,Q5 (fun z=>e z.symm),Yo]
      rw[this,hw.2 a b ha hb];refine⟨.inl,fun z=>z.resolve_right fun z=>e ?_⟩
      have:hs.getD a 0=q.1:=YQ Prod.fst z
      exact(TC nd i1 ha (i2.trans this.symm)).symm
    ·have eb:Builtin.bitOr ((wn[hs.idxOf q.1]:Nat):Int) (1*2 ^ ((hs.idxOf q.2:Nat):Int).toNat)=((wn[hs.idxOf q.1] ||| 2 ^ hs.idxOf q.2:Nat):Int):=by
      rw[V2,YB,←OJ,Qs];rfl
     rw[List.map_set];show _=[_,_,some (S.own (O.lst ((wn.map natD).set (hs.idxOf q.1) (D.int ((wn[hs.idxOf q.1] ||| 2 ^ hs.idxOf q.2:Nat):Int))))),_,_];rw[←eb];rfl
   ·exact⟨wn,same fun z=>g2 (Yq z.2),rfl⟩
   ·exact⟨wn,same fun z=>g1 (Yq z.1),rfl⟩
  ·rintro γ' ⟨wn,hw,rfl⟩;rw[WB]at hw;exact hR wn hw
def Mo(G:Glob K mg)(DD:Def K mg "_law_first_in" Fs ["_law_told","_law_costs","_law_wants_here","_law_mask","_law_spot"])
  : GU P w K mg base:=by
 refine DD.oz (k:=0) Nx (fun _ _ _ _ _ _ E hr=>⟨_,(JJ (Kl (N':=["_law_j","_law_mask"]) (φ:=[none,some 3]) (i:=5) Nx.nd rfl rfl rfl (Own.CompOk.of (by rfl)) (Kq rfl G.range (az (ln K G.len (pv 1)))) (fun _ _ _ _ _=>⟨(gz 0 (show(["_law_j","_law_mask"]:List Str).Nodup from by decide +kernel)),(X5 (cq K hr (JO NL (JO SR (pv 1) (pv 0)) JI) JI)),(pv 0)⟩)) (JJ (UF YH rfl (Uu (K:=K) (pv 5)) (gz 6 Nx.nd) (JL (JV (PW.pt (Pn (Ui Mm (pv 6) (pv 4) (Ul _)) (PJ (Ui (A4 (K:=K) (show _<cLine from hr.units0)) (Xa (N':=["_law_i","_law_j","_law_wants_here"]) (φ:=[none,some 6,some 2]) rfl (Own.CompOk.of (by rfl)) (Uu (K:=K) (pv 5)) (fun _ _ _ _ _=>⟨(gz 0 (show(["_law_i","_law_j","_law_wants_here"]:List Str).Nodup from by decide +kernel)),(X5 (cq K hr (JO NL (JO SR (jx K (pv 2) (pv 0)) (pv 1)) JI) JI)),(pv 0)⟩)) (Ug Uv) (Ul _))))) (JJ (Pu.pz 7 Nx.nd (JO Ux (jx K (pv 0) (JO UW (pv 3) (JO TU JI (pv 6)))) (UV (S4 (K:=K) rfl) (by rfl) G.sum boot_sum (az (Xa (N':=["_law_i","_law_costs","_law_j"]) (φ:=[none,some 1,some 6]) rfl (Own.CompOk.of (by rfl)) (Uu (K:=K) (pv 5)) (fun _ _ _ _ _=>⟨(gz 0 (show(["_law_i","_law_costs","_law_j"]:List Str).Nodup from by decide +kernel)),Xq,(jx K (jx K (pv 1) (pv 2)) (pv 0))⟩)))))) (JL (JV (cq K hr (pv 7) (jx K (pv 0) (pv 3))) (JL (JQ (KF (PR (K:=K) (show _<cLine from hr.units0)) (pv 6) (pv 4) (Ul _))))
   JW)))
   JW))) (JL (JQ UE)))), (JK (JS (U8 (SndI.c (Kv (sz (U2 (sz (JG 1)))))) (JN 0) (JT (Ur (Ss (BJ (JG 1) (JG 0)) JH) JH)) (JG 0)) (JN 5)) (JK (Uc 5 (UD [6,7] (Xj (JG 5)) (JN 6) (JZ (Pl (JT (RE (JG 6) (JG 4))) (JT (SD (U8 (US (JG 5)) (JN 0) (JT (Ur (Ss (BJ (JM (JG 2) (JG 0)) (JG 1)) JH) JH)) (JG 0)) (Ue Uj)))) (JK (JS (Uw (JM (JG 0) (UY (JG 3) (Nq JH (JG 6)))) (SE (sz (U8 (US (JG 5)) (JN 0) Xz (JM (JM (JG 1) (JG 2)) (JG 0)))))) (JN 7)) (JZ (JT (Ur (JG 7) (JM (JG 0) (JG 3)))) (JY (Ur (JG 6) (JG 4))) JX)) JX))) (JY UG)))⟩) (.a fun ds R X h=>?_)
 ·obtain⟨ps,ws,hs,vs,wn,m,s,rfl,nd,hz,lv,hW,hm,hs1,hs2,hs3,hs4,hs5,hR⟩:=h;refine⟨rfl,?_⟩;have lh:(hs.map (rowE ps hs)).length=hs.length:=Ym ..;have p10:2 ^ hs.length<=1024:=W1 (j:=10) (by decide) hz;refine⟨⟨by omega,by omega⟩,N0 (fun i=>if m.testBit i=true then some (natD i)else none) (by omega) (fun i hi=>?_) ?_⟩
  ·have ez:(0:Int)+(i:Int)=((i:Nat):Int):=by omega
   rw[ez];refine⟨by omega,?_⟩;show if decide (Builtin.bitAnd ((m:Int) / 2 ^ ((i:Nat):Int).toNat) 1=1)=true then _ else _;rw[Fw];by_cases c:m.testBit i=true
   ·rw[Yr c];exact⟨_,rfl,Yr c⟩
   ·rw[Yp c];exact Yp c
  have ei:(List.range (((hs.map (rowE ps hs)).length:Nat):Int).toNat).filterMap (fun i:Nat=>if m.testBit i=true then some (natD i)else none)=(insN hs.length m).map natD:=by
   unfold insN;rw[YB,lh,←List.filterMap_eq_map,List.filterMap_filter];rfl
  rw[ei]
  have lin:(insN hs.length m).length<=10:=by
   unfold insN
   have:=YZ (fun j=>m.testBit j) (List.range hs.length)
   rw[WJ]at this;omega
  have atv:∀(k:Nat) (z:Int),k<2 ^ hs.length->z=(k:Int)->atI (vs.map D.int) z=some (.int (vs.getD k 0)):=fun k z hk e=>by
   rw[e,Yo,Yl (show k<vs.length by omega)];exact Kc _
  have aw:∀L,L<hs.length->atI (wn.map natD) ((L:Nat):Int)=some (natD (wn.getD L 0)):=fun L hL=>by
   have hw:=hW.1;rw[Yo,Yl (show L<wn.length by omega)];exact Kc _
  have rising:(insN hs.length m).Pairwise (· < ·):=List.pairwise_lt_range.filter _;refine⟨rfl,Xk (xs:=insN hs.length m) (emb:=natD) (fun i γ'=>s∉(insN hs.length m).take i/\γ'=[some (.bor (.lst (vs.map D.int))),some (.bor (Kp ps hs)),some (.bor (.lst (wn.map natD))),some (.sh (.int m)),some (.sh (.int s)),some (.sh (.lst ((insN hs.length m).map natD))),none,none]) ⟨by simp,rfl⟩ ?_ ?_⟩
  ·rintro i hi γ' ⟨hno,rfl⟩;have hmem:=YC hi;have et:(insN hs.length m).take (i+1)=(insN hs.length m).take i++[(insN hs.length m)[i]]:=YY hi
   have hle:(insN hs.length m)[i]<=s:=by
    have hsm:s∈insN hs.length m:=Y3.mpr ⟨YS.mpr hs1,hs2⟩;obtain⟨k,hk,ek⟩:=V0 hsm;rcases Q0 k i with c|c
    ·refine absurd (Wz.mpr ⟨k,by rw[Wj];omega,?_⟩) hno;rw[List.getElem_take];exact ek
    ·rcases Nat.eq_or_lt_of_le c with c|c
     ·subst c;omega
     ·have:=Qb.mp rising i k hi hk c
      omega
   rw[et];generalize (insN hs.length m)[i]=L at hmem hle ⊢;obtain⟨hL1,hL2⟩:=Y3.mp hmem;have hLn:L<hs.length:=YS.mp hL1;have hge:=WE hL2
   have nx:L≠s->s∉(insN hs.length m).take i++[L]:=fun ne z=>by
    rcases YG.mp z with z|z
    ·exact hno z
    ·exact ne (Yx.mp z).symm
   refine ite2 (fun _=>?_) (fun g=>absurd (Yq (show((L:Nat):Int)<=((s:Nat):Int) by omega)) g);refine UH (xs:=insN hs.length m) (emb:=natD) (fun i=>if (wn.getD i 0).testBit L=true then some (natD i)else none) (by omega) (fun i hi=>?_) ?_
   ·have hin:i<hs.length:=YS.mp (Y3.mp hi).1;refine⟨_,aw i hin,by omega,?_⟩;show if decide (Builtin.bitAnd (((wn.getD i 0:Nat):Int) / 2 ^ ((L:Nat):Int).toNat) 1=1)=true then _ else _;rw[Fw];by_cases c:(wn.getD i 0).testBit L=true
    ·rw[Yr c];exact⟨_,rfl,Yr c⟩
    ·rw[Yp c];exact Yp c
   rw[XH (fun i:Nat=>(wn.getD i 0).testBit L)]
   have efst:((((insN hs.length m).filter fun i=>(wn.getD i 0).testBit L).map natD).isEmpty=true)↔firstM ws (insM hs m) (hs.getD L 0)=true:=by
    rw[List.isEmpty_iff,List.map_eq_nil_iff];exact Zbl hW hLn
   refine⟨by simp,?_⟩;show if (((insN hs.length m).filter fun i=>(wn.getD i 0).testBit L).map natD).isEmpty=true then _ else _;refine ite2 (fun g=>?_) (fun g=>?_)
   ·have hfst:=efst.mp g
    have em:((m:Int)-1*2 ^ ((L:Nat):Int).toNat)=((m-2 ^ L:Nat):Int):=by
     rw[V2,YB,Int.natCast_sub hge,Qs];rfl
    have es:((insN hs.length m).map fun j=>pcM ps (hs.getD L 0) (hs.getD j 0) ps.length).sum=((Ua (insM hs m) (hs.getD L 0)).map fun y=>pcM ps (hs.getD L 0) y ps.length).sum:=by
     have e1:((insN hs.length m).map fun j=>pcM ps (hs.getD L 0) (hs.getD j 0) ps.length)=(insM hs m).map fun y=>pcM ps (hs.getD L 0) y ps.length:=by unfold insM;rw[YR];rfl
     rw[e1,Kk (XU (NA nd m) (insM_mem.mpr ⟨L,hLn,hL2,rfl⟩)),Y9,WA,Ai,Int.zero_add]
    refine⟨⟨by omega,by omega,by decide⟩,_,atv (m-2 ^ L) _ (Wp (QO _ _) hm) em,?_⟩;refine UH (xs:=insN hs.length m) (emb:=natD) (fun j=>some (.int (pcM ps (hs.getD L 0) (hs.getD j 0) ps.length))) (by omega) (fun j hj=>?_) ?_
    ·have hjn:j<hs.length:=YS.mp (Y3.mp hj).1
     have a1:atI (hs.map (rowE ps hs)) ((L:Nat):Int)=some (rowE ps hs (hs.getD L 0)):=by
      rw[Yo,Yl hLn];exact Kc hLn
     have a2:atI (hs.map fun b=>D.int (pcM ps (hs.getD L 0) b ps.length)) ((j:Nat):Int)=some (.int (pcM ps (hs.getD L 0) (hs.getD j 0) ps.length)):=by
      rw[show hs.getD j 0=hs[j] by rw[Yo,Yl hjn];rfl];exact Kc (f:=fun b=>D.int (pcM ps (hs.getD L 0) b ps.length)) hjn
     exact⟨_,a1,_,a2,_,rfl,rfl⟩
    rw[mapD (fun j:Nat=>D.int (pcM ps (hs.getD L 0) (hs.getD j 0) ps.length))];refine⟨(insN hs.length m).map fun j=>pcM ps (hs.getD L 0) (hs.getD j 0) ps.length,by rw[YR];rfl,?_⟩;rw[es];refine⟨_,atv m _ hm rfl,ite2 (fun g=>?_) (fun g=>?_)⟩
    ·have e:=hs5 L hLn hL2 hfst (Yu g)
     have:L=s:=by omega
     subst this;show R (.sh (.bl (decide (((L:Nat):Int)=((L:Nat):Int)))));rw[Yq rfl];exact hR
    ·refine⟨nx fun e=>?_,rfl⟩;subst e;exact g (Yq hs4)
   ·refine⟨nx fun e=>?_,rfl⟩;subst e;exact g (efst.mpr hs3)
  ·rintro γ' ⟨hno,rfl⟩;rw[WB]at hno;exact absurd (Y3.mpr ⟨YS.mpr hs1,hs2⟩) hno
def Zba(G:Glob K mg)(DD:Def K mg "_law_field_step" Fh ["_law_strips","_law_deed_here"])
  : D8 P w K mg base:=by
 refine DD.oz (k:=0) TY (fun _ _ _ _ _ _ E hr=>⟨_,(JJ (Pu.pz 2 TY.nd (jx K (pv 1) JI)) (JJ (JV (PW.pt (Xl (Ui X1 (pv 2) JI (Ul _)) (Xu (Ui Xp (pv 2) (JO UW (ln K G.len (pv 0)) (Ky Ri (by rfl) G.int boot_int (az (KF (PR (K:=K) (show _<cLine from hr.units0)) (jx K (pv 1) JI) U0 (Ul _))))) (Ul _))))) (JL (JQ (Ug (bz JI (pv 0)))))
   JW) (JJ (Pu.pz 3 TY.nd (jx K (jx K (pv 0) (JO UW (pv 2) JI)) JI)) (JJ (Pu.pz 4 TY.nd (jx K (jx K (pv 0) (JO UW (pv 2) JI)) JI)) (JJ (JV (cq K hr (jx K (pv 1) JI) U0) (JJ (JV (PW.pt (Xl (Ui X1 (jx K (pv 1) JI) JI (Ul _)) (Xu (Ui Xp (jx K (pv 1) JI) JI (Ul _))))) (JL (JQ (Ug (bz JI (pv 0)))))
   JW) (JJ (JV (cq K hr (jx K (pv 1) JI) (pv 3)) (JL (JQ (Ug (bz JI (pv 0)))))
   JW) (JL (JQ (Ug (bz JI (JO Xr (JO Xr (XE (XC (K:=K)) (pv 0) XW (X0 (JO UW (pv 2) JI))) (Ug (az (Up (bz (jx K (pv 1) JI) (pv 4)))))) (XE (XC (K:=K)) (pv 0) (X0 (pv 2)) XW))))))))
   JW) (JJ (JV (cq K hr (jx K (pv 1) JI) U0) (JJ (JV (PW.pt (Xl (Ui X1 (jx K (pv 1) JI) JI (Ul _)) (Xu (Ui P3 (jx K (pv 1) JI) (pv 4) (Ul _))))) (JL (JQ (Ug (bz JI (pv 0)))))
   JW) (JJ (JV (cq K hr (ln K G.len (pv 0)) JI) (JL (JQ (Ug (bz JI (pv 0)))))
   JW) (JJ (Pu.pz 5 TY.nd (Ug (bz (Up (bz (pv 3) (jx K (pv 1) JI))) (Up (bz (pv 3) (JO UW (pv 4) (jx K (pv 1) JI))))))) (JL (JQ (Ug (bz JI (JO Xr (JO Xr (XE (XC (K:=K)) (pv 0) XW (X0 (JO UW (pv 2) JI))) (pv 5)) (XE (XC (K:=K)) (pv 0) (X0 (pv 2)) XW)))))))))
   JW) (JJ (JV (cn K hr (jx K (jx K (pv 0) (pv 2)) JI) (pv 3)) (JL (JQ (Ug (bz JI (pv 0)))))
   JW) (JJ (JV (Ui Xp (JO Ux (pv 4) (jx K (jx K (pv 0) (pv 2)) JI)) JI (Ul _)) (JL (JQ (Ug (bz JI (pv 0)))))
   JW) (JL (JQ (Ug (bz JI (JO Xr (JO Xr (XE (XC (K:=K)) (pv 0) XW (X0 (JO UW (pv 2) JI))) (Ug (az (Up (bz (pv 3) (JO Ux (pv 4) (jx K (jx K (pv 0) (pv 2)) JI))))))) (XE (XC (K:=K)) (pv 0) (X0 (JO Ux (pv 2) JI)) XW)))))))))))))), (JK (JS (JM (JG 1) JH) (JN 2)) (JK (JZ (Xm (JT (X4 (JG 2) JH)) (JT (Xv (JG 2) (UY (U2 (sz (JG 0))) (Mt (sz (Ur (JM (JG 1) JH) U1))))))) (Uc 0 (JY (Ue (tz JH (JG 0))))) JX) (JK (JS (JM (JM (JG 0) (UY (JG 2) JH)) JH) (JN 3)) (JK (JS (JM (JM (JG 0) (UY (JG 2) JH)) JH) (JN 4)) (JK (JZ (JT (Ur (JM (JG 1) JH) U1)) (JK (JZ (Xm (JT (X4 (JM (JG 1) JH) JH)) (JT (Xv (JM (JG 1) JH) JH))) (Uc 0 (JY (Ue (tz JH (JG 0))))) JX) (JK (JZ (JT (Ur (JM (JG 1) JH) (JG 3))) (Uc 0 (JY (Ue (tz JH (JG 0))))) JX) (JY (Ue (tz JH (Xn (Xn (XO (JG 0) XQ (X3 (UY (JG 2) JH))) (Ue (sz (Uq (tz (JM (JG 1) JH) (JG 4)))))) (XO (JG 0) (X3 (JG 2)) XQ))))))) JX) (JK (JZ (JT (Ur (JM (JG 1) JH) U1)) (JK (JZ (Xm (JT (X4 (JM (JG 1) JH) JH)) (JT (Te (JM (JG 1) JH) (JG 4)))) (Uc 0 (JY (Ue (tz JH (JG 0))))) JX) (JK (JZ (JT (Ur (U2 (sz (JG 0))) JH)) (Uc 0 (JY (Ue (tz JH (JG 0))))) JX) (JK (JS (Ue (tz (Uq (tz (JG 3) (JM (JG 1) JH))) (Uq (tz (JG 3) (UY (JG 4) (JM (JG 1) JH)))))) (JN 5)) (JY (Ue (tz JH (Xn (Xn (XO (JG 0) XQ (X3 (UY (JG 2) JH))) (JG 5)) (XO (JG 0) (X3 (JG 2)) XQ)))))))) JX) (JK (JZ (JT (KJ (JM (JM (JG 0) (JG 2)) JH) (JG 3))) (Uc 0 (JY (Ue (tz JH (JG 0))))) JX) (JK (JZ (JT (Xv (Uw (JG 4) (JM (JM (JG 0) (JG 2)) JH)) JH)) (Uc 0 (JY (Ue (tz JH (JG 0))))) JX) (JY (Ue (tz JH (Xn (Xn (XO (JG 0) XQ (X3 (UY (JG 2) JH))) (Ue (sz (Uq (tz (JG 3) (Uw (JG 4) (JM (JM (JG 0) (JG 2)) JH))))))) (XO (JG 0) (X3 (Uw (JG 2) JH)) XQ)))))))))))))⟩) (.b fun ds R X h=>?_)
 ·obtain⟨f,x,rfl,hx,hz,hR⟩:=h;refine⟨rfl,?_⟩;have hl:(f.map prD).length=f.length:=Ym ..;have l1:∀p:Int,(cutD (f.map prD) none (some (p-1))).length<=1000:=fun p=>by have:=(KD (f.map prD) none (some (p-1))).length_le;rw[Ym]at this;omega
  have l2:∀p:Int,(cutD (f.map prD) (some p) none).length<=1000:=fun p=>by have:=(KD (f.map prD) (some p) none).length_le;rw[Ym]at this;omega
  cases x with
  |wish a b=>cases hx
  |drop a b=>cases hx
  |sell p h=>
   have hR:R (.own [.int (codeN (UT f p h)),plD (if UT f p h=none then Kt f p h else f)]):=hR
   have no:∀c:Str,UT f p h=some c->R (.own [.int (codeN (some c)),plD f]):=fun c e=>by
    rw[e,Yp (by intro z;cases z)]at hR;exact hR
   unfold UT at no hR
   have one:(p<1\/(f.length:Int)<p)->R (.own [.int 1,plD f]):=fun z=>by
    rw[←NQ];exact no _ (Yr z)
   refine⟨_,rfl,ite2 (fun g=>iteT ?_) (fun g=>⟨_,rfl,ite2 (fun g2=>?_) (fun g2=>?_)⟩)⟩
   ·exact⟨by simp,one (.inl (Yu g))⟩
   ·have g':(((f.map prD).length:Nat):Int)-0<p:=Yu g2;exact⟨by simp,one (.inr (by omega))⟩
   ·have n1:¬p<1:=fun z=>g (Yq z);have n2:¬(((f.map prD).length:Nat):Int)-0<p:=fun z=>g2 (Yq z);rw[Yp (by omega)]at no hR;have a1:=K7 (ps:=f) (p:=p) (by omega) (by omega);refine⟨_,a1,_,rfl,_,a1,_,rfl,_,rfl,?_⟩;refine⟨_,rfl,ite2 (fun g3=>iteT ?_) (fun g3=>⟨_,rfl,ite2 (fun g4=>?_) (fun g4=>?_)⟩)⟩
    ·have g':h<1:=Yu g3
     have:=no _ (Yr (by omega))
     rw[NG]at this;exact⟨by simp,this⟩
    ·have g':10<h:=Yu g4
     have:=no _ (Yr (by omega))
     rw[NG]at this;exact⟨by simp,this⟩
    ·have n3:¬h<1:=fun z=>g3 (Yq z);have n4:¬10<h:=fun z=>g4 (Yq z);rw[Yp (Wh.mpr ⟨by omega,by omega⟩)]at no hR;refine⟨_,rfl,ite2 (fun g5=>?_) (fun g5=>?_)⟩
     ·have g':h=(atP1 f p).1:=Yu g5
      have:=no _ (Yr g'.symm)
      rw[Hy]at this;exact⟨by simp,this⟩
     ·have g':¬h=(atP1 f p).1:=fun z=>g5 (Yq z);rw[Yp (fun z=>g' z.symm),Yr rfl]at hR;have e:=EN (ps:=f) (p:=p) (x:=(h,(atP1 f p).2)) (by omega) (by omega);refine⟨rfl,_,rfl,by simp,by simp,rfl,rfl,Y4 (YX (l1 p) (Yy 1)) (by decide),rfl,rfl,rfl,Y4 (YX (by rw[Yw];exact YX (l1 p) (Yy 1)) (l2 p)) (by decide),by simp,?_⟩;have e9:plD (Kt f p h)=.lst (cutD (f.map prD) none (some (p-1))++[prD (h,(atP1 f p).2)]++cutD (f.map prD) (some p) none):=YQ D.lst e.symm;rw[e9]at hR;exact hR
  |part p w=>
   have hR:R (.own [.int (codeN (UQ f p w)),plD (if UQ f p w=none then XJ f p w else f)]):=hR
   have no:∀c:Str,UQ f p w=some c->R (.own [.int (codeN (some c)),plD f]):=fun c e=>by
    rw[e,Yp (by intro z;cases z)]at hR;exact hR
   unfold UQ at no hR
   have one:(p<1\/(f.length:Int)<p)->R (.own [.int 1,plD f]):=fun z=>by
    rw[←NQ];exact no _ (Yr z)
   refine⟨_,rfl,ite2 (fun g=>iteT ?_) (fun g=>⟨_,rfl,ite2 (fun g2=>?_) (fun g2=>?_)⟩)⟩
   ·exact⟨by simp,one (.inl (Yu g))⟩
   ·have g':(((f.map prD).length:Nat):Int)-0<p:=Yu g2;exact⟨by simp,one (.inr (by omega))⟩
   ·have n1:¬p<1:=fun z=>g (Yq z);have n2:¬(((f.map prD).length:Nat):Int)-0<p:=fun z=>g2 (Yq z);rw[Yp (by omega)]at no hR;have a1:=K7 (ps:=f) (p:=p) (by omega) (by omega);refine⟨_,a1,_,rfl,_,a1,_,rfl,_,rfl,_,rfl,?_⟩;refine⟨_,rfl,ite2 (fun g3=>iteT ?_) (fun g3=>⟨_,rfl,ite2 (fun g4=>?_) (fun g4=>?_)⟩)⟩
    ·have:=no _ (Yr (.inl (Yu g3)))
     rw[BA]at this;exact⟨by simp,this⟩
    ·have:=no _ (Yr (.inr (Yu g4)))
     rw[BA]at this;exact⟨by simp,this⟩
    ·have n3:¬w<1:=fun z=>g3 (Yq z);have n4:¬(atP1 f p).2<=w:=fun z=>g4 (Yq z);rw[Yp (by omega)]at no hR;refine ite2 (fun g5=>?_) (fun g5=>?_)
     ·have g':(((f.map prD).length:Nat):Int)=40:=Yu g5
      have:=no _ (Yr (by omega))
      rw[Ga]at this;exact⟨by simp,this⟩
     ·have g':¬(((f.map prD).length:Nat):Int)=40:=fun z=>g5 (Yq z);rw[Yp (by omega),Yr rfl]at hR;refine⟨_,rfl,by simp,_,rfl,by simp,by simp,?_⟩;refine⟨rfl,rfl,rfl,Y4 (YX (l1 p) (Yy 2)) (by decide),rfl,rfl,rfl,Y4 (YX (by rw[Yw];exact YX (l1 p) (Yy 2)) (l2 p)) (by decide),by simp,?_⟩;have e9:plD (XJ f p w)=.lst (cutD (f.map prD) none (some (p-1))++[prD ((atP1 f p).1,w),prD ((atP1 f p).1,(atP1 f p).2-w)]++cutD (f.map prD) (some p) none):=YQ D.lst (Ez (by omega)).symm;rw[e9]at hR;exact hR
  |unite p=>
   have hR:R (.own [.int (codeN (uniE f p)),plD (if uniE f p=none then uniL f p else f)]):=hR
   have no:∀c:Str,uniE f p=some c->R (.own [.int (codeN (some c)),plD f]):=fun c e=>by
    rw[e,Yp (by intro z;cases z)]at hR;exact hR
   unfold uniE at no hR
   have one:(p<1\/(f.length:Int)<=p)->R (.own [.int 1,plD f]):=fun z=>by
    rw[←NQ];exact no _ (Yr z)
   refine⟨_,rfl,ite2 (fun g=>iteT ?_) (fun g=>⟨_,rfl,ite2 (fun g2=>?_) (fun g2=>?_)⟩)⟩
   ·exact⟨by simp,one (.inl (Yu g))⟩
   ·have g':(((f.map prD).length:Nat):Int)-1<p:=Yu g2;exact⟨by simp,one (.inr (by omega))⟩
   ·have n1:¬p<1:=fun z=>g (Yq z);have n2:¬(((f.map prD).length:Nat):Int)-1<p:=fun z=>g2 (Yq z);rw[Yp (by omega)]at no hR;have a1:=K7 (ps:=f) (p:=p) (by omega) (by omega);have a2:=MM (ps:=f) (p:=p) (by omega) (by omega);refine⟨_,a1,_,rfl,_,a1,_,rfl,_,rfl,_,rfl,?_⟩;refine⟨_,a2,_,rfl,ite2 (fun g3=>?_) (fun g3=>?_)⟩
    ·have g':¬(atP1 f (p+1)).1=(atP1 f p).1:=fun z=>by rw[Yq z]at g3;cases g3
     have:=no _ (Yr (fun z=>g' z.symm))
     rw[Gw]at this;exact⟨by simp,this⟩
    ·have g':(atP1 f (p+1)).1=(atP1 f p).1:=YU fun z=>g3 (by rw[YA z];rfl);rw[Yp (Wh.mpr g'.symm)]at no hR;refine⟨_,a2,_,rfl,ite2 (fun g4=>?_) (fun g4=>?_)⟩
     ·have:=no _ (Yr (Yu g4))
      rw[CK]at this;exact⟨by simp,this⟩
     ·rw[Yp (fun z=>g4 (Yq z)),Yr rfl]at hR;refine⟨rfl,_,a2,_,rfl,by simp,by simp,rfl,rfl,Y4 (YX (l1 p) (Yy 1)) (by decide),rfl,rfl,rfl,Y4 (YX (by rw[Yw];exact YX (l1 p) (Yy 1)) (l2 (p+1))) (by decide),by simp,?_⟩;have e9:plD (uniL f p)=.lst (cutD (f.map prD) none (some (p-1))++[prD ((atP1 f p).1,(atP1 f p).2+(atP1 f (p+1)).2)]++cutD (f.map prD) (some (p+1)) none):=YQ D.lst (Co (by omega)).symm;rw[e9]at hR;exact hR
def MX(G:Glob K mg)(DD:Def K mg "_law_wish_step" Ft ["_law_wishes","_law_deed_here"])
  : Ca P w K mg base:=by
 refine DD.oz (k:=0) CC (fun _ _ _ _ _ _ E hr=>⟨_,(JJ (Pu.pz 2 CC.nd (Up (bz (jx K (pv 1) JI) (jx K (pv 1) JI)))) (JJ (JV (cq K hr (jx K (pv 1) JI) U0) (JJ (JV (Ui (AB (K:=K) (show _<cLine from UC hr)) (pv 2) (pv 0) (by with_unfolding_all rfl)) (JL (JQ (Ug (bz JI (pv 0)))))
   JW) (JL (JQ (Ug (bz JI (Xa (N':=["_law_one","_law_pair_here"]) (φ:=[none,some 2]) rfl (Own.CompOk.of (by rfl)) (Uu (K:=K) (pv 0)) (fun _ _ _ _ _=>⟨(gz 0 (show(["_law_one","_law_pair_here"]:List Str).Nodup from by decide +kernel)),(X5 (Ui (Ck (K:=K) (show _<cLine from hr.units0)) (pv 0) (pv 1) (Ul _))),(pv 0)⟩)))))))
   JW) (JJ (JV (PW.pt (Xl (Ui X1 (UV (M0 (K:=K) rfl) (by rfl) G.min boot_min (az (pv 2))) JI (Ul _)) (Xu (Ui Xp (UV (Il (K:=K) rfl) (by rfl) G.max boot_max (az (pv 2))) JI (Ul _))))) (JL (JQ (Ug (bz JI (pv 0)))))
   JW) (JJ (JV (cq K hr (jx K (pv 1) JI) (jx K (pv 1) JI)) (JL (JQ (Ug (bz JI (pv 0)))))
   JW) (JJ (JV (Ui (Ke (K:=K) (show _<cLine from UC hr)) (pv 2) (pv 0) (by with_unfolding_all rfl)) (JL (JQ (Ug (bz JI (pv 0)))))
   JW) (JJ (JV (cq K hr (ln K G.len (pv 0)) JI) (JL (JQ (Ug (bz JI (pv 0)))))
   JW) (JL (JQ (Ug (bz JI (JO Xr (pv 0) (Ug (az (pv 2)))))))))))))), (JK (JS (Uq (tz (JM (JG 1) JH) (JM (JG 1) JH))) (JN 2)) (JK (JZ (JT (Ur (JM (JG 1) JH) U1)) (JK (JZ (JT (Xy (JG 2) (JG 0))) (Uc 0 (JY (Ue (tz JH (JG 0))))) JX) (JY (Ue (tz JH (U8 (US (JG 0)) (JN 0) (JT (DW (JG 0) (JG 1))) (JG 0)))))) JX) (JK (JZ (Xm (JT (X4 (Zao (sz (JG 2))) JH)) (JT (Xv (Ot (sz (JG 2))) JH))) (Uc 0 (JY (Ue (tz JH (JG 0))))) JX) (JK (JZ (JT (Ur (JM (JG 1) JH) (JM (JG 1) JH))) (Uc 0 (JY (Ue (tz JH (JG 0))))) JX) (JK (JZ (JT (Xy (JG 2) (JG 0))) (Uc 0 (JY (Ue (tz JH (JG 0))))) JX) (JK (JZ (JT (Ur (U2 (sz (JG 0))) JH)) (Uc 0 (JY (Ue (tz JH (JG 0))))) JX) (Uc 2 (JY (Ue (tz JH (Xn (JG 0) (Ue (sz (JG 2))))))))))))))⟩) (.b fun ds R X h=>?_)
 ·obtain⟨w,x,rfl,hx,hz,hR⟩:=h;refine⟨rfl,?_⟩;have hl:(w.map prD).length=w.length:=Ym ..;cases x with
  |sell p h=>cases hx
  |part p h=>cases hx
  |unite p=>cases hx
  |drop a b=>
   refine⟨_,rfl,_,rfl,by simp,_,rfl,?_⟩;show ∃c,InR (prD (a,b)) (plD w) c/\_;have hR:R (.own [.int (codeN (UN w a b)),plD (if UN w a b=none then Kn w a b else w)]):=hR;refine⟨_,.lp (a,b) w,ite2 (fun g=>?_) (fun g=>?_)⟩
   ·have g':¬(a,b)∈w:=fun z=>by rw[Yr rfl,Yq z]at g;cases g
    have e:UN w a b=some ("NoWish" : Str):=Yp g';rw[e,Di,Yp (by intro z;cases z)]at hR;exact⟨by simp,hR⟩
   ·have g':(a,b)∈w:=YU fun z=>g (by rw[Yr rfl,YA z];rfl);have e:UN w a b=none:=Yr g';rw[e,Yr rfl]at hR;refine UH (xs:=w) (emb:=prD) (fun q=>if (!decide (q=(a,b)))=true then some (prD q)else none) (by omega) (fun q hq=>?_) ?_
    ·refine⟨[q.1,q.2],[a,b],rfl,rfl,?_⟩;have e:decide ([q.1,q.2]=[a,b])=decide (q=(a,b)):=Zdm q (a,b);show if (!decide ([q.1,q.2]=[a,b]))=true then _ else _;rw[e];exact ite2 (fun h=>⟨_,rfl,Yr h⟩) (fun h=>Yp h)
    ·rw[XH (fun q:Int×Int=>!decide (q=(a,b)))];exact⟨by simp,hR⟩
  |wish a b=>
   refine⟨_,rfl,_,rfl,by simp,_,rfl,?_⟩;have hR:R (.own [.int (codeN (UM w a b)),plD (if UM w a b=none then w++[(a,b)]else w)]):=hR
   have no:∀c:Str,UM w a b=some c->R (.own [.int (codeN (some c)),plD w]):=fun c e=>by
    rw[e,Yp (by intro z;cases z)]at hR;exact hR
   have bad:¬((1<=a/\a<=10)/\(1<=b/\b<=10))->R (.own [.int 2,plD w]):=fun z=>by
    rw[←NG];refine no _ ?_;unfold UM;by_cases c1:1<=a/\a<=10
    ·rw[Yp (Wh.mpr c1),Yr (fun y=>z ⟨c1,y⟩)]
    ·rw[Yr c1]
   have mn:∀x y:Int,(if y<x then y else x)<=x/\(if y<x then y else x)<=y/\((if y<x then y else x)=x\/(if y<x then y else x)=y):=fun x y=>by split<;>omega
   have mx:∀x y:Int,x<=(if y>x then y else x)/\y<=(if y>x then y else x)/\((if y>x then y else x)=x\/(if y>x then y else x)=y):=fun x y=>by split<;>omega
   have m1:=mn a b;have m2:=mx a b;refine ite2 (fun g=>iteT ?_) (fun g=>ite2 (fun g2=>?_) (fun g2=>?_))
   ·have g':(if b<a then b else a)<1:=Yu g;exact⟨by simp,bad (by omega)⟩
   ·have g':10<(if b>a then b else a):=Yu g2;exact⟨by simp,bad (by omega)⟩
   ·have n1:¬(if b<a then b else a)<1:=fun z=>g (Yq z);have n2:¬10<(if b>a then b else a):=fun z=>g2 (Yq z);have c1:1<=a/\a<=10:=by omega
    have c2:1<=b/\b<=10:=by omega
    unfold UM at no hR;rw[Yp (Wh.mpr c1),Yp (Wh.mpr c2)]at no hR;refine⟨_,rfl,_,rfl,ite2 (fun g3=>?_) (fun g3=>?_)⟩
    ·have:=no _ (Yr (Yu g3))
     rw[GT]at this;exact⟨by simp,this⟩
    ·have n3:¬a=b:=fun z=>g3 (Yq z);rw[Yp n3]at no hR;show ∃c,InR (prD (a,b)) (plD w) c/\_;refine⟨_,.lp (a,b) w,ite2 (fun g4=>?_) (fun g4=>?_)⟩
     ·have:=no _ (Yr (Yu g4))
      rw[E4]at this;exact⟨by simp,this⟩
     ·have n4:¬(a,b)∈w:=fun z=>g4 (Yq z);rw[Yp n4]at no hR;refine ite2 (fun g5=>?_) (fun g5=>?_)
      ·have g':(((w.map prD).length:Nat):Int)=20:=Yu g5
       have:=no _ (Yr (by omega))
       rw[AK]at this;exact⟨by simp,this⟩
      ·have g':¬(((w.map prD).length:Nat):Int)=20:=fun z=>g5 (Yq z);rw[Yp (by omega),Yr rfl]at hR;refine⟨by simp,rfl,rfl,Y4 (YX (WG hl) (Yy 1)) (by omega),by simp,?_⟩;have e9:plD (w++[(a,b)])=.lst (w.map prD++[prD (a,b)]):=YQ D.lst Y8;rw[e9]at hR;exact hR
def Ou(G:Glob K mg)(DD:Def K mg "_law_odd" Av ["_law_cell","_law_good"])
  : Bu P w K mg base:=by
 refine DD.oz (k:=0) Mx (fun _ _ _ _ _ _ E hr=>⟨_,(JJ (JV (cq K hr (JO Ut (pv 0) JI) JI) (JL (JQ (jx K (Ug (JU JI (JU JI (JU (Xe Xd JI) (JU (JO Am JI JI) Uv))))) (JO Ut (JO UJ (pv 0) JI) JI))))
   JW) (JL (JQ (pv 1)))), (JK (JZ (JT (Ur (Us (JG 0) JH) JH)) (JY (JM (Ue (Ud JH (Ud JH (Ud (Xh JH) (Ud (F6 JH JH) Uj))))) (Us (UK (JG 0) JH) JH))) JX) (XA 1))⟩) (.a fun ds R X h=>?_)
 ·obtain⟨c,g,rfl,hR⟩:=h;refine⟨rfl,?_⟩;have h4:0<=c / 7 % 4/\c / 7 % 4<4:=by omega
  refine⟨(by show(0:Int)<7;decide),ite2 (fun _=>?_) (fun _=>hR _)⟩;exact⟨⟨by decide,by decide,by decide⟩,by simp,⟨by decide,by decide⟩,(by show(0:Int)<4;decide),_,P1 (f:=D.int) (xs:=[0,11,-3,10 ^ (30:Int).toNat]) h4.1 h4.2,hR _⟩
def Lk(G:Glob K mg)(DD:Def K mg "_law_place" Bm ["_law_cell","_law_strips"])
  : CG P w K mg base:=by
 refine DD.oz (k:=0) Zdt (fun _ _ _ _ _ _ E hr=>⟨_,(JJ (JV (cq K hr (JO Ut (pv 0) JI) JI) (JL (JQ (jx K (Ug (JU JI (JU (Xe Xd JI) (JU (JO Ux (ln K G.len (pv 1)) JI) (JU (JO Am JI JI) Uv))))) (JO Ut (JO UJ (pv 0) JI) JI))))
   JW) (JJ (JV (Ui (A4 (K:=K) (show _<cLine from hr.units0)) (pv 1) (Ug Uv) (Ul _)) (JL (JQ JI))
   JW) (JL (JQ (JO Ux JI (JO Ut (JO UJ (pv 0) JI) (ln K G.len (pv 1)))))))), (JK (JZ (JT (Ur (Us (JG 0) JH) JH)) (JY (JM (Ue (Ud JH (Ud (Xh JH) (Ud (Uw (U2 (sz (JG 1))) JH) (Ud (F6 JH JH) Uj))))) (Us (UK (JG 0) JH) JH))) JX) (JK (JZ (JT (SD (JG 1) (Ue Uj))) (JY JH) JX) (JY (Uw JH (Us (UK (JG 0) JH) (U2 (sz (JG 1))))))))⟩) (.a fun ds R X h=>?_)
 ·obtain⟨c,ps,rfl,hz,hR⟩:=h;refine⟨rfl,?_⟩;have h4:0<=c / 11 % 4/\c / 11 % 4<4:=by omega
  have hl:(ps.map prD).length=ps.length:=Ym ..;refine⟨(by show(0:Int)<11;decide),ite2 (fun _=>?_) (fun _=>?_)⟩
  ·exact⟨⟨by decide,by decide,by decide⟩,by simp,⟨by decide,by decide⟩,(by show(0:Int)<4;decide),_,P1 (f:=D.int) (xs:=[0,-1,(((ps.map prD).length:Nat):Int)+1,10 ^ (30:Int).toNat]) h4.1 h4.2,hR _⟩
  ·refine⟨by simp,?_⟩;have emp:(ps.map prD).isEmpty=decide (ps=[]):=by cases ps<;>simp
   show if (ps.map prD).isEmpty=true then _ else _;rw[emp];refine ite2 (fun _=>hR _) (fun g=>?_);have hne:0<ps.length:=Qk.mpr fun z=>g (Yq z);exact⟨⟨by decide,by decide⟩,(by show 0<(((ps.map prD).length:Nat):Int);omega),hR _⟩
def Zer(G:Glob K mg)(DD:Def K mg "_law_width" BN ["_law_cell","_law_strips","_law_place_here"])
  : ED P w K mg base:=by
 refine DD.oz (k:=0) Lp (fun _ _ _ _ _ _ E hr=>⟨_,(JJ (JV (PW.pt (Xl (Ui X1 (pv 2) JI (Ul _)) (Xl (Ui Xp (pv 2) (ln K G.len (pv 1)) (Ul _)) (Xu (cq K hr (JO Ut (pv 0) JI) JI))))) (JL (JQ (jx K (Ug (JU JI (JU (Xe Xd JI) (JU JI (JU JI (JU JI (JU JI (JU (JO Am JI JI) Uv)))))))) (JO Ut (JO UJ (pv 0) JI) JI))))
   JW) (JL (JQ (JO Ut (JO UJ (pv 0) JI) (JO Ux (jx K (jx K (pv 1) (JO UW (pv 2) JI)) JI) JI))))), (JK (JZ (Xm (JT (X4 (JG 2) JH)) (Xm (JT (Xv (JG 2) (U2 (sz (JG 1))))) (JT (Ur (Us (JG 0) JH) JH)))) (JY (JM (Ue (Ud JH (Ud (Xh JH) (Ud JH (Ud JH (Ud JH (Ud JH (Ud (F6 JH JH) Uj)))))))) (Us (UK (JG 0) JH) JH))) JX) (JY (Us (UK (JG 0) JH) (Uw (JM (JM (JG 1) (UY (JG 2) JH)) JH) JH))))⟩) (.a fun ds R X h=>?_)
 ·obtain⟨c,ps,p,rfl,hz,hF,hR⟩:=h;refine⟨rfl,?_⟩;have hl:(ps.map prD).length=ps.length:=Ym ..;have h7:0<=c / 5 % 7/\c / 5 % 7<7:=by omega
  have out:∃v:Int,atI ([0,-1,1,1000,1001,999,10 ^ (30:Int).toNat].map D.int) (c / 5 % 7)=some (.int v):=⟨_,P1 (f:=D.int) (xs:=[0,-1,1,1000,1001,999,10 ^ (30:Int).toNat]) h7.1 h7.2⟩;obtain⟨v,ev⟩:=out;refine ite2 (fun g=>iteT ?_) (fun g=>ite2 (fun g2=>iteT ?_) (fun g2=>⟨(by show(0:Int)<5;decide),ite2 (fun g3=>?_) (fun g3=>?_)⟩))
  ·exact⟨⟨by decide,by decide,by decide⟩,by simp,⟨by decide,by decide⟩,(by show(0:Int)<7;decide),_,ev,hR _⟩
  ·exact⟨⟨by decide,by decide,by decide⟩,by simp,⟨by decide,by decide⟩,(by show(0:Int)<7;decide),_,ev,hR _⟩
  ·exact⟨⟨by decide,by decide,by decide⟩,by simp,⟨by decide,by decide⟩,(by show(0:Int)<7;decide),_,ev,hR _⟩
  ·have n1:¬p<1:=fun z=>g (Yq z);have n2:¬(((ps.map prD).length:Nat):Int)<p:=fun z=>g2 (Yq z);have hm:=hF _ (Sy (ps:=ps) (p:=p) (by omega) (by omega));exact⟨⟨by decide,by decide⟩,_,K7 (by omega) (by omega),_,rfl,(by show 0<(atP1 ps p).2+1;omega),hR _⟩
def Oo(G:Glob K mg)(DD:Def K mg "check_strips" BF ["strips"])(Zj:Sf P w K mg base)(Zw:Da P w K mg base)
  : DK P w K mg base:=by
 refine DD.ox (k:=1) AD (fun _ _ _ _ _ _ E hr=>⟨_,(JJ (JV (Ui Xp (ln K G.len (pv 0)) (ExcR.XF G.STRIPS) (Ul _)) (JL (ExcR.Xw G.g_TooManyStrips.c G.m_TooManyStrips ExcR.Xo rfl (az (ExcR.pe_f (ExcR.XY (ExcR.Po (ExcR.XF G.STRIPS) (ExcR.XY ExcR.Pk)))))))
   JW) (JL (UF ExcR.Ze5 rfl (Uu (K:=K) (pv 0)) (Td (K:=K) (n:=2) rfl (Kb (gz 1 AD.nd) (Kb (gz 2 AD.nd) PP))) (JJ (U9 (Xs Zj (hr.mono (by decide)) ExcR.UO (az (pv 1)))) (JL (U9 (Xs Zw (hr.mono (by decide)) ExcR.UO (az (pv 2))))))))), (JK (JZ (JT (Xv (U2 (sz (JG 0))) JH)) (Xt (sz (se_f (Kd (Px JH (Kd Pp)))))) JX) (Uc 0 (UD [1,2] (Xj (JG 0)) (Ts (Kx (JN 1) (Kx (JN 2) Tj))) (JK (Xx (X7 (sz (JG 1)))) (Xx (X7 (sz (JG 2))))))))⟩) (.a fun ds R X h=>?_)
 ·obtain⟨ps,rfl,hz,hR⟩:=h;refine⟨rfl,?_⟩;have hl:(ps.map prD).length=ps.length:=Ym ..;unfold PB at hR;refine ite2 (fun g=>?_) (fun g=>?_)
  ·have g':(40:Int)<((ps.map prD).length:Int):=Yu g;rw[Yr (by omega)]at hR;exact⟨by decide,by decide,by decide,by decide,by decide,by simp,hR⟩
  ·have g':¬(40:Int)<((ps.map prD).length:Int):=fun z=>g (Yq z);rw[Yp (by omega)]at hR;refine⟨rfl,Xk (xs:=ps) (emb:=prD) (fun i γ'=>γ'=[some (.bor (plD ps)),none,none]/\KH (ps.drop i)=KH ps) ⟨rfl,rfl⟩ ?_ ?_⟩
   ·rintro i hi γ' ⟨rfl,hf⟩;have ed:ps.drop i=ps[i]::ps.drop (i+1):=QA hi;rw[ed,IQ]at hf;generalize ps[i]=p at hf ⊢;refine⟨rfl,p.1,rfl,?_⟩;unfold PM;by_cases c:1<=p.1/\p.1<=10
    ·rw[Yp (fun z=>z c)]at hf;rw[Yr c];refine⟨p.2,rfl,?_⟩;unfold Fz;by_cases c2:1<=p.2/\p.2<=1000
     ·rw[Yp (fun z=>z c2)]at hf;rw[Yr c2];exact⟨rfl,hf⟩
     ·rw[Yr c2]at hf;rw[Yp c2];rw[←hf]at hR;exact hR
    ·rw[Yr c]at hf;rw[Yp c];rw[←hf]at hR;exact hR
   ·rintro γ' ⟨rfl,hf⟩;rw[List.drop_length]at hf;rw[←hf]at hR;exact hR
def Zev(G:Glob K mg)(DD:Def K mg "ring_from" A2 ["least","holders","wishes"])(Zx:E8 P w K mg base)
  : CU P w K mg base:=by
 refine DD.oz (k:=1) Pm (fun _ _ _ _ _ _ E hr=>⟨_,(JJ (Pu.pz 3 Pm.nd (Ug (az (Ug (az (pv 0)))))) (JJ (Pu.pz 4 Pm.nd (UV (Bp (K:=K) (w:=w) rfl) (by rfl) G.sorted boot_sorted (az (Xa (N':=["holder","least"]) (φ:=[none,some 0]) rfl (Own.CompOk.of (by rfl)) (Uu (K:=K) (pv 1)) (fun _ _ _ _ _=>⟨(gz 0 (show(["holder","least"]:List Str).Nodup from by decide +kernel)),(X5 (Ui Xp (pv 0) (pv 1) (Ul _))),(pv 0)⟩))))) (JJ (FR YH (UL (K:=K) (pv 3)) (JJ (Kl (N':=["path","wishes","least"]) (φ:=[none,some 2,some 0]) (i:=5) Pm.nd rfl rfl rfl (Own.CompOk.of (by rfl)) (Uu (K:=K) (pv 3)) (fun _ _ _ _ _=>⟨(gz 0 (show(["path","wishes","least"]:List Str).Nodup from by decide +kernel)),(X5 (Ui (Ke (K:=K) (show _<cLine from UC hr)) (Up (bz (jx K (pv 0) (Xe Xd JI)) (pv 2))) (pv 1) (by with_unfolding_all rfl))),(pv 0)⟩)) (JJ (JV (UL (K:=K) (pv 5)) (JL (JQ (jx K (pv 5) JI)))
   JW) (JJ (Pu.pz 3 Pm.nd (fz Zx hr (dz (pv 3) (pv 4) (pv 2)))) (JJ (Pu.pz 6 Pm.nd (Xa (N':=["path"]) (φ:=[none]) rfl (Own.CompOk.of (by rfl)) (Uu (K:=K) (pv 3)) (fun _ _ _ _ _=>⟨(gz 0 (show(["path"]:List Str).Nodup from by decide +kernel)),Xq,(jx K (pv 0) (Xe Xd JI))⟩))) (JL (Kl (N':=["holder","reached"]) (φ:=[none,some 6]) (i:=4) Pm.nd rfl rfl rfl (Own.CompOk.of (by rfl)) (Uu (K:=K) (pv 4)) (fun _ _ _ _ _=>⟨(gz 0 (show(["holder","reached"]:List Str).Nodup from by decide +kernel)),(X5 (Ui (AB (K:=K) (show _<cLine from UC hr)) (pv 0) (pv 1) (by with_unfolding_all rfl))),(pv 0)⟩)))))))) (JL (JQ (Ug Uv)))))), (JK (Uc 0 (JS (Ue (sz (Ue (sz (JG 0))))) (JN 3))) (JK (JS (Fd (sz (U8 (US (JG 1)) (JN 0) (JT (Xv (JG 0) (JG 1))) (JG 0)))) (JN 4)) (JK (Al [5,6] (Xb (JG 3)) (JK (Uc 0 (JS (U8 (US (JG 3)) (JN 0) (JT (Xy (Uq (tz (JM (JG 0) (Xh JH)) (JG 2))) (JG 1))) (JG 0)) (JN 5))) (JK (JZ (Xb (JG 5)) (Hh (JM (JG 5) JH)) JX) (JK (JS (Ub (uz (JG 3) (JG 4) (JG 2))) (JN 3)) (JK (JS (U8 (US (JG 3)) (JN 0) Xz (JM (JG 0) (Xh JH))) (JN 6)) (JS (U8 (US (JG 4)) (JN 0) (JT (Xy (JG 0) (JG 1))) (JG 0)) (JN 4))))))) (Hh (Ue Uj)))))⟩) (.a fun ds R X h=>?_)
 ·obtain⟨l,hs,ws,rfl,hz,hN,hR⟩:=h;refine⟨rfl,?_⟩;refine⟨by simp,by simp,UH (xs:=hs) (emb:=D.int) (fun h=>if decide (l<h)=true then some (.int h)else none) (by omega) (fun h _=>ite2 (fun g=>⟨_,rfl,Yr g⟩) (fun g=>Yp g)) ?_⟩;rw[AU fun h=>decide (l<h)];refine⟨hs.filter fun h=>decide (l<h),rfl,Wp (YZ _ _) (by omega),fun ls hp hsrt=>?_⟩
  have hm:∀h∈ls,Gr hs l h:=fun h z=>by
   rw[hp.mem_iff,Y3,WZ]at z;exact z
  have hlen:ls.length<=hs.length:=by
   rw[hp.length_eq];exact YZ _ _
  refine A5 (fun γ'=>∃k ps ls,γ'=[some (.sh (.int l)),some (.bor (.lst (hs.map D.int))),some (.bor (.lst (ws.map prD))),some (.own (ps.map (em l))),some (.own (ls.map D.int)),none,none]/\(∀p∈ps,p.length=k/\Path (Gr hs l) ws l p)/\(∀h∈ls,Gr hs l h)/\ps.length<=60/\ls.length<=hs.length/\(k+ls.length<=hs.length\/(ps=[]/\k<=hs.length+1)))
   (fun γ=>2*ET 4 γ+min 1 (ET 3 γ)) ⟨0,[[]],ls,rfl,(fun p z=>by rw[Yx.mp z];exact⟨rfl,trivial⟩),hm,by simp,hlen,.inl (by omega)⟩ ?_
  rintro γ' ⟨k,ps,ls,rfl,L,hm,hpl,hll,hk⟩;have emp:(!(ps.map (em l)).isEmpty)=decide (ps≠[]):=by cases ps<;>simp
  show if (!(ps.map (em l)).isEmpty)=true then _ else _;rw[emp];refine ite2 (fun g=>?_) (fun g=>?_)
  ·have hne:ps≠[]:=Yu g;have hk':k+ls.length<=hs.length:=hk.elim id fun z=>absurd z.1 hne;have hpk:∀p∈ps,p.length<=60:=fun p hp=>by rw[(L p hp).1];omega
   have hn:∀p∈ps,(Uy l p,l)∉ws:=fun p hp z=>hN p ⟨(L p hp).2,z⟩;refine UH (xs:=ps) (emb:=em l) (fun _=>none) (by omega) (fun p hp=>⟨_,Bk l p,by simp,_,.lp (Uy l p,l) ws,ite2 (fun g=>absurd (Yu g) (hn p hp)) (fun g=>rfl)⟩) ?_;have e0:ps.filterMap (fun _=>(none:Option D))=[]:=by simp
   rw[e0];refine⟨l,ps,ls,ws,rfl,fun p hp=>Y4 (hpk p hp) (by decide),by omega,fun lg G hlg=>?_⟩;refine UH (xs:=lg) (emb:=em l) (fun p=>some (.int (Uy l p))) (by omega) (fun p _=>⟨_,Bk l p,_,rfl,rfl⟩) ?_;have e1:lg.filterMap (fun p=>some (D.int (Uy l p)))=(lg.map (Uy l)).map D.int:=by rw[Qv,YR];rfl
   rw[e1];refine UH (xs:=ls) (emb:=D.int) (fun h=>if decide (¬h∈lg.map (Uy l))=true then some (.int h)else none) (by omega) (fun h _=>⟨_,.li h _,?_⟩) ?_
   ·by_cases c:h∈lg.map (Uy l)
    ·simp only[Yq c];exact iteF (Yp (by simp[c]))
    ·simp only[YA c];exact iteT ⟨_,rfl,Yr (by simp[c])⟩
   rw[AU fun h=>decide (¬h∈lg.map (Uy l))];have hfl:=YZ (fun h=>decide (¬h∈lg.map (Uy l))) ls
   have hless:lg≠[]->(ls.filter fun h=>decide (¬h∈lg.map (Uy l))).length<ls.length:=fun hne=>by
    obtain⟨q,hq⟩:=List.exists_mem_of_ne_nil lg hne
    have hm:Uy l q∈ls:=by
     obtain⟨p,_,x,hx,rfl,_⟩:=G q hq;rw[Ph];exact hx
    refine Nat.lt_of_le_of_ne hfl fun z=>?_
    have:=Vx.mp (List.Sublist.eq_of_length (Vw (l:=ls)) z) (Uy l q) hm
    rw[WZ]at this;exact this (Vz hq)
   refine⟨⟨k+1,lg,_,rfl,fun q hq=>?_,fun h hh=>hm h (Y3.mp hh).1,by omega,by omega,?_⟩,?_⟩
   ·obtain⟨p,hp,x,hx,rfl,hw⟩:=G q hq;exact⟨by rw[Yw,(L p hp).1];rfl,path_app.mpr ⟨(L p hp).2,hm x hx,hw,trivial⟩⟩
   ·by_cases c:lg=[]
    ·exact .inr ⟨c,by omega⟩
    ·have:=hless c
     exact .inl (by omega)
   ·show 2*((ls.filter fun h=>decide (¬h∈lg.map (Uy l))).map D.int).length+min 1 (lg.map (em l)).length<2*(ls.map D.int).length+min 1 (ps.map (em l)).length;rw[Ym,Ym,Ym,Ym]
    have:0<ps.length:=Qk.mpr hne
    by_cases c:lg=[]
    ·rw[c];rw[c]at hfl;simp only[List.length_nil];omega
    ·have:=hless c
     omega
  ·have hpe:ps=[]:=YU fun z=>g (Yq z);subst hpe;exact⟨by simp,hR⟩
def Zbu(G:Glob K mg)(DD:Def K mg "sold" F1 ["strips","place","holder"])(Zo:Fj P w K mg base)(Zj:Sf P w K mg base)
  : Du P w K mg base:=by
 refine DD.ox (k:=1) DU (fun _ _ _ _ _ _ E hr=>⟨_,(JJ (U9 (Xs Zo (hr.mono (by decide)) ExcR.UO (bz (pv 0) (pv 1)))) (JJ (U9 (Xs Zj (hr.mono (by decide)) ExcR.UO (az (pv 2)))) (JJ (Pu.pz 3 DU.nd (jx K (pv 0) (JO UW (pv 1) JI))) (JJ (JV (cq K hr (jx K (pv 3) JI) (pv 2)) (JL (ExcR.Xw G.g_OwnStrip.c G.m_OwnStrip ExcR.Xo rfl (az U0)))
   JW) (JL (JQ (JO Xr (JO Xr (XE (XC (K:=K)) (pv 0) XW (X0 (JO UW (pv 1) JI))) (Ug (az (Up (bz (pv 2) (jx K (pv 3) JI)))))) (XE (XC (K:=K)) (pv 0) (X0 (pv 1)) XW)))))))), (JK (Xx (X7 (tz (JG 0) (JG 1)))) (JK (Xx (X7 (sz (JG 2)))) (JK (JS (JM (JG 0) (UY (JG 1) JH)) (JN 3)) (JK (JZ (JT (Ur (JM (JG 3) JH) (JG 2))) (Xt (sz U1)) JX) (Uc 2 (JY (Xn (Xn (XO (JG 0) XQ (X3 (UY (JG 1) JH))) (Ue (sz (Uq (tz (JG 2) (JM (JG 3) JH)))))) (XO (JG 0) (X3 (JG 1)) XQ))))))))⟩) (.a fun ds R X h=>?_)
 ·obtain⟨ps,p,h,rfl,hz,hR⟩:=h;refine⟨rfl,?_⟩;unfold UT at hR;refine⟨ps,p,rfl,?_⟩;unfold N6;by_cases c:p<1\/(ps.length:Int)<p
  ·rw[Yr c]at hR ⊢;exact hR
  ·rw[Yp c]at hR ⊢;refine⟨h,rfl,?_⟩;unfold PM;by_cases c2:1<=h/\h<=10
   ·rw[Yp (fun z=>z c2)]at hR;rw[Yr c2];refine⟨_,K7 (by omega) (by omega),?_⟩;have l1:(cutD (ps.map prD) none (some (p-1))).length<=1000:=by have:=(KD (ps.map prD) none (some (p-1))).length_le;rw[Ym]at this;omega
    have l2:(cutD (ps.map prD) (some p) none).length<=1000:=by have:=(KD (ps.map prD) (some p) none).length_le;rw[Ym]at this;omega
    refine⟨_,rfl,ite2 (fun g=>?_) (fun g=>?_)⟩
    ·have g':(atP1 ps p).1=h:=Yu g;rw[Yr g']at hR;exact⟨by simp,hR⟩
    ·have g':¬(atP1 ps p).1=h:=fun z=>g (Yq z);rw[Yp g']at hR;refine⟨Kw _,_,rfl,by simp,by simp,rfl,rfl,Y4 (YX l1 (Yy 1)) (by decide),Kw _,rfl,rfl,Y4 (YX (by rw[Yw];exact YX l1 (Yy 1)) l2) (by decide),?_⟩;have e:=EN (ps:=ps) (p:=p) (x:=(h,(atP1 ps p).2)) (by omega) (by omega);show R (.own (cutD (ps.map prD) none (some (p-1))++[prD (h,(atP1 ps p).2)]++cutD (ps.map prD) (some p) none));rw[e];exact hR
   ·rw[Yr c2]at hR;rw[Yp c2];exact hR
def Mz(G:Glob K mg)(DD:Def K mg "parted" B4 ["strips","place","width"])(Zo:Fj P w K mg base)
  : DG P w K mg base:=by
 refine DD.ox (k:=1) E6 (fun _ _ _ _ _ _ E hr=>⟨_,(JJ (U9 (Xs Zo (hr.mono (by decide)) ExcR.UO (bz (pv 0) (pv 1)))) (JJ (Pu.pz 3 E6.nd (jx K (pv 0) (JO UW (pv 1) JI))) (JJ (JV (PW.pt (Xl (Ui X1 (pv 2) JI (Ul _)) (Xu (Ui P3 (pv 2) (jx K (pv 3) JI) (Ul _))))) (JL (ExcR.Xw G.g_BadPart.c G.m_BadPart ExcR.Xo rfl (az U0)))
   JW) (JJ (JV (Ui P3 (ln K G.len (pv 0)) (ExcR.XF G.STRIPS) (Ul _)) (JL (ExcR.Xw G.g_TooManyStrips.c G.m_TooManyStrips ExcR.Xo rfl (az (ExcR.pe_f (ExcR.XY (ExcR.Po (ExcR.XF G.STRIPS) (ExcR.XY ExcR.Pk)))))))
   JW) (JL (JQ (JO Xr (JO Xr (XE (XC (K:=K)) (pv 0) XW (X0 (JO UW (pv 1) JI))) (Ug (bz (Up (bz (jx K (pv 3) JI) (pv 2))) (Up (bz (jx K (pv 3) JI) (JO UW (jx K (pv 3) JI) (pv 2))))))) (XE (XC (K:=K)) (pv 0) (X0 (pv 1)) XW)))))))), (JK (Xx (X7 (tz (JG 0) (JG 1)))) (JK (JS (JM (JG 0) (UY (JG 1) JH)) (JN 3)) (JK (JZ (Xm (JT (X4 (JG 2) JH)) (JT (Te (JG 2) (JM (JG 3) JH)))) (Xt (sz U1)) JX) (JK (JZ (JT (Te (U2 (sz (JG 0))) JH)) (Xt (sz (se_f (Kd (Px JH (Kd Pp)))))) JX) (Uc 2 (JY (Xn (Xn (XO (JG 0) XQ (X3 (UY (JG 1) JH))) (Ue (tz (Uq (tz (JM (JG 3) JH) (JG 2))) (Uq (tz (JM (JG 3) JH) (UY (JM (JG 3) JH) (JG 2))))))) (XO (JG 0) (X3 (JG 1)) XQ))))))))⟩) (.a fun ds R X h=>?_)
 ·obtain⟨ps,p,w,rfl,hz,hR⟩:=h;refine⟨rfl,?_⟩;have hl:(ps.map prD).length=ps.length:=Ym ..;refine⟨ps,p,rfl,?_⟩;unfold UQ at hR;unfold N6;by_cases c:p<1\/(ps.length:Int)<p
  ·rw[Yr c]at hR ⊢;exact hR
  ·rw[Yp c]at hR ⊢;refine⟨_,K7 (by omega) (by omega),?_⟩
   have go:¬(w<1\/(atP1 ps p).2<=w)->_:=fun c2=>by
    rw[Yp c2]at hR;exact hR
   by_cases c2:w<1\/(atP1 ps p).2<=w
   ·rw[Yr c2]at hR;refine ite2 (fun g=>iteT ⟨by simp,hR⟩) (fun g=>⟨_,rfl,ite2 (fun g2=>⟨by simp,hR⟩) (fun g2=>?_)⟩);have g':¬w<1:=fun z=>g (Yq z);have g2':¬(atP1 ps p).2<=w:=fun z=>g2 (Yq z);omega
   ·rw[Yp c2]at hR;refine ite2 (fun g=>absurd (Yu g) (by omega)) (fun g=>⟨_,rfl,ite2 (fun g2=>absurd (Yu g2) (by omega)) (fun g2=>?_)⟩);refine ite2 (fun g3=>?_) (fun g3=>?_)
    ·have g3':(40:Int)<=((ps.map prD).length:Int):=Yu g3;rw[Yr (by omega)]at hR;exact⟨by decide,by decide,by decide,by decide,by decide,by simp,hR⟩
    ·have g3':¬(40:Int)<=((ps.map prD).length:Int):=fun z=>g3 (Yq z);rw[Yp (by omega)]at hR;have l1:(cutD (ps.map prD) none (some (p-1))).length<=1000:=by have:=(KD (ps.map prD) none (some (p-1))).length_le;rw[Ym]at this;omega
     have l2:(cutD (ps.map prD) (some p) none).length<=1000:=by have:=(KD (ps.map prD) (some p) none).length_le;rw[Ym]at this;omega
     refine⟨Kw _,_,rfl,by simp,_,rfl,_,rfl,by simp,by simp,rfl,rfl,Y4 (YX l1 (Yy 2)) (by decide),Kw _,rfl,rfl,Y4 (YX (by rw[Yw];exact YX l1 (Yy 2)) l2) (by decide),?_⟩;rw[←Ez (by omega)]at hR;exact hR
def Ih(G:Glob K mg)(DD:Def K mg "united" FY ["strips","place"])(Zy:El P w K mg base)
  : Hs P w K mg base:=by
 refine DD.ox (k:=1) Ay (fun _ _ _ _ _ _ E hr=>⟨_,(JJ (U9 (Xs Zy (hr.mono (by decide)) ExcR.UO (bz (pv 0) (pv 1)))) (JJ (Pu.pz 2 Ay.nd (jx K (pv 0) (JO UW (pv 1) JI))) (JJ (Pu.pz 3 Ay.nd (jx K (pv 0) (pv 1))) (JJ (JV (cn K hr (jx K (pv 2) JI) (jx K (pv 3) JI)) (JL (ExcR.Xw G.g_UnlikeHolders.c G.m_UnlikeHolders ExcR.Xo rfl (az U0)))
   JW) (JJ (JV (Ui Xp (JO Ux (jx K (pv 2) JI) (jx K (pv 3) JI)) (ExcR.XF G.WIDEST) (Ul _)) (JL (ExcR.Xw G.g_TooWide.c G.m_TooWide ExcR.Xo rfl (az (ExcR.pe_f (ExcR.XY (ExcR.Po (ExcR.XF G.WIDEST) (ExcR.XY ExcR.Pk)))))))
   JW) (JL (JQ (JO Xr (JO Xr (XE (XC (K:=K)) (pv 0) XW (X0 (JO UW (pv 1) JI))) (Ug (az (Up (bz (jx K (pv 2) JI) (JO Ux (jx K (pv 2) JI) (jx K (pv 3) JI))))))) (XE (XC (K:=K)) (pv 0) (X0 (JO Ux (pv 1) JI)) XW))))))))), (JK (Xx (X7 (tz (JG 0) (JG 1)))) (JK (JS (JM (JG 0) (UY (JG 1) JH)) (JN 2)) (JK (JS (JM (JG 0) (JG 1)) (JN 3)) (JK (JZ (JT (KJ (JM (JG 2) JH) (JM (JG 3) JH))) (Xt (sz U1)) JX) (JK (JZ (JT (Xv (Uw (JM (JG 2) JH) (JM (JG 3) JH)) JH)) (Xt (sz (se_f (Kd (Px JH (Kd Pp)))))) JX) (JY (Xn (Xn (XO (JG 0) XQ (X3 (UY (JG 1) JH))) (Ue (sz (Uq (tz (JM (JG 2) JH) (Uw (JM (JG 2) JH) (JM (JG 3) JH))))))) (XO (JG 0) (X3 (Uw (JG 1) JH)) XQ))))))))⟩) (.a fun ds R X h=>?_)
 ·obtain⟨ps,p,rfl,hz,hR⟩:=h;refine⟨rfl,?_⟩;have hl:(ps.map prD).length=ps.length:=Ym ..;refine⟨ps,p,rfl,?_⟩;unfold uniE at hR;by_cases c:p<1\/(ps.length:Int)<=p
  ·rw[Yr c]at hR ⊢;exact hR
  ·rw[Yp c]at hR ⊢
   have e2:atI (ps.map prD) p=some (prD (atP1 ps (p+1))):=by
    have:=K7 (ps:=ps) (p:=p+1) (by omega) (by omega)
    rwa[show p+1-1=p by omega]at this
   refine⟨_,K7 (by omega) (by omega),_,e2,_,rfl,_,rfl,ite2 (fun g=>?_) (fun g=>?_)⟩
   ·have g':¬(atP1 ps p).1=(atP1 ps (p+1)).1:=fun z=>by rw[Yq z]at g;cases g
    rw[Yr g']at hR;exact⟨by simp,hR⟩
   ·have g':(atP1 ps p).1=(atP1 ps (p+1)).1:=YU fun z=>g (by rw[YA z];rfl);rw[Yp (fun z=>z g')]at hR;refine⟨_,rfl,_,rfl,ite2 (fun g2=>?_) (fun g2=>?_)⟩
    ·rw[Yr (Yu g2)]at hR;exact⟨by decide,by decide,by decide,by decide,by decide,by simp,hR⟩
    ·rw[Yp (fun z=>g2 (Yq z))]at hR;have l1:(cutD (ps.map prD) none (some (p-1))).length<=1000:=by have:=(KD (ps.map prD) none (some (p-1))).length_le;rw[Ym]at this;omega
     have l2:(cutD (ps.map prD) (some (p+1)) none).length<=1000:=by have:=(KD (ps.map prD) (some (p+1)) none).length_le;rw[Ym]at this;omega
     refine⟨Kw _,_,rfl,_,rfl,_,rfl,by simp,by simp,rfl,rfl,Y4 (YX l1 (Yy 1)) (by decide),Kw _,rfl,rfl,Y4 (YX (by rw[Yw];exact YX l1 (Yy 1)) l2) (by decide),?_⟩;rw[←Co (by omega)]at hR;exact hR
def Lb(G:Glob K mg)(DD:Def K mg "with_wish" BI ["wishes","ahead","behind"])(Zj:Sf P w K mg base)
  : GL P w K mg base:=by
 refine DD.ox (k:=1) Zeq (fun _ _ _ _ _ _ E hr=>⟨_,(JJ (U9 (Xs Zj (hr.mono (by decide)) ExcR.UO (az (pv 1)))) (JJ (U9 (Xs Zj (hr.mono (by decide)) ExcR.UO (az (pv 2)))) (JJ (JV (cq K hr (pv 1) (pv 2)) (JL (ExcR.Xw G.g_LikeHolders.c G.m_LikeHolders ExcR.Xo rfl (az U0)))
   JW) (JJ (JV (Ui (Ke (K:=K) (show _<cLine from UC hr)) (Up (bz (pv 1) (pv 2))) (pv 0) (by with_unfolding_all rfl)) (JL (ExcR.Xw G.g_WishStands.c G.m_WishStands ExcR.Xo rfl (az U0)))
   JW) (JJ (JV (Ui P3 (ln K G.len (pv 0)) (ExcR.XF G.MOST_WISHES) (Ul _)) (JL (ExcR.Xw G.g_TooManyWishes.c G.m_TooManyWishes ExcR.Xo rfl (az (ExcR.pe_f (ExcR.XY (ExcR.Po (ExcR.XF G.MOST_WISHES) (ExcR.XY ExcR.Pk)))))))
   JW) (JL (JQ (JO Xr (pv 0) (Ug (az (Up (bz (pv 1) (pv 2))))))))))))), (JK (Xx (X7 (sz (JG 1)))) (JK (Xx (X7 (sz (JG 2)))) (JK (JZ (JT (Ur (JG 1) (JG 2))) (Xt (sz U1)) JX) (JK (JZ (JT (Xy (Uq (tz (JG 1) (JG 2))) (JG 0))) (Xt (sz U1)) JX) (JK (JZ (JT (Te (U2 (sz (JG 0))) JH)) (Xt (sz (se_f (Kd (Px JH (Kd Pp)))))) JX) (Uc 2 (Uc 1 (JY (Xn (JG 0) (Ue (sz (Uq (tz (JG 1) (JG 2))))))))))))))⟩) (.a fun ds R X h=>?_)
 ·obtain⟨ws,a,b,rfl,hz,hR⟩:=h;refine⟨rfl,?_⟩;have hl:(ws.map prD).length=ws.length:=Ym ..;unfold UM at hR;refine⟨a,rfl,?_⟩;unfold PM;by_cases c1:1<=a/\a<=10
  ·rw[Yp (fun z=>z c1)]at hR;rw[Yr c1];refine⟨b,rfl,?_⟩;unfold PM;by_cases c2:1<=b/\b<=10
   ·rw[Yp (fun z=>z c2)]at hR;rw[Yr c2];refine ite2 (fun g=>?_) (fun g=>?_)
    ·rw[Yr (Yu g)]at hR;exact⟨by simp,hR⟩
    ·rw[Yp (fun z=>g (Yq z))]at hR;refine⟨by simp,_,.lp (a,b) ws,ite2 (fun g2=>?_) (fun g2=>?_)⟩
     ·rw[Yr (Yu g2)]at hR;exact⟨by simp,hR⟩
     ·rw[Yp (fun z=>g2 (Yq z))]at hR;refine ite2 (fun g3=>?_) (fun g3=>?_)
      ·have g3':(20:Int)<=((ws.map prD).length:Int):=Yu g3;rw[Yr (by omega)]at hR;exact⟨by decide,by decide,by decide,by decide,by decide,by simp,hR⟩
      ·have g3':¬(20:Int)<=((ws.map prD).length:Int):=fun z=>g3 (Yq z);rw[Yp (by omega)]at hR;refine⟨by simp,by simp,Kw _,rfl,Y4 (YX (Y4 (WG hl) hz) (Yy 1)) (by decide),?_⟩;rw[Y8]at hR;exact hR
   ·rw[Yr c2]at hR;rw[Yp c2];exact hR
  ·rw[Yr c1]at hR;rw[Yp c1];exact hR
def LR(G:Glob K mg)(DD:Def K mg "pair_costs" A3 ["strips"])(Zi:Nw P w K mg base)(Zz:Ct P w K mg base)
  : Bi P w K mg base:=by
 refine DD.oz (k:=1) Nm (fun _ _ _ _ _ _ E hr=>⟨_,(JJ (Pu.pz 1 Nm.nd (fz Zi hr (az (pv 0)))) (JJ (Pu.pz 2 Nm.nd RF) (JJ (UF YH rfl (Uu (K:=K) (pv 1)) (gz 3 Nm.nd) (JL (UF YH rfl (Uu (K:=K) (pv 1)) (gz 4 Nm.nd) (JL (B9 (UC hr) (pv 2) (Up (bz (pv 3) (pv 4))) (fz Zz hr (dz (pv 0) (pv 3) (pv 4))) rfl))))) (JL (JQ (pv 2)))))), (JK (JS (Ub (sz (JG 0))) (JN 1)) (JK (JS Mp (JN 2)) (JK (Uc 1 (UD [3,4] (Xj (JG 1)) (JN 3) (Uc 1 (UD [4] (Xj (JG 1)) (JN 4) (Uc 4 (Uc 3 (BD 2 (Uq (tz (JG 3) (JG 4))) (Ub (uz (JG 0) (JG 3) (JG 4)))))))))) (XA 2))))⟩) (.a fun ds R X h=>?_)
 ·obtain⟨ps,rfl,hF,hz,hR⟩:=h;refine⟨rfl,?_⟩;refine⟨ps,rfl,hF,hz,?_⟩;have hh:=Py ps;generalize Uh ps=hs at hh hR ⊢
  refine⟨rfl,Xk (xs:=hs) (emb:=D.int) (fun i γ'=>∃kvs:List (List Key×V),γ'=[some (.bor (.lst (ps.map prD))),some (.sh (.lst (hs.map D.int))),some (.own (.dT kvs)),none,none]/\kvs.length<=i*10/\
   ∀x∈hs.take i,∀y∈hs,valV kvs [.inl x,.inl y]=some (.int (pcM ps x y ps.length))) ⟨[],rfl,by simp,by simp⟩ ?_ ?_⟩
  ·rintro i hi γ' ⟨kvs,rfl,hl,hv⟩
   refine⟨rfl,Xk (xs:=hs) (emb:=D.int) (fun j γ'=>∃kvs:List (List Key×V),γ'=[some (.bor (.lst (ps.map prD))),some (.sh (.lst (hs.map D.int))),some (.own (.dT kvs)),some (.sh (.int hs[i])),none]/\kvs.length<=i*10+j/\
    (∀x∈hs.take i,∀y∈hs,valV kvs [.inl x,.inl y]=some (.int (pcM ps x y ps.length)))/\∀y∈hs.take j,valV kvs [.inl hs[i],.inl y]=some (.int (pcM ps hs[i] y ps.length))) ⟨kvs,rfl,by omega,hv,by simp⟩ ?_ ?_⟩
   ·rintro j hj γ' ⟨kvs,rfl,hl,hv,hw⟩;refine⟨ps,_,_,rfl,hF,by simp,_,_,rfl,rfl,by omega,_,rfl,Y4 (NU _ _ _) (by omega),fun x hx y hy=>?_,fun y hy=>?_⟩
    ·rw[Sz];by_cases e:([.inl x,.inl y]:List Key)=[.inl hs[i],.inl hs[j]]
     ·rw[Yr e];simp only[Qq,Sum.inl.injEq,and_true]at e;rw[e.1,e.2]
     ·rw[Yp e];exact hv x hx y hy
    ·rw[Sz];by_cases e:([.inl hs[i],.inl y]:List Key)=[.inl hs[i],.inl hs[j]]
     ·rw[Yr e];simp only[Qq,Sum.inl.injEq,and_true]at e;rw[e.2]
     ·rw[Yp e];rw[YY hj,YG,Yx]at hy;rcases hy with hy|hy
      ·exact hw y hy
      ·subst hy;exact absurd rfl e
   ·rintro γ' ⟨kvs,rfl,hl,hv,hw⟩;rw[WB]at hw;refine⟨kvs,rfl,by omega,fun x hx y hy=>?_⟩;rw[YY hi,YG,Yx]at hx;rcases hx with hx|hx
    ·exact hv x hx y hy
    ·subst hx;exact hw y hy
  ·rintro γ' ⟨kvs,rfl,hl,hv⟩;rw[WB]at hv;exact hR kvs hv
def Ip(G:Glob K mg)(DD:Def K mg "cost_with_last" Bt ["members","last","least","pairs"])(Zk:S9 P w K mg base)
  : AF P w K mg base:=by
 refine DD.oz (k:=1) Hl (fun _ _ _ _ _ _ E hr=>⟨_,(JJ (Pu.pz 4 Hl.nd (fz Zk hr (bz (pv 0) (pv 1)))) (JL (JQ (JO Ux (Tu (UC hr) (pv 2) (pv 4) (fun _ _=>rfl)) (UV (S4 (K:=K) rfl) (by rfl) G.sum boot_sum (az (Xa (N':=["other","pairs","last"]) (φ:=[none,some 3,some 1]) rfl (Own.CompOk.of (by rfl)) (Tr (K:=K) (pv 4)) (fun _ _ _ _ _=>⟨(gz 0 (show(["other","pairs","last"]:List Str).Nodup from by decide +kernel)),Xq,(Tu (UC hr) (pv 1) (Up (bz (pv 0) (pv 2))) (fun _ _=>rfl))⟩)))))))), (JK (JS (Ub (tz (JG 0) (JG 1))) (JN 4)) (Uc 1 (JY (Uw (Nr (JG 2) (JG 4)) (SE (sz (U8 (SndI.c (TR (JG 4))) (JN 0) Xz (Nr (JG 1) (Uq (tz (JG 0) (JG 2)))))))))))⟩) (.a fun ds R X h=>?_)
 ·obtain⟨ms,l,le,pa,c,v,rfl,hz,hv,hc,hR⟩:=h;refine⟨rfl,?_⟩;rw[Nh];have hz':(Ua ms l).length<=1000:=Y4 less_sub.length_le hz;refine⟨ms,l,rfl,hz,_,_,NT _,hv,rfl,_,rfl,UH (s:=.sh .non) (xs:=Ua ms l) (emb:=D.int) (fun m=>some (.int (c m))) (by omega) (fun m hm=>?_) ?_⟩
  ·exact⟨by simp,_,_,rfl,hc m hm,rfl,_,rfl,rfl⟩
  ·rw[mapD];exact⟨(Ua ms l).map c,by rw[YR];rfl,hR⟩
def Zdv(G:Glob K mg)(DD:Def K mg "cost_with_first" As ["members","first","least","pairs"])(Zk:S9 P w K mg base)
  : Cm P w K mg base:=by
 refine DD.oz (k:=1) Cu (fun _ _ _ _ _ _ E hr=>⟨_,(JJ (Pu.pz 4 Cu.nd (fz Zk hr (bz (pv 0) (pv 1)))) (JL (JQ (JO Ux (Tu (UC hr) (pv 2) (pv 4) (fun _ _=>rfl)) (UV (S4 (K:=K) rfl) (by rfl) G.sum boot_sum (az (Xa (N':=["other","pairs","first"]) (φ:=[none,some 3,some 1]) rfl (Own.CompOk.of (by rfl)) (Tr (K:=K) (pv 4)) (fun _ _ _ _ _=>⟨(gz 0 (show(["other","pairs","first"]:List Str).Nodup from by decide +kernel)),Xq,(Tu (UC hr) (pv 1) (Up (bz (pv 2) (pv 0))) (fun _ _=>rfl))⟩)))))))), (JK (JS (Ub (tz (JG 0) (JG 1))) (JN 4)) (Uc 1 (JY (Uw (Nr (JG 2) (JG 4)) (SE (sz (U8 (SndI.c (TR (JG 4))) (JN 0) Xz (Nr (JG 1) (Uq (tz (JG 2) (JG 0)))))))))))⟩) (.a fun ds R X h=>?_)
 ·obtain⟨ms,l,le,pa,c,v,rfl,hz,hv,hc,hR⟩:=h;refine⟨rfl,?_⟩;rw[Nh];have hz':(Ua ms l).length<=1000:=Y4 less_sub.length_le hz;refine⟨ms,l,rfl,hz,_,_,NT _,hv,rfl,_,rfl,UH (s:=.sh .non) (xs:=Ua ms l) (emb:=D.int) (fun m=>some (.int (c m))) (by omega) (fun m hm=>?_) ?_⟩
  ·exact⟨by simp,_,_,rfl,hc m hm,rfl,_,rfl,rfl⟩
  ·rw[mapD];exact⟨(Ua ms l).map c,by rw[YR];rfl,hR⟩
def Zas(G:Glob K mg)(DD:Pu.DefM K (Meth K (ExcR.JP mg "Village") "drop") "drop" "Village.drop" F9 ["self","ahead","behind"])(Ze:PZ P w K mg base)(Z0:GB P w K mg base)(Zf:P5 P w K mg base)(Zb:K5 P w K mg base)(Zc:K9 P w K mg base)
  : GD P w K mg base:=by
 refine DD.ox (k:=1) Cz (fun _ _ _ _ _ _ E hr=>⟨_,(JJ (U9 (UB Ze G.cl_Village (hr.mono (by decide)) ExcR.UO (pv 0))) (JJ (Pu.pz 3 Cz.nd (Xs Z0 (hr.mono (by decide)) ExcR.UO (dz (UB Zb G.cl_Village (hr.mono (by decide)) UI (pv 0)) (pv 1) (pv 2)))) (JL (JQ (Ku Zf G.cl_Village (hr.mono (by decide)) UI (pv 0) (dz (Up (dz U0 (pv 1) (pv 2))) (UB Zc G.cl_Village (hr.mono (by decide)) UI (pv 0)) (pv 3))))))), (JK (Xx (T4 TX (JG 0) Uj)) (JK (JS (X7 (uz (Xf KW (JG 0) Uj) (JG 1) (JG 2))) (JN 3)) (Uc 2 (Uc 1 (Uc 3 (Kg (P6 0 TB (uz (Uq (uz U1 (JG 1) (JG 2))) (Xf KR (JG 0) Uj) (JG 3)))))))))⟩) (.c fun o ss R X h=>?_)
 ·obtain⟨x,b1,b2,b3,bk,fs,ws,f,w,p,h,rfl,rfl,hb,hf,hw,hz,hR⟩:=h;refine⟨rfl,?_⟩;unfold NI at hR;refine⟨rfl,rfl,bk,fs++[f],ws++[w],rfl,?_⟩;unfold Pi;by_cases c:100<=bk.length
  ·rw[Yr c]at hR ⊢;exact⟨_,rfl,⟨rfl,by simp⟩,hR⟩
  ·rw[Yp c]at hR ⊢;refine⟨rfl,rfl,bk,fs++[f],ws,w,rfl,w,p,h,rfl,hz,?_⟩;cases e:UN w p h with
   |some c=>
    rw[e]at hR;exact⟨_,rfl,⟨rfl,by simp⟩,hR⟩
   |none=>
    rw[e]at hR;refine⟨rfl,rfl,by simp,rfl,rfl,bk,fs,ws++[w],f,rfl,?_⟩;exact⟨x,b1,b2,b3,bk,fs++[f],ws++[w],("drop",[p,h]),f,Kn w p h,rfl,rfl,hb,by rw[Yw];simp;omega,by rw[Yw];simp;omega,_,rfl,⟨rfl,by simp⟩,hR⟩
def HL(G:Glob K mg)(DD:Def K mg "_law_draw" BH ["_law_script","_law_k"])(Zh:Nj P w K mg base)(Zd:Tc P w K mg base)
  : AN P w K mg base:=by
 refine DD.oz (k:=1) Zcf (fun _ _ _ _ _ _ E hr=>⟨_,(JJ (JV (cq K hr (JO Ut (fz Zd hr (bz (pv 0) JI)) JI) JI) (JL (JQ (fz Zd hr (bz (pv 0) (JO Ux JI (pv 1))))))
   JW) (JL (JQ (fz Zh hr (bz (fz Zd hr (bz (pv 0) JI)) (pv 1)))))), (JK (JZ (JT (Ur (Us (Ub (tz (JG 0) JH)) JH) JH)) (JY (Ub (tz (JG 0) (Uw JH (JG 1))))) JX) (JY (Ub (tz (Ub (tz (JG 0) JH)) (JG 1)))))⟩) (.a fun ds R X h=>?_)
 ·obtain⟨ns,k,rfl,hk,hR⟩:=h;refine⟨rfl,?_⟩;refine⟨ns,0,rfl,by decide,(by show(0:Int)<2;decide),ite2 (fun _=>?_) (fun _=>?_)⟩
  ·exact⟨ns,_,rfl,by omega,hR _⟩
  ·exact⟨ns,1,rfl,by decide,_,_,rfl,hR _⟩
def Zc9(G:Glob K mg)(DD:Def K mg "_law_row" FK ["_law_found","_law_due"])(Zl:NH P w K mg base)
  : DQ P w K mg base:=by
 refine DD.oz (k:=1) AW (fun _ _ _ _ _ _ E hr=>⟨_,(JJ (JV (PW.pt (Xl (Xi (UL (K:=K) (UV (Nc (K:=K)) (by rfl) G.isinstance QD (bz (pv 0) (TL (v:=.ty "list") rfl G.list boot_list rfl))))) (Xu (cn K hr (ln K G.len (pv 0)) (ln K G.len (pv 1)))))) (JL (JQ UE))
   JW) (JJ (UF YH rfl (Kq rfl G.range (az (ln K G.len (pv 1)))) (gz 2 AW.nd) (JL (JV (PW.pt (Xl (Xi (UL (K:=K) (fz Zl hr (az (jx K (pv 0) (pv 2)))))) (Xu (cn K hr (jx K (pv 0) (pv 2)) (jx K (pv 1) (pv 2)))))) (JL (JQ UE))
   JW))) (JL (JQ UE)))), (JK (JZ (Xm (XM (Xb (Nl (tz (JG 0) T7)))) (JT (KJ (U2 (sz (JG 0))) (U2 (sz (JG 1)))))) (JY UG) JX) (JK (UD [2] (Kv (sz (U2 (sz (JG 1))))) (JN 2) (JZ (Xm (XM (Xb (Ub (sz (JM (JG 0) (JG 2)))))) (JT (KJ (JM (JG 0) (JG 2)) (JM (JG 1) (JG 2))))) (JY UG) JX)) (JY UG)))⟩) (.a fun ds R X h=>?_)
 ·obtain⟨xs,rfl,hz,hR⟩:=h;refine⟨rfl,?_⟩;have hl:(xs.map D.int).length=xs.length:=Ym ..;refine⟨_,.same _,iteF (Ag rfl ?_)⟩;refine⟨⟨by omega,by omega⟩,KY (fun i γ'=>γ'=[some (.bor (.lst (xs.map D.int))),some (.bor (.lst (xs.map D.int))),none]) rfl ?_ ?_⟩
  ·rintro i γ' hi rfl;have hi':i<(((xs.map D.int).length:Nat):Int).toNat:=hi;have ez:(0:Int)+(i:Int)=(i:Int):=by omega
   have hb:i<xs.length:=by omega
   have ha:atI (xs.map D.int) (0+(i:Int))=some (.int xs[i]):=by rw[ez];exact Kc hb
   exact⟨_,ha,_,rfl,iteF ⟨_,ha,_,ha,Ag rfl rfl⟩⟩
  ·rintro γ' rfl;exact hR
def Om(G:Glob K mg)(DD:Def K mg "_law_shows" FG ["_law_told","_law_holders","_law_costs","_law_wants_here"])(Zl:NH P w K mg base)(Z1:CD P w K mg base)
  : G7 P w K mg base:=by
 refine DD.oz (k:=1) Af (fun _ _ _ _ _ _ E hr=>⟨_,(JJ (JV (PW.pt (Xl (Xi (UL (K:=K) (UV (Nc (K:=K)) (by rfl) G.isinstance QD (bz (pv 0) (TL (v:=.ty "list") rfl G.list boot_list rfl))))) (Xu (cn K hr (ln K G.len (pv 0)) (JO TU JI (ln K G.len (pv 1))))))) (JL (JQ UE))
   JW) (JJ (UF YH rfl (Uu (K:=K) (pv 0)) (gz 4 Af.nd) (JL (JV (Xi (UL (K:=K) (fz Zl hr (az (pv 4))))) (JL (JQ UE))
   JW))) (JJ (JV (cn K hr (jx K (pv 0) JI) JI) (JL (JQ UE))
   JW) (JJ (UF YH rfl (D7 rfl G.range (bz JI (ln K G.len (pv 0)))) (gz 5 Af.nd) (JL (JV (Xi (UL (K:=K) (fz Z1 hr (JU (pv 0) (JU (pv 2) (JU (pv 3) (JU (pv 5) Uv))))))) (JL (JQ UE))
   JW))) (JL (JQ UE)))))), (JK (JZ (Xm (XM (Xb (Nl (tz (JG 0) T7)))) (JT (KJ (U2 (sz (JG 0))) (Nq JH (U2 (sz (JG 1))))))) (JY UG) JX) (JK (Uc 0 (UD [4] (Xj (JG 0)) (JN 4) (JZ (XM (Xb (Ub (sz (JG 4))))) (JY UG) JX))) (JK (JZ (JT (KJ (JM (JG 0) JH) JH)) (JY UG) JX) (JK (UD [5] (Er (tz JH (U2 (sz (JG 0))))) (JN 5) (JZ (XM (Xb (Ub (Ud (JG 0) (Ud (JG 2) (Ud (JG 3) (Ud (JG 5) Uj))))))) (JY UG) JX)) (JY UG)))))⟩) (.a fun ds R X h=>?_)
 ·obtain⟨ps,ws,hs,vs,wn,rfl,nd,hz,hu,hL,hT,hW,hR⟩:=h;refine⟨rfl,?_⟩;have lv:vs.length=2 ^ hs.length:=hT.1.trans (XB hs);have lvm:(vs.map D.int).length=vs.length:=Ym ..;have lh:(hs.map D.int).length=hs.length:=Ym ..;have p10:2 ^ hs.length<=1024:=W1 (j:=10) (by decide) hz;have p0:0<2 ^ hs.length:=Nat.pow_pos (by decide);refine⟨true,.same _,iteF ⟨⟨by omega,by omega,by decide⟩,Ag ?_ ?_⟩⟩
  ·rw[lvm,lv,V2,YB,lh,Qs];rfl
  refine⟨rfl,Xk (xs:=vs) (emb:=D.int) (fun i γ'=>γ'=[some (.bor (.lst (vs.map D.int))),some (.bor (.lst (hs.map D.int))),some (.bor (Kp ps hs)),some (.bor (.lst (wn.map natD))),none,none]) rfl ?_ ?_⟩
  ·rintro i hi γ' rfl;exact⟨_,rfl,iteF rfl⟩
  rintro γ' rfl
  have h00:vs.getD 0 0=0:=by
   have L:=hT.2 0 _ (vs.getD 0 0) (Pj hs 0 p0) (by rw[Yo,Yl (show 0<vs.length by omega)];rfl);have e:insM hs 0=[]:=by unfold insM insN;simp
   rw[e]at L;obtain⟨o,o1,_,o3⟩:=L.is;rw[List.perm_nil.mp o1]at o3;exact o3.symm
  have a0:atI (vs.map D.int) 0=some (.int 0):=by
   have h:=Kc (f:=D.int) (xs:=vs) (i:=0) (by omega);rw[Yo,Yl (show 0<vs.length by omega)]at h00;rw[show vs[0]=0 from h00]at h
   exact h
  refine⟨_,a0,?_⟩;refine⟨⟨by decide,by decide,by omega,by omega⟩,KY (fun i γ'=>γ'=[some (.bor (.lst (vs.map D.int))),some (.bor (.lst (hs.map D.int))),some (.bor (Kp ps hs)),some (.bor (.lst (wn.map natD))),none,none]) rfl ?_ ?_⟩
  ·rintro i γ' hi rfl;have hi':i<((((vs.map D.int).length:Nat):Int)-1).toNat:=hi;have ez:(1:Int)+(i:Int)=((i+1:Nat):Int):=by omega
   refine⟨ps,ws,hs,vs,wn,i+1,by rw[ez];rfl,nd,hz,hu,hL,hT,hW,by omega,by omega,iteF rfl⟩
  ·rintro γ' rfl;exact hR
def Zdh(G:Glob K mg)(DD:Def K mg "_law_first" BQ ["_law_order","_law_told","_law_holders","_law_costs","_law_wants_here"])(Z2:GU P w K mg base)
  : D9 P w K mg base:=by
 refine DD.oz (k:=1) Tv (fun _ _ _ _ _ _ E hr=>⟨_,(JJ (Pu.pz 5 Tv.nd (JO UW (ln K G.len (pv 1)) JI)) (JJ (UF YH rfl (Uu (K:=K) (pv 0)) (gz 6 Tv.nd) (JJ (Pu.pz 7 Tv.nd (Np (K:=K) YJ W7 WN (TJ (K:=K)) (pv 2) (az (pv 6)))) (JJ (JV (Xi (UL (K:=K) (fz Z2 hr (JU (pv 1) (JU (pv 3) (JU (pv 4) (JU (pv 5) (JU (pv 7) Uv)))))))) (JL (JQ UE))
   JW) (JL (Pu.pz 5 Tv.nd (JO UW (pv 5) (JO TU JI (pv 7)))))))) (JL (JQ UE)))), (JK (JS (UY (U2 (sz (JG 1))) JH) (JN 5)) (JK (Uc 0 (UD [6,7] (Xj (JG 0)) (JN 6) (JK (JS (TN (JG 2) (sz (JG 6))) (JN 7)) (JK (JZ (XM (Xb (Ub (Ud (JG 1) (Ud (JG 3) (Ud (JG 4) (Ud (JG 5) (Ud (JG 7) Uj)))))))) (JY UG) JX) (JS (UY (JG 5) (Nq JH (JG 7))) (JN 5)))))) (JY UG)))⟩) (.a fun ds R X h=>?_)
 ·obtain⟨ps,ws,hs,vs,o,wn,rfl,hri,hz,hu,hT,hW,hB,hR⟩:=h;refine⟨rfl,?_⟩;have nd:hs.Nodup:=hri.imp (fun h=>QK h);have lv:vs.length=2 ^ hs.length:=hT.1.trans (XB hs);have lvm:(vs.map D.int).length=vs.length:=Ym ..;have p10:2 ^ hs.length<=1024:=W1 (j:=10) (by decide) hz;have p0:0<2 ^ hs.length:=Nat.pow_pos (by decide);have ol:=hB.perm.length_eq;have em:((((vs.map D.int).length:Nat):Int)-1)=((2 ^ hs.length-1:Nat):Int):=by omega
  refine⟨rfl,Xk (xs:=o) (emb:=D.int) (fun i γ'=>∃m:Nat,m<2 ^ hs.length/\Best ws (fun x y=>pcM ps x y ps.length) (insM hs m) (o.drop i)/\γ'=[some (.bor (.lst (o.map D.int))),some (.bor (.lst (vs.map D.int))),some (.bor (.lst (hs.map D.int))),some (.bor (Kp ps hs)),some (.bor (.lst (wn.map natD))),some (.sh (.int m)),none,none]) ⟨2 ^ hs.length-1,by omega,by rw[M4];exact hB,?_⟩ ?_ ?_⟩
  ·show _=[_,_,_,_,_,some (S.sh (.int ((2 ^ hs.length-1:Nat):Int))),_,_];rw[←em];rfl
  ·rintro i hi γ' ⟨m,hm,hBi,rfl⟩;rw[QA hi]at hBi;generalize o[i]=f at hBi ⊢;have at_:∀k,k<vs.length->vs[k]?=some (vs.getD k 0):=fun k hk=>by rw[Yo,Yl hk];rfl
   have idx:∀j,j<hs.length->hs.idxOf (hs.getD j 0)=j:=fun j hj=>by
    rw[Yo,Yl hj];exact nd.idxOf_getElem j hj
   have hV:=hT.2 m _ _ (Pj hs m hm) (at_ m (by omega))
   have hv:∀l∈insM hs m,Least ws (fun x y=>pcM ps x y ps.length) (Ua (insM hs m) l) ((fun l=>vs.getD (m-2 ^ hs.idxOf l) 0) l):=fun l h=>by
    obtain⟨j,hj,hb,rfl⟩:=insM_mem.mp h;show Least _ _ _ (vs.getD (m-2 ^ hs.idxOf (hs.getD j 0)) 0);rw[idx j hj];exact hT.2 _ _ _ (Aq hs nd m j hm hj hb) (at_ _ (by rw[lv];exact Wp (QO _ _) hm))
   obtain⟨b1,b2,b3,b4,b5⟩:=Za6 (NA nd m) hu hv hV hBi;obtain⟨s,hs1,hs2,rfl⟩:=insM_mem.mp b1;have hge:=WE hs2;simp only[idx s hs1]at b3;refine⟨⟨_,rfl⟩,hs,rfl,Nn hs1,?_⟩;rw[idx s hs1];refine⟨ps,ws,hs,vs,wn,m,s,rfl,nd,hz,lv,hW,hm,hs1,hs2,b2,b3,fun j hj hb h1 h2=>?_,iteF ?_⟩
   ·have:=b4 (hs.getD j 0) (insM_mem.mpr ⟨j,hj,hb,rfl⟩) h1 (by simp only[idx j hj];exact h2)
    rcases Q0 j s with c|c
    ·have:=IG hri hj hs1 c
     omega
    ·exact c
   refine⟨⟨by omega,by omega,by decide⟩,m-2 ^ s,Wp (QO _ _) hm,by rw[Iy nd hm hs1 hs2];exact b5,?_⟩
   have e2:((m:Int)-1*2 ^ ((s:Nat):Int).toNat)=((m-2 ^ s:Nat):Int):=by
    rw[V2,YB,Int.natCast_sub hge,Qs];rfl
   rw[←e2];rfl
  ·rintro γ' ⟨m,hm,hBi,rfl⟩;exact hR
def Ro(G:Glob K mg)(DD:Def K mg "_law_step" BV ["_law_now","_law_deed_here"])(Z3:D8 P w K mg base)(Z4:Ca P w K mg base)
  : AO P w K mg base:=by
 refine DD.oz (k:=1) FA (fun _ _ _ _ _ _ E hr=>⟨_,(JJ (JV (PW.pt (Xl (cq K hr (jx K (pv 1) JI) U0) (Xu (cq K hr (jx K (pv 1) JI) U0)))) (JJ (Pu.pz 2 FA.nd (fz Z4 hr (bz (jx K (pv 0) JI) (pv 1)))) (JL (JQ (Ug (dz (jx K (pv 2) JI) (jx K (pv 0) JI) (jx K (pv 2) JI))))))
   JW) (JJ (Pu.pz 2 FA.nd (fz Z3 hr (bz (jx K (pv 0) JI) (pv 1)))) (JL (JQ (Ug (dz (jx K (pv 2) JI) (jx K (pv 2) JI) (jx K (pv 0) JI))))))), (JK (JZ (Xm (JT (Ur (JM (JG 1) JH) U1)) (JT (Ur (JM (JG 1) JH) U1))) (JK (Uc 1 (JS (SQ (tz (JM (JG 0) JH) (JG 1))) (JN 2))) (JY (Ue (uz (JM (JG 2) JH) (JM (JG 0) JH) (JM (JG 2) JH))))) JX) (JK (Uc 1 (JS (SQ (tz (JM (JG 0) JH) (JG 1))) (JN 2))) (JY (Ue (uz (JM (JG 2) JH) (JM (JG 2) JH) (JM (JG 0) JH))))))⟩) (.b fun ds R X h=>?_)
 ·obtain⟨f,w,ds,x,rfl,hz,hw,hR⟩:=h;refine⟨rfl,?_⟩;have at1:atI (plD f::plD w::ds) 1=some (plD w):=Tn (by decide) rfl
  have land:∀x:Dd,x.land=true->R (.own [.int (codeN (x.err f w)),plD (x.nf f w),plD (x.nw f w)])->R (.own [.int (codeN (x.err f [])),plD (x.fld' f),plD w]):=fun x h k=>by
   have e:=x.err_land h f w [];have e2:x.wsh w=w:=by cases x<;>first|rfl|cases h
   unfold Dd.nf Dd.nw at k;rw[e2,e,ite_self]at k;unfold Dd.fld';exact k
  have wish:∀x:Dd,x.land=false->R (.own [.int (codeN (x.err f w)),plD (x.nf f w),plD (x.nw f w)])->R (.own [.int (codeN (x.err [] w)),plD f,plD (x.wsh' w)]):=fun x h k=>by
   have e:=x.err_wish h f [] w;have e2:x.fld f=f:=by cases x<;>first|rfl|cases h
   unfold Dd.nf Dd.nw at k;rw[e2,e,ite_self]at k;unfold Dd.wsh';exact k
  cases x with
  |sell p h=>exact⟨_,rfl,_,rfl,_,X9 _ _,f,.sell p h,rfl,rfl,hz,_,rfl,_,rfl,_,at1,by simp,land _ rfl hR⟩
  |part p h=>exact⟨_,rfl,_,rfl,_,X9 _ _,f,.part p h,rfl,rfl,hz,_,rfl,_,rfl,_,at1,by simp,land _ rfl hR⟩
  |unite p=>exact⟨_,rfl,_,rfl,_,X9 _ _,f,.unite p,rfl,rfl,hz,_,rfl,_,rfl,_,at1,by simp,land _ rfl hR⟩
  |wish a b=>exact⟨_,rfl,_,at1,w,.wish a b,rfl,rfl,hw,_,rfl,_,X9 _ _,_,rfl,by simp,wish _ rfl hR⟩
  |drop a b=>exact⟨_,rfl,_,rfl,_,at1,w,.drop a b,rfl,rfl,hw,_,rfl,_,X9 _ _,_,rfl,by simp,wish _ rfl hR⟩
def Zca(G:Glob K mg)(DD:Def K mg "_law_start" Bz ["_law_script","_law_menu_here","_law_many"])(Zd:Tc P w K mg base)(Zh:Nj P w K mg base)(Zg:Tt P w K mg base)
  : CW P w K mg base:=by
 refine DD.oz (k:=1) Pd (fun _ _ _ _ _ _ E hr=>⟨_,(JJ (Pu.pz 3 Pd.nd (fz Zd hr (bz (pv 0) JI))) (JJ (Pu.pz 4 Pd.nd (Ug Uv)) (JJ (UF YH rfl (Kq rfl G.range (az (pv 2))) (gz 5 Pd.nd) (JJ (Pu.pz 6 Pd.nd (pv 3)) (Nt (JV (cq K hr (JO Ut (fz Zd hr (bz (pv 0) JI)) JI) JI) (JL (Pu.pz 6 Pd.nd (fz Zh hr (bz (fz Zd hr (bz (pv 0) JI)) (JO Ux JI (pv 5))))))
   JW) (JJ (Pu.pz 7 Pd.nd (JO Ux (jx K (pv 1) JI) (JO Ut (JO UJ (pv 6) (jx K (pv 1) JI)) (jx K (pv 1) JI)))) (JJ (U9 (Kz YJ Wk Wl KA (pv 4) (az (Up (bz (fz Zg hr (bz (pv 1) (JO Ut (pv 6) (jx K (pv 1) JI)))) (pv 7)))))) (JL (Pu.pz 3 Pd.nd (JO UJ (JO UJ (pv 3) (jx K (pv 1) JI)) (jx K (pv 1) JI))))))))) (JL (JQ (pv 4)))))), (JK (JS (Ub (tz (JG 0) JH)) (JN 3)) (JK (JS (Ue Uj) (JN 4)) (JK (UD [5,6,7] (Kv (sz (JG 2))) (JN 5) (JK (Uc 3 (JS (JG 3) (JN 6))) (T9 (JZ (JT (Ur (Us (Ub (tz (JG 0) JH)) JH) JH)) (JS (Ub (tz (Ub (tz (JG 0) JH)) (Uw JH (JG 5)))) (JN 6)) JX) (JK (JS (Uw (JM (JG 1) JH) (Us (UK (JG 6) (JM (JG 1) JH)) (JM (JG 1) JH))) (JN 7)) (JK (Uc 7 (Na 4 (Uq (tz (Ub (tz (JG 1) (Us (JG 6) (JM (JG 1) JH)))) (JG 7))))) (JS (UK (UK (JG 3) (JM (JG 1) JH)) (JM (JG 1) JH)) (JN 3))))))) (XA 4))))⟩) (.a fun ds R X h=>?_)
 ·obtain⟨ns,m,n,rfl,hM,h0,h1,hR⟩:=h;refine⟨rfl,?_⟩;have hMM:=hM;obtain⟨a,b,c,d,e,rfl,ha,hb,hc,hd,he⟩:=hM;refine⟨ns,2,rfl,by decide,by simp,⟨by omega,by omega⟩,KY (fun i γ'=>∃(ps:List (Int×Int)) (r:Int),γ'=[some (.bor (.scr ns)),some (.bor (.lst (([a,b,c,d,e]:List Int).map D.int))),some (.sh (.int n)),some (.sh (.int r)),some (.own (ps.map prD)),none,none,none]/\Field ps/\ps.length=i) ⟨[],_,rfl,(fun q hq=>by cases hq),rfl⟩ ?_ ?_⟩
  ·rintro i γ' hi ⟨ps,r,rfl,hF,hl⟩;have hlm:(ps.map prD).length=ps.length:=Ym ..;have hi':i<n.toNat:=hi;refine Tp (fun γ'=>∃(v:Int) (t:Option S),γ'=[some (.bor (.scr ns)),some (.bor (.lst (([a,b,c,d,e]:List Int).map D.int))),some (.sh (.int n)),some (.sh (.int r)),some (.own (ps.map prD)),t,some (.sh (.int v)),none]) ?_ ?_
   ·refine⟨ns,0,rfl,by decide,(by show(0:Int)<2;decide),ite2 (fun _=>?_) (fun _=>⟨_,_,rfl⟩)⟩;exact⟨ns,1,rfl,by decide,_,_,rfl,_,_,rfl⟩
   ·rintro γ' ⟨v,t,rfl⟩;have q1:=Int.emod_nonneg (v / a) (show d≠0 by omega);have q2:=V7 (v / a) (show 0<d by omega);refine⟨_,rfl,_,rfl,⟨by omega,by omega⟩,_,rfl,(by show 0<d;omega),_,rfl,(by show 0<a;omega),[a,b,c,d,e],_,rfl,hMM,fun h l1 l2 _=>⟨by simp,by omega,?_⟩⟩;refine⟨_,rfl,⟨by omega,by omega⟩,_,rfl,⟨by omega,by omega⟩,ps++[(h,e+v / a % d)],r / a / d,?_,fun q hq=>?_,by rw[Yw,hl];rfl⟩
    ·rw[Y8];rfl
    ·rcases YG.mp hq with hq|hq
     ·exact hF q hq
     ·rw[Yx]at hq;subst hq;exact⟨l1,l2,by show 1<=e+v / a % d;omega,by show e+v / a % d<=1000;omega⟩
  ·rintro γ' ⟨ps,r,rfl,hF,hl⟩;exact hR ps hF hl
def On(G:Glob K mg)(DD:Def K mg "_law_days" SL ["_law_script","_law_most"])(Zh:Nj P w K mg base)(Zd:Tc P w K mg base)
  : Eg P w K mg base:=by
 refine DD.oz (k:=1) Zbe (fun _ _ _ _ _ _ E hr=>⟨_,(JJ (JV (cq K hr (JO Ut (fz Zd hr (bz (pv 0) JI)) JI) JI) (JL (JQ (XE (XC (K:=K)) (pv 0) (X0 JI) (X0 (JO Ux JI (pv 1))))))
   JW) (JL (JQ (Xa (N':=["_law_k","_law_script"]) (φ:=[none,some 0]) rfl (Own.CompOk.of (by rfl)) (Kq rfl G.range (az (JO Ut (fz Zd hr (bz (pv 0) JI)) (JO Ux (pv 1) JI)))) (fun _ _ _ _ _=>⟨(gz 0 (show(["_law_k","_law_script"]:List Str).Nodup from by decide +kernel)),Xq,(fz Zh hr (bz (fz Zd hr (bz (pv 1) JI)) (JO Ux JI (pv 0))))⟩))))), (JK (JZ (JT (Ur (Us (Ub (tz (JG 0) JH)) JH) JH)) (JY (La (JG 0) (X3 JH) (X3 (Uw JH (JG 1))))) JX) (JY (U8 (SndI.c (Kv (sz (Us (Ub (tz (JG 0) JH)) (Uw (JG 1) JH))))) (JN 0) Xz (Ub (tz (Ub (tz (JG 1) JH)) (Uw JH (JG 0)))))))⟩) (.a fun ds R X h=>?_)
 ·obtain⟨ns,n,rfl,h0,h1,hR⟩:=h;refine⟨rfl,?_⟩;refine⟨ns,0,rfl,by decide,(by show(0:Int)<2;decide),ite2 (fun _=>?_) (fun _=>?_)⟩
  ·refine hR _ ?_;unfold Pu.cutD;rw[Wj]
   have e3:HT.sIx ns.length 0 (some 3)=min 3 ns.length:=by
    rw[show(3:Int)=((3:Nat):Int) by rfl,HT.Sx]
   have e2:HT.sIx ns.length ns.length (some (3+n))=min (3+n).toNat ns.length:=by
    rw[show(3+n:Int)=(((3+n).toNat:Nat):Int) by omega,HT.Sx];rfl
   rw[e3,e2];omega
  ·refine⟨ns,2,rfl,by decide,(by show 0<n+1;omega),?_⟩;have q1:=Int.emod_nonneg (ns.getD (2:Int).toNat 0) (show n+1≠0 by omega);have q2:=V7 (ns.getD (2:Int).toNat 0) (show 0<n+1 by omega);refine⟨⟨by omega,by omega⟩,N0 (fun i=>some (.int (mixP (ns.getD (1:Int).toNat 0) (200+(0+(i:Int)))))) (by omega) (fun i hi=>⟨ns,1,rfl,by decide,_,_,rfl,_,rfl,rfl⟩) ?_⟩
   have e:(List.range (ns.getD (2:Int).toNat 0 % (n+1)).toNat).filterMap (fun i:Nat=>some (D.int (mixP (ns.getD (1:Int).toNat 0) (200+(0+(i:Int))))))=((List.range (ns.getD (2:Int).toNat 0 % (n+1)).toNat).map fun i:Nat=>mixP (ns.getD (1:Int).toNat 0) (200+(0+(i:Int)))).map D.int:=by
    rw[Qv,YR];rfl
   rw[e];refine hR _ ?_;rw[Ym,WJ];omega
def Of(G:Glob K mg)(DD:Def K mg "_law_pair" BE ["_law_cell","_law_menu_here"])(Zm:Bu P w K mg base)(Zg:Tt P w K mg base)
  : SY P w K mg base:=by
 refine DD.oz (k:=1) Tw (fun _ _ _ _ _ _ E hr=>⟨_,(JJ (Pu.pz 2 Tw.nd (jx K (Ug (JU JI (JU (jx K (pv 1) JI) (JU (jx K (pv 1) JI) (JU (jx K (pv 1) JI) Uv))))) (JO Ut (pv 0) JI))) (JJ (Pu.pz 3 Tw.nd (JO Ut (JO UJ (pv 0) JI) (pv 2))) (JJ (Pu.pz 4 Tw.nd (JO Ut (JO Ux (JO Ux (pv 3) JI) (JO Ut (JO UJ (pv 0) JI) (UV (GQ rfl) (by rfl) G.max boot_max (bz JI (JO UW (pv 2) JI))))) (pv 2))) (JJ (Pu.pz 5 Tw.nd (fz Zm hr (bz (JO UJ (pv 0) JI) (fz Zg hr (bz (pv 1) (pv 3)))))) (JL (JQ (Up (bz (pv 5) (fz Zm hr (bz (JO UJ (pv 0) JI) (fz Zg hr (bz (pv 1) (pv 4))))))))))))), (JK (JS (JM (Ue (Ud JH (Ud (JM (JG 1) JH) (Ud (JM (JG 1) JH) (Ud (JM (JG 1) JH) Uj))))) (Us (JG 0) JH)) (JN 2)) (JK (JS (Us (UK (JG 0) JH) (JG 2)) (JN 3)) (JK (JS (Us (Uw (Uw (JG 3) JH) (Us (UK (JG 0) JH) (G8 (tz JH (UY (JG 2) JH))))) (JG 2)) (JN 4)) (JK (JS (Ub (tz (UK (JG 0) JH) (Ub (tz (JG 1) (JG 3))))) (JN 5)) (Uc 5 (JY (Uq (tz (JG 5) (Ub (tz (UK (JG 0) JH) (Ub (tz (JG 1) (JG 4)))))))))))))⟩) (.a fun ds R X h=>?_)
 ·obtain⟨c,m,rfl,hM,hR⟩:=h;refine⟨rfl,?_⟩;have hMM:=hM;obtain⟨a,b,e,d,f,rfl,ha,hb,he,hd,hf⟩:=hM;have h4:0<=c % 4/\c % 4<4:=by omega
  obtain⟨pool,ep,hp⟩:∃p:Int,atI [D.int 10,.int a,.int a,.int a] (c % 4)=some (.int p)/\1<=p/\p<=10:=by
   have:c % 4=0\/c % 4=1\/c % 4=2\/c % 4=3:=by omega
   rcases this with e|e|e|e<;>rw[e]
   ·exact⟨10,rfl,by decide,by decide⟩
   ·exact⟨a,rfl,ha⟩
   ·exact⟨a,rfl,ha⟩
   ·exact⟨a,rfl,ha⟩
  have hmx:0<(if pool-1>1 then pool-1 else 1):=by split<;>omega
  refine⟨_,rfl,_,rfl,_,rfl,by simp,(by show(0:Int)<4;decide),_,ep,?_⟩;refine⟨⟨by decide,by decide⟩,(by show 0<pool;omega),⟨by decide,by decide⟩,hmx,(by show 0<pool;omega),?_⟩;refine⟨⟨by decide,by decide⟩,_,_,rfl,hMM,fun h1 _ _ _=>⟨_,_,rfl,fun v1=>?_⟩⟩;exact⟨⟨by decide,by decide⟩,_,_,rfl,hMM,fun h2 _ _ _=>⟨_,_,rfl,fun v2=>⟨by simp,hR v1 v2⟩⟩⟩
def Rl(G:Glob K mg)(DD:Def K mg "find_ring" BC ["holders","wishes"])(Z5:CU P w K mg base)
  : EB P w K mg base:=by
 refine DD.oz (k:=2) Tx (fun _ _ _ _ _ _ E hr=>⟨_,(JJ (Pu.pz 2 Tx.nd (Ug Uv)) (JJ (UF YH rfl (Uu (K:=K) (UV (Bp (K:=K) (w:=w) rfl) (by rfl) G.sorted boot_sorted (az (pv 0)))) (gz 3 Tx.nd) (JJ (Pu.pz 4 Tx.nd (fz Z5 hr (dz (pv 3) (pv 0) (pv 1)))) (JL (JV (PW.pt (Pn (UL (K:=K) (pv 4)) (PJ (PW.pt (Xl (Xi (UL (K:=K) (pv 2))) (Xu (Ui X1 (ln K G.len (pv 4)) (ln K G.len (pv 2)) (Ul _)))))))) (JL (Pu.pz 2 Tx.nd (pv 4)))
   JW)))) (JL (JQ (pv 2))))), (JK (JS (Ue Uj) (JN 2)) (JK (Uc 2 (UD [3,4] (Xj (Fd (sz (JG 0)))) (JN 3) (JK (JS (Ub (uz (JG 3) (JG 0) (JG 1))) (JN 4)) (JZ (Pl (Xb (JG 4)) (Xm (XM (Xb (JG 2))) (JT (X4 (U2 (sz (JG 4))) (U2 (sz (JG 2))))))) (Uc 4 (JS (JG 4) (JN 2))) JX)))) (Uc 2 (XA 2))))⟩) (.a fun ds R X h=>?_)
 ·obtain⟨hs,ws,rfl,hz,hN,hR⟩:=h;refine⟨rfl,?_⟩;refine⟨by simp,hs,rfl,by omega,fun ns hp hsrt=>?_⟩;refine⟨rfl,Xk (xs:=ns) (emb:=D.int) (fun i γ'=>γ'=[some (.bor (.lst (hs.map D.int))),some (.bor (.lst (ws.map prD))),some (.sh (.lst [])),none,none]) rfl ?_ ?_⟩
  ·rintro i hi γ' rfl;have hl:=hN ns[i] (hp.mem_iff.mp (YC hi));generalize ns[i]=l at hl ⊢;exact⟨l,hs,ws,rfl,hz,hl,rfl⟩
  ·rintro γ' rfl;exact hR
def Zbf(G:Glob K mg)(DD:Def K mg "least_costs" Ba ["strips","wishes","pairs"])(Z6:Hi P w K mg base)(Zi:Nw P w K mg base)(Z7:E1 P w K mg base)(Z8:AF P w K mg base)
  : SJ P w K mg base:=by
 refine DD.oz (k:=2) N9 (fun _ _ _ _ _ _ E hr=>⟨_,(JJ (Pu.pz 3 N9.nd (Ze0 (UC hr) (Up Uv) JI)) (JJ (UF YH rfl (Uu (K:=K) (XE (XC (K:=K)) (fz Z6 hr (az (fz Zi hr (az (pv 0))))) (X0 JI) XW)) (gz 4 N9.nd) (JJ (Kl (N':=["holder","members","wishes"]) (φ:=[none,some 4,some 1]) (i:=5) N9.nd rfl rfl rfl (Own.CompOk.of (by rfl)) (Tr (K:=K) (pv 4)) (fun _ _ _ _ _=>⟨(gz 0 (show(["holder","members","wishes"]:List Str).Nodup from by decide +kernel)),(X5 (UL (K:=K) (fz Z7 hr (dz (pv 1) (pv 0) (pv 2))))),(pv 0)⟩)) (JL (B9 (UC hr) (pv 3) (pv 4) (UV (HY (K:=K) rfl) (by rfl) G.min boot_min (az (Xa (N':=["last","members","least","pairs"]) (φ:=[none,some 4,some 3,some 2]) rfl (Own.CompOk.of (by rfl)) (Uu (K:=K) (pv 5)) (fun _ _ _ _ _=>⟨(gz 0 (show(["last","members","least","pairs"]:List Str).Nodup from by decide +kernel)),Xq,(fz Z8 hr (JU (pv 1) (JU (pv 0) (JU (pv 2) (JU (pv 3) Uv)))))⟩)))) rfl)))) (JL (JQ (pv 3))))), (JK (JS (Lr (Uq Uj) JH) (JN 3)) (JK (UD [4,5] (Xj (XO (Ub (sz (Ub (sz (JG 0))))) (X3 JH) XQ)) (JN 4) (JK (JS (U8 (SndI.c (TR (JG 4))) (JN 0) (Xb (Ub (uz (JG 1) (JG 0) (JG 2)))) (JG 0)) (JN 5)) (BD 3 (JG 4) (MR (sz (U8 (US (JG 5)) (JN 0) Xz (Ub (Ud (JG 1) (Ud (JG 0) (Ud (JG 2) (Ud (JG 3) Uj))))))))))) (XA 3)))⟩) (.a fun ds R X h=>?_)
 ·obtain⟨ps,ws,pa,c,rfl,hF,hz,hw,hu,hc,hL,hR⟩:=h;refine⟨rfl,?_⟩;refine⟨by simp,_,_,rfl,rfl,?_⟩;refine⟨ps,rfl,hF,hz,_,rfl,Py ps,?_⟩;have hh:=Py ps;have nd:(Uh ps).Nodup:=(KB ps).imp (fun h=>QK h);generalize Uh ps=hs at hh nd hc hL hR ⊢;have hsl:=XB hs;have hsub:=PQ hs;have hbef:=Gq nd;have hsn:=Dv nd
  have hlen:(Uo hs).length<=1024:=by
   rw[hsl];exact W1 (j:=10) (by decide) hh
  obtain⟨T,eT⟩:=Rf hs;rw[eT]at hsub hbef hsn hlen hR ⊢;refine⟨rfl,rfl,?_⟩
  have ec:Pu.cutD (List.map tD ([]::T)) (some 1) none=T.map tD:=by
   rw[Pv,NS _ (by decide)];rfl
  rw[ec];refine Xk (xs:=T) (emb:=tD) (fun i γ'=>∃kvs:List (List Key×V),γ'=[some (.bor (.lst (ps.map prD))),some (.bor (.lst (ws.map prD))),some (.bor (.dT pa)),some (.own (.dT kvs)),none,none]/\Tab ws c ([]::T.take i) kvs) ⟨_,rfl,Rr ws c⟩ ?_ ?_
  ·rintro i hi γ' ⟨kvs,rfl,ht⟩;have em:([]::T)[i+1]?=some T[i]:=by rw[Wf,Yl hi]
   have hmem:T[i]∈[]::T:=Y7 em;have hsm:=hsub _ hmem;have hne:T[i]≠[]:=fun e=>(YT.mp hsn).1 (e▸YC hi)
   have hnew:T[i]∉[]::T.take i:=fun z=>by
    rcases Y2.mp z with z|z
    ·exact hne z
    ·obtain⟨j,hj,e⟩:=Wz.mp z;rw[Wj]at hj;rw[List.getElem_take]at e;exact Qb.mp (YT.mp hsn).2 j i (by omega) hi (by omega) e
   have hml:T[i].length<=10:=Y4 hsm.length_le hh
   have hless:∀l∈T[i],Ua T[i] l∈[]::T.take i:=fun l hl=>by
    obtain⟨j,hj,e⟩:=hbef (i+1) _ em l hl
    have:([]::T.take i)=([]::T).take (i+1):=by rw[List.take_succ_cons]
    rw[this];refine Y7 (i:=j) ?_;rw[W5 hj];exact e
   have ndm:T[i].Nodup:=nd.sublist hsm
   have hkl:kvs.length<=1024:=by
    have:=YQ List.length ht.keys
    rw[Ym,Ym,YE,Wj]at this;rw[YE]at hlen;omega
   have etk:[]::T.take (i+1)=([]::T.take i)++[T[i]]:=by rw[YY hi];rfl
   rw[etk];generalize T[i]=ms at *;obtain⟨vs,hvs⟩:=ER fun l hl=>ht.val _ (hless l hl);obtain⟨l0,hl0,hl0'⟩:=hL ms hsm hne;refine⟨_,rfl,UH (s:=.sh .non) (xs:=ms) (emb:=D.int) (fun h=>if Xc ws ms h=true then some (.int h)else none) (by omega) (fun h hm=>?_) ?_⟩
   ·refine⟨ms,h,ws,rfl,hw,?_⟩;refine ite2 (fun g=>⟨_,rfl,Yr g⟩) (fun g=>Yp g)
   ·rw[XH (fun h=>Xc ws ms h)];refine UH (xs:=ms.filter (fun h=>Xc ws ms h)) (emb:=D.int) (fun l=>some (.int (vs l+((Ua ms l).map (c · l)).sum))) (Y4 (YZ _ _) (by omega)) (fun l hl=>?_) ?_
    ·obtain⟨hl1,hl2⟩:=Y3.mp hl;exact⟨ms,l,kvs,pa,(c · l),vs l,rfl,by omega,(hvs l hl1).1,fun m hm=>hc m (hsm.subset (less_sub.subset hm)) l (hsm.subset hl1),_,rfl,rfl⟩
    ·rw[mapD];refine⟨(ms.filter (fun h=>Xc ws ms h)).map fun l=>vs l+((Ua ms l).map (c · l)).sum,by rw[YR];rfl,?_,fun M hM hle=>⟨_,_,NT ms,rfl,by omega,_,rfl,ht.put hnew (He ndm hu (fun l hl=>(hvs l hl).2) ?_ ?_)⟩⟩
     ·rw[Ym];exact List.length_pos_of_mem (Y3.mpr ⟨hl0,lastM_iff.mpr hl0'⟩)
     ·obtain⟨l,hl,e⟩:=YL.mp hM;obtain⟨hl1,hl2⟩:=Y3.mp hl;exact⟨l,hl1,hl2,e.symm⟩
     ·intro l hl hlast;exact hle _ (YL.mpr ⟨l,Y3.mpr ⟨hl,hlast⟩,rfl⟩)
  ·rintro γ' ⟨kvs,rfl,ht⟩;rw[WB]at ht;exact hR kvs ht
def Oa(G:Glob K mg)(DD:Pu.DefM K (Mk K (ExcR.JP mg "Village")) "__init__" "Village.__init__" FT ["self","strips"])(Z9:DK P w K mg base)
  : GS P w K mg base:=by
 refine DD.ox (k:=2) Za8 (fun _ _ _ _ _ _ E hr=>⟨_,(JJ (U9 (Xs Z9 (hr.mono (by decide)) ExcR.UO (az (pv 1)))) (JJ (Br (pv 0) (Ug Uv) rfl) (JJ (Br (pv 0) (Ug (az (Ky (To (K:=K)) (by rfl) G.list boot_list (az (pv 1))))) rfl) (JL (Br (pv 0) (Ug (az (Ug Uv))) rfl))))), (JK (Xx (X7 (sz (JG 1)))) (JK (Ae 0 G.cl_Village G.n_Village_book Oh (Ue Uj)) (JK (Ae 0 G.cl_Village G.n_Village_fields MW (Ue (sz (Nf (sz (JG 1)))))) (Ae 0 G.cl_Village G.n_Village_wished Zcb (Ue (sz (Ue Uj)))))))⟩) (.c fun o ss R X h=>?_)
 ·obtain⟨x,ps,rfl,rfl,hz,hR⟩:=h;refine⟨rfl,?_⟩;refine⟨ps,rfl,hz,?_⟩;cases e:PB ps with
  |some c=>
   rw[e]at hR;exact⟨_,rfl,⟨rfl,by simp⟩,hR⟩
  |none=>
   rw[e]at hR;refine⟨by simp,rfl,rfl,by decide,fun b1=>?_⟩;refine⟨rfl,by simp,rfl,rfl,by decide,fun b2=>?_⟩;refine⟨by simp,by simp,rfl,rfl,by decide,fun b3=>?_⟩;exact⟨_,rfl,⟨rfl,by simp⟩,hR b1 b2 b3⟩
def Zc4(G:Glob K mg)(DD:Pu.DefM K (Meth K (ExcR.JP mg "Village") "sell") "sell" "Village.sell" BU ["self","place","holder"])(Ze:PZ P w K mg base)(ZA:Du P w K mg base)(Zf:P5 P w K mg base)(Zc:K9 P w K mg base)(Zb:K5 P w K mg base)
  : Hm P w K mg base:=by
 refine DD.ox (k:=2) Dy (fun _ _ _ _ _ _ E hr=>⟨_,(JJ (U9 (UB Ze G.cl_Village (hr.mono (by decide)) ExcR.UO (pv 0))) (JJ (Pu.pz 3 Dy.nd (Xs ZA (hr.mono (by decide)) ExcR.UO (dz (UB Zc G.cl_Village (hr.mono (by decide)) UI (pv 0)) (pv 1) (pv 2)))) (JL (JQ (Ku Zf G.cl_Village (hr.mono (by decide)) UI (pv 0) (dz (Up (dz U0 (pv 1) (pv 2))) (pv 3) (UB Zb G.cl_Village (hr.mono (by decide)) UI (pv 0)))))))), (JK (Xx (T4 TX (JG 0) Uj)) (JK (JS (X7 (uz (Xf KR (JG 0) Uj) (JG 1) (JG 2))) (JN 3)) (Uc 2 (Uc 1 (Uc 3 (Kg (P6 0 TB (uz (Uq (uz U1 (JG 1) (JG 2))) (JG 3) (Xf KW (JG 0) Uj)))))))))⟩) (.c fun o ss R X h=>?_)
 ·obtain⟨x,b1,b2,b3,bk,fs,ws,f,w,p,h,rfl,rfl,hb,hf,hw,hz,hR⟩:=h;refine⟨rfl,?_⟩;unfold Sh at hR;refine⟨rfl,rfl,bk,fs++[f],ws++[w],rfl,?_⟩;unfold Pi;by_cases c:100<=bk.length
  ·rw[Yr c]at hR ⊢;exact⟨_,rfl,⟨rfl,by simp⟩,hR⟩
  ·rw[Yp c]at hR ⊢;refine⟨rfl,rfl,bk,fs,ws++[w],f,rfl,f,p,h,rfl,hz,?_⟩;cases e:UT f p h with
   |some c=>
    rw[e]at hR;exact⟨_,rfl,⟨rfl,by simp⟩,hR⟩
   |none=>
    rw[e]at hR;refine⟨rfl,rfl,by simp,rfl,rfl,bk,fs++[f],ws,w,rfl,?_⟩;exact⟨x,b1,b2,b3,bk,fs++[f],ws++[w],("sell",[p,h]),Kt f p h,w,rfl,rfl,hb,by rw[Yw];simp;omega,by rw[Yw];simp;omega,_,rfl,⟨rfl,by simp⟩,hR⟩
def Lu(G:Glob K mg)(DD:Pu.DefM K (Meth K (ExcR.JP mg "Village") "part") "part" "Village.part" Fb ["self","place","width"])(Ze:PZ P w K mg base)(ZC:DG P w K mg base)(Zf:P5 P w K mg base)(Zc:K9 P w K mg base)(Zb:K5 P w K mg base)
  : Hk P w K mg base:=by
 refine DD.ox (k:=2) Hz (fun _ _ _ _ _ _ E hr=>⟨_,(JJ (U9 (UB Ze G.cl_Village (hr.mono (by decide)) ExcR.UO (pv 0))) (JJ (Pu.pz 3 Hz.nd (Xs ZC (hr.mono (by decide)) ExcR.UO (dz (UB Zc G.cl_Village (hr.mono (by decide)) UI (pv 0)) (pv 1) (pv 2)))) (JL (JQ (Ku Zf G.cl_Village (hr.mono (by decide)) UI (pv 0) (dz (Up (dz U0 (pv 1) (pv 2))) (pv 3) (UB Zb G.cl_Village (hr.mono (by decide)) UI (pv 0)))))))), (JK (Xx (T4 TX (JG 0) Uj)) (JK (JS (X7 (uz (Xf KR (JG 0) Uj) (JG 1) (JG 2))) (JN 3)) (Uc 2 (Uc 1 (Uc 3 (Kg (P6 0 TB (uz (Uq (uz U1 (JG 1) (JG 2))) (JG 3) (Xf KW (JG 0) Uj)))))))))⟩) (.c fun o ss R X h=>?_)
 ·obtain⟨x,b1,b2,b3,bk,fs,ws,f,w,p,h,rfl,rfl,hb,hf,hw,hz,hR⟩:=h;refine⟨rfl,?_⟩;unfold NY at hR;refine⟨rfl,rfl,bk,fs++[f],ws++[w],rfl,?_⟩;unfold Pi;by_cases c:100<=bk.length
  ·rw[Yr c]at hR ⊢;exact⟨_,rfl,⟨rfl,by simp⟩,hR⟩
  ·rw[Yp c]at hR ⊢;refine⟨rfl,rfl,bk,fs,ws++[w],f,rfl,f,p,h,rfl,hz,?_⟩;cases e:UQ f p h with
   |some c=>
    rw[e]at hR;exact⟨_,rfl,⟨rfl,by simp⟩,hR⟩
   |none=>
    rw[e]at hR;refine⟨rfl,rfl,by simp,rfl,rfl,bk,fs++[f],ws,w,rfl,?_⟩;exact⟨x,b1,b2,b3,bk,fs++[f],ws++[w],("part",[p,h]),XJ f p h,w,rfl,rfl,hb,by rw[Yw];simp;omega,by rw[Yw];simp;omega,_,rfl,⟨rfl,by simp⟩,hR⟩
def Oq(G:Glob K mg)(DD:Pu.DefM K (Meth K (ExcR.JP mg "Village") "unite") "unite" "Village.unite" Be ["self","place"])(Ze:PZ P w K mg base)(ZD:Hs P w K mg base)(Zf:P5 P w K mg base)(Zc:K9 P w K mg base)(Zb:K5 P w K mg base)
  : Gk P w K mg base:=by
 refine DD.ox (k:=2) DV (fun _ _ _ _ _ _ E hr=>⟨_,(JJ (U9 (UB Ze G.cl_Village (hr.mono (by decide)) ExcR.UO (pv 0))) (JJ (Pu.pz 2 DV.nd (Xs ZD (hr.mono (by decide)) ExcR.UO (bz (UB Zc G.cl_Village (hr.mono (by decide)) UI (pv 0)) (pv 1)))) (JL (JQ (Ku Zf G.cl_Village (hr.mono (by decide)) UI (pv 0) (dz (Up (bz U0 (pv 1))) (pv 2) (UB Zb G.cl_Village (hr.mono (by decide)) UI (pv 0)))))))), (JK (Xx (T4 TX (JG 0) Uj)) (JK (JS (X7 (tz (Xf KR (JG 0) Uj) (JG 1))) (JN 2)) (Uc 1 (Uc 2 (Kg (P6 0 TB (uz (Uq (tz U1 (JG 1))) (JG 2) (Xf KW (JG 0) Uj))))))))⟩) (.c fun o ss R X h=>?_)
 ·obtain⟨x,b1,b2,b3,bk,fs,ws,f,w,p,rfl,rfl,hb,hf,hw,hz,hR⟩:=h;refine⟨rfl,?_⟩;unfold NV at hR;refine⟨rfl,rfl,bk,fs++[f],ws++[w],rfl,?_⟩;unfold Pi;by_cases c:100<=bk.length
  ·rw[Yr c]at hR ⊢;exact⟨_,rfl,⟨rfl,by simp⟩,hR⟩
  ·rw[Yp c]at hR ⊢;refine⟨rfl,rfl,bk,fs,ws++[w],f,rfl,f,p,rfl,hz,?_⟩;cases e:uniE f p with
   |some c=>
    rw[e]at hR;exact⟨_,rfl,⟨rfl,by simp⟩,hR⟩
   |none=>
    rw[e]at hR;refine⟨rfl,rfl,by simp,rfl,rfl,bk,fs++[f],ws,w,rfl,?_⟩;exact⟨x,b1,b2,b3,bk,fs++[f],ws++[w],("unite",[p]),uniL f p,w,rfl,rfl,hb,by rw[Yw];simp;omega,by rw[Yw];simp;omega,_,rfl,⟨rfl,by simp⟩,hR⟩
def Zew(G:Glob K mg)(DD:Pu.DefM K (Meth K (ExcR.JP mg "Village") "wish") "wish" "Village.wish" B6 ["self","ahead","behind"])(Ze:PZ P w K mg base)(ZE:GL P w K mg base)(Zf:P5 P w K mg base)(Zb:K5 P w K mg base)(Zc:K9 P w K mg base)
  : E7 P w K mg base:=by
 refine DD.ox (k:=2) CJ (fun _ _ _ _ _ _ E hr=>⟨_,(JJ (U9 (UB Ze G.cl_Village (hr.mono (by decide)) ExcR.UO (pv 0))) (JJ (Pu.pz 3 CJ.nd (Xs ZE (hr.mono (by decide)) ExcR.UO (dz (UB Zb G.cl_Village (hr.mono (by decide)) UI (pv 0)) (pv 1) (pv 2)))) (JL (JQ (Ku Zf G.cl_Village (hr.mono (by decide)) UI (pv 0) (dz (Up (dz U0 (pv 1) (pv 2))) (UB Zc G.cl_Village (hr.mono (by decide)) UI (pv 0)) (pv 3))))))), (JK (Xx (T4 TX (JG 0) Uj)) (JK (JS (X7 (uz (Xf KW (JG 0) Uj) (JG 1) (JG 2))) (JN 3)) (Uc 2 (Uc 1 (Uc 3 (Kg (P6 0 TB (uz (Uq (uz U1 (JG 1) (JG 2))) (Xf KR (JG 0) Uj) (JG 3)))))))))⟩) (.c fun o ss R X h=>?_)
 ·obtain⟨x,b1,b2,b3,bk,fs,ws,f,w,p,h,rfl,rfl,hb,hf,hw,hz,hR⟩:=h;refine⟨rfl,?_⟩;unfold N1 at hR;refine⟨rfl,rfl,bk,fs++[f],ws++[w],rfl,?_⟩;unfold Pi;by_cases c:100<=bk.length
  ·rw[Yr c]at hR ⊢;exact⟨_,rfl,⟨rfl,by simp⟩,hR⟩
  ·rw[Yp c]at hR ⊢;refine⟨rfl,rfl,bk,fs++[f],ws,w,rfl,w,p,h,rfl,hz,?_⟩;cases e:UM w p h with
   |some c=>
    rw[e]at hR;exact⟨_,rfl,⟨rfl,by simp⟩,hR⟩
   |none=>
    rw[e]at hR;refine⟨rfl,rfl,by simp,rfl,rfl,bk,fs,ws++[w],f,rfl,?_⟩;exact⟨x,b1,b2,b3,bk,fs++[f],ws++[w],("wish",[p,h]),f,w++[(p,h)],rfl,rfl,hb,by rw[Yw];simp;omega,by rw[Yw];simp;omega,_,rfl,⟨rfl,by simp⟩,hR⟩
def LC(G:Glob K mg)(DD:Def K mg "_law_opening" Fp ["_law_script","_law_menu_here"])(Zh:Nj P w K mg base)(Zd:Tc P w K mg base)(Zp:SY P w K mg base)(Zg:Tt P w K mg base)
  : Dq P w K mg base:=by
 refine DD.oz (k:=2) KL (fun _ _ _ _ _ _ E hr=>⟨_,(JJ (Pu.pz 2 KL.nd (fz Zh hr (bz (fz Zd hr (bz (pv 0) JI)) JI))) (@JJ _ _ _ _ _ (@Pu.pz _ _ _ _ _ _ 3 KL.nd (@Hj _ _ _ _ _ _ _ (AI (K:=K)) (@Ug _ _ _ _ (@JU _ _ _ _ _ JI (@JU _ _ _ _ _ JI (@JU _ _ _ _ _ JI (@JU _ _ _ _ _ JI (@JU _ _ _ _ _ JI (@JU _ _ _ _ _ JI (@JU _ _ _ _ _ JI (@JU _ _ _ _ _ JI (@JU _ _ _ _ _ (jx K (pv 1) JI) Uv rfl) rfl) rfl) rfl) rfl) rfl) rfl) rfl) rfl)) (JO Ut (pv 2) JI) (fun _ _=>rfl)) rfl (by first|exact Or.inl rfl|exact Or.inr rfl) rfl (by first|exact .inl rfl|exact .inr rfl|assumption)) (JJ (Pu.pz 4 KL.nd (Ug Uv)) (JJ (UF YH rfl (Kq rfl G.range (az (pv 3))) (gz 5 KL.nd) (JJ (Pu.pz 6 KL.nd (fz Zp hr (bz (fz Zh hr (bz (pv 2) (JO Ux JI (pv 5)))) (pv 1)))) (Nt (JV (cq K hr (JO Ut (pv 2) JI) JI) (JL (Pu.pz 6 KL.nd (Up (bz (JO Ux JI (JO Ut (JO Ux (pv 2) (pv 5)) JI)) (JO Ux JI (JO Ut (JO Ux (JO Ux (JO Ux (pv 2) (pv 5)) JI) (JO UJ (pv 5) JI)) JI))))))
   JW) (Nt (JV (cq K hr (JO Ut (pv 2) JI) JI) (JL (Pu.pz 6 KL.nd (Up (bz (fz Zg hr (bz (pv 1) (pv 5))) (fz Zg hr (bz (pv 1) (JO Ut (JO Ux (pv 5) JI) (pv 3))))))))
   JW) (JL (U9 (Kz YJ Wk Wl KA (pv 4) (az (Up (dz U0 (jx K (pv 6) JI) (jx K (pv 6) JI))))))))))) (JL (JQ (pv 4))))))), (JK (JS (Ub (tz (Ub (tz (JG 0) JH)) JH)) (JN 2)) (JK (JS (JM (Ue (Ud JH (Ud JH (Ud JH (Ud JH (Ud JH (Ud JH (Ud JH (Ud JH (Ud (JM (JG 1) JH) Uj)))))))))) (Us (JG 2) JH)) (JN 3)) (JK (JS (Ue Uj) (JN 4)) (JK (UD [5,6] (Kv (sz (JG 3))) (JN 5) (JK (JS (Ub (tz (Ub (tz (JG 2) (Uw JH (JG 5)))) (JG 1))) (JN 6)) (T9 (JZ (JT (Ur (Us (JG 2) JH) JH)) (JS (Uq (tz (Uw JH (Us (Uw (JG 2) (JG 5)) JH)) (Uw JH (Us (Uw (Uw (Uw (JG 2) (JG 5)) JH) (UK (JG 5) JH)) JH)))) (JN 6)) JX) (T9 (JZ (JT (Ur (Us (JG 2) JH) JH)) (JS (Uq (tz (Ub (tz (JG 1) (JG 5))) (Ub (tz (JG 1) (Us (Uw (JG 5) JH) (JG 3)))))) (JN 6)) JX) (Na 4 (Uq (uz U1 (JM (JG 6) JH) (JM (JG 6) JH)))))))) (XA 4)))))⟩) (.a fun ds R X h=>?_)
 ·obtain⟨ns,m,rfl,hM,hR⟩:=h;refine⟨rfl,?_⟩;have hMM:=hM;obtain⟨a,b,c,d,e,rfl,ha,hb,hc,hd,he⟩:=hM;refine⟨ns,1,rfl,by decide,_,_,rfl,?_⟩;generalize mixP (ns.getD (1:Int).toNat 0) 300=sd;have h9:0<=sd % 9/\sd % 9<9:=by omega
  obtain⟨many,em,hm⟩:∃v:Int,atI ([0,1,2,3,4,6,9,24,a].map D.int) (sd % 9)=some (.int v)/\0<=v/\v<=24:=by
   refine⟨_,P1 (f:=D.int) (xs:=[0,1,2,3,4,6,9,24,a]) h9.1 h9.2,?_⟩
   have hall:∀v∈([0,1,2,3,4,6,9,24,a]:List Int),0<=v/\v<=24:=by
    intro v hv;simp at hv;rcases hv with rfl|rfl|rfl|rfl|rfl|rfl|rfl|rfl|rfl<;>omega
   exact hall _ (YC _)
  refine⟨_,rfl,by simp,(by show(0:Int)<9;decide),_,em,by simp,⟨by omega,by omega⟩,?_⟩;refine KY (fun i γ'=>∃qs:List (Int×Int),qs.length=i/\γ'=[some (.bor (.scr ns)),some (.bor (.lst (([a,b,c,d,e]:List Int).map D.int))),some (.sh (.int sd)),some (.sh (.int many)),some (.own (qs.map fun q=>dD (Dd.wish q.1 q.2).q)),none,none]) ⟨[],rfl,rfl⟩ ?_ ?_
  ·rintro i γ' hi ⟨qs,hq,rfl⟩;have hi':i<many.toNat:=hi;have hlm:(qs.map fun q=>dD (Dd.wish q.1 q.2).q).length=qs.length:=Ym ..;refine⟨_,_,rfl,_,_,rfl,hMM,fun p1 p2=>?_⟩;refine Tp (fun γ'=>∃(x y:Int),γ'=[some (.bor (.scr ns)),some (.bor (.lst (([a,b,c,d,e]:List Int).map D.int))),some (.sh (.int sd)),some (.sh (.int many)),some (.own (qs.map fun q=>dD (Dd.wish q.1 q.2).q)),some (.sh (.int (0+(i:Int)))),some (.sh (prD (x,y)))]) ?_ ?_
   ·refine⟨(by show(0:Int)<9;decide),ite2 (fun _=>?_) (fun _=>⟨p1,p2,rfl⟩)⟩;exact⟨(by show(0:Int)<10;decide),⟨by decide,by decide⟩,(by show(0:Int)<10;decide),by simp,_,_,rfl⟩
   ·rintro γ' ⟨p1,p2,rfl⟩;refine Tp (fun γ'=>∃(x y:Int),γ'=[some (.bor (.scr ns)),some (.bor (.lst (([a,b,c,d,e]:List Int).map D.int))),some (.sh (.int sd)),some (.sh (.int many)),some (.own (qs.map fun q=>dD (Dd.wish q.1 q.2).q)),some (.sh (.int (0+(i:Int)))),some (.sh (prD (x,y)))]) ?_ ?_
    ·refine⟨(by show(0:Int)<9;decide),ite2 (fun _=>?_) (fun _=>⟨p1,p2,rfl⟩)⟩;exact⟨_,_,rfl,hMM,fun h1 _ _ _=>⟨(by show 0<many;omega),_,_,rfl,hMM,fun h2 _ _ _=>⟨by simp,_,_,rfl⟩⟩⟩
    ·rintro γ' ⟨x,y,rfl⟩;refine⟨_,X9 _ _,_,SU _ _ (.inr rfl),by simp,by omega,?_⟩;exact⟨qs++[(x,y)],by rw[Yw,hq];rfl,by rw[Y8];rfl⟩
  ·rintro γ' ⟨qs,hq,rfl⟩;have hq':qs.length=many.toNat:=hq;exact hR qs (by omega)
def LS(G:Glob K mg)(DD:Def K mg "_law_deed" Fv ["_law_cell","_law_menu_here","_law_now"])(ZF:CG P w K mg base)(Zp:SY P w K mg base)(Zm:Bu P w K mg base)(ZG:ED P w K mg base)(Zg:Tt P w K mg base)
  : Eb P w K mg base:=by
 refine DD.oz (k:=2) Pt (fun _ _ _ _ _ _ E hr=>⟨_,(JJ (Pu.pz 3 Pt.nd (JO Ut (pv 0) JI)) (JJ (Pu.pz 4 Pt.nd (JO UJ (pv 0) JI)) (JJ (Pu.pz 5 Pt.nd (fz ZF hr (bz (pv 4) (jx K (pv 2) JI)))) (JJ (Pu.pz 6 Pt.nd (JO UJ (JO UJ (pv 4) JI) (UV (GQ rfl) (by rfl) G.max boot_max (bz JI (ln K G.len (jx K (pv 2) JI)))))) (JJ (JV (Ui X1 (pv 3) JI (Ul _)) (JL (JQ (Up (dz U0 (pv 5) (fz Zm hr (bz (pv 6) (fz Zg hr (bz (pv 1) (JO Ut (JO UJ (pv 6) JI) (jx K (pv 1) JI))))))))))
   JW) (JJ (JV (Ui X1 (pv 3) JI (Ul _)) (JL (JQ (Up (dz U0 (pv 5) (fz ZG hr (dz (pv 6) (jx K (pv 2) JI) (pv 5)))))))
   JW) (JJ (JV (cq K hr (pv 3) JI) (JL (JQ (Up (bz U0 (pv 5)))))
   JW) (JJ (Pu.pz 7 Pt.nd (fz Zp hr (bz (pv 4) (pv 1)))) (Nt (JV (PW.pt (Pn (cq K hr (pv 3) JI) (Pn (Ui Xp (JO Ut (pv 4) JI) JI (Ul _)) (PJ (Ui (Zcd (K:=K) (show _<cLine from hr.units0)) (jx K (pv 2) JI) (Ug Uv) (Ul _)))))) (JL (Pu.pz 7 Pt.nd (jx K (jx K (pv 2) JI) (JO Ut (JO UJ (pv 4) JI) (ln K G.len (jx K (pv 2) JI))))))
   JW) (JJ (JV (Ui X1 (pv 3) JI (Ul _)) (JL (JQ (Up (dz (jx K (Ug (bz U0 U0)) (JO UJ (pv 3) JI)) (jx K (pv 7) JI) (jx K (pv 7) JI)))))
   JW) (JL (JQ (Up (az U0)))))))))))))), (JK (JS (Us (JG 0) JH) (JN 3)) (JK (JS (UK (JG 0) JH) (JN 4)) (JK (JS (Ub (tz (JG 4) (JM (JG 2) JH))) (JN 5)) (JK (JS (UK (UK (JG 4) JH) (G8 (tz JH (U2 (sz (JM (JG 2) JH)))))) (JN 6)) (JK (JZ (JT (X4 (JG 3) JH)) (Uc 5 (JY (Uq (uz U1 (JG 5) (Ub (tz (JG 6) (Ub (tz (JG 1) (Us (UK (JG 6) JH) (JM (JG 1) JH)))))))))) JX) (JK (JZ (JT (X4 (JG 3) JH)) (Uc 5 (JY (Uq (uz U1 (JG 5) (Ub (uz (JG 6) (JM (JG 2) JH) (JG 5))))))) JX) (JK (JZ (JT (Ur (JG 3) JH)) (Uc 5 (JY (Uq (tz U1 (JG 5))))) JX) (JK (JS (Ub (tz (JG 4) (JG 1))) (JN 7)) (T9 (JZ (Pl (JT (Ur (JG 3) JH)) (Pl (JT (Xv (Us (JG 4) JH) JH)) (JT (SD (JM (JG 2) JH) (Ue Uj))))) (JS (JM (JM (JG 2) JH) (Us (UK (JG 4) JH) (U2 (sz (JM (JG 2) JH))))) (JN 7)) JX) (JK (JZ (JT (X4 (JG 3) JH)) (JY (Uq (uz (JM (Ue (tz U1 U1)) (UK (JG 3) JH)) (JM (JG 7) JH) (JM (JG 7) JH)))) JX) (JY (Uq (sz U1)))))))))))))⟩) (.a fun ds R X h=>?_)
 ·obtain⟨c,m,f,w,es,rfl,hM,hz,hF,hw,hR,hB⟩:=h;refine⟨rfl,?_⟩;have hMM:=hM;have at1:atI (plD f::plD w::es) 1=some (plD w):=Tn (by decide) rfl;have hl:(f.map prD).length=f.length:=Ym ..;have hlw:(w.map prD).length=w.length:=Ym ..;have hmx:∀z:Int,0<(if z>1 then z else 1)/\((if z>1 then z else 1)=z\/(if z>1 then z else 1)=1):=fun z=>by split<;>omega
  have hm1:=hmx (((f.map prD).length:Nat):Int);refine⟨(by show(0:Int)<9;decide),⟨by decide,by decide⟩,_,X9 _ _,_,f,rfl,hz,fun p=>?_⟩;refine⟨⟨by decide,by decide⟩,_,X9 _ _,⟨hm1.1,Int.lt_of_le_of_lt (b:=1000) (by rcases hm1.2 with w|w<;>rw[w]<;>omega) (by decide)⟩,?_⟩
  obtain⟨m0,m1,m2,m3,m4,em,ha,hb,hc,hd,he⟩:=hM;have i0:atI (m.map D.int) 0=some (.int m0):=by rw[em];rfl
  refine ite2 (fun _=>?_) (fun _=>ite2 (fun _=>?_) (fun _=>ite2 (fun _=>?_) (fun g4=>?_)))
  ·exact⟨⟨by decide,by decide⟩,_,i0,(by show 0<m0;omega),m,_,rfl,hMM,fun h _ _ _=>⟨_,_,rfl,fun v=>⟨by simp,hR (.sell p v)⟩⟩⟩
  ·exact⟨_,X9 _ _,_,f,p,rfl,hz,hF,fun v=>⟨by simp,hR (.part p v)⟩⟩
  ·exact⟨by simp,hR (.unite p)⟩
  ·refine⟨_,m,rfl,hMM,fun a b=>?_⟩;refine Tp (fun γ'=>∃(a b:Int) (t1 t2 t3:Option S),γ'=[some (.sh (.int c)),some (.bor (.lst (m.map D.int))),some (.bor (.tup (plD f::plD w::es))),some (.sh (.int (c % 9))),t1,t2,t3,some (.sh (prD (a,b)))]) ?_ ?_
   ·refine ite2 (fun _=>⟨(by show(0:Int)<4;decide),ite2 (fun _=>⟨_,at1,by simp,?_⟩) (fun _=>iteF ⟨a,b,_,_,_,rfl⟩)⟩) (fun _=>iteF ⟨a,b,_,_,_,rfl⟩);have emp:(w.map prD).isEmpty=decide (w=[]):=by cases w<;>simp
    show if (!(w.map prD).isEmpty)=true then _ else _;rw[emp];refine ite2 (fun g=>?_) (fun g=>⟨a,b,_,_,_,rfl⟩);have hne:w≠[]:=fun z=>by rw[Yq z]at g;cases g
    have hp:0<w.length:=Qk.mpr hne;have q1:=Int.emod_nonneg (c / 9 / 4) (show(((w.map prD).length:Nat):Int)≠0 by omega);have q2:=V7 (c / 9 / 4) (show 0<(((w.map prD).length:Nat):Int) by omega);exact⟨_,at1,⟨by decide,by decide⟩,_,at1,(by show 0<(((w.map prD).length:Nat):Int);omega),_,P1 (f:=prD) (xs:=w) q1 (by omega),_,_,_,_,_,rfl⟩
   ·rintro γ' ⟨a,b,t1,t2,t3,rfl⟩;refine ite2 (fun g=>?_) (fun g=>⟨by simp,hB⟩);have g':c % 9<8:=Yu g;have hk:c % 9 / 7=0\/c % 9 / 7=1:=by omega
    have ex:∃k:Str,atI [D.str "wish",.str "drop"] (c % 9 / 7)=some (.str k)/\(k=("wish" : Str)\/k=("drop" : Str)):=by
     rcases hk with e|e<;>rw[e]
     ·exact⟨_,rfl,.inl rfl⟩
     ·exact⟨_,rfl,.inr rfl⟩
    obtain⟨k,ek,hk2⟩:=ex;refine⟨by simp,⟨by decide,by decide⟩,_,ek,_,X9 _ _,_,SU _ _ (.inr rfl),by simp,?_⟩;rcases hk2 with rfl|rfl
    ·exact hR (.wish a b)
    ·exact hR (.drop a b)
def IJ(G:Glob K mg)(DD:Def K mg "check_no_ring" Ah ["strips","wishes"])(ZH:EB P w K mg base)(Zi:Nw P w K mg base)
  : Ad P w K mg base:=by
 refine DD.oz (k:=3) Ea (fun _ _ _ _ _ _ E hr=>⟨_,(JJ (Pu.pz 2 Ea.nd (fz ZH hr (bz (fz Zi hr (az (pv 0))) (pv 1)))) (JL (JV (UL (K:=K) (pv 2)) (JL LZ)
   JW))), (JK (JS (Ub (tz (Ub (sz (JG 0))) (JG 1))) (JN 2)) (JZ (Xb (JG 2)) Zef JX))⟩) (.a fun ds R X h=>?_)
 ·obtain⟨ps,ws,rfl,hF,hz,hu,hN,hR⟩:=h;refine⟨rfl,?_⟩;exact⟨ps,rfl,hF,hz,_,ws,rfl,Y4 (Py ps) (by decide),fun l hl t=>Zes hu hN hl _ t (Yy _),iteF (A:=False) hR⟩
def Zeo(G:Glob K mg)(DD:Def K mg "_law_call" SM ["_law_village","_law_deed_here"])(ZI:GD P w K mg base)(ZJ:Hm P w K mg base)(ZK:Hk P w K mg base)(ZL:Gk P w K mg base)(ZM:E7 P w K mg base)
  : Gb P w K mg base:=by
 refine DD.ox (k:=3) Zb2 (fun _ _ _ _ _ _ E hr=>⟨_,(JJ (JV (cq K hr (jx K (pv 1) JI) U0) (JL (JQ (Ku ZJ G.cl_Village (hr.mono (by decide)) ExcR.UO (pv 0) (bz (jx K (pv 1) JI) (jx K (pv 1) JI)))))
   JW) (JJ (JV (cq K hr (jx K (pv 1) JI) U0) (JL (JQ (Ku ZK G.cl_Village (hr.mono (by decide)) ExcR.UO (pv 0) (bz (jx K (pv 1) JI) (jx K (pv 1) JI)))))
   JW) (JJ (JV (cq K hr (jx K (pv 1) JI) U0) (JL (JQ (Ku ZL G.cl_Village (hr.mono (by decide)) ExcR.UO (pv 0) (az (jx K (pv 1) JI)))))
   JW) (JJ (JV (cq K hr (jx K (pv 1) JI) U0) (JL (JQ (Ku ZM G.cl_Village (hr.mono (by decide)) ExcR.UO (pv 0) (bz (jx K (pv 1) JI) (jx K (pv 1) JI)))))
   JW) (JL (JQ (Ku ZI G.cl_Village (hr.mono (by decide)) ExcR.UO (pv 0) (bz (jx K (pv 1) JI) (jx K (pv 1) JI))))))))), (JK (JZ (JT (Ur (JM (JG 1) JH) U1)) (Kg (Tq 0 L0 (tz (JM (JG 1) JH) (JM (JG 1) JH)))) JX) (JK (JZ (JT (Ur (JM (JG 1) JH) U1)) (Kg (Tq 0 MO (tz (JM (JG 1) JH) (JM (JG 1) JH)))) JX) (JK (JZ (JT (Ur (JM (JG 1) JH) U1)) (Kg (Tq 0 Za7 (sz (JM (JG 1) JH)))) JX) (JK (JZ (JT (Ur (JM (JG 1) JH) U1)) (Kg (Tq 0 Lm (tz (JM (JG 1) JH) (JM (JG 1) JH)))) JX) (Kg (Tq 0 Zdn (tz (JM (JG 1) JH) (JM (JG 1) JH))))))))⟩) (.c fun o ss R X h=>?_)
 ·obtain⟨x,b1,b2,b3,bk,fs,ws,f,w,d,rfl,rfl,hb,hf,hw,hz,hy,hR⟩:=h;refine⟨rfl,?_⟩;cases d with
  |sell p h=>
   refine⟨_,rfl,?_⟩;refine⟨rfl,rfl,_,rfl,_,rfl,x,b1,b2,b3,bk,fs,ws,f,w,p,h,rfl,rfl,hb,hf,hw,hz,?_⟩;have hR:UR (Sh bk f p h) (X (vO (ExcR.JP mg "Village") x b1 b2 b3 bk (fs++[f]) (ws++[w]))) (R (vO (ExcR.JP mg "Village") x b1 b2 b3 (bk++[(Dd.sell p h).q]) (fs++[f]++[(Dd.sell p h).fld f]) (ws++[w]++[(Dd.sell p h).wsh w])) (.int (bk.length+1))):=hR;cases e:Sh bk f p h with
   |some c=>rw[e]at hR;exact⟨_,rfl,⟨rfl,by simp⟩,hR⟩
   |none=>rw[e]at hR;exact⟨_,rfl,⟨rfl,by simp⟩,hR⟩
  |part p h=>
   refine⟨_,rfl,_,rfl,?_⟩;refine⟨rfl,rfl,_,rfl,_,rfl,x,b1,b2,b3,bk,fs,ws,f,w,p,h,rfl,rfl,hb,hf,hw,hz,?_⟩;have hR:UR (NY bk f p h) (X (vO (ExcR.JP mg "Village") x b1 b2 b3 bk (fs++[f]) (ws++[w]))) (R (vO (ExcR.JP mg "Village") x b1 b2 b3 (bk++[(Dd.part p h).q]) (fs++[f]++[(Dd.part p h).fld f]) (ws++[w]++[(Dd.part p h).wsh w])) (.int (bk.length+1))):=hR;cases e:NY bk f p h with
   |some c=>rw[e]at hR;exact⟨_,rfl,⟨rfl,by simp⟩,hR⟩
   |none=>rw[e]at hR;exact⟨_,rfl,⟨rfl,by simp⟩,hR⟩
  |unite p=>
   refine⟨_,rfl,_,rfl,_,rfl,?_⟩;refine⟨rfl,rfl,_,rfl,x,b1,b2,b3,bk,fs,ws,f,w,p,rfl,rfl,hb,hf,hw,hz,?_⟩;have hR:UR (NV bk f p) (X (vO (ExcR.JP mg "Village") x b1 b2 b3 bk (fs++[f]) (ws++[w]))) (R (vO (ExcR.JP mg "Village") x b1 b2 b3 (bk++[(Dd.unite p).q]) (fs++[f]++[(Dd.unite p).fld f]) (ws++[w]++[(Dd.unite p).wsh w])) (.int (bk.length+1))):=hR;cases e:NV bk f p with
   |some c=>rw[e]at hR;exact⟨_,rfl,⟨rfl,by simp⟩,hR⟩
   |none=>rw[e]at hR;exact⟨_,rfl,⟨rfl,by simp⟩,hR⟩
  |wish p h=>
   refine⟨_,rfl,_,rfl,_,rfl,_,rfl,?_⟩;refine⟨rfl,rfl,_,rfl,_,rfl,x,b1,b2,b3,bk,fs,ws,f,w,p,h,rfl,rfl,hb,hf,hw,hy,?_⟩;have hR:UR (N1 bk w p h) (X (vO (ExcR.JP mg "Village") x b1 b2 b3 bk (fs++[f]) (ws++[w]))) (R (vO (ExcR.JP mg "Village") x b1 b2 b3 (bk++[(Dd.wish p h).q]) (fs++[f]++[(Dd.wish p h).fld f]) (ws++[w]++[(Dd.wish p h).wsh w])) (.int (bk.length+1))):=hR;cases e:N1 bk w p h with
   |some c=>rw[e]at hR;exact⟨_,rfl,⟨rfl,by simp⟩,hR⟩
   |none=>rw[e]at hR;exact⟨_,rfl,⟨rfl,by simp⟩,hR⟩
  |drop p h=>
   refine⟨_,rfl,_,rfl,_,rfl,_,rfl,?_⟩;refine⟨rfl,rfl,_,rfl,_,rfl,x,b1,b2,b3,bk,fs,ws,f,w,p,h,rfl,rfl,hb,hf,hw,hy,?_⟩;have hR:UR (NI bk w p h) (X (vO (ExcR.JP mg "Village") x b1 b2 b3 bk (fs++[f]) (ws++[w]))) (R (vO (ExcR.JP mg "Village") x b1 b2 b3 (bk++[(Dd.drop p h).q]) (fs++[f]++[(Dd.drop p h).fld f]) (ws++[w]++[(Dd.drop p h).wsh w])) (.int (bk.length+1))):=hR;cases e:NI bk w p h with
   |some c=>rw[e]at hR;exact⟨_,rfl,⟨rfl,by simp⟩,hR⟩
   |none=>rw[e]at hR;exact⟨_,rfl,⟨rfl,by simp⟩,hR⟩
def Zfl(G:Glob K mg)(DD:Def K mg "cost_table" Ar ["strips","wishes"])(Zq:Ad P w K mg base)(Zr:SJ P w K mg base)(Zs:Bi P w K mg base)
  : Az P w K mg base:=by
 refine DD.oz (k:=4) DN (fun _ _ _ _ _ _ E hr=>⟨_,(JJ (U9 (fz Zq hr (bz (pv 0) (pv 1)))) (JJ (Pu.pz 2 DN.nd (fz Zr hr (dz (pv 0) (pv 1) (fz Zs hr (az (pv 0)))))) (JL (JQ (Ky (IT rfl) (by rfl) G.list boot_list (JU (Ze6 (K:=K) (pv 2)) Uv)))))), (JK (Xx (Ub (tz (JG 0) (JG 1)))) (JK (JS (Ub (uz (JG 0) (JG 1) (Ub (sz (JG 0))))) (JN 2)) (JY (Ze3 (JG 2)))))⟩) (.a fun ds R X h=>?_)
 ·obtain⟨ps,ws,rfl,hF,hz,hw,hu,hN,hR⟩:=h;refine⟨rfl,?_⟩;refine⟨ps,ws,rfl,hF,hz,hu,hN,ps,rfl,hF,hz,fun pa hpa=>⟨ps,ws,pa,pcc ps,rfl,hF,hz,hw,hu,hpa,F5 hu hN,fun kvs T=>?_⟩⟩;have nd:(Uh ps).Nodup:=(KB ps).imp (fun h=>QK h);obtain⟨vs,e,hv⟩:=T.vals (Dv nd);obtain⟨e1,e2⟩:=E5 e;refine⟨kvs,rfl,e1,?_⟩;rw[e2];exact hR vs hv
def RQ(G:Glob K mg)(DD:Def K mg "best_order" BP ["strips","wishes"])(Zq:Ad P w K mg base)(Zs:Bi P w K mg base)(Zr:SJ P w K mg base)(Zi:Nw P w K mg base)(Zk:S9 P w K mg base)(ZN:Ep P w K mg base)(ZO:Cm P w K mg base)
  : Dz P w K mg base:=by
 refine DD.oz (k:=4) KC (fun _ _ _ _ _ _ E hr=>⟨_,(JJ (U9 (fz Zq hr (bz (pv 0) (pv 1)))) (JJ (Pu.pz 2 KC.nd (fz Zs hr (az (pv 0)))) (JJ (Pu.pz 3 KC.nd (fz Zr hr (dz (pv 0) (pv 1) (pv 2)))) (JJ (Pu.pz 4 KC.nd (Ky (AJ (K:=K)) (by rfl) G.tuple boot_tuple (az (fz Zi hr (az (pv 0)))))) (JJ (Pu.pz 5 KC.nd (Ug Uv)) (JJ (FR YH (UL (K:=K) (pv 4)) (JJ (Kl (N':=["holder","members","wishes"]) (φ:=[none,some 4,some 1]) (i:=6) KC.nd rfl rfl rfl (Own.CompOk.of (by rfl)) (Tr (K:=K) (pv 4)) (fun _ _ _ _ _=>⟨(gz 0 (show(["holder","members","wishes"]:List Str).Nodup from by decide +kernel)),(X5 (UL (K:=K) (fz ZN hr (dz (pv 1) (pv 0) (pv 2))))),(pv 0)⟩)) (JJ (Kl (N':=["first","members","least","pairs"]) (φ:=[none,some 4,some 3,some 2]) (i:=7) KC.nd rfl rfl rfl (Own.CompOk.of (by rfl)) (Uu (K:=K) (pv 6)) (fun _ _ _ _ _=>⟨(gz 0 (show(["first","members","least","pairs"]:List Str).Nodup from by decide +kernel)),(X5 (cq K hr (fz ZO hr (JU (pv 1) (JU (pv 0) (JU (pv 2) (JU (pv 3) Uv))))) (Tu (UC hr) (pv 2) (pv 1) (fun _ _=>rfl)))),(pv 0)⟩)) (JJ (U9 (Kz YJ Wk Wl KA (pv 5) (az (jx K (pv 7) JI)))) (JL (Pu.pz 4 KC.nd (fz Zk hr (bz (pv 4) (jx K (pv 7) JI))))))))) (JL (JQ (pv 5))))))))), (JK (Xx (Ub (tz (JG 0) (JG 1)))) (JK (JS (Ub (sz (JG 0))) (JN 2)) (JK (JS (Ub (uz (JG 0) (JG 1) (JG 2))) (JN 3)) (JK (JS (CH (sz (Ub (sz (JG 0))))) (JN 4)) (JK (JS (Ue Uj) (JN 5)) (JK (Al [6,7] (Xb (JG 4)) (JK (JS (U8 (SndI.c (TR (JG 4))) (JN 0) (Xb (Ub (uz (JG 1) (JG 0) (JG 2)))) (JG 0)) (JN 6)) (JK (JS (U8 (US (JG 6)) (JN 0) (JT (Ur (Ub (Ud (JG 1) (Ud (JG 0) (Ud (JG 2) (Ud (JG 3) Uj))))) (Nr (JG 2) (JG 1)))) (JG 0)) (JN 7)) (JK (Na 5 (JM (JG 7) JH)) (JS (Ub (tz (JG 4) (JM (JG 7) JH))) (JN 4)))))) (XA 5)))))))⟩) (.a fun ds R X h=>?_)
 ·obtain⟨ps,ws,rfl,hF,hz,hw,hu,hN,hR⟩:=h;refine⟨rfl,?_⟩;refine⟨ps,ws,rfl,hF,hz,hu,hN,ps,rfl,hF,hz,fun pa hpa=>⟨ps,ws,pa,pcc ps,rfl,hF,hz,hw,hu,hpa,F5 hu hN,fun kvs T=>⟨ps,rfl,hF,hz,?_⟩⟩⟩;have hh:=Py ps;have hri:=KB ps;have nd:(Uh ps).Nodup:=hri.imp (fun h=>QK h);have hpa':∀x∈Uh ps,∀y∈Uh ps,valV pa [.inl x,.inl y]=some (.int (pcc ps x y)):=hpa;generalize pcc ps=c at *;generalize Uh ps=hs at *
  refine⟨rfl,by simp,A5 (fun γ'=>∃(ms o:List Int),γ'=[some (.bor (.lst (ps.map prD))),some (.bor (.lst (ws.map prD))),some (.own (.dT pa)),some (.own (.dT kvs)),some (.sh (tD ms)),some (.own (o.map D.int)),none,none]/\ms∈Uo hs/\o.length+ms.length<=10/\
   ∀p,Best ws c ms p->Best ws c hs (o++p)) RS ⟨hs,[],rfl,List.mem_of_getLast? (SG hs),by simpa using hh,fun p hp=>hp⟩ ?_⟩
  rintro γ' ⟨ms,o,rfl,hms,hol,hB⟩;show if (!(ms.map D.int).isEmpty)=true then _ else _;refine ite2 (fun g=>?_) (fun g=>?_)
  ·have hsm:=PQ hs ms hms;have hne:ms≠[]:=fun e=>by subst e;simp at g
   have ndm:ms.Nodup:=nd.sublist hsm;have hrm:=hri.sublist hsm
   have hless:∀l∈ms,Ua ms l∈Uo hs:=fun l hl=>by
    obtain⟨k,hk,e⟩:=Wz.mp hms;obtain⟨j,_,ej⟩:=Gq nd k ms (by rw[Yl hk,e]) l hl;exact Y7 ej
   obtain⟨vs,hvs⟩:=ER fun l hl=>T.val _ (hless l hl);obtain⟨V,hV1,hV2⟩:=T.val ms hms;have hv2:∀l∈ms,Least ws c (Ua ms l) (vs l):=fun l hl=>(hvs l hl).2
   have hsome:∃f rest,(ms.filter (fun h=>firstM ws ms h)).filter (fun f=>decide (vs f+((Ua ms f).map (c f)).sum=V))=f::rest:=by
    obtain⟨q,q1,q2,q3⟩:=hV2.is;cases q with
    |nil=>exact absurd q1.nil_eq.symm hne
    |cons g p=>
     obtain⟨r1,r2,r3,_⟩:=FC ndm hu hv2 hV2 q1 q2 q3;exact List.exists_cons_of_ne_nil (List.ne_nil_of_mem (Y3.mpr ⟨Y3.mpr ⟨r1,r2⟩,Yq r3⟩))
   obtain⟨f,rest,ef⟩:=hsome;have hfm:f∈(ms.filter (fun h=>firstM ws ms h)).filter (fun f=>decide (vs f+((Ua ms f).map (c f)).sum=V)):=by rw[ef];exact YN ..
   obtain⟨hfm,hf3⟩:=Y3.mp hfm;obtain⟨hf1,hf2⟩:=Y3.mp hfm
   have hmin:∀g∈ms,firstM ws ms g=true->vs g+((Ua ms g).map (c g)).sum=V->f<=g:=fun g h1 h2 h3=>by
    have hg:g∈(ms.filter (fun h=>firstM ws ms h)).filter (fun f=>decide (vs f+((Ua ms f).map (c f)).sum=V)):=Y3.mpr ⟨Y3.mpr ⟨h1,h2⟩,Yq h3⟩
    have hr:(f::rest).Pairwise (· < ·):=by
     rw[←ef];exact(hrm.filter _).filter _
    rw[ef]at hg;rcases Y2.mp hg with e|hg
    ·omega
    ·have:=(Wy.mp hr).1 g hg
     omega
   refine⟨_,rfl,UH (s:=.sh .non) (xs:=ms) (emb:=D.int) (fun h=>if firstM ws ms h=true then some (.int h)else none) (by omega) (fun h hm=>?_) ?_⟩
   ·refine⟨ms,h,ws,rfl,hw,?_⟩;refine ite2 (fun g=>⟨_,rfl,Yr g⟩) (fun g=>Yp g)
   ·rw[XH (fun h=>firstM ws ms h)];refine UH (xs:=ms.filter (fun h=>firstM ws ms h)) (emb:=D.int) (fun f=>if decide (vs f+((Ua ms f).map (c f)).sum=V)=true then some (.int f)else none) (Y4 (YZ _ _) (by omega)) (fun l hl=>?_) ?_
    ·obtain⟨hl1,hl2⟩:=Y3.mp hl;refine⟨ms,l,kvs,pa,c l,vs l,rfl,by omega,(hvs l hl1).1,fun m hm=>hpa' l (hsm.subset hl1) m (hsm.subset (less_sub.subset hm)),_,_,NT ms,hV1,rfl,?_⟩;refine ite2 (fun g=>⟨_,rfl,Yr g⟩) (fun g=>Yp g)
    ·rw[XH (fun f=>decide (vs f+((Ua ms f).map (c f)).sum=V)),ef];refine⟨_,X9 _ _,by rw[Ym];omega,_,X9 _ _,ms,f,rfl,by omega,⟨Ua ms f,o++[f],?_,hless f hf1,?_,fun p hp=>?_⟩,?_⟩
     ·rw[Y8];rfl
     ·have:=(XU ndm hf1).length_eq
      rw[Yw];rw[YE]at this;show o.length+1+_<=10;omega
     ·rw[QU];exact hB _ (Zfd ndm hu hv2 hV2 hf1 hf2 (Yu hf3) hmin hp)
     ·have:=(XU ndm hf1).length_eq
      rw[YE]at this;show((Ua ms f).map D.int).length<(ms.map D.int).length;rw[Ym,Ym];omega
  ·have e:ms=[]:=by
    cases ms with
    |nil=>rfl
    |cons a r=>exact absurd rfl g
   subst e
   have:=hB [] (OO ws c)
   rw[Wb]at this;exact hR o this
def HR(G:Glob K mg)(DD:Def K mg "_law_go" SW ["_law_village","_law_past","_law_deed_here"])(ZP:AO P w K mg base)(ZQ:Gb P w K mg base)(Zl:NH P w K mg base)(ZR:Hn P w K mg base)
  : FU P w K mg base:=by
 refine DD.oz (k:=4) SX (fun _ _ _ _ _ _ E hr=>⟨_,(JJ (JV (cq K hr (jx K (pv 2) JI) U0) (Nt (JV (Ui Xp (ln K G.len (pv 1)) JI (Ul _)) (JJ (U9 (UB ZR G.cl_Village (hr.mono (by decide)) An (pv 0))) (JL (U9 (TM YJ Q2 Q3 Sg (pv 1)))))
   JW) (JL (JQ UE)))
   JW) (JJ (Pu.pz 3 SX.nd (fz ZP hr (bz (jx K (pv 1) (Xe Xd JI)) (pv 2)))) (JJ (JV (Ui Xp (jx K (pv 3) JI) JI (Ul _)) (JL (JQ UE))
   JW) (JJ (U9 (Kz YJ Wk Wl KA (pv 1) (az (Up (dz (jx K (pv 3) JI) (jx K (pv 3) JI) (pv 2)))))) (JJ (Pu.pz 4 SX.nd (Xs ZQ (hr.mono (by decide)) An (bz (pv 0) (pv 2)))) (JL (JQ (ND (fz Zl hr (az (pv 4))) (NX (KF (PR (K:=K) (show _<cLine from hr.units0)) (pv 4) (JO UW (ln K G.len (pv 1)) JI) (Ul _))))))))))), (JK (JZ (JT (Ur (JM (JG 2) JH) U1)) (T9 (JZ (JT (Xv (U2 (sz (JG 1))) JH)) (JK (P0 (P6 0 IS Uj)) (P0 (Zbs 1))) JX) (P4 UG)) JX) (JK (Uc 2 (JS (SQ (tz (JM (JG 1) (Xh JH)) (JG 2))) (JN 3))) (JK (JZ (JT (Xv (JM (JG 3) JH) JH)) (P4 UG) JX) (JK (Uc 2 (Na 1 (Uq (uz (JM (JG 3) JH) (JM (JG 3) JH) (JG 2))))) (JK (Uc 2 (OP (Re 0 (sz (JG 2))) (JN 4))) (P4 (Sq (Ub (sz (JG 4))) (Ur (JG 4) (UY (U2 (sz (JG 1))) JH)))))))))⟩) (.d fun o1 o2 ss R X h=>?_)
 ·obtain⟨x,b1,b2,b3,a,f0,hs,q,rfl,rfl,rfl,hz,hf,hor⟩:=h;refine⟨rfl,?_⟩;obtain⟨⟨h1,h2⟩,h3⟩:=hf.cur;rcases hor with⟨rfl,hR⟩|⟨d,rfl,hR⟩
  ·refine⟨_,rfl,?_⟩;refine Tp (fun γ'=>∃t1 t2 t3:Option S,γ'=[some (.own (vO (ExcR.JP mg "Village") x b1 b2 b3 (bkH hs.dropLast) (fsH f0 hs.dropLast) (wsH hs.dropLast))),some (.own (.lsA a (UA f0 hs.dropLast))),t1,t2,t3]) ?_ ?_
   ·rcases Wm hs with rfl|⟨h,y,rfl⟩
    ·exact⟨_,_,_,rfl⟩
    ·rw[W4,WI];have lp':(UA f0 (h++[y])).length=h.length+2:=by rw[N5,Yw,YO]
     have g:(((UA f0 (h++[y])).length:Nat):Int)>1:=by omega
     have el:(UA f0 (h++[y]))[(UA f0 (h++[y])).length-1]?=some (pstD y):=by
      rw[lp',N2,YK (by rw[N5];omega),N5];rw[show h.length+2-1-(h.length+1)=0 by omega];rfl
     have ed:(UA f0 (h++[y])).dropLast=UA f0 h:=by rw[N2,WI]
     show if decide ((((UA f0 (h++[y])).length:Nat):Int)>1)=true then _ else _;rw[Yq g];refine iteT ⟨rfl,rfl,x,b1,b2,b3,bkH (h++[y]),fsH f0 (h++[y]),wsH (h++[y]),rfl,rfl,by rw[Zcn,BR],by rw[L9,BR],fun e=>?_,fun b0 q e=>?_⟩
     ·rw[SH]at e;simp at e
     ·rw[SH]at e;obtain⟨rfl,e2⟩:=List.append_inj' e rfl;cases e2
      rw[Nu,Sd,WI,WI];refine⟨_,el,?_⟩;rw[ed];exact⟨_,_,_,rfl⟩
   ·rintro γ' ⟨t1,t2,t3,rfl⟩;exact⟨_,_,rfl,rfl,⟨rfl,by simp⟩,rfl,hR⟩
  ·obtain⟨fs,ef,lf⟩:=A7 f0 hs;obtain⟨ws,ew,lw⟩:=Fm hs;obtain⟨dl,el⟩:=SA f0 hs;have lb:=BR hs;have lp:=N5 f0 hs;have nb:=d.not_back;refine⟨_,X9 _ _,?_⟩;show if decide (d.q.1=("back" : Str))=true then _ else _;rw[YA nb];refine iteF ⟨_,el,curF f0 hs,curW hs,[dl],d,rfl,h2,h3.1,_,rfl,?_⟩;by_cases e:d.err (curF f0 hs) (curW hs)=none
   ·have ea:addH f0 hs d=hs++[(d,d.fld (curF f0 hs),d.wsh (curW hs))]:=by unfold addH;rw[Yr e]
    rw[ea]at hR;rw[SH,Nu,Sd,N2,ef,ew]at hR;show if decide (codeN (d.err (curF f0 hs) (curW hs))>0)=true then _ else _;rw[e];refine iteF ⟨_,rfl,_,rfl,by simp,by omega,?_⟩;refine⟨x,b1,b2,b3,bkH hs,fs,ws,curF f0 hs,curW hs,d,by rw[←ef,←ew],rfl,by omega,by omega,by omega,by omega,by have:=h3.1;omega,?_⟩
    have ec:BW (bkH hs) (curF f0 hs) (curW hs) d=none:=by
     unfold BW;rw[Yp (by omega),e]
    have en:d.nf (curF f0 hs) (curW hs)=d.fld (curF f0 hs):=by unfold Dd.nf;rw[Yr e]
    have ew':d.nw (curF f0 hs) (curW hs)=d.wsh (curW hs):=by unfold Dd.nw;rw[Yr e]
    rw[ec];have es:((((bkH hs).length:Nat):Int)+1=((((UA f0 hs++[D.tup [plD (d.nf (curF f0 hs) (curW hs)),plD (d.nw (curF f0 hs) (curW hs)),dD d.q]]).length:Nat)):Int)-1):=by rw[Yw,YO];omega
    refine⟨_,rfl,iteT ?_⟩;refine⟨_,_,rfl,rfl,⟨rfl,by simp⟩,rfl,?_⟩;rw[Yq es,en,ew'];exact hR
   ·have ea:addH f0 hs d=hs:=by unfold addH;rw[Yp e]
    rw[ea]at hR;show if decide (codeN (d.err (curF f0 hs) (curW hs))>0)=true then _ else _;rw[Yq (Dd.code_pos e)];exact iteT ⟨_,_,rfl,rfl,⟨rfl,by simp⟩,rfl,hR⟩
def Zdz(G:Glob K mg)(DD:Def K mg "least_cost" Ap ["strips","wishes"])(Zt:Az P w K mg base)
  : Cr P w K mg base:=by
 refine DD.oz (k:=5) Zcm (fun _ _ _ _ _ _ E hr=>⟨_,(JL (JQ (jx K (fz Zt hr (bz (pv 0) (pv 1))) (Xe Xd JI)))), (JY (JM (Ub (tz (JG 0) (JG 1))) (Xh JH)))⟩) (.a fun ds R X h=>?_)
 ·obtain⟨ps,ws,rfl,hF,hz,hw,hu,hN,hR⟩:=h;refine⟨rfl,?_⟩;refine⟨ps,ws,rfl,hF,hz,hw,hu,hN,fun vs hv=>?_⟩;have e1:=SG (Uh ps);rw[QC]at e1;have hi:=(YD.mp e1).1;have hl:=hv.1;obtain⟨v,h2⟩:∃v,vs[(Uo (Uh ps)).length-1]?=some v:=⟨_,Yl (by omega)⟩;have L:=hv.2 _ _ _ e1 h2;rw[←hl]at h2;exact⟨_,KG (f:=D.int) (PV h2),hR _ L⟩
def Zel(G:Glob K mg)(DD:Pu.DefM K (Meth K (ExcR.JP mg "Village") "order") "order" "Village.order" B3 ["self"])(ZS:Dz P w K mg base)(Zc:K9 P w K mg base)(Zb:K5 P w K mg base)
  : GO P w K mg base:=by
 refine DD.oz (k:=5) Zcj (fun _ _ _ _ _ _ E hr=>⟨_,(JL (JQ (fz ZS hr (bz (UB Zc G.cl_Village (hr.mono (by decide)) UI (pv 0)) (UB Zb G.cl_Village (hr.mono (by decide)) UI (pv 0)))))), (JY (Ub (tz (Xf KR (JG 0) Uj) (Xf KW (JG 0) Uj))))⟩) (.a fun ds R X h=>?_)
 ·obtain⟨bk,fs,ws,f,w,rfl,hF,hz,hw,hu,hN,hR⟩:=h;refine⟨rfl,?_⟩;exact⟨rfl,rfl,bk,fs,ws++[w],f,rfl,rfl,rfl,bk,fs++[f],ws,w,rfl,f,w,rfl,hF,hz,hw,hu,hN,hR⟩
def Ic(G:Glob K mg)(DD:Pu.DefM K (Meth K (ExcR.JP mg "Village") "table") "table" "Village.table" Bb ["self"])(Zt:Az P w K mg base)(Zc:K9 P w K mg base)(Zb:K5 P w K mg base)
  : Dt P w K mg base:=by
 refine DD.oz (k:=5) Zff (fun _ _ _ _ _ _ E hr=>⟨_,(JL (JQ (fz Zt hr (bz (UB Zc G.cl_Village (hr.mono (by decide)) UI (pv 0)) (UB Zb G.cl_Village (hr.mono (by decide)) UI (pv 0)))))), (JY (Ub (tz (Xf KR (JG 0) Uj) (Xf KW (JG 0) Uj))))⟩) (.a fun ds R X h=>?_)
 ·obtain⟨bk,fs,ws,f,w,rfl,hF,hz,hw,hu,hN,hR⟩:=h;refine⟨rfl,?_⟩;exact⟨rfl,rfl,bk,fs,ws++[w],f,rfl,rfl,rfl,bk,fs++[f],ws,w,rfl,f,w,rfl,hF,hz,hw,hu,hN,hR⟩
def OF(G:Glob K mg)(DD:Def K mg "_law_no_rings" Fy ["_law_village","_law_past"])(ZT:E9 P w K mg base)(Zu:Bg P w K mg base)(Zn:FU P w K mg base)
  : CP P w K mg base:=by
 refine DD.oz (k:=5) DO (fun _ _ _ _ _ _ E hr=>⟨_,(JJ (FR YH (Xi (UL (K:=K) (fz ZT hr (bz (fz Zu hr (az (jx K (jx K (pv 1) (Xe Xd JI)) JI))) (jx K (jx K (pv 1) (Xe Xd JI)) JI))))) (JJ (Pu.pz 2 DO.nd (jx K (jx K (jx K (pv 1) (Xe Xd JI)) JI) (Xe Xd JI))) (JL (JV (Xi (UL (K:=K) (fz Zn hr (dz (pv 0) (pv 1) (Up (dz U0 (jx K (pv 2) JI) (jx K (pv 2) JI))))))) (JL (JQ UE))
   JW)))) (JL (JQ UE))), (JK (Al [2] (XM (Xb (Ub (tz (Ub (sz (JM (JM (JG 1) (Xh JH)) JH))) (JM (JM (JG 1) (Xh JH)) JH))))) (JK (JS (JM (JM (JM (JG 1) (Xh JH)) JH) (Xh JH)) (JN 2)) (Tg 1 (Nz (NP (sv_w (Sa 0 1 (by decide) (sz (Uq (uz U1 (JM (JG 2) JH) (JM (JG 2) JH))))))) (P4 UG) JX)))) (P4 UG))⟩) (.d fun o1 o2 ss R X h=>?_)
 ·obtain⟨x,b1,b2,b3,a,f0,hs,rfl,rfl,rfl,hz,hf,hR⟩:=h;refine⟨rfl,?_⟩;refine A5 (fun γ'=>∃hs':Hist,γ'=[some (.own (vO (ExcR.JP mg "Village") x b1 b2 b3 (bkH hs') (fsH f0 hs') (wsH hs'))),some (.own (.lsA a (UA f0 hs'))),none]/\hs'.length+(curW hs').length<=hs.length+20/\FineH f0 hs'/\curF f0 hs'=curF f0 hs) Zb4 ⟨hs,rfl,by have:=hf.cur.2.1;omega,hf,rfl⟩ ?_;rintro γ' ⟨hs',rfl,hl,hf',hc⟩;obtain⟨⟨c1,c2⟩,c3⟩:=hf'.cur;obtain⟨dl,el⟩:=SA f0 hs';have hu:∀q∈curW hs',q.1≠q.2:=fun q hq=>(c3.2.2 q hq).2;refine⟨_,el,_,rfl,curF f0 hs',rfl,by omega,_,el,_,rfl,Uh (curF f0 hs'),curW hs',rfl,by have:=Py (curF f0 hs');omega,by have:=c3.1;omega,?_⟩;refine ite2 (fun g=>?_) (fun g=>?_)
  ·have hne:¬U3 (curW hs') (Uh (curF f0 hs')) (Uh (curF f0 hs')).length=[]:=fun z=>by rw[Yq z]at g;cases g
   have hR1:∃r,Ring (Uh (curF f0 hs')) (curW hs') r:=YU fun z=>hne ((Dp hu).mpr z)
   have hne2:curW hs'≠[]:=fun z=>by
    obtain⟨r,R0⟩:=hR1;rw[z]at R0;exact OC R0
   obtain⟨q,hq,eq⟩:=Zdb prD hne2;have h4:=OA (f0:=f0) hq;have h5:=Zdp hq;refine⟨_,el,_,rfl,_,eq,?_⟩;refine⟨_,X9 _ _,_,SU _ _ (.inr rfl),by simp,?_⟩;refine⟨x,b1,b2,b3,a,f0,hs',_,rfl,rfl,rfl,by omega,hf',.inr ⟨.drop q.1 q.2,rfl,?_⟩⟩;have hk:=hf'.add (.drop q.1 q.2);rw[h4]at hk ⊢;refine⟨⟨_,rfl,?_,hk,?_⟩,?_⟩
   ·rw[EU,Yw,YO];show _+(Kn (curW hs') q.1 q.2).length<=_;omega
   ·rw[Zbt];exact hc
   ·show Pz (UA f0 (hs'++[_]))<Pz (UA f0 hs');rw[Hu,Hu,EU];exact h5
  ·have hN:¬ ∃r,Ring (Uh (curF f0 hs')) (curW hs') r:=(Dp hu).mp (YU fun z=>g (by rw[YA z];rfl));exact⟨_,_,rfl,rfl,⟨rfl,by simp⟩,rfl,hR hs' (by omega) hf' hN hc⟩
def IM(G:Glob K mg)(DD:Pu.DefM K (Meth K (ExcR.JP mg "Village") "cost") "cost" "Village.cost" FH ["self"])(ZU:Cr P w K mg base)(Zc:K9 P w K mg base)(Zb:K5 P w K mg base)
  : GW P w K mg base:=by
 refine DD.oz (k:=6) Lh (fun _ _ _ _ _ _ E hr=>⟨_,(JL (JQ (fz ZU hr (bz (UB Zc G.cl_Village (hr.mono (by decide)) UI (pv 0)) (UB Zb G.cl_Village (hr.mono (by decide)) UI (pv 0)))))), (JY (Ub (tz (Xf KR (JG 0) Uj) (Xf KW (JG 0) Uj))))⟩) (.a fun ds R X h=>?_)
 ·obtain⟨bk,fs,ws,f,w,rfl,hF,hz,hw,hu,hN,hR⟩:=h;refine⟨rfl,?_⟩;exact⟨rfl,rfl,bk,fs,ws++[w],f,rfl,rfl,rfl,bk,fs++[f],ws,w,rfl,f,w,rfl,hF,hz,hw,hu,hN,hR⟩
def MC(G:Glob K mg)(DD:Def K mg "law" Ko ["_law_script"])(ZV:AQ P w K mg base)(ZW:CW P w K mg base)(ZX:GS P w K mg base)(ZY:Dq P w K mg base)(ZZ:Eg P w K mg base)(Zu:Bg P w K mg base)(Ya:AR P w K mg base)(Yb:EC P w K mg base)(Yc:Dt P w K mg base)(Yd:GO P w K mg base)(Zv:DQ P w K mg base)(Ye:AN P w K mg base)(Yf:CP P w K mg base)(Yg:G7 P w K mg base)(Yh:D9 P w K mg base)(Zn:FU P w K mg base)(Yi:GW P w K mg base)(Yj:Cv P w K mg base)(Zd:Tc P w K mg base)(Yk:Eb P w K mg base)
  : IV P w K mg base:=by
 refine DD.oz (k:=7) XS (fun _ _ _ _ _ _ E hr=>⟨_,(JJ (Pu.pz 1 XS.nd (fz ZV hr (az (fz Ye hr (bz (pv 0) JI))))) (JJ (Pu.pz 2 XS.nd (fz ZW hr (dz (pv 0) (pv 1) (JO Ut (JO UJ (fz Zd hr (bz (pv 0) JI)) JI) JI)))) (JJ (Pu.pz 3 XS.nd (Zfo ZX G.m_Village (hr.mono (by decide)) An (az (Ky (To (K:=K)) (by rfl) G.list boot_list (az (pv 2)))))) (JJ (Pu.pz 4 XS.nd (Ug (az (Up (dz (pv 2) (Ug Uv) (Up Uv)))))) (JJ (UF YH rfl (Uu (K:=K) (fz ZY hr (bz (pv 0) (pv 1)))) (gz 5 XS.nd) (JL (JV (Xi (UL (K:=K) (fz Zn hr (dz (pv 3) (pv 4) (pv 5))))) (JL (JQ UE))
   JW))) (JJ (UF YH rfl (Uu (K:=K) (fz ZZ hr (bz (pv 0) JI))) (gz 6 XS.nd) (JL (JV (Xi (UL (K:=K) (fz Zn hr (dz (pv 3) (pv 4) (fz Yk hr (dz (pv 6) (pv 1) (jx K (pv 4) (Xe Xd JI)))))))) (JL (JQ UE))
   JW))) (JJ (JV (Xi (UL (K:=K) (fz Yf hr (bz (pv 3) (pv 4))))) (JL (JQ UE))
   JW) (JJ (Pu.pz 2 XS.nd (jx K (jx K (pv 4) (Xe Xd JI)) JI)) (JJ (Pu.pz 7 XS.nd (fz Zu hr (az (pv 2)))) (JJ (Pu.pz 8 XS.nd (fz Ya hr (bz (pv 2) (pv 7)))) (JJ (Pu.pz 9 XS.nd (fz Yb hr (bz (pv 7) (jx K (jx K (pv 4) (Xe Xd JI)) JI)))) (JJ (Pu.pz 10 XS.nd (UB Yc G.cl_Village (hr.mono (by decide)) UI (pv 3))) (JJ (JV (Xi (UL (K:=K) (fz Yg hr (JU (pv 10) (JU (pv 7) (JU (pv 8) (JU (pv 9) Uv))))))) (JL (JQ UE))
   JW) (JJ (Pu.pz 11 XS.nd (UB Yd G.cl_Village (hr.mono (by decide)) UI (pv 3))) (JJ (JV (PW.pt (Xl (Xi (UL (K:=K) (UV (Nc (K:=K)) (by rfl) G.isinstance QD (bz (pv 11) (TL (v:=.ty "list") rfl G.list boot_list rfl))))) (Xu (Xi (UL (K:=K) (fz Zv hr (bz (UV (Bp (K:=K) (w:=w) rfl) (by rfl) G.sorted boot_sorted (az (pv 11))) (pv 7)))))))) (JL (JQ UE))
   JW) (JJ (JV (Xi (UL (K:=K) (fz Yh hr (JU (pv 11) (JU (pv 10) (JU (pv 7) (JU (pv 8) (JU (pv 9) Uv)))))))) (JL (JQ UE))
   JW) (JL (JQ (fz Zv hr (bz (Ug (bz (UB Yi G.cl_Village (hr.mono (by decide)) UI (pv 3)) (jx K (pv 10) (Xe Xd JI)))) (Ug (bz (jx K (pv 10) (Xe Xd JI)) (fz Yj hr (bz (pv 2) (pv 11))))))))))))))))))))))))), (JK (JS (Ub (sz (Ub (tz (JG 0) JH)))) (JN 1)) (JK (JS (Ub (uz (JG 0) (JG 1) (Us (UK (Ub (tz (JG 0) JH)) JH) JH))) (JN 2)) (JK (JS (O0 (sz (Nf (sz (JG 2))))) (JN 3)) (JK (Uc 2 (JS (Ue (sz (Uq (uz (JG 2) (Ue Uj) (Uq Uj))))) (JN 4))) (JK (Tg 4 (UD [5] (Xj (Ub (tz (JG 0) (JG 1)))) (JN 5) (Uc 5 (Tg 4 (Nz (NP (sv_w (Sa 3 4 (by decide) (sz (JG 5))))) (JY UG) JX))))) (JK (UD [6] (Xj (Ub (tz (JG 0) JH))) (JN 6) (Tg 4 (Nz (NP (sv_w (Sa 3 4 (by decide) (sz (Ub (uz (JG 6) (JG 1) (JM (JG 4) (Xh JH)))))))) (JY UG) JX))) (JK (Tg 4 (Nz (NP (sv_w (Sa 3 4 (by decide) Uj))) (JY UG) JX)) (JK (JS (JM (JM (JG 4) (Xh JH)) JH) (JN 2)) (JK (JS (Ub (sz (JG 2))) (JN 7)) (JK (JS (Ub (tz (JG 2) (JG 7))) (JN 8)) (JK (JS (Ub (tz (JG 7) (JM (JM (JG 4) (Xh JH)) JH))) (JN 9)) (JK (JS (Xf MF (JG 3) Uj) (JN 10)) (JK (JZ (XM (Xb (Ub (Ud (JG 10) (Ud (JG 7) (Ud (JG 8) (Ud (JG 9) Uj))))))) (JY UG) JX) (JK (JS (Xf Zbq (JG 3) Uj) (JN 11)) (JK (JZ (Xm (XM (Xb (Nl (tz (JG 11) T7)))) (XM (Xb (Ub (tz (Fd (sz (JG 11))) (JG 7)))))) (JY UG) JX) (JK (JZ (XM (Xb (Ub (Ud (JG 11) (Ud (JG 10) (Ud (JG 7) (Ud (JG 8) (Ud (JG 9) Uj)))))))) (JY UG) JX) (JY (Ub (tz (Ue (tz (Xf Ra (JG 3) Uj) (JM (JG 10) (Xh JH)))) (Ue (tz (JM (JG 10) (Xh JH)) (Ub (tz (JG 2) (JG 11))))))))))))))))))))))))⟩) (.a fun ds R X h=>?_)
 ·obtain⟨ns,rfl,hR⟩:=h;refine⟨rfl,?_⟩;refine⟨ns,0,rfl,by decide,fun c0=>⟨c0,rfl,fun m hM=>?_⟩⟩;refine⟨ns,0,rfl,by decide,⟨by decide,by decide⟩,(by show(0:Int)<41;decide),ns,m,_,rfl,hM,by omega,by omega,fun ps hF hlen=>?_⟩;have hz:ps.length<=40:=by omega
  refine⟨rfl,fun x=>⟨x,ps,rfl,rfl,by omega,?_⟩⟩;rw[OY hF hz];refine fun b1 b2 b3=>⟨rfl,?_⟩;refine⟨by simp,by simp,by simp,by simp,fun a=>?_⟩;refine⟨ns,m,rfl,hM,fun qs hq=>?_⟩;refine⟨rfl,Xk (xs:=qs) (emb:=fun q:Int×Int=>dD (Dd.wish q.1 q.2).q) (fun i γ'=>∃hs:Hist,hs.length<=i/\FineH ps hs/\γ'=[some (.bor (.scr ns)),some (.own (m.map D.int)),some (.sh (plD ps)),some (.own (vO (ExcR.JP mg "Village") x b1 b2 b3 (bkH hs) (fsH ps hs) (wsH hs))),some (.own (.lsA a (UA ps hs))),none,none,none,none,none,none,none]) ?_ ?_ ?_⟩
  ·exact⟨[],Ww _,FineH.nil hF hz,rfl⟩
  ·rintro i γ' hi ⟨hs,h1,h2,rfl⟩;refine⟨x,b1,b2,b3,a,ps,hs,_,rfl,rfl,rfl,by omega,h2,.inr ⟨.wish qs[i].1 qs[i].2,rfl,?_⟩⟩;refine iteF ?_;exact⟨addH ps hs (.wish qs[i].1 qs[i].2),by have:=GY ps hs (.wish qs[i].1 qs[i].2);omega,h2.add _,rfl⟩
  rintro γ' ⟨hs,h1,h2,rfl⟩;refine⟨ns,12,rfl,by decide,by decide,fun cs hc=>?_⟩;refine⟨rfl,Xk (xs:=cs) (emb:=D.int) (fun i γ'=>∃hs:Hist,hs.length<=24+i/\FineH ps hs/\γ'=[some (.bor (.scr ns)),some (.own (m.map D.int)),some (.sh (plD ps)),some (.own (vO (ExcR.JP mg "Village") x b1 b2 b3 (bkH hs) (fsH ps hs) (wsH hs))),some (.own (.lsA a (UA ps hs))),none,none,none,none,none,none,none]) ?_ ?_ ?_⟩
  ·exact⟨hs,by omega,h2,rfl⟩
  ·rintro i γ' hi ⟨hs,h1,h2,rfl⟩;obtain⟨⟨c1,c2⟩,c3⟩:=h2.cur;obtain⟨dl,el⟩:=SA ps hs;refine⟨_,el,_,m,curF ps hs,curW hs,[dl],rfl,hM,by omega,c1,by have:=c3.1;omega,fun d=>?_,?_⟩
   ·refine⟨x,b1,b2,b3,a,ps,hs,_,rfl,rfl,rfl,by omega,h2,.inr ⟨d,rfl,?_⟩⟩;have la:=GY ps hs d;exact⟨addH ps hs d,by omega,h2.add d,rfl⟩
   ·refine⟨x,b1,b2,b3,a,ps,hs,_,rfl,rfl,rfl,by omega,h2,.inl ⟨rfl,?_⟩⟩;have la:hs.dropLast.length<=hs.length:=by rw[List.length_dropLast];omega
    exact⟨hs.dropLast,by omega,h2.back,rfl⟩
  rintro γ' ⟨hs,h1,h2,rfl⟩;refine⟨x,b1,b2,b3,a,ps,hs,rfl,rfl,rfl,by omega,h2,fun hs h1' h2 hN _=>?_⟩;clear h1' h1 hc;obtain⟨⟨c1,c2⟩,c3⟩:=h2.cur;obtain⟨dl,el⟩:=SA ps hs;obtain⟨fs,ef,lf⟩:=A7 ps hs;obtain⟨ws,ew,lw⟩:=Fm hs;have hu:∀q∈curW hs,q.1≠q.2:=fun q hq=>(c3.2.2 q hq).2;have hw:=c3.1;have ev:vilD (ExcR.JP mg "Village") (bkH hs) (fsH ps hs) (wsH hs)=vilD (ExcR.JP mg "Village") (bkH hs) (fs++[curF ps hs]) (ws++[curW hs]):=by rw[←ef,←ew]
  generalize curF ps hs=f at *;generalize curW hs=W at *;have hh:=Py f;refine⟨_,el,_,rfl,?_⟩;have nd:(Uh f).Nodup:=(KB f).imp (fun h=>QK h);have hin:∀q∈f,q.1∈Uh f:=fun q hq=>(N3 c1).mpr (YL.mpr ⟨q,hq,rfl⟩);refine⟨f,rfl,by omega,?_⟩;refine⟨f,Uh f,rfl,c1,by omega,nd,by omega,hin,fun y cs ec=>?_⟩;refine⟨_,el,_,rfl,Uh f,W,rfl,nd,by omega,fun wn hWn=>?_⟩;refine⟨rfl,rfl,bkH hs,fs,ws,f,W,by rw[←ev];rfl,c1,by omega,by omega,hu,hN,fun vs hT=>?_⟩;have ecd:D.lst (cs.map fun c=>D.lst c.2)=Kp f (Uh f):=by rw[ec]
  refine⟨f,W,Uh f,vs,wn,?_,nd,by omega,hu,F5 hu hN,hT,hWn,iteF ?_⟩
  ·show[D.lst (vs.map D.int),.lst ((Uh f).map D.int),.lst (cs.map fun c=>D.lst c.2),.lst (wn.map natD)]=_;rw[ecd]
  refine⟨rfl,rfl,bkH hs,fs,ws,f,W,by rw[←ev];rfl,c1,by omega,by omega,hu,hN,fun o hB=>?_⟩;have hol:=hB.perm.length_eq;refine⟨true,.same _,iteF ⟨o,rfl,by omega,fun ss hp hs'=>?_⟩⟩;have es:=Zc0 hB.perm hp hs';subst es;refine⟨Uh f,rfl,by omega,iteF ?_⟩;refine⟨f,W,Uh f,vs,o,wn,?_,KB f,by omega,hu,hT,hWn,hB,iteF ?_⟩
  ·show[D.lst (o.map D.int),D.lst (vs.map D.int),.lst ((Uh f).map D.int),.lst (cs.map fun c=>D.lst c.2),.lst (wn.map natD)]=_;rw[ecd]
  have epri:=Zfb c1 hB.perm;have hL:Least W (pcc f) (Uh f) (priM f o f.length):=by rw[←epri];exact⟨⟨o,hB.perm,hB.keeps,rfl⟩,hB.le⟩
  obtain⟨lv,el2,hLv⟩:=Pu.TabV.last hT;obtain rfl:=hLv.uniq hL;refine⟨rfl,rfl,bkH hs,fs,ws,f,W,by rw[←ev];rfl,c1,by omega,by omega,hu,hN,fun v hv=>?_⟩;obtain rfl:=hv.uniq hL;exact⟨_,el2,by simp,_,el2,f,o,rfl,c1,by omega,Zde c1 hB.perm,by simp,[priM f o f.length,priM f o f.length],rfl,by simp,hR⟩
end
end T
namespace T
open PySem PySem.Spec PyProof.Rows L2 Own M
def Zcp{l:PySem.W.OpenLaw}{w:World}{K:Za}{h:Heap}{mg:Str->Option Value}{fa:Addr}(X:K.In h)(G0:h.Ns mainGlobals mg)(hfa:mg "law"=some (.ref fa)){VD:Addr}(VF:PySem.W.nsIn K mainGlobals "Village"=some (some (.ref VD)))(VW:PySem.W.plainGet K VD Str.empty=true)(VX:PySem.W.hasDictIn K VD=true)(VY:PySem.W.plainOver K VD=true)(VZ:PySem.W.findIn K (.ref VD) "__setattr__"=some (some (.builtin "object.__setattr__")))(Ja:PySem.W.makesIn K VD=true)(Jb:PySem.W.keepIn K (.ref VD)=true)(Jc:PySem.W.findIn K (.ref VD) "book"=some none)(Jd:PySem.W.findIn K (.ref VD) "fields"=some none)(Je:PySem.W.findIn K (.ref VD) "wished"=some none)(a0:Pu.DI K "check_holder" Fk)(a1:Pu.DI K "check_width" Bl)(a2:Pu.DI K "check_strips" BF)(a3:Pu.DI K "holders_of" Fc)(a4:Pu.DI K "pair_cost" F3)(a5:Pu.DI K "check_neighbours" Bw)(a6:Pu.DI K "longer_paths" BO)(a7:Pu.DI K "ring_from" A2)(a8:Pu.DI K "find_ring" BC)(a9:Pu.DI K "check_no_ring" Ah)(a10:Pu.DI K "check_place" B0)(a11:Pu.DI K "sold" F1)(a12:Pu.DI K "parted" B4)(a13:Pu.DI K "united" FY)(a14:Pu.DI K "with_wish" BI)(a15:Pu.DI K "without_wish" Ac)(a16:Pu.DI K "pair_costs" A3)(a17:Pu.DI K "sets_of" Bc)(a18:Pu.DI K "without" Bx)(a19:Pu.DI K "may_lie_last" Bn)(a20:Pu.DI K "may_lie_first" F2)(a21:Pu.DI K "cost_with_last" Bt)(a22:Pu.DI K "cost_with_first" As)(a23:Pu.DI K "least_costs" Ba)(a24:Pu.DI K "cost_table" Ar)(a25:Pu.DI K "best_order" BP)(a26:Pu.DI K "least_cost" Ap)(a27:Pu.MI K VD "__init__" "Village.__init__" FT)(a28:Pu.MI K VD "strips" "Village.strips" B7)(a29:Pu.MI K VD "wishes" "Village.wishes" A1)(a30:Pu.MI K VD "check_room" "Village.check_room" FZ)(a31:Pu.MI K VD "enter" "Village.enter" SS)(a32:Pu.MI K VD "sell" "Village.sell" BU)(a33:Pu.MI K VD "part" "Village.part" Fb)(a34:Pu.MI K VD "unite" "Village.unite" Be)(a35:Pu.MI K VD "wish" "Village.wish" B6)(a36:Pu.MI K VD "drop" "Village.drop" F9)(a37:Pu.MI K VD "take_back" "Village.take_back" Fi)(a38:Pu.MI K VD "order" "Village.order" B3)(a39:Pu.MI K VD "cost" "Village.cost" FH)(a40:Pu.MI K VD "table" "Village.table" Bb)(a41:Pu.DI K "_law_at" SO)(a42:Pu.DI K "_law_whole" Ab)(a43:Pu.DI K "_law_mix" Fq)(a44:Pu.DI K "_law_draw" BH)(a45:Pu.DI K "_law_menu" Ak)(a46:Pu.DI K "_law_holder" BY)(a47:Pu.DI K "_law_row" FK)(a48:Pu.DI K "_law_present" A9)(a49:Pu.DI K "_law_price" BM)(a50:Pu.DI K "_law_no_ring" Ao)(a51:Pu.DI K "_law_no_rings" Fy)(a52:Pu.DI K "_law_pair_rows" F0)(a53:Pu.DI K "_law_least_in" F8)(a54:Pu.DI K "_law_wants" AC)(a55:Pu.DI K "_law_shows" FG)(a56:Pu.DI K "_law_first_in" Fs)(a57:Pu.DI K "_law_first" BQ)(a58:Pu.DI K "_law_field_step" Fh)(a59:Pu.DI K "_law_wish_step" Ft)(a60:Pu.DI K "_law_step" BV)(a61:Pu.DI K "_law_call" SM)(a62:Pu.DI K "_law_go" SW)(a63:Pu.DI K "_law_start" Bz)(a64:Pu.DI K "_law_days" SL)(a65:Pu.DI K "_law_odd" Av)(a66:Pu.DI K "_law_place" Bm)(a67:Pu.DI K "_law_pair" BE)(a68:Pu.DI K "_law_opening" Fp)(a69:Pu.DI K "_law_width" BN)(a70:Pu.DI K "_law_deed" Fv){f71:Addr}{od71 an71:Option Addr}{sl71:Array (Option Value)}{oc71 kV71 dc71 pm71 cd71 ct71:Value}(a71:PySem.W.nsIn K mainGlobals "law"=some (some (.ref f71)))(l71:K.lookup f71=some ⟨oc71,od71,.func (PySem.W.fnOf "law" "law" (Ka Ko) (UZ Ko) (JR Ko) .none kV71 dc71 pm71 an71 cd71 ct71),sl71⟩)(c71:PySem.W.codeIn K cd71 "law"=true)(k71:PySem.W.keepIn K (.ref f71)=true)(Jf:PySem.W.nsIn K mainGlobals "any"=some none)(Jg:PySem.W.nsIn K mainGlobals "bool"=some none)(Jh:PySem.W.nsIn K mainGlobals "int"=some none)(Ji:PySem.W.nsIn K mainGlobals "isinstance"=some none)(Jj:PySem.W.nsIn K mainGlobals "len"=some none)(Jk:PySem.W.nsIn K mainGlobals "list"=some none)(Jl:PySem.W.nsIn K mainGlobals "max"=some none)(Jm:PySem.W.nsIn K mainGlobals "min"=some none)(Jn:PySem.W.nsIn K mainGlobals "range"=some none)(Jo:PySem.W.nsIn K mainGlobals "set"=some none)(Jp:PySem.W.nsIn K mainGlobals "sorted"=some none)(Jq:PySem.W.nsIn K mainGlobals "sum"=some none)(Jr:PySem.W.nsIn K mainGlobals "tuple"=some none){Jx:Tok}(Js:PySem.W.nsIn K mainGlobals "HOLDERS"=some (some (.int 10 Jx))){Jy:Tok}(Jt:PySem.W.nsIn K mainGlobals "STRIPS"=some (some (.int 40 Jy))){Jz:Tok}(Ju:PySem.W.nsIn K mainGlobals "WIDEST"=some (some (.int 1000 Jz))){J0:Tok}(Jv:PySem.W.nsIn K mainGlobals "MOST_WISHES"=some (some (.int 20 J0))){J1:Tok}(Jw:PySem.W.nsIn K mainGlobals "MOST_DEEDS"=some (some (.int 100 J1))){J2:Addr}(VG:Pu.EI K "TooManyStrips" J2){J3:Addr}(VH:Pu.EI K "BadHolder" J3){J4:Addr}(VI:Pu.EI K "BadWidth" J4){J5:Addr}(VJ:Pu.EI K "NoStrip" J5){J6:Addr}(VL:Pu.EI K "OwnStrip" J6){J7:Addr}(VM:Pu.EI K "BadPart" J7){J8:Addr}(VN:Pu.EI K "UnlikeHolders" J8){J9:Addr}(VO:Pu.EI K "TooWide" J9){JA:Addr}(VP:Pu.EI K "LikeHolders" JA){JB:Addr}(VQ:Pu.EI K "WishStands" JB){JC:Addr}(VR:Pu.EI K "TooManyWishes" JC){JD:Addr}(VS:Pu.EI K "NoWish" JD){JE:Addr}(VT:Pu.EI K "BookFull" JE){JF:Addr}(VU:Pu.EI K "NothingDone" JF)
  : ∃fd:FuncData,(∀(s:Shared) (v:Value),BindsTo s fd ⟨[v],[]⟩ [("_law_script",v)])/\∀base:Heap,K.In base->base.Ns mainGlobals mg->FnOk l.prog w K mg base CX0 8 fa fd ["_law_script"] (Pu.Fu K):=by
 have e:=hfa.symm.trans (Wu X G0 a71);cases e
 have VE:=ExcR.Dm (Wu X G0 VF);have G:Glob K mg:=⟨Wd X G0 Jf,Wd X G0 Jg,Wd X G0 Jh,Wd X G0 Ji,Wd X G0 Jj,Wd X G0 Jk,Wd X G0 Jl,Wd X G0 Jm,Wd X G0 Jn,Wd X G0 Jo,Wd X G0 Jp,Wd X G0 Jq,Wd X G0 Jr,⟨_,Wu X G0 Js,⟨_,rfl⟩⟩,⟨_,Wu X G0 Jt,⟨_,rfl⟩⟩,⟨_,Wu X G0 Ju,⟨_,rfl⟩⟩,⟨_,Wu X G0 Jv,⟨_,rfl⟩⟩,⟨_,Wu X G0 Jw,⟨_,rfl⟩⟩,(VG.m X G0),(VG.k X G0),(VH.m X G0),(VH.k X G0),(VI.m X G0),(VI.k X G0),(VJ.m X G0),(VJ.k X G0),(VL.m X G0),(VL.k X G0),(VM.m X G0),(VM.k X G0),(VN.m X G0),(VN.k X G0),(VO.m X G0),(VO.k X G0),(VP.m X G0),(VP.k X G0),(VQ.m X G0),(VQ.k X G0),(VR.m X G0),(VR.k X G0),(VS.m X G0),(VS.k X G0),(VT.m X G0),(VT.k X G0),(VU.m X G0),(VU.k X G0),(by rw[VE];exact Wu X G0 VF),(by rw[VE];exact⟨VW,VX,VY,VZ⟩),(by rw[VE];exact Jc),(by rw[VE];exact Jd),(by rw[VE];exact Je)⟩;have F71:=FE (st:=Ko) l71 c71 k71;have b71:=F71.binds (ps:=["_law_script"]) fun _ _ _ _ _ _ us hl=>by obtain⟨_,rfl⟩:=Pu.len1 hl;rfl
 have D71:Def K mg "law" Ko ["_law_script"]:=⟨_,_,F71,Wu X G0 a71,b71⟩;refine⟨PySem.W.fnOf "law" "law" (Ka Ko) (UZ Ko) (JR Ko) .none kV71 dc71 pm71 an71 cd71 ct71,fun s v=>.of_eq rfl,fun base _ _=>?_⟩;have C0:=@LN l.prog w K mg base G (a0.e X G0);have C1:=@HE l.prog w K mg base G (a1.e X G0);have C3:=@Rq l.prog w K mg base G (a3.e X G0);have C4:=@Zay l.prog w K mg base G (a4.e X G0);have C5:=@Zaq l.prog w K mg base G (a5.e X G0);have C6:=@Zdg l.prog w K mg base G (a6.e X G0);have C10:=@Zce l.prog w K mg base G (a10.e X G0);have C15:=@HI l.prog w K mg base G (a15.e X G0);have C17:=@Rx l.prog w K mg base G (a17.e X G0);have C18:=@Mw l.prog w K mg base G (a18.e X G0);have C19:=@MP l.prog w K mg base G (a19.e X G0);have C20:=@OS l.prog w K mg base G (a20.e X G0);have C28:=@Zaj l.prog w K mg base G (a28.e VE);have C29:=@Zdd l.prog w K mg base G (a29.e VE);have C30:=@R4 l.prog w K mg base G (a30.e VE);have C31:=@OH l.prog w K mg base G (a31.e VE);have C37:=@O9 l.prog w K mg base G (a37.e VE);have C41:=@Mb l.prog w K mg base G (a41.e X G0);have C42:=@OZ l.prog w K mg base G (a42.e X G0);have C43:=@HF l.prog w K mg base G (a43.e X G0);have C45:=@Zdr l.prog w K mg base G (a45.e X G0);have C46:=@Zau l.prog w K mg base G (a46.e X G0);have C48:=@Ie l.prog w K mg base G (a48.e X G0);have C49:=@Zac l.prog w K mg base G (a49.e X G0);have C50:=@Rm l.prog w K mg base G (a50.e X G0);have C52:=@Za5 l.prog w K mg base G (a52.e X G0);have C53:=@Zan l.prog w K mg base G (a53.e X G0);have C54:=@Zaf l.prog w K mg base G (a54.e X G0);have C56:=@Mo l.prog w K mg base G (a56.e X G0);have C58:=@Zba l.prog w K mg base G (a58.e X G0);have C59:=@MX l.prog w K mg base G (a59.e X G0);have C65:=@Ou l.prog w K mg base G (a65.e X G0);have C66:=@Lk l.prog w K mg base G (a66.e X G0);have C69:=@Zer l.prog w K mg base G (a69.e X G0);have C2:=@Oo l.prog w K mg base G (a2.e X G0) C0 C1;have C7:=@Zev l.prog w K mg base G (a7.e X G0) C6;have C11:=@Zbu l.prog w K mg base G (a11.e X G0) C10 C0;have C12:=@Mz l.prog w K mg base G (a12.e X G0) C10;have C13:=@Ih l.prog w K mg base G (a13.e X G0) C5;have C14:=@Lb l.prog w K mg base G (a14.e X G0) C0;have C16:=@LR l.prog w K mg base G (a16.e X G0) (Sj C3) C4;have C21:=@Ip l.prog w K mg base G (a21.e X G0) C18;have C22:=@Zdv l.prog w K mg base G (a22.e X G0) C18;have C36:=@Zas l.prog w K mg base G (a36.e VE) C30 C15 C31 C29 C28;have C44:=@HL l.prog w K mg base G (a44.e X G0) C43 C41;have C47:=@Zc9 l.prog w K mg base G (a47.e X G0) C42;have C55:=@Om l.prog w K mg base G (a55.e X G0) C42 C53;have C57:=@Zdh l.prog w K mg base G (a57.e X G0) C56;have C60:=@Ro l.prog w K mg base G (a60.e X G0) C58 C59;have C63:=@Zca l.prog w K mg base G (a63.e X G0) C41 C43 C46;have C64:=@On l.prog w K mg base G (a64.e X G0) C43 C41;have C67:=@Of l.prog w K mg base G (a67.e X G0) C65 C46;have C8:=@Rl l.prog w K mg base G (a8.e X G0) C7;have C23:=@Zbf l.prog w K mg base G (a23.e X G0) C17 (Sj C3) C19 C21;have C27:=@Oa l.prog w K mg base G (a27.j VE Ja Jb) C2;have C32:=@Zc4 l.prog w K mg base G (a32.e VE) C30 C11 C31 C28 C29;have C33:=@Lu l.prog w K mg base G (a33.e VE) C30 C12 C31 C28 C29;have C34:=@Oq l.prog w K mg base G (a34.e VE) C30 C13 C31 C28 C29;have C35:=@Zew l.prog w K mg base G (a35.e VE) C30 C14 C31 C29 C28;have C68:=@LC l.prog w K mg base G (a68.e X G0) C43 C41 C67 C46;have C70:=@LS l.prog w K mg base G (a70.e X G0) C66 C67 C65 C69 C46;have C9:=@IJ l.prog w K mg base G (a9.e X G0) C8 (Sj C3);have C61:=@Zeo l.prog w K mg base G (a61.e X G0) C36 C32 C33 C34 C35;have C24:=@Zfl l.prog w K mg base G (a24.e X G0) C9 C23 C16;have C25:=@RQ l.prog w K mg base G (a25.e X G0) C9 C16 C23 (Sj C3) C18 C20 C22;have C62:=@HR l.prog w K mg base G (a62.e X G0) C60 C61 C42 C37;have C26:=@Zdz l.prog w K mg base G (a26.e X G0) C24;have C38:=@Zel l.prog w K mg base G (a38.e VE) C25 C28 C29;have C40:=@Ic l.prog w K mg base G (a40.e VE) C24 C28 C29;have C51:=@OF l.prog w K mg base G (a51.e X G0) C50 C48 C62;have C39:=@IM l.prog w K mg base G (a39.e VE) C26 C28 C29
 have C71:=@MC l.prog w K mg base G D71 C45 C63 C27 C68 C64 C48 C52 C54 C40 C38 C47 C44 C51 C55 C57 C62 C39 C49 C41 C70;exact(C71.at (Wu X G0 a71) F71 D71).imp fun _ _ _ _ z=>Pu.MB z
end T
structure PySem.W.Fast:Prop where (tw8115314265161049025 tw11708166730449034272 tw4797366166749126752 tw12404496466801596608 tw6288188636927823072 tw6741118174891399392 tw4830874187199188224 tw1967502185075800384 tw15555342362319765856 tw17832347973790750048 tw10754114706424907136 tw17592910001292331392 tw12760716463058111904 tw16672020679370085856 tw11632104081554140640 tw2885700552693544480 tw3749158232804049472 tw16628006022548885088 tw7979651323316339328 tw17999129833500553856 tw9168351419047591680 tw17280246659342365472 tw13056136226662452064 tw17191319008435355488 tw7165495009196497824 tw18310052356974129120 tw12293639979392684000 tw11017417045251603489 tw4410916330061055105 tw17090239523546933441 tw11387759056028059905 tw6734100562561270049 tw9240941360385197345 tw5797204491742584097 tw18243498359012915489 tw11994073786857034049 tw8979736866251746721 tw10657728627470082497 tw15822919753657435649 tw11204185475061893729 tw4926077757427768929 tw6789513698959411937 tw10941885791608481569 tw3799888261487841057 tw17031413100981700449 tw4676202290826373985 tw5855639357372216225 tw4545764017858006945 tw7512439482466373698 tw6540396569797179458 tw3026151834633374818 tw1694992891717526626 tw168895116121736322 tw1673316036787875970 tw396550498654600322 tw15369970487618325634 tw11661642539407962306 tw4041856981207429346 tw17125800295517202690 tw17281345710210340098 tw14237323955917305122 tw17807022586065172770 tw12680954482034439458 tw14513079211739189570 tw6412847979273851394 tw15037968504015620642 tw4283784643737984546 tw2379272180860340770 tw14662400630567411266 tw4470944406654133826 tw3612320131343788642 tw797284851370964578 tw3363781232761282178 tw6047942602901807778 tw6733025692718619426 tw7157573692493685602 tw13785969712562129794 tw11680982319275257762 tw8176965677413469154 tw13887958700844242914 tw15119885405137207266 tw7163170856388450307 tw13320898251607622691 tw8464477461724326947 tw4171600160817536067 tw5136786522114757731 tw9613901215684810851 tw12670396258968773827 tw11409220401853062403 tw12590335964705333571 tw15932780112437800323 tw15492845231303593379 tw2511382796990691747 tw11310276509965665731 tw9849603698278503907 tw3479102444467473955 tw9464943471754499619 tw4318273954366029347 tw11895704273901106787 tw965428058410500707 tw585415541668082371 tw16474267789536511715 tw10621856211762302691 tw5832695543814820611 tw3219026906639627011 tw10587802613384254275 tw15060661263723174723 tw15036294893518499747 tw78198601424469923 tw5208606161442575299 tw14790799782236900323 tw777689392171941859 tw16431853333167768580 tw14389466328159129604 tw6616952955711802372 tw5968061073849312260 tw11171225837571308644 tw295021051304231044 tw375713620724041860 tw1630433530626756740 tw5445666193414096036 tw7645268470390102180 tw12428495493312831652 tw16520391779991489764 tw346434798592168228 tw601074824453775812 tw6777333871400334820 tw224719337823465988 tw10544781693433739780 tw6326122356027794980 tw13167013904190409284 tw3221417256617383524 tw17833396538777683556 tw14354879466765907556 tw6681012779257666180 tw10444927446362709700 tw8754595616330300164 tw2125359420578099012 tw10747839926529931108 tw18435708709194910564 tw1830624392228411268 tw768536835398215717 tw8739063973064276005 tw5234787652912983109 tw8114695015547159685 tw10957787119172449413 tw8369874434908361893 tw15474015801605412005 tw16016092077147587781 tw11559714537472416005 tw12578321535307202853 tw1352186428004976933 tw17214320991224851909 tw12814827783125915109 tw16531230345551468005 tw9266064559593608741 tw13116703274097982021 tw1495821219077177925 tw15769801492234474117 tw1328881859289192101 tw15071665631644993221 tw5956056279875031781 tw14165416101981305573 tw8193730950891047685 tw1535551391643181829 tw12825802427790942981 tw4149082312904726309 tw12578783642793355109 tw11419074696072869797 tw8334726619116124069 tw8629905186693413894 tw10308444140316659750 tw12559536506602037286 tw14604555438666503206 tw3587324882215714886 tw11298872077905655942 tw5614200270799803558 tw12070501139275127974 tw5725994248345702598 tw16856803469466141926 tw2287886370630158566 tw8924416797699664166 tw9544871309597262150 tw340286376746699078 tw14860296949083025766 tw8097141502770829766 tw8721658482203245030 tw2384162674646597158 tw13992341438579114566 tw8498415055767399078 tw10277201509121157894 tw17493279711416783686 tw11079395274259187558 tw15420731942301657958 tw12565421544872669062 tw13020587347014737862 tw14118325815133271014 tw11468951165881157671 tw6031148341160588327 tw12178636786141359207 tw3115353899775536263 tw990020603378034855 tw13753759497142588615 tw15774573185838648551 tw9476377331782655303 tw7692344312381711687 tw1034345873279390055 tw10141932117719228839 tw17037743796049394087 tw17260159668391747079 tw17371625551674412615 tw16162789268419254855 tw8253784249457057383 tw4443267694344708871 tw5513906310949060359 tw7917829869731512071 tw1764111969529178951 tw7249813150766380871 tw6930095977608296295 tw9010852161125050215 tw3371989677819500423 tw17035561917659071367 tw17407082866437573543 tw671989760783365063 tw3100753296717043655 tw11710428080801670087 tw16691671776162997223 tw17044944479858463848 tw13396653003615713416 tw17171702588174558344 tw7696618594138587304 tw16813984957054477480 tw10621412961081541832 tw4658294576028409032 tw14035341366135703816 tw13918201131137095944 tw11521610370401656072 tw692916705903245576 tw442455854136822056 tw2378120784393324872 tw16954308839874876744 tw224192692899383656 tw10143743523393870216 tw4509199087249113512 tw16028617397770588616 tw1770308886859515368 tw7205338028164449768 tw9490240296888594920 tw17295132302438072872 tw11266049367321839144 tw14676362135137223272 tw16479637401558877800 tw8111855487979689576 tw1201283865927030376 tw3174027308131104360 tw8912368409345538696 tw1736265912932047560 tw1898763807670338312 tw11185208731459098376 tw7296581431785609000 tw11906564258056698664 tw8629262193765456712 tw13459939957483137864 tw12504414176416057192 tw6001815277769471944 tw9192316929061487592 tw13503451337883198440 tw4992333953596810281 tw13677488576083080265 tw2217249109035852905 tw1287548364500298985 tw11420814825456076073 tw18430364590417036585 tw14377527813186984361 tw13827545888414551465 tw3401510895529262505 tw8980381825963678153 tw7287275473834525193 tw5753348496259832361 tw16928807655383483977 tw879338861010278985 tw11566858465334046313 tw2411281374084834985 tw1049429665942192809 tw13363048699981458153 tw4737629210116924297 tw14750080385766732745 tw4250323031433197545 tw1196036350009169930 tw8660657297141067818 tw2916676358932165674 tw1842205607204454506 tw8116044696074159274 tw15233517654952569002 tw8460538830571602122 tw5154686054379630794 tw9483532361016769738 tw11854898096430161226 tw6915243745940419914 tw11799144297468035466 tw7068603828235833802 tw11235985824065458730 tw17202096990808651306 tw4877615127165648426 tw17368695473739387434 tw10334567896454105674 tw9631333033546058314 tw10125861348528722538 tw14439049479692098154 tw1379196009478638186 tw2187621837928876682 tw14205231154974915370 tw15487560019558862666 tw8963623680837933898 tw5901806577822361418 tw7006091740705547146 tw17325310315171166154 tw4611791822047540170 tw5405133457001445322 tw16837582572375241739 tw5378808699102801995 tw8638740183026390091 tw15590362720272459883 tw4542230486342371467 tw300784063753003147 tw7939747542785442955 tw845440985449366699 tw8740985449867075787 tw7240856518661314827 tw14646269741306063115 tw5486092922115277131 tw17933437694045441355 tw8301087262220785003 tw12644247050222107019 tw18135469689756980651 tw2387658647365161419 tw836040665420316107 tw3258846860602849835 tw3224922527840259627 tw17645129575456395883 tw9462549140180066923 tw8790253672965931659 tw16877262372640591563 tw3161628996273010443 tw13570156670403681067 tw13964909185403043627 tw483873960825395019 tw9234302316442721099 tw11297466984690744139 tw17213543777096748939 tw7499359825112568747 tw305678240968476684 tw14387684801403769868 tw13058022328143489068 tw4072848677161874508 tw14479108044944525420 tw4101948141481821324 tw9568225224430866604 tw6952376263634505932 tw10530527684829964492 tw2152522135773722860 tw2977472780195320076 tw9875785711033920844 tw8457533630586202476 tw5248770545802719596 tw8423105993037384076 tw10763711087466090892 tw12156176321228623308 tw11419840778633296396 tw10792548111156136524 tw13536966875521015404 tw14294983387627058796 tw9135798103654115980 tw16681682231782978188 tw7729402970671303308 tw9997608671594567340 tw3791016065110583052 tw8915247052635557708 tw9755598751836439404 tw9431479908162635628 tw16924817064421063532 tw10760544037657250732 tw4417958689158289388 tw6807160209626435597 tw9527300431538790413 tw9874490585804789805 tw834901216620399693 tw16981650177449817197 tw1345444376740361325 tw7885620383952238701 tw157230077772673229 tw4477719367341504781 tw11633441414346442029 tw14337601380879044941 tw13925941559102430541 tw6653937016177194445 tw947093068442841613 tw9543514990449502829 tw1051111747742025389 tw17719692496900239053 tw2118320354809640653 tw1226053075341949677 tw17328360187661662957 tw15158625695141480205 tw6359655348137023245 tw17982944517209626445 tw12118798034306042733 tw2547875587385449325 tw8155465161207199629 tw8838336536118691757 tw12061606240936734637 tw15498113498070401070 tw9143348776904620206 tw10315332177232511214 tw1922097541824990446 tw1642709047766325550 tw16159298697357801806 tw16321697760248201614 tw17363982678878611886 tw18211790851291121102 tw15802384994034585038 tw7797353200164675022 tw11473718773363981838 tw16372142990940227086 tw7398335649524314638 tw3414674246681398862 tw1575682938870980206 tw1366440202310381198 tw16425721958063485614 tw14381337389315260078 tw9453432951208293070 tw13757533983559356174 tw1796302815671401230 tw3537950351029541678 tw12668463304366946158 tw12390039679731659662 tw2527764963798617006 tw2812277175535861710 tw294632904262610926 tw9028891880482372590 tw15909552486357566511 tw8840604258918579247 tw676972899859497039 tw8197582580166691919 tw11683728419938808975 tw3296647686465353903 tw14944701820646208719 tw17299181434325840143 tw16310196157635846415 tw2837174110026470703 tw15637035058763070799 tw12815290215216563567 tw3828602539046836623 tw11400028567486100911 tw9385269825381614031 tw4636629501223892463 tw7494712254315730447 tw3583672549146301967 tw1118731278135951919 tw13813875901735738927 tw10423395303290727983 tw4197768492075314767 tw8819767082645886575 tw704342439926983279 tw6978153531401378447 tw18167116846483486351 tw14131059608522395311 tw5053358350744787631 tw10596943680495206127 tw9927201135541725103 tw2414619886427033551 tw17084884819447790575 tw17727830354007916560 tw6396420611206319120 tw17014538609928524848 tw13073788484138489040 tw2162142185314948368 tw17487859252333846800 tw10094482328079486288 tw8340769036859566544 tw852943103094168048 tw17348850331095792144 tw1011855592479359664 tw15032219973507431088 tw3355480159429556944 tw9936861195479838448 tw7898923146301254416 tw1891632709930857392 tw34758519212242864 tw10725050326762947536 tw17167869702827698128 tw4276357292241184720 tw14497991224432172016 tw3424332807684932625 tw9677505432974848017 tw16982571912559424529 tw815789040455302225 tw16508183148881440881 tw8619140657297221809 tw7378955560488088785 tw1209905866580573393 tw14087321718548530481 tw11151720314435442993 tw11612354962110185841 tw15160917200239545713 tw1667516609157760401 tw4369999363027158417 tw16243497707443376529 tw6468289149545143697 tw17387500108462552465 tw6465196396375057841 tw11146057844807092657 tw16452564468247322033 tw7505429001321666001 tw14047439022679076337 tw382861759665534513 tw4161987214917178961 tw5468439815703863889 tw304766360170901137 tw9052194454762396337 tw13218726546325253873 tw9768711773882715921 tw6062024657853418289 tw4973023252311316337 tw2179874722375887729 tw8242726749284750225 tw7531814612753118097 tw2197575444776644626 tw16088969048444998706 tw7829999948932751410 tw349555906270102834 tw14169008545623630130 tw11101872691296096594 tw11365720605524567442 tw11565322591450597938 tw12299120289758684722 tw5988179928533086770 tw17275691135475719762 tw16266421130746277586 tw8766367019819377394 tw14328791597542950642 tw12641393056405050098 tw9056027035665677074 tw15637644033359897362 tw14837440571003322194 tw5877932188332605266 tw1281205132261950418 tw6347658948844164050 tw6022095980654493715 tw5705730584166892595 tw10525539318050704435 tw8582114928830683219 tw16235305661304227923 tw11675985604720998515 tw13279279422533615731 tw1467778342379977843 tw9300195378509883571 tw644595655030166739 tw2250786958816732435 tw8376605490550701363 tw1173649669120427379 tw6877079214279497075 tw3895242060154477107 tw14710107142467826259 tw9776546045384120915 tw14566686420992809555 tw15398471175588532851 tw13823146006460908179 tw701253192399715987 tw9688385295923974867 tw16764823491106361043 tw10845954640736103187 tw11404129589473495827 tw470342680434106131 tw9734789904549188499 tw1369747335032086548 tw8956541654925982740 tw16019071400195593268 tw17427397376689231924 tw17458052746335084628 tw14215530490029148308 tw9623143989541441748 tw1801689235263883604 tw149228129864168820 tw14719628806095506868 tw4209510285965987284 tw3221778743040487956 tw5590360838659101204 tw15019689687230206516 tw3854691795257796212 tw4208978459159082644 tw8871999355096085172 tw14646312830060051124 tw6028420143793046228 tw4056300899078051540 tw15603210414247272180 tw17778790186500917012 tw8699492029092980532 tw529692168122188692 tw3772857003630976916 tw8872809756606956468 tw17452557791423448020 tw4465143758890884084 tw6386859860859963413 tw13452544602633089109 tw11381580103656655957 tw16576110651197658229 tw269448073660320917 tw9872652370968007829 tw13447254045540797621 tw6399042982728768757 tw10367330483810770197 tw1637597553982950677 tw11558545848938106165 tw14914429981517869365 tw4569809615770010965 tw6171005050397918645 tw5666645025886981589 tw14881582786351182357 tw6799873343328999989 tw532071637317258901 tw12297978336294504117 tw14369268950533517045 tw10451981954975602453 tw3355448097250332469 tw4438006851798717237 tw2104672768850278229 tw1291828360037126997 tw4036130152477342581 tw17376104327312174965 tw7933247606039991189 tw3998529001924084661 tw11513941458286896150 tw11291043779420859446 tw3455889687727214678 tw15280473900506485878 tw15235116605914981494 tw16836388790393369750 tw16556801854518234326 tw17168272239863970038 tw7660488319267653878 tw9573966075623972214 tw15898452328345921910 tw1410616447595071894 tw4318622582890682774 tw9092315472826885526 tw16741193235736472054 tw18321604987131481590 tw7399616843551537718 tw9533969502196300374 tw2324130009265454710 tw15437014691515841174 tw10977015210084091606 tw6781829943183338198 tw1586020789627087574 tw5606044391420780278 tw11302703309405171510 tw11509191477073808214 tw149010275004736342 tw4808890235292394358 tw13776293393756303222 tw303366494501590934 tw15044073654542563222 tw15685505670106771382 tw5872343238097702935 tw3100104794534997015 tw3343451796893114423 tw8374224117744283703 tw8293574728272922711 tw15182475095840931991 tw6201698073203449047 tw11245925418304555255 tw1085760603082017239 tw4688138371518322167 tw1097170107394036279 tw17461649217652886167 tw17182490045918689015 tw13643832595047866135 tw1932235414257397527 tw16423721789245068119 tw14767202780151280503 tw17942423951964601271 tw15050279001967560663 tw8850103291618176983 tw1000950110210729016 tw1330472442334466104 tw17922789441596057688 tw10741681709308256440 tw5595615475893417144 tw11809299178810593464 tw1524009845586488504 tw14275503430569401560 tw14506531146814469336 tw4819473241692638456 tw7004769051347039608 tw1912407072378678744 tw8646912940425451000 tw12791500094591597048 tw11866396908064198168 tw4043658696475559480 tw4930427269855117912 tw17781892036740787800 tw7186092492428835416 tw4023035355496087128 tw5648846731541839544 tw11587203974415885048 tw3283327008525054744 tw3514966999708573496 tw2568245354419553112 tw11989794404690036568 tw3844989143834661720 tw526750415874958200 tw14191944328518309784 tw6781643902692399000 tw726984408844592024 tw3704217443170761656 tw8475410463759230904 tw17887254197429441496 tw5241297186972276761 tw13506358164763303993 tw13906166466932972665 tw16294527263856443513 tw15048159993869290617 tw12507323882322237593 tw893734828745391321 tw9317525777836199225 tw6062320165387031865 tw11110579380429556057 tw15984286294278670681 tw14088135770260388249 tw10908264603961985465 tw10526422866683355577 tw10061748011851608505 tw2772623439884836313 tw7540806849913006585 tw11203561559029958201 tw1096045997270521433 tw11082199040013589081 tw4058215792663122585 tw13672552931942347513 tw416062697894006521 tw7523542382424643321 tw16506758884807538425 tw12106006439654301465 tw2174866072759841657 tw11826771088750063545 tw3401438376397458361 tw14384691767540002809 tw10907727969432444986 tw13092319329787013178 tw5692505496403019866 tw481071035724585050 tw10941783925942110330 tw10575923885906450586 tw868764352208171194 tw17839299292087271642 tw1535039935880384762 tw1679024015116308794 tw13917941208756968762 tw4751515250108516698 tw5914983789033059674 tw11631212585325655418 tw18217928916760832410 tw12563188535860653466 tw7910957440897045946 tw5939552787122799066 tw8426251685473181178 tw9543286657877397050 tw14633468296115711642 tw739438405607626490 tw5964641137581495066 tw5434471550171646810 tw16050978673622889306 tw5103506816928859994 tw16337307324663403386 tw2660727297241061242 tw9956277987176343418 tw8142317006539162522 tw8813405239277074330 tw10203841132363068378 tw5791735098840621083 tw8810911308286711899 tw2358396251157607547 tw12573395093589612667 tw3418943297839321243 tw14642475410869251227 tw5215596916809818299 tw15030449460321137883 tw11737208224489048347 tw17016861396302083387 tw5879690890001137019 tw15695456049539890555 tw2713584044310660539 tw17707781249235541563 tw13078693201691663931 tw6001580897305358907 tw5217273739669687899 tw10412368851692331643 tw2405740600999028347 tw8523412960968855163 tw8201736458431495803 tw4635729644528552603 tw9034321667192857275 tw803614288904213179 tw17114342388779984603 tw14382542201731885819 tw17148507499560745819 tw13647612005229613915 tw3396085668278665051 tw16043549551561485211 tw5532398581078387611 tw15202326106041562107 tw11100519441269472251 tw8577600864400917499 tw10550426935238598684 tw6287532402668795932 tw7561726334329309244 tw9911512262849088572 tw13325978219278358716 tw10092189511356775612 tw11673031501544562972 tw4364366374339630428 tw16967292968474866044 tw8124077467667826076 tw9463448028204374460 tw6980483695861526972 tw9297937729190362556 tw7206513450183626204 tw15352197794482524668 tw4972899638810747420 tw1004564855920632348 tw12640196849928585756 tw5625816308172015132 tw6600418637414288924 tw2333399937212001852 tw6229363657186174556 tw10701090016310748828 tw17420599722666206940 tw9683819960140818204 tw11203184461411514140 tw14510475061395010396 tw12488149314723348316 tw13409391612982730620 tw9641419450735460220 tw11079907226514955196 tw17962229757883162620 tw12620282728679234653 tw9526325463513394269 tw14754752234902097021 tw14667895521969913981 tw2493067111646822557 tw449448893279231133 tw17322581764288958653 tw7233902356124600541 tw13799929378010864861 tw12014900357381469405 tw4170304729297564893 tw4585259751643301117 tw4150181509938639101 tw5724554326486681885 tw2151719276725315933 tw11753297043915567453 tw11515882551976691069 tw13772500878517250461 tw13058481966615635421 tw16358499212633435613 tw364787652739880445 tw3824823713540265501 tw16713943308042860061 tw5347565943185804861 tw6997772615647381053 tw7883445634657779261 tw1609698118503760509 tw7845844901585827453 tw3378691400456797821 tw13789950641312465565 tw12530268493138252445 tw263313462032081629 tw3569541879299026653 tw9579948716356088573 tw15799824014968274685 tw14893998634544593661 tw9238281829394449181 tw1661642351523339037 tw15508591421318406973 tw13623046728964527965 tw2523849575506619261 tw12648931704825442173 tw3487195346277496701 tw16773945618148227965 tw13931321966462678973 tw11398661037610453949 tw4055437716731910077 tw18232541126039445469 tw17936107913277314045 tw5193953631037038589 tw817844310350340093 tw7347544827734012925 tw3192670487027689598 tw1766736999782242430 tw13245686965252136126 tw10285144204796354750 tw3373962677843706078 tw10353077104337409278 tw6146229375184289054 tw8450812116117934462 tw8932250566059955614 tw1566802966083776958 tw6382422374499351998 tw3071882738521446878 tw8533183224316403166 tw16644066543136422430 tw16951397766870306398 tw15375059543764019806 tw14399354628046973598 tw14373109725683997374 tw13768460977419786046 tw3938415648459986878 tw8908029047016454078 tw9824245100725414943 tw4600773069802820703 tw883478566083516543 tw12212877668241194175 tw5551054027747001567 tw9080224857945711839 tw5994221376385547487 tw14846633058634138879 tw6907261633887551743 tw2393968149780624639 tw477189165420898655 tw12368366217154473375 tw6354299449917740479 tw5386893681708490175 tw1106310911476467167 tw9564684313481349599 tw6431606280582230495 tw15301892919212477023 tw17040219583029786207 tw7461566687315687039 tw12892496687944323967 tw5392292711595314079 tw11680279547540724671 tw7607409952077175807 tw3614214893226057727:True)
open PySem PySem.W PyProof.Rows
set_option maxRecDepth 100000 in
set_option maxHeartbeats 0 in
theorem PySem.Challenge.cw_stripmeld_k39_whole_table_holds : PySem.Challenge.rw_stripmeld_k39_whole_table.Holds := by
 w_on;o_law;k_head;(case hw=>w_witness2)
 k_fill
 refine L2.Zcs (l:=PySem.Challenge.rw_stripmeld_k39_whole_table) (n:=63) (k:=8) (x:="_law_script") (CX:=L2.CX0) (sp:=Pu.Fu) rfl (by decide) rfl ⟨rfl,by decide,by decide⟩ (fun w h Y=>PySem.W.kIn_of Y) ?F ?S ?C
 case F=>
  intro w mg fa h KX G hmg
  refine' T.Zcp KX G hmg ?VF ?VW ?VX ?VY ?VZ ?Ja ?Jb ?Jc ?Jd ?Je ?a0 ?a1 ?a2 ?a3 ?a4 ?a5 ?a6 ?a7 ?a8 ?a9 ?a10 ?a11 ?a12 ?a13 ?a14 ?a15 ?a16 ?a17 ?a18 ?a19 ?a20 ?a21 ?a22 ?a23 ?a24 ?a25 ?a26 ?a27 ?a28 ?a29 ?a30 ?a31 ?a32 ?a33 ?a34 ?a35 ?a36 ?a37 ?a38 ?a39 ?a40 ?a41 ?a42 ?a43 ?a44 ?a45 ?a46 ?a47 ?a48 ?a49 ?a50 ?a51 ?a52 ?a53 ?a54 ?a55 ?a56 ?a57 ?a58 ?a59 ?a60 ?a61 ?a62 ?a63 ?a64 ?a65 ?a66 ?a67 ?a68 ?a69 ?a70 ?a71 ?l71 ?c71 ?k71 ?Jf ?Jg ?Jh ?Ji ?Jj ?Jk ?Jl ?Jm ?Jn ?Jo ?Jp ?Jq ?Jr ?Js ?Jt ?Ju ?Jv ?Jw ?VG ?VH ?VI ?VJ ?VL ?VM ?VN ?VO ?VP ?VQ ?VR ?VS ?VT ?VU
  (case VF|VW|VX|VY|VZ|Ja|Jb|Jc|Jd|Je=>k_is)
  (case a0|a1|a2|a3|a4|a5|a6|a7|a8|a9|a10|a11|a12|a13|a14|a15|a16|a17|a18|a19|a20|a21|a22|a23|a24|a25|a26=>apply Pu.di<;>k_is)
  (case a27|a28|a29|a30|a31|a32|a33|a34|a35|a36|a37|a38|a39|a40=>apply Pu.mi<;>k_is)
  (case a41|a42|a43|a44|a45|a46|a47|a48|a49|a50|a51|a52|a53|a54|a55|a56|a57|a58|a59|a60|a61|a62|a63|a64|a65|a66|a67|a68|a69|a70=>apply Pu.di<;>k_is)
  (case a71|l71|c71|k71|Jf|Jg|Jh|Ji|Jj|Jk|Jl|Jm|Jn|Jo|Jp|Jq|Jr|Js|Jt|Ju|Jv|Jw=>k_is)
  (case VG|VH|VI|VJ|VL|VM|VN|VO|VP|VQ|VR|VS|VT|VU=>apply Pu.ei<;>first|(k_is;done)|k_exc)
 case S=>exact fun K H a ns hl hO hS=>⟨a,ns,rfl,hS,fun _=>rfl⟩
 case C=>exact fun _ _ _ _ z=>z
