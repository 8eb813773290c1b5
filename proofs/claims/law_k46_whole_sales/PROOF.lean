import PyProof.Rows.All
import Wide.All
import OpenK.AllK
import Wide.FinOn
import Lean
import PyProof.EqAt
import PyProof.EqKinds
import PyProof.TupleCall
import PySem.Challenge.RW_stripmeld_k46_whole_sales
set_option Elab.async false
set_option linter.all false
set_option maxRecDepth 100000
noncomputable section
def Yn:=@List.length_map
def Yo:=@PySem.wpAny_bind
def Yp:=@List.getElem?_eq_getElem
def Yq:=@if_neg
def Yr:=@decide_eq_true
def Ys:=@if_pos
def Yt:=@PySem.wpAny_pure
def Yu:=@PySem.Heap.get?_push_of_some
def Yv:=@List.length_append
def Yw:=@List.mem_singleton
def Yx:=@Nat.le_refl
def Yy:=@of_decide_eq_true
def Yz:=@List.zip_cons_cons
def Y0:=@List.getElem?_map
def Y1:=@List.getD_eq_getElem?_getD
def Y2:=@Option.some.inj
def Y3:=@PySem.Heap.lt_size
def Y4:=@List.mem_cons
def Y5:=@List.size_toArray
def Y6:=@List.zip_nil_right
def Y7:=@PySem.Heap.get?_push_size
def Y8:=@Nat.le_trans
def Y9:=@Bool.false_ne_true
def YA:=@List.map_cons
def YB:=@decide_eq_false
def YC:=@List.map_append
def YD:=@List.length_cons
def YE:=@List.mem_of_getElem?
def YF:=@List.getElem?_eq_some_iff
def YG:=@List.mem_cons_of_mem
def YH:=@List.getElem_mem
def YI:=@PySem.PassesOwn.never
def YJ:=@PySem.F.plainAttrs_list
def YK:=@Nat.ne_of_lt
def YL:=@List.mem_append
def YM:=@List.mem_cons_self
def YN:=@List.getElem?_append_right
def YO:=@List.mem_filter
def YQ:=@List.getElem?_append_left
def YR:=@List.mem_map
def YS:=@List.mem_append_right
def YT:=@Nat.lt_of_lt_of_le
def YU:=@Nat.add_le_add
def YV:=@Classical.byContradiction
def YW:=@List.length_singleton
def YX:=@List.nodup_cons
def YY:=@PySem.W.mg_none_of
def YZ:=@Array.length_toList
def Wa:=@congrArg
def Wb:=@Int.toNat_natCast
def Wc:=@List.append_nil
def Wd:=@List.dropLast_concat
def We:=@List.zip_nil_left
def Wf:=@List.getElem?_cons_succ
def Wg:=@List.map_map
def Wh:=@PySem.F.slot_list_append
def Wi:=@PySem.F.type_list_append
def Wj:=@PySem.Heap.get?_update_self
def Wk:=@List.length_filter_le
def Wl:=@PySem.wpAny_newObj_type
def Wm:=@Classical.not_not
def Wn:=@PySem.wpAny_mono
def Wo:=@PySem.Heap.get?_update_other
def Wp:=@Bool.and_eq_true
def Wq:=@Array.getElem?_toList
def Wr:=@List.eq_nil_or_concat
def Ws:=@PySem.W.kia_one
def Wt:=@List.length_set
def Wu:=@PySem.Obj.data_mapFields
def Wv:=@List.length_take
def Ww:=@List.lookup_cons
def Wx:=@PySem.Heap.SameBut.update
def Wy:=@PySem.W.mg_of
def Wz:=@Nat.zero_le
def W1:=@PyProof.Rows.boot_isinstance
def W2:=@List.take_succ_eq_append_getElem
def W3:=@List.filterMap_cons
def W4:=@Array.getElem?_eq_getElem
def W5:=@List.getElem?_eq_none
def W6:=@List.concat_eq_append
def W7:=@List.getElem?_take_of_lt
def W8:=@Nat.lt_irrefl
def W9:=@List.mem_iff_getElem
def WA:=@List.length_eq_zero_iff
def WB:=@List.nodup_append
def WC:=@beq_eq_false_iff_ne
def WD:=@PySem.wpAny_setField
def WE:=@PySem.Obj.isFreed_of_fields
def WG:=@PySem.F.slot_list_pop
def WH:=@PySem.F.type_list_pop
def WI:=@List.mem_append_left
def WJ:=@Nat.le_of_eq
def WK:=@PySem.F.slot_dict_valueiterator_next
def WL:=@PySem.wpAny_holding
def WM:=@PySem.wpAny_typeNameOfWhole_valiter
def WN:=@List.getElem?_replicate
def WO:=@PySem.mem_of_lookup
def WQ:=@Nat.lt_succ_self
def WR:=@PySem.wpAny_call_entry
def WS:=@List.pairwise_cons
def WT:=@PyProof.Rows.F.plain_set_update_loop
def WU:=@PySem.wpAny_passesOwn
def WV:=@PySem.codeAny_builtin
def WW:=@List.sum_cons
def WX:=@PySem.wpAny_truthy_bool
def WY:=@PySem.wpAny_setState_of
def WZ:=@Nat.lt_succ_of_lt
def Qa:=@Bool.eq_false_iff
def Qb:=@PySem.Around.under_plainId
def Qc:=@List.getLast?_concat
def Qd:=@PySem.Heap.size_push
def Qe:=@List.nodup_nil
def Qf:=@PySem.codeAny_mono
def Qg:=@List.all_eq_true
def Qh:=@PySem.wpAny_typeNameOf_valiter
def Qi:=@List.length_pos_iff
def Qj:=@List.any_cons
def Qk:=@Bool.true_and
def Ql:=@List.find?_cons
def Qm:=@List.cons.injEq
def Qn:=@List.getElem?_set_self
def Qo:=@List.take_of_length_le
def Qp:=@List.filterMap_eq_map'
def Qq:=@decide_eq_true_eq
def Qr:=@PySem.wpAny_loadPart_at
def Qs:=@PySem.W.methodCall_KW
def Qt:=@Nat.lt_trans
def Qu:=@List.filterMap_append
def Qv:=@PyProof.Rows.callWith_type1
def Qw:=@List.getElem?_set_ne
def Qx:=@PySem.W.looks_findIn
def Qy:=@List.not_mem_nil
def Qz:=@List.take_length
def Q0:=@Array.getElem?_eq_some_iff
def Q1:=@Nat.le_of_lt
def Q2:=@PySem.wpAny_Call_Name_kw
def Q3:=@PySem.F.args_tuple_add_2
def Q4:=@PyProof.Rows.F.entry_set_update_loop
def Q5:=@Bool.false_eq_true
def Q6:=@Nat.add_sub_cancel
def Q7:=@Int.add_zero
def Q8:=@Int.emod_lt_of_pos
def Q9:=@Bool.false_and
def QA:=@Nat.not_lt
def QB:=@PySem.F.entry_tuple_add
def QC:=@PySem.wpAny_callSpecial?_slot
def QD:=@List.take_sublist
def QE:=@PySem.fits_of_scanBound
def QF:=@PySem.Obj.cls_mapFields
def QG:=@Nat.le_succ
def QH:=@PySem.F.slot_tuple_add
def QI:=@Array.getElem?_eq_none
def QJ:=@Int.le_refl
def QK:=@PySem.plainId_quiet
def QL:=@List.length_drop
def QM:=@if_false
def QN:=@List.cons_append
def QO:=@PySem.F.typeOf_object_class
def QP:=@PySem.wpAny_isOneOf_valiter
def QR:=@List.getElem?_reverse
def QS:=@PySem.Heap.get?_none_of_le
def QT:=@PySem.wpAny_execs_nil
def QU:=@Bool.eq_iff_iff
def QV:=@Option.map_some
def QW:=@List.forIn_cons
def QX:=@List.pairwise_append
def QY:=@PySem.codeAny_call_builtin
def QZ:=@List.mem_of_mem_take
def Va:=@Int.emod_nonneg
def Vb:=@PySem.W.plainGet_of
def Vc:=@List.filter_sublist
def Vd:=@List.length_reverse
def Ve:=@PySem.wpAny_field
def Vf:=@List.mem_filterMap
def Vg:=@PySem.W.callWith_K
def Vh:=@Nat.lt_of_le_of_lt
def Vi:=@List.map_singleton
def Vj:=@List.any_eq_false
def Vk:=@List.append_assoc
def Vl:=@List.ext_getElem?
def Vm:=@Bool.not_eq_true'
def Vn:=@List.length_range
def Vo:=@Nat.ne_of_gt
def Vp:=@List.map_nil
def Vq:=@Int.ne_of_lt
abbrev Za:=PySem.W.Frag
namespace L2
open PySem PySem.Spec PyProof.Rows
abbrev Key:=Sum Int Str
def P8:Key->Value->Bool
 | .inl k,v=>Value.isInt k v
 | .inr x,v=>Value.isStrOf x v
def keyH (w:World):Key->Int
 | .inl k=>hashInt k
 | .inr x=>hashStr w x
def Ku:∀{k:Key}{v:Value},P8 k v=true->(∃i t,k=Sum.inl i/\v=Value.int i t)\/(∃x t,k=Sum.inr x/\v=Value.str x t)
 | .inl i,v,h=>by
  obtain⟨t,e⟩:=Value.isInt_shape (k:=i) (v:=v) h;exact .inl ⟨i,t,rfl,e⟩
 | .inr x,v,h=>by
  obtain⟨t,e⟩:=Value.isStrOf_shape (x:=x) (v:=v) h;exact .inr ⟨x,t,rfl,e⟩
def Hz (i:Int) (t:Tok):P8 (.inl i) (.int i t)=true:=by simp[P8,Value.isInt]
def HR (x:Str) (t:Tok):P8 (.inr x) (.str x t)=true:=by simp[P8,Value.isStrOf]
def Zc5 (a b:Int):decide ((Sum.inl a:Key)=Sum.inl b)=(a==b):=by
 by_cases e:a=b
 ·subst e;simp
 ·have h:¬(Sum.inl a:Key)=Sum.inl b:=fun q=>e (Sum.inl.inj q);rw[YB h];exact(WC.mpr e).symm
def LH (a b:Str):decide ((Sum.inr a:Key)=Sum.inr b)=decide (a=b):=by
 by_cases e:a=b
 ·subst e;simp
 ·have h:¬(Sum.inr a:Key)=Sum.inr b:=fun q=>e (Sum.inr.inj q);rw[YB h,YB e]
def Lf (a:Int) (b:Str):decide ((Sum.inl a:Key)=Sum.inr b)=false:=YB (fun q=>nomatch q)
def Ra (a:Str) (b:Int):decide ((Sum.inr a:Key)=Sum.inl b)=false:=YB (fun q=>nomatch q)
def Xx (prog:Program) (w:World):PySem.KeyKind prog w Key where
 is:=P8
 hash:=keyH w
 inj:=fun v a b ha hb=>by
  rcases Ku ha with⟨i,t,rfl,rfl⟩|⟨x,t,rfl,rfl⟩
  ·rcases Ku hb with⟨j,u,rfl,e⟩|⟨y,u,rfl,e⟩
   ·injection e with e1 _;rw[e1]
   ·exact nomatch e
  ·rcases Ku hb with⟨j,u,rfl,e⟩|⟨y,u,rfl,e⟩
   ·exact nomatch e
   ·injection e with e1 _;rw[e1]
 byValue:=fun k v h=>by
  rcases Ku h with⟨i,t,rfl,rfl⟩|⟨x,t,rfl,rfl⟩<;>rfl
 pyHash:=fun hv h=>by
  rcases Ku hv with⟨i,t,rfl,rfl⟩|⟨x,t,rfl,rfl⟩
  ·exact wpAny_pyHash_int h
  ·exact wpAny_pyHash_str h
 eqBool:=fun hu hv h=>by
  rcases Ku hu with⟨i,t,rfl,rfl⟩|⟨x,t,rfl,rfl⟩
  ·rcases Ku hv with⟨j,u,rfl,rfl⟩|⟨y,u,rfl,rfl⟩
   ·rw[Zc5] at h;exact wpAny_eqBool_int h
   ·rw[Lf] at h;exact SeqAt.EqAt.int_str i t y u _ _ _ _ h
  ·rcases Ku hv with⟨j,u,rfl,rfl⟩|⟨y,u,rfl,rfl⟩
   ·rw[Ra] at h;exact SeqAt.EqAt.str_int x t j u _ _ _ _ h
   ·rw[LH] at h;exact wpAny_eqBool_str h
 «strs»:=fun k x t v h=>by
  rcases Ku h with⟨i,u,rfl,e⟩|⟨y,u,rfl,e⟩
  ·exact nomatch e
  ·injection e with e1 _;subst e1;cases v<;>rfl
def Za0 (prog:Program) (w:World) (i:Int) (t:Tok):(Xx prog w).is (.inl i) (.int i t)=true:=Hz i t
def Zcv (prog:Program) (w:World) (x:Str) (t:Tok):(Xx prog w).is (.inr x) (.str x t)=true:=HR x t
inductive V where
 | non|bl (b:Bool)|int (i:Int)|str (x:Str)|byt (b:Array UInt8)|flt (b:UInt64)|ref (a:Addr)|ty (n:String)
 deriving DecidableEq
def RelV:V->Value->Prop
 | .non,u=>u=Value.none
 | .bl b,u=>u=Value.bool b
 | .int i,u=>∃t,u=Value.int i t
 | .str x,u=>∃t,u=Value.str x t
 | .byt b,u=>∃t,u=Value.bytes b t
 | .flt b,u=>∃t,u=Value.float b t
 | .ref a,u=>u=Value.ref a
 | .ty n,u=>u=Value.type n
abbrev Vals:List V->List Value->Prop:=Paired RelV
def Vals.length {xs:List V}{us:List Value} (r:Vals xs us):xs.length=us.length:=Paired.length r
def Vals.get:∀{xs:List V}{us:List Value}{i:Nat}{x:V},Vals xs us->xs[i]?=some x->∃u,us[i]?=some u/\RelV x u
 | _,_,_,_,.nil,e=>by simp at e
 | _,_,0,_,.cons r _,e=>by simp at e;subst e;exact⟨_,rfl,r⟩
 | _,_,i+1,x,.cons _ t,e=>by
  obtain⟨u,h1,h2⟩:=Vals.get (i:=i) (x:=x) t (by simpa using e);exact⟨u,by simpa using h1,h2⟩
def Vals.set {x:V}{u:Value} (r:RelV x u):∀{xs:List V}{us:List Value} (i:Nat),Vals xs us->Vals (xs.set i x) (us.set i u)
 | _,_,_,.nil=>.nil
 | _,_,0,.cons _ t=>.cons r t
 | _,_,i+1,.cons q t=>.cons q (Vals.set r i t)
def Vals.append:∀{xs ys:List V}{us ws:List Value},Vals xs us->Vals ys ws->Vals (xs++ys) (us++ws)
 | _,_,_,_,.nil,s=>s
 | _,_,_,_,.cons r t,s=>.cons r (Vals.append t s)
def Vals.take:∀{xs:List V}{us:List Value} (n:Nat),Vals xs us->Vals (xs.take n) (us.take n)
 | _,_,0,_=>.nil
 | _,_,_+1,.nil=>.nil
 | _,_,n+1,.cons r t=>.cons r (Vals.take n t)
def Vals.drop:∀{xs:List V}{us:List Value} (n:Nat),Vals xs us->Vals (xs.drop n) (us.drop n)
 | _,_,0,r=>r
 | _,_,_+1,.nil=>.nil
 | _,_,n+1,.cons _ t=>Vals.drop n t
def RelO:Option V->Option Value->Prop
 | some v,some u=>RelV v u
 | none,none=>True
 | _,_=>False
def KV {κ:Type}:List (κ×V)->List (κ×Value)->Prop:=Paired fun(p:κ×V) (q:κ×Value)=>p.1=q.1/\RelV p.2 q.2
def kV:Key->V
 | .inl i=>.int i
 | .inr x=>.str x
inductive HO where
 | lst (xs:List V)
 | tup (xs:List V)
 | dK (kvs:List (Key×V))|dT (kvs:List (List Key×V))
 | set (S:Int->Bool) (n:Nat)
 | ins (C dx:Addr) (fs:List (Str×V))
 | own (x:Addr)
 | xd (fs:List (Str×V))
 | met (f x:Addr)
 | rng (lo hi:Int)
 | frz (o:Obj) (u:HO)
 | tbl (ps:Array Value)
 | ext (φ:Heap->Prop)
abbrev Hp:=Addr->Option HO
def upd (H:Hp) (a:Addr) (o:HO):Hp:=fun b=>if b=a then some o else H b
def Uo {H:Hp}{a:Addr}{o:HO}:upd H a o a=some o:=by unfold upd;rw[Ys rfl]
def JX {H:Hp}{a b:Addr}{o:HO} (h:b≠a):upd H a o b=H b:=by unfold upd;rw[Yq h]
def IE {H:Hp}{a:Addr}{o u:HO}:upd (upd H a o) a u=upd H a u:=by
 funext b;unfold upd;split<;>rfl
def CH {H:Hp}{a b:Addr}{o u:HO} (h:H a=some o) (h':H b=some u) (d:o≠u):a≠b:=by
 intro e;subst e;rw[h] at h';exact d (Y2 h')
def X2 {H:Hp}{a b:Addr}{o:HO} (h:H a=some o) (h':H b=none):a≠b:=by
 intro e;subst e;rw[h] at h';cases h'
section
variable (P:Program) (w:World)
def ObjOk (H:Hp) (h:Heap) (a:Addr):HO->Prop
 | .lst xs=>xs.length<=sizeLine/\∃(its:List Value) (n:Nat),Vals xs its/\h.get? a=some { cls:=.type "list",data:=.seq its.toArray n }
 | .tup xs=>xs.length<=sizeLine/\∃its:List Value,Vals xs its/\IsTup h a its.toArray
 | .dK kvs=>kvs.length<=sizeLine/\(a==sysModules)=false/\∃vs,KV kvs vs/\h.DictOf (Xx P w) a vs
 | .dT kvs=>kvs.length<=sizeLine/\(a==sysModules)=false/\∃xs:List (List Key×Addr×Value),
   Paired (fun(p:List Key×V) (q:List Key×Addr×Value)=>p.1=q.1/\H q.2.1=some (.tup (p.1.map kV))/\RelV p.2 q.2.2) kvs xs/\
   ∃o es ep,h.get? a=some o/\o.ExactDict/\o.data=.dict es ep/\es.toList=xs.map (entryOfKey (tupleKind (Xx P w)))/\(xs.map (·.1)).Nodup
 | .set S n=>h.SetOf (intKind P w) a S n
 | .ins C dx fs=>H dx=some (.own a)/\fs.length<=1000/\dx≠a/\h.get? a=some (PySem.W.instObj C dx)/\
   ∃mA,h.Ns1 dx mA/\(∀f,RelO (fs.lookup f) (mA f))/\PySem.Within mA (fs.map (·.1))
 | .own _=>∃o,h.get? a=some o
 | .xd fs=>∃mA,h.Ns1 a mA/\∀f,RelO (fs.lookup f) (mA f)
 | .rng lo hi=>∃t u v,h.get? a=some { cls:=.type "range",data:=.fields #[.int lo t,.int hi u,.int 1 v] }
 | .frz o u=>h.get? a=some o/\ObjOk H h a u
 | .tbl ps=>h.get? a=some { cls:=.none,data:=.fields ps }
 | .met f x=>h.get? a=some (PySem.W.methodObj (.ref f) (.ref x))
 | .ext φ=>φ h/\(∃o,h.get? a=some o)/\∀h1 h2:Heap,φ h1->(∀o,h1.get? a=some o->h2.get? a=some o)->φ h2
def HOk (H:Hp) (h:Heap):Prop:=∀a o,H a=some o->ObjOk P w H h a o
end
section
variable {P:Program}{w:World}{H H':Hp}{h h':Heap}{a:Addr}{o:HO}
def ObjOk.lt (x:ObjOk P w H h a o):a<h.objs.size:=by
 cases o with
 | lst xs=>obtain⟨_,_,_,_,e⟩:=x;exact Y3 e
 | tup xs=>obtain⟨_,_,_,p⟩:=x;exact p.lt
 | dK kvs=>obtain⟨_,_,_,_,o,_,_,e,_⟩:=x;exact Y3 e
 | dT kvs=>obtain⟨_,_,_,_,o,_,_,e,_⟩:=x;exact Y3 e
 | set S n=>obtain⟨o,_,_,_,e,_⟩:=x;exact Y3 e
 | ins C dx fs=>obtain⟨_,_,_,e,_⟩:=x;exact Y3 e
 | own y=>obtain⟨_,e⟩:=x;exact Y3 e
 | xd fs=>obtain⟨_,⟨_,_,_,e,_⟩,_⟩:=x;exact Y3 e
 | rng lo hi=>obtain⟨_,_,_,e⟩:=x;exact Y3 e
 | frz ob u=>obtain⟨e,_⟩:=x;exact Y3 e
 | tbl ps=>exact Y3 (show h.get? a=some _ from x)
 | met f y=>exact Y3 (show h.get? a=some _ from x)
 | ext φ=>obtain⟨_,⟨_,e⟩,_⟩:=x;exact Y3 e
def Paired.mapP {α β:Type}{F G:α->β->Prop}:∀{l₁:List α}{l₂:List β},Paired F l₁ l₂->(∀a b,F a b->G a b)->Paired G l₁ l₂
 | _,_,.nil,_=>.nil
 | _,_,.cons r t,f=>.cons (f _ _ r) (Paired.mapP t f)
def ObjOk.stay (x:ObjOk P w H h a o) (k:∀b u,(b=a\/H b=some (.own a))->h.get? b=some u->h'.get? b=some u)
  (ho:∀b,H b=some (.own a)->H' b=some (.own a)) (ht:∀b xs,H b=some (.tup xs)->H' b=some (.tup xs)):ObjOk P w H' h' a o:=by
 induction o with
 | lst xs=>obtain⟨z,its,n,r,e⟩:=x;exact⟨z,its,n,r,k _ _ (.inl rfl) e⟩
 | tup xs=>obtain⟨z,its,r,ob,e,c⟩:=x;exact⟨z,its,r,ob,k _ _ (.inl rfl) e,c⟩
 | dK kvs=>obtain⟨z,y,vs,r,ob,es,ep,e,c⟩:=x;exact⟨z,y,vs,r,ob,es,ep,k _ _ (.inl rfl) e,c⟩
 | dT kvs=>
  obtain⟨z,y,xs,r,ob,es,ep,e,c⟩:=x;exact⟨z,y,xs,Paired.mapP r fun p q z=>⟨z.1,ht _ _ z.2.1,z.2.2⟩,ob,es,ep,k _ _ (.inl rfl) e,c⟩
 | set S n=>obtain⟨ob,es,ep,t,e,c⟩:=x;exact⟨ob,es,ep,t,k _ _ (.inl rfl) e,c⟩
 | ins C dx fs=>
  obtain⟨d,z,ne,e,mA,⟨od,es,ep,e2,c⟩,r⟩:=x;exact⟨ho _ d,z,ne,k _ _ (.inl rfl) e,mA,⟨od,es,ep,k _ _ (.inr d) e2,c⟩,r⟩
 | own y=>obtain⟨ob,e⟩:=x;exact⟨ob,k _ _ (.inl rfl) e⟩
 | xd fs=>obtain⟨mA,⟨od,es,ep,e,c⟩,r⟩:=x;exact⟨mA,⟨od,es,ep,k _ _ (.inl rfl) e,c⟩,r⟩
 | rng lo hi=>obtain⟨t,u,v,e⟩:=x;exact⟨t,u,v,k _ _ (.inl rfl) e⟩
 | frz ob u ih=>obtain⟨e,q⟩:=x;exact⟨k _ _ (.inl rfl) e,ih q⟩
 | tbl ps=>
  have e:h.get? a=some { cls:=.none,data:=.fields ps }:=x;show h'.get? a=some { cls:=.none,data:=.fields ps };exact k a _ (.inl rfl) e
 | met f y=>
  have e:h.get? a=some (PySem.W.methodObj (.ref f) (.ref y)):=x;show h'.get? a=some (PySem.W.methodObj (.ref f) (.ref y));exact k a _ (.inl rfl) e
 | ext φ=>obtain⟨p,⟨o,e⟩,st⟩:=x;exact⟨st _ _ p fun o q=>k _ _ (.inl rfl) q,⟨o,k _ _ (.inl rfl) e⟩,st⟩
def HOk.lt (x:HOk P w H h) (e:H a=some o):a<h.objs.size:=(x a o e).lt
def HOk.fresh (x:HOk P w H h) (e:h.objs.size<=a):H a=none:=by
 cases q:H a with
 | none=>rfl
 | some u=>exact absurd (YT (x.lt q) e) (W8 _)
def HOk.kept (x:HOk P w H h) (k:∀b u,h.get? b=some u->h'.get? b=some u):HOk P w H h':=fun a o e=>
 (x a o e).stay (fun b u _ q=>k b u q) (fun _ q=>q) fun _ _ q=>q
def HOk.laid (x:HOk P w H h) (k:∀b u,h.get? b=some u->h'.get? b=some u) (hp:h.objs.size<=a) (new:ObjOk P w (upd H a o) h' a o):HOk P w (upd H a o) h':=fun b u e=>by
 have hn:=x.fresh hp;by_cases hb:b=a
 ·subst hb;rw[Uo] at e;cases e;exact new
 ·rw[JX hb] at e;exact(x b u e).stay (fun c v _ q=>k c v q) (fun c q=>by rw[JX (X2 q hn)];exact q) fun c xs q=>by rw[JX (X2 q hn)];exact q
end
def Rd (H:Hp) (a:Addr) (u:HO):Prop:=H a=some u\/∃o,H a=some (.frz o u)
def Rd.ok {P:Program}{w:World}{H:Hp}{h:Heap}{a:Addr}{u:HO} (r:Rd H a u) (x:HOk P w H h):ObjOk P w H h a u:=by
 rcases r with r|⟨o,r⟩
 ·exact x a u r
 ·obtain⟨_,q⟩:=x a _ r;exact q
def Mut:Option HO->Prop
 | some (.lst _)=>True
 | some (.dK _)=>True
 | some (.dT _)=>True
 | some (.set _ _)=>True
 | some (.ins _ _ _)=>True
 | some (.ext _)=>True
 | _=>False
section
variable {P:Program}{w:World}{H:Hp}{h h':Heap}{x e:Addr}{o':HO}
def HOk.write (ok:HOk P w H h) (mu:Mut (H x)) (he:e=x\/H e=some (.own x)) (k:∀b u,b≠e->h.get? b=some u->h'.get? b=some u) (heo:∃u,h'.get? e=some u)
  (new:ObjOk P w (upd H x o') h' x o'):HOk P w (upd H x o') h':=fun b u q=>by
 have nown:∀c y,H c=some (.own y)->c≠x:=fun c y r z=>by subst z;rw[r] at mu;exact mu
 have ntup:∀c xs,H c=some (.tup xs)->c≠x:=fun c xs r z=>by subst z;rw[r] at mu;exact mu
 by_cases hb:b=x
 ·subst hb;rw[Uo] at q;cases q;exact new
 ·rw[JX hb] at q;by_cases hbe:b=e
  ·have q':H b=some (.own x):=by
    rcases he with z|z
    ·exact absurd (hbe.trans z) hb
    ·rw[hbe];exact z
   rw[q] at q';cases q';obtain⟨v,hv⟩:=heo;exact⟨v,by rw[hbe];exact hv⟩
  ·refine(ok b u q).stay (fun c v hc r=>k c v ?_ r) (fun c r=>by rw[JX (nown c b r)];exact r) fun c xs r=>by rw[JX (ntup c xs r)];exact r
   rcases hc with rfl|hc
   ·exact hbe
   ·rintro rfl;rcases he with z|z
    ·exact nown c b hc z
    ·rw[hc] at z;cases z;exact hb rfl
end
structure Un (fs ex:List Addr) (H H':Hp) (h h':Heap):Prop where
 keep:∀b o,h.get? b=some o->H b=none->b∉fs->b∉ex->h'.get? b=some o
 slot:∀b o,h.get? b=some o->H b=none->b∈fs->b∉ex->∃sl,h'.get? b=some { o with slots:=sl }
 free:∀b o,h.get? b=some o->H b=none->b∉ex->H' b=none
 there:∀b o,h.get? b=some o->b∉ex->∃o',h'.get? b=some o'
 tups:∀b xs,H b=some (.tup xs)->H' b=some (.tup xs)
 frzs:∀b o u,H b=some (.frz o u)->H' b=some (.frz o u)
 tbls:∀b ps,H b=some (.tbl ps)->∃more,H' b=some (.tbl (ps++more))
section
variable {fs fs' ex ex':List Addr}{H H1 H2:Hp}{h h1 h2 h':Heap}{a x e:Addr}{o:HO}
def Un.any (u:Un fs ex H H1 h h1) {b:Addr}{ob:Obj} (q:h.get? b=some ob) (n:H b=none) (hx:b∉ex):∃sl,h1.get? b=some { ob with slots:=sl }:=by
 by_cases hb:b∈fs
 ·exact u.slot b ob q n hb hx
 ·exact⟨ob.slots,u.keep b ob q n hb hx⟩
def Un.kept (k:∀b u,h.get? b=some u->h'.get? b=some u):Un fs ex H H h h':=
 ⟨fun b ob q _ _ _=>k b ob q,fun b ob q _ _ _=>⟨ob.slots,k b ob q⟩,fun _ _ _ n _=>n,fun b ob q _=>⟨ob,k b ob q⟩,fun _ _ q=>q,fun _ _ _ q=>q,fun _ ps q=>⟨#[],by rw[q];simp⟩⟩
def Un.refl:Un fs ex H H h h:=Un.kept fun _ _ q=>q
def Un.laid (k:∀b u,h.get? b=some u->h'.get? b=some u) (hp:h.objs.size<=a) (hn:H a=none):Un fs ex H (upd H a o) h h' where
 keep:=fun b u q _ _ _=>k b u q
 slot:=fun b u q _ _ _=>⟨u.slots,k b u q⟩
 free:=fun b u q n _=>by rw[JX (YK (YT (Y3 q) hp))];exact n
 there:=fun b u q _=>⟨u,k b u q⟩
 tups:=fun b xs q=>by rw[JX (X2 q hn)];exact q
 frzs:=fun b u xs q=>by rw[JX (X2 q hn)];exact q
 tbls:=fun b ps q=>⟨#[],by rw[JX (X2 q hn),q];simp⟩
def Un.write (mu:Mut (H x)) (he:e=x\/H e=some (.own x)) (k:∀b u,b≠e->h.get? b=some u->h'.get? b=some u) (heo:∃u,h'.get? e=some u):Un fs ex H (upd H x o) h h':=by
 have hx:∀b,H b=none->b≠x:=fun b n z=>by subst z;rw[n] at mu;exact mu
 have hb:∀b,H b=none->b≠e:=fun b n z=>by
  subst z;rcases he with r|r
  ·exact hx b n r
  ·rw[n] at r;cases r
 have hm:∀b u,H b=some u->¬Mut (some u)->b≠x:=fun b u q nm z=>by subst z;rw[q] at mu;exact nm mu
 refine⟨fun b u q n _ _=>k b u (hb b n) q,fun b u q n _ _=>⟨u.slots,k b u (hb b n) q⟩,fun b u q n _=>by rw[JX (hx b n)];exact n,fun b u q _=>?_,
  fun b xs q=>by rw[JX (hm b _ q fun z=>z)];exact q,fun b u xs q=>by rw[JX (hm b _ q fun z=>z)];exact q,fun b ps q=>⟨#[],by rw[JX (hm b _ q fun z=>z),q];simp⟩⟩
 by_cases hbe:b=e
 ·subst hbe;exact heo
 ·exact⟨u,k b u hbe q⟩
end
def trk (h:Heap) (H:Hp):List Addr:=(List.range h.objs.size).filter fun a=>(H a).isSome
def hidT (h:Heap) (H:Hp):Heap:=PySem.W.hideAll h (trk h H)
def O6 (h:Heap) (H:Hp):(hidT h H).objs.size=h.objs.size:=PySem.W.hideAll_size _ _
def Zbi {h:Heap}{H:Hp}{b:Addr}{o:Obj} (e:h.get? b=some o) (n:H b=none):(hidT h H).get? b=some o:=
 PySem.W.hideAll_get _ e fun hm=>by
  have q:(H b).isSome=true:=(YO.mp hm).2;rw[n] at q;simp at q
def M3 {h:Heap}{H:Hp}{b:Addr}{o:Obj} (e:(hidT h H).get? b=some o):h.get? b=some o/\H b=none:=by
 have e':h.get? b=some o:=PySem.W.of_hideAll (trk h H) e;refine⟨e',?_⟩;cases q:H b with
 | none=>rfl
 | some x=>
  have hm:b∈trk h H:=YO.mpr ⟨List.mem_range.mpr (Y3 e'),by simp[q]⟩;have z:(hidT h H).get? b=none:=PySem.W.hideAll_none (trk h H) hm;rw[z] at e;cases e
def Rz (g h:Heap) (L:Addr):List (Addr×Obj):=(List.range h.objs.size).filterMap fun a=>if a=L\/(g.get? a).isSome=true then none else(h.get? a).map fun o=>(a,o)
def rest (g h:Heap) (L d:Addr):List (Addr×Obj):=(Rz g h L).filter fun p=>decide (p.1≠d)
structure Mod (K:Za) (mg:Str->Option Value) (base:Heap):Prop where
 kin:K.In base
 glob:base.Ns mainGlobals mg
 blt:∃mb,base.Ns builtinsNs mb/\∀x:Str,x≠"__name__"->mb x=bootBuiltins x
 nolimit:base.NoLimit
structure Cx where
 prog:Program
 w:World
 K:Za
 mg:Str->Option Value
 base:Heap
 A:Around
 N:List Str
 s₀:Shared
 H₀:Hp
 env:Env
 outer:List Env
 stack:List Env
 ex:List Addr
 fn:Str->Bool
 calm:Bool
 pn:List (Addr×Obj)
 xe:Value->Shared->Prop
def frs (l:List Env):List Addr:=l.filterMap (·.frame)
abbrev Cx.fs (X:Cx):List Addr:=frs X.outer
def Vis (sc:Scope) (x:Str):Prop:=sc.names.lookup x=some .local\/sc.names.lookup x=some .cell\/sc.names.lookup x=some .free
def Loc (sc:Scope) (x:Str):Prop:=sc.names.lookup x=some .local\/sc.names.lookup x=some .cell
def Look (env:Env) (h:Heap) (m:Str->Option Value) (x:Str) (u:Value):Prop:=
 (env.kindOf x=some .local/\m x=some u)\/((env.kindOf x=some .cell\/env.kindOf x=some .free)/\∃c,env.cells.lookup x=some c/\h.IsCell c (some u))
structure Cx.Ok (X:Cx):Prop where
 mod:Mod X.K X.mg X.base
 kind:X.env.scope.kind=.function
 glob:X.env.globals=mainGlobals
 blt:X.env.builtins=builtinsNs
 above:X.s₀.heap.objs.size<=X.env.locals
 inj:∀x y c,X.env.cells.lookup x=some c->X.env.cells.lookup y=some c->x=y
 has:∀x,(X.env.kindOf x=some .cell\/X.env.kindOf x=some .free)->∃c,X.env.cells.lookup x=some c
 cab:∀x c,X.fn x=true->X.env.cells.lookup x=some c->X.s₀.heap.objs.size<=c
 hd:X.calm=true->X.A.handled=none
 frames:X.A.frames=some X.stack
 stk:X.stack=X.outer\/(X.stack=X.env::X.outer/\X.env.frame=some X.env.locals)
 exf:∀b∈X.ex,b≠X.env.locals/\∀x c,X.env.cells.lookup x=some c->c≠b
 bs:∀b o,X.base.get? b=some o->X.s₀.heap.get? b=some o/\X.H₀ b=none
 bsz:X.base.objs.size<=X.s₀.heap.objs.size
 noex:∀b o,X.base.get? b=some o->b∉X.ex
 exfs:∀b∈X.ex,b∉X.fs
 funs:X.s₀.heap.FunFrames X.base X.outer
 frf:∀b∈X.fs,X.H₀ b=none
structure Inv (X:Cx) (pins:List (Addr×Obj)) (σ:List (Option V)) (H:Hp) (s:Shared):Prop where
 ok:X.Ok
 os:s.os=X.s₀.os
 bare:AllBare s.gens
 base:Un X.fs X.ex X.H₀ H X.s₀.heap s.heap
 loc:∃m,s.heap.Ns X.env.locals m/\∀(i:Nat) (x:Str) (v:V),X.N[i]?=some x->σ[i]?=some (some v)->Vis X.env.scope x->∃u,RelV v u/\Look X.env s.heap m x u
 cell:∀x c,X.env.cells.lookup x=some c->∃v,s.heap.IsCell c v
 free:H X.env.locals=none
 freeC:∀x c,X.env.cells.lookup x=some c->H c=none
 pin:∀p∈X.pn++pins,s.heap.get? p.1=some p.2/\H p.1=none/\p.1≠X.env.locals/\p.1∉X.fs/\∀v,p.2.data≠.cell v
 hok:HOk X.prog X.w H s.heap
 len:σ.length=X.N.length
section
variable {X:Cx}{pins:List (Addr×Obj)}{σ:List (Option V)}{H H':Hp}{s:Shared}{h':Heap}
def Cx.Ok.nofr (ok:X.Ok) {b:Addr}{o:Obj} (e:X.base.get? b=some o):b∉X.fs:=fun hb=>by
 have:=(ok.funs.mem hb).1
 rw[e] at this;cases this
def Inv.bs (I:Inv X pins σ H s):∀b o,X.base.get? b=some o->s.heap.get? b=some o/\H b=none:=fun b o e=>
 ⟨I.base.keep b o (I.ok.bs b o e).1 (I.ok.bs b o e).2 (I.ok.nofr e) (I.ok.noex b o e),I.base.free b o (I.ok.bs b o e).1 (I.ok.bs b o e).2 (I.ok.noex b o e)⟩
def Inv.bk (I:Inv X pins σ H s):∀b o,X.base.get? b=some o->s.heap.get? b=some o:=fun b o e=>(I.bs b o e).1
def Inv.mod (I:Inv X pins σ H s):Mod X.K X.mg X.base:=I.ok.mod
def Inv.kIn (I:Inv X pins σ H s):X.K.In s.heap:=I.ok.mod.kin.keeps I.bk
def Inv.lt (I:Inv X pins σ H s):X.env.locals<s.heap.objs.size:=let ⟨_,hn,_⟩:=I.loc;hn.lt
def Inv.sz (I:Inv X pins σ H s):X.s₀.heap.objs.size<=s.heap.objs.size:=Y8 I.ok.above (Q1 I.lt)
def Inv.nofs (I:Inv X pins σ H s) {a:Addr} (h:s.heap.objs.size<=a):a∉X.fs:=fun hb=>by
 obtain⟨_,o,ho,_⟩:=I.ok.funs.mem hb;exact absurd (YT (Y3 ho) (Y8 I.sz h)) (W8 _)
def Inv.cne (I:Inv X pins σ H s):∀x c,X.env.cells.lookup x=some c->c≠X.env.locals:=fun x c e z=>by
 obtain⟨v,o,ho,hd⟩:=I.cell x c e;obtain⟨m,⟨o',es,ep,ho',hd',_⟩,_⟩:=I.loc;rw[z,ho'] at ho;cases ho;rw[hd'] at hd;cases hd
def Inv.funs (I:Inv X pins σ H s):s.heap.FunFrames X.base X.outer:=by
 have all:∀(l:List Env),(∀b∈frs l,b∈X.fs)->X.s₀.heap.FunFrames X.base l->s.heap.FunFrames X.base l:=by
  intro l
  induction l with
  | nil=>intro _ _;trivial
  | cons env r ih=>
   intro hs hl;obtain⟨hk,⟨L,o,hf,hn,ho,hd⟩,hr⟩:=hl;have hL:L∈X.fs:=hs L (by unfold frs;rw[W3,hf];exact YM);obtain⟨sl,e⟩:=I.base.slot L o ho (I.ok.frf L hL) hL fun z=>I.ok.exfs L z hL;exact⟨hk,⟨L,_,hf,hn,e,hd⟩,ih (fun b hb=>hs b (by unfold frs;rw[W3,hf];exact YG _ hb)) hr⟩
 exact all X.outer (fun _ hb=>hb) I.ok.funs
def Inv.stack (I:Inv X pins σ H s):s.heap.FunFrames X.base X.stack:=by
 rcases I.ok.stk with e|⟨e,hf⟩
 ·rw[e];exact I.funs
 ·rw[e];obtain⟨m,hn,_⟩:=I.loc;refine .cons (by rw[I.ok.kind];decide) hf hn ?_ I.funs;exact QS (Y8 I.ok.bsz I.ok.above)
def Inv.stkSub (I:Inv X pins σ H s):∀b∈frs X.stack,b∈X.env.locals::X.fs:=fun b hb=>by
 rcases I.ok.stk with e|⟨e,hf⟩
 ·rw[e] at hb;exact YG _ hb
 ·rw[e] at hb;unfold frs at hb;rw[W3,hf] at hb;exact hb
def Inv.stkFree (I:Inv X pins σ H s):∀b∈frs X.stack,H b=none:=fun b hb=>by
 rcases Y4.mp (I.stkSub b hb) with e|hb
 ·rw[e];exact I.free
 ·obtain⟨_,o,ho,_⟩:=I.ok.funs.mem hb;exact I.base.free b o ho (I.ok.frf b hb) fun z=>I.ok.exfs b z hb
def Inv.step {g':Array GenState}{t':Nat}{d':Drawn}{ch:List Addr} (I:Inv X pins σ H s)
  (hch:∀b∈ch,(b∈X.ex\/X.s₀.heap.objs.size<=b)/\b≠X.env.locals/\(∀x c,X.env.cells.lookup x=some c->c≠b)/\∀p∈X.pn++pins,p.1≠b)
  (keep:∀b o,b≠X.env.locals->b∉X.fs->b∉ch->s.heap.get? b=some o->H b=none->h'.get? b=some o)
  (slot:∀b o,b≠X.env.locals->b∈X.fs->b∉ch->s.heap.get? b=some o->H b=none->∃sl,h'.get? b=some { o with slots:=sl }) (free:∀b o,b∉ch->s.heap.get? b=some o->H b=none->H' b=none)
  (there:∀b o,b∉ch->s.heap.get? b=some o->∃o',h'.get? b=some o')
  (tups:∀b xs,H b=some (.tup xs)->H' b=some (.tup xs)) (frzs:∀b o u,H b=some (.frz o u)->H' b=some (.frz o u)) (tbls:∀b ps,H b=some (.tbl ps)->∃more,H' b=some (.tbl (ps++more)))
  (ns:∀m,s.heap.Ns X.env.locals m->h'.Ns X.env.locals m) (hok:HOk X.prog X.w H' h') (hg:AllBare g') :
  Inv X pins σ H' { s with heap:=h',gens:=g',drawn:=d',toks:=t' }:=by
 have neL:∀b o,X.s₀.heap.get? b=some o->b≠X.env.locals:=fun b o e=>YK (YT (Y3 e) I.ok.above)
 have neC:∀b o,X.s₀.heap.get? b=some o->b∉X.ex->b∉ch:=fun b o e hx hb=>by
  rcases(hch b hb).1 with z|z
  ·exact hx z
  ·exact absurd (YT (Y3 e) z) (W8 _)
 have cellK:∀x c,X.env.cells.lookup x=some c->∀v,s.heap.IsCell c v->h'.IsCell c v:=fun x c e v ⟨o,ho,hd⟩=>by
  have nch:c∉ch:=fun z=>(hch c z).2.2.1 x c e rfl;by_cases hc:c∈X.fs
  ·obtain⟨sl,q⟩:=slot c o (I.cne x c e) hc nch ho (I.freeC x c e);exact⟨_,q,hd⟩
  ·exact⟨o,keep c o (I.cne x c e) hc nch ho (I.freeC x c e),hd⟩
 refine⟨I.ok,I.os,hg,⟨fun b o e n hb hx=>?_,fun b o e n hb hx=>?_,fun b o e n hx=>?_,fun b o e hx=>?_,fun b xs e=>tups b xs (I.base.tups b xs e),fun b o xs e=>frzs b o xs (I.base.frzs b o xs e),fun b ps e=>?_⟩,?_,fun x c e=>?_,?_,fun x c e=>?_,fun p hp=>?_,hok,I.len⟩
 ·exact keep b o (neL b o e) hb (neC b o e hx) (I.base.keep b o e n hb hx) (I.base.free b o e n hx)
 ·obtain⟨sl,e1⟩:=I.base.slot b o e n hb hx;obtain⟨sl',e2⟩:=slot b _ (neL b o e) hb (neC b o e hx) e1 (I.base.free b o e n hx);exact⟨sl',e2⟩
 ·obtain⟨o',e1⟩:=I.base.there b o e hx;exact free b o' (neC b o e hx) e1 (I.base.free b o e n hx)
 ·obtain⟨o',e1⟩:=I.base.there b o e hx;exact there b o' (neC b o e hx) e1
 ·obtain⟨m1,e1⟩:=I.base.tbls b ps e;obtain⟨m2,e2⟩:=tbls b _ e1;exact⟨m1++m2,by rw[e2,Array.append_assoc]⟩
 ·obtain⟨m,hn,hl⟩:=I.loc;refine⟨m,ns m hn,fun i x v e1 e2 e3=>?_⟩;obtain⟨u,r,l⟩:=hl i x v e1 e2 e3;refine⟨u,r,?_⟩;rcases l with l|⟨k,c,e,z⟩
  ·exact .inl l
  ·exact .inr ⟨k,c,e,cellK x c e _ z⟩
 ·obtain⟨v,z⟩:=I.cell x c e;exact⟨v,cellK x c e v z⟩
 ·obtain⟨m,⟨o,_,_,ho,_⟩,_⟩:=I.loc;exact free _ o (fun z=>(hch _ z).2.1 rfl) ho I.free
 ·obtain⟨v,o,ho,hd⟩:=I.cell x c e;exact free c o (fun z=>(hch c z).2.2.1 x c e rfl) ho (I.freeC x c e)
 ·obtain⟨e,n,ne,nf,d⟩:=I.pin p hp;have nch:p.1∉ch:=fun z=>(hch p.1 z).2.2.2 p hp rfl;exact⟨keep p.1 p.2 ne nf nch e n,free p.1 p.2 nch e n,ne,nf,d⟩
def Inv.un {t':Nat} (I:Inv X pins σ H s) (u:Un X.fs [] H H' s.heap h') (hok:HOk X.prog X.w H' h'):Inv X pins σ H' { s with heap:=h',toks:=t' }:=by
 obtain⟨m,⟨o,es,ep,ho,r⟩,_⟩:=id I.loc;obtain⟨sl,hL⟩:=u.any ho I.free (by simp)
 exact I.step (g':=s.gens) (d':=s.drawn) (ch:=[]) (fun _ z=>nomatch z) (fun b o _ hb _ e n=>u.keep b o e n hb (by simp)) (fun b o _ hb _ e n=>u.slot b o e n hb (by simp)) (fun b o _ e n=>u.free b o e n (by simp)) (fun b o _ e=>u.there b o e (by simp)) u.tups u.frzs u.tbls (fun m' hm=>by
  obtain⟨o',es',ep',ho',r'⟩:=hm;rw[ho] at ho';cases ho';exact⟨_,es',ep',hL,r'⟩) hok I.bare
def Inv.call {g':Array GenState}{t':Nat}{d':Drawn}{ch:List Addr} (I:Inv X pins σ H s) (u:Un (frs X.stack) ch H H' s.heap h') (hok:HOk X.prog X.w H' h') (hg:AllBare g')
  (hch:∀b∈ch,(b∈X.ex\/X.s₀.heap.objs.size<=b)/\b≠X.env.locals/\(∀x c,X.env.cells.lookup x=some c->c≠b)/\∀p∈X.pn++pins,p.1≠b) :
  Inv X pins σ H' { s with heap:=h',gens:=g',drawn:=d',toks:=t' }:=by
 obtain⟨m,⟨o,es,ep,ho,r⟩,_⟩:=id I.loc;obtain⟨sl,hL⟩:=u.any ho I.free fun z=>(hch _ z).2.1 rfl
 exact I.step (ch:=ch) hch (fun b o hL hb hc e n=>u.keep b o e n (fun z=>(Y4.mp (I.stkSub b z)).elim hL hb) hc) (fun b o _ _ hc e n=>u.any e n hc) (fun b o hc e n=>u.free b o e n hc) (fun b o hc e=>u.there b o e hc) u.tups u.frzs u.tbls (fun m' hm=>by
  obtain⟨o',es',ep',ho',r'⟩:=hm;rw[ho] at ho';cases ho';exact⟨_,es',ep',hL,r'⟩) hok hg
def Inv.turned {t':Nat}{it:Addr} (I:Inv X pins σ H s) (k:∀b o,b≠it->s.heap.get? b=some o->h'.get? b=some o) (hn:H it=none) (hL:it≠X.env.locals)
  (h1:it∈X.ex\/X.s₀.heap.objs.size<=it) (h2:∀x c,X.env.cells.lookup x=some c->c≠it) (h3:∀p∈X.pn++pins,p.1≠it):Inv X pins σ H { s with heap:=h',toks:=t' }:=by
 have nit:∀b u,H b=some u->b≠it:=fun b u e z=>by rw[z,hn] at e;cases e
 refine I.step (g':=s.gens) (d':=s.drawn) (ch:=[it]) (fun b hb=>?_) (fun b o _ _ hc e _=>k b o (fun z=>hc (by simp[z])) e) (fun b o _ _ hc e _=>⟨o.slots,k b o (fun z=>hc (by simp[z])) e⟩) (fun _ _ _ _ n=>n)
  (fun b o hc e=>⟨o,k b o (fun z=>hc (by simp[z])) e⟩) (fun _ _ e=>e) (fun _ _ _ e=>e) (fun b ps e=>⟨#[],by rw[e];simp⟩) (fun m hm=>?_) (fun b u e=>?_) I.bare
 ·have e:b=it:=by simpa using hb
  subst e;exact⟨h1,hL,h2,h3⟩
 ·obtain⟨o,es,ep,ho,r⟩:=hm;exact⟨o,es,ep,k _ o (Ne.symm hL) ho,r⟩
 ·refine(I.hok b u e).stay (fun c v hc q=>k c v ?_ q) (fun _ q=>q) fun _ _ q=>q;rcases hc with z|z
  ·rw[z];exact nit b u e
  ·exact nit c _ z
def Inv.tok (I:Inv X pins σ H s) (t:Nat):Inv X pins σ H { s with toks:=t }:=I.un (h':=s.heap) (t':=t) Un.refl I.hok
def Inv.kept {t':Nat} (I:Inv X pins σ H s) (k:∀b u,s.heap.get? b=some u->h'.get? b=some u):Inv X pins σ H { s with heap:=h',toks:=t' }:=I.un (Un.kept k) (I.hok.kept k)
def Inv.laid {a:Addr}{o:HO}{t':Nat} (I:Inv X pins σ H s) (k:∀b u,s.heap.get? b=some u->h'.get? b=some u) (hp:s.heap.objs.size<=a) (new:ObjOk X.prog X.w (upd H a o) h' a o) :
  Inv X pins σ (upd H a o) { s with heap:=h',toks:=t' }:=I.un (Un.laid k hp (I.hok.fresh hp)) (I.hok.laid k hp new)
def Inv.write {x e:Addr}{o:HO}{t':Nat} (I:Inv X pins σ H s) (mu:Mut (H x)) (he:e=x\/H e=some (.own x)) (k:∀b u,b≠e->s.heap.get? b=some u->h'.get? b=some u) (heo:∃u,h'.get? e=some u)
  (new:ObjOk X.prog X.w (upd H x o) h' x o):Inv X pins σ (upd H x o) { s with heap:=h',toks:=t' }:=I.un (Un.write mu he k heo) (I.hok.write mu he k heo new)
def Inv.weak {σ':List (Option V)} (I:Inv X pins σ H s) (hl:σ'.length=σ.length) (w:∀(i:Nat) v,σ'[i]?=some (some v)->σ[i]?=some (some v)):Inv X pins σ' H s:=
 ⟨I.ok,I.os,I.bare,I.base,let ⟨m,hn,hl'⟩:=I.loc;⟨m,hn,fun i x v e1 e2 e3=>hl' i x v e1 (w i v e2) e3⟩,I.cell,I.free,I.freeC,I.pin,I.hok,hl.trans I.len⟩
def Inv.pins_of {pins':List (Addr×Obj)} (I:Inv X pins σ H s) (h:∀p∈pins',s.heap.get? p.1=some p.2/\H p.1=none/\p.1≠X.env.locals/\p.1∉X.fs/\∀v,p.2.data≠.cell v):Inv X pins' σ H s:=
 ⟨I.ok,I.os,I.bare,I.base,I.loc,I.cell,I.free,I.freeC,fun p hp=>(YL.mp hp).elim (fun z=>I.pin p (WI _ z)) (h p),I.hok,I.len⟩
def Su {N:List Str} (hN:N.Nodup) {i j:Nat}{x:Str} (a:N[i]?=some x) (b:N[j]?=some x):i=j:=by
 obtain⟨h1,e1⟩:=YF.mp a;obtain⟨h2,e2⟩:=YF.mp b;exact(List.getElem_inj hN).mp (e1.trans e2.symm)
def Lh {M:Model}{A:Around}{E:Value->Shared->Prop}{i:Nat}{x:Str}{v:V}{u:Value}{Q:Unit->Shared->Prop} (I:Inv X pins σ H s) (hN:X.N.Nodup) (hi:X.N[i]?=some x) (hx:Loc X.env.scope x) (r:RelV v u)
  (h:∀s',Inv X pins (σ.set i (some v)) H s'->(∃a,Heap.SameBut a s.heap s'.heap/\(a=X.env.locals\/X.env.cells.lookup x=some a))->Q () s') (hf:X.fn x=true\/X.env.scope.names.lookup x=some .local:=by first|exact .inl rfl|exact .inr rfl|assumption):wpAny M A (storeName X.env x u) Q E s:=by
 obtain⟨m,hn,hl⟩:=id I.loc;have hcls:(X.env.scope.kind == .class || (X.env.scope.kind == .module&&X.env.locals != X.env.globals))=false:=by rw[I.ok.kind];rfl
 have hiσ:i<σ.length:=by rw[I.len];exact(YF.mp hi).1
 have cne:=I.cne
 have tracked:∀{a:Addr} {h':Heap},(∃o,s.heap.get? a=some o/\H a=none)->Heap.SameBut a s.heap h'->HOk X.prog X.w H h':=fun {a h'} ha hs b ob e=>by
  obtain⟨_,_,hfree⟩:=ha;refine(I.hok b ob e).stay (fun c w' hc q=>(hs.2 c ?_).trans q) (fun _ q=>q) fun _ _ q=>q;rintro rfl;rcases hc with rfl|hc
  ·rw[hfree] at e;cases e
  ·rw[hfree] at hc;cases hc
 rcases hx with hk|hk
 ·refine wpAny_storeName_local hk hn (fun h' hn' hs=>?_) hcls;obtain⟨oL,_,_,hoL,_⟩:=id hn;refine h _ ⟨I.ok,I.os,I.bare,⟨fun b o e n hb hx=>?_,fun b o e n hb hx=>?_,I.base.free,fun b o e hx=>?_,I.base.tups,I.base.frzs,I.base.tbls⟩,⟨_,hn',fun j y v' e1 e2 e3=>?_⟩,fun y c e=>?_,I.free,I.freeC,fun p hp=>?_,tracked ⟨oL,hoL,I.free⟩ hs,by simpa using I.len⟩ ⟨_,hs,.inl rfl⟩
  ·exact(hs.2 b (YK (YT (Y3 e) I.ok.above))).trans (I.base.keep b o e n hb hx)
  ·obtain⟨sl,e1⟩:=I.base.slot b o e n hb hx;exact⟨sl,(hs.2 b (YK (YT (Y3 e) I.ok.above))).trans e1⟩
  ·obtain⟨o',e1⟩:=I.base.there b o e hx;exact⟨o',(hs.2 b (YK (YT (Y3 e) I.ok.above))).trans e1⟩
  ·by_cases hj:j=i
   ·subst hj;rw[hi] at e1;cases e1;rw[Qn hiσ] at e2;cases e2
    exact⟨u,r,.inl ⟨hk,by simp⟩⟩
   ·rw[Qw (Ne.symm hj)] at e2;obtain⟨u',r',q⟩:=hl j y v' e1 e2 e3;refine⟨u',r',?_⟩;rcases q with⟨k,e⟩|⟨k,c,e,z⟩
    ·refine .inl ⟨k,?_⟩
     have:y≠x:=fun e=>hj (Su hN e1 (e▸hi))
     simp[this,e]
    ·exact .inr ⟨k,c,e,z.sameBut hs (cne y c e)⟩
  ·obtain⟨w',z⟩:=I.cell y c e;exact⟨w',z.sameBut hs (cne y c e)⟩
  ·obtain⟨e,n,ne,nf,d⟩:=I.pin p hp;exact⟨(hs.2 p.1 ne).trans e,n,ne,nf,d⟩
 ·have hfn:X.fn x=true:=by
   rcases hf with z|z
   ·exact z
   ·rw[z] at hk;cases hk
  obtain⟨c,hc⟩:=I.ok.has x (.inl hk);obtain⟨w',z⟩:=I.cell x c hc;refine wpAny_storeName_cell I.ok.kind hk hc z (fun h' hc' hs=>?_);obtain⟨oc,hoc,hocd⟩:=id z;refine h { s with heap:=h' } ⟨I.ok,I.os,I.bare,⟨fun b o e n hb hx=>?_,fun b o e n hb hx=>?_,I.base.free,fun b o e hx=>?_,I.base.tups,I.base.frzs,I.base.tbls⟩,⟨m,hn.sameBut hs (Ne.symm (cne x c hc)),fun j y v' e1 e2 e3=>?_⟩,fun y c' e=>?_,I.free,I.freeC,fun p hp=>?_,tracked ⟨oc,hoc,I.freeC x c hc⟩ hs,by simpa using I.len⟩ ⟨c,hs,.inr hc⟩
  ·exact(hs.2 b (YK (YT (Y3 e) (I.ok.cab x c hfn hc)))).trans (I.base.keep b o e n hb hx)
  ·obtain⟨sl,e1⟩:=I.base.slot b o e n hb hx;exact⟨sl,(hs.2 b (YK (YT (Y3 e) (I.ok.cab x c hfn hc)))).trans e1⟩
  ·obtain⟨o',e1⟩:=I.base.there b o e hx;exact⟨o',(hs.2 b (YK (YT (Y3 e) (I.ok.cab x c hfn hc)))).trans e1⟩
  ·by_cases hj:j=i
   ·subst hj;rw[hi] at e1;cases e1;rw[Qn hiσ] at e2;cases e2
    exact⟨u,r,.inr ⟨.inl hk,c,hc,hc'⟩⟩
   ·rw[Qw (Ne.symm hj)] at e2;obtain⟨u',r',q⟩:=hl j y v' e1 e2 e3;refine⟨u',r',?_⟩;rcases q with q|⟨k,c',e,z'⟩
    ·exact .inl q
    ·refine .inr ⟨k,c',e,z'.sameBut hs ?_⟩;rintro rfl;exact hj (Su hN e1 (I.ok.inj _ _ _ e hc▸hi))
  ·by_cases hcc:c'=c
   ·subst hcc;exact⟨_,hc'⟩
   ·obtain⟨w2,z2⟩:=I.cell y c' e;exact⟨w2,z2.sameBut hs hcc⟩
  ·obtain⟨e,n,ne,nf,d⟩:=I.pin p hp;refine⟨(hs.2 p.1 ?_).trans e,n,ne,nf,d⟩;intro q;rw[q,hoc] at e;have q':oc=p.2:=Y2 e;exact d w' (by rw[←q'];exact hocd)
def TJ {M:Model}{A:Around}{E:Value->Shared->Prop}{i:Nat}{x:Str}{v:V}{u:Value}{Q:Unit->Shared->Prop} (I:Inv X pins σ H s) (hN:X.N.Nodup) (hi:X.N[i]?=some x) (hx:Loc X.env.scope x) (r:RelV v u)
  (h:∀s',Inv X pins (σ.set i (some v)) H s'->Q () s') (hf:X.fn x=true\/X.env.scope.names.lookup x=some .local:=by first|exact .inl rfl|exact .inr rfl|assumption):wpAny M A (storeName X.env x u) Q E s:=
 Lh I hN hi hx r (fun s' I' _=>h s' I') hf
def Inv.call' {s':Shared}{ch:List Addr} (I:Inv X pins σ H s) (ho:s'.os=s.os) (u:Un (frs X.stack) ch H H' s.heap s'.heap) (hok:HOk X.prog X.w H' s'.heap) (hg:AllBare s'.gens)
  (hch:∀b∈ch,(b∈X.ex\/X.s₀.heap.objs.size<=b)/\b≠X.env.locals/\(∀x c,X.env.cells.lookup x=some c->c≠b)/\∀p∈X.pn++pins,p.1≠b):Inv X pins σ H' s':=by
 obtain⟨h',g',d',t',o'⟩:=s';have e:o'=s.os:=ho;subst e;exact I.call (g':=g') (t':=t') (d':=d') u hok hg hch
end
abbrev XK:=Value->Option Addr->Hp->Prop
abbrev St:=List (Option V)
abbrev VK:=V->Hp->Prop
abbrev TE:=St->Hp->VK->Prop
abbrev TT:=St->Hp->(Bool->Hp->Prop)->Prop
abbrev TA:=St->Hp->(List V->Hp->Prop)->Prop
structure Ends where
 nx:St->Hp->Prop
 rt:VK
 bk:St->Hp->Prop:=fun _ _=>False
 ct:St->Hp->Prop:=fun _ _=>False
abbrev TS:=Ends->St->Hp->Prop
def EP (X:Cx) (pins:List (Addr×Obj)) (σ:St) (Q:VK) (u:Value) (s':Shared):Prop:=∃v H',Inv X pins σ H' s'/\RelV v u/\Q v H'
def TP (X:Cx) (pins:List (Addr×Obj)) (σ:St) (Q:Bool->Hp->Prop) (b:Bool) (s':Shared):Prop:=∃H',Inv X pins σ H' s'/\Q b H'
def AP (X:Cx) (pins:List (Addr×Obj)) (σ:St) (Q:List V->Hp->Prop) (us:List Value) (s':Shared):Prop:=∃vs H',Inv X pins σ H' s'/\Vals vs us/\Q vs H'
def SP (X:Cx) (pins:List (Addr×Obj)) (D:Ends) (f:Flow) (s':Shared):Prop:=
 match f with
 | .next=>∃σ' H',Inv X pins σ' H' s'/\D.nx σ' H'
 | .brk=>∃σ' H',Inv X pins σ' H' s'/\D.bk σ' H'
 | .cont=>∃σ' H',Inv X pins σ' H' s'/\D.ct σ' H'
 | .ret u=>∃v σ' H',Inv X pins σ' H' s'/\RelV v u/\D.rt v H'
def PE (X:Cx) (e:Expr) (t:TE):Prop:=
 ∀(pins:List (Addr×Obj)) (s:Shared) (σ:St) (H:Hp) (Q:VK),Inv X pins σ H s->t σ H Q->wpAny (model X.prog X.w) X.A (eval e X.env) (EP X pins σ Q) X.xe s
def PT (X:Cx) (e:Expr) (t:TT):Prop:=
 ∀(pins:List (Addr×Obj)) (s:Shared) (σ:St) (H:Hp) (Q:Bool->Hp->Prop),Inv X pins σ H s->t σ H Q->wpAny (model X.prog X.w) X.A (isTrue e X.env (eval e X.env)) (TP X pins σ Q) X.xe s
def PW (X:Cx) (e:Expr) (t:TT):Prop:=
 ∀(whole:Sem Value) (pins:List (Addr×Obj)) (s:Shared) (σ:St) (H:Hp) (Q:Bool->Hp->Prop),Inv X pins σ H s->t σ H Q->wpAny (model X.prog X.w) X.A (isTrue e X.env whole) (TP X pins σ Q) X.xe s
def PW.pt {X:Cx}{e:Expr}{t:TT} (h:PW X e t):PT X e t:=h _
def PA (X:Cx) (es:List Expr) (t:TA):Prop:=
 ∀(pos:Pos) (pins:List (Addr×Obj)) (s:Shared) (σ:St) (H:Hp) (Q:List V->Hp->Prop),Inv X pins σ H s->t σ H Q->wpAny (model X.prog X.w) X.A (spliced (backTo pos (starEach es X.env))) (AP X pins σ Q) X.xe s
def PS (X:Cx) (st:Stmt) (t:TS):Prop:=
 ∀(pins:List (Addr×Obj)) (s:Shared) (σ:St) (H:Hp) (D:Ends),Inv X pins σ H s->t D σ H->wpAny (model X.prog X.w) X.A (exec st X.env) (SP X pins D) X.xe s
def PSs (X:Cx) (st:List Stmt) (t:TS):Prop:=
 ∀(pins:List (Addr×Obj)) (s:Shared) (σ:St) (H:Hp) (D:Ends),Inv X pins σ H s->t D σ H->wpAny (model X.prog X.w) X.A (execs st X.env) (SP X pins D) X.xe s
def thn {α:Type}{t:Sem α}{Q Q':α->Shared->Prop}{M:Model}{A:Around}{E:Value->Shared->Prop}{s:Shared} (h:wpAny M A t Q E s) (hQ:∀a s,Q a s->Q' a s):wpAny M A t Q' E s:=Wn h hQ fun _ _ x=>x
section
variable {X:Cx}
def bin {a b:Expr}{ta tb:TE} (ha:PE X a ta) (hb:PE X b tb) {pins:List (Addr×Obj)}{s:Shared}{σ:St}{H:Hp}{R:V->V->Hp->Prop} (I:Inv X pins σ H s) (h:ta σ H fun x H1=>tb σ H1 fun y H2=>R x y H2)
  {α:Type} {Q:α->Shared->Prop} {f:Value->Value->Sem α}
  (hf:∀v u s2 x y H2,Inv X pins σ H2 s2->RelV x v->RelV y u->R x y H2->wpAny (model X.prog X.w) X.A (f v u) Q X.xe s2) :
  wpAny (model X.prog X.w) X.A (eval a X.env) (fun v s₁=>wpAny (model X.prog X.w) X.A (eval b X.env) (fun u s₂=>wpAny (model X.prog X.w) X.A (f v u) Q X.xe s₂) X.xe s₁) X.xe s:=by
 refine thn (ha pins s σ H _ I h) fun v s1 ⟨x,H1,I1,r1,q1⟩=>?_;refine thn (hb pins s1 σ H1 _ I1 q1) fun u s2 ⟨y,H2,I2,r2,q2⟩=>?_;exact hf v u s2 x y H2 I2 r1 r2 q2
def tVar (i:Nat):TE:=fun σ H Q=>∃v,σ[i]?=some (some v)/\Q v H
def tC (v:V):TE:=fun _ H Q=>Q v H
def Zdn {i:Nat}{x:Str}{pos:Pos} (hN:X.N[i]?=some x) (hv:Vis X.env.scope x) (hd:(x==("__debug__" : Str))=false:=by decide) (hcd:(x==("__classdict__" : Str))=false:=by decide):PE X (.Name x pos) (tVar i):=by
 intro pins s σ H Q I h;obtain⟨v,e,h⟩:=h;obtain⟨m,hn,hl⟩:=I.loc;obtain⟨u,r,l⟩:=hl i x v hN e hv;have fin:EP X pins σ Q u s:=⟨v,H,I,r,h⟩;rcases l with⟨hk,hm⟩|⟨hk,c,hc,hcell⟩
 ·exact wpAny_Name (wpAny_loadName_local I.ok.kind hk hn hm fin) hd
 ·rcases hk with hk|hk
  ·exact wpAny_Name (wpAny_loadName_cell I.ok.kind hk hc hcell fin) hd
  ·exact wpAny_Name (wpAny_loadName_free I.ok.kind hk hc hcell fin hcd) hd
def J2 {i j pos}:PE X (.Constant (.int i) j pos) (tC (.int i)):=fun _ _ _ H _ I h=>wpAny_Constant_int ⟨.int i,H,I.tok _,⟨_,rfl⟩,h⟩
def Uw {b j pos}:PE X (.Constant (.bool b) j pos) (tC (.bl b)):=fun _ _ _ H _ I h=>Constant_bool ⟨.bl b,H,I,rfl,h⟩
def Ul {x j pos}:PE X (.Constant (.str x) j pos) (tC (.str x)):=fun _ _ _ H _ I h=>Calls.Constant_str ⟨.str x,H,I.tok _,⟨_,rfl⟩,h⟩
def Gl (X:Cx) (x:Str):Prop:=X.env.kindOf x=some .globalImplicit
def Tj {E:Value->Shared->Prop}{pins:List (Addr×Obj)}{s:Shared}{σ:St}{H:Hp}{x:Str}{u:Value}{pos:Pos}{Q:Value->Shared->Prop} (I:Inv X pins σ H s) (hg:Gl X x) (hm:X.mg x=some u) (h:Q u s)
  (hd:(x==("__debug__" : Str))=false:=by decide):wpAny (model X.prog X.w) X.A (eval (.Name x pos) X.env) Q E s:=
 Calls.Name_function_global I.ok.kind hg (Calls.loadGlobal_global (by rw[I.ok.glob];exact I.mod.glob.keeps I.bk) hm h) hd
def T7 {E:Value->Shared->Prop}{pins:List (Addr×Obj)}{s:Shared}{σ:St}{H:Hp}{x:Str}{u:Value}{pos:Pos}{Q:Value->Shared->Prop} (I:Inv X pins σ H s) (hg:Gl X x) (hm:X.mg x=none) (hv:bootBuiltins x=some u) (h:Q u s)
  (hn:x≠"__name__":=by decide) (hd:(x==("__debug__" : Str))=false:=by decide):wpAny (model X.prog X.w) X.A (eval (.Name x pos) X.env) Q E s:=by
 obtain⟨mb,h1,h2⟩:=I.mod.blt;exact Calls.Name_function_global I.ok.kind hg (Calls.loadGlobal_builtin (by rw[I.ok.glob];exact I.mod.glob.keeps I.bk) hm (by rw[I.ok.blt];exact h1.keeps I.bk) ((h2 x hn).trans hv) h) hd
def A3 {x:Str}{v:V}{u:Value}{pos:Pos} (hg:Gl X x) (hm:X.mg x=some u) (r:RelV v u) (hd:(x==("__debug__" : Str))=false:=by decide):PE X (.Name x pos) (tC v):=
 fun _ _ _ H _ I h=>Tj I hg hm ⟨v,H,I,r,h⟩ hd
def Ka {x:Str}{v:V}{u:Value}{pos:Pos} (hg:Gl X x) (hm:X.mg x=none) (hv:bootBuiltins x=some u) (r:RelV v u) (hn:x≠"__name__":=by decide) (hd:(x==("__debug__" : Str))=false:=by decide):PE X (.Name x pos) (tC v):=
 fun _ _ _ H _ I h=>T7 I hg hm hv ⟨v,H,I,r,h⟩ hn hd
variable {a b:Expr}{ta tb:TE}{pos:Pos}
def PC (X:Cx) (op:CmpOp) (a b:Expr) (t:TE):Prop:=
 ∀(pins:List (Addr×Obj)) (s:Shared) (σ:St) (H:Hp) (Q:VK),Inv X pins σ H s->t σ H Q->
  wpAny (model X.prog X.w) X.A (eval a X.env) (fun v s₁=>wpAny (model X.prog X.w) X.A (eval b X.env) (fun u s₂=>wpAny (model X.prog X.w) X.A (compareOp op v u) (EP X pins σ Q) X.xe s₂) X.xe s₁) X.xe s
def Zbm (b:Expr) {op:CmpOp} (h:op≠.In) (h2:op≠.NotIn):behindInMarks op b=false:=by
 have e1:(op==CmpOp.In)=false:=by cases op<;>first|rfl|exact absurd rfl h
 have e2:(op==CmpOp.NotIn)=false:=by cases op<;>first|rfl|exact absurd rfl h2
 cases b<;>simp[behindInMarks,e1,e2]
def tB (t:TE):TT:=fun σ H Q=>t σ H fun x H1=>∃c,x=.bl c/\Q c H1
def R7 {op:CmpOp}{t:TE} (h:PC X op a b t) (h1:behindInMarks op b=false:=by first|exact Zbm _ (by decide) (by decide)|rfl):PT X (.Compare a [op] [b] pos) (tB t):=by
 intro pins s σ H Q I hw;refine wpAny_isTrue_Compare1 (thn (h pins s σ H _ I hw) fun v s1 h1=>thn h1 fun u s2 h2=>thn h2 fun c s3 ⟨x,H1,I1,r1,q1⟩=>?_) h1;obtain⟨d,rfl,q⟩:=q1;cases r1
 exact WX ⟨H1,I1,q⟩
variable {tA tB':TT}{rest:List Expr}
def tAnd (t u:TT):TT:=fun σ H Q=>t σ H fun c H1=>if c=true then u σ H1 Q else Q false H1
def tOr (t u:TT):TT:=fun σ H Q=>t σ H fun c H1=>if c=true then Q true H1 else u σ H1 Q
def tNot (t:TT):TT:=fun σ H Q=>t σ H fun c H1=>Q (!c) H1
def NA (ha:PT X a tA):PW X (.BoolOp .And [a] pos) tA:=by
 intro wh pins s σ H Q I h;refine isTrue_and (thn (ha pins s σ H Q I h) fun c s1 e=>?_);cases c with
 | true=>exact isTrue_and_nil e
 | false=>exact e
def UH (ha:PT X a tA):PW X (.BoolOp .Or [a] pos) tA:=by
 intro wh pins s σ H Q I h;refine isTrue_or (thn (ha pins s σ H Q I h) fun c s1 e=>?_);cases c with
 | false=>exact isTrue_or_nil e
 | true=>exact e
def Nm (ha:PT X a tA) (hb:PW X (.BoolOp .And (b::rest) pos) tB'):PW X (.BoolOp .And (a::b::rest) pos) (tAnd tA tB'):=by
 intro wh pins s σ H Q I h;refine isTrue_and (thn (ha pins s σ H _ I h) fun c s1 ⟨H1,I1,q1⟩=>?_);cases c with
 | true=>exact hb wh pins s1 σ H1 Q I1 q1
 | false=>exact⟨H1,I1,q1⟩
def U7 (ha:PT X a tA) (hb:PW X (.BoolOp .Or (b::rest) pos) tB'):PW X (.BoolOp .Or (a::b::rest) pos) (tOr tA tB'):=by
 intro wh pins s σ H Q I h;refine isTrue_or (thn (ha pins s σ H _ I h) fun c s1 ⟨H1,I1,q1⟩=>?_);cases c with
 | true=>exact⟨H1,I1,q1⟩
 | false=>exact hb wh pins s1 σ H1 Q I1 q1
def U3 (ha:PT X a tA):PT X (.UnaryOp .Not a pos) (tNot tA):=by
 intro pins s σ H Q I h;exact isTrue_not (ha pins s σ H (fun c H1=>Q (!c) H1) I h)
def AJ (ta tb:TE):TE:=fun σ H Q=>ta σ H fun x H1=>∃c,x=.bl c/\if c=true then tb σ H1 Q else Q (.bl false) H1
def Ht (ta:TE):TE:=fun σ H Q=>ta σ H fun x H1=>∃c,x=.bl c/\Q (.bl (!c)) H1
def PB {op}{t:TE} (h:PE X a t):PE X (.BoolOp op [a] pos) t:=fun pins s σ H Q I hw=>BoolOp_one (h pins s σ H Q I hw)
def PV (ha:PE X a ta) (hb:PE X (.BoolOp .And (b::rest) pos) tb):PE X (.BoolOp .And (a::b::rest) pos) (AJ ta tb):=by
 intro pins s σ H Q I h;refine BoolOp_and (thn (ha pins s σ H _ I h) fun v s1 ⟨x,H1,I1,r1,q1⟩=>?_);obtain⟨c,rfl,q1⟩:=q1;cases r1
 refine WX ?_;cases c with
 | true=>exact hb pins s1 σ H1 Q I1 q1
 | false=>exact⟨.bl false,H1,I1,rfl,q1⟩
def F4 (ha:PE X a ta):PE X (.UnaryOp .Not a pos) (Ht ta):=by
 intro pins s σ H Q I h;refine UnaryOp_ (thn (ha pins s σ H _ I h) fun v s1 ⟨x,H1,I1,r1,q1⟩=>?_);obtain⟨c,rfl,q1⟩:=q1;cases r1
 exact not_of (WX ⟨.bl (!c),H1,I1,rfl,q1⟩)
end
def SqL (K:Za) (H:Hp) (a:Addr) (xs:List V):Prop:=
 Rd H a (.lst xs)\/
  ∃(o:Obj) (its:Array Value) (n:Nat),K.lookup a=some o/\o.cls=.type "list"/\o.dict=none/\o.data=.seq its n/\its.size<=sizeLine/\Vals xs its.toList
def SqT (K:Za) (H:Hp) (a:Addr) (xs:List V):Prop:=
 Rd H a (.tup xs)\/
  ∃(o:Obj) (its:Array Value) (n:Nat),K.lookup a=some o/\o.cls=.type "tuple"/\o.data=.seq its n/\its.size<=sizeLine/\Vals xs its.toList
def absV:Value->Option V
 | .none=>some .non
 | .bool b=>some (.bl b)
 | .int i _=>some (.int i)
 | .str x _=>some (.str x)
 | .bytes b _=>some (.byt b)
 | .float b _=>some (.flt b)
 | .ref a=>some (.ref a)
 | .type n=>some (.ty n)
 | _=>none
def RelV.abs {x:V}{u:Value} (r:RelV x u):absV u=some x:=by
 cases x with
 | non=>cases r;rfl
 | bl _=>cases r;rfl
 | int _=>obtain⟨t,rfl⟩:=r;rfl
 | str _=>obtain⟨t,rfl⟩:=r;rfl
 | byt _=>obtain⟨t,rfl⟩:=r;rfl
 | flt _=>obtain⟨t,rfl⟩:=r;rfl
 | ref _=>cases r;rfl
 | ty _=>cases r;rfl
def RelV.inj {x y:V}{u:Value} (r:RelV x u) (q:RelV y u):x=y:=Y2 (r.abs.symm.trans q.abs)
def Vals.inj:∀{xs ys:List V}{us:List Value},Vals xs us->Vals ys us->xs=ys
 | _,_,_,.nil,.nil=>rfl
 | _,_,_,.cons r t,.cons r' t'=>by rw[r.inj r',Vals.inj t t']
section
variable {X:Cx}{pins:List (Addr×Obj)}{σ:St}{H:Hp}{s:Shared}{a:Addr}{xs ys:List V}
def SqL.of {K:Za} (h:H a=some (.lst xs)):SqL K H a xs:=.inl (.inl h)
def SqT.of {K:Za} (h:H a=some (.tup xs)):SqT K H a xs:=.inl (.inl h)
def Inv.list (I:Inv X pins σ H s) (h:SqL X.K H a xs):∃its:List Value,Vals xs its/\PlainL s.heap a its.toArray/\xs.length<=sizeLine:=by
 rcases h with h|⟨o,its,n,hk,hc,hd,hs,hz,r⟩
 ·obtain⟨z,its,n,r,e⟩:=h.ok I.hok;exact⟨its,r,⟨_,n,e,rfl,rfl,rfl⟩,z⟩
 ·refine⟨its.toList,r,⟨o,n,I.kIn a o hk,hc,hd,by simpa using hs⟩,?_⟩;have e:=r.length;simp only[YZ] at e;omega
def Inv.tuple (I:Inv X pins σ H s) (h:SqT X.K H a xs):∃its:List Value,Vals xs its/\IsTup s.heap a its.toArray/\xs.length<=sizeLine:=by
 rcases h with h|⟨o,its,n,hk,hc,hs,hz,r⟩
 ·obtain⟨z,its,r,p⟩:=h.ok I.hok;exact⟨its,r,p,z⟩
 ·refine⟨its.toList,r,⟨o,I.kIn a o hk,hc,n,by simpa using hs⟩,?_⟩;have e:=r.length;simp only[YZ] at e;omega
def Inv.list_inj (I:Inv X pins σ H s) (h:SqL X.K H a xs) (h':SqL X.K H a ys):xs=ys:=by
 obtain⟨its,r,⟨o,n,e,_,_,d⟩,_⟩:=I.list h;obtain⟨its',r',⟨o',n',e',_,_,d'⟩,_⟩:=I.list h';rw[e] at e';cases e';rw[d] at d';injection d' with d1 _
 have:its=its':=by simpa using Wa Array.toList d1
 subst this;exact r.inj r'
def Inv.tuple_inj (I:Inv X pins σ H s) (h:SqT X.K H a xs) (h':SqT X.K H a ys):xs=ys:=by
 obtain⟨its,r,⟨o,e,_,n,d⟩,_⟩:=I.tuple h;obtain⟨its',r',⟨o',e',_,n',d'⟩,_⟩:=I.tuple h';rw[e] at e';cases e';rw[d] at d';injection d' with d1 _
 have:its=its':=by simpa using Wa Array.toList d1
 subst this;exact r.inj r'
end
abbrev Cx.wish (X:Cx) (E:Value->Shared->Prop):Cx:={ X with xe:=E }
abbrev Cx.nox (X:Cx):Cx:=X.wish fun _ _=>False
def Cx.Ok.wish {X:Cx} (ok:X.Ok) (E:Value->Shared->Prop):(X.wish E).Ok:=
 ⟨ok.mod,ok.kind,ok.glob,ok.blt,ok.above,ok.inj,ok.has,ok.cab,ok.hd,ok.frames,ok.stk,ok.exf,ok.bs,ok.bsz,ok.noex,ok.exfs,ok.funs,ok.frf⟩
def Cx.Ok.unwish {X:Cx}{E:Value->Shared->Prop} (ok:(X.wish E).Ok):X.Ok:=
 ⟨ok.mod,ok.kind,ok.glob,ok.blt,ok.above,ok.inj,ok.has,ok.cab,ok.hd,ok.frames,ok.stk,ok.exf,ok.bs,ok.bsz,ok.noex,ok.exfs,ok.funs,ok.frf⟩
section
variable {X:Cx}{pins:List (Addr×Obj)}{σ:St}{H:Hp}{s:Shared}{E:Value->Shared->Prop}
def Inv.wish (I:Inv X pins σ H s) (E:Value->Shared->Prop):Inv (X.wish E) pins σ H s:=⟨I.ok.wish E,I.os,I.bare,I.base,I.loc,I.cell,I.free,I.freeC,I.pin,I.hok,I.len⟩
def Inv.unwish (I:Inv (X.wish E) pins σ H s):Inv X pins σ H s:=⟨I.ok.unwish,I.os,I.bare,I.base,I.loc,I.cell,I.free,I.freeC,I.pin,I.hok,I.len⟩
def SP.unwish {D:Ends}{f:Flow}{s':Shared} (h:SP (X.wish E) pins D f s'):SP X pins D f s':=by
 cases f with
 | next=>obtain⟨σ',H',I,q⟩:=h;exact⟨σ',H',I.unwish,q⟩
 | brk=>obtain⟨σ',H',I,q⟩:=h;exact⟨σ',H',I.unwish,q⟩
 | cont=>obtain⟨σ',H',I,q⟩:=h;exact⟨σ',H',I.unwish,q⟩
 | ret u=>obtain⟨v,σ',H',I,r,q⟩:=h;exact⟨v,σ',H',I.unwish,r,q⟩
def PSs.nox {st:List Stmt}{t:TS} (h:PSs X.nox st t):PSs X st t:=fun pins s σ H D I hw=>
 Wn (h pins s σ H D (I.wish _) hw) (fun _ _ q=>q.unwish) fun _ _ z=>False.elim z
end
section
variable {X:Cx}{st:Stmt}{rest:List Stmt}{t u:TS}{e:Expr}{te:TE}{pos:Pos}
def Eo:TS:=fun D σ H=>D.nx σ H
def tSeq (t u:TS):TS:=fun D σ H=>t { D with nx:=u D } σ H
def JJ:PSs X [] Eo:=fun _ _ σ H _ I h=>QT ⟨σ,H,I,h⟩
def J6 (h1:PS X st t) (h2:PSs X rest u):PSs X (st::rest) (tSeq t u):=by
 intro pins s σ H D I h;refine wpAny_execs_cons (thn (h1 pins s σ H { D with nx:=u D } I h) fun f s1 q=>?_)
 cases f with
 | next=>
  obtain⟨σ',H',I',q⟩:=q;exact h2 pins s1 σ' H' D I' q
 | ret v=>exact q
 | brk=>exact q
 | cont=>exact q
def J7 (h1:PS X st t):PSs X [st] t:=by
 intro pins s σ H D I h;refine wpAny_execs_cons (thn (h1 pins s σ H D I h) fun f s1 q=>?_);cases f with
 | next=>exact QT q
 | ret v=>exact q
 | brk=>exact q
 | cont=>exact q
def Inv.quiet {pins:List (Addr×Obj)}{σ:St}{H:Hp}{s:Shared} (I:Inv X pins σ H s):interactive X.env=false:=by simp[interactive,I.ok.kind]
def Sk (te:TE):TS:=fun D σ H=>te σ H fun _ H1=>D.nx σ H1
def Uu (he:PE X e te) (hs:swapsWith e none pos.line X.env=pure false:=by rfl):PS X (.Expr e pos) (Sk te):=by
 intro pins s σ H D I h;exact wpAny_Expr_any (thn (he pins s σ H _ I h) fun v s1 ⟨x,H1,I1,r1,q1⟩=>⟨σ,H1,I1,q1⟩) I.quiet hs
def tRet (te:TE):TS:=fun D σ H=>te σ H D.rt
def JC (he:PE X e te):PS X (.Return (some e) pos) (tRet te):=by
 intro pins s σ H D I h;exact wpAny_Return_some (thn (he pins s σ H _ I h) fun v s1 ⟨x,H1,I1,r1,q1⟩=>⟨x,σ,H1,I1,r1,q1⟩)
def tIfS (c:TT) (t u:TS):TS:=fun D σ H=>c σ H fun b H1=>if b=true then t D σ H1 else u D σ H1
def JI {c:Expr}{a b:List Stmt}{tc:TT} (hc:PT X c tc) (ha:PSs X a t) (hb:PSs X b u):PS X (.If c a b pos) (tIfS tc t u):=by
 intro pins s σ H D I h;refine wpAny_If (thn (hc pins s σ H _ I h) fun d s1 ⟨H1,I1,q1⟩=>?_);cases d with
 | true=>exact ha pins s1 σ H1 D I1 q1
 | false=>exact hb pins s1 σ H1 D I1 q1
def DZ:TS:=fun _ _ _=>False
def HA:PS X st DZ:=fun _ _ _ _ _ _ h=>h.elim
end
abbrev TG:=V->St->Hp->(St->Hp->Prop)->Prop
abbrev TGs:=List V->St->Hp->(St->Hp->Prop)->Prop
def PG (X:Cx) (target:Expr) (t:TG):Prop:=
 ∀(pins:List (Addr×Obj)) (s:Shared) (σ:St) (H:Hp) (v:V) (u:Value) (Q:St->Hp->Prop),Inv X pins σ H s->RelV v u->t v σ H Q->
  wpAny (model X.prog X.w) X.A (assign target X.env u) (fun _ s'=>∃σ' H',Inv X pins σ' H' s'/\Q σ' H') X.xe s
def PGs (X:Cx) (ts:List Expr) (t:TGs):Prop:=
 ∀(pins:List (Addr×Obj)) (s:Shared) (σ:St) (H:Hp) (vs:List V) (us:List Value) (Q:St->Hp->Prop),Inv X pins σ H s->Vals vs us->t vs σ H Q->
  wpAny (model X.prog X.w) X.A (assignInOrder ((assignEach ts X.env).map (·.2)) us) (fun _ s'=>∃σ' H',Inv X pins σ' H' s'/\Q σ' H') X.xe s
abbrev TSet:=V->V->V->Hp->(Hp->Prop)->Prop
def PSet (X:Cx) (t:TSet):Prop:=
 ∀(pins:List (Addr×Obj)) (s:Shared) (σ:St) (H:Hp) (o i v:V) (ov iv u:Value) (Q:Hp->Prop),Inv X pins σ H s->RelV o ov->RelV i iv->RelV v u->t o i v H Q->
  wpAny (model X.prog X.w) X.A (setItem ov iv u) (fun _ s'=>∃H',Inv X pins σ H' s'/\Q H') X.xe s
abbrev TIp:=V->V->Hp->VK->Prop
def PIp (X:Cx) (op:Operator) (t:TIp):Prop:=
 ∀(pins:List (Addr×Obj)) (s:Shared) (σ:St) (H:Hp) (x y:V) (v u:Value) (Q:VK),Inv X pins σ H s->RelV x v->RelV y u->t x y H Q->
  wpAny (model X.prog X.w) X.A (inplaceOp op v u) (EP X pins σ Q) X.xe s
section
variable {X:Cx}{pos:Pos}
def PD (i:Nat):TG:=fun v σ H Q=>Q (σ.set i (some v)) H
def SY {i:Nat}{x:Str} (hN:X.N.Nodup) (hi:X.N[i]?=some x) (hx:Loc X.env.scope x) (hf:X.fn x=true\/X.env.scope.names.lookup x=some .local:=by first|exact .inl rfl|exact .inr rfl|assumption):PG X (.Name x pos) (PD i):=by
 intro pins s σ H v u Q I r h;exact wpAny_assign_Name (TJ I hN hi hx r (fun s' I'=>⟨_,H,I',h⟩) hf)
def gNil:TGs:=fun vs σ H Q=>vs=[]/\Q σ H
def Hi (t:TG) (u:TGs):TGs:=fun vs σ H Q=>∃v r,vs=v::r/\t v σ H fun σ' H'=>u r σ' H' Q
def T9:PGs X [] gNil:=by
 intro pins s σ H vs us Q I r h;obtain⟨e,h⟩:=h;subst e;cases r
 exact assignInOrder_nil ⟨σ,H,I,h⟩
def Kc {e:Expr}{es:List Expr}{t:TG}{u:TGs} (h1:PG X e t) (h2:PGs X es u)
  (hs:(assignEach (e::es) X.env).map (·.2)=assign e X.env::(assignEach es X.env).map (·.2):=by rfl):PGs X (e::es) (Hi t u):=by
 intro pins s σ H vs us Q I r h;obtain⟨v,vr,e1,h⟩:=h;subst e1;cases r with
 | cons r rr=>
  rw[hs];refine assignInOrder_cons (thn (h1 pins s σ H _ _ _ I r h) fun _ s1 ⟨σ1,H1,I1,q1⟩=>?_);exact h2 pins s1 σ1 H1 _ _ Q I1 rr q1
def gTup (K:Za) (n:Nat) (t:TGs):TG:=fun v σ H Q=>∃a xs,v=.ref a/\SqT K H a xs/\xs.length=n/\t xs σ H Q
def IZ {es:List Expr}{k:Nat}{t:TGs}{n:Nat} (hc:X.calm=true) (h:PGs X es t)
  (hn:(assignEach es X.env).length=n:=by rfl) (hst:(assignEach es X.env).findIdx? (·.1)=none:=by rfl):PG X (.Tuple es k pos) (gTup X.K n t):=by
 intro pins s σ H v u Q I r hw;obtain⟨a,xs,e1,hq,hl,hw⟩:=hw;subst e1;cases r
 obtain⟨its,rv,ht,hz⟩:=I.tuple hq;refine assign_Tuple_tuple (I.ok.hd hc) ht (by simp[hn,←hl,rv.length]) hst fun h' hx=>?_;have I1:Inv X pins σ H { s with heap:=h' }:=I.kept (t':=s.toks) fun b o e=>hx b o (YK (Y3 e)) e
 exact h pins _ σ H xs _ Q I1 (by simpa using rv) hw
def gSub (to ti:TE) (t:TSet):TG:=fun v σ H Q=>to σ H fun o H1=>ti σ H1 fun i H2=>t o i v H2 fun H3=>Q σ H3
def Oj {o i:Expr}{to ti:TE}{t:TSet} (ho:PE X o to) (hi:PE X i ti) (hs:PSet X t)
  (ha:∀v,assign (.Subscript o i pos) X.env v=(do
   let ov ←holding [v] (eval o X.env)
   let iv ←holding [v,ov] (eval i X.env)
   standAt pos
   holding [v,ov,iv] (setItem ov iv v)
   release [v,ov,iv] []):=by intro _;rfl):PG X (.Subscript o i pos) (gSub to ti t):=by
 intro pins s σ H v u Q I r h;rw[ha];refine Yo (WL (thn (ho pins s σ H _ I h) fun ov s1 ⟨x,H1,I1,r1,q1⟩=>?_));refine Yo (WL (thn (hi pins s1 σ H1 _ I1 q1) fun iv s2 ⟨y,H2,I2,r2,q2⟩=>?_));refine Yo (wpAny_standAt (Yo (WL (thn (hs pins s2 σ H2 x y v ov iv u _ I2 r1 r2 r q2) fun _ s3 ⟨H3,I3,q3⟩=>?_))));exact wpAny_release ⟨σ,H3,I3,q3⟩
def tAsg (te:TE) (g:TG):TS:=fun D σ H=>te σ H fun x H1=>g x σ H1 D.nx
def Zcs {tg e:Expr}{te:TE}{g:TG} (he:PE X e te) (hg:PG X tg g) (hs:swapsWithSole [tg] e pos.line X.env=pure false:=by rfl) (hw:swappedStores [tg] e X.env=pure none:=by rfl)
  (h1:(assignEach [tg] X.env).map (·.2)=[assign tg X.env]:=by rfl):PS X (.Assign [tg] e pos) (tAsg te g):=by
 intro pins s σ H D I h;refine wpAny_Assign_stores (thn (he pins s σ H _ I h) fun v s1 ⟨x,H1,I1,r1,q1⟩=>?_) hs hw;rw[h1];exact thn (hg pins s1 σ H1 x v _ I1 r1 q1) fun _ s2 q=>q
def R1 {i:Nat}{x:Str}{e:Expr}{te:TE}{pos':Pos} (hN:X.N.Nodup) (hi:X.N[i]?=some x) (hx:Loc X.env.scope x) (he:PE X e te) (hs:swapsWith e (some (.Name x pos')) pos.line X.env=pure false:=by rfl) (hf:X.fn x=true\/X.env.scope.names.lookup x=some .local:=by first|exact .inl rfl|exact .inr rfl|assumption) :
  PS X (.Assign [.Name x pos'] e pos) (tAsg te (PD i)):=by
 intro pins s σ H D I h;refine wpAny_Assign_Name (thn (he pins s σ H _ I h) fun v s1 ⟨y,H1,I1,r1,q1⟩=>?_) hs;exact TJ I1 hN hi hx r1 (fun s2 I2=>⟨_,H1,I2,q1⟩) hf
def tAug (i:Nat) (te:TE) (ti:TIp):TS:=fun D σ H=>∃x,σ[i]?=some (some x)/\te σ H fun y H1=>ti x y H1 fun z H2=>D.nx (σ.set i (some z)) H2
def Cr {i:Nat}{x:Str}{e:Expr}{te:TE}{op:Operator}{ti:TIp}{pos':Pos} (hN:X.N.Nodup) (hi:X.N[i]?=some x) (hx:Loc X.env.scope x) (he:PE X e te) (ho:PIp X op ti) (hf:X.fn x=true\/X.env.scope.names.lookup x=some .local:=by first|exact .inl rfl|exact .inr rfl|assumption) :
  PS X (.AugAssign (.Name x pos') op e pos) (tAug i te ti):=by
 intro pins s σ H D I h;obtain⟨v,e1,h⟩:=h;obtain⟨m,hn,hl⟩:=I.loc;have vis:Vis X.env.scope x:=by rcases hx with k|k;exact .inl k;exact .inr (.inl k)
 obtain⟨u,r,l⟩:=hl i x v hi e1 vis;refine wpAny_AugAssign_Name ?_
 have go:wpAny (model X.prog X.w) X.A (eval e X.env) (fun w s₂=>wpAny (model X.prog X.w) X.A (inplaceOp op u w) (fun r s₃=>wpAny (model X.prog X.w) X.A (storeName X.env x r) (fun _=>SP X pins D .next) X.xe s₃) X.xe s₂) X.xe s:=by
  refine thn (he pins s σ H _ I h) fun w s1 ⟨y,H1,I1,r1,q1⟩=>?_;refine thn (ho pins s1 σ H1 v y u w _ I1 r r1 q1) fun z s2 ⟨zv,H2,I2,r2,q2⟩=>?_;exact TJ I2 hN hi hx r2 (fun s3 I3=>⟨_,H2,I3,q2⟩) hf
 rcases l with⟨hk,hm⟩|⟨hk,c,hc,hcell⟩
 ·exact wpAny_loadName_local I.ok.kind hk hn hm go
 ·rcases hk with hk|hk
  ·exact wpAny_loadName_cell I.ok.kind hk hc hcell go
  ·rcases hx with k|k
   ·have:X.env.scope.names.lookup x=some .free:=hk
    rw[k] at this;cases this
   ·have:X.env.scope.names.lookup x=some .free:=hk
    rw[k] at this;cases this
def ipI (f:Int->Int->Int):TIp:=fun x y H Q=>∃i j,x=.int i/\y=.int j/\Q (.int (f i j)) H
def GX:PIp X .Add (ipI fun i j=>i+j):=by
 intro pins s σ H x y v u Q I r1 r2 h;obtain⟨i,j,e1,e2,q⟩:=h;subst e1;subst e2;obtain⟨t,rfl⟩:=r1;obtain⟨t',rfl⟩:=r2;exact iadd_int ⟨.int _,H,I.tok _,⟨_,rfl⟩,q⟩
end
section
variable {X:Cx}{pos:Pos}
def Aw (c:TT) (tb:TS):TS:=fun D σ H=>∃W:Nat->St->Hp->Prop,(∃m,W m σ H)/\∀m σ H,W m σ H->
 c σ H fun b H1=>if b=true then ∃N:St->Hp->Prop,(∀σ' H',N σ' H'->∃m',m'<m/\W m' σ' H')/\tb { D with nx:=N,ct:=N,bk:=D.nx } σ H1 else D.nx σ H1
def Sb {c:Expr}{body:List Stmt}{tc:TT}{tb:TS} (hp:PassesOwn (model X.prog X.w) X.A X.env X.xe) (hc:PT X c tc) (hb:PSs X body tb):PS X (.While c body [] pos) (Aw tc tb):=by
 intro pins s σ H D I h;obtain⟨W,⟨m0,w0⟩,turn⟩:=h;refine wpAny_While (codeAny_whileLoop (fun n s'=>∃σ' H',Inv X pins σ' H' s'/\W n σ' H') ?_ m0 ⟨σ,H,I,w0⟩);rintro n s1 ⟨σ1,H1,I1,w1⟩;refine WU hp (thn (hc pins s1 σ1 H1 _ I1 (turn n σ1 H1 w1)) fun b s2 ⟨H2,I2,q2⟩=>?_);cases b with
 | true=>
  obtain⟨N,hN,q2⟩:=q2;rw[Ys rfl];refine WU hp (thn (hb pins s2 σ1 H2 _ I2 q2) fun f s3 q3=>?_);cases f with
  | next=>
   obtain⟨σ3,H3,I3,n3⟩:=q3;obtain⟨m',hm,w3⟩:=hN σ3 H3 n3;exact⟨m',hm,σ3,H3,I3,w3⟩
  | cont=>
   obtain⟨σ3,H3,I3,n3⟩:=q3;obtain⟨m',hm,w3⟩:=hN σ3 H3 n3;exact⟨m',hm,σ3,H3,I3,w3⟩
  | brk=>exact q3
  | ret v=>exact q3
 | false=>
  rw[Yq Y9];exact QT ⟨σ1,H2,I2,q2⟩
end
structure It where
 go:Nat->Hp->Prop
 yld:Nat->Hp->V->Hp->Prop
 stop:Nat->Hp->Prop
def FpOk (X:Cx) (pins:List (Addr×Obj)) (H:Hp) (b:Addr):Prop:=
 H b=none/\b≠X.env.locals/\b∉X.fs/\(b∈X.ex\/X.s₀.heap.objs.size<=b)/\(∀x c,X.env.cells.lookup x=some c->c≠b)/\∀p∈X.pn++pins,p.1≠b
def Inv.fpOk {X:Cx}{pins:List (Addr×Obj)}{σ:St}{H H':Hp}{s:Shared}{b:Addr} (I:Inv X pins σ H s) (hb:s.heap.objs.size<=b) (hn:H' b=none):FpOk X pins H' b:=by
 refine⟨hn,Vo (YT I.lt hb),I.nofs hb,.inr (Y8 I.sz hb),fun x c e z=>?_,fun p hp z=>?_⟩
 ·obtain⟨v,q⟩:=I.cell x c e;exact absurd (YT q.lt (by rw[z];exact hb)) (W8 _)
 ·exact absurd (YT (Y3 (I.pin p hp).1) (by rw[z];exact hb)) (W8 _)
structure Turn (P:Program) (w:World) (K:Za) (tg:Expr) (J:It) (fp:List Addr) (it:Addr) (tn:Nat->Heap->Prop):Prop where
 mem:it∈fp
 obj:∀i h,tn i h->∀b∈fp,∃o,h.get? b=some o/\∀v,o.data≠.cell v
 keep:∀i h h',tn i h->(∀b∈fp,∀o,h.get? b=some o->h'.get? b=some o)->tn i h'
 item:∀(X:Cx),X.prog=P->X.w=w->X.K=K->X.calm=true->∀(i:Nat) (pins:List (Addr×Obj)) (s:Shared) (σ:St) (H:Hp) (E:Value->Shared->Prop),Inv X pins σ H s->(∀b∈fp,FpOk X pins H b)->tn i s.heap->J.go i H->
  wpAny (model P w) X.A (pyNext (.ref it)) (fun r s1=>∃u,r=some u/\
   wpAny (model P w) X.A (letOwnedTupleGo tg (.ref it) u) (fun _ s2=>∃x H',Inv X pins σ H' s2/\RelV x u/\J.yld i H x H'/\tn (i+1) s2.heap/\∀b∈fp,H' b=none) E s1) E s
 done:∀(X:Cx),X.prog=P->X.w=w->X.K=K->X.calm=true->∀(i:Nat) (pins:List (Addr×Obj)) (s:Shared) (σ:St) (H:Hp) (E:Value->Shared->Prop),Inv X pins σ H s->(∀b∈fp,FpOk X pins H b)->tn i s.heap->J.stop i H->
  wpAny (model P w) X.A (pyNext (.ref it)) (fun r s1=>r=none/\Inv X pins σ H s1) E s
 self:∀(A:Around) (i:Nat) (s:Shared) (Q:Value->Shared->Prop) (E:Value->Shared->Prop),tn i s.heap->Q (.ref it) s->wpAny (model P w) A (pyIter (.ref it)) Q E s
abbrev TI:=St->Hp->(It->Hp->Prop)->Prop
def PIE (X:Cx) (pins:List (Addr×Obj)) (σ:St) (tg:Expr) (R:It->Hp->Prop) (itv:Value) (s2:Shared):Prop:=
 ∃(it:Addr) (fp:List Addr) (tn:Nat->Heap->Prop) (J:It) (H':Hp),itv=.ref it/\Inv X pins σ H' s2/\Turn X.prog X.w X.K tg J fp it tn/\tn 0 s2.heap/\(∀b∈fp,FpOk X pins H' b)/\R J H'
def PI (X:Cx) (tg iter:Expr) (wi:TI):Prop:=
 ∀(pins:List (Addr×Obj)) (s:Shared) (σ:St) (H:Hp) (R:It->Hp->Prop),Inv X pins σ H s->wi σ H R->
  wpAny (model X.prog X.w) X.A (eval iter X.env) (fun v s1=>wpAny (model X.prog X.w) X.A (pyIter v) (PIE X pins σ tg R) X.xe s1) X.xe s
def SD {M : Model} {A : Around} {E : Value → Shared → Prop} {s : Shared} {tg : Expr} {it : Addr} {u : Value} {o : Obj} {n : String} {vs : Array Value} {Q : Unit → Shared → Prop} (ho : s.heap.get? it = some o) (hc : o.cls = .type n) (hd : o.data = .fields vs)
    (hn : ["enumerate", "zip", "dict_itemiterator", "dict_reverseitemiterator", "odict_iterator", "itertools.zip_longest", "itertools.pairwise"].contains n = false) (hQ : Q () s) : wpAny M A (letOwnedTupleGo tg (.ref it) u) Q E s := by
  unfold letOwnedTupleGo
  cases tg <;> first
    | exact Yt hQ
    | (cases u <;> first
        | exact Yt hQ
        | (refine Yo (wpAny_load ho ?_)
           rw [hc, hd]
           show wpAny M A (if (["enumerate", "zip", "dict_itemiterator", "dict_reverseitemiterator", "odict_iterator", "itertools.zip_longest", "itertools.pairwise"].contains n && vs[0]? == some (rawInt _)) = true then _ else _) Q E s
           rw [Yq (by intro h; rw [hn, Q9] at h; cases h)]
           exact Yt hQ))
def Itl (K:Za) (a:Addr):It:=
 ⟨fun i H=>∃xs x,SqL K H a xs/\xs[i]?=some x,fun i H x H'=>H'=H/\∀xs,SqL K H a xs->xs[i]?=some x,fun i H=>∃xs,SqL K H a xs/\xs.length<=i⟩
def Itt (K:Za) (a:Addr):It:=
 ⟨fun i H=>∃xs x,SqT K H a xs/\xs[i]?=some x,fun i H x H'=>H'=H/\∀xs,SqT K H a xs->xs[i]?=some x,fun i H=>∃xs,SqT K H a xs/\xs.length<=i⟩
def Itr (lo:Int) (n:Nat):It:=⟨fun i _=>i<n,fun i H x H'=>H'=H/\x=.int (lo+i),fun i _=>n<=i⟩
def LG {P:Program}{w:World}{K:Za}{tg:Expr} (a it:Addr):Turn P w K tg (Itl K a) [it] it (fun i h=>h.IsListIter it a i) where
 mem:=by simp
 obj:=fun i h st b hb=>by
  have e:b=it:=by simpa using hb
  subst e;obtain⟨o,e,c,d⟩:=st;exact⟨o,e,fun v z=>by rw[d] at z;cases z⟩
 keep:=fun i h h' st k=>st.at fun o e=>k it (by simp) o e
 item:=by
  intro X hP hw hK hc i pins s σ H E I hf st hg;subst hP hw hK;obtain⟨xs,x,hq,hx⟩:=hg;obtain⟨its,rv,p,hz⟩:=I.list hq;obtain⟨u,hu,ru⟩:=rv.get hx;obtain⟨f0,f1,f2,f3,f4,f5⟩:=hf it (by simp);refine wpAny_pyNext_list_item st p.isList (x:=u) (by simpa using hu) fun h' st' sb=>?_;have I1:Inv X pins σ H { s with heap:=h' }:=I.turned (t':=s.toks) (fun b o hb e=>(sb.2 b hb).trans e) f0 f1 f3 f4 f5
  obtain⟨o,e,c,d⟩:=id st';exact⟨u,rfl,SD (s:={ s with heap:=h' }) e c d (by decide) ⟨x,H,I1,ru,⟨rfl,fun ys hy=>by rw[I.list_inj hy hq];exact hx⟩,st',fun b hb=>(hf b hb).1⟩⟩
 done:=by
  intro X hP hw hK hc i pins s σ H E I hf st hg;subst hP hw hK;obtain⟨xs,hq,hx⟩:=hg;obtain⟨its,rv,p,hz⟩:=I.list hq;obtain⟨f0,f1,f2,f3,f4,f5⟩:=hf it (by simp);have hl:=rv.length;exact wpAny_pyNext_list_end (I.ok.hd hc) st p.isList (by simp;omega) fun h' eb=>⟨rfl,I.turned (t':=s.toks) (fun b o hb e=>eb b o hb e) f0 f1 f3 f4 f5⟩
 self:=fun _ _ _ _ _ st h=>wpAny_pyIter_listiter st h
def Zdq {P:Program}{w:World}{K:Za}{tg:Expr} (a it:Addr):Turn P w K tg (Itt K a) [it] it (fun i h=>h.IsTupleIter it a i) where
 mem:=by simp
 obj:=fun i h st b hb=>by
  have e:b=it:=by simpa using hb
  subst e;obtain⟨o,e,c,d⟩:=st;exact⟨o,e,fun v z=>by rw[d] at z;cases z⟩
 keep:=fun i h h' st k=>st.at fun o e=>k it (by simp) o e
 item:=by
  intro X hP hw hK hc i pins s σ H E I hf st hg;subst hP hw hK;obtain⟨xs,x,hq,hx⟩:=hg;obtain⟨its,rv,p,hz⟩:=I.tuple hq;obtain⟨u,hu,ru⟩:=rv.get hx;obtain⟨f0,f1,f2,f3,f4,f5⟩:=hf it (by simp);refine wpAny_pyNext_tuple_item st (show s.heap.IsTuple a its.toArray from p) (x:=u) (by simpa using hu) fun h' st' sb=>?_
  have I1:Inv X pins σ H { s with heap:=h' }:=I.turned (t':=s.toks) (fun b o hb e=>(sb.2 b hb).trans e) f0 f1 f3 f4 f5
  obtain⟨o,e,c,d⟩:=id st';exact⟨u,rfl,SD (s:={ s with heap:=h' }) e c d (by decide) ⟨x,H,I1,ru,⟨rfl,fun ys hy=>by rw[I.tuple_inj hy hq];exact hx⟩,st',fun b hb=>(hf b hb).1⟩⟩
 done:=by
  intro X hP hw hK hc i pins s σ H E I hf st hg;subst hP hw hK;obtain⟨xs,hq,hx⟩:=hg;obtain⟨its,rv,p,hz⟩:=I.tuple hq;obtain⟨f0,f1,f2,f3,f4,f5⟩:=hf it (by simp);have hl:=rv.length;exact wpAny_pyNext_tuple_end (I.ok.hd hc) st (show s.heap.IsTuple a its.toArray from p) (by simp;omega) fun h' eb=>⟨rfl,I.turned (t':=s.toks) (fun b o hb e=>eb b o hb e) f0 f1 f3 f4 f5⟩
 self:=fun _ _ _ _ _ st h=>wpAny_pyIter_tupleiter st h
def Zb6 {P:Program}{w:World}{K:Za}{tg:Expr} (it:Addr) (lo:Int) (n:Nat):Turn P w K tg (Itr lo n) [it] it (fun i h=>IsRangeIter h it (lo+(i:Nat)*1) ((n:Int)-(i:Nat)) 1) where
 mem:=by simp
 obj:=fun i h st b hb=>by
  have e:b=it:=by simpa using hb
  subst e
  exact⟨_,st,fun v z=>by
   have z':Data.fields _=Data.cell v:=z;cases z'⟩
 keep:=fun i h h' st k=>k it (by simp) _ st
 item:=by
  intro X hP hw hK hc i pins s σ H E I hf st hg;subst hP hw hK;obtain⟨f0,f1,f2,f3,f4,f5⟩:=hf it (by simp);have W:=Walks.range (prog:=X.prog) (w:=X.w) (I.ok.hd hc) it lo 1 n;refine W.item i s _ _ hg st fun v h' tk hv st' kk=>?_;obtain⟨t,rfl⟩:=hv;have I1:Inv X pins σ H { s with heap:=h',toks:=tk }:=I.turned (fun b o hb e=>kk b o (by simpa using hb) e) f0 f1 f3 f4 f5
  refine⟨_,rfl,SD (s:={ s with heap:=h',toks:=tk }) (n:="range_iterator") st' rfl rfl (by decide) ⟨.int (lo+i),H,I1,⟨t,?_⟩,⟨rfl,rfl⟩,st',fun b hb=>(hf b hb).1⟩⟩
  rw[Int.mul_one]
 done:=by
  intro X hP hw hK hc i pins s σ H E I hf st hg;subst hP hw hK;obtain⟨f0,f1,f2,f3,f4,f5⟩:=hf it (by simp);exact wpAny_pyNext_range_end (I.ok.hd hc) st (by have:n<=i:=hg;omega) fun h' eb=>⟨rfl,I.turned (t':=s.toks) (fun b o hb e=>eb b o hb e) f0 f1 f3 f4 f5⟩
 self:=fun _ _ _ _ _ st h=>wpAny_pyIter_rangeiter st h
section
variable {X:Cx}{tg:Expr}
def Nk (K:Za) (tl:TE):TI:=fun σ H R=>tl σ H fun x H1=>∃a,x=.ref a/\(∃xs,SqL K H1 a xs)/\R (Itl K a) H1
def iTup (K:Za) (tl:TE):TI:=fun σ H R=>tl σ H fun x H1=>∃a,x=.ref a/\(∃xs,SqT K H1 a xs)/\R (Itt K a) H1
def Dj {l:Expr}{tl:TE} (hl:PE X l tl):PI X tg l (Nk X.K tl):=by
 intro pins s σ H R I h;refine thn (hl pins s σ H _ I h) fun v s1 ⟨x,H1,I1,r1,q1⟩=>?_;obtain⟨a,e,⟨xs,hq⟩,q⟩:=q1;subst e;cases r1
 obtain⟨its,rv,p,hz⟩:=I1.list hq;refine wpAny_pyIter_list p.isList ?_;refine⟨s1.heap.objs.size,[s1.heap.objs.size],_,_,H1,rfl,I1.kept (t':=s1.toks) fun b o e=>Yu _ e,LG a _,⟨_,Y7 _ rfl,rfl,rfl⟩,fun b hb=>?_,q⟩;have e:b=s1.heap.objs.size:=by simpa using hb
 subst e;exact I1.fpOk (Yx _) (I1.hok.fresh (Yx _))
def Zdv {l:Expr}{tl:TE} (hl:PE X l tl):PI X tg l (iTup X.K tl):=by
 intro pins s σ H R I h;refine thn (hl pins s σ H _ I h) fun v s1 ⟨x,H1,I1,r1,q1⟩=>?_;obtain⟨a,e,⟨xs,hq⟩,q⟩:=q1;subst e;cases r1
 obtain⟨its,rv,p,hz⟩:=I1.tuple hq;refine wpAny_pyIter_tuple (show s1.heap.IsTuple a its.toArray from p) ?_
 refine⟨s1.heap.objs.size,[s1.heap.objs.size],_,_,H1,rfl,I1.kept (t':=s1.toks) fun b o e=>Yu _ e,Zdq a _,⟨_,Y7 _ rfl,rfl,rfl⟩,fun b hb=>?_,q⟩;have e:b=s1.heap.objs.size:=by simpa using hb
 subst e;exact I1.fpOk (Yx _) (I1.hok.fresh (Yx _))
def Gm {pins:List (Addr×Obj)}{σ:St}{H:Hp}{s:Shared}{R:It->Hp->Prop}{E:Value->Shared->Prop}{lo hi:Int}{t u v:Tok}{tk:Nat} (I:Inv X pins σ H s) (h1:-(2 ^ 62)<=lo) (h2:lo<2 ^ 62) (h3:-(2 ^ 62)<=hi) (h4:hi<2 ^ 62)
  (q:R (Itr lo (hi-lo).toNat) H):wpAny (model X.prog X.w) X.A (pyIter (.ref s.heap.objs.size)) (PIE X pins σ tg R) E { s with heap:=s.heap.push { cls:=.type "range",data:=.fields #[.int lo t,.int hi u,.int 1 v] },toks:=tk }:=by
 refine wpAny_pyIter_range (IsRange.new ..) (small_one h1 h2 h3 h4) ?_;have I1:Inv X pins σ H { s with heap:=s.heap.push { cls:=.type "range",data:=.fields #[.int lo t,.int hi u,.int 1 v] },toks:=tk }:=I.kept fun b o e=>Yu _ e
 refine⟨(s.heap.push { cls:=.type "range",data:=.fields #[.int lo t,.int hi u,.int 1 v] }).objs.size,[(s.heap.push { cls:=.type "range",data:=.fields #[.int lo t,.int hi u,.int 1 v] }).objs.size],_,_,H,rfl,
  I1.kept (t':=tk) fun b o e=>Yu _ e,Zb6 _ lo (hi-lo).toNat,?_,fun b hb=>?_,q⟩
 ·have e1:lo+((0:Nat):Int)*1=lo:=by simp
  have e2:(((hi-lo).toNat:Nat):Int)-((0:Nat):Int)=Builtin.Range.rangeSize lo hi 1:=by rw[rangeSize_one];split<;>omega
  show IsRangeIter _ _ (lo+((0:Nat):Int)*1) ((((hi-lo).toNat:Nat):Int)-((0:Nat):Int)) 1;rw[e1,e2];exact Y7 _ rfl
 ·have e:b=(s.heap.push { cls:=.type "range",data:=.fields #[.int lo t,.int hi u,.int 1 v] }).objs.size:=by simpa using hb
  subst e;exact I1.fpOk (Yx _) (I1.hok.fresh (Yx _))
def CV (ta:TA):TI:=fun σ H R=>ta σ H fun vs H1=>∃j:Int,vs=[.int j]/\-(2 ^ 62)<=j/\j<2 ^ 62/\R (Itr 0 j.toNat) H1
def CK (ta:TA):TI:=fun σ H R=>ta σ H fun vs H1=>∃i j:Int,vs=[.int i,.int j]/\(-(2 ^ 62)<=i/\i<2 ^ 62/\-(2 ^ 62)<=j/\j<2 ^ 62)/\R (Itr i (j-i).toNat) H1
def Kn {a:Expr}{ta:TA}{p pos:Pos} (hg:Gl X "range") (hm:X.mg "range"=none) (ha:PA X [a] ta) (hs:starEach [a] X.env=[(false,eval a X.env)]:=by rfl):PI X tg (.Call (.Name "range" p) [a] [] pos) (CV ta):=by
 intro pins s σ H R I h;refine Call_ (T7 I hg hm boot_range (Qv (thn (ha pos pins s σ H _ I h) fun us s1 ⟨vs,H1,I1,r1,q1⟩=>?_) hs rfl));obtain⟨j,e,q1,q2,q⟩:=q1;subst e;cases r1 with
 | cons r rr=>
  cases rr
  obtain⟨t,rfl⟩:=r;exact call_range_1 (Gm I1 (by omega) (by omega) q1 q2 (by simpa using q))
def Hr {a b:Expr}{ta:TA}{p pos:Pos} (hg:Gl X "range") (hm:X.mg "range"=none) (ha:PA X [a,b] ta) (hs:starEach [a,b] X.env=[(false,eval a X.env),(false,eval b X.env)]:=by rfl) (hs2:starEach [b] X.env=[(false,eval b X.env)]:=by rfl) :
  PI X tg (.Call (.Name "range" p) [a,b] [] pos) (CK ta):=by
 intro pins s σ H R I h;refine Call_ (T7 I hg hm boot_range (Qv (thn (ha pos pins s σ H _ I h) fun us s1 ⟨vs,H1,I1,r1,q1⟩=>?_) (by rw[hs,hs2]) (by rw[hs2];rfl)));obtain⟨i,j,e,⟨q1,q2,q3,q4⟩,q⟩:=q1;subst e;cases r1 with
 | cons r rr=>
  cases rr with
  | cons r' rr=>
   cases rr
   obtain⟨t,rfl⟩:=r;obtain⟨t',rfl⟩:=r';exact call_range_2 (Gm I1 q1 q2 q3 q4 q)
def tFor (wi:TI) (g:TG) (tb:TS):TS:=fun D σ H=>wi σ H fun J H1=>∃W:Nat->Nat->St->Hp->Prop,(∃m,W 0 m σ H1)/\∀i m σ H,W i m σ H->
 (J.stop i H/\D.nx σ H)\/(J.go i H/\∃N:St->Hp->Prop,(∀σ' H',N σ' H'->∃m',m'<m/\W (i+1) m' σ' H')/\∀x H',J.yld i H x H'->g x σ H' fun σ2 H2=>tb { D with nx:=N,ct:=N,bk:=D.nx } σ2 H2)
def Nl (fp:List Addr) (h:Heap):List (Addr×Obj):=fp.filterMap fun b=>(h.get? b).map fun o=>(b,o)
def NR {fp:List Addr}{h:Heap}{b:Addr}{o:Obj} (hb:b∈fp) (e:h.get? b=some o):(b,o)∈Nl fp h:=Vf.mpr ⟨b,hb,by rw[e];rfl⟩
def On {fp:List Addr}{h:Heap}{p:Addr×Obj} (hp:p∈Nl fp h):p.1∈fp/\h.get? p.1=some p.2:=by
 obtain⟨b,hb,e⟩:=Vf.mp hp;cases q:h.get? b with
 | none=>rw[q] at e;cases e
 | some o=>
  rw[q] at e;have e':(b,o)=p:=Y2 e;subst e';exact⟨hb,q⟩
def Inv.pinned {pins:List (Addr×Obj)}{σ:St}{H:Hp}{s:Shared}{fp:List Addr} (I:Inv X pins σ H s) (hf:∀b∈fp,FpOk X pins H b) (ho:∀b∈fp,∃o,s.heap.get? b=some o/\∀v,o.data≠.cell v):Inv X (pins++Nl fp s.heap) σ H s:=
 I.pins_of fun p hp=>(YL.mp hp).elim (fun z=>I.pin p (YS _ z)) fun z=>by
  obtain⟨hb,e⟩:=On z;obtain⟨f0,f1,f2,_⟩:=hf p.1 hb;obtain⟨o,e',d⟩:=ho p.1 hb;rw[e] at e';cases e';exact⟨e,f0,f1,f2,d⟩
def Inv.unpinned {pins pl:List (Addr×Obj)}{σ:St}{H:Hp}{s:Shared} (I:Inv X (pins++pl) σ H s):Inv X pins σ H s:=I.pins_of fun p hp=>I.pin p (YS _ (WI _ hp))
def UP {iter:Expr}{body:List Stmt}{wi:TI}{g:TG}{tb:TS}{pos:Pos} (hp:PassesOwn (model X.prog X.w) X.A X.env X.xe) (hc:X.calm=true) (hi:PI X tg iter wi) (hg:PG X tg g) (hb:PSs X body tb)
  (hs:∀x,foldedSetIterable iter X.env x=pure x:=by intro _;rfl):PS X (.For tg iter body [] pos) (tFor wi g tb):=by
 intro pins s σ H D I h;refine wpAny_For (thn (hi pins s σ H _ I h) fun v s1 h1=>thn h1 fun itv s2 h2=>?_) hs;obtain⟨it,fp,tn,J,H2,e,I2,T,st2,f2,W,⟨m0,w0⟩,turn⟩:=h2;subst e;have stat:∀{H':Hp},(∀b∈fp,H' b=none)->∀b∈fp,FpOk X pins H' b:=fun hn b hb=>⟨hn b hb,(f2 b hb).2⟩;refine codeAny_forLoop_any (fun n s'=>∃i σ' H',Inv X pins σ' H' s'/\tn i s'.heap/\(∀b∈fp,H' b=none)/\W i n σ' H') ?_ m0 ⟨0,σ,H2,I2,st2,fun b hb=>(f2 b hb).1,w0⟩;rintro n s3 ⟨i,σ3,H3,I3,st3,fr3,w3⟩;rcases turn i n σ3 H3 w3 with⟨stop,qn⟩|⟨go,N,hN,step⟩
 ·refine WU hp (thn (T.done X rfl rfl rfl hc i pins s3 σ3 H3 X.xe I3 (stat fr3) st3 stop) fun r s4 ⟨hr,I4⟩=>?_);subst hr;exact QT ⟨σ3,H3,I4,qn⟩
 ·refine WU hp (thn (T.item X rfl rfl rfl hc i pins s3 σ3 H3 X.xe I3 (stat fr3) st3 go) fun r s4 ⟨u,hr,h4⟩=>?_);subst hr;refine WU hp (thn h4 fun _ s5 ⟨x,H5,I5,r5,y5,st5,fr5⟩=>?_);have I5':=I5.pinned (stat fr5) (T.obj _ _ st5);refine WU hp (thn (hg _ s5 σ3 H5 x u _ I5' r5 (step x H5 y5)) fun _ s6 ⟨σ6,H6,I6,q6⟩=>?_);refine WU hp (thn (hb _ s6 σ6 H6 _ I6 q6) fun f s7 q7=>?_)
  have again:∀{σ7:St} {H7:Hp},Inv X (pins++Nl fp s5.heap) σ7 H7 s7->N σ7 H7->∃m,m<n/\∃i σ' H',Inv X pins σ' H' s7/\tn i s7.heap/\(∀b∈fp,H' b=none)/\W i m σ' H':=fun {σ7 H7} I7 n7=>by
   obtain⟨m',hm,w7⟩:=hN σ7 H7 n7;refine⟨m',hm,i+1,σ7,H7,I7.unpinned,T.keep _ _ _ st5 fun b hb o e=>(I7.pin (b,o) (YS _ (YS _ (NR hb e)))).1,fun b hb=>?_,w7⟩;obtain⟨o,e,d⟩:=T.obj _ _ st5 b hb;exact(I7.pin (b,o) (YS _ (YS _ (NR hb e)))).2.1
  cases f with
  | next=>obtain⟨σ7,H7,I7,n7⟩:=q7;exact again I7 n7
  | cont=>obtain⟨σ7,H7,I7,n7⟩:=q7;exact again I7 n7
  | brk=>obtain⟨σ7,H7,I7,q7⟩:=q7;exact⟨σ7,H7,I7.unpinned,q7⟩
  | ret v=>obtain⟨x7,σ7,H7,I7,r7,q7⟩:=q7;exact⟨x7,σ7,H7,I7.unpinned,r7,q7⟩
end
abbrev R2:=V->V->Hp->VK->Prop
def OpR (X:Cx) (f:Value->Value->Sem Value) (r:R2):Prop:=
 ∀(pins:List (Addr×Obj)) (s:Shared) (σ:St) (H:Hp) (x y:V) (v u:Value) (Q:VK),Inv X pins σ H s->RelV x v->RelV y u->r x y H Q->
  wpAny (model X.prog X.w) X.A (f v u) (EP X pins σ Q) X.xe s
def UnR (X:Cx) (f:Value->Sem Value) (r:V->Hp->VK->Prop):Prop:=
 ∀(pins:List (Addr×Obj)) (s:Shared) (σ:St) (H:Hp) (x:V) (v:Value) (Q:VK),Inv X pins σ H s->RelV x v->r x H Q->
  wpAny (model X.prog X.w) X.A (f v) (EP X pins σ Q) X.xe s
def UB (X:Cx) (f:Value) (r:List V->Hp->VK->Prop):Prop:=
 ∀(pins:List (Addr×Obj)) (s:Shared) (σ:St) (H:Hp) (xs:List V) (us:List Value) (Q:VK),Inv X pins σ H s->Vals xs us->r xs H Q->
  wpAny (model X.prog X.w) X.A (call f us) (EP X pins σ Q) X.xe s
def TruR (X:Cx) (r:V->Hp->(Bool->Hp->Prop)->Prop):Prop:=
 ∀(pins:List (Addr×Obj)) (s:Shared) (σ:St) (H:Hp) (x:V) (v:Value) (Q:Bool->Hp->Prop),Inv X pins σ H s->RelV x v->r x H Q->
  wpAny (model X.prog X.w) X.A (truthy v) (TP X pins σ Q) X.xe s
def tOp (r:R2) (ta tb:TE):TE:=fun σ H Q=>ta σ H fun x H1=>tb σ H1 fun y H2=>r x y H2 Q
def tUn (r:V->Hp->VK->Prop) (ta:TE):TE:=fun σ H Q=>ta σ H fun x H1=>r x H1 Q
def rI (C:Int->Int->Prop) (g:Int->Int->V):R2:=fun x y H Q=>∃i j,x=.int i/\y=.int j/\C i j/\Q (g i j) H
def rI0 (g:Int->Int->V):R2:=fun x y H Q=>∃i j,x=.int i/\y=.int j/\Q (g i j) H
def rU (g:Int->V):V->Hp->VK->Prop:=fun x H Q=>∃i,x=.int i/\Q (g i) H
section
variable {X:Cx}{a b c:Expr}{ta tb tc:TE}{pos:Pos}
def binT (ha:PE X a ta) (hb:PE X b tb) {pins:List (Addr×Obj)}{s:Shared}{σ:St}{H:Hp}{R:V->V->Hp->Prop} (I:Inv X pins σ H s)
  (h:ta σ H fun x H1=>tb σ H1 fun y H2=>R x y H2) {Q:Value->Shared->Prop} {f:Value->Value->Sem Value}
  (hf:∀v u s2 x y H2,Inv X pins σ H2 s2->RelV x v->RelV y u->R x y H2->wpAny (model X.prog X.w) X.A (f v u) Q X.xe s2) :
  wpAny (model X.prog X.w) X.A (eval a X.env) (fun v s₁=>wpAny (model X.prog X.w) X.A (eval b X.env) (fun u s₂=>wpAny (model X.prog X.w) X.A (f v u) Q X.xe s₂) X.xe s₁) X.xe s:=by
 refine thn (ha pins s σ H _ I h) fun v s1 ⟨x,H1,I1,r1,q1⟩=>?_;refine thn (hb pins s1 σ H1 _ I1 q1) fun u s2 ⟨y,H2,I2,r2,q2⟩=>?_;exact hf v u s2 x y H2 I2 r1 r2 q2
def J9 {op:Operator}{r:R2} (ho:OpR X (binaryOp op) r) (ha:PE X a ta) (hb:PE X b tb):PE X (.BinOp a op b pos) (tOp r ta tb):=by
 intro pins s σ H Q I h;exact wpAny_BinOp (binT ha hb I h fun v u s2 x y H2 I2 rx ry q=>ho pins s2 σ H2 x y v u Q I2 rx ry q)
def U1 {op:UnaryOp}{r:V->Hp->VK->Prop} (ho:UnR X (unaryOp op) r) (ha:PE X a ta):PE X (.UnaryOp op a pos) (tUn r ta):=by
 intro pins s σ H Q I h;exact UnaryOp_ (thn (ha pins s σ H _ I h) fun v s1 ⟨x,H1,I1,r1,q1⟩=>ho pins s1 σ H1 x v Q I1 r1 q1)
def opI {f:Value->Value->Sem Value}{C:Int->Int->Prop}{g:Int->Int->Int}
  (rule:∀(i j:Int) (t u:Tok) (s:Shared) (Q:Value->Shared->Prop) (E:Value->Shared->Prop),C i j->Q (.int (g i j) s.toks) { s with toks:=s.toks+1 }->wpAny (model X.prog X.w) X.A (f (.int i t) (.int j u)) Q E s) :
  OpR X f (rI C fun i j=>.int (g i j)):=by
 intro pins s σ H x y v u Q I rx ry h;obtain⟨i,j,rfl,rfl,hc,q⟩:=h;obtain⟨t,rfl⟩:=rx;obtain⟨t',rfl⟩:=ry;exact rule i j t t' s _ _ hc ⟨.int (g i j),H,I.tok _,⟨_,rfl⟩,q⟩
def opI0 {f:Value->Value->Sem Value}{g:Int->Int->Int}
  (rule:∀(i j:Int) (t u:Tok) (s:Shared) (Q:Value->Shared->Prop) (E:Value->Shared->Prop),Q (.int (g i j) s.toks) { s with toks:=s.toks+1 }->wpAny (model X.prog X.w) X.A (f (.int i t) (.int j u)) Q E s) :
  OpR X f (rI0 fun i j=>.int (g i j)):=by
 intro pins s σ H x y v u Q I rx ry h;obtain⟨i,j,rfl,rfl,q⟩:=h;obtain⟨t,rfl⟩:=rx;obtain⟨t',rfl⟩:=ry;exact rule i j t t' s _ _ ⟨.int (g i j),H,I.tok _,⟨_,rfl⟩,q⟩
def opB0 {f:Value->Value->Sem Value}{g:Int->Int->Bool}
  (rule:∀(i j:Int) (t u:Tok) (s:Shared) (Q:Value->Shared->Prop) (E:Value->Shared->Prop),Q (.bool (g i j)) s->wpAny (model X.prog X.w) X.A (f (.int i t) (.int j u)) Q E s) :
  OpR X f (rI0 fun i j=>.bl (g i j)):=by
 intro pins s σ H x y v u Q I rx ry h;obtain⟨i,j,rfl,rfl,q⟩:=h;obtain⟨t,rfl⟩:=rx;obtain⟨t',rfl⟩:=ry;exact rule i j t t' s _ _ ⟨.bl (g i j),H,I,rfl,q⟩
def CDiv (i j:Int):Prop:=0<j/\j<1073741824
def CPow (i j:Int):Prop:=0<=j/\j<=1000000/\i.natAbs<2 ^ 64
def CMul (i j:Int):Prop:=(-(2 ^ 64)<i/\i<2 ^ 64)\/(-(2 ^ 64)<j/\j<2 ^ 64)
def CMul.ok {i j:Int} (h:CMul i j):IntMulOk i j:=by
 rcases h with⟨h1,h2⟩|⟨h1,h2⟩
 ·exact .of_left (intBits_le_64 h1 h2)
 ·exact .of_right (intBits_le_64 h1 h2)
def Ud:OpR X (binaryOp .Add) (rI0 fun i j=>.int (i+j)):=opI0 fun _ _ _ _ _ _ _ q=>add_int q
def UV:OpR X (binaryOp .Sub) (rI0 fun i j=>.int (i-j)):=opI0 fun _ _ _ _ _ _ _ q=>sub_int q
def K5:OpR X (binaryOp .Mult) (rI CMul fun i j=>.int (i*j)):=opI fun _ _ _ _ _ _ _ hc q=>mul_int q hc.ok
def U8:OpR X (binaryOp .FloorDiv) (rI CDiv fun i j=>.int (i / j)):=opI fun i j _ _ _ _ _ hc q=>by
 have h1:(0:Int)<j:=hc.1;have h2:j<1073741824:=hc.2;exact floordiv_int (by omega) (by rw[Int.fdiv_eq_ediv_of_nonneg i (by omega)];exact q) (.inl (PyProof.noPylong_small (by omega)))
def JZ:OpR X (binaryOp .Mod) (rI (fun _ j=>0<j) fun i j=>.int (i % j)):=opI fun i j _ _ _ _ _ hc q=>by
 have h1:(0:Int)<j:=hc;exact mod_int' (by omega) (by rw[Int.fmod_eq_emod_of_nonneg i (by omega)];exact q)
def Fg:OpR X (binaryOp .Pow) (rI CPow fun i j=>.int (i ^ j.toNat)):=opI fun _ _ _ _ _ _ _ hc q=>pow_int_small hc.1 hc.2.1 hc.2.2 q
def unI {f:Value->Sem Value}{g:Int->Int}
  (rule:∀(i:Int) (t:Tok) (s:Shared) (Q:Value->Shared->Prop) (E:Value->Shared->Prop),Q (.int (g i) s.toks) { s with toks:=s.toks+1 }->wpAny (model X.prog X.w) X.A (f (.int i t)) Q E s) :
  UnR X f (rU fun i=>.int (g i)):=by
 intro pins s σ H x v Q I rx h;obtain⟨i,rfl,q⟩:=h;obtain⟨t,rfl⟩:=rx;exact rule i t s _ _ ⟨.int (g i),H,I.tok _,⟨_,rfl⟩,q⟩
def U2:UnR X (unaryOp .USub) (rU fun i=>.int (-i)):=unI fun _ _ _ _ _ q=>neg_int q
end
def scal:V->V->Bool
 | .non,.non=>true | .non,.int _=>true | .int _,.non=>true | .non,.bl _=>true | .bl _,.non=>true | .non,.str _=>true | .str _,.non=>true
 | .int _,.int _=>true | .bl _,.bl _=>true | .str _,.str _=>true | .byt _,.byt _=>true
 | .int _,.str _=>true | .str _,.int _=>true | .bl _,.str _=>true | .str _,.bl _=>true
 | _,_=>false
def rEq:R2:=fun x y H Q=>scal x y=true/\Q (.bl (decide (x=y))) H
def rNe:R2:=fun x y H Q=>scal x y=true/\Q (.bl (!decide (x=y))) H
def Hs {i j:Int}:decide (V.int i=V.int j)=(i==j):=by
 rw[QU];simp
def Ek {i j:Bool}:decide (V.bl i=V.bl j)=(i==j):=by
 rw[QU];simp
def CU {i j:Str}:decide (V.str i=V.str j)=(i==j):=by
 rw[QU];simp
def EM {i j:Array UInt8}:decide (V.byt i=V.byt j)=(i.toList==j.toList):=by
 rw[QU];cases i
 cases j
 simp
section
variable {X:Cx}{a b c:Expr}{ta tb tc:TE}{pos:Pos}
def Us {pins:List (Addr×Obj)}{σ:St}{H:Hp}{s:Shared}{Q:VK}{k k':Bool} (I:Inv X pins σ H s) (q:Q (.bl k) H) (e:k=k'):EP X pins σ Q (.bool k') s:=by
 subst e;exact⟨.bl k,H,I,rfl,q⟩
def op_eq:OpR X (compareOp .Eq) rEq:=by
 intro pins s σ H x y v u Q I rx ry h;obtain⟨hs,q⟩:=h;cases x with
 | non=>
  cases rx
  cases y with
  | non=>cases ry;exact PySem.EqNone.eq_none_none (Us I q (by simp))
  | bl j=>cases ry;exact PySem.EqNone.eq_none_bool (Us I q (by simp))
  | int j=>obtain⟨t',rfl⟩:=ry;exact PySem.EqNone.eq_none_int (Us I q (by simp))
  | str j=>obtain⟨t',rfl⟩:=ry;exact PySem.EqNone.eq_none_str (Us I q (by simp))
  | _=>exact absurd (show false=true from hs) Y9
 | bl i=>
  cases rx
  cases y with
  | non=>cases ry;exact PySem.EqNone.eq_bool_none (Us I q (by simp))
  | bl j=>cases ry;exact eq_bool (Us I q Ek)
  | str j=>obtain⟨t',rfl⟩:=ry;exact PySem.EqMixed.eq_bool_str (Us I q (by simp))
  | _=>exact absurd (show false=true from hs) Y9
 | int i=>
  obtain⟨t,rfl⟩:=rx;cases y with
  | non=>cases ry;exact PySem.EqNone.eq_int_none (Us I q (by simp))
  | int j=>obtain⟨t',rfl⟩:=ry;exact eq_int (Us I q Hs)
  | str j=>obtain⟨t',rfl⟩:=ry;exact PySem.EqMixed.eq_int_str (Us I q (by simp))
  | _=>exact absurd (show false=true from hs) Y9
 | str i=>
  obtain⟨t,rfl⟩:=rx;cases y with
  | non=>cases ry;exact PySem.EqNone.eq_str_none (Us I q (by simp))
  | bl j=>cases ry;exact PySem.EqMixed.eq_str_bool (Us I q (by simp))
  | int j=>obtain⟨t',rfl⟩:=ry;exact PySem.EqMixed.eq_str_int (Us I q (by simp))
  | str j=>obtain⟨t',rfl⟩:=ry;exact eq_str (Us I q CU)
  | _=>exact absurd (show false=true from hs) Y9
 | byt i=>
  obtain⟨t,rfl⟩:=rx;cases y with
  | byt j=>obtain⟨t',rfl⟩:=ry;exact PySem.W.eq_bytes (Us I q EM)
  | _=>exact absurd (show false=true from hs) Y9
 | _=>cases y<;>exact absurd (show false=true from hs) Y9
def op_ne:OpR X (compareOp .NotEq) rNe:=by
 intro pins s σ H x y v u Q I rx ry h;obtain⟨hs,q⟩:=h;cases x with
 | non=>
  cases rx
  cases y with
  | non=>cases ry;exact PySem.EqNone.ne_none_none (Us I q (by simp))
  | bl j=>cases ry;exact PySem.EqNone.ne_none_bool (Us I q (by simp))
  | int j=>obtain⟨t',rfl⟩:=ry;exact PySem.EqNone.ne_none_int (Us I q (by simp))
  | str j=>obtain⟨t',rfl⟩:=ry;exact PySem.EqNone.ne_none_str (Us I q (by simp))
  | _=>exact absurd (show false=true from hs) Y9
 | bl i=>
  cases rx
  cases y with
  | non=>cases ry;exact PySem.EqNone.ne_bool_none (Us I q (by simp))
  | bl j=>cases ry;exact ne_bool (Us I q (Wa not Ek))
  | str j=>obtain⟨t',rfl⟩:=ry;exact PySem.EqMixed.ne_bool_str (Us I q (by simp))
  | _=>exact absurd (show false=true from hs) Y9
 | int i=>
  obtain⟨t,rfl⟩:=rx;cases y with
  | non=>cases ry;exact PySem.EqNone.ne_int_none (Us I q (by simp))
  | int j=>obtain⟨t',rfl⟩:=ry;exact ne_int (Us I q (Wa not Hs))
  | str j=>obtain⟨t',rfl⟩:=ry;exact PySem.EqMixed.ne_int_str (Us I q (by simp))
  | _=>exact absurd (show false=true from hs) Y9
 | str i=>
  obtain⟨t,rfl⟩:=rx;cases y with
  | non=>cases ry;exact PySem.EqNone.ne_str_none (Us I q (by simp))
  | bl j=>cases ry;exact PySem.EqMixed.ne_str_bool (Us I q (by simp))
  | int j=>obtain⟨t',rfl⟩:=ry;exact PySem.EqMixed.ne_str_int (Us I q (by simp))
  | str j=>obtain⟨t',rfl⟩:=ry;exact ne_str (Us I q (Wa not CU))
  | _=>exact absurd (show false=true from hs) Y9
 | byt i=>
  obtain⟨t,rfl⟩:=rx;cases y with
  | byt j=>obtain⟨t',rfl⟩:=ry;exact PySem.W.ne_bytes (Us I q (Wa not EM))
  | _=>exact absurd (show false=true from hs) Y9
 | _=>cases y<;>exact absurd (show false=true from hs) Y9
def Xd:OpR X (compareOp .Lt) (rI0 fun i j=>.bl (decide (i<j))):=opB0 fun _ _ _ _ _ _ _ q=>lt_int q
def Xk:OpR X (compareOp .Gt) (rI0 fun i j=>.bl (decide (j<i))):=opB0 fun _ _ _ _ _ _ _ q=>gt_int q
def Pl:OpR X (compareOp .GtE) (rI0 fun i j=>.bl (decide (j<=i))):=opB0 fun _ _ _ _ _ _ _ q=>ge_int q
def OpR.or {f:Value->Value->Sem Value}{r r':R2} (h:OpR X f r) (h':OpR X f r'):OpR X f (fun x y H Q=>r x y H Q\/r' x y H Q):=by
 intro pins s σ H x y v u Q I rx ry q;rcases q with q|q
 ·exact h pins s σ H x y v u Q I rx ry q
 ·exact h' pins s σ H x y v u Q I rx ry q
def JV (b:Expr) {op:CmpOp} (h:op≠.In:=by decide) (h2:op≠.NotIn:=by decide):behindInMarks op b=false:=by
 have e1:(op==CmpOp.In)=false:=by cases op<;>first|rfl|exact absurd rfl h
 have e2:(op==CmpOp.NotIn)=false:=by cases op<;>first|rfl|exact absurd rfl h2
 cases b<;>simp[behindInMarks,e1,e2]
def XT {op:CmpOp}{r:R2} (ho:OpR X (compareOp op) r) (ha:PE X a ta) (hb:PE X b tb) (hm:behindInMarks op b=false):PE X (.Compare a [op] [b] pos) (tOp r ta tb):=by
 intro pins s σ H Q I h;exact wpAny_Compare1 (binT ha hb I h fun v u s2 x y H2 I2 rx ry q=>ho pins s2 σ H2 x y v u Q I2 rx ry q) hm
def NU (t:TE):TT:=fun σ H Q=>t σ H fun x H'=>∃k,x=.bl k/\Q k H'
def JU {op:CmpOp}{r:R2} (ho:OpR X (compareOp op) r) (ha:PE X a ta) (hb:PE X b tb) (hm:behindInMarks op b=false):PT X (.Compare a [op] [b] pos) (NU (tOp r ta tb)):=by
 intro pins s σ H Q I h
 refine wpAny_isTrue_Compare1 (thn (ha pins s σ H _ I h) fun v s1 ⟨x,H1,I1,r1,q1⟩=>thn (hb pins s1 σ H1 _ I1 q1) fun u s2 ⟨y,H2,I2,r2,q2⟩=>
  thn (ho pins s2 σ H2 x y v u _ I2 r1 r2 q2) fun c s3 ⟨z,H3,I3,r3,k,e,q3⟩=>?_) hm
 subst e;cases r3
 exact WX ⟨H3,I3,q3⟩
def TruV (K:Za) (x:V) (H:Hp) (k:Bool):Prop:=
 match x with
 | .non=>k=false
 | .bl b=>k=b
 | .int i=>k=(i != 0)
 | .str y=>y.length<=sizeLine/\k=((y.length:Int) != 0)
 | .byt y=>y.size<=sizeLine/\k=((y.size:Int) != 0)
 | .ref p=>(∃xs,SqL K H p xs/\k=!xs.isEmpty)\/(∃xs,SqT K H p xs/\k=!xs.isEmpty)\/∃kvs,H p=some (.dK kvs)/\k=!kvs.isEmpty
 | _=>False
def Zch {κ:Type}{kvs:List (κ×V)}{vs:List (κ×Value)} (r:KV kvs vs):(!vs.isEmpty)=!kvs.isEmpty:=by
 cases r<;>rfl
def EL {xs:List V}{its:List Value} (r:Vals xs its):(!its.toArray.isEmpty)=!xs.isEmpty:=by
 cases r<;>simp
def Np:(sizeLine:Nat)<2 ^ 63:=by rw[sizeLine_eq];decide
def MF:TruR X (fun x H Q=>∃k,TruV X.K x H k/\Q k H):=by
 intro pins s σ H x v Q I rx h;obtain⟨k,e,q⟩:=h;have hl:=Np;have hs:sizeLine=16777216:=sizeLine_eq;cases x with
 | non=>
  cases rx
  have e':k=false:=e;subst e';exact truthy_none ⟨H,I,q⟩
 | bl b=>
  cases rx
  have e':k=b:=e;subst e';exact WX ⟨H,I,q⟩
 | int i=>
  obtain⟨t,rfl⟩:=rx;have e':k=(i != 0):=e;subst e';exact PySem.P.truthy_int ⟨H,I,q⟩
 | str y=>
  obtain⟨t,rfl⟩:=rx;obtain⟨hy,e'⟩:y.length<=sizeLine/\k=((y.length:Int) != 0):=e;subst e';exact PySem.P.truthy_str (by omega) ⟨H,I.tok _,q⟩
 | byt y=>
  obtain⟨t,rfl⟩:=rx;obtain⟨hy,e'⟩:y.size<=sizeLine/\k=((y.size:Int) != 0):=e;subst e';exact PySem.W.truthy_bytes (by omega) ⟨H,I.tok _,q⟩
 | ref p=>
  cases rx
  have e':(∃xs,SqL X.K H p xs/\k=!xs.isEmpty)\/(∃xs,SqT X.K H p xs/\k=!xs.isEmpty)\/∃kvs,H p=some (.dK kvs)/\k=!kvs.isEmpty:=e;rcases e' with⟨xs,hx,e'⟩|⟨xs,hx,e'⟩|⟨kvs,hx,e'⟩
  ·subst e';obtain⟨its,r,pl,hz⟩:=I.list hx;have hlen:=r.length;exact wpAny_truthy_list pl.isList (by simp only[Y5];omega) ⟨H,I.tok _,by rw[EL r];exact q⟩
  ·subst e';obtain⟨its,r,pl,hz⟩:=I.tuple hx;have hlen:=r.length;exact truthy_tuple pl (by simp only[Y5];omega) ⟨H,I.tok _,by rw[EL r];exact q⟩
  ·subst e';obtain⟨hz,hS,vs,r,m⟩:kvs.length<=sizeLine/\(p==sysModules)=false/\∃vs,KV kvs vs/\s.heap.DictOf (Xx X.prog X.w) p vs:=I.hok p _ hx;have hlen:kvs.length=vs.length:=Paired.length r;exact wpAny_truthy_dict hS m (by omega) ⟨H,I.tok _,by rw[Zch r];exact q⟩
 | _=>exact(show False from e).elim
def Zb4 (ha:PE X a ta) (he:∀whole,isTrue a X.env whole=(do let v ←whole;standAt a.pos;holding [v] (truthy v))) :
  PT X a (fun σ H Q=>ta σ H fun x H'=>∃k,TruV X.K x H' k/\Q k H'):=by
 intro pins s σ H Q I h;exact isTrue_plain (thn (ha pins s σ H _ I h) fun v s1 ⟨x,H1,I1,r1,q1⟩=>MF pins s1 σ H1 x v Q I1 r1 q1) (he _)
def vals1 {x:V}{us:List Value} (r:Vals [x] us):∃u,us=[u]/\RelV x u:=by
 cases r with
 | cons r1 r2=>cases r2;exact⟨_,rfl,r1⟩
def vals2 {x y:V}{us:List Value} (r:Vals [x,y] us):∃u w',us=[u,w']/\RelV x u/\RelV y w':=by
 cases r with
 | cons r1 r2=>
  cases r2 with
  | cons r3 r4=>cases r4;exact⟨_,_,rfl,r1,r3⟩
def En (hc:X.calm=true):UB X (.builtin "max") (fun xs H Q=>∃i j,xs=[.int i,.int j]/\Q (.int (if j>i then j else i)) H):=by
 intro pins s σ H xs us Q I r h;obtain⟨i,j,rfl,q⟩:=h;obtain⟨u,w',rfl,⟨t,rfl⟩,⟨t',rfl⟩⟩:=vals2 r;refine max_two_ints (I.ok.hd hc) fun h' tk k=>⟨_,H,I.kept k,?_,q⟩;by_cases hj:j>i
 ·rw[Ys hj,Ys hj];exact⟨_,rfl⟩
 ·rw[Yq hj,Yq hj];exact⟨_,rfl⟩
def CA:UB X (.type "int") (fun xs H Q=>(∃i,xs=[.int i]/\Q (.int i) H)\/∃k,xs=[.bl k]/\Q (.int (if k then 1 else 0)) H):=by
 intro pins s σ H xs us Q I r h;rcases h with⟨i,rfl,q⟩|⟨k,rfl,q⟩
 ·obtain⟨u,rfl,t,rfl⟩:=vals1 r;exact call_int_int ⟨.int i,H,I,⟨_,rfl⟩,q⟩
 ·obtain⟨u,rfl,r1⟩:=vals1 r;cases r1
  exact call_int_bool ⟨.int (if k then 1 else 0),H,I.tok _,⟨_,rfl⟩,q⟩
def LenV (K:Za) (x:V) (H:Hp) (n:Nat):Prop:=
 match x with
 | .str y=>y.length<=sizeLine/\n=y.length
 | .byt y=>y.size<=sizeLine/\n=y.size
 | .ref p=>(∃xs,SqL K H p xs/\n=xs.length)\/∃xs,SqT K H p xs/\n=xs.length
 | _=>False
def Zel:UB X (.builtin "len") (fun xs H Q=>∃x n,xs=[x]/\LenV X.K x H n/\Q (.int n) H):=by
 intro pins s σ H xs us Q I r h;obtain⟨x,n,rfl,e,q⟩:=h;obtain⟨u,rfl,rx⟩:=vals1 r;have hl:=Np;have hs:sizeLine=16777216:=sizeLine_eq;cases x with
 | str y=>
  obtain⟨t,rfl⟩:=rx;obtain⟨hy,e'⟩:y.length<=sizeLine/\n=y.length:=e;subst e';exact len_str (by omega) ⟨.int _,H,I.tok _,⟨_,rfl⟩,q⟩
 | byt y=>
  obtain⟨t,rfl⟩:=rx;obtain⟨hy,e'⟩:y.size<=sizeLine/\n=y.size:=e;subst e';exact PySem.W.len_bytes (by omega) ⟨.int _,H,I.tok _,⟨_,rfl⟩,q⟩
 | ref p=>
  cases rx
  have e':(∃xs,SqL X.K H p xs/\n=xs.length)\/∃xs,SqT X.K H p xs/\n=xs.length:=e;rcases e' with⟨xs,hx,e'⟩|⟨xs,hx,e'⟩
  ·subst e';obtain⟨its,r',pl,hz⟩:=I.list hx;have hlen:=r'.length;exact Calls.call_len_list pl.isList (by simp only[Y5];omega) ⟨.int xs.length,H,I.tok _,⟨_,by simp only[Y5];rw[hlen]⟩,q⟩
  ·subst e';obtain⟨its,r',pl,hz⟩:=I.tuple hx;have hlen:=r'.length;exact len_tuple pl (by simp only[Y5];omega) ⟨.int xs.length,H,I.tok _,⟨_,by simp only[Y5];rw[hlen]⟩,q⟩
 | _=>exact(show False from e).elim
end
structure ObjM (h:Heap) (x dx C:Addr) (mA:Str->Option Value):Prop where
 obj:h.get? x=some (PySem.W.instObj C dx)
 ns:h.Ns1 dx mA
 ne:dx≠x
def Zdd {h:Heap}{dx:Addr}{mA:Str->Option Value} (n:h.Ns1 dx mA):∃od,h.get? dx=some od/\∀name,PySem.W.lookIn name od=some (mA name):=by
 obtain⟨o,es,ep,ho,hd,hk,_,hm⟩:=n;refine⟨o,ho,fun name=>?_⟩;have e:=hm name;unfold nsFind findBy at e;rw[←Array.find?_toList] at e;unfold PySem.W.lookIn;rw[hd]
 dsimp only
 split
 ·rename_i y q;rw[q] at e;exact Wa some e
 ·rename_i q;rw[q] at e
  have a:es.toList.any (·.refKey)=false:=by
   rw[Vj];intro y hy;obtain⟨z,t,hkey⟩:=hk y (Array.mem_toList_iff.mp hy);simp[DictEntry.refKey,hkey]
  have a':¬es.toList.any (·.refKey)=true:=by rw[a];exact Y9
  rw[Yq a'];exact Wa some e
def ObjM.look {h:Heap}{x dx C:Addr}{mA:Str->Option Value} (I:ObjM h x dx C mA):∃od,PySem.W.InstAt h x (PySem.W.instObj C dx) C (some od)/\∀name,PySem.W.lookIn name od=some (mA name):=
 let ⟨od,ho,hl⟩:=Zdd I.ns
 ⟨od,⟨I.obj,rfl,rfl,ho⟩,hl⟩
section
variable {prog:Program}{w:World}{A:Around}{E:Value->Shared->Prop}{s:Shared}{K:Za}{x dx C f:Addr}{mA:Str->Option Value}{name:Str}{v:Value}
def Zbo {expr:Bool}{Q:Value->Shared->Prop} (X:K.In s.heap) (I:ObjM s.heap x dx C mA) (hg:PySem.W.plainGet K C name=true) (hh:PySem.W.hasDictIn K C=true)
  (ha:PySem.W.findIn K (.ref C) name=some none) (hv:mA name=some v) (hv':PySem.W.handedIn v=true) (h:Q v { s with toks:=s.toks+1 }) :
  wpAny (model prog w) A (getAttr (.ref x) name expr) Q E s:=by
 obtain⟨od,J,hl⟩:=I.look;exact PySem.W.get_value X J (Vb hg).1 (PySem.W.findObj_own hh ha rfl (by rw[hl,hv])) hv' h
def Zau {pl:Sem Bool}{Q:Value×List Value->Shared->Prop} (X:K.In s.heap) (I:ObjM s.heap x dx C mA) (hg:PySem.W.plainGet K C name=true)
  (hf:PySem.W.findIn K (.ref C) name=some (some (.ref f))) (ht:PySem.W.isFn K (.ref f)=true) (hv:mA name=none) (h:Q (.ref f,[.ref x]) s) :
  wpAny (model prog w) A (getMethod (.ref x) name pl) Q E s:=by
 obtain⟨od,J,hl⟩:=I.look;exact PySem.W.method_fn X J (Vb hg).1 (Vb hg).2 hf (beq_iff_eq.mp ht) (by show(PySem.W.lookIn name od).map (·.isSome)=some false;rw[hl,hv];rfl) h
def Zbk {ns:List Str}{Q:Unit->Shared->Prop} (X:K.In s.heap) (I:ObjM s.heap x dx C mA)
  (hs:PySem.W.findIn K (.ref C) "__setattr__"=some (some (.builtin "object.__setattr__"))) (hp:PySem.W.plainOver K C=true) (ht:PySem.W.takerIn K C name=some none) (hh:PySem.W.hasDictIn K C=true)
  (hw:PySem.Within mA ns) (hsz:ns.length<=sizeLine)
  (h:∀h',ObjM h' x dx C (fun y=>if y=name then some v else mA y)->Heap.SameBut dx s.heap h'->Q () { s with heap:=h',toks:=s.toks+2 }) :
  wpAny (model prog w) A (setAttr (.ref x) name v) Q E s:=by
 obtain⟨od,J,hl⟩:=I.look;refine PySem.W.set_plain X J hs (PySem.W.osa_open (s:={ s with toks:=s.toks+1 }) (r:=none) X J hp ht fun b=>?_)
 obtain⟨cd,hc,hd'⟩:=PySem.W.any_some hh;have hx:s.heap.get? x=some ⟨.ref C,some dx,.plain,#[]⟩:=I.obj;refine Yo (Yt (Yo (Yo (wpAny_loadPart hx (Yo (PySem.W.Looks.here (s:={ s with toks:=s.toks+1 }) (PySem.W.looks_clsIn X hc) ?_))))))
 rw[hd'];refine Yt (a:=some dx) (Yo (Yt (Yo ?_)));refine wpAny_nsSet1 (s:={ s with toks:=s.toks+1 }) I.ns fun h' hn2 hs2=>?_
 obtain⟨oD,esD,epD,hoD,hdD,hcD⟩:=hn2.count (PySem.Within.cons name v hw);refine Yo (wpAny_lookBehind hoD (by rw[hdD];exact pastItsLine_dict (Y8 hcD (by rw[YD];omega))) ?_);exact Yt (h _ ⟨(hs2.2 _ (Ne.symm I.ne)).trans I.obj,hn2,I.ne⟩ hs2)
def Zez {R:Result->Shared->Prop}{vs:List Value}{kw:List (Str×Value)} (X:K.In s.heap) (hm:PySem.W.makesIn K C=true)
  (hi:PySem.W.findIn K (.ref C) "__init__"=some (some (.ref f))) (hf:PySem.W.typeIn K (.ref f)=some (.type "function"))
  (h:codeAny (model prog w) (A.under (.builtin "type.__call__" ⟨.ref C::vs,kw⟩)) (.call (.ref f) ⟨.ref (s.heap.objs.size+1)::vs,kw⟩) (PySem.W.InitBack (s.heap.objs.size+1) R)
   { s with heap:=(s.heap.push PySem.W.emptyDict).push (PySem.W.instObj C s.heap.objs.size) }) :
  codeAny (model prog w) A (.call (.ref C) ⟨vs,kw⟩) R s:=by
 obtain⟨hh,g,d,t,os⟩:=s;exact PySem.W.make_core (PySem.W.makes_of X hm) (Qx X hi) (fun self=>PySem.W.bind_fn X self hf) (.inl rfl) h
end
def putF (f:Str) (v:V):List (Str×V)->List (Str×V)
 | []=>[(f,v)]
 | (g,x)::r=>if g=f then(g,v)::r else(g,x)::putF f v r
def Dr (f g:Str) (v:V):∀fs:List (Str×V),(putF f v fs).lookup g=if g=f then some v else fs.lookup g
 | []=>by
  show List.lookup g [(f,v)]=_;by_cases h:g=f
  ·have hb:(g==f)=true:=beq_iff_eq.mpr h;simp only[List.lookup,hb,Ys h]
  ·have hb:(g==f)=false:=WC.mpr h;simp only[List.lookup,hb,Yq h]
 | (k,x)::r=>by
  have ih:=Dr f g v r;rw[show putF f v ((k,x)::r)=(if k=f then(k,v)::r else(k,x)::putF f v r) from rfl]
  by_cases hk:k=f
  ·rw[Ys hk];by_cases h:g=k
   ·have hb:(g==k)=true:=beq_iff_eq.mpr h;simp only[List.lookup,hb,Ys (h.trans hk)]
   ·have hb:(g==k)=false:=WC.mpr h;simp only[List.lookup,hb,Yq (fun e:g=f=>h (e.trans hk.symm))]
  ·rw[Yq hk];by_cases h:g=k
   ·have hb:(g==k)=true:=beq_iff_eq.mpr h;simp only[List.lookup,hb,Yq (fun e:g=f=>hk (h.symm.trans e))]
   ·have hb:(g==k)=false:=WC.mpr h;simp only[List.lookup,hb];exact ih
def SR (f:Str) (v:V):∀fs:List (Str×V),f∈(putF f v fs).map (·.1)/\∀g,g∈fs.map (·.1)->g∈(putF f v fs).map (·.1)
 | []=>⟨by simp[putF],fun g h=>by simp at h⟩
 | (k,x)::r=>by
  obtain⟨i1,i2⟩:=SR f v r;rw[show putF f v ((k,x)::r)=(if k=f then(k,v)::r else(k,x)::putF f v r) from rfl]
  by_cases hk:k=f
  ·rw[Ys hk];subst hk;exact⟨by simp,fun g h=>by simpa using h⟩
  ·rw[Yq hk];refine⟨?_,fun g h=>?_⟩
   ·rw[YA];exact YG _ i1
   ·rw[YA] at h ⊢;rcases Y4.mp h with e|e
    ·exact Y4.mpr (.inl e)
    ·exact YG _ (i2 g e)
def DT (f:Str) (v:V):∀fs:List (Str×V),(putF f v fs).length<=fs.length+1
 | []=>by simp[putF]
 | (k,x)::r=>by
  have ih:=DT f v r;rw[show putF f v ((k,x)::r)=(if k=f then(k,v)::r else(k,x)::putF f v r) from rfl]
  by_cases hk:k=f
  ·rw[Ys hk,YD,YD];omega
  ·rw[Yq hk,YD,YD];omega
def RelO.some_of {v:V}{o:Option Value} (r:RelO (some v) o):∃u,o=some u/\RelV v u:=by
 cases o with
 | none=>exact(show False from r).elim
 | some u=>exact⟨u,rfl,r⟩
def RelO.none_of {o:Option Value} (r:RelO none o):o=none:=by
 cases o with
 | none=>rfl
 | some u=>exact(show False from r).elim
def Mn {v:V}{u:Value} (r:RelV v u):PySem.W.handedIn u=true:=by
 cases v with
 | non=>cases (show u=Value.none from r);rfl
 | bl b=>cases (show u=Value.bool b from r);rfl
 | int i=>obtain⟨t,e⟩:=(show ∃t,u=Value.int i t from r);cases e;rfl
 | str x=>obtain⟨t,e⟩:=(show ∃t,u=Value.str x t from r);cases e;rfl
 | byt b=>obtain⟨t,e⟩:=(show ∃t,u=Value.bytes b t from r);cases e;rfl
 | flt b=>obtain⟨t,e⟩:=(show ∃t,u=Value.float b t from r);cases e;rfl
 | ref a=>cases (show u=Value.ref a from r);rfl
 | ty n=>cases (show u=Value.type n from r);rfl
section
variable {P:Program}{w:World}{H H':Hp}{h h':Heap}{a C dx:Addr}{fs fs':List (Str×V)}
def NJ (hok:HOk P w H h) (e:H a=some (.ins C dx fs)):∃mA,ObjM h a dx C mA/\(∀f,RelO (fs.lookup f) (mA f))/\PySem.Within mA (fs.map (·.1))/\fs.length<=1000/\H dx=some (.own a):=by
 obtain⟨d,z,ne,ob,mA,n,r,q⟩:=(show ObjOk P w H h a (.ins C dx fs) from hok a _ e)
 exact⟨mA,⟨ob,n,ne⟩,r,q,z,d⟩
end
structure Cls (K:Za) (C:Addr):Prop where
 pg:PySem.W.plainGet K C Str.empty=true
 hd:PySem.W.hasDictIn K C=true
 po:PySem.W.plainOver K C=true
 sa:PySem.W.findIn K (.ref C) "__setattr__"=some (some (.builtin "object.__setattr__"))
def Cls.get {K:Za}{C:Addr} (c:Cls K C) (f:Str):PySem.W.plainGet K C f=true:=c.pg
def NoAttr (K:Za) (C:Addr) (f:Str):Prop:=PySem.W.findIn K (.ref C) f=some none
def NoAttr.taker {K:Za}{C:Addr}{f:Str} (n:NoAttr K C f):PySem.W.takerIn K C f=some none:=by
 unfold PySem.W.takerIn;rw[show PySem.W.findIn K (.ref C) f=some none from n]
 rfl
structure Meth (K:Za) (C:Addr) (m:Str) (f:Addr):Prop where
 at_:PySem.W.findIn K (.ref C) m=some (some (.ref f))
 fn:PySem.W.isFn K (.ref f)=true
 kp:PySem.W.keepIn K (.ref f)=true
section
variable {X:Cx}{pins:List (Addr×Obj)}{σ:St}{H:Hp}{s:Shared}{a C dx:Addr}{fs:List (Str×V)}{f:Str}{v:V}{A:Around}{E:Value->Shared->Prop}
def MA {b:Bool}{Q:Value->Shared->Prop} (I:Inv X pins σ H s) (e:H a=some (.ins C dx fs)) (c:Cls X.K C) (n:NoAttr X.K C f) (l:fs.lookup f=some v)
  (h:∀u s',Inv X pins σ H s'->RelV v u->Q u s'):wpAny (model X.prog X.w) A (getAttr (.ref a) f b) Q E s:=by
 obtain⟨mA,O,r,_,_,_⟩:=NJ I.hok e;obtain⟨u,hu,ru⟩:=RelO.some_of (v:=v) (o:=mA f) (by rw[←l];exact r f);exact Zbo I.kIn O (c.get f) c.hd n hu (Mn ru) (h u _ (I.tok _) ru)
def NC {m:Str}{g:Addr}{pl:Sem Bool}{Q:Value×List Value->Shared->Prop} (I:Inv X pins σ H s) (e:H a=some (.ins C dx fs)) (c:Cls X.K C) (k:Meth X.K C m g) (l:fs.lookup m=none)
  (h:Q (.ref g,[.ref a]) s):wpAny (model X.prog X.w) A (getMethod (.ref a) m pl) Q E s:=by
 obtain⟨mA,O,r,_,_,_⟩:=NJ I.hok e;have hn:mA m=none:=RelO.none_of (by rw[←l];exact r m);exact Zau I.kIn O (c.get m) k.at_ k.fn hn h
def Rn {y:V}{u:Value}{Q:Unit->Shared->Prop} (I:Inv X pins σ H s) (e:H a=some (.ins C dx fs)) (c:Cls X.K C) (n:NoAttr X.K C f) (hl:fs.length<1000) (ry:RelV y u)
  (h:∀s',Inv X pins σ (upd H a (.ins C dx (putF f y fs))) s'->Q () s'):wpAny (model X.prog X.w) A (setAttr (.ref a) f u) Q E s:=by
 obtain⟨mA,O,r,wi,_,ho⟩:=NJ I.hok e;have hz:(fs.map (·.1)).length<=sizeLine:=by rw[Yn,sizeLine_eq];omega
 refine Zbk I.kIn O c.sa c.po n.taker c.hd wi hz fun h' O' sb=>h _ ?_;have hd:∃o,h'.get? dx=some o:=let ⟨o,_,_,e',_⟩:=O'.ns;⟨o,e'⟩;refine I.write (x:=a) (e:=dx) (by rw[e];exact True.intro) (.inr ho) (fun b q hb z=>(sb.2 b hb).trans z) hd ?_;refine⟨by rw[JX O.ne];exact ho,?_,O.ne,O'.obj,_,O'.ns,fun g=>?_,fun g hg=>?_⟩
 ·have:=DT f y fs;omega
 ·show RelO ((putF f y fs).lookup g) (if g=f then some u else mA g);rw[Dr];by_cases q:g=f
  ·rw[Ys q,Ys q];exact ry
  ·rw[Yq q,Yq q];exact r g
 ·by_cases q:g=f
  ·rw[q];exact(SR f y fs).1
  ·refine(SR f y fs).2 g (wi g fun z=>hg ?_);show(if g=f then some u else mA g)=none;rw[Yq q];exact z
def Inv.made (I:Inv X pins σ H s):Inv X pins σ (upd (upd H s.heap.objs.size (.own (s.heap.objs.size+1))) (s.heap.objs.size+1) (.ins C s.heap.objs.size []))
  { s with heap:=(s.heap.push PySem.W.emptyDict).push (PySem.W.instObj C s.heap.objs.size) }:=by
 have e1:(s.heap.push PySem.W.emptyDict).get? s.heap.objs.size=some PySem.W.emptyDict:=Y7 s.heap rfl
 have e2:((s.heap.push PySem.W.emptyDict).push (PySem.W.instObj C s.heap.objs.size)).get? (s.heap.objs.size+1)=some (PySem.W.instObj C s.heap.objs.size):=by
  have:=Y7 (s.heap.push PySem.W.emptyDict) (o:=PySem.W.instObj C s.heap.objs.size) rfl
  rwa[Qd] at this
 have e3:(s.heap.push PySem.W.emptyDict).Ns s.heap.objs.size (fun _=>none):=⟨PySem.W.emptyDict,#[],_,e1,rfl,(fun e he=>absurd he (by simp)),fun _=>rfl⟩;have I1:=I.laid (a:=s.heap.objs.size) (o:=.own (s.heap.objs.size+1)) (h':=s.heap.push PySem.W.emptyDict) (t':=s.toks) (fun b u q=>Yu _ q) (Yx _) ⟨_,e1⟩;refine I1.laid (a:=s.heap.objs.size+1) (o:=.ins C s.heap.objs.size []) (t':=s.toks) (fun b u q=>Yu _ q) (WJ (Qd _ _)) ?_;have ne:s.heap.objs.size≠s.heap.objs.size+1:=YK (WQ _);refine⟨by rw[JX ne,Uo],Wz _,ne,e2,fun _=>none,(Heap.Ns1.of_empty e3).at fun o q=>Yu _ q,fun _=>True.intro,fun y hy=>absurd rfl hy⟩
def IC {prog:Program}{w:World}{env:Env}{e:Expr}{f:Str}{pos:Pos}{s:Shared}{Q:Value->Shared->Prop} (hb:attributeBase e f env (eval e env)=eval e env)
  (h:wpAny (model prog w) A (eval e env) (fun o s₁=>wpAny (model prog w) A (getAttr o f true) Q E s₁) E s):wpAny (model prog w) A (eval (.Attribute e f pos) env) Q E s:=
 Attribute_any_ h (by rw[arm_eval_Attribute,hb])
end
def tFld (K:Za) (ta:TE) (f:Str):TE:=fun σ H Q=>ta σ H fun x H1=>∃a C dx fs v,x=.ref a/\H1 a=some (.ins C dx fs)/\Cls K C/\NoAttr K C f/\fs.lookup f=some v/\Q v H1
def sFld (K:Za) (ta tv:TE) (f:Str):TS:=fun D σ H=>tv σ H fun y H1=>ta σ H1 fun x H2=>∃a C dx fs,x=.ref a/\H2 a=some (.ins C dx fs)/\Cls K C/\NoAttr K C f/\fs.length<1000/\
 D.nx σ (upd H2 a (.ins C dx (putF f y fs)))
section
variable {X:Cx}{o e value:Expr}{f:Str}{pos pos' tpos:Pos}{ta tv:TE}
def XA (he:PE X e ta) (hb:attributeBase e f X.env (eval e X.env)=eval e X.env):PE X (.Attribute e f pos) (tFld X.K ta f):=by
 intro pins s σ H Q I h;refine IC hb (thn (he pins s σ H _ I h) fun u s1 ⟨x,H1,I1,rx,a,C,dx,fs,v,ex,ea,c,n,l,q⟩=>?_);subst ex;obtain rfl:u=Value.ref a:=rx;exact MA I1 ea c n l fun u' s2 I2 ru=>⟨v,H1,I2,ru,q⟩
def FX (ha:PE X o ta) (hv:PE X value tv) (hs:swapsWith value (some (.Attribute o f pos')) pos.line X.env=pure false):PS X (.Assign [.Attribute o f pos'] value pos) (sFld X.K ta tv f):=by
 intro pins s σ H D I h;refine plainObj_wpAny_Assign_Attribute (thn (hv pins s σ H _ I h) fun u s1 ⟨y,H1,I1,ry,q⟩=>thn (ha pins s1 σ H1 _ I1 q) fun ov s2 ⟨x,H2,I2,rx,a,C,dx,fs,ex,ea,c,n,l,q2⟩=>?_) hs;subst ex;obtain rfl:ov=Value.ref a:=rx;exact Rn I2 ea c n l ry fun s3 I3=>⟨σ,_,I3,q2⟩
def Zf1 {pl:Sem Bool}{m:Str}{apos:Pos}{args:List Expr}{pins:List (Addr×Obj)}{s:Shared}{σ:St}{H:Hp}{Q:Value->Shared->Prop}{te:TE} (he:PE X e te) (I:Inv X pins σ H s)
  (h:te σ H fun x H1=>∃a C dx fs g,x=.ref a/\H1 a=some (.ins C dx fs)/\Cls X.K C/\Meth X.K C m g/\fs.lookup m=none/\
   ∀s1,Inv X pins σ H1 s1->wpAny (model X.prog X.w) X.A (callWith pos (.ref g) [.ref a] (backTo pos (starEach args X.env)) (backToKw pos (keywordEach [] X.env))) Q X.xe s1)
  (ht:eval (.Call (.Attribute e m apos) args [] pos) X.env=(do
   let ov ←eval e X.env
   standAt apos.atName
   let (f,first) ←holding [ov] (getMethod ov m pl)
   callWith pos f first (backTo pos (starEach args X.env)) (backToKw pos (keywordEach [] X.env)))) :
  wpAny (model X.prog X.w) X.A (eval (.Call (.Attribute e m apos) args [] pos) X.env) Q X.xe s:=by
 refine Qs (pl:=pl) (thn (he pins s σ H _ I h) fun u s1 ⟨x,H1,I1,rx,a,C,dx,fs,g,ex,ea,c,k,l,q⟩=>?_) ht;subst ex;obtain rfl:u=Value.ref a:=rx;exact NC I1 ea c k l (q s1 I1)
end
section
variable {X:Cx}{pins:List (Addr×Obj)}{σ:St}{H:Hp}{s:Shared}{A:Around}{E:Value->Shared->Prop}{Q:Value->Shared->Prop}{c:Value}{b:Bool}
inductive TyOf (K:Za) (H:Hp):V->Value->Prop where
 | non:TyOf K H .non (.type "NoneType")
 | bl (x:Bool):TyOf K H (.bl x) (.type "bool")
 | int (i:Int):TyOf K H (.int i) (.type "int")
 | str (x:Str):TyOf K H (.str x) (.type "str")
 | flt (x:UInt64):TyOf K H (.flt x) (.type "float")
 | lst {a:Addr} {xs:List V} (e:H a=some (.lst xs)):TyOf K H (.ref a) (.type "list")
 | frz {a:Addr} {o:Obj} {xs:List V} (e:H a=some (.frz o (.lst xs))):TyOf K H (.ref a) (.type "list")
 | tup {a:Addr} {xs:List V} (e:H a=some (.tup xs)):TyOf K H (.ref a) (.type "tuple")
 | dK {a:Addr} {kvs:List (Key×V)} (e:H a=some (.dK kvs)):TyOf K H (.ref a) (.type "dict")
 | dT {a:Addr} {kvs:List (List Key×V)} (e:H a=some (.dT kvs)):TyOf K H (.ref a) (.type "dict")
 | ins {a C dx:Addr} {fs:List (Str×V)} (e:H a=some (.ins C dx fs)) (cl:Cls K C) (ha:PySem.W.findIn K (.ref C) "__class__"=some (some (.builtin "object.__class__")))
   (hn:PySem.W.specialIn K (.builtin "object.__class__") "__get__"=some (some (.builtin "getset_descriptor.__get__"))) (htk:PySem.W.takesIn K (.builtin "object.__class__")=some true)
   (hm:PySem.W.mroIn K C (.type "object")=some true):TyOf K H (.ref a) (.ref C)
def LY {x:V}{u t:Value} (I:Inv X pins σ H s) (rx:RelV x u) (ty:TyOf X.K H x t) (e:PySem.W.kitOne X.K t c=some b) (h:∀tk,Q (.bool b) { s with toks:=tk }) :
  wpAny (model X.prog X.w) A (call (.builtin "isinstance") [u,c]) Q E s:=by
 cases ty with
 | non=>cases (show u=Value.none from rx);exact Ws PySem.W.kitx_none I.kIn True.intro e (fun z=>nomatch z) h
 | bl y=>cases (show u=Value.bool y from rx);exact Ws PySem.W.kitx_bool I.kIn True.intro e (fun z=>nomatch z) h
 | int i=>obtain⟨t,q⟩:=(show ∃t,u=Value.int i t from rx);cases q;exact Ws PySem.W.kitx_int I.kIn True.intro e (fun z=>nomatch z) h
 | str y=>obtain⟨t,q⟩:=(show ∃t,u=Value.str y t from rx);cases q;exact Ws PySem.W.kitx_str I.kIn True.intro e (fun z=>nomatch z) h
 | flt y=>obtain⟨t,q⟩:=(show ∃t,u=Value.float y t from rx);cases q;exact Ws PySem.W.kitx_float I.kIn True.intro e (fun z=>nomatch z) h
 | @lst a xs ea=>
  cases (show u=Value.ref a from rx)
  obtain⟨_,_,n,_,h1⟩:=(show ObjOk X.prog X.w H s.heap a (.lst xs) from I.hok a _ ea)
  exact Ws PySem.W.kitx_list I.kIn ⟨_,h1,rfl⟩ e (fun z=>nomatch z) h
 | @frz a ob xs ea=>
  cases (show u=Value.ref a from rx)
  obtain⟨_,_,_,n,_,h1⟩:=(show ObjOk X.prog X.w H s.heap a (.frz ob (.lst xs)) from I.hok a _ ea)
  exact Ws PySem.W.kitx_list I.kIn ⟨_,h1,rfl⟩ e (fun z=>nomatch z) h
 | @tup a xs ea=>
  cases (show u=Value.ref a from rx)
  obtain⟨_,_,_,p⟩:=(show ObjOk X.prog X.w H s.heap a (.tup xs) from I.hok a _ ea)
  obtain⟨o,h1,h2,_⟩:=p;exact Ws PySem.W.kitx_tuple I.kIn ⟨o,h1,h2⟩ e (fun z=>nomatch z) h
 | @dK a kvs ea=>
  cases (show u=Value.ref a from rx)
  obtain⟨_,_,vs,_,p⟩:=(show ObjOk X.prog X.w H s.heap a (.dK kvs) from I.hok a _ ea)
  obtain⟨o,es,ep,h1,h2,_⟩:=p;exact Ws PySem.W.kitx_dict I.kIn ⟨o,h1,h2.1⟩ e (fun z=>nomatch z) h
 | @dT a kvs ea=>
  cases (show u=Value.ref a from rx)
  obtain⟨_,_,xs,_,o,es,ep,h1,h2,_⟩:=(show ObjOk X.prog X.w H s.heap a (.dT kvs) from I.hok a _ ea)
  exact Ws PySem.W.kitx_dict I.kIn ⟨o,h1,h2.1⟩ e (fun z=>nomatch z) h
 | @ins a C dx fs ea cl ha hn htk hm=>
  cases (show u=Value.ref a from rx)
  obtain⟨mA,O,_⟩:=NJ I.hok ea;obtain⟨od,J,_⟩:=O.look;exact Ws (PySem.W.kitx_own (cl.get _) cl.hd ha hn htk hm) I.kIn J e (fun z=>nomatch z) h
end
structure Room (k:Nat) (A:Around):Prop where
 hd:A.handled=none
 dp:A.depth+3*k+5<recursionLimit
 un:A.units+16*k+200<cLine
def Room.mono {j k:Nat}{A:Around} (r:Room k A) (h:j<=k):Room j A:=⟨r.hd,by have:=r.dp;omega,by have:=r.un;omega⟩
def Room.deeper {k:Nat}{A:Around} (r:Room (k+1) A) (env:Env):Room k (A.deeper env):=
 ⟨r.hd,by have:=r.dp;show A.depth+1+3*k+5<_;omega,by have:=r.un;show A.units+3+16*k+200<_;omega⟩
def RO {A:Around}{C:Addr}{us:List Value}{kw:List (Str×Value)}:(A.under (.builtin "type.__call__" ⟨.ref C::us,kw⟩)).depth=A.depth+1:=by
 first|rfl|simp[Around.under,Code.weight,Code.isCreation,Code.isGuard,Code.isCaller,Code.frames,Code.isFrame,guardIds]
def OW {A:Around}{C:Addr}{us:List Value}{kw:List (Str×Value)}:(A.under (.builtin "type.__call__" ⟨.ref C::us,kw⟩)).units=A.units+1:=by
 first|rfl|simp[Around.under,Code.cUnits,Code.frames,Code.isFrame]
def Room.make {k:Nat}{A:Around} (r:Room (k+1) A) (C:Addr) (us:List Value) (kw:List (Str×Value)):Room k (A.under (.builtin "type.__call__" ⟨.ref C::us,kw⟩)):=
 ⟨r.hd,by have:=r.dp;rw[RO];omega,by have:=r.un;rw[OW];omega⟩
def Room.depth {k:Nat}{A:Around} (r:Room k A):A.depth<recursionLimit:=by have:=r.dp;omega
def Room.units {k:Nat}{A:Around} (r:Room k A):A.units+64<cLine:=by have:=r.un;omega
def Room.units0 {k:Nat}{A:Around} (r:Room k A):A.units<cLine:=by have:=r.un;omega
def tNil:TA:=fun _ H Q=>Q [] H
def UO (ta:TE) (tr:TA):TA:=fun σ H Q=>ta σ H fun x H1=>tr σ H1 fun xs H2=>Q (x::xs) H2
section
variable {X:Cx}{e:Expr}{es:List Expr}{te:TE}{t:TA}{pos:Pos}
def Uh:PA X [] tNil:=fun _ _ _ _ H Q I h=>Calls.spliced_nil ⟨[],H,I,.nil,h⟩
def JP (ha:PE X e te) (hr:PA X es t) (hs:starEach (e::es) X.env=(false,eval e X.env)::starEach es X.env:=by rfl):PA X (e::es) (UO te t):=by
 intro pos pins s σ H Q I h;rw[hs];show wpAny _ _ (spliced ((false,eval e X.env)::backTo pos (starEach es X.env))) _ _ s;refine Calls.spliced_cons (thn (ha pins s σ H _ I h) fun u s1 ⟨x,H1,I1,r1,q1⟩=>?_);exact thn (hr pos pins s1 σ H1 _ I1 q1) fun us s2 ⟨xs,H2,I2,r2,q2⟩=>⟨x::xs,H2,I2,.cons r1 r2,q2⟩
def tTup (t:TA):TE:=fun σ H Q=>t σ H fun xs H1=>xs.length<=sizeLine/\∀p,H1 p=none->Q (.ref p) (upd H1 p (.tup xs))
def tLst (t:TA):TE:=fun σ H Q=>t σ H fun xs H1=>xs.length<=sizeLine/\∀p,H1 p=none->Q (.ref p) (upd H1 p (.lst xs))
def Uc {x1} (h:PA X es t):PE X (.Tuple es x1 pos) (tTup t):=by
 intro pins s σ H Q I hq;refine wpAny_Tuple_spliced (thn (h pos pins s σ H _ I hq) fun us s1 ⟨xs,H1,I1,r,z,q⟩=>⟨by rw[←r.length];exact z,?_⟩);have hf:H1 s1.heap.objs.size=none:=I1.hok.fresh (Yx _);refine⟨.ref s1.heap.objs.size,upd H1 s1.heap.objs.size (.tup xs),I1.laid (t':=s1.toks) (fun b u e=>Yu _ e) (Yx _) ?_,rfl,q _ hf⟩;exact⟨z,us,r,⟨_,Y7 _ rfl,rfl,_,rfl⟩⟩
def JO (h:PA X es t):PE X (.List es pos) (tLst t):=by
 intro pins s σ H Q I hq;refine wpAny_List_spliced (thn (h pos pins s σ H _ I hq) fun us s1 ⟨xs,H1,I1,r,z,q⟩=>⟨by rw[←r.length];exact z,?_⟩);have hf:H1 s1.heap.objs.size=none:=I1.hok.fresh (Yx _);refine⟨.ref s1.heap.objs.size,upd H1 s1.heap.objs.size (.lst xs),I1.laid (t':=s1.toks) (fun b u e=>Yu _ e) (Yx _) ?_,rfl,q _ hf⟩;exact⟨z,us,0,r,Y7 _ rfl⟩
end
abbrev Sp:=List V->Hp->VK->XK->Prop
abbrev CXT:=List Env->Hp->Shared->XK->Value->Shared->Prop
structure Env0 (P:Program) (w:World) (K:Za) (mg:Str->Option Value) (base:Heap) (A:Around) (outer:List Env) (s:Shared) (H:Hp):Prop where
 frames:A.frames=some outer
 mod:Mod K mg base
 bs:∀b o,base.get? b=some o->s.heap.get? b=some o/\H b=none
 bsz:base.objs.size<=s.heap.objs.size
 funs:s.heap.FunFrames base outer
 frf:∀b∈frs outer,H b=none
 hok:HOk P w H s.heap
 bare:AllBare s.gens
def CE (outer:List Env) (P:Program) (w:World) (H:Hp) (s:Shared) (Q:VK) (u:Value) (s':Shared):Prop:=
 ∃v H',s'.os=s.os/\AllBare s'.gens/\Un (frs outer) [] H H' s.heap s'.heap/\HOk P w H' s'.heap/\RelV v u/\Q v H'
def CR (CX:CXT) (outer:List Env) (P:Program) (w:World) (H:Hp) (s:Shared) (Q:VK) (E:XK) (r:Result) (s':Shared):Prop:=
 match r with
 | .ok (.ret u)=>CE outer P w H s Q u s'
 | .ok _=>False
 | .error e=>CX outer H s E e s'
structure FnOk (P:Program) (w:World) (K:Za) (mg:Str->Option Value) (base:Heap) (CX:CXT) (k:Nat) (f:Addr) (fd:FuncData) (ps:List Str) (sp:Sp):Prop where
 len:∀vs H Q E,sp vs H Q E->vs.length=ps.length
 run:∀(A:Around) (outer:List Env) (s:Shared) (H:Hp) (args:Args) (us:List Value) (vs:List V) (Q:VK) (E:XK),Room k A->Env0 P w K mg base A outer s H->BindsTo s fd args (ps.zip us)->Vals vs us->sp vs H Q E->
  codeAny (model P w) A (.call (.ref f) args) (CR CX outer P w H s Q E) s
def FnOk.imp {P:Program}{w:World}{K:Za}{mg:Str->Option Value}{base:Heap}{CX:CXT}{k:Nat}{f:Addr}{fd:FuncData}{ps:List Str}{sp sp':Sp} (F:FnOk P w K mg base CX k f fd ps sp)
  (h:∀vs H Q E,sp' vs H Q E->sp vs H Q E):FnOk P w K mg base CX k f fd ps sp':=
 ⟨fun vs H Q E q=>F.len vs H Q E (h _ _ _ _ q),fun A outer s H args us vs Q E hr he hb hv hs=>F.run A outer s H args us vs Q E hr he hb hv (h _ _ _ _ hs)⟩
def Env0.make {P:Program}{w:World}{K:Za}{mg:Str->Option Value}{base:Heap}{A:Around}{outer:List Env}{s:Shared}{H:Hp} (e:Env0 P w K mg base A outer s H) (C:Addr) (us:List Value) (kw:List (Str×Value)) :
  Env0 P w K mg base (A.under (.builtin "type.__call__" ⟨.ref C::us,kw⟩)) outer s H:=⟨by first|exact e.frames|(simpa [Around.under,Code.envs,Code.isFrame,pushEnvs] using e.frames),e.mod,e.bs,e.bsz,e.funs,e.frf,e.hok,e.bare⟩
section
variable {X:Cx}{pins:List (Addr×Obj)}{σ:St}{H:Hp}{s s':Shared}
def Inv.env0 (I:Inv X pins σ H s):Env0 X.prog X.w X.K X.mg X.base X.A X.stack s H:=
 ⟨I.ok.frames,I.ok.mod,I.bs,Y8 I.ok.bsz I.sz,I.stack,I.stkFree,I.hok,I.bare⟩
def Inv.after {Q:VK}{u:Value} (I:Inv X pins σ H s) (h:CE X.stack X.prog X.w H s Q u s'):EP X pins σ Q u s':=by
 obtain⟨v,H',os,bare,un,hok,r,q⟩:=h;obtain⟨hh,g,d,t,os'⟩:=s';obtain rfl:os'=s.os:=os;exact⟨v,H',I.call (h':=hh) (g':=g) (d':=d) (t':=t) (ch:=[]) un hok bare (fun b z=>absurd z (by simp)),r,q⟩
end
def KC (sp:Sp) (dvs:List V) (E:XK) (t:TA):TE:=fun σ H Q=>t σ H fun vs H1=>sp (vs++dvs) H1 Q E
def K7 (C:Addr) (m:Str) (sp:Sp) (dvs:List V) (E:XK) (ta:TE) (t:TA):TE:=fun σ H Q=>ta σ H fun x H1=>∃a dx fs,x=.ref a/\H1 a=some (.ins C dx fs)/\fs.lookup m=none/\
 t σ H1 fun vs H2=>sp (x::(vs++dvs)) H2 Q E
def SZ (C:Addr) (sp:Sp) (dvs:List V) (E:XK) (t:TA):TE:=fun σ H Q=>t σ H fun vs H1=>∀x dx,H1 x=none->H1 dx=none->dx≠x->
 sp (.ref x::(vs++dvs)) (upd (upd H1 dx (.own x)) x (.ins C dx [])) (fun v H2=>v=.non/\Q (.ref x) H2) E
def Binds (K:Za) (fd:FuncData) (ps:List Str) (ds:List Value):Prop:=
 ∀(s:Shared) (us:List Value),K.In s.heap->(us++ds).length=ps.length->BindsTo s fd ⟨us,[]⟩ (ps.zip (us++ds))
def Binds.all {K:Za}{fd:FuncData}{ps:List Str} (h:∀us:List Value,us.length=ps.length->bindArgs fd ⟨us,[]⟩=pure (ps.zip us)):Binds K fd ps []:=fun s us _ hl=>by
 rw[Wc] at hl ⊢;exact .of_eq (h us hl)
def X4 (CX:CXT) (X:Cx) (E:XK):Prop:=∀(pins:List (Addr×Obj)) (σ:St) (H:Hp) (s:Shared) (e:Value) (s':Shared),Inv X pins σ H s->CX X.stack H s E e s'->X.xe e s'
section
variable {X:Cx}{CX:CXT}{k:Nat}{f C:Addr}{fd:FuncData}{ps:List Str}{sp:Sp}{dvs:List V}{ds:List Value}{E:XK}{x m:Str}{p pos apos:Pos}{e o:Expr}{es:List Expr}{ta:TE}{t:TA}
def Ae {pins:List (Addr×Obj)}{σ:St}{H:Hp}{s:Shared}{Q:VK}{us:List Value}{vs:List V} (F:FnOk X.prog X.w X.K X.mg X.base CX k f fd ps sp) (hr:Room k X.A) (hb:Binds X.K fd ps ds) (hd:Vals dvs ds) (hx:X4 CX X E)
  (I:Inv X pins σ H s) (r:Vals vs us) (h:sp (vs++dvs) H Q E):wpAny (model X.prog X.w) X.A (call (.ref f) us) (EP X pins σ Q) X.xe s:=by
 have r2:Vals (vs++dvs) (us++ds):=r.append hd;have hl:(us++ds).length=ps.length:=by rw[←r2.length];exact F.len _ _ _ _ h
 refine wpAny_call (Qf (F.run X.A X.stack s H ⟨us,[]⟩ (us++ds) (vs++dvs) Q E hr I.env0 (hb s us I.kIn hl) r2 h) fun r s' hq=>?_);cases r with
 | error e=>exact hx pins σ H s e s' I hq
 | ok fl=>
  cases fl with
  | ret u=>exact I.after hq
  | next=>exact False.elim hq
  | brk=>exact False.elim hq
  | cont=>exact False.elim hq
def Og (F:FnOk X.prog X.w X.K X.mg X.base CX k f fd ps sp) (hr:Room k X.A) (hg:Gl X x) (hm:X.mg x=some (.ref f)) (hk:PySem.W.keepIn X.K (.ref f)=true) (hb:Binds X.K fd ps ds) (hd:Vals dvs ds) (hx:X4 CX X E)
  (ha:PA X (e::es) t) (hdb:(x==("__debug__" : Str))=false:=by decide) (he:starEach (e::es) X.env=(false,eval e X.env)::starEach es X.env:=by rfl) (hpl:(backTo pos (starEach es X.env)).any (·.1)=false:=by rfl) :
  PE X (.Call (.Name x p) (e::es) [] pos) (KC sp dvs E t):=by
 intro pins s σ H Q I h;refine Q2 (Tj I hg hm ?_ hdb);refine Vg (h₀:=X.base) I.ok.mod.kin hk (thn (ha pos pins s σ H _ I h) fun us s1 ⟨vs,H1,I1,r,q⟩=>⟨I1.kIn,?_⟩) he hpl;exact Ae F hr hb hd hx I1 r q
def Hu {pl:Sem Bool} (he:PE X o ta) (c:Cls X.K C) (hm:Meth X.K C m f) (F:FnOk X.prog X.w X.K X.mg X.base CX k f fd ps sp) (hr:Room k X.A) (hb:Binds X.K fd ps ds) (hd:Vals dvs ds) (hx:X4 CX X E) (ha:PA X (e::es) t)
  (hst:starEach (e::es) X.env=(false,eval e X.env)::starEach es X.env:=by rfl) (hpl:(backTo pos (starEach es X.env)).any (·.1)=false:=by rfl)
  (ht:eval (.Call (.Attribute o m apos) (e::es) [] pos) X.env=(do
   let ov ←eval o X.env
   standAt apos.atName
   let (f,first) ←holding [ov] (getMethod ov m pl)
   callWith pos f first (backTo pos (starEach (e::es) X.env)) (backToKw pos (keywordEach [] X.env))):=by rfl) :
  PE X (.Call (.Attribute o m apos) (e::es) [] pos) (K7 C m sp dvs E ta t):=by
 intro pins s σ H Q I h;refine Qs (pl:=pl) (thn (he pins s σ H _ I h) fun u s1 ⟨x,H1,I1,rx,a,dx,fs,ex,ea,l,q⟩=>?_) ht;subst ex;obtain rfl:u=Value.ref a:=rx;refine NC I1 ea c hm l ?_;refine Vg (first:=[.ref a]) (h₀:=X.base) I.ok.mod.kin hm.kp (thn (ha pos pins s1 σ H1 _ I1 q) fun us s2 ⟨vs,H2,I2,r,q2⟩=>⟨I2.kIn,?_⟩) hst hpl
 exact Ae (us:=.ref a::us) (vs:=.ref a::vs) F hr hb hd hx I2 (.cons rfl r) q2
def Lc {pl:Sem Bool} (he:PE X o ta) (c:Cls X.K C) (hm:Meth X.K C m f) (F:FnOk X.prog X.w X.K X.mg X.base CX k f fd ps sp) (hr:Room k X.A) (hb:Binds X.K fd ps ds) (hd:Vals dvs ds) (hx:X4 CX X E)
  (ht:eval (.Call (.Attribute o m apos) [] [] pos) X.env=(do
   let ov ←eval o X.env
   standAt apos.atName
   let (f,first) ←holding [ov] (getMethod ov m pl)
   callWith pos f first (backTo pos (starEach [] X.env)) (backToKw pos (keywordEach [] X.env))):=by rfl) :
  PE X (.Call (.Attribute o m apos) [] [] pos) (K7 C m sp dvs E ta tNil):=by
 intro pins s σ H Q I h;refine Qs (pl:=pl) (thn (he pins s σ H _ I h) fun u s1 ⟨x,H1,I1,rx,a,dx,fs,ex,ea,l,q⟩=>?_) ht;subst ex;obtain rfl:u=Value.ref a:=rx;refine NC I1 ea c hm l ?_;exact PySem.W.callWith_K0 (first:=[.ref a]) I1.kIn hm.kp (Ae (us:=[.ref a]) (vs:=[.ref a]) F hr hb hd hx I1 (.cons rfl .nil) q)
structure Mk (K:Za) (C f:Addr):Prop where
 makes:PySem.W.makesIn K C=true
 init:PySem.W.findIn K (.ref C) "__init__"=some (some (.ref f))
 fn:PySem.W.isFn K (.ref f)=true
 kp:PySem.W.keepIn K (.ref C)=true
def Md {pins:List (Addr×Obj)}{σ:St}{H:Hp}{s:Shared}{Q:VK}{us:List Value}{vs:List V} (M:Mk X.K C f) (F:FnOk X.prog X.w X.K X.mg X.base CX k f fd ps sp) (hr:Room (k+1) X.A) (hb:Binds X.K fd ps ds) (hd:Vals dvs ds)
  (hx:X4 CX X E) (I:Inv X pins σ H s) (r:Vals vs us)
  (h:∀x dx,H x=none->H dx=none->dx≠x->sp (.ref x::(vs++dvs)) (upd (upd H dx (.own x)) x (.ins C dx [])) (fun v H2=>v=.non/\Q (.ref x) H2) E) :
  wpAny (model X.prog X.w) X.A (call (.ref C) us) (EP X pins σ Q) X.xe s:=by
 have hq:=h (s.heap.objs.size+1) s.heap.objs.size (I.hok.fresh (QG _)) (I.hok.fresh (Yx _)) (YK (WQ _));have I2:=Inv.made (C:=C) I;have r2:Vals (V.ref (s.heap.objs.size+1)::(vs++dvs)) (Value.ref (s.heap.objs.size+1)::(us++ds)):=.cons rfl (r.append hd)
 have hl:(Value.ref (s.heap.objs.size+1)::us++ds).length=ps.length:=by
  have e:=r2.length;rw[F.len _ _ _ _ hq] at e;exact e.symm
 refine wpAny_call (Zez (f:=f) I.kIn M.makes M.init (beq_iff_eq.mp M.fn) (Qf (F.run _ X.stack _ _ ⟨Value.ref (s.heap.objs.size+1)::us,[]⟩ (Value.ref (s.heap.objs.size+1)::(us++ds)) _ _ E (hr.make C us [])
  (I2.env0.make C us []) (hb _ (Value.ref (s.heap.objs.size+1)::us) I2.kIn hl) r2 hq) fun r s' hq'=>?_))
 cases r with
 | error e=>exact hx pins σ _ _ e s' I2 hq'
 | ok fl=>
  cases fl with
  | ret u=>
   obtain⟨v,H',I3,rv,ev,q3⟩:=I2.after hq';subst ev;exact⟨rv,⟨V.ref (s.heap.objs.size+1),H',I3,rfl,q3⟩⟩
  | next=>exact False.elim hq'
  | brk=>exact False.elim hq'
  | cont=>exact False.elim hq'
def Il (M:Mk X.K C f) (F:FnOk X.prog X.w X.K X.mg X.base CX k f fd ps sp) (hr:Room (k+1) X.A) (hg:Gl X x) (hm:X.mg x=some (.ref C)) (hb:Binds X.K fd ps ds) (hd:Vals dvs ds) (hx:X4 CX X E)
  (ha:PA X (e::es) t) (hdb:(x==("__debug__" : Str))=false:=by decide) (he:starEach (e::es) X.env=(false,eval e X.env)::starEach es X.env:=by rfl) (hpl:(backTo pos (starEach es X.env)).any (·.1)=false:=by rfl) :
  PE X (.Call (.Name x p) (e::es) [] pos) (SZ C sp dvs E t):=by
 intro pins s σ H Q I h;refine Q2 (Tj I hg hm ?_ hdb);refine Vg (h₀:=X.base) I.ok.mod.kin M.kp (thn (ha pos pins s σ H _ I h) fun us s1 ⟨vs,H1,I1,r,q⟩=>⟨I1.kIn,?_⟩) he hpl;exact Md M F hr hb hd hx I1 r q
end
structure FnScope (N P:List Str) (sc:Scope):Prop where
 kind:sc.kind=.function
 co:sc.isCoroutine=false
 gen:sc.isGenerator=false
 nd:N.Nodup
 pre:N.take P.length=P
 par:∀x∈P,sc.names.lookup x=some .local\/sc.names.lookup x=some .cell
 nofree:∀y∈sc.names,y.2≠.free
def ET {kindOf:Str->Option NameKind}{x:Str}:∀{binds:List (Str×Value)}{m:Str->Option Value},(∀v,(x,v)∉binds)->bindL kindOf binds m x=m x
 | [],_,_=>rfl
 | (n,v)::r,m,h=>by
  unfold bindL;rw[ET fun w hw=>h w (YG _ hw)];split
  ·have:x≠n:=by rintro rfl;exact h v YM
   simp[this]
  ·rfl
def ED {kindOf:Str->Option NameKind}{x:Str}:∀{binds:List (Str×Value)}{m:Str->Option Value},(∀v,(x,v)∉binds)->bindC kindOf binds m x=m x
 | [],_,_=>rfl
 | (n,v)::r,m,h=>by
  unfold bindC;rw[ED fun w hw=>h w (YG _ hw)];split
  ·rfl
  ·have:x≠n:=by rintro rfl;exact h v YM
   simp[this]
def Gp {kindOf:Str->Option NameKind}{x:Str}{v:Value}:∀{P:List Str}{vs:List Value}{i:Nat}{m:Str->Option Value},P.Nodup->P[i]?=some x->vs[i]?=some v->kindOf x=some .local->
  bindL kindOf (P.zip vs) m x=some v
 | [],_,_,_,_,h,_,_=>by simp at h
 | _::_,[],_,_,_,_,h,_=>by simp at h
 | p::P,w::vs,0,m,nd,h1,h2,hk=>by
  simp at h1 h2;subst h1;subst h2;show bindL kindOf ((p,w)::P.zip vs) m p=_;unfold bindL;rw[ET fun v hv=>(YX.mp nd).1 (List.of_mem_zip hv).1,Ys hk];simp
 | p::P,w::vs,i+1,m,nd,h1,h2,hk=>by
  show bindL kindOf ((p,w)::P.zip vs) m x=_;unfold bindL;exact Gp (i:=i) (YX.mp nd).2 (by simpa using h1) (by simpa using h2) hk
def DM {kindOf:Str->Option NameKind}{x:Str}{v:Value}:∀{P:List Str}{vs:List Value}{i:Nat}{m:Str->Option Value},P.Nodup->P[i]?=some x->vs[i]?=some v->kindOf x≠some .local->
  bindC kindOf (P.zip vs) m x=some v
 | [],_,_,_,_,h,_,_=>by simp at h
 | _::_,[],_,_,_,_,h,_=>by simp at h
 | p::P,w::vs,0,m,nd,h1,h2,hk=>by
  simp at h1 h2;subst h1;subst h2;show bindC kindOf ((p,w)::P.zip vs) m p=_;unfold bindC;rw[ED fun v hv=>(YX.mp nd).1 (List.of_mem_zip hv).1,Yq hk];simp
 | p::P,w::vs,i+1,m,nd,h1,h2,hk=>by
  show bindC kindOf ((p,w)::P.zip vs) m x=_;unfold bindC;exact DM (i:=i) (YX.mp nd).2 (by simpa using h1) (by simpa using h2) hk
def start (N:List Str) (vs:List V):St:=vs.map some++List.replicate (N.length-vs.length) none
def cxOf (CX:CXT) (P:Program) (w:World) (K:Za) (mg:Str->Option Value) (base:Heap) (N:List Str) (qual:Str) (scope:Scope) (f:Addr) (cd:Value) (A:Around) (outer:List Env) (s:Shared) (H:Hp) (E:XK):Cx where
 prog:=P
 w:=w
 K:=K
 mg:=mg
 base:=base
 A:=A.deeper (envOfC qual scope s.heap.objs.size f cd)
 N:=N
 s₀:=s
 H₀:=H
 env:=envOfC qual scope s.heap.objs.size f cd
 outer:=outer
 stack:=envOfC qual scope s.heap.objs.size f cd::outer
 ex:=[]
 calm:=true
 fn:=fun _=>true
 pn:=[]
 xe:=fun e s'=>wpAny (model P w) (A.deeper (envOfC qual scope s.heap.objs.size f cd)) (leaving (envOfC qual scope s.heap.objs.size f cd) e) (fun _ s''=>CX outer H s E e s'') (fun e' s''=>CX outer H s E e' s'') s'
def A1 {sc:Scope}{n:Nat}{x:Str} (h:sc.names.lookup x=some .cell):∃c,(cellsFrom n sc.names []).lookup x=some c:=by
 have q:=PySem.W.cellsFrom_some sc.names n [] (.inl h);exact Option.isSome_iff_exists.mp q
def Ib {CX:CXT}{P:Program}{w:World}{K:Za}{mg:Str->Option Value}{base:Heap}{N ps:List Str}{qual:Str}{scope:Scope}{f:Addr}{cd:Value}{A:Around}{outer:List Env}{s s1:Shared}{H:Hp}{E:XK}{us:List Value}{vs:List V}
  (S:FnScope N ps scope) (hd:A.handled=none) (e0:Env0 P w K mg base A outer s H) (hl:vs.length=ps.length) (r:Vals vs us)
  (x:InCallC s s.heap.objs.size (bindL (envOfC qual scope s.heap.objs.size f cd).kindOf (ps.zip us) fun _=>none) (cellsFrom (s.heap.objs.size+1) scope.names []) (bindC (envOfC qual scope s.heap.objs.size f cd).kindOf (ps.zip us) fun _=>none) s1) :
  Inv (cxOf CX P w K mg base N qual scope f cd A outer s H E) [] (start N vs) H s1:=by
 have hpl:ps.length<=N.length:=by have:=Wa List.length S.pre;rw[Wv] at this;omega
 obtain⟨h1,tk,rfl,hk⟩:=x.done;have noA:∀b:Addr,b∉(cxOf CX P w K mg base N qual scope f cd A outer s H E).ex:=fun b z=>absurd (show b∈([]:List Addr) from z) (by simp)
 refine⟨⟨e0.mod,S.kind,rfl,rfl,Yx _,fun y z c h1 h2=>?_,fun y hy=>?_,fun y c _ h=>?_,fun _=>hd,Around.frames_deeper e0.frames,.inr ⟨rfl,rfl⟩,fun b z=>absurd z (noA b),e0.bs,e0.bsz,fun b _ _=>noA b,fun b z=>absurd z (noA b),e0.funs,e0.frf⟩,
  rfl,e0.bare,Un.kept hk,⟨_,x.toInCall.ns,fun i y v h1 h2 h3=>?_⟩,fun y c h=>⟨_,x.cell y c h⟩,e0.hok.fresh (Yx _),fun y c h=>?_,fun p hp=>absurd (show p∈([]:List (Addr×Obj)) from hp) (by simp),e0.hok.kept hk,?_⟩
 ·exact name_of_addr x.apart (WO h1) (WO h2)
 ·have hy:scope.names.lookup y=some .cell\/scope.names.lookup y=some .free:=hy;rcases hy with hy|hy
  ·exact A1 hy
  ·exact absurd rfl (S.nofree _ (WO hy))
 ·exact Q1 (x.above y c (WO h))
 ·have hi:i<vs.length:=by
   unfold start at h2;by_cases hi:i<vs.length
   ·exact hi
   ·rw[YN (by simpa using hi)] at h2;rw[WN] at h2;split at h2<;>cases h2
  have ha:vs[i]?=some v:=by
   unfold start at h2;rw[YQ (by simpa using hi),Y0] at h2;cases e:vs[i]? with
   | none=>rw[e] at h2;cases h2
   | some a=>rw[e] at h2;cases h2;rfl
  obtain⟨u,hu,rv⟩:=r.get ha
  have hp:ps[i]?=some y:=by
   rw[←S.pre,W7 (by omega)];exact h1
  have ndP:ps.Nodup:=by rw[←S.pre];exact S.nd.sublist (QD _ _)
  refine⟨u,rv,?_⟩;rcases S.par y (YE hp) with k|k
  ·exact .inl ⟨k,Gp ndP hp hu k⟩
  ·obtain⟨c,e⟩:=A1 (n:=s.heap.objs.size+1) k;refine .inr ⟨.inl k,c,e,?_⟩;have q:=x.cell y c e;rw[DM ndP hp hu (by show scope.names.lookup y≠_;rw[k];decide)] at q;exact q
 ·exact e0.hok.fresh (Q1 (x.above y c (WO h)))
 ·unfold start;show _=N.length;rw[Yv,Yn,List.length_replicate];omega
def Bg {CX:CXT}{P:Program}{w:World}{K:Za}{mg:Str->Option Value}{base:Heap}{k:Nat}{f:Addr}{name qual:Str}{params:Arguments}{body:List Stmt}{scope:Scope}{dV kV doc pm cdv ct oc:Value}{an od:Option Addr}
  {osl:Array (Option Value)} {N ps:List Str} {sp:Sp} (lk:K.lookup f=some ⟨oc,od,.func (PySem.W.fnOf name qual params body scope dV kV doc pm an cdv ct),osl⟩) (hcd:PySem.W.codeIn K cdv qual=true) (S:FnScope N ps scope)
  (len:∀vs H Q E,sp vs H Q E->vs.length=ps.length)
  (hbody:∀(A:Around) (outer:List Env) (s:Shared) (H:Hp) (vs:List V) (Q:VK) (E:XK),Room k (A.deeper (envOfC qual scope s.heap.objs.size f cdv))->sp vs H Q E->
   ∃t,PSs (cxOf CX P w K mg base N qual scope f cdv A outer s H E) body t/\t { nx:=fun _ H'=>Q .non H',rt:=Q } (start N vs) H) :
  FnOk P w K mg base CX (k+1) f (PySem.W.fnOf name qual params body scope dV kV doc pm an cdv ct) ps sp:=by
 refine⟨len,fun A outer s H args us vs Q E hr e0 hb r hsp=>?_⟩;have hl:=len _ _ _ _ hsp;have KX:K.In s.heap:=e0.mod.kin.keeps fun b o e=>(e0.bs b o e).1;have lim:s.heap.NoLimit:=e0.mod.nolimit.keeps fun b o e=>(e0.bs b o e).1
 have hkind:∀y∈ps.zip us,scope.names.lookup y.1=some .local\/(scope.names.lookup y.1=some .cell/\((cellsFrom (s.heap.objs.size+1) scope.names []).lookup y.1).isSome=true):=fun⟨n,v⟩ hy=>by
  rcases S.par n (List.of_mem_zip hy).1 with q|q
  ·exact .inl q
  ·exact .inr ⟨q,PySem.W.cellsFrom_some _ _ _ (.inl q)⟩
 refine codeAny_call_function hr.depth (KX _ _ lk) rfl S.co S.gen rfl (PySem.W.codeRec_of KX hcd) (hb _ _ _ _ ?_);refine wpAny_newFunctionEnv_cells S.kind hkind fun env he s1 x=>?_;subst he;refine⟨lim.keeps x.toInCall.keep,codeAny_func ?_⟩;obtain⟨t,ht,hq⟩:=hbody A outer s H vs Q E (hr.deeper _) hsp;have I:Inv (cxOf CX P w K mg base N qual scope f cdv A outer s H E) [] (start N vs) H s1:=Ib S hr.hd e0 hl r x;refine Wn (ht [] s1 (start N vs) H _ I hq) (fun fl s' hs=>?_) fun e s' hs=>hs
 have fin:∀{σ':St} {H':Hp} {v:V} {u:Value},Inv (cxOf CX P w K mg base N qual scope f cdv A outer s H E) [] σ' H' s'->RelV v u->Q v H'->CE outer P w H s Q u s':=
  fun {σ' H' v u} J rv q=>⟨v,H',J.os,J.bare,J.base,J.hok,rv,q⟩
 cases fl with
 | ret u=>
  obtain⟨v,σ',H',J,rv,q⟩:=hs;exact fin J rv q
 | next=>
  obtain⟨σ',H',J,q⟩:=hs;exact fin (v:=V.non) (u:=Value.none) J rfl q
 | brk=>
  obtain⟨_,_,_,q⟩:=hs;exact False.elim q
 | cont=>
  obtain⟨_,_,_,q⟩:=hs;exact False.elim q
section
variable {X:Cx}{x:Str}{p pos:Pos}{e:Expr}{es:List Expr}{t:TA}{id T:String}{r:List V->Hp->VK->Prop}
def tCB (r:List V->Hp->VK->Prop) (t:TA):TE:=fun σ H Q=>t σ H fun vs H1=>r vs H1 Q
def UD (hc:UB X (.builtin id) r) (hg:Gl X x) (hm:X.mg x=none) (hv:bootBuiltins x=some (.builtin id)) (ha:PA X (e::es) t) (hn:x≠"__name__":=by decide) (hdb:(x==("__debug__" : Str))=false:=by decide)
  (he:starEach (e::es) X.env=(false,eval e X.env)::starEach es X.env:=by rfl) (hpl:(backTo pos (starEach es X.env)).any (·.1)=false:=by rfl):PE X (.Call (.Name x p) (e::es) [] pos) (tCB r t):=by
 intro pins s σ H Q I h;refine Q2 (T7 I hg hm hv ?_ hn hdb);exact PyProof.Rows.callWith_builtin1 (thn (ha pos pins s σ H _ I h) fun us s1 ⟨vs,H1,I1,r1,q1⟩=>hc pins s1 σ H1 vs us Q I1 r1 q1) he hpl
def Xw (hc:UB X (.type T) r) (hg:Gl X x) (hm:X.mg x=none) (hv:bootBuiltins x=some (.type T)) (ha:PA X (e::es) t) (hn:x≠"__name__":=by decide) (hdb:(x==("__debug__" : Str))=false:=by decide)
  (he:starEach (e::es) X.env=(false,eval e X.env)::starEach es X.env:=by rfl) (hpl:(backTo pos (starEach es X.env)).any (·.1)=false:=by rfl):PE X (.Call (.Name x p) (e::es) [] pos) (tCB r t):=by
 intro pins s σ H Q I h;refine Q2 (T7 I hg hm hv ?_ hn hdb);exact Qv (thn (ha pos pins s σ H _ I h) fun us s1 ⟨vs,H1,I1,r1,q1⟩=>hc pins s1 σ H1 vs us Q I1 r1 q1) he hpl
end
end L2
namespace HT
open PySem PyProof.Rows
section
variable {prog:Program}{w:World}{A:Around}{E:Value->Shared->Prop}{s:Shared}
def RS {t b:Addr}{vs ws:List Value}{Q:Value->Shared->Prop} (ht:IsTup s.heap t vs.toArray) (hb:IsTup s.heap b ws.toArray) (hv:vs≠[])
  (h1:ws=[]->Q (.ref t) s) (h2:ws≠[]->Q (.ref s.heap.objs.size) { s with heap:=s.heap.push { cls:=.type "tuple",data:=.seq (vs++ws).toArray } })
  (hsz:vs.length+ws.length<=sizeLine):wpAny (model prog w) A (binaryOp .Add (.ref t) (.ref b)) Q E s:=by
 obtain⟨⟨cls,dd,data,sl⟩,ho,hc,n,hd⟩:=id ht;obtain⟨⟨cls2,dd2,data2,sl2⟩,ho2,hc2,n2,hd2⟩:=id hb;simp only at hc hd hc2 hd2;subst hc hd hc2 hd2;have e:vs.toArray++ws.toArray=(vs++ws).toArray:=by simp
 by_cases hw:ws=[]
 ·exact concat_meets ⟨_,ho,rfl⟩ ⟨_,ho2,rfl⟩ noFill_tuple_add seq_tuple_add QH QB (Q3 _ _)
   (tuple_addW1 t b vs.toArray ws.toArray n n2 dd dd2 sl sl2 (by simpa using hv) (by simp[hw])) ⟨ho,ho2,h1 hw⟩
 ·refine concat_meets ⟨_,ho,rfl⟩ ⟨_,ho2,rfl⟩ noFill_tuple_add seq_tuple_add QH QB (Q3 _ _)
   (tuple_addW2 t b vs.toArray ws.toArray n n2 dd dd2 sl sl2 (by simpa using hv) (by simpa using hw) (by rw[Y5,Y5];exact hsz)) ⟨ho,ho2,?_⟩
  rw[e];exact h2 hw
def sIx (n d:Nat):Option Int->Nat
 | none=>d
 | some v=>if v<0 then(v+(n:Int)).toNat else min v.toNat n
def DE (n d:Nat):sIx n d none=d:=rfl
def NH (n d k:Nat):sIx n d (some (k:Int))=min k n:=by
 show(if (k:Int)<0 then((k:Int)+(n:Int)).toNat else min (k:Int).toNat n)=min k n;rw[Yq (by omega),Wb]
end
end HT
namespace L2
open PySem PySem.Spec PyProof.Rows
abbrev TO:=St->Hp->(Option Int->Hp->Prop)->Prop
def PO (X:Cx) (e:Option Expr) (t:TO):Prop:=
 ∀(pins:List (Addr×Obj)) (s:Shared) (σ:St) (H:Hp) (Q:Option Int->Hp->Prop),Inv X pins σ H s->t σ H Q->
  wpAny (model X.prog X.w) X.A (evalPart e X.env) (fun u s'=>∃o H',Inv X pins σ H' s'/\IsPart u o/\Q o H') X.xe s
def CP:TO:=fun _ H Q=>Q none H
def Ho (t:TE):TO:=fun σ H Q=>t σ H fun x H1=>∃i,x=.int i/\Q (some i) H1
def Se {ns:List Int}:∀{us:List Value},Vals (ns.map V.int) us->IntsAre us ns:=by
 induction ns with
 | nil=>intro us r;rw[Vp] at r;cases r;exact .nil
 | cons n ns ih=>
  intro us r;rw[YA] at r;cases r with
  | cons r1 r2=>
   obtain⟨t,e⟩:=r1;subst e;exact .cons n t (ih r2)
section
variable {X:Cx}{e:Expr}{te:TE}{lo hi:Option Expr}{tl th:TO}{pos p2:Pos}
def Xs:PO X none CP:=by
 intro pins s σ H Q I h;rw[evalPart_none];exact Yt ⟨none,H,I,.none,h⟩
def Xg (h:PE X e te):PO X (some e) (Ho te):=by
 intro pins s σ H Q I hw;rw[evalPart_some];refine thn (h pins s σ H _ I hw) fun u s1 ⟨x,H1,I1,r1,q1⟩=>?_;obtain⟨i,rfl,q⟩:=q1;obtain⟨t,rfl⟩:=r1;exact⟨some i,H1,I1,.int i t,q⟩
def SlR (X:Cx) (r:V->Option Int->Option Int->Hp->VK->Prop):Prop:=
 ∀(pins:List (Addr×Obj)) (s:Shared) (σ:St) (H:Hp) (x:V) (v vl vu:Value) (lo hi:Option Int) (sl:Addr) (Q:VK),Inv X pins σ H s->RelV x v->s.heap.IsSliceOf sl vl vu .none->IsPart vl lo->IsPart vu hi->r x lo hi H Q->
  ∃T id,typeLookup (.type T) "__getitem__"=pure (some (.builtin id))/\s.TypeIs v T/\wpAny (model X.prog X.w) X.A (getItem v (.ref sl)) (EP X pins σ Q) X.xe s
def tSl (r:V->Option Int->Option Int->Hp->VK->Prop) (te:TE) (tl th:TO):TE:=fun σ H Q=>te σ H fun x H1=>tl σ H1 fun l H2=>th σ H2 fun u H3=>r x l u H3 Q
def Xq {r:V->Option Int->Option Int->Hp->VK->Prop} (hr:SlR X r) (he:PE X e te) (hl:PO X lo tl) (hu:PO X hi th):PE X (.Subscript e (.Slice lo hi none p2) pos) (tSl r te tl th):=by
 intro pins s σ H Q I h;refine Subscript_ (thn (he pins s σ H _ I h) fun v s1 ⟨x,H1,I1,r1,q1⟩=>?_);refine wpAny_Slice (thn (hl pins s1 σ H1 _ I1 q1) fun vl s2 ⟨l,H2,I2,pl,q2⟩=>thn (hu pins s2 σ H2 _ I2 q2) fun vu s3 ⟨u,H3,I3,pu,q3⟩=>?_);rw[evalPart_none];refine Yt ?_;have I4:Inv X pins σ H3 { s3 with heap:=s3.heap.push { cls:=.type "slice",data:=.fields #[vl,vu,.none] } }:=I3.kept (t':=s3.toks) fun b ob q=>Yu _ q
 obtain⟨T,id,hT,ht,hg⟩:=hr pins { s3 with heap:=s3.heap.push { cls:=.type "slice",data:=.fields #[vl,vu,.none] } } σ H3 x v vl vu l u s3.heap.objs.size Q I4 r1 (Heap.IsSliceOf.new ..) pl pu q3
 show wpAny (model X.prog X.w) X.A (subscriptTail e (.Slice lo hi none p2) v (.ref s3.heap.objs.size)) (EP X pins σ Q) X.xe { s3 with heap:=s3.heap.push { cls:=.type "slice",data:=.fields #[vl,vu,.none] } }
 exact tail_any (ops:=[.ref s3.heap.objs.size,v]) ht hT hg (by with_unfolding_all rfl)
def cutV (xs:List V) (lo hi:Option Int):List V:=(xs.drop (HT.sIx xs.length 0 lo)).take (HT.sIx xs.length xs.length hi-HT.sIx xs.length 0 lo)
def Zc3 (xs:List V) (lo hi:Option Int):(cutV xs lo hi).length<=xs.length:=by
 unfold cutV;rw[Wv,QL];omega
def HM (K:Za):R2:=fun x y H Q=>∃a b xs ys,x=.ref a/\y=.ref b/\SqT K H a xs/\SqT K H b ys/\xs≠[]/\xs.length+ys.length<=sizeLine/\
 (ys=[]->Q (.ref a) H)/\(ys≠[]->∀p,H p=none->Q (.ref p) (upd H p (.tup (xs++ys))))
def Vals.nil_iff {xs:List V}{us:List Value} (r:Vals xs us):us=[]↔xs=[]:=by
 cases r with
 | nil=>simp
 | cons _ _=>simp
def RT:OpR X (binaryOp .Add) (HM X.K):=by
 intro pins s σ H x y v u Q I rx ry h;obtain⟨a,b,xs,ys,rfl,rfl,ha,hb,hx,hz,q1,q2⟩:=h;cases rx
 cases ry
 obtain⟨its,r1,p1,_⟩:=I.tuple ha;obtain⟨its2,r2,p2,_⟩:=I.tuple hb;refine HT.RS p1 p2 (fun z=>hx (r1.nil_iff.mp z)) (fun z=>⟨.ref a,H,I,rfl,q1 (r2.nil_iff.mp z)⟩) (fun z=>?_) (by rw[←r1.length,←r2.length];exact hz);refine⟨.ref s.heap.objs.size,_,I.laid (t':=s.toks) (o:=.tup (xs++ys)) (fun b ob q=>Yu _ q) (Yx _) ?_,rfl,q2 (fun w=>z (r2.nil_iff.mpr w)) _ (I.hok.fresh (Yx _))⟩;exact⟨by rw[Yv];exact hz,_,r1.append r2,IsTup.new _ _⟩
end
def ixN (n:Nat) (i:Int):Option Nat:=if 0<=i then(if i<n then some i.toNat else none) else if -(n:Int)<=i then some (i+n).toNat else none
def atI {α:Type} (xs:List α) (i:Int):Option α:=(ixN xs.length i).bind fun j=>xs[j]?
def Ca {n:Nat}{i:Int}{j:Nat} (h:ixN n i=some j):seqIndex? i n=some j/\j<n/\-(n:Int)<=i/\i<n:=by
 unfold ixN at h;by_cases h0:0<=i
 ·rw[Ys h0] at h;by_cases h1:i<n
  ·rw[Ys h1] at h;have e:i.toNat=j:=Y2 h;exact⟨by rw[seqIndex_of h0 h1,e],by omega,by omega,h1⟩
  ·rw[Yq h1] at h;cases h
 ·rw[Yq h0] at h;by_cases h1:-(n:Int)<=i
  ·rw[Ys h1] at h;have e:(i+n).toNat=j:=Y2 h;exact⟨by rw[seqIndex_neg (by omega) h1,e],by omega,h1,by omega⟩
  ·rw[Yq h1] at h;cases h
def AR {α:Type}{xs:List α}{i:Int}{v:α} (h:atI xs i=some v):∃j,seqIndex? i xs.length=some j/\xs[j]?=some v/\j<xs.length/\-(xs.length:Int)<=i/\i<xs.length:=by
 unfold atI at h;cases e:ixN xs.length i with
 | none=>rw[e] at h;cases h
 | some j=>
  rw[e] at h;obtain⟨h1,h2,h3,h4⟩:=Ca e;exact⟨j,h1,h,h2,h3,h4⟩
def Tx {α:Type}{xs:List α}{j:Nat}{v:α} (h:xs[j]?=some v):atI xs (j:Int)=some v:=by
 have hj:j<xs.length:=(YF.mp h).1
 have e:ixN xs.length (j:Int)=some j:=by
  unfold ixN;rw[Ys (by omega),Ys (by omega)];simp
 unfold atI;rw[e];exact h
def E8 (b:Expr):Prop:=∀o i,subscripted b false o i=operate [o,i] (getItem o i)
def IxR (X:Cx) (r:R2):Prop:=
 ∀(value slice:Expr) (pins:List (Addr×Obj)) (s:Shared) (σ:St) (H:Hp) (x y:V) (v u:Value) (Q:VK),Inv X pins σ H s->RelV x v->RelV y u->r x y H Q->
  subscripted slice false v u=operate [v,u] (getItem v u)->wpAny (model X.prog X.w) X.A (subscriptTail value slice v u) (EP X pins σ Q) X.xe s
def MtR (X:Cx) (id:String) (r:V->List V->Hp->VK->Prop):Prop:=
 ∀(pins:List (Addr×Obj)) (s:Shared) (σ:St) (H:Hp) (x:V) (xs:List V) (v:Value) (us:List Value) (Q:VK),Inv X pins σ H s->RelV x v->Vals xs us->r x xs H Q->
  wpAny (model X.prog X.w) X.A (call (.builtin id) (v::us)) (EP X pins σ Q) X.xe s
section
variable {X:Cx}{a b:Expr}{ta tb:TE}{pos:Pos}
def IxR.or {r r':R2} (h:IxR X r) (h':IxR X r'):IxR X (fun x y H Q=>r x y H Q\/r' x y H Q):=by
 intro value slice pins s σ H x y v u Q I rx ry q hs;rcases q with q|q
 ·exact h value slice pins s σ H x y v u Q I rx ry q hs
 ·exact h' value slice pins s σ H x y v u Q I rx ry q hs
def Gq {r:R2} (hr:IxR X r) (ha:PE X a ta) (hb:PE X b tb) (hs:E8 b):PE X (.Subscript a b pos) (tOp r ta tb):=by
 intro pins s σ H Q I h;exact Subscript_ (binT ha hb I h fun v u s2 x y H2 I2 rx ry q=>hr a b pins s2 σ H2 x y v u Q I2 rx ry q (hs _ _))
def rIxL (K:Za):R2:=fun x y H Q=>∃p xs i v,x=.ref p/\y=.int i/\SqL K H p xs/\atI xs i=some v/\Q v H
def rIxT (K:Za):R2:=fun x y H Q=>∃p xs i v,x=.ref p/\y=.int i/\SqT K H p xs/\atI xs i=some v/\Q v H
def ix_list:IxR X (rIxL X.K):=by
 intro value slice pins s σ H x y v u Q I rx ry h hs;obtain⟨p,xs,i,z,rfl,rfl,hq,he,q⟩:=h;cases rx
 obtain⟨t,rfl⟩:=ry;obtain⟨its,r,pl,hz⟩:=I.list hq;obtain⟨j,h1,h2,h3,h4,h5⟩:=AR he;obtain⟨w,ew,rw'⟩:=r.get h2;have hl:=r.length;have hn:=Np;have fin:EP X pins σ Q w s:=⟨z,H,I,rw',q⟩;by_cases h0:0<=i
 ·have hj:i.toNat=j:=by
   rw[seqIndex_of h0 h5] at h1;exact Y2 h1
  exact item_listR pl.isList h0 (by omega) (by rw[hj];simpa using ew) fin hs
 ·have hj:(i+(its.toArray.size:Int)).toNat=j:=by
   rw[seqIndex_neg (by omega) h4] at h1;rw[Y5,←hl];exact Y2 h1
  exact subscriptTail_builtinR (x:=w) pl.isList.typeIs slot_list_getitem.lookup
   (wpAny_getItem_list_neg (Q:=fun r s'=>r=w/\EP X pins σ Q r s') pl.isList (by omega) (by rw[Y5]<;>omega) (by omega) (by rw[hj];simpa using ew) ⟨rfl,fin⟩) hs
def Ip:IxR X (rIxT X.K):=by
 intro value slice pins s σ H x y v u Q I rx ry h hs;obtain⟨p,xs,i,z,rfl,rfl,hq,he,q⟩:=h;cases rx
 obtain⟨t,rfl⟩:=ry;obtain⟨its,r,pl,hz⟩:=I.tuple hq;obtain⟨j,h1,h2,h3,h4,h5⟩:=AR he;obtain⟨w,ew,rw'⟩:=r.get h2;have hl:=r.length;have hn:=Np;have fin:EP X pins σ Q w s:=⟨z,H,I,rw',q⟩
 exact subscriptTail_builtinR (x:=w) pl.typeIs slot_tuple_getitem.lookup
  (getItem_tuple (j:=j) (Q:=fun r s'=>r=w/\EP X pins σ Q r s') pl (by omega) (by omega) (by rw[Y5,←hl];exact h1) (by simpa using ew) ⟨rfl,fin⟩) hs
def MR (its:List Value) (n j:Nat) (u:Value):Obj.mapSeq (·.setIfInBounds j u) { cls:=.type "list",data:=.seq its.toArray n }={ cls:=.type "list",data:=.seq (its.set j u).toArray n }:=by
 simp[Obj.mapSeq]
def Inv.lst {pins:List (Addr×Obj)}{σ:St}{H:Hp}{s:Shared}{p:Addr}{xs:List V} (I:Inv X pins σ H s) (h:H p=some (.lst xs)) :
  ∃(its:List Value) (n:Nat),Vals xs its/\s.heap.get? p=some { cls:=.type "list",data:=.seq its.toArray n }/\xs.length<=sizeLine:=by
 obtain⟨z,its,n,r,e⟩:=I.hok p _ h;exact⟨its,n,r,e,z⟩
def Inv.lstUpd {pins:List (Addr×Obj)}{σ:St}{H:Hp}{s:Shared}{p:Addr}{xs ys:List V}{its its':List Value}{n n':Nat}{f:Obj->Obj} (I:Inv X pins σ H s) (h:H p=some (.lst xs))
  (ho:s.heap.get? p=some { cls:=.type "list",data:=.seq its.toArray n }) (hf:f { cls:=.type "list",data:=.seq its.toArray n }={ cls:=.type "list",data:=.seq its'.toArray n' }) (r:Vals ys its') (hz:ys.length<=sizeLine) (t:Nat) :
  Inv X pins σ (upd H p (.lst ys)) { s with heap:=s.heap.update p f,toks:=t }:=by
 have e:(s.heap.update p f).get? p=some { cls:=.type "list",data:=.seq its'.toArray n' }:=by
  rw[Wj f ho (by rw[hf]<;>rfl),hf]
 refine I.write (x:=p) (e:=p) (by rw[h];trivial) (.inl rfl) (fun b u hb q=>(Wo _ _ (Ne.symm hb)).trans q) ⟨_,e⟩ ?_;exact⟨hz,its',n',r,e⟩
def GB:V->V->V->Hp->(Hp->Prop)->Prop:=fun o i v H Q=>∃p xs k j,o=.ref p/\i=.int k/\H p=some (.lst xs)/\ixN xs.length k=some j/\Q (upd H p (.lst (xs.set j v)))
def Oi:PSet X GB:=by
 intro pins s σ H o i v ov iv u Q I ro ri rv h;obtain⟨p,xs,k,j,rfl,rfl,hp,hj,q⟩:=h;cases ro
 obtain⟨t,rfl⟩:=ri;obtain⟨its,n,r,ho,hz⟩:=I.lst hp;obtain⟨h1,h2,h3,h4⟩:=Ca hj;have hl:=r.length;have hn:=Np
 have I':Inv X pins σ (upd H p (.lst (xs.set j v))) { s with heap:=s.heap.update p (Obj.mapSeq (·.setIfInBounds j u)) }:=
  I.lstUpd hp ho (MR its n j u) (r.set rv j) (by rw[Wt];exact hz) s.toks
 by_cases h0:0<=k
 ·have hk:k.toNat=j:=by
   rw[seqIndex_of h0 h4] at h1;exact Y2 h1
  exact PySem.W.ki_setAt ho h0 (by omega) (by rw[Y5,←hl];exact h4) (by rw[hk];exact⟨_,I',q⟩)
 ·have hk:(k+(its.toArray.size:Int)).toNat=j:=by
   rw[seqIndex_neg (by omega) h3] at h1;rw[Y5,←hl];exact Y2 h1
  exact PySem.W.ki_setBack ho (by omega) (by rw[Y5,←hl];exact h3) (by omega) (by rw[hk];exact⟨_,I',q⟩)
def OA (lo hi:Option Int) (n:Nat):(sliceBounds lo hi none n).1=((HT.sIx n 0 lo:Nat):Int)/\(sliceBounds lo hi none n).2.1=((HT.sIx n n hi:Nat):Int)/\(sliceBounds lo hi none n).2.2=1:=by
 refine⟨?_,?_,rfl⟩
 ·cases lo with
  | none=>simp[sliceBounds,HT.sIx]
  | some i=>
   simp only[sliceBounds,HT.sIx,Option.getD_none,show(1:Int)>0 by decide,if_true];by_cases h:i<0
   ·simp only[h,if_true]<;>omega
   ·simp only[h,QM]<;>omega
 ·cases hi with
  | none=>simp[sliceBounds,HT.sIx]
  | some i=>
   simp only[sliceBounds,HT.sIx,Option.getD_none,show(1:Int)>0 by decide,if_true];by_cases h:i<0
   ·simp only[h,if_true]<;>omega
   ·simp only[h,QM]<;>omega
def Zb5 (its:List Value) (lo hi:Option Int):slicePick its.toArray lo hi none=((its.drop (HT.sIx its.length 0 lo)).take (HT.sIx its.length its.length hi-HT.sIx its.length 0 lo)).toArray:=by
 obtain⟨h1,h2,h3⟩:=OA lo hi its.toArray.size;unfold slicePick;rw[h1,h2,h3];simp only[sliceRange_one,pick_run,Y5]<;>rfl
def rSlL (K:Za):V->Option Int->Option Int->Hp->VK->Prop:=fun x lo hi H Q=>∃a xs,x=.ref a/\SqL K H a xs/\∀p,H p=none->Q (.ref p) (upd H p (.lst (cutV xs lo hi)))
def Zen:SlR X (rSlL X.K):=by
 intro pins s σ H x v vl vu lo hi sl Q I rx hs pl pu h;obtain⟨a,xs,rfl,hx,q⟩:=h;cases rx
 obtain⟨its,r,ht,hz⟩:=I.list hx;have hlen:=r.length;refine⟨"list",_,slot_list_getitem.lookup,ht.isList.typeIs,?_⟩;refine wpAny_getItem_list_slice ht.isList hs pl pu .none (by simp) ?_ (by rw[Y5]<;>omega);rw[Zb5,←hlen];refine⟨.ref s.heap.objs.size,_,I.laid (t':=s.toks) (o:=.lst (cutV xs lo hi)) (fun b ob q=>Yu _ q) (Yx _) ?_,rfl,q _ (I.hok.fresh (Yx _))⟩;exact⟨Y8 (Zc3 xs lo hi) hz,_,0,(r.drop (HT.sIx xs.length 0 lo)).take (HT.sIx xs.length xs.length hi-HT.sIx xs.length 0 lo),Y7 _ rfl⟩
def Xb:V->Bool
 | .non=>true
 | .bl _=>true
 | .int _=>true
 | .str _=>true
 | _=>false
def eqV:V->V->Bool
 | .non,.non=>true
 | .bl a,.bl b=>a==b
 | .bl a,.int b=>(if a then 1 else 0)==b
 | .int a,.bl b=>a==(if b then 1 else 0)
 | .int a,.int b=>a==b
 | .str a,.str b=>a==b
 | _,_=>false
def Ct {A:Around}{s:Shared}{y x:V}{u v:Value} (ry:RelV y u) (rx:RelV x v) (fy:Xb y=true) (fx:Xb x=true):SeqAt.EqAt A s u v (eqV y x):=by
 cases y with
 | non=>
  cases ry
  cases x with
  | non=>cases rx;exact SeqAt.EqAt.same _
  | bl b=>cases rx;exact SeqAt.EqAt.none_bool b
  | int b=>obtain⟨t,rfl⟩:=rx;exact SeqAt.EqAt.none_int b t
  | str b=>obtain⟨t,rfl⟩:=rx;exact SeqAt.EqAt.none_str b t
  | _=>exact absurd (show false=true from fx) Y9
 | bl a=>
  cases ry
  cases x with
  | non=>cases rx;exact SeqAt.EqAt.bool_none a
  | bl b=>cases rx;exact SeqAt.EqAt.bool_bool a b
  | int b=>obtain⟨t,rfl⟩:=rx;exact SeqAt.EqAt.bool_int a b t
  | str b=>obtain⟨t,rfl⟩:=rx;exact SeqAt.EqAt.bool_str a b t
  | _=>exact absurd (show false=true from fx) Y9
 | int a=>
  obtain⟨t',rfl⟩:=ry;cases x with
  | non=>cases rx;exact SeqAt.EqAt.int_none a t'
  | bl b=>cases rx;exact SeqAt.EqAt.int_bool a t' b
  | int b=>obtain⟨t,rfl⟩:=rx;exact SeqAt.EqAt.int_int a t' b t
  | str b=>obtain⟨t,rfl⟩:=rx;exact SeqAt.EqAt.int_str a t' b t
  | _=>exact absurd (show false=true from fx) Y9
 | str a=>
  obtain⟨t',rfl⟩:=ry;cases x with
  | non=>cases rx;exact SeqAt.EqAt.str_none a t'
  | bl b=>cases rx;exact SeqAt.EqAt.str_bool a t' b
  | int b=>obtain⟨t,rfl⟩:=rx;exact SeqAt.EqAt.str_int a t' b t
  | str b=>obtain⟨t,rfl⟩:=rx;exact SeqAt.EqAt.str_str a t' b t
  | _=>exact absurd (show false=true from fx) Y9
 | _=>exact absurd (show false=true from fy) Y9
def eqU (x:V) (u:Value):Bool:=match u with
 | .none=>eqV .non x
 | .bool b=>eqV (.bl b) x
 | .int i _=>eqV (.int i) x
 | .str z _=>eqV (.str z) x
 | _=>false
def EH {x y:V}{u:Value} (r:RelV y u) (f:Xb y=true):eqU x u=eqV y x:=by
 cases y with
 | non=>cases r;rfl
 | bl b=>cases r;rfl
 | int i=>obtain⟨t,rfl⟩:=r;rfl
 | str z=>obtain⟨t,rfl⟩:=r;rfl
 | _=>exact absurd (show false=true from f) Y9
def Tt {x:V}:∀{xs:List V}{us:List Value},Vals xs us->xs.all Xb=true->us.any (eqU x)=xs.any fun y=>eqV y x
 | _,_,.nil,_=>rfl
 | y::xs,u::us,.cons r t,f=>by
  rw[List.all_cons,Wp] at f;rw[Qj,Qj,EH r f.1,Tt t f.2]
def Th {A:Around}{s:Shared}{x:V}{v:Value} (rx:RelV x v) (fx:Xb x=true):∀{xs:List V}{us:List Value},Vals xs us->xs.all Xb=true->∀u∈us,SeqAt.EqAt A s u v (eqU x u)
 | _,_,.nil,_=>fun u hu=>by cases hu
 | y::xs,u::us,.cons r t,f=>fun u' hu=>by
  rw[List.all_cons,Wp] at f;rcases Y4.mp hu with rfl|hu
  ·rw[EH r f.1];exact Ct r rx f.1 fx
  ·exact Th rx fx t f.2 u' hu
def inV (x:V) (xs:List V):Bool:=xs.any fun y=>eqV y x
def rIn (K:Za) (neg:Bool):R2:=fun x y H Q=>∃p xs,y=.ref p/\(SqL K H p xs\/SqT K H p xs)/\Xb x=true/\xs.all Xb=true/\Q (.bl (if neg then !inV x xs else inV x xs)) H
def Rj:OpR X (compareOp .In) (rIn X.K false):=by
 intro pins s σ H x y v u Q I rx ry h;obtain⟨p,xs,rfl,hq,fx,fs,q⟩:=h;cases ry
 rcases hq with hq|hq
 ·obtain⟨its,r,pl,hz⟩:=I.list hq;refine SeqAt.in_listAt (eqU x) pl.isList (fun w hw=>Th rx fx r fs w (by simpa using hw)) ⟨.bl _,H,I,rfl,?_⟩;rw[show its.toArray.any (eqU x)=its.any (eqU x) by simp,Tt r fs];exact q
 ·obtain⟨its,r,pl,hz⟩:=I.tuple hq;refine SeqAt.in_tupleAt (eqU x) pl (fun w hw=>Th rx fx r fs w (by simpa using hw)) ⟨.bl _,H,I,rfl,?_⟩;rw[show its.toArray.any (eqU x)=its.any (eqU x) by simp,Tt r fs];exact q
def IM:OpR X (compareOp .NotIn) (rIn X.K true):=by
 intro pins s σ H x y v u Q I rx ry h;obtain⟨p,xs,rfl,hq,fx,fs,q⟩:=h;cases ry
 rcases hq with hq|hq
 ·obtain⟨its,r,pl,hz⟩:=I.list hq;refine SeqAt.notIn_listAt (eqU x) pl.isList (fun w hw=>Th rx fx r fs w (by simpa using hw)) ⟨.bl _,H,I,rfl,?_⟩;rw[show its.toArray.any (eqU x)=its.any (eqU x) by simp,Tt r fs];exact q
 ·obtain⟨its,r,pl,hz⟩:=I.tuple hq;refine SeqAt.notIn_tupleAt (eqU x) pl (fun w hw=>Th rx fx r fs w (by simpa using hw)) ⟨.bl _,H,I,rfl,?_⟩;rw[show its.toArray.any (eqU x)=its.any (eqU x) by simp,Tt r fs];exact q
def Iy:UB X (.type "list") (fun xs H Q=>∃p ys,xs=[.ref p]/\(SqL X.K H p ys\/SqT X.K H p ys)/\∀l,H l=none->Q (.ref l) (upd H l (.lst ys))):=by
 intro pins s σ H xs us Q I r h;obtain⟨p,ys,rfl,hq,q⟩:=h;obtain⟨u,rfl,rx⟩:=vals1 r;cases rx
 have fin:∀(its:List Value),Vals ys its->ys.length<=sizeLine->∀(h':Heap) (c':Nat),(∀b o',s.heap.get? b=some o'->h'.get? b=some o')->
   h'.get? s.heap.objs.size=some { cls:=.type "list",dict:=none,data:=.seq its.toArray c',slots:=#[] }->EP X pins σ Q (.ref s.heap.objs.size) { s with heap:=h' }:=fun its r' hz h' c' kp e=>
  ⟨.ref s.heap.objs.size,_,I.laid (t':=s.toks) kp (Yx _) (show ObjOk X.prog X.w _ h' _ (.lst ys) from⟨hz,its,c',r',e⟩),rfl,q _ (I.hok.fresh (Yx _))⟩
 rcases hq with hq|hq
 ·obtain⟨its,r',pl,hz⟩:=I.list hq;have hlen:=r'.length;obtain⟨o,ho,hc,n,hd⟩:=pl.isList;exact call_list_seq p (.inl rfl) ho hc hd (fun h' c' kp e=>fin its r' hz h' c' kp e) (by simp only[Y5]<;>omega)
 ·obtain⟨its,r',pl,hz⟩:=I.tuple hq;have hlen:=r'.length;obtain⟨o,ho,hc,n,hd⟩:=pl;exact call_list_seq p (.inr rfl) ho hc hd (fun h' c' kp e=>fin its r' hz h' c' kp e) (by simp only[Y5]<;>omega)
def Zce:UB X (.type "tuple") (fun xs H Q=>∃p ys,xs=[.ref p]/\((SqL X.K H p ys/\∀l,H l=none->Q (.ref l) (upd H l (.tup ys)))\/(SqT X.K H p ys/\Q (.ref p) H))):=by
 intro pins s σ H xs us Q I r h;obtain⟨p,ys,rfl,h⟩:=h;obtain⟨u,rfl,rx⟩:=vals1 r;cases rx
 rcases h with⟨hq,q⟩|⟨hq,q⟩
 ·obtain⟨its,r',pl,hz⟩:=I.list hq;have hlen:=r'.length;refine call_tuple_list pl.isList (fun h' kp=>?_) (by simp only[Y5]<;>omega);have I1:Inv X pins σ H { s with heap:=h' }:=I.kept (t':=s.toks) kp
  have I2:Inv X pins σ (upd H h'.objs.size (.tup ys)) { s with heap:=h'.push { cls:=.type "tuple",data:=.seq its.toArray } }:=
   I1.laid (t':=s.toks) (fun b o e=>Yu _ e) (Yx _) (show ObjOk X.prog X.w _ _ _ (.tup ys) from⟨hz,its,r',IsTup.new _ _⟩)
  exact⟨.ref h'.objs.size,_,I2,rfl,q _ (I1.hok.fresh (Yx _))⟩
 ·obtain⟨its,r',pl,hz⟩:=I.tuple hq;exact call_tuple_same pl ⟨.ref p,H,I,rfl,q⟩
def tyV (K:Za) (T:String) (x:V) (H:Hp):Prop:=match x with
 | .str _=>T = "str"
 | .int _=>T = "int"
 | .ref p=>(T = "list"/\∃xs,SqL K H p xs)\/(T = "tuple"/\∃o,K.lookup p=some o/\o.cls=.type "tuple"/\o.dict=none)\/
   (T = "dict"/\((∃kvs,H p=some (.dK kvs))\/∃kvs,H p=some (.dT kvs)))\/(T = "set"/\∃S n,H p=some (.set S n))
 | _=>False
def Hl {pins:List (Addr×Obj)}{σ:St}{H:Hp}{s:Shared}{T:String}{x:V}{v:Value} (I:Inv X pins σ H s) (r:RelV x v) (ty:tyV X.K T x H) :
  s.TypeIs v T/\∀a,v=.ref a->∃ob,s.heap.get? a=some ob/\ob.dict=none:=by
 cases x with
 | str z=>
  obtain⟨t,rfl⟩:=r;cases (show T = "str" from ty)
  exact⟨typeIs_str s z t,fun _ e=>nomatch e⟩
 | int i=>
  obtain⟨t,rfl⟩:=r;cases (show T = "int" from ty)
  exact⟨typeIs_int s i t,fun _ e=>nomatch e⟩
 | ref p=>
  cases r
  rcases ty with⟨rfl,xs,hq⟩|⟨rfl,o,hk,hc,hd⟩|⟨rfl,hk⟩|⟨rfl,S,n,hk⟩
  ·obtain⟨its,_,pl,_⟩:=I.list hq;refine⟨pl.isList.typeIs,fun a e=>?_⟩;cases e
   obtain⟨o,n,e,c,hd,_⟩:=pl;exact⟨o,e,hd⟩
  ·refine⟨⟨o,I.kIn p o hk,hc⟩,fun a e=>?_⟩;cases e
   exact⟨o,I.kIn _ o hk,hd⟩
  ·have z:∃o,s.heap.get? p=some o/\o.ExactDict:=by
    rcases hk with⟨kvs,hk⟩|⟨kvs,hk⟩
    ·obtain⟨_,_,_,_,o,_,_,e,ex,_⟩:=I.hok p _ hk;exact⟨o,e,ex⟩
    ·obtain⟨_,_,_,_,o,_,_,e,ex,_⟩:=I.hok p _ hk;exact⟨o,e,ex⟩
   obtain⟨o,e,ex⟩:=z;refine⟨⟨o,e,ex.1⟩,fun a e2=>?_⟩;cases e2
   exact⟨o,e,ex.2.1⟩
  ·obtain⟨o,_,_,_,e,ex,_⟩:=I.hok p _ hk;refine⟨⟨o,e,ex.1⟩,fun a e2=>?_⟩;cases e2
   exact⟨o,e,ex.2.1⟩
 | _=>exact False.elim ty
def tBM0 (K:Za) (T:String) (r:V->List V->Hp->VK->Prop) (to:TE):TE:=fun σ H Q=>to σ H fun x H1=>tyV K T x H1/\r x [] H1 Q
def tBM (K:Za) (T:String) (r:V->List V->Hp->VK->Prop) (to:TE) (t:TA):TE:=fun σ H Q=>to σ H fun x H1=>tyV K T x H1/\t σ H1 fun xs H2=>r x xs H2 Q
variable {o e:Expr}{es:List Expr}{to:TE}{t:TA}{name:Str}{apos cpos:Pos}{T id:String}{r:V->List V->Hp->VK->Prop}
def Pd (pa:PlainAttrs T) (slot:Slot T name id) (hty:typeOf (.builtin id)=pure (.type "method_descriptor")) (hm:MtR X id r) (ho:PE X o to)
  (hbase:attributeBase o name X.env (eval o X.env)=eval o X.env:=by rfl) (hline:(apos.endLine==cpos.line)=true:=by rfl):PE X (.Call (.Attribute o name apos) [] [] cpos) (tBM0 X.K T r to):=by
 intro pins s σ H Q I h;refine wpAny_Call_method0_late hbase hline (thn (ho pins s σ H _ I h) fun v s1 ⟨x,H1,I1,r1,ty,q1⟩=>?_);obtain⟨h1,h2⟩:=Hl I1 r1 ty;exact⟨T,id,pa,slot,hty,h1,h2,Calls.callWith_builtin rfl (PySem.evalArgs_none (hm pins s1 σ H1 x [] v [] Q I1 r1 .nil q1))⟩
def Km (pa:PlainAttrs T) (slot:Slot T name id) (hty:typeOf (.builtin id)=pure (.type "method_descriptor")) (hm:MtR X id r) (ho:PE X o to) (ha:PA X (e::es) t)
  (hbase:attributeBase o name X.env (eval o X.env)=eval o X.env:=by rfl)
  (hfew:((backTo cpos (starEach (e::es) X.env)).all (fun x=>!x.1)&&(backToKw cpos (keywordEach [] X.env)).all (fun x=>x.1.isSome)
   && decide ((e::es).length+([]:List Keyword).length+(if ([]:List Keyword).isEmpty then 0 else 1)<30))=true:=by rfl)
  (hline:(apos.endLine==cpos.line)=true:=by rfl) (hs:starEach (e::es) X.env=(false,eval e X.env)::starEach es X.env:=by rfl) (hplain:(backTo cpos (starEach es X.env)).any (·.1)=false:=by rfl) :
  PE X (.Call (.Attribute o name apos) (e::es) [] cpos) (tBM X.K T r to t):=by
 intro pins s σ H Q I h;refine wpAny_Call_method_late hbase hfew hline rfl (thn (ho pins s σ H _ I h) fun v s1 ⟨x,H1,I1,r1,ty,q1⟩=>?_);obtain⟨h1,h2⟩:=Hl I1 r1 ty;refine⟨T,id,pa,slot,hty,h1,h2,?_⟩;have hA:=ha cpos pins s1 σ H1 _ I1 q1;rw[hs] at hA ⊢;refine Calls.callWith_builtin (by show(false || (backTo cpos (starEach es X.env)).any (·.1))=false;rw[hplain]<;>rfl) (Calls.evalArgs_plain ?_);exact thn hA fun us s2 ⟨vs,H2,I2,r2,q2⟩=>hm pins s2 σ H2 x vs v us Q I2 r1 r2 q2
end
def MtM (X:Cx) (id:String) (r:V->List V->Hp->VK->Prop):Prop:=
 ∀(pins:List (Addr×Obj)) (s:Shared) (σ:St) (H:Hp) (x:V) (xs:List V) (v:Value) (us:List Value) (Q:VK),Inv X pins σ H s->RelV x v->Vals xs us->r x xs H Q->
  wpAny (model X.prog X.w) X.A (call (.builtin id) (v::us)) (EP X pins σ Q) X.xe s
def Vals.one:∀{x:V}{us:List Value},Vals [x] us->∃u,us=[u]/\RelV x u
 | _,_,.cons r .nil=>⟨_,rfl,r⟩
def Vals.zero:∀{us:List Value},Vals [] us->us=[]
 | _,.nil=>rfl
def Vals.dropLast {xs:List V}{us:List Value} (h:Vals xs us):Vals xs.dropLast us.dropLast:=by
 induction h with
 | nil=>exact .nil
 | cons r t ih=>
  cases t with
  | nil=>exact .nil
  | cons q t'=>exact .cons r ih
def MW {α:Type} (l:List α):l.eraseIdx (l.length-1)=l.dropLast:=by
 induction l with
 | nil=>rfl
 | cons a r ih=>
  cases r with
  | nil=>rfl
  | cons b r=>
   have e:(a::b::r).length-1=((b::r).length-1)+1:=by
    have h1:(a::b::r).length=r.length+2:=rfl;have h2:(b::r).length=r.length+1:=rfl;omega
   rw[e,List.eraseIdx_cons_succ,ih]
   all_goals rfl
section
variable {X:Cx}{pins:List (Addr×Obj)}{σ:St}{H:Hp}{s:Shared}{l b:Addr}{xs ys zs:List V}
def Inv.lset {its its':List Value}{n:Nat}{f:Array Value->Array Value}{t':Nat} (I:Inv X pins σ H s) (hH:H l=some (.lst xs))
  (e:s.heap.get? l=some { cls:=.type "list",data:=.seq its.toArray n }) (hf:f its.toArray=its'.toArray) (hv:Vals ys its') (hz:ys.length<=sizeLine) :
  Inv X pins σ (upd H l (.lst ys)) { s with heap:=s.heap.update l (Obj.mapSeq f),toks:=t' }:=by
 have q:=PySem.IsL.update e f;rw[hf] at q;refine I.write (x:=l) (e:=l) (by rw[hH];exact trivial) (.inl rfl) (fun b' u hb hu=>(Wo s.heap (Obj.mapSeq f) (Ne.symm hb)).trans hu) ⟨_,q⟩ ?_;exact⟨hz,its',_,hv,q⟩
def Inv.lnew {its:List Value}{t':Nat} (I:Inv X pins σ H s) (hv:Vals ys its) (hz:ys.length<=sizeLine) :
  Inv X pins σ (upd H s.heap.objs.size (.lst ys)) { s with heap:=s.heap.push { cls:=.type "list",data:=.seq its.toArray },toks:=t' }:=
 I.laid (fun _ _ q=>Yu _ q) (Yx _) ⟨hz,its,0,hv,Y7 _ rfl⟩
def Inv.fresh (I:Inv X pins σ H s):H s.heap.objs.size=none:=I.hok.fresh (Yx _)
def Inv.lstM (I:Inv X pins σ H s) (hH:H l=some (.lst xs)):xs.length<=sizeLine/\∃(its:List Value) (n:Nat),Vals xs its/\xs.length=its.length/\s.heap.get? l=some { cls:=.type "list",data:=.seq its.toArray n }:=by
 obtain⟨z,its,n,r,e⟩:=I.hok l _ hH;exact⟨z,its,n,r,r.length,e⟩
def Zb9 {n:Nat} (h:n<=sizeLine):Builtin.List.listTooLong n=false:=by
 unfold Builtin.List.listTooLong;exact YB (by omega)
end
section
variable {X:Cx}
def FP:V->List V->Hp->VK->Prop:=fun x vs H Q=>∃l xs y,x=.ref l/\vs=[y]/\H l=some (.lst xs)/\xs.length<sizeLine/\Q .non (upd H l (.lst (xs++[y])))
def Kk:MtM X "list.append" FP:=by
 intro pins s σ H x vs v us Q I rx rv h;obtain⟨l,xs,y,rfl,rfl,hH,hz,q⟩:=h;cases rx
 obtain⟨u,rfl,ru⟩:=rv.one;obtain⟨z,its,n,r,hl,e⟩:=I.lstM hH;refine call_meets F.slot_list_append ⟨_,e,rfl⟩ F.entry_list_append (F.args_list_append_2 _ _) (PySem.list_append l its.toArray n u (by rw[Y5];omega)) ⟨e,?_⟩;refine⟨.non,_,I.lset (its':=its++[u]) hH e (by simp) (r.append (.cons ru .nil)) ?_,rfl,q⟩;rw[Yv,YW];omega
def Zfj:V->List V->Hp->VK->Prop:=fun x vs H Q=>∃l b xs zs,x=.ref l/\vs=[.ref b]/\H l=some (.lst xs)/\H b=some (.lst zs)/\xs.length+zs.length<=sizeLine/\Q .non (upd H l (.lst (xs++zs)))
def Zf2:MtM X "list.extend" Zfj:=by
 intro pins s σ H x vs v us Q I rx rv h;obtain⟨l,b,xs,zs,rfl,rfl,hH,hB,hz,q⟩:=h;cases rx
 obtain⟨u,rfl,ru⟩:=rv.one;cases ru
 obtain⟨z,its,n,r,hl,e⟩:=I.lstM hH;obtain⟨z2,its2,n2,r2,hl2,e2⟩:=I.lstM hB;have hsz:its.toArray.size+its2.toArray.size<=sizeLine:=by rw[Y5,Y5];omega
 have hlong:¬(!its.toArray.isEmpty&&Builtin.List.listTooLong (its.toArray.size+its2.toArray.size))=true:=by
  rw[Zb9 hsz,Bool.and_false];exact Y9
 refine call_meets F.slot_list_extend ⟨_,e,rfl⟩ F.entry_list_extend (F.args_list_extend_2 _ _)
  (AutoSeq1.list_extend_list_list_0 l its.toArray n b its2.toArray n2 hlong (by rw[Y5];omega) (by omega)) ⟨e,e2,?_⟩
 refine⟨.non,_,I.lset (its':=its++its2) hH e (by simp) (r.append r2) ?_,rfl,q⟩;rw[Yv];omega
def rPop:V->List V->Hp->VK->Prop:=fun x vs H Q=>∃l xs y,x=.ref l/\vs=[]/\H l=some (.lst xs)/\xs[xs.length-1]?=some y/\Q y (upd H l (.lst xs.dropLast))
def PL:MtM X "list.pop" rPop:=by
 intro pins s σ H x vs v us Q I rx rv h;obtain⟨l,xs,y,rfl,rfl,hH,hy,q⟩:=h;cases rx
 have hus:=rv.zero;subst hus;obtain⟨z,its,n,r,hl,e⟩:=I.lstM hH;obtain⟨u,hu,ru⟩:=r.get hy
 have hy':its.toArray[its.toArray.size-1]?=some u:=by
  show its.toArray[its.length-1]?=some u;rw[←Wq,←hl];exact hu
 refine call_meets F.slot_list_pop ⟨_,e,rfl⟩ F.entry_list_pop (F.args_list_pop_1 _) (MeetsSeq.list_pop_last l its.toArray n u hy' (by rw[Y5];omega)) ⟨e,?_⟩;refine⟨y,_,I.lset (its':=its.dropLast) hH e ?_ r.dropLast ?_,ru,q⟩
 ·show its.toArray.eraseIdxIfInBounds (its.toArray.size-1)=its.dropLast.toArray;rw[Y5,List.eraseIdxIfInBounds_toArray,MW]
 ·rw[List.length_dropLast];omega
def rCat:R2:=fun x y H Q=>∃l b xs zs,x=.ref l/\y=.ref b/\H l=some (.lst xs)/\H b=some (.lst zs)/\xs.length+zs.length<=sizeLine/\∀p,H p=none->Q (.ref p) (upd H p (.lst (xs++zs)))
def Xo:OpR X (binaryOp .Add) rCat:=by
 intro pins s σ H x y v u Q I rx ry h;obtain⟨l,b,xs,zs,rfl,rfl,hH,hB,hz,q⟩:=h;cases rx
 cases ry
 obtain⟨z,its,n,r,hl,e⟩:=I.lstM hH;obtain⟨z2,its2,n2,r2,hl2,e2⟩:=I.lstM hB;refine PySem.P.add_list e e2 ?_ (by rw[Y5,Y5];omega);have ea:its.toArray++its2.toArray=(its++its2).toArray:=by simp
 rw[ea];exact⟨.ref _,_,I.lnew (t':=s.toks) (r.append r2) (by rw[Yv];omega),rfl,q _ I.fresh⟩
end
end L2
namespace Att
open PySem PySem.W PySem.Calls PyProof.Rows
def MS {P:Params}{h:Heap}:∀(ns:List Int) (vs:List Value),WellAll P h vs (ns.map WData.int)->IntsAre vs ns:=by
 intro ns
 induction ns with
 | nil=>
  intro vs w;rw[Vp] at w;cases w
  exact .nil
 | cons n ns ih=>
  intro vs w;rw[YA] at w;cases w with
  | cons a b=>
   cases a
   exact .cons _ _ (ih _ b)
def II {l:OpenLaw}{n:Nat} (hn:l.most=some n) {P:Params}{h:Heap}{args:List WData}{vals:List Value}
  (hpre:l.row.toRowW.claim.pre args=true) (hwl:WellAll P h vals args) :
  ∃a vs ns,vals=[Value.ref a]/\args=[WData.list (ns.map WData.int)]/\h.get? a=some { cls:=.type "list",data:=.seq vs.toArray }/\IntsAre vs ns/\ns.length<=n:=by
 have hsh:WShape.hasAll [] args [.list .int]=true:=(pre_splitW hpre).1;have hc:l.pre.holds [] { args:=args }=true:=(pre_splitW hpre).2;obtain⟨d,r,rfl,h1,h2⟩:=hasAllW_cons hsh;obtain rfl:=hasAllW_nil h2;obtain⟨xs,rfl,h3⟩:=hasW_list h1;obtain⟨ns,rfl⟩:=items_int h3
 have hlen:ns.length<=n:=by
  unfold OpenLaw.pre at hc
  have h4:(WTm.not (.lt (.lit (.int (n:Int))) (.len (.arg 0)))).holds [] { args:=[.list (ns.map .int)] }=true:=by
   have h4:=(holds_andW hc).1;rw[hn] at h4;exact h4
  have h5:=condW_of h4 (w_not (w_lt w_lit (w_len_list (w_arg rfl))));rw[Yn] at h5;refine Nat.le_of_not_lt fun q=>?_;have q':(n:Int)<((ns.length:Nat):Int):=by omega
  first
   | (rw[Yr q'] at h5;exact absurd h5 (by decide))
   | (simp at h5;omega)
 cases hwl with
 | cons w1 w2=>
  cases w2
  cases w1 with
  | list ho hall=>exact⟨_,_,ns,rfl,rfl,ho,MS ns _ hall,hlen⟩
def Zb3 (l:OpenLaw) (args:List WData):l.row.toRowW.claim.post args (.bool true) args=true:=
 postW_of (r:=l.row.toRowW) (X:=(true==true))
  (show WShape.has [] (.bool true) .bool=true by first|rfl|decide|simp[WShape.has,WShape.arms,WShape.armsAll])
  (show(WTm.eq .res (.lit (.bool true))).value [] { args:=args,res:=some (.bool true),after:=args }=some (.bool (true==true)) from w_eq_bool (w_res rfl) w_lit) rfl
def Ri {l:OpenLaw}{n:Nat}{q:Program}{loose:List Str}{XP:(Str->Option Value)->Heap->Prop}{YP:World->Heap->Prop}{d:DefRec}
  (hn:l.most=some n) (hdf:d.params.defaults=[])
  (call:∀(w:World) (s₀ s₁:Shared) (mg mb:Str->Option Value) (fa:Addr) (o:Obj) (pm cd doc:Value) (a:Addr) (vs:List Value) (ns:List Int),
   Ground q loose [] XP w s₀ mg mb s₁.heap->YP w s₁.heap->
   s₁.heap.get? fa=some o->o.data=.func (docDef d.name d.params d.body d.scope pm cd doc)->s₁.heap.CodeRec cd d.name->mg d.name=some (.ref fa)->
   s₁.heap.get? a=some { cls:=.type "list",data:=.seq vs.toArray }->IntsAre vs ns->ns.length<=n->s₁.gens=#[]->
   codeAny (model l.prog w) callerA (.call (.ref fa) ⟨[.ref a],[]⟩) (fun r s'=>r=.ok (.ret (.bool true))/\OldK s₁.heap s'.heap/\s'.os=s₁.os/\AllBare s'.gens) s₁) :
  WalkO q loose XP YP l.row.toRowW d [] (fun f vs=>PySem.call f vs):=by
 intro w s₀ s₁ mg mb G Y fa o pm cd doc dV kV ho hd hcd hD hmg hg args vals as hpre hlay hrd hwl hlo;obtain rfl:dV=.none:=Dflts.none hD hdf;obtain rfl:kV=.none:=Dflts.noKw hD;obtain⟨a,vs,ns,rfl,rfl,hobj,hints,hlen⟩:=II hn hpre hwl;refine enter_call (Qf (call w s₀ s₁ mg mb fa o pm cd doc a vs ns G Y ho (fd_plain hd) hcd hmg hobj hints hlen hg) fun r s' hq=>?_);obtain⟨rfl,h2,h3,h4⟩:=hq;exact⟨.inl ⟨.bool true,.bool true,[],rfl,fun _=>rfl,.bool true,Zb3 l _,fun _=>⟨List.Pairwise.nil,fun _ hm=>(nomatch hm)⟩⟩,h2,h3,h4⟩
end Att
namespace L2
open PySem PySem.Spec PyProof.Rows
def NY:∀{vs:List Value}{ns:List Int},IntsAre vs ns->Vals (ns.map V.int) vs
 | _,_,.nil=>.nil
 | _,_,.cons n t h=>.cons ⟨t,rfl⟩ (NY h)
def Only (H:Hp):Prop:=∀b,H b=none\/∃o xs,H b=some (.frz o (.lst xs))
def Ot {P:Program}{w:World}{K:Za}{mg mb:Str->Option Value}{CX:CXT}{k:Nat}{fa a:Addr}{fd:FuncData}{x:Str}{sp:Sp}{s₁:Shared}{vs:List Value}{ns:List Int}
  (KX:K.In s₁.heap) (hns:s₁.heap.Ns mainGlobals mg) (hb:s₁.heap.Ns builtinsNs mb) (hbb:∀x:Str,x≠"__name__"->mb x=bootBuiltins x) (hlim:s₁.heap.NoLimit) (hg:s₁.gens=#[])
  (ha:s₁.heap.get? a=some { cls:=.type "list",data:=.seq vs.toArray }) (hi:IntsAre vs ns) (hl:ns.length<=sizeLine) (hr:Room k callerA)
  (F:∀base:Heap,K.In base->base.Ns mainGlobals mg->FnOk P w K mg base CX k fa fd [x] sp) (hbind:∀(s:Shared) (u:Value),BindsTo s fd ⟨[u],[]⟩ [(x,u)])
  (hsp:∀H:Hp,Only H->SqL K H a (ns.map V.int)->sp [.ref a] H (fun v _=>v=.bl true) fun _ _ _=>False)
  (hCX:∀H e s',CX [] H s₁ (fun _ _ _=>False) e s'->False) :
  codeAny (model P w) callerA (.call (.ref fa) ⟨[.ref a],[]⟩) (fun r s'=>r=.ok (.ret (.bool true))/\OldK s₁.heap s'.heap/\s'.os=s₁.os/\AllBare s'.gens) s₁:=by
 have rv:=NY hi;have lenV:=hi.length
 have core:∀H:Hp,Only H->SqL K H a (ns.map V.int)->HOk P w H s₁.heap->(∀b,H b≠none->b=a)->(H a≠none->K.lookup a=none)->
   codeAny (model P w) callerA (.call (.ref fa) ⟨[.ref a],[]⟩) (fun r s'=>r=.ok (.ret (.bool true))/\OldK s₁.heap s'.heap/\s'.os=s₁.os/\AllBare s'.gens) s₁:=by
  intro H hO hS hok hA hK;have base_of:∀{b:Addr} {o:Obj},s₁.heap.get? b=some o->H b=none->(hidT s₁.heap H).get? b=some o:=fun e n=>Zbi e n
  have noA:∀{b:Addr} {o:Obj} {es:Array DictEntry} {ep:Nat},s₁.heap.get? b=some o->o.data=.dict es ep->H b=none:=fun {b o es ep} e d=>by
   cases q:H b with
   | none=>rfl
   | some u=>
    have e':b=a:=hA b (by rw[q];simp);subst e';rw[ha] at e;cases e;have d':Data.seq vs.toArray _=Data.dict es ep:=d;cases d'
  have nsK:∀{b:Addr} {m:Str->Option Value},s₁.heap.Ns b m->(hidT s₁.heap H).Ns b m:=fun {b m} ⟨o,es,ep,e,d,r⟩=>⟨o,es,ep,base_of e (noA e d),d,r⟩
  have hKb:K.In (hidT s₁.heap H):=fun b o e=>base_of (KX b o e) (by
   cases q:H b with
   | none=>rfl
   | some u=>
    have e':b=a:=hA b (by rw[q];simp);subst e';rw[hK (by rw[q];simp)] at e;cases e)
  have hM:Mod K mg (hidT s₁.heap H):=⟨hKb,nsK hns,⟨mb,nsK hb,hbb⟩,let ⟨mc,h1,h2⟩:=hlim;⟨mc,nsK h1,h2⟩⟩;have e0:Env0 P w K mg (hidT s₁.heap H) callerA [] s₁ H:=⟨rfl,hM,fun b o e=>M3 e,WJ (O6 _ _),trivial,fun b hb=>absurd (show b∈([]:List Addr) from hb) (by simp),hok,.of_eq hg⟩
  refine Qf ((F _ hKb (nsK hns)).run callerA [] s₁ H ⟨[.ref a],[]⟩ [.ref a] [.ref a] _ _ hr e0 (hbind s₁ (.ref a)) (.cons rfl .nil) (hsp H hO hS)) fun r s' h=>?_;cases r with
  | error e=>exact(hCX H e s' h).elim
  | ok fl=>
   cases fl with
   | next=>exact False.elim h
   | brk=>exact False.elim h
   | cont=>exact False.elim h
   | ret u=>
    obtain⟨v,H',os,bare,un,hok',r',q⟩:=h;have q':v=.bl true:=q;subst q';obtain rfl:u=Value.bool true:=r';refine⟨rfl,OldK.of_keep fun b o e=>?_,os,bare⟩;cases q:H b with
    | none=>exact un.keep b o e q (by intro z;exact absurd (show b∈([]:List Addr) from z) (by simp)) (by simp)
    | some u=>
     rcases hO b with z|⟨ob,xs,z⟩
     ·rw[q] at z;cases z
     ·have z2:=un.frzs b ob _ z;obtain⟨e1,_⟩:=hok b _ z;obtain⟨e2,_⟩:=hok' b _ z2;rw[e] at e1;cases e1;exact e2
 cases hk:K.lookup a with
 | some o=>
  have e:=KX a o hk;rw[ha] at e;cases e
  refine core (fun _=>none) (fun _=>.inl rfl) (.inr ⟨_,vs.toArray,_,hk,rfl,rfl,rfl,by rw[Y5,lenV];exact hl,by simpa using rv⟩) (fun b u z=>by have z':(none:Option HO)=some u:=z;cases z') (fun b z=>absurd rfl z) fun z=>absurd rfl z
 | none=>
  refine core (fun b=>if b=a then some (.frz { cls:=.type "list",data:=.seq vs.toArray } (.lst (ns.map V.int))) else none) (fun b=>?_) (.inl (.inr ⟨{ cls:=.type "list",data:=.seq vs.toArray },Ys rfl⟩)) (fun b u z=>?_) (fun b z=>?_) fun _=>hk
  ·by_cases hb:b=a
   ·exact .inr ⟨_,_,Ys hb⟩
   ·exact .inl (Yq hb)
  ·by_cases hb:b=a
   ·have z':=(Ys hb).symm.trans z;cases z'
    subst hb;exact⟨ha,by rw[Yn];exact hl,vs,_,rv,ha⟩
   ·have z':=(Yq hb).symm.trans z;cases z'
  ·by_cases hb:b=a
   ·exact hb
   ·exact absurd (Yq hb) z
def L8 {l:PySem.W.OpenLaw}{n k:Nat}{q:Program}{loose:List Str}{XP:(Str->Option Value)->Heap->Prop}{YP:World->Heap->Prop}{d:DefRec}{K:Params->Za}{CX:World->CXT}{sp:World->Sp}{x:Str}
  (hn:l.most=some n) (hn2:n<=sizeLine) (hdf:d.params.defaults=[]) (hr:Room k callerA)
  (hY:∀(w:World) (h:Heap),YP w h->(K w.params).In h)
  (F:∀(w:World) (mg:Str->Option Value) (fa:Addr) (h:Heap),(K w.params).In h->h.Ns mainGlobals mg->mg d.name=some (.ref fa)->
   ∃fd:FuncData,(∀(s:Shared) (u:Value),BindsTo s fd ⟨[u],[]⟩ [(x,u)])/\
    ∀base:Heap,(K w.params).In base->base.Ns mainGlobals mg->FnOk l.prog w (K w.params) mg base (CX w) k fa fd [x] (sp w))
  (hsp:∀(w:World) (H:Hp) (a:Addr) (ns:List Int),ns.length<=n->Only H->SqL (K w.params) H a (ns.map V.int)->sp w [.ref a] H (fun v _=>v=.bl true) fun _ _ _=>False)
  (hCX:∀(w:World) (H:Hp) (s:Shared) (e:Value) (s':Shared),CX w [] H s (fun _ _ _=>False) e s'->False) :
  PySem.W.WalkO q loose XP YP l.row.toRowW d [] (fun f vs=>PySem.call f vs):=by
 refine Att.Ri hn hdf fun w s₀ s₁ mg mb fa o pm cd doc a vs ns G Y ho hd hcd hmg hobj hints hlen hg=>?_;have KX:=hY w _ Y;obtain⟨fd,hb,hF⟩:=F w mg fa _ KX G.T.g hmg;exact Ot KX G.T.g G.T.b G.T.builtins G.T.nolimit hg hobj hints (Y8 hlen hn2) hr hF hb (fun H hO hS=>hsp w H a ns hlen hO hS) fun H e s'=>hCX w H s₁ e s'
def O7 {l:PySem.W.OpenLaw}{n k:Nat}{q:Program}{loose:List Str}{XP:(Str->Option Value)->Heap->Prop}{YP:World->Heap->Prop}{d:DefRec}{K:Params->Za}{CX:CXT}{sp:Za->Sp}{x:Str}
  (hn:l.most=some n) (hn2:n<=sizeLine) (hdf:d.params.defaults=[]) (hr:Room k callerA)
  (hY:∀(w:World) (h:Heap),YP w h->(K w.params).In h)
  (F:∀(w:World) (mg:Str->Option Value) (fa:Addr) (h:Heap),(K w.params).In h->h.Ns mainGlobals mg->mg d.name=some (.ref fa)->
   ∃fd:FuncData,(∀(s:Shared) (u:Value),BindsTo s fd ⟨[u],[]⟩ [(x,u)])/\
    ∀base:Heap,(K w.params).In base->base.Ns mainGlobals mg->FnOk l.prog w (K w.params) mg base CX k fa fd [x] (sp (K w.params)))
  (hsp:∀(K:Za) (H:Hp) (a:Addr) (ns:List Int),ns.length<=n->Only H->SqL K H a (ns.map V.int)->sp K [.ref a] H (fun v _=>v=.bl true) fun _ _ _=>False)
  (hCX:∀(H:Hp) (s:Shared) (e:Value) (s':Shared),CX [] H s (fun _ _ _=>False) e s'->False) :
  PySem.W.WalkO q loose XP YP l.row.toRowW d [] (fun f vs=>PySem.call f vs):=
 L8 (K:=K) (CX:=fun _=>CX) (sp:=fun w=>sp (K w.params)) hn hn2 hdf hr hY F (fun w H a ns h1 h2 h3=>hsp (K w.params) H a ns h1 h2 h3) fun _ H s e s'=>hCX H s e s'
def inClass (s:Stmt) (j:Nat):Stmt:=match s with
 | .ClassDef _ _ _ body _ _ _ _ _ _ _=>body.getD j (.Pass ⟨0,0,0,0⟩)
 | _=>.Pass ⟨0,0,0,0⟩
def XB (s:Stmt):Arguments:=match s with
 | .FunctionDef _ a _ _ _ _ _ _ _ _=>a
 | _=>{ posonlyargs:=[],args:=[],vararg:=none,kwonlyargs:=[],kw_defaults:=[],kwarg:=none,defaults:=[] }
def UQ (s:Stmt):List Stmt:=match s with
 | .FunctionDef _ _ b _ _ _ _ _ _ _=>b
 | _=>[]
def JD (s:Stmt):Scope:=match s with
 | .FunctionDef _ _ _ _ _ _ sc _ _ _=>sc
 | _=>{ kind:=.function,names:=[],isGenerator:=false,isCoroutine:=false }
abbrev CX0:CXT:=fun _ _ _ _ _ _=>False
abbrev E0:XK:=fun _ _ _=>False
def Ut {X:Cx}:X4 CX0 X E0:=fun _ _ _ _ _ _ _ h=>h.elim
structure Fun (K:Za) (x qual:Str) (st:Stmt) (f:Addr) (fd:FuncData):Prop where
 ex:∃(oc:Value) (od:Option Addr) (kV doc pm:Value) (an:Option Addr) (cdv ct:Value) (osl:Array (Option Value)),
  fd=PySem.W.fnOf x qual (XB st) (UQ st) (JD st) .none kV doc pm an cdv ct/\K.lookup f=some ⟨oc,od,.func fd,osl⟩/\PySem.W.codeIn K cdv qual=true
 kp:PySem.W.keepIn K (.ref f)=true
section
variable {P:Program}{w:World}{K:Za}{mg:Str->Option Value}{base:Heap}
def Fun.ok {x qual:Str}{st:Stmt}{f:Addr}{fd:FuncData}{N ps:List Str}{k:Nat}{sp:Sp} (F:Fun K x qual st f fd) (S:FnScope N ps (JD st)) (len:∀vs H Q E,sp vs H Q E->vs.length=ps.length)
  (hbody:∀(cdv:Value) (A:Around) (outer:List Env) (s:Shared) (H:Hp) (vs:List V) (Q:VK) (E:XK),Room k (A.deeper (envOfC qual (JD st) s.heap.objs.size f cdv))->sp vs H Q E->
   ∃t,PSs (cxOf CX0 P w K mg base N qual (JD st) f cdv A outer s H E).nox (UQ st) t/\t { nx:=fun _ H'=>Q .non H',rt:=Q } (start N vs) H):FnOk P w K mg base CX0 (k+1) f fd ps sp:=by
 obtain⟨oc,od,kV,doc,pm,an,cdv,ct,osl,rfl,lk,hcd⟩:=F.ex;refine Bg lk hcd S len fun A outer s H vs Q E hr hsp=>?_;obtain⟨t,h,q⟩:=hbody cdv A outer s H vs Q E hr hsp;exact⟨t,h.nox,q⟩
def Fun.binds {x qual:Str}{st:Stmt}{f:Addr}{fd:FuncData}{ps:List Str} (F:Fun K x qual st f fd)
  (h:∀(kV doc pm:Value) (an:Option Addr) (cdv ct:Value) (us:List Value),us.length=ps.length->bindArgs (PySem.W.fnOf x qual (XB st) (UQ st) (JD st) .none kV doc pm an cdv ct) ⟨us,[]⟩=pure (ps.zip us)):Binds K fd ps []:=by
 obtain⟨oc,od,kV,doc,pm,an,cdv,ct,osl,rfl,lk,hcd⟩:=F.ex;exact .all (h kV doc pm an cdv ct)
def Fw {x qual:Str}{st:Stmt}{f:Addr}{oc:Value}{od an:Option Addr}{osl:Array (Option Value)}{kV doc pm cdv ct:Value} (l:K.lookup f=some ⟨oc,od,.func (PySem.W.fnOf x qual (XB st) (UQ st) (JD st) .none kV doc pm an cdv ct),osl⟩)
  (c:PySem.W.codeIn K cdv qual=true) (k:PySem.W.keepIn K (.ref f)=true):Fun K x qual st f (PySem.W.fnOf x qual (XB st) (UQ st) (JD st) .none kV doc pm an cdv ct):=⟨⟨oc,od,kV,doc,pm,an,cdv,ct,osl,rfl,l,c⟩,k⟩
end
def UK {A:Around}{k:Nat} (hr:Room k A):A.units+1<cLine:=Vh (Nat.add_le_add_left (by decide:1<=64) _) hr.units
def Zft {n:Nat} (h:n<=1000):n<sizeLine:=Vh h (by decide)
section
variable {X:Cx}
def pv (i:Nat) {x:Str}{pos:Pos} (hN:X.N[i]?=some x:=by rfl) (hv:Vis X.env.scope x:=by first|exact Or.inl rfl|exact Or.inr (Or.inl rfl)|exact Or.inr (Or.inr rfl)) (hd:(x==("__debug__" : Str))=false:=by decide)
  (hcd:(x==("__classdict__" : Str))=false:=by decide):PE X (.Name x pos) (tVar i):=Zdn hN hv hd hcd
end
def iteF {A B:Prop} (h:B):if false=true then A else B:=by
 rw[Yq Y9];exact h
def iteT {A B:Prop} (h:A):if true=true then A else B:=by
 rw[Ys rfl];exact h
def ite2 {c A B:Prop} [Decidable c] (h1:c->A) (h2:¬c->B):if c then A else B:=by
 by_cases h:c
 ·rw[Ys h];exact h1 h
 ·rw[Yq h];exact h2 h
def KI {c A B:Prop} [Decidable c] (hc:c) (h:B):if (!decide c)=true then A else B:=by
 rw[Yr hc];exact iteF h
def Same (H H':Hp):Prop:=∀b o,H b=some o->H' b=some o
def Same.refl (H:Hp):Same H H:=fun _ _ h=>h
def Same.trans {H H1 H2:Hp} (a:Same H H1) (b:Same H1 H2):Same H H2:=fun c o h=>b c o (a c o h)
def Same.free {H H':Hp} (e:Same H H') {l:Addr} (h:H' l=Option.none):H l=Option.none:=by
 cases q:H l with
 | none=>rfl
 | some o=>
  rw[e l o q] at h;cases h
def Same.seq {K:Za}{H H':Hp}{a:Addr}{xs:List V} (e:Same H H') (h:SqL K H a xs):SqL K H' a xs:=by
 rcases h with(h|⟨o,h⟩)|h
 ·exact .inl (.inl (e _ _ h))
 ·exact .inl (.inr ⟨o,e _ _ h⟩)
 ·exact .inr h
end L2
set_option maxHeartbeats 4000000
namespace L2
open PySem PySem.Spec PyProof.Rows
section
variable {κ:Type} [DecidableEq κ]
def valV (kvs:List (κ×V)) (k:κ):Option V:=(kvs.find? fun kv=>decide (kv.1=k)).map (·.2)
def putK (kvs:List (κ×V)) (k:κ) (v:V):List (κ×V):=
 if (kvs.any fun kv=>decide (kv.1=k))=true then kvs.map (fun kv=>if kv.1=k then(kv.1,v) else kv) else kvs++[(k,v)]
def X9 {p:κ×V}{r:List (κ×V)}{k:κ} (e:p.1=k):valV (p::r) k=some p.2:=by simp[valV,Ql,e]
def XH {p:κ×V}{r:List (κ×V)}{k:κ} (e:¬p.1=k):valV (p::r) k=valV r k:=by simp[valV,Ql,e]
def TB (k:κ):∀kvs:List (κ×V),(kvs.any fun kv=>decide (kv.1=k))=(valV kvs k).isSome
 | []=>rfl
 | p::r=>by
  rw[Qj];by_cases e:p.1=k
  ·simp only[X9 e,Yr e,Bool.true_or,Option.isSome_some]
  ·rw[XH e,YB e,Bool.false_or];exact TB k r
def Em (k j:κ) (y:V):∀kvs:List (κ×V),valV (kvs.map fun kv=>if kv.1=k then(kv.1,y) else kv) j=(valV kvs j).map fun x=>if j=k then y else x
 | []=>rfl
 | p::r=>by
  have ih:=Em k j y r;rw[YA];by_cases h:p.1=k
  ·rw[Ys h];by_cases e:p.1=j
   ·rw[X9 (p:=(p.1,y)) e,X9 e,QV,Ys (e.symm.trans h)]
   ·rw[XH (p:=(p.1,y)) e,XH e,ih]
  ·rw[Yq h];by_cases e:p.1=j
   ·rw[X9 (p:=p) e,X9 e,QV,Yq (fun z=>h (e.trans z))]
   ·rw[XH (p:=p) e,XH e,ih]
def CI (k j:κ) (y:V):∀kvs:List (κ×V),valV kvs k=none->valV (kvs++[(k,y)]) j=if j=k then some y else valV kvs j
 | [],_=>by
  by_cases e:k=j
  ·rw[Ys e.symm];exact X9 (p:=(k,y)) e
  ·rw[Yq (fun z=>e z.symm)];exact XH (p:=(k,y)) e
 | p::r,hn=>by
  rw[QN];have hk:¬p.1=k:=fun z=>by rw[X9 z] at hn;cases hn
  rw[XH hk] at hn;have ih:=CI k j y r hn;by_cases e:p.1=j
  ·rw[X9 e,X9 e,Yq (fun z=>hk (e.trans z))]
  ·rw[XH e,XH e,ih]
def Sn (kvs:List (κ×V)) (k j:κ) (y:V):valV (putK kvs k y) j=if j=k then some y else valV kvs j:=by
 unfold putK;by_cases a:(kvs.any fun kv=>decide (kv.1=k))=true
 ·rw[Ys a,Em];rw[TB] at a;by_cases e:j=k
  ·obtain⟨x,hx⟩:=Option.isSome_iff_exists.mp a;rw[Ys e,e,hx,QV,Ys rfl]
  ·rw[Yq e];cases valV kvs j with
   | none=>rfl
   | some x=>rw[QV,Yq e]
 ·rw[Yq a];refine CI k j y kvs ?_;rw[TB] at a;cases q:valV kvs k with
  | none=>rfl
  | some x=>rw[q] at a;exact(a rfl).elim
def Nz (kvs:List (κ×V)) (k:κ) (v:V):(putK kvs k v).length<=kvs.length+1:=by
 unfold putK;split
 ·rw[Yn];omega
 ·rw[Yv,YD,List.length_nil];omega
def Zb0 {kvs:List (κ×V)}{k:κ} (v:V) (h:valV kvs k=none):putK kvs k v=kvs++[(k,v)]:=by
 unfold putK;rw[TB,h];exact Yq (by decide)
def RelO.isSome_eq {o:Option V}{u:Option Value} (r:RelO o u):o.isSome=u.isSome:=by
 cases o with
 | none=>cases u with
  | none=>rfl
  | some _=>exact(show False from r).elim
 | some _=>cases u with
  | none=>exact(show False from r).elim
  | some _=>rfl
def KV.val {kvs:List (κ×V)}{vs:List (κ×Value)} (r:KV kvs vs) (k:κ):RelO (valV kvs k) (valueAt vs k):=by
 unfold KV at r
 induction r with
 | nil=>exact True.intro
 | @cons p q ps qs h t ih=>
  obtain⟨h1,h2⟩:=h;by_cases e:p.1=k
  ·have e':q.1=k:=h1.symm.trans e;have b:valueAt (q::qs) k=some q.2:=by simp[valueAt,Ql,e']
   rw[X9 e,b];exact h2
  ·have e':¬q.1=k:=fun z=>e (h1.trans z);have b:valueAt (q::qs) k=valueAt qs k:=by simp[valueAt,Ql,e']
   rw[XH e,b];exact ih
def KV.any {kvs:List (κ×V)}{vs:List (κ×Value)} (r:KV kvs vs) (k:κ):(kvs.any fun kv=>decide (kv.1=k))=vs.any fun kv=>decide (kv.1=k):=by
 unfold KV at r
 induction r with
 | nil=>rfl
 | cons h t ih=>rw[Qj,Qj,ih,h.1]
def KV.repl {kvs:List (κ×V)}{vs:List (κ×Value)} (r:KV kvs vs) (k:κ) {y:V}{u:Value} (ry:RelV y u) :
  KV (kvs.map fun kv=>if kv.1=k then(kv.1,y) else kv) (vs.map fun kv=>if kv.1=k then(kv.1,u) else kv):=by
 unfold KV at r ⊢
 induction r with
 | nil=>exact .nil
 | @cons p q ps qs h t ih=>
  rw[YA,YA];refine .cons ?_ ih;obtain⟨h1,h2⟩:=h;by_cases e:p.1=k
  ·rw[Ys e,Ys (h1.symm.trans e)];exact⟨h1,ry⟩
  ·rw[Yq e,Yq (fun z=>e (h1.trans z))];exact⟨h1,h2⟩
def KV.put {kvs:List (κ×V)}{vs:List (κ×Value)} (r:KV kvs vs) (k:κ) {y:V}{u:Value} (ry:RelV y u):KV (putK kvs k y) (stored vs k u):=by
 unfold putK stored;rw[r.any k];by_cases e:(vs.any fun kv=>decide (kv.1=k))=true
 ·rw[Ys e,Ys e];exact r.repl k ry
 ·rw[Yq e,Yq e];exact Paired.snoc r ⟨rfl,ry⟩
def KV.length {kvs:List (κ×V)}{vs:List (κ×Value)} (r:KV kvs vs):kvs.length=vs.length:=Paired.length r
end
def Si {P:Program}{w:World}{k:Key}{u:Value} (r:RelV (kV k) u):(Xx P w).is k u=true:=by
 cases k with
 | inl i=>obtain⟨t,e⟩:=(show ∃t,u=Value.int i t from r);subst e;exact Za0 P w i t
 | inr x=>obtain⟨t,e⟩:=(show ∃t,u=Value.str x t from r);subst e;exact Zcv P w x t
def Gb {P:Program}{w:World}:∀{ks:List Key}{us:List Value},Vals (ks.map kV) us->ItemsAre (Xx P w) ks us
 | [],_,r=>by rw[Vp] at r;cases r;exact .nil
 | k::ks,_,r=>by
  rw[YA] at r;cases r with
  | cons h t=>exact .cons (Si h) (Gb t)
abbrev KT (H:Hp):List (List Key×V)->List (List Key×Addr×Value)->Prop:=Paired fun p q=>p.1=q.1/\H q.2.1=some (.tup (p.1.map kV))/\RelV p.2 q.2.2
def KT.val {H:Hp}{kvs:List (List Key×V)}{xs:List (List Key×Addr×Value)} (r:KT H kvs xs) (k:List Key):RelO (valV kvs k) ((atKey xs k).map (·.2)):=by
 induction r with
 | nil=>exact True.intro
 | @cons p q ps qs h t ih=>
  obtain⟨h1,_,h2⟩:=h;by_cases e:p.1=k
  ·have e':q.1=k:=h1.symm.trans e;have b:atKey (q::qs) k=some q.2:=by simp[atKey,Ql,e']
   rw[X9 e,b];exact h2
  ·have e':¬q.1=k:=fun z=>e (h1.trans z);have b:atKey (q::qs) k=atKey qs k:=by simp[atKey,Ql,e']
   rw[XH e,b];exact ih
def KT.repl {H:Hp}{kvs:List (List Key×V)}{xs:List (List Key×Addr×Value)} (r:KT H kvs xs) (k:List Key) {y:V}{u:Value} (ry:RelV y u) :
  KT H (kvs.map fun kv=>if kv.1=k then(kv.1,y) else kv) (xs.map (putAt k u)):=by
 induction r with
 | nil=>exact .nil
 | @cons p q ps qs h t ih=>
  rw[YA,YA];refine .cons ?_ ih;obtain⟨h1,h2,h3⟩:=h;unfold putAt;by_cases e:p.1=k
  ·rw[Ys e,Ys (h1.symm.trans e)];exact⟨h1,h2,ry⟩
  ·rw[Yq e,Yq (fun z=>e (h1.trans z))];exact⟨h1,h2,h3⟩
def KT.put {H:Hp}{kvs:List (List Key×V)}{xs:List (List Key×Addr×Value)} (r:KT H kvs xs) (k:List Key) {b:Addr}{y:V}{u:Value} (hb:H b=some (.tup (k.map kV))) (ry:RelV y u) :
  KT H (putK kvs k y) (storedH xs k b u):=by
 have e:(kvs.any fun kv=>decide (kv.1=k))=(atKey xs k).isSome:=by
  rw[TB,(r.val k).isSome_eq,Option.isSome_map]
 unfold putK storedH;rw[e];by_cases q:(atKey xs k).isSome=true
 ·rw[Ys q,Ys q];exact r.repl k ry
 ·rw[Yq q,Yq q];exact Paired.snoc r ⟨rfl,hb,ry⟩
def KT.keeps {H H':Hp}{kvs:List (List Key×V)}{xs:List (List Key×Addr×Value)} (r:KT H kvs xs) (ht:∀b ys,H b=some (.tup ys)->H' b=some (.tup ys)):KT H' kvs xs:=
 Paired.mapP r fun _ _ z=>⟨z.1,ht _ _ z.2.1,z.2.2⟩
section
variable {P:Program}{w:World}{H:Hp}{h:Heap}{a:Addr}
def GM {u:HO} (ok:HOk P w H h) (e:Rd H a u):ObjOk P w H h a u:=e.ok ok
def Nt {kvs:List (Key×V)} (ok:HOk P w H h) (e:Rd H a (.dK kvs)):kvs.length<=sizeLine/\(a==sysModules)=false/\∃vs,KV kvs vs/\h.DictOf (Xx P w) a vs:=
 show ObjOk P w H h a (.dK kvs) from GM ok e
def L4 {kvs:List (Key×V)} (ok:HOk P w H h) (e:H a=some (.dK kvs)):kvs.length<=sizeLine/\(a==sysModules)=false/\∃vs,KV kvs vs/\h.DictOf (Xx P w) a vs:=Nt ok (.inl e)
def T6 {ks:List Key} (ok:HOk P w H h) (e:H a=some (.tup (ks.map kV))):(tupleKind (Xx P w)).is h ks a:=by
 obtain⟨_,its,r,o,h1,h2,n,h3⟩:=(show ObjOk P w H h a (.tup (ks.map kV)) from ok a _ e)
 exact⟨o,its.toArray,n,h1,h2,h3,by simpa using Gb r⟩
def Nr {kvs:List (List Key×V)} (ok:HOk P w H h) (e:Rd H a (.dT kvs)):kvs.length<=sizeLine/\(a==sysModules)=false/\
  ∃xs,KT H kvs xs/\h.DictOfH (tupleKind (Xx P w)) a xs:=by
 obtain⟨z,y,xs,r,o,es,ep,h1,h2,h3,h4,h5⟩:=(show ObjOk P w H h a (.dT kvs) from GM ok e)
 refine⟨z,y,xs,r,o,es,ep,h1,h2,h3,h4,fun x hx=>?_,h5⟩
 have all:∀{l:List (List Key×V)} {m:List (List Key×Addr×Value)},KT H l m->∀x∈m,(tupleKind (Xx P w)).is h x.1 x.2.1:=by
  intro l m q
  induction q with
  | nil=>intro x hx;exact nomatch hx
  | @cons p q ps qs hq t ih=>
   intro x hx;rcases Y4.mp hx with e|hx
   ·subst e;exact T6 ok (by rw[←hq.1];exact hq.2.1)
   ·exact ih x hx
 exact all r x hx
def NG {kvs:List (List Key×V)} (ok:HOk P w H h) (e:H a=some (.dT kvs)):kvs.length<=sizeLine/\(a==sysModules)=false/\
  ∃xs,KT H kvs xs/\h.DictOfH (tupleKind (Xx P w)) a xs:=Nr ok (.inl e)
end
def DGet (H:Hp) (a:Addr) (y:V) (r:Option V):Prop:=
 (∃kvs k,Rd H a (.dK kvs)/\y=kV k/\r=valV kvs k)\/∃kvs k b,Rd H a (.dT kvs)/\y=.ref b/\H b=some (.tup (k.map kV))/\r=valV kvs k
def DPut (H:Hp) (a:Addr) (y v:V) (H':Hp):Prop:=
 (∃kvs k,H a=some (.dK kvs)/\y=kV k/\kvs.length<sizeLine/\H'=upd H a (.dK (putK kvs k v)))\/
 ∃kvs k b,H a=some (.dT kvs)/\y=.ref b/\H b=some (.tup (k.map kV))/\kvs.length<sizeLine/\H'=upd H a (.dT (putK kvs k v))
def DGet.k {H:Hp}{a:Addr}{kvs:List (Key×V)}{k:Key} (e:H a=some (.dK kvs)):DGet H a (kV k) (valV kvs k):=.inl ⟨kvs,k,.inl e,rfl,rfl⟩
def DGet.t {H:Hp}{a b:Addr}{kvs:List (List Key×V)}{k:List Key} (e:H a=some (.dT kvs)) (eb:H b=some (.tup (k.map kV))):DGet H a (.ref b) (valV kvs k):=.inr ⟨kvs,k,b,.inl e,rfl,eb,rfl⟩
def DPut.k {H:Hp}{a:Addr}{kvs:List (Key×V)}{k:Key}{v:V} (e:H a=some (.dK kvs)) (hl:kvs.length<sizeLine):DPut H a (kV k) v (upd H a (.dK (putK kvs k v))):=.inl ⟨kvs,k,e,rfl,hl,rfl⟩
def DPut.t {H:Hp}{a b:Addr}{kvs:List (List Key×V)}{k:List Key}{v:V} (e:H a=some (.dT kvs)) (eb:H b=some (.tup (k.map kV))) (hl:kvs.length<sizeLine) :
  DPut H a (.ref b) v (upd H a (.dT (putK kvs k v))):=.inr ⟨kvs,k,b,e,rfl,eb,hl,rfl⟩
section
variable {X:Cx}{pins:List (Addr×Obj)}{σ:St}{H:Hp}{s:Shared}{a:Addr}{y v:V}{u r:Value}{o:Option V}{A:Around}{E:Value->Shared->Prop}
def Inv.big (I:Inv X pins σ H s):sysModules<s.heap.objs.size:=by
 have h:mainGlobals<s.heap.objs.size:=(I.mod.glob.keeps I.bk).lt;exact Qt (by decide) h
def Oo {Q:Value->Shared->Prop} (hu:A.units+1<cLine) (I:Inv X pins σ H s) (g:DGet H a y (some v)) (ry:RelV y u) (h:∀w' s',Inv X pins σ H s'->RelV v w'->Q w' s') :
  wpAny (model X.prog X.w) A (getItem (.ref a) u) Q E s:=by
 rcases g with⟨kvs,k,e,ey,l⟩|⟨kvs,k,b,e,ey,eb,l⟩
 ·subst ey;obtain⟨z,hd,vs,rel,dd⟩:=Nt I.hok e;obtain⟨w',hw,rw'⟩:=RelO.some_of (v:=v) (o:=valueAt vs k) (by rw[l];exact rel.val k);exact wpAny_getItem_of (Si ry) dd.mapOf hw (h w' _ (I.tok _) rw')
 ·subst ey;cases (show u=Value.ref b from ry)
  obtain⟨z,hd,xs,rel,dd⟩:=Nr I.hok e;obtain⟨w',hw,rw'⟩:=RelO.some_of (v:=v) (o:=(atKey xs k).map (·.2)) (by rw[l];exact rel.val k);obtain⟨p,hp,hp2⟩:=Option.map_eq_some_iff.mp hw;refine wpAny_getItem_heap (tupleKind_room_in1 hu) (T6 I.hok eb) dd hp ?_;rw[hp2];exact h w' _ (I.tok _) rw'
def Zd8 {Q:Value->Shared->Prop} (hu:A.units+1<cLine) (I:Inv X pins σ H s) (g:DGet H a y o) (ry:RelV y u) (h:∀s',Inv X pins σ H s'->Q (.bool (!o.isSome)) s') :
  wpAny (model X.prog X.w) A (compareOp .NotIn u (.ref a)) Q E s:=by
 rcases g with⟨kvs,k,e,ey,l⟩|⟨kvs,k,b,e,ey,eb,l⟩
 ·subst ey;obtain⟨z,hd,vs,rel,dd⟩:=Nt I.hok e;refine wpAny_notIn_of (Si ry) hd dd.mapOf ?_;rw[←(rel.val k).isSome_eq,←l];exact h _ (I.tok _)
 ·subst ey;cases (show u=Value.ref b from ry)
  obtain⟨z,hd,xs,rel,dd⟩:=Nr I.hok e;refine wpAny_notIn_heap (tupleKind_room_in1 hu) (T6 I.hok eb) hd dd ?_;have q:=(rel.val k).isSome_eq;rw[Option.isSome_map] at q;rw[←q,←l];exact h _ (I.tok _)
def Ac {h':Heap}{t':Nat}{ob:HO} (I:Inv X pins σ H s) (mu:Mut (H a)) (hs:Heap.SameBut a s.heap h') (he:∃q,h'.get? a=some q) (new:ObjOk X.prog X.w (upd H a ob) h' a ob) :
  Inv X pins σ (upd H a ob) { s with heap:=h',toks:=t' }:=
 I.write (x:=a) (e:=a) mu (.inl rfl) (fun b q hb z=>(hs.2 b hb).trans z) he new
def Zdm {P:Program}{w:World}{H':Hp}{h':Heap}{kvs:List (Key×V)}{vs:List (Key×Value)} (z:kvs.length<=sizeLine) (hd:(a==sysModules)=false) (rel:KV kvs vs) (dd:h'.DictOf (Xx P w) a vs) :
  ObjOk P w H' h' a (.dK kvs):=⟨z,hd,vs,rel,dd⟩
def Zeb {H':Hp}{Q:Unit->Shared->Prop} (hu:A.units+1<cLine) (I:Inv X pins σ H s) (g:DPut H a y v H') (ry:RelV y u) (rv:RelV v r) (h:∀s',Inv X pins σ H' s'->Q () s') :
  wpAny (model X.prog X.w) A (setItem (.ref a) u r) Q E s:=by
 rcases g with⟨kvs,k,e,ey,l,eH⟩|⟨kvs,k,b,e,ey,eb,l,eH⟩
 ·subst ey eH;obtain⟨z,hd,vs,rel,dd⟩:=L4 I.hok e;have hz:vs.length<=sizeLine:=by rw[←rel.length];exact z
  have hl:(putK kvs k v).length<=sizeLine:=by have:=Nz kvs k v;omega
  refine wpAny_setItem_pairs (hsz:=hz) (Si ry) dd fun h' dd' hs=>h _ ?_;have he:∃q,h'.get? a=some q:=let ⟨q,_,_,hq,_⟩:=dd';⟨q,hq⟩;exact Ac I (by rw[e];exact True.intro) hs he (Zdm hl hd (rel.put k rv) dd')
 ·subst ey eH;cases (show u=Value.ref b from ry)
  obtain⟨z,hd,xs,rel,dd⟩:=NG I.hok e;have hz:xs.length<=sizeLine:=by rw[←Paired.length rel];exact z
  have hl:(putK kvs k v).length<=sizeLine:=by have:=Nz kvs k v;omega
  refine wpAny_setItem_heap (hsz:=hz) (tupleKind_room_in1 hu) (T6 I.hok eb) dd fun h' dd' hs=>h _ ?_;obtain⟨q,es,ep,hq,h2,h3,h4,_,h5⟩:=dd';refine Ac I (by rw[e];exact True.intro) hs ⟨q,hq⟩ ⟨hl,hd,_,(rel.put k eb rv).keeps fun c ys ec=>?_,q,es,ep,hq,h2,h3,h4,h5⟩;rw[JX (CH ec e (fun z=>nomatch z))];exact ec
end
def NoSl (i:Expr):Prop:=∀ov iv,subscripted i false ov iv=operate [ov,iv] (getItem ov iv)
def Oq {prog:Program}{w:World}{A:Around}{E:Value->Shared->Prop}{s:Shared}{env:Env}{value slice:Expr}{pos:Pos}{T id:String}{Q:Value->Shared->Prop}
  (hl:typeLookup (.type T) "__getitem__"=pure (some (.builtin id))) (hs:NoSl slice)
  (h:wpAny (model prog w) A (eval value env) (fun o s₁=>wpAny (model prog w) A (eval slice env) (fun i s₂=>s₂.TypeIs o T/\wpAny (model prog w) A (getItem o i) Q E s₂) E s₁) E s) :
  wpAny (model prog w) A (eval (.Subscript value slice pos) env) Q E s:=by
 refine Subscript_ (Wn h (fun o s₁ h₁=>Wn h₁ (fun i s₂ h₂=>?_) fun _ _ x=>x) fun _ _ x=>x);obtain⟨hT,h₂⟩:=h₂;unfold subscriptTail;refine Yo ?_;rw[getitemInPython_of_ne hT.not_modules];refine Yo (wpAny_specialOf hT hl ?_)
 have fin:wpAny (model prog w) A (subscripted slice false o i) (fun r s₃=>wpAny (model prog w) A (letTemporaryGo value o r >>= fun _=>pure r) Q E s₃) E s₂:=by
  rw[hs o i];exact wpAny_operating (Wn h₂ (fun r s₃ h₃=>Yo (wpAny_letTemporaryGo (Yt h₃))) fun _ _ x=>x)
 first
  | exact Yt (Yo fin)
  | exact Yo (Yt (Yo fin))
  | exact Yo fin
def Mi {X:Cx}{pins:List (Addr×Obj)}{σ:St}{H:Hp}{s:Shared}{a:Addr}{y:V}{o:Option V} (I:Inv X pins σ H s) (g:DGet H a y o):s.TypeIs (.ref a) "dict":=by
 rcases g with⟨kvs,k,e,_,_⟩|⟨kvs,k,b,e,_,_,_⟩
 ·obtain⟨_,_,vs,_,dd⟩:=Nt I.hok e;exact dd.typeIs
 ·obtain⟨_,_,xs,_,dd⟩:=Nr I.hok e;exact dd.typeIs
def DS (td ty:TE):TE:=fun σ H Q=>td σ H fun x H1=>ty σ H1 fun y H2=>∃a v,x=.ref a/\DGet H2 a y (some v)/\Q v H2
def Dv (ty td:TE):TE:=fun σ H Q=>ty σ H fun y H1=>td σ H1 fun x H2=>∃a o,x=.ref a/\DGet H2 a y o/\Q (.bl (!o.isSome)) H2
def Dc (td ty tv:TE):TS:=fun D σ H=>tv σ H fun v H1=>td σ H1 fun x H2=>ty σ H2 fun y H3=>∃a H4,x=.ref a/\DPut H3 a y v H4/\D.nx σ H4
section
variable {X:Cx}{o i e value:Expr}{pos pos' tpos:Pos}{td ty tv:TE}
def Ti (hu:X.A.units+1<cLine) (ho:PE X o td) (hi:PE X i ty) (hs:NoSl i):PE X (.Subscript o i pos) (DS td ty):=by
 intro pins s σ H Q I h;refine Oq PySem.F.slot_dict_getitem.lookup hs (thn (ho pins s σ H _ I h) fun u s1 ⟨x,H1,I1,rx,q1⟩=>thn (hi pins s1 σ H1 _ I1 q1) fun iv s2 ⟨y,H2,I2,ry,a,v,ex,g,q2⟩=>?_);subst ex;obtain rfl:u=Value.ref a:=rx;exact⟨Mi I2 g,Oo hu I2 g ry fun w' s3 I3 rw'=>⟨v,H2,I3,rw',q2⟩⟩
def RX (hu:X.A.units+1<cLine) (hi:PE X i ty) (ho:PE X o td):PC X .NotIn i o (Dv ty td):=by
 intro pins s σ H Q I h;refine thn (hi pins s σ H _ I h) fun iv s1 ⟨y,H1,I1,ry,q1⟩=>thn (ho pins s1 σ H1 _ I1 q1) fun u s2 ⟨x,H2,I2,rx,a,ov,ex,g,q2⟩=>?_;subst ex;obtain rfl:u=Value.ref a:=rx;exact Zd8 hu I2 g ry fun s3 I3=>⟨.bl (!ov.isSome),H2,I3,rfl,q2⟩
def BH (hu:X.A.units+1<cLine) (ho:PE X o td) (hi:PE X i ty) (hv:PE X value tv) (hs:swapsWith value (some (.Subscript o i pos')) pos.line X.env=pure false) :
  PS X (.Assign [.Subscript o i pos'] value pos) (Dc td ty tv):=by
 intro pins s σ H D I h;refine wpAny_Assign_Subscript (thn (hv pins s σ H _ I h) fun r s1 ⟨v,H1,I1,rv,q1⟩=>thn (ho pins s1 σ H1 _ I1 q1) fun u s2 ⟨x,H2,I2,rx,q2⟩=>thn (hi pins s2 σ H2 _ I2 q2) fun iv s3 ⟨y,H3,I3,ry,a,H4,ex,g,q3⟩=>?_) hs;subst ex;obtain rfl:u=Value.ref a:=rx;exact Zeb hu I3 g ry rv fun s4 I4=>⟨σ,H4,I4,q3⟩
end
def MV {P:Program}{w:World}{H:Hp} (h:Heap) (hb:sysModules<h.objs.size):ObjOk P w H (h.push { cls:=.type "dict",data:=.dict #[] }) h.objs.size (.dK []):=
 ⟨Wz _,WC.mpr (Ne.symm (YK hb)),[],.nil,Heap.DictOf.new h⟩
def Gc {P:Program}{w:World}{H:Hp} (h:Heap) (hb:sysModules<h.objs.size):ObjOk P w H (h.push { cls:=.type "dict",data:=.dict #[] }) h.objs.size (.dT []):=
 ⟨Wz _,WC.mpr (Ne.symm (YK hb)),[],.nil,_,#[],0,Y7 _ rfl,⟨rfl,rfl,rfl⟩,rfl,rfl,Qe⟩
def CS:TE:=fun _ H Q=>∀p,H p=none->Q (.ref p) (upd H p (.dK []))
def Er:TE:=fun _ H Q=>∀p,H p=none->Q (.ref p) (upd H p (.dT []))
section
variable {X:Cx}{pos:Pos}
def LN:PE X (.Dict [] [] pos) CS:=fun pins s σ H Q I h=>
 wpAny_Dict_empty ⟨.ref s.heap.objs.size,_,I.laid (a:=s.heap.objs.size) (o:=.dK []) (t':=s.toks) (fun _ _ q=>Yu _ q) (Yx _) (MV s.heap I.big),rfl,h _ (I.hok.fresh (Yx _))⟩
def Zcn:PE X (.Dict [] [] pos) Er:=fun pins s σ H Q I h=>
 wpAny_Dict_empty ⟨.ref s.heap.objs.size,_,I.laid (a:=s.heap.objs.size) (o:=.dT []) (t':=s.toks) (fun _ _ q=>Yu _ q) (Yx _) (Gc s.heap I.big),rfl,h _ (I.hok.fresh (Yx _))⟩
end
def AC:List (TE×TE)->St->Hp->(List (V×V)->Hp->Prop)->Prop
 | [],_,H,Q=>Q [] H
 | (tk,tv)::r,σ,H,Q=>tk σ H fun x H1=>tv σ H1 fun y H2=>AC r σ H2 fun ps H3=>Q ((x,y)::ps) H3
abbrev VV:List (V×V)->List (Value×Value)->Prop:=Paired fun p q=>RelV p.1 q.1/\RelV p.2 q.2
def PPs (X:Cx) (pos:Pos) (keys:List (Option Expr)) (values:List Expr) (trs:List (TE×TE)):Prop:=
 ∀(pins:List (Addr×Obj)) (s:Shared) (σ:St) (H:Hp) (Q:List (V×V)->Hp->Prop),Inv X pins σ H s->AC trs σ H Q->
  wpAny (model X.prog X.w) X.A (evalPairs (pairTrees keys values X.env pos)) (fun vs s'=>∃ps H',Inv X pins σ H' s'/\VV ps vs/\Q ps H') X.xe s
def Zbe {X:Cx}{pos:Pos}:PPs X pos [] [] []:=fun pins s σ H Q I h=>pairTrees_nil_walk ⟨[],H,I,.nil,h⟩
def IF {X:Cx}{pos:Pos}{k v:Expr}{ks:List (Option Expr)}{vs:List Expr}{tk tv:TE}{trs:List (TE×TE)} (hk:PE X k tk) (hv:PE X v tv) (hr:PPs X pos ks vs trs) :
  PPs X pos (some k::ks) (v::vs) ((tk,tv)::trs):=fun pins s σ H Q I h=>
 pairTrees_cons_walk (thn (hk pins s σ H _ I h) fun u s1 ⟨x,H1,I1,rx,q1⟩=>thn (hv pins s1 σ H1 _ I1 q1) fun w2 s2 ⟨y,H2,I2,ry,q2⟩=>
  thn (hr pins s2 σ H2 _ I2 q2) fun ws s3 ⟨ps,H3,I3,rel,q3⟩=>⟨(x,y)::ps,H3,I3,.cons ⟨rx,ry⟩ rel,q3⟩)
end L2
set_option genInjectivity false
set_option genSizeOfSpec false
namespace Own
open PySem PySem.Spec PyProof.Rows L2
structure Def (K:Za) (mg:Str->Option Value) (x:Str) (st:Stmt) (ps:List Str):Prop where
 ex:∃f fd,Fun K x x st f fd/\mg x=some (.ref f)/\Binds K fd ps []
structure Callee (P:Program) (w:World) (K:Za) (mg:Str->Option Value) (base:Heap) (CX:CXT) (k:Nat) (x:Str) (ps:List Str) (sp:Sp):Prop where
 ex:∃f fd,FnOk P w K mg base CX k f fd ps sp/\mg x=some (.ref f)/\PySem.W.keepIn K (.ref f)=true/\(∃o:Obj,K.lookup f=some o/\o.data=.func fd)/\Binds K fd ps []
section
variable {P:Program}{w:World}{K:Za}{mg:Str->Option Value}{base:Heap}
def Callee.at {CX:CXT}{x:Str}{st:Stmt}{f:Addr}{fd:FuncData}{k:Nat}{ps:List Str}{sp:Sp} (C:Callee P w K mg base CX k x ps sp) (hm:mg x=some (.ref f)) (F:Fun K x x st f fd) (_:Def K mg x st ps):FnOk P w K mg base CX k f fd ps sp:=by
 obtain⟨f',fd',Fo,hm',_,hl,_⟩:=C.ex;rw[hm] at hm';cases hm'
 obtain⟨oc,od,kV,doc,pm,an,cdv,ct,osl,_,lk,_⟩:=F.ex;obtain⟨o',lk',hd'⟩:=hl;rw[lk] at lk';cases lk'
 cases hd'
 exact Fo
def Def.ok {x:Str}{st:Stmt}{N ps:List Str}{k:Nat}{sp:Sp} (D:Def K mg x st ps) (S:FnScope N ps (JD st)) (len:∀vs H Q E,sp vs H Q E->vs.length=ps.length)
  (hbody:∀(f:Addr) (cdv:Value) (A:Around) (outer:List Env) (s:Shared) (H:Hp) (vs:List V) (Q:VK) (E:XK),Room k (A.deeper (envOfC x (JD st) s.heap.objs.size f cdv))->sp vs H Q E->
   ∃t,PSs (cxOf CX0 P w K mg base N x (JD st) f cdv A outer s H E).nox (UQ st) t/\t { nx:=fun _ H'=>Q .non H',rt:=Q } (start N vs) H):Callee P w K mg base CX0 (k+1) x ps sp:=by
 obtain⟨f,fd,F,hm,hb⟩:=D.ex;refine⟨f,fd,F.ok S len fun cdv A outer s H vs Q E hr h=>hbody f cdv A outer s H vs Q E hr h,hm,F.kp,?_,hb⟩;obtain⟨oc,od,kV,doc,pm,an,cdv,ct,osl,_,lk,_⟩:=F.ex;exact⟨_,lk,rfl⟩
end
section
variable {X:Cx}{CX:CXT}{k:Nat}{ps:List Str}{sp:Sp}{E:XK}{x:Str}{p pos:Pos}{e:Expr}{es:List Expr}{t:TA}
def Xa (C:Callee X.prog X.w X.K X.mg X.base CX k x ps sp) (hr:Room k X.A) (hx:X4 CX X E) (ha:PA X (e::es) t) (hg:Gl X x:=by rfl)
  (hdb:(x==("__debug__" : Str))=false:=by decide) (he:starEach (e::es) X.env=(false,eval e X.env)::starEach es X.env:=by rfl) (hpl:(backTo pos (starEach es X.env)).any (·.1)=false:=by rfl) :
  PE X (.Call (.Name x p) (e::es) [] pos) (KC sp [] E t):=by
 obtain⟨f,fd,F,hm,hk,_,hb⟩:=C.ex;exact Og F hr hg hm hk hb .nil hx ha hdb he hpl
def Ly:UB X (.builtin "isinstance") (fun xs H Q=>∃x n t b,xs=[x,.ty n]/\TyOf X.K H x t/\PySem.W.kitOne X.K t (.type n)=some b/\Q (.bl b) H):=by
 intro pins s σ H xs us Q I rv h;obtain⟨x,n,t,b,rfl,ty,e,q⟩:=h;cases rv with
 | cons r rr=>
  cases rr with
  | cons r' rr'=>
   cases rr'
   obtain rfl:_=Value.type n:=r';exact LY I r ty e fun tk=>⟨.bl b,H,I.tok tk,rfl,q⟩
def Iq:IxR X (fun x y H Q=>rIxL X.K x y H Q\/rIxT X.K x y H Q):=ix_list.or Ip
end
def E2 (t u:TS):TS:=fun D σ H=>∃J:L2.St->Hp->Prop,t { D with nx:=J } σ H/\∀σ' H',J σ' H'->u D σ' H'
def KO {X:Cx}{st:Stmt}{rest:List Stmt}{t u:TS} (h1:PS X st t) (h2:PSs X rest u):PSs X (st::rest) (E2 t u):=by
 intro pins s σ H D I h;obtain⟨J,h,k⟩:=h;refine wpAny_execs_cons (thn (h1 pins s σ H { D with nx:=J } I h) fun f s1 q=>?_)
 cases f with
 | next=>
  obtain⟨σ',H',I',q⟩:=q;exact h2 pins s1 σ' H' D I' (k σ' H' q)
 | ret v=>exact q
 | brk=>exact q
 | cont=>exact q
def O3 (K:Za) (n:String):PySem.W.kitOne K (.type n) (.type n)=some true:=by
 unfold PySem.W.kitOne;rw[Ys (by simp)]
def Kw {α β:Type}{f:α->β}{xs:List α}{i:Int}{v:α} (h:atI xs i=some v):atI (xs.map f) i=some (f v):=by
 unfold atI at h ⊢;rw[Yn];cases e:ixN xs.length i with
 | none=>rw[e] at h;cases h
 | some j=>
  rw[e] at h;have h':xs[j]?=some v:=h;show(xs.map f)[j]?=some (f v);rw[Y0,h'];rfl
def Na {α:Type}{xs:List α}{i:Int}{v:α} (h0:0<=i) (h:xs[i.toNat]?=some v):atI xs i=some v:=by
 have e:((i.toNat:Nat):Int)=i:=by omega
 have:=Tx h
 rwa[e] at this
def U9 {H:Hp}{a:Addr}{o:HO} (h:H a=none):Same H (upd H a o):=fun b u e=>by rw[JX (X2 e h)];exact e
def Same.upd {H H':Hp}{a:Addr}{o:HO} (S:Same H H') (h:H a=none):Same H (upd H' a o):=fun b u e=>by rw[JX (X2 e h)];exact S b u e
def Same.new {H H':Hp}{a:Addr}{o:HO} (S:Same H H') (h:H' a=none):Same H (L2.upd H' a o):=Own.Same.upd S (S.free h)
def RZ {env:Env} (names:List (Str×NameKind)) (hall:∀x∈names,x.2=.free->∃c,env.cells.lookup x.1=some c):∀cs0:List (Str×Addr),(∀x c,cs0.lookup x=some c->env.cells.lookup x=some c)->
  ∃cl:List (Str×Addr),(forIn names cs0 (fun(x:Str×NameKind) (cs:List (Str×Addr))=>if (x.2 == .free)=true then(do let c ←cellOf env x.1;pure (ForInStep.yield ((x.1,c)::cs))) else pure (ForInStep.yield cs)):Sem (List (Str×Addr)))=pure cl/\
   (∀x c,cl.lookup x=some c->env.cells.lookup x=some c)/\(∀x,(∃c,cs0.lookup x=some c)->∃c,cl.lookup x=some c)/\∀x∈names,x.2=.free->∃c,cl.lookup x.1=some c:=by
 induction names with
 | nil=>
  intro cs0 h0;exact⟨cs0,rfl,h0,fun _ h=>h,fun x hx=>by cases hx⟩
 | cons y r ih=>
  intro cs0 h0;have ih':=ih fun x hx=>hall x (YG _ hx);obtain⟨n,k⟩:=y;by_cases hk:k=.free
  ·subst hk;obtain⟨c,hc⟩:=hall (n,.free) YM rfl
   have h1:∀x d,List.lookup x ((n,c)::cs0)=some d->env.cells.lookup x=some d:=fun x d e=>by
    rw[Ww] at e;by_cases hx:x=n
    ·subst hx;simp at e;subst e;exact hc
    ·have:(x==n)=false:=by simpa using hx
     rw[this] at e;exact h0 x d e
   obtain⟨cl,e,p1,p2,p3⟩:=ih' ((n,c)::cs0) h1;refine⟨cl,?_,p1,fun x hx=>p2 x ?_,fun x hx hf=>?_⟩
   ·rw[QW];show((if (NameKind.free==NameKind.free)=true then(do let c ←cellOf env n;pure (ForInStep.yield ((n,c)::cs0))) else pure (ForInStep.yield cs0)) >>= _)=_
    rw[Ys (show(NameKind.free==NameKind.free)=true by decide)];have ec:cellOf env n=pure c:=by unfold cellOf;rw[hc]
    rw[ec];exact e
   ·rw[Ww];cases (x==n)
    ·exact hx
    ·exact⟨c,rfl⟩
   ·rcases Y4.mp hx with rfl|hx
    ·exact p2 n ⟨c,by simp[Ww]⟩
    ·exact p3 x hx hf
  ·obtain⟨cl,e,p1,p2,p3⟩:=ih' cs0 h0;refine⟨cl,?_,p1,p2,fun x hx hf=>?_⟩
   ·rw[QW];have hb:(k==NameKind.free)=false:=by simpa using hk
    show((if (k==NameKind.free)=true then(do let c ←cellOf env n;pure (ForInStep.yield ((n,c)::cs0))) else pure (ForInStep.yield cs0)) >>= _)=_
    rw[Yq (by rw[hb];decide)];exact e
   ·rcases Y4.mp hx with rfl|hx
    ·exact absurd hf hk
    ·exact p3 x hx hf
def Zct {env:Env}{sc:Scope} (hall:∀x∈sc.names,x.2=.free->∃c,env.cells.lookup x.1=some c) :
  ∃cl:List (Str×Addr),closureFor sc env=pure cl/\(∀x c,cl.lookup x=some c->env.cells.lookup x=some c)/\∀x∈sc.names,x.2=.free->∃c,cl.lookup x.1=some c:=by
 obtain⟨cl,e,p1,_,p3⟩:=RZ sc.names hall [] (fun x c h=>by cases h);refine⟨cl,?_,p1,p3⟩;unfold closureFor;show((forIn sc.names ([]:List (Str×Addr)) (fun(x:Str×NameKind) (cs:List (Str×Addr))=>if (x.2 == .free)=true then(do let c ←cellOf env x.1;pure (ForInStep.yield ((x.1,c)::cs))) else pure (ForInStep.yield cs)):Sem (List (Str×Addr))) >>= fun cs=>pure cs)=pure cl
 rw[e];rfl
def UW (X:Cx) (N':List Str) (sc:Scope) (cl:List (Str×Addr)) (C:Addr) (s₃:Shared) (H₃:Hp) (ex:List Addr):Cx:=
 { X with N:=N',s₀:=s₃,H₀:=H₃,env:=compEnvC sc cl C X.env,outer:=X.stack,ex:=ex,fn:=fun _=>false,pn:=[],xe:=fun _ _=>False }
structure CompOk (X:Cx) (N':List Str) (φ:List (Option Nat)) (sc:Scope):Prop where
 kind:sc.kind=.function
 okind:X.env.scope.kind=.function
 nocell:∀y∈sc.names,y.2≠.cell
 names:∀y∈sc.names,y.2=.local->sc.names.lookup y.1=some .local
 frees:∀y∈sc.names,y.2=.free->X.env.scope.names.lookup y.1=some .cell
 len:φ.length=N'.length
 pick:∀(i:Nat) (x:Str) (j:Nat),N'[i]?=some x->φ[i]?=some (some j)->X.N[j]?=some x/\sc.names.lookup x=some .free
def atStart (φ:List (Option Nat)) (σ:L2.St):L2.St:=φ.map fun o=>o.bind fun j=>(σ[j]?).join
def Sub (σ σ':L2.St):Prop:=σ'.length=σ.length/\∀(i:Nat) (v:V),σ[i]?=some (some v)->σ'[i]?=some (some v)
def Sub.refl {σ:L2.St}:Sub σ σ:=⟨rfl,fun _ _ h=>h⟩
def Sub.skip {σ σ':L2.St}{x:Option V} (h:Sub σ σ'):Sub (none::σ) (x::σ'):=by
 refine⟨by simp[h.1],fun i v e=>?_⟩;cases i with
 | zero=>simp at e
 | succ i=>simp at e ⊢;exact h.2 i v e
def Hk {env:Env} (hk:env.scope.kind=.function):∀{names:List (Str×NameKind)}{x:Str},names.lookup x=some .free->env.scope.names.lookup x=some .cell->
  (names.map fun(n,k)=>if (k==NameKind.free&&env.scope.kind == .function&&env.kindOf n==some .cell) then(n,NameKind.cell) else(n,k)).lookup x=some .cell
 | [],_,h,_=>by simp at h
 | (n,k)::r,x,h,hc=>by
  have ih:=@Hk env hk r x;show List.lookup x ((if (k==NameKind.free&&env.scope.kind == .function&&env.kindOf n==some .cell)=true then(n,NameKind.cell) else(n,k))::_)=_;cases hx:x==n with
  | true=>
   simp only[Ww,hx] at h;cases h
   have e:x=n:=by simpa using hx
   subst e;have hkk:env.kindOf x=some .cell:=hc;rw[hk,hkk];simp[Ww]
  | false=>
   simp only[Ww,hx] at h;by_cases hcc:(k==NameKind.free&&env.scope.kind == .function&&env.kindOf n==some .cell)=true
   ·rw[Ys hcc];simp only[Ww,hx];exact ih h hc
   ·rw[Yq hcc];simp only[Ww,hx];exact ih h hc
def Sw {env:Env}:∀{names:List (Str×NameKind)}{x:Str}{q:NameKind},
  (names.map fun(n,k)=>if (k==NameKind.free&&env.scope.kind == .function&&env.kindOf n==some .cell) then(n,NameKind.cell) else(n,k)).lookup x=some q->∃k,(x,k)∈names/\(q=k\/k=.free)
 | [],_,_,h=>by simp at h
 | (n,k)::r,x,q,h=>by
  have ih:=@Sw env r x q;have h':List.lookup x ((if (k==NameKind.free&&env.scope.kind == .function&&env.kindOf n==some .cell)=true then(n,NameKind.cell) else(n,k))::(r.map fun(n,k)=>if (k==NameKind.free&&env.scope.kind == .function&&env.kindOf n==some .cell) then(n,NameKind.cell) else(n,k)))=some q:=h;cases hx:x==n with
  | true=>
   have e:x=n:=by simpa using hx
   subst e;by_cases hcc:(k==NameKind.free&&env.scope.kind == .function&&env.kindOf x==some .cell)=true
   ·refine⟨k,YM,.inr ?_⟩
    have:=(Wp _ _▸(Wp _ _▸hcc).1).1
    simpa using this
   ·rw[Yq hcc] at h';simp[Ww] at h';exact⟨k,YM,.inl h'.symm⟩
  | false=>
   have h2:List.lookup x (r.map fun(n,k)=>if (k==NameKind.free&&env.scope.kind == .function&&env.kindOf n==some .cell) then(n,NameKind.cell) else(n,k))=some q:=by
    by_cases hcc:(k==NameKind.free&&env.scope.kind == .function&&env.kindOf n==some .cell)=true
    ·rw[Ys hcc] at h';simp only[Ww,hx] at h';exact h'
    ·rw[Yq hcc] at h';simp only[Ww,hx] at h';exact h'
   obtain⟨k',hm,hq⟩:=ih h2;exact⟨k',YG _ hm,hq⟩
def IG {prog:Program}{w:World}{A:Around}{R:Result->Shared->Prop}{s:Shared}{elt target iter:Expr}{ifs:List Expr}{scope:Scope}{pos:Pos}{it acc:Value}{env:Env} (I:Nat->Shared->Prop)
  (turn:∀n s,I n s->wpAny (model prog w) A (pyNext it) (fun r s₁=>match r with
   | none=>R (.ok .next) s₁
   | some v=>wpAny (model prog w) A (letOwnedTupleGo target it v) (fun _ s₁'=>wpAny (model prog w) A (assign target env v) (fun _ s₂=>
     wpAny (model prog w) A (forIn ifs true fun c r=>if r=true then do let ok ←isTrue c env (eval c env);pure (ForInStep.yield ok) else pure (ForInStep.yield r)) (fun ok s₃=>
      if ok=true then wpAny (model prog w) A (eval elt env) (fun x s₄=>
       wpAny (model prog w) A (call (.builtin "list.append") [acc,x]) (fun _ s₅=>∃m,m<n/\I m s₅) (fun _ _=>False) s₄) (fun _ _=>False) s₃
      else ∃m,m<n/\I m s₃) (fun _ _=>False) s₂) (fun _ _=>False) s₁') (fun _ _=>False) s₁) (fun _ _=>False) s)
  (n:Nat) (h:I n s) :
  codeAny (model prog w) A (.compLoop (.ListComp elt [⟨target,iter,ifs,0⟩] scope pos) 0 it acc env) R s:=by
 refine codeAny_loop rfl I (fun n s hI=>?_) n h;show wpAny _ A ((compTurn (.ListComp elt [⟨target,iter,ifs,0⟩] scope pos) 0 it acc env).onRaise (fun x=>do noteFrame x env;theTreesLotGoes x)) _ _ s
 refine wpAny_noted ?_;rw[compTurn_list];refine Yo (wpAny_standAt (Yo (Wn (turn n s hI) (fun r s₁ h₁=>?_) fun _ _ h'=>h'.elim)));cases r with
 | none=>exact Yt h₁
 | some v=>
  refine Yo (Wn h₁ (fun _ s₁' h₁'=>?_) fun _ _ h'=>h'.elim);refine Yo (Wn h₁' (fun _ s₂ h₂=>Yo (Wn h₂ (fun ok s₃ h₃=>?_) fun _ _ h'=>h'.elim)) fun _ _ h'=>h'.elim);cases ok with
  | false=>exact Yt ⟨rfl,h₃⟩
  | true=>
   exact Yo (Yo (Wn h₃ (fun x s₄ h₄=>Yo (Wn h₄ (fun _ s₅ h₅=>Yt (Yt ⟨rfl,h₅⟩)) fun _ _ h'=>h'.elim)) fun _ _ h'=>h'.elim))
def PIfs (X:Cx) (ifs:List Expr) (t:TT):Prop:=
 ∀(pins:List (Addr×Obj)) (s:Shared) (σ:L2.St) (H:Hp) (Q:Bool->Hp->Prop),Inv X pins σ H s->t σ H Q->
  wpAny (model X.prog X.w) X.A (forIn ifs true fun c r=>if r=true then do let ok ←isTrue c X.env (eval c X.env);pure (ForInStep.yield ok) else pure (ForInStep.yield r)) (TP X pins σ Q) X.xe s
def G4:TT:=fun _ H Q=>Q true H
def X0 {X:Cx}:PIfs X [] G4:=fun _ _ _ H _ I h=>Yt ⟨H,I,h⟩
def XG {X:Cx}{c:Expr}{t:TT} (hc:PT X c t):PIfs X [c] t:=by
 intro pins s σ H Q I h;rw[QW];refine Yo ?_;rw[Ys rfl];exact Yo (thn (hc pins s σ H Q I h) fun b s1 q=>Yt (Yt q))
def ND (φ:List (Option Nat)) (wi:TI) (g:TG) (tc:TT) (te:TE):TE:=fun σ H Q=>wi σ H fun J H1=>∀D,H1 D=none->∃W:Nat->Nat->List V->Hp->Prop,(∃m,W 0 m [] (upd H1 D (.lst [])))/\
 ∀i m ys H2,W i m ys H2->(J.stop i H2/\Q (.ref D) H2)\/(J.go i H2/\∀x H3,J.yld i H2 x H3->g x (atStart φ σ) H3 fun σ2 H4=>Sub (atStart φ σ) σ2/\tc σ2 H4 fun b H5=>
  if b=true then te σ2 H5 fun y H6=>H6 D=some (.lst ys)/\ys.length<sizeLine/\∃m',m'<m/\W (i+1) m' (ys++[y]) (upd H6 D (.lst (ys++[y]))) else ∃m',m'<m/\W (i+1) m' ys H5)
def Inv.weak {X:Cx}{pins:List (Addr×Obj)}{σ σ':L2.St}{H:Hp}{s:Shared} (I:Inv X pins σ' H s) (S:Sub σ σ'):Inv X pins σ H s:=
 ⟨I.ok,I.os,I.bare,I.base,let ⟨m,hn,hl⟩:=I.loc;⟨m,hn,fun i x v h1 h2 h3=>hl i x v h1 (S.2 i v h2) h3⟩,I.cell,I.free,I.freeC,I.pin,I.hok,by rw[←S.1];exact I.len⟩
def Ax {φ:List (Option Nat)}{σ:L2.St}{i:Nat}{v:V} (h:(atStart φ σ)[i]?=some (some v)):∃j,φ[i]?=some (some j)/\σ[j]?=some (some v):=by
 unfold atStart at h;rw[Y0] at h;cases e:φ[i]? with
 | none=>rw[e] at h;cases h
 | some o=>
  rw[e] at h;cases o with
  | none=>simp at h
  | some j=>
   refine⟨j,rfl,?_⟩;simp at h;cases e2:σ[j]? with
   | none=>rw[e2] at h;simp at h
   | some w=>rw[e2] at h;simp at h;rw[h]
def CompEnd (X:Cx) (pins:List (Addr×Obj)) (σ:L2.St) (Q:VK) (use:Option (Value->Sem Unit)) (QQ:Value->Shared->Prop):Prop:=
 ∀(D C:Addr) (H5:Hp) (s6:Shared),Q (.ref D) H5->Inv X pins σ H5 s6->(∃m,s6.heap.Ns C m)->H5 C=none->C≠X.env.locals->X.s₀.heap.objs.size<=C->(∀x c,X.env.cells.lookup x=some c->c≠C)->(∀p∈X.pn++pins,p.1≠C)->C∉X.fs->
  compPost (model X.prog X.w) X.A X.xe use QQ (.ref D) C (.ok .next) s6
def Cf {X:Cx}{N':List Str}{φ:List (Option Nat)}{sc:Scope}{elt iter tg:Expr}{ifs:List Expr}{pos pos':Pos}{wi:TI}{g:TG}{tc:TT}{te:TE}{use:Option (Value->Sem Unit)}{QQ:Value->Shared->Prop} (hcalm:X.calm=true) (S:CompOk X N' φ sc) (hi:PI X tg iter wi)
  (hin:∀cl C s₃ H₃ ex,PG (UW X N' sc cl C s₃ H₃ ex) tg g/\PIfs (UW X N' sc cl C s₃ H₃ ex) ifs tc/\PE (UW X N' sc cl C s₃ H₃ ex) elt te) (hs:∀x,foldedSetIterable iter X.env x=pure x)
  {pins:List (Addr×Obj)} {s:Shared} {σ:L2.St} {H:Hp} {Q:VK} (I:Inv X pins σ H s) (h:ND φ wi g tc te σ H Q) (fin:CompEnd X pins σ Q use QQ) :
  wpAny (model X.prog X.w) X.A (comprehension (.ListComp elt [⟨tg,iter,ifs,0⟩] sc pos) sc X.env pos' (newList []) false (eval iter X.env) use) QQ X.xe s:=by
 obtain⟨cl,hcl,p1,p3⟩:=Zct (env:=X.env) (sc:=sc) fun x hx hf=>I.ok.has x.1 (.inl (S.frees x hx hf));refine wpAny_comprehension_free (use:=use) rfl hs hcl S.kind S.names ?_;refine thn (hi pins s σ H _ I h) fun v s1 h1=>thn h1 fun itv s2 h2=>?_;obtain⟨it,fp,tn,J,H2,e,I2,T,st2,f2,hR⟩:=h2;subst e;refine Wl ?_;have hf:H2 s2.heap.objs.size=none:=I2.hok.fresh (Yx _);obtain⟨W,⟨m0,w0⟩,turn⟩:=hR s2.heap.objs.size hf;generalize eD:s2.heap.objs.size=D at *
 have I3:Inv X pins σ (upd H2 D (.lst [])) { s2 with heap:=s2.heap.push { cls:=.type "list",dict:=none,data:=.seq ([]:List Value).toArray } }:=
  I2.laid (t':=s2.toks) (fun b u e=>Yu _ e) (WJ eD) ⟨Wz _,[],0,.nil,by rw[←eD];exact Y7 _ rfl⟩
 have st3:tn 0 (s2.heap.push { cls:=.type "list",dict:=none,data:=.seq ([]:List Value).toArray }):=T.keep _ _ _ st2 fun b _ o e=>Yu _ e
 have hfpD:∀b∈fp,b≠D:=fun b hb z=>by
  obtain⟨o,ho,_⟩:=T.obj _ _ st2 b hb
  have:=Y3 ho
  rw[z,←eD] at this;exact W8 _ this
 have f3:∀b∈fp,FpOk X pins (upd H2 D (.lst [])) b:=fun b hb=>⟨by rw[JX (hfpD b hb)];exact(f2 b hb).1,(f2 b hb).2⟩;generalize es3:({ s2 with heap:=s2.heap.push { cls:=.type "list",dict:=none,data:=.seq ([]:List Value).toArray } }:Shared)=s3 at *
 have st3':tn 0 s3.heap:=by rw[←es3];exact st3
 generalize eH3:upd H2 D (.lst [])=H3 at *;refine wpAny_newFunctionEnv S.nocell (by intro y hy;simp at hy) (fun h₁ hns₁ hsb₁=>?_) S.kind;have hh3:s3.heap=s2.heap.push { cls:=.type "list",dict:=none,data:=.seq ([]:List Value).toArray }:=by rw[←es3]
 rw[hh3] at hns₁ hsb₁;rw[←hh3] at hns₁ hsb₁;have old:∀b o,s3.heap.get? b=some o->h₁.get? b=some o:=fun b o e=>hsb₁.extBut b o (YK (Y3 e)) (Yu _ e)
 have hC0:s3.heap.get? s3.heap.objs.size=none:=by
  cases e:s3.heap.get? s3.heap.objs.size with
  | none=>rfl
  | some o=>exact absurd (Y3 e) (W8 _)
 generalize eC:s3.heap.objs.size=C at *;have hH3C:H3 C=none:=I3.hok.fresh (WJ eC)
 have OK:(UW X N' sc cl C s3 H3 fp).Ok:=by
  refine⟨I.ok.mod,?_,I.ok.glob,I.ok.blt,WJ eC,fun x y c h1 h2=>I.ok.inj x y c (p1 x c h1) (p1 y c h2),?_,(fun x c hx=>by cases hx),I.ok.hd,I.ok.frames,.inl rfl,?_,I3.bs,Y8 I.ok.bsz I3.sz,?_,?_,I3.stack,I3.stkFree⟩
  ·exact S.kind
  ·intro x hx;have hx':(∃k,(x,k)∈sc.names/\(NameKind.cell=k\/k=.free))\/∃k,(x,k)∈sc.names/\(NameKind.free=k\/k=.free):=hx.imp Sw Sw
   have hfr:(x,NameKind.free)∈sc.names:=by
    rcases hx' with⟨k,hm,rfl|rfl⟩|⟨k,hm,rfl|rfl⟩
    ·exact absurd rfl (S.nocell _ hm)
    ·exact hm
    ·exact hm
    ·exact hm
   exact p3 _ hfr rfl
  ·intro b hb;refine⟨fun z=>?_,fun x c hx=>(f3 b hb).2.2.2.2.1 x c (p1 x c hx)⟩;obtain⟨o,ho,_⟩:=T.obj _ _ st3' b hb;have z':b=C:=z;rw[z',hC0] at ho;cases ho
  ·intro b o hb hx;obtain⟨_,_,_,q,_,_⟩:=f3 b hx;rcases q with q|q
   ·exact I.ok.noex b o hb q
   ·have:=YT (Y3 hb) (Y8 I.ok.bsz q)
    exact W8 _ this
  ·intro b hb hz;rcases Y4.mp (I.stkSub b hz) with q|q
   ·exact(f3 b hb).2.1 q
   ·exact(f3 b hb).2.2.1 q
 have hlen0:(atStart φ σ).length=N'.length:=by unfold atStart;rw[Yn];exact S.len
 have I4:Inv (UW X N' sc cl C s3 H3 fp) [] (atStart φ σ) H3 { s3 with heap:=h₁,toks:=s3.toks+([]:List (Str×Value)).length }:=by
  refine⟨OK,rfl,I3.bare,Un.kept old,⟨_,hns₁,fun i x v h1 h2 h3=>?_⟩,fun x c hx=>?_,hH3C,fun x c hx=>I3.freeC x c (p1 x c hx),fun p hp=>?_,I3.hok.kept old,hlen0⟩
  ·obtain⟨j,hj,hv⟩:=Ax h2;obtain⟨hN,hfr⟩:=S.pick i x j h1 hj;obtain⟨m,_,hl⟩:=I3.loc;have hm:(x,NameKind.free)∈sc.names:=WO hfr;have hcell:=S.frees _ hm rfl;obtain⟨u,ru,lk⟩:=hl j x v hN hv (.inr (.inl hcell));refine⟨u,ru,.inr ⟨.inl (Hk S.okind hfr hcell),?_⟩⟩;obtain⟨c,hc⟩:=p3 _ hm rfl;rcases lk with⟨hk,_⟩|⟨_,c',hc',hcl'⟩
   ·have hk':X.env.scope.names.lookup x=some .local:=hk;rw[hcell] at hk';cases hk'
   ·have e:=p1 _ _ hc;rw[hc'] at e;cases e
    obtain⟨o,ho,hd⟩:=hcl';exact⟨_,hc,o,old _ o ho,hd⟩
  ·obtain⟨v,hv⟩:=I3.cell x c (p1 x c hx);obtain⟨o,ho,hd⟩:=hv;exact⟨v,o,old _ o ho,hd⟩
  ·exact absurd hp (by simp[UW])
 have st4:tn 0 h₁:=T.keep _ _ _ st3' fun b _ o e=>old b o e
 have stat:∀{H':Hp},(∀b∈fp,H' b=none)->∀b∈fp,FpOk (UW X N' sc cl C s3 H3 fp) [] H' b:=fun hn b hb=>
  ⟨hn b hb,(OK.exf b hb).1,OK.exfs b hb,.inl hb,(OK.exf b hb).2,fun p hp=>absurd hp (by simp[UW])⟩
 obtain⟨hPG,hPI,hPE⟩:=hin cl C s3 H3 fp
 have loop:codeAny (model X.prog X.w) X.A (.compLoop (.ListComp elt [⟨tg,iter,ifs,0⟩] sc pos) 0 (.ref it) (.ref D) (compEnvC sc cl C X.env)) (compPost (model X.prog X.w) X.A X.xe use QQ (.ref D) C) { s3 with heap:=h₁,toks:=s3.toks+([]:List (Str×Value)).length }:=by
  refine IG (fun n s'=>∃i ys σ' H',Inv (UW X N' sc cl C s3 H3 fp) [] σ' H' s'/\Sub (atStart φ σ) σ'/\tn i s'.heap/\(∀b∈fp,H' b=none)/\W i n ys H') ?_ m0 ⟨0,[],_,_,I4,Sub.refl,st4,fun b hb=>(f3 b hb).1,w0⟩;rintro n s5 ⟨i,ys,σ5,H5,I5,sub5,st5,fr5,w5⟩;have I5':=Own.Inv.weak I5 sub5;rcases turn i n ys H5 w5 with⟨stop,qn⟩|⟨go,step⟩
  ·refine thn (T.done (UW X N' sc cl C s3 H3 fp) rfl rfl rfl hcalm i [] s5 _ H5 _ I5' (stat fr5) st5 stop) fun r s6 ⟨hr,I6⟩=>?_;subst hr;obtain⟨m,hn,_⟩:=I6.loc;obtain⟨hh,gg,dd,tt,oo⟩:=s6;obtain rfl:oo=s3.os:=I6.os;have R:Inv X pins σ H5 { s3 with heap:=hh,gens:=gg,drawn:=dd,toks:=tt }:=I3.call (ch:=fp) (h':=hh) (g':=gg) (d':=dd) (t':=tt) I6.base I6.hok I6.bare fun b hb=>⟨(f3 b hb).2.2.2.1,(f3 b hb).2.1,(f3 b hb).2.2.2.2.1,(f3 b hb).2.2.2.2.2⟩
   have hC3:s3.heap.objs.size<=C:=WJ eC;obtain⟨q0,q1,q2,q3,q4,q5⟩:=I3.fpOk (b:=C) (H':=H3) hC3 hH3C;refine fin D C H5 _ qn R ⟨m,hn⟩ I6.free q1 (Y8 I3.sz hC3) q4 q5 q2
  ·refine thn (T.item (UW X N' sc cl C s3 H3 fp) rfl rfl rfl hcalm i [] s5 _ H5 _ I5' (stat fr5) st5 go) fun r s6 ⟨u,hr,h6⟩=>?_;subst hr;refine thn h6 fun _ s7 ⟨x,H7,I7,r7,y7,st7,fr7⟩=>?_;have I7':=I7.pinned (stat fr7) (T.obj _ _ st7);refine thn (hPG _ s7 _ H7 x u _ I7' r7 (step x H7 y7)) fun _ s8 ⟨σ8,H8,I8,sub8,q8⟩=>?_;refine thn (hPI _ s8 σ8 H8 _ I8 q8) fun ok s9 ⟨H9,I9,q9⟩=>?_
   have again:∀{s10:Shared} {H10:Hp} {ys':List V} {m':Nat},Inv (UW X N' sc cl C s3 H3 fp) ([]++Nl fp s7.heap) σ8 H10 s10->W (i+1) m' ys' H10->∃i ys σ' H',Inv (UW X N' sc cl C s3 H3 fp) [] σ' H' s10/\Sub (atStart φ σ) σ'/\tn i s10.heap/\(∀b∈fp,H' b=none)/\W i m' ys H':=fun {s10 H10 ys' m'} J10 w10=>by
    refine⟨i+1,ys',σ8,H10,J10.unpinned,sub8,T.keep _ _ _ st7 fun b hb o e=>(J10.pin (b,o) (YS _ (YS _ (NR hb e)))).1,fun b hb=>?_,w10⟩;obtain⟨o,e,d⟩:=T.obj _ _ st7 b hb;exact(J10.pin (b,o) (YS _ (YS _ (NR hb e)))).2.1
   cases ok with
   | false=>
    obtain⟨m',hm,w'⟩:=q9;exact⟨m',hm,again I9 w'⟩
   | true=>
    refine thn (hPE _ s9 σ8 H9 _ I9 q9) fun xv s10 ⟨y,H10,I10,r10,hD,hl,m',hm,w'⟩=>?_;refine thn (Kk _ s10 σ8 H10 (.ref D) [y] (.ref D) [xv] (fun _ H11=>H11=upd H10 D (.lst (ys++[y]))) I10 rfl (.cons r10 .nil) ⟨D,ys,y,rfl,rfl,hD,hl,rfl⟩) fun _ s11 ⟨_,H11,I11,_,e11⟩=>?_;subst e11;exact⟨m',hm,again I11 w'⟩
 refine codeAny_compStart_list loop (T.self _ 0 _ _ _ st4 loop)
def UZ {X:Cx}{N':List Str}{φ:List (Option Nat)}{sc:Scope}{elt iter tg:Expr}{ifs:List Expr}{pos:Pos}{wi:TI}{g:TG}{tc:TT}{te:TE} (hcalm:X.calm=true) (S:CompOk X N' φ sc) (hi:PI X tg iter wi)
  (hin:∀cl C s₃ H₃ ex,PG (UW X N' sc cl C s₃ H₃ ex) tg g/\PIfs (UW X N' sc cl C s₃ H₃ ex) ifs tc/\PE (UW X N' sc cl C s₃ H₃ ex) elt te)
  (hs:∀x,foldedSetIterable iter X.env x=pure x:=by intro _;rfl):PE X (.ListComp elt [⟨tg,iter,ifs,0⟩] sc pos) (ND φ wi g tc te):=by
 intro pins s σ H Q I h;rw[eval_ListComp];refine Cf (use:=none) hcalm S hi hin hs I h fun D C H5 s6 q R hm c0 c1 c2 c3 c4 c5=>?_;obtain⟨m,hn⟩:=hm;exact⟨m,hn,fun h' sb=>⟨.ref D,H5,R.turned (it:=C) (t':=s6.toks) (fun b o hb e=>sb.extBut b o hb e) c0 c1 (.inr c2) c3 c4,rfl,q⟩⟩
def KZ {X:Cx}{N':List Str}{φ:List (Option Nat)}{sc:Scope}{elt iter tg:Expr}{ifs:List Expr}{pos spos py:Pos}{wi:TI}{g:TG}{tc:TT}{te:TE}{i:Nat}{y:Str} (hN:X.N.Nodup) (hy:X.N[i]?=some y) (hl:X.env.scope.names.lookup y=some .local)
  (hcalm:X.calm=true) (S:CompOk X N' φ sc) (hi:PI X tg iter wi)
  (hin:∀cl C s₃ H₃ ex,PG (UW X N' sc cl C s₃ H₃ ex) tg g/\PIfs (UW X N' sc cl C s₃ H₃ ex) ifs tc/\PE (UW X N' sc cl C s₃ H₃ ex) elt te)
  (hs:∀x,foldedSetIterable iter X.env x=pure x:=by intro _;rfl) (hsw:swapsWith (.ListComp elt [⟨tg,iter,ifs,0⟩] sc pos) (some (.Name y py)) spos.line X.env=pure true:=by rfl) :
  PS X (.Assign [.Name y py] (.ListComp elt [⟨tg,iter,ifs,0⟩] sc pos) spos) (tAsg (ND φ wi g tc te) (PD i)):=by
 intro pins s σ H D0 I h;rw[exec_Assign_Name_used _ _ _ _ hsw];refine Yo (wpAny_standAt (Yo ?_));show wpAny _ X.A (do let _ ←comprehension (.ListComp elt [⟨tg,iter,ifs,0⟩] sc pos) sc X.env _ (newList []) false (eval iter X.env) (some (assign (.Name y py) X.env))) _ _ s
 refine Yo (Wn (Cf (use:=some (assign (.Name y py) X.env)) (QQ:=fun _ s'=>SP X pins D0 .next s') hcalm S hi hin hs I h fun D C H5 s6 q R hm c0 c1 c2 c3 c4 c5=>?_) (fun _ s' z=>Yt (Yt z)) fun _ _ e=>e);obtain⟨m,oC,es,ep,hoC,hdC,rC⟩:=hm
 have R2:Inv X (pins++[(C,oC)]) σ H5 s6:=R.pins_of fun p hp=>(YL.mp hp).elim (fun z=>R.pin p (YS _ z)) fun z=>by
  rw[Yw.mp z];exact⟨hoC,c0,c1,c5,fun v e=>by rw[hdC] at e;cases e⟩
 show wpAny _ X.A (assign (.Name y py) X.env (.ref D)) _ _ _;refine wpAny_assign_Name (TJ R2 hN hy (.inl hl) (v:=.ref D) (u:=.ref D) rfl (fun s7 I7=>?_) (.inr hl));have hC7:=(I7.pin (C,oC) (YS _ (YS _ (Yw.mpr rfl)))).1;refine⟨m,⟨oC,es,ep,hC7,hdC,rC⟩,fun h' sb=>?_⟩;have I8:Inv X pins (σ.set i (some (.ref D))) H5 s7:=I7.unpinned;exact⟨_,H5,I8.turned (it:=C) (t':=s7.toks) (fun b o hb e=>sb.extBut b o hb e) c0 c1 (.inr c2) c3 c4,q⟩
def Ed (sc osc:Scope) (N N':List Str) (φ:List (Option Nat)):Bool:=
 sc.kind == .function&&osc.kind == .function&&(sc.names.all fun y=>y.2 != .cell&&(y.2 != .local || sc.names.lookup y.1==some .local)&&(y.2 != .free || osc.names.lookup y.1==some .cell)) &&
  φ.length==N'.length&&((N'.zip φ).all fun p=>match p.2 with|none=>true|some j=>N[j]? == some p.1&&sc.names.lookup p.1==some .free)
def CompOk.of {X:Cx}{N':List Str}{φ:List (Option Nat)}{sc:Scope} (h:Ed sc X.env.scope X.N N' φ=true):CompOk X N' φ sc:=by
 unfold Ed at h;simp only[Wp,beq_iff_eq,Qg,Bool.or_eq_true,bne_iff_ne,ne_eq] at h;obtain⟨⟨⟨⟨h1,h2⟩,h3⟩,h4⟩,h5⟩:=h;refine⟨h1,h2,fun y hy=>(h3 y hy).1.1,fun y hy hl=>?_,fun y hy hf=>?_,h4,fun i x j hi hj=>?_⟩
 ·rcases(h3 y hy).1.2 with z|z
  ·exact absurd hl z
  ·exact z
 ·rcases(h3 y hy).2 with z|z
  ·exact absurd hf z
  ·exact z
 ·have hz:(N'.zip φ)[i]?=some (x,some j):=by rw[List.getElem?_zip_eq_some];exact⟨hi,hj⟩
  have:=h5 _ (YE hz)
  simpa using this
end Own
namespace SetR
open PySem PySem.Spec PyProof.Rows L2
def Ris (xs:Array Nat):Prop:=∀i j,i<j->j<xs.size->xs.getD i 0<xs.getD j 0
def Ew {xs:Array Nat}{i a b:Nat} (h:i<xs.size):xs.getD i a=xs.getD i b:=by simp[Array.getD,h]
def HN {xs:Array Nat} (R:Ris xs) (j:Nat):∀(fuel lo hi:Nat),hi-lo<=fuel->lo<=hi->hi<=xs.size->(∀k,k<lo->xs.getD k 0<j)->(∀k,hi<=k->k<xs.size->j<=xs.getD k 0)->
  let r:=SetTable.below.go xs j fuel lo hi
  r<=xs.size/\(∀k,k<r->xs.getD k 0<j)/\∀k,r<=k->k<xs.size->j<=xs.getD k 0:=by
 intro fuel
 induction fuel with
 | zero=>
  intro lo hi h1 h2 h3 h4 h5;have e:lo=hi:=by omega
  subst e;exact⟨h3,h4,h5⟩
 | succ fuel ih=>
  intro lo hi h1 h2 h3 h4 h5;show(let r:=(if lo<hi then(if xs.getD ((lo+hi) / 2) j<j then SetTable.below.go xs j fuel ((lo+hi) / 2+1) hi else SetTable.below.go xs j fuel lo ((lo+hi) / 2)) else lo);r<=xs.size/\(∀k,k<r->xs.getD k 0<j)/\∀k,r<=k->k<xs.size->j<=xs.getD k 0);by_cases hl:lo<hi
  ·rw[Ys hl];have hm:(lo+hi) / 2<xs.size:=by omega
   by_cases hc:xs.getD ((lo+hi) / 2) j<j
   ·rw[Ys hc];refine ih _ _ (by omega) (by omega) h3 (fun k hk=>?_) h5;rw[Ew (b:=0) hm] at hc;by_cases e:k=(lo+hi) / 2
    ·rw[e];exact hc
    ·exact Qt (R k _ (by omega) hm) hc
   ·rw[Yq hc];refine ih _ _ (by omega) (by omega) (by omega) h4 (fun k hk hk2=>?_);rw[Ew (b:=0) hm] at hc;by_cases e:k=(lo+hi) / 2
    ·rw[e];omega
    ·have:=R _ k (show(lo+hi) / 2<k by omega) hk2
     omega
  ·rw[Yq hl];have e:lo=hi:=by omega
   subst e;exact⟨h3,h4,h5⟩
def AL {xs:Array Nat} (R:Ris xs) (j:Nat):SetTable.below xs j<=xs.size/\(∀k,k<SetTable.below xs j->xs.getD k 0<j)/\∀k,SetTable.below xs j<=k->k<xs.size->j<=xs.getD k 0:=
 HN R j xs.size 0 xs.size (by omega) (by omega) (by omega) (fun k hk=>by omega) (fun k h1 h2=>by omega)
def Zc7 {xs:Array Nat} (R:Ris xs) {i:Nat} (hi:i<=xs.size) {slot:Nat} (h1:∀k,k<i->xs.getD k 0<slot) (h2:∀k,i<=k->k<xs.size->slot<=xs.getD k 0):SetTable.below xs slot=i:=by
 obtain⟨a,b,c⟩:=AL R slot;rcases Nat.lt_trichotomy (SetTable.below xs slot) i with h|h|h
 ·have:=c _ (Yx _) (by omega)
  have:=h1 _ h
  omega
 ·exact h
 ·have:=b i h
  have:=h2 i (Yx _) (by omega)
  omega
def Rise (xs:Array Nat):Prop:=xs.toList.Pairwise (· < ·)
def Rise.ris {xs:Array Nat} (h:Rise xs):Ris xs:=by
 intro i j hij hj;have hi:i<xs.size:=by omega
 have:=(List.pairwise_iff_getElem.mp h) i j (by simpa using hi) (by simpa using hj) hij
 simpa [Array.getD,hi,hj] using this
def Li {xs:Array Nat}{j:Nat} (h:Rise xs) (hn:xs[SetTable.below xs j]?≠some j):Rise (SetTable.insertAt xs (SetTable.below xs j) j):=by
 obtain⟨a,b,c⟩:=AL h.ris j;generalize SetTable.below xs j=p at *;unfold Rise;rw[SetTable.toList_insertAt];refine QX.mpr ⟨h.sublist (QD _ _),WS.mpr ⟨fun y hy=>?_,h.sublist (List.drop_sublist _ _)⟩,fun x hx y hy=>?_⟩
 ·obtain⟨k,hk,e⟩:=List.mem_drop_iff_getElem.mp hy
  have hk':p+k<xs.size:=by
   simp only[YZ] at hk;omega
  have h1:=c (p+k) (by omega) hk';have e':xs.getD (p+k) 0=y:=by simpa [Array.getD,hk'] using e
  rw[e'] at h1;rcases Nat.lt_or_ge j y with h2|h2
  ·exact h2
  ·have ey:y=j:=by omega
   exfalso;rcases Nat.eq_zero_or_pos k with rfl|hk0
   ·apply hn;rw[W4 (by omega)]
    have:xs[p]=y:=by simpa using e
    rw[this,ey]
   ·have h3:=h.ris p (p+k) (by omega) hk';have h4:=c p (Yx _) (by omega);omega
 ·have hx':x<j:=by
   obtain⟨k,hk,e⟩:=List.mem_take_iff_getElem.mp hx;have hk1:k<p:=by omega
   have hk2:k<xs.size:=by omega
   have:=b k hk1
   have e':xs.getD k 0=x:=by simpa [Array.getD,hk2] using e
   omega
  rcases Y4.mp hy with rfl|hy
  ·exact hx'
  ·obtain⟨k,hk,e⟩:=List.mem_drop_iff_getElem.mp hy
   have hk':p+k<xs.size:=by
    simp only[YZ] at hk;omega
   have h1:=c (p+k) (by omega) hk';have e':xs.getD (p+k) 0=y:=by simpa [Array.getD,hk'] using e
   omega
structure Tb (b:Bool) (t:SetTable):Prop where
 led:t.led=b
 dum:t.dummies=#[]
 ris:Rise t.place
def EK (j:Nat):SetTable.has #[] j=false:=by
 unfold SetTable.has;simp
def Tb.fresh (b:Bool):Tb b (.fresh 0 0 b):=⟨rfl,rfl,List.Pairwise.nil⟩
def Zfq (n:Nat):Rise (Array.range n):=by
 unfold Rise;rw[Array.toList_range];exact List.pairwise_lt_range
def Tb.stand {b:Bool}{t:SetTable} (h:Tb b t) (n:Nat):Tb b (t.standIn n):=⟨h.led,rfl,Zfq n⟩
def Tb.orStand {b:Bool}{t:SetTable} (h:Tb b t) (n:Nat):Tb b (t.orStandIn n):=by
 unfold SetTable.orStandIn;split
 ·exact h
 ·exact h.stand n
def Tb.plainOff {b:Bool}{t:SetTable} (h:Tb b t):Tb b { t with plain:=false }:=⟨h.led,h.dum,h.ris⟩
def Tb.put {b:Bool}{t:SetTable} (h:Tb b t) {j:Nat} (hn:t.place[SetTable.below t.place j]?≠some j):Tb b (t.put j).1:=by
 refine⟨h.led,?_,Li h.ris hn⟩;show(if SetTable.has t.dummies j=true then _ else t.dummies)=#[];rw[h.dum,EK];rfl
def Zbf {b:Bool}{t:SetTable} (h:Tb b t) (f:Nat->Int) (z:Int):∀(fuel:Nat) (p:SetTable.Probe) (j:Nat) (d:Option Nat),p.dummy=none->SetTable.probe.go t f z fuel p=some (.empty j d)->d=none/\t.place[SetTable.below t.place j]?≠some j:=by
 intro fuel
 induction fuel with
 | zero=>intro p j d _ e;cases e
 | succ fuel ih=>
  intro p j d hp e;unfold SetTable.probe.go at e
  have hadv:∀q:SetTable.Probe,q.dummy=none->(t.advance q).dummy=none:=fun q hq=>by
   unfold SetTable.advance;split
   ·exact hq
   ·exact hq
  cases es:t.slot p.j with
  | empty=>
   rw[es] at e;have e':=Y2 e;injection e' with e1 e2;subst e1;refine⟨e2.symm.trans hp,fun hz=>?_⟩;unfold SetTable.slot at es
   dsimp only at es
   rw[hz] at es;simp at es
  | dummy=>
   exfalso;unfold SetTable.slot at es
   dsimp only at es
   split at es
   ·cases es
   ·rw[h.dum,EK] at es;simp at es
  | live i=>
   rw[es] at e
   dsimp only at e
   split at e
   ·cases e
   ·exact ih _ j d (hadv p hp) e
def Tb.layNew {b:Bool}{t:SetTable} (h:Tb b t) (es:Array (Int×Value)) (z:Int) (x:Value):Tb b (PySem.layNew t es z x).2.1:=by
 unfold PySem.layNew;split
 ·rename_i slot wasDummy e
  have hn:t.place[SetTable.below t.place slot]?≠some slot:=by
   unfold SetTable.freeSlot SetTable.probe at e;split at e
   ·rename_i j dummy e';obtain⟨h1,h2⟩:=Zbf h _ _ _ _ _ _ rfl e';subst h1
    have:=Y2 e
    have hj:j=slot:=Wa Prod.fst this;rw[←hj];exact h2
   ·cases e
  exact(h.put hn).orStand _
 ·exact h.stand _
def LD (n:Nat) (f:Nat->Option Nat):((List.range n).filterMap fun j=>(f j).map (j,·)).Pairwise (fun a b=>a.1<b.1):=by
 refine List.Pairwise.filterMap _ ?_ List.pairwise_lt_range;intro a a' haa b hb b' hb';cases e:f a with
 | none=>rw[e] at hb;cases hb
 | some v=>
  cases e':f a' with
  | none=>rw[e'] at hb';cases hb'
  | some v'=>
   rw[e] at hb;rw[e'] at hb';cases hb
   cases hb'
   exact haa
def Tb.relayAll {b:Bool}{t:SetTable} (h:Tb b t) (es:Array (Int×Value)) (n:Nat):Tb b (PySem.relayAll t es n).2.1:=by
 unfold PySem.relayAll;split
 ·rename_i t' order e
  dsimp only
  split
  ·unfold SetTable.relaid SetTable.laid at e;cases e2:SetTable.layClean (SetTable.sizeAbove n-1) (es.map (·.1)) with
   | none=>rw[e2] at e;cases e
   | some owner=>
    rw[e2] at e;have e':=Wa Prod.fst (Y2 e);subst e';refine⟨h.led,rfl,?_⟩;show(List.map (fun x:Nat×Nat=>x.fst) ((List.range (SetTable.sizeAbove n-1+1)).filterMap fun j=>(owner.getD j none).map (j,·))).toArray.toList.Pairwise (· < ·);rw[List.toList_toArray,List.pairwise_map];exact LD _ _
  ·exact h.stand _
 ·exact h.stand _
def keyOf (e:Int×Value):Int:=match e.2 with
 | .int k _=>k
 | _=>0
def Ent (e:Int×Value):Prop:=∃(k:Int) (t:Tok),e=(hashInt k,.int k t)
section
variable (prog:Program) (w:World)
def X3 (w:World):Bool:=w.params.followText "set-order"
structure SetAt (h:Heap) (a:Addr) (js:List Int) (es:Array (Int×Value)) (ep:Nat) (t:SetTable):Prop where
 obj:∃o,h.get? a=some o/\o.ExactSet/\o.data=.set es ep t
 ent:∀e∈es.toList,Ent e
 per:(es.toList.map keyOf).Perm js
 nod:js.Nodup
 few:es.size<scanBound
 fit:t.fits es.size=true
 tab:Tb (!X3 w) t
def SetB (h:Heap) (a:Addr) (js:List Int):Prop:=∃es ep t,SetAt w h a js es ep t
end
section
variable {prog:Program}{w:World}{A:Around}{E:Value->Shared->Prop}{s:Shared}
def Ent.elems {l:List (Int×Value)} (h:∀e∈l,Ent e):ElemsOf (intKind prog w) l:=fun e he=>by
 obtain⟨k,t,rfl⟩:=h e he;exact⟨⟨k,intKind_is _ _ _ _,rfl⟩,rfl⟩
def Cn {e:Int×Value} (h:Ent e) (k:Int):(intKind prog w).is k e.2=decide (k=keyOf e):=by
 obtain⟨k',t,rfl⟩:=h;show Value.isInt k (.int k' t)=decide (k=k');by_cases e:k=k'
 ·subst e;simp[Value.isInt]
 ·rw[YB e];simp[Value.isInt];exact fun z=>e z.symm
def SetB.len {h:Heap}{a:Addr}{js:List Int}{es:Array (Int×Value)}{ep:Nat}{t:SetTable} (S:SetAt w h a js es ep t):es.size=js.length:=by
 have:=S.per.length_eq
 simpa using this
def SetB.at {h h':Heap}{a:Addr}{js:List Int} (S:SetB w h a js) (k:∀o,h.get? a=some o->h'.get? a=some o):SetB w h' a js:=by
 obtain⟨es,ep,t,⟨o,ho,r⟩,b,c,d,e,f,g⟩:=S;exact⟨es,ep,t,⟨o,k o ho,r⟩,b,c,d,e,f,g⟩
def SetAt.store {h:Heap}{a:Addr}{js js':List Int}{es es':Array (Int×Value)}{ep:Nat}{t t':SetTable} (S:SetAt w h a js es ep t) (h1:∀e∈es'.toList,Ent e) (h2:(es'.toList.map keyOf).Perm js') (h3:js'.Nodup) (h4:es'.size<scanBound)
  (h5:t'.fits es'.size=true) (h6:Tb (!X3 w) t'):SetAt w (h.update a (Obj.putSet es' t')) a js' es' (ep+1) t':=by
 obtain⟨o,ho,hx,hd⟩:=S.obj;refine⟨⟨{ o with data:=.set es' (ep+1) t' },?_,hx,rfl⟩,h1,h2,h3,h4,h5,h6⟩
 have q:=Wj (Obj.putSet es' t') ho (by rw[putSet_of es' t' hd];rfl);rwa[putSet_of es' t' hd] at q
def Ge {g:Bool->Sem Unit} (hg:∀(b:Bool) (s':Shared) (R':Unit->Shared->Prop),R' () s'->wpAny (model prog w) A (g b) R' E s') {a:Addr}{js js':List Int}{es es':Array (Int×Value)}{ep:Nat}{t t':SetTable} (S:SetAt w s.heap a js es ep t)
  (h1:∀e∈es'.toList,Ent e) (h2:(es'.toList.map keyOf).Perm js') (h3:js'.Nodup) (h4:es'.size<scanBound) (h5:t'.fits es'.size=true) (h6:Tb (!X3 w) t') {d:Bool} {R:Option Bool->Shared->Prop}
  (fin:∀h',Heap.SameBut a s.heap h'->SetB w h' a js'->R (some true) { s with heap:=h' }) :
  wpAny (model prog w) A (do
    storeSet a es' t'
    if (!d&&t'.tooFull)=true then do
      g (relayAll t' es' (SetTable.grown es'.size)).2.2
      storeSet a (relayAll t' es' (SetTable.grown es'.size)).1 (relayAll t' es' (SetTable.grown es'.size)).2.1
      pure (some true)
     else pure (some true)) R E s:=by
 obtain⟨o,ho,hx,hd⟩:=S.obj;have S1:=S.store h1 h2 h3 h4 h5 h6;obtain⟨o1,ho1,hx1,hd1⟩:=S1.obj;have B1:=Wx s.heap a (Obj.putSet es' t');refine Yo (wpAny_storeSet_of ho hd ?_ (QE h4));split
 ·have pp:=relayAll_perm t' es' (SetTable.grown es'.size);have ff:=relayAll_fits t' es' (SetTable.grown es'.size);have tt:=h6.relayAll es' (SetTable.grown es'.size);generalize relayAll t' es' (SetTable.grown es'.size)=y at pp ff tt ⊢;obtain⟨es2,t2,g2⟩:=y
  dsimp only at pp ff tt ⊢
  have z:es2.size=es'.size:=by rw[←YZ,pp.length_eq,YZ]
  refine Yo (hg _ _ _ (Yo (wpAny_storeSet_of ho1 hd1 ?_ (QE (by rw[z];exact h4)))));exact Yt (fin _ (B1.trans (Wx _ a _)) ⟨_,_,_,S1.store (fun e he=>h1 e (pp.mem_iff.mp he)) ((pp.map keyOf).trans h2) h3 (by rw[z];exact h4) ff tt⟩)
 ·exact Yt (fin _ B1 ⟨_,_,_,S1⟩)
def addJ (js:List Int) (k:Int):List Int:=if k∈js then js else js++[k]
def Ml {a:Addr}{js:List Int}{k:Int}{tk:Tok}{R:Bool->Shared->Prop} (S:SetB w s.heap a js) (room:js.length+1<scanBound) (fin:∀(r:Bool) h',Heap.SameBut a s.heap h'->SetB w h' a (addJ js k)->R r { s with heap:=h' }) :
  wpAny (model prog w) A (setAddHashed a (.int k tk) (hashInt k)) R E s:=by
 obtain⟨es,ep,t,S⟩:=S;obtain⟨o,ho,hx,hd⟩:=S.obj;have el:=Ent.elems (prog:=prog) (w:=w) S.ent;have hz:es.size=js.length:=SetB.len S;unfold setAddHashed setAddHashedIn;refine WL (Yo (WY ho hd S.fit ?_))
 dsimp only
 rw[byScan_of (x:=.int k tk) rfl S.few el];simp only[↓reduceIte];unfold setAddByScan;refine Yo (Yo (wpAny_rule (Yo (wpAny_setScan_of (knd:=intKind prog w) (k:=k) (intKind_is _ _ _ _) ho hd S.fit el ?_))));have mem:∀z:Int,z∈js↔∃e∈es.toList,keyOf e=z:=fun z=>by rw[←S.per.mem_iff,YR]
 cases q:List.findIdx? (fun e=>(intKind prog w).is k e.2) es.toList with
 | some j=>
  dsimp only
  obtain⟨hj,pj,_⟩:=List.findIdx?_eq_some_iff_getElem.mp q
  have hk:k∈js:=by
   rw[Cn (S.ent _ (YH hj))] at pj;exact(mem k).mpr ⟨_,YH hj,(Yy pj).symm⟩
  refine Yt (Yt ?_);have f:=fin false s.heap (Heap.SameBut.refl a s.heap);unfold addJ at f;rw[Ys hk] at f;exact f ⟨_,_,_,S⟩
 | none=>
  dsimp only
  have hk:¬k∈js:=fun hz=>by
   obtain⟨e,he,hke⟩:=(mem k).mp hz
   have:=List.findIdx?_eq_none_iff.mp q e he
   rw[Cn (S.ent e he),Yr hke.symm] at this;cases this
  have P:=layNew_perm t es (hashInt k) (.int k tk);have F:=layNew_fits t es (hashInt k) (.int k tk);have T:=S.tab.layNew es (hashInt k) (.int k tk);change wpAny (model prog w) A (match layNew t es (hashInt k) (.int k tk) with|(es,t,wasDummy,gave)=>_) _ _ _
  generalize layNew t es (hashInt k) (.int k tk)=y at P F T ⊢;obtain⟨es1,t1,d1,g1⟩:=y
  dsimp only at P F T ⊢
  rw[Array.toList_push] at P
  have e1:∀e∈es1.toList,Ent e:=fun e he=>by
   rcases YL.mp (P.mem_iff.mp he) with he|he
   ·exact S.ent e he
   ·rw[Yw.mp he];exact⟨k,tk,rfl⟩
  have e2:(es1.toList.map keyOf).Perm (js++[k]):=by
   refine(P.map keyOf).trans ?_;rw[YC];exact S.per.append_right _
  have e3:(js++[k]).Nodup:=WB.mpr ⟨S.nod,by simp,fun x hx y hy=>by rw[Yw.mp hy];rintro rfl;exact hk hx⟩
  have e4:es1.size<scanBound:=by
   rw[←YZ,P.length_eq,Yv,YZ,hz];exact room
  have fin':∀h',Heap.SameBut a s.heap h'->SetB w h' a (js++[k])->R true { s with heap:=h' }:=fun h' sb q'=>by
   have f:=fin true h' sb;unfold addJ at f;rw[Yq hk] at f;exact f q'
  have gw:∀(b:Bool) {s':Shared} {R':Unit->Shared->Prop},R' () s'->wpAny (model prog w) A (match b with|true=>rule "set.scan.the-table-gave-way" | false=>pure ()) R' E s':=fun b s' R' r'=>by cases b<;>first|exact Yt r'|exact wpAny_rule r'
  refine Yo (gw _ ?_);split
  ·refine Yo ?_;rw[hashByValue_scannable 8 (x:=.int k tk) rfl];refine Yt (Ge (fun b s' R' r'=>gw b r') S e1 e2 e3 e4 ?_ ?_ fun h' sb q'=>Yt (fin' h' sb q'))
   ·split
    ·exact F
    ·exact SetTable.fits_plain_off F
   ·split
    ·exact T
    ·exact T.plainOff
  ·refine Yo (Yt ?_);simp only[↓reduceIte];exact Ge (fun b s' R' r'=>gw b r') S e1 e2 e3 e4 F T fun h' sb q'=>Yt (fin' h' sb q')
def RE {R:Result->Shared->Prop}{I:Addr}{fp wr:List Addr}{P:Nat->Value->Prop}{St:Nat->Heap->Prop}{ns:List Int} (W:Walks prog w A.in1 I fp wr ns.length P St) (S:Addr) (hS:S∉fp)
  (hv:∀i v,P i v->∃t,v=.int (ns.getD i 0) t) (room:ns.length+1<scanBound):∀(k i:Nat) (s:Shared) (js:List Int),ns.length-i=k->i<=ns.length->St i s.heap->SetB w s.heap S js->js.length<=i->
   (∀h' tk,(∀b o,b∉S::wr->s.heap.get? b=some o->h'.get? b=some o)->SetB w h' S ((ns.drop i).foldl addJ js)->R (.ok (.ret .none)) { s with heap:=h',toks:=tk })->
   codeAny (model prog w) A (.builtin "set.update.loop" ⟨[.ref S,.ref I],[]⟩) R s:=by
 have hSw:S∉wr:=fun z=>hS (W.sub _ z);intro k
 induction k with
 | zero=>
  intro i s js hk hi st B hj fin;have ei:i=ns.length:=by omega
  refine WV Q4 ?_;rw[Qb WT _];show wpAny _ A.in1 (pyNext (.ref I) >>= _) _ _ s;refine Yo (W.done s _ _ (ei▸st) fun h' tk keep=>?_);show wpAny _ A.in1 (ret Value.none) _ _ _;refine Yt (fin h' tk (fun b o hb e=>keep b o (fun z=>hb (YG _ z)) e) ?_);rw[ei,List.drop_length];exact B.at fun o e=>keep S o hSw e
 | succ k ih=>
  intro i s js hk hi st B hj fin;have hlt:i<ns.length:=by omega
  refine WV Q4 ?_;rw[Qb WT _];show wpAny _ A.in1 (pyNext (.ref I) >>= _) _ _ s;refine Yo (W.item i s _ _ hlt st fun v h1 tk1 pv st1 keep1=>?_);obtain⟨t,rfl⟩:=hv i v pv;have B1:SetB w h1 S js:=B.at fun o e=>keep1 S o hSw e;show wpAny _ A.in1 (holding [Value.int (ns.getD i 0) t] (setAdd S (.int (ns.getD i 0) t)) >>= _) _ _ _;unfold setAdd;refine Yo (WL (WL (Yo ((intKind prog w).pyHash (k:=ns.getD i 0) (intKind_is _ _ _ _) ?_))));refine Ml (k:=ns.getD i 0) B1 (by omega) fun r h2 sb B2=>?_
  have el:(addJ js (ns.getD i 0)).length<=i+1:=by
   unfold addJ;split
   ·omega
   ·simp;omega
  refine Yt ⟨QK WT _,ih (i+1) _ _ (by omega) hlt (W.frame _ h1 _ st1 fun b hb o e=>?_) B2 el fun h' tk keep B'=>?_⟩
  ·rw[sb.2 b (fun z:b=S=>hS (by rw[←z];exact hb))];exact e
  ·refine fin h' tk (fun b o hb e=>keep b o hb ?_) ?_
   ·rw[sb.2 b (fun z:b=S=>hb (by rw[z];exact YM))];exact keep1 b o (fun z=>hb (YG _ z)) e
   ·have e1:ns.drop i=ns.getD i 0::ns.drop (i+1):=by
     rw[List.drop_eq_getElem_cons hlt,Y1,Yp hlt];rfl
    rw[e1];exact B'
def RR (a:Value) {Q:Value->Shared->Prop} (fin:Q (.ref s.heap.objs.size) { s with heap:=s.heap.push { cls:=.type "set",dict:=none,data:=.set #[] 0 (.fresh 0 0 (!X3 w)) } }) :
  codeAny (model prog w) A (.call (.builtin "set.__new__") ⟨[.type "set",a],[]⟩) (wants Q E) s:=by
 refine codeAny_of_tree (show wpAny _ A.in1 (do checkBuiltinCall "set.__new__" ⟨[.type "set",a],[]⟩;again (.builtin "set.__new__" ⟨[.type "set",a],[]⟩)) _ _ s from ?_)
 refine Yo (wpAny_of_eq (F.newCall_set_1 a) (Yt ⟨QK F.plain_set_new _,WV F.entry_set_new ?_⟩));have und:=Qb (A:=A) F.plain_set_new ⟨[.type "set",a],[]⟩;rw[und];unfold Builtin.«set.__new__» Builtin.Frozenset.newClass;have q1:=sub_set_self;obtain⟨hh,gg,dd,tt,oo⟩:=s
 dsimp only
 wp_walk
 refine wpAny_askSetting (Yt (show wpAny _ _ _ _ _ _ from ?_))
 dsimp only
 simp only[newObj];exact Yo (wpAny_alloc (Yt (Yt fin)))
set_option maxHeartbeats 4000000 in
def RJ {l:Addr}{its:Array Value}{ns:List Int}{Q:Value->Shared->Prop} (hh:A.handled=none) (hl:s.heap.IsList l its) (hi:IntsAre its.toList ns) (room:ns.length+1<scanBound)
  (fin:∀(h':Heap) (tk:Nat),SetB w h' s.heap.objs.size (ns.foldl addJ [])->(∀b o,b<s.heap.objs.size->s.heap.get? b=some o->h'.get? b=some o)->Q (.ref s.heap.objs.size) { s with heap:=h',toks:=tk }) :
  wpAny (model prog w) A (call (.type "set") [.ref l]) Q E s:=by
 have hn:its.size=ns.length:=by have:=IntsAre.length hi;simpa using this
 obtain⟨mroC,mroT,mro⟩:=F.called_set.mro;have made:=F.called_set.made;have subs:=F.called_set.sub;refine wpAny_call (codeAny_of_tree (show wpAny _ _ (callAny (.type "set") _) _ _ _ from ?_))
 refine Yt ⟨Code.quiet_builtin _ (by decide +kernel),WV F.entry_type_call ?_⟩;have wt:=Around.under_plain (A:=A) (weight_type_call_type "set" [.ref l] []) rfl;rw[wt];have nt:=F.called_set.notType;have cc:=F.called_set.canCreate;have tc:=F.typeCall_set_1 (.ref l)
 repeat (any_goals (first|assumption|wp_step))
 refine Qf (RR (.ref l) (E:=E) (Q:=fun obj s1=>obj=.ref s.heap.objs.size/\s1={ s with heap:=s.heap.push { cls:=.type "set",dict:=none,data:=.set #[] 0 (.fresh 0 0 (!X3 w)) } }) ⟨rfl,rfl⟩) fun r s1 hr=>?_
 cases r with
 | error e=>exact hr
 | ok fl=>
  cases fl with
  | next=>exact hr.elim
  | brk=>exact hr.elim
  | cont=>exact hr.elim
  | ret obj=>
   obtain⟨rfl,rfl⟩:=hr;generalize eH:s.heap.push { cls:=.type "set",dict:=none,data:=.set #[] 0 (.fresh 0 0 (!X3 w)) }=H1;have g1:H1.get? s.heap.objs.size=some { cls:=.type "set",dict:=none,data:=.set #[] 0 (.fresh 0 0 (!X3 w)) }:=by rw[←eH];exact Y7 _ rfl
   have hT:Shared.TypeIs { s with heap:=H1 } (.ref s.heap.objs.size) "set":=⟨_,g1,rfl⟩
   have ini:=F.called_set.init.lookup;have inb:=F.called_set.init.bind (.ref s.heap.objs.size)
   repeat (any_goals (first|assumption|wp_step))
   refine Qf (QY (R:=wants (fun r s2=>r=.none/\∃h' tk,s2={ s with heap:=h',toks:=tk }/\SetB w h' s.heap.objs.size (ns.foldl addJ [])/\(∀b o,b<s.heap.objs.size->s.heap.get? b=some o->h'.get? b=some o)) E)
    F.called_set.init.plain F.entry_set_init (check_set_init_1 hT ?_)) fun r2 s2 hr2=>?_
   ·obtain⟨ob,hob,hcl,nl,hdl⟩:=hl;obtain⟨c1,d1,dt1,sl1⟩:=ob;simp only at hcl hdl;subst hcl;subst hdl;have hob1:H1.get? l=some { cls:=.type "list",dict:=d1,data:=.seq its nl,slots:=sl1 }:=by rw[←eH];exact Yu _ hob
    have sz1:H1.objs.size=s.heap.objs.size+1:=by rw[←eH,Qd]
    have no1:=F.sub_list_set;have no2:=F.sub_list_frozenset;have no3:(Value.type "list" == Value.type "dict")=false:=by decide
    have L1:H1.IsList l its:=⟨_,hob1,rfl,nl,rfl⟩;unfold Builtin.«set.__init__» noKeywords Builtin.Frozenset.updateFrom;generalize eP:pyIter=PI
    wp_walk
    subst eP;refine wpAny_pyIter_list L1 (Yo (wpAny_runValue ?_));have lt1:l<s.heap.objs.size:=Y3 hob;have hd3:A.in1.in1.in1.handled=none:=by simp[hh]
    have ne1:l≠H1.objs.size:=by rw[sz1];exact YK (WZ lt1)
    have no4:s.heap.objs.size∉[H1.objs.size,l]:=by
     rw[sz1];simp only[Y4,Qy,or_false,not_or];exact⟨YK (WQ _),Vo lt1⟩
    have W0:=Walks.list (prog:=prog) (w:=w) hd3 H1.objs.size l ne1 its;rw[hn] at W0;refine RE (ns:=ns) W0 s.heap.objs.size no4 (fun i v hv=>IntsAre.int_at hi i v (by rw[Wq];exact hv)) room (ns.length-0) 0 _ [] rfl (Wz _) ⟨⟨_,Y7 _ rfl,rfl,rfl⟩,L1.push _⟩ ?_ (Wz _) fun h' tk keep B=>?_
    ·exact⟨#[],0,_,⟨_,Yu _ g1,⟨rfl,rfl,rfl⟩,rfl⟩,fun e he=>by simp at he,by simp,Qe,by show(0:Nat)<4096;decide,rfl,Tb.fresh _⟩
    ·show wpAny _ _ _ _ _ _;refine Yt (show wpAny _ _ (ret Value.none) _ _ _ from Yt ⟨rfl,h',tk,rfl,B,fun b o hb e=>?_⟩)
     refine keep b o ?_ (Yu _ (by rw[←eH];exact Yu _ e));rw[sz1];simp only[Y4,Qy,or_false,not_or];exact⟨YK hb,YK (WZ hb)⟩
   ·cases r2 with
    | error e=>exact hr2
    | ok f2=>
     cases f2 with
     | next=>exact hr2.elim
     | brk=>exact hr2.elim
     | cont=>exact hr2.elim
     | ret r=>
      obtain⟨rfl,h',tk,rfl,B,keep⟩:=hr2
      repeat (any_goals (first|assumption|wp_step))
      exact fin _ _ B keep
end
def si_slot:Slot "set_iterator" "__next__" "set_iterator.__next__":=
 Slot.of (owner:="set_iterator") (n:="__next__") (by rw[typeLookup_type,builtinLookup_eq_fast];kernel_rfl) (by decide +kernel) (by decide +kernel) (by decide +kernel)
  (by first|exact Or.inl (by decide +kernel)|exact Or.inr (by decide +kernel)) (by rw[isSubtype_type];kernel_rfl)
def Mt:entryFor table "set_iterator.__next__"=some Builtin.«set_iterator.__next__»:=entryFor_of_tree (by kernel_rfl)
def Zer (a:Value):argsOk "set_iterator.__next__" ⟨[a],[]⟩:=by unfold argsOk;kernel_rfl
def Im:entryFor table "set.__iter__"=some Builtin.«frozenset.__iter__»:=entryFor_alias (id':="frozenset.__iter__") (by kernel_rfl) rfl (by decide +kernel) (by kernel_rfl)
def GI:Slot "set_iterator" "__iter__" "set_iterator.__iter__":=
 Slot.of (owner:="set_iterator") (n:="__iter__") (by rw[typeLookup_type,builtinLookup_eq_fast];kernel_rfl) (by decide +kernel) (by decide +kernel) (by decide +kernel)
  (by first|exact Or.inl (by decide +kernel)|exact Or.inr (by decide +kernel)) (by rw[isSubtype_type];kernel_rfl)
def MU:entryFor table "set_iterator.__iter__"=some Builtin.«dict_keyiterator.__iter__»:=entryFor_alias (id':="dict_keyiterator.__iter__") (by kernel_rfl) rfl (by decide +kernel) (by kernel_rfl)
def Rt (a:Value):argsOk "set_iterator.__iter__" ⟨[a],[]⟩:=by unfold argsOk;kernel_rfl
def SI (h:Heap) (I a:Addr) (first:Value) (i n ep:Nat):Prop:=∃o,h.get? I=some o/\o.cls=.type "set_iterator"/\o.data=.fields #[first,.int i 0,.ref a,.int n 0,.int ep 0]
section
variable {prog:Program}{w:World}{A:Around}{E:Value->Shared->Prop}{s:Shared}{I a:Addr}{first:Value}{i n ep:Nat}{js:List Int}{es:Array (Int×Value)}{t:SetTable}
def SI.typ (h:SI s.heap I a first i n ep):s.TypeIs (.ref I) "set_iterator":=let ⟨o,ho,hc,_⟩:=h;⟨o,ho,hc⟩
def SI.at {h h':Heap} (x:SI h I a first i n ep) (k:∀o,h.get? I=some o->h'.get? I=some o):SI h' I a first i n ep:=let ⟨o,ho,r⟩:=x;⟨o,k o ho,r⟩
def Py (first:Value) (a I:Addr) (i ep:Int):Sem PySem.Fin:=
 match first with
 | Value.int slot _=>do
  match ←setNext a slot.toNat i.toNat ep.toNat with
  | some (x,next)=>
   setField (.ref I) 0 (rawInt next)
   setField (.ref I) 1 (rawInt (i+1))
   ret x
  | none=>
   setField (.ref I) 2 .none
   raiseNew (←newExc (.type "StopIteration") [])
 | _=>do
  let some places ←seqItems? first|unsupported "internal:set_iterator"
  match places[i.toNat]? with
  | some (.int place _)=>
   let x ←setNextDrawn a place.toNat ep.toNat
   setField (.ref I) 1 (rawInt (i+1))
   ret x
  | some _=>unsupported "internal:set_iterator"
  | none=>
   setField (.ref I) 0 (rawInt 0)
   setField (.ref I) 2 .none
   raiseNew (←newExc (.type "StopIteration") [])
def Sg {Q:Option Value->Shared->Prop} (hit:SI s.heap I a first i es.size ep) (S:SetAt w s.heap a js es ep t)
  (body:wpAny (model prog w) A.in1 (Py first a I i ep) (fun fin s'=>∃v,fin=.done (.ret v)/\Q (some v) s')
   (fun e s'=>wpAny (model prog w) A (isInstance e (.type "StopIteration")) (fun b s''=>b=true/\Q none s'') E s') s) :
  wpAny (model prog w) A (pyNext (.ref I)) Q E s:=by
 obtain⟨o,ho,hc,hd⟩:=id hit;obtain⟨ob,hob,hx,hdd⟩:=S.obj;unfold pyNext;refine Yo (wpAny_attempt (QC (name:=Str.ofString "__next__") hit.typ si_slot (WR si_slot hit.typ Mt ?_ (Zer _))));unfold Builtin.«set_iterator.__next__»;refine Yo (Yt (Yo (wpAny_fieldsOf ho hd ?_)));show wpAny _ _ (setEntries a >>= fun x=>if ((x.size:Int) != (es.size:Int))=true then _ else Py first a I i ep) _ _ s
 refine Yo (wpAny_setEntries_of hob hdd S.fit ?_);rw[Yq (by simp)];refine Wn body (fun fin s' h=>?_) fun e s' h=>?_
 ·obtain⟨v,e,q⟩:=h;exact⟨v,e,Yt q⟩
 ·refine Yo (Wn h (fun b s'' h2=>?_) fun _ _ z=>z);obtain⟨rfl,q⟩:=h2;exact Yt q
def CY {Q:Option Value->Shared->Prop}{o:Obj}{vs:Array Value} (hh:A.handled=none) (ho:s.heap.get? I=some o) (hd:o.data=.fields vs) (h2:2<vs.size) (fin:∀h',Heap.ExtBut I s.heap h'->Q none { s with heap:=h' }) {R:PySem.Fin->Shared->Prop} :
  wpAny (model prog w) A.in1 (do setField (.ref I) 2 .none;raiseNew (←newExc (.type "StopIteration") [])) R (fun e s'=>wpAny (model prog w) A (isInstance e (.type "StopIteration")) (fun b s''=>b=true/\Q none s'') E s') s:=by
 refine Yo (WD ho hd h2 (Yo ?_));simp only[newExc,newTuple];refine Yo (Wl ?_ (by size_fits));refine Yo (m:=firstArgMember _ _) (wpAny_of_eq (a:=Value.none) (by first|rfl|(simp only[firstArgMember];rfl)) (Wl ?_ (by size_fits)))
 simp only[raiseNew];refine Yo (wpAny_handled ?_);have e1:A.in1.handled=none:=hh;rw[e1];refine Yo (Yt (wpAny_throw ?_));refine wpAny_isInstance (T:="StopIteration") (b:=true) ⟨_,Y7 _ rfl,rfl⟩ isSubtype_stop ?_;exact⟨rfl,fin _ (((Wx ..).extBut.push _).push _)⟩
def SI.step1 {o:Obj}{x:Value} (ho:s.heap.get? I=some o) (hc:o.cls=.type "set_iterator") (hd:o.data=.fields #[first,.int i 0,.ref a,.int n 0,.int ep 0]) :
  SI (s.heap.update I (Obj.mapFields (·.setIfInBounds 1 (rawInt ((i:Int)+1))))) I a first (i+1) n ep:=
 ⟨_,Wj _ ho (WE (Wu hd _)),(QF ..).trans hc,by rw[Wu hd];simp[rawInt]⟩
def NZ {Q:Bool->Shared->Prop} (h:Q (X3 w) s):wpAny (model prog w) A setsByText Q E s:=by
 unfold setsByText;exact Yo (wpAny_askSetting (Yt h))
def Zfc {Q:Option (Value×Nat)->Shared->Prop}{slot:Nat} (S:SetAt w s.heap a js es ep t) (hb:X3 w=true) (h:Q (((pickOrder (w.params.setOrder a ep) es)[i]?).map fun e=>(e.2,slot)) s) :
  wpAny (model prog w) A (setNext a slot i ep) Q E s:=by
 obtain⟨ob,hob,hx,hdd⟩:=S.obj;unfold setNext;refine Yo (WY hob hdd S.fit (Yo (NZ ?_)));rw[hb,Ys rfl]
 dsimp only
 rw[Yq (by simp)];refine Yo ?_;unfold setWalk;refine Yo (WY hob hdd S.fit (Yo (NZ ?_)));rw[hb,Ys rfl];exact Yo (wpAny_askSetting (Yt (Yt h)))
def Zfy {Q:Option (Value×Nat)->Shared->Prop}{slot:Nat} (S:SetAt w s.heap a js es ep t) (hb:X3 w=false) (hp:(!t.plain&&decide (es.size>1))=false)
  (h:Q (match es[SetTable.below t.place slot]?,t.place[SetTable.below t.place slot]? with|some (_,x),some j=>some (x,j+1)|_,_=>none) s):wpAny (model prog w) A (setNext a slot i ep) Q E s:=by
 obtain⟨ob,hob,hx,hdd⟩:=S.obj;unfold setNext;refine Yo (WY hob hdd S.fit (Yo (NZ ?_)));rw[hb,Yq (by decide)]
 dsimp only
 show wpAny _ _ (if (!t.plain&&decide (es.size>1))=true then _ else _) _ _ _;rw[hp,Yq (by decide)];refine Yo (?_:wpAny _ _ (if (!t.led && !es.isEmpty)=true then unsupported "set:maker-not-led" else pure ()) _ _ _);have hl:t.led=true:=by rw[S.tab.led,hb];rfl
 rw[hl,Yq (by simp)];exact Yt (Yt h)
def Zc6 {Q:Value->Shared->Prop}{p:Nat}{e:Int×Value} (S:SetAt w s.heap a js es ep t) (he:es[p]?=some e) (h:Q e.2 s):wpAny (model prog w) A (setNextDrawn a p ep) Q E s:=by
 obtain⟨ob,hob,hx,hdd⟩:=S.obj;unfold setNextDrawn;refine Yo (WY hob hdd S.fit ?_)
 dsimp only
 rw[Yq (by simp),he];exact Yt h
def RQ {Q:Nat->Shared->Prop}{src:Source}{m:Nat} (hm:m≠0) (h:∀k d,k<m->Q k { s with drawn:=d }):wpAny (model prog w) A (choose src m) Q E s:=by
 intro Γ p hΓ;unfold choose;rw[Sem.wp_choose];exact⟨hm,h _ _ (Nat.mod_lt _ (Nat.pos_of_ne_zero hm))⟩
def Bs {α:Type}:∀(xs:List α) (k:Nat) (h:k<xs.length),(xs[k]::xs.eraseIdx k).Perm xs
 | x::r,0,_=>List.Perm.refl _
 | x::r,k+1,h=>by
  have hk:k<r.length:=by simpa using h
  have ih:=Bs r k hk;show(r[k]::x::r.eraseIdx k).Perm (x::r);exact(List.Perm.swap _ _ _).trans (List.Perm.cons _ ih)
def Zed {α:Type}:∀(m:Nat) (xs:List α) (s:Shared) {Q:List α->Shared->Prop},xs.length=m->(∀ys d,ys.Perm xs->Q ys { s with drawn:=d })->wpAny (model prog w) A (drawOrder m xs) Q E s:=by
 intro m
 induction m with
 | zero=>
  intro xs s Q hl h;have e:xs=[]:=WA.mp hl;subst e;exact Yt (h [] s.drawn (List.Perm.refl _))
 | succ m ih=>
  intro xs s Q hl h;cases xs with
  | nil=>simp at hl
  | cons x r=>
   unfold drawOrder;refine Yo (RQ (by simp) fun k d hk=>?_);rw[Yp hk];refine Yo (ih _ _ (by rw[List.length_eraseIdx_of_lt hk];simpa using hl) fun ys d2 hp=>Yt ?_);exact h _ d2 ((List.Perm.cons _ hp).trans (Bs _ _ hk))
def SetAt.keep {h h':Heap} (S:SetAt w h a js es ep t) (k:∀o,h.get? a=some o->h'.get? a=some o):SetAt w h' a js es ep t:=by
 obtain⟨⟨o,ho,r⟩,b,c,d,e,f,g⟩:=S;exact⟨⟨o,k o ho,r⟩,b,c,d,e,f,g⟩
def CW {Q:Value->Shared->Prop} (hit:SI s.heap I a first i n ep) (h:Q (.ref I) s):wpAny (model prog w) A (pyIter (.ref I)) Q E s:=by
 refine wpAny_pyIter_slot hit.typ GI (WR GI hit.typ MU ?_ (Rt _));show wpAny _ _ (ret (.ref I)) _ _ s;exact Yt ⟨_,rfl, "set_iterator",_,hit.typ,si_slot.lookup,h⟩
def EO (hh:A.handled=none) (I a:Addr) (hne:a≠I) (vs:List Value) (hl:vs.length=es.size) (sl:Nat->Nat)
  (nx:∀(A:Around) (E:Value->Shared->Prop) (s:Shared) (i:Nat) (Q:Option (Value×Nat)->Shared->Prop),i<=es.size->SetAt w s.heap a js es ep t->Q ((vs[i]?).map fun v=>(v,sl (i+1))) s->wpAny (model prog w) A (setNext a (sl i) i ep) Q E s) :
  Walks prog w A I [I,a] [I] es.size (fun i v=>vs[i]?=some v) (fun i h=>SI h I a (.int (sl i) 0) i es.size ep/\SetAt w h a js es ep t) where
 sub:=fun b hb=>by simp at hb;simp[hb]
 frame:=fun _ _ _ st k=>⟨st.1.at fun o e=>k I (by simp) o e,st.2.keep fun o e=>k a (by simp) o e⟩
 item:=fun i s Q E hi st fin=>by
  obtain⟨o,ho,hc,hd⟩:=id st.1;refine Sg st.1 st.2 ?_;unfold Py
  dsimp only
  rw[Wb,Wb,Wb];refine Yo (nx _ _ s i _ (Q1 hi) st.2 ?_);have hi2:i<vs.length:=by omega
  rw[Yp hi2];show wpAny _ _ (do setField (.ref I) 0 (rawInt (sl (i+1)));setField (.ref I) 1 (rawInt ((i:Int)+1));ret vs[i]) _ _ s
  refine Yo (WD ho hd (by simp) ?_);have g1:=Wj (Obj.mapFields (·.setIfInBounds 0 (rawInt (sl (i+1):Int)))) ho (WE (Wu hd _));have d1:(Obj.mapFields (·.setIfInBounds 0 (rawInt (sl (i+1):Int))) o).data=.fields #[.int (sl (i+1)) 0,.int i 0,.ref a,.int es.size 0,.int ep 0]:=by rw[Wu hd];simp[rawInt]
  refine Yo (WD g1 d1 (by simp) ?_);have sb:=(Wx s.heap I (Obj.mapFields (·.setIfInBounds 0 (rawInt (sl (i+1):Int))))).trans (Wx _ I (Obj.mapFields (·.setIfInBounds 1 (rawInt ((i:Int)+1)))));refine Yt ⟨_,rfl,fin vs[i] _ s.toks (Yp hi2) ⟨?_,st.2.keep fun o e=>sb.extBut a o hne e⟩ fun b o hb e=>sb.extBut b o (fun z=>hb (by simp[z])) e⟩;exact SI.step1 (s:={ s with heap:=_ }) (x:=.none) g1 ((QF ..).trans hc) d1
 done:=fun s Q E st fin=>by
  obtain⟨o,ho,hc,hd⟩:=id st.1;refine Sg st.1 st.2 ?_;unfold Py
  dsimp only
  rw[Wb,Wb,Wb];refine Yo (nx _ _ s es.size _ (Yx _) st.2 ?_);rw[W5 (by omega)];exact CY hh ho hd (by simp) fun h' eb=>fin h' s.toks fun b o hb e=>eb b o (fun z=>hb (by simp[z])) e
 self:=fun _ _ _ _ st fin=>CW st.1 fin
def Zc2 (hh:A.handled=none) (I a T:Addr) (hne:a≠I) (hT:T≠I) (ps:List Nat) (hl:ps.length=es.size) (hps:∀p∈ps,p<es.size) (vs:List Value) (hvs:vs=ps.map fun p=>((es[p]?).map (·.2)).getD .none) :
  Walks prog w A I [I,a,T] [I] es.size (fun i v=>vs[i]?=some v) (fun i h=>SI h I a (.ref T) i es.size ep/\SetAt w h a js es ep t/\∃o,h.get? T=some o/\∃c,o.data=.seq (ps.map fun(p:Nat)=>rawInt p).toArray c) where
 sub:=fun b hb=>by simp at hb;simp[hb]
 frame:=fun _ _ _ st k=>⟨st.1.at fun o e=>k I (by simp) o e,st.2.1.keep fun o e=>k a (by simp) o e,let ⟨o,ho,c⟩:=st.2.2;⟨o,k T (by simp) o ho,c⟩⟩
 item:=fun i s Q E hi st fin=>by
  obtain⟨o,ho,hc,hd⟩:=id st.1;obtain⟨oT,hoT,c,hdT⟩:=st.2.2;refine Sg st.1 st.2.1 ?_;unfold Py
  dsimp only
  refine Yo (wpAny_seqItems hoT hdT ?_);have hi2:i<ps.length:=by omega
  have e1:(ps.map fun(p:Nat)=>rawInt p).toArray[(i:Int).toNat]?=some (.int ps[i] 0):=by
   rw[Wb,List.getElem?_toArray,Y0,Yp hi2];rfl
  have hp:=hps _ (YH hi2)
  dsimp only
  rw[e1]
  dsimp only
  have e2:es[ps[i]]?=some es[ps[i]]:=W4 hp;have e3:vs[i]?=some (es[ps[i]]).2:=by rw[hvs,Y0,Yp hi2];simp[hp]
  rw[Wb,Wb];refine Yo (Zc6 st.2.1 e2 (Yo (WD ho hd (by simp) ?_)));have sb:=Wx s.heap I (Obj.mapFields (·.setIfInBounds 1 (rawInt ((i:Int)+1))));exact Yt ⟨_,rfl,fin _ _ s.toks e3 ⟨SI.step1 (x:=.none) ho hc hd,st.2.1.keep fun o e=>sb.extBut a o hne e,oT,sb.extBut T oT hT hoT,c,hdT⟩ fun b o hb e=>sb.extBut b o (fun z=>hb (by simp[z])) e⟩
 done:=fun s Q E st fin=>by
  obtain⟨o,ho,hc,hd⟩:=id st.1;obtain⟨oT,hoT,c,hdT⟩:=st.2.2;refine Sg st.1 st.2.1 ?_;unfold Py
  dsimp only
  refine Yo (wpAny_seqItems hoT hdT ?_)
  have e1:(ps.map fun(p:Nat)=>rawInt p).toArray[(es.size:Int).toNat]?=none:=by
   rw[Wb,List.getElem?_toArray,Y0,W5 (by omega)];rfl
  dsimp only
  rw[e1]
  dsimp only
  refine Yo (WD ho hd (by simp) ?_);have g1:=Wj (Obj.mapFields (·.setIfInBounds 0 (rawInt 0))) ho (WE (Wu hd _));have sb:=Wx s.heap I (Obj.mapFields (·.setIfInBounds 0 (rawInt 0)));refine CY (s:={ s with heap:=_ }) hh g1 (Wu hd _) (by simp) fun h' eb=>fin h' s.toks fun b o hb e=>eb b o (fun z=>hb (by simp[z])) (sb.extBut b o (fun z=>hb (by simp[z])) e)
 self:=fun _ _ _ _ st fin=>CW st.1 fin
def Zci {α:Type} (nx:Nat->Nat):∀(m k:Nat) (left:List α) (out:Array α),left.length=m->(pickOrder.go nx m k left out).toList.Perm (out.toList++left):=by
 intro m
 induction m with
 | zero=>
  intro k left out hl;have e:left=[]:=WA.mp hl;subst e;show out.toList.Perm (out.toList++[]);rw[Wc]
 | succ m ih=>
  intro k left out hl;have hlt:nx k % left.length<left.length:=Nat.mod_lt _ (by omega);unfold pickOrder.go;rw[Yp hlt]
  dsimp only
  refine(ih _ _ _ (by rw[List.length_eraseIdx_of_lt hlt];omega)).trans ?_;rw[Array.toList_push,Vk];exact(Bs left _ hlt).append_left _
def GZ {α:Type} (nx:Nat->Nat) (xs:Array α):(pickOrder nx xs).toList.Perm xs.toList:=by
 have:=Zci nx xs.size 0 xs.toList #[] (by simp)
 simpa [pickOrder] using this
def slotAt (t:SetTable) (i:Nat):Nat:=if i=0 then 0 else t.place.getD (i-1) 0+1
def DR {m:Nat} (h:t.fits m=true):t.place.size=m:=by
 simp only[SetTable.fits,Wp,beq_iff_eq] at h;exact h.1
def Zdg (S:SetAt w s.heap a js es ep t) {i:Nat} (hi:i<=es.size):SetTable.below t.place (slotAt t i)=i:=by
 have hz:=DR S.fit;have R:=S.tab.ris.ris;refine Zc7 R (by omega) (fun k hk=>?_) fun k h1 h2=>?_
 ·unfold slotAt;rw[Yq (by omega)];by_cases e:k=i-1
  ·rw[e];omega
  ·have:=R k (i-1) (by omega) (by omega)
   omega
 ·unfold slotAt;by_cases h0:i=0
  ·rw[Ys h0];omega
  ·rw[Yq h0]
   have:=R (i-1) k (by omega) h2
   omega
def Zdc {Q:Value->Shared->Prop}{A':Around} (hh:A'.handled=none) (S:SetAt w s.heap a js es ep t)
  (fin:∀(I:Addr) (fp:List Addr) (vs:List Value) (St:Nat->Heap->Prop) (h1:Heap) (d1:Drawn),Walks prog w A' I fp [I] es.size (fun i v=>vs[i]?=some v) St->St 0 h1->(∀b∈fp,b=a\/s.heap.get? b=none)->vs.length=es.size->vs.Perm (es.toList.map (·.2))->
   s.heap.get? I=none->(∀b o,s.heap.get? b=some o->h1.get? b=some o)->Q (.ref I) { s with heap:=h1,drawn:=d1 }) :
  wpAny (model prog w) A (pyIter (.ref a)) Q E s:=by
 obtain⟨ob,hob,hx,hdd⟩:=S.obj;have hT:s.TypeIs (.ref a) "set":=⟨ob,hob,hx.1⟩;have ha:a<s.heap.objs.size:=Y3 hob
 have new:∀b,s.heap.objs.size<=b->s.heap.get? b=none:=fun b hb=>by
  cases e:s.heap.get? b with
  | none=>rfl
  | some o=>exact absurd (Y3 e) (QA.mpr hb)
 refine wpAny_pyIter_slot hT F.slot_set_iter (WR F.slot_set_iter hT Im ?_ (F.args_set_iter_1 _));unfold Builtin.«frozenset.__iter__»;show wpAny _ _ (Builtin.Frozenset.sizeOf a >>= _) _ _ s;unfold Builtin.Frozenset.sizeOf;refine Yo (Yo (wpAny_setEntries_of hob hdd S.fit (Yt ?_)));refine Yo ?_;unfold setDrawn;refine Yo (WY hob hdd S.fit (Yo (NZ (Yt ?_))))
 dsimp only
 change wpAny _ _ (if (!X3 w&&(!t.plain&&decide (es.size>1)))=true then _ else _) _ _ _;cases hd:(!X3 w&&(!t.plain&&decide (es.size>1))) with
 | false=>
  rw[Yq (by decide)];refine Yo (Yt (Yo (wpAny_setEpoch_of hob hdd S.fit (Yo (Wl (Yt ⟨_,rfl, "set_iterator",_,⟨_,Y7 _ rfl,rfl⟩,si_slot.lookup,?_⟩))))));have hne:a≠s.heap.objs.size:=YK ha;have S1:SetAt w (s.heap.push { cls:=.type "set_iterator",data:=.fields [rawInt 0,rawInt 0,.ref a,rawInt es.size,rawInt ep].toArray }) a js es ep t:=S.keep fun o e=>Yu _ e
  have lt:∀b∈[s.heap.objs.size,a],b=a\/s.heap.get? b=none:=fun b hb=>by
   rcases Y4.mp hb with rfl|hb
   ·exact .inr (new _ (Yx _))
   ·exact .inl (Yw.mp hb)
  cases hb:X3 w with
  | true=>
   have hl:((pickOrder (w.params.setOrder a ep) es).toList.map (·.2)).length=es.size:=by
    rw[Yn,(GZ _ _).length_eq];simp
   refine fin _ _ _ _ _ s.drawn (EO (t:=t) (js:=js) (ep:=ep) hh s.heap.objs.size a hne ((pickOrder (w.params.setOrder a ep) es).toList.map (·.2)) hl (fun _=>0) fun A E s i Q hi S' q=>Zfc S' hb ?_) ⟨⟨_,Y7 _ rfl,rfl,rfl⟩,S1⟩ lt hl ((GZ _ _).map _) (new _ (Yx _)) fun b o e=>Yu _ e;rw[Y0] at q;rw[←Wq];cases e:(pickOrder (w.params.setOrder a ep) es).toList[i]? with
   | none=>rw[e] at q;exact q
   | some x=>rw[e] at q;exact q
  | false=>
   have hp:(!t.plain&&decide (es.size>1))=false:=by rw[hb] at hd;simpa using hd
   refine fin _ _ _ _ _ s.drawn (EO (t:=t) (js:=js) (ep:=ep) hh s.heap.objs.size a hne (es.toList.map (·.2)) (by simp) (slotAt t) fun A E s i Q hi S' q=>Zfy S' hb hp ?_) ⟨⟨_,Y7 _ rfl,rfl,rfl⟩,S1⟩ lt (by simp) (List.Perm.refl _) (new _ (Yx _)) fun b o e=>Yu _ e;rw[Zdg S' hi];have hz:=DR S'.fit;rw[Y0] at q;by_cases hlt:i<es.size
   ·have e1:es[i]?=some es[i]:=W4 hlt;have e2:t.place[i]?=some t.place[i]:=W4 (by omega);have e3:es.toList[i]?=some es[i]:=by rw[Wq];exact e1
    rw[e3] at q;rw[e1,e2]
    have e4:slotAt t (i+1)=t.place[i]+1:=by
     unfold slotAt;rw[Yq (by omega)]
     have:i<t.place.size:=by omega
     simp[Array.getD,this]
    have q':Q (some (es[i].2,slotAt t (i+1))) s:=q;rw[e4] at q';exact q'
   ·have e1:es[i]?=none:=QI (by omega);have e3:es.toList[i]?=none:=by rw[Wq];exact e1
    rw[e3] at q;rw[e1];exact q
 | true=>
  rw[Ys rfl];refine Yo (Zed _ _ s (by simp) fun ps d hp=>?_);have hl:ps.length=es.size:=by rw[hp.length_eq];simp
  have hps:∀p∈ps,p<es.size:=fun p hm=>List.mem_range.mp (hp.mem_iff.mp hm);refine Yo (Wl ?_ (by show(ps.map fun(i:Nat)=>rawInt i).toArray.size<=sizeLine;rw[Y5,Yn,hl];exact QE S.few));have hob1:=Yu { cls:=.type "tuple",data:=.seq (ps.map fun(i:Nat)=>rawInt i).toArray } hob;refine Yo (wpAny_setEpoch_of hob1 hdd S.fit (Yo (Wl (Yt ⟨_,rfl, "set_iterator",_,⟨_,Y7 _ rfl,rfl⟩,si_slot.lookup,?_⟩))));have zT:(s.heap.push { cls:=.type "tuple",data:=.seq (ps.map fun(i:Nat)=>rawInt i).toArray }).objs.size=s.heap.objs.size+1:=Qd ..
  have eq1:(List.range es.size).map (fun p=>((es[p]?).map (·.2)).getD Value.none)=es.toList.map (·.2):=by
   apply Vl;intro k;by_cases hk:k<es.size
   ·simp[hk]
   ·have:es.size<=k:=by omega
    simp[this]
  refine fin _ _ _ _ _ d (Zc2 (t:=t) (js:=js) (ep:=ep) hh _ a s.heap.objs.size ?_ ?_ ps hl hps _ rfl) ⟨⟨_,Y7 _ rfl,rfl,rfl⟩,S.keep fun o e=>Yu _ (Yu _ e),_,Yu _ (Y7 _ rfl),0,rfl⟩ (fun b hb=>?_) (by rw[Yn];exact hl) ?_ (new _ ?_) fun b o e=>Yu _ (Yu _ e)
  ·show a≠_;rw[zT];exact YK (WZ ha)
  ·show s.heap.objs.size≠_;rw[zT];exact YK (WQ _)
  ·rcases Y4.mp hb with rfl|hb
   ·refine .inr (new _ ?_);show s.heap.objs.size<=_;rw[zT];exact QG _
   ·rcases Y4.mp hb with rfl|hb
    ·exact .inl rfl
    ·rw[Yw.mp hb];exact .inr (new _ (Yx _))
  ·rw[←eq1];exact hp.map _
  ·show s.heap.objs.size<=_;rw[zT];exact QG _
def Zdi {Q:Bool->Shared->Prop} (hT:s.TypeIs (.ref a) "set") (h:Q false s):wpAny (model prog w) A (Builtin.List.listLengthHint (.ref a)) Q E s:=by
 unfold Builtin.List.listLengthHint;refine Yo (wpAny_specialOf hT F.slot_set_len.lookup ?_);generalize eid:("set.__len__" : String)=z
 wp_delta
 have sp:splitId z=some ("set","__len__"):=by subst eid;decide +kernel
 rw[sp];subst eid;refine Yo (wpAny_isInstance (T:="set") (b:=true) hT (by rw[isSubtype_type];kernel_rfl) (wpAny_ite_split (fun z=>absurd z (by decide)) fun _=>?_));exact wpAny_ite_split (fun _=>Yo (wpAny_typeOf hT (Yt h))) fun z=>absurd (by decide +kernel) z
def Mm {R:Result->Shared->Prop} (hh:A.handled=none) (S:SetAt w s.heap a js es ep t) (D:Addr) (c:Nat) (res:Value) (hD:s.heap.get? D=some { cls:=.type "list",data:=.seq #[] c }) (hne:D≠a)
  (fin:∀(h':Heap) (tk:Nat) (d:Drawn) (vs:List Value) (c':Nat),vs.Perm (es.toList.map (·.2))->h'.get? D=some { cls:=.type "list",dict:=none,data:=.seq vs.toArray c',slots:=#[] }->(∀b o,b≠D->s.heap.get? b=some o->h'.get? b=some o)->R (.ok (.ret res)) { s with heap:=h',toks:=tk,drawn:=d }) :
  wpAny (model prog w) A.in1 (Builtin.List.listExtendWith (.ref D) (.ref a) res) (fun f s'=>match f with | .done f=>R (.ok f) s' | .again c'=>c'.quiet=true/\codeAny (model prog w) A c' R s') (fun e s'=>R (.error e) s') s:=by
 obtain⟨ob,hob,hx,hdd⟩:=S.obj;have hT:s.TypeIs (.ref a) "set":=⟨ob,hob,hx.1⟩;unfold Builtin.List.listExtendWith;refine Yo (wpAny_typeOf (T:="set") hT ?_);have n1:Builtin.List.listSameRef (.ref D) (.ref a)=false:=by simp[Builtin.List.listSameRef,hne]
 have n2:(Value.type "set" == Value.type "list")=false:=by decide
 have n3:(Value.type "set" == Value.type "tuple")=false:=by decide
 simp only[n1,n2,n3,Bool.or_false,Q5,QM];refine Yo (Zdc (A':=A.in1) hh S fun I fp vs St h1 d1 W st0 flt hl hp hI keep=>?_);have hDI:D≠I:=fun z=>by rw[←z,hD] at hI;cases hI
 have loop:∀(h:Heap) (tk c1:Nat),St 0 h->(∀b o,b≠D->s.heap.get? b=some o->h.get? b=some o)->h.get? D=some { cls:=.type "list",data:=.seq #[] c1 }->D∉fp->
   codeAny (model prog w) A (.builtin "list.extend.loop" ⟨[.ref D,.ref I,res],[]⟩) R { s with heap:=h,toks:=tk,drawn:=d1 }:=fun h tk c1 st hk hD1 hDf=>by
  refine codeAny_extend_loopS W.toS (QE S.few) D hDf res es.size 0 _ #[] c1 rfl (Wz _) st hD1 (ItemsOf.nil _) fun s' acc c' hm hD' hacc=>?_
  have ev:acc.toList=vs:=by
   apply Vl;intro k;by_cases hk2:k<acc.size
   ·have e1:acc[k]?=some acc[k]:=W4 hk2;rw[Wq,e1];exact(hacc.2 k _ e1).symm
   ·rw[Wq,QI (by omega),W5 (by have:=hacc.1;omega)]
  have e2:acc=vs.toArray:=by rw[←ev]
  rw[e2] at hD';rw[Moved.eq_with hm];refine fin s'.heap s'.toks d1 vs c' hp hD' fun b o hb e=>hm.heap b o (fun hmem=>?_) (hk b o hb e);rcases Y4.mp hmem with z|z
  ·exact hb z
  ·rw[Yw.mp z,hI] at e;cases e
 have hDf:D∉fp:=fun hm=>by
  rcases flt D hm with z|z
  ·exact hne z
  ·rw[hD] at z;cases z
 have hT1:Shared.TypeIs { s with heap:=h1,drawn:=d1 } (.ref a) "set":=⟨ob,keep _ _ hob,hx.1⟩
 refine Yo (WL (Zdi hT1 ?_));have hD1:=keep _ _ hD;refine wpAny_ite_split (fun _=>?_) fun _=>Yt ⟨QK F.plain_extend_loop _,loop _ _ c st0 (fun b o _ e=>keep b o e) hD1 hDf⟩;refine Yo (wpAny_rule (Yo (?_:wpAny _ _ (updateSeq D (·.push .none) >>= fun _=>updateSeq D (·.pop)) _ _ _)));refine Yo (wpAny_updateSeq hD1 rfl ?_);have hD2:=Wj (Obj.mapSeq (·.push Value.none)) hD1 rfl;refine wpAny_updateSeq (hz:=by seq_fits) hD2 rfl ?_;have hD3:=Wj (Obj.mapSeq (·.pop)) hD2 rfl
 have oth:∀b o,b≠D->h1.get? b=some o->((h1.update D (Obj.mapSeq (·.push Value.none))).update D (Obj.mapSeq (·.pop))).get? b=some o:=fun b o hb e=>
  (Wo _ _ (Ne.symm hb)).trans ((Wo _ _ (Ne.symm hb)).trans e)
 exact Yt ⟨QK F.plain_extend_loop _,loop _ _ _ (W.frame 0 _ _ st0 fun b hb o e=>oth b o (fun z=>hDf (z▸hb)) e) (fun b o hb e=>oth b o hb (keep b o e)) hD3 hDf⟩
def Rc {R:List Value->Shared->Prop} (hh:A.handled=none) (S:SetAt w s.heap a js es ep t)
  (fin:∀(h':Heap) (tk:Nat) (d:Drawn) (vs:List Value),vs.Perm (es.toList.map (·.2))->(∀b o,s.heap.get? b=some o->h'.get? b=some o)->s.heap.objs.size<h'.objs.size->R vs { s with heap:=h',toks:=tk,drawn:=d }) :
  wpAny (model prog w) A (collect (.ref a)) R E s:=by
 obtain⟨ob,hob,hx,hdd⟩:=S.obj;have hne:s.heap.objs.size≠a:=Vo (Y3 hob);unfold collect;refine Yo (wpAny_runValue (WV entry_proto_collect' ?_));have u1:=Qb (A:=A) PySem.F.plain_proto_collect ⟨[.ref a],[]⟩;rw[u1];refine(show wpAny _ A.in1 (newList [] >>= fun l=>again (.builtin "list.__iadd__" ⟨[l,.ref a],[]⟩)) _ _ s from Yo (Wl (Yt ⟨QK PySem.F.plain_list_iadd _,WV entry_list_iadd' ?_⟩)))
 have u2:=Qb (A:=A) PySem.F.plain_list_iadd ⟨[.ref s.heap.objs.size,.ref a],[]⟩;rw[u2];have g1:(s.heap.push { cls:=.type "list",data:=.seq ([]:List Value).toArray }).get? s.heap.objs.size=some { cls:=.type "list",data:=.seq #[] }:=Y7 _ rfl;show wpAny _ A.in1 (Builtin.List.listExtendWith (.ref s.heap.objs.size) (.ref a) (.ref s.heap.objs.size)) _ _ _
 have key:=Mm (prog:=prog) (A:=A) (s:={ s with heap:=s.heap.push { cls:=.type "list",data:=.seq ([]:List Value).toArray } })
  (R:=fun q s'=>∃h' tk d vs c',q=.ok (.ret (.ref s.heap.objs.size))/\s'={ s with heap:=h',toks:=tk,drawn:=d }/\vs.Perm (es.toList.map (·.2))/\(∀b o,s.heap.get? b=some o->h'.get? b=some o)/\
   h'.get? s.heap.objs.size=some { cls:=.type "list",dict:=none,data:=.seq vs.toArray c',slots:=#[] }) hh (S.keep fun o e=>Yu _ e) s.heap.objs.size 0 (.ref s.heap.objs.size) g1 hne
  fun h' tk d vs c' hp hD hk=>⟨h',tk,d,vs,c',rfl,rfl,hp,fun b o e=>hk b o (YK (Y3 e)) (Yu _ e),hD⟩
 refine Wn key (fun f s' x=>?_) fun e s' x=>?_
 ·cases f with
  | done f=>
   obtain⟨h',tk,d,vs,c',e,rfl,hp,hk,hD⟩:=x;cases e
   refine(show wpAny _ A (load s.heap.objs.size >>= _) _ _ _ from Yo (wpAny_load hD (Yt ?_)))
   exact fin h' tk d vs hp hk (Y3 hD)
  | again c1=>
   refine⟨x.1,Qf x.2 fun q s2 y=>?_⟩;obtain⟨h',tk,d,vs,c',rfl,rfl,hp,hk,hD⟩:=y;refine(show wpAny _ A (load s.heap.objs.size >>= _) _ _ _ from Yo (wpAny_load hD (Yt ?_)))
   exact fin h' tk d vs hp hk (Y3 hD)
 ·obtain⟨_,_,_,_,_,e',_⟩:=x;cases e'
def G3:∀{l:List (Int×Value)},(∀e∈l,Ent e)->IntsAre (l.map (·.2)) (l.map keyOf)
 | [],_=>.nil
 | e::r,h=>by
  obtain⟨k,t,rfl⟩:=h e YM;exact .cons k t (G3 fun x hx=>h x (YG _ hx))
def Zcj {vs us:List Value} (p:vs.Perm us):∀{ns:List Int},IntsAre us ns->∃ms,IntsAre vs ms/\ms.Perm ns:=by
 induction p with
 | nil=>intro ns h;cases h;exact⟨[],.nil,List.Perm.refl _⟩
 | cons x _ ih=>
  intro ns h;cases h with
  | cons n t r=>
   obtain⟨ms,h1,h2⟩:=ih r;exact⟨n::ms,.cons n t h1,List.Perm.cons _ h2⟩
 | swap x y l=>
  intro ns h;cases h with
  | cons n t r=>
   cases r with
   | cons n' t' r'=>exact⟨n'::n::_,.cons n' t' (.cons n t r'),List.Perm.swap _ _ _⟩
 | trans _ _ ih1 ih2=>
  intro ns h;obtain⟨ms,h1,h2⟩:=ih2 h;obtain⟨ks,h3,h4⟩:=ih1 h1;exact⟨ks,h3,h4.trans h2⟩
def HS {Q:Value->Shared->Prop} (hh:A.handled=none) (B:SetB w s.heap a js) (h64:js.length<64)
  (fin:∀(l:Addr) (h':Heap) (tk:Nat) (d:Drawn) (out:List Value) (ns:List Int) (e:Nat),IntsAre out ns->ns.Perm js->ns.Pairwise (·<=·)->s.heap.get? l=none->s.heap.objs.size<=l->h'.get? l=some { cls:=.type "list",data:=.seq out.toArray e }->
   (∀b o,s.heap.get? b=some o->h'.get? b=some o)->Q (.ref l) { s with heap:=h',toks:=tk,drawn:=d }) :
  wpAny (model prog w) A (call (.builtin "sorted") [.ref a]) Q E s:=by
 obtain⟨es,ep,t,S⟩:=B;refine Calls.call_function_entry kind_sorted plain_sorted entry_sorted (args_sorted1 _) ?_;unfold Builtin.«sorted»;refine Yo (m:=checkCount "sorted" 1 1 _) (Yt (Yo (Rc (A:=A.in1) hh S fun h1 tk d vs hp keep big=>?_)));obtain⟨ms,hI,hms⟩:=Zcj hp (G3 S.ent);have hms2:ms.Perm js:=hms.trans S.per;have hl:vs.length<64:=by rw[IntsAre.length hI,hms2.length_eq];exact h64
 refine Yo (wpAny_newList ?_ (by have:(64:Nat)<=sizeLine:=(by decide);omega));have g1:(h1.push (seqObj "list" vs.toArray 0)).get? h1.objs.size=some (seqObj "list" vs.toArray 0):=Y7 _ rfl;refine Yo (WL (WR slot_list_sort ⟨_,g1,rfl⟩ entry_list_sort (list_sort_tree g1 hI hl fun out ns a1 a2 a3=>⟨_,rfl,?_⟩) (args_list_sort _)));obtain⟨e,he⟩:=sortedHeap_at (out:=out) g1;have hsz:s.heap.objs.size<=h1.objs.size:=Q1 big;refine Yt ⟨_,rfl,fin h1.objs.size _ tk d out.toList ns e a1 (a2.trans hms2) a3 ?_ hsz (by simpa [seqObj] using he) fun b o q=>?_⟩
 ·cases q:s.heap.get? h1.objs.size with
  | none=>rfl
  | some o=>exact absurd (Y3 (keep _ _ q)) (W8 _)
 ·have hlt:=Y3 (keep b o q);rw[sortedHeap_old (YK hlt) (by rw[size_push'];exact WZ hlt)];exact Yu _ (keep b o q)
end
end SetR
namespace Own
open PySem PySem.Spec PyProof.Rows L2
def SetH (w:World) (l:Addr) (js:List Int):HO:=.ext fun h=>SetR.SetB w h l js
section
variable {X:Cx}
def Mq {P:Program}{w:World}{H:Hp}{h:Heap}{l:Addr}{js:List Int} (B:SetR.SetB w h l js):ObjOk P w H h l (SetH w l js):=by
 refine⟨B,?_,fun h1 h2 B1 k=>B1.at k⟩;obtain⟨es,ep,t,S⟩:=B;obtain⟨o,ho,_⟩:=S.obj;exact⟨o,ho⟩
def Ru (hc:X.calm=true):UB X (.type "set") (fun xs H Q=>∃(p:Addr) (ns:List Int),xs=[.ref p]/\SqL X.K H p (ns.map V.int)/\ns.length+1<4096/\∀l,H l=none->Q (.ref l) (upd H l (SetH X.w l (ns.foldl SetR.addJ [])))):=by
 intro pins s σ H xs us Q I rv h;obtain⟨p,ns,rfl,hS,hz,q⟩:=h;obtain⟨u,rfl,ru⟩:=rv.one;obtain rfl:u=Value.ref p:=ru;obtain⟨its,r,pl,_⟩:=I.list hS;refine SetR.RJ (I.ok.hd hc) pl.isList (by simpa using Se r) hz fun h' tk B keep=>?_;have hf:H s.heap.objs.size=none:=I.hok.fresh (Yx _);exact⟨.ref s.heap.objs.size,upd H s.heap.objs.size (SetH X.w s.heap.objs.size _),I.laid (t':=tk) (fun b o e=>keep b o (Y3 e) e) (Yx _) (Mq B),rfl,q _ hf⟩
def Du (hc:X.calm=true):UB X (.builtin "sorted") (fun xs H Q=>∃(p:Addr) (js:List Int),xs=[.ref p]/\js.length<64/\(SqL X.K H p (js.map V.int)\/H p=some (SetH X.w p js))/\
  ∀(l:Addr) (ns:List Int),H l=none->ns.Perm js->ns.Pairwise (·<=·)->Q (.ref l) (upd H l (.lst (ns.map V.int)))):=by
 intro pins s σ H xs us Q I rv h;obtain⟨p,js,rfl,hz,hS,q⟩:=h;obtain⟨u,rfl,ru⟩:=rv.one;obtain rfl:u=Value.ref p:=ru
 have big:∀{ns:List Int},ns.Perm js->(ns.map V.int).length<=sizeLine:=fun hp=>by
  rw[Yn,hp.length_eq]
  have:(64:Nat)<=sizeLine:=by decide
  omega
 rcases hS with hS|hS
 ·obtain⟨its,r,pl,_⟩:=I.list hS;have hI:IntsAre its js:=by simpa using Se r
  refine sorted_ints pl.isList hI (by rw[IntsAre.length hI];exact hz) fun out ns a1 a2 a3=>?_;obtain⟨e,he⟩:=sortedAll_at s.heap its out;have hf:H (s.heap.objs.size+1)=none:=I.hok.fresh (QG _);refine⟨.ref (s.heap.objs.size+1),upd H (s.heap.objs.size+1) (.lst (ns.map V.int)),I.laid (t':=s.toks) (fun b o e=>sortedAll_old e) (QG _) ⟨big a2,out.toList,e,NY a1,?_⟩,rfl,q _ ns hf a2 a3⟩;simpa [seqObj] using he
 ·have B:SetR.SetB X.w s.heap p js:=(show ObjOk X.prog X.w H s.heap p (SetH X.w p js) from I.hok p _ hS).1
  refine SetR.HS (I.ok.hd hc) B hz fun l h' tk d out ns e a1 a2 a3 nl hl he keep=>?_;have hf:H l=none:=I.hok.fresh hl;refine⟨.ref l,upd H l (.lst (ns.map V.int)),?_,rfl,q l ns hf a2 a3⟩;have ok:HOk X.prog X.w (upd H l (.lst (ns.map V.int))) h':=I.hok.laid keep hl ⟨big a2,out,e,NY a1,he⟩;exact I.call (ch:=[]) (h':=h') (g':=s.gens) (d':=d) (t':=tk) (Un.laid keep hl hf) ok I.bare (fun b z=>absurd z (by simp))
end
section
variable {X:Cx}{K:Za}
def Ck (hK:X.K=K:=by rfl):IxR X (fun x y H Q=>rIxL K x y H Q\/rIxT K x y H Q):=by subst hK;exact Iq
def Lm (hK:X.K=K:=by rfl):UB X (.builtin "len") (fun xs H Q=>∃x n,xs=[x]/\LenV K x H n/\Q (.int n) H):=by subst hK;exact Zel
def Zaj (hK:X.K=K:=by rfl):OpR X (compareOp .In) (rIn K false):=by subst hK;exact Rj
def RF (hK:X.K=K:=by rfl):OpR X (compareOp .NotIn) (rIn K true):=by subst hK;exact IM
def Nc {pos:Pos}{es:List Expr}{k:Nat}{t:TGs}{n:Nat} (hc:X.calm=true) (h:PGs X es t) (hK:X.K=K:=by rfl)
  (hn:(assignEach es X.env).length=n:=by rfl) (hst:(assignEach es X.env).findIdx? (·.1)=none:=by rfl):PG X (.Tuple es k pos) (gTup K n t):=by subst hK;exact IZ hc h hn hst
end
section
variable {α:Type}{R:Hp->V->α->Prop}{φ:List (Option Nat)}{g:TG}{tc:TT}{te:TE}{σ:L2.St}{H1:Hp}{F:Hp->Prop}{D:Addr}
def IP {K:Za}{a:Addr}{xs:List V}{ds:List α} (f:α->Option V) (hS:SqL K H1 a xs) (hd:xs.length=ds.length) (hD:H1 D=none) (hz:ds.length<=sizeLine)
  (turn:∀(i:Nat) (x:V) (d:α) (H2:Hp),xs[i]?=some x->ds[i]?=some d->Same H1 H2->∀k:Option V->Hp->Prop,k (f d) H2->g x (atStart φ σ) H2 fun σ2 H4=>Sub (atStart φ σ) σ2/\tc σ2 H4 fun b H5=>if b=true then te σ2 H5 fun y H6=>k (some y) H6 else k none H5)
  (done:F (upd H1 D (.lst (ds.filterMap f)))) :
  ∃W:Nat->Nat->List V->Hp->Prop,(∃m,W 0 m [] (upd H1 D (.lst [])))/\
   ∀i m ys H2,W i m ys H2->((Itl K a).stop i H2/\F H2)\/((Itl K a).go i H2/\∀x H3,(Itl K a).yld i H2 x H3->g x (atStart φ σ) H3 fun σ2 H4=>Sub (atStart φ σ) σ2/\tc σ2 H4 fun b H5=>
    if b=true then te σ2 H5 fun y H6=>H6 D=some (.lst ys)/\ys.length<sizeLine/\∃m',m'<m/\W (i+1) m' (ys++[y]) (upd H6 D (.lst (ys++[y]))) else ∃m',m'<m/\W (i+1) m' ys H5):=by
 refine⟨fun i m ys H2=>m=ds.length-i/\i<=ds.length/\ys=(ds.take i).filterMap f/\H2=upd H1 D (.lst ys),⟨ds.length,by simp,Wz _,by simp,rfl⟩,?_⟩;rintro i m ys H2 ⟨rfl,hi,rfl,rfl⟩;have S2:Same H1 (upd H1 D (.lst ((ds.take i).filterMap f))):=U9 hD;by_cases hlt:i<ds.length
 ·refine .inr ⟨⟨xs,xs[i]'(by omega),S2.seq hS,by simp[hd,hlt]⟩,fun x H3 y=>?_⟩;obtain⟨e,y⟩:=y;subst e;have hx:=y xs (S2.seq hS);have ed:ds[i]?=some ds[i]:=Yp hlt
  refine turn i x ds[i] _ hx ed S2 (fun o H'=>match o with
   | some y=>H' D=some (.lst ((ds.take i).filterMap f))/\((ds.take i).filterMap f).length<sizeLine/\∃m',m'<ds.length-i/\(m'=ds.length-(i+1)/\i+1<=ds.length/\(ds.take i).filterMap f++[y]=(ds.take (i+1)).filterMap f/\upd H' D (.lst ((ds.take i).filterMap f++[y]))=upd H1 D (.lst ((ds.take i).filterMap f++[y])))
   | none=>∃m',m'<ds.length-i/\(m'=ds.length-(i+1)/\i+1<=ds.length/\(ds.take i).filterMap f=(ds.take (i+1)).filterMap f/\H'=upd H1 D (.lst ((ds.take i).filterMap f)))) ?_
  have et:ds.take (i+1)=ds.take i++[ds[i]]:=W2 hlt;cases ef:f ds[i] with
  | some y=>
   refine⟨Uo,?_,ds.length-(i+1),by omega,rfl,hlt,?_,IE⟩
   ·have h1:=List.length_filterMap_le f (ds.take i);rw[Wv] at h1;omega
   ·rw[et,Qu];simp[ef]
  | none=>
   refine⟨ds.length-(i+1),by omega,rfl,hlt,?_,rfl⟩;rw[et,Qu];simp[ef]
 ·have e:i=ds.length:=by omega
  subst e;refine .inl ⟨⟨xs,S2.seq hS,by omega⟩,?_⟩;rw[Qz];exact done
end
def eqL (xs ys:List V):Bool:=decide (xs.length=ys.length)&&(List.range xs.length).all fun j=>eqV (xs.getD j .non) (ys.getD j .non)
def rEqL (K:Za) (neg:Bool):R2:=fun x y H Q=>∃(p q:Addr) (xs ys:List V),x=.ref p/\y=.ref q/\SqL K H p xs/\SqL K H q ys/\xs.all Xb=true/\ys.all Xb=true/\Q (.bl (if neg then !eqL xs ys else eqL xs ys)) H
section
variable {X:Cx}
def Fq {A:Around}{s:Shared}{xs ys:List V}{us ws:List Value} (r1:Vals xs us) (r2:Vals ys ws) (f1:xs.all Xb=true) (f2:ys.all Xb=true) (j:Nat) (h1:j<us.toArray.size) (h2:j<ws.toArray.size) :
  SeqAt.EqAt A s us.toArray[j] ws.toArray[j] (eqV (xs.getD j .non) (ys.getD j .non)):=by
 have l1:=r1.length;have l2:=r2.length;have g1:j<us.length:=by simpa using h1
 have g2:j<ws.length:=by simpa using h2
 have k1:xs[j]?=some (xs[j]'(by omega)):=Yp _;have k2:ys[j]?=some (ys[j]'(by omega)):=Yp _;obtain⟨u,eu,ru⟩:=r1.get k1;obtain⟨w,ew,rw'⟩:=r2.get k2
 have e1:us.toArray[j]=u:=by
  have:us[j]?=some us[j]:=Yp g1
  rw[this] at eu;simpa using Y2 eu
 have e2:ws.toArray[j]=w:=by
  have:ws[j]?=some ws[j]:=Yp g2
  rw[this] at ew;simpa using Y2 ew
 have d1:xs.getD j .non=xs[j]'(by omega):=by rw[Y1,k1];rfl
 have d2:ys.getD j .non=ys[j]'(by omega):=by rw[Y1,k2];rfl
 rw[e1,e2,d1,d2];exact Ct ru rw' (Qg.mp f1 _ (YH _)) (Qg.mp f2 _ (YH _))
def GR (hu:X.A.units<cLine):OpR X (compareOp .Eq) (rEqL X.K false):=by
 intro pins s σ H x y v u Q I rx ry h;obtain⟨p,q,xs,ys,rfl,rfl,hp,hq,f1,f2,k⟩:=h;obtain rfl:v=Value.ref p:=rx;obtain rfl:u=Value.ref q:=ry;obtain⟨us,r1,p1,_⟩:=I.list hp;obtain⟨ws,r2,p2,_⟩:=I.list hq;have l1:=r1.length;have l2:=r2.length;have k':Q (.bl (eqL xs ys)) H:=k;by_cases e:xs.length=ys.length
 ·refine SeqAt.eq_listAt p1.isList p2.isList (by simp;omega) hu (fun j h1 h2=>Fq r1 r2 f1 f2 j h1 h2) ⟨.bl (eqL xs ys),H,I,?_,k'⟩;show _=Value.bool (eqL xs ys);unfold eqL;rw[Yr e,Qk,Y5,←l1]
 ·refine SeqAt.eq_list_lengthsAt p1.isList p2.isList (by simp;omega) hu ⟨.bl (eqL xs ys),H,I,?_,k'⟩;show _=Value.bool (eqL xs ys);unfold eqL;rw[YB e];rfl
def Zcx (hu:X.A.units<cLine):OpR X (compareOp .NotEq) (rEqL X.K true):=by
 intro pins s σ H x y v u Q I rx ry h;obtain⟨p,q,xs,ys,rfl,rfl,hp,hq,f1,f2,k⟩:=h;obtain rfl:v=Value.ref p:=rx;obtain rfl:u=Value.ref q:=ry;obtain⟨us,r1,p1,_⟩:=I.list hp;obtain⟨ws,r2,p2,_⟩:=I.list hq;have l1:=r1.length;have l2:=r2.length;have k':Q (.bl (!eqL xs ys)) H:=k;by_cases e:xs.length=ys.length
 ·refine SeqAt.RcNeAt.lists p1.isList p2.isList (by simp;omega) hu (fun j h1 h2=>Fq r1 r2 f1 f2 j h1 h2) _ _ _ _ ⟨.bl (!eqL xs ys),H,I,?_,k'⟩;show _=Value.bool (!eqL xs ys);unfold eqL;rw[Yr e,Qk,Y5,←l1]
 ·refine SeqAt.RcNeAt.lists_lengths p1.isList p2.isList (by simp;omega) hu _ _ _ _ ⟨.bl (!eqL xs ys),H,I,?_,k'⟩;show _=Value.bool (!eqL xs ys);unfold eqL;rw[YB e];rfl
def Fc {xs:List Int}{us:List Value} (r:Vals (xs.map V.int) us) (z:Int):∀(j:Nat) (h1:j<us.length) (h2:j<xs.length),Value.isInt z us[j]=(xs[j]==z):=by
 intro j h1 h2;obtain⟨u,eu,t,rfl⟩:=r.get (x:=V.int xs[j]) (i:=j) (by rw[Y0,Yp h2];rfl);rw[Yp h1] at eu;rw[Y2 eu];simp[Value.isInt]
def Za5 {xs:List Int}{us:List Value} (r:Vals (xs.map V.int) us) (z:Int) (t:Tok):∀y,y∈us.toArray->MeetsSeq.EqGives y (.int z t) (Value.isInt z y):=by
 intro y hy;obtain⟨j,hj,rfl⟩:=W9.mp (by simpa using hy:y∈us);have l1:=r.length;rw[Yn] at l1;rw[Fc r z j hj (by omega)];obtain⟨u,eu,t',rfl⟩:=r.get (x:=V.int (xs[j]'(by omega))) (i:=j) (by rw[Y0,Yp (show j<xs.length by omega)];rfl);rw[Yp hj] at eu;rw[Y2 eu];exact MeetsSeq.EqGives.int _ _ _ _
def FD (K:Za):V->List V->Hp->VK->Prop:=fun x vs H Q=>∃(l:Addr) (xs:List Int) (z:Int),x=.ref l/\vs=[.int z]/\SqL K H l (xs.map V.int)/\z∈xs/\Q (.int (xs.idxOf z:Nat)) H
def Zaz:MtM X "list.index" (FD X.K):=by
 intro pins s σ H x vs v us Q I rx rv h;obtain⟨l,xs,z,rfl,rfl,hS,hz,q⟩:=h;cases rx
 obtain⟨u,rfl,t,rfl⟩:=rv.one;obtain⟨its,r,p1,hsz⟩:=I.list hS;obtain⟨o,n,ho,hc,hdn,hd⟩:=p1;obtain⟨c1,d1,dt1,sl1⟩:=o;simp only at hc hdn hd;subst hc hdn hd;have l1:=r.length;rw[Yn] at l1;have hj:xs.idxOf z<xs.length:=List.idxOf_lt_length_iff.mpr hz;have hb:xs.length<=2 ^ 24:=by rw[Yn] at hsz;exact hsz
 refine call_meets PySem.F.slot_list_index ⟨_,ho,rfl⟩ PySem.F.entry_list_index (PySem.F.args_list_index_2 _ _)
  (SeqAt.list_indexAt l its.toArray n none sl1 (.int z t) (Value.isInt z) (xs.idxOf z) (by simpa [←l1] using hj) (by omega) ?_ ?_) ⟨ho,fun y hy=>(Za5 r z t y hy).at _ _,⟨.int (xs.idxOf z:Nat),H,I.tok _,⟨_,rfl⟩,q⟩⟩
 ·have e:=Fc r z (xs.idxOf z) (by omega) hj;show Value.isInt z its[xs.idxOf z]=true;rw[e];simpa using List.getElem_idxOf hj
 ·intro m hm hlt;have hm':m<its.length:=by simpa using hm
  have e:=Fc r z m hm' (by omega);show Value.isInt z its[m]=false;rw[e]
  have:=List.not_of_lt_findIdx (p:=(· == z)) (xs:=xs) (i:=m) hlt
  simpa using this
end
section
variable {X:Cx}{K:Za}
def IX (hK:X.K=K:=by rfl):MtM X "list.index" (FD K):=by subst hK;exact Zaz
def Lg {o e:Expr}{es:List Expr}{to:TE}{t:TA}{name:Str}{apos cpos:Pos}{T id:String}{r:V->List V->Hp->VK->Prop} (pa:PlainAttrs T) (slot:Slot T name id) (hty:typeOf (.builtin id)=pure (.type "method_descriptor")) (hm:MtM X id r) (ho:PE X o to) (ha:PA X (e::es) t)
  (hK:X.K=K:=by rfl) (hbase:attributeBase o name X.env (eval o X.env)=eval o X.env:=by rfl)
  (hfew:((backTo cpos (starEach (e::es) X.env)).all (fun x=>!x.1)&&(backToKw cpos (keywordEach [] X.env)).all (fun x=>x.1.isSome)
   && decide ((e::es).length+([]:List Keyword).length+(if ([]:List Keyword).isEmpty then 0 else 1)<30))=true:=by rfl)
  (hline:(apos.endLine==cpos.line)=true:=by rfl) (hs:starEach (e::es) X.env=(false,eval e X.env)::starEach es X.env:=by rfl) (hplain:(backTo cpos (starEach es X.env)).any (·.1)=false:=by rfl) :
  PE X (.Call (.Attribute o name apos) (e::es) [] cpos) (tBM K T r to t):=by
 subst hK;exact Km pa slot hty hm ho ha hbase hfew hline hs hplain
end
def Fv (xs ys:List Int):eqL (xs.map V.int) (ys.map V.int)=decide (xs=ys):=by
 unfold eqL;rw[Yn,Yn];by_cases e:xs=ys
 ·subst e;rw[Yr rfl,Yr rfl,Qk,Qg];intro j hj;have hj':j<xs.length:=by simpa using hj
  rw[Y1,Y0,Yp hj'];show(xs[j]==xs[j])=true;simp
 ·rw[YB e];by_cases hl:xs.length=ys.length
  ·rw[Yr hl,Qk,Qa];intro hall;apply e;apply List.ext_getElem hl;intro j h1 h2
   have:=Qg.mp hall j (by simpa using h1)
   rw[Y1,Y0,Yp h1,Y1,Y0,Yp h2] at this;have h3:(xs[j]==ys[j])=true:=this;simpa using h3
  ·rw[YB hl];rfl
def KJ (xs:List Int):(xs.map V.int).all Xb=true:=by
 rw[List.all_map];exact Qg.mpr fun _ _=>rfl
end Own
namespace M
open PySem PySem.Spec PyProof.Rows L2 Own
def LV {α:Type} (R:Hp->V->α->Prop) (H:Hp) (vs:List V) (xs:List α):Prop:=
 vs.length=xs.length/\∀(i:Nat) (x:α),xs[i]?=some x->∃v,vs[i]?=some v/\R H v x
def LAt {α:Type} (R:Hp->V->α->Prop) (H:Hp) (l:Addr) (xs:List α):Prop:=∃vs,H l=some (.lst vs)/\LV R H vs xs
def Xu (H:Hp) (v:V) (q:Int×Int):Prop:=∃a,v=.ref a/\H a=some (.tup [.int q.1,.int q.2])
section
variable {α:Type}{R:Hp->V->α->Prop}{H H':Hp}{vs:List V}{xs:List α}{l:Addr}
def LV.get {i:Nat}{v:V} (h:LV R H vs xs) (e:vs[i]?=some v):∃x,xs[i]?=some x/\R H v x:=by
 have hi:i<xs.length:=by rw[←h.1];exact(YF.mp e).1
 obtain⟨v',e',r⟩:=h.2 i xs[i] (by simp[hi]);rw[e] at e';cases e';exact⟨_,by simp[hi],r⟩
end
def Menu (m:List Int):Prop:=∃a b c d e:Int,m=[a,b,c,d,e]/\(1<=a/\a<=10)/\(1<=b/\b<=9/\(b=1\/b=3\/b=7\/b=9))/\(0<=c/\c<=9)/\(1<=d/\d<=1000)/\(1<=e/\e+d<=1001)
def Field (ps:List (Int×Int)):Prop:=∀q∈ps,1<=q.1/\q.1<=10/\1<=q.2/\q.2<=1000
def Iv (js:List Int) (k z:Int):z∈SetR.addJ js k↔z∈js\/z=k:=by
 unfold SetR.addJ;split
 ·rename_i h;constructor
  ·exact fun x=>.inl x
  ·rintro(x|rfl)
   ·exact x
   ·exact h
 ·simp
def AY:∀(ns js:List Int) (z:Int),z∈ns.foldl SetR.addJ js↔z∈js\/z∈ns
 | [],js,z=>by simp
 | n::r,js,z=>by
  rw[List.foldl_cons,AY r,Iv,Y4];constructor
  ·rintro((h|h)|h)
   ·exact .inl h
   ·exact .inr (.inl h)
   ·exact .inr (.inr h)
  ·rintro(h|h|h)
   ·exact .inl (.inl h)
   ·exact .inl (.inr h)
   ·exact .inr h
def Zeh {js:List Int} (k:Int) (h:js.Nodup):(SetR.addJ js k).Nodup:=by
 unfold SetR.addJ;split
 ·exact h
 ·rename_i hk;exact WB.mpr ⟨h,by simp,fun x hx y hy=>by rw[Yw.mp hy];rintro rfl;exact hk hx⟩
def D3:∀(ns:List Int) {js:List Int},js.Nodup->(ns.foldl SetR.addJ js).Nodup
 | [],_,h=>h
 | n::r,js,h=>D3 r (Zeh n h)
def DP:∀(ns js:List Int),(ns.foldl SetR.addJ js).length<=js.length+ns.length
 | [],js=>by simp
 | n::r,js=>by
  have h1:=DP r (SetR.addJ js n)
  have h2:(SetR.addJ js n).length<=js.length+1:=by
   unfold SetR.addJ;split
   ·omega
   ·simp
  rw[List.foldl_cons,YD];omega
def G8 {l:List Int} (h:l.Pairwise (·<=·)) (n:l.Nodup):l.Pairwise (· < ·):=by
 have:=h.and n
 exact this.imp fun {a b} h=>by have:=h.1;have:=h.2;omega
def Gh {l₁ l₂:List Int} (h1:l₁.Pairwise (· < ·)) (h2:l₂.Pairwise (· < ·)) (h:∀z,z∈l₁↔z∈l₂):l₁=l₂:=by
 have n1:l₁.Nodup:=h1.imp fun {a b} h=>by omega
 have n2:l₂.Nodup:=h2.imp fun {a b} h=>by omega
 have p:l₁.Perm l₂:=(List.perm_ext_iff_of_nodup n1 n2).mpr h;exact p.eq_of_pairwise (le:=(· < ·)) (fun a b _ _ x y=>by omega) h1 h2
def tenL:List Int:=[1,2,3,4,5,6,7,8,9,10]
def La {z:Int}:z∈tenL↔1<=z/\z<=10:=by
 unfold tenL;constructor
 ·intro h;simp only[Y4,Qy,or_false] at h;omega
 ·rintro⟨h1,h2⟩;simp only[Y4,Qy,or_false];omega
def JT (ps:List (Int×Int)):List Int:=tenL.filter fun h=>decide (h∈ps.map (·.1))
def KS (ps:List (Int×Int)):(JT ps).Pairwise (· < ·):=List.Pairwise.filter _ (by unfold tenL;decide)
def Nx {ps:List (Int×Int)} (hF:Field ps) {z:Int}:z∈JT ps↔z∈ps.map (·.1):=by
 unfold JT;rw[YO,Qq,La];constructor
 ·exact fun h=>h.2
 ·intro h;obtain⟨q,hq,rfl⟩:=YR.mp h
  have:=hF q hq
  exact⟨⟨this.1,this.2.1⟩,h⟩
def PP (ps:List (Int×Int)):(JT ps).length<=10:=by
 have:=Wk (fun h=>decide (h∈ps.map (·.1))) tenL
 exact this
def Mh {ps:List (Int×Int)}{ns:List Int} (hF:Field ps) (p:ns.Perm ((ps.map (·.1)).foldl SetR.addJ [])) (h:ns.Pairwise (·<=·)):ns=JT ps:=by
 have nd:ns.Nodup:=p.symm.nodup (D3 _ Qe);refine Gh (G8 h nd) (KS ps) fun z=>?_;rw[p.mem_iff,AY,Nx hF];simp
def AA (z:Int) (xs:List Int):inV (.int z) (xs.map V.int)=decide (z∈xs):=by
 unfold inV;rw[List.any_map]
 induction xs with
 | nil=>simp
 | cons x r ih=>
  rw[Qj,ih];show((x==z) || _)=_;by_cases e:x=z
  ·subst e;simp
  ·have:(x==z)=false:=by simpa using e
   rw[this];simp only[Bool.false_or];by_cases h:z∈r
   ·rw[Yr h,Yr (YG _ h)]
   ·rw[YB h,YB];intro hz;rcases Y4.mp hz with hz|hz
    ·exact e hz.symm
    ·exact h hz
def LX:tenL=(List.range 10).map fun(i:Nat)=>(1:Int)+(i:Int):=by decide
def LZ {ps:List (Int×Int)}{os ns:List Int} (hp:os.Perm (JT ps)) (h1:ns.Perm os) (h2:ns.Pairwise (·<=·)):ns=JT ps:=by
 have nd:(JT ps).Nodup:=(KS ps).imp fun {a b} h=>by omega
 have p:=h1.trans hp;have nd2:ns.Nodup:=p.symm.nodup nd;exact Gh (G8 h2 nd2) (KS ps) fun z=>p.mem_iff
section
variable (ps:List (Int×Int))
def tpM (y:Int):Nat->Int
 | 0=>0
 | j+1=>tpM y j+(if (ps.getD j (0,0)).1=y then(ps.getD j (0,0)).2 else 0)
def pcM (x y:Int):Nat->Int
 | 0=>0
 | k+1=>pcM x y k+(if x≠y/\(ps.getD k (0,0)).1=x then tpM ps y k*(ps.getD k (0,0)).2 else 0)
def ordM (n:Nat):List Int->Int
 | []=>0
 | a::r=>(r.map fun b=>pcM ps a b n).sum+ordM n r
def aftM (n:Nat) (h:Int):List Int->Int
 | []=>0
 | a::r=>if a=h then(r.map fun b=>tpM ps b n).sum else aftM n h r
def rsM (os:List Int) (h:Int):Nat->Int
 | 0=>0
 | j+1=>rsM os h j+(if os.idxOf h<os.idxOf (ps.getD j (0,0)).1 then(ps.getD j (0,0)).2 else 0)
def priM (os:List Int):Nat->Int
 | 0=>0
 | k+1=>priM os k+rsM ps os (ps.getD k (0,0)).1 k*(ps.getD k (0,0)).2
end
def FR {a b:Int}{r:List Int} (h:a≠b):(a::r).idxOf b=r.idxOf b+1:=by
 rw[List.idxOf_cons]
 have:(a==b)=false:=by simpa using h
 rw[this];rfl
def DV (f g:Int->Int) (l:List Int):(l.map fun b=>f b+g b).sum=(l.map f).sum+(l.map g).sum:=by
 induction l with
 | nil=>rfl
 | cons b r ih=>
  simp only[YA,WW];rw[ih];omega
def Nn {f g:Int->Int}{l:List Int} (h:∀b∈l,f b=g b):(l.map f).sum=(l.map g).sum:=by
 rw[List.map_congr_left h]
def A2 (l:List Int):(l.map fun _=>(0:Int)).sum=0:=by
 induction l with
 | nil=>rfl
 | cons b r ih=>simp only[YA,WW,ih];rfl
def LA (f:Int->Int) (w:Int) (l:List Int):(l.map fun b=>f b*w).sum=(l.map f).sum*w:=by
 induction l with
 | nil=>simp
 | cons b r ih=>
  simp only[YA,WW];rw[ih,Int.add_mul]
def Zbs {l:List Int} (h:Int) (w:Int) (nd:l.Nodup):(l.map fun b=>if h=b then w else 0).sum=if h∈l then w else 0:=by
 induction l with
 | nil=>simp
 | cons b r ih=>
  simp only[YA,WW];have hb:=(YX.mp nd).1;rw[ih (YX.mp nd).2];by_cases e:h=b
  ·subst e;rw[Ys rfl,Yq hb,Ys YM];omega
  ·rw[Yq e];by_cases hm:h∈r
   ·rw[Ys hm,Ys (YG _ hm)];omega
   ·rw[Yq hm,Yq]
    ·omega
    ·intro z;rcases Y4.mp z with z|z
     ·exact e z
     ·exact hm z
section
variable {ps:List (Int×Int)}
def AQ {n:Nat}:∀{os:List Int},(ps.getD n (0,0)).1∉os->ordM ps (n+1) os=ordM ps n os
 | [],_=>rfl
 | a::r,h=>by
  have h1:(ps.getD n (0,0)).1≠a:=fun z=>h (by rw[z];exact YM);have h2:(ps.getD n (0,0)).1∉r:=fun z=>h (YG _ z);simp only[ordM];rw[AQ h2];congr 1;apply Nn;intro b _;simp only[pcM];rw[Yq (fun z=>h1 z.2)];omega
def Dq {n:Nat}:∀{os:List Int},os.Nodup->(ps.getD n (0,0)).1∈os->ordM ps (n+1) os=ordM ps n os+aftM ps n (ps.getD n (0,0)).1 os*(ps.getD n (0,0)).2
 | [],_,h=>by cases h
 | a::r,nd,h=>by
  obtain⟨na,nr⟩:=YX.mp nd;simp only[ordM,aftM];by_cases e:a=(ps.getD n (0,0)).1
  ·rw[Ys e];have hr:(ps.getD n (0,0)).1∉r:=by rw[←e];exact na
   rw[AQ hr,←LA]
   have e2:(r.map fun b=>pcM ps a b (n+1)).sum=(r.map fun b=>pcM ps a b n+tpM ps b n*(ps.getD n (0,0)).2).sum:=by
    apply Nn;intro b hb;simp only[pcM];rw[Ys ⟨fun z=>na (by rw[z];exact hb),e.symm⟩]
   rw[e2,DV];omega
  ·rw[Yq e]
   have hr:(ps.getD n (0,0)).1∈r:=by
    rcases Y4.mp h with z|z
    ·exact absurd z.symm e
    ·exact z
   rw[Dq nr hr]
   have e2:(r.map fun b=>pcM ps a b (n+1)).sum=(r.map fun b=>pcM ps a b n).sum:=by
    apply Nn;intro b _;simp only[pcM];rw[Yq (fun z=>e z.2.symm)];omega
   rw[e2];omega
def GD {n:Nat}{h:Int}:∀{os:List Int},(ps.getD n (0,0)).1∉os->aftM ps (n+1) h os=aftM ps n h os
 | [],_=>rfl
 | a::r,hn=>by
  have h2:(ps.getD n (0,0)).1∉r:=fun z=>hn (YG _ z);simp only[aftM];rw[GD h2]
  have e2:(r.map fun b=>tpM ps b (n+1)).sum=(r.map fun b=>tpM ps b n).sum:=by
   apply Nn;intro b hb;simp only[tpM];rw[Yq (fun z=>h2 (by rw[z];exact hb))];omega
  rw[e2]
def AX {n:Nat}{h:Int}:∀{os:List Int},os.Nodup->h∈os->(ps.getD n (0,0)).1∈os->
  aftM ps (n+1) h os=aftM ps n h os+(if os.idxOf h<os.idxOf (ps.getD n (0,0)).1 then(ps.getD n (0,0)).2 else 0)
 | [],_,hh,_=>by cases hh
 | a::r,nd,hh,hm=>by
  obtain⟨na,nr⟩:=YX.mp nd;generalize eg:(ps.getD n (0,0)).1=g at hm ⊢;generalize ew:(ps.getD n (0,0)).2=w at ⊢;simp only[aftM];by_cases e:a=h
  ·subst e;rw[Ys rfl,Ys rfl]
   have e2:(r.map fun b=>tpM ps b (n+1)).sum=(r.map fun b=>tpM ps b n+(if g=b then w else 0)).sum:=by
    apply Nn;intro b _;simp only[tpM];rw[eg,ew]
   rw[e2,DV,Zbs g w nr];have i0:(a::r).idxOf a=0:=by simp
   rw[i0];by_cases eq:g=a
   ·subst eq;rw[i0,Yq na,Yq (by omega)]
   ·have gr:g∈r:=by
     rcases Y4.mp hm with z|z
     ·exact absurd z eq
     ·exact z
    have:(a::r).idxOf g=r.idxOf g+1:=FR (Ne.symm eq)
    rw[this,Ys gr,Ys (by omega)]
  ·rw[Yq e,Yq e]
   have hr:h∈r:=by
    rcases Y4.mp hh with z|z
    ·exact absurd z.symm e
    ·exact z
   have ih1:(a::r).idxOf h=r.idxOf h+1:=FR e;by_cases eq:g=a
   ·subst eq;have i0:(g::r).idxOf g=0:=by simp
    rw[GD (by rw[eg];exact na),i0,Yq (by omega)];omega
   ·have gr:g∈r:=by
     rcases Y4.mp hm with z|z
     ·exact absurd z eq
     ·exact z
    have ih2:(a::r).idxOf g=r.idxOf g+1:=FR (Ne.symm eq);rw[AX nr hr (by rw[eg];exact gr),eg,ew,ih1,ih2];congr 1;by_cases hlt:r.idxOf h<r.idxOf g
    ·rw[Ys hlt,Ys (by omega)]
    ·rw[Yq hlt,Yq (by omega)]
def AM {os:List Int}{h:Int} (nd:os.Nodup) (hh:h∈os):∀(n:Nat),(∀j,j<n->(ps.getD j (0,0)).1∈os)->aftM ps n h os=rsM ps os h n
 | 0,_=>by
  have:∀l:List Int,aftM ps 0 h l=0:=by
   intro l
   induction l with
   | nil=>rfl
   | cons a r ih=>
    simp only[aftM,tpM];rw[A2,ih];split<;>rfl
  rw[this];rfl
 | n+1,hm=>by
  rw[AX nd hh (hm n (by omega)),AM nd hh n fun j hj=>hm j (by omega)];rfl
def Df {os:List Int} (nd:os.Nodup):∀(n:Nat),(∀j,j<n->(ps.getD j (0,0)).1∈os)->ordM ps n os=priM ps os n
 | 0,_=>by
  have:∀l:List Int,ordM ps 0 l=0:=by
   intro l
   induction l with
   | nil=>rfl
   | cons a r ih=>
    simp only[ordM,pcM];rw[A2,ih];rfl
  rw[this];rfl
 | n+1,hm=>by
  rw[Dq nd (hm n (by omega)),Df nd n (fun j hj=>hm j (by omega)),AM nd (hm n (by omega)) n fun j hj=>hm j (by omega)];rfl
end
end M
namespace ExcR
open PySem PySem.Spec PyProof.Rows L2
structure KeepX (fs ex:List Addr) (h h':Heap):Prop where
 keep:∀b o,h.get? b=some o->b∉fs->b∉ex->h'.get? b=some o
 slot:∀b o,h.get? b=some o->b∉ex->∃sl,h'.get? b=some { o with slots:=sl }
 size:h.objs.size<=h'.objs.size
def KeepX.trans {fs ex:List Addr}{h1 h2 h3:Heap} (a:KeepX fs ex h1 h2) (b:KeepX fs ex h2 h3):KeepX fs ex h1 h3:=
 ⟨fun c o e n m=>b.keep c o (a.keep c o e n m) n m,fun c o e m=>by
  obtain⟨s1,e1⟩:=a.slot c o e m;obtain⟨s2,e2⟩:=b.slot c _ e1 m;exact⟨s2,e2⟩,Y8 a.size b.size⟩
def KeepX.mono {fs fs' ex ex':List Addr}{h1 h2:Heap} (a:KeepX fs ex h1 h2) (hf:∀b∈fs,b∈fs') (hx:∀b∈ex,b∈ex'):KeepX fs' ex' h1 h2:=
 ⟨fun c o e n m=>a.keep c o e (fun z=>n (hf c z)) (fun z=>m (hx c z)),fun c o e m=>a.slot c o e fun z=>m (hx c z),a.size⟩
structure Trc (h:Heap) (e T:Addr) (cls fl:Value):Prop where
 ne:T≠e
 exc:∃oe vs,h.get? e=some oe/\oe.cls=cls/\oe.data=.fields vs/\vs[1]?=some (.ref T)
 ent:∃oT ts,h.get? T=some oT/\oT.data=.fields ts/\ts[3]?=some fl
section
variable {M:Model}{A:Around}{E:Value->Shared->Prop}{s:Shared}{base:Heap}{env:Env}{outer:List Env}{L e:Addr}
def CC {oe:Obj}{vs:Array Value}{head:Value}{hadNext:Bool}{Q:Unit->Shared->Prop} (hfr:A.frames=some (env::outer)) (hl:s.heap.FunFrames base (env::outer)) (hf:env.frame=some L)
  (he:s.heap.get? e=some oe) (hd:oe.data=.fields vs) (hsz:1<vs.size)
  (h:∀h' T,s.heap.objs.size<=T->Trc h' e T oe.cls (rawInt L)->KeepX (frs (env::outer)) [e] s.heap h'->Q () { s with heap:=h' }) :
  wpAny M A (do let a ←frameOf env;let pl ←entryPlaceOf L hadNext;let b ←EntryCells.newEntry head a .none (rawInt L) .none pl;setField (.ref e) 1 b) Q E s:=by
 have hene:e∉frs (env::outer):=fun hm=>by
  obtain⟨_,o,ho,hnf⟩:=hl.mem hm;rw[he] at ho;cases ho
  exact hnf vs hd
 refine Yo (wpAny_frameOf_fun hfr hl hf fun h1 s1=>Yo (wpAny_entryPlaceOf fun pl hpl=>?_));unfold EntryCells.newEntry newFields;refine Yo (Wl ?_ (hpl.sizeOk5 _ _ _ _ _));have he1:h1.get? e=some oe:=(s1.2.1 e hene).trans he;generalize eo:({ cls:=.type "traceback",dict:=none,data:=.fields ([head,.ref L,.none,rawInt L,.none]++(if pl.isEmpty then List.replicate 6 Value.none else pl)).toArray }:Obj)=ot;have he2:=Yu (h:=h1) ot he1;refine WD he2 hd hsz (h _ h1.objs.size (WJ s1.1.symm) ?_ ?_)
 ·have ne1:h1.objs.size≠e:=Vo (Y3 he1);have d3:=Wu hd (·.setIfInBounds 1 (Value.ref h1.objs.size));refine⟨ne1,⟨_,_,Wj _ he2 (WE d3),QF _ _,d3,by simp[hsz]⟩,ot,_,?_,by rw[←eo],?_⟩
  ·exact(Wo _ _ (Ne.symm ne1)).trans (Y7 h1 (by rw[←eo];rfl))
  ·first
    | (simp;done)
    | (rcases hpl with rfl|⟨_,_,_,_,_,_,_,rfl⟩<;>simp)
 ·refine⟨fun b o q nb nx=>?_,fun b o q nx=>?_,?_⟩
  ·have hbe:b≠e:=fun z=>nx (by simp[z]);rw[Wo _ _ (Ne.symm hbe)];exact Yu _ ((s1.2.1 b nb).trans q)
  ·have hbe:b≠e:=fun z=>nx (by simp[z]);obtain⟨sl,q1⟩:=s1.2.2 b o q;exact⟨sl,by rw[Wo _ _ (Ne.symm hbe)];exact Yu _ q1⟩
  ·rw[Heap.size_update,Qd,s1.1];exact QG _
def Rv {oe:Obj}{vs:Array Value}{Q:Unit->Shared->Prop} (hfr:A.frames=some (env::outer)) (hl:s.heap.FunFrames base (env::outer)) (hf:env.frame=some L)
  (he:s.heap.get? e=some oe) (hd:oe.data=.fields vs) (h1:vs[1]?=some .none)
  (h:∀h' T,s.heap.objs.size<=T->Trc h' e T oe.cls (rawInt L)->KeepX (frs (env::outer)) [e] s.heap h'->Q () { s with heap:=h' }):wpAny M A (noteFrame (.ref e) env) Q E s:=by
 unfold noteFrame;simp only[hf];refine Yo (Ve he hd h1 ?_);rw[Yq (by decide)];exact CC hfr hl hf he hd (Q0.mp h1).1 h
def Gy {T:Addr}{cls fl:Value}{Q:Unit->Shared->Prop} (x:Trc s.heap e T cls fl) (h:∀h',Trc h' e T cls .none->KeepX [] [T] s.heap h'->Q () { s with heap:=h' }) :
  wpAny M A (setField (.ref T) 3 .none) Q E s:=by
 obtain⟨ne,⟨oe,vs,g1,g2,g3,g4⟩,oT,ts,k1,k2,k3⟩:=x;have hz:=(Q0.mp k3).1;refine WD k1 k2 hz (h _ ?_ ?_)
 ·have d3:=Wu k2 (·.setIfInBounds 3 Value.none);exact⟨ne,⟨oe,vs,(Wo _ _ ne).trans g1,g2,g3,g4⟩,_,_,Wj _ k1 (WE d3),d3,by simp[hz]⟩
 ·have ot:∀b,b≠T->(s.heap.update T (Obj.mapFields (·.setIfInBounds 3 Value.none))).get? b=s.heap.get? b:=fun b hb=>Wo _ _ (Ne.symm hb);exact⟨fun b o q _ nx=>(ot b fun z=>nx (by simp[z])).trans q,fun b o q nx=>⟨o.slots,(ot b fun z=>nx (by simp[z])).trans q⟩,WJ (Heap.size_update ..).symm⟩
def CN {T:Addr}{cls:Value}{Q:Unit->Shared->Prop} (hfr:A.frames=some (env::outer)) (hl:s.heap.FunFrames base (env::outer)) (hf:env.frame=some L) (x:Trc s.heap e T cls .none)
  (h:∀h' T',s.heap.objs.size<=T'->Trc h' e T' cls (rawInt L)->KeepX (frs (env::outer)) [e,T] s.heap h'->Q () { s with heap:=h' }):wpAny M A (noteFrame (.ref e) env) Q E s:=by
 obtain⟨ne,⟨oe,vs,g1,g2,g3,g4⟩,oT,ts,k1,k2,k3⟩:=id x;unfold noteFrame;simp only[hf];refine Yo (Ve g1 g3 g4 ?_);rw[Ys (show(Value.ref T != Value.none)=true from by simp)]
 refine Yo (Ve k1 k2 k3 ?_);rw[Yq (show ¬((Value.none==rawInt L)=true) from by simp[rawInt])]
 refine Yo (Gy x fun h1 x1 K1=>?_)
 have hTf:T∉frs (env::outer):=fun hm=>by
  obtain⟨_,o,ho,hnf⟩:=hl.mem hm;rw[k1] at ho;cases ho
  exact hnf ts k2
 have hl1:h1.FunFrames base (env::outer):=hl.of_keeps fun b o q hnf=>⟨o,K1.keep b o q (by simp) (fun z=>by
  rw[Yw.mp z,k1] at q;cases q
  exact hnf ts k2),rfl⟩
 obtain⟨_,⟨oe1,vs1,p1,p2,p3,p4⟩,_⟩:=id x1;refine CC (s:={ s with heap:=h1 }) hfr hl1 hf p1 p3 (Q0.mp p4).1 fun h2 T' hT' x2 K2=>h h2 T' (Y8 K1.size hT') (by rw[←p2];exact x2) ?_
 exact(K1.mono (by simp) (by simp)).trans (K2.mono (fun _ z=>z) (by simp))
def Sl {T:Addr}{cls fl:Value}{Q:Unit->Shared->Prop} (x:Trc s.heap e T cls fl) (h:∀h',Trc h' e T cls .none->KeepX [] [T] s.heap h'->Q () { s with heap:=h' }) :
  wpAny M A (setFlight (.ref e) none) Q E s:=by
 obtain⟨ne,⟨oe,vs,g1,g2,g3,g4⟩,_⟩:=id x;unfold setFlight;refine Yo (Ve g1 g3 g4 ?_);rw[Ys (show(Value.ref T != Value.none)=true from by simp)]
 exact Gy x h
def ME {oe:Obj}{vs:Array Value}{Q:Unit->Shared->Prop} (hfr:A.frames=some (env::outer)) (hl:s.heap.FunFrames base (env::outer)) (hf:env.frame=some L)
  (he:s.heap.get? e=some oe) (hd:oe.data=.fields vs) (h1:vs[1]?=some .none)
  (h:∀h' T,s.heap.objs.size<=T->Trc h' e T oe.cls .none->KeepX (frs (env::outer)) [e] s.heap h'->Q () { s with heap:=h' }):wpAny M A (leaving env (.ref e)) Q E s:=by
 unfold leaving;refine Yo (Rv hfr hl hf he hd h1 fun h2 T hT x K=>Sl x fun h3 x3 K3=>h h3 T hT x3 ?_);refine⟨fun b o q nb nx=>K3.keep b o (K.keep b o q nb nx) (by simp) (fun z=>?_),fun b o q nx=>?_,Y8 K.size K3.size⟩
 ·rw[Yw.mp z] at q;exact absurd (Y3 q) (QA.mpr hT)
 ·obtain⟨sl,q2⟩:=K.slot b o q nx;exact⟨sl,K3.keep b _ q2 (by simp) (fun z=>by rw[Yw.mp z] at q;exact absurd (Y3 q) (QA.mpr hT))⟩
def Rr {T:Addr}{cls:Value}{Q:Unit->Shared->Prop} (hfr:A.frames=some (env::outer)) (hl:s.heap.FunFrames base (env::outer)) (hf:env.frame=some L) (x:Trc s.heap e T cls .none)
  (h:∀h' T',s.heap.objs.size<=T'->Trc h' e T' cls .none->KeepX (frs (env::outer)) [e,T] s.heap h'->Q () { s with heap:=h' }):wpAny M A (leaving env (.ref e)) Q E s:=by
 unfold leaving;refine Yo (CN hfr hl hf x fun h2 T' hT x2 K=>Sl x2 fun h3 x3 K3=>h h3 T' hT x3 ?_);refine⟨fun b o q nb nx=>K3.keep b o (K.keep b o q nb nx) (by simp) (fun z=>?_),fun b o q nx=>?_,Y8 K.size K3.size⟩
 ·rw[Yw.mp z] at q;exact absurd (Y3 q) (QA.mpr hT)
 ·obtain⟨sl,q2⟩:=K.slot b o q nx;exact⟨sl,K3.keep b _ q2 (by simp) (fun z=>by rw[Yw.mp z] at q;exact absurd (Y3 q) (QA.mpr hT))⟩
end
section
variable {P:Program}{w:World}{H H':Hp}{h h':Heap}{a:Addr}{o:HO}{fs ex:List Addr}
def has (x:ObjOk P w H h a o):∃u,h.get? a=some u:=by
 cases o with
 | lst xs=>exact let ⟨_,_,_,_,e⟩:=x;⟨_,e⟩
 | tup xs=>exact let ⟨_,_,_,u,e,_⟩:=x;⟨u,e⟩
 | dK kvs=>exact let ⟨_,_,_,_,u,_,_,e,_⟩:=x;⟨u,e⟩
 | dT kvs=>exact let ⟨_,_,_,_,u,_,_,e,_⟩:=x;⟨u,e⟩
 | set S n=>exact let ⟨u,_,_,_,e,_⟩:=x;⟨u,e⟩
 | ins C dx fs=>exact let ⟨_,_,_,e,_⟩:=x;⟨_,e⟩
 | own y=>exact x
 | xd fs=>exact let ⟨_,⟨u,_,_,e,_⟩,_⟩:=x;⟨u,e⟩
 | rng lo hi=>exact let ⟨_,_,_,e⟩:=x;⟨_,e⟩
 | frz ob u=>exact⟨_,x.1⟩
 | tbl ps=>exact⟨_,x⟩
 | met f y=>exact⟨_,x⟩
 | ext φ=>exact x.2.1
def Es (ok:HOk P w H h) (e:h.get? a=none):H a=none:=by
 cases q:H a with
 | none=>rfl
 | some o=>
  obtain⟨u,z⟩:=has (ok a o q);rw[e] at z;cases z
def Tv (ok:HOk P w H h) (k:KeepX fs ex h h') (hf:∀b∈fs,H b=none) (hx:∀b∈ex,H b=none):HOk P w H h':=fun a o e=>by
 refine(ok a o e).stay (fun b u hb q=>?_) (fun _ q=>q) (fun _ _ q=>q)
 have hn:H b≠none:=by
  rcases hb with rfl|hb
  ·rw[e];simp
  ·rw[hb];simp
 exact k.keep b u q (fun z=>hn (hf b z)) fun z=>hn (hx b z)
end
structure XAt (P:Program) (w:World) (outer:List Env) (H H':Hp) (s s':Shared) (a T C:Addr):Prop where
 os:s'.os=s.os
 bare:AllBare s'.gens
 un:Un (frs outer) [] H H' s.heap s'.heap
 hok:HOk P w H' s'.heap
 na:s.heap.get? a=none
 nT:s.heap.get? T=none
 fa:H' a=none
 fT:H' T=none
 tr:Trc s'.heap a T (.ref C) .none
def CXe (P:Program) (w:World):CXT:=fun outer H s E e s'=>∃a T C H',e=.ref a/\XAt P w outer H H' s s' a T C/\E (.ref C) none H'
section
variable {X:Cx}{pins:List (Addr×Obj)}{σ:L2.St}{H H':Hp}{s s':Shared}{a T C:Addr}
def EE {ex:List Addr}{h':Heap} (I:Inv X pins σ H s) (hex:X.ex=[]) (k:KeepX (frs X.stack) ex s.heap h') (hx:∀b∈ex,X.s₀.heap.get? b=none):Un X.fs [] X.H₀ H X.s₀.heap h':=by
 have B:=I.base;rw[hex] at B;have out:∀b o,X.s₀.heap.get? b=some o->b∉ex:=fun b o q z=>by rw[hx b z] at q;cases q
 have nl:∀b o,X.s₀.heap.get? b=some o->b∉X.fs->b∉frs X.stack:=fun b o q nf z=>by
  rcases Y4.mp (I.stkSub b z) with e|e
  ·have h1:=Y3 q;have h2:=I.ok.above;rw[e] at h1;exact absurd h1 (QA.mpr h2)
  ·exact nf e
 refine⟨fun b o q n nf ne=>k.keep b o (B.keep b o q n nf ne) (nl b o q nf) (out b o q),fun b o q n hf ne=>?_,fun b o q n ne=>B.free b o q n ne,fun b o q ne=>?_,B.tups,B.frzs,B.tbls⟩
 ·obtain⟨sl,q1⟩:=B.slot b o q n hf ne;obtain⟨sl2,q2⟩:=k.slot b _ q1 (out b o q);exact⟨sl2,q2⟩
 ·obtain⟨o1,q1⟩:=B.there b o q ne;obtain⟨sl2,q2⟩:=k.slot b _ q1 (out b o q);exact⟨_,q2⟩
def TQ {b:Addr} (I:Inv X pins σ H s) (hex:X.ex=[]) (e:s.heap.get? b=none):X.s₀.heap.get? b=none:=by
 cases q:X.s₀.heap.get? b with
 | none=>rfl
 | some o=>
  obtain⟨u,z⟩:=I.base.there b o q (by rw[hex];simp);rw[e] at z;cases z
variable {E:Value->Shared->Prop}
def OU (I:Inv X pins σ H s) (hex:X.ex=[]) (hst:X.stack=X.env::X.outer) (hfr:X.env.frame=some X.env.locals) (x:XAt X.prog X.w X.stack H H' s s' a T C) :
  wpAny (model X.prog X.w) X.A (leaving X.env (.ref a)) (fun _ s2=>∃T2,XAt X.prog X.w X.outer X.H₀ H' X.s₀ s2 a T2 C) E s':=by
 have J:Inv X pins σ H' s':=I.call' (ch:=[]) x.os x.un x.hok x.bare fun b z=>absurd z (by simp);have hF:=J.stack;have hA:=J.ok.frames;rw[hst] at hF hA;refine Rr hA hF hfr x.tr fun h2 T2 hT2 tr k=>⟨T2,J.os,J.bare,?_,?_,TQ I hex x.na,?_,x.fa,x.hok.fresh hT2,tr⟩
 ·exact EE J hex (by rw[hst];exact k) fun b hb=>by
   rcases Y4.mp hb with rfl|hb
   ·exact TQ I hex x.na
   ·rw[Yw.mp hb];exact TQ I hex x.nT
 ·refine Tv x.hok k (fun b hb=>J.stkFree b (by rw[hst];exact hb)) fun b hb=>?_;rcases Y4.mp hb with rfl|hb
  ·exact x.fa
  ·rw[Yw.mp hb];exact x.fT
 ·exact QS (Y8 J.sz hT2)
def Zec {h':Heap}{oe:Obj}{vs:Array Value} (I:Inv X pins σ H s) (hex:X.ex=[]) (hst:X.stack=X.env::X.outer) (hfr:X.env.frame=some X.env.locals) (keeps:∀b o,s.heap.get? b=some o->h'.get? b=some o)
  (new:s.heap.get? a=none) (he:h'.get? a=some oe) (hc:oe.cls=.ref C) (hd:oe.data=.fields vs) (h1:vs[1]?=some .none) :
  wpAny (model X.prog X.w) X.A (leaving X.env (.ref a)) (fun _ s2=>∃T2,XAt X.prog X.w X.outer X.H₀ H X.s₀ s2 a T2 C) E { s with heap:=h' }:=by
 have J:Inv X pins σ H { s with heap:=h' }:=I.call' (s':={ s with heap:=h' }) (ch:=[]) rfl (Un.kept keeps) (I.hok.kept keeps) I.bare fun b z=>absurd z (by simp)
 have hF:=J.stack;have hA:=J.ok.frames;rw[hst] at hF hA;have fa:=Es I.hok new;refine ME (s:={ s with heap:=h' }) hA hF hfr he hd h1 fun h2 T2 hT2 tr k=>⟨T2,J.os,J.bare,?_,?_,TQ I hex new,?_,fa,J.hok.fresh hT2,by rw[←hc];exact tr⟩
 ·exact EE J hex (by rw[hst];exact k) fun b hb=>by rw[Yw.mp hb];exact TQ I hex new
 ·exact Tv J.hok k (fun b hb=>J.stkFree b (by rw[hst];exact hb)) fun b hb=>by rw[Yw.mp hb];exact fa
 ·exact QS (Y8 J.sz hT2)
end
structure ErrCls (K:Za) (C:Addr):Prop where
 q:PySem.W.excIn K C [.type "ValueError",.type "Exception",.type "BaseException",.type "object"] "ValueError.__new__"=true
def ErrCls.obj {K:Za}{C:Addr}{h:Heap} (c:ErrCls K C) (k:K.In h):∃bm N nm q bs hdct sn sub ab col dd k0 k1 k2 k3 k5 mN,h.get? C=some (excClassObj nm q C N bs bm hdct sn sub ab col dd k0 k1 k2 k3 k5 "ValueError.__new__")/\h.Ns N mN/\mN "__init__"=none/\
  OwnTail h [.type "ValueError",.type "Exception",.type "BaseException",.type "object"] bm:=by
 have e:=c.q;unfold PySem.W.excIn at e;split at e
 next dd cd sl ho=>
  split at e
  next C1 bm k0 k1 k2 k3 n k5 hm hs=>
   simp only[Wp,beq_iff_eq,Vm] at e;obtain⟨⟨⟨⟨⟨e1,e2⟩,e3⟩,e4⟩,e5⟩,e6⟩:=e;subst e1 e2;have hg:=k _ _ ho;cases cd with
   | mk nm bs mro ns qn hd sn sub ab col del=>
    simp only at hm e3 e5 e6
    have hsl:sl=#[k0,k1,k2,k3,some (.builtin "ValueError.__new__"),k5]:=by
     cases sl with
     | mk l=>simp only at hs;rw[hs]
    rw[hm,e3,hsl] at hg;exact⟨bm,ns,nm,qn,bs,hd,sn,sub,ab,col,dd,k0,k1,k2,k3,k5,_,hg,.of_isNs (PySem.W.isNs_of_in k e5),PySem.W.nsMap_none_of_in k e5 e6,PySem.W.tail_of_in k e4⟩
  next=>cases e
 next=>cases e
abbrev TF:=L2.St->Hp->Str->(Str->Hp->Prop)->Prop
def PF (X:Cx) (es:List Expr) (t:TF):Prop:=
 ∀(pins:List (Addr×Obj)) (s:Shared) (σ:L2.St) (H:Hp) (out:Str) (Q:Str->Hp->Prop),Inv X pins σ H s->t σ H out Q->
  wpAny (model X.prog X.w) X.A (joinParts out (evalEach es X.env)) (fun u s'=>∃x H',Inv X pins σ H' s'/\RelV (.str x) u/\Q x H') X.xe s
section
variable {X:Cx}{e e1 e2:Expr}{es:List Expr}{t:TF}{tv:TE}{pos:Pos}
def fNil:TF:=fun _ H out Q=>out.length<=sizeLine/\Q out H
def fStr (x:Str) (t:TF):TF:=fun σ H out Q=>(out++x).length<=sizeLine/\t σ H (out++x) Q
def fVal (tv:TE) (t:TF):TF:=fun σ H out Q=>tv σ H fun v H1=>(∃i:Int,v=.int i/\i.natAbs.log2<1920/\(out++(Str.ofString (toString i))).length<=sizeLine/\t σ H1 (out++Str.ofString (toString i)) Q)\/
 ∃x:Str,v=.str x/\x.length<=sizeLine/\(out++x).length<=sizeLine/\t σ H1 (out++x) Q
def KR:PF X [] fNil:=fun pins s σ H out Q I h=>joinParts_nilE (joinParts_nil ⟨out,H,I.tok _,⟨_,rfl⟩,h.2⟩ h.1)
def XD {x:Str}{j} (h:PF X es t):PF X (.Constant (.str x) j pos::es) (fStr x t):=fun pins s σ H out Q I q=>
 joinParts_consE (joinParts_cons (Calls.Constant_str ⟨q.1,h pins _ σ H _ Q (I.tok _) q.2⟩))
def Pv (hv:PE X e tv) (h:PF X es t):PF X (.FormattedValue e (-1) none pos::es) (fVal tv t):=fun pins s σ H out Q I q=>by
 refine joinParts_consE (joinParts_cons (FormattedValue_plain (thn (hv pins s σ H _ I q) fun u s1 ⟨v,H1,I1,r,q1⟩=>?_)));rcases q1 with⟨i,rfl,hs,hz,q2⟩|⟨x,rfl,hx,hz,q2⟩
 ·obtain⟨tk,rfl⟩:=r;exact formatField_int_small hs ⟨hz,h pins _ σ H1 _ Q (I1.tok _) q2⟩
 ·obtain⟨tk,rfl⟩:=r;exact formatField_str (fun t' tk'=>⟨hz,h pins _ σ H1 _ Q (I1.tok _) q2⟩) hx
def tF (t:TF):TE:=fun σ H Q=>t σ H Str.empty fun x H'=>Q (.str x) H'
def pe_f (h:PF X (e1::e2::es) t):PE X (.JoinedStr (e1::e2::es) pos) (tF t):=fun pins s σ H Q I q=>
 JoinedStr_many (thn (h pins s σ H _ _ I q) fun u s1 ⟨x,H1,I1,r,q1⟩=>⟨.str x,H1,I1,r,q1⟩)
end
def E1 (X:Cx) (E:XK):Prop:=∀(pins:List (Addr×Obj)) (σ:L2.St) (H:Hp) (s:Shared) (C a:Addr) (h':Heap) (args:List Value),Inv X pins σ H s->Heap.MadeExcOf s.heap h' a (.ref C) args->E (.ref C) none H->X.xe (.ref a) { s with heap:=h' }
def GO (C:Addr) (E:XK) (t:TA):TS:=fun _ σ H=>t σ H fun vs H1=>vs.length<=sizeLine/\E (.ref C) none H1
section
variable {X:Cx}{x:Str}{C:Addr}{E:XK}{e:Expr}{es:List Expr}{t:TA}{p cpos pos:Pos}
def Xh (c:ErrCls X.K C) (hm:X.mg x=some (.ref C)) (hR:E1 X E) (hc:X.calm=true) (ha:PA X (e::es) t) (hg:Gl X x:=by rfl) (hdb:(x==("__debug__" : Str))=false:=by decide)
  (he:starEach (e::es) X.env=(false,eval e X.env)::starEach es X.env:=by rfl) (hpl:(backTo cpos (starEach es X.env)).any (·.1)=false:=by rfl):PS X (.Raise (some (.Call (.Name x p) (e::es) [] cpos)) none pos) (GO C E t):=by
 intro pins s σ H D I h;obtain⟨bm,N,nm,q,bs,hdct,sn,sub,ab,col,dd,k0,k1,k2,k3,k5,mN,hC,hN,hni,hT⟩:=c.obj I.ok.mod.kin
 have hpl':(backTo cpos (starEach (e::es) X.env)).any (·.1)=false:=by
  rw[he];show(false || (backTo cpos (starEach es X.env)).any (·.1))=false;rw[hpl];rfl
 refine wpAny_Raise_call_subU (C:=C) (nm:=nm) (q:=q) (N:=N) (bs:=bs) (bm:=bm) (hdct:=hdct) (sn:=sn) (sub:=sub) (ab:=ab) (col:=col) (dd:=dd) (k0:=k0) (k1:=k1) (k2:=k2) (k3:=k3) (k5:=k5)
  PySem.F.excBase_ValueError (by decide +kernel) PySem.F.excBase_ValueError (hT.hasType (by decide +kernel)) (I.ok.hd hc) hpl' hni (Tj I hg hm ⟨rfl,?_⟩ hdb)
 have hA:=ha cpos pins s σ H _ I h;rw[he] at hA ⊢;refine Calls.evalArgs_plain (thn hA fun us s2 ⟨vs,H2,I2,r2,q1,q2⟩=>⟨rfl,by rw[←r2.length];exact q1,I2.bk _ _ hC,hN.keeps I2.bk,hT.keeps I2.bk,fun h' a hm'=>?_⟩);exact hR pins σ H2 s2 C a h' us I2 hm' q2
end
section
variable {P:Program}{w:World}{K:Za}{mg:Str->Option Value}{base:Heap}{N ps:List Str}{qual x:Str}{scope:Scope}{f:Addr}{cd:Value}{A:Around}{outer:List Env}{s:Shared}{H:Hp}{E:XK}
def Xe:E1 (cxOf (CXe P w) P w K mg base N qual scope f cd A outer s H E) E:=by
 intro pins σ H1 s1 C a h' args I m q;obtain⟨t,ht,_,_⟩:=m.there;exact Wn (Zec I rfl rfl rfl m.keeps m.new ht rfl rfl rfl) (fun _ s3 ⟨T2,y⟩=>⟨a,T2,C,H1,rfl,y,q⟩) fun _ _ z=>z
def UG:X4 (CXe P w) (cxOf (CXe P w) P w K mg base N qual scope f cd A outer s H E) E:=by
 rintro pins σ H1 s1 e s2 I ⟨a,T,C,H',rfl,y,q⟩;exact Wn (OU I rfl rfl rfl y) (fun _ s3 ⟨T2,z⟩=>⟨a,T2,C,H',rfl,z,q⟩) fun _ _ z=>z
def Zbb:PassesOwn (model P w) (cxOf (CXe P w) P w K mg base N qual scope f cd A outer s H E).A (cxOf (CXe P w) P w K mg base N qual scope f cd A outer s H E).env (cxOf (CXe P w) P w K mg base N qual scope f cd A outer s H E).xe:=PassesOwn.leaving
def Def.okX {st:Stmt}{k:Nat}{sp:Sp} (D:Own.Def K mg x st ps) (S:FnScope N ps (JD st)) (len:∀vs H Q E,sp vs H Q E->vs.length=ps.length)
  (hbody:∀(f:Addr) (cdv:Value) (A:Around) (outer:List Env) (s:Shared) (H:Hp) (vs:List V) (Q:VK) (E:XK),Room k (A.deeper (envOfC x (JD st) s.heap.objs.size f cdv))->sp vs H Q E->
   ∃t,PSs (cxOf (CXe P w) P w K mg base N x (JD st) f cdv A outer s H E) (UQ st) t/\t { nx:=fun _ H'=>Q .non H',rt:=Q } (start N vs) H):Own.Callee P w K mg base (CXe P w) (k+1) x ps sp:=by
 obtain⟨f,fd,F,hm,hb⟩:=D.ex;have kp:=F.kp;obtain⟨oc,od,kV,doc,pm,an,cdv,ct,osl,rfl,lk,hcd⟩:=F.ex;exact⟨f,_,Bg lk hcd S len fun A outer s H vs Q E hr hsp=>hbody f cdv A outer s H vs Q E hr hsp,hm,kp,⟨_,lk,rfl⟩,hb⟩
end
end ExcR
namespace ExcR
open PySem PySem.Spec PyProof.Rows L2
open Sem (wp)
structure ErrGet (K:Za) (C:Addr):Prop where
 c:ErrCls K C
 ga:PySem.W.findIn K (.ref C) "__getattribute__"=some (some (.builtin "BaseException.__getattribute__"))
 gt:PySem.W.findIn K (.ref C) "__getattr__"=some none
 cl:PySem.W.findIn K (.ref C) "__class__"=some (some (.builtin "object.__class__"))
 is:(PySem.W.clsIn K C).isSome=true
section
variable {prog:Program}{w:World}{A:Around}{E:Value->Shared->Prop}{h:Heap}{g:Array GenState}{d:Drawn}{t:Nat}{os:OsState}{a C:Addr}{o:Obj}{K:Za}
def Zdz {R:Result->Shared->Prop} (k:K.In h) (G:ErrGet K C) (hx:h.get? a=some o) (hc:o.cls=.ref C) (hq:R (.ok (.ret (.ref C))) ⟨h,g,d,t,os⟩) :
  codeAny (model prog w) A (.call (.builtin "getset_descriptor.__get__") ⟨[.builtin "object.__class__",.ref a,.ref C],[]⟩) R ⟨h,g,d,t,os⟩:=by
 obtain⟨bm,N,nm,q,bs,hdct,sn,sub,ab,col,dd,k0,k1,k2,k3,k5,mN,hC,hN,hni,hT⟩:=G.c.obj k;have hty:(⟨h,g,d,t,os⟩:Shared).TypeIs (.builtin "object.__class__") "getset_descriptor":=QO
 have hob:(Value.ref C::bm).contains (.type (".".intercalate ("object.__class__".cutAt '.').dropLast))=true:=by
  rw[F.owner_object_class,List.contains_cons,hT.hasType (b:=true) (by decide +kernel)];rfl
 refine QY F.slot_gs_get.plain F.entry_gs_get (F.slot_gs_get.check _ _ _ _ _ _ _ _ hty (F.args_gs_get _ _ _) ?_)
 repeat (any_goals (first|assumption|(with_reducible refine Qr hx ?_;rw[hc])|(with_reducible refine wpAny_isSubtype_exc hC ?_;rw[hob])|wp_step))
 refine⟨Code.quiet_builtin _ (by decide +kernel),WV F.entry_object_class ?_⟩
 repeat (any_goals (first|assumption|(with_reducible refine Qr hx ?_;rw[hc])|wp_step))
def M9 {tk:Tok}{Q:Fin->Shared->Prop} (k:K.In h) (G:ErrGet K C) (hx:h.get? a=some o) (hc:o.cls=.ref C) (hq:Q (.done (.ret (.ref C))) ⟨h,g,d,t,os⟩) :
  wpAny (model prog w) A (Builtin.«object.__getattribute__» ⟨[.ref a,.str "__class__" tk],[]⟩) Q E ⟨h,g,d,t,os⟩:=by
 have hty:(⟨h,g,d,t,os⟩:Shared).TypeIs (.builtin "object.__class__") "getset_descriptor":=QO;have f1:=QO;have f2:=F.slot_gs_get.lookup;have f3:=F.slot_gs_set.lookup;have L:=Qx (M:=model prog w) k G.cl
 repeat (any_goals (first|assumption|(with_reducible refine Qr hx ?_;rw[hc])|with_reducible refine L.at ?_|wp_step))
 refine Zdz k G hx hc ?_
 repeat (any_goals (first|assumption|wp_step))
def Zbl {M:Model}{v:Value}{Q:Unit->Shared->Prop} (k:K.In h) (G:ErrGet K C) (hx:h.get? a=some o) (hc:o.cls=.ref C) (hq:Q () ⟨h,g,d,t,os⟩) :
  wpAny M A (checkBuiltinCall "BaseException.__getattribute__" ⟨[.ref a,v],[]⟩) Q E ⟨h,g,d,t,os⟩:=by
 obtain⟨bm,N,nm,q,bs,hdct,sn,sub,ab,col,dd,k0,k1,k2,k3,k5,mN,hC,hN,hni,hT⟩:=G.c.obj k;have hbe:(Value.ref C::bm).contains (.type "BaseException")=true:=by rw[List.contains_cons,hT.hasType (b:=true) (by decide +kernel)];rfl
 have e1:builtinKind "BaseException.__getattribute__"=some .slot:=by decide +kernel
 have e2:splitId "BaseException.__getattribute__"=some ("BaseException","__getattribute__"):=by decide +kernel
 have e3:=F.args_bexc_ga (.ref a) v;simp only[checkBuiltinCall,e1,e2];refine Yo ?_;unfold isInstance
 repeat (first|(with_reducible refine Qr hx ?_;rw[hc])|(with_reducible refine wpAny_isSubtype_exc hC ?_;rw[hbe])|wp_step)
 exact hq
def MJ {tk:Tok}{Q:Value->Shared->Prop} (k:K.In h) (G:ErrGet K C) (hx:h.get? a=some o) (hc:o.cls=.ref C) (hq:Q (.ref C) ⟨h,g,d,t,os⟩) :
  wpAny (model prog w) A (getAttrBy (.ref a) (.str "__class__" tk) false) Q E ⟨h,g,d,t,os⟩:=by
 obtain⟨bm,N,nm,q,bs,hdct,sn,sub,ab,col,dd,k0,k1,k2,k3,k5,mN,hC,hN,hni,hT⟩:=G.c.obj k;have f0:=F.attrBase_ValueError.ga.bind (.ref a);have x2:(Value.builtin "BaseException.__getattribute__" == Value.builtin "object.__getattribute__")=false:=by decide +kernel
 have x1:(onTheHeap (Value.ref C)&&Value.builtin "BaseException.__getattribute__" == Value.builtin "object.__getattribute__")=false:=by rw[x2];rfl
 have L:=Qx (M:=model prog w) k G.ga;have L2:=Qx (M:=model prog w) k G.gt
 repeat (any_goals (first|assumption|(with_reducible refine Qr hx ?_;rw[hc])|with_reducible refine L.at ?_|with_reducible refine L2.at ?_|wp_step))
 refine QY F.attrBase_ValueError.ga.plain F.entry_bexc_ga (Zbl k G hx hc (M9 k G hx hc ?_))
 repeat (any_goals (first|assumption|wp_step))
def Zey {Q:Option Value->Shared->Prop} (k:K.In h) (G:ErrGet K C) (hx:h.get? a=some o) (hc:o.cls=.ref C) (hq:Q (some (.ref C)) ⟨h,g,d,t+1,os⟩) :
  wpAny (model prog w) A (getAttr? (.ref a) "__class__") Q E ⟨h,g,d,t,os⟩:=by
 unfold getAttr? getAttrBy?
 repeat (any_goals (first|assumption|with_reducible apply MJ k G hx hc|wp_step))
end
end ExcR
namespace ExcR
open PySem PySem.Spec PyProof.Rows L2
def ErrH (a C:Addr):HO:=.ext fun h=>∃o,h.get? a=some o/\o.cls=.ref C/\∃vs,o.data=.fields vs
def LJ {P:Program}{w:World}{H:Hp}{h:Heap}{a T C:Addr}{fl:Value} (x:Trc h a T (.ref C) fl):ObjOk P w H h a (ErrH a C):=by
 obtain⟨_,⟨o,vs,e1,e2,e3,_⟩,_⟩:=x;exact⟨⟨o,e1,e2,vs,e3⟩,⟨o,e1⟩,fun h1 h2 ⟨o1,q1,q2⟩ k=>⟨o1,k o1 q1,q2⟩⟩
def Oy {K:Za}{M:Model}{h:Heap}{C:Addr} (k:K.In h) (e:(PySem.W.clsIn K C).isSome=true):PySem.W.Looks M h (isType (.ref C)) true:=by
 unfold PySem.W.clsIn at e;split at e
 next ho=>
  intro A' Q' E' s' kk q;unfold isType loadHead;exact Yo (wpAny_loadPart (kk _ _ (k _ _ ho)) (Yt q))
 next=>cases e
def Zev {K:Za}{a C:Addr} (G:ErrGet K C):PySem.W.KitX K (.ref a) (.ref C) (fun h=>∃o,h.get? a=some o/\o.cls=.ref C) where
 ty:=fun M h _ ⟨o,h1,h2⟩=>h2▸(PySem.W.Looks.ld h1).andThen .now
 it:=fun M h k _=>Oy k G.is
 ne:=fun h tp dd its n sl k htp=>by
  refine Qa.mpr fun q=>?_;obtain rfl:C=tp:=Value.ref.inj (beq_iff_eq.mp q);obtain⟨bm,N,nm,q,bs,hdct,sn,sub,ab,col,dd,k0,k1,k2,k3,k5,mN,hC,_⟩:=G.c.obj k;rw[htp] at hC;have z:Value.type "tuple"=Value.type "type":=Wa Obj.cls (Y2 hC);injection z with z;exact absurd z (by decide)
 ca:=fun {prog w A E Q s} k ⟨o,h1,h2⟩ q=>by
  obtain⟨h,g,d,t,os⟩:=s;exact Zey k G h1 h2 q
section
variable {X:Cx}
def M6:UB X (.builtin "isinstance") (fun xs H Q=>∃(a C:Addr) (c:V) (b:Bool),xs=[.ref a,c]/\H a=some (ErrH a C)/\ErrGet X.K C/\(∃cv:Value,(∀u,RelV c u->u=cv)/\PySem.W.kitOne X.K (.ref C) cv=some b)/\Q (.bl b) H):=by
 intro pins s σ H xs us Q I rv h;obtain⟨a,C,c,b,rfl,ha,G,⟨cv,hcv,e⟩,q⟩:=h;cases rv with
 | cons r rr=>
  cases rr with
  | cons r' rr'=>
   cases rr'
   obtain rfl:_=Value.ref a:=r;cases hcv _ r'
   obtain⟨⟨o,h1,h2,_⟩,_⟩:=(show ObjOk X.prog X.w H s.heap a (ErrH a C) from I.hok a _ ha)
   exact Ws (Zev G) I.kIn ⟨o,h1,h2⟩ e (fun z=>nomatch z) fun tk=>⟨.bl b,H,I.tok tk,rfl,q⟩
def CT {K:Za} (hK:X.K=K:=by rfl):UB X (.builtin "isinstance") (fun xs H Q=>∃(a C:Addr) (c:V) (b:Bool),xs=[.ref a,c]/\H a=some (ErrH a C)/\ErrGet K C/\(∃cv:Value,(∀u,RelV c u->u=cv)/\PySem.W.kitOne K (.ref C) cv=some b)/\Q (.bl b) H):=by
 subst hK;exact M6
end
def SQ {fs ex:List Addr}{H H':Hp}{h h1 h2:Heap} (u:Un fs [] H H' h h1) (k:KeepX fs ex h1 h2) (hx:∀b∈ex,h.get? b=none):Un fs [] H H' h h2:=by
 have out:∀b o,h.get? b=some o->b∉ex:=fun b o q z=>by rw[hx b z] at q;cases q
 refine⟨fun b o q n nf ne=>k.keep b o (u.keep b o q n nf ne) nf (out b o q),fun b o q n hf ne=>?_,u.free,fun b o q ne=>?_,u.tups,u.frzs,u.tbls⟩
 ·obtain⟨sl,q1⟩:=u.slot b o q n hf ne;obtain⟨sl2,q2⟩:=k.slot b _ q1 (out b o q);exact⟨sl2,q2⟩
 ·obtain⟨o1,q1⟩:=u.there b o q ne;obtain⟨sl2,q2⟩:=k.slot b _ q1 (out b o q);exact⟨_,q2⟩
def sufX (X:Cx) (a:Addr):Cx:={ X with A:=X.A.mark (some (.ref a)),calm:=false,xe:=fun _ _=>False }
def tryX (X:Cx) (pins:List (Addr×Obj)) (D:Ends) (h0:ExceptHandler):Cx:=
 { X with pn:=X.pn++pins,xe:=fun e s1=>wpAny (model X.prog X.w) X.A (noteFrame e X.env) (fun _ s2=>wpAny (model X.prog X.w) X.A (setFlight e none) (fun _ s3=>wpAny (model X.prog X.w) X.A (handleBy e X.env [h0]) (SP X pins D) X.xe s3) X.xe s2) X.xe s1 }
section
variable {X:Cx}{pins pins1:List (Addr×Obj)}{σ:L2.St}{H H':Hp}{s s':Shared}{a T C:Addr}{D:Ends}{h0:ExceptHandler}
def Ln (o:X.Ok):(sufX X a).Ok:=⟨o.mod,o.kind,o.glob,o.blt,o.above,o.inj,o.has,o.cab,(fun z=>nomatch z),o.frames,o.stk,o.exf,o.bs,o.bsz,o.noex,o.exfs,o.funs,o.frf⟩
def GN (I:Inv X pins σ H s):Inv (sufX X a) pins σ H s:=⟨Ln I.ok,I.os,I.bare,I.base,I.loc,I.cell,I.free,I.freeC,I.pin,I.hok,I.len⟩
def Zdl (o:X.Ok) (I:Inv (sufX X a) pins σ H s):Inv X pins σ H s:=⟨o,I.os,I.bare,I.base,I.loc,I.cell,I.free,I.freeC,I.pin,I.hok,I.len⟩
def Zd5 (o:X.Ok):(tryX X pins D h0).Ok:=⟨o.mod,o.kind,o.glob,o.blt,o.above,o.inj,o.has,o.cab,o.hd,o.frames,o.stk,o.exf,o.bs,o.bsz,o.noex,o.exfs,o.funs,o.frf⟩
def Rm (o:(tryX X pins D h0).Ok):X.Ok:=⟨o.mod,o.kind,o.glob,o.blt,o.above,o.inj,o.has,o.cab,o.hd,o.frames,o.stk,o.exf,o.bs,o.bsz,o.noex,o.exfs,o.funs,o.frf⟩
def Za1 (I:Inv X pins σ H s):Inv (tryX X pins D h0) [] σ H s:=⟨Zd5 I.ok,I.os,I.bare,I.base,I.loc,I.cell,I.free,I.freeC,fun p hp=>I.pin p (by simpa [tryX] using hp),I.hok,I.len⟩
def Nb (I:Inv (tryX X pins D h0) pins1 σ H s):Inv X pins σ H s:=⟨Rm I.ok,I.os,I.bare,I.base,I.loc,I.cell,I.free,I.freeC,fun p hp=>I.pin p (WI _ hp),I.hok,I.len⟩
def Za9 {i:Nat}{n:Str}{m:Str->Option Value}{v:Option Value}{h':Heap}{tk:Nat} (I:Inv X pins σ H s) (hN:X.N.Nodup) (hi:X.N[i]?=some n) (hk:X.env.scope.names.lookup n=some .local)
  (hm:∀(i:Nat) (x:Str) (v:V),X.N[i]?=some x->σ[i]?=some (some v)->Vis X.env.scope x->∃u,RelV v u/\Look X.env s.heap m x u) (hn:s.heap.Ns X.env.locals m)
  (hn':h'.Ns X.env.locals (fun x=>if x=n then v else m x)) (hs:Heap.SameBut X.env.locals s.heap h'):Inv X pins (σ.set i none) H { s with heap:=h',toks:=tk }:=by
 have cne:=I.cne;have nl:∀{b o},X.s₀.heap.get? b=some o->b≠X.env.locals:=fun e=>YK (YT (Y3 e) I.ok.above);refine⟨I.ok,I.os,I.bare,⟨fun b o e n hb hx=>(hs.2 b (nl e)).trans (I.base.keep b o e n hb hx),fun b o e n hb hx=>?_,I.base.free,fun b o e hx=>?_,I.base.tups,I.base.frzs,I.base.tbls⟩,⟨_,hn',fun j y v' e1 e2 e3=>?_⟩,fun y c e=>?_,I.free,I.freeC,fun p hp=>?_,fun b ob e=>?_,by simpa using I.len⟩
 ·obtain⟨sl,e1⟩:=I.base.slot b o e n hb hx;exact⟨sl,(hs.2 b (nl e)).trans e1⟩
 ·obtain⟨o',e1⟩:=I.base.there b o e hx;exact⟨o',(hs.2 b (nl e)).trans e1⟩
 ·by_cases hj:j=i
  ·subst hj;have hz:j<σ.length:=by rw[I.len];exact(YF.mp hi).1
   rw[Qn hz] at e2;cases e2
  ·rw[Qw (Ne.symm hj)] at e2;obtain⟨u',r',q⟩:=hm j y v' e1 e2 e3;refine⟨u',r',?_⟩;rcases q with⟨k,e⟩|⟨k,c,e,z⟩
   ·have hy:y≠n:=fun z=>hj (Su hN e1 (z▸hi));exact .inl ⟨k,by simp[hy,e]⟩
   ·exact .inr ⟨k,c,e,z.sameBut hs (cne y c e)⟩
 ·obtain⟨w',z⟩:=I.cell y c e;exact⟨w',z.sameBut hs (cne y c e)⟩
 ·obtain⟨e,n,ne,nf,d⟩:=I.pin p hp;exact⟨(hs.2 p.1 ne).trans e,n,ne,nf,d⟩
 ·refine(I.hok b ob e).stay (fun c u hc q=>(hs.2 c ?_).trans q) (fun _ q=>q) fun _ _ q=>q;rintro rfl;have hf:=I.free;rcases hc with z|z
  ·rw[←z,hf] at e;cases e
  ·rw[hf] at z;cases z
end
def sufD (i:Nat) (D:Ends):Ends:={ nx:=fun σ H=>D.nx (σ.set i none) H,rt:=D.rt,bk:=fun σ H=>D.bk (σ.set i none) H,ct:=fun σ H=>D.ct (σ.set i none) H }
def hx (K:Za) (C0:Addr) (i:Nat) (ts:TS) (D:Ends):L2.St->XK:=fun σ c _ H=>∃C,c=.ref C/\ErrGet K C/\PySem.W.exmOne K (.ref C) (.ref C0)=some true/\
 ∀a,H a=none->ts (sufD i D) (σ.set i (some (.ref a))) (upd H a (ErrH a C))
def Fn (CX:CXT) (X:Cx) (E:L2.St->XK):Prop:=∀(pins:List (Addr×Obj)) (σ:L2.St) (H:Hp) (s:Shared) (e:Value) (s':Shared),Inv X pins σ H s->CX X.stack H s (E σ) e s'->X.xe e s'
section
variable {X:Cx}{pins:List (Addr×Obj)}{D:Ends}{x n:Str}{np hpos pos:Pos}{b0:Stmt}{suite body:List Stmt}{C0:Addr}{i:Nat}{ts:TS}
def Zaw (hst:X.stack=X.env::X.outer) (hfr:X.env.frame=some X.env.locals) (hN:X.N.Nodup) (hi:X.N[i]?=some n) (hk:X.env.scope.names.lookup n=some .local) (hg:Gl X x) (hm:X.mg x=some (.ref C0)) (hdb:(x==("__debug__" : Str))=false)
  (hs:∀a,PSs (sufX X a) (b0::suite) ts):Fn (CXe X.prog X.w) (tryX X pins D (.ExceptHandler (some (.Name x np)) (some n) (b0::suite) hpos)) (hx X.K C0 i ts D):=by
 rintro pins1 σ H s e s' I ⟨a,T,C,H',rfl,y,C',ec,G,em,q⟩;obtain rfl:C=C':=Value.ref.inj ec;have I:=Nb I;have J:Inv X pins σ H' s':=I.call' (ch:=[]) y.os y.un y.hok y.bare fun b z=>absurd z (by simp);have hF:=J.stack;have hA:=J.ok.frames;rw[hst] at hF hA;refine CN hA hF hfr y.tr fun h2 T2 hT2 tr2 k2=>?_
 have nT2:s.heap.get? T2=none:=by
  cases z:s.heap.get? T2 with
  | none=>rfl
  | some o=>
   obtain⟨o1,z1⟩:=y.un.there T2 o z (by simp);exact absurd (Y3 z1) (QA.mpr hT2)
 have fT2:H' T2=none:=y.hok.fresh hT2
 have u2:Un (frs X.stack) [] H H' s.heap h2:=SQ y.un (by rw[hst];exact k2) fun b hb=>by
  rcases Y4.mp hb with rfl|hb
  ·exact y.na
  ·rw[Yw.mp hb];exact y.nT
 have ok2:HOk X.prog X.w H' h2:=Tv y.hok k2 (fun b hb=>J.stkFree b (by rw[hst];exact hb)) fun b hb=>by
  rcases Y4.mp hb with rfl|hb
  ·exact y.fa
  ·rw[Yw.mp hb];exact y.fT
 refine Sl (s:={ s' with heap:=h2 }) tr2 fun h3 tr3 k3=>?_
 have u3:Un (frs X.stack) [] H H' s.heap h3:=SQ u2 (k3.mono (by simp) fun _ z=>z) fun b hb=>by rw[Yw.mp hb];exact nT2
 have ok3:HOk X.prog X.w H' h3:=Tv ok2 k3 (by simp) fun b hb=>by rw[Yw.mp hb];exact fT2
 have J3:Inv X pins σ H' { s' with heap:=h3 }:=I.call' (s':={ s' with heap:=h3 }) (ch:=[]) y.os u3 ok3 y.bare fun b z=>absurd z (by simp)
 have S3:Inv (sufX X a) pins σ H' { s' with heap:=h3 }:=GN J3
 refine wpAny_handleBy_cons (codeAny_handlers_test (Tj S3 hg hm ?_ hdb)) (by intro z;cases z);obtain⟨_,⟨oe,vs,g1,g2,g3,g4⟩,_⟩:=id tr3;refine(PySem.W.exm_one (M:=model X.prog X.w) (cls:=.ref C) J3.kIn (g2▸(PySem.W.Looks.ld g1).andThen .now) em).here ?_;refine codeAny_handlers_suite_as (Sl (s:={ s' with heap:=h3 }) tr3 fun h4 tr4 k4=>?_)
 have u4:Un (frs X.stack) [] H H' s.heap h4:=SQ u3 (k4.mono (by simp) fun _ z=>z) fun b hb=>by rw[Yw.mp hb];exact nT2
 have ok4:HOk X.prog X.w H' h4:=Tv ok3 k4 (by simp) fun b hb=>by rw[Yw.mp hb];exact fT2
 have fr4:∀b,b=a->H b=none:=fun b z=>by rw[z];exact Es I.hok y.na
 have u5:Un (frs X.stack) [] H (upd H' a (ErrH a C)) s.heap h4:=by
  have ne:∀b o,s.heap.get? b=some o->b≠a:=fun b o z w=>by rw[w,y.na] at z;cases z
  have ne2:∀b o,H' b=some o->b≠a:=fun b o z w=>by rw[w,y.fa] at z;cases z
  refine⟨u4.keep,u4.slot,fun b o z n m=>by rw[JX (ne b o z)];exact u4.free b o z n m,u4.there,fun b xs z=>?_,fun b o u z=>?_,fun b ps z=>?_⟩
  ·rw[JX (ne2 b _ (u4.tups b xs z))];exact u4.tups b xs z
  ·rw[JX (ne2 b _ (u4.frzs b o u z))];exact u4.frzs b o u z
  ·obtain⟨more,z1⟩:=u4.tbls b ps z;exact⟨more,by rw[JX (ne2 b _ z1)];exact z1⟩
 have ok5:HOk X.prog X.w (upd H' a (ErrH a C)) h4:=fun b ob e=>by
  by_cases hb:b=a
  ·subst hb;rw[Uo] at e;cases e
   exact LJ tr4
  ·rw[JX hb] at e;refine(ok4 b ob e).stay (fun _ _ _ z=>z) (fun c z=>?_) fun c xs z=>?_
   ·rw[JX fun w=>by rw[w,y.fa] at z;cases z];exact z
   ·rw[JX fun w=>by rw[w,y.fa] at z;cases z];exact z
 have J5:Inv X pins σ (upd H' a (ErrH a C)) { s' with heap:=h4 }:=I.call' (s':={ s' with heap:=h4 }) (ch:=[]) y.os u5 ok5 y.bare fun b z=>absurd z (by simp)
 have S5:Inv (sufX X a) pins σ (upd H' a (ErrH a C)) { s' with heap:=h4 }:=GN J5
 refine TJ (X:=sufX X a) S5 hN hi (.inl hk) (v:=.ref a) rfl (fun s6 S6=>?_) (.inr hk);refine Wn (hs a pins s6 _ _ _ S6 (q a y.fa)) (fun f s7 h7=>?_) fun _ _ z=>z.elim
 have gone:∀{σ':L2.St} {H7:Hp} {R:Unit->Shared->Prop},Inv (sufX X a) pins σ' H7 s7->(∀s8,Inv X pins (σ'.set i none) H7 s8->R () s8)->wpAny (model X.prog X.w) X.A (do bindName X.env n .none;unbindBehindTheSuite X.env n hpos) R X.xe s7:=fun {σ' H7 R} S7 hR=>by
  obtain⟨m,hn,hl⟩:=id S7.loc;exact wpAny_nameGoes_keeps hk hn (by rw[show X.env.scope.kind=.function from J5.ok.kind];rfl) fun h8 v hn8 hs8=>hR _ (Za9 (Zdl J5.ok S7) hN hi hk hl hn hn8 hs8)
 cases f with
 | next=>obtain⟨σ',H7,S7,q7⟩:=h7;exact gone S7 fun s8 I8=>⟨_,_,I8,q7⟩
 | brk=>obtain⟨σ',H7,S7,q7⟩:=h7;exact gone S7 fun s8 I8=>⟨_,_,I8,q7⟩
 | cont=>obtain⟨σ',H7,S7,q7⟩:=h7;exact gone S7 fun s8 I8=>⟨_,_,I8,q7⟩
 | ret u=>obtain⟨v,σ',H7,S7,rv,q7⟩:=h7;exact gone S7 fun s8 I8=>⟨v,_,_,I8,rv,q7⟩
def Ik {tb:Ends->TS} (hb:∀pins D,PSs (tryX X pins D (.ExceptHandler (some (.Name x np)) (some n) (b0::suite) hpos)) body (tb D)) :
  PS X (.Try body [.ExceptHandler (some (.Name x np)) (some n) (b0::suite) hpos] [] [] pos) (fun D σ H=>tb D D σ H):=by
 intro pins s σ H D I h;refine wpAny_Try_except (Wn (hb pins D [] s σ H D (Za1 I) h) (fun f s1 h1=>?_) fun _ _ z=>z);cases f with
 | next=>
  obtain⟨σ',H',J,q⟩:=h1;exact Yt ⟨σ',H',Nb J,q⟩
 | brk=>obtain⟨σ',H',J,q⟩:=h1;exact⟨σ',H',Nb J,q⟩
 | cont=>obtain⟨σ',H',J,q⟩:=h1;exact⟨σ',H',Nb J,q⟩
 | ret u=>obtain⟨v,σ',H',J,r,q⟩:=h1;exact⟨v,σ',H',Nb J,r,q⟩
end
def JB (mg:Str->Option Value) (x:Str):Addr:=match mg x with
 | some (.ref C)=>C
 | _=>0
def AE {mg:Str->Option Value}{x:Str}{C:Addr} (h:mg x=some (.ref C)):JB mg x=C:=by unfold JB;rw[h]
def Xr {X:Cx}{x:Str}{v:V}{pos:Pos} (h:∃u,X.mg x=some u/\RelV v u) (hg:Gl X x:=by rfl) (hd:(x==("__debug__" : Str))=false:=by decide):PE X (.Name x pos) (tC v):=by
 obtain⟨u,h1,h2⟩:=h;exact A3 hg h1 h2 hd
def Zaq {X:Cx}{x:Str}{C:Addr}{pos:Pos} (h:X.mg x=some (.ref C)) (hg:Gl X x:=by rfl) (hd:(x==("__debug__" : Str))=false:=by decide):PE X (.Name x pos) (tC (.ref C)):=A3 hg h rfl hd
end ExcR
namespace Own
open PySem PySem.Spec PyProof.Rows L2 M
section
variable {X:Cx}{pins:List (Addr×Obj)}{σ:L2.St}{H:Hp}{s:Shared}
def CQ {p:Int×Int}{its:List Value} (r:Vals [V.int p.1,V.int p.2] its):∃t1 t2,its=[.int p.1 t1,.int p.2 t2]:=by
 cases r with
 | cons r1 rr=>
  cases rr with
  | cons r2 r3=>
   cases r3
   obtain⟨t1,rfl⟩:=r1;obtain⟨t2,rfl⟩:=r2;exact⟨t1,t2,rfl⟩
def Zah {A:Around}{x y:V}{p q:Int×Int}{u v:Value} (I:Inv X pins σ H s) (hu:A.units<cLine) (rx:RelV x u) (ry:RelV y v) (hp:Xu H x p) (hq:Xu H y q):SeqAt.EqAt A s u v (decide (p=q)):=by
 obtain⟨a,rfl,ha⟩:=hp;obtain⟨b,rfl,hb⟩:=hq;obtain rfl:u=Value.ref a:=rx;obtain rfl:v=Value.ref b:=ry;by_cases hab:a=b
 ·subst hab;rw[ha] at hb
  have e:p=q:=by
   injection hb with hb;injection hb with hb;injection hb with h1 h2;injection h2 with h2 _;exact Prod.ext (V.int.inj h1) (V.int.inj h2)
  rw[Yr e];exact SeqAt.EqAt.same _
 ·obtain⟨_,its,r1,t1⟩:=(show ObjOk X.prog X.w H s.heap a (.tup [.int p.1,.int p.2]) from I.hok a _ ha)
  obtain⟨_,jts,r2,t2⟩:=(show ObjOk X.prog X.w H s.heap b (.tup [.int q.1,.int q.2]) from I.hok b _ hb)
  obtain⟨k1,k2,rfl⟩:=CQ r1;obtain⟨k3,k4,rfl⟩:=CQ r2
  have h:=SeqAt.RcAt.tuples (A:=A) (s:=s) (e:=fun j=>if j=0 then p.1==q.1 else p.2==q.2) t1 t2 hu (fun j h1 h2=>by
   have hj:j=0\/j=1:=by
    have h1':j<2:=h1;omega
   rcases hj with rfl|rfl
   ·exact SeqAt.EqAt.int_int _ _ _ _
   ·exact SeqAt.EqAt.int_int _ _ _ _)
  have e:((List.range (min ([Value.int p.1 k1,Value.int p.2 k2].toArray).size ([Value.int q.1 k3,Value.int q.2 k4].toArray).size)).all (fun j=>if j=0 then p.1==q.1 else p.2==q.2)&&([Value.int p.1 k1,Value.int p.2 k2].toArray).size==([Value.int q.1 k3,Value.int q.2 k4].toArray).size)=decide (p=q):=by
   show((List.range 2).all (fun j=>if j=0 then p.1==q.1 else p.2==q.2)&&true)=decide (p=q);rw[Bool.and_true];have e2:(List.range 2).all (fun j=>if j=0 then p.1==q.1 else p.2==q.2)=((p.1==q.1)&&(p.2==q.2)):=by simp[List.range,List.range.loop]
   rw[e2];by_cases h1:p.1=q.1
   ·by_cases h2:p.2=q.2
    ·rw[Yr (Prod.ext h1 h2)];simp[h1,h2]
    ·rw[YB (fun z=>h2 (by rw[z]))];simp[h2]
   ·rw[YB (fun z=>h1 (by rw[z]))];simp[h1]
  rw[e] at h;exact SeqAt.EqAt.of_refs hab h
def eP (H:Hp) (q:Int×Int) (u:Value):Bool:=match u with
 | .ref a=>(match H a with
  | some (.tup [.int i,.int j])=>decide ((i,j)=q)
  | _=>false)
 | _=>false
def Hj {v:V}{u:Value}{p q:Int×Int} (h:Xu H v p) (r:RelV v u):eP H q u=decide (p=q):=by
 obtain⟨a,rfl,ha⟩:=h;obtain rfl:u=Value.ref a:=r;unfold eP;simp only[ha]
def Ah {q:Int×Int}:∀{vs:List V}{us:List Value}{ps:List (Int×Int)},Vals vs us->LV Xu H vs ps->us.any (eP H q)=decide (q∈ps)
 | _,_,[],.nil,_=>rfl
 | _,_,_::_,.nil,h=>absurd h.1 (by simp)
 | v::vs,u::us,[],.cons _ _,h=>absurd h.1 (by simp)
 | v::vs,u::us,p::ps,.cons r t,h=>by
  obtain⟨v',e,hv⟩:=h.2 0 p rfl;cases e
  have ht:LV Xu H vs ps:=⟨by simpa using h.1,fun i x e=>h.2 (i+1) x e⟩;rw[Qj,Hj hv r,Ah t ht];by_cases e1:p=q
  ·subst e1;simp
  ·by_cases e2:q∈ps
   ·simp[e1,e2]
   ·have:¬q=p:=fun z=>e1 z.symm
    simp[e1,e2,this]
def rInP (neg:Bool):R2:=fun x y H Q=>∃(l:Addr) (ps:List (Int×Int)) (q:Int×Int),y=.ref l/\Xu H x q/\LAt Xu H l ps/\Q (.bl (if neg then !decide (q∈ps) else decide (q∈ps))) H
def FU {A:Around}{x:V}{v:Value}{q:Int×Int} (I:Inv X pins σ H s) (hu:A.units<cLine) (rx:RelV x v) (hx:Xu H x q):∀{vs:List V}{us:List Value}{ps:List (Int×Int)},Vals vs us->LV Xu H vs ps->∀u∈us,SeqAt.EqAt A s u v (eP H q u)
 | _,_,_,.nil,_,u,hu'=>by cases hu'
 | w::vs,u::us,[],.cons _ _,h,_,_=>absurd h.1 (by simp)
 | w::vs,u::us,p::ps,.cons r t,h,u',hu'=>by
  obtain⟨w',e,hw⟩:=h.2 0 p rfl;cases e
  have ht:LV Xu H vs ps:=⟨by simpa using h.1,fun i x e=>h.2 (i+1) x e⟩;rcases Y4.mp hu' with rfl|hu'
  ·rw[Hj hw r];exact Zah I hu r rx hw hx
  ·exact FU I hu rx hx t ht u' hu'
def Zbj (hu:X.A.in1.units<cLine):OpR X (compareOp .In) (rInP false):=by
 intro pins s σ H x y v u Q I rx ry h;obtain⟨l,ps,q,rfl,hx,⟨vs,hl,hv⟩,k⟩:=h;cases ry
 obtain⟨its,r,pl,hz⟩:=I.list (SqL.of hl);refine SeqAt.in_listAt (eP H q) pl.isList (fun w hw=>FU I hu rx hx r hv w (by simpa using hw)) ⟨.bl _,H,I,rfl,?_⟩;rw[show its.toArray.any (eP H q)=its.any (eP H q) by simp,Ah r hv];exact k
def Zdy (hu:X.A.in1.units<cLine):OpR X (compareOp .NotIn) (rInP true):=by
 intro pins s σ H x y v u Q I rx ry h;obtain⟨l,ps,q,rfl,hx,⟨vs,hl,hv⟩,k⟩:=h;cases ry
 obtain⟨its,r,pl,hz⟩:=I.list (SqL.of hl);refine SeqAt.notIn_listAt (eP H q) pl.isList (fun w hw=>FU I hu rx hx r hv w (by simpa using hw)) ⟨.bl _,H,I,rfl,?_⟩;rw[show its.toArray.any (eP H q)=its.any (eP H q) by simp,Ah r hv];exact k
end
end Own
namespace M
open PySem PySem.Spec PyProof.Rows L2 Own
section
variable {α:Type}{R:Hp->V->α->Prop}{H:Hp}
def pick (c:α->Bool) (d:V×α):Option V:=if c d.2=true then some d.1 else none
end
end M
namespace Own
open PySem PySem.Spec PyProof.Rows L2 M
section
variable {X:Cx}
def MC:UB X (.type "range") (fun xs H Q=>∃i j:Int,xs=[.int i,.int j]/\∀r,H r=none->Q (.ref r) (upd H r (.rng i j))):=by
 intro pins s σ H xs us Q I rv h;obtain⟨i,j,rfl,q⟩:=h;cases rv with
 | cons r rr=>
  cases rr with
  | cons r' rr=>
   cases rr
   obtain⟨t,rfl⟩:=r;obtain⟨t',rfl⟩:=r';refine call_range_2 ⟨.ref s.heap.objs.size,upd H s.heap.objs.size (.rng i j),?_,rfl,q _ (I.hok.fresh (Yx _))⟩;exact I.laid (t':=s.toks+1) (fun b o e=>Yu _ e) (Yx _) ⟨t,t',s.toks,Y7 _ rfl⟩
def runI (i:Int) (n:Nat):List Int:=(List.range n).map fun(k:Nat)=>i+(k:Int)
def Zai {i:Int}:∀(n:Nat) (us:List Value),us.length=n->(∀(j:Nat) (v:Value),us[j]?=some v->∃t,v=Value.int (i+(j:Int)*1) t)->Vals ((runI i n).map V.int) us:=by
 intro n us hl h
 have key:∀(us:List Value) (o:Nat),(∀(j:Nat) (v:Value),us[j]?=some v->∃t,v=Value.int (i+((o+j:Nat):Int)) t)->Vals (((List.range' o us.length).map fun(k:Nat)=>i+(k:Int)).map V.int) us:=by
  intro us
  induction us with
  | nil=>intro o _;exact .nil
  | cons u us ih=>
   intro o h;obtain⟨t,e⟩:=h 0 u rfl;show Vals (((List.range' o (us.length+1)).map fun(k:Nat)=>i+(k:Int)).map V.int) (u::us);rw[List.range'_succ,YA,YA];refine .cons ⟨t,by rw[e];simp⟩ (ih (o+1) fun j v hv=>?_);obtain⟨t',e'⟩:=h (j+1) v hv;exact⟨t',by rw[e'];congr 1<;>omega⟩
 have:=key us 0 (fun j v hv=>by obtain⟨t,e⟩:=h j v hv;exact⟨t,by rw[e];congr 1<;>omega⟩)
 unfold runI;rw[List.range_eq_range',←hl];exact this
def Zde (hc:X.calm=true):UB X (.type "list") (fun xs H Q=>∃(r:Addr) (i j:Int),xs=[.ref r]/\H r=some (.rng i j)/\(-(2 ^ 62)<=i/\i<2 ^ 62/\-(2 ^ 62)<=j/\j<2 ^ 62)/\(j-i).toNat<=1000000/\
  ∀l,H l=none->Q (.ref l) (upd H l (.lst ((runI i (j-i).toNat).map V.int)))):=by
 intro pins s σ H xs us Q I rv h;obtain⟨r,i,j,rfl,hr,⟨b1,b2,b3,b4⟩,hn,q⟩:=h;obtain⟨u,rfl,ru⟩:=rv.one;obtain rfl:u=Value.ref r:=ru;obtain⟨t,u,v,e⟩:=(show ObjOk X.prog X.w H s.heap r (.rng i j) from I.hok r _ hr)
 refine call_list_range (I.ok.hd hc) (show IsRange s.heap r i j 1 t u v from e) (small_one b1 b2 b3 b4) (rangeSize_nat i j) (Y8 hn (by decide)) fun h' tk acc c hk hD hI=>?_
 refine⟨.ref s.heap.objs.size,upd H s.heap.objs.size (.lst ((runI i (j-i).toNat).map V.int)),?_,rfl,q _ (I.hok.fresh (Yx _))⟩;have hv:Vals ((runI i (j-i).toNat).map V.int) acc.toList:=Zai _ _ (by rw[YZ];exact hI.1) fun k w hw=>hI.2 k w (by rw[←hw,Wq]);refine I.laid (t':=tk) hk (Yx _) ⟨?_,acc.toList,c,hv,by simpa using hD⟩;rw[Yn];unfold runI;rw[Yn,Vn];exact Y8 hn (by decide)
end
end Own
namespace Own
open PySem PySem.Spec PyProof.Rows L2
section
variable {X:Cx}{K:Za}
def DF (hc:X.calm=true) (hK:X.K=K:=by rfl):UB X (.builtin "sum") (fun xs H Q=>∃(p:Addr) (ns:List Int),xs=[.ref p]/\SqL K H p (ns.map V.int)/\Q (.int ns.sum) H):=by
 subst hK;intro pins s σ H xs us Q I rv h;obtain⟨p,ns,rfl,hS,q⟩:=h;obtain⟨u,rfl,ru⟩:=rv.one;obtain rfl:u=Value.ref p:=ru;obtain⟨its,r,pl,_⟩:=I.list hS;have hi:IntsAre its ns:=by simpa using Se r
 obtain⟨ys,hx⟩:=hi.allInts.items;have hl:=pl.isList;rw[hx] at hl;refine sum_intListG (I.ok.hd hc) hl fun h' tk t' hk=>?_
 have e1:ns=ys.toList.map (·.1):=by
  rw[←nums_intItems,←hx];exact(show numsOf its.toArray.toList=ns from hi.numsOf).symm
 have e2:preSum (numAt ys) ys.size=ns.sum:=by
  rw[preSum_eq,Qo (by simp),e1]
 rw[e2];exact⟨.int ns.sum,H,I.kept (t':=tk) hk,⟨_,rfl⟩,q⟩
def MH (hc:X.calm=true) (hK:X.K=K:=by rfl):UB X (.builtin "min") (fun xs H Q=>∃(p:Addr) (ns:List Int),xs=[.ref p]/\SqL K H p (ns.map V.int)/\0<ns.length/\∀M,M∈ns->(∀a∈ns,M<=a)->Q (.int M) H):=by
 subst hK;intro pins s σ H xs us Q I rv h;obtain⟨p,ns,rfl,hS,hne,q⟩:=h;obtain⟨u,rfl,ru⟩:=rv.one;obtain rfl:u=Value.ref p:=ru;obtain⟨its,r,pl,_⟩:=I.list hS;have hi:IntsAre its ns:=by simpa using Se r
 obtain⟨ys,e⟩:=hi.allInts.items;have hl:=pl.isList;rw[e] at hl;have hns:ns=ys.toList.map (·.1):=by rw[←hi.numsOf,←nums_intItems,←e]
 have hsz:0<ys.size:=by
  have h3:=hne;rw[hns,Yn,YZ] at h3;exact h3
 refine min_intList (I.ok.hd hc) hl hsz fun v h' tk hv hk=>?_;obtain⟨t,rfl⟩:=intItems_at hv;obtain⟨h1,h2⟩:=argBest_lt (numAt ys) (ys.size-1);refine⟨.int _,H,I.kept (t':=tk) hk,⟨_,rfl⟩,q _ ?_ fun a ha=>?_⟩
 ·rw[hns,numAt_eq];exact getD_mem (by rw[Yn,YZ];omega)
 ·rw[hns] at ha;obtain⟨j,hj,rfl⟩:=W9.mp ha;rw[Yn,YZ] at hj
  have:=h2 j (by omega)
  rw[numAt_eq ys j] at this;rw[Y1,Yp (by rw[Yn,YZ];exact hj)] at this;exact this
def Eh:∀{bs:List Bool}{us:List Value},Vals (bs.map V.bl) us->LSm.BoolsAre us bs
 | [],_,.nil=>.nil
 | b::r,_,.cons h t=>by
  cases (show _=Value.bool b from h)
  exact .cons b (Eh t)
def Cq (hc:X.calm=true) (hK:X.K=K:=by rfl):UB X (.builtin "any") (fun xs H Q=>∃(p:Addr) (bs:List Bool),xs=[.ref p]/\SqL K H p (bs.map V.bl)/\Q (.bl (bs.any id)) H):=by
 subst hK;intro pins s σ H xs us Q I rv h;obtain⟨p,bs,rfl,hS,q⟩:=h;obtain⟨u,rfl,ru⟩:=rv.one;obtain rfl:u=Value.ref p:=ru;obtain⟨its,r,pl,_⟩:=I.list hS;have hb:=Eh r;have hl:=pl.isList;have hlt:p<s.heap.objs.size:=by obtain⟨_,e,_⟩:=hl;exact Y3 e
 refine call_any_walk (wpAny_pyIter_list hl ?_)
 refine⟨s.heap.objs.size,[s.heap.objs.size,p],[s.heap.objs.size],its.toArray.size,_,_,fun i=>(bs[i]?).getD false,rfl,Walks.list (A:=X.A.in1) (I.ok.hd hc) _ p (YK hlt) its.toArray,
  ⟨⟨_,Y7 _ rfl,rfl,rfl⟩,hl.push _⟩,fun i v s' Q' E' hP hQ=>?_,fun h' tk hk=>?_⟩
 ·obtain⟨b,e,rfl⟩:=hb.get i v (by simpa using hP);simp only[e,Option.getD_some] at hQ;exact WX hQ
 ·have e:((List.range its.toArray.size).any fun i=>(bs[i]?).getD false)=bs.any id:=by
   rw[Y5,hb.length];exact LSm.range_any bs
  rw[e];exact⟨.bl (bs.any id),H,I.kept (t':=tk) (LSm.kept_iter hk),rfl,q⟩
def rEqE (K:Za) (neg:Bool):R2:=fun x y H Q=>∃(p q:Addr) (xs:List V),x=.ref p/\y=.ref q/\SqL K H p xs/\SqL K H q []/\Q (.bl (if neg then !xs.isEmpty else xs.isEmpty)) H
def F3 (hu:X.A.units<cLine) (hK:X.K=K:=by rfl):OpR X (compareOp .Eq) (rEqE K false):=by
 subst hK;intro pins s σ H x y v u Q I rx ry h;obtain⟨p,q,xs,rfl,rfl,hp,hq,k⟩:=h;obtain rfl:v=Value.ref p:=rx;obtain rfl:u=Value.ref q:=ry;obtain⟨us,r1,p1,_⟩:=I.list hp;obtain⟨ws,r2,p2,_⟩:=I.list hq;have l1:=r1.length;have l2:0=ws.length:=r2.length;have k':Q (.bl xs.isEmpty) H:=k;by_cases e:xs.length=0
 ·refine SeqAt.eq_listAt (e:=fun _=>true) p1.isList p2.isList (by simp;omega) hu (fun j h1 h2=>by simp at h2;omega) ⟨.bl xs.isEmpty,H,I,?_,k'⟩;show _=Value.bool xs.isEmpty
  have:xs=[]:=WA.mp e
  subst this;rw[Y5,←l1];rfl
 ·refine SeqAt.eq_list_lengthsAt p1.isList p2.isList (by simp;omega) hu ⟨.bl xs.isEmpty,H,I,?_,k'⟩;show _=Value.bool xs.isEmpty;cases xs with
  | nil=>exact absurd rfl e
  | cons a r=>rfl
def D7 (hu:X.A.units<cLine) (hK:X.K=K:=by rfl):OpR X (compareOp .NotEq) (rEqE K true):=by
 subst hK;intro pins s σ H x y v u Q I rx ry h;obtain⟨p,q,xs,rfl,rfl,hp,hq,k⟩:=h;obtain rfl:v=Value.ref p:=rx;obtain rfl:u=Value.ref q:=ry;obtain⟨us,r1,p1,_⟩:=I.list hp;obtain⟨ws,r2,p2,_⟩:=I.list hq;have l1:=r1.length;have l2:0=ws.length:=r2.length;have k':Q (.bl (!xs.isEmpty)) H:=k;by_cases e:xs.length=0
 ·refine SeqAt.RcNeAt.lists (e:=fun _=>true) p1.isList p2.isList (by simp;omega) hu (fun j h1 h2=>by simp at h2;omega) _ _ _ _ ⟨.bl (!xs.isEmpty),H,I,?_,k'⟩;show _=Value.bool (!xs.isEmpty)
  have:xs=[]:=WA.mp e
  subst this;rw[Y5,←l1];rfl
 ·refine SeqAt.RcNeAt.lists_lengths p1.isList p2.isList (by simp;omega) hu _ _ _ _ ⟨.bl (!xs.isEmpty),H,I,?_,k'⟩;show _=Value.bool (!xs.isEmpty);cases xs with
  | nil=>exact absurd rfl e
  | cons a r=>rfl
end
end Own
namespace M
open PySem PySem.Spec PyProof.Rows L2 Own
def K6 (ws:List (Int×Int)) (ls:List Int):List (Int×Int):=ws.filter fun q=>decide (q.1∈ls)&&decide (q.2∈ls)
def Xz (ws:List (Int×Int)) (ls:List Int):List Int:=ls.filter fun h=>decide (h∈(K6 ws ls).map (·.2))
def Uq (ws:List (Int×Int)) (ls:List Int):Nat->List Int
 | 0=>ls
 | n+1=>Xz ws (Uq ws ls n)
def Ff (ws:List (Int×Int)) (r:List Int):Prop:=∀(i:Nat) (x y:Int),r[i]?=some x->r[i+1]?=some y->(x,y)∈ws
structure Ring (hs:List Int) (ws:List (Int×Int)) (r:List Int):Prop where
 two:2<=r.length
 nodup:r.Nodup
 sub:∀x∈r,x∈hs
 chain:Ff ws r
 last:∀x y,r[0]?=some x->r[r.length-1]?=some y->(y,x)∈ws
def Ring.ahead {hs:List Int}{ws:List (Int×Int)}{r:List Int} (R:Ring hs ws r) {x:Int} (hx:x∈r):∃y∈r,(y,x)∈ws:=by
 obtain⟨i,hi,e⟩:=W9.mp hx;have two:=R.two;cases i with
 | zero=>
  have hl:r.length-1<r.length:=by omega
  exact⟨r[r.length-1],YH hl,R.last x _ (by rw[Yp hi,e]) (Yp hl)⟩
 | succ i=>
  have hl:i<r.length:=by omega
  exact⟨r[i],YH hl,R.chain i _ x (Yp hl) (by rw[Yp hi,e])⟩
def mem_peel {ws:List (Int×Int)}{ls:List Int}{x:Int}:x∈Xz ws ls↔x∈ls/\∃y∈ls,(y,x)∈ws:=by
 unfold Xz K6;rw[YO];constructor
 ·rintro⟨h1,h2⟩;obtain⟨q,hq,e⟩:=YR.mp (Yy h2);obtain⟨h3,h4⟩:=YO.mp hq;rw[Wp] at h4;refine⟨h1,q.1,Yy h4.1,?_⟩;rw[←e];exact h3
 ·rintro⟨h1,y,h2,h3⟩;refine⟨h1,Yr (YR.mpr ⟨(y,x),YO.mpr ⟨h3,?_⟩,rfl⟩)⟩;rw[Yr h2,Yr h1];rfl
def B6 {hs:List Int}{ws:List (Int×Int)}{r:List Int} (R:Ring hs ws r):∀(n:Nat) (x:Int),x∈r->x∈Uq ws hs n
 | 0,x,hx=>R.sub x hx
 | n+1,x,hx=>by
  obtain⟨y,hy,h⟩:=R.ahead hx;exact mem_peel.mpr ⟨B6 R n x hx,y,B6 R n y hy,h⟩
def Sy (ws:List (Int×Int)) (ls:List Int):(Xz ws ls).Sublist ls:=Vc
def Gd (ws:List (Int×Int)) (hs:List Int):∀n,(Uq ws hs n).Sublist hs
 | 0=>List.Sublist.refl _
 | n+1=>(Sy ws _).trans (Gd ws hs n)
def A6 (ws:List (Int×Int)) (hs:List Int):∀n,(∃k,k<n/\Xz ws (Uq ws hs k)=Uq ws hs k)\/(Uq ws hs n).length+n<=hs.length
 | 0=>.inr (Yx _)
 | n+1=>by
  rcases A6 ws hs n with⟨k,hk,e⟩|h
  ·exact .inl ⟨k,by omega,e⟩
  ·by_cases e:Xz ws (Uq ws hs n)=Uq ws hs n
   ·exact .inl ⟨n,by omega,e⟩
   ·have hl:(Xz ws (Uq ws hs n)).length<(Uq ws hs n).length:=by
     have h1:=(Sy ws (Uq ws hs n)).length_le;rcases Nat.lt_or_ge (Xz ws (Uq ws hs n)).length (Uq ws hs n).length with h2|h2
     ·exact h2
     ·exact absurd ((Sy ws (Uq ws hs n)).eq_of_length (by omega)) e
    refine .inr ?_;show(Xz ws (Uq ws hs n)).length+(n+1)<=hs.length;omega
def DQ (ws:List (Int×Int)) (hs:List Int) {k:Nat} (e:Xz ws (Uq ws hs k)=Uq ws hs k):∀n,Uq ws hs (k+n)=Uq ws hs k
 | 0=>rfl
 | n+1=>by
  show Xz ws (Uq ws hs (k+n))=_;rw[DQ ws hs e n,e]
def Ba:∀{xs ys:List Int},xs.Nodup->(∀x∈xs,x∈ys)->xs.length<=ys.length
 | [],_,_,_=>Wz _
 | x::xs,ys,nd,h=>by
  obtain⟨h1,h2⟩:=YX.mp nd;have hx:x∈ys:=h x (YM ..);have ih:=Ba (ys:=ys.erase x) h2 fun z hz=>(List.mem_erase_of_ne (fun e:z=x=>h1 (e▸hz))).mpr (h z (YG _ hz));rw[List.length_erase_of_mem hx] at ih
  have:0<ys.length:=List.length_pos_of_mem hx
  rw[YD];omega
def EY {ws:List (Int×Int)}{ls:List Int} (hu:∀q∈ws,q.1≠q.2) (hne:ls≠[]) (h:∀x∈ls,∃y∈ls,(y,x)∈ws):∃r,Ring ls ws r:=by
 have grow:∀(n:Nat) (r:List Int),r≠[]->r.Nodup->(∀x∈r,x∈ls)->Ff ws r->ls.length<r.length+n->∃r,Ring ls ws r:=by
  intro n
  induction n with
  | zero=>
   intro r hr nd sub ch hl
   have:=Ba nd sub
   omega
  | succ n ih=>
   intro r hr nd sub ch hl;cases r with
   | nil=>exact absurd rfl hr
   | cons x t=>
    obtain⟨y,hy,hw⟩:=h x (sub x (YM ..));by_cases hm:y∈x::t
    ·obtain⟨i,hi,e⟩:=W9.mp hm
     have hi0:i≠0:=fun z=>by
      subst z;have e':x=y:=e;exact hu _ hw e'.symm
     have hlen:((x::t).take (i+1)).length=i+1:=by
      rw[Wv];omega
     refine⟨(x::t).take (i+1),by omega,nd.sublist (QD _ _),fun z hz=>sub z (QZ hz),fun k a b h1 h2=>?_,fun a b h1 h2=>?_⟩
     ·have hk:k+1<i+1:=by
       have:=(YF.mp h2).1
       omega
      rw[W7 (by omega)] at h1;rw[W7 hk] at h2;exact ch k a b h1 h2
     ·rw[hlen,Q6,W7 (by omega),Yp hi,e] at h2;rw[W7 (by omega)] at h1;cases h1
      cases h2
      exact hw
    ·refine ih (y::x::t) (by simp) (YX.mpr ⟨hm,nd⟩) (fun z hz=>?_) (fun k a b h1 h2=>?_) (by rw[YD];omega)
     ·rcases Y4.mp hz with rfl|hz
      ·exact hy
      ·exact sub z hz
     ·cases k with
      | zero=>
       cases h1
       cases h2
       exact hw
      | succ k=>exact ch k a b h1 h2
 obtain⟨x,hx⟩:=List.exists_mem_of_ne_nil ls hne;exact grow (ls.length+1) [x] (by simp) (by simp) (fun y hy=>by rw[Yw.mp hy];exact hx) (fun i a b h1 h2=>by simp at h2) (by show ls.length<1+(ls.length+1);omega)
def Ey {ws:List (Int×Int)}{hs:List Int} (hu:∀q∈ws,q.1≠q.2):Uq ws hs hs.length=[]↔¬ ∃r,Ring hs ws r:=by
 constructor
 ·rintro h ⟨r,R⟩;have two:=R.two;have h0:0<r.length:=by omega
  have:=B6 R hs.length r[0] (YH h0)
  rw[h] at this;cases this
 ·intro h;rcases A6 ws hs hs.length with⟨k,hk,e⟩|hl
  ·have e2:=DQ ws hs e (hs.length-k);rw[show k+(hs.length-k)=hs.length by omega] at e2;rw[e2];by_cases hne:Uq ws hs k=[]
   ·exact hne
   ·obtain⟨r,R⟩:=EY hu hne (fun x hx=>by
     rw[←e] at hx;exact(mem_peel.mp hx).2)
    exact absurd ⟨r,R.two,R.nodup,fun x hx=>(Gd ws hs k).subset (R.sub x hx),R.chain,R.last⟩ h
  ·exact WA.mp (by omega)
end M
namespace M
def sl:List Int->List Int->Prop
 | x::xs,y::ys=>x<y\/(x=y/\sl xs ys)
 | _,_=>False
def sl_cons {l:Int}{a b:List Int}:sl (l::a) (l::b)↔sl a b:=by
 show(l<l\/(l=l/\sl a b))↔sl a b;constructor
 ·rintro(h|⟨_,h⟩)
  ·omega
  ·exact h
 ·exact fun h=>.inr ⟨rfl,h⟩
def Up (g:Int):List Int->Int
 | []=>g
 | x::t=>Up x t
def Pi (g:Int):∀(a b:List Int),Up g (a++b)=Up (Up g a) b
 | [],b=>rfl
 | x::a,b=>Pi x a b
def Bn (g:Int):∀(t:List Int),(g::t)[t.length]?=some (Up g t)
 | []=>rfl
 | x::t=>by
  rw[YD,Wf];exact Bn x t
def Path (C:Int->Prop) (ws:List (Int×Int)):Int->List Int->Prop
 | _,[]=>True
 | g,x::t=>C x/\(g,x)∈ws/\Path C ws x t
section
variable {C:Int->Prop}{ws:List (Int×Int)}
def path_app:∀{g:Int}{a b:List Int},Path C ws g (a++b)↔Path C ws g a/\Path C ws (Up g a) b
 | g,[],b=>⟨fun h=>⟨trivial,h⟩,fun h=>h.2⟩
 | g,x::a,b=>by
  rw[QN];constructor
  ·rintro⟨h1,h2,h3⟩
   have:=path_app.mp h3
   exact⟨⟨h1,h2,this.1⟩,this.2⟩
  ·rintro⟨⟨h1,h2,h3⟩,h4⟩;exact⟨h1,h2,path_app.mpr ⟨h3,h4⟩⟩
def Ep:∀{g:Int}{t:List Int},Path C ws g t->∀x∈t,C x
 | g,[],_,x,h=>by cases h
 | g,y::t,⟨h1,_,h3⟩,x,h=>by
  rcases Y4.mp h with rfl|h
  ·exact h1
  ·exact Ep h3 x h
def Dm:∀{g:Int}{t:List Int},Path C ws g t->Ff ws (g::t)
 | g,[],_=>fun i x y h1 h2=>by simp at h2
 | g,z::t,⟨h1,h2,h3⟩=>fun i x y k1 k2=>by
  cases i with
  | zero=>
   cases k1
   cases k2
   exact h2
  | succ i=>exact Dm h3 i x y k1 k2
end
def Gr (hs:List Int) (l:Int):Int->Prop:=fun x=>x∈hs/\l<x
def Tf (hs:List Int) (ws:List (Int×Int)) (l:Int) (t:List Int):Prop:=Path (Gr hs l) ws l t/\(Up l t,l)∈ws
def D1:∀{t:List Int},¬t.Nodup->∃a x b c,t=a++x::(b++x::c)
 | [],h=>absurd Qe h
 | y::t,h=>by
  by_cases hy:y∈t
  ·obtain⟨b,c,e⟩:=List.append_of_mem hy;exact⟨[],y,b,c,by rw[e];rfl⟩
  ·obtain⟨a,x,b,c,e⟩:=D1 (t:=t) fun z=>h (YX.mpr ⟨hy,z⟩);exact⟨y::a,x,b,c,by rw[e];rfl⟩
def CL {hs:List Int}{ws:List (Int×Int)}{l:Int}{t:List Int} (hu:∀q∈ws,q.1≠q.2) (hl:l∈hs) (hc:Tf hs ws l t) (hmin:∀u,Tf hs ws l u->t.length<=u.length):Ring hs ws (l::t):=by
 have hne:t≠[]:=fun z=>by
  have h2:=hc.2;rw[z] at h2;exact hu _ h2 rfl
 have hg:=Ep hc.1;refine⟨by have:=Qi.mpr hne;simp;omega,YX.mpr ⟨fun z=>absurd (hg l z).2 (by omega),?_⟩,fun x hx=>?_,Dm hc.1,fun x y h1 h2=>?_⟩
 ·refine YV fun z=>?_;obtain⟨a,x,b,c,e⟩:=D1 z;have h1:=hc.1;rw[e] at h1;obtain⟨p1,p2⟩:=path_app.mp h1;have p3:=(path_app (a:=x::b) (b:=x::c) (g:=Up l a)).mp p2
  have cl:Tf hs ws l (a++x::c):=by
   refine⟨path_app.mpr ⟨p1,p2.1,p2.2.1,p3.2.2.2⟩,?_⟩
   have e2:Up l (a++x::c)=Up l t:=by
    rw[e,Pi,Pi];show Up x c=Up x (b++x::c);rw[Pi];rfl
   rw[e2];exact hc.2
  have:=hmin _ cl
  rw[e] at this;simp at this;omega
 ·rcases Y4.mp hx with rfl|hx
  ·exact hl
  ·exact(hg x hx).1
 ·cases h1
  have e:=Bn l t;simp only[YD,Q6] at h2;rw[e] at h2;cases h2
  exact hc.2
def Ko (ws:List (Int×Int)):Prop:=ws.length<=20/\ws.Nodup/\∀q∈ws,(1<=q.1/\q.1<=10/\1<=q.2/\q.2<=10)/\q.1≠q.2
end M
namespace Pu
open PySem PySem.Spec PyProof.Rows L2 Own
inductive D where
 | int (i:Int)|bl (b:Bool)|non|str (x:Str)|ty (n:String)|tup (ds:List D)|lst (ds:List D)|scr (ns:List Int)|dK (kvs:List (Key×V))|dT (kvs:List (List Key×V))|loc (a:Addr) (d:D)|err (C:Addr)|ref (a:Addr)|ins (C:Addr) (xs:List Str) (ds:List D)
mutual
inductive Rp (K:Za) (H:Hp):D->V->Prop
 | int (i:Int):Rp K H (.int i) (.int i)
 | bl (b:Bool):Rp K H (.bl b) (.bl b)
 | non:Rp K H .non .non
 | str (x:Str):Rp K H (.str x) (.str x)
 | ty (n:String):Rp K H (.ty n) (.ty n)
 | tup {ds:List D} {vs:List V} {a:Addr}:H a=some (.tup vs)->Rps K H ds vs->Rp K H (.tup ds) (.ref a)
 | lst {ds:List D} {vs:List V} {a:Addr}:H a=some (.lst vs)->Rps K H ds vs->Rp K H (.lst ds) (.ref a)
 | scr {ns:List Int} {a:Addr}:SqL K H a (ns.map V.int)->Rp K H (.scr ns) (.ref a)
 | dK {kvs:List (Key×V)} {a:Addr}:H a=some (.dK kvs)->Rp K H (.dK kvs) (.ref a)
 | dT {kvs:List (List Key×V)} {a:Addr}:H a=some (.dT kvs)->Rp K H (.dT kvs) (.ref a)
 | loc {d:D} {a:Addr}:Rp K H d (.ref a)->Rp K H (.loc a d) (.ref a)
 | err {C a:Addr}:H a=some (ExcR.ErrH a C)->Rp K H (.err C) (.ref a)
 | ref (a:Addr):Rp K H (.ref a) (.ref a)
 | ins {C a dx:Addr} {xs:List Str} {ds:List D} {vs:List V}:H a=some (.ins C dx (xs.zip vs))->xs.length=vs.length->Rps K H ds vs->Rp K H (.ins C xs ds) (.ref a)
inductive Rps (K:Za) (H:Hp):List D->List V->Prop
 | nil:Rps K H [] []
 | cons {d:D} {v:V} {ds:List D} {vs:List V}:Rp K H d v->Rps K H ds vs->Rps K H (d::ds) (v::vs)
end
section
variable {K:Za}{H H':Hp}
mutual
def Rp.mono (S:Same H H'):∀{d:D}{v:V},Rp K H d v->Rp K H' d v
 | _,_,.int i=>.int i
 | _,_,.bl b=>.bl b
 | _,_,.non=>.non
 | _,_,.str x=>.str x
 | _,_,.ty n=>.ty n
 | _,_,.tup h r=>.tup (S _ _ h) (Rps.mono S r)
 | _,_,.lst h r=>.lst (S _ _ h) (Rps.mono S r)
 | _,_,.scr h=>.scr (S.seq h)
 | _,_,.dK h=>.dK (S _ _ h)
 | _,_,.dT h=>.dT (S _ _ h)
 | _,_,.loc h=>.loc (Rp.mono S h)
 | _,_,.err h=>.err (S _ _ h)
 | _,_,.ref a=>.ref a
 | _,_,.ins h e r=>.ins (S _ _ h) e (Rps.mono S r)
def Rps.mono (S:Same H H'):∀{ds:List D}{vs:List V},Rps K H ds vs->Rps K H' ds vs
 | _,_,.nil=>.nil
 | _,_,.cons h r=>.cons (Rp.mono S h) (Rps.mono S r)
end
def Rps.len:∀{ds:List D}{vs:List V},Rps K H ds vs->vs.length=ds.length
 | _,_,.nil=>rfl
 | _,_,.cons _ r=>Wa (· + 1) (Rps.len r)
def Rps.get:∀{ds:List D}{vs:List V}{i:Nat}{d:D},Rps K H ds vs->ds[i]?=some d->∃v,vs[i]?=some v/\Rp K H d v
 | _,_,_,_,.nil,e=>by simp at e
 | _,_,0,_,.cons h _,e=>by simp at e;subst e;exact⟨_,rfl,h⟩
 | _,_,i+1,d,.cons _ r,e=>by
  obtain⟨v,h1,h2⟩:=Rps.get (i:=i) (d:=d) r (by simpa using e);exact⟨v,by simpa using h1,h2⟩
def Rps.append:∀{ds es:List D}{vs us:List V},Rps K H ds vs->Rps K H es us->Rps K H (ds++es) (vs++us)
 | _,_,_,_,.nil,s=>s
 | _,_,_,_,.cons h r,s=>.cons h (Rps.append r s)
def Rps.at {ds:List D}{vs:List V}{i:Int}{d:D} (r:Rps K H ds vs) (e:atI ds i=some d):∃v,atI vs i=some v/\Rp K H d v:=by
 unfold atI at e ⊢;rw[r.len];cases q:ixN ds.length i with
 | none=>rw[q] at e;cases e
 | some j=>
  rw[q] at e;exact r.get (show ds[j]?=some d from e)
def Rps.drop:∀{ds:List D}{vs:List V} (n:Nat),Rps K H ds vs->Rps K H (ds.drop n) (vs.drop n)
 | _,_,0,r=>r
 | _,_,_+1,.nil=>.nil
 | _,_,n+1,.cons _ r=>Rps.drop n r
def Rps.take:∀{ds:List D}{vs:List V} (n:Nat),Rps K H ds vs->Rps K H (ds.take n) (vs.take n)
 | _,_,0,_=>.nil
 | _,_,_+1,.nil=>.nil
 | _,_,n+1,.cons h r=>.cons h (Rps.take n r)
end
mutual
def imm:D->Bool
 | .tup ds=>imms ds
 | .lst _=>false
 | .scr _=>false
 | .dK _=>false
 | .dT _=>false
 | .loc _ _=>false
 | .err _=>false
 | .ins _ _ _=>false
 | _=>true
def imms:List D->Bool
 | []=>true
 | d::r=>imm d&&imms r
end
open Classical in
noncomputable def off (Z:Addr->Prop) (H:Hp):Hp:=fun b=>if Z b then none else H b
section
variable {K:Za}{H H':Hp}{Z Z':Addr->Prop}
def XM {b:Addr}{o:HO} (h:off Z H b=some o):H b=some o/\¬Z b:=by
 unfold off at h;by_cases z:Z b
 ·rw[Ys z] at h;cases h
 ·rw[Yq z] at h;exact⟨h,z⟩
def U4 {b:Addr}{o:HO} (h:H b=some o) (z:¬Z b):off Z H b=some o:=by
 unfold off;rw[Yq z];exact h
def JS (S:Same H H') (hz:∀b o,H b=some o->¬Z b->¬Z' b):Same (off Z H) (off Z' H'):=fun b o h=>by
 obtain⟨h1,h2⟩:=XM h;exact U4 (S b o h1) (hz b o h1 h2)
def off_sub:Same (off Z H) H:=fun _ _ h=>(XM h).1
mutual
def Rp.off (hm:∀b,Z b->Mut (H b)):∀{d:D}{v:V},Rp K H d v->imm d=true->Rp K (off Z H) d v
 | _,_,.int i,_=>.int i
 | _,_,.bl b,_=>.bl b
 | _,_,.non,_=>.non
 | _,_,.str x,_=>.str x
 | _,_,.ty n,_=>.ty n
 | _,_,.tup h r,e=>.tup (U4 h fun z=>by have:=hm _ z;rw[h] at this;exact this) (Rps.off hm r (by unfold imm at e;exact e))
 | _,_,.lst _ _,e=>by unfold imm at e;cases e
 | _,_,.scr _,e=>by unfold imm at e;cases e
 | _,_,.dK _,e=>by unfold imm at e;cases e
 | _,_,.dT _,e=>by unfold imm at e;cases e
 | _,_,.loc _,e=>by unfold imm at e;cases e
 | _,_,.err _,e=>by unfold imm at e;cases e
 | _,_,.ref a,_=>.ref a
 | _,_,.ins _ _ _,e=>by unfold imm at e;cases e
def Rps.off (hm:∀b,Z b->Mut (H b)):∀{ds:List D}{vs:List V},Rps K H ds vs->imms ds=true->Rps K (off Z H) ds vs
 | _,_,.nil,_=>.nil
 | _,_,.cons h r,e=>by
  unfold imms at e;rw[Wp] at e;exact .cons (Rp.off hm h e.1) (Rps.off hm r e.2)
end
end
inductive O where
 | lst (ds:List D)|dK (kvs:List (Key×V))|dT (kvs:List (List Key×V))|ins (a C:Addr) (xs:List Str) (cs:List (Addr×List D))|lsA (a:Addr) (ds:List D)
instance:Coe (List D) O:=⟨O.lst⟩
def O.d:O->D
 | .lst ds=>.lst ds | .dK kvs=>.dK kvs | .dT kvs=>.dT kvs | .ins _ C xs cs=>.ins C xs (cs.map fun c=>.lst c.2) | .lsA _ ds=>.lst ds
def O.adr (a:Addr):O->Addr->Prop
 | .lst _=>fun b=>b=a
 | .dK _=>fun b=>b=a
 | .dT _=>fun b=>b=a
 | .ins x _ _ cs=>fun b=>b=x\/∃c∈cs,b=c.1
 | .lsA x _=>fun b=>b=x
def OR (K:Za) (F H:Hp) (a:Addr):O->Prop
 | .lst ds=>∃vs,H a=some (.lst vs)/\Rps K F ds vs
 | .dK kvs=>H a=some (.dK kvs)
 | .dT kvs=>H a=some (.dT kvs)
 | .lsA x ds=>a=x/\∃vs,H a=some (.lst vs)/\Rps K F ds vs
 | .ins x C xs cs=>a=x/\xs.length=cs.length/\(∃dx,H a=some (.ins C dx (xs.zip (cs.map fun c=>V.ref c.1))))/\(∀c∈cs,∃vs,H c.1=some (.lst vs)/\Rps K F c.2 vs)/\(cs.map (·.1)).Nodup
def OR.mono {K:Za}{F F' H H':Hp}{a:Addr}{o:O} (S1:Same F F') (S2:∀b,o.adr a b->∀x,H b=some x->H' b=some x) (h:OR K F H a o):OR K F' H' a o:=by
 cases o with
 | lst ds=>obtain⟨vs,h1,h2⟩:=h;exact⟨vs,S2 _ rfl _ h1,Rps.mono S1 h2⟩
 | dK kvs=>exact S2 _ rfl _ h
 | dT kvs=>exact S2 _ rfl _ h
 | lsA x ds=>obtain⟨rfl,vs,h1,h2⟩:=h;exact⟨rfl,vs,S2 _ rfl _ h1,Rps.mono S1 h2⟩
 | ins x C xs cs=>
  obtain⟨e,l,⟨dx,h1⟩,h2,h3⟩:=h;exact⟨e,l,⟨dx,S2 _ (.inl e) _ h1⟩,fun c hc=>let ⟨vs,q1,q2⟩:=h2 c hc;⟨vs,S2 _ (.inr ⟨c,hc,rfl⟩) _ q1,Rps.mono S1 q2⟩,h3⟩
def Ha {K:Za}{F:Hp}:∀{cs:List (Addr×List D)},(∀c∈cs,∃vs,F c.1=some (.lst vs)/\Rps K F c.2 vs)->Rps K F (cs.map fun c=>.lst c.2) (cs.map fun c=>V.ref c.1)
 | [],_=>.nil
 | c::cs,h=>let ⟨_,q1,q2⟩:=h c YM;.cons (.lst q1 q2) (Ha fun c' hc=>h c' (YG _ hc))
def OR.rpIn {K:Za}{F F' H:Hp}{a:Addr}{o:O} (S1:Same F F') (S2:∀b,o.adr a b->∀x,H b=some x->F' b=some x) (h:OR K F H a o):Rp K F' o.d (.ref a):=by
 cases o with
 | lst ds=>obtain⟨vs,h1,h2⟩:=h;exact .lst (S2 _ rfl _ h1) (Rps.mono S1 h2)
 | dK kvs=>exact .dK (S2 _ rfl _ h)
 | dT kvs=>exact .dT (S2 _ rfl _ h)
 | lsA x ds=>obtain⟨rfl,vs,h1,h2⟩:=h;exact .lst (S2 _ rfl _ h1) (Rps.mono S1 h2)
 | ins x C xs cs=>
  obtain⟨e,l,⟨dx,h1⟩,h2,h3⟩:=h;exact .ins (S2 _ (.inl e) _ h1) (by rw[Yn];exact l) (Ha fun c hc=>let ⟨vs,q1,q2⟩:=h2 c hc;⟨vs,S2 _ (.inr ⟨c,hc,rfl⟩) _ q1,Rps.mono S1 q2⟩)
def OR.rp {K:Za}{F H:Hp}{a:Addr}{o:O} (S1:Same F H) (h:OR K F H a o):Rp K H o.d (.ref a):=h.rpIn S1 fun _ _ _ e=>e
def OR.mut {K:Za}{F H:Hp}{a:Addr}{o:O} (h:OR K F H a o):∀b,o.adr a b->Mut (H b):=by
 cases o with
 | lst ds=>obtain⟨vs,h1,h2⟩:=h;intro b e;rw[show b=a from e,h1];trivial
 | dK kvs=>intro b e;rw[show b=a from e,show H a=some (.dK kvs) from h];trivial
 | dT kvs=>intro b e;rw[show b=a from e,show H a=some (.dT kvs) from h];trivial
 | lsA x ds=>obtain⟨rfl,vs,h1,h2⟩:=h;intro b e;rw[show b=a from e,h1];trivial
 | ins x C xs cs=>
  obtain⟨e,l,⟨dx,h1⟩,h2,h3⟩:=h;intro b hb;rcases hb with hb|⟨c,hc,hb⟩
  ·rw[show b=a from hb.trans e.symm,h1];trivial
  ·obtain⟨vs,q1,_⟩:=h2 c hc;rw[hb,q1];trivial
inductive S where
 | bor (d:D)|sh (d:D)|own (o:O)|view (o:O)|tmp (d:D)
abbrev Γ:=List (Option S)
def D.strip:D->D
 | .loc _ d=>d|d=>d
def Rp.strip {K:Za}{H:Hp}{d:D}{v:V} (h:Rp K H d v):Rp K H d.strip v:=by
 cases h with
 | loc h=>exact h
 | int i=>exact .int i
 | bl b=>exact .bl b
 | non=>exact .non
 | str x=>exact .str x
 | ty n=>exact .ty n
 | tup h r=>exact .tup h r
 | lst h r=>exact .lst h r
 | scr h=>exact .scr h
 | dK h=>exact .dK h
 | dT h=>exact .dT h
 | err h=>exact .err h
 | ref a=>exact .ref a
 | ins h e r=>exact .ins h e r
def S.d:S->D
 | .bor d=>d.strip | .sh d=>d | .own o=>o.d | .view o=>o.d | .tmp d=>d
def arg (d:D):S:=match imm d with|true=>.sh d|false=>.bor d
def argT (d:D):S:=match imm d with|true=>.sh d|false=>.tmp d
def S.sub:S->D->S
 | .bor _,e=>arg e | .tmp _,e=>argT e|_,e=>.sh e
def S.shd:S->Option D
 | .sh d=>some d | .own o=>some o.d
 | .bor d=>match imm d with|true=>some d|false=>none
 | .tmp d=>match imm d with|true=>some d|false=>none
 | .view _=>none
def S.slot:S->Option S
 | .view _=>none | .bor d=>some (.bor d) | .sh d=>some (.sh d) | .own ds=>some (.own ds)
 | .tmp d=>match imm d with|true=>some (.sh d)|false=>none
def RI (γ:Γ) (σ:L2.St) (b:Addr):Prop:=∃(i:Nat) (ds:O) (a:Addr),γ[i]?=some (some (.own ds))/\σ[i]?=some (some (.ref a))/\ds.adr a b
def zof (B:Addr->Prop) (γ:Γ) (σ:L2.St):Addr->Prop:=fun b=>B b\/RI γ σ b
def SV (K:Za) (Z:Addr->Prop) (H0 H:Hp):S->V->Prop
 | .bor d,v=>Rp K H0 d v
 | .sh d,v=>Rp K (off Z H) d v
 | .own o,v=>∃a,v=.ref a/\(∀b,o.adr a b->H0 b=none)/\OR K (off Z H) H a o
 | _,_=>False
def TV (K:Za) (Z:Addr->Prop) (H0 H H':Hp):S->V->Prop
 | .bor d,v=>Rp K H0 d v
 | .sh d,v=>Rp K (off Z H') d v
 | .own o,v=>∃a,v=.ref a/\(∀b,o.adr a b->H b=none)/\OR K (off (fun b=>Z b\/o.adr a b) H') H' a o
 | .view o,v=>∃a,v=.ref a/\OR K (off Z H') H' a o
 | .tmp d,v=>Rp K H' d v
structure EnvR (K:Za) (H0:Hp) (B:Addr->Prop) (H:Hp) (σ:L2.St) (γ:Γ):Prop where
 same:Same H0 H
 len:σ.length=γ.length
 bm:∀b,B b->Mut (H b)
 own:∀(i j:Nat) (a a':Addr) (ds es:O) (b:Addr),γ[i]?=some (some (.own ds))->γ[j]?=some (some (.own es))->σ[i]?=some (some (.ref a))->σ[j]?=some (some (.ref a'))->ds.adr a b->es.adr a' b->i=j
 slot:∀(i:Nat) (s:S),γ[i]?=some (some s)->∃v,σ[i]?=some (some v)/\SV K (zof B γ σ) H0 H s v
section
variable {K:Za}{H0 H H1 H':Hp}{B Z Z':Addr->Prop}{σ:L2.St}{γ:Γ}
def XU (S:Same H H') {b:Addr} (h:Mut (H b)):Mut (H' b):=by
 cases e:H b with
 | none=>rw[e] at h;exact h.elim
 | some o=>rw[S b o e,←e];exact h
def Kq {b:Addr} (h:Mut (H b)):∃o,H b=some o:=by
 cases e:H b with
 | none=>rw[e] at h;exact h.elim
 | some o=>exact⟨o,rfl⟩
def EnvR.grow (E:EnvR K H0 B H σ γ) (S:Same H H'):EnvR K H0 B H' σ γ where
 same:=E.same.trans S
 len:=E.len
 bm b h:=XU S (E.bm b h)
 own:=E.own
 slot i s h:=by
  obtain⟨v,h1,h2⟩:=E.slot i s h;refine⟨v,h1,?_⟩;cases s with
  | bor d=>exact h2
  | sh d=>exact Rp.mono (JS S fun _ _ _ z=>z) h2
  | own ds=>
   obtain⟨a,e1,e3,e4⟩:=h2;exact⟨a,e1,e3,e4.mono (JS S fun _ _ _ z=>z) fun b _ x=>S b x⟩
  | view ds=>exact h2
  | tmp d=>exact h2
def EnvR.zm (E:EnvR K H0 B H σ γ):∀b,zof B γ σ b->Mut (H b):=fun b h=>by
 rcases h with h|⟨i,ds,x,h1,h2,hb⟩
 ·exact E.bm b h
 ·obtain⟨v,e1,a,e2,e3,e4⟩:=E.slot i _ h1;rw[h2] at e1;cases e1
  cases e2
  exact e4.mut b hb
def TV.rp {s:S}{v:V} (h0:Same H0 H') (h:TV K Z H0 H H' s v):Rp K H' s.d v:=by
 cases s with
 | bor d=>exact(Rp.mono h0 h).strip
 | sh d=>exact Rp.mono off_sub h
 | own ds=>
  obtain⟨a,rfl,_,r⟩:=h;exact r.rp off_sub
 | view ds=>
  obtain⟨a,rfl,r⟩:=h;exact r.rp off_sub
 | tmp d=>exact h
def TV.grow {s:S}{v:V} (S1:Same H' H1) (h:TV K Z H0 H H' s v):TV K Z H0 H H1 s v:=by
 cases s with
 | bor d=>exact h
 | sh d=>exact Rp.mono (JS S1 fun _ _ _ z=>z) h
 | own ds=>
  obtain⟨a,rfl,e0,r⟩:=h;exact⟨a,rfl,e0,r.mono (JS S1 fun _ _ _ z=>z) fun b _ x=>S1 b x⟩
 | view ds=>
  obtain⟨a,rfl,r⟩:=h;exact⟨a,rfl,r.mono (JS S1 fun _ _ _ z=>z) fun b _ x=>S1 b x⟩
 | tmp d=>exact Rp.mono S1 h
def TV.weak {s:S}{v:V} (S1:Same H H1) (hz:∀b,Z b->Z' b) (h:TV K Z' H0 H1 H' s v):TV K Z H0 H H' s v:=by
 cases s with
 | bor d=>exact h
 | sh d=>exact Rp.mono (JS (Same.refl _) fun b _ _ z y=>z (hz b y)) h
 | own ds=>
  obtain⟨a,rfl,e0,r⟩:=h;exact⟨a,rfl,fun b hb=>S1.free (e0 b hb),r.mono (JS (Same.refl _) fun b _ _ z y=>z (y.imp (hz b) id)) fun _ _ _ q=>q⟩
 | view ds=>
  obtain⟨a,rfl,r⟩:=h;exact⟨a,rfl,r.mono (JS (Same.refl _) fun b _ _ z y=>z (hz b y)) fun _ _ _ q=>q⟩
 | tmp d=>exact h
def TV.shd {s:S}{v:V}{d:D} (h0:Same H0 H') (hm:∀b,Z b->Mut (H b)) (S1:Same H H') (h:TV K Z H0 H H' s v) (e:s.shd=some d):Rp K (off Z H') d v:=by
 have hm':∀b,Z b->Mut (H' b):=fun b z=>XU S1 (hm b z);cases s with
 | bor d'=>
  unfold S.shd at e;cases q:imm d' with
  | false=>simp[q] at e
  | true=>
   simp[q] at e;subst e;exact Rp.off hm' (Rp.mono h0 h) q
 | sh d'=>cases e;exact h
 | own ds=>
  cases e
  obtain⟨a,rfl,e0,r⟩:=h;exact r.rpIn (JS (Same.refl _) fun b _ _ z y=>z (.inl y)) fun b hb x e=>U4 e fun z=>by have:=hm _ z;rw[e0 b hb] at this;exact this
 | view ds=>cases e
 | tmp d'=>
  unfold S.shd at e;cases q:imm d' with
  | false=>simp[q] at e
  | true=>
   simp[q] at e;subst e;exact Rp.off hm' h q
def argR {d:D}{v:V} (hm:∀b,Z b->Mut (H' b)) (h0:Same H0 H') (h:Rp K H0 d v):TV K Z H0 H H' (arg d) v:=by
 unfold arg;cases q:imm d with
 | true=>exact Rp.off hm (Rp.mono h0 h) q
 | false=>exact h
def TX {d:D}{v:V} (hm:∀b,Z b->Mut (H' b)) (h:Rp K H' d v):TV K Z H0 H H' (argT d) v:=by
 unfold argT;cases q:imm d with
 | true=>exact Rp.off hm h q
 | false=>exact h
def Rp.lst_inv {ds:List D}{v:V} (h:Rp K H (.lst ds) v):∃a vs,v=.ref a/\H a=some (.lst vs)/\Rps K H ds vs:=by
 cases h with
 | lst h r=>exact⟨_,_,rfl,h,r⟩
def Rp.tup_inv {ds:List D}{v:V} (h:Rp K H (.tup ds) v):∃a vs,v=.ref a/\H a=some (.tup vs)/\Rps K H ds vs:=by
 cases h with
 | tup h r=>exact⟨_,_,rfl,h,r⟩
def TV.part {s:S}{v:V} (h0:Same H0 H') (hm:∀b,Z b->Mut (H b)) (S1:Same H H') (h:TV K Z H0 H H' s v) :
  (∀ds,s.d=.lst ds->∃a vs,v=.ref a/\H' a=some (.lst vs)/\vs.length=ds.length/\∀(i:Nat) d,ds[i]?=some d->∃u,vs[i]?=some u/\TV K Z H0 H H' (s.sub d) u)/\
  (∀ds,s.d=.tup ds->∃a vs,v=.ref a/\H' a=some (.tup vs)/\vs.length=ds.length/\∀(i:Nat) d,ds[i]?=some d->∃u,vs[i]?=some u/\TV K Z H0 H H' (s.sub d) u):=by
 have hm':∀b,Z b->Mut (H' b):=fun b z=>XU S1 (hm b z);cases s with
 | bor d=>
  have h:=Rp.strip h;refine⟨fun ds e=>?_,fun ds e=>?_⟩<;>rw[show d.strip=_ from e] at h
  ·obtain⟨a,vs,rfl,h,r⟩:=Rp.lst_inv h;exact⟨_,_,rfl,h0 _ _ h,r.len,fun i d e=>let ⟨u,h1,h2⟩:=r.get e;⟨u,h1,argR hm' h0 h2⟩⟩
  ·obtain⟨a,vs,rfl,h,r⟩:=Rp.tup_inv h;exact⟨_,_,rfl,h0 _ _ h,r.len,fun i d e=>let ⟨u,h1,h2⟩:=r.get e;⟨u,h1,argR hm' h0 h2⟩⟩
 | sh d=>
  refine⟨fun ds e=>?_,fun ds e=>?_⟩<;>(have e':d=_:=e;subst e')
  ·obtain⟨a,vs,rfl,h,r⟩:=Rp.lst_inv h;exact⟨_,_,rfl,off_sub _ _ h,r.len,fun i d e=>r.get e⟩
  ·obtain⟨a,vs,rfl,h,r⟩:=Rp.tup_inv h;exact⟨_,_,rfl,off_sub _ _ h,r.len,fun i d e=>r.get e⟩
 | own es=>
  cases es with
  | lst es=>
   refine⟨fun ds e=>?_,fun ds e=>by cases e⟩;cases e
   obtain⟨a,rfl,e0,vs,e,r⟩:=h;exact⟨a,vs,rfl,e,r.len,fun i d e=>let ⟨u,h1,h2⟩:=r.get e;⟨u,h1,Rp.mono (JS (Same.refl _) fun b _ _ z y=>z (.inl y)) h2⟩⟩
  | lsA x es=>
   refine⟨fun ds e=>?_,fun ds e=>by cases e⟩;cases e
   obtain⟨a,rfl,e0,_,vs,e,r⟩:=h;exact⟨a,vs,rfl,e,r.len,fun i d e=>let ⟨u,h1,h2⟩:=r.get e;⟨u,h1,Rp.mono (JS (Same.refl _) fun b _ _ z y=>z (.inl y)) h2⟩⟩
  | dK es=>exact⟨(fun ds e=>by cases e),(fun ds e=>by cases e)⟩
  | dT es=>exact⟨(fun ds e=>by cases e),(fun ds e=>by cases e)⟩
  | ins x C xs cs=>exact⟨(fun ds e=>by cases e),(fun ds e=>by cases e)⟩
 | view es=>
  cases es with
  | lst es=>
   refine⟨fun ds e=>?_,fun ds e=>by cases e⟩;cases e
   obtain⟨a,rfl,vs,e,r⟩:=h;exact⟨a,vs,rfl,e,r.len,fun i d e=>r.get e⟩
  | lsA x es=>
   refine⟨fun ds e=>?_,fun ds e=>by cases e⟩;cases e
   obtain⟨a,rfl,_,vs,e,r⟩:=h;exact⟨a,vs,rfl,e,r.len,fun i d e=>r.get e⟩
  | dK es=>exact⟨(fun ds e=>by cases e),(fun ds e=>by cases e)⟩
  | dT es=>exact⟨(fun ds e=>by cases e),(fun ds e=>by cases e)⟩
  | ins x C xs cs=>exact⟨(fun ds e=>by cases e),(fun ds e=>by cases e)⟩
 | tmp d=>
  refine⟨fun ds e=>?_,fun ds e=>?_⟩<;>(have e':d=_:=e;subst e')
  ·obtain⟨a,vs,rfl,h,r⟩:=Rp.lst_inv h;exact⟨_,_,rfl,h,r.len,fun i d e=>let ⟨u,h1,h2⟩:=r.get e;⟨u,h1,TX hm' h2⟩⟩
  ·obtain⟨a,vs,rfl,h,r⟩:=Rp.tup_inv h;exact⟨_,_,rfl,h,r.len,fun i d e=>let ⟨u,h1,h2⟩:=r.get e;⟨u,h1,TX hm' h2⟩⟩
def Fr (B:Addr->Prop) (H:Hp) (σ:L2.St) (γ:Γ) (H':Hp) (σ':L2.St) (γ':Γ):Prop:=∀b o,H b=some o->¬zof B γ σ b->H' b=some o/\¬zof B γ' σ' b
def Fr.refl:Fr B H σ γ H σ γ:=fun _ _ h z=>⟨h,z⟩
def Fr.trans {H1 H2:Hp}{σ1 σ2:L2.St}{γ1 γ2:Γ} (a:Fr B H σ γ H1 σ1 γ1) (b:Fr B H1 σ1 γ1 H2 σ2 γ2):Fr B H σ γ H2 σ2 γ2:=fun x o h z=>let ⟨h1,z1⟩:=a x o h z;b x o h1 z1
def Fr.grow (S1:Same H H'):Fr B H σ γ H' σ γ:=fun _ _ h z=>⟨S1 _ _ h,z⟩
def Fr.off {H':Hp}{σ':L2.St}{γ':Γ} (f:Fr B H σ γ H' σ' γ'):Same (off (zof B γ σ) H) (Pu.off (zof B γ' σ') H'):=fun b o h=>by
 obtain⟨h1,h2⟩:=XM h;obtain⟨h3,h4⟩:=f b o h1 h2;exact U4 h3 h4
def Uv {α:Type}{l:List α}{i j:Nat}{x y:α} (h:(l.set i x)[j]?=some y):(j=i/\x=y/\i<l.length)\/(j≠i/\l[j]?=some y):=by
 rw[List.getElem?_set] at h;by_cases e:i=j
 ·subst e;rw[Ys rfl] at h;by_cases e2:i<l.length
  ·rw[Ys e2] at h;exact .inl ⟨rfl,Y2 h,e2⟩
  ·rw[Yq e2] at h;cases h
 ·rw[Yq e] at h;exact .inr ⟨fun z=>e z.symm,h⟩
def N1 {α:Type}{l:List α}{i:Nat}{x:α} (h:i<l.length):(l.set i x)[i]?=some x:=by rw[Qn h]
def XJ {α:Type}{l:List α}{i j:Nat}{x:α} (h:j≠i):(l.set i x)[j]?=l[j]?:=Qw fun z=>h z.symm
def EnvR.drop (E:EnvR K H0 B H σ γ) (i:Nat):EnvR K H0 B H σ (γ.set i none)/\Fr B H σ γ H σ (γ.set i none):=by
 have hz:∀b,zof B (γ.set i none) σ b->zof B γ σ b:=fun b z=>z.imp id fun⟨j,ds,a,h1,h2,h3⟩=>by
  rcases Uv h1 with⟨_,e,_⟩|⟨_,e⟩
  ·cases e
  ·exact⟨j,ds,a,e,h2,h3⟩
 refine⟨⟨E.same,by rw[Wt];exact E.len,E.bm,fun k j a a' ds es b h1 h2=>?_,fun k s h=>?_⟩,fun b o h z=>⟨h,fun y=>z (hz b y)⟩⟩
 ·rcases Uv h1 with⟨_,e,_⟩|⟨_,e1⟩
  ·cases e
  ·rcases Uv h2 with⟨_,e,_⟩|⟨_,e2⟩
   ·cases e
   ·exact E.own k j a a' ds es b e1 e2
 ·rcases Uv h with⟨_,e,_⟩|⟨_,e⟩
  ·cases e
  ·obtain⟨v,h1,h2⟩:=E.slot k s e;refine⟨v,h1,?_⟩;have S1:Same (Pu.off (zof B γ σ) H) (Pu.off (zof B (γ.set i none) σ) H):=JS (Same.refl _) fun b _ _ z y=>z (hz b y);cases s with
   | bor d=>exact h2
   | sh d=>exact Rp.mono S1 h2
   | own ds=>
    obtain⟨a,e1,e3,e4⟩:=h2;exact⟨a,e1,e3,e4.mono S1 fun _ _ _ q=>q⟩
   | view ds=>exact h2
   | tmp d=>exact h2
def EnvR.put {i:Nat}{s s':S}{v:V} (E:EnvR K H0 B H σ γ) (S1:Same H H') (h:TV K (zof B γ σ) H0 H H' s v) (e:s.slot=some s') (hi:i<γ.length) :
  EnvR K H0 B H' (σ.set i (some v)) (γ.set i (some s'))/\Fr B H σ γ H' (σ.set i (some v)) (γ.set i (some s')):=by
 have hiσ:i<σ.length:=by rw[E.len];exact hi
 have E':=E.grow S1
 have isown:∀ds,s'=.own ds->s=.own ds:=fun ds q=>by
  subst q;cases s with
  | own es=>cases e;rfl
  | bor d=>cases e
  | sh d=>cases e
  | view d=>cases e
  | tmp d=>unfold S.slot at e;cases q:imm d<;>simp[q] at e
 have hown:∀b,zof B (γ.set i (some s')) (σ.set i (some v)) b->zof B γ σ b\/∃ds a,s=.own ds/\v=.ref a/\ds.adr a b:=fun b z=>by
  rcases z with z|⟨j,ds,a,h1,h2,h3⟩
  ·exact .inl (.inl z)
  ·rcases Uv h1 with⟨ej,e1,_⟩|⟨nj,e1⟩
   ·subst ej;rw[N1 hiσ] at h2
    have:s'=.own ds:=Y2 e1
    exact .inr ⟨ds,a,isown ds this,Y2 (Y2 h2),h3⟩
   ·rw[XJ nj] at h2;exact .inl (.inr ⟨j,ds,a,e1,h2,h3⟩)
 have fresh:∀ds a b,s=.own ds->v=.ref a->ds.adr a b->H b=none:=fun ds a b es ev hb=>by
  subst es;obtain⟨a',e1,e0,_⟩:=h;rw[ev] at e1;cases e1
  exact e0 b hb
 have hz:∀b o,H b=some o->¬zof B γ σ b->¬zof B (γ.set i (some s')) (σ.set i (some v)) b:=fun b o hb z y=>by
  rcases hown b y with y|⟨ds,a,y1,y2,y3⟩
  ·exact z y
  ·rw[fresh ds a b y1 y2 y3] at hb;cases hb
 have So:Same (off (zof B γ σ) H) (Pu.off (zof B (γ.set i (some s')) (σ.set i (some v))) H'):=JS S1 hz;refine⟨⟨E'.same,by rw[Wt,Wt];exact E.len,E'.bm,fun k j a a' ds es b h1 h2 h3 h4 h5 h6=>?_,fun k u hk=>?_⟩,fun b o hb z=>⟨S1 b o hb,hz b o hb z⟩⟩
 ·have old:∀(k:Nat) (ds:O) (a b:Addr),γ[k]?=some (some (.own ds))->σ[k]?=some (some (.ref a))->ds.adr a b->∃o,H b=some o:=fun k ds a b e1 e2 e3=>by
   obtain⟨u,q1,a',q2,_,q3⟩:=E.slot k _ e1;rw[e2] at q1;cases q1
   cases q2
   exact Kq (q3.mut b e3)
  rcases Uv h1 with⟨ek,e1,_⟩|⟨nk,e1⟩
  ·rcases Uv h2 with⟨ej,e2,_⟩|⟨nj,e2⟩
   ·rw[ek,ej]
   ·subst ek;rw[N1 hiσ] at h3;rw[XJ nj] at h4;obtain⟨o,ho⟩:=old j es a' b e2 h4 h6;rw[fresh ds a b (isown ds (Y2 e1)) (Y2 (Y2 h3)) h5] at ho;cases ho
  ·rcases Uv h2 with⟨ej,e2,_⟩|⟨nj,e2⟩
   ·subst ej;rw[N1 hiσ] at h4;rw[XJ nk] at h3;obtain⟨o,ho⟩:=old k ds a b e1 h3 h5;rw[fresh es a' b (isown es (Y2 e2)) (Y2 (Y2 h4)) h6] at ho;cases ho
   ·rw[XJ nk] at h3;rw[XJ nj] at h4;exact E.own k j a a' ds es b e1 e2 h3 h4 h5 h6
 ·rcases Uv hk with⟨ek,e1,_⟩|⟨nk,e1⟩
  ·subst ek
   have:u=s':=(Y2 e1).symm
   subst this;refine⟨v,N1 hiσ,?_⟩;cases s with
   | own ds=>
    cases e
    obtain⟨a,rfl,e0,r⟩:=h;refine⟨a,rfl,fun b hb=>E.same.free (e0 b hb),r.mono (JS (Same.refl _) fun b o _ z y=>?_) fun _ _ _ q=>q⟩;rcases hown b y with y|⟨_,_,y1,y,y2⟩
    ·exact z (.inl y)
    ·cases y;cases y1;exact z (.inr y2)
   | sh d=>
    cases e
    refine Rp.mono (JS (Same.refl _) fun b o _ z y=>?_) h;rcases hown b y with y|⟨_,_,y,_⟩
    ·exact z y
    ·cases y
   | bor d=>cases e;exact h
   | view d=>cases e
   | tmp d=>
    unfold S.slot at e;cases q:imm d with
    | false=>simp[q] at e
    | true=>
     simp[q] at e;subst e;refine Rp.off (fun b y=>?_) h q;rcases hown b y with y|⟨_,_,y,_⟩
     ·exact XU S1 (E.zm b y)
     ·cases y
  ·obtain⟨w,q1,q2⟩:=E.slot k u e1;refine⟨w,by rw[XJ nk];exact q1,?_⟩;cases u with
   | bor d=>exact q2
   | sh d=>exact Rp.mono So q2
   | own ds=>
    obtain⟨a,e1,e3,e4⟩:=q2;exact⟨a,e1,e3,e4.mono So fun b _ x=>S1 b x⟩
   | view ds=>exact q2
   | tmp d=>exact q2
def frz (i:Nat) (γ:Γ):Γ:=match γ[i]? with
 | some (some (.own o))=>γ.set i (some (.sh o.d))
 | _=>γ
def EnvR.frz (E:EnvR K H0 B H σ γ) (hB:∀b,B b->∃o,H0 b=some o) (i:Nat):EnvR K H0 B H σ (frz i γ)/\Fr B H σ γ H σ (Pu.frz i γ):=by
 unfold Pu.frz;split
 ·rename_i ds hi;have hlt:i<γ.length:=(YF.mp hi).1
  have hz:∀b,zof B (γ.set i (some (.sh ds.d))) σ b->zof B γ σ b:=fun b z=>z.imp id fun⟨j,es,a,h1,h2,h3⟩=>by
   rcases Uv h1 with⟨_,e,_⟩|⟨_,e⟩
   ·cases e
   ·exact⟨j,es,a,e,h2,h3⟩
  have S1:Same (Pu.off (zof B γ σ) H) (Pu.off (zof B (γ.set i (some (.sh ds.d))) σ) H):=JS (Same.refl _) fun b _ _ z y=>z (hz b y);refine⟨⟨E.same,by rw[Wt];exact E.len,E.bm,fun k j a a' es es' b h1 h2=>?_,fun k s h=>?_⟩,fun b o h z=>⟨h,fun y=>z (hz b y)⟩⟩
  ·rcases Uv h1 with⟨_,e,_⟩|⟨_,e1⟩
   ·cases e
   ·rcases Uv h2 with⟨_,e,_⟩|⟨_,e2⟩
    ·cases e
    ·exact E.own k j a a' es es' b e1 e2
  ·rcases Uv h with⟨ek,e,_⟩|⟨nk,e⟩
   ·subst ek
    have:=Y2 e
    subst this;obtain⟨v,h1,a,rfl,h3,h4⟩:=E.slot k _ hi;refine⟨_,h1,h4.rpIn S1 fun b hb x h2=>U4 h2 fun z=>?_⟩;rcases z with z|⟨j,es,a',e1,e2,e3⟩
    ·obtain⟨o,ho⟩:=hB b z;rw[h3 b hb] at ho;cases ho
    ·rcases Uv e1 with⟨_,q,_⟩|⟨nj,q⟩
     ·cases q
     ·exact nj (E.own j k a' a es ds b q hi e2 h1 e3 hb)
   ·obtain⟨v,h1,h2⟩:=E.slot k s e;refine⟨v,h1,?_⟩;cases s with
    | bor d=>exact h2
    | sh d=>exact Rp.mono S1 h2
    | own ds=>
     obtain⟨a,e1,e3,e4⟩:=h2;exact⟨a,e1,e3,e4.mono S1 fun _ _ _ q=>q⟩
    | view ds=>exact h2
    | tmp d=>exact h2
 ·exact⟨E,Fr.refl⟩
def EnvR.change {i:Nat}{a:Addr}{o o':O} (E:EnvR K H0 B H σ γ) (hi:γ[i]?=some (some (.own o))) (ha:σ[i]?=some (some (.ref a)))
  (hH:∀b x,H b=some x->¬o.adr a b->H' b=some x) (hm:∀b,o.adr a b->Mut (H' b)) (hadr:∀b,o'.adr a b->o.adr a b\/H b=none) (r:OR K (Pu.off (zof B (γ.set i (some (.own o'))) σ) H') H' a o') :
  EnvR K H0 B H' σ (γ.set i (some (.own o')))/\Fr B H σ γ H' σ (γ.set i (some (.own o'))):=by
 have hlt:i<γ.length:=(YF.mp hi).1;obtain⟨v,h1,a',rfl,h3,h4⟩:=E.slot i _ hi;rw[ha] at h1;cases h1
 have za:∀b,o.adr a b->zof B γ σ b:=fun b hb=>.inr ⟨i,o,a,hi,ha,hb⟩
 have hz:∀b x,H b=some x->zof B (γ.set i (some (.own o'))) σ b->zof B γ σ b:=fun b x hx z=>by
  rcases z with z|⟨j,fs,a',e1,e2,e3⟩
  ·exact .inl z
  ·rcases Uv e1 with⟨ej,q,_⟩|⟨_,e⟩
   ·subst ej;cases q
    rw[ha] at e2;cases e2
    rcases hadr b e3 with k|k
    ·exact za b k
    ·rw[k] at hx;cases hx
   ·exact .inr ⟨j,fs,a',e,e2,e3⟩
 have S1:Same (Pu.off (zof B γ σ) H) (Pu.off (zof B (γ.set i (some (.own o'))) σ) H'):=fun b x h=>by
  obtain⟨q1,q2⟩:=XM h;exact U4 (hH b x q1 fun k=>q2 (za b k)) fun z=>q2 (hz b x q1 z)
 have old:∀(k:Nat) (ds:O) (a b:Addr),γ[k]?=some (some (.own ds))->σ[k]?=some (some (.ref a))->ds.adr a b->∃o,H b=some o:=fun k ds a b e1 e2 e3=>by
  obtain⟨u,q1,a',q2,_,q3⟩:=E.slot k _ e1;rw[e2] at q1;cases q1
  cases q2
  exact Kq (q3.mut b e3)
 refine⟨⟨fun b x h=>?_,by rw[Wt];exact E.len,fun b hb=>?_,fun k j x x' fs fs' b e1 e2 e3 e4 e5 e6=>?_,fun k s h=>?_⟩,fun b x h z=>⟨?_,fun y=>z (hz b x h y)⟩⟩
 ·exact hH b x (E.same b x h) fun k=>by rw[h3 b k] at h;cases h
 ·by_cases k:o.adr a b
  ·exact hm b k
  ·have:=E.bm b hb
   obtain⟨x,hx⟩:=Kq this;rw[hH b x hx k,←hx];exact this
 ·rcases Uv e1 with⟨ek,q1,_⟩|⟨nk,q1⟩
  ·rcases Uv e2 with⟨ej,_,_⟩|⟨nj,q2⟩
   ·rw[ek,ej]
   ·subst ek;cases q1
    rw[ha] at e3;cases e3
    rcases hadr b e5 with w|w
    ·exact E.own k j _ _ _ _ b hi q2 ha e4 w e6
    ·obtain⟨u,hu⟩:=old j fs' x' b q2 e4 e6;rw[w] at hu;cases hu
  ·rcases Uv e2 with⟨ej,q2,_⟩|⟨nj,q2⟩
   ·subst ej;cases q2
    rw[ha] at e4;cases e4
    rcases hadr b e6 with w|w
    ·exact E.own k j _ _ _ _ b q1 hi e3 ha e5 w
    ·obtain⟨u,hu⟩:=old k fs x b q1 e3 e5;rw[w] at hu;cases hu
   ·exact E.own k j x x' fs fs' b q1 q2 e3 e4 e5 e6
 ·rcases Uv h with⟨ek,e,_⟩|⟨nk,e⟩
  ·subst ek
   have:=Y2 e
   subst this;exact⟨_,ha,a,rfl,fun b hb=>(hadr b hb).elim (h3 b) fun w=>E.same.free w,r⟩
  ·obtain⟨v,q1,q2⟩:=E.slot k s e;refine⟨v,q1,?_⟩;cases s with
   | bor d=>exact q2
   | sh d=>exact Rp.mono S1 q2
   | own fs=>
    obtain⟨x,rfl,e3,e4⟩:=q2;exact⟨x,rfl,e3,e4.mono S1 fun b hb y e2=>hH b y e2 fun w=>nk (E.own k i x a fs o b e hi q1 ha hb w)⟩
   | view ds=>exact q2
   | tmp d=>exact q2
 ·exact hH b x h fun k=>z (za b k)
def EnvR.mutate {i:Nat}{a:Addr}{ds es:O}{us:HO} (E:EnvR K H0 B H σ γ) (hi:γ[i]?=some (some (.own ds))) (ha:σ[i]?=some (some (.ref a))) (hu:Mut (some us)) (r:∀F H':Hp,Same (Pu.off (zof B γ σ) H) F->H' a=some us->OR K F H' a es)
  (k1:ds.adr a=fun b=>b=a:=by rfl) (k2:es.adr a=fun b=>b=a:=by rfl) :
  EnvR K H0 B (upd H a us) σ (γ.set i (some (.own es)))/\Fr B H σ γ (upd H a us) σ (γ.set i (some (.own es))):=by
 refine E.change (o:=ds) (o':=es) hi ha (fun b x h n=>by rw[JX (fun z=>n (by rw[k1];exact z))];exact h) (fun b h=>by rw[k1] at h;rw[show b=a from h,Uo];exact hu) (fun b h=>.inl (by rw[k1];rw[k2] at h;exact h)) (r _ _ ?_ Uo)
 intro b x h;obtain⟨q1,q2⟩:=XM h;have nb:b≠a:=fun z=>q2 (.inr ⟨i,ds,a,hi,ha,by rw[k1];exact z⟩);refine U4 (by rw[JX nb];exact q1) fun z=>q2 ?_;rcases z with z|⟨j,fs,a',e1,e2,e3⟩
 ·exact .inl z
 ·rcases Uv e1 with⟨ej,q,_⟩|⟨_,e⟩
  ·subst ej;cases q
   rw[ha] at e2;cases e2
   rw[k2] at e3;exact absurd e3 nb
  ·exact .inr ⟨j,fs,a',e,e2,e3⟩
end
end Pu
namespace Pu
open PySem PySem.Spec PyProof.Rows L2 Own
abbrev XR:=Str->Prop
abbrev PTE:=Γ->(S->Prop)->XR->Prop
abbrev PTT:=Γ->(Bool->Prop)->XR->Prop
abbrev PTA:=Γ->(List S->Prop)->XR->Prop
abbrev PTO:=Γ->(Option Int->Prop)->XR->Prop
structure PEnds where
 nx:Γ->Prop
 rt:S->Prop
 ex:Γ->Str->Prop
 bk:Γ->Prop:=fun _=>False
 ct:Γ->Prop:=fun _=>False
 rv:Γ->D->Prop:=fun _ _=>False
abbrev PTS:=PEnds->Γ->Prop
abbrev PTG:=S->Γ->(Γ->Prop)->Prop
abbrev PTGs:=List S->Γ->(Γ->Prop)->Prop
inductive TVs (K:Za) (Z:Addr->Prop) (H0 H H':Hp):List S->List V->Prop
 | nil:TVs K Z H0 H H' [] []
 | cons {s:S} {v:V} {ss:List S} {vs:List V}:TV K Z H0 H H' s v->TVs K Z H0 H H' ss vs->TVs K Z H0 H H' (s::ss) (v::vs)
section
variable (K:Za) (mg:Str->Option Value) (E:L2.St->XK)
def SndE (t:TE) (p:PTE):Prop:=∀(H0:Hp) (B:Addr->Prop) (H:Hp) (σ:L2.St) (γ:Γ) (R:S->Prop) (X:XR) (Q:VK),EnvR K H0 B H σ γ->p γ R X->
 (∀s v H',R s->Same H H'->TV K (zof B γ σ) H0 H H' s v->Q v H')->(∀c H',X c->Same H H'->E σ (.ref (ExcR.JB mg c)) none H')->t σ H Q
def SndT (t:TT) (p:PTT):Prop:=∀(H0:Hp) (B:Addr->Prop) (H:Hp) (σ:L2.St) (γ:Γ) (R:Bool->Prop) (X:XR) (Q:Bool->Hp->Prop),EnvR K H0 B H σ γ->p γ R X->
 (∀b H',R b->Same H H'->Q b H')->(∀c H',X c->Same H H'->E σ (.ref (ExcR.JB mg c)) none H')->t σ H Q
def SndA (t:TA) (p:PTA):Prop:=∀(H0:Hp) (B:Addr->Prop) (H:Hp) (σ:L2.St) (γ:Γ) (R:List S->Prop) (X:XR) (Q:List V->Hp->Prop),EnvR K H0 B H σ γ->p γ R X->
 (∀ss vs H',R ss->Same H H'->TVs K (zof B γ σ) H0 H H' ss vs->Q vs H')->(∀c H',X c->Same H H'->E σ (.ref (ExcR.JB mg c)) none H')->t σ H Q
def SndO (t:TO) (p:PTO):Prop:=∀(H0:Hp) (B:Addr->Prop) (H:Hp) (σ:L2.St) (γ:Γ) (R:Option Int->Prop) (X:XR) (Q:Option Int->Hp->Prop),EnvR K H0 B H σ γ->p γ R X->
 (∀o H',R o->Same H H'->Q o H')->(∀c H',X c->Same H H'->E σ (.ref (ExcR.JB mg c)) none H')->t σ H Q
structure EndR (H0:Hp) (B:Addr->Prop) (H:Hp) (σ:L2.St) (γ:Γ) (R:PEnds) (D:Ends):Prop where
 nx:∀σ' γ' H',R.nx γ'->EnvR K H0 B H' σ' γ'->Fr B H σ γ H' σ' γ'->D.nx σ' H'
 rt:∀s v H',R.rt s->Same H0 H'->TV K B H0 H0 H' s v->D.rt v H'
 ex:∀σ' γ' c H',R.ex γ' c->EnvR K H0 B H' σ' γ'->Fr B H σ γ H' σ' γ'->E σ' (.ref (ExcR.JB mg c)) none H'
 bk:∀σ' γ' H',R.bk γ'->EnvR K H0 B H' σ' γ'->Fr B H σ γ H' σ' γ'->D.bk σ' H'
 ct:∀σ' γ' H',R.ct γ'->EnvR K H0 B H' σ' γ'->Fr B H σ γ H' σ' γ'->D.ct σ' H'
 rv:∀σ' γ' d v H',R.rv γ' d->EnvR K H0 B H' σ' γ'->Fr B H σ γ H' σ' γ'->Rp K (off (zof B γ' σ') H') d v->D.rt v H'
def SndS (t:TS) (p:PTS):Prop:=∀(H0:Hp) (B:Addr->Prop) (H:Hp) (σ:L2.St) (γ:Γ) (R:PEnds) (D:Ends),(∀b,B b->∃o,H0 b=some o)->EnvR K H0 B H σ γ->p R γ->EndR K mg E H0 B H σ γ R D->t D σ H
end
section
variable {K:Za}{mg:Str->Option Value}{E:L2.St->XK}{H0 H H1 H':Hp}{B Z Z':Addr->Prop}{σ:L2.St}{γ:Γ}
def TVs.weakG {H1 H2:Hp}:∀{ss:List S}{vs:List V},Same H H1->TVs K Z H0 H1 H2 ss vs->TVs K Z H0 H H2 ss vs
 | _,_,_,.nil=>.nil
 | _,_,S1,.cons h r=>.cons (TV.weak S1 (fun _ z=>z) h) (TVs.weakG S1 r)
def TVs.rps (h0:Same H0 H'):∀{ss:List S}{vs:List V},TVs K Z H0 H H' ss vs->Rps K H' (ss.map S.d) vs
 | _,_,.nil=>.nil
 | _,_,.cons h r=>.cons (h.rp h0) (TVs.rps h0 r)
def TVs.shd {ds:List D} (h0:Same H0 H') (hm:∀b,Z b->Mut (H b)) (S1:Same H H'):∀{ss:List S}{vs:List V}{ds:List D},TVs K Z H0 H H' ss vs->ss.map S.shd=ds.map some->Rps K (off Z H') ds vs
 | _,_,[],.nil,_=>.nil
 | _,_,_::_,.nil,e=>by cases e
 | _,_,[],.cons _ _,e=>by cases e
 | _,_,d::ds,.cons h r,e=>by
  rw[YA,YA,Qm] at e;exact .cons (h.shd h0 hm S1 e.1) (TVs.shd (ds:=ds) h0 hm S1 r e.2)
def Rp.int_inv {i:Int}{v:V} (h:Rp K H (.int i) v):v=.int i:=by cases h;rfl
def Rp.bl_inv {b:Bool}{v:V} (h:Rp K H (.bl b) v):v=.bl b:=by cases h;rfl
def Rp.str_inv {x:Str}{v:V} (h:Rp K H (.str x) v):v=.str x:=by cases h;rfl
def Rp.non_inv {v:V} (h:Rp K H .non v):v=.non:=by cases h;rfl
def Rp.ty_inv {n:String}{v:V} (h:Rp K H (.ty n) v):v=.ty n:=by cases h;rfl
def pVar (i:Nat):PTE:=fun γ R _=>match γ[i]? with
 | some (some (.own ds))=>R (.view ds)
 | some (some s)=>R s
 | _=>False
def J0 (i:Nat):SndE K mg E (tVar i) (pVar i):=by
 intro H0 B H σ γ R X Q env h q _;unfold pVar at h;split at h
 ·rename_i ds e;obtain⟨v,h1,a,rfl,h3,h4⟩:=env.slot i _ e;exact⟨_,h1,q _ _ H h (Same.refl _) ⟨a,rfl,h4⟩⟩
 ·rename_i s ns e;obtain⟨v,h1,h2⟩:=env.slot i _ e;refine⟨v,h1,q _ _ H h (Same.refl _) ?_⟩;cases s with
  | bor d=>exact h2
  | sh d=>exact h2
  | own ds=>exact absurd rfl (ns ds)
  | view ds=>exact h2.elim
  | tmp d=>exact h2.elim
 ·exact h.elim
def pC (d:D):PTE:=fun _ R _=>R (.sh d)
def se_c {d:D}{v:V} (h:∀H,Rp K H d v):SndE K mg E (tC v) (pC d):=by
 intro H0 B H σ γ R X Q env p q _;exact q _ _ H p (Same.refl _) (h _)
def J1 {i:Int}:SndE K mg E (tC (.int i)) (pC (.int i)):=se_c fun _=>.int i
def Ur {b:Bool}:SndE K mg E (tC (.bl b)) (pC (.bl b)):=se_c fun _=>.bl b
def Um {x:Str}:SndE K mg E (tC (.str x)) (pC (.str x)):=se_c fun _=>.str x
def Kg {n:String}:SndE K mg E (tC (.ty n)) (pC (.ty n)):=se_c fun _=>.ty n
def p2 (a b:PTE) (f:S->S->(S->Prop)->Prop):PTE:=fun γ R X=>a γ (fun x=>b γ (fun y=>f x y R) X) X
def se_2 {r:R2}{ta tb:TE}{a b:PTE}{f:S->S->(S->Prop)->Prop} (ha:SndE K mg E ta a) (hb:SndE K mg E tb b)
  (hr:∀(H0 H H2:Hp) (Z:Addr->Prop) (x y:S) (v u:V) (R:S->Prop) (Q:VK),Same H0 H2->Same H H2->(∀b,Z b->Mut (H b))->TV K Z H0 H H2 x v->TV K Z H0 H H2 y u->f x y R->(∀s z H',R s->Same H2 H'->TV K Z H0 H H' s z->Q z H')->r v u H2 Q) :
  SndE K mg E (tOp r ta tb) (p2 a b f):=by
 intro H0 B H σ γ R X Q env p q qx;refine ha H0 B H σ γ _ X _ env p (fun x v H1 h1 S1 t1=>?_) qx;have env1:=env.grow S1;refine hb H0 B H1 σ γ _ X _ env1 h1 (fun y u H2 h2 S2 t2=>?_) fun c H' hc S'=>qx c H' hc (S1.trans S');exact hr H0 H H2 _ x y v u R Q (env1.same.trans S2) (S1.trans S2) env.zm (t1.grow S2) (TV.weak S1 (fun _ z=>z) t2) h2 fun s z H' hs S3 t3=>q s z H' hs ((S1.trans S2).trans S3) t3
def fI0 (g:Int->Int->D):S->S->(S->Prop)->Prop:=fun x y R=>match x.d,y.d with
 | .int i,.int j=>R (.sh (g i j))
 | _,_=>False
def fI (C:Int->Int->Prop) (g:Int->Int->D):S->S->(S->Prop)->Prop:=fun x y R=>match x.d,y.d with
 | .int i,.int j=>C i j/\R (.sh (g i j))
 | _,_=>False
def Tg {g:Int->Int->V}{g':Int->Int->D}{ta tb:TE}{a b:PTE} (hg:∀H i j,Rp K H (g' i j) (g i j)) (ha:SndE K mg E ta a) (hb:SndE K mg E tb b):SndE K mg E (tOp (rI0 g) ta tb) (p2 a b (fI0 g')):=by
 refine se_2 ha hb fun H0 H H2 Z x y v u R Q s0 s1 hm tx ty h q=>?_;unfold fI0 at h;have rx:=tx.rp s0;have ry:=ty.rp s0;split at h
 ·rename_i i j e1 e2;rw[e1] at rx;rw[e2] at ry;exact⟨i,j,rx.int_inv,ry.int_inv,q _ _ H2 h (Same.refl _) (hg _ i j)⟩
 ·exact h.elim
def se_I {C:Int->Int->Prop}{g:Int->Int->V}{g':Int->Int->D}{ta tb:TE}{a b:PTE} (hg:∀H i j,Rp K H (g' i j) (g i j)) (ha:SndE K mg E ta a) (hb:SndE K mg E tb b):SndE K mg E (tOp (rI C g) ta tb) (p2 a b (fI C g')):=by
 refine se_2 ha hb fun H0 H H2 Z x y v u R Q s0 s1 hm tx ty h q=>?_;unfold fI at h;have rx:=tx.rp s0;have ry:=ty.rp s0;split at h
 ·rename_i i j e1 e2;rw[e1] at rx;rw[e2] at ry;exact⟨i,j,rx.int_inv,ry.int_inv,h.1,q _ _ H2 h.2 (Same.refl _) (hg _ i j)⟩
 ·exact h.elim
section
variable {ta tb tc:TE}{a b c:PTE}
def Ue (ha:SndE K mg E ta a) (hb:SndE K mg E tb b):SndE K mg E (tOp (rI0 fun i j=>.int (i+j)) ta tb) (p2 a b (fI0 fun i j=>.int (i+j))):=Tg (fun _ _ _=>.int _) ha hb
def UU (ha:SndE K mg E ta a) (hb:SndE K mg E tb b):SndE K mg E (tOp (rI0 fun i j=>.int (i-j)) ta tb) (p2 a b (fI0 fun i j=>.int (i-j))):=Tg (fun _ _ _=>.int _) ha hb
def KD (ha:SndE K mg E ta a) (hb:SndE K mg E tb b):SndE K mg E (tOp (rI CMul fun i j=>.int (i*j)) ta tb) (p2 a b (fI CMul fun i j=>.int (i*j))):=se_I (fun _ _ _=>.int _) ha hb
def U6 (ha:SndE K mg E ta a) (hb:SndE K mg E tb b):SndE K mg E (tOp (rI CDiv fun i j=>.int (i / j)) ta tb) (p2 a b (fI CDiv fun i j=>.int (i / j))):=se_I (fun _ _ _=>.int _) ha hb
def Ua (ha:SndE K mg E ta a) (hb:SndE K mg E tb b):SndE K mg E (tOp (rI (fun _ j=>0<j) fun i j=>.int (i % j)) ta tb) (p2 a b (fI (fun _ j=>0<j) fun i j=>.int (i % j))):=se_I (fun _ _ _=>.int _) ha hb
def Ak (ha:SndE K mg E ta a) (hb:SndE K mg E tb b):SndE K mg E (tOp (rI CPow fun i j=>.int (i ^ j.toNat)) ta tb) (p2 a b (fI CPow fun i j=>.int (i ^ j.toNat))):=se_I (fun _ _ _=>.int _) ha hb
def Xm (ha:SndE K mg E ta a) (hb:SndE K mg E tb b):SndE K mg E (tOp (rI0 fun i j=>.bl (decide (i<j))) ta tb) (p2 a b (fI0 fun i j=>.bl (decide (i<j)))):=Tg (fun _ _ _=>.bl _) ha hb
def Xn (ha:SndE K mg E ta a) (hb:SndE K mg E tb b):SndE K mg E (tOp (rI0 fun i j=>.bl (decide (j<i))) ta tb) (p2 a b (fI0 fun i j=>.bl (decide (j<i)))):=Tg (fun _ _ _=>.bl _) ha hb
def Pa (ha:SndE K mg E ta a) (hb:SndE K mg E tb b):SndE K mg E (tOp (rI0 fun i j=>.bl (decide (j<=i))) ta tb) (p2 a b (fI0 fun i j=>.bl (decide (j<=i)))):=Tg (fun _ _ _=>.bl _) ha hb
def fEq (neg:Bool):S->S->(S->Prop)->Prop:=fun x y R=>match x.d,y.d with
 | .int i,.int j=>R (.sh (.bl (if neg then !decide (i=j) else decide (i=j))))
 | .str i,.str j=>R (.sh (.bl (if neg then !decide (i=j) else decide (i=j))))
 | .bl i,.bl j=>R (.sh (.bl (if neg then !decide (i=j) else decide (i=j))))
 | _,_=>False
def P1 {α β:Type} [DecidableEq α] [DecidableEq β] {f:α->β} (hf:∀a b,f a=f b->a=b) (a b:α):decide (f a=f b)=decide (a=b):=by
 by_cases e:a=b
 ·rw[Yr e,Yr (Wa f e)]
 ·rw[YB e,YB fun z=>e (hf a b z)]
def fIx:S->S->(S->Prop)->Prop:=fun x y R=>match x.d,y.d with
 | .lst ds,.int k=>∃d,atI ds k=some d/\R (x.sub d)
 | .tup ds,.int k=>∃d,atI ds k=some d/\R (x.sub d)
 | .scr ns,.int k=>∃i,atI ns k=some i/\R (.sh (.int i))
 | _,_=>False
def G5 {ds:List D}{vs:List V}{k:Int}{d:D}{P:D->V->Prop} (hl:vs.length=ds.length) (h:∀(i:Nat) d,ds[i]?=some d->∃u,vs[i]?=some u/\P d u) (e:atI ds k=some d):∃u,atI vs k=some u/\P d u:=by
 unfold atI at e ⊢;rw[hl];cases q:ixN ds.length k with
 | none=>rw[q] at e;cases e
 | some j=>
  rw[q] at e;exact h j d e
def J8 (ha:SndE K mg E ta a) (hb:SndE K mg E tb b):SndE K mg E (tOp (fun x y H Q=>rIxL K x y H Q\/rIxT K x y H Q) ta tb) (p2 a b fIx):=by
 refine se_2 ha hb fun H0 H H2 Z x y v u R Q s0 s1 hm tx ty h q=>?_;unfold fIx at h;have ry:=ty.rp s0;obtain⟨pl,pt⟩:=tx.part s0 hm s1;split at h
 ·rename_i ds k e1 e2;rw[e2] at ry;obtain⟨d,hd,hR⟩:=h;obtain⟨l,vs,rfl,hl,hn,hp⟩:=pl ds e1;obtain⟨z,hz,tz⟩:=G5 hn hp hd;exact .inl ⟨l,vs,k,z,rfl,ry.int_inv,SqL.of hl,hz,q _ _ H2 hR (Same.refl _) tz⟩
 ·rename_i ds k e1 e2;rw[e2] at ry;obtain⟨d,hd,hR⟩:=h;obtain⟨l,vs,rfl,hl,hn,hp⟩:=pt ds e1;obtain⟨z,hz,tz⟩:=G5 hn hp hd;exact .inr ⟨l,vs,k,z,rfl,ry.int_inv,SqT.of hl,hz,q _ _ H2 hR (Same.refl _) tz⟩
 ·rename_i ns k e1 e2;rw[e2] at ry;obtain⟨i,hi,hR⟩:=h;have rx:=tx.rp s0;rw[e1] at rx;cases rx with
  | scr hs=>exact .inl ⟨_,_,k,.int i,rfl,ry.int_inv,hs,Kw hi,q _ _ H2 hR (Same.refl _) (.int i)⟩
 ·exact h.elim
def MN (a b:PTE):PTE:=fun γ R X=>a γ (fun x=>match x.d with | .bl c=>if c=true then b γ R X else R (.sh (.bl false))|_=>False) X
def Zd7 (a:PTE):PTE:=fun γ R X=>a γ (fun x=>match x.d with | .bl c=>R (.sh (.bl (!c)))|_=>False) X
def PR (ha:SndE K mg E ta a) (hb:SndE K mg E tb b):SndE K mg E (AJ ta tb) (MN a b):=by
 intro H0 B H σ γ R X Q env p q qx;refine ha H0 B H σ γ _ X _ env p (fun x v H1 h1 S1 t1=>?_) qx;have env1:=env.grow S1;have rx:=t1.rp env1.same;split at h1
 ·rename_i c e1;rw[e1] at rx;refine⟨c,rx.bl_inv,?_⟩;split at h1
  ·rename_i hc;rw[Ys hc];exact hb H0 B H1 σ γ _ X _ env1 h1 (fun y u H2 h2 S2 t2=>q y u H2 h2 (S1.trans S2) (TV.weak S1 (fun _ z=>z) t2)) fun c H' hc S'=>qx c H' hc (S1.trans S')
  ·rename_i hc;rw[Yq hc];exact q _ _ H1 h1 S1 (.bl _)
 ·exact h1.elim
def F2 (ha:SndE K mg E ta a):SndE K mg E (Ht ta) (Zd7 a):=by
 intro H0 B H σ γ R X Q env p q qx;refine ha H0 B H σ γ _ X _ env p (fun x v H1 h1 S1 t1=>?_) qx;have rx:=t1.rp (env.grow S1).same;split at h1
 ·rename_i c e1;rw[e1] at rx;exact⟨c,rx.bl_inv,q _ _ H1 h1 S1 (.bl _)⟩
 ·exact h1.elim
def pNeg (a:PTE):PTE:=fun γ R X=>a γ (fun x=>match x.d with | .int i=>R (.sh (.int (-i)))|_=>False) X
def U5 (ha:SndE K mg E ta a):SndE K mg E (tUn (rU fun i=>.int (-i)) ta) (pNeg a):=by
 intro H0 B H σ γ R X Q env p q qx;refine ha H0 B H σ γ _ X _ env p (fun x v H1 h1 S1 t1=>?_) qx;have rx:=t1.rp (env.grow S1).same;split at h1
 ·rename_i c e1;rw[e1] at rx;exact⟨c,rx.int_inv,q _ _ H1 h1 S1 (.int _)⟩
 ·exact h1.elim
def Hn (a:PTE):PTT:=fun γ R X=>a γ (fun x=>match x.d with | .bl c=>R c|_=>False) X
def JE (ha:SndE K mg E ta a):SndT K mg E (NU ta) (Hn a):=by
 intro H0 B H σ γ R X Q env p q qx;refine ha H0 B H σ γ _ X _ env p (fun x v H1 h1 S1 t1=>?_) qx;have rx:=t1.rp (env.grow S1).same;split at h1
 ·rename_i c e1;rw[e1] at rx;exact⟨c,rx.bl_inv,q _ H1 h1 S1⟩
 ·exact h1.elim
def st_b (ha:SndE K mg E ta a):SndT K mg E (tB ta) (Hn a):=JE ha
variable {sa sb:TT}{pa pb:PTT}
def pAnd (a b:PTT):PTT:=fun γ R X=>a γ (fun c=>if c=true then b γ R X else R false) X
def pOr (a b:PTT):PTT:=fun γ R X=>a γ (fun c=>if c=true then R true else b γ R X) X
def pNot (a:PTT):PTT:=fun γ R X=>a γ (fun c=>R (!c)) X
def Ts (ha:SndT K mg E sa pa) (hb:SndT K mg E sb pb):SndT K mg E (tAnd sa sb) (pAnd pa pb):=by
 intro H0 B H σ γ R X Q env p q qx;refine ha H0 B H σ γ _ X _ env p (fun c H1 h1 S1=>?_) qx;split at h1
 ·rename_i hc;rw[Ys hc];exact hb H0 B H1 σ γ _ X _ (env.grow S1) h1 (fun y H2 h2 S2=>q y H2 h2 (S1.trans S2)) fun c H' hc S'=>qx c H' hc (S1.trans S')
 ·rename_i hc;rw[Yq hc];exact q _ H1 h1 S1
def UA (ha:SndT K mg E sa pa) (hb:SndT K mg E sb pb):SndT K mg E (tOr sa sb) (pOr pa pb):=by
 intro H0 B H σ γ R X Q env p q qx;refine ha H0 B H σ γ _ X _ env p (fun c H1 h1 S1=>?_) qx;split at h1
 ·rename_i hc;rw[Ys hc];exact q _ H1 h1 S1
 ·rename_i hc;rw[Yq hc];exact hb H0 B H1 σ γ _ X _ (env.grow S1) h1 (fun y H2 h2 S2=>q y H2 h2 (S1.trans S2)) fun c H' hc S'=>qx c H' hc (S1.trans S')
def US (ha:SndT K mg E sa pa):SndT K mg E (tNot sa) (pNot pa):=by
 intro H0 B H σ γ R X Q env p q qx;exact ha H0 B H σ γ _ X _ env p (fun c H1 h1 S1=>q _ H1 h1 S1) qx
end
def pNil:PTA:=fun _ R _=>R []
def KQ (a:PTE) (r:PTA):PTA:=fun γ R X=>a γ (fun s=>r γ (fun ss=>R (s::ss)) X) X
def JQ:SndA K mg E tNil pNil:=by
 intro H0 B H σ γ R X Q env p q _;exact q _ _ H p (Same.refl _) .nil
def JR {te:TE}{ta:TA}{a:PTE}{r:PTA} (ha:SndE K mg E te a) (hr:SndA K mg E ta r):SndA K mg E (UO te ta) (KQ a r):=by
 intro H0 B H σ γ R X Q env p q qx;refine ha H0 B H σ γ _ X _ env p (fun s v H1 h1 S1 t1=>?_) qx;refine hr H0 B H1 σ γ _ X _ (env.grow S1) h1 (fun ss vs H2 h2 S2 t2=>?_) fun c H' hc S'=>qx c H' hc (S1.trans S');exact q _ _ H2 h2 (S1.trans S2) (.cons (t1.grow S2) (TVs.weakG S1 t2))
def shds:List S->Option (List D)
 | []=>some []
 | s::r=>match s.shd,shds r with
  | some d,some ds=>some (d::ds)
  | _,_=>none
def Am:∀{ss:List S}{ds:List D},shds ss=some ds->ss.map S.shd=ds.map some
 | [],ds,h=>by cases h;rfl
 | s::r,ds,h=>by
  unfold shds at h;split at h
  ·rename_i d es e1 e2;cases h
   rw[YA,YA,e1,Am e2]
  ·cases h
def pTup (r:PTA):PTE:=fun γ R X=>r γ (fun ss=>match shds ss with|some ds=>ds.length<=1000/\R (.sh (.tup ds))|none=>False) X
def pLst (r:PTA):PTE:=fun γ R X=>r γ (fun ss=>match shds ss with|some ds=>ds.length<=1000/\R (.own ds)|none=>False) X
def BE {n:Nat} (h:n<=1000):n<=sizeLine:=Q1 (Zft h)
def Ub {ta:TA}{r:PTA} (hr:SndA K mg E ta r):SndE K mg E (tTup ta) (pTup r):=by
 intro H0 B H σ γ R X Q env p q qx;refine hr H0 B H σ γ _ X _ env p (fun ss vs H1 h1 S1 t1=>?_) qx;split at h1
 ·rename_i ds e;have env1:=env.grow S1;have rp:=t1.shd (ds:=ds) env1.same env.zm S1 (Am e);refine⟨by rw[rp.len];exact BE h1.1,fun l nl=>?_⟩;have S2:=U9 (o:=.tup vs) nl;refine q _ _ _ h1.2 (S1.trans S2) (.tup (U4 Uo fun z=>?_) (Rps.mono (JS S2 fun _ _ _ z=>z) rp))
  have:=env1.zm l z
  rw[nl] at this;exact this
 ·exact h1.elim
def KG {H H1:Hp}{l:Addr}{vs:List V}{ds:List D} (S1:Same H H1) (nl:H1 l=none) (rp:Rps K (off Z H1) ds vs):TV K Z H0 H (upd H1 l (.lst vs)) (.own ds) (.ref l):=
 ⟨l,rfl,(fun _ e=>e▸S1.free nl),vs,Uo,Rps.mono (JS (U9 nl) fun b o hb z y=>y.elim z fun e=>by rw[e,nl] at hb;cases hb) rp⟩
def JN {ta:TA}{r:PTA} (hr:SndA K mg E ta r):SndE K mg E (tLst ta) (pLst r):=by
 intro H0 B H σ γ R X Q env p q qx;refine hr H0 B H σ γ _ X _ env p (fun ss vs H1 h1 S1 t1=>?_) qx;split at h1
 ·rename_i ds e;have env1:=env.grow S1;have rp:=t1.shd (ds:=ds) env1.same env.zm S1 (Am e);refine⟨by rw[rp.len];exact BE h1.1,fun l nl=>?_⟩;exact q _ _ _ h1.2 (S1.trans (U9 nl)) (KG S1 nl rp)
 ·exact h1.elim
abbrev Pc:=List D->(S->Prop)->XR->Prop
def spOf (mg:Str->Option Value) (c:Pc) (K:Za):Sp:=fun vs H Q E=>∃ds R X,Rps K H ds vs/\c ds R X/\(∀s v H',R s->Same H H'->TV K (fun b=>Mut (H b)) H H H' s v->Q v H')/\∀e H',X e->Same H H'->E (.ref (ExcR.JB mg e)) none H'
def S.back:S->S
 | .bor d=>argT d | .view o=>.tmp o.d|s=>s
def TV.back {s:S}{v:V} (env:EnvR K H0 B H1 σ γ) (S1:Same H H1) (S2:Same H1 H') (h:TV K (fun b=>Mut (H1 b)) H1 H1 H' s v):TV K (zof B γ σ) H0 H H' s.back v:=by
 cases s with
 | bor d=>exact TX (fun b z=>XU S2 (env.zm b z)) (Rp.mono S2 h)
 | sh d=>exact Rp.mono (JS (Same.refl _) fun b _ _ z y=>z (env.zm b y)) h
 | own ds=>
  obtain⟨a,rfl,e0,r⟩:=h;exact⟨a,rfl,(fun b hb=>S1.free (e0 b hb)),r.mono (JS (Same.refl _) fun b _ _ z y=>z (y.imp (env.zm b) id)) fun _ _ _ q=>q⟩
 | view ds=>
  obtain⟨a,rfl,r⟩:=h;exact r.rp off_sub
 | tmp d=>exact h
def IT (c:Pc) (r:PTA):PTE:=fun γ R X=>r γ (fun ss=>c (ss.map S.d) (fun s=>R s.back) fun _=>False) X
def IJ (c:Pc) (r:PTA):PTE:=fun γ R X=>r γ (fun ss=>c (ss.map S.d) (fun s=>R s.back) X) X
def JH {c:Pc}{ta:TA}{r:PTA} (hr:SndA K mg E ta r):SndE K mg E (KC (spOf mg c K) [] E0 ta) (IT c r):=by
 intro H0 B H σ γ R X Q env p q qx;refine hr H0 B H σ γ _ X _ env p (fun ss vs H1 h1 S1 t1=>?_) qx;rw[Wc];have env1:=env.grow S1;exact⟨_,_,_,t1.rps env1.same,h1,fun s v H' hs S2 tv=>q _ _ H' hs (S1.trans S2) (tv.back env1 S1 S2),fun _ _ z=>z.elim⟩
def Xv {c:Pc}{ta:TA}{r:PTA}{Ec:XK} (hr:SndA K mg (fun _=>Ec) ta r):SndE K mg (fun _=>Ec) (KC (spOf mg c K) [] Ec ta) (IJ c r):=by
 intro H0 B H σ γ R X Q env p q qx;refine hr H0 B H σ γ _ X _ env p (fun ss vs H1 h1 S1 t1=>?_) qx;rw[Wc];have env1:=env.grow S1;exact⟨_,_,X,t1.rps env1.same,h1,fun s v H' hs S2 tv=>q _ _ H' hs (S1.trans S2) (tv.back env1 S1 S2),fun e H' he S2=>qx e H' he (S1.trans S2)⟩
end
section
variable {K:Za}{mg:Str->Option Value}{E:L2.St->XK}{H0 H H1 H':Hp}{B Z Z':Addr->Prop}{σ:L2.St}{γ:Γ}
def EnvR.set {i:Nat}{s s':S}{v:V} (Ev:EnvR K H0 B H σ γ) (S1:Same H H') (h:TV K (zof B γ σ) H0 H H' s v) (e:s.slot=some s') :
  EnvR K H0 B H' (σ.set i (some v)) (γ.set i (some s'))/\Fr B H σ γ H' (σ.set i (some v)) (γ.set i (some s')):=by
 by_cases hi:i<γ.length
 ·exact Ev.put S1 h e hi
 ·rw[List.set_eq_of_length_le (by rw[Ev.len];omega),List.set_eq_of_length_le (by omega)];exact⟨Ev.grow S1,Fr.grow S1⟩
def Upd (is:List Nat) (σ σ':L2.St):Prop:=(∀j,j∉is->σ'[j]?=σ[j]?)/\σ'.length=σ.length
def Pg (K:Za) (is:List Nat) (t:TG) (p:PTG):Prop:=∀(H0:Hp) (B:Addr->Prop) (H H':Hp) (σ:L2.St) (γ:Γ) (s:S) (v:V) (R:Γ->Prop) (Q:L2.St->Hp->Prop),EnvR K H0 B H σ γ->Same H H'->TV K (zof B γ σ) H0 H H' s v->p s γ R->
 (∀σ' γ',R γ'->EnvR K H0 B H' σ' γ'->Fr B H σ γ H' σ' γ'->Upd is σ σ'->Q σ' H')->t v σ H' Q
def Gi (i:Nat):PTG:=fun s γ R=>match s.slot with|some s'=>R (γ.set i (some s'))|none=>False
def JA (i:Nat):Pg K [i] (PD i) (Gi i):=by
 intro H0 B H H' σ γ s v R Q env S1 tv p q;unfold Gi at p;split at p
 ·rename_i s' e;obtain⟨e1,f1⟩:=env.set (i:=i) S1 tv e;exact q _ _ p e1 f1 ⟨fun j hj=>XJ fun z=>hj (by rw[z];exact Yw.mpr rfl),Wt⟩
 ·exact p.elim
def I0:PTGs:=fun ss γ R=>match ss with|[]=>R γ|_=>False
def Zcd (g:PTG) (r:PTGs):PTGs:=fun ss γ R=>match ss with|s::t=>g s γ fun γ'=>r t γ' R|[]=>False
def TV.notown {s:S}{v:V}{σ':L2.St}{γ':Γ}{Hb:Hp} (f:Fr B H σ γ H' σ' γ') (hb:Same H H') (n:∀ds,s≠.own ds) (nv:∀ds,s≠.view ds) (h:TV K (zof B γ σ) H0 Hb H s v):TV K (zof B γ' σ') H0 H' H' s v:=by
 cases s with
 | bor d=>exact h
 | sh d=>exact Rp.mono f.off h
 | own ds=>exact absurd rfl (n ds)
 | view ds=>exact absurd rfl (nv ds)
 | tmp d=>exact Rp.mono hb h
def TVs.notown {σ':L2.St}{γ':Γ}{Hb:Hp} (f:Fr B H σ γ H σ' γ'):∀{ss:List S}{vs:List V},(∀s∈ss,∀ds,s≠.own ds/\s≠.view ds)->TVs K (zof B γ σ) H0 Hb H ss vs->TVs K (zof B γ' σ') H0 H H ss vs
 | _,_,_,.nil=>.nil
 | _,_,n,.cons h r=>.cons (h.notown f (Same.refl _) (fun ds=>(n _ YM ds).1) fun ds=>(n _ YM ds).2) (TVs.notown f (fun s hs=>n s (YG _ hs)) r)
def Fx (d:D):arg d=.sh d\/arg d=.bor d:=by unfold arg;cases imm d<;>simp
def Zdr (d:D):argT d=.sh d\/argT d=.tmp d:=by unfold argT;cases imm d<;>simp
def Cg (s:S) (d:D):∀ds,s.sub d≠.own ds/\s.sub d≠.view ds:=fun ds=>by
 cases s with
 | bor b=>rcases Fx d with e|e<;>(show arg d≠_/\arg d≠_;rw[e];exact⟨(fun z=>by cases z),(fun z=>by cases z)⟩)
 | tmp b=>rcases Zdr d with e|e<;>(show argT d≠_/\argT d≠_;rw[e];exact⟨(fun z=>by cases z),(fun z=>by cases z)⟩)
 | sh b=>exact⟨(fun z=>by cases z),(fun z=>by cases z)⟩
 | own b=>exact⟨(fun z=>by cases z),(fun z=>by cases z)⟩
 | view b=>exact⟨(fun z=>by cases z),(fun z=>by cases z)⟩
def N6 (K:Za) (is:List Nat) (t:TGs) (p:PTGs):Prop:=∀(H0:Hp) (B:Addr->Prop) (H:Hp) (σ:L2.St) (γ:Γ) (ss:List S) (vs:List V) (R:Γ->Prop) (Q:L2.St->Hp->Prop),EnvR K H0 B H σ γ->TVs K (zof B γ σ) H0 H H ss vs->(∀s∈ss,∀ds,s≠.own ds/\s≠.view ds)->p ss γ R->
 (∀σ' γ',R γ'->EnvR K H0 B H σ' γ'->Fr B H σ γ H σ' γ'->Upd is σ σ'->Q σ' H)->t vs σ H Q
def NF:N6 K [] gNil I0:=by
 intro H0 B H σ γ ss vs R Q env tv no p q;cases tv with
 | nil=>exact⟨rfl,q _ _ p env Fr.refl ⟨fun _ _=>rfl,rfl⟩⟩
 | cons _ _=>exact p.elim
def KH {is js:List Nat}{g:TG}{r:TGs}{pg:PTG}{pr:PTGs} (hg:Pg K is g pg) (hr:N6 K js r pr):N6 K (is++js) (Hi g r) (Zcd pg pr):=by
 intro H0 B H σ γ ss vs R Q env tv no p q;cases tv with
 | nil=>exact p.elim
 | cons h t=>
  refine⟨_,_,rfl,hg H0 B H H σ γ _ _ _ _ env (Same.refl _) h p fun σ1 γ1 p1 e1 f1 k1=>?_⟩;refine hr H0 B H σ1 γ1 _ _ _ _ e1 (TVs.notown f1 (fun s hs=>no s (YG _ hs)) t) (fun s hs=>no s (YG _ hs)) p1 fun σ2 γ2 p2 e2 f2 k2=>?_;exact q σ2 γ2 p2 e2 (f1.trans f2) ⟨fun j hj=>(k2.1 j fun z=>hj (YS _ z)).trans (k1.1 j fun z=>hj (WI _ z)),k2.2.trans k1.2⟩
def Cv (n:Nat) (r:PTGs):PTG:=fun s γ R=>match s.d with | .tup ds=>ds.length=n/\r (ds.map s.sub) γ R|_=>False
def TVs.of_part {ds:List D}{s:S}:∀{vs:List V}{ds:List D},vs.length=ds.length->(∀(i:Nat) d,ds[i]?=some d->∃u,vs[i]?=some u/\TV K Z H0 H H' (s.sub d) u)->TVs K Z H0 H H' (ds.map s.sub) vs
 | [],[],_,_=>.nil
 | [],_::_,e,_=>by cases e
 | _::_,[],e,_=>by cases e
 | v::vs,d::ds,e,h=>by
  obtain⟨u,h1,h2⟩:=h 0 d rfl;cases h1
  exact .cons h2 (TVs.of_part (ds:=ds) (by simpa using e) fun i d' hd=>by simpa using h (i+1) d' (by simpa using hd))
def N2 {n:Nat}{is:List Nat}{r:TGs}{pr:PTGs} (hr:N6 K is r pr):Pg K is (gTup K n r) (Cv n pr):=by
 intro H0 B H H' σ γ s v R Q env S1 tv p q;unfold Cv at p;have env1:=env.grow S1;obtain⟨_,pt⟩:=tv.part env1.same env.zm S1;split at p
 ·rename_i ds e;obtain⟨a,vs,rfl,ha,hn,hp⟩:=pt ds e;refine⟨a,vs,rfl,SqT.of ha,hn.trans p.1,?_⟩;have tvs:=TVs.of_part (ds:=ds) hn hp;refine hr H0 B H' σ γ _ vs R Q env1 (TVs.notown (Fr.refl) (fun s' hs ds=>?_) tvs) (fun s' hs ds=>?_) p.2 fun σ' γ' hR e1 f1 k1=>q σ' γ' hR e1 (Fr.trans (Fr.grow S1) f1) k1
  ·obtain⟨d,_,rfl⟩:=YR.mp hs;exact Cg s d ds
  ·obtain⟨d,_,rfl⟩:=YR.mp hs;exact Cg s d ds
 ·exact p.elim
def EndR.from {R:PEnds}{D:Ends}{σ1:L2.St}{γ1:Γ} (e:EndR K mg E H0 B H σ γ R D) (f:Fr B H σ γ H1 σ1 γ1):EndR K mg E H0 B H1 σ1 γ1 R D:=
 ⟨fun σ' γ' H' h1 h2 h3=>e.nx σ' γ' H' h1 h2 (f.trans h3),e.rt,fun σ' γ' c H' h1 h2 h3=>e.ex σ' γ' c H' h1 h2 (f.trans h3),fun σ' γ' H' h1 h2 h3=>e.bk σ' γ' H' h1 h2 (f.trans h3),fun σ' γ' H' h1 h2 h3=>e.ct σ' γ' H' h1 h2 (f.trans h3),fun σ' γ' d v H' h1 h2 h3=>e.rv σ' γ' d v H' h1 h2 (f.trans h3)⟩
variable {te:TE}{a:PTE}{tt:TT}{c:PTT}{t u:TS}{p q:PTS}
def IK:PTS:=fun R γ=>R.nx γ
def JK:SndS K mg E Eo IK:=fun _ _ _ _ _ _ _ _ env h e=>e.nx _ _ _ h env Fr.refl
def pSeq (p q:PTS):PTS:=fun R γ=>p { R with nx:=q R } γ
def J4 (hp:SndS K mg E t p) (hq:SndS K mg E u q):SndS K mg E (tSeq t u) (pSeq p q):=by
 intro H0 B H σ γ R D hB env h e;refine hp H0 B H σ γ _ _ hB env h ⟨fun σ' γ' H' h1 e1 f1=>?_,e.rt,e.ex,e.bk,e.ct,e.rv⟩;exact hq H0 B H' σ' γ' R D hB e1 h1 (e.from f1)
structure JoinW (p q:PTS) (R:PEnds) (γ:Γ):Prop where
 w:∃J:Γ->Prop,p { R with nx:=J } γ/\∀γ',J γ'->q R γ'
def Ld (p q:PTS):PTS:=fun R γ=>JoinW p q R γ
def Po (hp:SndS K mg E t p) (hq:SndS K mg E u q):SndS K mg E (E2 t u) (Ld p q):=by
 intro H0 B H σ γ R D hB env h e;obtain⟨J,h,k⟩:=h.w;refine⟨fun σ' H'=>∃γ',J γ'/\EnvR K H0 B H' σ' γ'/\Fr B H σ γ H' σ' γ',hp H0 B H σ γ _ _ hB env h ⟨fun σ' γ' H' h1 e1 f1=>⟨γ',h1,e1,f1⟩,e.rt,e.ex,e.bk,e.ct,e.rv⟩,?_⟩;rintro σ' H' ⟨γ',h1,e1,f1⟩;exact hq H0 B H' σ' γ' R D hB e1 (k γ' h1) (e.from f1)
def pFrz (i:Nat) (p:PTS):PTS:=fun R γ=>p R (frz i γ)
def JM (i:Nat) (hp:SndS K mg E t p):SndS K mg E t (pFrz i p):=by
 intro H0 B H σ γ R D hB env h e;obtain⟨e1,f1⟩:=env.frz hB i;exact hp H0 B H σ _ R D hB e1 h (e.from f1)
def pAsg (a:PTE) (g:PTG):PTS:=fun R γ=>a γ (fun s=>g s γ R.nx) (R.ex γ)
def JF {is:List Nat}{g:TG}{pg:PTG} (ha:SndE K mg E te a) (hg:Pg K is g pg):SndS K mg E (tAsg te g) (pAsg a pg):=by
 intro H0 B H σ γ R D hB env h e;refine ha H0 B H σ γ _ _ _ env h (fun s v H1 h1 S1 t1=>?_) fun c H' hc S'=>e.ex σ γ c H' hc (env.grow S') (Fr.grow S');exact hg H0 B H H1 σ γ s v _ _ env S1 t1 h1 fun σ' γ' h2 e2 f2 _=>e.nx σ' γ' H1 h2 e2 f2
def pAug (i:Nat) (f:Int->Int->Int) (a:PTE):PTS:=fun R γ=>match γ[i]? with
 | some (some (.sh (.int x)))=>a γ (fun y=>match y.d with | .int j=>R.nx (γ.set i (some (.sh (.int (f x j)))))|_=>False) (R.ex γ)
 | _=>False
def E4 {i:Nat}{f:Int->Int->Int} (ha:SndE K mg E te a):SndS K mg E (tAug i te (ipI f)) (pAug i f a):=by
 intro H0 B H σ γ R D hB env h e;unfold pAug at h;split at h
 ·rename_i x hx;obtain⟨v,h1,h2⟩:=env.slot i _ hx;refine⟨v,h1,ha H0 B H σ γ _ _ _ env h (fun y u H1 h3 S1 t1=>?_) fun c H' hc S'=>e.ex σ γ c H' hc (env.grow S') (Fr.grow S')⟩;have rx:=t1.rp (env.grow S1).same;split at h3
  ·rename_i j ej;rw[ej] at rx;refine⟨x,j,Rp.int_inv h2,rx.int_inv,?_⟩;obtain⟨e1,f1⟩:=env.set (i:=i) (s:=.sh (.int (f x j))) (v:=.int (f x j)) S1 (.int _) rfl;exact e.nx _ _ H1 h3 e1 f1
  ·exact h3.elim
 ·exact h.elim
def pRet (a:PTE):PTS:=fun R γ=>a γ R.rt (R.ex γ)
def JG (ha:SndE K mg E te a):SndS K mg E (tRet te) (pRet a):=by
 intro H0 B H σ γ R D hB env h e;refine ha H0 B H σ γ _ _ _ env h (fun s v H1 h1 S1 t1=>?_) fun c H' hc S'=>e.ex σ γ c H' hc (env.grow S') (Fr.grow S');exact e.rt s v H1 h1 (env.same.trans S1) (TV.weak env.same (fun b z=>.inl z) t1)
def DX (i:Nat):PTS:=fun R γ=>match γ[i]? with|some (some s)=>R.rt s|_=>False
def XN (i:Nat):SndS K mg E (tRet (tVar i)) (DX i):=by
 intro H0 B H σ γ R D hB env h e;unfold DX at h;split at h
 ·rename_i s hs;obtain⟨v,h1,h2⟩:=env.slot i _ hs;refine⟨v,h1,e.rt s v H h env.same ?_⟩;cases s with
  | bor d=>exact h2
  | sh d=>exact Rp.mono (JS (Same.refl _) fun b _ _ z y=>z (.inl y)) h2
  | own ds=>
   obtain⟨l,rfl,e2,e3⟩:=h2;exact⟨l,rfl,e2,e3.mono (JS (Same.refl _) fun b _ _ z y=>z (y.elim .inl fun w=>.inr ⟨i,ds,l,hs,h1,w⟩)) fun _ _ _ q=>q⟩
  | view ds=>exact h2.elim
  | tmp d=>exact h2.elim
 ·exact h.elim
def pIfS (c:PTT) (p q:PTS):PTS:=fun R γ=>c γ (fun b=>if b=true then p R γ else q R γ) (R.ex γ)
def JL (hc:SndT K mg E tt c) (hp:SndS K mg E t p) (hq:SndS K mg E u q):SndS K mg E (tIfS tt t u) (pIfS c p q):=by
 intro H0 B H σ γ R D hB env h e;refine hc H0 B H σ γ _ _ _ env h (fun b H1 h1 S1=>?_) fun c H' hc S'=>e.ex σ γ c H' hc (env.grow S') (Fr.grow S');split at h1
 ·rename_i hb;rw[Ys hb];exact hp H0 B H1 σ γ R D hB (env.grow S1) h1 (e.from (Fr.grow S1))
 ·rename_i hb;rw[Yq hb];exact hq H0 B H1 σ γ R D hB (env.grow S1) h1 (e.from (Fr.grow S1))
def OZ (a:PTE):PTS:=fun R γ=>a γ (fun _=>R.nx γ) (R.ex γ)
def Xi (ha:SndE K mg E te a):SndS K mg E (Sk te) (OZ a):=by
 intro H0 B H σ γ R D hB env h e;exact ha H0 B H σ γ _ _ _ env h (fun s v H1 h1 S1 t1=>e.nx σ γ H1 h1 (env.grow S1) (Fr.grow S1)) fun c H' hc S'=>e.ex σ γ c H' hc (env.grow S') (Fr.grow S')
def Zb1:PTS:=fun _ _=>False
def Zfw:SndS K mg E DZ Zb1:=fun _ _ _ _ _ _ _ _ _ h _=>h
def Iu (x:Str) (r:PTA):PTS:=fun R γ=>r γ (fun ss=>ss.length<=1000/\R.ex γ x) (R.ex γ)
def TVs.len:∀{ss:List S}{vs:List V},TVs K Z H0 H H' ss vs->vs.length=ss.length
 | _,_,.nil=>rfl
 | _,_,.cons _ r=>Wa (· + 1) (TVs.len r)
def Xc {x:Str}{ta:TA}{r:PTA}{Ec:XK} (hr:SndA K mg (fun _=>Ec) ta r):SndS K mg (fun _=>Ec) (ExcR.GO (ExcR.JB mg x) Ec ta) (Iu x r):=by
 intro H0 B H σ γ R D hB env h e;refine hr H0 B H σ γ _ _ _ env h (fun ss vs H1 h1 S1 t1=>⟨?_,?_⟩) fun c H' hc S'=>e.ex σ γ c H' hc (env.grow S') (Fr.grow S')
 ·rw[t1.len];exact BE h1.1
 ·exact e.ex σ γ x H1 h1.2 (env.grow S1) (Fr.grow S1)
def fPar (i j:Nat) (γ:Γ) (R:Γ->Prop):List S->Prop
 | [.sh d,.sh e]=>R ((γ.set i (some (.sh d))).set j (some (.sh e)))
 | _=>False
def clr:List Nat->Γ->Γ
 | [],γ=>γ
 | i::r,γ=>clr r (γ.set i none)
def EnvR.clr:∀(is:List Nat) {γ:Γ},EnvR K H0 B H σ γ->EnvR K H0 B H σ (clr is γ)/\Fr B H σ γ H σ (Pu.clr is γ)
 | [],_,e=>⟨e,Fr.refl⟩
 | i::r,γ,e=>by
  obtain⟨e1,f1⟩:=e.drop i;obtain⟨e2,f2⟩:=EnvR.clr r e1;exact⟨e2,f1.trans f2⟩
def Later (H0:Hp) (Z:Addr->Prop) (H1:Hp) (Z':Addr->Prop) (H':Hp):Prop:=Same H0 H'/\(∀b,Z' b->Mut (H' b))/\∀b o,H1 b=some o->¬Z b->H' b=some o/\¬Z' b
def Later.of {σ':L2.St}{γ':Γ} (e:EnvR K H0 B H' σ' γ') (f:Fr B H1 σ γ H' σ' γ'):Later H0 (zof B γ σ) H1 (zof B γ' σ') H':=⟨e.same,e.zm,f⟩
def Later.off (l:Later H0 Z H1 Z' H'):Same (off Z H1) (Pu.off Z' H'):=fun b o h=>by
 obtain⟨h1,h2⟩:=XM h;obtain⟨h3,h4⟩:=l.2.2 b o h1 h2;exact U4 h3 h4
structure ItOk (K:Za) (H0:Hp) (B:Addr->Prop) (H1:Hp) (σ:L2.St) (γ:Γ) (J:It) (n:Nat) (item:Nat->S):Prop where
 go:∀(i:Nat) (H':Hp) (Z':Addr->Prop),i<n->Later H0 (zof B γ σ) H1 Z' H'->J.go i H'/\∀x H'',J.yld i H' x H''->Same H' H''/\TV K Z' H0 H' H'' (item i) x
 stop:∀(H':Hp) (Z':Addr->Prop),Later H0 (zof B γ σ) H1 Z' H'->J.stop n H'
abbrev PTI:=Γ->(Nat->(Nat->S)->Prop)->XR->Prop
def SndI (K:Za) (mg:Str->Option Value) (E:L2.St->XK) (wi:TI) (it:PTI):Prop:=∀(H0:Hp) (B:Addr->Prop) (H:Hp) (σ:L2.St) (γ:Γ) (R:Nat->(Nat->S)->Prop) (X:XR) (Q:It->Hp->Prop),EnvR K H0 B H σ γ->it γ R X->
 (∀n item J H1,R n item->Same H H1->ItOk K H0 B H1 σ γ J n item->Q J H1)->(∀c H',X c->Same H H'->E σ (.ref (ExcR.JB mg c)) none H')->wi σ H Q
structure ForW (js:List Nat) (γ:Γ) (g:PTG) (body:PTS) (R:PEnds) (n:Nat) (item:Nat->S):Prop where
 w:∃inv:Nat->Γ->Prop,inv 0 (clr js γ)/\
 (∀i γ',i<n->inv i γ'->g (item i) γ' fun γ2=>body { R with nx:=fun γ3=>inv (i+1) (clr js γ3),ct:=fun γ3=>inv (i+1) (clr js γ3),bk:=R.nx } γ2)/\∀γ',inv n γ'->R.nx γ'
def pFor (js:List Nat) (it:PTI) (g:PTG) (body:PTS):PTS:=fun R γ=>it γ (fun n item=>ForW js γ g body R n item) (R.ex γ)
def UL {is:List Nat}{wi:TI}{g:TG}{it:PTI}{pg:PTG} (js:List Nat) (hi:SndI K mg E wi it) (hg:Pg K is g pg) (hb:SndS K mg E t p):SndS K mg E (tFor wi g t) (pFor js it pg p):=by
 intro H0 B H σ γ R D hB env h e;refine hi H0 B H σ γ _ _ _ env h (fun n item J H1 h1 S1 ok=>?_) fun c H' hc S'=>e.ex σ γ c H' hc (env.grow S') (Fr.grow S');obtain⟨inv,h0,hs,hd⟩:=h1.w;have env1:=env.grow S1;refine⟨fun i m σ' H'=>m=n-i/\i<=n/\∃γ',inv i γ'/\EnvR K H0 B H' σ' γ'/\Fr B H1 σ γ H' σ' γ',⟨n,by simp,Wz _,_,h0,(env1.clr js).1,(env1.clr js).2⟩,?_⟩;rintro i m σ' H' ⟨rfl,hin,γ',hi',e',f'⟩;by_cases hlt:i<n
 ·obtain⟨go,yl⟩:=ok.go i H' _ hlt (Later.of e' f');refine .inr ⟨go,fun σ2 H2=>∃γ2,inv (i+1) γ2/\EnvR K H0 B H2 σ2 γ2/\Fr B H1 σ γ H2 σ2 γ2,fun σ2 H2 ⟨γ2,a1,a2,a3⟩=>⟨n-(i+1),by omega,rfl,hlt,γ2,a1,a2,a3⟩,fun x H'' y=>?_⟩;obtain⟨S2,tv⟩:=yl x H'' y;refine hg H0 B H' H'' σ' γ' _ _ _ _ e' S2 tv (hs i γ' hlt hi') fun σ2 γ2 q2 e2 f2 _=>?_;have fall:=f'.trans f2;refine hb H0 B H'' σ2 γ2 _ _ hB e2 q2 ⟨fun σ3 γ3 H3 q3 e3 f3=>?_,e.rt,fun σ3 γ3 c H3 q3 e3 f3=>e.ex σ3 γ3 c H3 q3 e3 ((Fr.grow S1).trans (fall.trans f3)),fun σ3 γ3 H3 q3 e3 f3=>e.nx σ3 γ3 H3 q3 e3 ((Fr.grow S1).trans (fall.trans f3)),fun σ3 γ3 H3 q3 e3 f3=>?_,fun σ3 γ3 d v H3 q3 e3 f3=>e.rv σ3 γ3 d v H3 q3 e3 ((Fr.grow S1).trans (fall.trans f3))⟩
  ·exact⟨_,q3,(e3.clr js).1,(fall.trans f3).trans (e3.clr js).2⟩
  ·exact⟨_,q3,(e3.clr js).1,(fall.trans f3).trans (e3.clr js).2⟩
 ·have:i=n:=by omega
  subst this;exact .inl ⟨ok.stop H' _ (Later.of e' f'),e.nx σ' γ' H' (hd γ' hi') e' ((Fr.grow S1).trans f')⟩
def S.fix:S->Bool
 | .bor _=>true | .sh _=>true | .own _=>true|_=>false
def pIL (a:PTE):PTI:=fun γ R X=>a γ (fun s=>match s.d with
 | .lst ds=>s.fix=true/\R ds.length fun i=>s.sub (ds.getD i .non)
 | .scr ns=>s.fix=true/\R ns.length fun i=>.sh (.int (ns.getD i 0))
 | _=>False) X
def TV.last {s:S}{v:V}{ds:List D} (env:EnvR K H0 B H σ γ) (S1:Same H H1) (tv:TV K (zof B γ σ) H0 H H1 s v) (hf:s.fix=true) (hd:s.d=.lst ds):∃l vs,v=.ref l/\vs.length=ds.length/\
  ∀(H':Hp) (Z':Addr->Prop),Later H0 (zof B γ σ) H1 Z' H'->H' l=some (.lst vs)/\∀(i:Nat) d,ds[i]?=some d->∃u,vs[i]?=some u/\TV K Z' H0 H' H' (s.sub d) u:=by
 have env1:=env.grow S1
 have key:∀{s:S},(∀d,s.sub d=.sh d)->Rp K (Pu.off (zof B γ σ) H1) (.lst ds) v->∃l vs,v=.ref l/\vs.length=ds.length/\
   ∀(H':Hp) (Z':Addr->Prop),Later H0 (zof B γ σ) H1 Z' H'->H' l=some (.lst vs)/\∀(i:Nat) d,ds[i]?=some d->∃u,vs[i]?=some u/\TV K Z' H0 H' H' (s.sub d) u:=fun hs h=>by
  obtain⟨l,vs,rfl,h1,h2⟩:=Rp.lst_inv h;refine⟨l,vs,rfl,h2.len,fun H' Z' lt=>⟨off_sub _ _ (lt.off _ _ h1),fun i d hi=>?_⟩⟩;obtain⟨u,h3,h4⟩:=h2.get hi;refine⟨u,h3,?_⟩;rw[hs];exact Rp.mono lt.off h4
 cases s with
 | bor d=>
  have tv:=Rp.strip tv;rw[show d.strip=.lst ds from hd] at tv
  obtain⟨l,vs,rfl,h1,h2⟩:=Rp.lst_inv tv;refine⟨l,vs,rfl,h2.len,fun H' Z' lt=>⟨lt.1 _ _ h1,fun i d hi=>?_⟩⟩;obtain⟨u,h3,h4⟩:=h2.get hi;exact⟨u,h3,argR lt.2.1 lt.1 h4⟩
 | sh d=>
  have:d=.lst ds:=hd
  subst this;exact key (fun _=>rfl) tv
 | own es=>
  cases es with
  | lst es=>
   cases hd
   exact key (fun _=>rfl) (tv.shd env1.same env.zm S1 rfl)
  | lsA x es=>
   cases hd
   exact key (fun _=>rfl) (tv.shd env1.same env.zm S1 rfl)
  | dK es=>cases hd
  | dT es=>cases hd
  | ins x C xs cs=>cases hd
 | view es=>cases hf
 | tmp d=>cases hf
def XO {te:TE}{a:PTE} (ha:SndE K mg E te a):SndI K mg E (Nk K te) (pIL a):=by
 intro H0 B H σ γ R X Q env h q qx;refine ha H0 B H σ γ _ X _ env h (fun s v H1 h1 S1 t1=>?_) qx;have env1:=env.grow S1;split at h1
 ·rename_i ds ed;obtain⟨l,vs,rfl,hn,hl⟩:=t1.last env S1 h1.1 ed;obtain⟨hl1,_⟩:=hl H1 _ (Later.of env1 Fr.refl);refine⟨l,rfl,⟨vs,SqL.of hl1⟩,q _ _ _ H1 h1.2 S1 ⟨fun i H' Z' hi lt=>?_,fun H' Z' lt=>?_⟩⟩
  ·obtain⟨k1,k2⟩:=hl H' Z' lt;have hd:ds[i]?=some (ds.getD i .non):=by rw[Y1,Yp hi];rfl
   obtain⟨u,hu,tu⟩:=k2 i _ hd;refine⟨⟨vs,u,SqL.of k1,hu⟩,fun x H'' y=>?_⟩;obtain⟨rfl,y⟩:=y
   have:=y vs (SqL.of k1)
   rw[hu] at this;cases this
   exact⟨Same.refl _,tu⟩
  ·exact⟨vs,SqL.of (hl H' Z' lt).1,by omega⟩
 ·rename_i ns ed
  have hs:∃l,v=.ref l/\∀(H':Hp) (Z':Addr->Prop),Later H0 (zof B γ σ) H1 Z' H'->SqL K H' l (ns.map V.int):=by
   cases s with
   | bor d=>
    have t1:=Rp.strip t1;rw[show d.strip=.scr ns from ed] at t1
    cases t1 with
    | scr hs=>exact⟨_,rfl,fun H' Z' lt=>lt.1.seq hs⟩
   | sh d=>
    have:d=.scr ns:=ed
    subst this;cases t1 with
    | scr hs=>exact⟨_,rfl,fun H' Z' lt=>off_sub.seq (lt.off.seq hs)⟩
   | own es=>cases es<;>cases ed
   | view es=>cases es<;>cases ed
   | tmp d=>cases h1.1
  obtain⟨l,rfl,hl⟩:=hs;refine⟨l,rfl,⟨_,hl H1 _ (Later.of env1 Fr.refl)⟩,q _ _ _ H1 h1.2 S1 ⟨fun i H' Z' hi lt=>?_,fun H' Z' lt=>?_⟩⟩
  ·have k1:=hl H' Z' lt
   have hu:(ns.map V.int)[i]?=some (.int (ns.getD i 0)):=by
    rw[Y0,Yp hi,Y1,Yp hi];rfl
   refine⟨⟨_,_,k1,hu⟩,fun x H'' y=>?_⟩;obtain⟨rfl,y⟩:=y
   have:=y _ k1
   rw[hu] at this;cases this
   exact⟨Same.refl _,.int _⟩
  ·exact⟨_,hl H' Z' lt,by rw[Yn];exact Yx _⟩
 ·exact h1.elim
def fR1 (R:Nat->(Nat->S)->Prop):List D->Prop
 | [.int j]=>(-(2 ^ 62)<=j/\j<2 ^ 62)/\R j.toNat fun i=>.sh (.int (0+(i:Int)))
 | _=>False
def fR2 (R:Nat->(Nat->S)->Prop):List D->Prop
 | [.int i,.int j]=>(-(2 ^ 62)<=i/\i<2 ^ 62/\-(2 ^ 62)<=j/\j<2 ^ 62)/\R (j-i).toNat fun k=>.sh (.int (i+(k:Int)))
 | _=>False
def pIR1 (r:PTA):PTI:=fun γ R X=>r γ (fun ss=>fR1 R (ss.map S.d)) X
def pIR2 (r:PTA):PTI:=fun γ R X=>r γ (fun ss=>fR2 R (ss.map S.d)) X
def Rps.one_inv {d:D}{vs:List V} (h:Rps K H [d] vs):∃v,vs=[v]/\Rp K H d v:=by
 cases h with
 | cons h r=>cases r;exact⟨_,rfl,h⟩
def Rps.two_inv {d e:D}{vs:List V} (h:Rps K H [d,e] vs):∃v u,vs=[v,u]/\Rp K H d v/\Rp K H e u:=by
 cases h with
 | cons h r=>cases r with|cons h2 r=>cases r;exact⟨_,_,rfl,h,h2⟩
def De {lo:Int}{n:Nat}:ItOk K H0 B H1 σ γ (Itr lo n) n fun i=>.sh (.int (lo+(i:Int))):=by
 refine⟨fun i H' Z' hi lt=>⟨hi,fun x H'' y=>?_⟩,fun H' Z' lt=>Yx _⟩;obtain⟨e,y⟩:=y;subst e y;exact⟨Same.refl _,.int _⟩
def Kb {ta:TA}{r:PTA} (hr:SndA K mg E ta r):SndI K mg E (CV ta) (pIR1 r):=by
 intro H0 B H σ γ R X Q env h q qx;refine hr H0 B H σ γ _ X _ env h (fun ss vs H1 h1 S1 t1=>?_) qx;have rv:=t1.rps (env.grow S1).same;unfold fR1 at h1;split at h1
 ·rename_i j ej;rw[ej] at rv;obtain⟨v,rfl,r1⟩:=rv.one_inv;rw[r1.int_inv];exact⟨j,rfl,h1.1.1,h1.1.2,q _ _ _ H1 h1.2 S1 De⟩
 ·exact h1.elim
def AS {ta:TA}{r:PTA} (hr:SndA K mg E ta r):SndI K mg E (CK ta) (pIR2 r):=by
 intro H0 B H σ γ R X Q env h q qx;refine hr H0 B H σ γ _ X _ env h (fun ss vs H1 h1 S1 t1=>?_) qx;have rv:=t1.rps (env.grow S1).same;unfold fR2 at h1;split at h1
 ·rename_i i j ej;rw[ej] at rv;obtain⟨v,u,rfl,r1,r2⟩:=rv.two_inv;rw[r1.int_inv,r2.int_inv];exact⟨i,j,rfl,h1.1,q _ _ _ H1 h1.2 S1 De⟩
 ·exact h1.elim
structure WhileW (js:List Nat) (γ:Γ) (c:PTT) (body:PTS) (R:PEnds):Prop where
 w:∃(inv:Γ->Prop) (μ:Γ->Nat),inv (clr js γ)/\∀γ',inv γ'->c γ' (fun b=>if b=true then
  body { R with nx:=fun γ3=>inv (clr js γ3)/\μ (clr js γ3)<μ γ',ct:=fun γ3=>inv (clr js γ3)/\μ (clr js γ3)<μ γ',bk:=R.nx } γ' else R.nx γ') (R.ex γ')
def Za6 (js:List Nat) (c:PTT) (body:PTS):PTS:=fun R γ=>WhileW js γ c body R
def Nq (js:List Nat) (hc:SndT K mg E tt c) (hb:SndS K mg E t p):SndS K mg E (Aw tt t) (Za6 js c p):=by
 intro H0 B H σ γ R D hB env h e;obtain⟨inv,μ,h0,hs⟩:=h.w;refine⟨fun m σ' H'=>∃γ',m=μ γ'/\inv γ'/\EnvR K H0 B H' σ' γ'/\Fr B H σ γ H' σ' γ',⟨_,_,rfl,h0,(env.clr js).1,(env.clr js).2⟩,?_⟩;rintro m σ' H' ⟨γ',rfl,hi,e',f'⟩;refine hc H0 B H' σ' γ' _ _ _ e' (hs γ' hi) (fun b H1 h1 S1=>?_) fun c H'' hc S'=>e.ex σ' γ' c H'' hc (e'.grow S') (f'.trans (Fr.grow S'));have e1:=e'.grow S1;have f1:=f'.trans (Fr.grow S1);cases b with
 | false=>
  rw[Yq Y9] at h1 ⊢;exact e.nx σ' γ' H1 h1 e1 f1
 | true=>
  rw[Ys rfl] at h1 ⊢;refine⟨fun σ2 H2=>∃γ2,μ γ2<μ γ'/\inv γ2/\EnvR K H0 B H2 σ2 γ2/\Fr B H σ γ H2 σ2 γ2,fun σ2 H2 ⟨γ2,k,a1,a2,a3⟩=>⟨_,k,γ2,rfl,a1,a2,a3⟩,?_⟩;refine hb H0 B H1 σ' γ' _ _ hB e1 h1 ⟨fun σ3 γ3 H3 q3 e3 f3=>?_,e.rt,fun σ3 γ3 c H3 q3 e3 f3=>e.ex σ3 γ3 c H3 q3 e3 (f1.trans f3),fun σ3 γ3 H3 q3 e3 f3=>e.nx σ3 γ3 H3 q3 e3 (f1.trans f3),fun σ3 γ3 H3 q3 e3 f3=>?_,fun σ3 γ3 d v H3 q3 e3 f3=>e.rv σ3 γ3 d v H3 q3 e3 (f1.trans f3)⟩
  ·exact⟨_,q3.2,q3.1,(e3.clr js).1,(f1.trans f3).trans (e3.clr js).2⟩
  ·exact⟨_,q3.2,q3.1,(e3.clr js).1,(f1.trans f3).trans (e3.clr js).2⟩
end
section
variable {K:Za}{mg:Str->Option Value}{E:L2.St->XK}{H0 H H1 H':Hp}{B Z Z':Addr->Prop}{σ:L2.St}{γ:Γ}
def XF (N:List Str) (ds:List D):Γ:=ds.map (fun d=>some (arg d))++List.replicate (N.length-ds.length) none
def OO {N:List Str}{ds:List D}{vs:List V} (r:Rps K H ds vs) (hn:ds.length<=N.length):EnvR K H (fun b=>Mut (H b)) H (start N vs) (XF N ds):=by
 have hlen:=r.len
 have get:∀(i:Nat) (s:S),(XF N ds)[i]?=some (some s)->∃d,ds[i]?=some d/\s=arg d:=fun i s h=>by
  unfold XF at h;by_cases hi:i<ds.length
  ·rw[YQ (by rw[Yn];exact hi),Y0,Yp hi] at h;exact⟨_,Yp hi,(Y2 (Y2 h)).symm⟩
  ·rw[YN (by rw[Yn];omega),WN] at h;split at h<;>cases h
 have noown:∀(i:Nat) (es:O),(XF N ds)[i]?≠some (some (.own es)):=fun i es h=>by
  obtain⟨d,_,e⟩:=get i _ h;rcases Fx d with q|q<;>rw[q] at e<;>cases e
 refine⟨Same.refl _,?_,fun b h=>h,fun i j a a' es es' b h=>absurd h (noown i es),fun i s h=>?_⟩
 ·unfold L2.start XF;simp[hlen]
 ·obtain⟨d,hd,rfl⟩:=get i s h;obtain⟨v,hv,rv⟩:=r.get hd;refine⟨v,?_,?_⟩
  ·unfold L2.start;rw[YQ (by rw[Yn];exact(YF.mp hv).1),Y0,hv];rfl
  ·have tv:=argR (K:=K) (Z:=zof (fun b=>Mut (H b)) (XF N ds) (start N vs)) (H0:=H) (H:=H) (H':=H) (fun b z=>z.elim id fun⟨k,es,_,k1,_⟩=>absurd k1 (noown k es)) (Same.refl _) rv;rcases Fx d with q|q<;>rw[q] at tv ⊢<;>exact tv
def IQ {c:Pc}{N:List Str}{t:TS}{p:PTS}{vs:List V}{Q:VK}{Ec:XK}{n:Nat} (h:spOf mg c K vs H Q Ec) (snd:SndS K mg (fun _=>Ec) t p) (hn:n<=N.length)
  (hp:∀ds R X,c ds R X->ds.length=n/\p { nx:=fun _=>R (.sh .non),rt:=R,ex:=fun _ e=>X e } (XF N ds)):t { nx:=fun _ H'=>Q .non H',rt:=Q } (start N vs) H:=by
 obtain⟨ds,R,X,r,hc,hQ,hX⟩:=h;obtain⟨e,hp⟩:=hp ds R X hc;refine snd H (fun b=>Mut (H b)) H _ _ _ _ (fun b z=>Kq z) (OO r (by rw[e];exact hn)) hp ⟨fun σ' γ' H' h1 e1 f1=>hQ _ _ H' h1 e1.same .non,fun s v H' h1 S1 tv=>hQ s v H' h1 S1 tv,fun σ' γ' c H' h1 e1 f1=>hX c H' h1 e1.same,fun _ _ _ z=>z.elim,fun _ _ _ z=>z.elim,fun _ _ _ _ _ z=>z.elim⟩
def OS {c:Pc}{vs:List V}{Q:VK}{Ec:XK}{n:Nat} (h:spOf mg c K vs H Q Ec) (hn:∀ds R X,c ds R X->ds.length=n):vs.length=n:=by
 obtain⟨ds,R,X,r,hc,_⟩:=h;rw[r.len];exact hn ds R X hc
def atP (φ:List (Option Nat)) (γ:Γ):Γ:=φ.map fun o=>o.bind fun j=>(γ[j]?).join
structure CompW (φ:List (Option Nat)) (γ:Γ) (g:PTG) (c:PTT) (e:PTE) (n:Nat) (item:Nat->S) (R:S->Prop):Prop where
 w:n<=100000/\∃f:Nat->Option D,(∀i,i<n->g (item i) (atP φ γ) fun γ2=>c γ2 (fun b=>if b=true then e γ2 (fun s=>∃d,s.shd=some d/\f i=some d) (fun _=>False) else f i=none) (fun _=>False))/\R (.own ((List.range n).filterMap f))
def OV (φ:List (Option Nat)) (it:PTI) (g:PTG) (c:PTT) (e:PTE):PTE:=fun γ R X=>it γ (fun n item=>CompW φ γ g c e n item R) X
def NN {φ:List (Option Nat)}{i:Nat}{s:S} (h:(atP φ γ)[i]?=some (some s)):∃j,φ[i]?=some (some j)/\γ[j]?=some (some s):=by
 unfold atP at h;rw[Y0] at h;cases e:φ[i]? with
 | none=>rw[e] at h;cases h
 | some o=>
  rw[e] at h;cases o with
  | none=>simp at h
  | some j=>
   refine⟨j,rfl,?_⟩;simp at h;cases e2:γ[j]? with
   | none=>rw[e2] at h;simp at h
   | some w=>rw[e2] at h;simp at h;rw[h]
def SA:∀{φ:List (Option Nat)},(φ.filterMap id).Nodup->∀(i j k:Nat),φ[i]?=some (some k)->φ[j]?=some (some k)->i=j
 | [],_,i,_,_,h,_=>by simp at h
 | none::r,hn,i,j,k,h1,h2=>by
  cases i with
  | zero=>simp at h1
  | succ i=>
   cases j with
   | zero=>simp at h2
   | succ j=>exact Wa (· + 1) (SA (φ:=r) (by simpa using hn) i j k (by simpa using h1) (by simpa using h2))
 | some m::r,hn,i,j,k,h1,h2=>by
  have hn':m∉r.filterMap id/\(r.filterMap id).Nodup:=by simpa using hn
  have mem:∀{j:Nat},r[j]?=some (some k)->k∈r.filterMap id:=fun h=>Vf.mpr ⟨some k,YE h,rfl⟩;cases i with
  | zero=>
   cases j with
   | zero=>rfl
   | succ j=>
    have e:m=k:=by simpa using h1
    subst e;exact absurd (mem (by simpa using h2)) hn'.1
  | succ i=>
   cases j with
   | zero=>
    have e:m=k:=by simpa using h2
    subst e;exact absurd (mem (by simpa using h1)) hn'.1
   | succ j=>exact Wa (· + 1) (SA (φ:=r) hn'.2 i j k (by simpa using h1) (by simpa using h2))
def N5 {φ:List (Option Nat)}{i j:Nat} (h1:φ[i]?=some (some j)) {v:V} (h2:σ[j]?=some (some v)):(atStart φ σ)[i]?=some (some v):=by
 unfold atStart;rw[Y0,h1];simp[h2]
def A5 {φ:List (Option Nat)}{L:Addr} (env:EnvR K H0 B H σ γ) (nL:H L=none):∀b o,H b=some o->¬zof B γ σ b->¬zof (fun b=>zof B γ σ b\/b=L) (atP φ γ) (atStart φ σ) b:=fun b o hb z y=>by
 rcases y with(y|y)|⟨i',ds,x,y1,y2,y3⟩
 ·exact z y
 ·rw[y,nL] at hb;cases hb
 ·obtain⟨m,m1,m2⟩:=NN y1;obtain⟨w,w1,_⟩:=env.slot m _ m2;rw[N5 m1 w1] at y2;exact z (.inr ⟨m,ds,x,m2,by rw[w1];exact Wa some (Y2 y2),y3⟩)
def Ov {φ:List (Option Nat)}{L:Addr} (env:EnvR K H0 B H σ γ) (S1:Same H H') (nL:H L=none) (hL:∃ys,H' L=some (.lst ys)) (hφ:(φ.filterMap id).Nodup) :
  EnvR K H0 (fun b=>zof B γ σ b\/b=L) H' (atStart φ σ) (atP φ γ):=by
 refine⟨env.same.trans S1,by unfold atStart atP;simp,fun b z=>?_,fun i j a a' ds es b h1 h2 h3 h4 h5 h6=>?_,fun i s h=>?_⟩
 ·rcases z with z|rfl
  ·exact XU S1 (env.zm b z)
  ·obtain⟨ys,e⟩:=hL;rw[e];trivial
 ·obtain⟨k,k1,k2⟩:=NN h1;obtain⟨l,l1,l2⟩:=NN h2;obtain⟨v,v1,_⟩:=env.slot k _ k2;obtain⟨u,u1,_⟩:=env.slot l _ l2;rw[N5 k1 v1] at h3;rw[N5 l1 u1] at h4
  have:=env.own k l a a' ds es b k2 l2 (by rw[v1];exact Wa some (Y2 h3)) (by rw[u1];exact Wa some (Y2 h4)) h5 h6
  subst this;exact SA hφ i j k k1 l1
 ·obtain⟨k,k1,k2⟩:=NN h;obtain⟨v,v1,v2⟩:=env.slot k _ k2;have So:Same (off (zof B γ σ) H) (off (zof (fun b=>zof B γ σ b\/b=L) (atP φ γ) (atStart φ σ)) H'):=JS S1 (A5 env nL);refine⟨v,N5 k1 v1,?_⟩;cases s with
  | bor d=>exact v2
  | sh d=>exact Rp.mono So v2
  | own ds=>
   obtain⟨a,e1,e3,e4⟩:=v2;exact⟨a,e1,e3,e4.mono So fun b _ x=>S1 b x⟩
  | view ds=>exact v2
  | tmp d=>exact v2
def Sub.of {σ σ':L2.St}{is:List Nat} (hl:σ'.length=σ.length) (h1:∀j,j∉is->σ'[j]?=σ[j]?) (h2:∀j∈is,∀v,σ[j]?≠some (some v)):Sub σ σ':=⟨hl,fun i v e=>by
 by_cases hi:i∈is
 ·exact absurd e (h2 i hi v)
 ·rw[h1 i hi];exact e⟩
structure ItOkC (K:Za) (H0:Hp) (B:Addr->Prop) (H1:Hp) (σ:L2.St) (γ:Γ) (J:It) (n:Nat) (item:Nat->S):Prop where
 go:∀(i:Nat) (H':Hp) (Z':Addr->Prop),i<n->Same H1 H'->Later H0 (zof B γ σ) H1 Z' H'->J.go i H'/\∀x H'',J.yld i H' x H''->Same H' H''/\TV K Z' H0 H' H'' (item i) x
 stop:∀(H':Hp) (Z':Addr->Prop),Same H1 H'->Later H0 (zof B γ σ) H1 Z' H'->J.stop n H'
def NV (K:Za) (mg:Str->Option Value) (E:L2.St->XK) (wi:TI) (it:PTI):Prop:=∀(H0:Hp) (B:Addr->Prop) (H:Hp) (σ:L2.St) (γ:Γ) (R:Nat->(Nat->S)->Prop) (X:XR) (Q:It->Hp->Prop),EnvR K H0 B H σ γ->it γ R X->
 (∀n item J H1,R n item->Same H H1->ItOkC K H0 B H1 σ γ J n item->Q J H1)->(∀c H',X c->Same H H'->E σ (.ref (ExcR.JB mg c)) none H')->wi σ H Q
def SndI.c {wi:TI}{it:PTI} (h:SndI K mg E wi it):NV K mg E wi it:=fun H0 B H σ γ R X Q env p q qx=>
 h H0 B H σ γ R X Q env p (fun n item J H1 hR S1 ok=>q n item J H1 hR S1 ⟨fun i H' Z' hi _ lt=>ok.go i H' Z' hi lt,fun H' Z' _ lt=>ok.stop H' Z' lt⟩) qx
def pILc (a:PTE):PTI:=fun γ R X=>a γ (fun s=>match s.d with
 | .lst ds=>R ds.length fun i=>s.sub (ds.getD i .non)
 | .tup ds=>False
 | .scr ns=>R ns.length fun i=>.sh (.int (ns.getD i 0))
 | _=>False) X
def Xj {te:TE}{a:PTE} (ha:SndE K mg E te a):NV K mg E (Nk K te) (pILc a):=by
 intro H0 B H σ γ R X Q env h q qx;refine ha H0 B H σ γ _ X _ env h (fun s v H1 h1 S1 t1=>?_) qx;have env1:=env.grow S1;split at h1
 ·rename_i ds ed;have rv:=t1.rp env1.same;rw[ed] at rv;obtain⟨l,vs,rfl,hl1,r1⟩:=rv.lst_inv;refine⟨l,rfl,⟨vs,SqL.of hl1⟩,q _ _ _ H1 h1 S1 ⟨fun i H' Z' hi S2 lt=>?_,fun H' Z' S2 lt=>⟨vs,SqL.of (S2 _ _ hl1),by rw[r1.len];exact Yx _⟩⟩⟩;have hd:ds[i]?=some (ds.getD i .non):=by rw[Y1,Yp hi];rfl
  have hi':∃u,vs[i]?=some u/\TV K Z' H0 H' H' (s.sub (ds.getD i .non)) u:=by
   cases s with
   | bor d=>
    have t1:=Rp.strip t1;rw[show d.strip=.lst ds from ed] at t1
    obtain⟨l',vs',e',h3,r3⟩:=Rp.lst_inv t1;cases e'
    rw[env1.same _ _ h3] at hl1;cases hl1
    obtain⟨u,h4,h5⟩:=r3.get hd;exact⟨u,h4,argR lt.2.1 lt.1 h5⟩
   | sh d=>
    have:d=.lst ds:=ed
    subst this;obtain⟨l',vs',e',h3,r3⟩:=Rp.lst_inv t1;cases e'
    rw[off_sub _ _ h3] at hl1;cases hl1
    obtain⟨u,h4,h5⟩:=r3.get hd;exact⟨u,h4,Rp.mono lt.off h5⟩
   | own es=>
    cases es with
    | dK es=>cases ed
    | dT es=>cases ed
    | ins x C xs cs=>cases ed
    | lsA x es=>
     cases ed
     obtain⟨l',e',h0,_,vs',h3,r3⟩:=t1;cases e'
     rw[h3] at hl1;cases hl1
     obtain⟨u,h4,h5⟩:=r3.get hd;exact⟨u,h4,Rp.mono lt.off (Rp.mono (JS (Same.refl _) fun b _ _ z y=>z (.inl y)) h5)⟩
    | lst es=>
    cases ed
    obtain⟨l',e',h0,vs',h3,r3⟩:=t1;cases e'
    rw[h3] at hl1;cases hl1
    obtain⟨u,h4,h5⟩:=r3.get hd;exact⟨u,h4,Rp.mono lt.off (Rp.mono (JS (Same.refl _) fun b _ _ z y=>z (.inl y)) h5)⟩
   | view es=>
    cases es with
    | dK es=>cases ed
    | dT es=>cases ed
    | ins x C xs cs=>cases ed
    | lsA x es=>
     cases ed
     obtain⟨l',e',_,vs',h3,r3⟩:=t1;cases e'
     rw[h3] at hl1;cases hl1
     obtain⟨u,h4,h5⟩:=r3.get hd;exact⟨u,h4,Rp.mono lt.off h5⟩
    | lst es=>
    cases ed
    obtain⟨l',e',vs',h3,r3⟩:=t1;cases e'
    rw[h3] at hl1;cases hl1
    obtain⟨u,h4,h5⟩:=r3.get hd;exact⟨u,h4,Rp.mono lt.off h5⟩
   | tmp d=>
    have:d=.lst ds:=ed
    subst this;obtain⟨l',vs',e',h3,r3⟩:=Rp.lst_inv t1;cases e'
    rw[h3] at hl1;cases hl1
    obtain⟨u,h4,h5⟩:=r3.get hd;exact⟨u,h4,TX lt.2.1 (Rp.mono S2 h5)⟩
  obtain⟨u,hu,tu⟩:=hi';refine⟨⟨vs,u,SqL.of (S2 _ _ hl1),hu⟩,fun x H'' y=>?_⟩;obtain⟨rfl,y⟩:=y
  have:=y vs (SqL.of (S2 _ _ hl1))
  rw[hu] at this;cases this
  exact⟨Same.refl _,tu⟩
 ·exact h1.elim
 ·rename_i ns ed;have rv:=t1.rp env1.same;rw[ed] at rv;cases rv with
  | scr hs=>
   refine⟨_,rfl,⟨_,hs⟩,q _ _ _ H1 h1 S1 ⟨fun i H' Z' hi S2 lt=>?_,fun H' Z' S2 lt=>⟨_,S2.seq hs,by rw[Yn];exact Yx _⟩⟩⟩
   have hu:(ns.map V.int)[i]?=some (.int (ns.getD i 0)):=by
    rw[Y0,Yp hi,Y1,Yp hi];rfl
   refine⟨⟨_,_,S2.seq hs,hu⟩,fun x H'' y=>?_⟩;obtain⟨rfl,y⟩:=y
   have:=y _ (S2.seq hs)
   rw[hu] at this;cases this
   exact⟨Same.refl _,.int _⟩
 ·exact h1.elim
def UJ {φ:List (Option Nat)}{is:List Nat}{wi:TI}{g:TG}{tc:TT}{te:TE}{it:PTI}{pg:PTG}{c:PTT}{a:PTE} (hi:NV K mg E wi it) (hg:Pg K is g pg) (hc:SndT K mg E tc c) (he:SndE K mg E te a)
  (h1:(φ.filterMap id).Nodup:=by decide) (h2:∀j∈is,φ[j]?=some none:=by decide):SndE K mg E (ND φ wi g tc te) (OV φ it pg c a):=by
 intro H0 B H σ γ R X Q env h q qx;refine hi H0 B H σ γ _ X _ env h (fun n item J H1 h1' S1 ok=>?_) qx;obtain⟨hn,f,hf,hR⟩:=h1'.w;have env1:=env.grow S1;have hbig:n<=sizeLine:=Y8 hn (by decide);intro L nL;refine⟨fun i m ys H2=>m=n-i/\i<=n/\Same H1 H2/\H2 L=some (.lst ys)/\Rps K (off (fun b=>zof B γ σ b\/b=L) H2) ((List.range i).filterMap f) ys,⟨n,by simp,Wz _,U9 nL,Uo,.nil⟩,?_⟩;rintro i m ys H2 ⟨rfl,hin,S2,hL,hys⟩;have env2:=env1.grow S2;by_cases hlt:i<n
 ·have envI2:=Ov (φ:=φ) env1 S2 nL ⟨ys,hL⟩ h1;obtain⟨go,yl⟩:=ok.go i H2 _ hlt S2 ⟨env2.same,envI2.zm,fun b o hb z=>⟨S2 _ _ hb,A5 env1 nL b o hb z⟩⟩;refine .inr ⟨go,fun x H3 y=>?_⟩;obtain⟨S3,tv⟩:=yl x H3 y;refine hg H0 _ H2 H3 _ _ _ _ _ _ envI2 S3 tv (hf i hlt) fun σ2 γ2 p2 e2 f2 k2=>⟨?_,?_⟩
  ·refine Sub.of (is:=is) k2.2 k2.1 fun j hj v z=>?_;obtain⟨k,k1,_⟩:=Ax z;rw[h2 j hj] at k1;cases k1
  ·refine hc H0 _ H3 σ2 γ2 _ _ _ e2 p2 (fun b H5 q5 S5=>?_) fun _ _ z=>z.elim;have e5:=e2.grow S5;cases b with
   | false=>
    rw[Yq Y9] at q5 ⊢;refine⟨n-(i+1),by omega,rfl,hlt,(S2.trans S3).trans S5,(S3.trans S5) _ _ hL,?_⟩;rw[List.range_succ,Qu];simp only[W3,q5,List.filterMap_nil,Wc];exact Rps.mono (JS (S3.trans S5) fun _ _ _ z=>z) hys
   | true=>
    rw[Ys rfl] at q5 ⊢;refine he H0 _ H5 σ2 γ2 _ _ _ e5 q5 (fun s v H6 q6 S6 t6=>?_) fun _ _ z=>z.elim;obtain⟨d,hd,hfd⟩:=q6;have S26:=(S3.trans S5).trans S6;have hr:=t6.shd (e5.grow S6).same e5.zm S6 hd
    have hlen:ys.length<=i:=by
     rw[hys.len];exact Y8 (List.length_filterMap_le _ _) (by rw[Vn];exact Yx _)
    refine⟨S26 _ _ hL,by omega,n-(i+1),by omega,rfl,hlt,fun b o hb=>?_,Uo,?_⟩
    ·rw[JX (X2 hb nL)];exact S26 _ _ (S2 _ _ hb)
    ·rw[List.range_succ,Qu];have ef:[i].filterMap f=[d]:=by simp[hfd]
     rw[ef]
     have So:Same (off (fun b=>zof B γ σ b\/b=L) H6) (off (fun b=>zof B γ σ b\/b=L) (upd H6 L (.lst (ys++[v])))):=fun b o h=>by
      obtain⟨a1,a2⟩:=XM h;refine U4 ?_ a2;rw[JX fun z=>a2 (.inr z)];exact a1
     refine Rps.append (Rps.mono So (Rps.mono (JS S26 fun _ _ _ z=>z) hys)) (.cons (Rp.mono So (Rp.mono (JS (Same.refl _) fun b _ _ z y=>z (.inl y)) hr)) .nil)
 ·have:i=n:=by omega
  subst this;exact .inl ⟨ok.stop H2 _ S2 (Later.of env2 (Fr.grow S2)),q _ _ H2 hR (S1.trans S2) ⟨L,rfl,(fun _ e=>e▸S1.free nL),ys,hL,hys⟩⟩
def pYes:PTT:=fun _ R _=>R true
def XI:SndT K mg E G4 pYes:=fun _ _ H _ _ _ _ _ _ p q _=>q _ H p (Same.refl _)
def Zbd {α β:Type} (xs:List α) (f:α->Option β):(List.range xs.length).filterMap (fun i=>(xs[i]?).bind f)=xs.filterMap f:=by
 induction xs with
 | nil=>rfl
 | cons x r ih=>
  rw[YD,List.range_succ_eq_map,W3,List.filterMap_map,W3]
  have e:(fun i=>((x::r)[i]?).bind f)∘Nat.succ=fun i=>(r[i]?).bind f:=by
   funext i;simp
  rw[e,ih];rfl
end
open M
section
variable {K:Za}{mg:Str->Option Value}{E:L2.St->XK}{H0 H H1 H':Hp}{B Z Z':Addr->Prop}{σ:L2.St}{γ:Γ}
def pCB (f:List S->(S->Prop)->Prop) (r:PTA):PTE:=fun γ R X=>r γ (fun ss=>f ss R) X
def X7 {rr:List V->Hp->VK->Prop}{f:List S->(S->Prop)->Prop}{ta:TA}{r:PTA} (hr:SndA K mg E ta r)
  (h:∀(H0 H H1:Hp) (Z:Addr->Prop) (ss:List S) (vs:List V) (R:S->Prop) (Q:VK),Same H0 H1->Same H H1->(∀b,Z b->Mut (H b))->TVs K Z H0 H H1 ss vs->f ss R->(∀s z H',R s->Same H1 H'->TV K Z H0 H H' s z->Q z H')->rr vs H1 Q) :
  SndE K mg E (tCB rr ta) (pCB f r):=by
 intro H0 B H σ γ R X Q env p q qx;refine hr H0 B H σ γ _ X _ env p (fun ss vs H1 h1 S1 t1=>?_) qx;exact h H0 H H1 _ ss vs R Q (env.grow S1).same S1 env.zm t1 h1 fun s z H' hs S2 tv=>q s z H' hs (S1.trans S2) tv
def S.free:S->List D->Bool
 | .bor _,ds=>imms ds | .tmp _,ds=>imms ds|_,_=>true
def TVs.one_inv {s:S}{vs:List V} (h:TVs K Z H0 H H' [s] vs):∃v,vs=[v]/\TV K Z H0 H H' s v:=by
 cases h with
 | cons h r=>cases r;exact⟨_,rfl,h⟩
def TVs.two_inv {s t:S}{vs:List V} (h:TVs K Z H0 H H' [s,t] vs):∃v u,vs=[v,u]/\TV K Z H0 H H' s v/\TV K Z H0 H H' t u:=by
 cases h with
 | cons h r=>cases r with|cons h2 r=>cases r;exact⟨_,_,rfl,h,h2⟩
def TV.items {s:S}{v:V}{ds:List D} (h0:Same H0 H') (hm:∀b,Z b->Mut (H b)) (S1:Same H H') (h:TV K Z H0 H H' s v) (hf:s.free ds=true) :
  (s.d=.lst ds->∃a vs,v=.ref a/\H' a=some (.lst vs)/\Rps K (off Z H') ds vs)/\(s.d=.tup ds->∃a vs,v=.ref a/\H' a=some (.tup vs)/\Rps K (off Z H') ds vs):=by
 have hm':∀b,Z b->Mut (H' b):=fun b z=>XU S1 (hm b z);cases s with
 | bor d=>
  have h:=Rp.strip h;refine⟨fun e=>?_,fun e=>?_⟩<;>rw[show d.strip=_ from e] at h
  ·obtain⟨a,vs,rfl,h1,r⟩:=Rp.lst_inv h;exact⟨a,vs,rfl,h0 _ _ h1,Rps.off hm' (Rps.mono h0 r) hf⟩
  ·obtain⟨a,vs,rfl,h1,r⟩:=Rp.tup_inv h;exact⟨a,vs,rfl,h0 _ _ h1,Rps.off hm' (Rps.mono h0 r) hf⟩
 | sh d=>
  refine⟨fun e=>?_,fun e=>?_⟩<;>(have e':d=_:=e;subst e')
  ·obtain⟨a,vs,rfl,h1,r⟩:=Rp.lst_inv h;exact⟨a,vs,rfl,off_sub _ _ h1,r⟩
  ·obtain⟨a,vs,rfl,h1,r⟩:=Rp.tup_inv h;exact⟨a,vs,rfl,off_sub _ _ h1,r⟩
 | own es=>
  cases es with
  | dK es=>exact⟨(fun e=>by cases e),(fun e=>by cases e)⟩
  | dT es=>exact⟨(fun e=>by cases e),(fun e=>by cases e)⟩
  | ins x C xs cs=>exact⟨(fun e=>by cases e),(fun e=>by cases e)⟩
  | lst es=>
   refine⟨fun e=>?_,fun e=>by cases e⟩;cases e
   obtain⟨a,rfl,e0,vs,e,r⟩:=h;exact⟨a,vs,rfl,e,Rps.mono (JS (Same.refl _) fun b _ _ z y=>z (.inl y)) r⟩
  | lsA x es=>
   refine⟨fun e=>?_,fun e=>by cases e⟩;cases e
   obtain⟨a,rfl,e0,_,vs,e,r⟩:=h;exact⟨a,vs,rfl,e,Rps.mono (JS (Same.refl _) fun b _ _ z y=>z (.inl y)) r⟩
 | view es=>
  cases es with
  | dK es=>exact⟨(fun e=>by cases e),(fun e=>by cases e)⟩
  | dT es=>exact⟨(fun e=>by cases e),(fun e=>by cases e)⟩
  | ins x C xs cs=>exact⟨(fun e=>by cases e),(fun e=>by cases e)⟩
  | lst es=>
   refine⟨fun e=>?_,fun e=>by cases e⟩;cases e
   obtain⟨a,rfl,vs,e,r⟩:=h;exact⟨a,vs,rfl,e,r⟩
  | lsA x es=>
   refine⟨fun e=>?_,fun e=>by cases e⟩;cases e
   obtain⟨a,rfl,_,vs,e,r⟩:=h;exact⟨a,vs,rfl,e,r⟩
 | tmp d=>
  refine⟨fun e=>?_,fun e=>?_⟩<;>(have e':d=_:=e;subst e')
  ·obtain⟨a,vs,rfl,h1,r⟩:=Rp.lst_inv h;exact⟨a,vs,rfl,h1,Rps.off hm' r hf⟩
  ·obtain⟨a,vs,rfl,h1,r⟩:=Rp.tup_inv h;exact⟨a,vs,rfl,h1,Rps.off hm' r hf⟩
def fLen:List S->(S->Prop)->Prop
 | [s],R=>(match s.d with
  | .lst ds=>R (.sh (.int ds.length)) | .tup ds=>R (.sh (.int ds.length)) | .scr ns=>R (.sh (.int ns.length)) | .str x=>x.length<=sizeLine/\R (.sh (.int x.length))|_=>False)
 | _,_=>False
def Ug {ta:TA}{r:PTA} (hr:SndA K mg E ta r):SndE K mg E (tCB (fun xs H Q=>∃x n,xs=[x]/\LenV K x H n/\Q (.int n) H) ta) (pCB fLen r):=by
 refine X7 hr fun H0 H H1 Z ss vs R Q s0 s1 hm tv h q=>?_;unfold fLen at h;split at h
 ·rename_i s;obtain⟨v,rfl,t1⟩:=tv.one_inv;have rv:=t1.rp s0;split at h
  ·rename_i ds e;rw[e] at rv;obtain⟨a,us,rfl,h1,r1⟩:=rv.lst_inv;exact⟨_,_,rfl,.inl ⟨us,SqL.of h1,rfl⟩,by rw[r1.len];exact q _ _ H1 h (Same.refl _) (.int _)⟩
  ·rename_i ds e;rw[e] at rv;obtain⟨a,us,rfl,h1,r1⟩:=rv.tup_inv;exact⟨_,_,rfl,.inr ⟨us,SqT.of h1,rfl⟩,by rw[r1.len];exact q _ _ H1 h (Same.refl _) (.int _)⟩
  ·rename_i ns e;rw[e] at rv;cases rv with
   | scr hs=>exact⟨_,_,rfl,.inl ⟨_,hs,rfl⟩,by rw[Yn];exact q _ _ H1 h (Same.refl _) (.int _)⟩
  ·rename_i x e;rw[e] at rv;rw[rv.str_inv];exact⟨_,_,rfl,⟨h.1,rfl⟩,q _ _ H1 h.2 (Same.refl _) (.int _)⟩
  ·exact h.elim
 ·exact h.elim
def Gf:List S->(S->Prop)->Prop
 | [s],R=>(match s.d with
  | .lst ds=>s.free ds=true/\R (.own ds) | .tup ds=>s.free ds=true/\R (.own ds)|_=>False)
 | _,_=>False
def Td {ta:TA}{r:PTA} (hr:SndA K mg E ta r):SndE K mg E (tCB (fun xs H Q=>∃p ys,xs=[.ref p]/\(SqL K H p ys\/SqT K H p ys)/\∀l,H l=none->Q (.ref l) (upd H l (.lst ys))) ta) (pCB Gf r):=by
 refine X7 hr fun H0 H H1 Z ss vs R Q s0 s1 hm tv h q=>?_;unfold Gf at h;split at h
 ·rename_i s;obtain⟨v,rfl,t1⟩:=tv.one_inv;split at h
  ·rename_i ds e;obtain⟨a,us,rfl,h1,r1⟩:=(t1.items s0 hm s1 h.1).1 e;exact⟨a,us,rfl,.inl (SqL.of h1),fun l nl=>q _ _ _ h.2 (U9 nl) (KG s1 nl r1)⟩
  ·rename_i ds e;obtain⟨a,us,rfl,h1,r1⟩:=(t1.items s0 hm s1 h.1).2 e;exact⟨a,us,rfl,.inr (SqT.of h1),fun l nl=>q _ _ _ h.2 (U9 nl) (KG s1 nl r1)⟩
  ·exact h.elim
 ·exact h.elim
def Eb:List S->(S->Prop)->Prop
 | [s],R=>(match s.d with
  | .lst ds=>s.free ds=true/\R (.sh (.tup ds)) | .tup ds=>s.free ds=true/\R (.sh (.tup ds))|_=>False)
 | _,_=>False
def DG {ta:TA}{r:PTA} (hr:SndA K mg E ta r):SndE K mg E (tCB (fun xs H Q=>∃p ys,xs=[.ref p]/\((SqL K H p ys/\∀l,H l=none->Q (.ref l) (upd H l (.tup ys)))\/(SqT K H p ys/\Q (.ref p) H))) ta) (pCB Eb r):=by
 refine X7 hr fun H0 H H1 Z ss vs R Q s0 s1 hm tv h q=>?_;have hm':∀b,Z b->Mut (H1 b):=fun b z=>XU s1 (hm b z);unfold Eb at h;split at h
 ·rename_i s;obtain⟨v,rfl,t1⟩:=tv.one_inv;split at h
  ·rename_i ds e;obtain⟨a,us,rfl,h1,r1⟩:=(t1.items s0 hm s1 h.1).1 e;refine⟨a,us,rfl,.inl ⟨SqL.of h1,fun l nl=>q _ _ _ h.2 (U9 nl) (.tup (U4 Uo fun z=>?_) (Rps.mono (JS (U9 nl) fun _ _ _ z=>z) r1))⟩⟩
   have:=hm' l z
   rw[nl] at this;exact this
  ·rename_i ds e;obtain⟨a,us,rfl,h1,r1⟩:=(t1.items s0 hm s1 h.1).2 e;refine⟨a,us,rfl,.inr ⟨SqT.of h1,q _ _ _ h.2 (Same.refl _) (.tup (U4 h1 fun z=>?_) r1)⟩⟩
   have:=hm' a z
   rw[h1] at this;exact this
  ·exact h.elim
 ·exact h.elim
def Rps.ints {K:Za}{H:Hp}:∀{js:List Int}{vs:List V},Rps K H (js.map D.int) vs->vs=js.map V.int
 | [],_,.nil=>rfl
 | j::r,_,.cons h t=>by rw[Rp.int_inv h,Rps.ints t];rfl
def Rps.of_ints {K:Za}{H:Hp}:∀(js:List Int),Rps K H (js.map D.int) (js.map V.int)
 | []=>.nil
 | j::r=>.cons (.int j) (Rps.of_ints r)
def EN:List S->(S->Prop)->Prop
 | [s],R=>∃js:List Int,s.d=.lst (js.map D.int)/\js.length<64/\∀ns:List Int,ns.Perm js->ns.Pairwise (·<=·)->R (.own (ns.map D.int))
 | _,_=>False
def S8 {w:World}{ta:TA}{r:PTA} (hr:SndA K mg E ta r):SndE K mg E (tCB (fun xs H Q=>∃(p:Addr) (js:List Int),xs=[.ref p]/\js.length<64/\(SqL K H p (js.map V.int)\/H p=some (SetH w p js))/\
  ∀(l:Addr) (ns:List Int),H l=none->ns.Perm js->ns.Pairwise (·<=·)->Q (.ref l) (upd H l (.lst (ns.map V.int)))) ta) (pCB EN r):=by
 refine X7 hr fun H0 H H1 Z ss vs R Q s0 s1 hm tv h q=>?_;unfold EN at h;split at h
 ·rename_i s;obtain⟨v,rfl,t1⟩:=tv.one_inv;obtain⟨js,e,hz,k⟩:=h;have rv:=t1.rp s0;rw[e] at rv;obtain⟨a,us,rfl,h1,r1⟩:=rv.lst_inv;rw[r1.ints] at h1;exact⟨a,js,rfl,hz,.inl (SqL.of h1),fun l ns nl hp hs=>q _ _ _ (k ns hp hs) (U9 nl) (KG s1 nl (Rps.of_ints ns))⟩
 ·exact h.elim
def GS:List S->(S->Prop)->Prop
 | [s,t],R=>(match s.d,t.d with | .int i,.int j=>R (.sh (.int (if j>i then j else i)))|_,_=>False)
 | _,_=>False
def EJ {ta:TA}{r:PTA} (hr:SndA K mg E ta r):SndE K mg E (tCB (fun xs H Q=>∃i j,xs=[.int i,.int j]/\Q (.int (if j>i then j else i)) H) ta) (pCB GS r):=by
 refine X7 hr fun H0 H H1 Z ss vs R Q s0 s1 hm tv h q=>?_;unfold GS at h;split at h
 ·obtain⟨v,u,rfl,t1,t2⟩:=tv.two_inv;have r1:=t1.rp s0;have r2:=t2.rp s0;split at h
  ·rename_i i j e1 e2;rw[e1] at r1;rw[e2] at r2;rw[r1.int_inv,r2.int_inv];exact⟨i,j,rfl,q _ _ H1 h (Same.refl _) (.int _)⟩
  ·exact h.elim
 ·exact h.elim
def fAbs:List S->(S->Prop)->Prop
 | [s],R=>(match s.d with | .int i=>R (.sh (.int (if i<0 then -i else i)))|_=>False)
 | _,_=>False
def tyD:D->Option String
 | .int _=>some "int" | .bl _=>some "bool" | .non=>some "NoneType" | .str _=>some "str" | .tup _=>some "tuple" | .lst _=>some "list" | .dK _=>some "dict" | .dT _=>some "dict" | _=>none
inductive IsiR:String->String->Bool->Prop
 | same (n:String):IsiR n n true
 | ib:IsiR "int" "bool" false
 | bi:IsiR "bool" "int" true
 | tl:IsiR "tuple" "list" false
 | lt:IsiR "list" "tuple" false
 | it:IsiR "int" "tuple" false
 | il:IsiR "int" "list" false
 | bt:IsiR "bool" "tuple" false
 | bL:IsiR "bool" "list" false
 | ti:IsiR "tuple" "int" false
 | li:IsiR "list" "int" false
 | si:IsiR "str" "int" false
 | is:IsiR "int" "str" false
 | ni:IsiR "NoneType" "int" false
 | nl:IsiR "NoneType" "list" false
 | nt:IsiR "NoneType" "tuple" false
def IsiR.kit {m n:String}{b:Bool} (h:IsiR m n b):PySem.W.kitOne K (.type m) (.type n)=some b:=by
 cases h with
 | same=>exact O3 K _
 | _=>rfl
def fIsi:List S->(S->Prop)->Prop
 | [s,t],R=>(match tyD s.d,t.d with|some m,.ty n=>∃b,IsiR m n b/\R (.sh (.bl b))|_,_=>False)
 | _,_=>False
def Zdf {d:D}{v:V}{m:String} (h:Rp K H d v) (e:tyD d=some m):TyOf K H v (.type m):=by
 cases h with
 | int i=>cases e;exact .int i
 | bl b=>cases e;exact .bl b
 | non=>cases e;exact .non
 | str x=>cases e;exact .str x
 | ty n=>cases e
 | tup h r=>cases e;exact .tup h
 | lst h r=>cases e;exact .lst h
 | scr h=>cases e
 | dK h=>cases e;exact .dK h
 | dT h=>cases e;exact .dT h
 | loc h=>cases e
 | err h=>cases e
 | ref a=>cases e
 | ins h q r=>cases e
def Kt {ta:TA}{r:PTA} (hr:SndA K mg E ta r):SndE K mg E (tCB (fun xs H Q=>∃x n t b,xs=[x,.ty n]/\TyOf K H x t/\PySem.W.kitOne K t (.type n)=some b/\Q (.bl b) H) ta) (pCB fIsi r):=by
 refine X7 hr fun H0 H H1 Z ss vs R Q s0 s1 hm tv h q=>?_;unfold fIsi at h;split at h
 ·obtain⟨v,u,rfl,t1,t2⟩:=tv.two_inv;have r1:=t1.rp s0;have r2:=t2.rp s0;split at h
  ·rename_i m n e1 e2;rw[e2] at r2;rw[r2.ty_inv];obtain⟨b,k,hR⟩:=h;exact⟨v,n,_,b,rfl,Zdf r1 e1,k.kit,q _ _ H1 hR (Same.refl _) (.bl _)⟩
  ·exact h.elim
 ·exact h.elim
def Ex:List S->(S->Prop)->Prop
 | [s,t],R=>(match s.d,t.d with | .int i,.int j=>(-(2 ^ 62)<=i/\i<2 ^ 62/\-(2 ^ 62)<=j/\j<2 ^ 62)/\(j-i).toNat<=1000000/\R (.own ((runI i (j-i).toNat).map D.int))|_,_=>False)
 | _,_=>False
abbrev Ij:List V->Hp->VK->Prop:=fun xs H Q=>∃(r:Addr) (i j:Int),xs=[.ref r]/\H r=some (.rng i j)/\(-(2 ^ 62)<=i/\i<2 ^ 62/\-(2 ^ 62)<=j/\j<2 ^ 62)/\(j-i).toNat<=1000000/\∀l,H l=none->Q (.ref l) (upd H l (.lst ((runI i (j-i).toNat).map V.int)))
def RW {ta:TA}{r:PTA} (hr:SndA K mg E ta r):SndE K mg E (tCB Ij (UO (tCB (fun xs H Q=>∃i j:Int,xs=[.int i,.int j]/\∀r,H r=none->Q (.ref r) (upd H r (.rng i j))) ta) tNil)) (pCB Ex r):=by
 intro H0 B H σ γ R X Q env p q qx;refine hr H0 B H σ γ _ X _ env p (fun ss vs H1 h1 S1 t1=>?_) qx;have s0:=(env.grow S1).same;unfold Ex at h1;split at h1
 ·obtain⟨v,u,rfl,t1',t2'⟩:=t1.two_inv;have r1:=t1'.rp s0;have r2:=t2'.rp s0;split at h1
  ·rename_i i j e1 e2;rw[e1] at r1;rw[e2] at r2;rw[r1.int_inv,r2.int_inv];refine⟨i,j,rfl,fun a na=>⟨a,i,j,rfl,Uo,h1.1,h1.2.1,fun l nl=>?_⟩⟩;have S2:=U9 (o:=.rng i j) na;exact q _ _ _ h1.2.2 ((S1.trans S2).trans (U9 nl)) (KG (S1.trans S2) nl (Rps.of_ints _))
  ·exact h1.elim
 ·exact h1.elim
def pBM (f:S->List S->(S->Prop)->Prop) (a:PTE) (r:PTA):PTE:=fun γ R X=>a γ (fun s=>(∃ds,s.d=.lst ds)/\r γ (fun ss=>f s ss R) X) X
def My {rr:V->List V->Hp->VK->Prop}{f:S->List S->(S->Prop)->Prop}{te:TE}{ta:TA}{a:PTE}{r:PTA} (ha:SndE K mg E te a) (hr:SndA K mg E ta r)
  (h:∀(H0 H H1:Hp) (Z:Addr->Prop) (s:S) (v:V) (ss:List S) (vs:List V) (R:S->Prop) (Q:VK),Same H0 H1->Same H H1->(∀b,Z b->Mut (H b))->TV K Z H0 H H1 s v->TVs K Z H0 H H1 ss vs->f s ss R->(∀s z H',R s->Same H1 H'->TV K Z H0 H H' s z->Q z H')->rr v vs H1 Q) :
  SndE K mg E (tBM K "list" rr te ta) (pBM f a r):=by
 intro H0 B H σ γ R X Q env p q qx;refine ha H0 B H σ γ _ X _ env p (fun s v H1 h1 S1 t1=>?_) qx;have env1:=env.grow S1;obtain⟨⟨ds,ed⟩,h1⟩:=h1;have rv:=t1.rp env1.same;rw[ed] at rv;obtain⟨l,us,rfl,hl,_⟩:=rv.lst_inv;refine⟨.inl ⟨rfl,us,SqL.of hl⟩,hr H0 B H1 σ γ _ X _ env1 h1 (fun ss vs H2 h2 S2 t2=>?_) fun c H' hc S'=>qx c H' hc (S1.trans S')⟩;exact h H0 H H2 _ s _ ss vs R Q (env1.grow S2).same (S1.trans S2) env.zm (t1.grow S2) (TVs.weakG S1 t2) h2 fun s z H' hs S3 tv=>q s z H' hs ((S1.trans S2).trans S3) tv
def Co:S->List S->(S->Prop)->Prop:=fun s ss R=>match ss with
 | [t]=>(match t.d with | .int z=>∃xs:List Int,s.d=.lst (xs.map D.int)/\z∈xs/\R (.sh (.int (xs.idxOf z:Nat)))|_=>False)
 | _=>False
def Zax {te:TE}{ta:TA}{a:PTE}{r:PTA} (ha:SndE K mg E te a) (hr:SndA K mg E ta r):SndE K mg E (tBM K "list" (FD K) te ta) (pBM Co a r):=by
 refine My ha hr fun H0 H H1 Z s v ss vs R Q s0 s1 hm t1 t2 h q=>?_;unfold Co at h;split at h
 ·obtain⟨u,rfl,t2'⟩:=t2.one_inv;have r2:=t2'.rp s0;split at h
  ·rename_i z e;rw[e] at r2;obtain⟨xs,ex,hz,hR⟩:=h;have r1:=t1.rp s0;rw[ex] at r1;obtain⟨l,us,rfl,hl,r1⟩:=r1.lst_inv;rw[r1.ints] at hl;exact⟨l,xs,z,rfl,by rw[r2.int_inv],SqL.of hl,hz,q _ _ H1 hR (Same.refl _) (.int _)⟩
  ·exact h.elim
 ·exact h.elim
def prD (p:Int×Int):D:=.tup [.int p.1,.int p.2]
inductive InR:D->D->Bool->Prop
 | li (i:Int) (hs:List Int):InR (.int i) (.lst (hs.map D.int)) (decide (i∈hs))
 | ti (i:Int) (hs:List Int):InR (.int i) (.tup (hs.map D.int)) (decide (i∈hs))
 | lp (q:Int×Int) (ps:List (Int×Int)):InR (prD q) (.lst (ps.map prD)) (decide (q∈ps))
def fIn (neg:Bool):S->S->(S->Prop)->Prop:=fun x y R=>∃b,InR x.d y.d b/\R (.sh (.bl (if neg then !b else b)))
def Rp.pair {q:Int×Int}{v:V} (h:Rp K H (prD q) v):Xu H v q:=by
 obtain⟨a,vs,rfl,h1,r⟩:=Rp.tup_inv h;obtain⟨x,y,rfl,r1,r2⟩:=r.two_inv;rw[r1.int_inv,r2.int_inv] at h1;exact⟨a,rfl,h1⟩
def Rps.lv {K:Za}{H:Hp}{ps:List (Int×Int)}{vs:List V} (h:Rps K H (ps.map prD) vs):LV Xu H vs ps:=by
 refine⟨by rw[h.len,Yn],fun i p hp=>?_⟩;obtain⟨v,h1,h2⟩:=h.get (i:=i) (d:=prD p) (by rw[Y0,hp];rfl);exact⟨v,h1,h2.pair⟩
def X1 {neg:Bool}{ta tb:TE}{a b:PTE} (ha:SndE K mg E ta a) (hb:SndE K mg E tb b):SndE K mg E (tOp (fun x y H Q=>rIn K neg x y H Q\/rInP neg x y H Q) ta tb) (p2 a b (fIn neg)):=by
 refine se_2 ha hb fun H0 H H2 Z x y v u R Q s0 s1 hm tx ty h q=>?_;obtain⟨k,hk,hR⟩:=h;have rx:=tx.rp s0;have ry:=ty.rp s0;generalize ex:x.d=dx at hk rx;generalize ey:y.d=dy at hk ry;cases hk with
 | li i hs=>
  obtain⟨l,us,rfl,hl,r⟩:=ry.lst_inv;rw[r.ints] at hl;rw[rx.int_inv];refine .inl ⟨l,_,rfl,.inl (SqL.of hl),rfl,KJ _,?_⟩;rw[AA];exact q _ _ H2 hR (Same.refl _) (.bl _)
 | ti i hs=>
  obtain⟨l,us,rfl,hl,r⟩:=ry.tup_inv;rw[r.ints] at hl;rw[rx.int_inv];refine .inl ⟨l,_,rfl,.inr (SqT.of hl),rfl,KJ _,?_⟩;rw[AA];exact q _ _ H2 hR (Same.refl _) (.bl _)
 | lp p ps=>
  obtain⟨l,us,rfl,hl,r⟩:=ry.lst_inv;exact .inr ⟨l,ps,p,rfl,rx.pair,⟨us,hl,r.lv⟩,q _ _ H2 hR (Same.refl _) (.bl _)⟩
def fEqU (neg:Bool):S->S->(S->Prop)->Prop:=fun x y R=>match x.d,y.d with
 | .lst ds,.lst es=>∃xs ys:List Int,ds=xs.map D.int/\es=ys.map D.int/\R (.sh (.bl (if neg then !decide (xs=ys) else decide (xs=ys))))
 | _,_=>fEq neg x y R
def Uj {ta tb:TE}{a b:PTE} (ha:SndE K mg E ta a) (hb:SndE K mg E tb b):SndE K mg E (tOp (fun x y H Q=>rEq x y H Q\/rEqL K false x y H Q) ta tb) (p2 a b (fEqU false)):=by
 refine se_2 ha hb fun H0 H H2 Z x y v u R Q s0 s1 hm tx ty h q=>?_;have rx:=tx.rp s0;have ry:=ty.rp s0;unfold fEqU at h;split at h
 ·rename_i ds es e1 e2;obtain⟨xs,ys,rfl,rfl,hR⟩:=h;rw[e1] at rx;rw[e2] at ry;obtain⟨l,us,rfl,hl,r⟩:=rx.lst_inv;obtain⟨m,ws,rfl,hm,r'⟩:=ry.lst_inv;rw[r.ints] at hl;rw[r'.ints] at hm;refine .inr ⟨l,m,_,_,rfl,rfl,SqL.of hl,SqL.of hm,KJ _,KJ _,?_⟩;rw[Fv];exact q _ _ H2 hR (Same.refl _) (.bl _)
 ·refine .inl ?_;unfold fEq at h;split at h
  ·rename_i i j e1 e2;rw[e1] at rx;rw[e2] at ry;rw[rx.int_inv,ry.int_inv];refine⟨rfl,?_⟩;rw[P1 (f:=V.int) fun _ _ z=>V.int.inj z];exact q _ _ H2 h (Same.refl _) (.bl _)
  ·rename_i i j e1 e2;rw[e1] at rx;rw[e2] at ry;rw[rx.str_inv,ry.str_inv];refine⟨rfl,?_⟩;rw[P1 (f:=V.str) fun _ _ z=>V.str.inj z];exact q _ _ H2 h (Same.refl _) (.bl _)
  ·rename_i i j e1 e2;rw[e1] at rx;rw[e2] at ry;rw[rx.bl_inv,ry.bl_inv];refine⟨rfl,?_⟩;rw[P1 (f:=V.bl) fun _ _ z=>V.bl.inj z];exact q _ _ H2 h (Same.refl _) (.bl _)
  ·exact h.elim
def X5 {ta tb:TE}{a b:PTE} (ha:SndE K mg E ta a) (hb:SndE K mg E tb b):SndE K mg E (tOp (fun x y H Q=>rNe x y H Q\/rEqL K true x y H Q) ta tb) (p2 a b (fEqU true)):=by
 refine se_2 ha hb fun H0 H H2 Z x y v u R Q s0 s1 hm tx ty h q=>?_;have rx:=tx.rp s0;have ry:=ty.rp s0;unfold fEqU at h;split at h
 ·rename_i ds es e1 e2;obtain⟨xs,ys,rfl,rfl,hR⟩:=h;rw[e1] at rx;rw[e2] at ry;obtain⟨l,us,rfl,hl,r⟩:=rx.lst_inv;obtain⟨m,ws,rfl,hm,r'⟩:=ry.lst_inv;rw[r.ints] at hl;rw[r'.ints] at hm;refine .inr ⟨l,m,_,_,rfl,rfl,SqL.of hl,SqL.of hm,KJ _,KJ _,?_⟩;rw[Fv];exact q _ _ H2 hR (Same.refl _) (.bl _)
 ·refine .inl ?_;unfold fEq at h;split at h
  ·rename_i i j e1 e2;rw[e1] at rx;rw[e2] at ry;rw[rx.int_inv,ry.int_inv];refine⟨rfl,?_⟩;rw[P1 (f:=V.int) fun _ _ z=>V.int.inj z];exact q _ _ H2 h (Same.refl _) (.bl _)
  ·rename_i i j e1 e2;rw[e1] at rx;rw[e2] at ry;rw[rx.str_inv,ry.str_inv];refine⟨rfl,?_⟩;rw[P1 (f:=V.str) fun _ _ z=>V.str.inj z];exact q _ _ H2 h (Same.refl _) (.bl _)
  ·rename_i i j e1 e2;rw[e1] at rx;rw[e2] at ry;rw[rx.bl_inv,ry.bl_inv];refine⟨rfl,?_⟩;rw[P1 (f:=V.bl) fun _ _ z=>V.bl.inj z];exact q _ _ H2 h (Same.refl _) (.bl _)
  ·exact h.elim
abbrev tTru (K:Za) (ta:TE):TT:=fun σ H Q=>ta σ H fun x H'=>∃k,TruV K x H' k/\Q k H'
def pTru (a:PTE):PTT:=fun γ R X=>a γ (fun x=>match x.d with
 | .bl b=>R b | .lst ds=>R (!ds.isEmpty) | .tup ds=>R (!ds.isEmpty) | .int i=>R (i != 0) | .non=>R false|_=>False) X
def B3 {α β:Type}{l:List α}{m:List β} (h:l.length=m.length):l.isEmpty=m.isEmpty:=by
 cases l<;>cases m<;>simp at h ⊢
def U0 {te:TE}{a:PTE} (ha:SndE K mg E te a):SndT K mg E (tTru K te) (pTru a):=by
 intro H0 B H σ γ R X Q env p q qx;refine ha H0 B H σ γ _ X _ env p (fun x v H1 h1 S1 t1=>?_) qx;have rx:=t1.rp (env.grow S1).same;split at h1
 ·rename_i b e;rw[e] at rx;rw[rx.bl_inv];exact⟨b,rfl,q _ H1 h1 S1⟩
 ·rename_i ds e;rw[e] at rx;obtain⟨l,us,rfl,hl,r⟩:=rx.lst_inv;exact⟨!us.isEmpty,.inl ⟨us,SqL.of hl,rfl⟩,by rw[B3 r.len];exact q _ H1 h1 S1⟩
 ·rename_i ds e;rw[e] at rx;obtain⟨l,us,rfl,hl,r⟩:=rx.tup_inv;exact⟨!us.isEmpty,.inr (.inl ⟨us,SqT.of hl,rfl⟩),by rw[B3 r.len];exact q _ H1 h1 S1⟩
 ·rename_i i e;rw[e] at rx;rw[rx.int_inv];exact⟨_,rfl,q _ H1 h1 S1⟩
 ·rename_i e;rw[e] at rx;rw[rx.non_inv];exact⟨_,rfl,q _ H1 h1 S1⟩
 ·exact h1.elim
def cutD {α:Type} (xs:List α) (lo hi:Option Int):List α:=(xs.drop (HT.sIx xs.length 0 lo)).take (HT.sIx xs.length xs.length hi-HT.sIx xs.length 0 lo)
def Zb8:PTO:=fun _ R _=>R none
def HJ (a:PTE):PTO:=fun γ R X=>a γ (fun s=>match s.d with | .int i=>R (some i)|_=>False) X
def Xt:SndO K mg E CP Zb8:=fun _ _ H _ _ _ _ _ _ p q _=>q _ H p (Same.refl _)
def Xf {te:TE}{a:PTE} (ha:SndE K mg E te a):SndO K mg E (Ho te) (HJ a):=by
 intro H0 B H σ γ R X Q env p q qx;refine ha H0 B H σ γ _ X _ env p (fun x v H1 h1 S1 t1=>?_) qx;have rx:=t1.rp (env.grow S1).same;split at h1
 ·rename_i i e;rw[e] at rx;exact⟨i,rx.int_inv,q _ H1 h1 S1⟩
 ·exact h1.elim
def pSl (a:PTE) (l u:PTO):PTE:=fun γ R X=>a γ (fun s=>l γ (fun lo=>u γ (fun hi=>match s.d with | .lst ds=>s.free ds=true/\R (.own (cutD ds lo hi))|_=>False) X) X) X
def Rps.cut {ds:List D}{vs:List V}{lo hi:Option Int} (r:Rps K H ds vs):Rps K H (cutD ds lo hi) (cutV vs lo hi):=by
 unfold cutD cutV;rw[r.len];exact Rps.take _ (Rps.drop _ r)
def X6 {te:TE}{tl th:TO}{a:PTE}{l u:PTO} (ha:SndE K mg E te a) (hl:SndO K mg E tl l) (hu:SndO K mg E th u):SndE K mg E (tSl (rSlL K) te tl th) (pSl a l u):=by
 intro H0 B H σ γ R X Q env p q qx;refine ha H0 B H σ γ _ X _ env p (fun x v H1 h1 S1 t1=>?_) qx;refine hl H0 B H1 σ γ _ X _ (env.grow S1) h1 (fun lo H2 h2 S2=>?_) fun c H' hc S'=>qx c H' hc (S1.trans S');refine hu H0 B H2 σ γ _ X _ ((env.grow S1).grow S2) h2 (fun hi H3 h3 S3=>?_) fun c H' hc S'=>qx c H' hc ((S1.trans S2).trans S');have S13:=(S1.trans S2).trans S3;split at h3
 ·rename_i ds e;obtain⟨b,us,rfl,hb,r⟩:=((t1.grow (S2.trans S3)).items (env.grow S13).same env.zm S13 h3.1).1 e;exact⟨b,us,rfl,SqL.of hb,fun m nm=>q _ _ _ h3.2 (S13.trans (U9 nm)) (KG S13 nm r.cut)⟩
 ·exact h3.elim
def fCat:S->S->(S->Prop)->Prop:=fun x y R=>match x.d,y.d with
 | .lst ds,.lst es=>x.free ds=true/\y.free es=true/\ds.length+es.length<=100000/\R (.own (ds++es))
 | _,_=>False
def Xl {ta tb:TE}{a b:PTE} (ha:SndE K mg E ta a) (hb:SndE K mg E tb b):SndE K mg E (tOp rCat ta tb) (p2 a b fCat):=by
 refine se_2 ha hb fun H0 H H2 Z x y v u R Q s0 s1 hm tx ty h q=>?_;unfold fCat at h;split at h
 ·rename_i ds es e1 e2;obtain⟨l,us,rfl,hl,r⟩:=(tx.items s0 hm s1 h.1).1 e1;obtain⟨m,ws,rfl,hm',r'⟩:=(ty.items s0 hm s1 h.2.1).1 e2;have hz:us.length+ws.length<=sizeLine:=by rw[r.len,r'.len];exact Y8 h.2.2.1 (by decide)
  exact⟨l,m,us,ws,rfl,rfl,hl,hm',hz,fun p np=>q _ _ _ h.2.2.2 (U9 np) (KG s1 np (r.append r'))⟩
 ·exact h.elim
def Ay (i:Nat) (a:PTE):PTS:=fun R γ=>match γ[i]? with
 | some (some (.own (.lst ds)))=>a γ (fun s=>match s.shd with
  | some d=>ds.length<10000000/\R.nx (γ.set i (some (.own (ds++[d]))))
  | none=>False) (R.ex γ)
 | some (some (.own (.lsA x ds)))=>a γ (fun s=>match s.shd with
  | some d=>ds.length<10000000/\R.nx (γ.set i (some (.own (.lsA x (ds++[d])))))
  | none=>False) (R.ex γ)
 | _=>False
def PH (i:Nat) {te:TE}{a:PTE} (ha:SndE K mg E te a):SndS K mg E (Sk (tBM K "list" FP (tVar i) (UO te tNil))) (Ay i a):=by
 intro H0 B H σ γ R D hB env h e;unfold Ay at h;split at h
 ·rename_i ds hi;obtain⟨v,hv,b,rfl,hb0,us,hb,rb⟩:=env.slot i _ hi;refine⟨_,hv,.inl ⟨rfl,us,SqL.of hb⟩,ha H0 B H σ γ _ _ _ env h (fun s u H1 h1 S1 t1=>?_) fun c H' hc S'=>e.ex σ γ c H' hc (env.grow S') (Fr.grow S')⟩;have env1:=env.grow S1;split at h1
  ·rename_i d e2;have rd:=t1.shd env1.same env.zm S1 e2;refine⟨b,us,u,rfl,rfl,S1 _ _ hb,by rw[rb.len];exact Qt h1.1 (by decide),?_⟩;obtain⟨e2,f2⟩:=env1.mutate (es:=.lst (ds++[d])) (us:=.lst (us++[u])) hi hv trivial fun F H' SF hF=>⟨_,hF,Rps.mono SF (Rps.append (Rps.mono (JS S1 fun _ _ _ z=>z) rb) (.cons rd .nil))⟩;exact e.nx _ _ _ h1.2 e2 ((Fr.grow S1).trans f2)
  ·exact h1.elim
 ·rename_i x ds hi;obtain⟨v,hv,b,rfl,hb0,rfl,us,hb,rb⟩:=env.slot i _ hi;refine⟨_,hv,.inl ⟨rfl,us,SqL.of hb⟩,ha H0 B H σ γ _ _ _ env h (fun s u H1 h1 S1 t1=>?_) fun c H' hc S'=>e.ex σ γ c H' hc (env.grow S') (Fr.grow S')⟩;have env1:=env.grow S1;split at h1
  ·rename_i d e2;have rd:=t1.shd env1.same env.zm S1 e2;refine⟨b,us,u,rfl,rfl,S1 _ _ hb,by rw[rb.len];exact Qt h1.1 (by decide),?_⟩;obtain⟨e2,f2⟩:=env1.mutate (es:=.lsA b (ds++[d])) (us:=.lst (us++[u])) hi hv trivial fun F H' SF hF=>⟨rfl,_,hF,Rps.mono SF (Rps.append (Rps.mono (JS S1 fun _ _ _ z=>z) rb) (.cons rd .nil))⟩;exact e.nx _ _ _ h1.2 e2 ((Fr.grow S1).trans f2)
  ·exact h1.elim
 ·exact h.elim
end
section
variable {X:Cx}{K:Za}
def Kh (hu:X.A.in1.units<cLine) (hK:X.K=K:=by rfl):OpR X (compareOp .In) (fun x y H Q=>rIn K false x y H Q\/rInP false x y H Q):=(Zaj hK).or (Zbj hu)
def Fu (hu:X.A.in1.units<cLine) (hK:X.K=K:=by rfl):OpR X (compareOp .NotIn) (fun x y H Q=>rIn K true x y H Q\/rInP true x y H Q):=(RF hK).or (Zdy hu)
def TC (hu:X.A.units<cLine) (hK:X.K=K:=by rfl):OpR X (compareOp .Eq) (fun x y H Q=>rEq x y H Q\/rEqL K false x y H Q):=by subst hK;exact op_eq.or (GR hu)
def Zfo (hu:X.A.units<cLine) (hK:X.K=K:=by rfl):OpR X (compareOp .NotEq) (fun x y H Q=>rNe x y H Q\/rEqL K true x y H Q):=by subst hK;exact op_ne.or (Zcx hu)
def Uk {e:Expr}{te:TE} (ha:PE X e te) (hK:X.K=K:=by rfl) (he:∀whole,isTrue e X.env whole=(do let v ←whole;standAt e.pos;holding [v] (truthy v)):=by intro _;rfl):PT X e (tTru K te):=by
 subst hK;exact Zb4 ha he
def P5 (hK:X.K=K:=by rfl):UB X (.type "list") (fun xs H Q=>∃p ys,xs=[.ref p]/\(SqL K H p ys\/SqT K H p ys)/\∀l,H l=none->Q (.ref l) (upd H l (.lst ys))):=by subst hK;exact Iy
def Do (hK:X.K=K:=by rfl):UB X (.type "tuple") (fun xs H Q=>∃p ys,xs=[.ref p]/\((SqL K H p ys/\∀l,H l=none->Q (.ref l) (upd H l (.tup ys)))\/(SqT K H p ys/\Q (.ref p) H))):=by subst hK;exact Zce
def Kp (hK:X.K=K:=by rfl):UB X (.builtin "isinstance") (fun xs H Q=>∃x n t b,xs=[x,.ty n]/\TyOf K H x t/\PySem.W.kitOne K t (.type n)=some b/\Q (.bl b) H):=by subst hK;exact Ly
def Xp (hK:X.K=K:=by rfl):SlR X (rSlL K):=by subst hK;exact Zen
def Ss (hc:X.calm=true) {w:World} (hK:X.K=K:=by rfl) (hw:X.w=w:=by rfl):UB X (.builtin "sorted") (fun xs H Q=>∃(p:Addr) (js:List Int),xs=[.ref p]/\js.length<64/\(SqL K H p (js.map V.int)\/H p=some (SetH w p js))/\
  ∀(l:Addr) (ns:List Int),H l=none->ns.Perm js->ns.Pairwise (·<=·)->Q (.ref l) (upd H l (.lst (ns.map V.int)))):=by subst hK;subst hw;exact Du hc
def Uy {tg l:Expr}{tl:TE} (hl:PE X l tl) (hK:X.K=K:=by rfl):PI X tg l (Nk K tl):=by subst hK;exact Dj hl
end
section
variable {P:Program}{w:World}{K:Za}{mg:Str->Option Value}{base:Heap}{H H':Hp}
def MO {CX:CXT}{k:Nat}{x:Str}{ps:List Str}{sp:Sp}{c:Pc} (C:Callee P w K mg base CX k x ps sp)
  (h:∀ds R X vs H (Q:VK) (E:XK),Rps K H ds vs->c ds R X->(∀s v H',R s->Same H H'->TV K (fun b=>Mut (H b)) H H H' s v->Q v H')->(∀e H',X e->Same H H'->E (.ref (ExcR.JB mg e)) none H')->sp vs H Q E) :
  Callee P w K mg base CX k x ps (spOf mg c K):=by
 obtain⟨f,fd,F,rest⟩:=C.ex;exact⟨f,fd,F.imp fun vs H Q E ⟨ds,R,X,r,hc,hQ,hX⟩=>h ds R X vs H Q E r hc hQ hX,rest⟩
def Rp.scr_inv {ns:List Int}{v:V} (h:Rp K H (.scr ns) v):∃a,v=.ref a/\SqL K H a (ns.map V.int):=by
 cases h with
 | scr h=>exact⟨_,rfl,h⟩
def Rp.ints_inv {ns:List Int}{v:V} (h:Rp K H (.lst (ns.map D.int)) v):∃a,v=.ref a/\H a=some (.lst (ns.map V.int)):=by
 obtain⟨a,vs,rfl,h1,r⟩:=h.lst_inv;rw[r.ints] at h1;exact⟨a,rfl,h1⟩
def Rp.pairs_inv {ps:List (Int×Int)}{v:V} (h:Rp K H (.lst (ps.map prD)) v):∃a,v=.ref a/\LAt Xu H a ps:=by
 obtain⟨a,vs,rfl,h1,r⟩:=h.lst_inv;exact⟨a,rfl,vs,h1,r.lv⟩
def Zcr {a:Addr}{ns:List Int} (n:H a=none) (h:H' a=some (.lst (ns.map V.int))):TV K (fun b=>Mut (H b)) H H H' (.own (ns.map D.int)) (.ref a):=⟨a,rfl,(fun _ e=>e▸n),_,h,Rps.of_ints ns⟩
def Tr:∀(ns:List Int),imms (ns.map D.int)=true
 | []=>by unfold List.map imms;rfl
 | n::r=>by rw[YA];unfold imms;rw[Tr r];unfold imm;rfl
def RL (p:Int×Int):imm (prD p)=true:=by unfold prD imm imms imm imms imm imms;rfl
def XY:∀(ps:List (Int×Int)),imms (ps.map prD)=true
 | []=>by unfold List.map imms;rfl
 | p::r=>by rw[YA];unfold imms;rw[XY r,RL];rfl
def Dl {α:Type}{f:α->D}{xs:List α}{i:Nat} (h:i<xs.length):(xs.map f).getD i .non=f xs[i]:=by
 rw[Y1,Y0,Yp h];rfl
def KY {α:Type}{f:α->D}{xs:List α}{i:Int} (h0:0<=i) (h:i<(xs.length:Int)):atI (xs.map f) i=some (f (xs[i.toNat]'(by omega))):=by
 have h':i.toNat<xs.length:=by omega
 exact Kw (Na h0 (Yp h'))
def Bc {α:Type}{f:α->D}{xs:List α}{i:Nat} (h:i<xs.length):atI (xs.map f) (i:Int)=some (f xs[i]):=Kw (Tx (Yp h))
def UR {α:Type}{φ:List (Option Nat)}{γ:Γ}{g:PTG}{c:PTT}{e:PTE}{s:S}{R:S->Prop}{xs:List α}{emb:α->D} (f:α->Option D) (hz:xs.length<=100000)
  (turn:∀x∈xs,g (s.sub (emb x)) (atP φ γ) fun γ2=>c γ2 (fun b=>if b=true then e γ2 (fun s=>∃d,s.shd=some d/\f x=some d) (fun _=>False) else f x=none) fun _=>False)
  (done:R (.own (xs.filterMap f))) :
  CompW φ γ g c e (xs.map emb).length (fun i=>s.sub ((xs.map emb).getD i .non)) R:=by
 rw[Yn];refine⟨⟨hz,fun i=>(xs[i]?).bind f,fun i hi=>?_,by rw[Zbd];exact done⟩⟩;have e1:(xs[i]?).bind f=f xs[i]:=by rw[Yp hi];rfl
 have t:=turn xs[i] (YH hi);rw[←e1] at t;rw[←Dl (f:=emb) hi] at t;exact t
def EX {φ:List (Option Nat)}{γ:Γ}{g:PTG}{c:PTT}{e:PTE}{item:Nat->S}{R:S->Prop}{n:Nat} (f:Nat->Option D) (hz:n<=100000)
  (turn:∀i,i<n->g (item i) (atP φ γ) fun γ2=>c γ2 (fun b=>if b=true then e γ2 (fun s=>∃d,s.shd=some d/\f i=some d) (fun _=>False) else f i=none) fun _=>False)
  (done:R (.own ((List.range n).filterMap f))) :
  CompW φ γ g c e n item R:=⟨⟨hz,f,turn,done⟩⟩
def XE {α:Type}{js:List Nat}{γ:Γ}{g:PTG}{body:PTS}{s:S}{R:PEnds}{xs:List α}{emb:α->D} (inv:Nat->Γ->Prop) (h0:inv 0 (clr js γ))
  (turn:∀(i:Nat) (hi:i<xs.length) γ',inv i γ'->g (s.sub (emb xs[i])) γ' fun γ2=>body { R with nx:=fun γ3=>inv (i+1) (clr js γ3),ct:=fun γ3=>inv (i+1) (clr js γ3),bk:=R.nx } γ2)
  (done:∀γ',inv xs.length γ'->R.nx γ') :
  ForW js γ g body R (xs.map emb).length (fun i=>s.sub ((xs.map emb).getD i .non)):=by
 refine⟨⟨inv,h0,fun i γ' hi h=>?_,fun γ' h=>?_⟩⟩
 ·rw[Yn] at hi;have t:=turn i hi γ' h;rw[←Dl (f:=emb) hi] at t;exact t
 ·rw[Yn] at h;exact done γ' h
def XZ {js:List Nat}{γ:Γ}{g:PTG}{body:PTS}{R:PEnds}{n:Nat}{item:Nat->S} (inv:Nat->Γ->Prop) (h0:inv 0 (clr js γ))
  (turn:∀(i:Nat) γ',i<n->inv i γ'->g (item i) γ' fun γ2=>body { R with nx:=fun γ3=>inv (i+1) (clr js γ3),ct:=fun γ3=>inv (i+1) (clr js γ3),bk:=R.nx } γ2)
  (done:∀γ',inv n γ'->R.nx γ'):ForW js γ g body R n item:=⟨⟨inv,h0,turn,done⟩⟩
def Sm {js:List Nat}{γ:Γ}{c:PTT}{body:PTS}{R:PEnds} (inv:Γ->Prop) (μ:Γ->Nat) (h0:inv (clr js γ))
  (turn:∀γ',inv γ'->c γ' (fun b=>if b=true then body { R with nx:=fun γ3=>inv (clr js γ3)/\μ (clr js γ3)<μ γ',ct:=fun γ3=>inv (clr js γ3)/\μ (clr js γ3)<μ γ',bk:=R.nx } γ' else R.nx γ') (R.ex γ')):WhileW js γ c body R:=⟨⟨inv,μ,h0,turn⟩⟩
def Ky {p q:PTS}{R:PEnds}{γ:Γ} (J:Γ->Prop) (h1:p { R with nx:=J } γ) (h2:∀γ',J γ'->q R γ'):JoinW p q R γ:=⟨⟨J,h1,h2⟩⟩
def XC {α:Type} (c:α->Bool) (emb:α->D):∀ws:List α,ws.filterMap (fun q=>if c q=true then some (emb q) else none)=(ws.filter c).map emb
 | []=>rfl
 | q::r=>by
  by_cases h:c q=true
  ·rw[List.filterMap_cons_some (b:=emb q) (by rw[Ys h]),List.filter_cons_of_pos h,YA,XC c emb r]
  ·rw[List.filterMap_cons_none (by rw[Yq h]),List.filter_cons_of_neg h,XC c emb r]
def mapD {α:Type} (emb:α->D) (ws:List α):ws.filterMap (fun q=>some (emb q))=ws.map emb:=by rw[Qp]
def KL {α:Type} (f:α->D) (xs:List α) (lo hi:Option Int):cutD (xs.map f) lo hi=(cutD xs lo hi).map f:=by
 unfold cutD;rw[Yn,List.map_take,List.map_drop]
def Bu {α:Type} (xs:List α) {n:Int} (h:0<=n):cutD xs none (some n)=xs.take n.toNat:=by
 unfold cutD;have e:n=(n.toNat:Int):=by omega
 rw[HT.DE,e,HT.NH,List.drop_zero];rw[Nat.sub_zero,Wb];by_cases c:n.toNat<=xs.length
 ·rw[Nat.min_eq_left c]
 ·rw[Nat.min_eq_right (by omega),Qo (Yx _),Qo (by omega)]
def T1 {α:Type} (xs:List α) {n:Int} (h:0<=n):cutD xs (some n) none=xs.drop n.toNat:=by
 unfold cutD;have e:n=(n.toNat:Int):=by omega
 rw[HT.DE,e,HT.NH,Wb];by_cases c:n.toNat<=xs.length
 ·rw[Nat.min_eq_left c,Qo (by rw[QL];omega)]
 ·rw[Nat.min_eq_right (by omega),List.drop_of_length_le (Yx _),List.drop_of_length_le (by omega)];simp
def BS (K:Za):Sp:=fun vs H Q _=>∃(a:Addr) (ns:List Int),vs=[.ref a]/\SqL K H a (ns.map V.int)/\∀H',Q (.bl true) H'
def Dg:Pc:=fun ds R _=>∃ns:List Int,ds=[.scr ns]/\R (.sh (.bl true))
def Za8 {vs:List V}{Q:VK}{Ec:XK} (h:BS K vs H Q Ec):spOf mg Dg K vs H Q Ec:=by
 obtain⟨a,ns,rfl,hS,q⟩:=h;refine⟨[.scr ns],fun s=>s=.sh (.bl true),fun _=>False,.cons (.scr hS) .nil,⟨ns,rfl,rfl⟩,fun s v H' e S1 tv=>?_,fun _ _ z=>z.elim⟩;subst e;cases tv
 exact q H'
end
section
variable {K:Za}{mg:Str->Option Value}{E:L2.St->XK}{H0 H H1 H':Hp}{B Z Z':Addr->Prop}{σ:L2.St}{γ:Γ}
def TN:D->Option V
 | .int i=>some (.int i) | .bl b=>some (.bl b) | .non=>some .non | .str x=>some (.str x)|_=>none
def vD:V->D
 | .int i=>.int i | .bl b=>.bl b | .str x=>.str x|_=>.non
def NM:V->Bool
 | .int _=>true | .bl _=>true | .str _=>true | .non=>true|_=>false
def Fb {v:V} (h:NM v=true):Rp K H (vD v) v:=by
 cases v with
 | int i=>exact .int i
 | bl b=>exact .bl b
 | str x=>exact .str x
 | non=>exact .non
 | _=>cases h
def NI {d:D}{v u:V} (h:Rp K H d v) (e:TN d=some u):v=u:=by
 cases h with
 | int i=>cases e;rfl
 | bl b=>cases e;rfl
 | non=>cases e;rfl
 | str x=>cases e;rfl
 | _=>cases e
def keyD:D->Option Key
 | .int i=>some (.inl i) | .str x=>some (.inr x)|_=>none
def PZ:List D->Option (List Key)
 | []=>some []
 | d::r=>match keyD d,PZ r with
  | some k,some ks=>some (k::ks)
  | _,_=>none
def P6:D->Option (List Key)
 | .tup ds=>PZ ds
 | _=>none
def Nv {d:D}{v:V}{k:Key} (h:Rp K H d v) (e:keyD d=some k):v=kV k:=by
 cases h with
 | int i=>cases e;rfl
 | str x=>cases e;rfl
 | _=>cases e
def Gu:∀{ds:List D}{vs:List V}{ks:List Key},Rps K H ds vs->PZ ds=some ks->vs=ks.map kV
 | [],_,_,.nil,e=>by cases e;rfl
 | d::r,_,ks,.cons h t,e=>by
  unfold PZ at e;split at e
  ·rename_i k js e1 e2;cases e
   rw[Nv h e1,Gu t e2];rfl
  ·cases e
def Ny {d:D}{v:V}{ks:List Key} (h:Rp K H d v) (e:P6 d=some ks):∃b,v=.ref b/\H b=some (.tup (ks.map kV)):=by
 cases h with
 | tup h r=>
  rw[Gu r e] at h;exact⟨_,rfl,h⟩
 | _=>cases e
def Rp.dK_inv {kvs:List (Key×V)}{v:V} (h:Rp K H (.dK kvs) v):∃a,v=.ref a/\H a=some (.dK kvs):=by
 cases h with
 | dK h=>exact⟨_,rfl,h⟩
def Rp.dT_inv {kvs:List (List Key×V)}{v:V} (h:Rp K H (.dT kvs) v):∃a,v=.ref a/\H a=some (.dT kvs):=by
 cases h with
 | dT h=>exact⟨_,rfl,h⟩
def Za2:PTE:=fun _ R _=>R (.own (.dK []))
def HU:PTE:=fun _ R _=>R (.own (.dT []))
def IV:SndE K mg E CS Za2:=by
 intro H0 B H σ γ R X Q env p q _;intro l nl;exact q _ _ _ p (U9 nl) ⟨l,rfl,(fun _ e=>e▸nl),Uo⟩
def Zba:SndE K mg E Er HU:=by
 intro H0 B H σ γ R X Q env p q _;intro l nl;exact q _ _ _ p (U9 nl) ⟨l,rfl,(fun _ e=>e▸nl),Uo⟩
def A0:S->S->(S->Prop)->Prop:=fun x y R=>match x.d with
 | .dK kvs=>∃k v,keyD y.d=some k/\valV kvs k=some v/\NM v=true/\R (.sh (vD v))
 | .dT kvs=>∃k v,P6 y.d=some k/\valV kvs k=some v/\NM v=true/\R (.sh (vD v))
 | _=>False
def Nh {td ty:TE}{a b:PTE} (ha:SndE K mg E td a) (hb:SndE K mg E ty b):SndE K mg E (DS td ty) (p2 a b A0):=by
 show SndE K mg E (tOp (fun x y H Q=>∃a v,x=.ref a/\DGet H a y (some v)/\Q v H) td ty) _;refine se_2 ha hb fun H0 H H2 Z x y v u R Q s0 s1 hm tx ty h q=>?_;have rx:=tx.rp s0;have ry:=ty.rp s0;unfold A0 at h;split at h
 ·rename_i kvs e;rw[e] at rx;obtain⟨l,rfl,hl⟩:=rx.dK_inv;obtain⟨k,w,h1,h2,h3,h4⟩:=h;refine⟨l,w,rfl,?_,q _ _ H2 h4 (Same.refl _) (Fb h3)⟩;rw[Nv ry h1,←h2];exact DGet.k hl
 ·rename_i kvs e;rw[e] at rx;obtain⟨l,rfl,hl⟩:=rx.dT_inv;obtain⟨k,w,h1,h2,h3,h4⟩:=h;obtain⟨b,rfl,hb⟩:=Ny ry h1;refine⟨l,w,rfl,?_,q _ _ H2 h4 (Same.refl _) (Fb h3)⟩;rw[←h2];exact DGet.t hl hb
 ·exact h.elim
def fDIn (neg:Bool):S->S->(S->Prop)->Prop:=fun y x R=>match x.d with
 | .dK kvs=>∃k,keyD y.d=some k/\R (.sh (.bl (if neg then !(valV kvs k).isSome else(valV kvs k).isSome)))
 | .dT kvs=>∃k,P6 y.d=some k/\R (.sh (.bl (if neg then !(valV kvs k).isSome else(valV kvs k).isSome)))
 | _=>False
def HK {td ty:TE}{a b:PTE} (ha:SndE K mg E ty a) (hb:SndE K mg E td b):SndE K mg E (Dv ty td) (p2 a b (fDIn true)):=by
 show SndE K mg E (tOp (fun y x H Q=>∃a o,x=.ref a/\DGet H a y o/\Q (.bl (!o.isSome)) H) ty td) _;refine se_2 ha hb fun H0 H H2 Z y x u v R Q s0 s1 hm ty tx h q=>?_;have rx:=tx.rp s0;have ry:=ty.rp s0;unfold fDIn at h;split at h
 ·rename_i kvs e;rw[e] at rx;obtain⟨l,rfl,hl⟩:=rx.dK_inv;obtain⟨k,h1,h4⟩:=h;refine⟨l,_,rfl,?_,q _ _ H2 h4 (Same.refl _) (.bl _)⟩;rw[Nv ry h1];exact DGet.k hl
 ·rename_i kvs e;rw[e] at rx;obtain⟨l,rfl,hl⟩:=rx.dT_inv;obtain⟨k,h1,h4⟩:=h;obtain⟨b,rfl,hb⟩:=Ny ry h1;exact⟨l,_,rfl,DGet.t hl hb,q _ _ H2 h4 (Same.refl _) (.bl _)⟩
 ·exact h.elim
def AW (i:Nat) (b a:PTE):PTS:=fun R γ=>match γ[i]? with
 | some (some (.own (.dK kvs)))=>a γ (fun s=>b γ (fun y=>∃k u,keyD y.d=some k/\TN s.d=some u/\kvs.length<100000/\R.nx (γ.set i (some (.own (.dK (putK kvs k u)))))) (R.ex γ)) (R.ex γ)
 | some (some (.own (.dT kvs)))=>a γ (fun s=>b γ (fun y=>∃k u,P6 y.d=some k/\TN s.d=some u/\kvs.length<100000/\R.nx (γ.set i (some (.own (.dT (putK kvs k u)))))) (R.ex γ)) (R.ex γ)
 | _=>False
def B9 (i:Nat) {ty tv:TE}{a b:PTE} (hb:SndE K mg E ty b) (ha:SndE K mg E tv a):SndS K mg E (Dc (tVar i) ty tv) (AW i b a):=by
 intro H0 B H σ γ R D hB env h e;have hx:∀c H',R.ex γ c->Same H H'->E σ (.ref (ExcR.JB mg c)) none H':=fun c H' hc S'=>e.ex σ γ c H' hc (env.grow S') (Fr.grow S');unfold AW at h;split at h
 ·rename_i kvs hi;obtain⟨v,hv,l,rfl,hb0,hl⟩:=env.slot i _ hi;refine ha H0 B H σ γ _ _ _ env h (fun s u H1 h1 S1 t1=>⟨_,hv,?_⟩) hx;have env1:=env.grow S1;refine hb H0 B H1 σ γ _ _ _ env1 h1 (fun y w H2 h2 S2 t2=>?_) fun c H' hc S'=>hx c H' hc (S1.trans S');obtain⟨k,z,k1,k2,k3,k4⟩:=h2;have env2:=env1.grow S2;have eu:=NI (t1.rp env1.same) k2;have ew:=Nv (t2.rp env2.same) k1;subst eu ew;refine⟨l,_,rfl,DPut.k (S2 _ _ (S1 _ _ hl)) (Qt k3 (by decide)),?_⟩;obtain⟨e2,f2⟩:=env2.mutate (es:=.dK (putK kvs k u)) (us:=.dK (putK kvs k u)) hi hv trivial fun F H' SF hF=>hF;exact e.nx _ _ _ k4 e2 ((Fr.grow (S1.trans S2)).trans f2)
 ·rename_i kvs hi;obtain⟨v,hv,l,rfl,hb0,hl⟩:=env.slot i _ hi;refine ha H0 B H σ γ _ _ _ env h (fun s u H1 h1 S1 t1=>⟨_,hv,?_⟩) hx;have env1:=env.grow S1;refine hb H0 B H1 σ γ _ _ _ env1 h1 (fun y w H2 h2 S2 t2=>?_) fun c H' hc S'=>hx c H' hc (S1.trans S');obtain⟨k,z,k1,k2,k3,k4⟩:=h2;have env2:=env1.grow S2;have eu:=NI (t1.rp env1.same) k2;obtain⟨b',rfl,hb'⟩:=Ny (t2.rp env2.same) k1;subst eu;refine⟨l,_,rfl,DPut.t (S2 _ _ (S1 _ _ hl)) hb' (Qt k3 (by decide)),?_⟩;obtain⟨e2,f2⟩:=env2.mutate (es:=.dT (putK kvs k u)) (us:=.dT (putK kvs k u)) hi hv trivial fun F H' SF hF=>hF;exact e.nx _ _ _ k4 e2 ((Fr.grow (S1.trans S2)).trans f2)
 ·exact h.elim
def Zdo (a:PTE):PTS:=fun R γ=>a γ (fun s=>match s.shd with|some d=>R.rt (.sh d)|none=>False) (R.ex γ)
def Hq {te:TE}{a:PTE} (ha:SndE K mg E te a):SndS K mg E (tRet te) (Zdo a):=by
 intro H0 B H σ γ R D hB env h e;refine ha H0 B H σ γ _ _ _ env h (fun s v H1 h1 S1 t1=>?_) fun c H' hc S'=>e.ex σ γ c H' hc (env.grow S') (Fr.grow S');split at h1
 ·rename_i d hd;have r:=t1.shd (env.grow S1).same env.zm S1 hd;exact e.rt (.sh d) v H1 h1 (env.same.trans S1) (Rp.mono (JS (Same.refl _) fun b _ _ z y=>z (.inl y)) r)
 ·exact h1.elim
def Gw (i:Nat) (γ:Γ):Nat:=match γ[i]? with
 | some (some (.own (.lst ds)))=>ds.length
 | _=>0
def UX {α:Type} (d:α) (ds:List α):atI (d::ds) 0=some d:=Na (by decide) rfl
def em (l:Int) (p:List Int):D:=.lst ((l::p).map D.int)
def FK (l:Int) (p:List Int):atI ((l::p).map D.int) (-1)=some (.int (Up l p)):=by
 refine Kw ?_;unfold atI ixN;rw[Yq (by omega),Ys (by rw[YD];omega)];have e:(-1+((l::p).length:Int)).toNat=p.length:=by rw[YD];omega
 rw[e];exact Bn l p
end
section
variable {K:Za}{mg:Str->Option Value}{E:L2.St->XK}{H0 H H1 H':Hp}{B Z Z':Addr->Prop}{σ:L2.St}{γ:Γ}
def AH:List S->(S->Prop)->Prop
 | [s],R=>∃ns:List Int,s.d=.lst (ns.map D.int)/\R (.sh (.int ns.sum))
 | _,_=>False
def Hc {ta:TA}{r:PTA} (hr:SndA K mg E ta r):SndE K mg E (tCB (fun xs H Q=>∃(p:Addr) (ns:List Int),xs=[.ref p]/\SqL K H p (ns.map V.int)/\Q (.int ns.sum) H) ta) (pCB AH r):=by
 refine X7 hr fun H0 H H1 Z ss vs R Q s0 s1 hm tv h q=>?_;unfold AH at h;split at h
 ·obtain⟨v,rfl,t1⟩:=tv.one_inv;obtain⟨ns,e,hR⟩:=h;have rv:=t1.rp s0;rw[e] at rv;obtain⟨a,rfl,ha⟩:=rv.ints_inv;exact⟨a,ns,rfl,SqL.of ha,q _ _ H1 hR (Same.refl _) (.int _)⟩
 ·exact h.elim
def AB:List S->(S->Prop)->Prop
 | [s],R=>∃ns:List Int,s.d=.lst (ns.map D.int)/\0<ns.length/\∀m,m∈ns->(∀a∈ns,m<=a)->R (.sh (.int m))
 | _,_=>False
def Lk {ta:TA}{r:PTA} (hr:SndA K mg E ta r):SndE K mg E (tCB (fun xs H Q=>∃(p:Addr) (ns:List Int),xs=[.ref p]/\SqL K H p (ns.map V.int)/\0<ns.length/\∀M,M∈ns->(∀a∈ns,M<=a)->Q (.int M) H) ta) (pCB AB r):=by
 refine X7 hr fun H0 H H1 Z ss vs R Q s0 s1 hm tv h q=>?_;unfold AB at h;split at h
 ·obtain⟨v,rfl,t1⟩:=tv.one_inv;obtain⟨ns,e,hne,hR⟩:=h;have rv:=t1.rp s0;rw[e] at rv;obtain⟨a,rfl,ha⟩:=rv.ints_inv;exact⟨a,ns,rfl,SqL.of ha,hne,fun m h1 h2=>q _ _ H1 (hR m h1 h2) (Same.refl _) (.int _)⟩
 ·exact h.elim
def D8:List S->(S->Prop)->Prop
 | [s],R=>∃bs:List Bool,s.d=.lst (bs.map D.bl)/\R (.sh (.bl (bs.any id)))
 | _,_=>False
def Rps.bls {K:Za}{H:Hp}:∀{js:List Bool}{vs:List V},Rps K H (js.map D.bl) vs->vs=js.map V.bl
 | [],_,.nil=>rfl
 | j::r,_,.cons h t=>by rw[Rp.bl_inv h,Rps.bls t];rfl
def AV {ta:TA}{r:PTA} (hr:SndA K mg E ta r):SndE K mg E (tCB (fun xs H Q=>∃(p:Addr) (bs:List Bool),xs=[.ref p]/\SqL K H p (bs.map V.bl)/\Q (.bl (bs.any id)) H) ta) (pCB D8 r):=by
 refine X7 hr fun H0 H H1 Z ss vs R Q s0 s1 hm tv h q=>?_;unfold D8 at h;split at h
 ·obtain⟨v,rfl,t1⟩:=tv.one_inv;obtain⟨bs,e,hR⟩:=h;have rv:=t1.rp s0;rw[e] at rv;obtain⟨a,us,rfl,ha,r1⟩:=rv.lst_inv;rw[r1.bls] at ha;exact⟨a,bs,rfl,SqL.of ha,q _ _ H1 hR (Same.refl _) (.bl _)⟩
 ·exact h.elim
def fEqE (neg:Bool):S->S->(S->Prop)->Prop:=fun x y R=>match x.d,y.d with
 | .lst ds,.lst []=>R (.sh (.bl (if neg then !ds.isEmpty else ds.isEmpty)))
 | _,_=>False
def T8 {neg:Bool}{ta tb:TE}{a b:PTE} (ha:SndE K mg E ta a) (hb:SndE K mg E tb b):SndE K mg E (tOp (rEqE K neg) ta tb) (p2 a b (fEqE neg)):=by
 refine se_2 ha hb fun H0 H H2 Z x y v u R Q s0 s1 hm tx ty h q=>?_;have rx:=tx.rp s0;have ry:=ty.rp s0;unfold fEqE at h;split at h
 ·rename_i ds e1 e2;rw[e1] at rx;rw[e2] at ry;obtain⟨l,us,rfl,hl,r⟩:=rx.lst_inv;obtain⟨m,ws,rfl,hm',r'⟩:=ry.lst_inv;cases r'
  refine⟨l,m,us,rfl,rfl,SqL.of hl,SqL.of hm',?_⟩;rw[B3 r.len];exact q _ _ H2 h (Same.refl _) (.bl _)
 ·exact h.elim
def SE (x y:Int) {k:Int} (h:k=0\/k=1):atI [D.int x,D.int y] k=some (.int (if k=0 then x else y)):=by
 rcases h with rfl|rfl
 ·rfl
 ·rfl
def KA {α:Type} (xs:List α) (lo hi:Option Int):(cutD xs lo hi).Sublist xs:=(QD _ _).trans (List.drop_sublist _ _)
end
section
variable {K:Za}{mg:Str->Option Value}{E:L2.St->XK}{H0 H H1 H':Hp}{B Z Z':Addr->Prop}{σ:L2.St}{γ:Γ}
def EnvR.gone (Ev:EnvR K H0 B H σ γ) (i:Nat):EnvR K H0 B H (σ.set i none) (γ.set i none)/\Fr B H σ γ H (σ.set i none) (γ.set i none):=by
 obtain⟨e1,f1⟩:=Ev.drop i
 have got:∀(j:Nat) (s:S),(γ.set i none)[j]?=some (some s)->j≠i:=fun j s h=>by
  rcases Uv h with⟨_,e,_⟩|⟨n,_⟩
  ·cases e
  ·exact n
 have hz:∀b,zof B (γ.set i none) (σ.set i none) b↔zof B (γ.set i none) σ b:=fun b=>by
  constructor
  ·rintro(z|⟨j,ds,x,z1,z2,z3⟩)
   ·exact .inl z
   ·rw[XJ (got j _ z1)] at z2;exact .inr ⟨j,ds,x,z1,z2,z3⟩
  ·rintro(z|⟨j,ds,x,z1,z2,z3⟩)
   ·exact .inl z
   ·exact .inr ⟨j,ds,x,z1,by rw[XJ (got j _ z1)];exact z2,z3⟩
 have ez:zof B (γ.set i none) (σ.set i none)=zof B (γ.set i none) σ:=funext fun b=>propext (hz b);refine⟨⟨e1.same,by rw[Wt];exact e1.len,e1.bm,fun k j a a' ds es b h1 h2 h3 h4 h5 h6=>?_,fun j s h=>?_⟩,fun b o h z=>?_⟩
 ·rw[XJ (got k _ h1)] at h3;rw[XJ (got j _ h2)] at h4;exact e1.own k j a a' ds es b h1 h2 h3 h4 h5 h6
 ·obtain⟨v,h1,h2⟩:=e1.slot j s h;rw[ez];exact⟨v,by rw[XJ (got j _ h)];exact h1,h2⟩
 ·rw[ez];exact f1 b o h z
def pTry (mg:Str->Option Value) (cs:List Str) (i:Nat) (pb ph:PTS):PTS:=fun R γ=>pb { R with ex:=fun γ' c=>c∈cs/\ph { nx:=fun g=>R.nx (g.set i none),rt:=R.rt,ex:=fun _ _=>False,bk:=fun g=>R.bk (g.set i none),ct:=fun g=>R.ct (g.set i none),rv:=R.rv } (γ'.set i (some (.sh (.err (ExcR.JB mg c))))) } γ
def LB {i:Nat}{C0:Addr}{tb:Ends->TS}{ts:TS}{pb ph:PTS}{E':L2.St->XK} (cs:List Str) (hcs:∀c∈cs,ExcR.ErrGet K (ExcR.JB mg c)/\PySem.W.exmOne K (.ref (ExcR.JB mg c)) (.ref C0)=some true)
  (hb:∀D,SndS K mg (ExcR.hx K C0 i ts D) (tb D) pb) (hh:SndS K mg E' ts ph):SndS K mg E (fun D σ H=>tb D D σ H) (pTry mg cs i pb ph):=by
 intro H0 B H σ γ R D hB env h e;refine hb D H0 B H σ γ _ D hB env h ⟨e.nx,e.rt,fun σ' γ' c H' hc e' f'=>?_,e.bk,e.ct,e.rv⟩;obtain⟨hin,hp⟩:=hc;obtain⟨k1,k2⟩:=hcs c hin;refine⟨_,rfl,k1,k2,fun a na=>?_⟩;have S1:=U9 (o:=ExcR.ErrH a (ExcR.JB mg c)) na;have tv:TV K (zof B γ' σ') H0 H' (upd H' a (ExcR.ErrH a (ExcR.JB mg c))) (.sh (.err (ExcR.JB mg c))) (.ref a):=.err (U4 Uo fun z=>by have:=e'.zm a z;rw[na] at this;exact this);obtain⟨e2,f2⟩:=e'.set (i:=i) S1 tv rfl;have f12:=f'.trans f2;refine hh H0 B _ _ _ _ _ hB e2 hp ⟨fun σ3 γ3 H3 q3 e3 f3=>?_,e.rt,fun _ _ _ _ z=>z.elim,fun σ3 γ3 H3 q3 e3 f3=>?_,fun σ3 γ3 H3 q3 e3 f3=>?_,fun σ3 γ3 d v H3 q3 e3 f3=>e.rv σ3 γ3 d v H3 q3 e3 (f12.trans f3)⟩
 ·obtain⟨e4,f4⟩:=e3.gone i;exact e.nx _ _ H3 q3 e4 (f12.trans (f3.trans f4))
 ·obtain⟨e4,f4⟩:=e3.gone i;exact e.bk _ _ H3 q3 e4 (f12.trans (f3.trans f4))
 ·obtain⟨e4,f4⟩:=e3.gone i;exact e.ct _ _ H3 q3 e4 (f12.trans (f3.trans f4))
def Zc4 {a:Addr}:SndE K mg E (tC (.ref a)) (pC (.ref a)):=se_c fun _=>.ref a
def AO (K:Za):List S->(S->Prop)->Prop
 | [s,t],R=>(match s.d,t.d with
  | .err C,.ref C'=>∃b,ExcR.ErrGet K C/\PySem.W.kitOne K (.ref C) (.ref C')=some b/\R (.sh (.bl b))
  | .err C,.ty n=>∃b,ExcR.ErrGet K C/\PySem.W.kitOne K (.ref C) (.type n)=some b/\R (.sh (.bl b))
  | _,_=>False)
 | _,_=>False
def Rp.err_inv {C:Addr}{v:V} (h:Rp K H (.err C) v):∃a,v=.ref a/\H a=some (ExcR.ErrH a C):=by
 cases h with
 | err h=>exact⟨_,rfl,h⟩
def Rp.ref_inv {a:Addr}{v:V} (h:Rp K H (.ref a) v):v=.ref a:=by cases h;rfl
def Dz {ta:TA}{r:PTA} (hr:SndA K mg E ta r):SndE K mg E (tCB (fun xs H Q=>∃(a C:Addr) (c:V) (b:Bool),xs=[.ref a,c]/\H a=some (ExcR.ErrH a C)/\ExcR.ErrGet K C/\(∃cv:Value,(∀u,RelV c u->u=cv)/\PySem.W.kitOne K (.ref C) cv=some b)/\Q (.bl b) H) ta) (pCB (AO K) r):=by
 refine X7 hr fun H0 H H1 Z ss vs R Q s0 s1 hm tv h q=>?_;unfold AO at h;split at h
 ·obtain⟨v,u,rfl,t1,t2⟩:=tv.two_inv;have r1:=t1.rp s0;have r2:=t2.rp s0;split at h
  ·rename_i C C' e1 e2;rw[e1] at r1;rw[e2] at r2;obtain⟨a,rfl,ha⟩:=r1.err_inv;obtain⟨b,h1,h2,h3⟩:=h;rw[r2.ref_inv];exact⟨a,C,_,b,rfl,ha,h1,⟨.ref C',fun u hu=>hu,h2⟩,q _ _ H1 h3 (Same.refl _) (.bl _)⟩
  ·rename_i C n e1 e2;rw[e1] at r1;rw[e2] at r2;obtain⟨a,rfl,ha⟩:=r1.err_inv;obtain⟨b,h1,h2,h3⟩:=h;rw[r2.ty_inv];exact⟨a,C,_,b,rfl,ha,h1,⟨.type n,fun u hu=>hu,h2⟩,q _ _ H1 h3 (Same.refl _) (.bl _)⟩
  ·exact h.elim
 ·exact h.elim
def GT (i:Nat) (b a:PTE):PTS:=fun R γ=>match γ[i]? with
 | some (some (.own (.lst ds)))=>a γ (fun s=>b γ (fun y=>match y.d with
   | .int k=>∃j d,ixN ds.length k=some j/\s.shd=some d/\R.nx (γ.set i (some (.own (.lst (ds.set j d)))))
   | _=>False) (R.ex γ)) (R.ex γ)
 | some (some (.own (.lsA x ds)))=>a γ (fun s=>b γ (fun y=>match y.d with
   | .int k=>∃j d,ixN ds.length k=some j/\s.shd=some d/\R.nx (γ.set i (some (.own (.lsA x (ds.set j d)))))
   | _=>False) (R.ex γ)) (R.ex γ)
 | _=>False
def Rps.set {d:D}{v:V} (h:Rp K H d v):∀{ds:List D}{vs:List V} (j:Nat),Rps K H ds vs->Rps K H (ds.set j d) (vs.set j v)
 | _,_,_,.nil=>.nil
 | _,_,0,.cons _ r=>.cons h r
 | _,_,j+1,.cons k r=>.cons k (Rps.set h j r)
def Zff (i:Nat) {tb te:TE}{a b:PTE} (hb:SndE K mg E tb b) (ha:SndE K mg E te a):SndS K mg E (tAsg te (gSub (tVar i) tb GB)) (GT i b a):=by
 intro H0 B H σ γ R D hB env h e;have hx:∀c H',R.ex γ c->Same H H'->E σ (.ref (ExcR.JB mg c)) none H':=fun c H' hc S'=>e.ex σ γ c H' hc (env.grow S') (Fr.grow S');unfold GT at h;split at h
 ·rename_i ds hi;obtain⟨v,hv,l,rfl,hb0,us,hl,ru⟩:=env.slot i _ hi;refine ha H0 B H σ γ _ _ _ env h (fun s u H1 h1 S1 t1=>⟨_,hv,?_⟩) hx;have env1:=env.grow S1;refine hb H0 B H1 σ γ _ _ _ env1 h1 (fun y w H2 h2 S2 t2=>?_) fun c H' hc S'=>hx c H' hc (S1.trans S');have env2:=env1.grow S2;have ry:=t2.rp env2.same;split at h2
  ·rename_i k ek;rw[ek] at ry;obtain⟨j,d,h3,h4,h5⟩:=h2;have rd:=Rp.mono (JS S2 fun _ _ _ z=>z) (t1.shd env1.same env.zm S1 h4);refine⟨l,us,k,j,rfl,ry.int_inv,(S1.trans S2) _ _ hl,by rw[ru.len];exact h3,?_⟩;obtain⟨e2,f2⟩:=env2.mutate (es:=.lst (ds.set j d)) (us:=.lst (us.set j u)) hi hv trivial fun F H' SF hF=>⟨_,hF,Rps.mono SF (Rps.set rd j (Rps.mono (JS (S1.trans S2) fun _ _ _ z=>z) ru))⟩;exact e.nx _ _ _ h5 e2 ((Fr.grow (S1.trans S2)).trans f2)
  ·exact h2.elim
 ·rename_i x ds hi;obtain⟨v,hv,l,rfl,hb0,rfl,us,hl,ru⟩:=env.slot i _ hi;refine ha H0 B H σ γ _ _ _ env h (fun s u H1 h1 S1 t1=>⟨_,hv,?_⟩) hx;have env1:=env.grow S1;refine hb H0 B H1 σ γ _ _ _ env1 h1 (fun y w H2 h2 S2 t2=>?_) fun c H' hc S'=>hx c H' hc (S1.trans S');have env2:=env1.grow S2;have ry:=t2.rp env2.same;split at h2
  ·rename_i k ek;rw[ek] at ry;obtain⟨j,d,h3,h4,h5⟩:=h2;have rd:=Rp.mono (JS S2 fun _ _ _ z=>z) (t1.shd env1.same env.zm S1 h4);refine⟨l,us,k,j,rfl,ry.int_inv,(S1.trans S2) _ _ hl,by rw[ru.len];exact h3,?_⟩;obtain⟨e2,f2⟩:=env2.mutate (es:=.lsA l (ds.set j d)) (us:=.lst (us.set j u)) hi hv trivial fun F H' SF hF=>⟨rfl,_,hF,Rps.mono SF (Rps.set rd j (Rps.mono (JS (S1.trans S2) fun _ _ _ z=>z) ru))⟩;exact e.nx _ _ _ h5 e2 ((Fr.grow (S1.trans S2)).trans f2)
  ·exact h2.elim
 ·exact h.elim
def fRep:S->S->(S->Prop)->Prop:=fun x y R=>match x.d,y.d with
 | .lst ds,.int k=>x.free ds=true/\(-(2 ^ 63)<=k/\k<2 ^ 63)/\ds.length*k.toNat<=10000000/\R (.own (.lst (List.replicate k.toNat ds).flatten))
 | _,_=>False
def TM:List D->Option (List V)
 | []=>some []
 | d::r=>match TN d,TM r with
  | some v,some vs=>some (v::vs)
  | _,_=>none
def Sr:∀{ds:List D}{vs us:List V},Rps K H ds vs->TM ds=some us->vs=us
 | [],_,_,.nil,e=>by cases e;rfl
 | d::r,_,us,.cons h t,e=>by
  unfold TM at e;split at e
  ·rename_i v vs e1 e2;cases e
   rw[NI h e1,Sr t e2]
  ·cases e
def fEqV (neg:Bool):S->S->(S->Prop)->Prop:=fun x y R=>match x.d,y.d with
 | .lst ds,.lst es=>∃us ws,TM ds=some us/\TM es=some ws/\us.all Xb=true/\ws.all Xb=true/\R (.sh (.bl (if neg then !eqL us ws else eqL us ws)))
 | _,_=>False
def Zcl {neg:Bool}{ta tb:TE}{a b:PTE} (ha:SndE K mg E ta a) (hb:SndE K mg E tb b):SndE K mg E (tOp (rEqL K neg) ta tb) (p2 a b (fEqV neg)):=by
 refine se_2 ha hb fun H0 H H2 Z x y v u R Q s0 s1 hm tx ty h q=>?_;unfold fEqV at h;have rx:=tx.rp s0;have ry:=ty.rp s0;split at h
 ·rename_i ds es e1 e2;rw[e1] at rx;rw[e2] at ry;obtain⟨us,ws,h1,h2,h3,h4,h5⟩:=h;obtain⟨l,vs,rfl,hl,r⟩:=rx.lst_inv;obtain⟨m,vs',rfl,hm',r'⟩:=ry.lst_inv;rw[Sr r h1] at hl;rw[Sr r' h2] at hm';exact⟨l,m,us,ws,rfl,rfl,SqL.of hl,SqL.of hm',h3,h4,q _ _ H2 h5 (Same.refl _) (.bl _)⟩
 ·exact h.elim
def Rl {X:Cx} (hu:X.A.units<cLine) (hK:X.K=K:=by rfl):OpR X (compareOp .Eq) (rEqL K false):=by subst hK;exact GR hu
end
end Pu
namespace PySem
open Sem (wp)
structure VPairs {K:Type} (es:List DictEntry) (kvs:List (K×Value)):Prop where
 length:es.length=kvs.length
 get?:∀{i:Nat} {e:DictEntry} {k:K} {v:Value},es[i]?=some e->kvs[i]?=some (k,v)->True/\e.val=v
def VDict {K:Type} (h:Heap) (a:Addr) (kvs:List (K×Value)) (ep:Nat):Prop:=
 ∃o es,h.get? a=some o/\o.ExactDict/\o.data=.dict es ep/\True/\VPairs es.toList kvs/\True
section
variable {prog:Program}{w:World}{K:Type}{A:Around}{E:Value->Shared->Prop}{s:Shared}
def Zc0 (d:Addr) (hd:(d==sysModules)=false) :
  MeetsIn prog w (Builtin.«dict.values» ⟨[.ref d],[]⟩) (fun _ R s=>s.TypeIs (.ref d) "dict"/\
   R (.ok (.ret (.ref s.heap.objs.size))) { s with heap:=s.heap.push { cls:=.type "dict_values",data:=.fields #[.ref d] } }):=
 .of_wp fun A R s ⟨hm,h⟩=>by
  refine Yo ?_;unfold Builtin.Dict.noArgs;refine Yo (wpAny_notOrdered_dict hm ?_);show wpAny _ _ (pure d) _ _ s;refine Yt ?_;show wpAny _ _ (Builtin.Dict.showsAll d >>= _) _ _ s;unfold Builtin.Dict.showsAll;rw[Yq (by rw[hd];exact Y9)];refine Yo (Yt ?_);exact Yo (Wl (Yt ⟨_,rfl,h⟩))
def M8 {v d:Addr}{kvs:List (K×Value)}{ep:Nat}{Q:Value->Shared->Prop} (hv:s.heap.IsValuesView v d) (hm:VDict s.heap d kvs ep)
  (hQ:Q (.ref s.heap.objs.size) { s with heap:=s.heap.push { cls:=.type "dict_valueiterator",data:=.fields #[.ref d,.int 0 0,.int kvs.length 0,.int ep 0] } }) :
  wpAny (model prog w) A (pyIter (.ref v)) Q E s:=by
 obtain⟨ov,hov,hcv,hdv⟩:=id hv;obtain⟨o,es,ho,hc,hdat,hk,hp,hn⟩:=id hm;refine wpAny_pyIter_slot hv.typeIs F.slot_dict_values_iter (WR F.slot_dict_values_iter hv.typeIs F.entry_dict_values_iter ?_ (F.args_dict_values_iter_1 _));unfold Builtin.«dict_values.__iter__»;refine Yo (Yt ?_);refine Yo ?_;unfold Builtin.Dict_items.dictOf;refine Yo (Ve hov hdv (x:=.ref d) rfl (Yt ?_));refine Yo ?_;unfold Builtin.Dict_items.newIterator;refine Yo (wpAny_dictEntries ho hdat ?_);refine Yo (wpAny_dictEpoch ho hdat ?_);have hsz:es.size=kvs.length:=by rw[←hp.length];simp
 have hown:Builtin.Dict_items.ownsTuple "dict_valueiterator"=false:=by decide
 simp only[hown,Q5,QM];refine Wl (Yt ⟨_,rfl, "dict_valueiterator",_,⟨_,Y7 _ rfl,rfl⟩,F.slot_dict_valueiterator_next.lookup,?_⟩);simpa [rawInt,hsz] using hQ
def MM {it d:Addr}{i ep:Nat}{kvs:List (K×Value)}{k:K}{v:Value}{Q:Option Value->Shared->Prop} (hit:s.heap.IsValIter it d i kvs.length ep)
  (hm:VDict s.heap d kvs ep) (hx:kvs[i]?=some (k,v))
  (hQ:∀h',h'.IsValIter it d (i+1) kvs.length ep->Heap.SameBut it s.heap h'->Q (some v) { s with heap:=h' }) :
  wpAny (model prog w) A (pyNext (.ref it)) Q E s:=by
 obtain⟨o,ho,hc,hd⟩:=id hit;obtain⟨od,es,hod,hcd,hdd,hk,hp,hn⟩:=id hm;unfold pyNext
 refine Yo (wpAny_attempt (QC (name:=Str.ofString "__next__") hit.typeIs WK
  (WR WK hit.typeIs F.entry_dict_valueiterator_next ?_ (F.args_dict_valueiterator_next_1 _))))
 refine Yo (Yt ?_);refine Yo ?_;refine Yo ?_
 first|refine Yo (WM hit.typeIs (Yt ?_))|refine Yo (Qh hit.typeIs (Yt ?_))
 refine Yo (wpAny_fieldsOf ho hd ?_);have hown:Builtin.Dict_items.ownsTuple "dict_valueiterator"=false:=by decide
 simp only[hown,Q5,QM];show wpAny _ _ (if (Value.ref d==Value.none)=true then _ else _) _ _ s;rw[Yq (show ¬((Value.ref d==Value.none)=true) from Y9)]
 refine Yo (Yt ?_);refine Yo (wpAny_dictEntries hod hdd ?_);have hsz:es.size=kvs.length:=by rw[←hp.length];simp
 rw[Yq (by rw[hsz];simp)];refine Yo (Yt ?_);refine Yo (wpAny_dictEpoch hod hdd ?_);rw[Yq (by simp)];refine Yt ?_
 have hlt:i<kvs.length:=by
  rcases Nat.lt_or_ge i kvs.length with h|h
  ·exact h
  ·simp[W5 h] at hx
 have hlt':i<es.size:=by rw[hsz];exact hlt
 have hval:es[i].val=v:=(hp.get? (e:=es[i]) (by simp[hlt']) hx).2;simp only[show ¬((i:Int)<0) from by omega,QM,Wb,W4 hlt']
 refine Yo ?_
 first|refine Yo (WM hit.typeIs (Yt ?_))|refine Yo (Qh hit.typeIs (Yt ?_))
 refine Yo (QP hit.typeIs ?_);show wpAny _ _ (setField (.ref it) 1 (rawInt ((i:Int)+1)) >>= _) _ _ s;refine Yo (WD ho hd (by simp) ?_)
 have hit':(s.heap.update it (Obj.mapFields (·.setIfInBounds 1 (rawInt ((i:Int)+1))))).IsValIter it d (i+1) kvs.length ep:=
  ⟨_,Wj _ ho (WE (Wu hd _)),(QF ..).trans hc,by rw[Wu hd];simp[rawInt]⟩
 refine Yo (WL ?_);refine Yo (QP (s:={ s with heap:=s.heap.update it (Obj.mapFields (·.setIfInBounds 1 (rawInt ((i:Int)+1)))) }) hit'.typeIs ?_)
 refine Yo (QP (s:={ s with heap:=s.heap.update it (Obj.mapFields (·.setIfInBounds 1 (rawInt ((i:Int)+1)))) }) hit'.typeIs ?_)
 show wpAny _ _ (pure es[i].val) _ _ _;exact Yt (Yt ⟨_,rfl,Yt (hval▸hQ _ hit' (Wx ..))⟩)
def R8 {it d:Addr}{i ep:Nat}{kvs:List (K×Value)}{Q:Option Value->Shared->Prop} (hh:A.handled=none) (hit:s.heap.IsValIter it d i kvs.length ep)
  (hm:VDict s.heap d kvs ep) (hx:kvs[i]?=none)
  (hQ:∀h',Heap.ExtBut it s.heap h'->Q none { s with heap:=h' }):wpAny (model prog w) A (pyNext (.ref it)) Q E s:=by
 obtain⟨o,ho,hc,hd⟩:=id hit;obtain⟨od,es,hod,hcd,hdd,hk,hp,hn⟩:=id hm;unfold pyNext
 refine Yo (wpAny_attempt (QC (name:=Str.ofString "__next__") hit.typeIs WK
  (WR WK hit.typeIs F.entry_dict_valueiterator_next ?_ (F.args_dict_valueiterator_next_1 _))))
 refine Yo (Yt ?_);refine Yo ?_;refine Yo ?_
 first|refine Yo (WM hit.typeIs (Yt ?_))|refine Yo (Qh hit.typeIs (Yt ?_))
 refine Yo (wpAny_fieldsOf ho hd ?_);have hown:Builtin.Dict_items.ownsTuple "dict_valueiterator"=false:=by decide
 simp only[hown,Q5,QM];show wpAny _ _ (if (Value.ref d==Value.none)=true then _ else _) _ _ s;rw[Yq (show ¬((Value.ref d==Value.none)=true) from Y9)]
 refine Yo (Yt ?_);refine Yo (wpAny_dictEntries hod hdd ?_);have hsz:es.size=kvs.length:=by rw[←hp.length];simp
 rw[Yq (by rw[hsz];simp)];refine Yo (Yt ?_);refine Yo (wpAny_dictEpoch hod hdd ?_);rw[Yq (by simp)];refine Yt ?_;have hge:es.size<=i:=by rw[hsz];simpa using hx
 simp only[show ¬((i:Int)<0) from by omega,QM,Wb,QI hge]
 refine Yo ?_
 first|refine Yo (WM hit.typeIs (Yt ?_))|refine Yo (Qh hit.typeIs (Yt ?_))
 show wpAny _ _ (setField (.ref it) 0 .none >>= _) _ _ s;refine Yo (WD ho hd (by simp) ?_);show wpAny _ _ (newExc (.type "StopIteration") [] >>= _) _ _ _;refine Yo ?_;simp only[newExc,newTuple];refine Yo (Wl ?_ (by size_fits));refine Yo (m:=firstArgMember _ _) (wpAny_of_eq (a:=Value.none) (by first|rfl|(simp only[firstArgMember];rfl)) ?_)
 refine Wl ?_ (by size_fits);simp only[raiseNew];refine Yo (wpAny_handled ?_);rw[show A.in1.handled=none from hh]
 refine Yo (Yt (wpAny_throw ?_));refine Yo (wpAny_isInstance (T:="StopIteration") (b:=true) ⟨_,Y7 _ rfl,rfl⟩ isSubtype_stop ?_);exact Yt (hQ _ (((Wx ..).extBut.push _).push _))
end
end PySem
namespace Own
open PySem PySem.Spec PyProof.Rows L2
def CG (K:Za):R2:=fun x y H Q=>∃a b xs ys,x=.ref a/\y=.ref b/\SqT K H a xs/\SqT K H b ys/\xs.length+ys.length<=sizeLine/\
 (xs=[]->Q (.ref b) H)/\(xs≠[]->ys=[]->Q (.ref a) H)/\(xs≠[]->ys≠[]->∀p,H p=none->Q (.ref p) (upd H p (.tup (xs++ys))))
section
variable {X:Cx}{K:Za}
def Lr (hK:X.K=K:=by rfl):OpR X (binaryOp .Add) (CG K):=by
 subst hK;intro pins s σ H x y v u Q I rx ry h;obtain⟨a,b,xs,ys,rfl,rfl,ha,hb,hz,q0,q1,q2⟩:=h;cases rx
 cases ry
 by_cases hx:xs=[]
 ·obtain⟨its,r1,p1,_⟩:=I.tuple ha;obtain⟨its2,r2,p2,_⟩:=I.tuple hb;have e:its=[]:=r1.nil_iff.mpr hx;obtain⟨⟨cls,dd,data,sl⟩,ho,hc,n,hd⟩:=id p1;obtain⟨⟨cls2,dd2,data2,sl2⟩,ho2,hc2,n2,hd2⟩:=id p2;simp only at hc hd hc2 hd2;subst hc hd hc2 hd2
  exact concat_meets ⟨_,ho,rfl⟩ ⟨_,ho2,rfl⟩ noFill_tuple_add seq_tuple_add QH QB (Q3 _ _)
   (tuple_addW0 a b its.toArray its2.toArray n n2 dd dd2 sl sl2 (by simp[e])) ⟨ho,ho2,⟨.ref b,H,I,rfl,q0 hx⟩⟩
 ·exact RT pins s σ H (.ref a) (.ref b) _ _ Q I rfl rfl ⟨a,b,xs,ys,rfl,rfl,ha,hb,hx,hz,q1 hx,q2 hx⟩
def Zd2 {b:Addr}{x:V}{ws:List (Value×Value)} (h:VV [(.ref b,x)] ws):∃r,ws=[(.ref b,r)]/\RelV x r:=by
 cases h with
 | cons h t=>
  cases t
  rename_i y;obtain⟨u,r⟩:=y;obtain⟨h1,h2⟩:=h;cases (show u=Value.ref b from h1)
  exact⟨r,rfl,h2⟩
def El (tk tv:TE):TE:=fun σ H Q=>∀p,H p=none->tk σ (upd H p (.dT [])) fun y H1=>tv σ H1 fun x H2=>H2 p=some (.dT [])/\∃b ks,y=.ref b/\H2 b=some (.tup (ks.map kV))/\Q (.ref p) (upd H2 p (.dT [(ks,x)]))
def Zao {k v:Expr}{tk tv:TE}{pos:Pos} (hu:X.A.units+1<cLine) (hk:PE X k tk) (hv:PE X v tv):PE X (.Dict [some k] [v] pos) (El tk tv):=by
 intro pins s σ H Q I q;have hn:=I.hok.fresh (Yx s.heap.objs.size);have I1:=I.laid (a:=s.heap.objs.size) (o:=.dT []) (h':=s.heap.push { cls:=.type "dict",data:=.dict #[] }) (t':=s.toks) (fun _ _ q=>Yu _ q) (Yx _) (Gc s.heap I.big)
 refine wpAny_Dict_any rfl rfl (by simp) (by simp) (thn ((IF hk hv Zbe) pins _ σ _ (fun ps H2=>match ps with
  | [(y,x)]=>H2 s.heap.objs.size=some (.dT [])/\∃b ks,y=.ref b/\H2 b=some (.tup (ks.map kV))/\Q (.ref s.heap.objs.size) (upd H2 s.heap.objs.size (.dT [(ks,x)]))
  | _=>False) I1 (q _ hn)) fun ws s2 ⟨ps,H2,I2,rel,h2⟩=>?_)
 split at h2
 ·rename_i y x;obtain⟨e,b,ks,ey,eb,q2⟩:=h2;subst ey;obtain⟨wv,ew,rv⟩:=Zd2 rel;subst ew;obtain⟨z,hd,xs,rel',dd⟩:=NG I2.hok e;cases rel'
  unfold storeAll;rw[QW];refine Yo (Yo (wpAny_dictSet_heap (hsz:=Wz _) (show(tupleKind _).room X.A from Nat.lt_of_succ_lt hu) (T6 I2.hok eb) dd fun h' dd' hs=>Yt ?_))
  dsimp only
  rw[List.forIn_nil];refine Yt ?_;obtain⟨qo,es,ep,hq,h2,h3,h4,_,h5⟩:=dd';refine⟨.ref s.heap.objs.size,_,Ac (ob:=.dT [(ks,x)]) I2 (by rw[e];exact True.intro) hs ⟨qo,hq⟩ ⟨(by show 1<=sizeLine;decide),hd,[(ks,b,wv)],?_,qo,es,ep,hq,h2,h3,h4,h5⟩,rfl,q2⟩;refine .cons ⟨rfl,?_,rv⟩ .nil;rw[JX (CH eb e (fun z=>nomatch z))];exact eb
 ·exact h2.elim
end
section
variable {prog:Program}{w:World}{A:Around}{K:Type}{d r:Addr}{kvs:List (K×Value)}{ep:Nat}{h h':Heap}
def VDict.at (x:VDict h d kvs ep) (e:∀o,h.get? d=some o->h'.get? d=some o):VDict h' d kvs ep:=let ⟨o,es,ho,r⟩:=x;⟨o,es,e _ ho,r⟩
def VDict.lt (x:VDict h d kvs ep):d<h.objs.size:=let ⟨_,_,ho,_⟩:=x;Y3 ho
def Mx (hh:A.handled=none) (I d:Addr) (hne:d≠I) (kvs:List (K×Value)) (ep:Nat) :
  Walks prog w A I [I,d] [I] kvs.length (fun i v=>∃k,kvs[i]?=some (k,v)) (fun i h=>h.IsValIter I d i kvs.length ep/\VDict h d kvs ep) where
 sub:=fun b hb=>by simp at hb;simp[hb]
 frame:=fun _ _ _ st hk=>⟨st.1.at fun o e=>hk I (by simp) o e,VDict.at st.2 fun o e=>hk d (by simp) o e⟩
 item:=fun i s Q E hi st hQ=>by
  refine MM (k:=(kvs[i]).1) (v:=(kvs[i]).2) st.1 st.2 (by simp[hi]) fun h' hit' hs'=>?_;exact hQ _ h' s.toks ⟨(kvs[i]).1,by simp[hi]⟩ ⟨hit',VDict.at st.2 fun o e=>hs'.extBut d o hne e⟩ fun b o hb e=>hs'.extBut b o (fun h=>hb (by simp[h])) e
 done:=fun s Q E st hQ=>R8 hh st.1 st.2 (by simp) fun h' he'=>hQ h' s.toks fun b o hb e=>he' b o (fun h=>hb (by simp[h])) e
 self:=fun _ _ _ _ st hQ=>wpAny_pyIter_valiter st.1 hQ
def Zbr:PySem.W.KdlSrc prog w "dict_values" r d kvs.length (fun i v=>∃k,kvs[i]?=some (k,v)) (fun h=>h.IsValuesView r d/\VDict h d kvs ep) where
 type:=fun _ hm=>hm.1.typeIs
 there:=fun _ hm=>⟨let ⟨_,ho,_⟩:=hm.1;Y3 ho,VDict.lt hm.2⟩
 keep:=fun _ _ hm hk=>⟨let ⟨o,ho,x⟩:=hm.1;⟨o,hk r (.inl rfl) o ho,x⟩,VDict.at hm.2 fun o e=>hk d (.inr rfl) o e⟩
 notList:=by decide
 notTuple:=by decide
 hint:=fun _ _ _ _ hm hq=>PySem.W.kdl_hint_values hm.1.typeIs hq
 iter:=fun _ _ hh hm=>⟨_,_,(fun _ _ hq=>M8 hm.1 hm.2 hq),Mx hh _ d (YK (VDict.lt hm.2)) kvs ep,⟨⟨_,Y7 _ rfl,rfl,rfl⟩,VDict.at hm.2 fun o e=>Yu _ e⟩⟩
end
def T3 (v d:Addr):HO:=.ext fun h=>h.IsValuesView v d
def Bm:V->List V->Hp->VK->Prop:=fun x vs H Q=>∃d kvs,x=.ref d/\vs=[]/\H d=some (.dT kvs)/\∀v,H v=none->Q (.ref v) (upd H v (T3 v d))
section
variable {X:Cx}
def Lz:MtR X "dict.values" Bm:=by
 intro pins s σ H x xs v us Q I rx rv h;obtain⟨d,kvs,rfl,rfl,hd,q⟩:=h;cases rx
 have hus:=rv.zero;subst hus;obtain⟨z,lo,xs,rel,dd⟩:=NG I.hok hd;obtain⟨o,es,ep,ho,hx,_⟩:=id dd;refine call_meetsIn PySem.F.slot_dict_values ⟨o,ho,hx.1⟩ PySem.F.entry_dict_values (PySem.F.args_dict_values_1 _) (Zc0 d lo) ⟨⟨o,ho,hx.1⟩,?_⟩;refine⟨.ref s.heap.objs.size,_,I.laid (a:=s.heap.objs.size) (o:=T3 s.heap.objs.size d) (t':=s.toks) (fun _ _ q=>Yu _ q) (Yx _) ⟨⟨_,Y7 _ rfl,rfl,rfl⟩,⟨_,Y7 _ rfl⟩,fun h1 h2 ⟨o,ho,r⟩ e=>⟨o,e o ho,r⟩⟩,rfl,q _ (I.hok.fresh (Yx _))⟩
def Mu {K:Za}{o:Expr}{to:TE}{name:Str}{apos cpos:Pos} (ho:PE X o to) (hK:X.K=K:=by rfl) (hn:name = "values":=by rfl)
  (hbase:attributeBase o name X.env (eval o X.env)=eval o X.env:=by rfl) (hline:(apos.endLine==cpos.line)=true:=by rfl):PE X (.Call (.Attribute o name apos) [] [] cpos) (tBM0 K "dict" Bm to):=by
 subst hK hn;exact Pd PySem.F.plainAttrs_dict PySem.F.slot_dict_values PySem.F.type_dict_values Lz ho hbase hline
def F5 {H:Hp}:∀{kvs:List (List Key×V)}{xs:List (List Key×Addr×Value)},KT H kvs xs->Vals (kvs.map (·.2)) (xs.map (·.2.2))
 | _,_,.nil=>.nil
 | _,_,.cons h r=>.cons h.2.2 (F5 r)
def Zfh (hc:X.calm=true):UB X (.type "list") (fun xs H Q=>∃(v d:Addr) (kvs:List (List Key×V)),xs=[.ref v]/\H v=some (T3 v d)/\H d=some (.dT kvs)/\∀l,H l=none->Q (.ref l) (upd H l (.lst (kvs.map (·.2))))):=by
 intro pins s σ H xs us Q I rv h;obtain⟨v,d,kvs,rfl,hv,hd,q⟩:=h;obtain⟨u,rfl,ru⟩:=rv.one;obtain rfl:u=Value.ref v:=ru;obtain⟨z,lo,xs,rel,dd⟩:=NG I.hok hd;obtain⟨o,es,ep,ho,hx,hdat,he,hk,hn⟩:=id dd;have view:s.heap.IsValuesView v d:=(I.hok v _ hv).1;have hl:xs.length=kvs.length:=by simpa using(F5 rel).length.symm
 have vd:VDict s.heap d (xs.map fun x=>((),x.2.2)) ep:=by
  refine⟨o,es,ho,hx,hdat,trivial,⟨by rw[he,Yn,Yn],fun {i e k v} h1 h2=>⟨trivial,?_⟩⟩,trivial⟩;rw[he,Y0] at h1;rw[Y0] at h2;cases hi:xs[i]? with
  | none=>rw[hi] at h1;cases h1
  | some x=>
   rw[hi] at h1 h2;cases h1
   cases h2
   rfl
 refine PySem.W.kdl_call Zbr (I.ok.hd hc) ⟨view,vd⟩ (by rw[Yn];omega) fun h' tk acc' c' hk hD hacc=>?_;refine⟨.ref s.heap.objs.size,upd H s.heap.objs.size (.lst (kvs.map (·.2))),?_,rfl,q _ (I.hok.fresh (Yx _))⟩;have ev:=PySem.W.kdl_vals_eq (kvs:=xs.map fun x=>((),x.2.2)) acc'.toList (by rw[YZ];exact hacc.1) fun j u hu=>hacc.2 j u (by rw[←hu,Wq]);refine I.laid (t':=tk) hk (Yx _) ⟨by rw[Yn];exact z,acc'.toList,c',?_,by simpa using hD⟩;rw[ev,Wg];exact F5 rel
end
end Own
namespace Pu
open PySem PySem.Spec PyProof.Rows L2 Own M
section
variable {K:Za}{mg:Str->Option Value}{E:L2.St->XK}{H0 H H1 H':Hp}{B Z Z':Addr->Prop}{σ:L2.St}{γ:Γ}
def tupD:Option D->Option (List D)
 | some (.tup ds)=>some ds|_=>none
def F8 {o:Option D}{ds:List D} (h:tupD o=some ds):o=some (.tup ds):=by
 unfold tupD at h;split at h
 ·cases h;rfl
 ·cases h
def RD:S->S->(S->Prop)->Prop:=fun x y R=>∃ds es,tupD x.shd=some ds/\tupD y.shd=some es/\ds.length+es.length<=100000/\R (.sh (.tup (ds++es)))
def Oe {ta tb:TE}{a b:PTE} (ha:SndE K mg E ta a) (hb:SndE K mg E tb b):SndE K mg E (tOp (CG K) ta tb) (p2 a b RD):=by
 refine se_2 ha hb fun H0 H H2 Z x y v u R Q s0 s1 hm tx ty h q=>?_;obtain⟨ds,es,e1,e2,hz,h⟩:=h;have hm':∀b,Z b->Mut (H2 b):=fun b z=>XU s1 (hm b z);have r1:=tx.shd s0 hm s1 (F8 e1);have r2:=ty.shd s0 hm s1 (F8 e2);obtain⟨l,us,rfl,h1,k1⟩:=Rp.tup_inv r1;obtain⟨m,ws,rfl,h2,k2⟩:=Rp.tup_inv r2;refine⟨l,m,us,ws,rfl,rfl,SqT.of (off_sub _ _ h1),SqT.of (off_sub _ _ h2),by rw[k1.len,k2.len];exact Y8 hz (by decide),fun e=>?_,fun _ e=>?_,fun _ _ p np=>?_⟩
 ·subst e;cases k1
  exact q _ _ _ h (Same.refl _) r2
 ·subst e;cases k2
  refine q _ _ _ h (Same.refl _) ?_;rw[Wc];exact r1
 ·refine q _ _ _ h (U9 np) (.tup (U4 Uo fun z=>?_) (Rps.mono (JS (U9 np) fun _ _ _ z=>z) (k1.append k2)))
  have:=hm' p z
  rw[np] at this;exact this
def pIT (a:PTE):PTI:=fun γ R X=>a γ (fun s=>∃ds,tupD s.shd=some ds/\R ds.length fun i=>.sh (ds.getD i .non)) X
def Tn {te:TE}{a:PTE} (ha:SndE K mg E te a):SndI K mg E (iTup K te) (pIT a):=by
 intro H0 B H σ γ R X Q env h q qx;refine ha H0 B H σ γ _ X _ env h (fun s v H1 h1 S1 t1=>?_) qx;have env1:=env.grow S1;obtain⟨ds,ed,h1⟩:=h1;have r1:=t1.shd env1.same env.zm S1 (F8 ed);obtain⟨l,vs,rfl,hl,k1⟩:=Rp.tup_inv r1;refine⟨l,rfl,⟨vs,SqT.of (off_sub _ _ hl)⟩,q _ _ _ H1 h1 S1 ⟨fun i H' Z' hi lt=>?_,fun H' Z' lt=>?_⟩⟩
 ·have hd:ds[i]?=some (ds.getD i .non):=by rw[Y1,Yp hi];rfl
  obtain⟨u,hu,tu⟩:=k1.get hd;have k:=off_sub _ _ (lt.off _ _ hl);refine⟨⟨vs,u,SqT.of k,hu⟩,fun x H'' y=>?_⟩;obtain⟨rfl,y⟩:=y
  have:=y vs (SqT.of k)
  rw[hu] at this;cases this
  exact⟨Same.refl _,Rp.mono lt.off tu⟩
 ·exact⟨vs,SqT.of (off_sub _ _ (lt.off _ _ hl)),by rw[k1.len];exact Yx _⟩
def Te:List (List Key×V)->Bool
 | []=>true
 | p::r=>NM p.2&&Te r
def GP:∀{kvs:List (List Key×V)},Te kvs=true->Rps K H (kvs.map fun p=>vD p.2) (kvs.map (·.2))
 | [],_=>.nil
 | p::r,h=>by
  unfold Te at h;rw[Wp] at h;exact .cons (Fb h.1) (GP h.2)
def Zdw:List V->Hp->VK->Prop:=fun xs H Q=>∃(v d:Addr) (kvs:List (List Key×V)),xs=[.ref v]/\H v=some (T3 v d)/\H d=some (.dT kvs)/\∀l,H l=none->Q (.ref l) (upd H l (.lst (kvs.map (·.2))))
def LU (a:PTE):PTE:=fun γ R X=>a γ (fun s=>∃kvs,s.d=.dT kvs/\Te kvs=true/\R (.own (.lst (kvs.map fun p=>vD p.2)))) X
def Zap {te:TE}{a:PTE} (ha:SndE K mg E te a):SndE K mg E (tCB Zdw (UO (tBM0 K "dict" Bm te) tNil)) (LU a):=by
 intro H0 B H σ γ R X Q env h q qx;refine ha H0 B H σ γ _ X _ env h (fun s v H1 h1 S1 t1=>?_) qx;obtain⟨kvs,e,hs,hR⟩:=h1;have env1:=env.grow S1;have rx:=t1.rp env1.same;rw[e] at rx;obtain⟨l,rfl,hl⟩:=rx.dT_inv;refine⟨.inr (.inr (.inl ⟨rfl,.inr ⟨kvs,hl⟩⟩)),l,kvs,rfl,rfl,hl,fun p np=>?_⟩;refine⟨p,l,kvs,rfl,Uo,by rw[JX (X2 hl np)];exact hl,fun m nm=>?_⟩;have S2:Same H1 (upd H1 p (T3 p l)):=U9 np;exact q _ _ _ hR ((S1.trans S2).trans (U9 nm)) ⟨m,rfl,(fun _ e=>e▸(S1.trans S2).free nm),_,Uo,GP hs⟩
def Zc8 (a b:PTE):PTE:=fun γ R X=>a γ (fun y=>b γ (fun x=>∃ks u,P6 y.d=some ks/\TN x.d=some u/\R (.own (.dT [(ks,u)]))) X) X
def Zea {tk tv:TE}{a b:PTE} (ha:SndE K mg E tk a) (hb:SndE K mg E tv b):SndE K mg E (El tk tv) (Zc8 a b):=by
 intro H0 B H σ γ R X Q env h q qx;intro p np;have S0:Same H (upd H p (.dT [])):=U9 np;have env0:=env.grow S0;refine ha H0 B _ σ γ _ X _ env0 h (fun y v H1 h1 S1 t1=>?_) fun c H' hc S'=>qx c H' hc (S0.trans S');have env1:=env0.grow S1;refine hb H0 B H1 σ γ _ X _ env1 h1 (fun x w H2 h2 S2 t2=>?_) fun c H' hc S'=>qx c H' hc ((S0.trans S1).trans S');have env2:=env1.grow S2;obtain⟨ks,u,k1,k2,k3⟩:=h2;have eu:=NI (t2.rp env2.same) k2;obtain⟨b',rfl,hb'⟩:=Ny (Rp.mono S2 (t1.rp env1.same)) k1;subst eu;refine⟨S2 _ _ (S1 _ _ Uo),b',ks,rfl,hb',q _ _ _ k3 (fun c o hc=>?_) ⟨p,rfl,(fun _ e=>e▸np),Uo⟩⟩
 have:c≠p:=fun e=>by subst e;rw[np] at hc;cases hc
 rw[JX this];exact S2 _ _ (S1 _ _ (S0 _ _ hc))
end
section
variable {X:Cx}{K:Za}
def Nj {tg l:Expr}{tl:TE} (hl:PE X l tl) (hK:X.K=K:=by rfl):PI X tg l (iTup K tl):=by subst hK;exact Zdv hl
end
end Pu
namespace M
open PySem PySem.Spec PyProof.Rows L2 Own Pu
def tD (ms:List Int):D:=.tup (ms.map D.int)
def kT (ms:List Int):List Key:=ms.map Sum.inl
def Ze3 (ms:List Int):arg (tD ms)=.sh (tD ms):=by
 unfold arg tD imm;rw[Tr]
def Tz {N:List Str}{ms:List Int}{ds:List D}:XF N (tD ms::ds)=some (.sh (tD ms))::(ds.map (fun d=>some (arg d))++List.replicate (N.length-(ds.length+1)) none):=by
 unfold XF;rw[YA,Ze3];rfl
def N7 (ms:List Int):P6 (tD ms)=some (kT ms):=by
 show PZ (ms.map D.int)=some (ms.map Sum.inl)
 induction ms with
 | nil=>rfl
 | cons m r ih=>
  rw[YA,YA];unfold PZ;rw[ih];rfl
def Mr (ms:List Int):tupD (some (tD ms))=some (ms.map D.int):=rfl
def JW (ms:List Int) (h:Int):List Int:=ms.filter fun m=>decide (m≠h)
def Kf (ws:List (Int×Int)) (ms:List Int) (h:Int):Bool:=!(ws.any fun q=>decide (q.1=h)&&decide (q.2∈ms))
def firstM (ws:List (Int×Int)) (ms:List Int) (h:Int):Bool:=!(ws.any fun q=>decide (q.2=h)&&decide (q.1∈ms))
def Ui (hs:List Int):List (List Int):=hs.foldl (fun S h=>S++S.map (·++[h])) [[]]
def Pp (hs:List Int) (h:Int):Ui (hs++[h])=Ui hs++(Ui hs).map (·++[h]):=by
 unfold Ui;rw[List.foldl_append];rfl
def PY {P:List Int->Prop} (h0:P []) (h1:∀r h,P r->P (r++[h])) (l:List Int):P l:=by
 have key:∀r:List Int,P r.reverse:=fun r=>by
  induction r with
  | nil=>exact h0
  | cons a r ih=>rw[List.reverse_cons];exact h1 _ _ ih
 rw[←List.reverse_reverse l];exact key _
def EA (hs:List Int):(Ui hs).length=2 ^ hs.length:=by
 refine PY (P:=fun hs=>(Ui hs).length=2 ^ hs.length) rfl (fun r h ih=>?_) hs;rw[Pp,Yv,Yn,ih,Yv,YW,Nat.pow_succ];omega
def Ni (hs:List Int):∀ms∈Ui hs,ms.Sublist hs:=by
 refine PY (P:=fun hs=>∀ms∈Ui hs,ms.Sublist hs) (fun ms h=>?_) (fun r h ih ms hm=>?_) hs
 ·have:ms=[]:=by simpa [Ui] using h
  subst this;exact .slnil
 ·rw[Pp,YL] at hm;rcases hm with hm|hm
  ·exact(ih _ hm).trans (List.sublist_append_left _ _)
  ·obtain⟨n,hn,rfl⟩:=YR.mp hm;exact(ih _ hn).append (List.Sublist.refl _)
def oc (c:Int->Int->Int):List Int->Int
 | []=>0
 | a::r=>(r.map (c a)).sum+oc c r
def Keeps (ws:List (Int×Int)) (o:List Int):Prop:=o.Pairwise fun a b=>(b,a)∉ws
structure Least (ws:List (Int×Int)) (c:Int->Int->Int) (ms:List Int) (v:Int):Prop where
 is:∃o:List Int,o.Perm ms/\Keeps ws o/\oc c o=v
 le:∀o:List Int,o.Perm ms->Keeps ws o->v<=oc c o
def Least.uniq {ws:List (Int×Int)}{c:Int->Int->Int}{ms:List Int}{v u:Int} (h:Least ws c ms v) (k:Least ws c ms u):v=u:=by
 obtain⟨o,o1,o2,o3⟩:=h.is;obtain⟨p,p1,p2,p3⟩:=k.is
 have:=h.le p p1 p2
 have:=k.le o o1 o2
 omega
def NX (c:Int->Int->Int) (l:Int):∀o:List Int,oc c (o++[l])=oc c o+(o.map (c · l)).sum
 | []=>by simp[oc]
 | a::r=>by
  rw[QN];unfold oc;rw[NX c l r];simp only[YC,YA,Vp,List.sum_append,WW,List.sum_nil];omega
def P2 {f:Int->Int}{xs ys:List Int} (h:xs.Perm ys):(xs.map f).sum=(ys.map f).sum:=by
 induction h with
 | nil=>rfl
 | cons x _ ih=>rw[YA,YA,WW,WW,ih]
 | swap x y l=>
  simp only[YA,WW];omega
 | trans _ _ i1 i2=>exact i1.trans i2
def Ks {ms:List Int}{h:Int} (nd:ms.Nodup) (hm:h∈ms):ms.Perm (h::JW ms h):=by
 have e:JW ms h=ms.erase h:=by
  unfold JW;rw[nd.erase_eq_filter];congr 1;funext m;by_cases z:m=h<;>simp[z,bne]
 rw[e];exact List.perm_cons_erase hm
def less_sub {ms:List Int}{h:Int}:(JW ms h).Sublist ms:=Vc
def lastM_iff {ws:List (Int×Int)}{ms:List Int}{h:Int}:Kf ws ms h=true↔∀b∈ms,(h,b)∉ws:=by
 unfold Kf;rw[Vm,Vj];constructor
 ·intro k b hb hw;exact k _ hw (by simp[hb])
 ·intro k q hq z;simp only[Wp,Qq] at z;obtain⟨z1,z2⟩:=z;subst z1;exact k q.2 z2 hq
def firstM_iff {ws:List (Int×Int)}{ms:List Int}{h:Int}:firstM ws ms h=true↔∀b∈ms,(b,h)∉ws:=by
 unfold firstM;rw[Vm,Vj];constructor
 ·intro k b hb hw;exact k _ hw (by simp[hb])
 ·intro k q hq z;simp only[Wp,Qq] at z;obtain⟨z1,z2⟩:=z;subst z1;exact k q.1 z2 hq
def Zfi {ws:List (Int×Int)}{c:Int->Int->Int}{ms:List Int}{vs:Int->Int}{M:Int} (nd:ms.Nodup) (hw:∀q∈ws,q.1≠q.2) (hv:∀l∈ms,Least ws c (JW ms l) (vs l))
  (h1:∃l∈ms,Kf ws ms l=true/\M=vs l+((JW ms l).map (c · l)).sum) (h2:∀l∈ms,Kf ws ms l=true->M<=vs l+((JW ms l).map (c · l)).sum):Least ws c ms M:=by
 constructor
 ·obtain⟨l,hl,hlast,e⟩:=h1;obtain⟨o,o1,o2,o3⟩:=(hv l hl).is;refine⟨o++[l],?_,?_,?_⟩
  ·exact(List.perm_append_singleton l o).trans (((List.Perm.cons l o1)).trans (Ks nd hl).symm)
  ·refine QX.mpr ⟨o2,List.pairwise_singleton _ _,fun a ha b hb=>?_⟩;rw[Yw.mp hb];exact lastM_iff.mp hlast a (less_sub.subset (o1.mem_iff.mp ha))
  ·rw[NX,o3,e,P2 o1]
 ·intro o o1 o2;rcases Wr o with rfl|⟨p,l,rfl⟩
  ·obtain⟨l,hl,_⟩:=h1;rw[o1.nil_eq.symm] at hl;cases hl
  ·rw[W6] at o1 o2 ⊢;have hl:l∈ms:=o1.mem_iff.mp (by simp);obtain⟨k1,_,k2⟩:=QX.mp o2
   have pp:p.Perm (JW ms l):=by
    have:=((List.perm_append_singleton l p).symm.trans o1).trans (Ks nd hl)
    exact this.cons_inv
   have hlast:Kf ws ms l=true:=lastM_iff.mpr fun b hb=>by
    rcases Y4.mp ((Ks nd hl).mem_iff.mp hb) with e|hb'
    ·subst e;exact fun z=>hw _ z rfl
    ·exact k2 b (pp.mem_iff.mpr hb') l (Yw.mpr rfl)
   have a1:=h2 l hl hlast;have a2:=(hv l hl).le p pp k1;rw[NX,P2 pp];omega
def Gx (a b:List Int) (l:Int):JW (a++b) l=JW a l++JW b l:=List.filter_append ..
def GV {a:List Int}{l:Int} (h:l∉a):JW a l=a:=List.filter_eq_self.mpr fun m hm=>Yr fun e=>h (e▸hm)
def Zaa (hs:List Int):∃T,Ui hs=[]::T:=by
 refine PY (P:=fun hs=>∃T,Ui hs=[]::T) ⟨[],rfl⟩ (fun r h ⟨T,e⟩=>?_) hs;rw[Pp,e];exact⟨_,rfl⟩
def Gz (hs:List Int):(Ui hs).getLast?=some hs:=by
 refine PY (P:=fun hs=>(Ui hs).getLast?=some hs) rfl (fun r h e=>?_) hs;rw[Pp,List.getLast?_append,List.getLast?_map,e];rfl
def E3 {hs:List Int}:hs.Nodup->(Ui hs).Nodup:=by
 refine PY (P:=fun hs=>hs.Nodup->(Ui hs).Nodup) (fun _=>by simp[Ui]) (fun r h ih nd=>?_) hs;obtain⟨n1,_,n2⟩:=WB.mp nd;rw[Pp];refine WB.mpr ⟨ih n1,?_,fun a ha b hb e=>?_⟩
 ·exact List.Pairwise.map _ (fun a b hne e=>hne (List.append_cancel_right e)) (ih n1)
 ·obtain⟨c,hc,rfl⟩:=YR.mp hb;subst e;exact n2 h ((Ni r _ ha).subset (by simp)) h (by simp) rfl
def E7 {hs:List Int}:hs.Nodup->∀(k:Nat) (ms:List Int),(Ui hs)[k]?=some ms->∀l∈ms,∃j:Nat,j<k/\(Ui hs)[j]?=some (JW ms l):=by
 refine PY (P:=fun hs=>hs.Nodup->∀(k:Nat) (ms:List Int),(Ui hs)[k]?=some ms->∀l∈ms,∃j:Nat,j<k/\(Ui hs)[j]?=some (JW ms l)) (fun _ k ms e l hl=>?_) (fun r h ih nd k ms e l hl=>?_) hs
 ·have:ms=[]:=by
   have:=YE e
   simpa [Ui] using this
  subst this;cases hl
 ·obtain⟨n1,_,n2⟩:=WB.mp nd;rw[Pp] at e ⊢;by_cases hk:k<(Ui r).length
  ·rw[YQ hk] at e;obtain⟨j,hj,ej⟩:=ih n1 k ms e l hl;exact⟨j,hj,by rw[YQ (by omega)];exact ej⟩
  ·rw[YN (by omega),Y0] at e;cases q:(Ui r)[k-(Ui r).length]? with
   | none=>rw[q] at e;cases e
   | some n=>
    rw[q] at e;cases e
    have hh:h∉n:=fun z=>n2 h ((Ni r n (YE q)).subset z) h (by simp) rfl;by_cases el:l=h
    ·subst el
     have e1:JW (n++[l]) l=n:=by
      rw[Gx,GV hh];simp[JW]
     obtain⟨j,hj,ej⟩:=W9.mp (YE q);refine⟨j,by omega,?_⟩;rw[YQ hj,e1,Yp hj,ej]
    ·have hln:l∈n:=by
      rcases YL.mp hl with z|z
      ·exact z
      ·exact absurd (Yw.mp z) el
     have e1:JW (n++[h]) l=JW n l++[h]:=by
      rw[Gx];congr 1;exact GV fun z=>el (Yw.mp z)
     obtain⟨j,hj,ej⟩:=ih n1 _ n q l hln;refine⟨(Ui r).length+j,by omega,?_⟩;rw[YN (by omega),Y0,Nat.add_sub_cancel_left,ej,e1];rfl
def NS {a b:List Int} (h:kT a=kT b):a=b:=List.map_inj_right (fun _ _=>Sum.inl.inj) |>.mp h
def Hh (hs:List Int) (ws:List (Int×Int)):Prop:=∀ms:List Int,ms.Sublist hs->ms≠[]->∃l∈ms,∀b∈ms,(l,b)∉ws
structure Tab (ws:List (Int×Int)) (c:Int->Int->Int) (S:List (List Int)) (kvs:List (List Key×V)):Prop where
 keys:kvs.map (·.1)=S.map kT
 val:∀ms∈S,∃v,valV kvs (kT ms)=some (.int v)/\Least ws c ms v
def OT (ws:List (Int×Int)) (c:Int->Int->Int):Tab ws c [[]] [([],.int 0)]:=by
 refine⟨rfl,fun ms hm=>?_⟩;rw[Yw.mp hm];refine⟨0,rfl,⟨[],.refl _,.nil,rfl⟩,fun o ho _=>?_⟩;rw[ho.eq_nil];exact QJ _
def Tab.put {ws:List (Int×Int)}{c:Int->Int->Int}{S:List (List Int)}{kvs:List (List Key×V)}{ms:List Int}{v:Int} (T:Tab ws c S kvs) (hn:ms∉S) (L:Least ws c ms v):Tab ws c (S++[ms]) (putK kvs (kT ms) (.int v)):=by
 have no:valV kvs (kT ms)=none:=by
  cases e:valV kvs (kT ms) with
  | none=>rfl
  | some u=>
   unfold valV at e;cases q:kvs.find? (fun kv=>decide (kv.1=kT ms)) with
   | none=>rw[q] at e;cases e
   | some x=>
    have h1:=List.mem_of_find?_eq_some q;have h2:=List.find?_some q;have h3:x.1∈kvs.map (·.1):=YR.mpr ⟨x,h1,rfl⟩;rw[T.keys,Yy h2] at h3;obtain⟨n,hn',e'⟩:=YR.mp h3;rw[NS e'] at hn';exact absurd hn' hn
 constructor
 ·rw[Zb0 _ no,YC,YC,T.keys];rfl
 ·intro n hn';rw[Sn];by_cases e:n=ms
  ·subst e;exact⟨v,Ys rfl,L⟩
  ·rw[Yq fun z=>e (NS z)];rcases YL.mp hn' with z|z
   ·exact T.val n z
   ·exact absurd (Yw.mp z) e
open Classical in
def Ej {ms:List Int}{P:Int->Int->Prop} (h:∀l∈ms,∃v,P l v):∃f:Int->Int,∀l∈ms,P l (f l):=
 ⟨fun l=>if hl:l∈ms then Classical.choose (h l hl) else 0,fun l hl=>by
  simp only[dif_pos hl];exact Classical.choose_spec (h l hl)⟩
def Zdh {ls:List Int}{ws:List (Int×Int)}{r:List Int} (R:Ring ls (ws.map fun q=>(q.2,q.1)) r):Ring ls ws r.reverse:=by
 have sw:∀{x y:Int},(x,y)∈(ws.map fun q=>(q.2,q.1))->(y,x)∈ws:=fun h=>by
  obtain⟨q,hq,e⟩:=YR.mp h;cases e
  exact hq
 refine⟨by rw[Vd];exact R.two,List.pairwise_reverse.mpr (R.nodup.imp fun h=>Ne.symm h),fun x hx=>R.sub x (List.mem_reverse.mp hx),fun i x y h1 h2=>?_,fun x y h1 h2=>?_⟩
 ·have hi:i+1<r.length:=by
   have:=(YF.mp h2).1
   rw[Vd] at this;exact this
  rw[QR (by omega)] at h1 h2;exact sw (R.chain (r.length-1-(i+1)) y x h2 (by rw[←h1];congr 1;omega))
 ·have two:=R.two;rw[QR (by omega)] at h1;rw[Vd,QR (by omega)] at h2;exact sw (R.last y x (by rw[←h2];congr 1;omega) (by rw[←h1];congr 1))
def Cd {hs:List Int}{ws:List (Int×Int)} (hu:∀q∈ws,q.1≠q.2) (h:¬ ∃r,Ring hs ws r):Hh hs ws:=fun ms hm hne=>by
 refine YV fun z=>h ?_
 have h1:∀x∈ms,∃y∈ms,(y,x)∈(ws.map fun q=>(q.2,q.1)):=fun x hx=>by
  refine YV fun k=>z ⟨x,hx,fun b hb hw=>k ⟨b,hb,YR.mpr ⟨_,hw,rfl⟩⟩⟩
 obtain⟨r,R⟩:=EY (ws:=ws.map fun q=>(q.2,q.1)) (fun q hq=>by
  obtain⟨p,hp,e⟩:=YR.mp hq;subst e;exact fun e=>hu p hp e.symm) hne h1
 have F:=Zdh R;exact⟨_,F.two,F.nodup,fun x hx=>hm.subset (F.sub x hx),F.chain,F.last⟩
def Ce:∀{kvs:List (List Key×V)},(kvs.map (·.1)).Nodup->∀p∈kvs,valV kvs p.1=some p.2
 | [],_,p,h=>by cases h
 | q::r,nd,p,h=>by
  rw[YA,YX] at nd;rcases Y4.mp h with e|h
  ·rw[e];exact X9 rfl
  ·rw[XH fun e=>nd.1 (YR.mpr ⟨p,h,e.symm⟩)];exact Ce nd.2 p h
def TabV (ws:List (Int×Int)) (c:Int->Int->Int) (S:List (List Int)) (vs:List Int):Prop:=vs.length=S.length/\∀(i:Nat) (ms:List Int) (v:Int),S[i]?=some ms->vs[i]?=some v->Least ws c ms v
def Tab.vals {ws:List (Int×Int)}{c:Int->Int->Int}{S:List (List Int)}{kvs:List (List Key×V)} (T:Tab ws c S kvs) (nd:S.Nodup):∃vs:List Int,kvs.map (·.2)=vs.map V.int/\TabV ws c S vs:=by
 have nk:(kvs.map (·.1)).Nodup:=by
  rw[T.keys];exact List.Pairwise.map _ (fun a b hne e=>hne (NS e)) nd
 have hk:∀p∈kvs,∃ms∈S,p.1=kT ms/\∃v,p.2=.int v/\Least ws c ms v:=fun p hp=>by
  have h1:p.1∈kvs.map (·.1):=YR.mpr ⟨p,hp,rfl⟩;rw[T.keys] at h1;obtain⟨ms,hm,e⟩:=YR.mp h1;obtain⟨v,h2,h3⟩:=T.val ms hm;rw[e,Ce nk p hp] at h2;exact⟨ms,hm,e.symm,v,Y2 h2,h3⟩
 have hl:kvs.length=S.length:=by
  have:=Wa List.length T.keys
  rw[Yn,Yn] at this;exact this
 refine⟨kvs.map fun p=>match p.2 with | .int v=>v|_=>0,?_,by rw[Yn,hl],fun i ms v h1 h2=>?_⟩
 ·rw[Wg];refine List.map_congr_left fun p hp=>?_;obtain⟨ms,_,_,v,e,_⟩:=hk p hp;show p.2=V.int (match p.2 with | .int v=>v|_=>0)
  rw[e]
 ·rw[Y0] at h2;cases q:kvs[i]? with
  | none=>rw[q] at h2;cases h2
  | some p=>
   rw[q] at h2;obtain⟨ms',hm',e1,u,e2,L⟩:=hk p (YE q);have h3:(kvs.map (·.1))[i]?=some p.1:=by rw[Y0,q];rfl
   rw[T.keys,Y0,h1] at h3;have e3:ms=ms':=NS ((Y2 h3).trans e1);subst e3
   have e4:u=v:=by
    have:=Y2 h2
    simp only[e2] at this;exact this
   rw[←e4];exact L
def G2:∀{kvs:List (List Key×V)}{vs:List Int},kvs.map (·.2)=vs.map V.int->Te kvs=true/\kvs.map (fun p=>vD p.2)=vs.map D.int
 | [],[],_=>⟨rfl,rfl⟩
 | p::r,v::vs,h=>by
  rw[YA,YA,Qm] at h;obtain⟨h1,h2⟩:=G2 h.2;unfold Te;rw[h1,YA,YA,h2,h.1];exact⟨rfl,rfl⟩
structure Best (ws:List (Int×Int)) (c:Int->Int->Int) (ms o:List Int):Prop where
 perm:o.Perm ms
 keeps:Keeps ws o
 le:∀p:List Int,p.Perm ms->Keeps ws p->oc c o<=oc c p
 first:∀p:List Int,p.Perm ms->Keeps ws p->oc c p=oc c o->o=p\/sl o p
def Zfu (ws:List (Int×Int)) (c:Int->Int->Int):Best ws c [] []:=by
 refine⟨.refl _,.nil,fun p hp _=>?_,fun p hp _ _=>.inl hp.eq_nil.symm⟩;rw[hp.eq_nil];exact QJ _
def CB {ws:List (Int×Int)}{c:Int->Int->Int}{ms:List Int}{vs:Int->Int}{V g:Int}{p:List Int} (nd:ms.Nodup) (hu:∀q∈ws,q.1≠q.2) (hv:∀l∈ms,Least ws c (JW ms l) (vs l)) (hV:Least ws c ms V)
  (hp:(g::p).Perm ms) (hk:Keeps ws (g::p)) (e:oc c (g::p)=V):g∈ms/\firstM ws ms g=true/\vs g+((JW ms g).map (c g)).sum=V/\p.Perm (JW ms g)/\oc c p=vs g:=by
 have hg:g∈ms:=hp.mem_iff.mp (YM ..);have pp:p.Perm (JW ms g):=(hp.trans (Ks nd hg)).cons_inv;obtain⟨k1,k2⟩:=WS.mp hk
 have hf:firstM ws ms g=true:=firstM_iff.mpr fun b hb=>by
  rcases Y4.mp ((Ks nd hg).mem_iff.mp hb) with e|hb'
  ·subst e;exact fun z=>hu _ z rfl
  ·exact k1 b (pp.mem_iff.mpr hb')
 have a1:=(hv g hg).le p pp k2;obtain⟨o,o1,o2,o3⟩:=(hv g hg).is;have a2:=hV.le (g::o) ((List.Perm.cons g o1).trans (Ks nd hg).symm) (WS.mpr ⟨fun b hb=>firstM_iff.mp hf b (less_sub.subset (o1.mem_iff.mp hb)),o2⟩);have e1:oc c (g::p)=(p.map (c g)).sum+oc c p:=rfl;have e2:oc c (g::o)=(o.map (c g)).sum+oc c o:=rfl;have s1:=P2 (f:=c g) pp;have s2:=P2 (f:=c g) o1;exact⟨hg,hf,by omega,pp,by omega⟩
def Zcc {ws:List (Int×Int)}{c:Int->Int->Int}{ms o:List Int}{vs:Int->Int}{V f:Int} (nd:ms.Nodup) (hu:∀q∈ws,q.1≠q.2) (hv:∀l∈ms,Least ws c (JW ms l) (vs l)) (hV:Least ws c ms V)
  (hf:f∈ms) (h1:firstM ws ms f=true) (h2:vs f+((JW ms f).map (c f)).sum=V) (h3:∀g∈ms,firstM ws ms g=true->vs g+((JW ms g).map (c g)).sum=V->f<=g) (B:Best ws c (JW ms f) o):Best ws c ms (f::o):=by
 have eo:oc c o=vs f:=by
  obtain⟨p,p1,p2,p3⟩:=(hv f hf).is
  have:=(hv f hf).le o B.perm B.keeps
  have:=B.le p p1 p2
  omega
 have es:=P2 (f:=c f) B.perm
 have e:oc c (f::o)=V:=by
  show(o.map (c f)).sum+oc c o=V;omega
 refine⟨(List.Perm.cons f B.perm).trans (Ks nd hf).symm,WS.mpr ⟨fun b hb=>firstM_iff.mp h1 b (less_sub.subset (B.perm.mem_iff.mp hb)),B.keeps⟩,fun p p1 p2=>?_,fun p p1 p2 p3=>?_⟩
 ·rw[e];exact hV.le p p1 p2
 ·cases p with
  | nil=>rw[p1.nil_eq.symm] at hf;cases hf
  | cons g p=>
   obtain⟨q1,q2,q3,q4,q5⟩:=CB nd hu hv hV p1 p2 (p3.trans e);have hle:=h3 g q1 q2 q3;by_cases eg:f=g
   ·subst eg;rcases B.first p q4 (WS.mp p2).2 (q5.trans eo.symm) with z|z
    ·exact .inl (by rw[z])
    ·exact .inr (sl_cons.mpr z)
   ·exact .inr (.inl (by omega))
end M
namespace Pu
open PySem PySem.Spec PyProof.Rows L2 Own
section
variable {K:Za}{mg:Str->Option Value}{E:L2.St->XK}{H0 H H1 H':Hp}{B Z Z':Addr->Prop}{σ:L2.St}{γ:Γ}
def O.from:O->O->Prop
 | .ins x _ _ cs,.ins x' _ _ cs'=>x'=x/\∀c∈cs,∃c'∈cs',c'.1=c.1
 | .lsA x _,.lsA x' _=>x'=x
 | _,_=>False
def O.from_adr {o o':O}{a:Addr} (h:o.from o'):∀b,o.adr a b->o'.adr a b:=by
 unfold O.from at h
 split at h
 ·intro b hb;rcases hb with hb|⟨c,hc,hb⟩
  ·exact .inl (hb.trans h.1.symm)
  ·obtain⟨c',q1,q2⟩:=h.2 c hc;exact .inr ⟨c',q1,hb.trans q2.symm⟩
 ·intro b hb;exact(show b=_ from hb).trans h.symm
 ·exact h.elim
def O.from_at {o o':O}{a a':Addr}{F F' H H':Hp} (h:o.from o') (h1:OR K F H a o) (h2:OR K F' H' a' o'):a'=a:=by
 unfold O.from at h
 split at h
 ·exact h2.1.trans (h.1.trans h1.1.symm)
 ·exact h2.1.trans (h.trans h1.1.symm)
 ·exact h.elim
abbrev Pw:=O->List S->(O->D->Prop)->(O->Str->Prop)->Prop
def S.pass:S->Option S
 | .sh d=>some (.sh d) | .own o=>some (.sh o.d)
 | .bor d=>match imm d with|true=>some (.sh d)|false=>some (.bor d)
 | .tmp d=>match imm d with|true=>some (.sh d)|false=>none
 | .view _=>none
def S.flat:S->Prop
 | .sh _=>True | .bor _=>True|_=>False
def passes:List S->Option (List S)
 | []=>some []
 | s::r=>match s.pass,passes r with|some s',some r'=>some (s'::r')|_,_=>none
structure After (K:Za) (B:Addr->Prop) (H:Hp) (a:Addr) (o o':O) (H':Hp):Prop where
 same:Same (off (o.adr a) H) H'
 old:∀b,o.adr a b->o'.adr a b
 new:∀b,o'.adr a b->o.adr a b\/H b=none
 at_:OR K (off (fun b=>B b\/o'.adr a b) H') H' a o'
def spW (mg:Str->Option Value) (c:Pw) (K:Za):Sp:=fun vs H Q E=>∃(o:O) (a:Addr) (ss:List S) (us:List V) (B:Addr->Prop) (R:O->D->Prop) (X:O->Str->Prop),
 vs=.ref a::us/\(∀b,B b->Mut (H b)/\¬o.adr a b)/\OR K (off (fun b=>B b\/o.adr a b) H) H a o/\TVs K (fun b=>B b\/o.adr a b) (off (o.adr a) H) H H ss us/\(∀s∈ss,s.flat)/\c o ss R X/\
 (∀o' d v H',R o' d->After K B H a o o' H'->Rp K (off (fun b=>B b\/o'.adr a b) H') d v->Q v H')/\∀o' e H',X o' e->After K B H a o o' H'->E (.ref (ExcR.JB mg e)) none H'
def TVs.get:∀{ss:List S}{vs:List V}{i:Nat}{s:S},TVs K Z H0 H H' ss vs->ss[i]?=some s->∃v,vs[i]?=some v/\TV K Z H0 H H' s v
 | _,_,_,_,.nil,e=>by simp at e
 | _,_,0,_,.cons h _,e=>by simp at e;subst e;exact⟨_,rfl,h⟩
 | _,_,i+1,s,.cons _ r,e=>by
  obtain⟨v,h1,h2⟩:=TVs.get (i:=i) (s:=s) r (by simpa using e);exact⟨v,by simpa using h1,h2⟩
def KE (N:List Str) (o:O) (ss:List S):Γ:=some (.own o)::(ss.map some++List.replicate (N.length-(ss.length+1)) none)
def Zfs {N:List Str}{o:O}{a:Addr}{ss:List S}{us:List V} (hB:∀b,B b->Mut (H b)/\¬o.adr a b) (ho:OR K (off (fun b=>B b\/o.adr a b) H) H a o) (r:TVs K (fun b=>B b\/o.adr a b) (off (o.adr a) H) H H ss us) (hf:∀s∈ss,s.flat) (hn:ss.length+1<=N.length) :
  EnvR K (off (o.adr a) H) B H (start N (.ref a::us)) (KE N o ss):=by
 have hlen:=r.len
 have get:∀(i:Nat) (s:S),(KE N o ss)[i+1]?=some (some s)->ss[i]?=some s:=fun i s h=>by
  unfold KE at h;rw[Wf] at h;by_cases hi:i<ss.length
  ·rw[YQ (by rw[Yn];exact hi),Y0,Yp hi] at h;rw[Yp hi];exact Wa some (Y2 (Y2 h))
  ·rw[YN (by rw[Yn];omega),WN] at h;split at h<;>cases h
 have noown:∀(i:Nat) (es:O),(KE N o ss)[i+1]?≠some (some (.own es)):=fun i es h=>hf _ (YE (get i _ h))
 have st0:(start N (V.ref a::us))[0]?=some (some (.ref a)):=by
  unfold L2.start;rfl
 have hz:∀b,zof B (KE N o ss) (start N (V.ref a::us)) b->B b\/o.adr a b:=fun b z=>by
  rcases z with z|⟨i,es,a',h1,h2,h3⟩
  ·exact .inl z
  ·cases i with
   | zero=>
    rw[st0] at h2;cases h2
    have:o=es:=by
     have h1:some (some (S.own o))=some (some (S.own es)):=h1;cases h1
     rfl
    subst this;exact .inr h3
   | succ i=>exact absurd h1 (noown i es)
 refine⟨off_sub,?_,fun b h=>(hB b h).1,fun i j x x' es es' b h1 h2 _ _ _ _=>?_,fun i s h=>?_⟩
 ·unfold L2.start KE;simp[hlen]
 ·cases i with
  | succ i=>exact absurd h1 (noown i es)
  | zero=>
   cases j with
   | zero=>rfl
   | succ j=>exact absurd h2 (noown j es')
 ·cases i with
  | zero=>
   have h:some (some (S.own o))=some (some s):=h;cases h
   refine⟨_,st0,a,rfl,fun b hb=>?_,ho.mono (JS (Same.refl _) fun b _ _ z y=>z (hz b y)) fun _ _ _ q=>q⟩;unfold off;rw[Ys hb]
  | succ i=>
   have hs:=get i s h;obtain⟨v,hv,tv⟩:=r.get hs;refine⟨v,?_,?_⟩
   ·unfold L2.start;rw[YQ (by rw[Yn,YD];have:=(YF.mp hv).1;omega),Y0,Wf,hv];rfl
   ·have:=hf s (YE hs)
    cases s with
    | bor d=>exact tv
    | sh d=>exact Rp.mono (JS (Same.refl _) fun b _ _ z y=>z (hz b y)) tv
    | own _=>exact this.elim
    | view _=>exact this.elim
    | tmp _=>exact this.elim
def finW (o:O) (R:O->D->Prop) (γ:Γ) (d:D):Prop:=∃o',γ[0]?=some (some (.own o'))/\o.from o'/\R o' d
def finX (o:O) (X:O->Str->Prop) (γ:Γ) (e:Str):Prop:=∃o',γ[0]?=some (some (.own o'))/\o.from o'/\X o' e
def DH (o:O) (R:O->D->Prop) (X:O->Str->Prop):PEnds:={ nx:=fun γ=>finW o R γ .non,rt:=fun _=>False,ex:=finX o X,rv:=finW o R }
def BZ {a:Addr}{o o':O}{σ':L2.St}{γ':Γ} (ho:OR K (off (fun b=>B b\/o.adr a b) H) H a o) (e:EnvR K (off (o.adr a) H) B H' σ' γ') (h:γ'[0]?=some (some (.own o'))) (k:o.from o'):After K B H a o o' H'/\∀b,B b\/o'.adr a b->zof B γ' σ' b:=by
 obtain⟨v,h1,a',rfl,h2,h3⟩:=e.slot 0 _ h;have ea:=O.from_at k ho h3;subst ea;have hz:∀b,B b\/o'.adr a' b->zof B γ' σ' b:=fun b z=>z.imp id fun z=>⟨0,o',a',h,h1,z⟩;refine⟨⟨e.same,O.from_adr k,fun b hb=>?_,h3.mono (JS (Same.refl _) fun b _ _ z y=>z (hz b y)) fun _ _ _ q=>q⟩,hz⟩
 have:=h2 b hb
 unfold off at this;by_cases q:o.adr a' b
 ·exact .inl q
 ·rw[Yq q] at this;exact .inr this
def MD {c:Pw}{N:List Str}{t:TS}{p:PTS}{vs:List V}{Q:VK}{Ec:XK}{n:Nat} (h:spW mg c K vs H Q Ec) (snd:SndS K mg (fun _=>Ec) t p) (hn:n+1<=N.length)
  (hp:∀o ss R X,c o ss R X->ss.length=n/\p (DH o R X) (KE N o ss)):t { nx:=fun _ H'=>Q .non H',rt:=Q } (start N vs) H:=by
 obtain⟨o,a,ss,us,B,R,X,rfl,hB,ho,r,hf,hc,hQ,hX⟩:=h;obtain⟨e,hp⟩:=hp o ss R X hc;have env:=Zfs (N:=N) hB ho r hf (by rw[e];exact hn);refine snd _ B H _ _ _ _ (fun b z=>?_) env hp ⟨fun σ' γ' H' h1 e1 f1=>?_,fun _ _ _ z=>z.elim,fun σ' γ' c H' h1 e1 f1=>?_,fun _ _ _ z=>z.elim,fun _ _ _ z=>z.elim,fun σ' γ' d v H' h1 e1 f1 rd=>?_⟩
 ·obtain⟨q1,q2⟩:=hB b z;obtain⟨x,hx⟩:=Kq q1;exact⟨x,U4 hx q2⟩
 ·obtain⟨o',q1,q2,q3⟩:=h1;exact hQ o' .non .non H' q3 (BZ ho e1 q1 q2).1 .non
 ·obtain⟨o',q1,q2,q3⟩:=h1;exact hX o' c H' q3 (BZ ho e1 q1 q2).1
 ·obtain⟨o',q1,q2,q3⟩:=h1;obtain⟨k1,k2⟩:=BZ ho e1 q1 q2;exact hQ o' d v H' q3 k1 (Rp.mono (JS (Same.refl _) fun b _ _ z y=>z (k2 b y)) rd)
def Zcp {c:Pw}{vs:List V}{Q:VK}{Ec:XK}{n:Nat} (h:spW mg c K vs H Q Ec) (hn:∀o ss R X,c o ss R X->ss.length=n):vs.length=n+1:=by
 obtain⟨o,a,ss,us,B,R,X,rfl,_,_,r,_,hc,_⟩:=h;rw[YD,r.len,hn o ss R X hc]
abbrev PTW:=Γ->(Γ->D->Prop)->(Γ->Str->Prop)->Prop
def SndW (K:Za) (mg:Str->Option Value) (E:L2.St->XK) (t:TE) (p:PTW):Prop:=∀(H0:Hp) (B:Addr->Prop) (H:Hp) (σ:L2.St) (γ:Γ) (R:Γ->D->Prop) (X:Γ->Str->Prop) (Q:VK),(∀b,B b->∃o,H0 b=some o)->EnvR K H0 B H σ γ->p γ R X->
 (∀γ' d v H',R γ' d->EnvR K H0 B H' σ γ'->Fr B H σ γ H' σ γ'->Rp K (off (zof B γ' σ) H') d v->Q v H')->(∀γ' c H',X γ' c->EnvR K H0 B H' σ γ'->Fr B H σ γ H' σ γ'->E σ (.ref (ExcR.JB mg c)) none H')->t σ H Q
variable {te:TE}{w:PTW}
def Iw (w:PTW) (g:PTG):PTS:=fun R γ=>w γ (fun γ' d=>g (.sh d) γ' R.nx) R.ex
def FI {is:List Nat}{g:TG}{pg:PTG} (hw:SndW K mg E te w) (hg:Pg K is g pg):SndS K mg E (tAsg te g) (Iw w pg):=by
 intro H0 B H σ γ R D hB env h e;refine hw H0 B H σ γ _ _ _ hB env h (fun γ' d v H1 h1 e1 f1 rd=>?_) fun γ' c H' hc e' f'=>e.ex σ γ' c H' hc e' f';exact hg H0 B H1 H1 σ γ' (.sh d) v _ _ e1 (Same.refl _) rd h1 fun σ2 γ2 h2 e2 f2 _=>e.nx σ2 γ2 H1 h2 e2 (f1.trans f2)
def Ob (w:PTW):PTS:=fun R γ=>w γ (fun γ' _=>R.nx γ') R.ex
def Kx (hw:SndW K mg E te w):SndS K mg E (Sk te) (Ob w):=by
 intro H0 B H σ γ R D hB env h e;exact hw H0 B H σ γ _ _ _ hB env h (fun γ' d v H1 h1 e1 f1 _=>e.nx σ γ' H1 h1 e1 f1) fun γ' c H' hc e' f'=>e.ex σ γ' c H' hc e' f'
def Zew (w:PTW):PTS:=fun R γ=>w γ R.rv R.ex
def XW (hw:SndW K mg E te w):SndS K mg E (tRet te) (Zew w):=by
 intro H0 B H σ γ R D hB env h e;exact hw H0 B H σ γ _ _ _ hB env h (fun γ' d v H1 h1 e1 f1 rd=>e.rv σ γ' d v H1 h1 e1 f1 rd) fun γ' c H' hc e' f'=>e.ex σ γ' c H' hc e' f'
def RK (a:PTE):PTS:=fun R γ=>a γ (fun s=>match s.shd with|some d=>R.rv γ d|none=>False) (R.ex γ)
def Kz {a:PTE} (ha:SndE K mg E te a):SndS K mg E (tRet te) (RK a):=by
 intro H0 B H σ γ R D hB env h e;refine ha H0 B H σ γ _ _ _ env h (fun s v H1 h1 S1 t1=>?_) fun c H' hc S'=>e.ex σ γ c H' hc (env.grow S') (Fr.grow S');split at h1
 ·rename_i d ed;exact e.rv σ γ d v H1 h1 (env.grow S1) (Fr.grow S1) (t1.shd (env.grow S1).same env.zm S1 ed)
 ·exact h1.elim
def M0 {s s':S} (h:s.pass=some s'):s'.flat:=by
 cases s with
 | sh d=>cases h;trivial
 | own o=>cases h;trivial
 | bor d=>unfold S.pass at h;cases q:imm d<;>simp[q] at h<;>subst h<;>trivial
 | tmp d=>
  unfold S.pass at h;cases q:imm d<;>simp[q] at h
  subst h;trivial
 | view o=>cases h
def TK:∀{ss ss':List S},passes ss=some ss'->∀s∈ss',s.flat
 | [],_,h=>by cases h;simp
 | s::r,_,h=>by
  unfold passes at h;split at h
  ·rename_i s1 r1 e1 e2;cases h
   intro x hx;rcases Y4.mp hx with rfl|hx
   ·exact M0 e1
   ·exact TK e2 x hx
  ·cases h
def TV.pass {s s':S}{v:V}{P W:Addr->Prop}{HB:Hp} (h0:Same H0 H') (hm:∀b,Z b->Mut (H b)) (S1:Same H H') (hb:Same H0 (off P HB)) (hs:Same (off Z H') (off W HB)) (h:TV K Z H0 H H' s v) (e:s.pass=some s'):TV K W (off P HB) HB HB s' v:=by
 have shd:∀d,s.shd=some d->Rp K (off W HB) d v:=fun d ed=>Rp.mono hs (h.shd h0 hm S1 ed);cases s with
 | sh d=>cases e;exact shd _ rfl
 | own o=>cases e;exact shd _ rfl
 | view o=>cases e
 | tmp d=>
  unfold S.pass at e;cases q:imm d with
  | false=>simp[q] at e
  | true=>simp[q] at e;subst e;exact shd d (by unfold S.shd;simp[q])
 | bor d=>
  unfold S.pass at e;cases q:imm d with
  | false=>simp[q] at e;subst e;exact Rp.mono hb h
  | true=>simp[q] at e;subst e;exact shd d (by unfold S.shd;simp[q])
def TVs.pass {P W:Addr->Prop}{HB:Hp} (h0:Same H0 H') (hm:∀b,Z b->Mut (H b)) (S1:Same H H') (hb:Same H0 (off P HB)) (hs:Same (off Z H') (off W HB)):∀{ss ss':List S}{vs:List V},TVs K Z H0 H H' ss vs->passes ss=some ss'->TVs K W (off P HB) HB HB ss' vs
 | _,_,_,.nil,e=>by cases e;exact .nil
 | _,_,_,.cons h r,e=>by
  unfold passes at e;split at e
  ·rename_i s1 r1 e1 e2;cases e
   exact .cons (h.pass h0 hm S1 hb hs e1) (TVs.pass h0 hm S1 hb hs r e2)
  ·cases e
def BY {c:Pw}{i:Nat}{o:O}{a:Addr}{ss ss':List S}{us:List V}{R:Γ->D->Prop}{X:Γ->Str->Prop}{Q:VK}{Ec:XK} (env:EnvR K H0 B H σ γ) (hB:∀b,B b->∃o,H0 b=some o) (S1:Same H H1) (hi:γ[i]?=some (some (.own o))) (ha:σ[i]?=some (some (.ref a)))
  (t1:TVs K (zof B γ σ) H0 H H1 ss us) (hp:passes ss=some ss') (hc:c o ss' (fun o' d=>R (γ.set i (some (.own o'))) d) (fun o' e=>X (γ.set i (some (.own o'))) e))
  (q:∀γ' d v H',R γ' d->EnvR K H0 B H' σ γ'->Fr B H σ γ H' σ γ'->Rp K (off (zof B γ' σ) H') d v->Q v H') (qx:∀γ' c H',X γ' c->EnvR K H0 B H' σ γ'->Fr B H σ γ H' σ γ'->Ec (.ref (ExcR.JB mg c)) none H'):spW mg c K (.ref a::us) H1 Q Ec:=by
 have env1:=env.grow S1;obtain⟨v,h1,a',ev,h3,h4⟩:=env1.slot i _ hi;rw[ha] at h1;cases h1
 cases ev
 have za:∀b,o.adr a b->zof B γ σ b:=fun b hb=>.inr ⟨i,o,a,hi,ha,hb⟩
 have aft:∀o' H',After K (fun b=>zof B γ σ b/\¬o.adr a b) H1 a o o' H'->EnvR K H0 B H' σ (γ.set i (some (.own o')))/\Fr B H σ γ H' σ (γ.set i (some (.own o')))/\∀b x,H' b=some x->¬((zof B γ σ b/\¬o.adr a b)\/o'.adr a b)->¬zof B (γ.set i (some (.own o'))) σ b:=fun o' H' A=>by
  have hzz:∀b x,H' b=some x->¬((zof B γ σ b/\¬o.adr a b)\/o'.adr a b)->¬zof B (γ.set i (some (.own o'))) σ b:=fun b x _ n z=>by
   rcases z with z|⟨j,fs,a',e1,e2,e3⟩
   ·refine n (.inl ⟨.inl z,fun w=>?_⟩);obtain⟨u,hu⟩:=hB b z;rw[h3 b w] at hu;cases hu
   ·rcases Uv e1 with⟨ej,q,_⟩|⟨nj,q⟩
    ·subst ej;cases q
     rw[ha] at e2;cases e2
     exact n (.inr e3)
    ·exact n (.inl ⟨.inr ⟨j,fs,a',q,e2,e3⟩,fun w=>nj (env.own j i a' a fs o b q hi e2 ha e3 w)⟩)
  obtain⟨k1,k2⟩:=env1.change (o':=o') (H':=H') hi ha (fun b x hx n=>A.same b x (U4 hx n)) (fun b hb=>A.at_.mut b (A.old b hb)) A.new (A.at_.mono (JS (Same.refl _) fun b x hx z=>hzz b x hx z) fun _ _ _ q=>q);exact⟨k1,(Fr.grow S1).trans k2,hzz⟩
 refine⟨o,a,ss',us,fun b=>zof B γ σ b/\¬o.adr a b,_,_,rfl,fun b hb=>⟨env1.zm b hb.1,hb.2⟩,h4.mono (JS (Same.refl _) fun b _ _ z y=>z (y.elim (fun y=>y.1) (za b))) fun _ _ _ q=>q,?_,TK hp,hc,fun o' d v H' hR A rd=>?_,fun o' e H' hX A=>?_⟩
 ·refine t1.pass env1.same env.zm S1 (fun b x hx=>U4 (env1.same b x hx) fun w=>?_) (JS (Same.refl _) fun b _ _ z y=>z (y.elim (fun y=>y.1) (za b))) hp;rw[h3 b w] at hx;cases hx
 ·obtain⟨k1,k2,k3⟩:=aft o' H' A;exact q _ d v H' hR k1 k2 (Rp.mono (fun b x h=>let ⟨p1,p2⟩:=XM h;U4 p1 (k3 b x p1 p2)) rd)
 ·obtain⟨k1,k2,_⟩:=aft o' H' A;exact qx _ e H' hX k1 k2
def Zf3 (i:Nat) (c:Pw) (r:PTA):PTW:=fun γ R X=>match γ[i]? with
 | some (some (.own o))=>r γ (fun ss=>match passes ss with|some ss'=>c o ss' (fun o' d=>R (γ.set i (some (.own o'))) d) (fun o' e=>X (γ.set i (some (.own o'))) e)|none=>False) (X γ)
 | _=>False
def AF (i:Nat) (c:Pw) (r:PTA):PTW:=fun γ R X=>match γ[i]? with
 | some (some (.own o))=>r γ (fun ss=>match passes ss with|some ss'=>c o ss' (fun o' d=>R (γ.set i (some (.own o'))) d) (fun _ _=>False)|none=>False) (X γ)
 | _=>False
def OF (i:Nat) {c:Pw}{ta:TA}{r:PTA} (hr:SndA K mg E ta r):SndW K mg E (KC (spW mg c K) [] E0 (UO (tVar i) ta)) (AF i c r):=by
 intro H0 B H σ γ R X Q hB env h q qx;unfold AF at h;split at h
 ·rename_i o hi;obtain⟨v,hv,a,rfl,_,_⟩:=env.slot i _ hi;refine⟨_,hv,hr H0 B H σ γ _ _ _ env h (fun ss us H1 h1 S1 t1=>?_) fun c H' hc S'=>qx γ c H' hc (env.grow S') (Fr.grow S')⟩;show spW mg c K ((V.ref a::us)++[]) H1 Q E0;rw[Wc];split at h1
  ·rename_i ss' ep;exact BY (X:=fun _ _=>False) env hB S1 hi hv t1 ep h1 q fun _ _ _ z=>z.elim
  ·exact h1.elim
 ·exact h.elim
def fFld (C:Addr) (xs:List Str) (j:Nat):S->(S->Prop)->Prop
 | .view (.ins _ C' xs' cs),R=>C'=C/\xs'=xs/\∃c,cs[j]?=some c/\R (.view (.lst c.2))
 | .bor (.ins C' xs' ds),R=>C'=C/\xs'=xs/\∃d,ds[j]?=some d/\R (arg d)
 | _,_=>False
def pFld (C:Addr) (xs:List Str) (j:Nat) (a:PTE):PTE:=fun γ R X=>a γ (fun s=>fFld C xs j s R) X
def Rp.ins_inv {C:Addr}{xs:List Str}{ds:List D}{v:V} (h:Rp K H (.ins C xs ds) v):∃a dx vs,v=.ref a/\H a=some (.ins C dx (xs.zip vs))/\xs.length=vs.length/\Rps K H ds vs:=by
 cases h with
 | ins h e r=>exact⟨_,_,_,rfl,h,e,r⟩
def P9 (f:Str) (xs:List Str) (j:Nat):Prop:=∀vs:List V,xs.length=vs.length->(xs.zip vs).lookup f=vs[j]?
def PJ {C:Addr}{f:Str}{xs:List Str} (j:Nat) {a:PTE} (hc:Cls K C) (hn:NoAttr K C f) (hj:P9 f xs j) (ha:SndE K mg E te a):SndE K mg E (tFld K te f) (pFld C xs j a):=by
 intro H0 B H σ γ R X Q env p q qx;refine ha H0 B H σ γ _ X _ env p (fun s v H1 h1 S1 t1=>?_) qx;have env1:=env.grow S1;unfold fFld at h1;split at h1
 ·rename_i x C' xs' cs;obtain⟨rfl,rfl,c,ec,hR⟩:=h1;obtain⟨b,rfl,e1,e2,⟨dx,e3⟩,e4,e5⟩:=t1;obtain⟨us,u1,u2⟩:=e4 c (YE ec);refine⟨b,_,dx,_,_,rfl,e3,hc,hn,?_,q _ _ H1 hR S1 ⟨c.1,rfl,us,u1,u2⟩⟩;rw[hj _ (by rw[Yn];exact e2),Y0,ec];rfl
 ·rename_i C' xs' ds;obtain⟨rfl,rfl,d,ed,hR⟩:=h1;obtain⟨b,dx,vs,rfl,e1,e2,e3⟩:=Rp.ins_inv (show Rp K H0 (.ins C' xs' ds) v from t1)
  obtain⟨u,hu,ru⟩:=e3.get ed;refine⟨b,_,dx,_,u,rfl,env1.same _ _ e1,hc,hn,by rw[hj _ e2];exact hu,q _ _ H1 hR S1 (argR env1.zm env1.same ru)⟩
 ·exact h1.elim
def Dt (C:Addr) (xs:List Str) (c:Pc) (a:PTE) (r:PTA):PTE:=fun γ R X=>a γ (fun s=>match s.d with
 | .ins C' xs' ds=>C'=C/\xs'=xs/\r γ (fun ss=>c (.ins C' xs' ds::ss.map S.d) (fun s=>R s.back) X) X
 | _=>False) X
def UT (m:Str) (xs:List Str):Prop:=∀vs:List V,(xs.zip vs).lookup m=none
def Fk (C:Addr) (m:Str) (sp:Sp) (E:L2.St->XK) (ta:TE) (t:TA):TE:=fun σ H Q=>ta σ H fun x H1=>∃a dx fs,x=.ref a/\H1 a=some (.ins C dx fs)/\fs.lookup m=none/\t σ H1 fun vs H2=>sp (x::(vs++[])) H2 Q (E σ)
def HI {C:Addr}{m:Str}{xs:List Str}{c:Pc}{ta:TA}{a:PTE}{r:PTA} (hx:UT m xs) (ha:SndE K mg E te a) (hr:SndA K mg E ta r):SndE K mg E (Fk C m (spOf mg c K) E te ta) (Dt C xs c a r):=by
 intro H0 B H σ γ R X Q env p q qx;refine ha H0 B H σ γ _ X _ env p (fun s v H1 h1 S1 t1=>?_) qx;have env1:=env.grow S1;split at h1
 ·rename_i C' xs' ds ed;obtain⟨rfl,rfl,h1⟩:=h1;have rs:=t1.rp env1.same;rw[ed] at rs;obtain⟨b,dx,vs,rfl,e1,e2,e3⟩:=Rp.ins_inv rs;refine⟨b,dx,_,rfl,e1,hx vs,hr H0 B H1 σ γ _ X _ env1 h1 (fun ss us H2 h2 S2 t2=>?_) fun c H' hc S'=>qx c H' hc (S1.trans S')⟩;have env2:=env1.grow S2;rw[Wc];refine⟨_,_,X,Rps.cons (Rp.mono S2 rs) (t2.rps env2.same),h2,fun s v H' hs S3 tv=>q _ _ H' hs ((S1.trans S2).trans S3) (tv.back env2 (S1.trans S2) S3),fun e H' he S3=>qx e H' he ((S1.trans S2).trans S3)⟩
 ·exact h1.elim
def Ng {C:Addr}{m:Str}{xs:List Str}{c:Pc}{ta:TA}{a:PTE}{r:PTA}{Ec:XK} (hx:UT m xs) (ha:SndE K mg (fun _=>Ec) te a) (hr:SndA K mg (fun _=>Ec) ta r):SndE K mg (fun _=>Ec) (K7 C m (spOf mg c K) [] Ec te ta) (Dt C xs c a r):=HI (E:=fun _=>Ec) hx ha hr
def Ze6 (C:Addr) (xs:List Str) (c:Pc) (a:PTE) (r:PTA):PTE:=fun γ R X=>a γ (fun s=>match s.d with
 | .ins C' xs' ds=>C'=C/\xs'=xs/\r γ (fun ss=>c (.ins C' xs' ds::ss.map S.d) (fun s=>R s.back) fun _=>False) X
 | _=>False) X
def UE {C:Addr}{m:Str}{xs:List Str}{c:Pc}{ta:TA}{a:PTE}{r:PTA} (hx:UT m xs) (ha:SndE K mg E te a) (hr:SndA K mg E ta r):SndE K mg E (K7 C m (spOf mg c K) [] E0 te ta) (Ze6 C xs c a r):=by
 intro H0 B H σ γ R X Q env p q qx;refine ha H0 B H σ γ _ X _ env p (fun s v H1 h1 S1 t1=>?_) qx;have env1:=env.grow S1;split at h1
 ·rename_i C' xs' ds ed;obtain⟨rfl,rfl,h1⟩:=h1;have rs:=t1.rp env1.same;rw[ed] at rs;obtain⟨b,dx,vs,rfl,e1,e2,e3⟩:=Rp.ins_inv rs;refine⟨b,dx,_,rfl,e1,hx vs,hr H0 B H1 σ γ _ X _ env1 h1 (fun ss us H2 h2 S2 t2=>?_) fun c H' hc S'=>qx c H' hc (S1.trans S')⟩;have env2:=env1.grow S2;rw[Wc];exact⟨_,_,_,Rps.cons (Rp.mono S2 rs) (t2.rps env2.same),h2,fun s v H' hs S3 tv=>q _ _ H' hs ((S1.trans S2).trans S3) (tv.back env2 (S1.trans S2) S3),fun _ _ z=>z.elim⟩
 ·exact h1.elim
def FF (i:Nat) (C:Addr) (xs:List Str) (c:Pw) (r:PTA):PTW:=fun γ R X=>match γ[i]? with
 | some (some (.own (.ins x C' xs' cs)))=>C'=C/\xs'=xs/\r γ (fun ss=>match passes ss with|some ss'=>c (.ins x C' xs' cs) ss' (fun o' d=>R (γ.set i (some (.own o'))) d) (fun o' e=>X (γ.set i (some (.own o'))) e)|none=>False) (X γ)
 | _=>False
def Cb (i:Nat) {C:Addr}{m:Str}{xs:List Str}{c:Pw}{ta:TA}{r:PTA} (hx:UT m xs) (hr:SndA K mg E ta r):SndW K mg E (Fk C m (spW mg c K) E (tVar i) ta) (FF i C xs c r):=by
 intro H0 B H σ γ R X Q hB env h q qx;unfold FF at h;split at h
 ·rename_i x C' xs' cs hi;obtain⟨rfl,rfl,h⟩:=h;obtain⟨v,hv,a,rfl,_,e1,e2,⟨dx,e3⟩,e4⟩:=env.slot i _ hi;refine⟨_,hv,a,dx,_,rfl,e3,hx _,hr H0 B H σ γ _ _ _ env h (fun ss us H1 h1 S1 t1=>?_) fun c H' hc S'=>qx γ c H' hc (env.grow S') (Fr.grow S')⟩;rw[Wc];split at h1
  ·rename_i ss' ep;exact BY env hB S1 hi hv t1 ep h1 q qx
  ·exact h1.elim
 ·exact h.elim
def Tp (i:Nat) {C:Addr}{m:Str}{xs:List Str}{c:Pw}{ta:TA}{r:PTA}{Ec:XK} (hx:UT m xs) (hr:SndA K mg (fun _=>Ec) ta r):SndW K mg (fun _=>Ec) (K7 C m (spW mg c K) [] Ec (tVar i) ta) (FF i C xs c r):=Cb (E:=fun _=>Ec) i hx hr
def Gg (i:Nat) (C:Addr) (xs:List Str) (c:Pw) (r:PTA):PTW:=fun γ R X=>match γ[i]? with
 | some (some (.own (.ins x C' xs' cs)))=>C'=C/\xs'=xs/\r γ (fun ss=>match passes ss with|some ss'=>c (.ins x C' xs' cs) ss' (fun o' d=>R (γ.set i (some (.own o'))) d) (fun _ _=>False)|none=>False) (X γ)
 | _=>False
def Tc (i:Nat) {C:Addr}{m:Str}{xs:List Str}{c:Pw}{ta:TA}{r:PTA} (hx:UT m xs) (hr:SndA K mg E ta r):SndW K mg E (K7 C m (spW mg c K) [] E0 (tVar i) ta) (Gg i C xs c r):=by
 intro H0 B H σ γ R X Q hB env h q qx;unfold Gg at h;split at h
 ·rename_i x C' xs' cs hi;obtain⟨rfl,rfl,h⟩:=h;obtain⟨v,hv,a,rfl,_,e1,e2,⟨dx,e3⟩,e4⟩:=env.slot i _ hi;refine⟨_,hv,a,dx,_,rfl,e3,hx _,hr H0 B H σ γ _ _ _ env h (fun ss us H1 h1 S1 t1=>?_) fun c H' hc S'=>qx γ c H' hc (env.grow S') (Fr.grow S')⟩;rw[Wc];split at h1
  ·rename_i ss' ep;exact BY (X:=fun _ _=>False) env hB S1 hi hv t1 ep h1 q fun _ _ _ z=>z.elim
  ·exact h1.elim
 ·exact h.elim
def A4 {α:Type}:∀{l:List α}{i j:Nat}{x:α},l.Nodup->l[i]?=some x->l[j]?=some x->i=j
 | [],_,_,_,_,h,_=>by simp at h
 | y::r,0,0,_,_,_,_=>rfl
 | y::r,0,j+1,x,hn,h1,h2=>by
  have e:y=x:=by simpa using h1
  exact absurd (e▸YE (show r[j]?=some x by simpa using h2)) (YX.mp hn).1
 | y::r,i+1,0,x,hn,h1,h2=>by
  have e:y=x:=by simpa using h2
  exact absurd (e▸YE (show r[i]?=some x by simpa using h1)) (YX.mp hn).1
 | y::r,i+1,j+1,x,hn,h1,h2=>Wa (· + 1) (A4 (l:=r) (YX.mp hn).2 (by simpa using h1) (by simpa using h2))
def EnvR.cell {i j:Nat}{x C:Addr}{xs:List Str}{cs:List (Addr×List D)}{b:Addr}{ds es:List D}{us:List V} (env:EnvR K H0 B H σ γ) (hi:γ[i]?=some (some (.own (.ins x C xs cs)))) (hj:cs[j]?=some (b,ds)) (r:Rps K (off (zof B γ σ) H) es us) :
  EnvR K H0 B (upd H b (.lst us)) σ (γ.set i (some (.own (.ins x C xs (cs.set j (b,es))))))/\Fr B H σ γ (upd H b (.lst us)) σ (γ.set i (some (.own (.ins x C xs (cs.set j (b,es)))))):=by
 obtain⟨v,hv,a,rfl,e0,e1,e2,⟨dx,e3⟩,e4,e5⟩:=env.slot i _ hi;subst e1;have hjl:j<cs.length:=(YF.mp hj).1;have hbm:(b,ds)∈cs:=YE hj
 have hab:a≠b:=fun z=>by
  obtain⟨ws,w1,_⟩:=e4 _ hbm;rw[←show a=b from z,e3] at w1
  cases w1
 have em:(cs.set j (b,es)).map (·.1)=cs.map (·.1):=by
  apply Vl;intro k;rw[Y0,Y0,List.getElem?_set];by_cases e:j=k
  ·subst e;rw[Ys rfl,Ys hjl,hj];rfl
  ·rw[Yq e]
 have em2:(cs.set j (b,es)).map (fun c=>V.ref c.1)=cs.map fun c=>V.ref c.1:=by
  have:=Wa (List.map V.ref) em
  rw[Wg,Wg] at this;exact this
 have adr:∀c,(O.ins a C xs (cs.set j (b,es))).adr a c->(O.ins a C xs cs).adr a c:=fun c hc=>by
  rcases hc with hc|⟨d,hd,hc⟩
  ·exact .inl hc
  ·have:d.1∈(cs.set j (b,es)).map (·.1):=List.mem_map_of_mem hd
   rw[em] at this;obtain⟨d',q1,q2⟩:=YR.mp this;exact .inr ⟨d',q1,hc.trans q2.symm⟩
 have zb:∀c,(O.ins a C xs cs).adr a c->zof B γ σ c:=fun c hc=>.inr ⟨i,_,a,hi,hv,hc⟩
 have So:Same (off (zof B γ σ) H) (off (zof B (γ.set i (some (.own (.ins a C xs (cs.set j (b,es)))))) σ) (upd H b (.lst us))):=fun c u h=>by
  obtain⟨q1,q2⟩:=XM h;have nb:c≠b:=fun z=>q2 (zb c (.inr ⟨_,hbm,z⟩));refine U4 (by rw[JX nb];exact q1) fun z=>q2 ?_;rcases z with z|⟨k,fs,a',k1,k2,k3⟩
  ·exact .inl z
  ·rcases Uv k1 with⟨ek,q,_⟩|⟨_,q⟩
   ·subst ek;cases q
    rw[hv] at k2;cases k2
    exact zb c (adr c k3)
   ·exact .inr ⟨k,fs,a',q,k2,k3⟩
 refine env.change hi hv (fun c u hu n=>?_) (fun c hc=>?_) (fun c hc=>.inl (adr c hc)) ⟨rfl,by rw[Wt];exact e2,⟨dx,?_⟩,fun c hc=>?_,by rw[em];exact e5⟩
 ·rw[JX fun z=>n (.inr ⟨_,hbm,z⟩)];exact hu
 ·by_cases z:c=b
  ·rw[z,Uo];trivial
  ·rw[JX z];exact env.zm c (zb c hc)
 ·rw[JX hab,em2];exact e3
 ·obtain⟨k,hk,ek⟩:=List.getElem_of_mem hc;have hk':(cs.set j (b,es))[k]?=some c:=by rw[Yp hk,ek]
  rcases Uv hk' with⟨_,q,_⟩|⟨nk,q⟩
  ·subst q;exact⟨us,Uo,Rps.mono So r⟩
  ·obtain⟨ws,w1,w2⟩:=e4 c (YE q)
   have nb:c.1≠b:=fun z=>nk (by
    have h1:(cs.map (·.1))[k]?=some b:=by rw[Y0,q];exact Wa some z
    have h2:(cs.map (·.1))[j]?=some b:=by rw[Y0,hj];rfl
    exact A4 e5 h1 h2)
   exact⟨ws,by rw[JX nb];exact w1,Rps.mono So w2⟩
def G6 (i j:Nat) (C:Addr) (xs:List Str) (a:PTE):PTW:=fun γ R X=>match γ[i]? with
 | some (some (.own (.ins x C' xs' cs)))=>C'=C/\xs'=xs/\∃c,cs[j]?=some c/\a γ (fun s=>match s.shd with
  | some d=>c.2.length<10000000/\R (γ.set i (some (.own (.ins x C' xs' (cs.set j (c.1,c.2++[d])))))) .non
  | none=>False) (X γ)
 | _=>False
def Ad (i j:Nat) {C:Addr}{f:Str}{xs:List Str}{a:PTE} (hc:Cls K C) (hn:NoAttr K C f) (hj:P9 f xs j) (ha:SndE K mg E te a):SndW K mg E (tBM K "list" FP (tFld K (tVar i) f) (UO te tNil)) (G6 i j C xs a):=by
 intro H0 B H σ γ R X Q hB env h q qx;unfold G6 at h;split at h
 ·rename_i x C' xs' cs hi;obtain⟨rfl,rfl,c,ec,h⟩:=h;obtain⟨v,hv,b,rfl,_,e1,e2,⟨dx,e3⟩,e4,e5⟩:=env.slot i _ hi;obtain⟨us,u1,u2⟩:=e4 c (YE ec);refine⟨_,hv,b,_,dx,_,V.ref c.1,rfl,e3,hc,hn,?_,.inl ⟨rfl,us,SqL.of u1⟩,ha H0 B H σ γ _ _ _ env h (fun s u H1 h1 S1 t1=>?_) fun c H' hc S'=>qx γ c H' hc (env.grow S') (Fr.grow S')⟩
  ·rw[hj _ (by rw[Yn];exact e2),Y0,ec];rfl
  ·have env1:=env.grow S1;split at h1
   ·rename_i d ed;have rd:=t1.shd env1.same env.zm S1 ed;refine⟨c.1,us,u,rfl,rfl,S1 _ _ u1,by rw[u2.len];exact Qt h1.1 (by decide),?_⟩;obtain⟨k1,k2⟩:=env1.cell (es:=c.2++[d]) (us:=us++[u]) hi ec (Rps.append (Rps.mono (JS S1 fun _ _ _ z=>z) u2) (.cons rd .nil));exact q _ _ _ _ h1.2 k1 ((Fr.grow S1).trans k2) .non
   ·exact h1.elim
 ·exact h.elim
def Et (i j:Nat) (C:Addr) (xs:List Str):PTW:=fun γ R _=>match γ[i]? with
 | some (some (.own (.ins x C' xs' cs)))=>C'=C/\xs'=xs/\∃c d,cs[j]?=some c/\c.2[c.2.length-1]?=some d/\R (γ.set i (some (.own (.ins x C' xs' (cs.set j (c.1,c.2.dropLast)))))) d
 | _=>False
def Rps.dropLast:∀{ds:List D}{vs:List V},Rps K H ds vs->Rps K H ds.dropLast vs.dropLast
 | _,_,.nil=>.nil
 | _,_,.cons _ .nil=>.nil
 | _,_,.cons h (.cons h' r)=>.cons h (Rps.dropLast (.cons h' r))
def FN (i j:Nat) {C:Addr}{f:Str}{xs:List Str} (hc:Cls K C) (hn:NoAttr K C f) (hj:P9 f xs j):SndW K mg E (tBM0 K "list" rPop (tFld K (tVar i) f)) (Et i j C xs):=by
 intro H0 B H σ γ R X Q hB env h q qx;unfold Et at h;split at h
 ·rename_i x C' xs' cs hi;obtain⟨rfl,rfl,c,d,ec,ed,h⟩:=h;obtain⟨v,hv,b,rfl,_,e1,e2,⟨dx,e3⟩,e4,e5⟩:=env.slot i _ hi;obtain⟨us,u1,u2⟩:=e4 c (YE ec);obtain⟨u,hu,ru⟩:=u2.get ed;refine⟨_,hv,b,_,dx,_,V.ref c.1,rfl,e3,hc,hn,?_,.inl ⟨rfl,us,SqL.of u1⟩,c.1,us,u,rfl,rfl,u1,by rw[u2.len];exact hu,?_⟩
  ·rw[hj _ (by rw[Yn];exact e2),Y0,ec];rfl
  ·obtain⟨k1,k2⟩:=env.cell (es:=c.2.dropLast) (us:=us.dropLast) hi ec (Rps.dropLast u2);exact q _ _ _ _ h k1 k2 (Rp.mono k2.off ru)
 ·exact h.elim
def NW (f:Str) (xs:List Str):Prop:=∀(vs:List V) (y:V),xs.length=vs.length->putF f y (xs.zip vs)=(xs++[f]).zip (vs++[y])
def IU (i:Nat) (C:Addr) (f:Str) (xs:List Str) (a:PTE):PTS:=fun R γ=>a γ (fun s=>match s with
 | .own (.lst ds)=>(match γ[i]? with
  | some (some (.own (.ins x C' xs' cs)))=>C'=C/\xs'=xs/\xs.length<1000/\∀b,R.nx (γ.set i (some (.own (.ins x C' (xs++[f]) (cs++[(b,ds)])))))
  | _=>False)
 | _=>False) (R.ex γ)
def SL (i:Nat) {C:Addr}{f:Str}{xs:List Str}{a:PTE} (hc:Cls K C) (hn:NoAttr K C f) (hp:NW f xs) (ha:SndE K mg E te a):SndS K mg E (sFld K (tVar i) te f) (IU i C f xs a):=by
 intro H0 B H σ γ R D hB env h e;refine ha H0 B H σ γ _ _ _ env h (fun s v H1 h1 S1 t1=>?_) fun c H' hc S'=>e.ex σ γ c H' hc (env.grow S') (Fr.grow S');have env1:=env.grow S1;split at h1
 ·rename_i ds;split at h1
  ·rename_i x C' xs' cs hi;obtain⟨rfl,rfl,hl,h1⟩:=h1;obtain⟨u,hv,b,rfl,e0,e1,e2,⟨dx,e3⟩,e4,e5⟩:=env.slot i _ hi;subst e1;obtain⟨l,rfl,l0,vs,l1,l2⟩:=t1;have l0:H l=none:=l0 l rfl;have na:b≠l:=X2 e3 l0;refine⟨_,hv,b,_,dx,_,rfl,S1 _ _ e3,hc,hn,?_,?_⟩
   ·rw[List.length_zip,Yn];omega
   ·rw[hp _ _ (by rw[Yn];exact e2)]
    have nl:∀c∈cs,c.1≠l:=fun c hc=>by
     obtain⟨ws,w1,_⟩:=e4 c hc;exact X2 w1 l0
    have nb:∀c∈cs,c.1≠b:=fun c hc z=>by
     obtain⟨ws,w1,_⟩:=e4 c hc;rw[z,e3] at w1;cases w1
    have zb:∀c,(O.ins b C' xs' cs).adr b c->zof B γ σ c:=fun c hc=>.inr ⟨i,_,b,hi,hv,hc⟩
    have key:∀c u,H1 c=some u->¬(zof B γ σ c\/c=l)->¬zof B (γ.set i (some (.own (.ins b C' (xs'++[f]) (cs++[(l,ds)]))))) σ c:=fun c u _ n z=>by
     rcases z with z|⟨k,fs,a',k1,k2,k3⟩
     ·exact n (.inl (.inl z))
     ·rcases Uv k1 with⟨ek,q,_⟩|⟨_,q⟩
      ·subst ek;cases q
       rw[hv] at k2;cases k2
       rcases k3 with k3|⟨d,hd,k3⟩
       ·exact n (.inl (zb c (.inl k3)))
       ·rcases YL.mp hd with hd|hd
        ·exact n (.inl (zb c (.inr ⟨d,hd,k3⟩)))
        ·rw[Yw] at hd;subst hd;exact n (.inr k3)
      ·exact n (.inl (.inr ⟨k,fs,a',q,k2,k3⟩))
    have So:Same (off (fun c=>zof B γ σ c\/c=l) H1) (off (zof B (γ.set i (some (.own (.ins b C' (xs'++[f]) (cs++[(l,ds)]))))) σ) (upd H1 b (.ins C' dx ((xs'++[f]).zip ((cs.map fun c=>V.ref c.1)++[.ref l]))))):=fun c u h=>by
     obtain⟨q1,q2⟩:=XM h;exact U4 (by rw[JX fun z=>q2 (.inl (zb c (.inl z)))];exact q1) (key c u q1 q2)
    have S0:Same (off (zof B γ σ) H) (off (fun c=>zof B γ σ c\/c=l) H1):=JS S1 fun c u hc z y=>y.elim z fun y=>by rw[y,l0] at hc;cases hc
    obtain⟨k1,k2⟩:=env.change (o':=.ins b C' (xs'++[f]) (cs++[(l,ds)])) (H':=upd H1 b (.ins C' dx ((xs'++[f]).zip ((cs.map fun c=>V.ref c.1)++[.ref l])))) hi hv
     (fun c u hu n=>by rw[JX fun z=>n (.inl z)];exact S1 _ _ hu)
     (fun c hc=>by
      by_cases z:c=b
      ·rw[z,Uo];trivial
      ·rw[JX z];exact env1.zm c (zb c hc))
     (fun c hc=>by
      rcases hc with hc|⟨d,hd,hc⟩
      ·exact .inl (.inl hc)
      ·rcases YL.mp hd with hd|hd
       ·exact .inl (.inr ⟨d,hd,hc⟩)
       ·rw[Yw] at hd;subst hd;exact .inr (by rw[show c=l from hc];exact l0))
     ⟨rfl,by rw[Yv,Yv,e2];rfl,⟨dx,by rw[Uo,YC];rfl⟩,fun c hc=>by
      rcases YL.mp hc with hc|hc
      ·obtain⟨ws,w1,w2⟩:=e4 c hc;exact⟨ws,by rw[JX (nb c hc)];exact S1 _ _ w1,Rps.mono So (Rps.mono S0 w2)⟩
      ·rw[Yw] at hc;subst hc;exact⟨vs,by rw[JX (fun z=>na z.symm)];exact l1,Rps.mono So l2⟩,by
      rw[YC,WB]
      exact⟨e5,by simp,fun c hc d hd z=>by
       obtain⟨c',q1,q2⟩:=YR.mp hc
       have:d=l:=by simpa using hd
       exact nl c' q1 (q2.trans (z.trans this))⟩⟩
    exact e.nx _ _ _ (h1 l) k1 k2
  ·exact h1.elim
 ·exact h1.elim
def Oz {C:Addr}{c:Pw}{ss ss':List S}{us:List V}{R:S->Prop}{X:XR}{Q:VK}{Ec:XK} (env:EnvR K H0 B H σ γ) (S1:Same H H1) (t1:TVs K (zof B γ σ) H0 H H1 ss us) (ep:passes ss=some ss')
  (h1:∀x,c (.ins x C [] []) ss' (fun o' d=>d=.non/\R (.own o')) (fun _ e=>X e)) (q:∀s v H',R s->Same H H'->TV K (zof B γ σ) H0 H H' s v->Q v H') (qx:∀c H',X c->Same H H'->Ec (.ref (ExcR.JB mg c)) none H') :
  ∀x dx,H1 x=none->H1 dx=none->dx≠x->spW mg c K (.ref x::us) (upd (upd H1 dx (.own x)) x (.ins C dx [])) (fun v H2=>v=.non/\Q (.ref x) H2) Ec:=by
 have env1:=env.grow S1;intro x dx nx ndx nex
 have S2:Same H1 (upd (upd H1 dx (.own x)) x (.ins C dx [])):=fun b o e=>by
  rw[JX (X2 e nx),JX (X2 e ndx)];exact e
 have aft:∀o' H',After K (zof B γ σ) (upd (upd H1 dx (.own x)) x (.ins C dx [])) x (.ins x C [] []) o' H'->Same H1 H'/\∀b,o'.adr x b->H b=none:=fun o' H' A=>by
  refine⟨fun b o e=>A.same b o (U4 (S2 b o e) fun z=>?_),fun b hb=>?_⟩
  ·rcases z with z|⟨c,hc,_⟩
   ·rw[z,nx] at e;cases e
   ·cases hc
  ·rcases A.new b hb with(z|⟨c,hc,_⟩)|z
   ·rw[z];exact S1.free nx
   ·cases hc
   ·exact S1.free (S2.free z)
 refine⟨.ins x C [] [],x,ss',us,zof B γ σ,_,_,rfl,fun b hb=>⟨XU S2 (env1.zm b hb),fun z=>?_⟩,⟨rfl,rfl,⟨dx,Uo⟩,(fun c hc=>by cases hc),Qe⟩,?_,TK ep,h1 x,fun o' d v H' hR A rd=>?_,fun o' e H' hX A=>?_⟩
 ·rcases z with z|⟨c,hc,_⟩
  ·have:=env1.zm b hb
   rw[z,nx] at this;exact this
  ·cases hc
 ·refine t1.pass env1.same env.zm S1 (fun b o e=>U4 (S2 _ _ (env1.same b o e)) fun z=>?_) (JS S2 fun b o e z y=>?_) ep
  ·rcases z with z|⟨c,hc,_⟩
   ·rw[z,(env1.same).free nx] at e;cases e
   ·cases hc
  ·rcases y with y|y|⟨c,hc,_⟩
   ·exact z y
   ·rw[y,nx] at e;cases e
   ·cases hc
 ·obtain⟨rfl,hR⟩:=hR;obtain⟨k1,k2⟩:=aft o' H' A;exact⟨Rp.non_inv rd,q _ _ H' hR (S1.trans k1) ⟨x,rfl,k2,A.at_⟩⟩
 ·exact qx e H' hX (S1.trans (aft o' H' A).1)
def Mg (C:Addr) (c:Pw) (r:PTA):PTE:=fun γ R X=>r γ (fun ss=>match passes ss with|some ss'=>∀x,c (.ins x C [] []) ss' (fun o' d=>d=.non/\R (.own o')) (fun _ _=>False)|none=>False) X
def Za7 {C:Addr}{c:Pw}{ta:TA}{r:PTA} (hr:SndA K mg E ta r):SndE K mg E (SZ C (spW mg c K) [] E0 ta) (Mg C c r):=by
 intro H0 B H σ γ R X Q env p q qx;refine hr H0 B H σ γ _ X _ env p (fun ss us H1 h1 S1 t1=>?_) qx;split at h1
 ·rename_i ss' ep;rw[Wc];exact Oz (X:=fun _=>False) env S1 t1 ep h1 q fun _ _ z=>z.elim
 ·exact h1.elim
end
def len0 {α:Type}{us:List α} (h:us.length=0):∃_:True,us=[]:=⟨trivial,WA.mp h⟩
def len1 {α:Type}{us:List α} (h:us.length=1):∃a,us=[a]:=List.length_eq_one_iff.mp h
def len2 {α:Type}{us:List α} (h:us.length=2):∃a b,us=[a,b]:=by
 cases us with
 | nil=>cases h
 | cons a r=>obtain⟨b,rfl⟩:=len1 (us:=r) (by simpa using h);exact⟨a,b,rfl⟩
def len3 {α:Type}{us:List α} (h:us.length=3):∃a b c,us=[a,b,c]:=by
 cases us with
 | nil=>cases h
 | cons a r=>obtain⟨b,c,rfl⟩:=len2 (us:=r) (by simpa using h);exact⟨a,b,c,rfl⟩
def len4 {α:Type}{us:List α} (h:us.length=4):∃a b c d,us=[a,b,c,d]:=by
 cases us with
 | nil=>cases h
 | cons a r=>obtain⟨b,c,d,rfl⟩:=len3 (us:=r) (by simpa using h);exact⟨a,b,c,d,rfl⟩
def len5 {α:Type}{us:List α} (h:us.length=5):∃a b c d e,us=[a,b,c,d,e]:=by
 cases us with
 | nil=>cases h
 | cons a r=>obtain⟨b,c,d,e,rfl⟩:=len4 (us:=r) (by simpa using h);exact⟨a,b,c,d,e,rfl⟩
structure DefM (K:Za) (W:Addr->Prop) (x q:Str) (st:Stmt) (ps:List Str):Prop where
 ex:∃f fd,Fun K x q st f fd/\W f/\Binds K fd ps []
structure CalleeM (P:Program) (w:World) (K:Za) (mg:Str->Option Value) (base:Heap) (CX:CXT) (k:Nat) (W:Addr->Prop) (ps:List Str) (sp:Sp):Prop where
 ex:∃f fd,FnOk P w K mg base CX k f fd ps sp/\W f/\Binds K fd ps []
section
variable {P:Program}{w:World}{K:Za}{mg:Str->Option Value}{base:Heap}{W:Addr->Prop}
def DefM.ok {x q:Str}{st:Stmt}{N ps:List Str}{k:Nat}{sp:Sp} (D:DefM K W x q st ps) (S:FnScope N ps (JD st)) (len:∀vs H Q E,sp vs H Q E->vs.length=ps.length)
  (hbody:∀(f:Addr) (cdv:Value) (A:Around) (outer:List Env) (s:Shared) (H:Hp) (vs:List V) (Q:VK) (E:XK),Room k (A.deeper (envOfC q (JD st) s.heap.objs.size f cdv))->sp vs H Q E->
   ∃t,PSs (cxOf CX0 P w K mg base N q (JD st) f cdv A outer s H E).nox (UQ st) t/\t { nx:=fun _ H'=>Q .non H',rt:=Q } (start N vs) H):CalleeM P w K mg base CX0 (k+1) W ps sp:=by
 obtain⟨f,fd,F,hm,hb⟩:=D.ex;exact⟨f,fd,F.ok S len fun cdv A outer s H vs Q E hr h=>hbody f cdv A outer s H vs Q E hr h,hm,hb⟩
def DefM.okX {x q:Str}{st:Stmt}{N ps:List Str}{k:Nat}{sp:Sp} (D:DefM K W x q st ps) (S:FnScope N ps (JD st)) (len:∀vs H Q E,sp vs H Q E->vs.length=ps.length)
  (hbody:∀(f:Addr) (cdv:Value) (A:Around) (outer:List Env) (s:Shared) (H:Hp) (vs:List V) (Q:VK) (E:XK),Room k (A.deeper (envOfC q (JD st) s.heap.objs.size f cdv))->sp vs H Q E->
   ∃t,PSs (cxOf (ExcR.CXe P w) P w K mg base N q (JD st) f cdv A outer s H E) (UQ st) t/\t { nx:=fun _ H'=>Q .non H',rt:=Q } (start N vs) H):CalleeM P w K mg base (ExcR.CXe P w) (k+1) W ps sp:=by
 obtain⟨f,fd,F,hm,hb⟩:=D.ex;obtain⟨oc,od,kV,doc,pm,an,cdv,ct,osl,rfl,lk,hcd⟩:=F.ex;exact⟨f,_,Bg lk hcd S len fun A outer s H vs Q E hr hsp=>hbody f cdv A outer s H vs Q E hr hsp,hm,hb⟩
def NO {X:Cx}:X4 (ExcR.CXe P w) X E0:=fun _ _ _ _ _ _ _ h=>by
 obtain⟨a,T,C,H',_,_,z⟩:=h;exact z.elim
end
section
variable {X:Cx}{CX:CXT}{k:Nat}{Cc:Addr}{ps:List Str}{sp:Sp}{E:XK}{ES:L2.St->XK}{x m:Str}{p pos apos:Pos}{e o:Expr}{es:List Expr}{ta:TE}{t:TA}
def XS {pl:Sem Bool} (C:CalleeM X.prog X.w X.K X.mg X.base CX k (Meth X.K Cc m) ps sp) (c:Cls X.K Cc) (hr:Room k X.A) (hx:X4 CX X E) (he:PE X o ta) (ha:PA X (e::es) t)
  (hst:starEach (e::es) X.env=(false,eval e X.env)::starEach es X.env:=by rfl) (hpl:(backTo pos (starEach es X.env)).any (·.1)=false:=by rfl)
  (ht:eval (.Call (.Attribute o m apos) (e::es) [] pos) X.env=(do
   let ov ←eval o X.env
   standAt apos.atName
   let (f,first) ←holding [ov] (getMethod ov m pl)
   callWith pos f first (backTo pos (starEach (e::es) X.env)) (backToKw pos (keywordEach [] X.env))):=by rfl) :
  PE X (.Call (.Attribute o m apos) (e::es) [] pos) (K7 Cc m sp [] E ta t):=by
 obtain⟨f,fd,F,hm,hb⟩:=C.ex;exact Hu he c hm F hr hb .nil hx ha hst hpl ht
def Ux {pl:Sem Bool} (C:CalleeM X.prog X.w X.K X.mg X.base CX k (Meth X.K Cc m) ps sp) (c:Cls X.K Cc) (hr:Room k X.A) (hx:X4 CX X E) (he:PE X o ta)
  (ht:eval (.Call (.Attribute o m apos) [] [] pos) X.env=(do
   let ov ←eval o X.env
   standAt apos.atName
   let (f,first) ←holding [ov] (getMethod ov m pl)
   callWith pos f first (backTo pos (starEach [] X.env)) (backToKw pos (keywordEach [] X.env))):=by rfl) :
  PE X (.Call (.Attribute o m apos) [] [] pos) (K7 Cc m sp [] E ta tNil):=by
 obtain⟨f,fd,F,hm,hb⟩:=C.ex;exact Lc he c hm F hr hb .nil hx ht
def Lq {f:Addr}{fd:FuncData}{pins:List (Addr×Obj)}{σ:L2.St}{H:Hp}{s:Shared}{Q:VK}{us:List Value}{vs:List V} (F:FnOk X.prog X.w X.K X.mg X.base CX k f fd ps sp) (hr:Room k X.A) (hb:Binds X.K fd ps []) (hx:ExcR.Fn CX X ES)
  (I:Inv X pins σ H s) (r:Vals vs us) (h:sp vs H Q (ES σ)):wpAny (model X.prog X.w) X.A (call (.ref f) us) (EP X pins σ Q) X.xe s:=by
 have hl:(us++[]).length=ps.length:=by rw[Wc,←r.length];exact F.len _ _ _ _ h
 refine wpAny_call (Qf (F.run X.A X.stack s H ⟨us,[]⟩ (us++[]) vs Q (ES σ) hr I.env0 (hb s us I.kIn hl) (by simpa using r) h) fun r s' hq=>?_);cases r with
 | error e=>exact hx pins σ H s e s' I hq
 | ok fl=>
  cases fl with
  | ret u=>exact I.after hq
  | next=>exact False.elim hq
  | brk=>exact False.elim hq
  | cont=>exact False.elim hq
def LL {pl:Sem Bool} (C:CalleeM X.prog X.w X.K X.mg X.base CX k (Meth X.K Cc m) ps sp) (c:Cls X.K Cc) (hr:Room k X.A) (hx:ExcR.Fn CX X ES) (he:PE X o ta)
  (ht:eval (.Call (.Attribute o m apos) [] [] pos) X.env=(do
   let ov ←eval o X.env
   standAt apos.atName
   let (f,first) ←holding [ov] (getMethod ov m pl)
   callWith pos f first (backTo pos (starEach [] X.env)) (backToKw pos (keywordEach [] X.env))):=by rfl) :
  PE X (.Call (.Attribute o m apos) [] [] pos) (Fk Cc m sp ES ta tNil):=by
 obtain⟨f,fd,F,hm,hb⟩:=C.ex;intro pins s σ H Q I h;refine Qs (pl:=pl) (thn (he pins s σ H _ I h) fun u s1 ⟨x,H1,I1,rx,a,dx,fs,ex,ea,l,q⟩=>?_) ht;subst ex;obtain rfl:u=Value.ref a:=rx;refine NC I1 ea c hm l ?_;exact PySem.W.callWith_K0 (first:=[.ref a]) I1.kIn hm.kp (Lq (us:=[.ref a]) (vs:=[.ref a]) F hr hb hx I1 (.cons rfl .nil) q)
def Ms (C:CalleeM X.prog X.w X.K X.mg X.base CX k (Mk X.K Cc) ps sp) (hm:X.mg x=some (.ref Cc)) (hr:Room (k+1) X.A) (hx:X4 CX X E) (ha:PA X (e::es) t) (hg:Gl X x:=by rfl)
  (hdb:(x==("__debug__" : Str))=false:=by decide) (he:starEach (e::es) X.env=(false,eval e X.env)::starEach es X.env:=by rfl) (hpl:(backTo pos (starEach es X.env)).any (·.1)=false:=by rfl) :
  PE X (.Call (.Name x p) (e::es) [] pos) (SZ Cc sp [] E t):=by
 obtain⟨f,fd,F,M,hb⟩:=C.ex;exact Il M F hr hg hm hb .nil hx ha hdb he hpl
end
abbrev PTF:=Γ->Str->(Str->Prop)->XR->Prop
section
variable {K:Za}{mg:Str->Option Value}{E:L2.St->XK}{t:ExcR.TF}{p:PTF}{te:TE}{a:PTE}
def SndF (K:Za) (mg:Str->Option Value) (E:L2.St->XK) (t:ExcR.TF) (p:PTF):Prop:=∀(H0:Hp) (B:Addr->Prop) (H:Hp) (σ:L2.St) (γ:Γ) (out:Str) (R:Str->Prop) (X:XR) (Q:Str->Hp->Prop),EnvR K H0 B H σ γ->p γ out R X->
 (∀x H',R x->Same H H'->Q x H')->(∀c H',X c->Same H H'->E σ (.ref (ExcR.JB mg c)) none H')->t σ H out Q
def OE:PTF:=fun _ out R _=>out.length<=sizeLine/\R out
def KN:SndF K mg E ExcR.fNil OE:=fun H0 B H σ γ out R X Q env h q _=>⟨h.1,q _ H h.2 (Same.refl _)⟩
def MX (x:Str) (p:PTF):PTF:=fun γ out R X=>(out++x).length<=sizeLine/\p γ (out++x) R X
def XQ {x:Str} (h:SndF K mg E t p):SndF K mg E (ExcR.fStr x t) (MX x p):=fun H0 B H σ γ out R X Q env hp q qx=>⟨hp.1,h H0 B H σ γ _ R X Q env hp.2 q qx⟩
def Zfa (a:PTE) (p:PTF):PTF:=fun γ out R X=>a γ (fun s=>match s.d with
 | .int i=>i.natAbs.log2<1920/\(out++(Str.ofString (toString i))).length<=sizeLine/\p γ (out++Str.ofString (toString i)) R X
 | .str x=>x.length<=sizeLine/\(out++x).length<=sizeLine/\p γ (out++x) R X
 | _=>False) X
def KW (ha:SndE K mg E te a) (h:SndF K mg E t p):SndF K mg E (ExcR.fVal te t) (Zfa a p):=fun H0 B H σ γ out R X Q env hp q qx=>by
 refine ha H0 B H σ γ _ X _ env hp (fun s v H1 h1 S1 t1=>?_) qx;have env1:=env.grow S1;have rs:=t1.rp env1.same;split at h1
 ·rename_i i ei;rw[ei] at rs;exact .inl ⟨i,rs.int_inv,h1.1,h1.2.1,h H0 B H1 σ γ _ R X Q env1 h1.2.2 (fun x H' hx S'=>q x H' hx (S1.trans S')) fun c H' hc S'=>qx c H' hc (S1.trans S')⟩
 ·rename_i x ex;rw[ex] at rs;exact .inr ⟨x,rs.str_inv,h1.1,h1.2.1,h H0 B H1 σ γ _ R X Q env1 h1.2.2 (fun x H' hx S'=>q x H' hx (S1.trans S')) fun c H' hc S'=>qx c H' hc (S1.trans S')⟩
 ·exact h1.elim
def pF (p:PTF):PTE:=fun γ R X=>p γ Str.empty (fun x=>R (.sh (.str x))) X
def se_f (h:SndF K mg E t p):SndE K mg E (ExcR.tF t) (pF p):=fun H0 B H σ γ R X Q env hp q qx=>
 h H0 B H σ γ _ _ X _ env hp (fun x H' hx S'=>q _ _ H' hx S' (.str x)) qx
end
open M
abbrev plD (f:List (Int×Int)):D:=.lst (f.map prD)
abbrev dD (q:Str×List Int):D:=.tup (.str q.1::q.2.map D.int)
abbrev vF:List Str:=["book","fields","wished"]
abbrev vO (C x b1 b2 b3:Addr) (bk:List (Str×List Int)) (fs ws:List (List (Int×Int))):O:=.ins x C vF [(b1,bk.map dD),(b2,fs.map plD),(b3,ws.map plD)]
abbrev vilD (C:Addr) (bk:List (Str×List Int)) (fs ws:List (List (Int×Int))):D:=.ins C vF [.lst (bk.map dD),.lst (fs.map plD),.lst (ws.map plD)]
def Pm {α:Type} (f:α->D) (xs:List α) (x:α):atI ((xs++[x]).map f) (-1)=some (f x):=by
 refine Kw ?_;unfold atI ixN;rw[Yq (by omega),Ys (by rw[Yv,YW];omega)];show(xs++[x])[_]?=some x;have e:((-1:Int)+((xs++[x]).length:Int)).toNat=xs.length:=by rw[Yv,YW];omega
 rw[e,YN (Yx _),Nat.sub_self];rfl
def UM (e:Option Str) (X:Str->Prop) (R:Prop):Prop:=match e with|some c=>X c|none=>R
def PU (h:Int):Option Str:=if 1<=h/\h<=10 then none else some "BadHolder"
def K4:List (Int×Int)->Option Str
 | []=>none
 | q::r=>if ¬(1<=q.1/\q.1<=10) then some "BadHolder" else if ¬(1<=q.2/\q.2<=1000) then some "BadWidth" else K4 r
def Ta (ps:List (Int×Int)):Option Str:=if 40<ps.length then some "TooManyStrips" else K4 ps
def Cm:∀{ps:List (Int×Int)},Field ps->K4 ps=none
 | [],_=>rfl
 | q::r,h=>by
  obtain⟨h1,h2,h3,h4⟩:=h q YM;unfold K4;rw[Yq (fun z=>z ⟨h1,h2⟩),Yq (fun z=>z ⟨h3,h4⟩)];exact Cm fun x hx=>h x (YG _ hx)
def Zam {ps:List (Int×Int)} (h:Field ps) (hl:ps.length<=40):Ta ps=none:=by
 unfold Ta;rw[Yq (by omega)];exact Cm h
def NQ (ps:List (Int×Int)) (p:Int):Option Str:=if p<1\/(ps.length:Int)<p then some "NoStrip" else none
def atP1 (ps:List (Int×Int)) (p:Int):Int×Int:=ps.getD (p-1).toNat (0,0)
def UC (ps:List (Int×Int)) (p h:Int):Option Str:=if p<1\/(ps.length:Int)<p then some "NoStrip" else if ¬(1<=h/\h<=10) then some "BadHolder" else if (atP1 ps p).1=h then some "OwnStrip" else none
def UY (ps:List (Int×Int)) (p h:Int):List (Int×Int):=ps.set (p-1).toNat (h,(atP1 ps p).2)
def G9 {ps:List (Int×Int)}{p:Int}{x:Int×Int} (h1:1<=p) (h2:p<=ps.length):cutD (ps.map prD) none (some (p-1))++[prD x]++cutD (ps.map prD) (some p) none=(ps.set (p-1).toNat x).map prD:=by
 rw[KL,KL,Bu ps (by omega),T1 ps (by omega)];have e:p.toNat=(p-1).toNat+1:=by omega
 rw[e,List.set_eq_take_append_cons_drop,Ys (by omega),YC,YA,Vk];rfl
def Ke {ps:List (Int×Int)}{p:Int} (h1:1<=p) (h2:p<=ps.length):atI (ps.map prD) (p-1)=some (prD (atP1 ps p)):=by
 rw[KY (by omega) (by omega)];unfold atP1;rw[Y1,Yp (show(p-1).toNat<ps.length by omega)];rfl
def B4 (ps:List (Int×Int)) (p h:Int):(UY ps p h).length=ps.length:=Wt ..
def B5 {ps:List (Int×Int)}{p h:Int} (hF:Field ps) (e:UC ps p h=none):Field (UY ps p h):=by
 unfold UC at e;split at e
 ·cases e
 ·split at e
  ·cases e
  ·rename_i c1 c2;have hl:(p-1).toNat<ps.length:=by omega
   intro q hq;unfold UY at hq;rcases List.mem_or_eq_of_mem_set hq with hq|rfl
   ·exact hF q hq
   ·have:atP1 ps p∈ps:=by
     unfold atP1;rw[Y1,Yp hl];exact YH hl
    obtain⟨_,_,w1,w2⟩:=hF _ this
    have:=Wm.mp c2
    exact⟨this.1,this.2,w1,w2⟩
def Zd9 (q:Int×Int) (r:List (Int×Int)):K4 (q::r)=if ¬(1<=q.1/\q.1<=10) then some ("BadHolder" : Str) else if ¬(1<=q.2/\q.2<=1000) then some ("BadWidth" : Str) else K4 r:=rfl
def E5 (q:Str×List Int):imm (dD q)=true:=by
 unfold dD imm imms;rw[Tr];unfold imm;rfl
def Dx:∀(bk:List (Str×List Int)),imms (bk.map dD)=true
 | []=>by unfold List.map imms;rfl
 | q::r=>by
  rw[YA];unfold imms;rw[E5,Dx r];rfl
def Sj (q:Str×List Int):arg (dD q)=.sh (dD q):=by
 unfold arg;rw[E5]
def Le {N:List Str}{q:Str×List Int}{ds:List D}:XF N (dD q::ds)=some (.sh (dD q))::(ds.map (fun d=>some (arg d))++List.replicate (N.length-(ds.length+1)) none):=by
 unfold XF;rw[YA,Sj];rfl
def BX {q:Str×List Int}{i:Nat} (h:i<q.2.length):atI (.str q.1::q.2.map D.int) (1+(i:Int))=some (.int q.2[i]):=by
 have e:(1+(i:Int))=((i+1:Nat):Int):=by omega
 rw[e];exact Tx (by rw[Wf,Y0,Yp h];rfl)
def T4 (ps:List (Int×Int)) (p h:Int):List Bool:=if p<1\/(ps.length:Int)<p then[true,true,false,false] else if ¬(1<=h/\h<=10) then[true,false,true,false] else if (atP1 ps p).1=h then[true,false,false,true] else[]
def Zf0 (ps:List (Int×Int)) (p h:Int):(UC ps p h=some ("NoStrip" : Str)/\T4 ps p h=[true,true,false,false])\/(UC ps p h=some ("BadHolder" : Str)/\T4 ps p h=[true,false,true,false])\/(UC ps p h=some ("OwnStrip" : Str)/\T4 ps p h=[true,false,false,true])\/
  (UC ps p h=none/\T4 ps p h=[]/\1<=p/\p<=ps.length):=by
 unfold UC T4;by_cases c:p<1\/(ps.length:Int)<p
 ·rw[Ys c,Ys c];exact .inl ⟨rfl,rfl⟩
 ·rw[Yq c,Yq c];by_cases c2:1<=h/\h<=10
  ·rw[Yq (Wm.mpr c2),Yq (Wm.mpr c2)];by_cases c3:(atP1 ps p).1=h
   ·rw[Ys c3,Ys c3];exact .inr (.inr (.inl ⟨rfl,rfl⟩))
   ·rw[Yq c3,Yq c3];exact .inr (.inr (.inr ⟨rfl,rfl,by omega,by omega⟩))
  ·rw[Ys c2,Ys c2];exact .inr (.inl ⟨rfl,rfl⟩)
def UN (ps:List (Int×Int)) (p w:Int):Option Str:=if p<1\/(ps.length:Int)<p then some "NoStrip" else if w<1\/(atP1 ps p).2<=w then some "BadPart" else if 40<=ps.length then some "TooManyStrips" else none
def X8 (ps:List (Int×Int)) (p w:Int):List (Int×Int):=ps.take (p-1).toNat++[((atP1 ps p).1,w),((atP1 ps p).1,(atP1 ps p).2-w)]++ps.drop p.toNat
def Nd (ps:List (Int×Int)) (p w:Int):List Bool:=if p<1\/(ps.length:Int)<p then[true,true,false,false] else if w<1\/(atP1 ps p).2<=w then[true,false,true,false] else if 40<=ps.length then[true,false,false,true] else[]
def Oc (ps:List (Int×Int)) (p w:Int):(UN ps p w=some ("NoStrip" : Str)/\Nd ps p w=[true,true,false,false])\/(UN ps p w=some ("BadPart" : Str)/\Nd ps p w=[true,false,true,false])\/(UN ps p w=some ("TooManyStrips" : Str)/\Nd ps p w=[true,false,false,true])\/
  (UN ps p w=none/\Nd ps p w=[]/\1<=p/\p<=ps.length/\1<=w/\w<(atP1 ps p).2/\ps.length<40):=by
 unfold UN Nd;by_cases c:p<1\/(ps.length:Int)<p
 ·rw[Ys c,Ys c];exact .inl ⟨rfl,rfl⟩
 ·rw[Yq c,Yq c];by_cases c2:w<1\/(atP1 ps p).2<=w
  ·rw[Ys c2,Ys c2];exact .inr (.inl ⟨rfl,rfl⟩)
  ·rw[Yq c2,Yq c2];by_cases c3:40<=ps.length
   ·rw[Ys c3,Ys c3];exact .inr (.inr (.inl ⟨rfl,rfl⟩))
   ·rw[Yq c3,Yq c3];exact .inr (.inr (.inr ⟨rfl,rfl,by omega,by omega,by omega,by omega,by omega⟩))
def Nf {ps:List (Int×Int)}{p:Int} (h1:1<=p) (h2:p<=ps.length):atP1 ps p∈ps:=by
 have hl:(p-1).toNat<ps.length:=by omega
 unfold atP1;rw[Y1,Yp hl];exact YH hl
def D2 {ps:List (Int×Int)}{p w:Int} (h1:1<=p):cutD (ps.map prD) none (some (p-1))++[prD ((atP1 ps p).1,w),prD ((atP1 ps p).1,(atP1 ps p).2-w)]++cutD (ps.map prD) (some p) none=(X8 ps p w).map prD:=by
 rw[KL,KL,Bu ps (by omega),T1 ps (by omega)];unfold X8;rw[YC,YC];rfl
def Mw {ps:List (Int×Int)}{p w:Int} (h1:1<=p) (h2:p<=ps.length):(X8 ps p w).length=ps.length+1:=by
 unfold X8;rw[Yv,Yv,Wv,QL];simp;omega
def MP {ps:List (Int×Int)}{p w:Int} (hF:Field ps) (h1:1<=p) (h2:p<=ps.length) (h3:1<=w) (h4:w<(atP1 ps p).2):Field (X8 ps p w):=by
 obtain⟨a1,a2,a3,a4⟩:=hF _ (Nf h1 h2);intro q hq;unfold X8 at hq;rcases YL.mp hq with hq|hq
 ·rcases YL.mp hq with hq|hq
  ·exact hF q (QZ hq)
  ·rcases Y4.mp hq with rfl|hq
   ·exact⟨a1,a2,h3,by show w<=1000;omega⟩
   ·rw[Yw] at hq;subst hq;exact⟨a1,a2,by show 1<=_-w;omega,by show _-w<=1000;omega⟩
 ·exact hF q (List.mem_of_mem_drop hq)
def UI (ws:List (Int×Int)) (a b:Int):Option Str:=if ¬(1<=a/\a<=10) then some "BadHolder" else if ¬(1<=b/\b<=10) then some "BadHolder" else if a=b then some "LikeHolders" else if (a,b)∈ws then some "WishStands" else if 20<=ws.length then some "TooManyWishes" else none
def UF (ws:List (Int×Int)) (a b:Int):Option Str:=if (a,b)∈ws then none else some "NoWish"
def Kj (ws:List (Int×Int)) (a b:Int):List (Int×Int):=ws.filter fun q=>!decide (q=(a,b))
def uniE (ps:List (Int×Int)) (p:Int):Option Str:=if p<1\/(ps.length:Int)<=p then some "NoStrip" else if ¬(atP1 ps p).1=(atP1 ps (p+1)).1 then some "UnlikeHolders" else if 1000<(atP1 ps p).2+(atP1 ps (p+1)).2 then some "TooWide" else none
def uniL (ps:List (Int×Int)) (p:Int):List (Int×Int):=ps.take (p-1).toNat++[((atP1 ps p).1,(atP1 ps p).2+(atP1 ps (p+1)).2)]++ps.drop (p+1).toNat
def EF {ps:List (Int×Int)}{p:Int} (h1:1<=p):cutD (ps.map prD) none (some (p-1))++[prD ((atP1 ps p).1,(atP1 ps p).2+(atP1 ps (p+1)).2)]++cutD (ps.map prD) (some (p+1)) none=(uniL ps p).map prD:=by
 rw[KL,KL,Bu ps (by omega),T1 ps (by omega)];unfold uniL;rw[YC,YC];rfl
def Rk {ps:List (Int×Int)}{p:Int} (h1:1<=p) (h2:p<ps.length):(uniL ps p).length+1=ps.length:=by
 unfold uniL;rw[Yv,Yv,Wv,QL];simp;omega
def RN {ps:List (Int×Int)}{p:Int} (hF:Field ps) (e:uniE ps p=none):Field (uniL ps p):=by
 unfold uniE at e;split at e
 ·cases e
 split at e
 ·cases e
 split at e
 ·cases e
 rename_i c1 c2 c3;obtain⟨a1,a2,a3,a4⟩:=hF _ (Nf (ps:=ps) (p:=p) (by omega) (by omega));obtain⟨b1,b2,b3,b4⟩:=hF _ (Nf (ps:=ps) (p:=p+1) (by omega) (by omega));intro q hq;unfold uniL at hq;rcases YL.mp hq with hq|hq
 ·rcases YL.mp hq with hq|hq
  ·exact hF q (QZ hq)
  ·rw[Yw] at hq;subst hq;exact⟨a1,a2,by show 1<=_+_;omega,by show _+_<=1000;omega⟩
 ·exact hF q (List.mem_of_mem_drop hq)
def Hx {ws:List (Int×Int)}{a b:Int} (h:Ko ws) (e:UI ws a b=none):Ko (ws++[(a,b)]):=by
 unfold UI at e;split at e
 ·cases e
 split at e
 ·cases e
 split at e
 ·cases e
 split at e
 ·cases e
 split at e
 ·cases e
 rename_i c1 c2 c3 c4 c5;obtain⟨h1,h2,h3⟩:=h;have k1:=Wm.mp c1;have k2:=Wm.mp c2;refine⟨by rw[Yv,YW];omega,?_,fun q hq=>?_⟩
 ·rw[WB];exact⟨h2,by simp,fun x hx y hy z=>by rw[Yw] at hy;subst hy;exact c4 (z▸hx)⟩
 ·rcases YL.mp hq with hq|hq
  ·exact h3 q hq
  ·rw[Yw] at hq;subst hq;exact⟨⟨k1.1,k1.2,k2.1,k2.2⟩,c3⟩
def Lb {ws:List (Int×Int)}{a b:Int} (h:Ko ws):Ko (Kj ws a b):=
 ⟨Y8 (Wk _ _) h.1,h.2.1.filter _,fun q hq=>h.2.2 q (YO.mp hq).1⟩
def R3:Ko []:=⟨by decide,Qe,fun q hq=>by cases hq⟩
def Zeg (m:List Int) (k:Int):Int:=1+(k*m.getD 1 0+m.getD 2 0) % 10
def uniK (ps:List (Int×Int)) (p:Int):List Bool:=if p<1\/(ps.length:Int)<=p then[true,true,false,false] else if ¬(atP1 ps p).1=(atP1 ps (p+1)).1 then[true,false,true,false] else if 1000<(atP1 ps p).2+(atP1 ps (p+1)).2 then[true,false,false,true] else[]
def Zal (ps:List (Int×Int)) (p:Int):(uniE ps p=some ("NoStrip" : Str)/\uniK ps p=[true,true,false,false])\/(uniE ps p=some ("UnlikeHolders" : Str)/\uniK ps p=[true,false,true,false])\/(uniE ps p=some ("TooWide" : Str)/\uniK ps p=[true,false,false,true])\/
  (uniE ps p=none/\uniK ps p=[]/\1<=p/\p<ps.length):=by
 unfold uniE uniK;by_cases c:p<1\/(ps.length:Int)<=p
 ·rw[Ys c,Ys c];exact .inl ⟨rfl,rfl⟩
 ·rw[Yq c,Yq c];by_cases c2:(atP1 ps p).1=(atP1 ps (p+1)).1
  ·rw[Yq (Wm.mpr c2),Yq (Wm.mpr c2)];by_cases c3:1000<(atP1 ps p).2+(atP1 ps (p+1)).2
   ·rw[Ys c3,Ys c3];exact .inr (.inr (.inl ⟨rfl,rfl⟩))
   ·rw[Yq c3,Yq c3];exact .inr (.inr (.inr ⟨rfl,rfl,by omega,by omega⟩))
  ·rw[Ys c2,Ys c2];exact .inr (.inl ⟨rfl,rfl⟩)
def OB {ps:List (Int×Int)}{p:Int} (h1:1<=p) (h2:p<ps.length):atI (ps.map prD) p=some (prD (atP1 ps (p+1))):=by
 have:=Ke (ps:=ps) (p:=p+1) (by omega) (by omega)
 rwa[show p+1-1=p by omega] at this
abbrev d3 (k:Str) (a b:Int):D:=.tup [.str k,.int a,.int b]
end Pu
namespace M
open PySem PySem.Spec PyProof.Rows L2 Own Pu
def OY (c:Int->Int->Int):∀o:List Int,oc c o.reverse=oc (fun x y=>c y x) o
 | []=>rfl
 | a::r=>by
  rw[List.reverse_cons,NX,OY c r,P2 (List.reverse_perm r)];simp only[oc];omega
def Cz (ps:List (Int×Int)):∀o:List Int,oc (fun x y=>pcM ps x y ps.length) o=ordM ps ps.length o
 | []=>rfl
 | a::r=>by
  unfold oc ordM;rw[Cz ps r]
def Ls {ps:List (Int×Int)}{o:List Int} (hF:Field ps) (h:o.Perm (JT ps)):oc (fun x y=>pcM ps x y ps.length) o=priM ps o ps.length:=by
 rw[Cz];refine Df (h.nodup_iff.mpr ((KS ps).imp (fun h=>Vq h))) ps.length fun j hj=>?_;rw[Y1,Yp hj];exact h.mem_iff.mpr ((Nx hF).mpr (YR.mpr ⟨_,YH hj,rfl⟩))
def Mv {ps:List (Int×Int)}{o:List Int} (hF:Field ps) (h:o.Perm (JT ps)):∀p∈ps,p.1∈o:=fun p hp=>h.mem_iff.mpr ((Nx hF).mpr (YR.mpr ⟨p,hp,rfl⟩))
end M
namespace Pu
open PySem PySem.Spec PyProof.Rows L2 Own
section
variable {K:Za}{mg:Str->Option Value}{E:L2.St->XK}
def rNeT (K:Za):R2:=fun x y H Q=>∃(p q:Addr) (xs ys:List V),x=.ref p/\y=.ref q/\SqT K H p xs/\SqT K H q ys/\xs.all Xb=true/\ys.all Xb=true/\Q (.bl (!eqL xs ys)) H
def Gk {X:Cx} (hu:X.A.units<cLine) (hK:X.K=K:=by rfl):OpR X (compareOp .NotEq) (rNeT K):=by
 subst hK;intro pins s σ H x y v u Q I rx ry h;obtain⟨p,q,xs,ys,rfl,rfl,hp,hq,f1,f2,k⟩:=h;obtain rfl:v=Value.ref p:=rx;obtain rfl:u=Value.ref q:=ry;obtain⟨us,r1,p1,_⟩:=I.tuple hp;obtain⟨ws,r2,p2,_⟩:=I.tuple hq;have l1:=r1.length;have l2:=r2.length;refine SeqAt.RcNeAt.tuples p1 p2 hu (fun j h1 h2=>Fq r1 r2 f1 f2 j h1 h2) _ _ _ _ ⟨.bl (!eqL xs ys),H,I,?_,k⟩;show _=Value.bool (!eqL xs ys);unfold eqL;rw[Y5,Y5,←l1,←l2];by_cases e:xs.length=ys.length
 ·rw[Yr e,Qk,←e,Nat.min_self,beq_self_eq_true,Bool.and_true]
 ·rw[YB e,Q9,WC.mpr e,Bool.and_false]
def fNeT:S->S->(S->Prop)->Prop:=fun x y R=>∃xs ys:List Int,x.d=.tup (xs.map D.int)/\y.d=.tup (ys.map D.int)/\R (.sh (.bl (!decide (xs=ys))))
def AK {ta tb:TE}{a b:PTE} (ha:SndE K mg E ta a) (hb:SndE K mg E tb b):SndE K mg E (tOp (rNeT K) ta tb) (p2 a b fNeT):=by
 refine se_2 ha hb fun H0 H H2 Z x y v u R Q s0 s1 hm tx ty h q=>?_;obtain⟨xs,ys,e1,e2,hR⟩:=h;have rx:=tx.rp s0;have ry:=ty.rp s0;rw[e1] at rx;rw[e2] at ry;obtain⟨p,us,rfl,hp,r1⟩:=Rp.tup_inv rx;obtain⟨p',ws,rfl,hp',r2⟩:=Rp.tup_inv ry;rw[r1.ints] at hp;rw[r2.ints] at hp';refine⟨p,p',_,_,rfl,rfl,SqT.of hp,SqT.of hp',KJ _,KJ _,?_⟩;rw[Fv];exact q _ _ H2 hR (Same.refl _) (.bl _)
def Gn:List S->(S->Prop)->Prop
 | [s],R=>(match s.d with | .int i=>R (.sh (.int i)) | .bl k=>R (.sh (.int (if k then 1 else 0)))|_=>False)
 | _,_=>False
def GC {ta:TA}{r:PTA} (hr:SndA K mg E ta r):SndE K mg E (tCB (fun xs H Q=>(∃i,xs=[.int i]/\Q (.int i) H)\/∃k,xs=[.bl k]/\Q (.int (if k then 1 else 0)) H) ta) (pCB Gn r):=by
 refine X7 hr fun H0 H H1 Z ss vs R Q s0 s1 hm tv h q=>?_;unfold Gn at h;split at h
 ·rename_i s;obtain⟨v,rfl,t1⟩:=tv.one_inv;have rv:=t1.rp s0;split at h
  ·rename_i i e;rw[e] at rv;exact .inl ⟨i,by rw[rv.int_inv],q _ _ H1 h (Same.refl _) (.int _)⟩
  ·rename_i k e;rw[e] at rv;exact .inr ⟨k,by rw[rv.bl_inv],q _ _ H1 h (Same.refl _) (.int _)⟩
  ·exact h.elim
 ·exact h.elim
def MB (p q:Int×Int):decide ([p.1,p.2]=[q.1,q.2])=decide (p=q):=by
 by_cases h:p=q
 ·rw[h,Yr rfl,Yr rfl]
 ·rw[YB h,YB];intro z;simp only[Qm,and_true] at z;exact h (Prod.ext z.1 z.2)
def LP {p q:Int×Int}{R:S->Prop} (h:R (.sh (.bl (!decide (p=q))))):fNeT (.sh (prD p)) (.sh (prD q)) R:=by
 refine⟨[p.1,p.2],[q.1,q.2],rfl,rfl,?_⟩
 have e:decide ([p.1,p.2]=[q.1,q.2])=decide (p=q):=by
  by_cases h:p=q
  ·rw[h,Yr rfl,Yr rfl]
  ·rw[YB h,YB];intro z;simp only[Qm,and_true] at z;exact h (Prod.ext z.1 z.2)
 rw[e];exact h
end
structure DI (K:Za) (x:Str) (st:Stmt):Prop where
 ex:∃f fd,PySem.W.nsIn K mainGlobals x=some (some (.ref f))/\Fun K x x st f fd
structure MI (K:Za) (C:Addr) (m q:Str) (st:Stmt):Prop where
 ex:∃f fd,PySem.W.findIn K (.ref C) m=some (some (.ref f))/\PySem.W.isFn K (.ref f)=true/\Fun K m q st f fd
section
variable {K:Za}{h:Heap}{mg:Str->Option Value}
def di {x:Str}{st:Stmt}{f:Addr}{oc:Value}{od an:Option Addr}{osl:Array (Option Value)}{kV doc pm cdv ct:Value} (a:PySem.W.nsIn K mainGlobals x=some (some (.ref f))) (l:K.lookup f=some ⟨oc,od,.func (PySem.W.fnOf x x (XB st) (UQ st) (JD st) .none kV doc pm an cdv ct),osl⟩)
  (c:PySem.W.codeIn K cdv x=true) (k:PySem.W.keepIn K (.ref f)=true):DI K x st:=⟨f,_,a,Fw l c k⟩
def mi {C:Addr}{m q:Str}{st:Stmt}{f:Addr}{oc:Value}{od an:Option Addr}{osl:Array (Option Value)}{kV doc pm cdv ct:Value} (a:PySem.W.findIn K (.ref C) m=some (some (.ref f))) (i:PySem.W.isFn K (.ref f)=true) (l:K.lookup f=some ⟨oc,od,.func (PySem.W.fnOf m q (XB st) (UQ st) (JD st) .none kV doc pm an cdv ct),osl⟩)
  (c:PySem.W.codeIn K cdv q=true) (k:PySem.W.keepIn K (.ref f)=true):MI K C m q st:=⟨f,_,a,i,Fw l c k⟩
def DI.d {x:Str}{st:Stmt}{ps:List Str} (D:DI K x st) (X:K.In h) (G0:h.Ns mainGlobals mg)
  (b:∀(kV doc pm:Value) (an:Option Addr) (cdv ct:Value) (us:List Value),us.length=ps.length->bindArgs (PySem.W.fnOf x x (XB st) (UQ st) (JD st) .none kV doc pm an cdv ct) ⟨us,[]⟩=pure (ps.zip us)):Def K mg x st ps:=
 let ⟨_,_,a,F⟩:=D.ex
 ⟨_,_,F,Wy X G0 a,F.binds b⟩
def MI.d {C C':Addr}{m q:Str}{st:Stmt}{ps:List Str} (D:MI K C m q st) (e:C'=C)
  (b:∀(kV doc pm:Value) (an:Option Addr) (cdv ct:Value) (us:List Value),us.length=ps.length->bindArgs (PySem.W.fnOf m q (XB st) (UQ st) (JD st) .none kV doc pm an cdv ct) ⟨us,[]⟩=pure (ps.zip us)):DefM K (Meth K C' m) m q st ps:=
 let ⟨_,_,a,i,F⟩:=D.ex
 ⟨_,_,F,by rw[e];exact⟨a,i,F.kp⟩,F.binds b⟩
def MI.i {C C':Addr}{q:Str}{st:Stmt}{ps:List Str} (D:MI K C "__init__" q st) (e:C'=C) (mk:PySem.W.makesIn K C=true) (kc:PySem.W.keepIn K (.ref C)=true)
  (b:∀(kV doc pm:Value) (an:Option Addr) (cdv ct:Value) (us:List Value),us.length=ps.length->bindArgs (PySem.W.fnOf "__init__" q (XB st) (UQ st) (JD st) .none kV doc pm an cdv ct) ⟨us,[]⟩=pure (ps.zip us)):DefM K (Mk K C') "__init__" q st ps:=
 let ⟨_,_,a,i,F⟩:=D.ex
 ⟨_,_,F,by rw[e];exact⟨mk,a,i,kc⟩,F.binds b⟩
end
def fs {N P:List Str}{sc:Scope} (h1:sc.kind=.function:=by rfl) (h2:sc.isCoroutine=false:=by rfl) (h3:sc.isGenerator=false:=by rfl) (h4:N.Nodup:=by decide +kernel) (h5:N.take P.length=P:=by rfl) (h6:∀x∈P,sc.names.lookup x=some .local\/sc.names.lookup x=some .cell:=by decide +kernel) (h7:∀y∈sc.names,y.2≠.free:=by decide +kernel):FnScope N P sc:=⟨h1,h2,h3,h4,h5,h6,h7⟩
def pz {X:Cx}{pos:Pos}{x:Str}{e:Expr}{te:TE}{pos':Pos} (i:Nat) (hN:X.N.Nodup) (he:PE X e te) (hi:X.N[i]?=some x:=by rfl) (hx:Loc X.env.scope x:=by first|exact Or.inl rfl|exact Or.inr rfl) (hs:swapsWith e (some (.Name x pos')) pos.line X.env=pure false:=by rfl) (hf:X.fn x=true\/X.env.scope.names.lookup x=some .local:=by first|exact .inl rfl|exact .inr rfl|assumption) :
  PS X (.Assign [.Name x pos'] e pos) (tAsg te (PD i)):=R1 hN hi hx he hs hf
section
variable {K:Za}{mg:Str->Option Value}{E:L2.St->XK}{H0 H H1 H':Hp}{B Z Z':Addr->Prop}{σ:L2.St}{γ:Γ}
def EnvR.named {i:Nat}{a:Addr}{ds:List D} (env:EnvR K H0 B H σ γ) (hi:γ[i]?=some (some (.own (.lst ds)))) (ha:σ[i]?=some (some (.ref a))):EnvR K H0 B H σ (γ.set i (some (.own (.lsA a ds))))/\Fr B H σ γ H σ (γ.set i (some (.own (.lsA a ds)))):=by
 obtain⟨v,hv,b,rfl,hb0,us,hb,rb⟩:=env.slot i _ hi;rw[ha] at hv;cases hv
 have hz:∀b,zof B (γ.set i (some (.own (.lsA a ds)))) σ b->zof B γ σ b:=fun b z=>by
  rcases z with z|⟨j,fs,a',e1,e2,e3⟩
  ·exact .inl z
  ·rcases Uv e1 with⟨ej,q,_⟩|⟨_,e⟩
   ·subst ej;cases q
    rw[ha] at e2;cases e2
    exact .inr ⟨j,_,a,hi,ha,e3⟩
   ·exact .inr ⟨j,fs,a',e,e2,e3⟩
 exact env.change (o:=.lst ds) (o':=.lsA a ds) hi ha (fun _ _ h _=>h) (fun b h=>by rw[show b=a from h,hb];trivial) (fun b h=>.inl h) ⟨rfl,us,hb,Rps.mono (JS (Same.refl _) fun b _ _ z y=>z (hz b y)) rb⟩
def pNm (i:Nat) (p:PTS):PTS:=fun R γ=>match γ[i]? with
 | some (some (.own (.lst ds)))=>∀a,p R (γ.set i (some (.own (.lsA a ds))))
 | _=>p R γ
def KM (i:Nat) {t:TS}{p:PTS} (hp:SndS K mg E t p):SndS K mg E t (pNm i p):=by
 intro H0 B H σ γ R D hB env h e;unfold pNm at h;split at h
 ·rename_i ds hi;obtain⟨v,hv,b,rfl,hb0,us,hb,rb⟩:=env.slot i _ hi;obtain⟨e1,f1⟩:=env.named hi hv;exact hp H0 B H σ _ R D hB e1 (h b) (e.from f1)
 ·exact hp H0 B H σ γ R D hB env h e
def EnvR.change2 {i j:Nat}{a1 a2:Addr}{o1 o1' o2 o2':O} (E:EnvR K H0 B H σ γ) (hij:i≠j) (hi:γ[i]?=some (some (.own o1))) (hj:γ[j]?=some (some (.own o2))) (ha1:σ[i]?=some (some (.ref a1))) (ha2:σ[j]?=some (some (.ref a2)))
  (hH:∀b x,H b=some x->¬o1.adr a1 b->¬o2.adr a2 b->H' b=some x) (hm:∀b,o1.adr a1 b\/o2.adr a2 b->Mut (H' b)) (n1:∀b,o1'.adr a1 b->o1.adr a1 b\/H b=none) (n2:∀b,o2'.adr a2 b->o2.adr a2 b\/H b=none) (ap:∀b,o1'.adr a1 b->¬o2'.adr a2 b)
  (r1:OR K (Pu.off (zof B ((γ.set i (some (.own o1'))).set j (some (.own o2'))) σ) H') H' a1 o1') (r2:OR K (Pu.off (zof B ((γ.set i (some (.own o1'))).set j (some (.own o2'))) σ) H') H' a2 o2') :
  EnvR K H0 B H' σ ((γ.set i (some (.own o1'))).set j (some (.own o2')))/\Fr B H σ γ H' σ ((γ.set i (some (.own o1'))).set j (some (.own o2'))):=by
 generalize eg:(γ.set i (some (S.own o1'))).set j (some (.own o2'))=γ2 at r1 r2 ⊢
 have get:∀(k:Nat) (s:S),γ2[k]?=some (some s)->(k=j/\s=.own o2')\/(k=i/\k≠j/\s=.own o1')\/(k≠i/\k≠j/\γ[k]?=some (some s)):=fun k s h=>by
  rw[←eg] at h;rcases Uv h with⟨e1,e2,_⟩|⟨e1,e2⟩
  ·exact .inl ⟨e1,(Y2 e2).symm⟩
  ·rcases Uv e2 with⟨f1,f2,_⟩|⟨f1,f2⟩
   ·exact .inr (.inl ⟨f1,e1,(Y2 f2).symm⟩)
   ·exact .inr (.inr ⟨f1,e1,f2⟩)
 obtain⟨v1,q1,x1,rfl,h1,k1⟩:=E.slot i _ hi;rw[ha1] at q1;cases q1
 obtain⟨v2,q2,x2,rfl,h2,k2⟩:=E.slot j _ hj;rw[ha2] at q2;cases q2
 have za:∀b,o1.adr a1 b\/o2.adr a2 b->zof B γ σ b:=fun b hb=>hb.elim (fun hb=>.inr ⟨i,o1,a1,hi,ha1,hb⟩) fun hb=>.inr ⟨j,o2,a2,hj,ha2,hb⟩
 have hz:∀b x,H b=some x->zof B γ2 σ b->zof B γ σ b:=fun b x hx z=>by
  rcases z with z|⟨k,fs,a',e1,e2,e3⟩
  ·exact .inl z
  ·rcases get k _ e1 with⟨ek,es⟩|⟨ek,_,es⟩|⟨_,_,e⟩
   ·subst ek;cases es;rw[ha2] at e2;cases e2;rcases n2 b e3 with w|w
    ·exact za b (.inr w)
    ·rw[w] at hx;cases hx
   ·subst ek;cases es;rw[ha1] at e2;cases e2;rcases n1 b e3 with w|w
    ·exact za b (.inl w)
    ·rw[w] at hx;cases hx
   ·exact .inr ⟨k,fs,a',e,e2,e3⟩
 have hH':∀b x,H b=some x->¬(o1.adr a1 b\/o2.adr a2 b)->H' b=some x:=fun b x hx n=>hH b x hx (fun z=>n (.inl z)) fun z=>n (.inr z)
 have S1:Same (Pu.off (zof B γ σ) H) (Pu.off (zof B γ2 σ) H'):=fun b x h=>by
  obtain⟨q1,q2⟩:=XM h;exact U4 (hH' b x q1 fun k=>q2 (za b k)) fun z=>q2 (hz b x q1 z)
 have old:∀(k:Nat) (ds:O) (a b:Addr),γ[k]?=some (some (.own ds))->σ[k]?=some (some (.ref a))->ds.adr a b->∃o,H b=some o:=fun k ds a b e1 e2 e3=>by
  obtain⟨u,q1,a',q2,_,q3⟩:=E.slot k _ e1;rw[e2] at q1;cases q1
  cases q2
  exact Kq (q3.mut b e3)
 have apart1:∀(k:Nat) (ds:O) (a b:Addr),k≠i->γ[k]?=some (some (.own ds))->σ[k]?=some (some (.ref a))->ds.adr a b->¬o1'.adr a1 b:=fun k ds a b nk e1 e2 e3 w=>by
  rcases n1 b w with w|w
  ·exact nk (E.own k i a a1 ds o1 b e1 hi e2 ha1 e3 w)
  ·obtain⟨u,hu⟩:=old k ds a b e1 e2 e3;rw[w] at hu;cases hu
 have apart2:∀(k:Nat) (ds:O) (a b:Addr),k≠j->γ[k]?=some (some (.own ds))->σ[k]?=some (some (.ref a))->ds.adr a b->¬o2'.adr a2 b:=fun k ds a b nk e1 e2 e3 w=>by
  rcases n2 b w with w|w
  ·exact nk (E.own k j a a2 ds o2 b e1 hj e2 ha2 e3 w)
  ·obtain⟨u,hu⟩:=old k ds a b e1 e2 e3;rw[w] at hu;cases hu
 refine⟨⟨fun b x h=>?_,by rw[←eg,Wt,Wt];exact E.len,fun b hb=>?_,fun k l x x' fs fs' b e1 e2 e3 e4 e5 e6=>?_,fun k s h=>?_⟩,fun b x h z=>⟨?_,fun y=>z (hz b x h y)⟩⟩
 ·exact hH' b x (E.same b x h) fun k=>by
   rcases k with k|k
   ·rw[h1 b k] at h;cases h
   ·rw[h2 b k] at h;cases h
 ·by_cases k:o1.adr a1 b\/o2.adr a2 b
  ·exact hm b k
  ·have:=E.bm b hb
   obtain⟨x,hx⟩:=Kq this;rw[hH' b x hx k,←hx];exact this
 ·rcases get k _ e1 with⟨ek,es⟩|⟨ek,nk,es⟩|⟨nk,nk',e⟩<;>rcases get l _ e2 with⟨el,et⟩|⟨el,nl,et⟩|⟨nl,nl',e'⟩
  ·rw[ek,el]
  ·subst ek el;cases es;cases et;rw[ha2] at e3;cases e3;rw[ha1] at e4;cases e4;exact absurd e5 (ap b e6)
  ·subst ek;cases es;rw[ha2] at e3;cases e3;exact absurd e5 (apart2 l fs' x' b nl' e' e4 e6)
  ·subst ek el;cases es;cases et;rw[ha1] at e3;cases e3;rw[ha2] at e4;cases e4;exact absurd e6 (ap b e5)
  ·rw[ek,el]
  ·subst ek;cases es;rw[ha1] at e3;cases e3;exact absurd e5 (apart1 l fs' x' b nl e' e4 e6)
  ·subst el;cases et;rw[ha2] at e4;cases e4;exact absurd e6 (apart2 k fs x b nk' e e3 e5)
  ·subst el;cases et;rw[ha1] at e4;cases e4;exact absurd e6 (apart1 k fs x b nk e e3 e5)
  ·exact E.own k l x x' fs fs' b e e' e3 e4 e5 e6
 ·rcases get k s h with⟨ek,es⟩|⟨ek,_,es⟩|⟨nk,nk',e⟩
  ·subst ek es;exact⟨_,ha2,a2,rfl,fun b hb=>(n2 b hb).elim (h2 b) fun w=>E.same.free w,r2⟩
  ·subst ek es;exact⟨_,ha1,a1,rfl,fun b hb=>(n1 b hb).elim (h1 b) fun w=>E.same.free w,r1⟩
  ·obtain⟨v,q1,q2⟩:=E.slot k s e;refine⟨v,q1,?_⟩;cases s with
   | bor d=>exact q2
   | sh d=>exact Rp.mono S1 q2
   | own fs=>
    obtain⟨x,rfl,e3,e4⟩:=q2;exact⟨x,rfl,e3,e4.mono S1 fun b hb y e2=>hH b y e2 (fun w=>nk (E.own k i x a1 fs o1 b e hi q1 ha1 hb w)) fun w=>nk' (E.own k j x a2 fs o2 b e hj q1 ha2 hb w)⟩
   | view ds=>exact q2
   | tmp d=>exact q2
 ·exact hH' b x h fun k=>z (za b k)
abbrev Pw2:=O->O->List S->(O->O->D->Prop)->(O->O->Str->Prop)->Prop
def two (o1 o2:O) (a1 a2:Addr):Addr->Prop:=fun b=>o1.adr a1 b\/o2.adr a2 b
structure After2 (K:Za) (B:Addr->Prop) (H:Hp) (a1 a2:Addr) (o1 o2 o1' o2':O) (H':Hp):Prop where
 same:Same (off (two o1 o2 a1 a2) H) H'
 old1:∀b,o1.adr a1 b->o1'.adr a1 b
 old2:∀b,o2.adr a2 b->o2'.adr a2 b
 new1:∀b,o1'.adr a1 b->o1.adr a1 b\/H b=none
 new2:∀b,o2'.adr a2 b->o2.adr a2 b\/H b=none
 apart:∀b,o1'.adr a1 b->¬o2'.adr a2 b
 at1:OR K (off (fun b=>B b\/two o1' o2' a1 a2 b) H') H' a1 o1'
 at2:OR K (off (fun b=>B b\/two o1' o2' a1 a2 b) H') H' a2 o2'
def spW2 (mg:Str->Option Value) (c:Pw2) (K:Za):Sp:=fun vs H Q E=>∃(o1 o2:O) (a1 a2:Addr) (ss:List S) (us:List V) (B:Addr->Prop) (R:O->O->D->Prop) (X:O->O->Str->Prop),
 vs=.ref a1 :: .ref a2::us/\(∀b,B b->Mut (H b)/\¬two o1 o2 a1 a2 b)/\(∀b,o1.adr a1 b->¬o2.adr a2 b)/\OR K (off (fun b=>B b\/two o1 o2 a1 a2 b) H) H a1 o1/\OR K (off (fun b=>B b\/two o1 o2 a1 a2 b) H) H a2 o2/\
 TVs K (fun b=>B b\/two o1 o2 a1 a2 b) (off (two o1 o2 a1 a2) H) H H ss us/\(∀s∈ss,s.flat)/\c o1 o2 ss R X/\
 (∀o1' o2' d v H',R o1' o2' d->After2 K B H a1 a2 o1 o2 o1' o2' H'->Rp K (off (fun b=>B b\/two o1' o2' a1 a2 b) H') d v->Q v H')/\∀o1' o2' e H',X o1' o2' e->After2 K B H a1 a2 o1 o2 o1' o2' H'->E (.ref (ExcR.JB mg e)) none H'
def XX (N:List Str) (o1 o2:O) (ss:List S):Γ:=some (.own o1)::some (.own o2)::(ss.map some++List.replicate (N.length-(ss.length+2)) none)
def Zfm {N:List Str}{o1 o2:O}{a1 a2:Addr}{ss:List S}{us:List V} (hB:∀b,B b->Mut (H b)/\¬two o1 o2 a1 a2 b) (ap:∀b,o1.adr a1 b->¬o2.adr a2 b) (ho1:OR K (off (fun b=>B b\/two o1 o2 a1 a2 b) H) H a1 o1) (ho2:OR K (off (fun b=>B b\/two o1 o2 a1 a2 b) H) H a2 o2)
  (r:TVs K (fun b=>B b\/two o1 o2 a1 a2 b) (off (two o1 o2 a1 a2) H) H H ss us) (hf:∀s∈ss,s.flat) (hn:ss.length+2<=N.length) :
  EnvR K (off (two o1 o2 a1 a2) H) B H (start N (.ref a1 :: .ref a2::us)) (XX N o1 o2 ss):=by
 have hlen:=r.len
 have get:∀(i:Nat) (s:S),(XX N o1 o2 ss)[i+2]?=some (some s)->ss[i]?=some s:=fun i s h=>by
  unfold XX at h;rw[Wf,Wf] at h;by_cases hi:i<ss.length
  ·rw[YQ (by rw[Yn];exact hi),Y0,Yp hi] at h;rw[Yp hi];exact Wa some (Y2 (Y2 h))
  ·rw[YN (by rw[Yn];omega),WN] at h;split at h<;>cases h
 have noown:∀(i:Nat) (es:O),(XX N o1 o2 ss)[i+2]?≠some (some (.own es)):=fun i es h=>hf _ (YE (get i _ h))
 have st0:(start N (V.ref a1::V.ref a2::us))[0]?=some (some (.ref a1)):=by
  unfold L2.start;rfl
 have st1:(start N (V.ref a1::V.ref a2::us))[1]?=some (some (.ref a2)):=by
  unfold L2.start;rfl
 have g0:∀s,(XX N o1 o2 ss)[0]?=some (some s)->s=.own o1:=fun s h=>by
  have h:some (some (S.own o1))=some (some s):=h;cases h
  rfl
 have g1:∀s,(XX N o1 o2 ss)[1]?=some (some s)->s=.own o2:=fun s h=>by
  have h:some (some (S.own o2))=some (some s):=h;cases h
  rfl
 have hz:∀b,zof B (XX N o1 o2 ss) (start N (V.ref a1::V.ref a2::us)) b->B b\/two o1 o2 a1 a2 b:=fun b z=>by
  rcases z with z|⟨i,es,a',h1,h2,h3⟩
  ·exact .inl z
  ·match i,h1,h2 with
   | 0,h1,h2=>
    rw[st0] at h2;cases h2
    cases g0 _ h1
    exact .inr (.inl h3)
   | 1,h1,h2=>
    rw[st1] at h2;cases h2
    cases g1 _ h1
    exact .inr (.inr h3)
   | i+2,h1,_=>exact absurd h1 (noown i es)
 have toz:∀{o:O} {a:Addr},OR K (off (fun b=>B b\/two o1 o2 a1 a2 b) H) H a o->OR K (off (zof B (XX N o1 o2 ss) (start N (V.ref a1::V.ref a2::us))) H) H a o:=fun h=>h.mono (JS (Same.refl _) fun b _ _ z y=>z (hz b y)) fun _ _ _ q=>q;refine⟨off_sub,?_,fun b h=>(hB b h).1,fun i j x x' es es' b h1 h2 h3 h4 h5 h6=>?_,fun i s h=>?_⟩
 ·unfold L2.start XX;simp[hlen]
 ·match i,j,h1,h2,h3,h4 with
  | 0,0,_,_,_,_=>rfl
  | 1,1,_,_,_,_=>rfl
  | 0,1,h1,h2,h3,h4=>
   cases g0 _ h1
   cases g1 _ h2
   rw[st0] at h3;cases h3
   rw[st1] at h4;cases h4
   exact absurd h6 (ap b h5)
  | 1,0,h1,h2,h3,h4=>
   cases g1 _ h1
   cases g0 _ h2
   rw[st1] at h3;cases h3
   rw[st0] at h4;cases h4
   exact absurd h5 (ap b h6)
  | i+2,_,h1,_,_,_=>exact absurd h1 (noown i es)
  | 0,j+2,_,h2,_,_=>exact absurd h2 (noown j es')
  | 1,j+2,_,h2,_,_=>exact absurd h2 (noown j es')
 ·match i,h with
  | 0,h=>
   cases g0 _ h
   refine⟨_,st0,a1,rfl,fun b hb=>?_,toz ho1⟩;unfold off;rw[Ys (.inl hb)]
  | 1,h=>
   cases g1 _ h
   refine⟨_,st1,a2,rfl,fun b hb=>?_,toz ho2⟩;unfold off;rw[Ys (.inr hb)]
  | i+2,h=>
   have hs:=get i s h;obtain⟨v,hv,tv⟩:=r.get hs;refine⟨v,?_,?_⟩
   ·unfold L2.start;rw[YQ (by rw[Yn,YD,YD];have:=(YF.mp hv).1;omega),Y0,Wf,Wf,hv];rfl
   ·have:=hf s (YE hs)
    cases s with
    | bor d=>exact tv
    | sh d=>exact Rp.mono (JS (Same.refl _) fun b _ _ z y=>z (hz b y)) tv
    | own _=>exact this.elim
    | view _=>exact this.elim
    | tmp _=>exact this.elim
def CZ (o1 o2:O) (R:O->O->D->Prop) (γ:Γ) (d:D):Prop:=∃o1' o2',γ[0]?=some (some (.own o1'))/\γ[1]?=some (some (.own o2'))/\o1.from o1'/\o2.from o2'/\R o1' o2' d
def MQ (o1 o2:O) (X:O->O->Str->Prop) (γ:Γ) (e:Str):Prop:=∃o1' o2',γ[0]?=some (some (.own o1'))/\γ[1]?=some (some (.own o2'))/\o1.from o1'/\o2.from o2'/\X o1' o2' e
def Da (o1 o2:O) (R:O->O->D->Prop) (X:O->O->Str->Prop):PEnds:={ nx:=fun γ=>CZ o1 o2 R γ .non,rt:=fun _=>False,ex:=MQ o1 o2 X,rv:=CZ o1 o2 R }
def BF {a1 a2:Addr}{o1 o2 o1' o2':O}{σ':L2.St}{γ':Γ} (ho1:OR K (off (fun b=>B b\/two o1 o2 a1 a2 b) H) H a1 o1) (ho2:OR K (off (fun b=>B b\/two o1 o2 a1 a2 b) H) H a2 o2) (e:EnvR K (off (two o1 o2 a1 a2) H) B H' σ' γ') (h1:γ'[0]?=some (some (.own o1'))) (h2:γ'[1]?=some (some (.own o2'))) (k1:o1.from o1') (k2:o2.from o2') :
  After2 K B H a1 a2 o1 o2 o1' o2' H'/\∀b,B b\/two o1' o2' a1 a2 b->zof B γ' σ' b:=by
 obtain⟨v1,s1,x1,rfl,p1,q1⟩:=e.slot 0 _ h1;obtain rfl:=O.from_at k1 ho1 q1;obtain⟨v2,s2,x2,rfl,p2,q2⟩:=e.slot 1 _ h2;obtain rfl:=O.from_at k2 ho2 q2
 have hz:∀b,B b\/two o1' o2' x1 x2 b->zof B γ' σ' b:=fun b z=>by
  rcases z with z|z|z
  ·exact .inl z
  ·exact .inr ⟨0,o1',x1,h1,s1,z⟩
  ·exact .inr ⟨1,o2',x2,h2,s2,z⟩
 have ap:∀b,o1'.adr x1 b->¬o2'.adr x2 b:=fun b z y=>absurd (e.own 0 1 x1 x2 o1' o2' b h1 h2 s1 s2 z y) (by decide);have fromZ:∀{o:O} {a:Addr},OR K (off (zof B γ' σ') H') H' a o->OR K (off (fun b=>B b\/two o1' o2' x1 x2 b) H') H' a o:=fun h=>h.mono (JS (Same.refl _) fun b _ _ z y=>z (hz b y)) fun _ _ _ q=>q
 have free:∀b,off (two o1 o2 x1 x2) H b=none->two o1 o2 x1 x2 b\/H b=none:=fun b w=>by
  unfold off at w;by_cases q:two o1 o2 x1 x2 b
  ·exact .inl q
  ·rw[Yq q] at w;exact .inr w
 refine⟨⟨e.same,O.from_adr k1,O.from_adr k2,fun b hb=>?_,fun b hb=>?_,ap,fromZ q1,fromZ q2⟩,hz⟩
 ·rcases free b (p1 b hb) with(w|w)|w
  ·exact .inl w
  ·exact absurd (O.from_adr k2 b w) (ap b hb)
  ·exact .inr w
 ·rcases free b (p2 b hb) with(w|w)|w
  ·exact absurd hb (ap b (O.from_adr k1 b w))
  ·exact .inl w
  ·exact .inr w
def OI {c:Pw2}{N:List Str}{t:TS}{p:PTS}{vs:List V}{Q:VK}{Ec:XK}{n:Nat} (h:spW2 mg c K vs H Q Ec) (snd:SndS K mg (fun _=>Ec) t p) (hn:n+2<=N.length)
  (hp:∀o1 o2 ss R X,c o1 o2 ss R X->ss.length=n/\p (Da o1 o2 R X) (XX N o1 o2 ss)):t { nx:=fun _ H'=>Q .non H',rt:=Q } (start N vs) H:=by
 obtain⟨o1,o2,a1,a2,ss,us,B,R,X,rfl,hB,ap,ho1,ho2,r,hf,hc,hQ,hX⟩:=h;obtain⟨e,hp⟩:=hp o1 o2 ss R X hc;have env:=Zfm (N:=N) hB ap ho1 ho2 r hf (by rw[e];exact hn);refine snd _ B H _ _ _ _ (fun b z=>?_) env hp ⟨fun σ' γ' H' h1 e1 f1=>?_,fun _ _ _ z=>z.elim,fun σ' γ' c H' h1 e1 f1=>?_,fun _ _ _ z=>z.elim,fun _ _ _ z=>z.elim,fun σ' γ' d v H' h1 e1 f1 rd=>?_⟩
 ·obtain⟨q1,q2⟩:=hB b z;obtain⟨x,hx⟩:=Kq q1;exact⟨x,U4 hx q2⟩
 ·obtain⟨o1',o2',q1,q2,q3,q4,q5⟩:=h1;exact hQ o1' o2' .non .non H' q5 (BF ho1 ho2 e1 q1 q2 q3 q4).1 .non
 ·obtain⟨o1',o2',q1,q2,q3,q4,q5⟩:=h1;exact hX o1' o2' c H' q5 (BF ho1 ho2 e1 q1 q2 q3 q4).1
 ·obtain⟨o1',o2',q1,q2,q3,q4,q5⟩:=h1;obtain⟨k1,k2⟩:=BF ho1 ho2 e1 q1 q2 q3 q4;exact hQ o1' o2' d v H' q5 k1 (Rp.mono (JS (Same.refl _) fun b _ _ z y=>z (k2 b y)) rd)
def RP {c:Pw2}{vs:List V}{Q:VK}{Ec:XK}{n:Nat} (h:spW2 mg c K vs H Q Ec) (hn:∀o1 o2 ss R X,c o1 o2 ss R X->ss.length=n):vs.length=n+2:=by
 obtain⟨o1,o2,a1,a2,ss,us,B,R,X,rfl,_,_,_,_,r,_,hc,_⟩:=h;rw[YD,YD,r.len,hn o1 o2 ss R X hc]
def Zem {c:Pw2}{i j:Nat}{o1 o2:O}{a1 a2:Addr}{ss ss':List S}{us:List V}{R:Γ->D->Prop}{X:Γ->Str->Prop}{Q:VK}{Ec:XK} (env:EnvR K H0 B H σ γ) (hB:∀b,B b->∃o,H0 b=some o) (S1:Same H H1) (hij:i≠j) (hi:γ[i]?=some (some (.own o1))) (hj:γ[j]?=some (some (.own o2))) (ha1:σ[i]?=some (some (.ref a1))) (ha2:σ[j]?=some (some (.ref a2)))
  (t1:TVs K (zof B γ σ) H0 H H1 ss us) (hp:passes ss=some ss') (hc:c o1 o2 ss' (fun o1' o2' d=>R ((γ.set i (some (.own o1'))).set j (some (.own o2'))) d) (fun o1' o2' e=>X ((γ.set i (some (.own o1'))).set j (some (.own o2'))) e))
  (q:∀γ' d v H',R γ' d->EnvR K H0 B H' σ γ'->Fr B H σ γ H' σ γ'->Rp K (off (zof B γ' σ) H') d v->Q v H') (qx:∀γ' c H',X γ' c->EnvR K H0 B H' σ γ'->Fr B H σ γ H' σ γ'->Ec (.ref (ExcR.JB mg c)) none H'):spW2 mg c K (.ref a1 :: .ref a2::us) H1 Q Ec:=by
 have env1:=env.grow S1;obtain⟨v1,h1,x1,e1,h3,h4⟩:=env1.slot i _ hi;rw[ha1] at h1;cases h1
 cases e1
 obtain⟨v2,h2,x2,e2,h5,h6⟩:=env1.slot j _ hj;rw[ha2] at h2;cases h2
 cases e2
 have ap:∀b,o1.adr a1 b->¬o2.adr a2 b:=fun b z y=>hij (env.own i j a1 a2 o1 o2 b hi hj ha1 ha2 z y);have za:∀b,two o1 o2 a1 a2 b->zof B γ σ b:=fun b hb=>hb.elim (fun hb=>.inr ⟨i,o1,a1,hi,ha1,hb⟩) fun hb=>.inr ⟨j,o2,a2,hj,ha2,hb⟩;have h0:∀b,two o1 o2 a1 a2 b->H0 b=none:=fun b hb=>hb.elim (h3 b) (h5 b);have down:∀{o:O} {a:Addr},OR K (off (zof B γ σ) H1) H1 a o->OR K (off (fun b=>(zof B γ σ b/\¬two o1 o2 a1 a2 b)\/two o1 o2 a1 a2 b) H1) H1 a o:=fun h=>h.mono (JS (Same.refl _) fun b _ _ z y=>z (y.elim (fun y=>y.1) (za b))) fun _ _ _ q=>q
 have aft:∀o1' o2' H',After2 K (fun b=>zof B γ σ b/\¬two o1 o2 a1 a2 b) H1 a1 a2 o1 o2 o1' o2' H'->EnvR K H0 B H' σ ((γ.set i (some (.own o1'))).set j (some (.own o2')))/\Fr B H σ γ H' σ ((γ.set i (some (.own o1'))).set j (some (.own o2')))/\∀b x,H' b=some x->¬((zof B γ σ b/\¬two o1 o2 a1 a2 b)\/two o1' o2' a1 a2 b)->¬zof B ((γ.set i (some (.own o1'))).set j (some (.own o2'))) σ b:=fun o1' o2' H' A=>by
  have hzz:∀b x,H' b=some x->¬((zof B γ σ b/\¬two o1 o2 a1 a2 b)\/two o1' o2' a1 a2 b)->¬zof B ((γ.set i (some (.own o1'))).set j (some (.own o2'))) σ b:=fun b x _ n z=>by
   rcases z with z|⟨k,fs,a',e1,e2,e3⟩
   ·refine n (.inl ⟨.inl z,fun w=>?_⟩);obtain⟨u,hu⟩:=hB b z;rw[h0 b w] at hu;cases hu
   ·rcases Uv e1 with⟨ek,q,_⟩|⟨nk,q⟩
    ·subst ek;cases q
     rw[ha2] at e2;cases e2
     exact n (.inr (.inr e3))
    ·rcases Uv q with⟨ek,q',_⟩|⟨nk',q'⟩
     ·subst ek;cases q'
      rw[ha1] at e2;cases e2
      exact n (.inr (.inl e3))
     ·refine n (.inl ⟨.inr ⟨k,fs,a',q',e2,e3⟩,fun w=>?_⟩);rcases w with w|w
      ·exact nk' (env.own k i a' a1 fs o1 b q' hi e2 ha1 e3 w)
      ·exact nk (env.own k j a' a2 fs o2 b q' hj e2 ha2 e3 w)
  have up:∀{o:O} {a:Addr},OR K (off (fun b=>(zof B γ σ b/\¬two o1 o2 a1 a2 b)\/two o1' o2' a1 a2 b) H') H' a o->OR K (off (zof B ((γ.set i (some (.own o1'))).set j (some (.own o2'))) σ) H') H' a o:=fun h=>h.mono (JS (Same.refl _) fun b x hx z=>hzz b x hx z) fun _ _ _ q=>q;obtain⟨k1,k2⟩:=env1.change2 (o1':=o1') (o2':=o2') (H':=H') hij hi hj ha1 ha2 (fun b x hx n1 n2=>A.same b x (U4 hx fun w=>w.elim n1 n2)) (fun b hb=>hb.elim (fun hb=>A.at1.mut b (A.old1 b hb)) fun hb=>A.at2.mut b (A.old2 b hb)) A.new1 A.new2 A.apart (up A.at1) (up A.at2);exact⟨k1,(Fr.grow S1).trans k2,hzz⟩
 refine⟨o1,o2,a1,a2,ss',us,fun b=>zof B γ σ b/\¬two o1 o2 a1 a2 b,_,_,rfl,fun b hb=>⟨env1.zm b hb.1,hb.2⟩,ap,down h4,down h6,?_,TK hp,hc,fun o1' o2' d v H' hR A rd=>?_,fun o1' o2' e H' hX A=>?_⟩
 ·refine t1.pass env1.same env.zm S1 (fun b x hx=>U4 (env1.same b x hx) fun w=>?_) (JS (Same.refl _) fun b _ _ z y=>z (y.elim (fun y=>y.1) (za b))) hp;rw[h0 b w] at hx;cases hx
 ·obtain⟨k1,k2,k3⟩:=aft o1' o2' H' A;exact q _ d v H' hR k1 k2 (Rp.mono (fun b x h=>let ⟨p1,p2⟩:=XM h;U4 p1 (k3 b x p1 p2)) rd)
 ·obtain⟨k1,k2,_⟩:=aft o1' o2' H' A;exact qx _ e H' hX k1 k2
def Zfz (i j:Nat) (c:Pw2) (r:PTA):PTW:=fun γ R X=>match γ[i]?,γ[j]? with
 | some (some (.own o1)),some (some (.own o2))=>r γ (fun ss=>match passes ss with|some ss'=>c o1 o2 ss' (fun o1' o2' d=>R ((γ.set i (some (.own o1'))).set j (some (.own o2'))) d) (fun o1' o2' e=>X ((γ.set i (some (.own o1'))).set j (some (.own o2'))) e)|none=>False) (X γ)
 | _,_=>False
def Hm (i j:Nat) (c:Pw2) (r:PTA):PTW:=fun γ R X=>match γ[i]?,γ[j]? with
 | some (some (.own o1)),some (some (.own o2))=>r γ (fun ss=>match passes ss with|some ss'=>c o1 o2 ss' (fun o1' o2' d=>R ((γ.set i (some (.own o1'))).set j (some (.own o2'))) d) (fun _ _ _=>False)|none=>False) (X γ)
 | _,_=>False
def P7 (i j:Nat) (hij:i≠j) {c:Pw2}{ta:TA}{r:PTA} (hr:SndA K mg E ta r):SndW K mg E (KC (spW2 mg c K) [] E0 (UO (tVar i) (UO (tVar j) ta))) (Hm i j c r):=by
 intro H0 B H σ γ R X Q hB env h q qx;unfold Hm at h;split at h
 ·rename_i o1 o2 hi hj;obtain⟨v1,hv1,a1,rfl,_,_⟩:=env.slot i _ hi;obtain⟨v2,hv2,a2,rfl,_,_⟩:=env.slot j _ hj;refine⟨_,hv1,_,hv2,hr H0 B H σ γ _ _ _ env h (fun ss us H1 h1 S1 t1=>?_) fun c H' hc S'=>qx γ c H' hc (env.grow S') (Fr.grow S')⟩;show spW2 mg c K ((V.ref a1::V.ref a2::us)++[]) H1 Q E0;rw[Wc];split at h1
  ·rename_i ss' ep;exact Zem (X:=fun _ _=>False) env hB S1 hij hi hj hv1 hv2 t1 ep h1 q fun _ _ _ z=>z.elim
  ·exact h1.elim
 ·exact h.elim
abbrev PTV:=Γ->(Γ->Bool->Prop)->(Γ->Str->Prop)->Prop
def SndV (K:Za) (mg:Str->Option Value) (E:L2.St->XK) (t:TT) (p:PTV):Prop:=∀(H0:Hp) (B:Addr->Prop) (H:Hp) (σ:L2.St) (γ:Γ) (R:Γ->Bool->Prop) (X:Γ->Str->Prop) (Q:Bool->Hp->Prop),(∀b,B b->∃o,H0 b=some o)->EnvR K H0 B H σ γ->p γ R X->
 (∀γ' b H',R γ' b->EnvR K H0 B H' σ γ'->Fr B H σ γ H' σ γ'->Q b H')->(∀γ' c H',X γ' c->EnvR K H0 B H' σ γ'->Fr B H σ γ H' σ γ'->E σ (.ref (ExcR.JB mg c)) none H')->t σ H Q
def pVW (w:PTW):PTV:=fun γ R X=>w γ (fun γ' d=>match d with | .bl c=>R γ' c|_=>False) X
def sv_w {te:TE}{w:PTW} (hw:SndW K mg E te w):SndV K mg E (tTru K te) (pVW w):=by
 intro H0 B H σ γ R X Q hB env h q qx;refine hw H0 B H σ γ _ _ _ hB env h (fun γ' d v H' h1 e1 f1 rd=>?_) qx;split at h1
 ·rw[rd.bl_inv];exact⟨_,rfl,q _ _ _ h1 e1 f1⟩
 ·exact h1.elim
def pVP (p:PTT):PTV:=fun γ R X=>p γ (fun b=>R γ b) (X γ)
def sv_p {t:TT}{p:PTT} (hp:SndT K mg E t p):SndV K mg E t (pVP p):=by
 intro H0 B H σ γ R X Q hB env h q qx;exact hp H0 B H σ γ _ _ _ env h (fun b H' h1 S1=>q γ b H' h1 (env.grow S1) (Fr.grow S1)) fun c H' hc S1=>qx γ c H' hc (env.grow S1) (Fr.grow S1)
def Ii (p:PTV):PTV:=fun γ R X=>p γ (fun γ' b=>R γ' (!b)) X
def P3 {t:TT}{p:PTV} (hp:SndV K mg E t p):SndV K mg E (tNot t) (Ii p):=by
 intro H0 B H σ γ R X Q hB env h q qx;exact hp H0 B H σ γ _ _ _ hB env h (fun γ' b H' h1 e1 f1=>q γ' (!b) H' h1 e1 f1) qx
def pVOr (p r:PTV):PTV:=fun γ R X=>p γ (fun γ' b=>if b=true then R γ' true else r γ' R X) X
def Zbv {t u:TT}{p r:PTV} (hp:SndV K mg E t p) (hr:SndV K mg E u r):SndV K mg E (tOr t u) (pVOr p r):=by
 intro H0 B H σ γ R X Q hB env h q qx;refine hp H0 B H σ γ _ _ _ hB env h (fun γ' b H' h1 e1 f1=>?_) qx;cases b with
 | true=>exact q _ _ _ (by simpa using h1) e1 f1
 | false=>
  have h1':r γ' R X:=by simpa using h1
  exact hr H0 B H' σ γ' _ _ _ hB e1 h1' (fun γ2 b H2 h2 e2 f2=>q _ _ _ h2 e2 (f1.trans f2)) fun γ2 c H2 h2 e2 f2=>qx _ _ _ h2 e2 (f1.trans f2)
def pIfV (c:PTV) (p q:PTS):PTS:=fun R γ=>c γ (fun γ' b=>if b=true then p R γ' else q R γ') R.ex
def PN {tt:TT}{c:PTV}{t u:TS}{p q:PTS} (hc:SndV K mg E tt c) (hp:SndS K mg E t p) (hq:SndS K mg E u q):SndS K mg E (tIfS tt t u) (pIfV c p q):=by
 intro H0 B H σ γ R D hB env h e;refine hc H0 B H σ γ _ _ _ hB env h (fun γ' b H' h1 e1 f1=>?_) fun γ' c H' h1 e1 f1=>e.ex _ _ _ _ h1 e1 f1;cases b with
 | true=>
  rw[Ys rfl];exact hp H0 B H' σ γ' R D hB e1 (by simpa using h1) (e.from f1)
 | false=>
  rw[Yq (by decide)];exact hq H0 B H' σ γ' R D hB e1 (by simpa using h1) (e.from f1)
def AI (i:Nat):PTW:=fun γ R _=>match γ[i]? with
 | some (some (.own (.lsA x ds)))=>∃d,ds[ds.length-1]?=some d/\R (γ.set i (some (.own (.lsA x ds.dropLast)))) d
 | some (some (.own (.lst ds)))=>∃d,ds[ds.length-1]?=some d/\R (γ.set i (some (.own (.lst ds.dropLast)))) d
 | _=>False
def SK (i:Nat):SndW K mg E (tBM0 K "list" rPop (tVar i)) (AI i):=by
 intro H0 B H σ γ R X Q hB env h q qx;unfold AI at h;split at h
 ·rename_i x ds hi;obtain⟨d,ed,h⟩:=h;obtain⟨v,hv,b,rfl,hb0,rfl,us,hb,rb⟩:=env.slot i _ hi;obtain⟨u,hu,ru⟩:=rb.get ed;refine⟨_,hv,.inl ⟨rfl,us,SqL.of hb⟩,b,us,u,rfl,rfl,hb,by rw[rb.len];exact hu,?_⟩;obtain⟨e2,f2⟩:=env.mutate (es:=.lsA b ds.dropLast) (us:=.lst us.dropLast) hi hv trivial fun F H' SF hF=>⟨rfl,_,hF,Rps.mono SF (Rps.dropLast rb)⟩;exact q _ _ _ _ h e2 f2 (Rp.mono f2.off ru)
 ·rename_i ds hi;obtain⟨d,ed,h⟩:=h;obtain⟨v,hv,b,rfl,hb0,us,hb,rb⟩:=env.slot i _ hi;obtain⟨u,hu,ru⟩:=rb.get ed;refine⟨_,hv,.inl ⟨rfl,us,SqL.of hb⟩,b,us,u,rfl,rfl,hb,by rw[rb.len];exact hu,?_⟩;obtain⟨e2,f2⟩:=env.mutate (es:=.lst ds.dropLast) (us:=.lst us.dropLast) hi hv trivial fun F H' SF hF=>⟨_,hF,Rps.mono SF (Rps.dropLast rb)⟩;exact q _ _ _ _ h e2 f2 (Rp.mono f2.off ru)
 ·exact h.elim
def pIxW (w:PTW) (k:Int):PTW:=fun γ R X=>w γ (fun γ' d=>match d with | .tup ds=>∃e,atI ds k=some e/\R γ' e|_=>False) X
def RV {te:TE}{w:PTW}{k:Int} (hw:SndW K mg E te w):SndW K mg E (tOp (fun x y H Q=>rIxL K x y H Q\/rIxT K x y H Q) te (tC (.int k))) (pIxW w k):=by
 intro H0 B H σ γ R X Q hB env h q qx;refine hw H0 B H σ γ _ _ _ hB env h (fun γ' d v H' h1 e1 f1 rd=>?_) qx;split at h1
 ·rename_i ds;obtain⟨e,he,h1⟩:=h1;obtain⟨a,vs,rfl,ha,r⟩:=Rp.tup_inv rd;obtain⟨u,hu,ru⟩:=r.at he;exact .inr ⟨a,vs,k,u,rfl,rfl,SqT.of (off_sub _ _ ha),hu,q _ _ _ _ h1 e1 f1 ru⟩
 ·exact h1.elim
abbrev Pq:=List S->(S->Prop)->(Str->Prop)->Prop
def spS (mg:Str->Option Value) (c:Pq) (K:Za):Sp:=fun vs H Q E=>∃(ss:List S) (B:Addr->Prop) (R:S->Prop) (X:Str->Prop),(∀b,B b->Mut (H b))/\TVs K B H H H ss vs/\(∀s∈ss,s.flat)/\c ss R X/\
 (∀s v H',R s->Same H H'->TV K B H H H' s v->Q v H')/\∀e H',X e->Same H H'->E (.ref (ExcR.JB mg e)) none H'
def KF (N:List Str) (ss:List S):Γ:=ss.map some++List.replicate (N.length-ss.length) none
def IY {N:List Str}{ss:List S}{us:List V} (hB:∀b,B b->Mut (H b)) (r:TVs K B H H H ss us) (hf:∀s∈ss,s.flat) (hn:ss.length<=N.length):EnvR K H B H (start N us) (KF N ss):=by
 have hlen:=r.len
 have get:∀(i:Nat) (s:S),(KF N ss)[i]?=some (some s)->ss[i]?=some s:=fun i s h=>by
  unfold KF at h;by_cases hi:i<ss.length
  ·rw[YQ (by rw[Yn];exact hi),Y0,Yp hi] at h;rw[Yp hi];exact Wa some (Y2 (Y2 h))
  ·rw[YN (by rw[Yn];omega),WN] at h;split at h<;>cases h
 have noown:∀(i:Nat) (es:O),(KF N ss)[i]?≠some (some (.own es)):=fun i es h=>hf _ (YE (get i _ h))
 have hz:∀b,zof B (KF N ss) (start N us) b->B b:=fun b z=>by
  rcases z with z|⟨i,es,a',h1,h2,h3⟩
  ·exact z
  ·exact absurd h1 (noown i es)
 refine⟨Same.refl _,?_,hB,fun i j x x' es es' b h1 _ _ _ _ _=>absurd h1 (noown i es),fun i s h=>?_⟩
 ·unfold L2.start KF;simp[hlen]
 ·have hs:=get i s h;obtain⟨v,hv,tv⟩:=r.get hs;refine⟨v,?_,?_⟩
  ·unfold L2.start;rw[YQ (by rw[Yn];exact(YF.mp hv).1),Y0,hv];rfl
  ·have:=hf s (YE hs)
   cases s with
   | bor d=>exact tv
   | sh d=>exact Rp.mono (JS (Same.refl _) fun b _ _ z y=>z (hz b y)) tv
   | own _=>exact this.elim
   | view _=>exact this.elim
   | tmp _=>exact this.elim
def Zcb {c:Pq}{N:List Str}{t:TS}{p:PTS}{vs:List V}{Q:VK}{Ec:XK}{n:Nat} (h:spS mg c K vs H Q Ec) (snd:SndS K mg (fun _=>Ec) t p) (hn:n<=N.length)
  (hp:∀ss R X,c ss R X->ss.length=n/\p { nx:=fun _=>R (.sh .non),rt:=R,ex:=fun _ e=>X e } (KF N ss)):t { nx:=fun _ H'=>Q .non H',rt:=Q } (start N vs) H:=by
 obtain⟨ss,B,R,X,hB,r,hf,hc,hQ,hX⟩:=h;obtain⟨e,hp⟩:=hp ss R X hc;exact snd H B H _ _ _ _ (fun b z=>Kq (hB b z)) (IY hB r hf (by rw[e];exact hn)) hp ⟨fun σ' γ' H' h1 e1 f1=>hQ _ _ H' h1 e1.same .non,fun s v H' h1 S1 tv=>hQ s v H' h1 S1 tv,fun σ' γ' c H' h1 e1 f1=>hX c H' h1 e1.same,fun _ _ _ z=>z.elim,fun _ _ _ z=>z.elim,fun _ _ _ _ _ z=>z.elim⟩
def HD {c:Pq}{vs:List V}{Q:VK}{Ec:XK}{n:Nat} (h:spS mg c K vs H Q Ec) (hn:∀ss R X,c ss R X->ss.length=n):vs.length=n:=by
 obtain⟨ss,B,R,X,_,r,_,hc,_⟩:=h;rw[r.len];exact hn ss R X hc
def TV.backS {s:S}{v:V} (env:EnvR K H0 B H1 σ γ) (S1:Same H H1) (S2:Same H1 H') (h:TV K (zof B γ σ) H1 H1 H' s v):TV K (zof B γ σ) H0 H H' s.back v:=by
 cases s with
 | bor d=>exact TX (fun b z=>XU S2 (env.zm b z)) (Rp.mono S2 h)
 | sh d=>exact h
 | own ds=>
  obtain⟨a,rfl,e0,r⟩:=h;exact⟨a,rfl,(fun b hb=>S1.free (e0 b hb)),r⟩
 | view ds=>
  obtain⟨a,rfl,r⟩:=h;exact r.rp off_sub
 | tmp d=>exact h
def TV.passS {s s':S}{v:V} (env:EnvR K H0 B H1 σ γ) (hm:∀b,zof B γ σ b->Mut (H b)) (S1:Same H H1) (h:TV K (zof B γ σ) H0 H H1 s v) (e:s.pass=some s'):TV K (zof B γ σ) H1 H1 H1 s' v:=by
 have shd:∀d,s.shd=some d->Rp K (off (zof B γ σ) H1) d v:=fun d ed=>h.shd env.same hm S1 ed;cases s with
 | sh d=>cases e;exact shd _ rfl
 | own o=>cases e;exact shd _ rfl
 | view o=>cases e
 | tmp d=>
  unfold S.pass at e;cases q:imm d with
  | false=>simp[q] at e
  | true=>simp[q] at e;subst e;exact shd d (by unfold S.shd;simp[q])
 | bor d=>
  unfold S.pass at e;cases q:imm d with
  | false=>simp[q] at e;subst e;exact Rp.mono env.same h
  | true=>simp[q] at e;subst e;exact shd d (by unfold S.shd;simp[q])
def TVs.passS (env:EnvR K H0 B H1 σ γ) (hm:∀b,zof B γ σ b->Mut (H b)) (S1:Same H H1):∀{ss ss':List S}{vs:List V},TVs K (zof B γ σ) H0 H H1 ss vs->passes ss=some ss'->TVs K (zof B γ σ) H1 H1 H1 ss' vs
 | _,_,_,.nil,e=>by cases e;exact .nil
 | _,_,_,.cons h r,e=>by
  unfold passes at e;split at e
  ·rename_i s1 r1 e1 e2;cases e
   exact .cons (h.passS env hm S1 e1) (TVs.passS env hm S1 r e2)
  ·cases e
def Mj (c:Pq) (r:PTA):PTE:=fun γ R X=>r γ (fun ss=>match passes ss with|some ss'=>c ss' (fun s=>R s.back) (fun _=>False)|none=>False) X
def BM {c:Pq}{ta:TA}{r:PTA} (hr:SndA K mg E ta r):SndE K mg E (KC (spS mg c K) [] E0 ta) (Mj c r):=by
 intro H0 B H σ γ R X Q env p q qx;refine hr H0 B H σ γ _ X _ env p (fun ss vs H1 h1 S1 t1=>?_) qx;rw[Wc];have env1:=env.grow S1;split at h1
 ·rename_i ss' ep;exact⟨ss',zof B γ σ,_,_,env1.zm,t1.passS env1 env.zm S1 ep,TK ep,h1,fun s v H' hs S2 tv=>q _ _ H' hs (S1.trans S2) (tv.backS env1 S1 S2),fun _ _ z=>z.elim⟩
 ·exact h1.elim
def pSlV (a:PTE) (l u:PTO):PTE:=fun γ R X=>a γ (fun s=>l γ (fun lo=>u γ (fun hi=>match s.d with | .lst ds=>R (.tmp (.lst (cutD ds lo hi)))|_=>False) X) X) X
def pIBc (a:PTE) (l u:PTO):PTI:=fun γ R X=>a γ (fun s=>l γ (fun lo=>u γ (fun hi=>match s with
 | .bor d=>(match d.strip with | .lst ds=>R (cutD ds lo hi).length (fun i=>arg ((cutD ds lo hi).getD i .non))|_=>False)
 | _=>False) X) X) X
def HE {te:TE}{tl th:TO}{a:PTE}{l u:PTO} (ha:SndE K mg E te a) (hl:SndO K mg E tl l) (hu:SndO K mg E th u):NV K mg E (Nk K (tSl (rSlL K) te tl th)) (pIBc a l u):=by
 intro H0 B H σ γ R X Q env p q qx;refine ha H0 B H σ γ _ X _ env p (fun x v H1 h1 S1 t1=>?_) qx;refine hl H0 B H1 σ γ _ X _ (env.grow S1) h1 (fun lo H2 h2 S2=>?_) fun c H' hc S'=>qx c H' hc (S1.trans S');refine hu H0 B H2 σ γ _ X _ ((env.grow S1).grow S2) h2 (fun hi H3 h3 S3=>?_) fun c H' hc S'=>qx c H' hc ((S1.trans S2).trans S');have S13:=(S1.trans S2).trans S3;have env3:=env.grow S13;split at h3
 ·rename_i d;split at h3
  ·rename_i ds ed;have t1:=Rp.strip t1;rw[ed] at t1;obtain⟨b,us,rfl,hb,r⟩:=Rp.lst_inv t1;refine⟨b,us,rfl,SqL.of (env3.same _ _ hb),fun m nm=>?_⟩;have S4:Same H3 (upd H3 m (.lst (cutV us lo hi))):=U9 nm;have rc:Rps K H0 (cutD ds lo hi) (cutV us lo hi):=r.cut;refine⟨m,rfl,⟨_,SqL.of Uo⟩,q _ _ _ _ h3 (S13.trans S4) ⟨fun i H' Z' hlt S5 lt=>?_,fun H' Z' S5 lt=>⟨_,SqL.of (S5 _ _ Uo),by rw[rc.len];exact Yx _⟩⟩⟩;have hd:(cutD ds lo hi)[i]?=some ((cutD ds lo hi).getD i .non):=by rw[Y1,Yp hlt];rfl
   obtain⟨u,h4,h5⟩:=rc.get hd;have tu:TV K Z' H0 H' H' (arg ((cutD ds lo hi).getD i .non)) u:=argR lt.2.1 lt.1 h5;refine⟨⟨_,u,SqL.of (S5 _ _ Uo),h4⟩,fun x H'' y=>?_⟩;obtain⟨rfl,y⟩:=y
   have:=y _ (SqL.of (S5 _ _ Uo))
   rw[h4] at this;cases this
   exact⟨Same.refl _,tu⟩
  ·exact h3.elim
 ·exact h3.elim
def IW {α:Type}{φ:List (Option Nat)}{γ:Γ}{g:PTG}{c:PTT}{e:PTE}{R:S->Prop}{xs:List α}{emb:α->D} (f:α->Option D) (hz:xs.length<=100000)
  (turn:∀x∈xs,g (arg (emb x)) (atP φ γ) fun γ2=>c γ2 (fun b=>if b=true then e γ2 (fun s=>∃d,s.shd=some d/\f x=some d) (fun _=>False) else f x=none) fun _=>False)
  (done:R (.own (xs.filterMap f))) :
  CompW φ γ g c e (xs.map emb).length (fun i=>arg ((xs.map emb).getD i .non)) R:=by
 refine⟨⟨by rw[Yn];exact hz,fun i=>(xs[i]?).bind f,fun i hi=>?_,?_⟩⟩
 ·rw[Yn] at hi;have t:=turn xs[i] (YH hi);have e1:(xs[i]?).bind f=f xs[i]:=by rw[Yp hi];rfl
  have e2:(xs.map emb).getD i .non=emb xs[i]:=by rw[Y1,Y0,Yp hi];rfl
  show g (arg ((xs.map emb).getD i .non)) (atP φ γ) fun γ2=>c γ2 (fun b=>if b=true then e γ2 (fun s=>∃d,s.shd=some d/\(xs[i]?).bind f=some d) (fun _=>False) else(xs[i]?).bind f=none) fun _=>False;rw[e1,e2];exact t
 ·have:(List.range (xs.map emb).length).filterMap (fun i=>(xs[i]?).bind f)=xs.filterMap f:=by
   rw[Yn]
   have key:∀l:List α,(List.range l.length).filterMap (fun i=>(l[i]?).bind f)=l.filterMap f:=fun l=>by
    induction l with
    | nil=>rfl
    | cons x r ih=>
     rw[YD,List.range_succ_eq_map,W3,List.filterMap_map,W3];simp only[List.getElem?_cons_zero,Option.bind_some]
     have e:((fun i=>((x::r)[i]?).bind f)∘Nat.succ)=fun i=>(r[i]?).bind f:=by
      funext i;simp
     rw[e,ih]
   exact key xs
  rw[this];exact done
def pSlN (a:PTE) (l u:PTO):PTE:=fun γ R X=>a γ (fun s=>l γ (fun lo=>u γ (fun hi=>match s.d with | .scr ns=>R (.own ((cutD ns lo hi).map D.int))|_=>False) X) X) X
def Zby (ns:List Int) (lo hi:Option Int):cutV (ns.map V.int) lo hi=(cutD ns lo hi).map V.int:=by
 unfold cutV cutD;rw[Yn,List.map_take,List.map_drop]
def MZ {te:TE}{tl th:TO}{a:PTE}{l u:PTO} (ha:SndE K mg E te a) (hl:SndO K mg E tl l) (hu:SndO K mg E th u):SndE K mg E (tSl (rSlL K) te tl th) (pSlN a l u):=by
 intro H0 B H σ γ R X Q env p q qx;refine ha H0 B H σ γ _ X _ env p (fun x v H1 h1 S1 t1=>?_) qx;refine hl H0 B H1 σ γ _ X _ (env.grow S1) h1 (fun lo H2 h2 S2=>?_) fun c H' hc S'=>qx c H' hc (S1.trans S');refine hu H0 B H2 σ γ _ X _ ((env.grow S1).grow S2) h2 (fun hi H3 h3 S3=>?_) fun c H' hc S'=>qx c H' hc ((S1.trans S2).trans S');have S13:=(S1.trans S2).trans S3;split at h3
 ·rename_i ns e;have rx:=(t1.grow (S2.trans S3)).rp (env.grow S13).same;rw[e] at rx;obtain⟨b,rfl,hb⟩:=rx.scr_inv;refine⟨b,_,rfl,hb,fun m nm=>?_⟩;rw[Zby];exact q _ _ _ h3 (S13.trans (U9 nm)) (KG S13 nm (Rps.of_ints _))
 ·exact h3.elim
end
open M
inductive Dd where
 | sell (p h:Int)|part (p w:Int)|unite (p:Int)|wish (a b:Int)|drop (a b:Int)
def Dd.q:Dd->Str×List Int
 | .sell p h=>("sell",[p,h]) | .part p w=>("part",[p,w]) | .unite p=>("unite",[p]) | .wish a b=>("wish",[a,b]) | .drop a b=>("drop",[a,b])
def Dd.land:Dd->Bool
 | .sell _ _=>true | .part _ _=>true | .unite _=>true|_=>false
def Dd.err (f w:List (Int×Int)):Dd->Option Str
 | .sell p h=>UC f p h | .part p v=>UN f p v | .unite p=>uniE f p | .wish a b=>UI w a b | .drop a b=>UF w a b
def Dd.fld (f:List (Int×Int)):Dd->List (Int×Int)
 | .sell p h=>UY f p h | .part p v=>X8 f p v | .unite p=>uniL f p|_=>f
def Dd.wsh (w:List (Int×Int)):Dd->List (Int×Int)
 | .wish a b=>w++[(a,b)] | .drop a b=>Kj w a b|_=>w
def codeN:Option Str->Int
 | none=>0
 | some c=>if c=("NoStrip" : Str) then 1 else if c=("BadHolder" : Str) then 2 else if c=("OwnStrip" : Str) then 3 else if c=("BadPart" : Str) then 4 else if c=("TooManyStrips" : Str) then 5 else if c=("UnlikeHolders" : Str) then 6 else if c=("TooWide" : Str) then 7 else if c=("LikeHolders" : Str) then 8 else if c=("WishStands" : Str) then 9 else if c=("TooManyWishes" : Str) then 10 else 11
def N8:codeN (some "NoStrip")=1:=by decide +kernel
def NK:codeN (some "BadHolder")=2:=by decide +kernel
def Ga:codeN (some "OwnStrip")=3:=by decide +kernel
def FT:codeN (some "BadPart")=4:=by decide +kernel
def GJ:codeN (some "TooManyStrips")=5:=by decide +kernel
def Gj:codeN (some "UnlikeHolders")=6:=by decide +kernel
def A9:codeN (some "TooWide")=7:=by decide +kernel
def DN:codeN (some "LikeHolders")=8:=by decide +kernel
def Ez:codeN (some "WishStands")=9:=by decide +kernel
def Gs:codeN (some "TooManyWishes")=10:=by decide +kernel
def Eg:codeN (some "NoWish")=11:=by decide +kernel
def Dd.fld' (f:List (Int×Int)) (x:Dd):List (Int×Int):=if x.err f []=none then x.fld f else f
def Dd.wsh' (w:List (Int×Int)) (x:Dd):List (Int×Int):=if x.err [] w=none then x.wsh w else w
def Dd.nf (f w:List (Int×Int)) (x:Dd):List (Int×Int):=if x.err f w=none then x.fld f else f
def Dd.nw (f w:List (Int×Int)) (x:Dd):List (Int×Int):=if x.err f w=none then x.wsh w else w
def Dd.err_land {x:Dd} (h:x.land=true) (f w u:List (Int×Int)):x.err f w=x.err f u:=by
 cases x<;>first|rfl|cases h
def Dd.err_wish {x:Dd} (h:x.land=false) (f g w:List (Int×Int)):x.err f w=x.err g w:=by
 cases x<;>first|rfl|cases h
def Dd.err_cases (f w : List (Int × Int)) (x : Dd) : x.err f w = none ∨ x.err f w = some ("NoStrip" : Str) ∨ x.err f w = some ("BadHolder" : Str) ∨ x.err f w = some ("OwnStrip" : Str) ∨ x.err f w = some ("BadPart" : Str) ∨ x.err f w = some ("TooManyStrips" : Str) ∨ x.err f w = some ("UnlikeHolders" : Str) ∨ x.err f w = some ("TooWide" : Str) ∨ x.err f w = some ("LikeHolders" : Str) ∨ x.err f w = some ("WishStands" : Str) ∨ x.err f w = some ("TooManyWishes" : Str) ∨ x.err f w = some ("NoWish" : Str) := by
  cases x with
  | sell p h => show UC f p h = _ ∨ UC f p h = _ ∨ UC f p h = _ ∨ UC f p h = _ ∨ _; unfold UC; repeat' split
                all_goals simp
  | part p h => show UN f p h = _ ∨ UN f p h = _ ∨ UN f p h = _ ∨ UN f p h = _ ∨ UN f p h = _ ∨ UN f p h = _ ∨ _; unfold UN; repeat' split
                all_goals simp
  | unite p => show uniE f p = _ ∨ uniE f p = _ ∨ uniE f p = _ ∨ uniE f p = _ ∨ uniE f p = _ ∨ uniE f p = _ ∨ uniE f p = _ ∨ uniE f p = _ ∨ _; unfold uniE; repeat' split
               all_goals simp
  | wish a b => show UI w a b = _ ∨ UI w a b = _ ∨ UI w a b = _ ∨ UI w a b = _ ∨ UI w a b = _ ∨ UI w a b = _ ∨ UI w a b = _ ∨ UI w a b = _ ∨ UI w a b = _ ∨ UI w a b = _ ∨ UI w a b = _ ∨ _; unfold UI; repeat' split
                all_goals simp
  | drop a b => show UF w a b = _ ∨ UF w a b = _ ∨ UF w a b = _ ∨ UF w a b = _ ∨ UF w a b = _ ∨ UF w a b = _ ∨ UF w a b = _ ∨ UF w a b = _ ∨ UF w a b = _ ∨ UF w a b = _ ∨ UF w a b = _ ∨ UF w a b = _; unfold UF; repeat' split
                all_goals simp
abbrev Hist:=List (Dd×List (Int×Int)×List (Int×Int))
def bkH (hs:Hist):List (Str×List Int):=hs.map fun h=>h.1.q
def fsH (f0:List (Int×Int)) (hs:Hist):List (List (Int×Int)):=f0::hs.map fun h=>h.2.1
def wsH (hs:Hist):List (List (Int×Int)):=[]::hs.map fun h=>h.2.2
def pstD (h:Dd×List (Int×Int)×List (Int×Int)):D:=.tup [plD h.2.1,plD h.2.2,dD h.1.q]
def pst0 (f0:List (Int×Int)):D:=.tup [plD f0,.lst [],.tup []]
def JY (f0:List (Int×Int)) (hs:Hist):List D:=pst0 f0::hs.map pstD
def curF (f0:List (Int×Int)) (hs:Hist):List (Int×Int):=match hs.getLast? with|some h=>h.2.1|none=>f0
def curW (hs:Hist):List (Int×Int):=match hs.getLast? with|some h=>h.2.2|none=>[]
def Pe (f0:List (Int×Int)) (hs:Hist):∃fs,fsH f0 hs=fs++[curF f0 hs]/\fs.length=hs.length:=by
 unfold fsH curF;rcases Wr hs with rfl|⟨h,x,rfl⟩
 ·exact⟨[],rfl,rfl⟩
 ·refine⟨f0::h.map fun h=>h.2.1,?_,by simp⟩;simp
def Pk (hs:Hist):∃ws,wsH hs=ws++[curW hs]/\ws.length=hs.length:=by
 unfold wsH curW;rcases Wr hs with rfl|⟨h,x,rfl⟩
 ·exact⟨[],rfl,rfl⟩
 ·refine⟨[]::h.map fun h=>h.2.2,?_,by simp⟩;simp
def KU (f0:List (Int×Int)) (hs:Hist):∃d,atI (JY f0 hs) (-1)=some (.tup [plD (curF f0 hs),plD (curW hs),d]):=by
 have key:∀(l:List D) (x:D),l≠[]->l[l.length-1]?=some x->atI l (-1)=some x:=fun l x hn h=>by
  have hp:0<l.length:=Qi.mpr hn;unfold atI ixN;rw[Yq (by omega),Ys (by omega)];show l[_]?=_;rw[show((-1:Int)+(l.length:Int)).toNat=l.length-1 by omega];exact h
 unfold JY curF curW;rcases Wr hs with rfl|⟨h,x,rfl⟩
 ·exact⟨.tup [],key _ _ (by simp) rfl⟩
 ·refine⟨dD x.1.q,key _ _ (by simp) ?_⟩;rw[W6,Qc,YD,Yn,Yv,YW,Q6,Wf,YC,YN (by rw[Yn];exact Yx _),Yn,Nat.sub_self];rfl
def TH (hs:Hist) (h:Dd×List (Int×Int)×List (Int×Int)):bkH (hs++[h])=bkH hs++[h.1.q]:=by unfold bkH;rw[YC];rfl
def TU (f0:List (Int×Int)) (hs:Hist) (h:Dd×List (Int×Int)×List (Int×Int)):fsH f0 (hs++[h])=fsH f0 hs++[h.2.1]:=by unfold fsH;rw[YC];rfl
def TR (hs:Hist) (h:Dd×List (Int×Int)×List (Int×Int)):wsH (hs++[h])=wsH hs++[h.2.2]:=by unfold wsH;rw[YC];rfl
def P4 (f0:List (Int×Int)) (hs:Hist) (h:Dd×List (Int×Int)×List (Int×Int)):JY f0 (hs++[h])=JY f0 hs++[pstD h]:=by unfold JY;rw[YC];rfl
def PM (hs:Hist):(bkH hs).length=hs.length:=Yn ..
def Dy (f0:List (Int×Int)) (hs:Hist):(fsH f0 hs).length=hs.length+1:=by unfold fsH;rw[YD,Yn]
def EB (hs:Hist):(wsH hs).length=hs.length+1:=by unfold wsH;rw[YD,Yn]
def K0 (f0:List (Int×Int)) (hs:Hist):(JY f0 hs).length=hs.length+1:=by unfold JY;rw[YD,Yn]
def Dd.q_len (x:Dd):x.q.2.length<=2:=by cases x<;>simp[Dd.q]
end Pu
namespace Pu
@[irreducible] def mixP (c k:Int):Int:=((c % 2147483647+7919*k+1)*48271 % 2147483647+104729*k+11)*69621 % 2147483647
open L2 M Own PyProof.Rows PySem PySem.Spec
def Dd.fld_ok {f w:List (Int×Int)}{d:Dd} (hF:Field f) (hl:f.length<=40) (e:d.err f w=none):Field (d.fld f)/\(d.fld f).length<=40:=by
 cases d with
 | sell p h=>exact⟨B5 hF e,by rw[show(Dd.sell p h).fld f=UY f p h from rfl,B4];exact hl⟩
 | part p v=>
  have e:UN f p v=none:=e;rcases Oc f p v with⟨z,_⟩|⟨z,_⟩|⟨z,_⟩|⟨_,_,h1,h2,h3,h4,h5⟩
  ·rw[e] at z;cases z
  ·rw[e] at z;cases z
  ·rw[e] at z;cases z
  ·exact⟨MP hF h1 h2 h3 h4,by rw[show(Dd.part p v).fld f=X8 f p v from rfl,Mw h1 h2];omega⟩
 | unite p=>
  have e:uniE f p=none:=e;rcases Zal f p with⟨z,_⟩|⟨z,_⟩|⟨z,_⟩|⟨_,_,h1,h2⟩
  ·rw[e] at z;cases z
  ·rw[e] at z;cases z
  ·rw[e] at z;cases z
  ·exact⟨RN hF e,by rw[show(Dd.unite p).fld f=uniL f p from rfl];have:=Rk h1 h2;omega⟩
 | wish a b=>exact⟨hF,hl⟩
 | drop a b=>exact⟨hF,hl⟩
def Dd.wsh_ok {f w:List (Int×Int)}{d:Dd} (hW:Ko w) (e:d.err f w=none):Ko (d.wsh w):=by
 cases d with
 | wish a b=>exact Hx hW e
 | drop a b=>exact Lb hW
 | sell p h=>exact hW
 | part p v=>exact hW
 | unite p=>exact hW
def FineH (f0:List (Int×Int)) (hs:Hist):Prop:=(∀g∈fsH f0 hs,Field g/\g.length<=40)/\∀g∈wsH hs,Ko g
def FineH.cur {f0:List (Int×Int)}{hs:Hist} (h:FineH f0 hs):(Field (curF f0 hs)/\(curF f0 hs).length<=40)/\Ko (curW hs):=by
 obtain⟨fs,ef,_⟩:=Pe f0 hs;obtain⟨ws,ew,_⟩:=Pk hs;exact⟨h.1 _ (by rw[ef];simp),h.2 _ (by rw[ew];simp)⟩
def FineH.nil {f0:List (Int×Int)} (hF:Field f0) (hl:f0.length<=40):FineH f0 []:=
 ⟨fun g hg=>by rw[show fsH f0 []=[f0] from rfl,Yw] at hg;subst hg;exact⟨hF,hl⟩,fun g hg=>by rw[show wsH []=[[]] from rfl,Yw] at hg;subst hg;exact R3⟩
def FineH.snoc {f0:List (Int×Int)}{hs:Hist}{x:Dd×List (Int×Int)×List (Int×Int)} (h:FineH f0 hs) (h1:Field x.2.1/\x.2.1.length<=40) (h2:Ko x.2.2):FineH f0 (hs++[x]):=
 ⟨fun g hg=>by rw[TU] at hg;rcases YL.mp hg with hg|hg;{ exact h.1 g hg };{ rw[Yw] at hg;subst hg;exact h1 },fun g hg=>by rw[TR] at hg;rcases YL.mp hg with hg|hg;{ exact h.2 g hg };{ rw[Yw] at hg;subst hg;exact h2 }⟩
def FineH.init {f0:List (Int×Int)}{hs:Hist}{x:Dd×List (Int×Int)×List (Int×Int)} (h:FineH f0 (hs++[x])):FineH f0 hs:=
 ⟨fun g hg=>h.1 g (by rw[TU];exact WI _ hg),fun g hg=>h.2 g (by rw[TR];exact WI _ hg)⟩
def FineH.back {f0:List (Int×Int)}{hs:Hist} (h:FineH f0 hs):FineH f0 hs.dropLast:=by
 rcases Wr hs with rfl|⟨l,x,rfl⟩
 ·exact h
 ·rw[W6] at h ⊢;rw[Wd];exact h.init
def addH (f0:List (Int×Int)) (hs:Hist) (d:Dd):Hist:=if d.err (curF f0 hs) (curW hs)=none then hs++[(d,d.fld (curF f0 hs),d.wsh (curW hs))] else hs
def Cp (f0:List (Int×Int)) (hs:Hist) (d:Dd):(addH f0 hs d).length<=hs.length+1:=by
 unfold addH;split
 ·rw[Yv,YW];exact Yx _
 ·omega
def FineH.add {f0:List (Int×Int)}{hs:Hist} (h:FineH f0 hs) (d:Dd):FineH f0 (addH f0 hs d):=by
 unfold addH;split
 ·rename_i e;obtain⟨⟨h1,h2⟩,h3⟩:=h.cur;exact h.snoc (Dd.fld_ok h1 h2 e) (Dd.wsh_ok h3 e)
 ·exact h
def FineH.len {f0:List (Int×Int)}{hs:Hist} (h:FineH f0 hs):(∀g∈fsH f0 hs,g.length<=1000)/\∀g∈wsH hs,g.length<=1000:=⟨fun g hg=>by have:=(h.1 g hg).2;omega,fun g hg=>by have:=(h.2 g hg).1;omega⟩
def Dd.code_pos {f w:List (Int×Int)}{x:Dd} (h:¬x.err f w=none):0<codeN (x.err f w):=by
 rcases x.err_cases f w with e|e|e|e|e|e|e|e|e|e|e|e<;>rw[e] at h ⊢
 ·exact absurd rfl h
 ·rw[N8];decide
 ·rw[NK];decide
 ·rw[Ga];decide
 ·rw[FT];decide
 ·rw[GJ];decide
 ·rw[Gj];decide
 ·rw[A9];decide
 ·rw[DN];decide
 ·rw[Ez];decide
 ·rw[Gs];decide
 ·rw[Eg];decide
def Dd.not_back (d:Dd):¬d.q.1=("back" : Str):=by
 cases d with
 | sell p h=>exact(by decide +kernel:¬("sell" : Str) = "back")
 | part p h=>exact(by decide +kernel:¬("part" : Str) = "back")
 | unite p=>exact(by decide +kernel:¬("unite" : Str) = "back")
 | wish p h=>exact(by decide +kernel:¬("wish" : Str) = "back")
 | drop p h=>exact(by decide +kernel:¬("drop" : Str) = "back")
def Ci {ps:List (Int×Int)} (hF:Field ps) (os:List Int) (x:Int):∀j,0<=rsM ps os x j
 | 0=>QJ 0
 | j+1=>by
  have ih:=Ci hF os x j
  have h0:0<=(ps.getD j (0,0)).2:=by
   by_cases h:j<ps.length
   ·have:=hF ps[j] (YH h)
    rw[Y1,Yp h];show 0<=ps[j].2;omega
   ·rw[Y1,W5 (by omega)];exact QJ 0
  unfold rsM;split<;>omega
def Cy {ps:List (Int×Int)} (hF:Field ps) (os:List Int):∀k,0<=priM ps os k
 | 0=>QJ 0
 | k+1=>by
  have ih:=Cy hF os k
  have h0:0<=(ps.getD k (0,0)).2:=by
   by_cases h:k<ps.length
   ·have:=hF ps[k] (YH h)
    rw[Y1,Yp h];show 0<=ps[k].2;omega
   ·rw[Y1,W5 (by omega)];exact QJ 0
  have:=Ci hF os (ps.getD k (0,0)).1 k
  unfold priM
  have:=Int.mul_nonneg this h0
  omega
def Pf (ds:List D):Nat:=match ds.getLast? with
 | some (.tup (_ :: .lst w::_))=>w.length
 | _=>0
def Zfl (γ:List (Option Pu.S)):Nat:=match γ[1]? with
 | some (some (Pu.S.own (Pu.O.lsA _ ds)))=>Pf ds
 | _=>0
def O0 (ds:List D) (x:D):Pf (ds++[x])=Pf [x]:=by
 unfold Pf;rw[Qc];rfl
def Dn (f0:List (Int×Int)) (hs:Hist):Pf (JY f0 hs)=(curW hs).length:=by
 rcases Wr hs with rfl|⟨l,x,rfl⟩
 ·rfl
 ·rw[W6,P4,O0];unfold curW;rw[Qc];show(List.map prD x.2.2).length=_;rw[Yn]
def Zd4 {w:List (Int×Int)}{a b:Int} (h:(a,b)∈w):(Kj w a b).length<w.length:=by
 unfold Kj;refine Nat.lt_of_le_of_ne (Wk _ _) fun e=>?_
 have:=List.length_filter_eq_length_iff.mp e _ h
 simp at this
def Zbt {f0:List (Int×Int)}{hs:Hist}{a b:Int} (h:(a,b)∈curW hs):addH f0 hs (.drop a b)=hs++[(.drop a b,curF f0 hs,Kj (curW hs) a b)]:=by
 unfold addH;rw[Ys]
 ·rfl
 ·show UF (curW hs) a b=none;unfold UF;rw[Ys h]
def Sd (hs:Hist) (x:Dd×List (Int×Int)×List (Int×Int)):curW (hs++[x])=x.2.2:=by unfold curW;rw[Qc]
def FW (f0:List (Int×Int)) (hs:Hist) (x:Dd×List (Int×Int)×List (Int×Int)):curF f0 (hs++[x])=x.2.1:=by unfold curF;rw[Qc]
def Zak {α:Type} (f:α->D) {xs:List α} (h:xs≠[]):∃x∈xs,atI (xs.map f) (-1)=some (f x):=by
 rcases Wr xs with rfl|⟨l,x,rfl⟩
 ·exact absurd rfl h
 ·rw[W6];exact⟨x,by simp,Pm f l x⟩
def O5 {hs r:List Int} (h:Ring hs [] r):False:=by
 have h2:=h.two
 have:=h.last r[0] (r[r.length-1]'(by omega)) (Yp (by omega)) (Yp (by omega))
 cases this
def tenM:List Int:=[1,2,3,4,5,6,7,8,9,10]
def RA {m:List Int} (hM:Menu m) {v:Int} (h:1<=v/\v<=10):Menu (m.set 0 v):=by
 obtain⟨a,b,c,d,e,rfl,ha,hb,hc,hd,he⟩:=hM;exact⟨v,b,c,d,e,rfl,h,hb,hc,hd,he⟩
def Sa {f w:List (Int×Int)}{r:List Int} (hF:Field f) (h:Ring (JT f) w r):Ring tenM w r:=by
 refine⟨h.two,h.nodup,fun x hx=>?_,h.chain,h.last⟩;obtain⟨q,hq,rfl⟩:=YR.mp ((Nx hF).mp (h.sub x hx))
 have:=hF q hq
 unfold tenM;simp;omega
end Pu
namespace Own
open PySem PySem.Spec PyProof.Rows L2
section
variable {prog:Program}{w:World}{A:Around}{E:Value->Shared->Prop}{s:Shared}{l:Addr}{xs:Array (Int×Tok)}
def Mz {Q:Value->Shared->Prop} (hh:A.handled=none) (hl:s.heap.IsTuple l (intItems xs)) (hne:0<xs.size)
  (h:∀v h' tk,(intItems xs)[argBest (fun i j=>decide (numAt xs i<numAt xs j)) (xs.size-1)]?=some v->(∀b o,s.heap.get? b=some o->h'.get? b=some o)->Q v { s with heap:=h',toks:=tk }) :
  wpAny (model prog w) A (call (.builtin "min") [.ref l]) Q E s:=by
 have hlt:l<s.heap.objs.size:=by obtain⟨_,e,_⟩:=hl;exact Y3 e
 refine call_min_walk (wpAny_pyIter_tuple hl ?_);refine⟨_,[_,l],[_],_,_,_,_,rfl,Walks.tuple (A:=A.in1) hh _ l (YK hlt) (intItems xs),⟨⟨_,Y7 _ rfl,rfl,rfl⟩,hl.push _⟩,fun c hc=>?_,by simpa [intItems] using hne,CmpOf.ints_lt (numAt xs) (fun _ _=>intItems_at),fun v h' tk hP hk=>?_⟩
 ·show c<(s.heap.push _).objs.size;rw[Qd];rcases Y4.mp hc with rfl|hc
  ·exact WQ _
  ·rcases Y4.mp hc with rfl|hc
   ·exact WZ hlt
   ·cases hc
 ·refine h v h' tk (by simpa [intItems] using hP) fun b o e=>hk b o (fun hm=>?_) (Yu _ e);rcases Y4.mp hm with e1|hm
  ·exact absurd (e1▸Y3 e) (W8 _)
  ·cases hm
def Iz {Q:Value->Shared->Prop} (hh:A.handled=none) (hl:s.heap.IsTuple l (intItems xs)) (hne:0<xs.size)
  (h:∀v h' tk,(intItems xs)[argBest (fun i j=>decide (numAt xs i>numAt xs j)) (xs.size-1)]?=some v->(∀b o,s.heap.get? b=some o->h'.get? b=some o)->Q v { s with heap:=h',toks:=tk }) :
  wpAny (model prog w) A (call (.builtin "max") [.ref l]) Q E s:=by
 have hlt:l<s.heap.objs.size:=by obtain⟨_,e,_⟩:=hl;exact Y3 e
 refine call_max_walk (wpAny_pyIter_tuple hl ?_);refine⟨_,[_,l],[_],_,_,_,_,rfl,Walks.tuple (A:=A.in1) hh _ l (YK hlt) (intItems xs),⟨⟨_,Y7 _ rfl,rfl,rfl⟩,hl.push _⟩,fun c hc=>?_,by simpa [intItems] using hne,CmpOf.ints_gt (numAt xs) (fun _ _=>intItems_at),fun v h' tk hP hk=>?_⟩
 ·show c<(s.heap.push _).objs.size;rw[Qd];rcases Y4.mp hc with rfl|hc
  ·exact WQ _
  ·rcases Y4.mp hc with rfl|hc
   ·exact WZ hlt
   ·cases hc
 ·refine h v h' tk (by simpa [intItems] using hP) fun b o e=>hk b o (fun hm=>?_) (Yu _ e);rcases Y4.mp hm with e1|hm
  ·exact absurd (e1▸Y3 e) (W8 _)
  ·cases hm
end
section
variable {X:Cx}{K:Za}
def Ol (hc:X.calm=true) (hK:X.K=K:=by rfl):UB X (.builtin "min") (fun xs H Q=>∃(p:Addr) (a b:Int),xs=[.ref p]/\SqT K H p [.int a,.int b]/\Q (.int (if b<a then b else a)) H):=by
 subst hK;intro pins s σ H xs us Q I rv h;obtain⟨p,a,b,rfl,hS,q⟩:=h;obtain⟨u,rfl,ru⟩:=rv.one;obtain rfl:u=Value.ref p:=ru;obtain⟨its,r,pl,_⟩:=I.tuple hS;cases r with
 | cons r1 r=>
  cases r with
  | cons r2 r=>
   cases r
   obtain⟨t1,rfl⟩:=r1;obtain⟨t2,rfl⟩:=r2;have hl:s.heap.IsTuple p (intItems #[(a,t1),(b,t2)]):=by have this:s.heap.IsTuple p _:=pl;simpa [intItems] using this
   refine Mz (I.ok.hd hc) hl (by simp) fun v h' tk hP hk=>?_;have hP':(intItems #[(a,t1),(b,t2)])[argBest (fun i j=>decide (numAt #[(a,t1),(b,t2)] i<numAt #[(a,t1),(b,t2)] j)) 1]?=some v:=hP;by_cases hba:b<a
   ·have e:argBest (fun i j=>decide (numAt #[(a,t1),(b,t2)] i<numAt #[(a,t1),(b,t2)] j)) 1=1:=by simp[argBest,numAt,hba]
    rw[e] at hP';obtain rfl:Value.int b t2=v:=by simpa [intItems] using hP'
    rw[Ys hba] at q;exact⟨.int b,H,I.kept (t':=tk) hk,⟨_,rfl⟩,q⟩
   ·have e:argBest (fun i j=>decide (numAt #[(a,t1),(b,t2)] i<numAt #[(a,t1),(b,t2)] j)) 1=0:=by simp[argBest,numAt,hba]
    rw[e] at hP';obtain rfl:Value.int a t1=v:=by simpa [intItems] using hP'
    rw[Yq hba] at q;exact⟨.int a,H,I.kept (t':=tk) hk,⟨_,rfl⟩,q⟩
def HW (hc:X.calm=true) (hK:X.K=K:=by rfl):UB X (.builtin "max") (fun xs H Q=>∃(p:Addr) (a b:Int),xs=[.ref p]/\SqT K H p [.int a,.int b]/\Q (.int (if b>a then b else a)) H):=by
 subst hK;intro pins s σ H xs us Q I rv h;obtain⟨p,a,b,rfl,hS,q⟩:=h;obtain⟨u,rfl,ru⟩:=rv.one;obtain rfl:u=Value.ref p:=ru;obtain⟨its,r,pl,_⟩:=I.tuple hS;cases r with
 | cons r1 r=>
  cases r with
  | cons r2 r=>
   cases r
   obtain⟨t1,rfl⟩:=r1;obtain⟨t2,rfl⟩:=r2;have hl:s.heap.IsTuple p (intItems #[(a,t1),(b,t2)]):=by have this:s.heap.IsTuple p _:=pl;simpa [intItems] using this
   refine Iz (I.ok.hd hc) hl (by simp) fun v h' tk hP hk=>?_;have hP':(intItems #[(a,t1),(b,t2)])[argBest (fun i j=>decide (numAt #[(a,t1),(b,t2)] i>numAt #[(a,t1),(b,t2)] j)) 1]?=some v:=hP;by_cases hba:b>a
   ·have e:argBest (fun i j=>decide (numAt #[(a,t1),(b,t2)] i>numAt #[(a,t1),(b,t2)] j)) 1=1:=by simp[argBest,numAt,hba]
    rw[e] at hP';obtain rfl:Value.int b t2=v:=by simpa [intItems] using hP'
    rw[Ys hba] at q;exact⟨.int b,H,I.kept (t':=tk) hk,⟨_,rfl⟩,q⟩
   ·have e:argBest (fun i j=>decide (numAt #[(a,t1),(b,t2)] i>numAt #[(a,t1),(b,t2)] j)) 1=0:=by simp[argBest,numAt,hba]
    rw[e] at hP';obtain rfl:Value.int a t1=v:=by simpa [intItems] using hP'
    rw[Yq hba] at q;exact⟨.int a,H,I.kept (t':=tk) hk,⟨_,rfl⟩,q⟩
end
end Own
namespace Pu
open PySem PySem.Spec PyProof.Rows L2 Own
section
variable {K:Za}{mg:Str->Option Value}{E:L2.St->XK}
def Av:List S->(S->Prop)->Prop
 | [s],R=>(match s.d with | .tup [.int a,.int b]=>R (.sh (.int (if b<a then b else a)))|_=>False)
 | _,_=>False
def Ar:List S->(S->Prop)->Prop
 | [s],R=>(match s.d with | .tup [.int a,.int b]=>R (.sh (.int (if b>a then b else a)))|_=>False)
 | _,_=>False
def Zee {ta:TA}{r:PTA} (hr:SndA K mg E ta r):SndE K mg E (tCB (fun xs H Q=>∃(p:Addr) (a b:Int),xs=[.ref p]/\SqT K H p [.int a,.int b]/\Q (.int (if b<a then b else a)) H) ta) (pCB Av r):=by
 refine X7 hr fun H0 H H1 Z ss vs R Q s0 s1 hm tv h q=>?_;unfold Av at h;split at h
 ·rename_i s;obtain⟨v,rfl,t1⟩:=tv.one_inv;have rv:=t1.rp s0;split at h
  ·rename_i a b e;rw[e] at rv;obtain⟨p,us,rfl,hp,r1⟩:=Rp.tup_inv rv;obtain⟨x,y,rfl,q1,q2⟩:=r1.two_inv;rw[q1.int_inv,q2.int_inv] at hp;exact⟨p,a,b,rfl,SqT.of hp,q _ _ H1 h (Same.refl _) (.int _)⟩
  ·exact h.elim
 ·exact h.elim
def IL {ta:TA}{r:PTA} (hr:SndA K mg E ta r):SndE K mg E (tCB (fun xs H Q=>∃(p:Addr) (a b:Int),xs=[.ref p]/\SqT K H p [.int a,.int b]/\Q (.int (if b>a then b else a)) H) ta) (pCB Ar r):=by
 refine X7 hr fun H0 H H1 Z ss vs R Q s0 s1 hm tv h q=>?_;unfold Ar at h;split at h
 ·rename_i s;obtain⟨v,rfl,t1⟩:=tv.one_inv;have rv:=t1.rp s0;split at h
  ·rename_i a b e;rw[e] at rv;obtain⟨p,us,rfl,hp,r1⟩:=Rp.tup_inv rv;obtain⟨x,y,rfl,q1,q2⟩:=r1.two_inv;rw[q1.int_inv,q2.int_inv] at hp;exact⟨p,a,b,rfl,SqT.of hp,q _ _ H1 h (Same.refl _) (.int _)⟩
  ·exact h.elim
 ·exact h.elim
end
section
variable {X:Cx}{k j:Nat}{x:Str}{ps:List Str}{sp:Sp}{e a b c:Expr}{es:List Expr}{t:TA}{te tf tg:TE}{p pos:Pos}
def fz (C:Callee X.prog X.w X.K X.mg X.base CX0 k x ps sp) (hr:Room j X.A) (ha:PA X (e::es) t) (hk:k<=j:=by decide) (hg:Gl X x:=by rfl) (hdb:(x==("__debug__" : Str))=false:=by decide) (he:starEach (e::es) X.env=(false,eval e X.env)::starEach es X.env:=by rfl) (hpl:(backTo pos (starEach es X.env)).any (·.1)=false:=by rfl) :
  PE X (.Call (.Name x p) (e::es) [] pos) (KC sp [] E0 t):=Xa C (hr.mono hk) Ut ha hg hdb he hpl
def jx (K:Za) (ha:PE X a te) (hb:PE X b tf) (hK:X.K=K:=by rfl) (hs:E8 b:=by intro _ _;rfl):PE X (.Subscript a b pos) (tOp (fun x y H Q=>rIxL K x y H Q\/rIxT K x y H Q) te tf):=Gq (Ck hK) ha hb hs
def gz (i:Nat) (hN:X.N.Nodup) (hi:X.N[i]?=some x:=by rfl) (hx:Loc X.env.scope x:=by first|exact Or.inl rfl|exact Or.inr rfl) (hf:X.fn x=true\/X.env.scope.names.lookup x=some .local:=by first|exact .inl rfl|exact .inr rfl|assumption):PG X (.Name x pos) (PD i):=SY hN hi hx hf
def ln (K:Za) (hm:X.mg "len"=none) (ha:PE X a te) (hK:X.K=K:=by rfl) (hg:Gl X "len":=by rfl) (hs:starEach [a] X.env=(false,eval a X.env)::starEach [] X.env:=by rfl) (hpl:(backTo pos (starEach [] X.env)).any (·.1)=false:=by rfl) :
  PE X (.Call (.Name "len" p) [a] [] pos) (tCB (fun xs H Q=>∃x n,xs=[x]/\LenV K x H n/\Q (.int (n:Nat)) H) (UO te tNil)):=UD (Lm hK) hg hm PySem.boot_len (JP ha Uh hs) (by decide) (by decide) hs hpl
def cq (K:Za) (hr:Room j X.A) (ha:PE X a te) (hb:PE X b tf) (hK:X.K=K:=by rfl):PT X (.Compare a [.Eq] [b] pos) (NU (tOp (fun x y H Q=>rEq x y H Q\/rEqL K false x y H Q) te tf)):=JU (TC hr.units0 hK) ha hb (JV _)
def cn (K:Za) (hr:Room j X.A) (ha:PE X a te) (hb:PE X b tf) (hK:X.K=K:=by rfl):PT X (.Compare a [.NotEq] [b] pos) (NU (tOp (fun x y H Q=>rNe x y H Q\/rEqL K true x y H Q) te tf)):=JU (Zfo hr.units0 hK) ha hb (JV _)
def az (ha:PE X a te) (h1:starEach [a] X.env=(false,eval a X.env)::starEach [] X.env:=by rfl):PA X [a] (UO te tNil):=JP ha Uh h1
def bz (ha:PE X a te) (hb:PE X b tf) (h1:starEach [a,b] X.env=(false,eval a X.env)::starEach [b] X.env:=by rfl) (h2:starEach [b] X.env=(false,eval b X.env)::starEach [] X.env:=by rfl):PA X [a,b] (UO te (UO tf tNil)):=JP ha (JP hb Uh h2) h1
def dz (ha:PE X a te) (hb:PE X b tf) (hc:PE X c tg) (h1:starEach [a,b,c] X.env=(false,eval a X.env)::starEach [b,c] X.env:=by rfl) (h2:starEach [b,c] X.env=(false,eval b X.env)::starEach [c] X.env:=by rfl) (h3:starEach [c] X.env=(false,eval c X.env)::starEach [] X.env:=by rfl):PA X [a,b,c] (UO te (UO tf (UO tg tNil))):=JP ha (JP hb (JP hc Uh h3) h2) h1
end
section
variable {K:Za}{mg:Str->Option Value}{E:L2.St->XK}{ta tb tc:TE}{a b c:PTE}
def sz (ha:SndE K mg E ta a):SndA K mg E (UO ta tNil) (KQ a pNil):=JR ha JQ
def tz (ha:SndE K mg E ta a) (hb:SndE K mg E tb b):SndA K mg E (UO ta (UO tb tNil)) (KQ a (KQ b pNil)):=JR ha (sz hb)
def uz (ha:SndE K mg E ta a) (hb:SndE K mg E tb b) (hc:SndE K mg E tc c):SndA K mg E (UO ta (UO tb (UO tc tNil))) (KQ a (KQ b (KQ c pNil))):=JR ha (tz hb hc)
end
section
variable {K:Za}{h:Heap}{mg:Str->Option Value}{C C':Addr}{x m q:Str}{st:Stmt}{ps:List Str}
abbrev Bd (x q:Str) (st:Stmt) (ps:List Str):Prop:=∀(kV doc pm:Value) (an:Option Addr) (cdv ct:Value) (us:List Value),us.length=ps.length->bindArgs (PySem.W.fnOf x q (XB st) (UQ st) (JD st) .none kV doc pm an cdv ct) ⟨us,[]⟩=pure (ps.zip us)
def DI.e (D:DI K x st) (X:K.In h) (G0:h.Ns mainGlobals mg) (b:Bd x x st ps:=by
  intro _ _ _ _ _ _ us hl
  first
   | (obtain⟨_,rfl⟩:=Pu.len1 hl;rfl)
   | (obtain⟨_,_,rfl⟩:=Pu.len2 hl;rfl)
   | (obtain⟨_,_,_,rfl⟩:=Pu.len3 hl;rfl)
   | (obtain⟨_,_,_,_,rfl⟩:=Pu.len4 hl;rfl)
   | (obtain⟨_,_,_,_,_,rfl⟩:=Pu.len5 hl;rfl)):Def K mg x st ps:=D.d X G0 b
def MI.e (D:MI K C m q st) (e:C'=C) (b:Bd m q st ps:=by
  intro _ _ _ _ _ _ us hl
  first
   | (obtain⟨_,rfl⟩:=Pu.len1 hl;rfl)
   | (obtain⟨_,_,rfl⟩:=Pu.len2 hl;rfl)
   | (obtain⟨_,_,_,rfl⟩:=Pu.len3 hl;rfl)
   | (obtain⟨_,_,_,_,rfl⟩:=Pu.len4 hl;rfl)):DefM K (Meth K C' m) m q st ps:=D.d e b
def MI.j (D:MI K C "__init__" q st) (e:C'=C) (mk:PySem.W.makesIn K C=true) (kc:PySem.W.keepIn K (.ref C)=true) (b:Bd "__init__" q st ps:=by
  intro _ _ _ _ _ _ us hl
  first
   | (obtain⟨_,rfl⟩:=Pu.len1 hl;rfl)
   | (obtain⟨_,_,rfl⟩:=Pu.len2 hl;rfl)
   | (obtain⟨_,_,_,rfl⟩:=Pu.len3 hl;rfl)):DefM K (Mk K C') "__init__" q st ps:=D.i e mk kc b
end
section
variable {P:Program}{w:World}{K:Za}{mg:Str->Option Value}{base:Heap}{N ps:List Str}{sp:Sp}{p:PTS}{x q:Str}{st:Stmt}{k:Nat}{W:Addr->Prop}
structure Uz (K:Za) (mg:Str->Option Value) (N ps:List Str) (sp:Sp) (p:PTS):Prop where
 len:∀vs H Q E,sp vs H Q E->vs.length=ps.length
 run:∀vs H Q E t,sp vs H Q E->SndS K mg (fun _=>E) t p->t { nx:=fun _ H'=>Q .non H',rt:=Q } (start N vs) H
def Uz.a {c:Pc} (hp:∀ds R X,c ds R X->ds.length=ps.length/\p { nx:=fun _=>R (.sh .non),rt:=R,ex:=fun _ e=>X e } (XF N ds)) (hn:ps.length<=N.length:=by decide):Uz K mg N ps (spOf mg c K) p:=
 ⟨fun _ _ _ _ h=>OS h fun ds R X z=>(hp ds R X z).1,fun _ _ _ _ _ h s=>IQ h s hn hp⟩
def Uz.b {c:Pq} (hp:∀ss R X,c ss R X->ss.length=ps.length/\p { nx:=fun _=>R (.sh .non),rt:=R,ex:=fun _ e=>X e } (KF N ss)) (hn:ps.length<=N.length:=by decide):Uz K mg N ps (spS mg c K) p:=
 ⟨fun _ _ _ _ h=>HD h fun ds R X z=>(hp ds R X z).1,fun _ _ _ _ _ h s=>Zcb h s hn hp⟩
def Uz.c {c:Pw}{y:Str} (hp:∀o ss R X,c o ss R X->ss.length=ps.length/\p (DH o R X) (KE N o ss)) (hn:ps.length+1<=N.length:=by decide):Uz K mg N (y::ps) (spW mg c K) p:=
 ⟨fun _ _ _ _ h=>Zcp h fun o ds R X z=>(hp o ds R X z).1,fun _ _ _ _ _ h s=>MD h s hn hp⟩
def Uz.d {c:Pw2}{y z:Str} (hp:∀o1 o2 ss R X,c o1 o2 ss R X->ss.length=ps.length/\p (Da o1 o2 R X) (XX N o1 o2 ss)) (hn:ps.length+2<=N.length:=by decide):Uz K mg N (y::z::ps) (spW2 mg c K) p:=
 ⟨fun _ _ _ _ h=>RP h fun o1 o2 ds R X z=>(hp o1 o2 ds R X z).1,fun _ _ _ _ _ h s=>OI h s hn hp⟩
def _root_.Own.Def.oz (D:Def K mg x st ps) (S:FnScope N ps (JD st))
  (tr:∀(f:Addr) (cdv:Value) (A:Around) (outer:List Env) (s:Shared) (H:Hp) (E:XK),Room k (A.deeper (envOfC x (JD st) s.heap.objs.size f cdv))->
   ∃t,PSs (cxOf CX0 P w K mg base N x (JD st) f cdv A outer s H E).nox (UQ st) t/\SndS K mg (fun _=>E) t p) (u:Uz K mg N ps sp p):Callee P w K mg base CX0 (k+1) x ps sp:=
 D.ok S u.len fun f cdv A outer s H vs Q E hr h=>(tr f cdv A outer s H E hr).elim fun t z=>⟨t,z.1,u.run _ _ _ _ _ h z.2⟩
def _root_.Own.Def.ox (D:Def K mg x st ps) (S:FnScope N ps (JD st))
  (tr:∀(f:Addr) (cdv:Value) (A:Around) (outer:List Env) (s:Shared) (H:Hp) (E:XK),Room k (A.deeper (envOfC x (JD st) s.heap.objs.size f cdv))->
   ∃t,PSs (cxOf (ExcR.CXe P w) P w K mg base N x (JD st) f cdv A outer s H E) (UQ st) t/\SndS K mg (fun _=>E) t p) (u:Uz K mg N ps sp p):Callee P w K mg base (ExcR.CXe P w) (k+1) x ps sp:=
 ExcR.Def.okX D S u.len fun f cdv A outer s H vs Q E hr h=>(tr f cdv A outer s H E hr).elim fun t z=>⟨t,z.1,u.run _ _ _ _ _ h z.2⟩
def DefM.oz (D:DefM K W x q st ps) (S:FnScope N ps (JD st))
  (tr:∀(f:Addr) (cdv:Value) (A:Around) (outer:List Env) (s:Shared) (H:Hp) (E:XK),Room k (A.deeper (envOfC q (JD st) s.heap.objs.size f cdv))->
   ∃t,PSs (cxOf CX0 P w K mg base N q (JD st) f cdv A outer s H E).nox (UQ st) t/\SndS K mg (fun _=>E) t p) (u:Uz K mg N ps sp p):CalleeM P w K mg base CX0 (k+1) W ps sp:=
 D.ok S u.len fun f cdv A outer s H vs Q E hr h=>(tr f cdv A outer s H E hr).elim fun t z=>⟨t,z.1,u.run _ _ _ _ _ h z.2⟩
def DefM.ox (D:DefM K W x q st ps) (S:FnScope N ps (JD st))
  (tr:∀(f:Addr) (cdv:Value) (A:Around) (outer:List Env) (s:Shared) (H:Hp) (E:XK),Room k (A.deeper (envOfC q (JD st) s.heap.objs.size f cdv))->
   ∃t,PSs (cxOf (ExcR.CXe P w) P w K mg base N q (JD st) f cdv A outer s H E) (UQ st) t/\SndS K mg (fun _=>E) t p) (u:Uz K mg N ps sp p):CalleeM P w K mg base (ExcR.CXe P w) (k+1) W ps sp:=
 D.okX S u.len fun f cdv A outer s H vs Q E hr h=>(tr f cdv A outer s H E hr).elim fun t z=>⟨t,z.1,u.run _ _ _ _ _ h z.2⟩
end
section
variable {K:Za}{h:Heap}{mg:Str->Option Value}{x:Str}{C:Addr}
structure EI (K:Za) (x:Str) (C:Addr):Prop where
 a:PySem.W.nsIn K mainGlobals x=some (some (.ref C))
 g:ExcR.ErrGet K C
def ei {d:ClassData} (a:PySem.W.nsIn K mainGlobals x=some (some (.ref C))) (q:PySem.W.excIn K C [.type "ValueError",.type "Exception",.type "BaseException",.type "object"] "ValueError.__new__"=true)
  (ga:PySem.W.findIn K (.ref C) "__getattribute__"=some (some (.builtin "BaseException.__getattribute__"))) (gt:PySem.W.findIn K (.ref C) "__getattr__"=some none)
  (cl:PySem.W.findIn K (.ref C) "__class__"=some (some (.builtin "object.__class__"))) (i:PySem.W.clsIn K C=some d):EI K x C:=⟨a,⟨⟨q⟩,ga,gt,cl,by rw[i];rfl⟩⟩
def EI.c (y:EI K x C) (X:K.In h) (G0:h.Ns mainGlobals mg):ExcR.JB mg x=C:=ExcR.AE (Wy X G0 y.a)
def EI.m (y:EI K x C) (X:K.In h) (G0:h.Ns mainGlobals mg):mg x=some (.ref (ExcR.JB mg x)):=by rw[y.c X G0];exact Wy X G0 y.a
def EI.k (y:EI K x C) (X:K.In h) (G0:h.Ns mainGlobals mg):ExcR.ErrGet K (ExcR.JB mg x):=by rw[y.c X G0];exact y.g
end
end Pu
namespace T
open PySem PySem.Spec PyProof.Rows L2
def top (i:Nat):Stmt:=PySem.Challenge.pw_stripmeld_k46_whole_sales.main.body.getD i (.Pass ⟨0,0,0,0⟩)
abbrev Bl:Stmt:=top 22
def Zcf:FnScope ["holder"] ["holder"] (JD Bl):=Pu.fs
abbrev Fm:Stmt:=top 23
def Ze9:FnScope ["width"] ["width"] (JD Fm):=Pu.fs
abbrev Bq:Stmt:=top 24
def Bf:FnScope ["strips","holder","width"] ["strips"] (JD Bq):=Pu.fs
abbrev Bt:Stmt:=top 25
def Ro:FnScope ["strips"] ["strips"] (JD Bt):=Pu.fs
abbrev FH:Stmt:=top 27
def Ph:FnScope ["strips","ahead","behind","to_pass","cost","holder","width"] ["strips","ahead","behind"] (JD FH):=Pu.fs
abbrev Ao:Stmt:=top 29
def Lv:FnScope ["strips","place"] ["strips","place"] (JD Ao):=Pu.fs
abbrev FB:Stmt:=top 32
def TY:FnScope ["paths","left","wishes","longer","reached","path","holder"] ["paths","left","wishes"] (JD FB):=Pu.fs
abbrev BD:Stmt:=top 33
def KP:FnScope ["least","holders","wishes","paths","left","rings","reached"] ["least","holders","wishes"] (JD BD):=Pu.fs
abbrev An:Stmt:=top 34
def Tu:FnScope ["holders","wishes","ring","least","found"] ["holders","wishes"] (JD An):=Pu.fs
abbrev FZ:Stmt:=top 35
def E6:FnScope ["strips","wishes","ring"] ["strips","wishes"] (JD FZ):=Pu.fs
abbrev Bw:Stmt:=top 37
def Ou:FnScope ["strips","place"] ["strips","place"] (JD Bw):=Pu.fs
abbrev BR:Stmt:=top 38
def Di:FnScope ["strips","place","holder","strip"] ["strips","place","holder"] (JD BR):=Pu.fs
abbrev Bb:Stmt:=top 39
def DO:FnScope ["strips","place","width","strip"] ["strips","place","width"] (JD Bb):=Pu.fs
abbrev Bi:Stmt:=top 40
def SN:FnScope ["strips","place","left","right"] ["strips","place"] (JD Bi):=Pu.fs
abbrev S9:Stmt:=top 41
def Ze5:FnScope ["wishes","ahead","behind"] ["wishes","ahead","behind"] (JD S9):=Pu.fs
abbrev FC:Stmt:=top 42
def Zc9:FnScope ["wishes","ahead","behind"] ["wishes","ahead","behind"] (JD FC):=Pu.fs
abbrev FL:Stmt:=top 44
def TZ:FnScope ["strips","holders","costs","ahead","behind"] ["strips"] (JD FL):=Pu.fs
abbrev Fi:Stmt:=top 45
def N9:FnScope ["holders","sets","holder"] ["holders"] (JD Fi):=Pu.fs
abbrev Aa:Stmt:=top 46
def RG:FnScope ["members","holder"] ["members","holder"] (JD Aa):=Pu.fs
abbrev Sz:Stmt:=top 47
def Zbn:FnScope ["members","holder","wishes"] ["members","holder","wishes"] (JD Sz):=Pu.fs
abbrev Bk:Stmt:=top 48
def Zfv:FnScope ["members","holder","wishes"] ["members","holder","wishes"] (JD Bk):=Pu.fs
abbrev SG:Stmt:=top 49
def Ei:FnScope ["members","last","least","pairs","others"] ["members","last","least","pairs"] (JD SG):=Pu.fs
abbrev SX:Stmt:=top 50
def Ds:FnScope ["members","first","least","pairs","others"] ["members","first","least","pairs"] (JD SX):=Pu.fs
abbrev BP:Stmt:=top 51
def Nu:FnScope ["strips","wishes","pairs","least","members","lasts"] ["strips","wishes","pairs"] (JD BP):=Pu.fs
abbrev Ab:Stmt:=top 52
def AZ:FnScope ["strips","wishes","least"] ["strips","wishes"] (JD Ab):=Pu.fs
abbrev FG:Stmt:=top 53
def KB:FnScope ["strips","wishes","pairs","least","members","order","firsts","best"] ["strips","wishes"] (JD FG):=Pu.fs
abbrev F7:Stmt:=top 54
def Zas:FnScope ["strips","wishes"] ["strips","wishes"] (JD F7):=Pu.fs
abbrev SH:Stmt:=inClass (top 57) 0
def HH:FnScope ["self","strips"] ["self","strips"] (JD SH):=Pu.fs
abbrev Fl:Stmt:=inClass (top 57) 1
def Zdk:FnScope ["self"] ["self"] (JD Fl):=Pu.fs
abbrev F0:Stmt:=inClass (top 57) 2
def Ic:FnScope ["self"] ["self"] (JD F0):=Pu.fs
abbrev Sq:Stmt:=inClass (top 57) 3
def Zbg:FnScope ["self"] ["self"] (JD Sq):=Pu.fs
abbrev BW:Stmt:=inClass (top 57) 4
def Zd6:FnScope ["self"] ["self"] (JD BW):=Pu.fs
abbrev SJ:Stmt:=inClass (top 57) 5
def Zdj:FnScope ["self","deed","field","wishes"] ["self","deed","field","wishes"] (JD SJ):=Pu.fs
abbrev F1:Stmt:=inClass (top 57) 6
def Cs:FnScope ["self","place","holder","field"] ["self","place","holder"] (JD F1):=Pu.fs
abbrev Fy:Stmt:=inClass (top 57) 7
def AN:FnScope ["self","place","width","field"] ["self","place","width"] (JD Fy):=Pu.fs
abbrev By:Stmt:=inClass (top 57) 8
def Hg:FnScope ["self","place","field"] ["self","place"] (JD By):=Pu.fs
abbrev FQ:Stmt:=inClass (top 57) 9
def Hf:FnScope ["self","ahead","behind","wishes"] ["self","ahead","behind"] (JD FQ):=Pu.fs
abbrev SM:Stmt:=inClass (top 57) 10
def Dw:FnScope ["self","ahead","behind","wishes"] ["self","ahead","behind"] (JD SM):=Pu.fs
abbrev Br:Stmt:=inClass (top 57) 11
def Zds:FnScope ["self"] ["self"] (JD Br):=Pu.fs
abbrev BC:Stmt:=inClass (top 57) 14
def RH:FnScope ["self"] ["self"] (JD BC):=Pu.fs
abbrev BK:Stmt:=inClass (top 57) 15
def HG:FnScope ["self"] ["self"] (JD BK):=Pu.fs
abbrev F9:Stmt:=inClass (top 57) 21
def Al:FnScope ["self","place","holder","field","cost"] ["self","place","holder"] (JD F9):=Pu.fs
abbrev Ft:Stmt:=top 59
def Lo:FnScope ["_law_script","_law_k"] ["_law_script","_law_k"] (JD Ft):=Pu.fs
abbrev B0:Stmt:=top 60
def Zcq:FnScope ["_law_found"] ["_law_found"] (JD B0):=Pu.fs
abbrev Aq:Stmt:=top 61
def GG:FnScope ["_law_cell","_law_place_here","_law_first"] ["_law_cell","_law_place_here"] (JD Aq):=Pu.fs
abbrev Ag:Stmt:=top 62
def Zeo:FnScope ["_law_script","_law_k"] ["_law_script","_law_k"] (JD Ag):=Pu.fs
abbrev Sx:Stmt:=top 63
def OL:FnScope ["_law_script"] ["_law_script"] (JD Sx):=Pu.fs
abbrev FA:Stmt:=top 64
def SU:FnScope ["_law_cell","_law_wide","_law_least"] ["_law_cell"] (JD FA):=Pu.fs
abbrev FO:Stmt:=top 65
def LO:FnScope ["_law_menu_here","_law_k"] ["_law_menu_here","_law_k"] (JD FO):=Pu.fs
abbrev BQ:Stmt:=top 66
def DB:FnScope ["_law_found","_law_due","_law_k"] ["_law_found","_law_due"] (JD BQ):=Pu.fs
abbrev BA:Stmt:=top 67
def Bz:FnScope ["_law_found","_law_due","_law_k","_law_j"] ["_law_found","_law_due"] (JD BA):=Pu.fs
abbrev Fj:Stmt:=top 68
def GL:FnScope ["_law_found","_law_due","_law_j"] ["_law_found","_law_due"] (JD Fj):=Pu.fs
abbrev BB:Stmt:=top 69
def GW:FnScope ["_law_found","_law_due","_law_k"] ["_law_found","_law_due"] (JD BB):=Pu.fs
abbrev Be:Stmt:=top 70
def He:FnScope ["_law_strips","_law_owners"] ["_law_strips"] (JD Be):=Pu.fs
abbrev SW:Stmt:=top 71
def P0:FnScope ["_law_strips","_law_order","_law_ranks","_law_total","_law_k","_law_j"] ["_law_strips","_law_order"] (JD SW):=Pu.fs
abbrev BU:Stmt:=top 72
def Pz:FnScope ["_law_holders","_law_wishes","_law_left","_law_turn","_law_inside","_law_behind"] ["_law_holders","_law_wishes"] (JD BU):=Pu.fs
abbrev Fd:Stmt:=top 73
def TL:FnScope ["_law_strips","_law_deed_here","_law_place_here","_law_holder_here","_law_width_here","_law_parts"] ["_law_strips","_law_deed_here"] (JD Fd):=Pu.fs
abbrev BJ:Stmt:=top 74
def Dp:FnScope ["_law_wishes","_law_deed_here","_law_pair_here"] ["_law_wishes","_law_deed_here"] (JD BJ):=Pu.fs
abbrev FY:Stmt:=top 75
def Sv:FnScope ["_law_now","_law_deed_here","_law_step_here"] ["_law_now","_law_deed_here"] (JD FY):=Pu.fs
abbrev FS:Stmt:=top 76
def Ih:FnScope ["_law_village","_law_deed_here"] ["_law_village","_law_deed_here"] (JD FS):=Pu.fs
abbrev BV:Stmt:=top 77
def Pb:FnScope ["_law_village","_law_past","_law_found","_law_refused","e","_law_due"] ["_law_village","_law_past"] (JD BV):=Pu.fs
abbrev Ai:Stmt:=top 78
def Ze1:FnScope ["_law_village","_law_past"] ["_law_village","_law_past"] (JD Ai):=Pu.fs
abbrev Bp:Stmt:=top 79
def Bo:FnScope ["_law_village","_law_past","_law_deed_here","_law_step_here","_law_found"] ["_law_village","_law_past","_law_deed_here"] (JD Bp):=Pu.fs
abbrev Af:Stmt:=top 80
def K8:FnScope ["_law_script","_law_menu_here","_law_many","_law_rest","_law_strips","_law_k","_law_cell","_law_width_here"] ["_law_script","_law_menu_here","_law_many"] (JD Af):=Pu.fs
abbrev B8:Stmt:=top 81
def Rw:FnScope ["_law_script","_law_most"] ["_law_script","_law_most"] (JD B8):=Pu.fs
abbrev BN:Stmt:=top 82
def Za4:FnScope ["_law_cell","_law_good"] ["_law_cell","_law_good"] (JD BN):=Pu.fs
abbrev BG:Stmt:=top 83
def Zca:FnScope ["_law_cell","_law_strips"] ["_law_cell","_law_strips"] (JD BG):=Pu.fs
abbrev Bh:Stmt:=top 84
def Tw:FnScope ["_law_cell","_law_menu_here","_law_pool","_law_one","_law_two","_law_ahead"] ["_law_cell","_law_menu_here"] (JD Bh):=Pu.fs
abbrev Fh:Stmt:=top 85
def K9:FnScope ["_law_script","_law_menu_here","_law_seed","_law_many","_law_deeds","_law_k","_law_pair_here"] ["_law_script","_law_menu_here"] (JD Fh):=Pu.fs
abbrev Ap:Stmt:=top 86
def Zb2:FnScope ["_law_cell","_law_strips","_law_place_here"] ["_law_cell","_law_strips","_law_place_here"] (JD Ap):=Pu.fs
abbrev FE:Stmt:=top 87
def Pr:FnScope ["_law_cell","_law_menu_here","_law_now","_law_kind","_law_rest","_law_place_here","_law_more","_law_pair_here"] ["_law_cell","_law_menu_here","_law_now"] (JD FE):=Pu.fs
abbrev Fs:Stmt:=top 88
def SB:FnScope ["_law_village","_law_strips","_law_order","_law_price_here"] ["_law_village","_law_strips"] (JD Fs):=Pu.fs
abbrev Bj:Stmt:=top 89
def Cu:FnScope ["_law_village","_law_past","_law_pair_here"] ["_law_village","_law_past"] (JD Bj):=Pu.fs
abbrev Ki:Stmt:=top 90
def Xy:FnScope ["_law_script","_law_menu_here","_law_strips","_law_village","_law_past","_law_deed_here","_law_cell","_law_costs","_law_k","_law_place_here","_law_holder_here","_law_offer"] ["_law_script"] (JD Ki):=Pu.fs
structure Glob (K:Za) (mg:Str->Option Value):Prop where
 ValueError:mg "ValueError"=none
 any:mg "any"=none
 bool:mg "bool"=none
 int:mg "int"=none
 isinstance:mg "isinstance"=none
 len:mg "len"=none
 list:mg "list"=none
 max:mg "max"=none
 min:mg "min"=none
 range:mg "range"=none
 set:mg "set"=none
 sorted:mg "sorted"=none
 str:mg "str"=none
 sum:mg "sum"=none
 tuple:mg "tuple"=none
 HOLDERS:∃u,mg "HOLDERS"=some u/\RelV (.int 10) u
 STRIPS:∃u,mg "STRIPS"=some u/\RelV (.int 40) u
 WIDEST:∃u,mg "WIDEST"=some u/\RelV (.int 1000) u
 MOST_WISHES:∃u,mg "MOST_WISHES"=some u/\RelV (.int 20) u
 MOST_DEEDS:∃u,mg "MOST_DEEDS"=some u/\RelV (.int 100) u
 m_MeldError:mg "MeldError"=some (.ref (ExcR.JB mg "MeldError"))
 g_MeldError:ExcR.ErrGet K (ExcR.JB mg "MeldError")
 m_TooManyStrips:mg "TooManyStrips"=some (.ref (ExcR.JB mg "TooManyStrips"))
 g_TooManyStrips:ExcR.ErrGet K (ExcR.JB mg "TooManyStrips")
 m_BadHolder:mg "BadHolder"=some (.ref (ExcR.JB mg "BadHolder"))
 g_BadHolder:ExcR.ErrGet K (ExcR.JB mg "BadHolder")
 m_BadWidth:mg "BadWidth"=some (.ref (ExcR.JB mg "BadWidth"))
 g_BadWidth:ExcR.ErrGet K (ExcR.JB mg "BadWidth")
 m_NoStrip:mg "NoStrip"=some (.ref (ExcR.JB mg "NoStrip"))
 g_NoStrip:ExcR.ErrGet K (ExcR.JB mg "NoStrip")
 m_OwnStrip:mg "OwnStrip"=some (.ref (ExcR.JB mg "OwnStrip"))
 g_OwnStrip:ExcR.ErrGet K (ExcR.JB mg "OwnStrip")
 m_BadPart:mg "BadPart"=some (.ref (ExcR.JB mg "BadPart"))
 g_BadPart:ExcR.ErrGet K (ExcR.JB mg "BadPart")
 m_UnlikeHolders:mg "UnlikeHolders"=some (.ref (ExcR.JB mg "UnlikeHolders"))
 g_UnlikeHolders:ExcR.ErrGet K (ExcR.JB mg "UnlikeHolders")
 m_TooWide:mg "TooWide"=some (.ref (ExcR.JB mg "TooWide"))
 g_TooWide:ExcR.ErrGet K (ExcR.JB mg "TooWide")
 m_LikeHolders:mg "LikeHolders"=some (.ref (ExcR.JB mg "LikeHolders"))
 g_LikeHolders:ExcR.ErrGet K (ExcR.JB mg "LikeHolders")
 m_WishStands:mg "WishStands"=some (.ref (ExcR.JB mg "WishStands"))
 g_WishStands:ExcR.ErrGet K (ExcR.JB mg "WishStands")
 m_TooManyWishes:mg "TooManyWishes"=some (.ref (ExcR.JB mg "TooManyWishes"))
 g_TooManyWishes:ExcR.ErrGet K (ExcR.JB mg "TooManyWishes")
 m_NoWish:mg "NoWish"=some (.ref (ExcR.JB mg "NoWish"))
 g_NoWish:ExcR.ErrGet K (ExcR.JB mg "NoWish")
 m_BookFull:mg "BookFull"=some (.ref (ExcR.JB mg "BookFull"))
 g_BookFull:ExcR.ErrGet K (ExcR.JB mg "BookFull")
 m_NothingDone:mg "NothingDone"=some (.ref (ExcR.JB mg "NothingDone"))
 g_NothingDone:ExcR.ErrGet K (ExcR.JB mg "NothingDone")
 x_NothingDone_NothingDone:PySem.W.exmOne K (.ref (ExcR.JB mg "NothingDone")) (.ref (ExcR.JB mg "NothingDone"))=some true
 k_NothingDone_MeldError:PySem.W.kitOne K (.ref (ExcR.JB mg "NothingDone")) (.ref (ExcR.JB mg "MeldError"))=some true
 k_NothingDone_ValueError:PySem.W.kitOne K (.ref (ExcR.JB mg "NothingDone")) (.type "ValueError")=some true
 m_Village:mg "Village"=some (.ref (ExcR.JB mg "Village"))
 cl_Village:Cls K (ExcR.JB mg "Village")
 n_Village_book:NoAttr K (ExcR.JB mg "Village") "book"
 n_Village_fields:NoAttr K (ExcR.JB mg "Village") "fields"
 n_Village_wished:NoAttr K (ExcR.JB mg "Village") "wished"
def PQ:Pu.P9 "book" ["book","fields","wished"] 0:=fun vs h=>by obtain⟨a0,a1,a2,rfl⟩:=Pu.len3 h.symm;simp only[Yz,Y6,List.lookup,(show(("book" : Str) == "book")=true by decide +kernel)];rfl
def Zfr:Pu.NW "book" []:=fun vs y h=>by obtain⟨_,rfl⟩:=Pu.len0 h.symm;simp only[Yz,Y6,putF];rfl
def FV:Pu.P9 "fields" ["book","fields","wished"] 1:=fun vs h=>by obtain⟨a0,a1,a2,rfl⟩:=Pu.len3 h.symm;simp only[Yz,Y6,List.lookup,(show(("fields" : Str) == "book")=false by decide +kernel),(show(("fields" : Str) == "fields")=true by decide +kernel)];rfl
def Zef:Pu.NW "fields" ["book"]:=fun vs y h=>by obtain⟨a0,rfl⟩:=Pu.len1 h.symm;simp only[Yz,Y6,putF,Yq (show ¬(("book" : Str) = "fields") by decide +kernel)];rfl
def SS:Pu.P9 "wished" ["book","fields","wished"] 2:=fun vs h=>by obtain⟨a0,a1,a2,rfl⟩:=Pu.len3 h.symm;simp only[Yz,Y6,List.lookup,(show(("wished" : Str) == "book")=false by decide +kernel),(show(("wished" : Str) == "fields")=false by decide +kernel),(show(("wished" : Str) == "wished")=true by decide +kernel)];rfl
def Zdb:Pu.NW "wished" ["book","fields"]:=fun vs y h=>by obtain⟨a0,a1,rfl⟩:=Pu.len2 h.symm;simp only[Yz,Y6,putF,Yq (show ¬(("book" : Str) = "wished") by decide +kernel),Yq (show ¬(("fields" : Str) = "wished") by decide +kernel)];rfl
def Kv:Pu.UT "strips" ["book","fields","wished"]:=fun vs=>match vs with|[]=>rfl|[a0]=>by simp only[Yz,Y6,List.lookup,(show(("strips" : Str) == "book")=false by decide +kernel),(show(("strips" : Str) == "fields")=false by decide +kernel),(show(("strips" : Str) == "wished")=false by decide +kernel)]|[a0,a1]=>by simp only[Yz,Y6,List.lookup,(show(("strips" : Str) == "book")=false by decide +kernel),(show(("strips" : Str) == "fields")=false by decide +kernel),(show(("strips" : Str) == "wished")=false by decide +kernel)]|a0::a1::a2::_=>by simp only[Yz,We,List.lookup,(show(("strips" : Str) == "book")=false by decide +kernel),(show(("strips" : Str) == "fields")=false by decide +kernel),(show(("strips" : Str) == "wished")=false by decide +kernel)]
def Kr:Pu.UT "wishes" ["book","fields","wished"]:=fun vs=>match vs with|[]=>rfl|[a0]=>by simp only[Yz,Y6,List.lookup,(show(("wishes" : Str) == "book")=false by decide +kernel),(show(("wishes" : Str) == "fields")=false by decide +kernel),(show(("wishes" : Str) == "wished")=false by decide +kernel)]|[a0,a1]=>by simp only[Yz,Y6,List.lookup,(show(("wishes" : Str) == "book")=false by decide +kernel),(show(("wishes" : Str) == "fields")=false by decide +kernel),(show(("wishes" : Str) == "wished")=false by decide +kernel)]|a0::a1::a2::_=>by simp only[Yz,We,List.lookup,(show(("wishes" : Str) == "book")=false by decide +kernel),(show(("wishes" : Str) == "fields")=false by decide +kernel),(show(("wishes" : Str) == "wished")=false by decide +kernel)]
def MY:Pu.UT "deeds" ["book","fields","wished"]:=fun vs=>match vs with|[]=>rfl|[a0]=>by simp only[Yz,Y6,List.lookup,(show(("deeds" : Str) == "book")=false by decide +kernel),(show(("deeds" : Str) == "fields")=false by decide +kernel),(show(("deeds" : Str) == "wished")=false by decide +kernel)]|[a0,a1]=>by simp only[Yz,Y6,List.lookup,(show(("deeds" : Str) == "book")=false by decide +kernel),(show(("deeds" : Str) == "fields")=false by decide +kernel),(show(("deeds" : Str) == "wished")=false by decide +kernel)]|a0::a1::a2::_=>by simp only[Yz,We,List.lookup,(show(("deeds" : Str) == "book")=false by decide +kernel),(show(("deeds" : Str) == "fields")=false by decide +kernel),(show(("deeds" : Str) == "wished")=false by decide +kernel)]
def Tq:Pu.UT "check_room" ["book","fields","wished"]:=fun vs=>match vs with|[]=>rfl|[a0]=>by simp only[Yz,Y6,List.lookup,(show(("check_room" : Str) == "book")=false by decide +kernel),(show(("check_room" : Str) == "fields")=false by decide +kernel),(show(("check_room" : Str) == "wished")=false by decide +kernel)]|[a0,a1]=>by simp only[Yz,Y6,List.lookup,(show(("check_room" : Str) == "book")=false by decide +kernel),(show(("check_room" : Str) == "fields")=false by decide +kernel),(show(("check_room" : Str) == "wished")=false by decide +kernel)]|a0::a1::a2::_=>by simp only[Yz,We,List.lookup,(show(("check_room" : Str) == "book")=false by decide +kernel),(show(("check_room" : Str) == "fields")=false by decide +kernel),(show(("check_room" : Str) == "wished")=false by decide +kernel)]
def To:Pu.UT "enter" ["book","fields","wished"]:=fun vs=>match vs with|[]=>rfl|[a0]=>by simp only[Yz,Y6,List.lookup,(show(("enter" : Str) == "book")=false by decide +kernel),(show(("enter" : Str) == "fields")=false by decide +kernel),(show(("enter" : Str) == "wished")=false by decide +kernel)]|[a0,a1]=>by simp only[Yz,Y6,List.lookup,(show(("enter" : Str) == "book")=false by decide +kernel),(show(("enter" : Str) == "fields")=false by decide +kernel),(show(("enter" : Str) == "wished")=false by decide +kernel)]|a0::a1::a2::_=>by simp only[Yz,We,List.lookup,(show(("enter" : Str) == "book")=false by decide +kernel),(show(("enter" : Str) == "fields")=false by decide +kernel),(show(("enter" : Str) == "wished")=false by decide +kernel)]
def Zbx:Pu.UT "sell" ["book","fields","wished"]:=fun vs=>match vs with|[]=>rfl|[a0]=>by simp only[Yz,Y6,List.lookup,(show(("sell" : Str) == "book")=false by decide +kernel),(show(("sell" : Str) == "fields")=false by decide +kernel),(show(("sell" : Str) == "wished")=false by decide +kernel)]|[a0,a1]=>by simp only[Yz,Y6,List.lookup,(show(("sell" : Str) == "book")=false by decide +kernel),(show(("sell" : Str) == "fields")=false by decide +kernel),(show(("sell" : Str) == "wished")=false by decide +kernel)]|a0::a1::a2::_=>by simp only[Yz,We,List.lookup,(show(("sell" : Str) == "book")=false by decide +kernel),(show(("sell" : Str) == "fields")=false by decide +kernel),(show(("sell" : Str) == "wished")=false by decide +kernel)]
def HZ:Pu.UT "part" ["book","fields","wished"]:=fun vs=>match vs with|[]=>rfl|[a0]=>by simp only[Yz,Y6,List.lookup,(show(("part" : Str) == "book")=false by decide +kernel),(show(("part" : Str) == "fields")=false by decide +kernel),(show(("part" : Str) == "wished")=false by decide +kernel)]|[a0,a1]=>by simp only[Yz,Y6,List.lookup,(show(("part" : Str) == "book")=false by decide +kernel),(show(("part" : Str) == "fields")=false by decide +kernel),(show(("part" : Str) == "wished")=false by decide +kernel)]|a0::a1::a2::_=>by simp only[Yz,We,List.lookup,(show(("part" : Str) == "book")=false by decide +kernel),(show(("part" : Str) == "fields")=false by decide +kernel),(show(("part" : Str) == "wished")=false by decide +kernel)]
def Zdu:Pu.UT "unite" ["book","fields","wished"]:=fun vs=>match vs with|[]=>rfl|[a0]=>by simp only[Yz,Y6,List.lookup,(show(("unite" : Str) == "book")=false by decide +kernel),(show(("unite" : Str) == "fields")=false by decide +kernel),(show(("unite" : Str) == "wished")=false by decide +kernel)]|[a0,a1]=>by simp only[Yz,Y6,List.lookup,(show(("unite" : Str) == "book")=false by decide +kernel),(show(("unite" : Str) == "fields")=false by decide +kernel),(show(("unite" : Str) == "wished")=false by decide +kernel)]|a0::a1::a2::_=>by simp only[Yz,We,List.lookup,(show(("unite" : Str) == "book")=false by decide +kernel),(show(("unite" : Str) == "fields")=false by decide +kernel),(show(("unite" : Str) == "wished")=false by decide +kernel)]
def Od:Pu.UT "wish" ["book","fields","wished"]:=fun vs=>match vs with|[]=>rfl|[a0]=>by simp only[Yz,Y6,List.lookup,(show(("wish" : Str) == "book")=false by decide +kernel),(show(("wish" : Str) == "fields")=false by decide +kernel),(show(("wish" : Str) == "wished")=false by decide +kernel)]|[a0,a1]=>by simp only[Yz,Y6,List.lookup,(show(("wish" : Str) == "book")=false by decide +kernel),(show(("wish" : Str) == "fields")=false by decide +kernel),(show(("wish" : Str) == "wished")=false by decide +kernel)]|a0::a1::a2::_=>by simp only[Yz,We,List.lookup,(show(("wish" : Str) == "book")=false by decide +kernel),(show(("wish" : Str) == "fields")=false by decide +kernel),(show(("wish" : Str) == "wished")=false by decide +kernel)]
def Ig:Pu.UT "drop" ["book","fields","wished"]:=fun vs=>match vs with|[]=>rfl|[a0]=>by simp only[Yz,Y6,List.lookup,(show(("drop" : Str) == "book")=false by decide +kernel),(show(("drop" : Str) == "fields")=false by decide +kernel),(show(("drop" : Str) == "wished")=false by decide +kernel)]|[a0,a1]=>by simp only[Yz,Y6,List.lookup,(show(("drop" : Str) == "book")=false by decide +kernel),(show(("drop" : Str) == "fields")=false by decide +kernel),(show(("drop" : Str) == "wished")=false by decide +kernel)]|a0::a1::a2::_=>by simp only[Yz,We,List.lookup,(show(("drop" : Str) == "book")=false by decide +kernel),(show(("drop" : Str) == "fields")=false by decide +kernel),(show(("drop" : Str) == "wished")=false by decide +kernel)]
def G7:Pu.UT "take_back" ["book","fields","wished"]:=fun vs=>match vs with|[]=>rfl|[a0]=>by simp only[Yz,Y6,List.lookup,(show(("take_back" : Str) == "book")=false by decide +kernel),(show(("take_back" : Str) == "fields")=false by decide +kernel),(show(("take_back" : Str) == "wished")=false by decide +kernel)]|[a0,a1]=>by simp only[Yz,Y6,List.lookup,(show(("take_back" : Str) == "book")=false by decide +kernel),(show(("take_back" : Str) == "fields")=false by decide +kernel),(show(("take_back" : Str) == "wished")=false by decide +kernel)]|a0::a1::a2::_=>by simp only[Yz,We,List.lookup,(show(("take_back" : Str) == "book")=false by decide +kernel),(show(("take_back" : Str) == "fields")=false by decide +kernel),(show(("take_back" : Str) == "wished")=false by decide +kernel)]
def Zfp:Pu.UT "order" ["book","fields","wished"]:=fun vs=>match vs with|[]=>rfl|[a0]=>by simp only[Yz,Y6,List.lookup,(show(("order" : Str) == "book")=false by decide +kernel),(show(("order" : Str) == "fields")=false by decide +kernel),(show(("order" : Str) == "wished")=false by decide +kernel)]|[a0,a1]=>by simp only[Yz,Y6,List.lookup,(show(("order" : Str) == "book")=false by decide +kernel),(show(("order" : Str) == "fields")=false by decide +kernel),(show(("order" : Str) == "wished")=false by decide +kernel)]|a0::a1::a2::_=>by simp only[Yz,We,List.lookup,(show(("order" : Str) == "book")=false by decide +kernel),(show(("order" : Str) == "fields")=false by decide +kernel),(show(("order" : Str) == "wished")=false by decide +kernel)]
def FJ:Pu.UT "cost" ["book","fields","wished"]:=fun vs=>match vs with|[]=>rfl|[a0]=>by simp only[Yz,Y6,List.lookup,(show(("cost" : Str) == "book")=false by decide +kernel),(show(("cost" : Str) == "fields")=false by decide +kernel),(show(("cost" : Str) == "wished")=false by decide +kernel)]|[a0,a1]=>by simp only[Yz,Y6,List.lookup,(show(("cost" : Str) == "book")=false by decide +kernel),(show(("cost" : Str) == "fields")=false by decide +kernel),(show(("cost" : Str) == "wished")=false by decide +kernel)]|a0::a1::a2::_=>by simp only[Yz,We,List.lookup,(show(("cost" : Str) == "book")=false by decide +kernel),(show(("cost" : Str) == "fields")=false by decide +kernel),(show(("cost" : Str) == "wished")=false by decide +kernel)]
def Zfx:Pu.UT "offer" ["book","fields","wished"]:=fun vs=>match vs with|[]=>rfl|[a0]=>by simp only[Yz,Y6,List.lookup,(show(("offer" : Str) == "book")=false by decide +kernel),(show(("offer" : Str) == "fields")=false by decide +kernel),(show(("offer" : Str) == "wished")=false by decide +kernel)]|[a0,a1]=>by simp only[Yz,Y6,List.lookup,(show(("offer" : Str) == "book")=false by decide +kernel),(show(("offer" : Str) == "fields")=false by decide +kernel),(show(("offer" : Str) == "wished")=false by decide +kernel)]|a0::a1::a2::_=>by simp only[Yz,We,List.lookup,(show(("offer" : Str) == "book")=false by decide +kernel),(show(("offer" : Str) == "fields")=false by decide +kernel),(show(("offer" : Str) == "wished")=false by decide +kernel)]
end T
namespace M
open PySem PySem.Spec PyProof.Rows L2 Own Pu
def Zet:Pc:=fun ds R X=>∃h:Int,ds=[.int h]/\UM (PU h) X (R (.sh .non))
def Fe (h:Int):Option Str:=if 1<=h/\h<=1000 then none else some "BadWidth"
def RY:Pc:=fun ds R X=>∃h:Int,ds=[.int h]/\UM (Fe h) X (R (.sh .non))
def DU (_:Za):Sp:=fun vs H Q _=>∃(l:Addr) (ps:List (Int×Int)),vs=[.ref l]/\LAt Xu H l ps/\Field ps/\ps.length<=50/\
 ∀(q:Addr) (H':Hp),H q=none->Same H H'->H' q=some (.lst ((JT ps).map V.int))->Q (.ref q) H'
def D5:Pc:=fun ds R _=>∃ps:List (Int×Int),ds=[.lst (ps.map prD)]/\Field ps/\ps.length<=50/\R (.own ((JT ps).map D.int))
def Sf {P:Program}{w:World}{K:Za}{mg:Str->Option Value}{base:Heap} (C:Callee P w K mg base CX0 1 "holders_of" ["strips"] (DU K)):Callee P w K mg base CX0 1 "holders_of" ["strips"] (Pu.spOf mg D5 K):=MO C fun ds R X vs H Q E r hc hQ hX=>by
 obtain⟨ps,rfl,hF,hz,hR⟩:=hc;obtain⟨v,rfl,r1⟩:=r.one_inv;obtain⟨a,rfl,ha⟩:=r1.pairs_inv;exact⟨a,ps,rfl,ha,hF,hz,fun q H' nq S h=>hQ _ _ H' hR S (Zcr nq h)⟩
def LC:Pc:=fun ds R _=>∃(ps:List (Int×Int)) (x y:Int),ds=[.lst (ps.map prD),.int x,.int y]/\Field ps/\R (.sh (.int (pcM ps x y ps.length)))
def Mb:Pc:=fun ds R X=>∃(ps:List (Int×Int)) (p:Int),ds=[.lst (ps.map prD),.int p]/\(if p<1\/(ps.length:Int)<=p then X "NoStrip" else R (.sh .non))
def LW (ws:List (Int×Int)) (l:Int) (ps:List (List Int)) (ls:List Int) (lg:List (List Int)):Prop:=∀q∈lg,∃p∈ps,∃h∈ls,q=p++[h]/\(Up l p,h)∈ws
def LS:Pc:=fun ds R _=>∃(l:Int) (ps:List (List Int)) (ls:List Int) (ws:List (Int×Int)),ds=[.lst (ps.map (em l)),.lst (ls.map D.int),.lst (ws.map prD)]/\(∀p∈ps,p.length<=100)/\ls.length<=100/\
 ∀lg,LW ws l ps ls lg->lg.length<=ls.length->R (.own (lg.map (em l)))
def Ze7:Pc:=fun ds R X=>∃(ps:List (Int×Int)) (p:Int),ds=[plD ps,.int p]/\UM (NQ ps p) X (R (.sh .non))
def Zep:Pc:=fun ds R X=>∃(ws:List (Int×Int)) (a b:Int),ds=[plD ws,.int a,.int b]/\ws.length<=1000/\UM (UF ws a b) X (R (.own ((Kj ws a b).map prD)))
def Zbp:Pc:=fun ds R _=>∃hs:List Int,ds=[.lst (hs.map D.int)]/\hs.length<=10/\R (.own ((Ui hs).map tD))
def Hv:Pc:=fun ds R _=>∃(ms:List Int) (h:Int),ds=[tD ms,.int h]/\ms.length<=1000/\R (.sh (tD (JW ms h)))
def LI:Pc:=fun ds R _=>∃(ms:List Int) (h:Int) (ws:List (Int×Int)),ds=[tD ms,.int h,.lst (ws.map prD)]/\ws.length<=50/\R (.sh (.bl (Kf ws ms h)))
def Rb:Pc:=fun ds R _=>∃(ms:List Int) (h:Int) (ws:List (Int×Int)),ds=[tD ms,.int h,.lst (ws.map prD)]/\ws.length<=50/\R (.sh (.bl (firstM ws ms h)))
def OP (C:Addr):Pc:=fun ds R _=>∃(bk:List (Str×List Int)) (fs ws:List (List (Int×Int))) (f:List (Int×Int)),ds=[vilD C bk (fs++[f]) ws]/\R (.own (f.map prD))
def Hw (C:Addr):Pc:=fun ds R _=>∃(bk:List (Str×List Int)) (fs ws:List (List (Int×Int))) (f:List (Int×Int)),ds=[vilD C bk fs (ws++[f])]/\R (.own (f.map prD))
def O4 (C:Addr):Pc:=fun ds R _=>∃(bk:List (Str×List Int)) (fs ws:List (List (Int×Int))),ds=[vilD C bk fs ws]/\R (.own (bk.map dD))
def Pt (bk:List (Str×List Int)):Option Str:=if 100<=bk.length then some "BookFull" else none
def R6 (C:Addr):Pc:=fun ds R X=>∃(bk:List (Str×List Int)) (fs ws:List (List (Int×Int))),ds=[vilD C bk fs ws]/\UM (Pt bk) X (R (.sh .non))
def Zbh (C:Addr):Pw:=fun o ss R _=>∃(x b1 b2 b3:Addr) (bk:List (Str×List Int)) (fs ws:List (List (Int×Int))) (q:Str×List Int) (f w:List (Int×Int)),o=vO C x b1 b2 b3 bk fs ws/\ss=[.sh (dD q),.sh (plD f),.sh (plD w)]/\bk.length<=1000/\fs.length<=1000/\ws.length<=1000/\
 R (vO C x b1 b2 b3 (bk++[q]) (fs++[f]) (ws++[w])) (.int (bk.length+1))
def RM (C:Addr):Pw:=fun o ss R X=>∃(x b1 b2 b3:Addr) (bk:List (Str×List Int)) (fs ws:List (List (Int×Int))),o=vO C x b1 b2 b3 bk fs ws/\ss=[]/\fs.length=bk.length+1/\ws.length=bk.length+1/\
 (bk=[]->X (vO C x b1 b2 b3 bk fs ws) "NothingDone")/\∀b0 q,bk=b0++[q]->R (vO C x b1 b2 b3 b0 fs.dropLast ws.dropLast) (dD q)
def Ze8:Pc:=fun ds R _=>∃(ns:List Int) (k:Int),ds=[.scr ns,.int k]/\0<=k/\R (.sh (.int (ns.getD k.toNat 0)))
def IB:Pc:=fun ds R _=>∃i:Int,ds=[.int i]/\R (.sh (.bl true))
def Ie:Pc:=fun ds R _=>∃c p:Int,ds=[.int c,.int p]/\R (.sh (.int (mixP c p)))
def Zck:Pc:=fun ds R _=>∃c:Int,ds=[.int c]/\∀m,Menu m->R (.own (m.map D.int))
def Zfk:Pc:=fun ds R _=>∃(m:List Int) (k:Int),ds=[.lst (m.map D.int),.int k]/\Menu m/\∀h:Int,1<=h->h<=10->h=Zeg m k->R (.sh (.int h))
def Lu:Pc:=fun ds R _=>∃ps:List (Int×Int),ds=[.lst (ps.map prD)]/\ps.length<=50/\R (.own ((JT ps).map D.int))
def Zc1:Pc:=fun ds R _=>∃(ps:List (Int×Int)) (os:List Int),ds=[.lst (ps.map prD),.lst (os.map D.int)]/\Field ps/\ps.length<=50/\(∀p∈ps,p.1∈os)/\R (.sh (.int (priM ps os ps.length)))
def Zcz:Pc:=fun ds R _=>∃(hs:List Int) (ws:List (Int×Int)),ds=[.lst (hs.map D.int),.lst (ws.map prD)]/\hs.length<=50/\ws.length<=50/\R (.sh (.bl (decide (Uq ws hs hs.length=[]))))
def Ze4:Pq:=fun ss R _=>∃(f:List (Int×Int)) (x:Dd),ss=[.sh (plD f),.sh (dD x.q)]/\x.land=true/\f.length<=40/\R (.own [.int (codeN (x.err f [])),plD (x.fld' f)])
def HL:Pq:=fun ss R _=>∃(w:List (Int×Int)) (x:Dd),ss=[.sh (plD w),.sh (dD x.q)]/\x.land=false/\w.length<=20/\R (.own [.int (codeN (x.err [] w)),plD (x.wsh' w)])
def Zfg:Pc:=fun ds R _=>∃c g:Int,ds=[.int c,.int g]/\∀v:Int,R (.sh (.int v))
def Zag:Pc:=fun ds R _=>∃(c:Int) (ps:List (Int×Int)),ds=[.int c,plD ps]/\ps.length<=1000/\∀v:Int,R (.sh (.int v))
def LM:Pc:=fun ds R _=>∃(c:Int) (ps:List (Int×Int)) (p:Int),ds=[.int c,plD ps,.int p]/\ps.length<=1000/\Field ps/\∀v:Int,R (.sh (.int v))
def Zbc:Pc:=fun ds R X=>∃ps:List (Int×Int),ds=[plD ps]/\ps.length<=1000/\UM (Ta ps) X (R (.sh .non))
def LQ:Pc:=fun ds R _=>∃(l:Int) (hs:List Int) (ws:List (Int×Int)),ds=[.int l,.lst (hs.map D.int),.lst (ws.map prD)]/\hs.length<=50/\(∀t,¬Tf hs ws l t)/\R (.sh (.lst []))
def Zei:Pc:=fun ds R X=>∃(ps:List (Int×Int)) (p h:Int),ds=[plD ps,.int p,.int h]/\ps.length<=1000/\UM (UC ps p h) X (R (.own (UY ps p h |>.map prD)))
def Zdt:Pc:=fun ds R X=>∃(ps:List (Int×Int)) (p w:Int),ds=[plD ps,.int p,.int w]/\ps.length<=1000/\UM (UN ps p w) X (R (.own ((X8 ps p w).map prD)))
def LF:Pc:=fun ds R X=>∃(ps:List (Int×Int)) (p:Int),ds=[plD ps,.int p]/\ps.length<=1000/\UM (uniE ps p) X (R (.own ((uniL ps p).map prD)))
def L0:Pc:=fun ds R X=>∃(ws:List (Int×Int)) (a b:Int),ds=[plD ws,.int a,.int b]/\ws.length<=1000/\UM (UI ws a b) X (R (.own ((ws++[(a,b)]).map prD)))
def R4:Pc:=fun ds R _=>∃ps:List (Int×Int),ds=[.lst (ps.map prD)]/\Field ps/\ps.length<=50/\
 ∀kvs:List (List Key×V),(∀x∈JT ps,∀y∈JT ps,valV kvs [.inl x,.inl y]=some (.int (pcM ps x y ps.length)))->R (.own (.dT kvs))
def Ma:Pc:=fun ds R _=>∃(ms:List Int) (l:Int) (le pa:List (List Key×V)) (c:Int->Int) (v:Int),ds=[tD ms,.int l,.dT le,.dT pa]/\ms.length<=1000/\valV le (kT (JW ms l))=some (.int v)/\
 (∀m∈JW ms l,valV pa [.inl m,.inl l]=some (.int (c m)))/\R (.sh (.int (v+((JW ms l).map c).sum)))
def MK:Pc:=fun ds R _=>∃(ms:List Int) (l:Int) (le pa:List (List Key×V)) (c:Int->Int) (v:Int),ds=[tD ms,.int l,.dT le,.dT pa]/\ms.length<=1000/\valV le (kT (JW ms l))=some (.int v)/\
 (∀m∈JW ms l,valV pa [.inl l,.inl m]=some (.int (c m)))/\R (.sh (.int (v+((JW ms l).map c).sum)))
def N0 (bk:List (Str×List Int)) (w:List (Int×Int)) (a b:Int):Option Str:=if 100<=bk.length then some "BookFull" else UF w a b
def Zcy (C:Addr):Pw:=fun o ss R X=>∃(x b1 b2 b3:Addr) (bk:List (Str×List Int)) (fs ws:List (List (Int×Int))) (f w:List (Int×Int)) (p h:Int),o=vO C x b1 b2 b3 bk (fs++[f]) (ws++[w])/\ss=[.sh (.int p),.sh (.int h)]/\bk.length<=1000/\fs.length<=900/\ws.length<=900/\w.length<=1000/\
 UM (N0 bk w p h) (X (vO C x b1 b2 b3 bk (fs++[f]) (ws++[w]))) (R (vO C x b1 b2 b3 (bk++[(("drop" : Str),[p,h])]) (fs++[f]++[f]) (ws++[w]++[Kj w p h])) (.int (bk.length+1)))
def Zfb:Pc:=fun ds R _=>∃(ns:List Int) (k:Int),ds=[.scr ns,.int k]/\0<=k/\∀v:Int,R (.sh (.int v))
def Mp:Pc:=fun ds R _=>∃ns:List Int,ds=[.scr ns]/\∀v:Int,R (.sh (.int v))
def Zab:Pc:=fun ds R _=>∃xs:List Int,ds=[.lst (xs.map D.int),.lst (xs.map D.int)]/\xs.length<=1000000/\R (.sh (.bl true))
def HX:Pc:=fun ds R _=>∃ps:List (Int×Int),ds=[.lst (ps.map prD),.lst (ps.map prD)]/\ps.length<=1000000/\R (.sh (.bl true))
def Zcw:Pc:=fun ds R _=>∃q:Str×List Int,ds=[dD q,dD q]/\q.2.length<=100/\R (.sh (.bl true))
def OD:Pq:=fun ss R _=>∃(f w:List (Int×Int)) (ds:List D) (x:Dd),ss=[.sh (.tup (plD f::plD w::ds)),.sh (dD x.q)]/\f.length<=40/\w.length<=20/\R (.own [.int (codeN (x.err f w)),plD (x.nf f w),plD (x.nw f w)])
def Zbw:Pc:=fun ds R _=>∃(ns m:List Int) (n:Int),ds=[.scr ns,.lst (m.map D.int),.int n]/\Menu m/\0<=n/\n<=1000/\∀ps:List (Int×Int),Field ps->ps.length=n.toNat->R (.own (ps.map prD))
def Io:Pc:=fun ds R _=>∃(ns:List Int) (n:Int),ds=[.scr ns,.int n]/\0<=n/\n<=1000/\∀cs:List Int,(cs.length:Int)<=n->R (.own (cs.map D.int))
def Zav:Pc:=fun ds R _=>∃(c:Int) (m:List Int),ds=[.int c,.lst (m.map D.int)]/\Menu m/\∀a b:Int,R (.sh (prD (a,b)))
def Rf:Pc:=fun ds R _=>∃(hs:List Int) (ws:List (Int×Int)),ds=[.lst (hs.map D.int),.lst (ws.map prD)]/\hs.length<=50/\(∀l∈hs,∀t,¬Tf hs ws l t)/\R (.sh (.lst []))
def Ow:Pc:=fun ds R _=>∃(ps ws:List (Int×Int)) (pa:List (List Key×V)) (c:Int->Int->Int),ds=[.lst (ps.map prD),.lst (ws.map prD),.dT pa]/\Field ps/\ps.length<=50/\ws.length<=50/\(∀q∈ws,q.1≠q.2)/\
 (∀x∈JT ps,∀y∈JT ps,valV pa [.inl x,.inl y]=some (.int (c x y)))/\Hh (JT ps) ws/\∀kvs,Tab ws c (Ui (JT ps)) kvs->R (.own (.dT kvs))
def Zcm (C:Addr):Pw:=fun o ss R X=>∃(x:Addr) (ps:List (Int×Int)),o=.ins x C [] []/\ss=[.sh (plD ps)]/\ps.length<=1000/\UM (Ta ps) (X (.ins x C [] [])) (∀b1 b2 b3,R (vO C x b1 b2 b3 [] [ps] [[]]) .non)
def NB (bk:List (Str×List Int)) (f:List (Int×Int)) (p h:Int):Option Str:=if 100<=bk.length then some "BookFull" else UC f p h
def Rg (C:Addr):Pw:=fun o ss R X=>∃(x b1 b2 b3:Addr) (bk:List (Str×List Int)) (fs ws:List (List (Int×Int))) (f w:List (Int×Int)) (p h:Int),o=vO C x b1 b2 b3 bk (fs++[f]) (ws++[w])/\ss=[.sh (.int p),.sh (.int h)]/\bk.length<=1000/\fs.length<=900/\ws.length<=900/\f.length<=1000/\
 UM (NB bk f p h) (X (vO C x b1 b2 b3 bk (fs++[f]) (ws++[w]))) (R (vO C x b1 b2 b3 (bk++[(("sell" : Str),[p,h])]) (fs++[f]++[UY f p h]) (ws++[w]++[w])) (.int (bk.length+1)))
def NL (bk:List (Str×List Int)) (f:List (Int×Int)) (p h:Int):Option Str:=if 100<=bk.length then some "BookFull" else UN f p h
def Zar (C:Addr):Pw:=fun o ss R X=>∃(x b1 b2 b3:Addr) (bk:List (Str×List Int)) (fs ws:List (List (Int×Int))) (f w:List (Int×Int)) (p h:Int),o=vO C x b1 b2 b3 bk (fs++[f]) (ws++[w])/\ss=[.sh (.int p),.sh (.int h)]/\bk.length<=1000/\fs.length<=900/\ws.length<=900/\f.length<=1000/\
 UM (NL bk f p h) (X (vO C x b1 b2 b3 bk (fs++[f]) (ws++[w]))) (R (vO C x b1 b2 b3 (bk++[(("part" : Str),[p,h])]) (fs++[f]++[X8 f p h]) (ws++[w]++[w])) (.int (bk.length+1)))
def NP (bk:List (Str×List Int)) (f:List (Int×Int)) (p:Int):Option Str:=if 100<=bk.length then some "BookFull" else uniE f p
def LK (C:Addr):Pw:=fun o ss R X=>∃(x b1 b2 b3:Addr) (bk:List (Str×List Int)) (fs ws:List (List (Int×Int))) (f w:List (Int×Int)) (p:Int),o=vO C x b1 b2 b3 bk (fs++[f]) (ws++[w])/\ss=[.sh (.int p)]/\bk.length<=1000/\fs.length<=900/\ws.length<=900/\f.length<=1000/\
 UM (NP bk f p) (X (vO C x b1 b2 b3 bk (fs++[f]) (ws++[w]))) (R (vO C x b1 b2 b3 (bk++[(("unite" : Str),[p])]) (fs++[f]++[uniL f p]) (ws++[w]++[w])) (.int (bk.length+1)))
def N3 (bk:List (Str×List Int)) (w:List (Int×Int)) (a b:Int):Option Str:=if 100<=bk.length then some "BookFull" else UI w a b
def Of (C:Addr):Pw:=fun o ss R X=>∃(x b1 b2 b3:Addr) (bk:List (Str×List Int)) (fs ws:List (List (Int×Int))) (f w:List (Int×Int)) (p h:Int),o=vO C x b1 b2 b3 bk (fs++[f]) (ws++[w])/\ss=[.sh (.int p),.sh (.int h)]/\bk.length<=1000/\fs.length<=900/\ws.length<=900/\w.length<=1000/\
 UM (N3 bk w p h) (X (vO C x b1 b2 b3 bk (fs++[f]) (ws++[w]))) (R (vO C x b1 b2 b3 (bk++[(("wish" : Str),[p,h])]) (fs++[f]++[f]) (ws++[w]++[w++[(p,h)]])) (.int (bk.length+1)))
def M7:Pc:=fun ds R _=>∃bk:List (Str×List Int),ds=[.lst (bk.map dD),.lst (bk.map dD)]/\(∀q∈bk,q.2.length<=100)/\bk.length<=1000/\R (.sh (.bl true))
def Lx (C:Addr):Pw2:=fun o1 o2 ss R _=>∃(x b1 b2 b3 a:Addr) (f0:List (Int×Int)) (hs:Hist),o1=vO C x b1 b2 b3 (bkH hs) (fsH f0 hs) (wsH hs)/\o2=.lsA a (JY f0 hs)/\ss=[]/\hs.length<=200/\R (vO C x b1 b2 b3 (bkH hs.dropLast) (fsH f0 hs.dropLast) (wsH hs.dropLast)) (.lsA a (JY f0 hs.dropLast)) (.bl true)
def Zbq:Pc:=fun ds R _=>∃(ns m:List Int),ds=[.scr ns,.lst (m.map D.int)]/\Menu m/\∀qs:List (Int×Int),qs.length<=24->R (.own (qs.map fun q=>dD (Dd.wish q.1 q.2).q))
def IH:Pc:=fun ds R _=>∃(c:Int) (m:List Int) (f w:List (Int×Int)) (es:List D),ds=[.int c,.lst (m.map D.int),.tup (plD f::plD w::es)]/\Menu m/\f.length<=1000/\Field f/\w.length<=1000/\(∀x:Dd,R (.sh (dD x.q)))/\R (.sh (.tup [.str "back"]))
def L7:Pc:=fun ds R _=>∃(ps ws:List (Int×Int)),ds=[.lst (ps.map prD),.lst (ws.map prD)]/\Field ps/\ps.length<=50/\(∀q∈ws,q.1≠q.2)/\(¬ ∃r,Ring (JT ps) ws r)/\R (.sh .non)
def Bv (bk:List (Str×List Int)) (f w:List (Int×Int)) (d:Dd):Option Str:=if 100<=bk.length then some "BookFull" else d.err f w
def RU (C:Addr):Pw:=fun o ss R X=>∃(x b1 b2 b3:Addr) (bk:List (Str×List Int)) (fs ws:List (List (Int×Int))) (f w:List (Int×Int)) (d:Dd),o=vO C x b1 b2 b3 bk (fs++[f]) (ws++[w])/\ss=[.sh (dD d.q)]/\bk.length<=1000/\fs.length<=900/\ws.length<=900/\f.length<=1000/\w.length<=1000/\
 UM (Bv bk f w d) (X (vO C x b1 b2 b3 bk (fs++[f]) (ws++[w]))) (R (vO C x b1 b2 b3 (bk++[d.q]) (fs++[f]++[d.fld f]) (ws++[w]++[d.wsh w])) (.int (bk.length+1)))
def Zcu (C:Addr):Pc:=fun ds R _=>∃(f0:List (Int×Int)) (hs:List (Dd×List (Int×Int)×List (Int×Int))),ds=[vilD C (bkH hs) (fsH f0 hs) (wsH hs),.lst (JY f0 hs)]/\hs.length<=200/\(∀g∈fsH f0 hs,g.length<=1000)/\(∀g∈wsH hs,g.length<=1000)/\R (.sh (.bl true))
def pcc (ps:List (Int×Int)):Int->Int->Int:=fun x y=>pcM ps x y ps.length
def Mo:Pc:=fun ds R _=>∃(ps ws:List (Int×Int)),ds=[.lst (ps.map prD),.lst (ws.map prD)]/\Field ps/\ps.length<=50/\ws.length<=50/\(∀q∈ws,q.1≠q.2)/\(¬ ∃r,Ring (JT ps) ws r)/\
 ∀vs,TabV ws (pcc ps) (Ui (JT ps)) vs->R (.own (vs.map D.int))
def OQ:Pc:=fun ds R _=>∃(ps ws:List (Int×Int)),ds=[.lst (ps.map prD),.lst (ws.map prD)]/\Field ps/\ps.length<=50/\ws.length<=50/\(∀q∈ws,q.1≠q.2)/\(¬ ∃r,Ring (JT ps) ws r)/\
 ∀o,Best ws (pcc ps) (JT ps) o->R (.own (o.map D.int))
def Lw (C:Addr):Pw2:=fun o1 o2 ss R _=>∃(x b1 b2 b3 a:Addr) (f0:List (Int×Int)) (hs:Hist) (q:D),o1=vO C x b1 b2 b3 (bkH hs) (fsH f0 hs) (wsH hs)/\o2=.lsA a (JY f0 hs)/\ss=[.sh q]/\hs.length<100/\FineH f0 hs/\
 ((q=.tup [.str "back"]/\R (vO C x b1 b2 b3 (bkH hs.dropLast) (fsH f0 hs.dropLast) (wsH hs.dropLast)) (.lsA a (JY f0 hs.dropLast)) (.bl true))\/
  ∃d:Dd,q=dD d.q/\R (vO C x b1 b2 b3 (bkH (addH f0 hs d)) (fsH f0 (addH f0 hs d)) (wsH (addH f0 hs d))) (.lsA a (JY f0 (addH f0 hs d))) (.bl true))
def ID:Pc:=fun ds R _=>∃(ps ws:List (Int×Int)),ds=[.lst (ps.map prD),.lst (ws.map prD)]/\Field ps/\ps.length<=50/\ws.length<=50/\(∀q∈ws,q.1≠q.2)/\(¬ ∃r,Ring (JT ps) ws r)/\
 ∀v,Least ws (pcc ps) (JT ps) v->R (.sh (.int v))
def OM (C:Addr):Pc:=fun ds R _=>∃(bk:List (Str×List Int)) (fs ws:List (List (Int×Int))) (f w:List (Int×Int)),ds=[vilD C bk (fs++[f]) (ws++[w])]/\Field f/\f.length<=50/\w.length<=50/\(∀q∈w,q.1≠q.2)/\(¬ ∃r,Ring (JT f) w r)/\∀o,Best w (pcc f) (JT f) o->R (.own (o.map D.int))
def L9 (C:Addr):Pw2:=fun o1 o2 ss R _=>∃(x b1 b2 b3 a:Addr) (f0:List (Int×Int)) (hs:Hist),o1=vO C x b1 b2 b3 (bkH hs) (fsH f0 hs) (wsH hs)/\o2=.lsA a (JY f0 hs)/\ss=[]/\hs.length<=60/\FineH f0 hs/\
 ∀hs':Hist,hs'.length<=hs.length+20->FineH f0 hs'->(¬ ∃r,Ring tenM (curW hs') r)->curF f0 hs'=curF f0 hs->R (vO C x b1 b2 b3 (bkH hs') (fsH f0 hs') (wsH hs')) (.lsA a (JY f0 hs')) (.bl true)
def Ox (C:Addr):Pc:=fun ds R _=>∃(bk:List (Str×List Int)) (fs ws:List (List (Int×Int))) (f w:List (Int×Int)),ds=[vilD C bk (fs++[f]) (ws++[w])]/\Field f/\f.length<=50/\w.length<=50/\(∀q∈w,q.1≠q.2)/\(¬ ∃r,Ring (JT f) w r)/\∀v,Least w (pcc f) (JT f) v->R (.sh (.int v))
def Zdx (C:Addr):Pc:=fun ds R _=>∃(bk:List (Str×List Int)) (fs ws:List (List (Int×Int))) (f w:List (Int×Int)) (p h:Int),ds=[vilD C bk (fs++[f]) (ws++[w]),.int p,.int h]/\Field f/\f.length<=40/\w.length<=50/\(∀q∈w,q.1≠q.2)/\UC f p h=none/\(¬ ∃r,Ring (JT f) w r)/\(¬ ∃r,Ring (JT (UY f p h)) w r)/\∀u v:Int,Least w (pcc f) (JT f) u->Least w (pcc (UY f p h)) (JT (UY f p h)) v->R (.sh (.int (v-u)))
def Oh (C:Addr):Pc:=fun ds R _=>∃(bk:List (Str×List Int)) (fs ws:List (List (Int×Int))) (f w:List (Int×Int)),ds=[vilD C bk (fs++[f]) (ws++[w]),plD f]/\Field f/\f.length<=50/\w.length<=50/\(∀q∈w,q.1≠q.2)/\(¬ ∃r,Ring (JT f) w r)/\∀v:Int,0<=v->Least w (pcc f) (JT f) v->R (.sh (.int v))
variable (P:Program) (w:World) (K:Za) (mg:Str->Option Value) (base:Heap)
abbrev Sh:Prop:=Callee P w K mg base (ExcR.CXe P w) 1 "check_holder" ["holder"] (Pu.spOf mg Zet K)
abbrev DJ:Prop:=Callee P w K mg base (ExcR.CXe P w) 1 "check_width" ["width"] (Pu.spOf mg RY K)
abbrev Nw:Prop:=Callee P w K mg base CX0 1 "holders_of" ["strips"] (Pu.spOf mg D5 K)
abbrev DK:Prop:=Callee P w K mg base CX0 1 "pair_cost" ["strips","ahead","behind"] (Pu.spOf mg LC K)
abbrev A8:Prop:=Callee P w K mg base (ExcR.CXe P w) 1 "check_neighbours" ["strips","place"] (Pu.spOf mg Mb K)
abbrev DW:Prop:=Callee P w K mg base CX0 1 "longer_paths" ["paths","left","wishes"] (Pu.spOf mg LS K)
abbrev Fz:Prop:=Callee P w K mg base (ExcR.CXe P w) 1 "check_place" ["strips","place"] (Pu.spOf mg Ze7 K)
abbrev EV:Prop:=Callee P w K mg base (ExcR.CXe P w) 1 "without_wish" ["wishes","ahead","behind"] (Pu.spOf mg Zep K)
abbrev D4:Prop:=Callee P w K mg base CX0 1 "sets_of" ["holders"] (Pu.spOf mg Zbp K)
abbrev NT:Prop:=Callee P w K mg base CX0 1 "without" ["members","holder"] (Pu.spOf mg Hv K)
abbrev GE:Prop:=Callee P w K mg base CX0 1 "may_lie_last" ["members","holder","wishes"] (Pu.spOf mg LI K)
abbrev CM:Prop:=Callee P w K mg base CX0 1 "may_lie_first" ["members","holder","wishes"] (Pu.spOf mg Rb K)
abbrev Kd:Prop:=Pu.CalleeM P w K mg base CX0 1 (Meth K (ExcR.JB mg "Village") "strips") ["self"] (Pu.spOf mg (OP (ExcR.JB mg "Village")) K)
abbrev Kl:Prop:=Pu.CalleeM P w K mg base CX0 1 (Meth K (ExcR.JB mg "Village") "wishes") ["self"] (Pu.spOf mg (Hw (ExcR.JB mg "Village")) K)
abbrev Eu:Prop:=Pu.CalleeM P w K mg base CX0 1 (Meth K (ExcR.JB mg "Village") "deeds") ["self"] (Pu.spOf mg (O4 (ExcR.JB mg "Village")) K)
abbrev PK:Prop:=Pu.CalleeM P w K mg base (ExcR.CXe P w) 1 (Meth K (ExcR.JB mg "Village") "check_room") ["self"] (Pu.spOf mg (R6 (ExcR.JB mg "Village")) K)
abbrev PX:Prop:=Pu.CalleeM P w K mg base CX0 1 (Meth K (ExcR.JB mg "Village") "enter") ["self","deed","field","wishes"] (Pu.spW mg (Zbh (ExcR.JB mg "Village")) K)
abbrev BL:Prop:=Pu.CalleeM P w K mg base (ExcR.CXe P w) 1 (Meth K (ExcR.JB mg "Village") "take_back") ["self"] (Pu.spW mg (RM (ExcR.JB mg "Village")) K)
abbrev Pj:Prop:=Callee P w K mg base CX0 1 "_law_at" ["_law_script","_law_k"] (Pu.spOf mg Ze8 K)
abbrev Px:Prop:=Callee P w K mg base CX0 1 "_law_whole" ["_law_found"] (Pu.spOf mg IB K)
abbrev Pn:Prop:=Callee P w K mg base CX0 1 "_law_mix" ["_law_cell","_law_place_here"] (Pu.spOf mg Ie K)
abbrev EZ:Prop:=Callee P w K mg base CX0 1 "_law_menu" ["_law_cell"] (Pu.spOf mg Zck K)
abbrev T5:Prop:=Callee P w K mg base CX0 1 "_law_holder" ["_law_menu_here","_law_k"] (Pu.spOf mg Zfk K)
abbrev Dh:Prop:=Callee P w K mg base CX0 1 "_law_present" ["_law_strips"] (Pu.spOf mg Lu K)
abbrev GY:Prop:=Callee P w K mg base CX0 1 "_law_price" ["_law_strips","_law_order"] (Pu.spOf mg Zc1 K)
abbrev Au:Prop:=Callee P w K mg base CX0 1 "_law_no_ring" ["_law_holders","_law_wishes"] (Pu.spOf mg Zcz K)
abbrev Az:Prop:=Callee P w K mg base CX0 1 "_law_field_step" ["_law_strips","_law_deed_here"] (Pu.spS mg Ze4 K)
abbrev GQ:Prop:=Callee P w K mg base CX0 1 "_law_wish_step" ["_law_wishes","_law_deed_here"] (Pu.spS mg HL K)
abbrev FM:Prop:=Callee P w K mg base CX0 1 "_law_odd" ["_law_cell","_law_good"] (Pu.spOf mg Zfg K)
abbrev CF:Prop:=Callee P w K mg base CX0 1 "_law_place" ["_law_cell","_law_strips"] (Pu.spOf mg Zag K)
abbrev GU:Prop:=Callee P w K mg base CX0 1 "_law_width" ["_law_cell","_law_strips","_law_place_here"] (Pu.spOf mg LM K)
abbrev EU:Prop:=Callee P w K mg base (ExcR.CXe P w) 2 "check_strips" ["strips"] (Pu.spOf mg Zbc K)
abbrev G1:Prop:=Callee P w K mg base CX0 2 "ring_from" ["least","holders","wishes"] (Pu.spOf mg LQ K)
abbrev B7:Prop:=Callee P w K mg base (ExcR.CXe P w) 2 "sold" ["strips","place","holder"] (Pu.spOf mg Zei K)
abbrev ER:Prop:=Callee P w K mg base (ExcR.CXe P w) 2 "parted" ["strips","place","width"] (Pu.spOf mg Zdt K)
abbrev GA:Prop:=Callee P w K mg base (ExcR.CXe P w) 2 "united" ["strips","place"] (Pu.spOf mg LF K)
abbrev CJ:Prop:=Callee P w K mg base (ExcR.CXe P w) 2 "with_wish" ["wishes","ahead","behind"] (Pu.spOf mg L0 K)
abbrev Aj:Prop:=Callee P w K mg base CX0 2 "pair_costs" ["strips"] (Pu.spOf mg R4 K)
abbrev CD:Prop:=Callee P w K mg base CX0 2 "cost_with_last" ["members","last","least","pairs"] (Pu.spOf mg Ma K)
abbrev EG:Prop:=Callee P w K mg base CX0 2 "cost_with_first" ["members","first","least","pairs"] (Pu.spOf mg MK K)
abbrev EC:Prop:=Pu.CalleeM P w K mg base (ExcR.CXe P w) 2 (Meth K (ExcR.JB mg "Village") "drop") ["self","ahead","behind"] (Pu.spW mg (Zcy (ExcR.JB mg "Village")) K)
abbrev Gv:Prop:=Callee P w K mg base CX0 2 "_law_draw" ["_law_script","_law_k"] (Pu.spOf mg Zfb K)
abbrev Cw:Prop:=Callee P w K mg base CX0 2 "_law_spare" ["_law_script"] (Pu.spOf mg Mp K)
abbrev BI:Prop:=Callee P w K mg base CX0 2 "_law_row" ["_law_found","_law_due"] (Pu.spOf mg Zab K)
abbrev DL:Prop:=Callee P w K mg base CX0 2 "_law_tuples" ["_law_found","_law_due"] (Pu.spOf mg HX K)
abbrev SC:Prop:=Callee P w K mg base CX0 2 "_law_deed_is" ["_law_found","_law_due"] (Pu.spOf mg Zcw K)
abbrev E9:Prop:=Callee P w K mg base CX0 2 "_law_step" ["_law_now","_law_deed_here"] (Pu.spS mg OD K)
abbrev Cj:Prop:=Callee P w K mg base CX0 2 "_law_start" ["_law_script","_law_menu_here","_law_many"] (Pu.spOf mg Zbw K)
abbrev DA:Prop:=Callee P w K mg base CX0 2 "_law_days" ["_law_script","_law_most"] (Pu.spOf mg Io K)
abbrev BO:Prop:=Callee P w K mg base CX0 2 "_law_pair" ["_law_cell","_law_menu_here"] (Pu.spOf mg Zav K)
abbrev DY:Prop:=Callee P w K mg base CX0 3 "find_ring" ["holders","wishes"] (Pu.spOf mg Rf K)
abbrev Bx:Prop:=Callee P w K mg base CX0 3 "least_costs" ["strips","wishes","pairs"] (Pu.spOf mg Ow K)
abbrev D9:Prop:=Pu.CalleeM P w K mg base (ExcR.CXe P w) 3 (Mk K (ExcR.JB mg "Village")) ["self","strips"] (Pu.spW mg (Zcm (ExcR.JB mg "Village")) K)
abbrev Hd:Prop:=Pu.CalleeM P w K mg base (ExcR.CXe P w) 3 (Meth K (ExcR.JB mg "Village") "sell") ["self","place","holder"] (Pu.spW mg (Rg (ExcR.JB mg "Village")) K)
abbrev CO:Prop:=Pu.CalleeM P w K mg base (ExcR.CXe P w) 3 (Meth K (ExcR.JB mg "Village") "part") ["self","place","width"] (Pu.spW mg (Zar (ExcR.JB mg "Village")) K)
abbrev EW:Prop:=Pu.CalleeM P w K mg base (ExcR.CXe P w) 3 (Meth K (ExcR.JB mg "Village") "unite") ["self","place"] (Pu.spW mg (LK (ExcR.JB mg "Village")) K)
abbrev GK:Prop:=Pu.CalleeM P w K mg base (ExcR.CXe P w) 3 (Meth K (ExcR.JB mg "Village") "wish") ["self","ahead","behind"] (Pu.spW mg (Of (ExcR.JB mg "Village")) K)
abbrev DC:Prop:=Callee P w K mg base CX0 3 "_law_book_is" ["_law_found","_law_due"] (Pu.spOf mg M7 K)
abbrev AD:Prop:=Callee P w K mg base CX0 3 "_law_back" ["_law_village","_law_past"] (Pu.spW2 mg (Lx (ExcR.JB mg "Village")) K)
abbrev GF:Prop:=Callee P w K mg base CX0 3 "_law_opening" ["_law_script","_law_menu_here"] (Pu.spOf mg Zbq K)
abbrev A7:Prop:=Callee P w K mg base CX0 3 "_law_deed" ["_law_cell","_law_menu_here","_law_now"] (Pu.spOf mg IH K)
abbrev Fp:Prop:=Callee P w K mg base CX0 4 "check_no_ring" ["strips","wishes"] (Pu.spOf mg L7 K)
abbrev GH:Prop:=Callee P w K mg base (ExcR.CXe P w) 4 "_law_call" ["_law_village","_law_deed_here"] (Pu.spW mg (RU (ExcR.JB mg "Village")) K)
abbrev As:Prop:=Callee P w K mg base CX0 4 "_law_stands" ["_law_village","_law_past"] (Pu.spOf mg (Zcu (ExcR.JB mg "Village")) K)
abbrev Ee:Prop:=Callee P w K mg base CX0 5 "cost_table" ["strips","wishes"] (Pu.spOf mg Mo K)
abbrev AG:Prop:=Callee P w K mg base CX0 5 "best_order" ["strips","wishes"] (Pu.spOf mg OQ K)
abbrev F6:Prop:=Callee P w K mg base CX0 5 "_law_go" ["_law_village","_law_past","_law_deed_here"] (Pu.spW2 mg (Lw (ExcR.JB mg "Village")) K)
abbrev SO:Prop:=Callee P w K mg base CX0 6 "least_cost" ["strips","wishes"] (Pu.spOf mg ID K)
abbrev D6:Prop:=Pu.CalleeM P w K mg base CX0 6 (Meth K (ExcR.JB mg "Village") "order") ["self"] (Pu.spOf mg (OM (ExcR.JB mg "Village")) K)
abbrev Ef:Prop:=Callee P w K mg base CX0 6 "_law_quiet" ["_law_village","_law_past"] (Pu.spW2 mg (L9 (ExcR.JB mg "Village")) K)
abbrev N4:Prop:=Pu.CalleeM P w K mg base CX0 7 (Meth K (ExcR.JB mg "Village") "cost") ["self"] (Pu.spOf mg (Ox (ExcR.JB mg "Village")) K)
abbrev AU:Prop:=Pu.CalleeM P w K mg base CX0 8 (Meth K (ExcR.JB mg "Village") "offer") ["self","place","holder"] (Pu.spOf mg (Zdx (ExcR.JB mg "Village")) K)
abbrev Dk:Prop:=Callee P w K mg base CX0 8 "_law_priced" ["_law_village","_law_strips"] (Pu.spOf mg (Oh (ExcR.JB mg "Village")) K)
abbrev Zan:Prop:=Callee P w K mg base CX0 9 "law" ["_law_script"] (Pu.spOf mg Dg K)
end M
namespace M
open PySem PySem.Spec PyProof.Rows L2 Own Pu
structure LWs (ws:List (Int×Int)) (l:Int) (ps:List (List Int)) (ls:List Int) (lg:List (List Int)) (kvs:List (Key×V)):Prop where
 g:LW ws l ps ls lg
 nd:(lg.map (Up l)).Nodup
 rc:∀h:Int,(valV kvs (.inl h)).isSome=true↔h∈lg.map (Up l)
 len:kvs.length<=lg.length
section
variable {ws:List (Int×Int)}{l:Int}{ps:List (List Int)}{ls:List Int}{lg:List (List Int)}{kvs:List (Key×V)}
def LWs.len_le (L:LWs ws l ps ls lg kvs):lg.length<=ls.length:=by
 have:=Ba L.nd (ys:=ls) fun h hh=>by
  obtain⟨q,hq,e⟩:=YR.mp hh;obtain⟨p,_,x,hx,rfl,_⟩:=L.g q hq;rw[Pi] at e;rw[←e];exact hx
 rwa[Yn] at this
def LWs.put {p:List Int}{h:Int} (hp:p∈ps) (hh:h∈ls) (G:LWs ws l ps ls lg kvs) (new:(valV kvs (.inl h)).isSome=false) (hw:(Up l p,h)∈ws):LWs ws l ps ls (lg++[p++[h]]) (putK kvs (.inl h) (.bl true)):=by
 have lh:Up l (p++[h])=h:=by rw[Pi];rfl
 have nh:h∉lg.map (Up l):=fun z=>by rw[(G.rc h).mpr z] at new;cases new
 refine⟨fun q hq=>?_,?_,fun x=>?_,?_⟩
 ·rcases YL.mp hq with hq|hq
  ·exact G.g q hq
  ·exact⟨p,hp,h,hh,Yw.mp hq,hw⟩
 ·rw[YC,Vi,lh];refine WB.mpr ⟨G.nd,by simp,fun a ha b hb=>?_⟩;rw[Yw.mp hb];rintro rfl;exact nh ha
 ·rw[YC,Vi,lh,Sn,YL,Yw];by_cases e:x=h
  ·subst e;rw[Ys rfl];exact⟨fun _=>.inr rfl,fun _=>rfl⟩
  ·rw[Yq (fun z=>e (Sum.inl.inj z)),G.rc];exact⟨.inl,fun z=>z.elim id fun w=>absurd w e⟩
 ·rw[Yv]
  have:=Nz kvs (.inl h) (.bl true)
  have:=G.len
  simp;omega
end
def Ea (c:Int->Bool):∀ws:List Int,ws.filterMap (fun q=>if c q=true then some (D.int q) else none)=(ws.filter c).map D.int:=XC c D.int
def OG {hs:List Int}{ws:List (Int×Int)}{l:Int} (hu:∀q∈ws,q.1≠q.2) (hN:¬ ∃r,Ring hs ws r) (hl:l∈hs):∀(n:Nat) (t:List Int),t.length<=n->¬Tf hs ws l t:=by
 intro n
 induction n with
 | zero=>exact fun t ht hc=>hN ⟨_,CL hu hl hc fun u _=>by omega⟩
 | succ n ih=>exact fun t ht hc=>hN ⟨_,CL hu hl hc fun u hu'=>YV fun z=>ih u (by omega) hu'⟩
def HP (γ:List (Option Pu.S)):Nat:=match γ[4]? with
 | some (some (Pu.S.sh (Pu.D.tup ds)))=>ds.length
 | _=>0
def Pm {α:Type}{xs:List α}{x:α} (h:xs[xs.length-1]?=some x):atI xs (-1)=some x:=by
 have hi:=(YF.mp h).1;unfold atI ixN;rw[Yq (by omega),Ys (by omega)];show xs[_]?=some x;rw[←h];congr 1;omega
inductive Told (f0 w:List (Int×Int)):Hist->List Int->Prop
 | one (hs:Hist) (v:Int):0<=v->curW hs=w->Least w (pcc (curF f0 hs)) (JT (curF f0 hs)) v->Told f0 w hs [v]
 | more (hs:Hist) (x:Dd×List (Int×Int)×List (Int×Int)) (cs:List Int) (v:Int):Told f0 w hs cs->0<=v->x.2.2=w->Least w (pcc x.2.1) (JT x.2.1) v->Told f0 w (hs++[x]) (cs++[v])
def Told.end {f0 w:List (Int×Int)}{hs:Hist}{cs:List Int} (h:Told f0 w hs cs):∃c0 v,cs=c0++[v]/\0<=v/\curW hs=w/\Least w (pcc (curF f0 hs)) (JT (curF f0 hs)) v:=by
 cases h with
 | one hs v h0 h1 h2=>exact⟨[],v,rfl,h0,h1,h2⟩
 | more hs x cs v h h0 h1 h2=>exact⟨cs,v,rfl,h0,by rw[Sd];exact h1,by rw[FW];exact h2⟩
def Told.two {f0 w:List (Int×Int)}{hs:Hist}{cs:List Int} (h:Told f0 w hs cs) (h2:1<cs.length):∃h' x c' v,hs=h'++[x]/\cs=c'++[v]/\Told f0 w h' c':=by
 cases h with
 | one hs v h0 h1 h3=>simp at h2
 | more hs x cs v h h0 h1 h3=>exact⟨hs,x,cs,v,rfl,rfl,h⟩
def Told.single {f0 w:List (Int×Int)}{hs:Hist}{cs:List Int} (h:Told f0 w hs cs) (h2:¬1<cs.length):∃v,cs=[v]/\0<=v:=by
 cases h with
 | one hs v h0 h1 h3=>exact⟨v,rfl,h0⟩
 | more hs x cs v h h0 h1 h3=>
  obtain⟨c0,u,rfl,_⟩:=h.end;simp at h2
def Ze2 (xs:List Int) (x y:Int):atI ((xs++[x]++[y]).map D.int) (-2)=some (.int x):=by
 refine Kw ?_;unfold atI ixN;rw[Yq (by omega),Ys (by simp;omega)];show(xs++[x]++[y])[_]?=some x;have e:((-2:Int)+((xs++[x]++[y]).length:Int)).toNat=xs.length:=by simp;omega
 rw[e];simp
def OH (γ:List (Option Pu.S)):Nat:=match γ[7]? with
 | some (some (Pu.S.own (Pu.O.lst ds)))=>ds.length
 | _=>0
end M
namespace T
open PySem PySem.Spec PyProof.Rows L2 Own M
section
variable {P:Program}{w:World}{K:Za}{mg:Str->Option Value}{base:Heap}
def Lp (G:Glob K mg) (D:Def K mg "holders_of" Bt ["strips"])
  : Callee P w K mg base CX0 1 "holders_of" ["strips"] (DU K):=by
 refine D.ok (k:=0) Ro (fun vs H Q E h=>?_) (fun f cdv A outer s H vs Q E hr h=>?_)
 ·obtain⟨l,ps,rfl,⟨vs,hl,hv⟩,hF,hz,q⟩:=h;rfl
 ·obtain⟨l,ps,rfl,⟨vs,hl,hv⟩,hF,hz,q⟩:=h;refine⟨_,(J7 (JC (UD (Du rfl) (by rfl) G.sorted boot_sorted (JP (Xw (Ru rfl) (by rfl) G.set boot_set (JP (UZ (N':=["holder","width"]) (φ:=[none,none]) rfl (Own.CompOk.of (by rfl)) (Dj (pv 0)) (fun _ _ _ _ _=>⟨(Nc (K:=K) (n:=2) rfl (Kc (SY (i:=0) (show(["holder","width"]:List Str).Nodup from by decide +kernel) rfl (by first|exact Or.inl rfl|exact Or.inr rfl)) (Kc (SY (i:=1) (show(["holder","width"]:List Str).Nodup from by decide +kernel) rfl (by first|exact Or.inl rfl|exact Or.inr rfl)) T9))),X0,(pv 0)⟩)) Uh)) Uh)))),?_⟩
  have e1:=hv.1;refine⟨_,rfl,l,rfl,⟨_,SqL.of hl⟩,fun D nD=>IP (ds:=ps) (fun d=>some (V.int d.1)) (SqL.of hl) e1 nD (Y8 hz (by decide)) (fun i x d H2 hx hd S k hk=>?_) ?_⟩
  ·obtain⟨d',hd',a,rfl,ha⟩:=hv.get hx;rw[hd] at hd';cases hd'
   exact⟨a,_,rfl,SqT.of (S _ _ ha),rfl,_,_,rfl,_,_,rfl,rfl,.skip (.skip .refl),_,rfl,hk⟩
  ·have em:ps.filterMap (fun d=>some (V.int d.1))=(ps.map (·.1)).map V.int:=by
    rw[Qp,Wg];rfl
   rw[em];have S1:Same H (upd H D (.lst ((ps.map (·.1)).map V.int))):=U9 nD;refine⟨D,ps.map (·.1),rfl,SqL.of Uo,by rw[Yn];omega,fun s1 n1=>?_⟩;have S2:=Own.Same.new (o:=SetH w s1 ((ps.map (·.1)).foldl SetR.addJ [])) S1 n1;refine⟨s1,_,rfl,?_,.inr Uo,fun r ns n2 hp hs=>?_⟩
   ·have:=DP (ps.map (·.1)) []
    rw[Yn] at this;simp at this ⊢;omega
   ·rw[Mh hF hp hs];exact q r _ (S2.free n2) (Own.Same.new S2 n2) Uo
end
open Pu
section
variable {P:Program}{w:World}{K:Za}{mg:Str->Option Value}{base:Heap}
def Zbz (G:Glob K mg) (DD:Def K mg "check_holder" Bl ["holder"])
  : Sh P w K mg base:=by
 refine DD.ox (k:=0) Zcf (fun _ _ _ _ _ _ E hr=>⟨_,(J7 (JI (PW.pt (U7 (JU Xd (pv 0) J2 (JV _)) (UH (JU Xk (pv 0) (ExcR.Xr G.HOLDERS) (JV _))))) (J7 (ExcR.Xh G.g_BadHolder.c G.m_BadHolder ExcR.Xe rfl (az (ExcR.pe_f (ExcR.XD (ExcR.Pv (ExcR.Xr G.HOLDERS) ExcR.KR))))))
   JJ)), (JL (UA (JE (Xm (J0 0) J1)) (JE (Xn (J0 0) J1))) (Xc (sz (se_f (XQ (KW J1 KN))))) JK)⟩) (.a fun ds R X h=>?_)
 ·obtain⟨h,rfl,hR⟩:=h;refine⟨rfl,?_⟩;unfold PU at hR;refine ite2 (fun g=>iteT ?_) (fun g=>?_)
  ·rw[Yq (by have:=Yy g;omega)] at hR;exact⟨by decide,by decide,by decide,by decide,by simp,hR⟩
  ·have g':¬h<1:=fun z=>g (Yr z);refine ite2 (fun g2=>?_) (fun g2=>?_)
   ·rw[Yq (by have:=Yy g2;omega)] at hR;exact⟨by decide,by decide,by decide,by decide,by simp,hR⟩
   ·have g2':¬10<h:=fun z=>g2 (Yr z);rw[Ys (by omega)] at hR;exact hR
def Zdp (G:Glob K mg) (DD:Def K mg "check_width" Fm ["width"])
  : DJ P w K mg base:=by
 refine DD.ox (k:=0) Ze9 (fun _ _ _ _ _ _ E hr=>⟨_,(J7 (JI (PW.pt (U7 (JU Xd (pv 0) J2 (JV _)) (UH (JU Xk (pv 0) (ExcR.Xr G.WIDEST) (JV _))))) (J7 (ExcR.Xh G.g_BadWidth.c G.m_BadWidth ExcR.Xe rfl (az (ExcR.pe_f (ExcR.XD (ExcR.Pv (ExcR.Xr G.WIDEST) ExcR.KR))))))
   JJ)), (JL (UA (JE (Xm (J0 0) J1)) (JE (Xn (J0 0) J1))) (Xc (sz (se_f (XQ (KW J1 KN))))) JK)⟩) (.a fun ds R X h=>?_)
 ·obtain⟨h,rfl,hR⟩:=h;refine⟨rfl,?_⟩;unfold Fe at hR;refine ite2 (fun g=>iteT ?_) (fun g=>?_)
  ·rw[Yq (by have:=Yy g;omega)] at hR;exact⟨by decide,by decide,by decide,by decide,by simp,hR⟩
  ·have g':¬h<1:=fun z=>g (Yr z);refine ite2 (fun g2=>?_) (fun g2=>?_)
   ·rw[Yq (by have:=Yy g2;omega)] at hR;exact⟨by decide,by decide,by decide,by decide,by simp,hR⟩
   ·have g2':¬1000<h:=fun z=>g2 (Yr z);rw[Ys (by omega)] at hR;exact hR
def Zad (G:Glob K mg) (DD:Def K mg "pair_cost" FH ["strips","ahead","behind"])
  : DK P w K mg base:=by
 refine DD.oz (k:=0) Ph (fun _ _ _ _ _ _ E hr=>⟨_,(J6 (Pu.pz 3 Ph.nd J2) (J6 (Pu.pz 4 Ph.nd J2) (J6 (UP YI rfl (Uy (K:=K) (pv 0)) (Nc (K:=K) (n:=2) rfl (Kc (gz 5 Ph.nd) (Kc (gz 6 Ph.nd) T9))) (J7 (JI (cq K hr (pv 5) (pv 2)) (J7 (Cr (i:=3) Ph.nd rfl (by first|exact Or.inl rfl|exact Or.inr rfl) (pv 6) GX)) (J7 (JI (cq K hr (pv 5) (pv 1)) (J7 (Cr (i:=4) Ph.nd rfl (by first|exact Or.inl rfl|exact Or.inr rfl) (J9 K5 (pv 3) (pv 6)) GX))
   JJ))))) (J7 (JC (pv 4)))))), (J4 (JF J1 (JA 3)) (J4 (JF J1 (JA 4)) (J4 (JM 0 (UL [5,6] (XO (J0 0)) (N2 (KH (JA 5) (KH (JA 6) NF))) (JL (JE (Uj (J0 5) (J0 2))) (E4 (J0 6)) (JL (JE (Uj (J0 5) (J0 1))) (E4 (KD (J0 3) (J0 6))) JK)))) (XN 4))))⟩) (.a fun ds R X h=>?_)
 ·obtain⟨ps,x,y,rfl,hF,hR⟩:=h;refine⟨rfl,?_⟩;refine⟨rfl,XE (xs:=ps) (emb:=prD) (fun i γ'=>γ'=[some (.bor (.lst (ps.map prD))),some (.sh (.int x)),some (.sh (.int y)),some (.sh (.int (tpM ps y i))),some (.sh (.int (pcM ps x y i))),none,none]) rfl ?_ ?_⟩
  ·rintro i hi γ' rfl;have hp:ps.getD i (0,0)=ps[i]:=by rw[Y1,Yp hi];rfl
   have hw:=hF _ (YH hi);have e1:tpM ps y (i+1)=tpM ps y i+(if ps[i].1=y then ps[i].2 else 0):=by simp only[tpM];rw[hp]
   have e2:pcM ps x y (i+1)=pcM ps x y i+(if x≠y/\ps[i].1=x then tpM ps y i*ps[i].2 else 0):=by simp only[pcM];rw[hp]
   rw[e1,e2];generalize ps[i]=p at hw;refine⟨rfl,ite2 (fun g=>?_) (fun g=>ite2 (fun g2=>?_) (fun g2=>?_))⟩
   ·have e:p.1=y:=Yy g;rw[Ys e,Yq (by rintro⟨z1,z2⟩;exact z1 (z2.symm.trans e)),Q7];rfl
   ·have e:¬p.1=y:=fun z=>g (Yr z);have e':p.1=x:=Yy g2;rw[Yq e,Ys ⟨fun z=>e (e'.trans z),e'⟩,Q7];exact⟨.inr ⟨by show -(2 ^ 64)<p.2;omega,by show p.2<2 ^ 64;omega⟩,rfl⟩
   ·have e:¬p.1=y:=fun z=>g (Yr z);have e':¬p.1=x:=fun z=>g2 (Yr z);rw[Yq e,Yq (by rintro⟨z1,z2⟩;exact e' z2),Q7,Q7];rfl
  ·rintro γ' rfl;exact hR
def Zcg (G:Glob K mg) (DD:Def K mg "check_neighbours" Ao ["strips","place"])
  : A8 P w K mg base:=by
 refine DD.ox (k:=0) Lv (fun _ _ _ _ _ _ E hr=>⟨_,(J7 (JI (PW.pt (U7 (JU Xd (pv 1) J2 (JV _)) (UH (JU Pl (pv 1) (ln K G.len (pv 0)) (JV _))))) (J7 (ExcR.Xh G.g_NoStrip.c G.m_NoStrip ExcR.Xe rfl (az Ul)))
   JJ)), (JL (UA (JE (Xm (J0 1) J1)) (JE (Pa (J0 1) (Ug (sz (J0 0)))))) (Xc (sz Um)) JK)⟩) (.a fun ds R X h=>?_)
 ·obtain⟨ps,p,rfl,hR⟩:=h;refine⟨rfl,?_⟩;have hl:(ps.map prD).length=ps.length:=Yn ..;refine ite2 (fun g=>iteT ?_) (fun g=>?_)
  ·rw[Ys (.inl (Yy g))] at hR;exact⟨by simp,hR⟩
  ·have g':¬p<1:=fun z=>g (Yr z);refine ite2 (fun g2=>?_) (fun g2=>?_)
   ·have g2':((ps.map prD).length:Int)<=p:=Yy g2;rw[Ys (.inr (by omega))] at hR;exact⟨by simp,hR⟩
   ·have g2':¬((ps.map prD).length:Int)<=p:=fun z=>g2 (Yr z);rw[Yq (by omega)] at hR;exact hR
def Zco (G:Glob K mg) (DD:Def K mg "longer_paths" FB ["paths","left","wishes"])
  : DW P w K mg base:=by
 refine DD.oz (k:=0) TY (fun _ _ _ _ _ _ E hr=>⟨_,(J6 (Pu.pz 3 TY.nd (JO Uh)) (J6 (Pu.pz 4 TY.nd LN) (J6 (UP YI rfl (Uy (K:=K) (pv 0)) (gz 5 TY.nd) (J7 (UP YI rfl (Uy (K:=K) (pv 1)) (gz 6 TY.nd) (J7 (JI (PW.pt (Nm (R7 (RX (UK hr) (pv 6) (pv 4))) (NA (JU (Kh (K:=K) (show _<cLine from UK hr)) (Uc (bz (jx K (pv 5) (U1 U2 J2)) (pv 6))) (pv 2) (by with_unfolding_all rfl))))) (J6 (BH (UK hr) (pv 4) (pv 6) Uw rfl) (J7 (Uu (Km YJ Wh Wi Kk (pv 3) (az (J9 Xo (pv 5) (JO (az (pv 6)))))))))
   JJ))))) (J7 (JC (pv 3)))))), (J4 (JF (JN JQ) (JA 3)) (J4 (JF IV (JA 4)) (J4 (JM 1 (JM 0 (UL [5,6] (XO (J0 0)) (JA 5) (JM 1 (UL [6] (XO (J0 1)) (JA 6) (JL (Ts (st_b (HK (J0 6) (J0 4))) (JE (X1 (Ub (tz (J8 (J0 5) (U5 J1)) (J0 6))) (J0 2)))) (J4 (B9 4 (J0 6) Ur) (JM 6 (PH 3 (Xl (J0 5) (JN (sz (J0 6))))))) JK)))))) (XN 3))))⟩) (.a fun ds R X h=>?_)
 ·obtain⟨l,ps,ls,ws,rfl,hpl,hll,hR⟩:=h;refine⟨rfl,?_⟩
  refine⟨by simp,rfl,XE (xs:=ps) (emb:=em l) (fun i γ'=>∃lg kvs,γ'=[some (.bor (.lst (ps.map (em l)))),some (.bor (.lst (ls.map D.int))),some (.bor (.lst (ws.map prD))),some (.own (lg.map (em l))),some (.own (.dK kvs)),none,none]/\LWs ws l ps ls lg kvs)
   ⟨[],[],rfl,(fun q hq=>by cases hq),Qe,(fun h=>by simp[valV]),Yx _⟩ ?_ ?_⟩
  ·rintro i hi γ' ⟨lg,kvs,rfl,G⟩;have hp:=YH hi;have hpi:=hpl ps[i] hp;generalize ps[i]=p at hp hpi ⊢;refine⟨rfl,XE (xs:=ls) (emb:=D.int) (fun j γ'=>∃lg kvs,γ'=[some (.bor (.lst (ps.map (em l)))),some (.bor (.lst (ls.map D.int))),some (.bor (.lst (ws.map prD))),some (.own (lg.map (em l))),some (.own (.dK kvs)),some (.bor (em l p)),none]/\LWs ws l ps ls lg kvs) ⟨lg,kvs,rfl,G⟩ ?_ ?_⟩
   ·rintro j hj γ' ⟨lg,kvs,rfl,G⟩;have hh:=YH hj;generalize ls[j]=h at hh ⊢;have hlen:=G.len_le;have hkl:=G.len;refine⟨.inl h,rfl,ite2 (fun g=>?_) (fun g=>iteF ⟨lg,kvs,rfl,G⟩)⟩
    have g':(valV kvs (.inl h)).isSome=false:=by
     cases e:(valV kvs (.inl h)).isSome with
     | false=>rfl
     | true=>rw[e] at g;cases g
    refine⟨_,FK l p,by simp,_,.lp (Up l p,h) ws,ite2 (fun g2=>?_) (fun g2=>⟨lg,kvs,rfl,G⟩)⟩;refine⟨.inl h,.bl true,rfl,rfl,by omega,by simp,Tr _,rfl,by simp;omega,by rw[Yn];omega,lg++[p++[h]],_,?_,G.put hp hh g' (Yy g2)⟩;rw[YC]
    have e:em l (p++[h])=.lst ((l::p).map D.int++[.int h]):=by
     unfold em;rw[←QN,YC];rfl
    rw[Vi,e];rfl
   ·rintro γ' ⟨lg,kvs,rfl,G⟩;exact⟨lg,kvs,rfl,G⟩
  ·rintro γ' ⟨lg,kvs,rfl,G⟩;exact hR lg G.g G.len_le
def HF (G:Glob K mg) (DD:Def K mg "check_place" Bw ["strips","place"])
  : Fz P w K mg base:=by
 refine DD.ox (k:=0) Ou (fun _ _ _ _ _ _ E hr=>⟨_,(J7 (JI (PW.pt (U7 (JU Xd (pv 1) J2 (JV _)) (UH (JU Xk (pv 1) (ln K G.len (pv 0)) (JV _))))) (J7 (ExcR.Xh G.g_NoStrip.c G.m_NoStrip ExcR.Xe rfl (az Ul)))
   JJ)), (JL (UA (JE (Xm (J0 1) J1)) (JE (Xn (J0 1) (Ug (sz (J0 0)))))) (Xc (sz Um)) JK)⟩) (.a fun ds R X h=>?_)
 ·obtain⟨ps,p,rfl,hR⟩:=h;refine⟨rfl,?_⟩;have hl:(ps.map prD).length=ps.length:=Yn ..;unfold NQ at hR;refine ite2 (fun g=>iteT ?_) (fun g=>?_)
  ·rw[Ys (.inl (Yy g))] at hR;exact⟨by simp,hR⟩
  ·have g':¬p<1:=fun z=>g (Yr z);refine ite2 (fun g2=>?_) (fun g2=>?_)
   ·have g2':((ps.map prD).length:Int)<p:=Yy g2;rw[Ys (.inr (by omega))] at hR;exact⟨by simp,hR⟩
   ·have g2':¬((ps.map prD).length:Int)<p:=fun z=>g2 (Yr z);rw[Yq (by omega)] at hR;exact hR
def Zd1 (G:Glob K mg) (DD:Def K mg "without_wish" FC ["wishes","ahead","behind"])
  : EV P w K mg base:=by
 refine DD.ox (k:=0) Zc9 (fun _ _ _ _ _ _ E hr=>⟨_,(J6 (JI (JU (Fu (K:=K) (show _<cLine from UK hr)) (Uc (bz (pv 1) (pv 2))) (pv 0) (by with_unfolding_all rfl)) (J7 (ExcR.Xh G.g_NoWish.c G.m_NoWish ExcR.Xe rfl (az Ul)))
   JJ) (J7 (JC (UZ (N':=["wish","ahead","behind"]) (φ:=[none,some 1,some 2]) rfl (Own.CompOk.of (by rfl)) (Uy (K:=K) (pv 0)) (fun _ _ _ _ _=>⟨(gz 0 (show(["wish","ahead","behind"]:List Str).Nodup from by decide +kernel)),(XG (JU (Gk (K:=K) (show _<cLine from hr.units0)) (pv 0) (Uc (bz (pv 1) (pv 2))) (JV _))),(pv 0)⟩))))), (J4 (JL (JE (X1 (Ub (tz (J0 1) (J0 2))) (J0 0))) (Xc (sz Um)) JK) (JM 2 (JM 1 (JG (UJ (Xj (J0 0)) (JA 0) (JE (AK (J0 0) (Ub (tz (J0 1) (J0 2))))) (J0 0))))))⟩) (.a fun ds R X h=>?_)
 ·obtain⟨ws,a,b,rfl,hz,hR⟩:=h;refine⟨rfl,?_⟩;unfold UF at hR;refine⟨by simp,_,.lp (a,b) ws,ite2 (fun g=>?_) (fun g=>?_)⟩
  ·have g':¬(a,b)∈ws:=fun z=>by rw[Ys rfl,Yr z] at g;cases g
   rw[Yq g'] at hR;exact⟨by simp,hR⟩
  ·have g':(a,b)∈ws:=YV fun z=>g (by rw[Ys rfl,YB z];rfl);rw[Ys g'] at hR;refine UR (xs:=ws) (emb:=prD) (fun q=>if (!decide (q=(a,b)))=true then some (prD q) else none) (by omega) (fun q hq=>?_) ?_
   ·refine⟨by simp,?_⟩;show fNeT (.sh (prD q)) (.sh (prD (a,b))) _;refine LP ?_;exact ite2 (fun h=>⟨_,rfl,Ys h⟩) (fun h=>Yq h)
   ·rw[XC (fun q:Int×Int=>!decide (q=(a,b)))];exact hR
def RB (G:Glob K mg) (DD:Def K mg "sets_of" Fi ["holders"])
  : D4 P w K mg base:=by
 refine DD.oz (k:=0) N9 (fun _ _ _ _ _ _ E hr=>⟨_,(J6 (Pu.pz 1 N9.nd (JO (az (Uc Uh)))) (J6 (UP YI rfl (Uy (K:=K) (pv 0)) (gz 2 N9.nd) (J7 (Pu.pz 1 N9.nd (J9 Xo (pv 1) (UZ (N':=["members","holder"]) (φ:=[none,some 2]) rfl (Own.CompOk.of (by rfl)) (Uy (K:=K) (pv 1)) (fun _ _ _ _ _=>⟨(gz 0 (show(["members","holder"]:List Str).Nodup from by decide +kernel)),X0,(J9 (Lr (K:=K)) (pv 0) (Uc (az (pv 1))))⟩)))))) (J7 (JC (pv 1))))), (J4 (JF (JN (sz (Ub JQ))) (JA 1)) (J4 (JM 0 (UL [2] (XO (J0 0)) (JA 2) (JM 2 (JF (Xl (J0 1) (UJ (Xj (J0 1)) (JA 0) XI (Oe (J0 0) (Ub (sz (J0 1)))))) (JA 1))))) (XN 1)))⟩) (.a fun ds R X h=>?_)
 ·obtain⟨hs,rfl,hz,hR⟩:=h;refine⟨rfl,?_⟩;refine⟨by simp,by simp,rfl,XE (xs:=hs) (emb:=D.int) (fun i γ'=>γ'=[some (.bor (.lst (hs.map D.int))),some (.own ((Ui (hs.take i)).map tD)),none]) rfl ?_ ?_⟩
  ·rintro i hi γ' rfl
   have hlen:(Ui (hs.take i)).length<=1024:=by
    rw[EA,Wv];exact Nat.pow_le_pow_right (j:=10) (by decide) (by omega)
   have hel:∀ms∈Ui (hs.take i),ms.length<=10:=fun ms hm=>by
    have:=(Ni _ ms hm).length_le
    rw[Wv] at this;omega
   rw[W2 hi,Pp];generalize Ui (hs.take i)=S at hlen hel ⊢;generalize hs[i]=h;refine UR (xs:=S) (emb:=tD) (fun ms=>some (tD (ms++[h]))) (by omega) (fun ms hm=>?_) ?_
   ·refine⟨by simp,_,_,Mr ms,rfl,?_,_,rfl,?_⟩
    ·have:=hel ms hm
     rw[Yn];show ms.length+1<=100000;omega
    ·unfold tD;rw[YC];rfl
   ·rw[mapD];refine⟨rfl,rfl,?_,?_⟩
    ·rw[Yn,Yn];omega
    ·show[_,_,_]=[_,_,_];rw[YC,Wg];rfl
  ·rintro γ' rfl;rw[Qz];exact hR
def Ze0 (G:Glob K mg) (DD:Def K mg "without" Aa ["members","holder"])
  : NT P w K mg base:=by
 refine DD.oz (k:=0) RG (fun _ _ _ _ _ _ E hr=>⟨_,(J7 (JC (Xw (Do (K:=K)) (by rfl) G.tuple boot_tuple (az (UZ (N':=["member","holder"]) (φ:=[none,some 1]) rfl (Own.CompOk.of (by rfl)) (Nj (K:=K) (pv 0)) (fun _ _ _ _ _=>⟨(gz 0 (show(["member","holder"]:List Str).Nodup from by decide +kernel)),(XG (cn K hr (pv 0) (pv 1))),(pv 0)⟩)))))), (JG (DG (sz (UJ (SndI.c (Tn (J0 0))) (JA 0) (JE (X5 (J0 0) (J0 1))) (J0 0)))))⟩) (.a fun ds R X h=>?_)
 ·obtain⟨ms,h,rfl,hz,hR⟩:=h;refine⟨rfl,?_⟩;rw[Tz];refine⟨_,rfl,UR (s:=.sh .non) (xs:=ms) (emb:=D.int) (fun m=>if decide (m≠h)=true then some (.int m) else none) (by omega) (fun m hm=>?_) ?_⟩
  ·show if (!decide (m=h))=true then _ else _;by_cases e:m=h
   ·rw[Yr e];exact iteF (by simp[e])
   ·rw[YB e];exact iteT ⟨_,rfl,Ys (Yr e)⟩
  ·rw[XC (fun m=>decide (m≠h))];exact⟨rfl,hR⟩
def M2 (G:Glob K mg) (DD:Def K mg "may_lie_last" Sz ["members","holder","wishes"])
  : GE P w K mg base:=by
 refine DD.oz (k:=0) Zbn (fun _ _ _ _ _ _ E hr=>⟨_,(J7 (JC (F4 (UD (Cq (K:=K) rfl) (by rfl) G.any boot_any (az (UZ (N':=["ahead","behind","holder","members"]) (φ:=[none,none,some 1,some 0]) rfl (Own.CompOk.of (by rfl)) (Uy (K:=K) (pv 2)) (fun _ _ _ _ _=>⟨(Nc (K:=K) (n:=2) rfl (Kc (gz 0 (show(["ahead","behind","holder","members"]:List Str).Nodup from by decide +kernel)) (Kc (gz 1 (show(["ahead","behind","holder","members"]:List Str).Nodup from by decide +kernel)) T9))),X0,(PV (XT (TC (K:=K) (show _<cLine from hr.units0)) (pv 0) (pv 2) (JV _)) (PB (XT (Kh (K:=K) (show _<cLine from UK hr)) (pv 1) (pv 3) (by with_unfolding_all rfl))))⟩))))))), (JG (F2 (AV (sz (UJ (Xj (J0 2)) (N2 (KH (JA 0) (KH (JA 1) NF))) XI (PR (Uj (J0 0) (J0 2)) (X1 (J0 1) (J0 3))))))))⟩) (.a fun ds R X h=>?_)
 ·obtain⟨ms,h,ws,rfl,hz,hR⟩:=h;refine⟨rfl,?_⟩;rw[Tz];refine UR (xs:=ws) (emb:=prD) (fun q=>some (.bl (decide (q.1=h)&&decide (q.2∈ms)))) (by omega) (fun q hq=>?_) ?_
  ·refine⟨rfl,?_⟩;show if true=true then(if decide (q.1=h)=true then _ else _) else(some (D.bl (decide (q.1=h)&&decide (q.2∈ms)))=none);refine iteT (ite2 (fun g=>⟨_,.ti _ _,?_⟩) (fun g=>?_))
   ·refine⟨_,rfl,?_⟩;rw[g,Qk];rfl
   ·refine⟨_,rfl,?_⟩;rw[Qa.mpr g,Q9]
  ·rw[mapD];refine⟨ws.map fun q=>decide (q.1=h)&&decide (q.2∈ms),by rw[Wg];rfl,?_⟩;rw[List.any_map];exact hR
def Mf (G:Glob K mg) (DD:Def K mg "may_lie_first" Bk ["members","holder","wishes"])
  : CM P w K mg base:=by
 refine DD.oz (k:=0) Zfv (fun _ _ _ _ _ _ E hr=>⟨_,(J7 (JC (F4 (UD (Cq (K:=K) rfl) (by rfl) G.any boot_any (az (UZ (N':=["ahead","behind","holder","members"]) (φ:=[none,none,some 1,some 0]) rfl (Own.CompOk.of (by rfl)) (Uy (K:=K) (pv 2)) (fun _ _ _ _ _=>⟨(Nc (K:=K) (n:=2) rfl (Kc (gz 0 (show(["ahead","behind","holder","members"]:List Str).Nodup from by decide +kernel)) (Kc (gz 1 (show(["ahead","behind","holder","members"]:List Str).Nodup from by decide +kernel)) T9))),X0,(PV (XT (TC (K:=K) (show _<cLine from hr.units0)) (pv 1) (pv 2) (JV _)) (PB (XT (Kh (K:=K) (show _<cLine from UK hr)) (pv 0) (pv 3) (by with_unfolding_all rfl))))⟩))))))), (JG (F2 (AV (sz (UJ (Xj (J0 2)) (N2 (KH (JA 0) (KH (JA 1) NF))) XI (PR (Uj (J0 1) (J0 2)) (X1 (J0 0) (J0 3))))))))⟩) (.a fun ds R X h=>?_)
 ·obtain⟨ms,h,ws,rfl,hz,hR⟩:=h;refine⟨rfl,?_⟩;rw[Tz];refine UR (xs:=ws) (emb:=prD) (fun q=>some (.bl (decide (q.2=h)&&decide (q.1∈ms)))) (by omega) (fun q hq=>?_) ?_
  ·refine⟨rfl,?_⟩;show if true=true then(if decide (q.2=h)=true then _ else _) else(some (D.bl (decide (q.2=h)&&decide (q.1∈ms)))=none);refine iteT (ite2 (fun g=>⟨_,.ti _ _,?_⟩) (fun g=>?_))
   ·refine⟨_,rfl,?_⟩;rw[g,Qk];rfl
   ·refine⟨_,rfl,?_⟩;rw[Qa.mpr g,Q9]
  ·rw[mapD];refine⟨ws.map fun q=>decide (q.2=h)&&decide (q.1∈ms),by rw[Wg];rfl,?_⟩;rw[List.any_map];exact hR
def Zda (G:Glob K mg) (DD:Pu.DefM K (Meth K (ExcR.JB mg "Village") "strips") "strips" "Village.strips" Fl ["self"])
  : Kd P w K mg base:=by
 refine DD.oz (k:=0) Zdk (fun _ _ _ _ _ _ E hr=>⟨_,(J7 (JC (Xw (P5 (K:=K)) (by rfl) G.list boot_list (az (jx K (XA (pv 0) rfl) (U1 U2 J2)))))), (JG (Td (sz (J8 (PJ 1 G.cl_Village G.n_Village_fields FV (J0 0)) (U5 J1)))))⟩) (.a fun ds R X h=>?_)
 ·obtain⟨bk,fs,ws,f,rfl,hR⟩:=h;refine⟨rfl,?_⟩;exact⟨rfl,rfl,_,rfl,_,Pm plD fs f,XY _,hR⟩
def HQ (G:Glob K mg) (DD:Pu.DefM K (Meth K (ExcR.JB mg "Village") "wishes") "wishes" "Village.wishes" F0 ["self"])
  : Kl P w K mg base:=by
 refine DD.oz (k:=0) Ic (fun _ _ _ _ _ _ E hr=>⟨_,(J7 (JC (Xw (P5 (K:=K)) (by rfl) G.list boot_list (az (jx K (XA (pv 0) rfl) (U1 U2 J2)))))), (JG (Td (sz (J8 (PJ 2 G.cl_Village G.n_Village_wished SS (J0 0)) (U5 J1)))))⟩) (.a fun ds R X h=>?_)
 ·obtain⟨bk,fs,ws,f,rfl,hR⟩:=h;refine⟨rfl,?_⟩;exact⟨rfl,rfl,_,rfl,_,Pm plD ws f,XY _,hR⟩
def Zes (G:Glob K mg) (DD:Pu.DefM K (Meth K (ExcR.JB mg "Village") "deeds") "deeds" "Village.deeds" Sq ["self"])
  : Eu P w K mg base:=by
 refine DD.oz (k:=0) Zbg (fun _ _ _ _ _ _ E hr=>⟨_,(J7 (JC (Xw (P5 (K:=K)) (by rfl) G.list boot_list (az (XA (pv 0) rfl))))), (JG (Td (sz (PJ 0 G.cl_Village G.n_Village_book PQ (J0 0)))))⟩) (.a fun ds R X h=>?_)
 ·obtain⟨bk,fs,ws,rfl,hR⟩:=h;refine⟨rfl,?_⟩;exact⟨rfl,rfl,_,rfl,Dx _,hR⟩
def Ry (G:Glob K mg) (DD:Pu.DefM K (Meth K (ExcR.JB mg "Village") "check_room") "check_room" "Village.check_room" BW ["self"])
  : PK P w K mg base:=by
 refine DD.ox (k:=0) Zd6 (fun _ _ _ _ _ _ E hr=>⟨_,(J7 (JI (JU Pl (ln K G.len (XA (pv 0) rfl)) (ExcR.Xr G.MOST_DEEDS) (JV _)) (J7 (ExcR.Xh G.g_BookFull.c G.m_BookFull ExcR.Xe rfl (az (ExcR.pe_f (ExcR.XD (ExcR.Pv (ExcR.Xr G.MOST_DEEDS) (ExcR.XD ExcR.KR)))))))
   JJ)), (JL (JE (Pa (Ug (sz (PJ 0 G.cl_Village G.n_Village_book PQ (J0 0)))) J1)) (Xc (sz (se_f (XQ (KW J1 (XQ KN)))))) JK)⟩) (.a fun ds R X h=>?_)
 ·obtain⟨bk,fs,ws,rfl,hR⟩:=h;refine⟨rfl,?_⟩;have hl:(bk.map dD).length=bk.length:=Yn ..;unfold Pt at hR;refine⟨rfl,rfl,_,rfl,ite2 (fun g=>?_) (fun g=>?_)⟩
  ·have g':(100:Int)<=((bk.map dD).length:Int):=Yy g;rw[Ys (by omega)] at hR;exact⟨by decide,by decide,by decide,by decide,by decide,by simp,hR⟩
  ·have g':¬(100:Int)<=((bk.map dD).length:Int):=fun z=>g (Yr z);rw[Yq (by omega)] at hR;exact hR
def MG (G:Glob K mg) (DD:Pu.DefM K (Meth K (ExcR.JB mg "Village") "enter") "enter" "Village.enter" SJ ["self","deed","field","wishes"])
  : PX P w K mg base:=by
 refine DD.oz (k:=0) Zdj (fun _ _ _ _ _ _ E hr=>⟨_,(J6 (Uu (Km YJ Wh Wi Kk (XA (pv 0) rfl) (az (pv 1)))) (J6 (Uu (Km YJ Wh Wi Kk (XA (pv 0) rfl) (az (pv 2)))) (J6 (Uu (Km YJ Wh Wi Kk (XA (pv 0) rfl) (az (pv 3)))) (J7 (JC (ln K G.len (XA (pv 0) rfl))))))), (J4 (JM 1 (Kx (Ad 0 0 G.cl_Village G.n_Village_book PQ (J0 1)))) (J4 (JM 2 (Kx (Ad 0 1 G.cl_Village G.n_Village_fields FV (J0 2)))) (J4 (JM 3 (Kx (Ad 0 2 G.cl_Village G.n_Village_wished SS (J0 3)))) (Kz (Ug (sz (PJ 0 G.cl_Village G.n_Village_book PQ (J0 0))))))))⟩) (.c fun o ss R X h=>?_)
 ·obtain⟨x,b1,b2,b3,bk,fs,ws,q,f,w,rfl,rfl,h1,h2,h3,hR⟩:=h;refine⟨rfl,?_⟩;have k1:(bk.map dD).length<10000000:=by rw[Yn];omega
  have k2:(fs.map plD).length<10000000:=by rw[Yn];omega
  have k3:(ws.map plD).length<10000000:=by rw[Yn];omega
  refine⟨rfl,rfl,_,rfl,k1,rfl,rfl,_,rfl,k2,rfl,rfl,_,rfl,k3,rfl,rfl,_,rfl,_,rfl,⟨rfl,by simp⟩,?_⟩;have e:(((bk.map dD++[dD q]).length:Nat):Int)=(bk.length:Int)+1:=by rw[Yv,Yn];simp
  show R (.ins x _ vF [(b1,bk.map dD++[dD q]),(b2,fs.map plD++[plD f]),(b3,ws.map plD++[plD w])]) (.int (((bk.map dD++[dD q]).length:Nat):Int));rw[e];have e1:bk.map dD++[dD q]=(bk++[q]).map dD:=by rw[YC];rfl
  have e2:fs.map plD++[plD f]=(fs++[f]).map plD:=by rw[YC];rfl
  have e3:ws.map plD++[plD w]=(ws++[w]).map plD:=by rw[YC];rfl
  rw[e1,e2,e3];exact hR
def Re (G:Glob K mg) (DD:Pu.DefM K (Meth K (ExcR.JB mg "Village") "take_back") "take_back" "Village.take_back" Br ["self"])
  : BL P w K mg base:=by
 refine DD.ox (k:=0) Zds (fun _ _ _ _ _ _ E hr=>⟨_,(J6 (JI (U3 (Uk (K:=K) (XA (pv 0) rfl))) (J7 (ExcR.Xh G.g_NothingDone.c G.m_NothingDone ExcR.Xe rfl (az Ul)))
   JJ) (J6 (Uu (Pd YJ WG WH PL (XA (pv 0) rfl))) (J6 (Uu (Pd YJ WG WH PL (XA (pv 0) rfl))) (J7 (JC (Pd YJ WG WH PL (XA (pv 0) rfl))))))), (J4 (JL (US (U0 (PJ 0 G.cl_Village G.n_Village_book PQ (J0 0)))) (Xc (sz Um)) JK) (J4 (Kx (FN 0 1 G.cl_Village G.n_Village_fields FV)) (J4 (Kx (FN 0 2 G.cl_Village G.n_Village_wished SS)) (XW (FN 0 0 G.cl_Village G.n_Village_book PQ)))))⟩) (.c fun o ss R X h=>?_)
 ·obtain⟨x,b1,b2,b3,bk,fs,ws,rfl,rfl,h1,h2,hX,hR⟩:=h;refine⟨rfl,?_⟩;have emp:(bk.map dD).isEmpty=decide (bk=[]):=by cases bk<;>simp
  refine⟨rfl,rfl,_,rfl,?_⟩;show if (!(!(bk.map dD).isEmpty))=true then _ else _;rw[Bool.not_not,emp];refine ite2 (fun g=>⟨by simp,_,rfl,⟨rfl,by simp⟩,hX (Yy g)⟩) (fun g=>?_);have hne:bk≠[]:=fun z=>g (Yr z);obtain⟨b0,q,rfl⟩:∃b0 q,bk=b0++[q]:=⟨_,_,(List.dropLast_concat_getLast hne).symm⟩;have hl:(b0++[q]).length=b0.length+1:=by simp
  have f1:(fs.map plD)[(fs.map plD).length-1]?=some (plD (fs[fs.length-1]'(by omega))):=by
   rw[Yn,Y0,Yp (by omega)];rfl
  have w1:(ws.map plD)[(ws.map plD).length-1]?=some (plD (ws[ws.length-1]'(by omega))):=by
   rw[Yn,Y0,Yp (by omega)];rfl
  have q1:((b0++[q]).map dD)[((b0++[q]).map dD).length-1]?=some (dD q):=by
   rw[Yn,Y0,hl,Q6,YN (Yx _),Nat.sub_self];rfl
  refine⟨rfl,rfl,_,_,rfl,f1,rfl,rfl,_,_,rfl,w1,rfl,rfl,_,_,rfl,q1,_,rfl,⟨rfl,by simp⟩,?_⟩;have e1:((b0++[q]).map dD).dropLast=b0.map dD:=by rw[YC];exact Wd
  have e2:(fs.map plD).dropLast=fs.dropLast.map plD:=List.map_dropLast.symm;have e3:(ws.map plD).dropLast=ws.dropLast.map plD:=List.map_dropLast.symm
  have:=hR b0 q rfl
  rw[show vO (ExcR.JB mg "Village") x b1 b2 b3 b0 fs.dropLast ws.dropLast=.ins x (ExcR.JB mg "Village") vF [(b1,((b0++[q]).map dD).dropLast),(b2,(fs.map plD).dropLast),(b3,(ws.map plD).dropLast)] by rw[e1,e2,e3]] at this;exact this
def Zat (G:Glob K mg) (DD:Def K mg "_law_at" Ft ["_law_script","_law_k"])
  : Pj P w K mg base:=by
 refine DD.oz (k:=0) Lo (fun _ _ _ _ _ _ E hr=>⟨_,(J6 (JI (JU Xd (pv 1) (ln K G.len (pv 0)) (JV _)) (J7 (JC (jx K (pv 0) (pv 1))))
   JJ) (J7 (JC J2))), (J4 (JL (JE (Xm (J0 1) (Ug (sz (J0 0))))) (JG (J8 (J0 0) (J0 1))) JK) (JG J1))⟩) (.a fun ds R X h=>?_)
 ·obtain⟨ns,k,rfl,hk,hR⟩:=h;refine⟨rfl,?_⟩;refine ite2 (fun g=>?_) (fun g=>?_)
  ·have g':k<(ns.length:Int):=Yy g;have e:=Yp (show k.toNat<ns.length by omega);rw[Y1,e] at hR;exact⟨_,Na hk e,hR⟩
  ·have g':¬k<(ns.length:Int):=fun z=>g (Yr z);rw[Y1,W5 (by omega)] at hR;exact hR
def RC (G:Glob K mg) (DD:Def K mg "_law_whole" B0 ["_law_found"])
  : Px P w K mg base:=by
 refine DD.oz (k:=0) Zcq (fun _ _ _ _ _ _ E hr=>⟨_,(J7 (JC (PV (UD (Kp (K:=K)) (by rfl) G.isinstance W1 (bz (pv 0) (Ka (v:=.ty "int") rfl G.int boot_int rfl))) (PB (F4 (UD (Kp (K:=K)) (by rfl) G.isinstance W1 (bz (pv 0) (Ka (v:=.ty "bool") rfl G.bool boot_bool rfl)))))))), (JG (PR (Kt (tz (J0 0) Kg)) (F2 (Kt (tz (J0 0) Kg)))))⟩) (.a fun ds R X h=>?_)
 ·obtain⟨i,rfl,hR⟩:=h;refine⟨rfl,?_⟩;exact⟨_,.same _,_,.ib,hR⟩
def Zeq (G:Glob K mg) (DD:Def K mg "_law_mix" Aq ["_law_cell","_law_place_here"])
  : Pn P w K mg base:=by
 refine DD.oz (k:=0) GG (fun _ _ _ _ _ _ E hr=>⟨_,(J6 (Pu.pz 2 GG.nd (J9 JZ (J9 K5 (J9 Ud (J9 Ud (J9 JZ (pv 0) J2) (J9 K5 J2 (pv 1))) J2) J2) J2)) (J7 (JC (J9 JZ (J9 K5 (J9 Ud (J9 Ud (pv 2) (J9 K5 J2 (pv 1))) J2) J2) J2)))), (J4 (JF (Ua (KD (Ue (Ue (Ua (J0 0) J1) (KD J1 (J0 1))) J1) J1) J1) (JA 2)) (JG (Ua (KD (Ue (Ue (J0 2) (KD J1 (J0 1))) J1) J1) J1)))⟩) (.a fun ds R X h=>?_)
 ·obtain⟨c,p,rfl,hR⟩:=h;refine⟨rfl,?_⟩;unfold mixP at hR;exact⟨(by show(0:Int)<2147483647;decide),.inl ⟨by decide,by decide⟩,.inr ⟨by decide,by decide⟩,(by show(0:Int)<2147483647;decide),.inl ⟨by decide,by decide⟩,.inr ⟨by decide,by decide⟩,(by show(0:Int)<2147483647;decide),hR⟩
def R5 (G:Glob K mg) (DD:Def K mg "_law_menu" FA ["_law_cell"])
  : EZ P w K mg base:=by
 refine DD.oz (k:=0) SU (fun _ _ _ _ _ _ E hr=>⟨_,(J6 (Pu.pz 1 SU.nd (jx K (JO (JP J2 (JP J2 (JP J2 (JP J2 (JP J2 Uh)))))) (J9 JZ (J9 U8 (pv 0) J2) J2))) (J6 (Pu.pz 2 SU.nd (jx K (JO (JP J2 (JP J2 (JP J2 (JP J2 (JP J2 Uh)))))) (J9 JZ (J9 U8 (pv 0) J2) J2))) (J7 (JC (JO (JP (J9 Ud J2 (J9 JZ (pv 0) J2)) (JP (jx K (JO (JP J2 (JP J2 (JP J2 (JP J2 Uh))))) (J9 JZ (J9 U8 (pv 0) J2) J2)) (JP (J9 JZ (J9 U8 (pv 0) J2) J2) (JP (pv 1) (JP (pv 2) Uh)))))))))), (J4 (JF (J8 (JN (JR J1 (JR J1 (JR J1 (JR J1 (JR J1 JQ)))))) (Ua (U6 (J0 0) J1) J1)) (JA 1)) (J4 (JF (J8 (JN (JR J1 (JR J1 (JR J1 (JR J1 (JR J1 JQ)))))) (Ua (U6 (J0 0) J1) J1)) (JA 2)) (JM 2 (JM 1 (JG (JN (JR (Ue J1 (Ua (J0 0) J1)) (JR (J8 (JN (JR J1 (JR J1 (JR J1 (JR J1 JQ))))) (Ua (U6 (J0 0) J1) J1)) (JR (Ua (U6 (J0 0) J1) J1) (JR (J0 1) (JR (J0 2) JQ)))))))))))⟩) (.a fun ds R X h=>?_)
 ·obtain⟨c,rfl,hR⟩:=h;refine⟨rfl,?_⟩;have h1:0<=c / 10 % 4/\c / 10 % 4<4:=by omega
  have h2:0<=c / 400 % 5/\c / 400 % 5<5:=by omega
  have hb:∀v∈([1,3,7,9]:List Int),1<=v/\v<=9/\(v=1\/v=3\/v=7\/v=9):=by decide
  have hde:∀i:Int,0<=i->i<5->∃d e:Int,atI [D.int 1000,.int 3,.int 1,.int 2,.int 3] i=some (.int d)/\atI [D.int 1,.int 1,.int 1,.int 1,.int 998] i=some (.int e)/\(1<=d/\d<=1000)/\1<=e/\e+d<=1001:=fun i a b=>by
   have:i=0\/i=1\/i=2\/i=3\/i=4:=by omega
   rcases this with rfl|rfl|rfl|rfl|rfl
   ·exact⟨1000,1,rfl,rfl,by decide,by decide,by decide⟩
   ·exact⟨3,1,rfl,rfl,by decide,by decide,by decide⟩
   ·exact⟨1,1,rfl,rfl,by decide,by decide,by decide⟩
   ·exact⟨2,1,rfl,rfl,by decide,by decide,by decide⟩
   ·exact⟨3,998,rfl,rfl,by decide,by decide,by decide⟩
  obtain⟨d,e,e1,e2,hd,he⟩:=hde _ h2.1 h2.2;have hbb:=hb _ (YH (l:=([1,3,7,9]:List Int)) (n:=(c / 10 % 4).toNat) (by show(c / 10 % 4).toNat<4;omega));refine⟨by simp,⟨by decide,by decide⟩,(by show(0:Int)<5;decide),_,e1,by simp,⟨by decide,by decide⟩,(by show(0:Int)<5;decide),_,e2,(by show(0:Int)<10;decide),by simp,⟨by decide,by decide⟩,(by show(0:Int)<4;decide),_,KY (f:=D.int) (xs:=[1,3,7,9]) h1.1 h1.2,⟨by decide,by decide⟩,(by show(0:Int)<10;decide),by simp,?_⟩;exact hR [_,_,_,_,_] ⟨_,_,_,_,_,rfl,by omega,hbb,by omega,hd,he⟩
def L6 (G:Glob K mg) (DD:Def K mg "_law_holder" FO ["_law_menu_here","_law_k"])
  : T5 P w K mg base:=by
 refine DD.oz (k:=0) LO (fun _ _ _ _ _ _ E hr=>⟨_,(J7 (JC (J9 Ud J2 (J9 JZ (J9 Ud (J9 K5 (pv 1) (jx K (pv 0) J2)) (jx K (pv 0) J2)) J2)))), (JG (Ue J1 (Ua (Ue (KD (J0 1) (J8 (J0 0) J1)) (J8 (J0 0) J1)) J1)))⟩) (.a fun ds R X h=>?_)
 ·obtain⟨m,k,rfl,hM,hR⟩:=h;refine⟨rfl,?_⟩;obtain⟨a,b,c,d,e,rfl,ha,hb,hc,hd,he⟩:=hM;exact⟨_,rfl,.inr ⟨by omega,by omega⟩,_,rfl,(by show(0:Int)<10;decide),hR _ (by omega) (by omega) rfl⟩
def IS (G:Glob K mg) (DD:Def K mg "_law_present" Be ["_law_strips"])
  : Dh P w K mg base:=by
 refine DD.oz (k:=0) He (fun _ _ _ _ _ _ E hr=>⟨_,(J6 (Pu.pz 1 He.nd (UZ (N':=["_law_strip"]) (φ:=[none]) rfl (Own.CompOk.of (by rfl)) (Uy (K:=K) (pv 0)) (fun _ _ _ _ _=>⟨(gz 0 (show(["_law_strip"]:List Str).Nodup from by decide +kernel)),X0,(jx K (pv 0) J2)⟩))) (J7 (JC (UZ (N':=["_law_holder_here","_law_owners"]) (φ:=[none,some 1]) rfl (Own.CompOk.of (by rfl)) (Hr rfl G.range (bz J2 J2)) (fun _ _ _ _ _=>⟨(gz 0 (show(["_law_holder_here","_law_owners"]:List Str).Nodup from by decide +kernel)),(XG (JU (Kh (K:=K) (show _<cLine from UK hr)) (pv 0) (pv 1) (by with_unfolding_all rfl))),(pv 0)⟩))))), (J4 (JF (UJ (Xj (J0 0)) (JA 0) XI (J8 (J0 0) J1)) (JA 1)) (JG (UJ (SndI.c (AS (tz J1 J1))) (JA 0) (JE (X1 (J0 0) (J0 1))) (J0 0))))⟩) (.a fun ds R X h=>?_)
 ·obtain⟨ps,rfl,hz,hR⟩:=h;refine⟨rfl,?_⟩;refine UR (xs:=ps) (emb:=prD) (fun q=>some (.int q.1)) (by omega) (fun q hq=>⟨_,rfl,_,rfl,rfl⟩) ?_;rw[mapD (fun q:Int×Int=>D.int q.1),show ps.map (fun q:Int×Int=>D.int q.1)=(ps.map (·.1)).map D.int by rw[Wg];rfl];refine⟨⟨by decide,by decide,by decide,by decide⟩,EX (n:=10) (fun i=>if decide ((1:Int)+(i:Int)∈ps.map (·.1))=true then some (.int (1+(i:Int))) else none) (by decide) (fun i hi=>?_) ?_⟩
  ·exact⟨_,.li _ _,ite2 (fun g=>⟨_,rfl,Ys g⟩) (fun g=>Yq g)⟩
  rw[XC (fun i:Nat=>decide ((1:Int)+(i:Int)∈ps.map (·.1)))]
  have e:((List.range 10).filter fun i:Nat=>decide ((1:Int)+(i:Int)∈ps.map (·.1))).map (fun i:Nat=>D.int (1+(i:Int)))=(JT ps).map D.int:=by
   unfold JT;rw[LX,List.filter_map,Wg];rfl
  rw[e];exact hR
def Zae (G:Glob K mg) (DD:Def K mg "_law_price" SW ["_law_strips","_law_order"])
  : GY P w K mg base:=by
 refine DD.oz (k:=0) P0 (fun _ _ _ _ _ _ E hr=>⟨_,(J6 (KZ (N':=["_law_strip","_law_order"]) (φ:=[none,some 1]) (i:=2) P0.nd rfl rfl rfl (Own.CompOk.of (by rfl)) (Uy (K:=K) (pv 0)) (fun _ _ _ _ _=>⟨(gz 0 (show(["_law_strip","_law_order"]:List Str).Nodup from by decide +kernel)),X0,(Lg (K:=K) YJ PySem.F.slot_list_index PySem.F.type_list_index (IX (K:=K)) (pv 1) (az (jx K (pv 0) J2)))⟩)) (J6 (Pu.pz 3 P0.nd J2) (J6 (UP YI rfl (Kn rfl G.range (az (ln K G.len (pv 0)))) (gz 4 P0.nd) (J7 (UP YI rfl (Kn rfl G.range (az (pv 4))) (gz 5 P0.nd) (J7 (JI (JU Xk (jx K (pv 2) (pv 5)) (jx K (pv 2) (pv 4)) (JV _)) (J7 (Pu.pz 3 P0.nd (J9 Ud (pv 3) (J9 K5 (jx K (jx K (pv 0) (pv 5)) J2) (jx K (jx K (pv 0) (pv 4)) J2)))))
   JJ))))) (J7 (JC (pv 3)))))), (J4 (JF (UJ (Xj (J0 0)) (JA 0) XI (Zax (J0 1) (sz (J8 (J0 0) J1)))) (JA 2)) (J4 (JF J1 (JA 3)) (J4 (UL [4,5] (Kb (sz (Ug (sz (J0 0))))) (JA 4) (UL [5] (Kb (sz (J0 4))) (JA 5) (JL (JE (Xn (J8 (J0 2) (J0 5)) (J8 (J0 2) (J0 4)))) (JF (Ue (J0 3) (KD (J8 (J8 (J0 0) (J0 5)) J1) (J8 (J8 (J0 0) (J0 4)) J1))) (JA 3)) JK))) (XN 3))))⟩) (.a fun ds R X h=>?_)
 ·obtain⟨ps,os,rfl,hF,hz,hin,hR⟩:=h;refine⟨rfl,?_⟩;have hlm:(ps.map prD).length=ps.length:=Yn ..;refine UR (xs:=ps) (emb:=prD) (fun q=>some (.int (os.idxOf q.1:Nat))) (by omega) (fun q hq=>⟨⟨_,rfl⟩,_,rfl,os,rfl,hin q hq,_,rfl,rfl⟩) ?_;rw[mapD (fun q:Int×Int=>D.int (os.idxOf q.1:Nat)),show ps.map (fun q:Int×Int=>D.int (os.idxOf q.1:Nat))=(ps.map fun q:Int×Int=>((os.idxOf q.1:Nat):Int)).map D.int by rw[Wg];rfl];generalize ers:(ps.map fun q:Int×Int=>((os.idxOf q.1:Nat):Int))=rs
  have rx:∀(j:Nat) (hj:j<ps.length),atI (rs.map D.int) (0+(j:Int))=some (.int (os.idxOf ps[j].1:Nat)):=fun j hj=>by
   rw[show(0:Int)+(j:Int)=(j:Int) by omega,←ers];exact Kw (f:=D.int) (Tx (by rw[Y0,Yp hj];rfl))
  have px:∀(j:Nat) (hj:j<ps.length),atI (ps.map prD) (0+(j:Int))=some (prD ps[j]):=fun j hj=>by
   rw[show(0:Int)+(j:Int)=(j:Int) by omega];exact Kw (f:=prD) (Tx (Yp hj))
  refine⟨⟨by omega,by omega⟩,XZ (fun k γ'=>γ'=[some (.bor (.lst (ps.map prD))),some (.bor (.lst (os.map D.int))),some (.own (rs.map D.int)),some (.sh (.int (priM ps os k))),none,none]) rfl ?_ ?_⟩
  ·rintro k γ' hk rfl
   have hk':k<ps.length:=by
    have:k<(((ps.map prD).length:Nat):Int).toNat:=hk
    omega
   have hgk:ps.getD k (0,0)=ps[k]:=by rw[Y1,Yp hk'];rfl
   have ep:priM ps os (k+1)=priM ps os k+rsM ps os ps[k].1 k*ps[k].2:=by simp only[priM];rw[hgk]
   have hwk:=hF ps[k] (YH hk');refine⟨⟨by omega,by omega⟩,XZ (fun j γ'=>γ'=[some (.bor (.lst (ps.map prD))),some (.bor (.lst (os.map D.int))),some (.own (rs.map D.int)),some (.sh (.int (priM ps os k+rsM ps os ps[k].1 j*ps[k].2))),some (.sh (.int (0+(k:Int)))),none]) ?_ ?_ ?_⟩
   ·rw[show rsM ps os ps[k].1 0=0 from rfl,Int.zero_mul,Q7]
    rfl
   ·rintro j γ' hj rfl
    have hj':j<ps.length:=by
     have:j<((0:Int)+(k:Int)).toNat:=hj
     omega
    have hgj:ps.getD j (0,0)=ps[j]:=by rw[Y1,Yp hj'];rfl
    have hwj:=hF ps[j] (YH hj');have step:rsM ps os ps[k].1 (j+1)=rsM ps os ps[k].1 j+(if os.idxOf ps[k].1<os.idxOf ps[j].1 then ps[j].2 else 0):=by simp only[rsM];rw[hgj]
    refine⟨_,rx j hj',_,rx k hk',ite2 (fun g=>?_) (fun g=>?_)⟩
    ·have g':((os.idxOf ps[k].1:Nat):Int)<((os.idxOf ps[j].1:Nat):Int):=Yy g;refine⟨_,px j hj',_,rfl,_,px k hk',_,rfl,.inl ⟨by show -(2 ^ 64)<ps[j].2;omega,by show ps[j].2<2 ^ 64;omega⟩,?_⟩;rw[step,Ys (by omega),Int.add_mul,←Int.add_assoc];rfl
    ·have g':¬((os.idxOf ps[k].1:Nat):Int)<((os.idxOf ps[j].1:Nat):Int):=fun z=>g (Yr z);rw[step,Yq (by omega),Q7];rfl
   ·rintro γ' rfl;rw[show((0:Int)+(k:Int)).toNat=k by omega,←ep];rfl
  ·rintro γ' rfl;rw[show(((ps.map prD).length:Nat):Int).toNat=ps.length by omega];exact hR
def Om (G:Glob K mg) (DD:Def K mg "_law_no_ring" BU ["_law_holders","_law_wishes"])
  : Au P w K mg base:=by
 refine DD.oz (k:=0) Pz (fun _ _ _ _ _ _ E hr=>⟨_,(J6 (Pu.pz 2 Pz.nd (Xw (P5 (K:=K)) (by rfl) G.list boot_list (az (pv 0)))) (J6 (UP YI rfl (Uy (K:=K) (pv 0)) (gz 3 Pz.nd) (J6 (KZ (N':=["_law_pair_here","_law_left"]) (φ:=[none,some 2]) (i:=4) Pz.nd rfl rfl rfl (Own.CompOk.of (by rfl)) (Uy (K:=K) (pv 1)) (fun _ _ _ _ _=>⟨(gz 0 (show(["_law_pair_here","_law_left"]:List Str).Nodup from by decide +kernel)),(XG (PW.pt (Nm (JU (Kh (K:=K) (show _<cLine from UK hr)) (jx K (pv 0) J2) (pv 1) (by with_unfolding_all rfl)) (NA (JU (Kh (K:=K) (show _<cLine from UK hr)) (jx K (pv 0) J2) (pv 1) (by with_unfolding_all rfl)))))),(pv 0)⟩)) (J6 (Pu.pz 5 Pz.nd (UZ (N':=["_law_pair_here"]) (φ:=[none]) rfl (Own.CompOk.of (by rfl)) (Uy (K:=K) (pv 4)) (fun _ _ _ _ _=>⟨(gz 0 (show(["_law_pair_here"]:List Str).Nodup from by decide +kernel)),X0,(jx K (pv 0) J2)⟩))) (J7 (Pu.pz 2 Pz.nd (UZ (N':=["_law_holder_here","_law_behind"]) (φ:=[none,some 5]) rfl (Own.CompOk.of (by rfl)) (Uy (K:=K) (pv 2)) (fun _ _ _ _ _=>⟨(gz 0 (show(["_law_holder_here","_law_behind"]:List Str).Nodup from by decide +kernel)),(XG (JU (Kh (K:=K) (show _<cLine from UK hr)) (pv 0) (pv 1) (by with_unfolding_all rfl))),(pv 0)⟩))))))) (J7 (JC (XT (F3 (K:=K) (show _<cLine from hr.units0)) (pv 2) (JO Uh) (JV _)))))), (J4 (JF (Td (sz (J0 0))) (JA 2)) (J4 (JM 0 (UL [3,4,5] (XO (J0 0)) (JA 3) (J4 (JF (UJ (Xj (J0 1)) (JA 0) (Ts (JE (X1 (J8 (J0 0) J1) (J0 1))) (JE (X1 (J8 (J0 0) J1) (J0 1)))) (J0 0)) (JA 4)) (J4 (JF (UJ (Xj (J0 4)) (JA 0) XI (J8 (J0 0) J1)) (JA 5)) (JF (UJ (Xj (J0 2)) (JA 0) (JE (X1 (J0 0) (J0 1))) (J0 0)) (JA 2)))))) (JG (T8 (J0 2) (JN JQ)))))⟩) (.a fun ds R X h=>?_)
 ·obtain⟨hs,ws,rfl,hz,hw,hR⟩:=h;refine⟨rfl,?_⟩;refine⟨Tr _,rfl,XE (xs:=hs) (emb:=D.int) (fun i γ'=>γ'=[some (.bor (.lst (hs.map D.int))),some (.bor (.lst (ws.map prD))),some (.own ((Uq ws hs i).map D.int)),none,none,none]/\(Uq ws hs i).length<=50) ⟨rfl,hz⟩ ?_ ?_⟩
  ·rintro i hi γ' ⟨rfl,hl⟩;generalize e:Uq ws hs i=ls at hl;have e2:Uq ws hs (i+1)=Xz ws ls:=Wa (Xz ws) e;have li:(K6 ws ls).length<=50:=Y8 (Wk _ _) hw;refine UR (xs:=ws) (emb:=prD) (fun q=>if (decide (q.1∈ls)&&decide (q.2∈ls))=true then some (prD q) else none) (by omega) (fun q hq=>?_) ?_
   ·refine⟨_,rfl,_,.li _ _,ite2 (fun g1=>⟨_,rfl,_,.li _ _,ite2 (fun g2=>⟨_,rfl,Ys ?_⟩) (fun g2=>Yq ?_)⟩) (fun g1=>iteF (Yq ?_))⟩
    ·have g1':decide (q.1∈ls)=true:=g1;have g2':decide (q.2∈ls)=true:=g2;rw[g1',g2'];rfl
    ·have g2':decide (q.2∈ls)=false:=Qa.mpr g2;rw[g2',Bool.and_false];exact Y9
    ·have g1':decide (q.1∈ls)=false:=Qa.mpr g1;rw[g1',Q9];exact Y9
   rw[XC (fun q:Int×Int=>decide (q.1∈ls)&&decide (q.2∈ls))];show _;refine UR (xs:=K6 ws ls) (emb:=prD) (fun q=>some (.int q.2)) (by omega) (fun q hq=>⟨_,rfl,_,rfl,rfl⟩) ?_;rw[mapD (fun q:Int×Int=>D.int q.2),show(K6 ws ls).map (fun q:Int×Int=>D.int q.2)=((K6 ws ls).map (·.2)).map D.int by rw[Wg];rfl];refine UR (xs:=ls) (emb:=D.int) (fun h=>if decide (h∈(K6 ws ls).map (·.2))=true then some (.int h) else none) (by omega) (fun h hh=>?_) ?_
   ·exact⟨_,.li _ _,ite2 (fun g=>⟨_,rfl,Ys g⟩) (fun g=>Yq g)⟩
   rw[XC (fun h:Int=>decide (h∈(K6 ws ls).map (·.2)))];exact⟨by rw[e2];rfl,by rw[e2];exact Y8 (Wk _ _) hl⟩
  ·rintro γ' ⟨rfl,hl⟩;refine⟨Wz _,?_⟩;have e:((Uq ws hs hs.length).map D.int).isEmpty=decide (Uq ws hs hs.length=[]):=by cases Uq ws hs hs.length<;>simp
   show R (.sh (.bl ((Uq ws hs hs.length).map D.int).isEmpty));rw[e];exact hR
def Rx (G:Glob K mg) (DD:Def K mg "_law_field_step" Fd ["_law_strips","_law_deed_here"])
  : Az P w K mg base:=by
 refine DD.oz (k:=0) TL (fun _ _ _ _ _ _ E hr=>⟨_,(J6 (Pu.pz 2 TL.nd (jx K (pv 1) J2)) (J6 (JI (PW.pt (U7 (JU Xd (pv 2) J2 (JV _)) (UH (JU Xk (pv 2) (J9 UV (ln K G.len (pv 0)) (Xw CA (by rfl) G.int boot_int (az (XT (TC (K:=K) (show _<cLine from hr.units0)) (jx K (pv 1) J2) Ul (JV _))))) (JV _))))) (J7 (JC (JO (bz J2 (pv 0)))))
   JJ) (J6 (Pu.pz 3 TL.nd (jx K (jx K (pv 0) (J9 UV (pv 2) J2)) J2)) (J6 (Pu.pz 4 TL.nd (jx K (jx K (pv 0) (J9 UV (pv 2) J2)) J2)) (J6 (JI (cq K hr (jx K (pv 1) J2) Ul) (J6 (JI (PW.pt (U7 (JU Xd (jx K (pv 1) J2) J2 (JV _)) (UH (JU Xk (jx K (pv 1) J2) J2 (JV _))))) (J7 (JC (JO (bz J2 (pv 0)))))
   JJ) (J6 (JI (cq K hr (jx K (pv 1) J2) (pv 3)) (J7 (JC (JO (bz J2 (pv 0)))))
   JJ) (J7 (JC (JO (bz J2 (J9 Xo (J9 Xo (Xq (Xp (K:=K)) (pv 0) Xs (Xg (J9 UV (pv 2) J2))) (JO (az (Uc (bz (jx K (pv 1) J2) (pv 4)))))) (Xq (Xp (K:=K)) (pv 0) (Xg (pv 2)) Xs))))))))
   JJ) (J6 (JI (cq K hr (jx K (pv 1) J2) Ul) (J6 (JI (PW.pt (U7 (JU Xd (jx K (pv 1) J2) J2 (JV _)) (UH (JU Pl (jx K (pv 1) J2) (pv 4) (JV _))))) (J7 (JC (JO (bz J2 (pv 0)))))
   JJ) (J6 (JI (cq K hr (ln K G.len (pv 0)) J2) (J7 (JC (JO (bz J2 (pv 0)))))
   JJ) (J6 (Pu.pz 5 TL.nd (JO (bz (Uc (bz (pv 3) (jx K (pv 1) J2))) (Uc (bz (pv 3) (J9 UV (pv 4) (jx K (pv 1) J2))))))) (J7 (JC (JO (bz J2 (J9 Xo (J9 Xo (Xq (Xp (K:=K)) (pv 0) Xs (Xg (J9 UV (pv 2) J2))) (pv 5)) (Xq (Xp (K:=K)) (pv 0) (Xg (pv 2)) Xs)))))))))
   JJ) (J6 (JI (cn K hr (jx K (jx K (pv 0) (pv 2)) J2) (pv 3)) (J7 (JC (JO (bz J2 (pv 0)))))
   JJ) (J6 (JI (JU Xk (J9 Ud (pv 4) (jx K (jx K (pv 0) (pv 2)) J2)) J2 (JV _)) (J7 (JC (JO (bz J2 (pv 0)))))
   JJ) (J7 (JC (JO (bz J2 (J9 Xo (J9 Xo (Xq (Xp (K:=K)) (pv 0) Xs (Xg (J9 UV (pv 2) J2))) (JO (az (Uc (bz (pv 3) (J9 Ud (pv 4) (jx K (jx K (pv 0) (pv 2)) J2))))))) (Xq (Xp (K:=K)) (pv 0) (Xg (J9 Ud (pv 2) J2)) Xs)))))))))))))), (J4 (JF (J8 (J0 1) J1) (JA 2)) (J4 (JL (UA (JE (Xm (J0 2) J1)) (JE (Xn (J0 2) (UU (Ug (sz (J0 0))) (GC (sz (Uj (J8 (J0 1) J1) Um))))))) (JM 0 (JG (JN (tz J1 (J0 0))))) JK) (J4 (JF (J8 (J8 (J0 0) (UU (J0 2) J1)) J1) (JA 3)) (J4 (JF (J8 (J8 (J0 0) (UU (J0 2) J1)) J1) (JA 4)) (J4 (JL (JE (Uj (J8 (J0 1) J1) Um)) (J4 (JL (UA (JE (Xm (J8 (J0 1) J1) J1)) (JE (Xn (J8 (J0 1) J1) J1))) (JM 0 (JG (JN (tz J1 (J0 0))))) JK) (J4 (JL (JE (Uj (J8 (J0 1) J1) (J0 3))) (JM 0 (JG (JN (tz J1 (J0 0))))) JK) (JG (JN (tz J1 (Xl (Xl (X6 (J0 0) Xt (Xf (UU (J0 2) J1))) (JN (sz (Ub (tz (J8 (J0 1) J1) (J0 4)))))) (X6 (J0 0) (Xf (J0 2)) Xt))))))) JK) (J4 (JL (JE (Uj (J8 (J0 1) J1) Um)) (J4 (JL (UA (JE (Xm (J8 (J0 1) J1) J1)) (JE (Pa (J8 (J0 1) J1) (J0 4)))) (JM 0 (JG (JN (tz J1 (J0 0))))) JK) (J4 (JL (JE (Uj (Ug (sz (J0 0))) J1)) (JM 0 (JG (JN (tz J1 (J0 0))))) JK) (J4 (JF (JN (tz (Ub (tz (J0 3) (J8 (J0 1) J1))) (Ub (tz (J0 3) (UU (J0 4) (J8 (J0 1) J1)))))) (JA 5)) (JG (JN (tz J1 (Xl (Xl (X6 (J0 0) Xt (Xf (UU (J0 2) J1))) (J0 5)) (X6 (J0 0) (Xf (J0 2)) Xt)))))))) JK) (J4 (JL (JE (X5 (J8 (J8 (J0 0) (J0 2)) J1) (J0 3))) (JM 0 (JG (JN (tz J1 (J0 0))))) JK) (J4 (JL (JE (Xn (Ue (J0 4) (J8 (J8 (J0 0) (J0 2)) J1)) J1)) (JM 0 (JG (JN (tz J1 (J0 0))))) JK) (JG (JN (tz J1 (Xl (Xl (X6 (J0 0) Xt (Xf (UU (J0 2) J1))) (JN (sz (Ub (tz (J0 3) (Ue (J0 4) (J8 (J8 (J0 0) (J0 2)) J1))))))) (X6 (J0 0) (Xf (Ue (J0 2) J1)) Xt)))))))))))))⟩) (.b fun ds R X h=>?_)
 ·obtain⟨f,x,rfl,hx,hz,hR⟩:=h;refine⟨rfl,?_⟩;have hl:(f.map prD).length=f.length:=Yn ..;have l1:∀p:Int,(cutD (f.map prD) none (some (p-1))).length<=1000:=fun p=>by have:=(KA (f.map prD) none (some (p-1))).length_le;rw[Yn] at this;omega
  have l2:∀p:Int,(cutD (f.map prD) (some p) none).length<=1000:=fun p=>by have:=(KA (f.map prD) (some p) none).length_le;rw[Yn] at this;omega
  cases x with
  | wish a b=>cases hx
  | drop a b=>cases hx
  | sell p h=>
   have hR:R (.own [.int (codeN (UC f p h)),plD (if UC f p h=none then UY f p h else f)]):=hR
   have no:∀c:Str,UC f p h=some c->R (.own [.int (codeN (some c)),plD f]):=fun c e=>by
    rw[e,Yq (by intro z;cases z)] at hR;exact hR
   unfold UC at no hR
   have one:(p<1\/(f.length:Int)<p)->R (.own [.int 1,plD f]):=fun z=>by
    rw[←N8];exact no _ (Ys z)
   refine⟨_,rfl,ite2 (fun g=>iteT ?_) (fun g=>⟨_,rfl,ite2 (fun g2=>?_) (fun g2=>?_)⟩)⟩
   ·exact⟨by simp,one (.inl (Yy g))⟩
   ·have g':(((f.map prD).length:Nat):Int)-0<p:=Yy g2;exact⟨by simp,one (.inr (by omega))⟩
   ·have n1:¬p<1:=fun z=>g (Yr z);have n2:¬(((f.map prD).length:Nat):Int)-0<p:=fun z=>g2 (Yr z);rw[Yq (by omega)] at no hR;have a1:=Ke (ps:=f) (p:=p) (by omega) (by omega);refine⟨_,a1,_,rfl,_,a1,_,rfl,_,rfl,?_⟩;refine⟨_,rfl,ite2 (fun g3=>iteT ?_) (fun g3=>⟨_,rfl,ite2 (fun g4=>?_) (fun g4=>?_)⟩)⟩
    ·have g':h<1:=Yy g3
     have:=no _ (Ys (by omega))
     rw[NK] at this;exact⟨by simp,this⟩
    ·have g':10<h:=Yy g4
     have:=no _ (Ys (by omega))
     rw[NK] at this;exact⟨by simp,this⟩
    ·have n3:¬h<1:=fun z=>g3 (Yr z);have n4:¬10<h:=fun z=>g4 (Yr z);rw[Yq (Wm.mpr ⟨by omega,by omega⟩)] at no hR;refine⟨_,rfl,ite2 (fun g5=>?_) (fun g5=>?_)⟩
     ·have g':h=(atP1 f p).1:=Yy g5
      have:=no _ (Ys g'.symm)
      rw[Ga] at this;exact⟨by simp,this⟩
     ·have g':¬h=(atP1 f p).1:=fun z=>g5 (Yr z);rw[Yq (fun z=>g' z.symm),Ys rfl] at hR;have e:=G9 (ps:=f) (p:=p) (x:=(h,(atP1 f p).2)) (by omega) (by omega);refine⟨rfl,_,rfl,by simp,by simp,rfl,rfl,Y8 (YU (l1 p) (Yx 1)) (by decide),rfl,rfl,rfl,Y8 (YU (by rw[Yv];exact YU (l1 p) (Yx 1)) (l2 p)) (by decide),by simp,?_⟩;have e9:plD (UY f p h)=.lst (cutD (f.map prD) none (some (p-1))++[prD (h,(atP1 f p).2)]++cutD (f.map prD) (some p) none):=Wa D.lst e.symm;rw[e9] at hR;exact hR
  | part p w=>
   have hR:R (.own [.int (codeN (UN f p w)),plD (if UN f p w=none then X8 f p w else f)]):=hR
   have no:∀c:Str,UN f p w=some c->R (.own [.int (codeN (some c)),plD f]):=fun c e=>by
    rw[e,Yq (by intro z;cases z)] at hR;exact hR
   unfold UN at no hR
   have one:(p<1\/(f.length:Int)<p)->R (.own [.int 1,plD f]):=fun z=>by
    rw[←N8];exact no _ (Ys z)
   refine⟨_,rfl,ite2 (fun g=>iteT ?_) (fun g=>⟨_,rfl,ite2 (fun g2=>?_) (fun g2=>?_)⟩)⟩
   ·exact⟨by simp,one (.inl (Yy g))⟩
   ·have g':(((f.map prD).length:Nat):Int)-0<p:=Yy g2;exact⟨by simp,one (.inr (by omega))⟩
   ·have n1:¬p<1:=fun z=>g (Yr z);have n2:¬(((f.map prD).length:Nat):Int)-0<p:=fun z=>g2 (Yr z);rw[Yq (by omega)] at no hR;have a1:=Ke (ps:=f) (p:=p) (by omega) (by omega);refine⟨_,a1,_,rfl,_,a1,_,rfl,_,rfl,_,rfl,?_⟩;refine⟨_,rfl,ite2 (fun g3=>iteT ?_) (fun g3=>⟨_,rfl,ite2 (fun g4=>?_) (fun g4=>?_)⟩)⟩
    ·have:=no _ (Ys (.inl (Yy g3)))
     rw[FT] at this;exact⟨by simp,this⟩
    ·have:=no _ (Ys (.inr (Yy g4)))
     rw[FT] at this;exact⟨by simp,this⟩
    ·have n3:¬w<1:=fun z=>g3 (Yr z);have n4:¬(atP1 f p).2<=w:=fun z=>g4 (Yr z);rw[Yq (by omega)] at no hR;refine ite2 (fun g5=>?_) (fun g5=>?_)
     ·have g':(((f.map prD).length:Nat):Int)=40:=Yy g5
      have:=no _ (Ys (by omega))
      rw[GJ] at this;exact⟨by simp,this⟩
     ·have g':¬(((f.map prD).length:Nat):Int)=40:=fun z=>g5 (Yr z);rw[Yq (by omega),Ys rfl] at hR;refine⟨_,rfl,by simp,_,rfl,by simp,by simp,?_⟩;refine⟨rfl,rfl,rfl,Y8 (YU (l1 p) (Yx 2)) (by decide),rfl,rfl,rfl,Y8 (YU (by rw[Yv];exact YU (l1 p) (Yx 2)) (l2 p)) (by decide),by simp,?_⟩;have e9:plD (X8 f p w)=.lst (cutD (f.map prD) none (some (p-1))++[prD ((atP1 f p).1,w),prD ((atP1 f p).1,(atP1 f p).2-w)]++cutD (f.map prD) (some p) none):=Wa D.lst (D2 (by omega)).symm;rw[e9] at hR;exact hR
  | unite p=>
   have hR:R (.own [.int (codeN (uniE f p)),plD (if uniE f p=none then uniL f p else f)]):=hR
   have no:∀c:Str,uniE f p=some c->R (.own [.int (codeN (some c)),plD f]):=fun c e=>by
    rw[e,Yq (by intro z;cases z)] at hR;exact hR
   unfold uniE at no hR
   have one:(p<1\/(f.length:Int)<=p)->R (.own [.int 1,plD f]):=fun z=>by
    rw[←N8];exact no _ (Ys z)
   refine⟨_,rfl,ite2 (fun g=>iteT ?_) (fun g=>⟨_,rfl,ite2 (fun g2=>?_) (fun g2=>?_)⟩)⟩
   ·exact⟨by simp,one (.inl (Yy g))⟩
   ·have g':(((f.map prD).length:Nat):Int)-1<p:=Yy g2;exact⟨by simp,one (.inr (by omega))⟩
   ·have n1:¬p<1:=fun z=>g (Yr z);have n2:¬(((f.map prD).length:Nat):Int)-1<p:=fun z=>g2 (Yr z);rw[Yq (by omega)] at no hR;have a1:=Ke (ps:=f) (p:=p) (by omega) (by omega);have a2:=OB (ps:=f) (p:=p) (by omega) (by omega);refine⟨_,a1,_,rfl,_,a1,_,rfl,_,rfl,_,rfl,?_⟩;refine⟨_,a2,_,rfl,ite2 (fun g3=>?_) (fun g3=>?_)⟩
    ·have g':¬(atP1 f (p+1)).1=(atP1 f p).1:=fun z=>by rw[Yr z] at g3;cases g3
     have:=no _ (Ys (fun z=>g' z.symm))
     rw[Gj] at this;exact⟨by simp,this⟩
    ·have g':(atP1 f (p+1)).1=(atP1 f p).1:=YV fun z=>g3 (by rw[YB z];rfl);rw[Yq (Wm.mpr g'.symm)] at no hR;refine⟨_,a2,_,rfl,ite2 (fun g4=>?_) (fun g4=>?_)⟩
     ·have:=no _ (Ys (Yy g4))
      rw[A9] at this;exact⟨by simp,this⟩
     ·rw[Yq (fun z=>g4 (Yr z)),Ys rfl] at hR;refine⟨rfl,_,a2,_,rfl,by simp,by simp,rfl,rfl,Y8 (YU (l1 p) (Yx 1)) (by decide),rfl,rfl,rfl,Y8 (YU (by rw[Yv];exact YU (l1 p) (Yx 1)) (l2 (p+1))) (by decide),by simp,?_⟩;have e9:plD (uniL f p)=.lst (cutD (f.map prD) none (some (p-1))++[prD ((atP1 f p).1,(atP1 f p).2+(atP1 f (p+1)).2)]++cutD (f.map prD) (some (p+1)) none):=Wa D.lst (EF (by omega)).symm;rw[e9] at hR;exact hR
def M5 (G:Glob K mg) (DD:Def K mg "_law_wish_step" BJ ["_law_wishes","_law_deed_here"])
  : GQ P w K mg base:=by
 refine DD.oz (k:=0) Dp (fun _ _ _ _ _ _ E hr=>⟨_,(J6 (Pu.pz 2 Dp.nd (Uc (bz (jx K (pv 1) J2) (jx K (pv 1) J2)))) (J6 (JI (cq K hr (jx K (pv 1) J2) Ul) (J6 (JI (JU (Fu (K:=K) (show _<cLine from UK hr)) (pv 2) (pv 0) (by with_unfolding_all rfl)) (J7 (JC (JO (bz J2 (pv 0)))))
   JJ) (J7 (JC (JO (bz J2 (UZ (N':=["_law_one","_law_pair_here"]) (φ:=[none,some 2]) rfl (Own.CompOk.of (by rfl)) (Uy (K:=K) (pv 0)) (fun _ _ _ _ _=>⟨(gz 0 (show(["_law_one","_law_pair_here"]:List Str).Nodup from by decide +kernel)),(XG (JU (Gk (K:=K) (show _<cLine from hr.units0)) (pv 0) (pv 1) (JV _))),(pv 0)⟩)))))))
   JJ) (J6 (JI (PW.pt (U7 (JU Xd (UD (Ol (K:=K) rfl) (by rfl) G.min boot_min (az (pv 2))) J2 (JV _)) (UH (JU Xk (UD (HW (K:=K) rfl) (by rfl) G.max boot_max (az (pv 2))) J2 (JV _))))) (J7 (JC (JO (bz J2 (pv 0)))))
   JJ) (J6 (JI (cq K hr (jx K (pv 1) J2) (jx K (pv 1) J2)) (J7 (JC (JO (bz J2 (pv 0)))))
   JJ) (J6 (JI (JU (Kh (K:=K) (show _<cLine from UK hr)) (pv 2) (pv 0) (by with_unfolding_all rfl)) (J7 (JC (JO (bz J2 (pv 0)))))
   JJ) (J6 (JI (cq K hr (ln K G.len (pv 0)) J2) (J7 (JC (JO (bz J2 (pv 0)))))
   JJ) (J7 (JC (JO (bz J2 (J9 Xo (pv 0) (JO (az (pv 2)))))))))))))), (J4 (JF (Ub (tz (J8 (J0 1) J1) (J8 (J0 1) J1))) (JA 2)) (J4 (JL (JE (Uj (J8 (J0 1) J1) Um)) (J4 (JL (JE (X1 (J0 2) (J0 0))) (JM 0 (JG (JN (tz J1 (J0 0))))) JK) (JG (JN (tz J1 (UJ (Xj (J0 0)) (JA 0) (JE (AK (J0 0) (J0 1))) (J0 0)))))) JK) (J4 (JL (UA (JE (Xm (Zee (sz (J0 2))) J1)) (JE (Xn (IL (sz (J0 2))) J1))) (JM 0 (JG (JN (tz J1 (J0 0))))) JK) (J4 (JL (JE (Uj (J8 (J0 1) J1) (J8 (J0 1) J1))) (JM 0 (JG (JN (tz J1 (J0 0))))) JK) (J4 (JL (JE (X1 (J0 2) (J0 0))) (JM 0 (JG (JN (tz J1 (J0 0))))) JK) (J4 (JL (JE (Uj (Ug (sz (J0 0))) J1)) (JM 0 (JG (JN (tz J1 (J0 0))))) JK) (JM 2 (JG (JN (tz J1 (Xl (J0 0) (JN (sz (J0 2))))))))))))))⟩) (.b fun ds R X h=>?_)
 ·obtain⟨w,x,rfl,hx,hz,hR⟩:=h;refine⟨rfl,?_⟩;have hl:(w.map prD).length=w.length:=Yn ..;cases x with
  | sell p h=>cases hx
  | part p h=>cases hx
  | unite p=>cases hx
  | drop a b=>
   refine⟨_,rfl,_,rfl,by simp,_,rfl,?_⟩;show ∃c,InR (prD (a,b)) (plD w) c/\_;have hR:R (.own [.int (codeN (UF w a b)),plD (if UF w a b=none then Kj w a b else w)]):=hR;refine⟨_,.lp (a,b) w,ite2 (fun g=>?_) (fun g=>?_)⟩
   ·have g':¬(a,b)∈w:=fun z=>by rw[Ys rfl,Yr z] at g;cases g
    have e:UF w a b=some ("NoWish" : Str):=Yq g';rw[e,Eg,Yq (by intro z;cases z)] at hR;exact⟨by simp,hR⟩
   ·have g':(a,b)∈w:=YV fun z=>g (by rw[Ys rfl,YB z];rfl);have e:UF w a b=none:=Ys g';rw[e,Ys rfl] at hR;refine UR (xs:=w) (emb:=prD) (fun q=>if (!decide (q=(a,b)))=true then some (prD q) else none) (by omega) (fun q hq=>?_) ?_
    ·refine⟨[q.1,q.2],[a,b],rfl,rfl,?_⟩;have e:decide ([q.1,q.2]=[a,b])=decide (q=(a,b)):=MB q (a,b);show if (!decide ([q.1,q.2]=[a,b]))=true then _ else _;rw[e];exact ite2 (fun h=>⟨_,rfl,Ys h⟩) (fun h=>Yq h)
    ·rw[XC (fun q:Int×Int=>!decide (q=(a,b)))];exact⟨by simp,hR⟩
  | wish a b=>
   refine⟨_,rfl,_,rfl,by simp,_,rfl,?_⟩;have hR:R (.own [.int (codeN (UI w a b)),plD (if UI w a b=none then w++[(a,b)] else w)]):=hR
   have no:∀c:Str,UI w a b=some c->R (.own [.int (codeN (some c)),plD w]):=fun c e=>by
    rw[e,Yq (by intro z;cases z)] at hR;exact hR
   have bad:¬((1<=a/\a<=10)/\(1<=b/\b<=10))->R (.own [.int 2,plD w]):=fun z=>by
    rw[←NK];refine no _ ?_;unfold UI;by_cases c1:1<=a/\a<=10
    ·rw[Yq (Wm.mpr c1),Ys (fun y=>z ⟨c1,y⟩)]
    ·rw[Ys c1]
   have mn:∀x y:Int,(if y<x then y else x)<=x/\(if y<x then y else x)<=y/\((if y<x then y else x)=x\/(if y<x then y else x)=y):=fun x y=>by split<;>omega
   have mx:∀x y:Int,x<=(if y>x then y else x)/\y<=(if y>x then y else x)/\((if y>x then y else x)=x\/(if y>x then y else x)=y):=fun x y=>by split<;>omega
   have m1:=mn a b;have m2:=mx a b;refine ite2 (fun g=>iteT ?_) (fun g=>ite2 (fun g2=>?_) (fun g2=>?_))
   ·have g':(if b<a then b else a)<1:=Yy g;exact⟨by simp,bad (by omega)⟩
   ·have g':10<(if b>a then b else a):=Yy g2;exact⟨by simp,bad (by omega)⟩
   ·have n1:¬(if b<a then b else a)<1:=fun z=>g (Yr z);have n2:¬10<(if b>a then b else a):=fun z=>g2 (Yr z);have c1:1<=a/\a<=10:=by omega
    have c2:1<=b/\b<=10:=by omega
    unfold UI at no hR;rw[Yq (Wm.mpr c1),Yq (Wm.mpr c2)] at no hR;refine⟨_,rfl,_,rfl,ite2 (fun g3=>?_) (fun g3=>?_)⟩
    ·have:=no _ (Ys (Yy g3))
     rw[DN] at this;exact⟨by simp,this⟩
    ·have n3:¬a=b:=fun z=>g3 (Yr z);rw[Yq n3] at no hR;show ∃c,InR (prD (a,b)) (plD w) c/\_;refine⟨_,.lp (a,b) w,ite2 (fun g4=>?_) (fun g4=>?_)⟩
     ·have:=no _ (Ys (Yy g4))
      rw[Ez] at this;exact⟨by simp,this⟩
     ·have n4:¬(a,b)∈w:=fun z=>g4 (Yr z);rw[Yq n4] at no hR;refine ite2 (fun g5=>?_) (fun g5=>?_)
      ·have g':(((w.map prD).length:Nat):Int)=20:=Yy g5
       have:=no _ (Ys (by omega))
       rw[Gs] at this;exact⟨by simp,this⟩
      ·have g':¬(((w.map prD).length:Nat):Int)=20:=fun z=>g5 (Yr z);rw[Yq (by omega),Ys rfl] at hR;refine⟨by simp,rfl,rfl,Y8 (YU (WJ hl) (Yx 1)) (by omega),by simp,?_⟩;have e9:plD (w++[(a,b)])=.lst (w.map prD++[prD (a,b)]):=Wa D.lst YC;rw[e9] at hR;exact hR
def Rq (G:Glob K mg) (DD:Def K mg "_law_odd" BN ["_law_cell","_law_good"])
  : FM P w K mg base:=by
 refine DD.oz (k:=0) Za4 (fun _ _ _ _ _ _ E hr=>⟨_,(J6 (JI (cq K hr (J9 JZ (pv 0) J2) J2) (J7 (JC (jx K (JO (JP J2 (JP J2 (JP (U1 U2 J2) (JP (J9 Fg J2 J2) Uh))))) (J9 JZ (J9 U8 (pv 0) J2) J2))))
   JJ) (J7 (JC (pv 1)))), (J4 (JL (JE (Uj (Ua (J0 0) J1) J1)) (JG (J8 (JN (JR J1 (JR J1 (JR (U5 J1) (JR (Ak J1 J1) JQ))))) (Ua (U6 (J0 0) J1) J1))) JK) (XN 1))⟩) (.a fun ds R X h=>?_)
 ·obtain⟨c,g,rfl,hR⟩:=h;refine⟨rfl,?_⟩;have h4:0<=c / 7 % 4/\c / 7 % 4<4:=by omega
  refine⟨(by show(0:Int)<7;decide),ite2 (fun _=>?_) (fun _=>hR _)⟩;exact⟨⟨by decide,by decide,by decide⟩,by simp,⟨by decide,by decide⟩,(by show(0:Int)<4;decide),_,KY (f:=D.int) (xs:=[0,11,-3,10 ^ (30:Int).toNat]) h4.1 h4.2,hR _⟩
def Ll (G:Glob K mg) (DD:Def K mg "_law_place" BG ["_law_cell","_law_strips"])
  : CF P w K mg base:=by
 refine DD.oz (k:=0) Zca (fun _ _ _ _ _ _ E hr=>⟨_,(J6 (JI (cq K hr (J9 JZ (pv 0) J2) J2) (J7 (JC (jx K (JO (JP J2 (JP (U1 U2 J2) (JP (J9 Ud (ln K G.len (pv 1)) J2) (JP (J9 Fg J2 J2) Uh))))) (J9 JZ (J9 U8 (pv 0) J2) J2))))
   JJ) (J6 (JI (JU (F3 (K:=K) (show _<cLine from hr.units0)) (pv 1) (JO Uh) (JV _)) (J7 (JC J2))
   JJ) (J7 (JC (J9 Ud J2 (J9 JZ (J9 U8 (pv 0) J2) (ln K G.len (pv 1)))))))), (J4 (JL (JE (Uj (Ua (J0 0) J1) J1)) (JG (J8 (JN (JR J1 (JR (U5 J1) (JR (Ue (Ug (sz (J0 1))) J1) (JR (Ak J1 J1) JQ))))) (Ua (U6 (J0 0) J1) J1))) JK) (J4 (JL (JE (T8 (J0 1) (JN JQ))) (JG J1) JK) (JG (Ue J1 (Ua (U6 (J0 0) J1) (Ug (sz (J0 1))))))))⟩) (.a fun ds R X h=>?_)
 ·obtain⟨c,ps,rfl,hz,hR⟩:=h;refine⟨rfl,?_⟩;have h4:0<=c / 11 % 4/\c / 11 % 4<4:=by omega
  have hl:(ps.map prD).length=ps.length:=Yn ..;refine⟨(by show(0:Int)<11;decide),ite2 (fun _=>?_) (fun _=>?_)⟩
  ·exact⟨⟨by decide,by decide,by decide⟩,by simp,⟨by decide,by decide⟩,(by show(0:Int)<4;decide),_,KY (f:=D.int) (xs:=[0,-1,(((ps.map prD).length:Nat):Int)+1,10 ^ (30:Int).toNat]) h4.1 h4.2,hR _⟩
  ·refine⟨by simp,?_⟩;have emp:(ps.map prD).isEmpty=decide (ps=[]):=by cases ps<;>simp
   show if (ps.map prD).isEmpty=true then _ else _;rw[emp];refine ite2 (fun _=>hR _) (fun g=>?_);have hne:0<ps.length:=Qi.mpr fun z=>g (Yr z);exact⟨⟨by decide,by decide⟩,(by show 0<(((ps.map prD).length:Nat):Int);omega),hR _⟩
def Zex (G:Glob K mg) (DD:Def K mg "_law_width" Ap ["_law_cell","_law_strips","_law_place_here"])
  : GU P w K mg base:=by
 refine DD.oz (k:=0) Zb2 (fun _ _ _ _ _ _ E hr=>⟨_,(J6 (JI (PW.pt (U7 (JU Xd (pv 2) J2 (JV _)) (U7 (JU Xk (pv 2) (ln K G.len (pv 1)) (JV _)) (UH (cq K hr (J9 JZ (pv 0) J2) J2))))) (J7 (JC (jx K (JO (JP J2 (JP (U1 U2 J2) (JP J2 (JP J2 (JP J2 (JP J2 (JP (J9 Fg J2 J2) Uh)))))))) (J9 JZ (J9 U8 (pv 0) J2) J2))))
   JJ) (J7 (JC (J9 JZ (J9 U8 (pv 0) J2) (J9 Ud (jx K (jx K (pv 1) (J9 UV (pv 2) J2)) J2) J2))))), (J4 (JL (UA (JE (Xm (J0 2) J1)) (UA (JE (Xn (J0 2) (Ug (sz (J0 1))))) (JE (Uj (Ua (J0 0) J1) J1)))) (JG (J8 (JN (JR J1 (JR (U5 J1) (JR J1 (JR J1 (JR J1 (JR J1 (JR (Ak J1 J1) JQ)))))))) (Ua (U6 (J0 0) J1) J1))) JK) (JG (Ua (U6 (J0 0) J1) (Ue (J8 (J8 (J0 1) (UU (J0 2) J1)) J1) J1))))⟩) (.a fun ds R X h=>?_)
 ·obtain⟨c,ps,p,rfl,hz,hF,hR⟩:=h;refine⟨rfl,?_⟩;have hl:(ps.map prD).length=ps.length:=Yn ..;have h7:0<=c / 5 % 7/\c / 5 % 7<7:=by omega
  have out:∃v:Int,atI ([0,-1,1,1000,1001,999,10 ^ (30:Int).toNat].map D.int) (c / 5 % 7)=some (.int v):=⟨_,KY (f:=D.int) (xs:=[0,-1,1,1000,1001,999,10 ^ (30:Int).toNat]) h7.1 h7.2⟩;obtain⟨v,ev⟩:=out;refine ite2 (fun g=>iteT ?_) (fun g=>ite2 (fun g2=>iteT ?_) (fun g2=>⟨(by show(0:Int)<5;decide),ite2 (fun g3=>?_) (fun g3=>?_)⟩))
  ·exact⟨⟨by decide,by decide,by decide⟩,by simp,⟨by decide,by decide⟩,(by show(0:Int)<7;decide),_,ev,hR _⟩
  ·exact⟨⟨by decide,by decide,by decide⟩,by simp,⟨by decide,by decide⟩,(by show(0:Int)<7;decide),_,ev,hR _⟩
  ·exact⟨⟨by decide,by decide,by decide⟩,by simp,⟨by decide,by decide⟩,(by show(0:Int)<7;decide),_,ev,hR _⟩
  ·have n1:¬p<1:=fun z=>g (Yr z);have n2:¬(((ps.map prD).length:Nat):Int)<p:=fun z=>g2 (Yr z);have hm:=hF _ (Nf (ps:=ps) (p:=p) (by omega) (by omega));exact⟨⟨by decide,by decide⟩,_,Ke (by omega) (by omega),_,rfl,(by show 0<(atP1 ps p).2+1;omega),hR _⟩
def Zeu (G:Glob K mg) (DD:Def K mg "check_strips" Bq ["strips"])
  (Zk:Sh P w K mg base)
  (Z2:DJ P w K mg base)
  : EU P w K mg base:=by
 refine DD.ox (k:=1) Bf (fun _ _ _ _ _ _ E hr=>⟨_,(J6 (JI (JU Xk (ln K G.len (pv 0)) (ExcR.Xr G.STRIPS) (JV _)) (J7 (ExcR.Xh G.g_TooManyStrips.c G.m_TooManyStrips ExcR.Xe rfl (az (ExcR.pe_f (ExcR.XD (ExcR.Pv (ExcR.Xr G.STRIPS) (ExcR.XD ExcR.KR)))))))
   JJ) (J7 (UP ExcR.Zbb rfl (Uy (K:=K) (pv 0)) (Nc (K:=K) (n:=2) rfl (Kc (gz 1 Bf.nd) (Kc (gz 2 Bf.nd) T9))) (J6 (Uu (Xa Zk (hr.mono (by decide)) ExcR.UG (az (pv 1)))) (J7 (Uu (Xa Z2 (hr.mono (by decide)) ExcR.UG (az (pv 2))))))))), (J4 (JL (JE (Xn (Ug (sz (J0 0))) J1)) (Xc (sz (se_f (XQ (KW J1 (XQ KN)))))) JK) (JM 0 (UL [1,2] (XO (J0 0)) (N2 (KH (JA 1) (KH (JA 2) NF))) (J4 (Xi (Xv (sz (J0 1)))) (Xi (Xv (sz (J0 2))))))))⟩) (.a fun ds R X h=>?_)
 ·obtain⟨ps,rfl,hz,hR⟩:=h;refine⟨rfl,?_⟩;have hl:(ps.map prD).length=ps.length:=Yn ..;unfold Ta at hR;refine ite2 (fun g=>?_) (fun g=>?_)
  ·have g':(40:Int)<((ps.map prD).length:Int):=Yy g;rw[Ys (by omega)] at hR;exact⟨by decide,by decide,by decide,by decide,by decide,by simp,hR⟩
  ·have g':¬(40:Int)<((ps.map prD).length:Int):=fun z=>g (Yr z);rw[Yq (by omega)] at hR;refine⟨rfl,XE (xs:=ps) (emb:=prD) (fun i γ'=>γ'=[some (.bor (plD ps)),none,none]/\K4 (ps.drop i)=K4 ps) ⟨rfl,rfl⟩ ?_ ?_⟩
   ·rintro i hi γ' ⟨rfl,hf⟩;have ed:ps.drop i=ps[i]::ps.drop (i+1):=List.drop_eq_getElem_cons hi;rw[ed,Zd9] at hf;generalize ps[i]=p at hf ⊢;refine⟨rfl,p.1,rfl,?_⟩;unfold PU;by_cases c:1<=p.1/\p.1<=10
    ·rw[Yq (fun z=>z c)] at hf;rw[Ys c];refine⟨p.2,rfl,?_⟩;unfold Fe;by_cases c2:1<=p.2/\p.2<=1000
     ·rw[Yq (fun z=>z c2)] at hf;rw[Ys c2];exact⟨rfl,hf⟩
     ·rw[Ys c2] at hf;rw[Yq c2];rw[←hf] at hR;exact hR
    ·rw[Ys c] at hf;rw[Yq c];rw[←hf] at hR;exact hR
   ·rintro γ' ⟨rfl,hf⟩;rw[List.drop_length] at hf;rw[←hf] at hR;exact hR
def Mc (G:Glob K mg) (DD:Def K mg "ring_from" BD ["least","holders","wishes"])
  (Z3:DW P w K mg base)
  : G1 P w K mg base:=by
 refine DD.oz (k:=1) KP (fun _ _ _ _ _ _ E hr=>⟨_,(J6 (Pu.pz 3 KP.nd (JO (az (JO (az (pv 0)))))) (J6 (Pu.pz 4 KP.nd (UD (Ss (K:=K) (w:=w) rfl) (by rfl) G.sorted boot_sorted (az (UZ (N':=["holder","least"]) (φ:=[none,some 0]) rfl (Own.CompOk.of (by rfl)) (Uy (K:=K) (pv 1)) (fun _ _ _ _ _=>⟨(gz 0 (show(["holder","least"]:List Str).Nodup from by decide +kernel)),(XG (JU Xk (pv 0) (pv 1) (JV _))),(pv 0)⟩))))) (J6 (Sb YI (Uk (K:=K) (pv 3)) (J6 (KZ (N':=["path","wishes","least"]) (φ:=[none,some 2,some 0]) (i:=5) KP.nd rfl rfl rfl (Own.CompOk.of (by rfl)) (Uy (K:=K) (pv 3)) (fun _ _ _ _ _=>⟨(gz 0 (show(["path","wishes","least"]:List Str).Nodup from by decide +kernel)),(XG (JU (Kh (K:=K) (show _<cLine from UK hr)) (Uc (bz (jx K (pv 0) (U1 U2 J2)) (pv 2))) (pv 1) (by with_unfolding_all rfl))),(pv 0)⟩)) (J6 (JI (Uk (K:=K) (pv 5)) (J7 (JC (jx K (pv 5) J2)))
   JJ) (J6 (Pu.pz 3 KP.nd (fz Z3 hr (dz (pv 3) (pv 4) (pv 2)))) (J6 (Pu.pz 6 KP.nd (UZ (N':=["path"]) (φ:=[none]) rfl (Own.CompOk.of (by rfl)) (Uy (K:=K) (pv 3)) (fun _ _ _ _ _=>⟨(gz 0 (show(["path"]:List Str).Nodup from by decide +kernel)),X0,(jx K (pv 0) (U1 U2 J2))⟩))) (J7 (KZ (N':=["holder","reached"]) (φ:=[none,some 6]) (i:=4) KP.nd rfl rfl rfl (Own.CompOk.of (by rfl)) (Uy (K:=K) (pv 4)) (fun _ _ _ _ _=>⟨(gz 0 (show(["holder","reached"]:List Str).Nodup from by decide +kernel)),(XG (JU (Fu (K:=K) (show _<cLine from UK hr)) (pv 0) (pv 1) (by with_unfolding_all rfl))),(pv 0)⟩)))))))) (J7 (JC (JO Uh)))))), (J4 (JM 0 (JF (JN (sz (JN (sz (J0 0))))) (JA 3))) (J4 (JF (S8 (sz (UJ (Xj (J0 1)) (JA 0) (JE (Xn (J0 0) (J0 1))) (J0 0)))) (JA 4)) (J4 (Nq [5,6] (U0 (J0 3)) (J4 (JM 0 (JF (UJ (Xj (J0 3)) (JA 0) (JE (X1 (Ub (tz (J8 (J0 0) (U5 J1)) (J0 2))) (J0 1))) (J0 0)) (JA 5))) (J4 (JL (U0 (J0 5)) (Hq (J8 (J0 5) J1)) JK) (J4 (JF (JH (uz (J0 3) (J0 4) (J0 2))) (JA 3)) (J4 (JF (UJ (Xj (J0 3)) (JA 0) XI (J8 (J0 0) (U5 J1))) (JA 6)) (JF (UJ (Xj (J0 4)) (JA 0) (JE (X1 (J0 0) (J0 1))) (J0 0)) (JA 4))))))) (Hq (JN JQ)))))⟩) (.a fun ds R X h=>?_)
 ·obtain⟨l,hs,ws,rfl,hz,hN,hR⟩:=h;refine⟨rfl,?_⟩;refine⟨by simp,by simp,UR (xs:=hs) (emb:=D.int) (fun h=>if decide (l<h)=true then some (.int h) else none) (by omega) (fun h _=>ite2 (fun g=>⟨_,rfl,Ys g⟩) (fun g=>Yq g)) ?_⟩;rw[Ea fun h=>decide (l<h)];refine⟨hs.filter fun h=>decide (l<h),rfl,Vh (Wk _ _) (by omega),fun ls hp hsrt=>?_⟩
  have hm:∀h∈ls,Gr hs l h:=fun h z=>by
   rw[hp.mem_iff,YO,Qq] at z;exact z
  have hlen:ls.length<=hs.length:=by
   rw[hp.length_eq];exact Wk _ _
  refine Sm (fun γ'=>∃k ps ls,γ'=[some (.sh (.int l)),some (.bor (.lst (hs.map D.int))),some (.bor (.lst (ws.map prD))),some (.own (ps.map (em l))),some (.own (ls.map D.int)),none,none]/\(∀p∈ps,p.length=k/\Path (Gr hs l) ws l p)/\(∀h∈ls,Gr hs l h)/\ps.length<=60/\ls.length<=hs.length/\(k+ls.length<=hs.length\/(ps=[]/\k<=hs.length+1)))
   (fun γ=>2*Gw 4 γ+min 1 (Gw 3 γ)) ⟨0,[[]],ls,rfl,(fun p z=>by rw[Yw.mp z];exact⟨rfl,trivial⟩),hm,by simp,hlen,.inl (by omega)⟩ ?_
  rintro γ' ⟨k,ps,ls,rfl,L,hm,hpl,hll,hk⟩;have emp:(!(ps.map (em l)).isEmpty)=decide (ps≠[]):=by cases ps<;>simp
  show if (!(ps.map (em l)).isEmpty)=true then _ else _;rw[emp];refine ite2 (fun g=>?_) (fun g=>?_)
  ·have hne:ps≠[]:=Yy g;have hk':k+ls.length<=hs.length:=hk.elim id fun z=>absurd z.1 hne;have hpk:∀p∈ps,p.length<=60:=fun p hp=>by rw[(L p hp).1];omega
   have hn:∀p∈ps,(Up l p,l)∉ws:=fun p hp z=>hN p ⟨(L p hp).2,z⟩;refine UR (xs:=ps) (emb:=em l) (fun _=>none) (by omega) (fun p hp=>⟨_,FK l p,by simp,_,.lp (Up l p,l) ws,ite2 (fun g=>absurd (Yy g) (hn p hp)) (fun g=>rfl)⟩) ?_;have e0:ps.filterMap (fun _=>(none:Option D))=[]:=by simp
   rw[e0];refine⟨l,ps,ls,ws,rfl,fun p hp=>Y8 (hpk p hp) (by decide),by omega,fun lg G hlg=>?_⟩;refine UR (xs:=lg) (emb:=em l) (fun p=>some (.int (Up l p))) (by omega) (fun p _=>⟨_,FK l p,_,rfl,rfl⟩) ?_;have e1:lg.filterMap (fun p=>some (D.int (Up l p)))=(lg.map (Up l)).map D.int:=by rw[Qp,Wg];rfl
   rw[e1];refine UR (xs:=ls) (emb:=D.int) (fun h=>if decide (¬h∈lg.map (Up l))=true then some (.int h) else none) (by omega) (fun h _=>⟨_,.li h _,?_⟩) ?_
   ·by_cases c:h∈lg.map (Up l)
    ·simp only[Yr c];exact iteF (Yq (by simp[c]))
    ·simp only[YB c];exact iteT ⟨_,rfl,Ys (by simp[c])⟩
   rw[Ea fun h=>decide (¬h∈lg.map (Up l))];have hfl:=Wk (fun h=>decide (¬h∈lg.map (Up l))) ls
   have hless:lg≠[]->(ls.filter fun h=>decide (¬h∈lg.map (Up l))).length<ls.length:=fun hne=>by
    obtain⟨q,hq⟩:=List.exists_mem_of_ne_nil lg hne
    have hm:Up l q∈ls:=by
     obtain⟨p,_,x,hx,rfl,_⟩:=G q hq;rw[Pi];exact hx
    refine Nat.lt_of_le_of_ne hfl fun z=>?_
    have:=List.filter_eq_self.mp (List.Sublist.eq_of_length (Vc (l:=ls)) z) (Up l q) hm
    rw[Qq] at this;exact this (List.mem_map_of_mem hq)
   refine⟨⟨k+1,lg,_,rfl,fun q hq=>?_,fun h hh=>hm h (YO.mp hh).1,by omega,by omega,?_⟩,?_⟩
   ·obtain⟨p,hp,x,hx,rfl,hw⟩:=G q hq;exact⟨by rw[Yv,(L p hp).1];rfl,path_app.mpr ⟨(L p hp).2,hm x hx,hw,trivial⟩⟩
   ·by_cases c:lg=[]
    ·exact .inr ⟨c,by omega⟩
    ·have:=hless c
     exact .inl (by omega)
   ·show 2*((ls.filter fun h=>decide (¬h∈lg.map (Up l))).map D.int).length+min 1 (lg.map (em l)).length<2*(ls.map D.int).length+min 1 (ps.map (em l)).length;rw[Yn,Yn,Yn,Yn]
    have:0<ps.length:=Qi.mpr hne
    by_cases c:lg=[]
    ·rw[c];rw[c] at hfl;simp only[List.length_nil];omega
    ·have:=hless c
     omega
  ·have hpe:ps=[]:=YV fun z=>g (Yr z);subst hpe;exact⟨by simp,hR⟩
def Zaf (G:Glob K mg) (DD:Def K mg "sold" BR ["strips","place","holder"])
  (Zq:Fz P w K mg base)
  (Zk:Sh P w K mg base)
  : B7 P w K mg base:=by
 refine DD.ox (k:=1) Di (fun _ _ _ _ _ _ E hr=>⟨_,(J6 (Uu (Xa Zq (hr.mono (by decide)) ExcR.UG (bz (pv 0) (pv 1)))) (J6 (Uu (Xa Zk (hr.mono (by decide)) ExcR.UG (az (pv 2)))) (J6 (Pu.pz 3 Di.nd (jx K (pv 0) (J9 UV (pv 1) J2))) (J6 (JI (cq K hr (jx K (pv 3) J2) (pv 2)) (J7 (ExcR.Xh G.g_OwnStrip.c G.m_OwnStrip ExcR.Xe rfl (az Ul)))
   JJ) (J7 (JC (J9 Xo (J9 Xo (Xq (Xp (K:=K)) (pv 0) Xs (Xg (J9 UV (pv 1) J2))) (JO (az (Uc (bz (pv 2) (jx K (pv 3) J2)))))) (Xq (Xp (K:=K)) (pv 0) (Xg (pv 1)) Xs)))))))), (J4 (Xi (Xv (tz (J0 0) (J0 1)))) (J4 (Xi (Xv (sz (J0 2)))) (J4 (JF (J8 (J0 0) (UU (J0 1) J1)) (JA 3)) (J4 (JL (JE (Uj (J8 (J0 3) J1) (J0 2))) (Xc (sz Um)) JK) (JM 2 (JG (Xl (Xl (X6 (J0 0) Xt (Xf (UU (J0 1) J1))) (JN (sz (Ub (tz (J0 2) (J8 (J0 3) J1)))))) (X6 (J0 0) (Xf (J0 1)) Xt))))))))⟩) (.a fun ds R X h=>?_)
 ·obtain⟨ps,p,h,rfl,hz,hR⟩:=h;refine⟨rfl,?_⟩;unfold UC at hR;refine⟨ps,p,rfl,?_⟩;unfold NQ;by_cases c:p<1\/(ps.length:Int)<p
  ·rw[Ys c] at hR ⊢;exact hR
  ·rw[Yq c] at hR ⊢;refine⟨h,rfl,?_⟩;unfold PU;by_cases c2:1<=h/\h<=10
   ·rw[Yq (fun z=>z c2)] at hR;rw[Ys c2];refine⟨_,Ke (by omega) (by omega),?_⟩;have l1:(cutD (ps.map prD) none (some (p-1))).length<=1000:=by have:=(KA (ps.map prD) none (some (p-1))).length_le;rw[Yn] at this;omega
    have l2:(cutD (ps.map prD) (some p) none).length<=1000:=by have:=(KA (ps.map prD) (some p) none).length_le;rw[Yn] at this;omega
    refine⟨_,rfl,ite2 (fun g=>?_) (fun g=>?_)⟩
    ·have g':(atP1 ps p).1=h:=Yy g;rw[Ys g'] at hR;exact⟨by simp,hR⟩
    ·have g':¬(atP1 ps p).1=h:=fun z=>g (Yr z);rw[Yq g'] at hR;refine⟨XY _,_,rfl,by simp,by simp,rfl,rfl,Y8 (YU l1 (Yx 1)) (by decide),XY _,rfl,rfl,Y8 (YU (by rw[Yv];exact YU l1 (Yx 1)) l2) (by decide),?_⟩;have e:=G9 (ps:=ps) (p:=p) (x:=(h,(atP1 ps p).2)) (by omega) (by omega);show R (.own (cutD (ps.map prD) none (some (p-1))++[prD (h,(atP1 ps p).2)]++cutD (ps.map prD) (some p) none));rw[e];exact hR
   ·rw[Ys c2] at hR;rw[Yq c2];exact hR
def Zd0 (G:Glob K mg) (DD:Def K mg "parted" Bb ["strips","place","width"])
  (Zq:Fz P w K mg base)
  : ER P w K mg base:=by
 refine DD.ox (k:=1) DO (fun _ _ _ _ _ _ E hr=>⟨_,(J6 (Uu (Xa Zq (hr.mono (by decide)) ExcR.UG (bz (pv 0) (pv 1)))) (J6 (Pu.pz 3 DO.nd (jx K (pv 0) (J9 UV (pv 1) J2))) (J6 (JI (PW.pt (U7 (JU Xd (pv 2) J2 (JV _)) (UH (JU Pl (pv 2) (jx K (pv 3) J2) (JV _))))) (J7 (ExcR.Xh G.g_BadPart.c G.m_BadPart ExcR.Xe rfl (az Ul)))
   JJ) (J6 (JI (JU Pl (ln K G.len (pv 0)) (ExcR.Xr G.STRIPS) (JV _)) (J7 (ExcR.Xh G.g_TooManyStrips.c G.m_TooManyStrips ExcR.Xe rfl (az (ExcR.pe_f (ExcR.XD (ExcR.Pv (ExcR.Xr G.STRIPS) (ExcR.XD ExcR.KR)))))))
   JJ) (J7 (JC (J9 Xo (J9 Xo (Xq (Xp (K:=K)) (pv 0) Xs (Xg (J9 UV (pv 1) J2))) (JO (bz (Uc (bz (jx K (pv 3) J2) (pv 2))) (Uc (bz (jx K (pv 3) J2) (J9 UV (jx K (pv 3) J2) (pv 2))))))) (Xq (Xp (K:=K)) (pv 0) (Xg (pv 1)) Xs)))))))), (J4 (Xi (Xv (tz (J0 0) (J0 1)))) (J4 (JF (J8 (J0 0) (UU (J0 1) J1)) (JA 3)) (J4 (JL (UA (JE (Xm (J0 2) J1)) (JE (Pa (J0 2) (J8 (J0 3) J1)))) (Xc (sz Um)) JK) (J4 (JL (JE (Pa (Ug (sz (J0 0))) J1)) (Xc (sz (se_f (XQ (KW J1 (XQ KN)))))) JK) (JM 2 (JG (Xl (Xl (X6 (J0 0) Xt (Xf (UU (J0 1) J1))) (JN (tz (Ub (tz (J8 (J0 3) J1) (J0 2))) (Ub (tz (J8 (J0 3) J1) (UU (J8 (J0 3) J1) (J0 2))))))) (X6 (J0 0) (Xf (J0 1)) Xt))))))))⟩) (.a fun ds R X h=>?_)
 ·obtain⟨ps,p,w,rfl,hz,hR⟩:=h;refine⟨rfl,?_⟩;have hl:(ps.map prD).length=ps.length:=Yn ..;refine⟨ps,p,rfl,?_⟩;unfold UN at hR;unfold NQ;by_cases c:p<1\/(ps.length:Int)<p
  ·rw[Ys c] at hR ⊢;exact hR
  ·rw[Yq c] at hR ⊢;refine⟨_,Ke (by omega) (by omega),?_⟩
   have go:¬(w<1\/(atP1 ps p).2<=w)->_:=fun c2=>by
    rw[Yq c2] at hR;exact hR
   by_cases c2:w<1\/(atP1 ps p).2<=w
   ·rw[Ys c2] at hR;refine ite2 (fun g=>iteT ⟨by simp,hR⟩) (fun g=>⟨_,rfl,ite2 (fun g2=>⟨by simp,hR⟩) (fun g2=>?_)⟩);have g':¬w<1:=fun z=>g (Yr z);have g2':¬(atP1 ps p).2<=w:=fun z=>g2 (Yr z);omega
   ·rw[Yq c2] at hR;refine ite2 (fun g=>absurd (Yy g) (by omega)) (fun g=>⟨_,rfl,ite2 (fun g2=>absurd (Yy g2) (by omega)) (fun g2=>?_)⟩);refine ite2 (fun g3=>?_) (fun g3=>?_)
    ·have g3':(40:Int)<=((ps.map prD).length:Int):=Yy g3;rw[Ys (by omega)] at hR;exact⟨by decide,by decide,by decide,by decide,by decide,by simp,hR⟩
    ·have g3':¬(40:Int)<=((ps.map prD).length:Int):=fun z=>g3 (Yr z);rw[Yq (by omega)] at hR;have l1:(cutD (ps.map prD) none (some (p-1))).length<=1000:=by have:=(KA (ps.map prD) none (some (p-1))).length_le;rw[Yn] at this;omega
     have l2:(cutD (ps.map prD) (some p) none).length<=1000:=by have:=(KA (ps.map prD) (some p) none).length_le;rw[Yn] at this;omega
     refine⟨XY _,_,rfl,by simp,_,rfl,_,rfl,by simp,by simp,rfl,rfl,Y8 (YU l1 (Yx 2)) (by decide),XY _,rfl,rfl,Y8 (YU (by rw[Yv];exact YU l1 (Yx 2)) l2) (by decide),?_⟩;rw[←D2 (by omega)] at hR;exact hR
def Zek (G:Glob K mg) (DD:Def K mg "united" Bi ["strips","place"])
  (Z4:A8 P w K mg base)
  : GA P w K mg base:=by
 refine DD.ox (k:=1) SN (fun _ _ _ _ _ _ E hr=>⟨_,(J6 (Uu (Xa Z4 (hr.mono (by decide)) ExcR.UG (bz (pv 0) (pv 1)))) (J6 (Pu.pz 2 SN.nd (jx K (pv 0) (J9 UV (pv 1) J2))) (J6 (Pu.pz 3 SN.nd (jx K (pv 0) (pv 1))) (J6 (JI (cn K hr (jx K (pv 2) J2) (jx K (pv 3) J2)) (J7 (ExcR.Xh G.g_UnlikeHolders.c G.m_UnlikeHolders ExcR.Xe rfl (az Ul)))
   JJ) (J6 (JI (JU Xk (J9 Ud (jx K (pv 2) J2) (jx K (pv 3) J2)) (ExcR.Xr G.WIDEST) (JV _)) (J7 (ExcR.Xh G.g_TooWide.c G.m_TooWide ExcR.Xe rfl (az (ExcR.pe_f (ExcR.XD (ExcR.Pv (ExcR.Xr G.WIDEST) (ExcR.XD ExcR.KR)))))))
   JJ) (J7 (JC (J9 Xo (J9 Xo (Xq (Xp (K:=K)) (pv 0) Xs (Xg (J9 UV (pv 1) J2))) (JO (az (Uc (bz (jx K (pv 2) J2) (J9 Ud (jx K (pv 2) J2) (jx K (pv 3) J2))))))) (Xq (Xp (K:=K)) (pv 0) (Xg (J9 Ud (pv 1) J2)) Xs))))))))), (J4 (Xi (Xv (tz (J0 0) (J0 1)))) (J4 (JF (J8 (J0 0) (UU (J0 1) J1)) (JA 2)) (J4 (JF (J8 (J0 0) (J0 1)) (JA 3)) (J4 (JL (JE (X5 (J8 (J0 2) J1) (J8 (J0 3) J1))) (Xc (sz Um)) JK) (J4 (JL (JE (Xn (Ue (J8 (J0 2) J1) (J8 (J0 3) J1)) J1)) (Xc (sz (se_f (XQ (KW J1 (XQ KN)))))) JK) (JG (Xl (Xl (X6 (J0 0) Xt (Xf (UU (J0 1) J1))) (JN (sz (Ub (tz (J8 (J0 2) J1) (Ue (J8 (J0 2) J1) (J8 (J0 3) J1))))))) (X6 (J0 0) (Xf (Ue (J0 1) J1)) Xt))))))))⟩) (.a fun ds R X h=>?_)
 ·obtain⟨ps,p,rfl,hz,hR⟩:=h;refine⟨rfl,?_⟩;have hl:(ps.map prD).length=ps.length:=Yn ..;refine⟨ps,p,rfl,?_⟩;unfold uniE at hR;by_cases c:p<1\/(ps.length:Int)<=p
  ·rw[Ys c] at hR ⊢;exact hR
  ·rw[Yq c] at hR ⊢
   have e2:atI (ps.map prD) p=some (prD (atP1 ps (p+1))):=by
    have:=Ke (ps:=ps) (p:=p+1) (by omega) (by omega)
    rwa[show p+1-1=p by omega] at this
   refine⟨_,Ke (by omega) (by omega),_,e2,_,rfl,_,rfl,ite2 (fun g=>?_) (fun g=>?_)⟩
   ·have g':¬(atP1 ps p).1=(atP1 ps (p+1)).1:=fun z=>by rw[Yr z] at g;cases g
    rw[Ys g'] at hR;exact⟨by simp,hR⟩
   ·have g':(atP1 ps p).1=(atP1 ps (p+1)).1:=YV fun z=>g (by rw[YB z];rfl);rw[Yq (fun z=>z g')] at hR;refine⟨_,rfl,_,rfl,ite2 (fun g2=>?_) (fun g2=>?_)⟩
    ·rw[Ys (Yy g2)] at hR;exact⟨by decide,by decide,by decide,by decide,by decide,by simp,hR⟩
    ·rw[Yq (fun z=>g2 (Yr z))] at hR;have l1:(cutD (ps.map prD) none (some (p-1))).length<=1000:=by have:=(KA (ps.map prD) none (some (p-1))).length_le;rw[Yn] at this;omega
     have l2:(cutD (ps.map prD) (some (p+1)) none).length<=1000:=by have:=(KA (ps.map prD) (some (p+1)) none).length_le;rw[Yn] at this;omega
     refine⟨XY _,_,rfl,_,rfl,_,rfl,by simp,by simp,rfl,rfl,Y8 (YU l1 (Yx 1)) (by decide),XY _,rfl,rfl,Y8 (YU (by rw[Yv];exact YU l1 (Yx 1)) l2) (by decide),?_⟩;rw[←EF (by omega)] at hR;exact hR
def HC (G:Glob K mg) (DD:Def K mg "with_wish" S9 ["wishes","ahead","behind"])
  (Zk:Sh P w K mg base)
  : CJ P w K mg base:=by
 refine DD.ox (k:=1) Ze5 (fun _ _ _ _ _ _ E hr=>⟨_,(J6 (Uu (Xa Zk (hr.mono (by decide)) ExcR.UG (az (pv 1)))) (J6 (Uu (Xa Zk (hr.mono (by decide)) ExcR.UG (az (pv 2)))) (J6 (JI (cq K hr (pv 1) (pv 2)) (J7 (ExcR.Xh G.g_LikeHolders.c G.m_LikeHolders ExcR.Xe rfl (az Ul)))
   JJ) (J6 (JI (JU (Kh (K:=K) (show _<cLine from UK hr)) (Uc (bz (pv 1) (pv 2))) (pv 0) (by with_unfolding_all rfl)) (J7 (ExcR.Xh G.g_WishStands.c G.m_WishStands ExcR.Xe rfl (az Ul)))
   JJ) (J6 (JI (JU Pl (ln K G.len (pv 0)) (ExcR.Xr G.MOST_WISHES) (JV _)) (J7 (ExcR.Xh G.g_TooManyWishes.c G.m_TooManyWishes ExcR.Xe rfl (az (ExcR.pe_f (ExcR.XD (ExcR.Pv (ExcR.Xr G.MOST_WISHES) (ExcR.XD ExcR.KR)))))))
   JJ) (J7 (JC (J9 Xo (pv 0) (JO (az (Uc (bz (pv 1) (pv 2))))))))))))), (J4 (Xi (Xv (sz (J0 1)))) (J4 (Xi (Xv (sz (J0 2)))) (J4 (JL (JE (Uj (J0 1) (J0 2))) (Xc (sz Um)) JK) (J4 (JL (JE (X1 (Ub (tz (J0 1) (J0 2))) (J0 0))) (Xc (sz Um)) JK) (J4 (JL (JE (Pa (Ug (sz (J0 0))) J1)) (Xc (sz (se_f (XQ (KW J1 (XQ KN)))))) JK) (JM 2 (JM 1 (JG (Xl (J0 0) (JN (sz (Ub (tz (J0 1) (J0 2))))))))))))))⟩) (.a fun ds R X h=>?_)
 ·obtain⟨ws,a,b,rfl,hz,hR⟩:=h;refine⟨rfl,?_⟩;have hl:(ws.map prD).length=ws.length:=Yn ..;unfold UI at hR;refine⟨a,rfl,?_⟩;unfold PU;by_cases c1:1<=a/\a<=10
  ·rw[Yq (fun z=>z c1)] at hR;rw[Ys c1];refine⟨b,rfl,?_⟩;unfold PU;by_cases c2:1<=b/\b<=10
   ·rw[Yq (fun z=>z c2)] at hR;rw[Ys c2];refine ite2 (fun g=>?_) (fun g=>?_)
    ·rw[Ys (Yy g)] at hR;exact⟨by simp,hR⟩
    ·rw[Yq (fun z=>g (Yr z))] at hR;refine⟨by simp,_,.lp (a,b) ws,ite2 (fun g2=>?_) (fun g2=>?_)⟩
     ·rw[Ys (Yy g2)] at hR;exact⟨by simp,hR⟩
     ·rw[Yq (fun z=>g2 (Yr z))] at hR;refine ite2 (fun g3=>?_) (fun g3=>?_)
      ·have g3':(20:Int)<=((ws.map prD).length:Int):=Yy g3;rw[Ys (by omega)] at hR;exact⟨by decide,by decide,by decide,by decide,by decide,by simp,hR⟩
      ·have g3':¬(20:Int)<=((ws.map prD).length:Int):=fun z=>g3 (Yr z);rw[Yq (by omega)] at hR;refine⟨by simp,by simp,XY _,rfl,Y8 (YU (Y8 (WJ hl) hz) (Yx 1)) (by decide),?_⟩;rw[YC] at hR;exact hR
   ·rw[Ys c2] at hR;rw[Yq c2];exact hR
  ·rw[Ys c1] at hR;rw[Yq c1];exact hR
def Os (G:Glob K mg) (DD:Def K mg "pair_costs" FL ["strips"])
  (Zj:Nw P w K mg base)
  (Z5:DK P w K mg base)
  : Aj P w K mg base:=by
 refine DD.oz (k:=1) TZ (fun _ _ _ _ _ _ E hr=>⟨_,(J6 (Pu.pz 1 TZ.nd (fz Zj hr (az (pv 0)))) (J6 (Pu.pz 2 TZ.nd Zcn) (J6 (UP YI rfl (Uy (K:=K) (pv 1)) (gz 3 TZ.nd) (J7 (UP YI rfl (Uy (K:=K) (pv 1)) (gz 4 TZ.nd) (J7 (BH (UK hr) (pv 2) (Uc (bz (pv 3) (pv 4))) (fz Z5 hr (dz (pv 0) (pv 3) (pv 4))) rfl))))) (J7 (JC (pv 2)))))), (J4 (JF (JH (sz (J0 0))) (JA 1)) (J4 (JF Zba (JA 2)) (J4 (JM 1 (UL [3,4] (XO (J0 1)) (JA 3) (JM 1 (UL [4] (XO (J0 1)) (JA 4) (JM 4 (JM 3 (B9 2 (Ub (tz (J0 3) (J0 4))) (JH (uz (J0 0) (J0 3) (J0 4)))))))))) (XN 2))))⟩) (.a fun ds R X h=>?_)
 ·obtain⟨ps,rfl,hF,hz,hR⟩:=h;refine⟨rfl,?_⟩;refine⟨ps,rfl,hF,hz,?_⟩;have hh:=PP ps;generalize JT ps=hs at hh hR ⊢
  refine⟨rfl,XE (xs:=hs) (emb:=D.int) (fun i γ'=>∃kvs:List (List Key×V),γ'=[some (.bor (.lst (ps.map prD))),some (.sh (.lst (hs.map D.int))),some (.own (.dT kvs)),none,none]/\kvs.length<=i*10/\
   ∀x∈hs.take i,∀y∈hs,valV kvs [.inl x,.inl y]=some (.int (pcM ps x y ps.length))) ⟨[],rfl,by simp,by simp⟩ ?_ ?_⟩
  ·rintro i hi γ' ⟨kvs,rfl,hl,hv⟩
   refine⟨rfl,XE (xs:=hs) (emb:=D.int) (fun j γ'=>∃kvs:List (List Key×V),γ'=[some (.bor (.lst (ps.map prD))),some (.sh (.lst (hs.map D.int))),some (.own (.dT kvs)),some (.sh (.int hs[i])),none]/\kvs.length<=i*10+j/\
    (∀x∈hs.take i,∀y∈hs,valV kvs [.inl x,.inl y]=some (.int (pcM ps x y ps.length)))/\∀y∈hs.take j,valV kvs [.inl hs[i],.inl y]=some (.int (pcM ps hs[i] y ps.length))) ⟨kvs,rfl,by omega,hv,by simp⟩ ?_ ?_⟩
   ·rintro j hj γ' ⟨kvs,rfl,hl,hv,hw⟩;refine⟨ps,_,_,rfl,hF,by simp,_,_,rfl,rfl,by omega,_,rfl,Y8 (Nz _ _ _) (by omega),fun x hx y hy=>?_,fun y hy=>?_⟩
    ·rw[Sn];by_cases e:([.inl x,.inl y]:List Key)=[.inl hs[i],.inl hs[j]]
     ·rw[Ys e];simp only[Qm,Sum.inl.injEq,and_true] at e;rw[e.1,e.2]
     ·rw[Yq e];exact hv x hx y hy
    ·rw[Sn];by_cases e:([.inl hs[i],.inl y]:List Key)=[.inl hs[i],.inl hs[j]]
     ·rw[Ys e];simp only[Qm,Sum.inl.injEq,and_true] at e;rw[e.2]
     ·rw[Yq e];rw[W2 hj,YL,Yw] at hy;rcases hy with hy|hy
      ·exact hw y hy
      ·subst hy;exact absurd rfl e
   ·rintro γ' ⟨kvs,rfl,hl,hv,hw⟩;rw[Qz] at hw;refine⟨kvs,rfl,by omega,fun x hx y hy=>?_⟩;rw[W2 hi,YL,Yw] at hx;rcases hx with hx|hx
    ·exact hv x hx y hy
    ·subst hx;exact hw y hy
  ·rintro γ' ⟨kvs,rfl,hl,hv⟩;rw[Qz] at hv;exact hR kvs hv
def Hy (G:Glob K mg) (DD:Def K mg "cost_with_last" SG ["members","last","least","pairs"])
  (Zl:NT P w K mg base)
  : CD P w K mg base:=by
 refine DD.oz (k:=1) Ei (fun _ _ _ _ _ _ E hr=>⟨_,(J6 (Pu.pz 4 Ei.nd (fz Zl hr (bz (pv 0) (pv 1)))) (J7 (JC (J9 Ud (Ti (UK hr) (pv 2) (pv 4) (fun _ _=>rfl)) (UD (DF (K:=K) rfl) (by rfl) G.sum boot_sum (az (UZ (N':=["other","pairs","last"]) (φ:=[none,some 3,some 1]) rfl (Own.CompOk.of (by rfl)) (Nj (K:=K) (pv 4)) (fun _ _ _ _ _=>⟨(gz 0 (show(["other","pairs","last"]:List Str).Nodup from by decide +kernel)),X0,(Ti (UK hr) (pv 1) (Uc (bz (pv 0) (pv 2))) (fun _ _=>rfl))⟩)))))))), (J4 (JF (JH (tz (J0 0) (J0 1))) (JA 4)) (JM 1 (JG (Ue (Nh (J0 2) (J0 4)) (Hc (sz (UJ (SndI.c (Tn (J0 4))) (JA 0) XI (Nh (J0 1) (Ub (tz (J0 0) (J0 2)))))))))))⟩) (.a fun ds R X h=>?_)
 ·obtain⟨ms,l,le,pa,c,v,rfl,hz,hv,hc,hR⟩:=h;refine⟨rfl,?_⟩;rw[Tz];have hz':(JW ms l).length<=1000:=Y8 less_sub.length_le hz;refine⟨ms,l,rfl,hz,_,_,N7 _,hv,rfl,_,rfl,UR (s:=.sh .non) (xs:=JW ms l) (emb:=D.int) (fun m=>some (.int (c m))) (by omega) (fun m hm=>?_) ?_⟩
  ·exact⟨by simp,_,_,rfl,hc m hm,rfl,_,rfl,rfl⟩
  ·rw[mapD];exact⟨(JW ms l).map c,by rw[Wg];rfl,hR⟩
def Zay (G:Glob K mg) (DD:Def K mg "cost_with_first" SX ["members","first","least","pairs"])
  (Zl:NT P w K mg base)
  : EG P w K mg base:=by
 refine DD.oz (k:=1) Ds (fun _ _ _ _ _ _ E hr=>⟨_,(J6 (Pu.pz 4 Ds.nd (fz Zl hr (bz (pv 0) (pv 1)))) (J7 (JC (J9 Ud (Ti (UK hr) (pv 2) (pv 4) (fun _ _=>rfl)) (UD (DF (K:=K) rfl) (by rfl) G.sum boot_sum (az (UZ (N':=["other","pairs","first"]) (φ:=[none,some 3,some 1]) rfl (Own.CompOk.of (by rfl)) (Nj (K:=K) (pv 4)) (fun _ _ _ _ _=>⟨(gz 0 (show(["other","pairs","first"]:List Str).Nodup from by decide +kernel)),X0,(Ti (UK hr) (pv 1) (Uc (bz (pv 2) (pv 0))) (fun _ _=>rfl))⟩)))))))), (J4 (JF (JH (tz (J0 0) (J0 1))) (JA 4)) (JM 1 (JG (Ue (Nh (J0 2) (J0 4)) (Hc (sz (UJ (SndI.c (Tn (J0 4))) (JA 0) XI (Nh (J0 1) (Ub (tz (J0 2) (J0 0)))))))))))⟩) (.a fun ds R X h=>?_)
 ·obtain⟨ms,l,le,pa,c,v,rfl,hz,hv,hc,hR⟩:=h;refine⟨rfl,?_⟩;rw[Tz];have hz':(JW ms l).length<=1000:=Y8 less_sub.length_le hz;refine⟨ms,l,rfl,hz,_,_,N7 _,hv,rfl,_,rfl,UR (s:=.sh .non) (xs:=JW ms l) (emb:=D.int) (fun m=>some (.int (c m))) (by omega) (fun m hm=>?_) ?_⟩
  ·exact⟨by simp,_,_,rfl,hc m hm,rfl,_,rfl,rfl⟩
  ·rw[mapD];exact⟨(JW ms l).map c,by rw[Wg];rfl,hR⟩
def Za3 (G:Glob K mg) (DD:Pu.DefM K (Meth K (ExcR.JB mg "Village") "drop") "drop" "Village.drop" SM ["self","ahead","behind"])
  (Zf:PK P w K mg base)
  (Z6:EV P w K mg base)
  (Zg:PX P w K mg base)
  (Zc:Kl P w K mg base)
  (Zd:Kd P w K mg base)
  : EC P w K mg base:=by
 refine DD.ox (k:=1) Dw (fun _ _ _ _ _ _ E hr=>⟨_,(J6 (Uu (Ux Zf G.cl_Village (hr.mono (by decide)) ExcR.UG (pv 0))) (J6 (Pu.pz 3 Dw.nd (Xa Z6 (hr.mono (by decide)) ExcR.UG (dz (Ux Zc G.cl_Village (hr.mono (by decide)) Ut (pv 0)) (pv 1) (pv 2)))) (J7 (JC (XS Zg G.cl_Village (hr.mono (by decide)) Ut (pv 0) (dz (Uc (dz Ul (pv 1) (pv 2))) (Ux Zd G.cl_Village (hr.mono (by decide)) Ut (pv 0)) (pv 3))))))), (J4 (Xi (Ng Tq (J0 0) JQ)) (J4 (JF (Xv (uz (UE Kr (J0 0) JQ) (J0 1) (J0 2))) (JA 3)) (JM 2 (JM 1 (JM 3 (XW (Tc 0 To (uz (Ub (uz Um (J0 1) (J0 2))) (UE Kv (J0 0) JQ) (J0 3)))))))))⟩) (.c fun o ss R X h=>?_)
 ·obtain⟨x,b1,b2,b3,bk,fs,ws,f,w,p,h,rfl,rfl,hb,hf,hw,hz,hR⟩:=h;refine⟨rfl,?_⟩;unfold N0 at hR;refine⟨rfl,rfl,bk,fs++[f],ws++[w],rfl,?_⟩;unfold Pt;by_cases c:100<=bk.length
  ·rw[Ys c] at hR ⊢;exact⟨_,rfl,⟨rfl,by simp⟩,hR⟩
  ·rw[Yq c] at hR ⊢;refine⟨rfl,rfl,bk,fs++[f],ws,w,rfl,w,p,h,rfl,hz,?_⟩;cases e:UF w p h with
   | some c=>
    rw[e] at hR;exact⟨_,rfl,⟨rfl,by simp⟩,hR⟩
   | none=>
    rw[e] at hR;refine⟨rfl,rfl,by simp,rfl,rfl,bk,fs,ws++[w],f,rfl,?_⟩;exact⟨x,b1,b2,b3,bk,fs++[f],ws++[w],("drop",[p,h]),f,Kj w p h,rfl,rfl,hb,by rw[Yv];simp;omega,by rw[Yv];simp;omega,_,rfl,⟨rfl,by simp⟩,hR⟩
def Zbu (G:Glob K mg) (DD:Def K mg "_law_draw" Ag ["_law_script","_law_k"])
  (Ze:Pn P w K mg base)
  (Zb:Pj P w K mg base)
  : Gv P w K mg base:=by
 refine DD.oz (k:=1) Zeo (fun _ _ _ _ _ _ E hr=>⟨_,(J6 (JI (cq K hr (J9 JZ (fz Zb hr (bz (pv 0) J2)) J2) J2) (J7 (JC (fz Zb hr (bz (pv 0) (J9 Ud J2 (pv 1))))))
   JJ) (J7 (JC (fz Ze hr (bz (fz Zb hr (bz (pv 0) J2)) (pv 1)))))), (J4 (JL (JE (Uj (Ua (JH (tz (J0 0) J1)) J1) J1)) (JG (JH (tz (J0 0) (Ue J1 (J0 1))))) JK) (JG (JH (tz (JH (tz (J0 0) J1)) (J0 1)))))⟩) (.a fun ds R X h=>?_)
 ·obtain⟨ns,k,rfl,hk,hR⟩:=h;refine⟨rfl,?_⟩;refine⟨ns,0,rfl,by decide,(by show(0:Int)<2;decide),ite2 (fun _=>?_) (fun _=>?_)⟩
  ·exact⟨ns,_,rfl,by omega,hR _⟩
  ·exact⟨ns,1,rfl,by decide,_,_,rfl,hR _⟩
def Zfd (G:Glob K mg) (DD:Def K mg "_law_spare" Sx ["_law_script"])
  (Ze:Pn P w K mg base)
  (Zb:Pj P w K mg base)
  : Cw P w K mg base:=by
 refine DD.oz (k:=1) OL (fun _ _ _ _ _ _ E hr=>⟨_,(J6 (JI (cq K hr (J9 JZ (fz Zb hr (bz (pv 0) J2)) J2) J2) (J7 (JC (J9 U8 (fz Zb hr (bz (pv 0) J2)) J2)))
   JJ) (J7 (JC (fz Ze hr (bz (fz Zb hr (bz (pv 0) J2)) J2))))), (J4 (JL (JE (Uj (Ua (JH (tz (J0 0) J1)) J1) J1)) (JG (U6 (JH (tz (J0 0) J1)) J1)) JK) (JG (JH (tz (JH (tz (J0 0) J1)) J1))))⟩) (.a fun ds R X h=>?_)
 ·obtain⟨ns,rfl,hR⟩:=h;refine⟨rfl,?_⟩;exact⟨ns,0,rfl,by decide,(by show(0:Int)<2;decide),ite2 (fun _=>⟨ns,0,rfl,by decide,⟨by decide,by decide⟩,hR _⟩) (fun _=>⟨ns,1,rfl,by decide,_,_,rfl,hR _⟩)⟩
def Oa (G:Glob K mg) (DD:Def K mg "_law_row" BQ ["_law_found","_law_due"])
  (Zh:Px P w K mg base)
  : BI P w K mg base:=by
 refine DD.oz (k:=1) DB (fun _ _ _ _ _ _ E hr=>⟨_,(J6 (JI (PW.pt (U7 (U3 (Uk (K:=K) (UD (Kp (K:=K)) (by rfl) G.isinstance W1 (bz (pv 0) (Ka (v:=.ty "list") rfl G.list boot_list rfl))))) (UH (cn K hr (ln K G.len (pv 0)) (ln K G.len (pv 1)))))) (J7 (JC Uw))
   JJ) (J6 (UP YI rfl (Kn rfl G.range (az (ln K G.len (pv 1)))) (gz 2 DB.nd) (J7 (JI (PW.pt (U7 (U3 (Uk (K:=K) (fz Zh hr (az (jx K (pv 0) (pv 2)))))) (UH (cn K hr (jx K (pv 0) (pv 2)) (jx K (pv 1) (pv 2)))))) (J7 (JC Uw))
   JJ))) (J7 (JC Uw)))), (J4 (JL (UA (US (U0 (Kt (tz (J0 0) Kg)))) (JE (X5 (Ug (sz (J0 0))) (Ug (sz (J0 1)))))) (JG Ur) JK) (J4 (UL [2] (Kb (sz (Ug (sz (J0 1))))) (JA 2) (JL (UA (US (U0 (JH (sz (J8 (J0 0) (J0 2)))))) (JE (X5 (J8 (J0 0) (J0 2)) (J8 (J0 1) (J0 2))))) (JG Ur) JK)) (JG Ur)))⟩) (.a fun ds R X h=>?_)
 ·obtain⟨xs,rfl,hz,hR⟩:=h;refine⟨rfl,?_⟩;have hl:(xs.map D.int).length=xs.length:=Yn ..;refine⟨_,.same _,iteF (KI rfl ?_)⟩;refine⟨⟨by omega,by omega⟩,XZ (fun i γ'=>γ'=[some (.bor (.lst (xs.map D.int))),some (.bor (.lst (xs.map D.int))),none]) rfl ?_ ?_⟩
  ·rintro i γ' hi rfl;have hi':i<(((xs.map D.int).length:Nat):Int).toNat:=hi;have ez:(0:Int)+(i:Int)=(i:Int):=by omega
   have hb:i<xs.length:=by omega
   have ha:atI (xs.map D.int) (0+(i:Int))=some (.int xs[i]):=by rw[ez];exact Bc hb
   exact⟨_,ha,_,rfl,iteF ⟨_,ha,_,ha,KI rfl rfl⟩⟩
  ·rintro γ' rfl;exact hR
def ON (G:Glob K mg) (DD:Def K mg "_law_tuples" BA ["_law_found","_law_due"])
  (Zh:Px P w K mg base)
  : DL P w K mg base:=by
 refine DD.oz (k:=1) Bz (fun _ _ _ _ _ _ E hr=>⟨_,(J6 (JI (PW.pt (U7 (U3 (Uk (K:=K) (UD (Kp (K:=K)) (by rfl) G.isinstance W1 (bz (pv 0) (Ka (v:=.ty "list") rfl G.list boot_list rfl))))) (UH (cn K hr (ln K G.len (pv 0)) (ln K G.len (pv 1)))))) (J7 (JC Uw))
   JJ) (J6 (UP YI rfl (Kn rfl G.range (az (ln K G.len (pv 1)))) (gz 2 Bz.nd) (J6 (JI (PW.pt (U7 (U3 (Uk (K:=K) (UD (Kp (K:=K)) (by rfl) G.isinstance W1 (bz (jx K (pv 0) (pv 2)) (Ka (v:=.ty "tuple") rfl G.tuple boot_tuple rfl))))) (UH (cn K hr (ln K G.len (jx K (pv 0) (pv 2))) (ln K G.len (jx K (pv 1) (pv 2))))))) (J7 (JC Uw))
   JJ) (J7 (UP YI rfl (Kn rfl G.range (az (ln K G.len (jx K (pv 1) (pv 2))))) (gz 3 Bz.nd) (J7 (JI (PW.pt (U7 (U3 (Uk (K:=K) (fz Zh hr (az (jx K (jx K (pv 0) (pv 2)) (pv 3)))))) (UH (cn K hr (jx K (jx K (pv 0) (pv 2)) (pv 3)) (jx K (jx K (pv 1) (pv 2)) (pv 3)))))) (J7 (JC Uw))
   JJ)))))) (J7 (JC Uw)))), (J4 (JL (UA (US (U0 (Kt (tz (J0 0) Kg)))) (JE (X5 (Ug (sz (J0 0))) (Ug (sz (J0 1)))))) (JG Ur) JK) (J4 (UL [2,3] (Kb (sz (Ug (sz (J0 1))))) (JA 2) (J4 (JL (UA (US (U0 (Kt (tz (J8 (J0 0) (J0 2)) Kg)))) (JE (X5 (Ug (sz (J8 (J0 0) (J0 2)))) (Ug (sz (J8 (J0 1) (J0 2))))))) (JG Ur) JK) (UL [3] (Kb (sz (Ug (sz (J8 (J0 1) (J0 2)))))) (JA 3) (JL (UA (US (U0 (JH (sz (J8 (J8 (J0 0) (J0 2)) (J0 3)))))) (JE (X5 (J8 (J8 (J0 0) (J0 2)) (J0 3)) (J8 (J8 (J0 1) (J0 2)) (J0 3))))) (JG Ur) JK)))) (JG Ur)))⟩) (.a fun ds R X h=>?_)
 ·obtain⟨ps,rfl,hz,hR⟩:=h;refine⟨rfl,?_⟩;have hl:(ps.map prD).length=ps.length:=Yn ..;refine⟨_,.same _,iteF (KI rfl ?_)⟩;refine⟨⟨by omega,by omega⟩,XZ (fun i γ'=>∃t,γ'=[some (.bor (.lst (ps.map prD))),some (.bor (.lst (ps.map prD))),none,t]) ⟨_,rfl⟩ ?_ ?_⟩
  ·rintro i γ' hi ⟨t,rfl⟩;have hi':i<(((ps.map prD).length:Nat):Int).toNat:=hi;have ez:(0:Int)+(i:Int)=(i:Int):=by omega
   have hb:i<ps.length:=by omega
   have ha:atI (ps.map prD) (0+(i:Int))=some (prD ps[i]):=by rw[ez];exact Bc hb
   generalize ps[i]=q at ha;refine⟨_,ha,_,.same _,iteF ⟨_,ha,_,ha,?_⟩⟩;refine⟨_,ha,⟨(by show -(2 ^ 62)<=(2:Int);decide),(by show(2:Int)<2 ^ 62;decide)⟩,XZ (fun j γ'=>∃t,γ'=[some (.bor (.lst (ps.map prD))),some (.bor (.lst (ps.map prD))),some (.sh (.int (0+(i:Int)))),t]) ⟨_,rfl⟩ ?_ ?_⟩
   ·rintro j γ' hj ⟨t,rfl⟩;have hj2:j<2:=hj
    obtain⟨z,ea⟩:∃z:Int,atI [D.int q.1,D.int q.2] (0+(j:Int))=some (.int z):=by
     have:j=0\/j=1:=by omega
     rcases this with rfl|rfl
     ·exact⟨_,rfl⟩
     ·exact⟨_,rfl⟩
    exact⟨_,ha,_,ea,z,rfl,iteF ⟨_,ha,_,ea,_,ha,_,ea,KI rfl ⟨_,rfl⟩⟩⟩
   ·rintro γ' ⟨t,rfl⟩;exact⟨_,rfl⟩
  ·rintro γ' ⟨t,rfl⟩;exact hR
def R9 (G:Glob K mg) (DD:Def K mg "_law_deed_is" Fj ["_law_found","_law_due"])
  (Zh:Px P w K mg base)
  : SC P w K mg base:=by
 refine DD.oz (k:=1) GL (fun _ _ _ _ _ _ E hr=>⟨_,(J6 (JI (PW.pt (U7 (U3 (Uk (K:=K) (UD (Kp (K:=K)) (by rfl) G.isinstance W1 (bz (pv 0) (Ka (v:=.ty "tuple") rfl G.tuple boot_tuple rfl))))) (U7 (cn K hr (ln K G.len (pv 0)) (ln K G.len (pv 1))) (UH (U3 (Uk (K:=K) (UD (Kp (K:=K)) (by rfl) G.isinstance W1 (bz (jx K (pv 0) J2) (Ka (v:=.ty "str") rfl G.str boot_str rfl))))))))) (J7 (JC Uw))
   JJ) (J6 (JI (cn K hr (jx K (pv 0) J2) (jx K (pv 1) J2)) (J7 (JC Uw))
   JJ) (J6 (UP YI rfl (Hr rfl G.range (bz J2 (ln K G.len (pv 1)))) (gz 2 GL.nd) (J7 (JI (PW.pt (U7 (U3 (Uk (K:=K) (fz Zh hr (az (jx K (pv 0) (pv 2)))))) (UH (cn K hr (jx K (pv 0) (pv 2)) (jx K (pv 1) (pv 2)))))) (J7 (JC Uw))
   JJ))) (J7 (JC Uw))))), (J4 (JL (UA (US (U0 (Kt (tz (J0 0) Kg)))) (UA (JE (X5 (Ug (sz (J0 0))) (Ug (sz (J0 1))))) (US (U0 (Kt (tz (J8 (J0 0) J1) Kg)))))) (JG Ur) JK) (J4 (JL (JE (X5 (J8 (J0 0) J1) (J8 (J0 1) J1))) (JG Ur) JK) (J4 (UL [2] (AS (tz J1 (Ug (sz (J0 1))))) (JA 2) (JL (UA (US (U0 (JH (sz (J8 (J0 0) (J0 2)))))) (JE (X5 (J8 (J0 0) (J0 2)) (J8 (J0 1) (J0 2))))) (JG Ur) JK)) (JG Ur))))⟩) (.a fun ds R X h=>?_)
 ·obtain⟨q,rfl,hz,hR⟩:=h;refine⟨rfl,?_⟩;have hl:(D.str q.1::q.2.map D.int).length=q.2.length+1:=by rw[YD,Yn]
  rw[Le];show _;rw[YA,Sj];refine⟨_,.same _,iteF (KI rfl ⟨_,UX _ _,_,.same _,iteF ⟨_,UX _ _,_,UX _ _,KI rfl ?_⟩⟩)⟩;refine⟨⟨by omega,by omega⟩,XZ (fun i γ'=>γ'=[some (.sh (dD q)),some (.sh (dD q)),none]) rfl ?_ ?_⟩
  ·rintro i γ' hi rfl
   have hi':i<q.2.length:=by
    have:i<((((D.str q.1::q.2.map D.int).length:Nat):Int)-1).toNat:=hi
    omega
   exact⟨_,BX hi',_,rfl,iteF ⟨_,BX hi',_,BX hi',KI rfl rfl⟩⟩
  ·rintro γ' rfl;exact hR
def L5 (G:Glob K mg) (DD:Def K mg "_law_step" FY ["_law_now","_law_deed_here"])
  (Z7:Az P w K mg base)
  (Z8:GQ P w K mg base)
  : E9 P w K mg base:=by
 refine DD.oz (k:=1) Sv (fun _ _ _ _ _ _ E hr=>⟨_,(J6 (JI (PW.pt (U7 (cq K hr (jx K (pv 1) J2) Ul) (UH (cq K hr (jx K (pv 1) J2) Ul)))) (J6 (Pu.pz 2 Sv.nd (fz Z8 hr (bz (jx K (pv 0) J2) (pv 1)))) (J7 (JC (JO (dz (jx K (pv 2) J2) (jx K (pv 0) J2) (jx K (pv 2) J2))))))
   JJ) (J6 (Pu.pz 2 Sv.nd (fz Z7 hr (bz (jx K (pv 0) J2) (pv 1)))) (J7 (JC (JO (dz (jx K (pv 2) J2) (jx K (pv 2) J2) (jx K (pv 0) J2))))))), (J4 (JL (UA (JE (Uj (J8 (J0 1) J1) Um)) (JE (Uj (J8 (J0 1) J1) Um))) (J4 (JM 1 (JF (BM (tz (J8 (J0 0) J1) (J0 1))) (JA 2))) (JG (JN (uz (J8 (J0 2) J1) (J8 (J0 0) J1) (J8 (J0 2) J1))))) JK) (J4 (JM 1 (JF (BM (tz (J8 (J0 0) J1) (J0 1))) (JA 2))) (JG (JN (uz (J8 (J0 2) J1) (J8 (J0 2) J1) (J8 (J0 0) J1))))))⟩) (.b fun ds R X h=>?_)
 ·obtain⟨f,w,ds,x,rfl,hz,hw,hR⟩:=h;refine⟨rfl,?_⟩;have at1:atI (plD f::plD w::ds) 1=some (plD w):=Na (by decide) rfl
  have land:∀x:Dd,x.land=true->R (.own [.int (codeN (x.err f w)),plD (x.nf f w),plD (x.nw f w)])->R (.own [.int (codeN (x.err f [])),plD (x.fld' f),plD w]):=fun x h k=>by
   have e:=x.err_land h f w [];have e2:x.wsh w=w:=by cases x<;>first|rfl|cases h
   unfold Dd.nf Dd.nw at k;rw[e2,e,ite_self] at k;unfold Dd.fld';exact k
  have wish:∀x:Dd,x.land=false->R (.own [.int (codeN (x.err f w)),plD (x.nf f w),plD (x.nw f w)])->R (.own [.int (codeN (x.err [] w)),plD f,plD (x.wsh' w)]):=fun x h k=>by
   have e:=x.err_wish h f [] w;have e2:x.fld f=f:=by cases x<;>first|rfl|cases h
   unfold Dd.nf Dd.nw at k;rw[e2,e,ite_self] at k;unfold Dd.wsh';exact k
  cases x with
  | sell p h=>exact⟨_,rfl,_,rfl,_,UX _ _,f,.sell p h,rfl,rfl,hz,_,rfl,_,rfl,_,at1,by simp,land _ rfl hR⟩
  | part p h=>exact⟨_,rfl,_,rfl,_,UX _ _,f,.part p h,rfl,rfl,hz,_,rfl,_,rfl,_,at1,by simp,land _ rfl hR⟩
  | unite p=>exact⟨_,rfl,_,rfl,_,UX _ _,f,.unite p,rfl,rfl,hz,_,rfl,_,rfl,_,at1,by simp,land _ rfl hR⟩
  | wish a b=>exact⟨_,rfl,_,at1,w,.wish a b,rfl,rfl,hw,_,rfl,_,UX _ _,_,rfl,by simp,wish _ rfl hR⟩
  | drop a b=>exact⟨_,rfl,_,rfl,_,at1,w,.drop a b,rfl,rfl,hw,_,rfl,_,UX _ _,_,rfl,by simp,wish _ rfl hR⟩
def LR (G:Glob K mg) (DD:Def K mg "_law_start" Af ["_law_script","_law_menu_here","_law_many"])
  (Zb:Pj P w K mg base)
  (Ze:Pn P w K mg base)
  (Zi:T5 P w K mg base)
  : Cj P w K mg base:=by
 refine DD.oz (k:=1) K8 (fun _ _ _ _ _ _ E hr=>⟨_,(J6 (Pu.pz 3 K8.nd (fz Zb hr (bz (pv 0) J2))) (J6 (Pu.pz 4 K8.nd (JO Uh)) (J6 (UP YI rfl (Kn rfl G.range (az (pv 2))) (gz 5 K8.nd) (J6 (Pu.pz 6 K8.nd (pv 3)) (KO (JI (cq K hr (J9 JZ (fz Zb hr (bz (pv 0) J2)) J2) J2) (J7 (Pu.pz 6 K8.nd (fz Ze hr (bz (fz Zb hr (bz (pv 0) J2)) (J9 Ud J2 (pv 5))))))
   JJ) (J6 (Pu.pz 7 K8.nd (J9 Ud (jx K (pv 1) J2) (J9 JZ (J9 U8 (pv 6) (jx K (pv 1) J2)) (jx K (pv 1) J2)))) (J6 (Uu (Km YJ Wh Wi Kk (pv 4) (az (Uc (bz (fz Zi hr (bz (pv 1) (J9 JZ (pv 6) (jx K (pv 1) J2)))) (pv 7)))))) (J7 (Pu.pz 3 K8.nd (J9 U8 (J9 U8 (pv 3) (jx K (pv 1) J2)) (jx K (pv 1) J2))))))))) (J7 (JC (pv 4)))))), (J4 (JF (JH (tz (J0 0) J1)) (JA 3)) (J4 (JF (JN JQ) (JA 4)) (J4 (UL [5,6,7] (Kb (sz (J0 2))) (JA 5) (J4 (JM 3 (JF (J0 3) (JA 6))) (Po (JL (JE (Uj (Ua (JH (tz (J0 0) J1)) J1) J1)) (JF (JH (tz (JH (tz (J0 0) J1)) (Ue J1 (J0 5)))) (JA 6)) JK) (J4 (JF (Ue (J8 (J0 1) J1) (Ua (U6 (J0 6) (J8 (J0 1) J1)) (J8 (J0 1) J1))) (JA 7)) (J4 (JM 7 (PH 4 (Ub (tz (JH (tz (J0 1) (Ua (J0 6) (J8 (J0 1) J1)))) (J0 7))))) (JF (U6 (U6 (J0 3) (J8 (J0 1) J1)) (J8 (J0 1) J1)) (JA 3))))))) (XN 4))))⟩) (.a fun ds R X h=>?_)
 ·obtain⟨ns,m,n,rfl,hM,h0,h1,hR⟩:=h;refine⟨rfl,?_⟩;have hMM:=hM;obtain⟨a,b,c,d,e,rfl,ha,hb,hc,hd,he⟩:=hM;refine⟨ns,2,rfl,by decide,by simp,⟨by omega,by omega⟩,XZ (fun i γ'=>∃(ps:List (Int×Int)) (r:Int),γ'=[some (.bor (.scr ns)),some (.bor (.lst (([a,b,c,d,e]:List Int).map D.int))),some (.sh (.int n)),some (.sh (.int r)),some (.own (ps.map prD)),none,none,none]/\Field ps/\ps.length=i) ⟨[],_,rfl,(fun q hq=>by cases hq),rfl⟩ ?_ ?_⟩
  ·rintro i γ' hi ⟨ps,r,rfl,hF,hl⟩;have hlm:(ps.map prD).length=ps.length:=Yn ..;have hi':i<n.toNat:=hi;refine Ky (fun γ'=>∃(v:Int) (t:Option S),γ'=[some (.bor (.scr ns)),some (.bor (.lst (([a,b,c,d,e]:List Int).map D.int))),some (.sh (.int n)),some (.sh (.int r)),some (.own (ps.map prD)),t,some (.sh (.int v)),none]) ?_ ?_
   ·refine⟨ns,0,rfl,by decide,(by show(0:Int)<2;decide),ite2 (fun _=>?_) (fun _=>⟨_,_,rfl⟩)⟩;exact⟨ns,1,rfl,by decide,_,_,rfl,_,_,rfl⟩
   ·rintro γ' ⟨v,t,rfl⟩;have q1:=Va (v / a) (show d≠0 by omega);have q2:=Q8 (v / a) (show 0<d by omega);refine⟨_,rfl,_,rfl,⟨by omega,by omega⟩,_,rfl,(by show 0<d;omega),_,rfl,(by show 0<a;omega),[a,b,c,d,e],_,rfl,hMM,fun h l1 l2 _=>⟨by simp,by omega,?_⟩⟩;refine⟨_,rfl,⟨by omega,by omega⟩,_,rfl,⟨by omega,by omega⟩,ps++[(h,e+v / a % d)],r / a / d,?_,fun q hq=>?_,by rw[Yv,hl];rfl⟩
    ·rw[YC];rfl
    ·rcases YL.mp hq with hq|hq
     ·exact hF q hq
     ·rw[Yw] at hq;subst hq;exact⟨l1,l2,by show 1<=e+v / a % d;omega,by show e+v / a % d<=1000;omega⟩
  ·rintro γ' ⟨ps,r,rfl,hF,hl⟩;exact hR ps hF hl
def OJ (G:Glob K mg) (DD:Def K mg "_law_days" B8 ["_law_script","_law_most"])
  (Ze:Pn P w K mg base)
  (Zb:Pj P w K mg base)
  : DA P w K mg base:=by
 refine DD.oz (k:=1) Rw (fun _ _ _ _ _ _ E hr=>⟨_,(J6 (JI (cq K hr (J9 JZ (fz Zb hr (bz (pv 0) J2)) J2) J2) (J7 (JC (Xq (Xp (K:=K)) (pv 0) (Xg J2) (Xg (J9 Ud J2 (pv 1))))))
   JJ) (J7 (JC (UZ (N':=["_law_k","_law_script"]) (φ:=[none,some 0]) rfl (Own.CompOk.of (by rfl)) (Kn rfl G.range (az (J9 JZ (fz Zb hr (bz (pv 0) J2)) (J9 Ud (pv 1) J2)))) (fun _ _ _ _ _=>⟨(gz 0 (show(["_law_k","_law_script"]:List Str).Nodup from by decide +kernel)),X0,(fz Ze hr (bz (fz Zb hr (bz (pv 1) J2)) (J9 Ud J2 (pv 0))))⟩))))), (J4 (JL (JE (Uj (Ua (JH (tz (J0 0) J1)) J1) J1)) (JG (MZ (J0 0) (Xf J1) (Xf (Ue J1 (J0 1))))) JK) (JG (UJ (SndI.c (Kb (sz (Ua (JH (tz (J0 0) J1)) (Ue (J0 1) J1))))) (JA 0) XI (JH (tz (JH (tz (J0 1) J1)) (Ue J1 (J0 0)))))))⟩) (.a fun ds R X h=>?_)
 ·obtain⟨ns,n,rfl,h0,h1,hR⟩:=h;refine⟨rfl,?_⟩;refine⟨ns,0,rfl,by decide,(by show(0:Int)<2;decide),ite2 (fun _=>?_) (fun _=>?_)⟩
  ·refine hR _ ?_;unfold Pu.cutD;rw[Wv]
   have e3:HT.sIx ns.length 0 (some 3)=min 3 ns.length:=by
    rw[show(3:Int)=((3:Nat):Int) by rfl,HT.NH]
   have e2:HT.sIx ns.length ns.length (some (3+n))=min (3+n).toNat ns.length:=by
    rw[show(3+n:Int)=(((3+n).toNat:Nat):Int) by omega,HT.NH];rfl
   rw[e3,e2];omega
  ·refine⟨ns,2,rfl,by decide,(by show 0<n+1;omega),?_⟩;have q1:=Va (ns.getD (2:Int).toNat 0) (show n+1≠0 by omega);have q2:=Q8 (ns.getD (2:Int).toNat 0) (show 0<n+1 by omega);refine⟨⟨by omega,by omega⟩,EX (fun i=>some (.int (mixP (ns.getD (1:Int).toNat 0) (200+(0+(i:Int)))))) (by omega) (fun i hi=>⟨ns,1,rfl,by decide,_,_,rfl,_,rfl,rfl⟩) ?_⟩
   have e:(List.range (ns.getD (2:Int).toNat 0 % (n+1)).toNat).filterMap (fun i:Nat=>some (D.int (mixP (ns.getD (1:Int).toNat 0) (200+(0+(i:Int))))))=((List.range (ns.getD (2:Int).toNat 0 % (n+1)).toNat).map fun i:Nat=>mixP (ns.getD (1:Int).toNat 0) (200+(0+(i:Int)))).map D.int:=by
    rw[Qp,Wg];rfl
   rw[e];refine hR _ ?_;rw[Yn,Vn];omega
def HY (G:Glob K mg) (DD:Def K mg "_law_pair" Bh ["_law_cell","_law_menu_here"])
  (Zo:FM P w K mg base)
  (Zi:T5 P w K mg base)
  : BO P w K mg base:=by
 refine DD.oz (k:=1) Tw (fun _ _ _ _ _ _ E hr=>⟨_,(J6 (Pu.pz 2 Tw.nd (jx K (JO (JP J2 (JP (jx K (pv 1) J2) (JP (jx K (pv 1) J2) (JP (jx K (pv 1) J2) Uh))))) (J9 JZ (pv 0) J2))) (J6 (Pu.pz 3 Tw.nd (J9 JZ (J9 U8 (pv 0) J2) (pv 2))) (J6 (Pu.pz 4 Tw.nd (J9 JZ (J9 Ud (J9 Ud (pv 3) J2) (J9 JZ (J9 U8 (pv 0) J2) (UD (En rfl) (by rfl) G.max boot_max (bz J2 (J9 UV (pv 2) J2))))) (pv 2))) (J6 (Pu.pz 5 Tw.nd (fz Zo hr (bz (J9 U8 (pv 0) J2) (fz Zi hr (bz (pv 1) (pv 3)))))) (J7 (JC (Uc (bz (pv 5) (fz Zo hr (bz (J9 U8 (pv 0) J2) (fz Zi hr (bz (pv 1) (pv 4))))))))))))), (J4 (JF (J8 (JN (JR J1 (JR (J8 (J0 1) J1) (JR (J8 (J0 1) J1) (JR (J8 (J0 1) J1) JQ))))) (Ua (J0 0) J1)) (JA 2)) (J4 (JF (Ua (U6 (J0 0) J1) (J0 2)) (JA 3)) (J4 (JF (Ua (Ue (Ue (J0 3) J1) (Ua (U6 (J0 0) J1) (EJ (tz J1 (UU (J0 2) J1))))) (J0 2)) (JA 4)) (J4 (JF (JH (tz (U6 (J0 0) J1) (JH (tz (J0 1) (J0 3))))) (JA 5)) (JM 5 (JG (Ub (tz (J0 5) (JH (tz (U6 (J0 0) J1) (JH (tz (J0 1) (J0 4)))))))))))))⟩) (.a fun ds R X h=>?_)
 ·obtain⟨c,m,rfl,hM,hR⟩:=h;refine⟨rfl,?_⟩;have hMM:=hM;obtain⟨a,b,e,d,f,rfl,ha,hb,he,hd,hf⟩:=hM;have h4:0<=c % 4/\c % 4<4:=by omega
  obtain⟨pool,ep,hp⟩:∃p:Int,atI [D.int 10,.int a,.int a,.int a] (c % 4)=some (.int p)/\1<=p/\p<=10:=by
   have:c % 4=0\/c % 4=1\/c % 4=2\/c % 4=3:=by omega
   rcases this with e|e|e|e<;>rw[e]
   ·exact⟨10,rfl,by decide,by decide⟩
   ·exact⟨a,rfl,ha⟩
   ·exact⟨a,rfl,ha⟩
   ·exact⟨a,rfl,ha⟩
  have hmx:0<(if pool-1>1 then pool-1 else 1):=by split<;>omega
  refine⟨_,rfl,_,rfl,_,rfl,by simp,(by show(0:Int)<4;decide),_,ep,?_⟩;refine⟨⟨by decide,by decide⟩,(by show 0<pool;omega),⟨by decide,by decide⟩,hmx,(by show 0<pool;omega),?_⟩;refine⟨⟨by decide,by decide⟩,_,_,rfl,hMM,fun h1 _ _ _=>⟨_,_,rfl,fun v1=>?_⟩⟩;exact⟨⟨by decide,by decide⟩,_,_,rfl,hMM,fun h2 _ _ _=>⟨_,_,rfl,fun v2=>⟨by simp,hR v1 v2⟩⟩⟩
def MT (G:Glob K mg) (DD:Def K mg "find_ring" An ["holders","wishes"])
  (Z9:G1 P w K mg base)
  : DY P w K mg base:=by
 refine DD.oz (k:=2) Tu (fun _ _ _ _ _ _ E hr=>⟨_,(J6 (Pu.pz 2 Tu.nd (JO Uh)) (J6 (UP YI rfl (Uy (K:=K) (UD (Ss (K:=K) (w:=w) rfl) (by rfl) G.sorted boot_sorted (az (pv 0)))) (gz 3 Tu.nd) (J6 (Pu.pz 4 Tu.nd (fz Z9 hr (dz (pv 3) (pv 0) (pv 1)))) (J7 (JI (PW.pt (Nm (Uk (K:=K) (pv 4)) (NA (PW.pt (U7 (U3 (Uk (K:=K) (pv 2))) (UH (JU Xd (ln K G.len (pv 4)) (ln K G.len (pv 2)) (JV _)))))))) (J7 (Pu.pz 2 Tu.nd (pv 4)))
   JJ)))) (J7 (JC (pv 2))))), (J4 (JF (JN JQ) (JA 2)) (J4 (JM 2 (UL [3,4] (XO (S8 (sz (J0 0)))) (JA 3) (J4 (JF (JH (uz (J0 3) (J0 0) (J0 1))) (JA 4)) (JL (Ts (U0 (J0 4)) (UA (US (U0 (J0 2))) (JE (Xm (Ug (sz (J0 4))) (Ug (sz (J0 2))))))) (JM 4 (JF (J0 4) (JA 2))) JK)))) (JM 2 (XN 2))))⟩) (.a fun ds R X h=>?_)
 ·obtain⟨hs,ws,rfl,hz,hN,hR⟩:=h;refine⟨rfl,?_⟩;refine⟨by simp,hs,rfl,by omega,fun ns hp hsrt=>?_⟩;refine⟨rfl,XE (xs:=ns) (emb:=D.int) (fun i γ'=>γ'=[some (.bor (.lst (hs.map D.int))),some (.bor (.lst (ws.map prD))),some (.sh (.lst [])),none,none]) rfl ?_ ?_⟩
  ·rintro i hi γ' rfl;have hl:=hN ns[i] (hp.mem_iff.mp (YH hi));generalize ns[i]=l at hl ⊢;exact⟨l,hs,ws,rfl,hz,hl,rfl⟩
  ·rintro γ' rfl;exact hR
def O1 (G:Glob K mg) (DD:Def K mg "least_costs" BP ["strips","wishes","pairs"])
  (ZA:D4 P w K mg base)
  (Zj:Nw P w K mg base)
  (ZC:GE P w K mg base)
  (ZD:CD P w K mg base)
  : Bx P w K mg base:=by
 refine DD.oz (k:=2) Nu (fun _ _ _ _ _ _ E hr=>⟨_,(J6 (Pu.pz 3 Nu.nd (Zao (UK hr) (Uc Uh) J2)) (J6 (UP YI rfl (Uy (K:=K) (Xq (Xp (K:=K)) (fz ZA hr (az (fz Zj hr (az (pv 0))))) (Xg J2) Xs)) (gz 4 Nu.nd) (J6 (KZ (N':=["holder","members","wishes"]) (φ:=[none,some 4,some 1]) (i:=5) Nu.nd rfl rfl rfl (Own.CompOk.of (by rfl)) (Nj (K:=K) (pv 4)) (fun _ _ _ _ _=>⟨(gz 0 (show(["holder","members","wishes"]:List Str).Nodup from by decide +kernel)),(XG (Uk (K:=K) (fz ZC hr (dz (pv 1) (pv 0) (pv 2))))),(pv 0)⟩)) (J7 (BH (UK hr) (pv 3) (pv 4) (UD (MH (K:=K) rfl) (by rfl) G.min boot_min (az (UZ (N':=["last","members","least","pairs"]) (φ:=[none,some 4,some 3,some 2]) rfl (Own.CompOk.of (by rfl)) (Uy (K:=K) (pv 5)) (fun _ _ _ _ _=>⟨(gz 0 (show(["last","members","least","pairs"]:List Str).Nodup from by decide +kernel)),X0,(fz ZD hr (JP (pv 1) (JP (pv 0) (JP (pv 2) (JP (pv 3) Uh)))))⟩)))) rfl)))) (J7 (JC (pv 3))))), (J4 (JF (Zea (Ub JQ) J1) (JA 3)) (J4 (UL [4,5] (XO (X6 (JH (sz (JH (sz (J0 0))))) (Xf J1) Xt)) (JA 4) (J4 (JF (UJ (SndI.c (Tn (J0 4))) (JA 0) (U0 (JH (uz (J0 1) (J0 0) (J0 2)))) (J0 0)) (JA 5)) (B9 3 (J0 4) (Lk (sz (UJ (Xj (J0 5)) (JA 0) XI (JH (JR (J0 1) (JR (J0 0) (JR (J0 2) (JR (J0 3) JQ))))))))))) (XN 3)))⟩) (.a fun ds R X h=>?_)
 ·obtain⟨ps,ws,pa,c,rfl,hF,hz,hw,hu,hc,hL,hR⟩:=h;refine⟨rfl,?_⟩;refine⟨by simp,_,_,rfl,rfl,?_⟩;refine⟨ps,rfl,hF,hz,_,rfl,PP ps,?_⟩;have hh:=PP ps;have nd:(JT ps).Nodup:=(KS ps).imp (fun h=>Vq h);generalize JT ps=hs at hh nd hc hL hR ⊢;have hsl:=EA hs;have hsub:=Ni hs;have hbef:=E7 nd;have hsn:=E3 nd
  have hlen:(Ui hs).length<=1024:=by
   rw[hsl];exact Nat.pow_le_pow_right (j:=10) (by decide) hh
  obtain⟨T,eT⟩:=Zaa hs;rw[eT] at hsub hbef hsn hlen hR ⊢;refine⟨rfl,rfl,?_⟩
  have ec:Pu.cutD (List.map tD ([]::T)) (some 1) none=T.map tD:=by
   rw[KL,T1 _ (by decide)];rfl
  rw[ec];refine XE (xs:=T) (emb:=tD) (fun i γ'=>∃kvs:List (List Key×V),γ'=[some (.bor (.lst (ps.map prD))),some (.bor (.lst (ws.map prD))),some (.bor (.dT pa)),some (.own (.dT kvs)),none,none]/\Tab ws c ([]::T.take i) kvs) ⟨_,rfl,OT ws c⟩ ?_ ?_
  ·rintro i hi γ' ⟨kvs,rfl,ht⟩;have em:([]::T)[i+1]?=some T[i]:=by rw[Wf,Yp hi]
   have hmem:T[i]∈[]::T:=YE em;have hsm:=hsub _ hmem;have hne:T[i]≠[]:=fun e=>(YX.mp hsn).1 (e▸YH hi)
   have hnew:T[i]∉[]::T.take i:=fun z=>by
    rcases Y4.mp z with z|z
    ·exact hne z
    ·obtain⟨j,hj,e⟩:=W9.mp z;rw[Wv] at hj;rw[List.getElem_take] at e;exact List.pairwise_iff_getElem.mp (YX.mp hsn).2 j i (by omega) hi (by omega) e
   have hml:T[i].length<=10:=Y8 hsm.length_le hh
   have hless:∀l∈T[i],JW T[i] l∈[]::T.take i:=fun l hl=>by
    obtain⟨j,hj,e⟩:=hbef (i+1) _ em l hl
    have:([]::T.take i)=([]::T).take (i+1):=by rw[List.take_succ_cons]
    rw[this];refine YE (i:=j) ?_;rw[W7 hj];exact e
   have ndm:T[i].Nodup:=nd.sublist hsm
   have hkl:kvs.length<=1024:=by
    have:=Wa List.length ht.keys
    rw[Yn,Yn,YD,Wv] at this;rw[YD] at hlen;omega
   have etk:[]::T.take (i+1)=([]::T.take i)++[T[i]]:=by rw[W2 hi];rfl
   rw[etk];generalize T[i]=ms at *;obtain⟨vs,hvs⟩:=Ej fun l hl=>ht.val _ (hless l hl);obtain⟨l0,hl0,hl0'⟩:=hL ms hsm hne;refine⟨_,rfl,UR (s:=.sh .non) (xs:=ms) (emb:=D.int) (fun h=>if Kf ws ms h=true then some (.int h) else none) (by omega) (fun h hm=>?_) ?_⟩
   ·refine⟨ms,h,ws,rfl,hw,?_⟩;refine ite2 (fun g=>⟨_,rfl,Ys g⟩) (fun g=>Yq g)
   ·rw[XC (fun h=>Kf ws ms h)];refine UR (xs:=ms.filter (fun h=>Kf ws ms h)) (emb:=D.int) (fun l=>some (.int (vs l+((JW ms l).map (c · l)).sum))) (Y8 (Wk _ _) (by omega)) (fun l hl=>?_) ?_
    ·obtain⟨hl1,hl2⟩:=YO.mp hl;exact⟨ms,l,kvs,pa,(c · l),vs l,rfl,by omega,(hvs l hl1).1,fun m hm=>hc m (hsm.subset (less_sub.subset hm)) l (hsm.subset hl1),_,rfl,rfl⟩
    ·rw[mapD];refine⟨(ms.filter (fun h=>Kf ws ms h)).map fun l=>vs l+((JW ms l).map (c · l)).sum,by rw[Wg];rfl,?_,fun M hM hle=>⟨_,_,N7 ms,rfl,by omega,_,rfl,ht.put hnew (Zfi ndm hu (fun l hl=>(hvs l hl).2) ?_ ?_)⟩⟩
     ·rw[Yn];exact List.length_pos_of_mem (YO.mpr ⟨hl0,lastM_iff.mpr hl0'⟩)
     ·obtain⟨l,hl,e⟩:=YR.mp hM;obtain⟨hl1,hl2⟩:=YO.mp hl;exact⟨l,hl1,hl2,e.symm⟩
     ·intro l hl hlast;exact hle _ (YR.mpr ⟨l,YO.mpr ⟨hl,hlast⟩,rfl⟩)
  ·rintro γ' ⟨kvs,rfl,ht⟩;rw[Qz] at ht;exact hR kvs ht
def Lj (G:Glob K mg) (DD:Pu.DefM K (Mk K (ExcR.JB mg "Village")) "__init__" "Village.__init__" SH ["self","strips"])
  (ZE:EU P w K mg base)
  : D9 P w K mg base:=by
 refine DD.ox (k:=2) HH (fun _ _ _ _ _ _ E hr=>⟨_,(J6 (Uu (Xa ZE (hr.mono (by decide)) ExcR.UG (az (pv 1)))) (J6 (FX (pv 0) (JO Uh) rfl) (J6 (FX (pv 0) (JO (az (Xw (P5 (K:=K)) (by rfl) G.list boot_list (az (pv 1))))) rfl) (J7 (FX (pv 0) (JO (az (JO Uh))) rfl))))), (J4 (Xi (Xv (sz (J0 1)))) (J4 (SL 0 G.cl_Village G.n_Village_book Zfr (JN JQ)) (J4 (SL 0 G.cl_Village G.n_Village_fields Zef (JN (sz (Td (sz (J0 1)))))) (SL 0 G.cl_Village G.n_Village_wished Zdb (JN (sz (JN JQ)))))))⟩) (.c fun o ss R X h=>?_)
 ·obtain⟨x,ps,rfl,rfl,hz,hR⟩:=h;refine⟨rfl,?_⟩;refine⟨ps,rfl,hz,?_⟩;cases e:Ta ps with
  | some c=>
   rw[e] at hR;exact⟨_,rfl,⟨rfl,by simp⟩,hR⟩
  | none=>
   rw[e] at hR;refine⟨by simp,rfl,rfl,by decide,fun b1=>?_⟩;refine⟨rfl,by simp,rfl,rfl,by decide,fun b2=>?_⟩;refine⟨by simp,by simp,rfl,rfl,by decide,fun b3=>?_⟩;exact⟨_,rfl,⟨rfl,by simp⟩,hR b1 b2 b3⟩
def M4 (G:Glob K mg) (DD:Pu.DefM K (Meth K (ExcR.JB mg "Village") "sell") "sell" "Village.sell" F1 ["self","place","holder"])
  (Zf:PK P w K mg base)
  (Zr:B7 P w K mg base)
  (Zg:PX P w K mg base)
  (Zd:Kd P w K mg base)
  (Zc:Kl P w K mg base)
  : Hd P w K mg base:=by
 refine DD.ox (k:=2) Cs (fun _ _ _ _ _ _ E hr=>⟨_,(J6 (Uu (Ux Zf G.cl_Village (hr.mono (by decide)) ExcR.UG (pv 0))) (J6 (Pu.pz 3 Cs.nd (Xa Zr (hr.mono (by decide)) ExcR.UG (dz (Ux Zd G.cl_Village (hr.mono (by decide)) Ut (pv 0)) (pv 1) (pv 2)))) (J7 (JC (XS Zg G.cl_Village (hr.mono (by decide)) Ut (pv 0) (dz (Uc (dz Ul (pv 1) (pv 2))) (pv 3) (Ux Zc G.cl_Village (hr.mono (by decide)) Ut (pv 0)))))))), (J4 (Xi (Ng Tq (J0 0) JQ)) (J4 (JF (Xv (uz (UE Kv (J0 0) JQ) (J0 1) (J0 2))) (JA 3)) (JM 2 (JM 1 (JM 3 (XW (Tc 0 To (uz (Ub (uz Um (J0 1) (J0 2))) (J0 3) (UE Kr (J0 0) JQ)))))))))⟩) (.c fun o ss R X h=>?_)
 ·obtain⟨x,b1,b2,b3,bk,fs,ws,f,w,p,h,rfl,rfl,hb,hf,hw,hz,hR⟩:=h;refine⟨rfl,?_⟩;unfold NB at hR;refine⟨rfl,rfl,bk,fs++[f],ws++[w],rfl,?_⟩;unfold Pt;by_cases c:100<=bk.length
  ·rw[Ys c] at hR ⊢;exact⟨_,rfl,⟨rfl,by simp⟩,hR⟩
  ·rw[Yq c] at hR ⊢;refine⟨rfl,rfl,bk,fs,ws++[w],f,rfl,f,p,h,rfl,hz,?_⟩;cases e:UC f p h with
   | some c=>
    rw[e] at hR;exact⟨_,rfl,⟨rfl,by simp⟩,hR⟩
   | none=>
    rw[e] at hR;refine⟨rfl,rfl,by simp,rfl,rfl,bk,fs++[f],ws,w,rfl,?_⟩;exact⟨x,b1,b2,b3,bk,fs++[f],ws++[w],("sell",[p,h]),UY f p h,w,rfl,rfl,hb,by rw[Yv];simp;omega,by rw[Yv];simp;omega,_,rfl,⟨rfl,by simp⟩,hR⟩
def Zfn (G:Glob K mg) (DD:Pu.DefM K (Meth K (ExcR.JB mg "Village") "part") "part" "Village.part" Fy ["self","place","width"])
  (Zf:PK P w K mg base)
  (ZF:ER P w K mg base)
  (Zg:PX P w K mg base)
  (Zd:Kd P w K mg base)
  (Zc:Kl P w K mg base)
  : CO P w K mg base:=by
 refine DD.ox (k:=2) AN (fun _ _ _ _ _ _ E hr=>⟨_,(J6 (Uu (Ux Zf G.cl_Village (hr.mono (by decide)) ExcR.UG (pv 0))) (J6 (Pu.pz 3 AN.nd (Xa ZF (hr.mono (by decide)) ExcR.UG (dz (Ux Zd G.cl_Village (hr.mono (by decide)) Ut (pv 0)) (pv 1) (pv 2)))) (J7 (JC (XS Zg G.cl_Village (hr.mono (by decide)) Ut (pv 0) (dz (Uc (dz Ul (pv 1) (pv 2))) (pv 3) (Ux Zc G.cl_Village (hr.mono (by decide)) Ut (pv 0)))))))), (J4 (Xi (Ng Tq (J0 0) JQ)) (J4 (JF (Xv (uz (UE Kv (J0 0) JQ) (J0 1) (J0 2))) (JA 3)) (JM 2 (JM 1 (JM 3 (XW (Tc 0 To (uz (Ub (uz Um (J0 1) (J0 2))) (J0 3) (UE Kr (J0 0) JQ)))))))))⟩) (.c fun o ss R X h=>?_)
 ·obtain⟨x,b1,b2,b3,bk,fs,ws,f,w,p,h,rfl,rfl,hb,hf,hw,hz,hR⟩:=h;refine⟨rfl,?_⟩;unfold NL at hR;refine⟨rfl,rfl,bk,fs++[f],ws++[w],rfl,?_⟩;unfold Pt;by_cases c:100<=bk.length
  ·rw[Ys c] at hR ⊢;exact⟨_,rfl,⟨rfl,by simp⟩,hR⟩
  ·rw[Yq c] at hR ⊢;refine⟨rfl,rfl,bk,fs,ws++[w],f,rfl,f,p,h,rfl,hz,?_⟩;cases e:UN f p h with
   | some c=>
    rw[e] at hR;exact⟨_,rfl,⟨rfl,by simp⟩,hR⟩
   | none=>
    rw[e] at hR;refine⟨rfl,rfl,by simp,rfl,rfl,bk,fs++[f],ws,w,rfl,?_⟩;exact⟨x,b1,b2,b3,bk,fs++[f],ws++[w],("part",[p,h]),X8 f p h,w,rfl,rfl,hb,by rw[Yv];simp;omega,by rw[Yv];simp;omega,_,rfl,⟨rfl,by simp⟩,hR⟩
def Zac (G:Glob K mg) (DD:Pu.DefM K (Meth K (ExcR.JB mg "Village") "unite") "unite" "Village.unite" By ["self","place"])
  (Zf:PK P w K mg base)
  (ZG:GA P w K mg base)
  (Zg:PX P w K mg base)
  (Zd:Kd P w K mg base)
  (Zc:Kl P w K mg base)
  : EW P w K mg base:=by
 refine DD.ox (k:=2) Hg (fun _ _ _ _ _ _ E hr=>⟨_,(J6 (Uu (Ux Zf G.cl_Village (hr.mono (by decide)) ExcR.UG (pv 0))) (J6 (Pu.pz 2 Hg.nd (Xa ZG (hr.mono (by decide)) ExcR.UG (bz (Ux Zd G.cl_Village (hr.mono (by decide)) Ut (pv 0)) (pv 1)))) (J7 (JC (XS Zg G.cl_Village (hr.mono (by decide)) Ut (pv 0) (dz (Uc (bz Ul (pv 1))) (pv 2) (Ux Zc G.cl_Village (hr.mono (by decide)) Ut (pv 0)))))))), (J4 (Xi (Ng Tq (J0 0) JQ)) (J4 (JF (Xv (tz (UE Kv (J0 0) JQ) (J0 1))) (JA 2)) (JM 1 (JM 2 (XW (Tc 0 To (uz (Ub (tz Um (J0 1))) (J0 2) (UE Kr (J0 0) JQ))))))))⟩) (.c fun o ss R X h=>?_)
 ·obtain⟨x,b1,b2,b3,bk,fs,ws,f,w,p,rfl,rfl,hb,hf,hw,hz,hR⟩:=h;refine⟨rfl,?_⟩;unfold NP at hR;refine⟨rfl,rfl,bk,fs++[f],ws++[w],rfl,?_⟩;unfold Pt;by_cases c:100<=bk.length
  ·rw[Ys c] at hR ⊢;exact⟨_,rfl,⟨rfl,by simp⟩,hR⟩
  ·rw[Yq c] at hR ⊢;refine⟨rfl,rfl,bk,fs,ws++[w],f,rfl,f,p,rfl,hz,?_⟩;cases e:uniE f p with
   | some c=>
    rw[e] at hR;exact⟨_,rfl,⟨rfl,by simp⟩,hR⟩
   | none=>
    rw[e] at hR;refine⟨rfl,rfl,by simp,rfl,rfl,bk,fs++[f],ws,w,rfl,?_⟩;exact⟨x,b1,b2,b3,bk,fs++[f],ws++[w],("unite",[p]),uniL f p,w,rfl,rfl,hb,by rw[Yv];simp;omega,by rw[Yv];simp;omega,_,rfl,⟨rfl,by simp⟩,hR⟩
def HV (G:Glob K mg) (DD:Pu.DefM K (Meth K (ExcR.JB mg "Village") "wish") "wish" "Village.wish" FQ ["self","ahead","behind"])
  (Zf:PK P w K mg base)
  (ZH:CJ P w K mg base)
  (Zg:PX P w K mg base)
  (Zc:Kl P w K mg base)
  (Zd:Kd P w K mg base)
  : GK P w K mg base:=by
 refine DD.ox (k:=2) Hf (fun _ _ _ _ _ _ E hr=>⟨_,(J6 (Uu (Ux Zf G.cl_Village (hr.mono (by decide)) ExcR.UG (pv 0))) (J6 (Pu.pz 3 Hf.nd (Xa ZH (hr.mono (by decide)) ExcR.UG (dz (Ux Zc G.cl_Village (hr.mono (by decide)) Ut (pv 0)) (pv 1) (pv 2)))) (J7 (JC (XS Zg G.cl_Village (hr.mono (by decide)) Ut (pv 0) (dz (Uc (dz Ul (pv 1) (pv 2))) (Ux Zd G.cl_Village (hr.mono (by decide)) Ut (pv 0)) (pv 3))))))), (J4 (Xi (Ng Tq (J0 0) JQ)) (J4 (JF (Xv (uz (UE Kr (J0 0) JQ) (J0 1) (J0 2))) (JA 3)) (JM 2 (JM 1 (JM 3 (XW (Tc 0 To (uz (Ub (uz Um (J0 1) (J0 2))) (UE Kv (J0 0) JQ) (J0 3)))))))))⟩) (.c fun o ss R X h=>?_)
 ·obtain⟨x,b1,b2,b3,bk,fs,ws,f,w,p,h,rfl,rfl,hb,hf,hw,hz,hR⟩:=h;refine⟨rfl,?_⟩;unfold N3 at hR;refine⟨rfl,rfl,bk,fs++[f],ws++[w],rfl,?_⟩;unfold Pt;by_cases c:100<=bk.length
  ·rw[Ys c] at hR ⊢;exact⟨_,rfl,⟨rfl,by simp⟩,hR⟩
  ·rw[Yq c] at hR ⊢;refine⟨rfl,rfl,bk,fs++[f],ws,w,rfl,w,p,h,rfl,hz,?_⟩;cases e:UI w p h with
   | some c=>
    rw[e] at hR;exact⟨_,rfl,⟨rfl,by simp⟩,hR⟩
   | none=>
    rw[e] at hR;refine⟨rfl,rfl,by simp,rfl,rfl,bk,fs,ws++[w],f,rfl,?_⟩;exact⟨x,b1,b2,b3,bk,fs++[f],ws++[w],("wish",[p,h]),f,w++[(p,h)],rfl,rfl,hb,by rw[Yv];simp;omega,by rw[Yv];simp;omega,_,rfl,⟨rfl,by simp⟩,hR⟩
def IA (G:Glob K mg) (DD:Def K mg "_law_book_is" BB ["_law_found","_law_due"])
  (Zs:SC P w K mg base)
  : DC P w K mg base:=by
 refine DD.oz (k:=2) GW (fun _ _ _ _ _ _ E hr=>⟨_,(J6 (JI (PW.pt (U7 (U3 (Uk (K:=K) (UD (Kp (K:=K)) (by rfl) G.isinstance W1 (bz (pv 0) (Ka (v:=.ty "list") rfl G.list boot_list rfl))))) (UH (cn K hr (ln K G.len (pv 0)) (ln K G.len (pv 1)))))) (J7 (JC Uw))
   JJ) (J6 (UP YI rfl (Kn rfl G.range (az (ln K G.len (pv 1)))) (gz 2 GW.nd) (J7 (JI (U3 (Uk (K:=K) (fz Zs hr (bz (jx K (pv 0) (pv 2)) (jx K (pv 1) (pv 2)))))) (J7 (JC Uw))
   JJ))) (J7 (JC Uw)))), (J4 (JL (UA (US (U0 (Kt (tz (J0 0) Kg)))) (JE (X5 (Ug (sz (J0 0))) (Ug (sz (J0 1)))))) (JG Ur) JK) (J4 (UL [2] (Kb (sz (Ug (sz (J0 1))))) (JA 2) (JL (US (U0 (JH (tz (J8 (J0 0) (J0 2)) (J8 (J0 1) (J0 2)))))) (JG Ur) JK)) (JG Ur)))⟩) (.a fun ds R X h=>?_)
 ·obtain⟨bk,rfl,hq,hz,hR⟩:=h;refine⟨rfl,?_⟩;have hl:(bk.map dD).length=bk.length:=Yn ..;refine⟨_,.same _,iteF (KI rfl ?_)⟩;refine⟨⟨by omega,by omega⟩,XZ (fun i γ'=>γ'=[some (.bor (.lst (bk.map dD))),some (.bor (.lst (bk.map dD))),none]) rfl ?_ ?_⟩
  ·rintro i γ' hi rfl;have hi':i<(((bk.map dD).length:Nat):Int).toNat:=hi;have ez:(0:Int)+(i:Int)=(i:Int):=by omega
   have hb:i<bk.length:=by omega
   have ha:atI (bk.map dD) (0+(i:Int))=some (dD bk[i]):=by rw[ez];exact Bc hb
   refine⟨_,ha,_,ha,bk[i],?_,hq _ (YH hb),iteF rfl⟩;show[(arg (dD bk[i])).d,(arg (dD bk[i])).d]=_;rw[Sj];rfl
  ·rintro γ' rfl;exact hR
def Ia (G:Glob K mg) (DD:Def K mg "_law_back" BV ["_law_village","_law_past"])
  (Zt:BL P w K mg base)
  (Zs:SC P w K mg base)
  : AD P w K mg base:=by
 refine DD.oz (k:=2) Pb (fun _ _ _ _ _ _ E hr=>⟨_,(J6 (Pu.pz 2 Pb.nd (Uc Uh)) (J6 (Pu.pz 3 Pb.nd (JO Uh)) (KO (ExcR.Ik (fun pins D=>(J7 (Pu.pz 2 Pb.nd (LL Zt G.cl_Village (hr.mono (by decide)) (ExcR.Zaw (pins:=pins) (D:=D) (i:=4) rfl rfl Pb.nd rfl rfl rfl G.m_NothingDone (by decide) (fun a=>(J7 (Pu.pz 3 Pb.nd (JO (bz (UD (ExcR.CT (K:=K)) (by rfl) G.isinstance W1 (bz (pv 4) (ExcR.Zaq G.m_MeldError))) (UD (ExcR.CT (K:=K)) (by rfl) G.isinstance W1 (bz (pv 4) (Ka (v:=.ty "ValueError") rfl G.ValueError (by decide +kernel) rfl))))))))) (pv 0)))))) (J6 (JI (cq K hr (ln K G.len (pv 1)) J2) (J7 (JC (XT (Rl (K:=K) (show _<cLine from hr.units0)) (pv 3) (JO (bz Uw Uw)) (JV _))))
   JJ) (J6 (Pu.pz 5 Pb.nd (jx K (Pd YJ WG WH PL (pv 1)) J2)) (J7 (JC (PV (XT (F3 (K:=K) (show _<cLine from hr.units0)) (pv 3) (JO Uh) (JV _)) (PB (fz Zs hr (bz (pv 2) (pv 5)))))))))))), (J4 (JF (Ub JQ) (JA 2)) (J4 (JF (JN JQ) (JA 3)) (Po (LB (E':=fun _=>E) ["NothingDone"] (fun c hc=>by
    simp only[Y4,Qy,or_false] at hc;rcases hc with rfl
    ·exact⟨G.g_NothingDone,G.x_NothingDone_NothingDone⟩)
    (fun D=>(FI (Cb 0 G7 JQ) (JA 2))) (JF (JN (tz (Dz (tz (J0 4) Zc4)) (Dz (tz (J0 4) Kg)))) (JA 3))) (J4 (JL (JE (Uj (Ug (sz (J0 1))) J1)) (Kz (Zcl (J0 3) (JN (tz Ur Ur)))) JK) (J4 (FI (RV (SK 1)) (JA 5)) (Kz (PR (T8 (J0 3) (JN JQ)) (JH (tz (J0 2) (J0 5))))))))))⟩) (.d fun o1 o2 ss R X h=>?_)
 ·obtain⟨x,b1,b2,b3,a,f0,hs,rfl,rfl,rfl,hz,hR⟩:=h;refine⟨rfl,?_⟩;have lp:=K0 f0 hs;refine⟨by simp,by simp,?_⟩;rcases Wr hs with rfl|⟨h,y,rfl⟩
  ·refine Ky (fun γ'=>∃t:Option S,γ'=[some (.own (vO (ExcR.JB mg "Village") x b1 b2 b3 (bkH []) (fsH f0 []) (wsH []))),some (.own (.lsA a (JY f0 []))),some (.sh (.tup [])),some (.own (.lst [.bl true,.bl true])),t,none]) ?_ ?_
   ·refine⟨rfl,rfl,x,b1,b2,b3,bkH [],fsH f0 [],wsH [],rfl,rfl,rfl,rfl,fun _=>?_,fun b0 q e=>by cases b0<;>cases e⟩;exact⟨by simp,_,G.g_NothingDone,G.k_NothingDone_MeldError,_,G.g_NothingDone,G.k_NothingDone_ValueError,by simp,_,rfl⟩
   ·rintro γ' ⟨t,rfl⟩;refine⟨by simp,[.bl true,.bl true],[.bl true,.bl true],rfl,rfl,rfl,rfl,?_⟩;exact⟨_,_,rfl,rfl,⟨rfl,by simp⟩,rfl,hR⟩
  ·rw[W6] at hR lp hz ⊢;rw[Wd] at hR;refine Ky (fun γ'=>γ'=[some (.own (vO (ExcR.JB mg "Village") x b1 b2 b3 (bkH h) (fsH f0 h) (wsH h))),some (.own (.lsA a (JY f0 (h++[y])))),some (.sh (dD y.1.q)),some (.own (.lst [])),none,none]) ?_ ?_
   ·refine⟨rfl,rfl,x,b1,b2,b3,bkH (h++[y]),fsH f0 (h++[y]),wsH (h++[y]),rfl,rfl,by rw[Dy,PM],by rw[EB,PM],fun e=>?_,fun b0 q e=>?_⟩
    ·rw[TH] at e;simp at e
    ·rw[TH] at e;obtain⟨rfl,e2⟩:=List.append_inj' e rfl;cases e2
     rw[TU,TR,Wd,Wd];exact rfl
   ·rintro γ' rfl;have lp':(JY f0 (h++[y])).length=h.length+2:=by rw[K0,Yv,YW]
    have g:¬(((JY f0 (h++[y])).length:Nat):Int)=1:=by omega
    have el:(JY f0 (h++[y]))[(JY f0 (h++[y])).length-1]?=some (pstD y):=by
     rw[lp',P4,YN (by rw[K0];omega),K0];rw[show h.length+2-1-(h.length+1)=0 by omega];rfl
    have ed:(JY f0 (h++[y])).dropLast=JY f0 h:=by rw[P4,Wd]
    show if decide ((((JY f0 (h++[y])).length:Nat):Int)=1)=true then _ else _;rw[YB g];refine iteF ⟨_,el,_,rfl,?_⟩;rw[ed];refine⟨Wz _,y.1.q,rfl,by have:=y.1.q_len;omega,?_⟩;exact⟨_,_,rfl,rfl,⟨rfl,by simp⟩,rfl,hR⟩
def O2 (G:Glob K mg) (DD:Def K mg "_law_opening" Fh ["_law_script","_law_menu_here"])
  (Ze:Pn P w K mg base)
  (Zb:Pj P w K mg base)
  (Zu:BO P w K mg base)
  (Zi:T5 P w K mg base)
  : GF P w K mg base:=by
 refine DD.oz (k:=2) K9 (fun _ _ _ _ _ _ E hr=>⟨_,(J6 (Pu.pz 2 K9.nd (fz Ze hr (bz (fz Zb hr (bz (pv 0) J2)) J2))) (@J6 _ _ _ _ _ (@Pu.pz _ _ _ _ _ _ 3 K9.nd (@Gq _ _ _ _ _ _ _ (Ck (K:=K)) (@JO _ _ _ _ (@JP _ _ _ _ _ J2 (@JP _ _ _ _ _ J2 (@JP _ _ _ _ _ J2 (@JP _ _ _ _ _ J2 (@JP _ _ _ _ _ J2 (@JP _ _ _ _ _ J2 (@JP _ _ _ _ _ J2 (@JP _ _ _ _ _ J2 (@JP _ _ _ _ _ (jx K (pv 1) J2) Uh rfl) rfl) rfl) rfl) rfl) rfl) rfl) rfl) rfl)) (J9 JZ (pv 2) J2) (fun _ _=>rfl)) rfl (by first|exact Or.inl rfl|exact Or.inr rfl) rfl (by first|exact .inl rfl|exact .inr rfl|assumption)) (J6 (Pu.pz 4 K9.nd (JO Uh)) (J6 (UP YI rfl (Kn rfl G.range (az (pv 3))) (gz 5 K9.nd) (J6 (Pu.pz 6 K9.nd (fz Zu hr (bz (fz Ze hr (bz (pv 2) (J9 Ud J2 (pv 5)))) (pv 1)))) (KO (JI (cq K hr (J9 JZ (pv 2) J2) J2) (J7 (Pu.pz 6 K9.nd (Uc (bz (J9 Ud J2 (J9 JZ (J9 Ud (pv 2) (pv 5)) J2)) (J9 Ud J2 (J9 JZ (J9 Ud (J9 Ud (J9 Ud (pv 2) (pv 5)) J2) (J9 U8 (pv 5) J2)) J2))))))
   JJ) (KO (JI (cq K hr (J9 JZ (pv 2) J2) J2) (J7 (Pu.pz 6 K9.nd (Uc (bz (fz Zi hr (bz (pv 1) (pv 5))) (fz Zi hr (bz (pv 1) (J9 JZ (J9 Ud (pv 5) J2) (pv 3))))))))
   JJ) (J7 (Uu (Km YJ Wh Wi Kk (pv 4) (az (Uc (dz Ul (jx K (pv 6) J2) (jx K (pv 6) J2))))))))))) (J7 (JC (pv 4))))))), (J4 (JF (JH (tz (JH (tz (J0 0) J1)) J1)) (JA 2)) (J4 (JF (J8 (JN (JR J1 (JR J1 (JR J1 (JR J1 (JR J1 (JR J1 (JR J1 (JR J1 (JR (J8 (J0 1) J1) JQ)))))))))) (Ua (J0 2) J1)) (JA 3)) (J4 (JF (JN JQ) (JA 4)) (J4 (UL [5,6] (Kb (sz (J0 3))) (JA 5) (J4 (JF (JH (tz (JH (tz (J0 2) (Ue J1 (J0 5)))) (J0 1))) (JA 6)) (Po (JL (JE (Uj (Ua (J0 2) J1) J1)) (JF (Ub (tz (Ue J1 (Ua (Ue (J0 2) (J0 5)) J1)) (Ue J1 (Ua (Ue (Ue (Ue (J0 2) (J0 5)) J1) (U6 (J0 5) J1)) J1)))) (JA 6)) JK) (Po (JL (JE (Uj (Ua (J0 2) J1) J1)) (JF (Ub (tz (JH (tz (J0 1) (J0 5))) (JH (tz (J0 1) (Ua (Ue (J0 5) J1) (J0 3)))))) (JA 6)) JK) (PH 4 (Ub (uz Um (J8 (J0 6) J1) (J8 (J0 6) J1)))))))) (XN 4)))))⟩) (.a fun ds R X h=>?_)
 ·obtain⟨ns,m,rfl,hM,hR⟩:=h;refine⟨rfl,?_⟩;have hMM:=hM;obtain⟨a,b,c,d,e,rfl,ha,hb,hc,hd,he⟩:=hM;refine⟨ns,1,rfl,by decide,_,_,rfl,?_⟩;generalize mixP (ns.getD (1:Int).toNat 0) 300=sd;have h9:0<=sd % 9/\sd % 9<9:=by omega
  obtain⟨many,em,hm⟩:∃v:Int,atI ([0,1,2,3,4,6,9,24,a].map D.int) (sd % 9)=some (.int v)/\0<=v/\v<=24:=by
   refine⟨_,KY (f:=D.int) (xs:=[0,1,2,3,4,6,9,24,a]) h9.1 h9.2,?_⟩
   have hall:∀v∈([0,1,2,3,4,6,9,24,a]:List Int),0<=v/\v<=24:=by
    intro v hv;simp at hv;rcases hv with rfl|rfl|rfl|rfl|rfl|rfl|rfl|rfl|rfl<;>omega
   exact hall _ (YH _)
  refine⟨_,rfl,by simp,(by show(0:Int)<9;decide),_,em,by simp,⟨by omega,by omega⟩,?_⟩;refine XZ (fun i γ'=>∃qs:List (Int×Int),qs.length=i/\γ'=[some (.bor (.scr ns)),some (.bor (.lst (([a,b,c,d,e]:List Int).map D.int))),some (.sh (.int sd)),some (.sh (.int many)),some (.own (qs.map fun q=>dD (Dd.wish q.1 q.2).q)),none,none]) ⟨[],rfl,rfl⟩ ?_ ?_
  ·rintro i γ' hi ⟨qs,hq,rfl⟩;have hi':i<many.toNat:=hi;have hlm:(qs.map fun q=>dD (Dd.wish q.1 q.2).q).length=qs.length:=Yn ..;refine⟨_,_,rfl,_,_,rfl,hMM,fun p1 p2=>?_⟩;refine Ky (fun γ'=>∃(x y:Int),γ'=[some (.bor (.scr ns)),some (.bor (.lst (([a,b,c,d,e]:List Int).map D.int))),some (.sh (.int sd)),some (.sh (.int many)),some (.own (qs.map fun q=>dD (Dd.wish q.1 q.2).q)),some (.sh (.int (0+(i:Int)))),some (.sh (prD (x,y)))]) ?_ ?_
   ·refine⟨(by show(0:Int)<9;decide),ite2 (fun _=>?_) (fun _=>⟨p1,p2,rfl⟩)⟩;exact⟨(by show(0:Int)<10;decide),⟨by decide,by decide⟩,(by show(0:Int)<10;decide),by simp,_,_,rfl⟩
   ·rintro γ' ⟨p1,p2,rfl⟩;refine Ky (fun γ'=>∃(x y:Int),γ'=[some (.bor (.scr ns)),some (.bor (.lst (([a,b,c,d,e]:List Int).map D.int))),some (.sh (.int sd)),some (.sh (.int many)),some (.own (qs.map fun q=>dD (Dd.wish q.1 q.2).q)),some (.sh (.int (0+(i:Int)))),some (.sh (prD (x,y)))]) ?_ ?_
    ·refine⟨(by show(0:Int)<9;decide),ite2 (fun _=>?_) (fun _=>⟨p1,p2,rfl⟩)⟩;exact⟨_,_,rfl,hMM,fun h1 _ _ _=>⟨(by show 0<many;omega),_,_,rfl,hMM,fun h2 _ _ _=>⟨by simp,_,_,rfl⟩⟩⟩
    ·rintro γ' ⟨x,y,rfl⟩;refine⟨_,UX _ _,_,SE _ _ (.inr rfl),by simp,by omega,?_⟩;exact⟨qs++[(x,y)],by rw[Yv,hq];rfl,by rw[YC];rfl⟩
  ·rintro γ' ⟨qs,hq,rfl⟩;have hq':qs.length=many.toNat:=hq;exact hR qs (by omega)
def OC (G:Glob K mg) (DD:Def K mg "_law_deed" FE ["_law_cell","_law_menu_here","_law_now"])
  (ZI:CF P w K mg base)
  (Zu:BO P w K mg base)
  (Zo:FM P w K mg base)
  (ZJ:GU P w K mg base)
  (Zi:T5 P w K mg base)
  : A7 P w K mg base:=by
 refine DD.oz (k:=2) Pr (fun _ _ _ _ _ _ E hr=>⟨_,(J6 (Pu.pz 3 Pr.nd (J9 JZ (pv 0) J2)) (J6 (Pu.pz 4 Pr.nd (J9 U8 (pv 0) J2)) (J6 (Pu.pz 5 Pr.nd (fz ZI hr (bz (pv 4) (jx K (pv 2) J2)))) (J6 (Pu.pz 6 Pr.nd (J9 U8 (J9 U8 (pv 4) J2) (UD (En rfl) (by rfl) G.max boot_max (bz J2 (ln K G.len (jx K (pv 2) J2)))))) (J6 (JI (JU Xd (pv 3) J2 (JV _)) (J7 (JC (Uc (dz Ul (pv 5) (fz Zo hr (bz (pv 6) (fz Zi hr (bz (pv 1) (J9 JZ (J9 U8 (pv 6) J2) (jx K (pv 1) J2))))))))))
   JJ) (J6 (JI (JU Xd (pv 3) J2 (JV _)) (J7 (JC (Uc (dz Ul (pv 5) (fz ZJ hr (dz (pv 6) (jx K (pv 2) J2) (pv 5)))))))
   JJ) (J6 (JI (cq K hr (pv 3) J2) (J7 (JC (Uc (bz Ul (pv 5)))))
   JJ) (J6 (Pu.pz 7 Pr.nd (fz Zu hr (bz (pv 4) (pv 1)))) (KO (JI (PW.pt (Nm (cq K hr (pv 3) J2) (Nm (JU Xk (J9 JZ (pv 4) J2) J2 (JV _)) (NA (JU (D7 (K:=K) (show _<cLine from hr.units0)) (jx K (pv 2) J2) (JO Uh) (JV _)))))) (J7 (Pu.pz 7 Pr.nd (jx K (jx K (pv 2) J2) (J9 JZ (J9 U8 (pv 4) J2) (ln K G.len (jx K (pv 2) J2))))))
   JJ) (J6 (JI (JU Xd (pv 3) J2 (JV _)) (J7 (JC (Uc (dz (jx K (JO (bz Ul Ul)) (J9 U8 (pv 3) J2)) (jx K (pv 7) J2) (jx K (pv 7) J2)))))
   JJ) (J7 (JC (Uc (az Ul)))))))))))))), (J4 (JF (Ua (J0 0) J1) (JA 3)) (J4 (JF (U6 (J0 0) J1) (JA 4)) (J4 (JF (JH (tz (J0 4) (J8 (J0 2) J1))) (JA 5)) (J4 (JF (U6 (U6 (J0 4) J1) (EJ (tz J1 (Ug (sz (J8 (J0 2) J1)))))) (JA 6)) (J4 (JL (JE (Xm (J0 3) J1)) (JM 5 (JG (Ub (uz Um (J0 5) (JH (tz (J0 6) (JH (tz (J0 1) (Ua (U6 (J0 6) J1) (J8 (J0 1) J1)))))))))) JK) (J4 (JL (JE (Xm (J0 3) J1)) (JM 5 (JG (Ub (uz Um (J0 5) (JH (uz (J0 6) (J8 (J0 2) J1) (J0 5))))))) JK) (J4 (JL (JE (Uj (J0 3) J1)) (JM 5 (JG (Ub (tz Um (J0 5))))) JK) (J4 (JF (JH (tz (J0 4) (J0 1))) (JA 7)) (Po (JL (Ts (JE (Uj (J0 3) J1)) (Ts (JE (Xn (Ua (J0 4) J1) J1)) (JE (T8 (J8 (J0 2) J1) (JN JQ))))) (JF (J8 (J8 (J0 2) J1) (Ua (U6 (J0 4) J1) (Ug (sz (J8 (J0 2) J1))))) (JA 7)) JK) (J4 (JL (JE (Xm (J0 3) J1)) (JG (Ub (uz (J8 (JN (tz Um Um)) (U6 (J0 3) J1)) (J8 (J0 7) J1) (J8 (J0 7) J1)))) JK) (JG (Ub (sz Um)))))))))))))⟩) (.a fun ds R X h=>?_)
 ·obtain⟨c,m,f,w,es,rfl,hM,hz,hF,hw,hR,hB⟩:=h;refine⟨rfl,?_⟩;have hMM:=hM;have at1:atI (plD f::plD w::es) 1=some (plD w):=Na (by decide) rfl;have hl:(f.map prD).length=f.length:=Yn ..;have hlw:(w.map prD).length=w.length:=Yn ..;have hmx:∀z:Int,0<(if z>1 then z else 1)/\((if z>1 then z else 1)=z\/(if z>1 then z else 1)=1):=fun z=>by split<;>omega
  have hm1:=hmx (((f.map prD).length:Nat):Int);refine⟨(by show(0:Int)<9;decide),⟨by decide,by decide⟩,_,UX _ _,_,f,rfl,hz,fun p=>?_⟩;refine⟨⟨by decide,by decide⟩,_,UX _ _,⟨hm1.1,Int.lt_of_le_of_lt (b:=1000) (by rcases hm1.2 with w|w<;>rw[w]<;>omega) (by decide)⟩,?_⟩
  obtain⟨m0,m1,m2,m3,m4,em,ha,hb,hc,hd,he⟩:=hM;have i0:atI (m.map D.int) 0=some (.int m0):=by rw[em];rfl
  refine ite2 (fun _=>?_) (fun _=>ite2 (fun _=>?_) (fun _=>ite2 (fun _=>?_) (fun g4=>?_)))
  ·exact⟨⟨by decide,by decide⟩,_,i0,(by show 0<m0;omega),m,_,rfl,hMM,fun h _ _ _=>⟨_,_,rfl,fun v=>⟨by simp,hR (.sell p v)⟩⟩⟩
  ·exact⟨_,UX _ _,_,f,p,rfl,hz,hF,fun v=>⟨by simp,hR (.part p v)⟩⟩
  ·exact⟨by simp,hR (.unite p)⟩
  ·refine⟨_,m,rfl,hMM,fun a b=>?_⟩;refine Ky (fun γ'=>∃(a b:Int) (t1 t2 t3:Option S),γ'=[some (.sh (.int c)),some (.bor (.lst (m.map D.int))),some (.bor (.tup (plD f::plD w::es))),some (.sh (.int (c % 9))),t1,t2,t3,some (.sh (prD (a,b)))]) ?_ ?_
   ·refine ite2 (fun _=>⟨(by show(0:Int)<4;decide),ite2 (fun _=>⟨_,at1,by simp,?_⟩) (fun _=>iteF ⟨a,b,_,_,_,rfl⟩)⟩) (fun _=>iteF ⟨a,b,_,_,_,rfl⟩);have emp:(w.map prD).isEmpty=decide (w=[]):=by cases w<;>simp
    show if (!(w.map prD).isEmpty)=true then _ else _;rw[emp];refine ite2 (fun g=>?_) (fun g=>⟨a,b,_,_,_,rfl⟩);have hne:w≠[]:=fun z=>by rw[Yr z] at g;cases g
    have hp:0<w.length:=Qi.mpr hne;have q1:=Va (c / 9 / 4) (show(((w.map prD).length:Nat):Int)≠0 by omega);have q2:=Q8 (c / 9 / 4) (show 0<(((w.map prD).length:Nat):Int) by omega);exact⟨_,at1,⟨by decide,by decide⟩,_,at1,(by show 0<(((w.map prD).length:Nat):Int);omega),_,KY (f:=prD) (xs:=w) q1 (by omega),_,_,_,_,_,rfl⟩
   ·rintro γ' ⟨a,b,t1,t2,t3,rfl⟩;refine ite2 (fun g=>?_) (fun g=>⟨by simp,hB⟩);have g':c % 9<8:=Yy g;have hk:c % 9 / 7=0\/c % 9 / 7=1:=by omega
    have ex:∃k:Str,atI [D.str "wish",.str "drop"] (c % 9 / 7)=some (.str k)/\(k=("wish" : Str)\/k=("drop" : Str)):=by
     rcases hk with e|e<;>rw[e]
     ·exact⟨_,rfl,.inl rfl⟩
     ·exact⟨_,rfl,.inr rfl⟩
    obtain⟨k,ek,hk2⟩:=ex;refine⟨by simp,⟨by decide,by decide⟩,_,ek,_,UX _ _,_,SE _ _ (.inr rfl),by simp,?_⟩;rcases hk2 with rfl|rfl
    ·exact hR (.wish a b)
    ·exact hR (.drop a b)
def O8 (G:Glob K mg) (DD:Def K mg "check_no_ring" FZ ["strips","wishes"])
  (ZK:DY P w K mg base)
  (Zj:Nw P w K mg base)
  : Fp P w K mg base:=by
 refine DD.oz (k:=3) E6 (fun _ _ _ _ _ _ E hr=>⟨_,(J6 (Pu.pz 2 E6.nd (fz ZK hr (bz (fz Zj hr (az (pv 0))) (pv 1)))) (J7 (JI (Uk (K:=K) (pv 2)) (J7 HA)
   JJ))), (J4 (JF (JH (tz (JH (sz (J0 0))) (J0 1))) (JA 2)) (JL (U0 (J0 2)) Zfw JK))⟩) (.a fun ds R X h=>?_)
 ·obtain⟨ps,ws,rfl,hF,hz,hu,hN,hR⟩:=h;refine⟨rfl,?_⟩;exact⟨ps,rfl,hF,hz,_,ws,rfl,Y8 (PP ps) (by decide),fun l hl t=>OG hu hN hl _ t (Yx _),iteF (A:=False) hR⟩
def ML (G:Glob K mg) (DD:Def K mg "_law_call" FS ["_law_village","_law_deed_here"])
  (ZL:EC P w K mg base)
  (ZM:Hd P w K mg base)
  (ZN:CO P w K mg base)
  (ZO:EW P w K mg base)
  (ZP:GK P w K mg base)
  : GH P w K mg base:=by
 refine DD.ox (k:=3) Ih (fun _ _ _ _ _ _ E hr=>⟨_,(J6 (JI (cq K hr (jx K (pv 1) J2) Ul) (J7 (JC (XS ZM G.cl_Village (hr.mono (by decide)) ExcR.UG (pv 0) (bz (jx K (pv 1) J2) (jx K (pv 1) J2)))))
   JJ) (J6 (JI (cq K hr (jx K (pv 1) J2) Ul) (J7 (JC (XS ZN G.cl_Village (hr.mono (by decide)) ExcR.UG (pv 0) (bz (jx K (pv 1) J2) (jx K (pv 1) J2)))))
   JJ) (J6 (JI (cq K hr (jx K (pv 1) J2) Ul) (J7 (JC (XS ZO G.cl_Village (hr.mono (by decide)) ExcR.UG (pv 0) (az (jx K (pv 1) J2)))))
   JJ) (J6 (JI (cq K hr (jx K (pv 1) J2) Ul) (J7 (JC (XS ZP G.cl_Village (hr.mono (by decide)) ExcR.UG (pv 0) (bz (jx K (pv 1) J2) (jx K (pv 1) J2)))))
   JJ) (J7 (JC (XS ZL G.cl_Village (hr.mono (by decide)) ExcR.UG (pv 0) (bz (jx K (pv 1) J2) (jx K (pv 1) J2))))))))), (J4 (JL (JE (Uj (J8 (J0 1) J1) Um)) (XW (Tp 0 Zbx (tz (J8 (J0 1) J1) (J8 (J0 1) J1)))) JK) (J4 (JL (JE (Uj (J8 (J0 1) J1) Um)) (XW (Tp 0 HZ (tz (J8 (J0 1) J1) (J8 (J0 1) J1)))) JK) (J4 (JL (JE (Uj (J8 (J0 1) J1) Um)) (XW (Tp 0 Zdu (sz (J8 (J0 1) J1)))) JK) (J4 (JL (JE (Uj (J8 (J0 1) J1) Um)) (XW (Tp 0 Od (tz (J8 (J0 1) J1) (J8 (J0 1) J1)))) JK) (XW (Tp 0 Ig (tz (J8 (J0 1) J1) (J8 (J0 1) J1))))))))⟩) (.c fun o ss R X h=>?_)
 ·obtain⟨x,b1,b2,b3,bk,fs,ws,f,w,d,rfl,rfl,hb,hf,hw,hz,hy,hR⟩:=h;refine⟨rfl,?_⟩;cases d with
  | sell p h=>
   refine⟨_,rfl,?_⟩;refine⟨rfl,rfl,_,rfl,_,rfl,x,b1,b2,b3,bk,fs,ws,f,w,p,h,rfl,rfl,hb,hf,hw,hz,?_⟩;have hR:UM (NB bk f p h) (X (vO (ExcR.JB mg "Village") x b1 b2 b3 bk (fs++[f]) (ws++[w]))) (R (vO (ExcR.JB mg "Village") x b1 b2 b3 (bk++[(Dd.sell p h).q]) (fs++[f]++[(Dd.sell p h).fld f]) (ws++[w]++[(Dd.sell p h).wsh w])) (.int (bk.length+1))):=hR;cases e:NB bk f p h with
   | some c=>rw[e] at hR;exact⟨_,rfl,⟨rfl,by simp⟩,hR⟩
   | none=>rw[e] at hR;exact⟨_,rfl,⟨rfl,by simp⟩,hR⟩
  | part p h=>
   refine⟨_,rfl,_,rfl,?_⟩;refine⟨rfl,rfl,_,rfl,_,rfl,x,b1,b2,b3,bk,fs,ws,f,w,p,h,rfl,rfl,hb,hf,hw,hz,?_⟩;have hR:UM (NL bk f p h) (X (vO (ExcR.JB mg "Village") x b1 b2 b3 bk (fs++[f]) (ws++[w]))) (R (vO (ExcR.JB mg "Village") x b1 b2 b3 (bk++[(Dd.part p h).q]) (fs++[f]++[(Dd.part p h).fld f]) (ws++[w]++[(Dd.part p h).wsh w])) (.int (bk.length+1))):=hR;cases e:NL bk f p h with
   | some c=>rw[e] at hR;exact⟨_,rfl,⟨rfl,by simp⟩,hR⟩
   | none=>rw[e] at hR;exact⟨_,rfl,⟨rfl,by simp⟩,hR⟩
  | unite p=>
   refine⟨_,rfl,_,rfl,_,rfl,?_⟩;refine⟨rfl,rfl,_,rfl,x,b1,b2,b3,bk,fs,ws,f,w,p,rfl,rfl,hb,hf,hw,hz,?_⟩;have hR:UM (NP bk f p) (X (vO (ExcR.JB mg "Village") x b1 b2 b3 bk (fs++[f]) (ws++[w]))) (R (vO (ExcR.JB mg "Village") x b1 b2 b3 (bk++[(Dd.unite p).q]) (fs++[f]++[(Dd.unite p).fld f]) (ws++[w]++[(Dd.unite p).wsh w])) (.int (bk.length+1))):=hR;cases e:NP bk f p with
   | some c=>rw[e] at hR;exact⟨_,rfl,⟨rfl,by simp⟩,hR⟩
   | none=>rw[e] at hR;exact⟨_,rfl,⟨rfl,by simp⟩,hR⟩
  | wish p h=>
   refine⟨_,rfl,_,rfl,_,rfl,_,rfl,?_⟩;refine⟨rfl,rfl,_,rfl,_,rfl,x,b1,b2,b3,bk,fs,ws,f,w,p,h,rfl,rfl,hb,hf,hw,hy,?_⟩;have hR:UM (N3 bk w p h) (X (vO (ExcR.JB mg "Village") x b1 b2 b3 bk (fs++[f]) (ws++[w]))) (R (vO (ExcR.JB mg "Village") x b1 b2 b3 (bk++[(Dd.wish p h).q]) (fs++[f]++[(Dd.wish p h).fld f]) (ws++[w]++[(Dd.wish p h).wsh w])) (.int (bk.length+1))):=hR;cases e:N3 bk w p h with
   | some c=>rw[e] at hR;exact⟨_,rfl,⟨rfl,by simp⟩,hR⟩
   | none=>rw[e] at hR;exact⟨_,rfl,⟨rfl,by simp⟩,hR⟩
  | drop p h=>
   refine⟨_,rfl,_,rfl,_,rfl,_,rfl,?_⟩;refine⟨rfl,rfl,_,rfl,_,rfl,x,b1,b2,b3,bk,fs,ws,f,w,p,h,rfl,rfl,hb,hf,hw,hy,?_⟩;have hR:UM (N0 bk w p h) (X (vO (ExcR.JB mg "Village") x b1 b2 b3 bk (fs++[f]) (ws++[w]))) (R (vO (ExcR.JB mg "Village") x b1 b2 b3 (bk++[(Dd.drop p h).q]) (fs++[f]++[(Dd.drop p h).fld f]) (ws++[w]++[(Dd.drop p h).wsh w])) (.int (bk.length+1))):=hR;cases e:N0 bk w p h with
   | some c=>rw[e] at hR;exact⟨_,rfl,⟨rfl,by simp⟩,hR⟩
   | none=>rw[e] at hR;exact⟨_,rfl,⟨rfl,by simp⟩,hR⟩
def Zd3 (G:Glob K mg) (DD:Def K mg "_law_stands" Ai ["_law_village","_law_past"])
  (ZQ:DC P w K mg base)
  (Zz:DL P w K mg base)
  (ZR:Eu P w K mg base)
  (Zd:Kd P w K mg base)
  (Zc:Kl P w K mg base)
  : As P w K mg base:=by
 refine DD.oz (k:=3) Ze1 (fun _ _ _ _ _ _ E hr=>⟨_,(J6 (JI (U3 (Uk (K:=K) (fz Zz hr (bz (Ux Zd G.cl_Village (hr.mono (by decide)) Ut (pv 0)) (jx K (jx K (pv 1) (U1 U2 J2)) J2))))) (J7 (JC Uw))
   JJ) (J6 (JI (U3 (Uk (K:=K) (fz Zz hr (bz (Ux Zc G.cl_Village (hr.mono (by decide)) Ut (pv 0)) (jx K (jx K (pv 1) (U1 U2 J2)) J2))))) (J7 (JC Uw))
   JJ) (J7 (JC (fz ZQ hr (bz (Ux ZR G.cl_Village (hr.mono (by decide)) Ut (pv 0)) (UZ (N':=["_law_one"]) (φ:=[none]) rfl (Own.CompOk.of (by rfl)) (Uy (K:=K) (Xq (Xp (K:=K)) (pv 1) (Xg J2) Xs)) (fun _ _ _ _ _=>⟨(gz 0 (show(["_law_one"]:List Str).Nodup from by decide +kernel)),X0,(jx K (pv 0) J2)⟩)))))))), (J4 (JL (US (U0 (JH (tz (UE Kv (J0 0) JQ) (J8 (J8 (J0 1) (U5 J1)) J1))))) (JG Ur) JK) (J4 (JL (US (U0 (JH (tz (UE Kr (J0 0) JQ) (J8 (J8 (J0 1) (U5 J1)) J1))))) (JG Ur) JK) (JG (JH (tz (UE MY (J0 0) JQ) (UJ (HE (J0 1) (Xf J1) Xt) (JA 0) XI (J8 (J0 0) J1)))))))⟩) (.a fun ds R X h=>?_)
 ·obtain⟨f0,hs,rfl,hz,hf,hw,hR⟩:=h;refine⟨rfl,?_⟩;obtain⟨fs,ef,lf⟩:=Pe f0 hs;obtain⟨ws,ew,lw⟩:=Pk hs;obtain⟨d,el⟩:=KU f0 hs;have h1:(curF f0 hs).length<=1000:=hf _ (by rw[ef];simp);have h2:(curW hs).length<=1000:=hw _ (by rw[ew];simp);have lb:=PM hs
  have bq:∀q∈bkH hs,q.2.length<=100:=fun q hq=>by
   unfold bkH at hq;obtain⟨h,_,rfl⟩:=YR.mp hq
   have:=h.1.q_len
   omega
  have ec:cutD (JY f0 hs) (some 1) none=hs.map pstD:=by
   rw[T1 _ (by decide)];rfl
  refine⟨rfl,rfl,bkH hs,fs,wsH hs,curF f0 hs,by rw[←ef];rfl,?_⟩;refine⟨_,el,_,rfl,curF f0 hs,rfl,by omega,iteF ?_⟩;refine⟨rfl,rfl,bkH hs,fsH f0 hs,ws,curW hs,by rw[←ew];rfl,?_⟩;refine⟨_,el,_,rfl,curW hs,rfl,by omega,iteF ?_⟩;refine⟨rfl,rfl,bkH hs,fsH f0 hs,wsH hs,rfl,?_⟩;show CompW _ _ _ _ _ (cutD (JY f0 hs) (some 1) none).length (fun i=>arg ((cutD (JY f0 hs) (some 1) none).getD i .non)) _;rw[ec];refine IW (xs:=hs) (emb:=pstD) (fun h=>some (dD h.1.q)) (by omega) (fun h _=>?_) ?_
  ·refine⟨_,rfl,_,?_,rfl⟩;show(arg (dD h.1.q)).shd=_;rw[Sj];rfl
  ·rw[mapD (fun h:Dd×List (Int×Int)×List (Int×Int)=>dD h.1.q)]
   have eb:hs.map (fun h:Dd×List (Int×Int)×List (Int×Int)=>dD h.1.q)=(bkH hs).map dD:=by
    unfold bkH;rw[Wg];rfl
   rw[eb];exact⟨bkH hs,rfl,bq,by omega,hR⟩
def M1 (G:Glob K mg) (DD:Def K mg "cost_table" Ab ["strips","wishes"])
  (Zv:Fp P w K mg base)
  (Zw:Bx P w K mg base)
  (Zx:Aj P w K mg base)
  : Ee P w K mg base:=by
 refine DD.oz (k:=4) AZ (fun _ _ _ _ _ _ E hr=>⟨_,(J6 (Uu (fz Zv hr (bz (pv 0) (pv 1)))) (J6 (Pu.pz 2 AZ.nd (fz Zw hr (dz (pv 0) (pv 1) (fz Zx hr (az (pv 0)))))) (J7 (JC (Xw (Zfh rfl) (by rfl) G.list boot_list (JP (Mu (K:=K) (pv 2)) Uh)))))), (J4 (Xi (JH (tz (J0 0) (J0 1)))) (J4 (JF (JH (uz (J0 0) (J0 1) (JH (sz (J0 0))))) (JA 2)) (JG (Zap (J0 2)))))⟩) (.a fun ds R X h=>?_)
 ·obtain⟨ps,ws,rfl,hF,hz,hw,hu,hN,hR⟩:=h;refine⟨rfl,?_⟩;refine⟨ps,ws,rfl,hF,hz,hu,hN,ps,rfl,hF,hz,fun pa hpa=>⟨ps,ws,pa,pcc ps,rfl,hF,hz,hw,hu,hpa,Cd hu hN,fun kvs T=>?_⟩⟩;have nd:(JT ps).Nodup:=(KS ps).imp (fun h=>Vq h);obtain⟨vs,e,hv⟩:=T.vals (E3 nd);obtain⟨e1,e2⟩:=G2 e;refine⟨kvs,rfl,e1,?_⟩;rw[e2];exact hR vs hv
def OX (G:Glob K mg) (DD:Def K mg "best_order" FG ["strips","wishes"])
  (Zv:Fp P w K mg base)
  (Zx:Aj P w K mg base)
  (Zw:Bx P w K mg base)
  (Zj:Nw P w K mg base)
  (Zl:NT P w K mg base)
  (ZS:CM P w K mg base)
  (ZT:EG P w K mg base)
  : AG P w K mg base:=by
 refine DD.oz (k:=4) KB (fun _ _ _ _ _ _ E hr=>⟨_,(J6 (Uu (fz Zv hr (bz (pv 0) (pv 1)))) (J6 (Pu.pz 2 KB.nd (fz Zx hr (az (pv 0)))) (J6 (Pu.pz 3 KB.nd (fz Zw hr (dz (pv 0) (pv 1) (pv 2)))) (J6 (Pu.pz 4 KB.nd (Xw (Do (K:=K)) (by rfl) G.tuple boot_tuple (az (fz Zj hr (az (pv 0)))))) (J6 (Pu.pz 5 KB.nd (JO Uh)) (J6 (Sb YI (Uk (K:=K) (pv 4)) (J6 (KZ (N':=["holder","members","wishes"]) (φ:=[none,some 4,some 1]) (i:=6) KB.nd rfl rfl rfl (Own.CompOk.of (by rfl)) (Nj (K:=K) (pv 4)) (fun _ _ _ _ _=>⟨(gz 0 (show(["holder","members","wishes"]:List Str).Nodup from by decide +kernel)),(XG (Uk (K:=K) (fz ZS hr (dz (pv 1) (pv 0) (pv 2))))),(pv 0)⟩)) (J6 (KZ (N':=["first","members","least","pairs"]) (φ:=[none,some 4,some 3,some 2]) (i:=7) KB.nd rfl rfl rfl (Own.CompOk.of (by rfl)) (Uy (K:=K) (pv 6)) (fun _ _ _ _ _=>⟨(gz 0 (show(["first","members","least","pairs"]:List Str).Nodup from by decide +kernel)),(XG (cq K hr (fz ZT hr (JP (pv 1) (JP (pv 0) (JP (pv 2) (JP (pv 3) Uh))))) (Ti (UK hr) (pv 2) (pv 1) (fun _ _=>rfl)))),(pv 0)⟩)) (J6 (Uu (Km YJ Wh Wi Kk (pv 5) (az (jx K (pv 7) J2)))) (J7 (Pu.pz 4 KB.nd (fz Zl hr (bz (pv 4) (jx K (pv 7) J2))))))))) (J7 (JC (pv 5))))))))), (J4 (Xi (JH (tz (J0 0) (J0 1)))) (J4 (JF (JH (sz (J0 0))) (JA 2)) (J4 (JF (JH (uz (J0 0) (J0 1) (J0 2))) (JA 3)) (J4 (JF (DG (sz (JH (sz (J0 0))))) (JA 4)) (J4 (JF (JN JQ) (JA 5)) (J4 (Nq [6,7] (U0 (J0 4)) (J4 (JF (UJ (SndI.c (Tn (J0 4))) (JA 0) (U0 (JH (uz (J0 1) (J0 0) (J0 2)))) (J0 0)) (JA 6)) (J4 (JF (UJ (Xj (J0 6)) (JA 0) (JE (Uj (JH (JR (J0 1) (JR (J0 0) (JR (J0 2) (JR (J0 3) JQ))))) (Nh (J0 2) (J0 1)))) (J0 0)) (JA 7)) (J4 (PH 5 (J8 (J0 7) J1)) (JF (JH (tz (J0 4) (J8 (J0 7) J1))) (JA 4)))))) (XN 5)))))))⟩) (.a fun ds R X h=>?_)
 ·obtain⟨ps,ws,rfl,hF,hz,hw,hu,hN,hR⟩:=h;refine⟨rfl,?_⟩;refine⟨ps,ws,rfl,hF,hz,hu,hN,ps,rfl,hF,hz,fun pa hpa=>⟨ps,ws,pa,pcc ps,rfl,hF,hz,hw,hu,hpa,Cd hu hN,fun kvs T=>⟨ps,rfl,hF,hz,?_⟩⟩⟩;have hh:=PP ps;have hri:=KS ps;have nd:(JT ps).Nodup:=hri.imp (fun h=>Vq h);have hpa':∀x∈JT ps,∀y∈JT ps,valV pa [.inl x,.inl y]=some (.int (pcc ps x y)):=hpa;generalize pcc ps=c at *;generalize JT ps=hs at *
  refine⟨rfl,by simp,Sm (fun γ'=>∃(ms o:List Int),γ'=[some (.bor (.lst (ps.map prD))),some (.bor (.lst (ws.map prD))),some (.own (.dT pa)),some (.own (.dT kvs)),some (.sh (tD ms)),some (.own (o.map D.int)),none,none]/\ms∈Ui hs/\o.length+ms.length<=10/\
   ∀p,Best ws c ms p->Best ws c hs (o++p)) HP ⟨hs,[],rfl,List.mem_of_getLast? (Gz hs),by simpa using hh,fun p hp=>hp⟩ ?_⟩
  rintro γ' ⟨ms,o,rfl,hms,hol,hB⟩;show if (!(ms.map D.int).isEmpty)=true then _ else _;refine ite2 (fun g=>?_) (fun g=>?_)
  ·have hsm:=Ni hs ms hms;have hne:ms≠[]:=fun e=>by subst e;simp at g
   have ndm:ms.Nodup:=nd.sublist hsm;have hrm:=hri.sublist hsm
   have hless:∀l∈ms,JW ms l∈Ui hs:=fun l hl=>by
    obtain⟨k,hk,e⟩:=W9.mp hms;obtain⟨j,_,ej⟩:=E7 nd k ms (by rw[Yp hk,e]) l hl;exact YE ej
   obtain⟨vs,hvs⟩:=Ej fun l hl=>T.val _ (hless l hl);obtain⟨V,hV1,hV2⟩:=T.val ms hms;have hv2:∀l∈ms,Least ws c (JW ms l) (vs l):=fun l hl=>(hvs l hl).2
   have hsome:∃f rest,(ms.filter (fun h=>firstM ws ms h)).filter (fun f=>decide (vs f+((JW ms f).map (c f)).sum=V))=f::rest:=by
    obtain⟨q,q1,q2,q3⟩:=hV2.is;cases q with
    | nil=>exact absurd q1.nil_eq.symm hne
    | cons g p=>
     obtain⟨r1,r2,r3,_⟩:=CB ndm hu hv2 hV2 q1 q2 q3;exact List.exists_cons_of_ne_nil (List.ne_nil_of_mem (YO.mpr ⟨YO.mpr ⟨r1,r2⟩,Yr r3⟩))
   obtain⟨f,rest,ef⟩:=hsome;have hfm:f∈(ms.filter (fun h=>firstM ws ms h)).filter (fun f=>decide (vs f+((JW ms f).map (c f)).sum=V)):=by rw[ef];exact YM ..
   obtain⟨hfm,hf3⟩:=YO.mp hfm;obtain⟨hf1,hf2⟩:=YO.mp hfm
   have hmin:∀g∈ms,firstM ws ms g=true->vs g+((JW ms g).map (c g)).sum=V->f<=g:=fun g h1 h2 h3=>by
    have hg:g∈(ms.filter (fun h=>firstM ws ms h)).filter (fun f=>decide (vs f+((JW ms f).map (c f)).sum=V)):=YO.mpr ⟨YO.mpr ⟨h1,h2⟩,Yr h3⟩
    have hr:(f::rest).Pairwise (· < ·):=by
     rw[←ef];exact(hrm.filter _).filter _
    rw[ef] at hg;rcases Y4.mp hg with e|hg
    ·omega
    ·have:=(WS.mp hr).1 g hg
     omega
   refine⟨_,rfl,UR (s:=.sh .non) (xs:=ms) (emb:=D.int) (fun h=>if firstM ws ms h=true then some (.int h) else none) (by omega) (fun h hm=>?_) ?_⟩
   ·refine⟨ms,h,ws,rfl,hw,?_⟩;refine ite2 (fun g=>⟨_,rfl,Ys g⟩) (fun g=>Yq g)
   ·rw[XC (fun h=>firstM ws ms h)];refine UR (xs:=ms.filter (fun h=>firstM ws ms h)) (emb:=D.int) (fun f=>if decide (vs f+((JW ms f).map (c f)).sum=V)=true then some (.int f) else none) (Y8 (Wk _ _) (by omega)) (fun l hl=>?_) ?_
    ·obtain⟨hl1,hl2⟩:=YO.mp hl;refine⟨ms,l,kvs,pa,c l,vs l,rfl,by omega,(hvs l hl1).1,fun m hm=>hpa' l (hsm.subset hl1) m (hsm.subset (less_sub.subset hm)),_,_,N7 ms,hV1,rfl,?_⟩;refine ite2 (fun g=>⟨_,rfl,Ys g⟩) (fun g=>Yq g)
    ·rw[XC (fun f=>decide (vs f+((JW ms f).map (c f)).sum=V)),ef];refine⟨_,UX _ _,by rw[Yn];omega,_,UX _ _,ms,f,rfl,by omega,⟨JW ms f,o++[f],?_,hless f hf1,?_,fun p hp=>?_⟩,?_⟩
     ·rw[YC];rfl
     ·have:=(Ks ndm hf1).length_eq
      rw[Yv];rw[YD] at this;show o.length+1+_<=10;omega
     ·rw[Vk];exact hB _ (Zcc ndm hu hv2 hV2 hf1 hf2 (Yy hf3) hmin hp)
     ·have:=(Ks ndm hf1).length_eq
      rw[YD] at this;show((JW ms f).map D.int).length<(ms.map D.int).length;rw[Yn,Yn];omega
  ·have e:ms=[]:=by
    cases ms with
    | nil=>rfl
    | cons a r=>exact absurd rfl g
   subst e
   have:=hB [] (Zfu ws c)
   rw[Wc] at this;exact hR o this
def O9 (G:Glob K mg) (DD:Def K mg "_law_go" Bp ["_law_village","_law_past","_law_deed_here"])
  (ZU:E9 P w K mg base)
  (ZV:GH P w K mg base)
  (Zh:Px P w K mg base)
  (Zt:BL P w K mg base)
  : F6 P w K mg base:=by
 refine DD.oz (k:=4) Bo (fun _ _ _ _ _ _ E hr=>⟨_,(J6 (JI (cq K hr (jx K (pv 2) J2) Ul) (KO (JI (JU Xk (ln K G.len (pv 1)) J2 (JV _)) (J6 (Uu (Ux Zt G.cl_Village (hr.mono (by decide)) NO (pv 0))) (J7 (Uu (Pd YJ WG WH PL (pv 1)))))
   JJ) (J7 (JC Uw)))
   JJ) (J6 (Pu.pz 3 Bo.nd (fz ZU hr (bz (jx K (pv 1) (U1 U2 J2)) (pv 2)))) (J6 (JI (JU Xk (jx K (pv 3) J2) J2 (JV _)) (J7 (JC Uw))
   JJ) (J6 (Uu (Km YJ Wh Wi Kk (pv 1) (az (Uc (dz (jx K (pv 3) J2) (jx K (pv 3) J2) (pv 2)))))) (J6 (Pu.pz 4 Bo.nd (Xa ZV (hr.mono (by decide)) NO (bz (pv 0) (pv 2)))) (J7 (JC (PV (fz Zh hr (az (pv 4))) (PB (XT (TC (K:=K) (show _<cLine from hr.units0)) (pv 4) (J9 UV (ln K G.len (pv 1)) J2) (JV _))))))))))), (J4 (JL (JE (Uj (J8 (J0 2) J1) Um)) (Po (JL (JE (Xn (Ug (sz (J0 1))) J1)) (J4 (Kx (Tc 0 G7 JQ)) (Kx (SK 1))) JK) (Kz Ur)) JK) (J4 (JM 2 (JF (BM (tz (J8 (J0 1) (U5 J1)) (J0 2))) (JA 3))) (J4 (JL (JE (Xn (J8 (J0 3) J1) J1)) (Kz Ur) JK) (J4 (JM 2 (PH 1 (Ub (uz (J8 (J0 3) J1) (J8 (J0 3) J1) (J0 2))))) (J4 (JM 2 (FI (OF 0 (sz (J0 2))) (JA 4))) (Kz (PR (JH (sz (J0 4))) (Uj (J0 4) (UU (Ug (sz (J0 1))) J1)))))))))⟩) (.d fun o1 o2 ss R X h=>?_)
 ·obtain⟨x,b1,b2,b3,a,f0,hs,q,rfl,rfl,rfl,hz,hf,hor⟩:=h;refine⟨rfl,?_⟩;obtain⟨⟨h1,h2⟩,h3⟩:=hf.cur;rcases hor with⟨rfl,hR⟩|⟨d,rfl,hR⟩
  ·refine⟨_,rfl,?_⟩;refine Ky (fun γ'=>∃t1 t2 t3:Option S,γ'=[some (.own (vO (ExcR.JB mg "Village") x b1 b2 b3 (bkH hs.dropLast) (fsH f0 hs.dropLast) (wsH hs.dropLast))),some (.own (.lsA a (JY f0 hs.dropLast))),t1,t2,t3]) ?_ ?_
   ·rcases Wr hs with rfl|⟨h,y,rfl⟩
    ·exact⟨_,_,_,rfl⟩
    ·rw[W6,Wd];have lp':(JY f0 (h++[y])).length=h.length+2:=by rw[K0,Yv,YW]
     have g:(((JY f0 (h++[y])).length:Nat):Int)>1:=by omega
     have el:(JY f0 (h++[y]))[(JY f0 (h++[y])).length-1]?=some (pstD y):=by
      rw[lp',P4,YN (by rw[K0];omega),K0];rw[show h.length+2-1-(h.length+1)=0 by omega];rfl
     have ed:(JY f0 (h++[y])).dropLast=JY f0 h:=by rw[P4,Wd]
     show if decide ((((JY f0 (h++[y])).length:Nat):Int)>1)=true then _ else _;rw[Yr g];refine iteT ⟨rfl,rfl,x,b1,b2,b3,bkH (h++[y]),fsH f0 (h++[y]),wsH (h++[y]),rfl,rfl,by rw[Dy,PM],by rw[EB,PM],fun e=>?_,fun b0 q e=>?_⟩
     ·rw[TH] at e;simp at e
     ·rw[TH] at e;obtain⟨rfl,e2⟩:=List.append_inj' e rfl;cases e2
      rw[TU,TR,Wd,Wd];refine⟨_,el,?_⟩;rw[ed];exact⟨_,_,_,rfl⟩
   ·rintro γ' ⟨t1,t2,t3,rfl⟩;exact⟨_,_,rfl,rfl,⟨rfl,by simp⟩,rfl,hR⟩
  ·obtain⟨fs,ef,lf⟩:=Pe f0 hs;obtain⟨ws,ew,lw⟩:=Pk hs;obtain⟨dl,el⟩:=KU f0 hs;have lb:=PM hs;have lp:=K0 f0 hs;have nb:=d.not_back;refine⟨_,UX _ _,?_⟩;show if decide (d.q.1=("back" : Str))=true then _ else _;rw[YB nb];refine iteF ⟨_,el,curF f0 hs,curW hs,[dl],d,rfl,h2,h3.1,_,rfl,?_⟩;by_cases e:d.err (curF f0 hs) (curW hs)=none
   ·have ea:addH f0 hs d=hs++[(d,d.fld (curF f0 hs),d.wsh (curW hs))]:=by unfold addH;rw[Ys e]
    rw[ea] at hR;rw[TH,TU,TR,P4,ef,ew] at hR;show if decide (codeN (d.err (curF f0 hs) (curW hs))>0)=true then _ else _;rw[e];refine iteF ⟨_,rfl,_,rfl,by simp,by omega,?_⟩;refine⟨x,b1,b2,b3,bkH hs,fs,ws,curF f0 hs,curW hs,d,by rw[←ef,←ew],rfl,by omega,by omega,by omega,by omega,by have:=h3.1;omega,?_⟩
    have ec:Bv (bkH hs) (curF f0 hs) (curW hs) d=none:=by
     unfold Bv;rw[Yq (by omega),e]
    have en:d.nf (curF f0 hs) (curW hs)=d.fld (curF f0 hs):=by unfold Dd.nf;rw[Ys e]
    have ew':d.nw (curF f0 hs) (curW hs)=d.wsh (curW hs):=by unfold Dd.nw;rw[Ys e]
    rw[ec];have es:((((bkH hs).length:Nat):Int)+1=((((JY f0 hs++[D.tup [plD (d.nf (curF f0 hs) (curW hs)),plD (d.nw (curF f0 hs) (curW hs)),dD d.q]]).length:Nat)):Int)-1):=by rw[Yv,YW];omega
    refine⟨_,rfl,iteT ?_⟩;refine⟨_,_,rfl,rfl,⟨rfl,by simp⟩,rfl,?_⟩;rw[Yr es,en,ew'];exact hR
   ·have ea:addH f0 hs d=hs:=by unfold addH;rw[Yq e]
    rw[ea] at hR;show if decide (codeN (d.err (curF f0 hs) (curW hs))>0)=true then _ else _;rw[Yr (Dd.code_pos e)];exact iteT ⟨_,_,rfl,rfl,⟨rfl,by simp⟩,rfl,hR⟩
def Zej (G:Glob K mg) (DD:Def K mg "least_cost" F7 ["strips","wishes"])
  (ZW:Ee P w K mg base)
  : SO P w K mg base:=by
 refine DD.oz (k:=5) Zas (fun _ _ _ _ _ _ E hr=>⟨_,(J7 (JC (jx K (fz ZW hr (bz (pv 0) (pv 1))) (U1 U2 J2)))), (JG (J8 (JH (tz (J0 0) (J0 1))) (U5 J1)))⟩) (.a fun ds R X h=>?_)
 ·obtain⟨ps,ws,rfl,hF,hz,hw,hu,hN,hR⟩:=h;refine⟨rfl,?_⟩;refine⟨ps,ws,rfl,hF,hz,hw,hu,hN,fun vs hv=>?_⟩;have e1:=Gz (JT ps);rw[List.getLast?_eq_getElem?] at e1;have hi:=(YF.mp e1).1;have hl:=hv.1;obtain⟨v,h2⟩:∃v,vs[(Ui (JT ps)).length-1]?=some v:=⟨_,Yp (by omega)⟩;have L:=hv.2 _ _ _ e1 h2;rw[←hl] at h2;exact⟨_,Kw (f:=D.int) (Pm h2),hR _ L⟩
def Ir (G:Glob K mg) (DD:Pu.DefM K (Meth K (ExcR.JB mg "Village") "order") "order" "Village.order" BC ["self"])
  (ZX:AG P w K mg base)
  (Zd:Kd P w K mg base)
  (Zc:Kl P w K mg base)
  : D6 P w K mg base:=by
 refine DD.oz (k:=5) RH (fun _ _ _ _ _ _ E hr=>⟨_,(J7 (JC (fz ZX hr (bz (Ux Zd G.cl_Village (hr.mono (by decide)) Ut (pv 0)) (Ux Zc G.cl_Village (hr.mono (by decide)) Ut (pv 0)))))), (JG (JH (tz (UE Kv (J0 0) JQ) (UE Kr (J0 0) JQ))))⟩) (.a fun ds R X h=>?_)
 ·obtain⟨bk,fs,ws,f,w,rfl,hF,hz,hw,hu,hN,hR⟩:=h;refine⟨rfl,?_⟩;exact⟨rfl,rfl,bk,fs,ws++[w],f,rfl,rfl,rfl,bk,fs++[f],ws,w,rfl,f,w,rfl,hF,hz,hw,hu,hN,hR⟩
def Zb7 (G:Glob K mg) (DD:Def K mg "_law_quiet" Bj ["_law_village","_law_past"])
  (ZY:Au P w K mg base)
  (Zm:F6 P w K mg base)
  : Ef P w K mg base:=by
 refine DD.oz (k:=5) Cu (fun _ _ _ _ _ _ E hr=>⟨_,(J6 (Sb YI (U3 (Uk (K:=K) (fz ZY hr (bz (Xw (Zde rfl) (by rfl) G.list boot_list (az (Xw MC (by rfl) G.range boot_range (bz J2 J2)))) (jx K (jx K (pv 1) (U1 U2 J2)) J2))))) (J6 (Pu.pz 2 Cu.nd (jx K (jx K (jx K (pv 1) (U1 U2 J2)) J2) (U1 U2 J2))) (J7 (JI (U3 (Uk (K:=K) (fz Zm hr (dz (pv 0) (pv 1) (Uc (dz Ul (jx K (pv 2) J2) (jx K (pv 2) J2))))))) (J7 (JC Uw))
   JJ)))) (J7 (JC Uw))), (J4 (Nq [2] (US (U0 (JH (tz (RW (tz J1 J1)) (J8 (J8 (J0 1) (U5 J1)) J1))))) (J4 (JF (J8 (J8 (J8 (J0 1) (U5 J1)) J1) (U5 J1)) (JA 2)) (KM 1 (PN (P3 (sv_w (P7 0 1 (by decide) (sz (Ub (uz Um (J8 (J0 2) J1) (J8 (J0 2) J1))))))) (Kz Ur) JK)))) (Kz Ur))⟩) (.d fun o1 o2 ss R X h=>?_)
 ·obtain⟨x,b1,b2,b3,a,f0,hs,rfl,rfl,rfl,hz,hf,hR⟩:=h;refine⟨rfl,?_⟩;refine Sm (fun γ'=>∃hs':Hist,γ'=[some (.own (vO (ExcR.JB mg "Village") x b1 b2 b3 (bkH hs') (fsH f0 hs') (wsH hs'))),some (.own (.lsA a (JY f0 hs'))),none]/\hs'.length+(curW hs').length<=hs.length+20/\FineH f0 hs'/\curF f0 hs'=curF f0 hs) Zfl ⟨hs,rfl,by have:=hf.cur.2.1;omega,hf,rfl⟩ ?_;rintro γ' ⟨hs',rfl,hl,hf',hc⟩;obtain⟨⟨c1,c2⟩,c3⟩:=hf'.cur;obtain⟨dl,el⟩:=KU f0 hs';have hu:∀q∈curW hs',q.1≠q.2:=fun q hq=>(c3.2.2 q hq).2;refine⟨⟨by decide,by decide,by decide,by decide⟩,by decide,_,el,_,rfl,tenM,curW hs',rfl,by decide,by have:=c3.1;omega,?_⟩;refine ite2 (fun g=>?_) (fun g=>?_)
  ·have hne:¬Uq (curW hs') tenM tenM.length=[]:=fun z=>by rw[Yr z] at g;cases g
   have hR1:∃r,Ring tenM (curW hs') r:=YV fun z=>hne ((Ey hu).mpr z)
   have hne2:curW hs'≠[]:=fun z=>by
    obtain⟨r,R0⟩:=hR1;rw[z] at R0;exact O5 R0
   obtain⟨q,hq,eq⟩:=Zak prD hne2;have h4:=Zbt (f0:=f0) hq;have h5:=Zd4 hq;refine⟨_,el,_,rfl,_,eq,?_⟩;refine⟨_,UX _ _,_,SE _ _ (.inr rfl),by simp,?_⟩;refine⟨x,b1,b2,b3,a,f0,hs',_,rfl,rfl,rfl,by omega,hf',.inr ⟨.drop q.1 q.2,rfl,?_⟩⟩;have hk:=hf'.add (.drop q.1 q.2);rw[h4] at hk ⊢;refine⟨⟨_,rfl,?_,hk,?_⟩,?_⟩
   ·rw[Sd,Yv,YW];show _+(Kj (curW hs') q.1 q.2).length<=_;omega
   ·rw[FW];exact hc
   ·show Pf (JY f0 (hs'++[_]))<Pf (JY f0 hs');rw[Dn,Dn,Sd];exact h5
  ·have hN:¬ ∃r,Ring tenM (curW hs') r:=(Ey hu).mp (YV fun z=>g (by rw[YB z];rfl));exact⟨_,_,rfl,rfl,⟨rfl,by simp⟩,rfl,hR hs' (by omega) hf' hN hc⟩
def Me (G:Glob K mg) (DD:Pu.DefM K (Meth K (ExcR.JB mg "Village") "cost") "cost" "Village.cost" BK ["self"])
  (Zy:SO P w K mg base)
  (Zd:Kd P w K mg base)
  (Zc:Kl P w K mg base)
  : N4 P w K mg base:=by
 refine DD.oz (k:=6) HG (fun _ _ _ _ _ _ E hr=>⟨_,(J7 (JC (fz Zy hr (bz (Ux Zd G.cl_Village (hr.mono (by decide)) Ut (pv 0)) (Ux Zc G.cl_Village (hr.mono (by decide)) Ut (pv 0)))))), (JG (JH (tz (UE Kv (J0 0) JQ) (UE Kr (J0 0) JQ))))⟩) (.a fun ds R X h=>?_)
 ·obtain⟨bk,fs,ws,f,w,rfl,hF,hz,hw,hu,hN,hR⟩:=h;refine⟨rfl,?_⟩;exact⟨rfl,rfl,bk,fs,ws++[w],f,rfl,rfl,rfl,bk,fs++[f],ws,w,rfl,f,w,rfl,hF,hz,hw,hu,hN,hR⟩
def Rh (G:Glob K mg) (DD:Pu.DefM K (Meth K (ExcR.JB mg "Village") "offer") "offer" "Village.offer" F9 ["self","place","holder"])
  (Zr:B7 P w K mg base)
  (Zn:N4 P w K mg base)
  (Zd:Kd P w K mg base)
  (Zy:SO P w K mg base)
  (Zc:Kl P w K mg base)
  : AU P w K mg base:=by
 refine DD.oz (k:=7) Al (fun _ _ _ _ _ _ E hr=>⟨_,(J6 (Pu.pz 3 Al.nd (Xa Zr (hr.mono (by decide)) NO (dz (Ux Zd G.cl_Village (hr.mono (by decide)) Ut (pv 0)) (pv 1) (pv 2)))) (J6 (Pu.pz 4 Al.nd (Ux Zn G.cl_Village (hr.mono (by decide)) Ut (pv 0))) (J7 (JC (J9 UV (fz Zy hr (bz (pv 3) (Ux Zc G.cl_Village (hr.mono (by decide)) Ut (pv 0)))) (pv 4)))))), (J4 (JF (JH (uz (UE Kv (J0 0) JQ) (J0 1) (J0 2))) (JA 3)) (J4 (JF (UE FJ (J0 0) JQ) (JA 4)) (JG (UU (JH (tz (J0 3) (UE Kr (J0 0) JQ))) (J0 4)))))⟩) (.a fun ds R X h=>?_)
 ·obtain⟨bk,fs,ws,f,w,p,h,rfl,hF,hz,hw,hu,hE,hN,hN2,hR⟩:=h;refine⟨rfl,?_⟩;refine⟨rfl,rfl,bk,fs,ws++[w],f,rfl,?_⟩;refine⟨f,p,h,rfl,by omega,?_⟩;rw[hE];have hl:=B4 f p h;have hF2:=B5 hF hE;refine⟨rfl,rfl,bk,fs,ws,f,w,rfl,hF,by omega,hw,hu,hN,fun u h1=>?_⟩;exact⟨rfl,rfl,bk,fs++[f],ws,w,rfl,UY f p h,w,rfl,hF2,by omega,hw,hu,hN2,fun v h2=>hR u v h1 h2⟩
def IR (G:Glob K mg) (DD:Def K mg "_law_priced" Fs ["_law_village","_law_strips"])
  (ZZ:D6 P w K mg base)
  (Ya:GY P w K mg base)
  (Zp:BI P w K mg base)
  (Yb:Dh P w K mg base)
  (Zn:N4 P w K mg base)
  : Dk P w K mg base:=by
 refine DD.oz (k:=7) SB (fun _ _ _ _ _ _ E hr=>⟨_,(J6 (Pu.pz 2 SB.nd (Ux ZZ G.cl_Village (hr.mono (by decide)) Ut (pv 0))) (J6 (JI (PW.pt (U7 (U3 (Uk (K:=K) (UD (Kp (K:=K)) (by rfl) G.isinstance W1 (bz (pv 2) (Ka (v:=.ty "list") rfl G.list boot_list rfl))))) (UH (U3 (Uk (K:=K) (fz Zp hr (bz (UD (Ss (K:=K) (w:=w) rfl) (by rfl) G.sorted boot_sorted (az (pv 2))) (fz Yb hr (az (pv 1)))))))))) (J7 (JC (U1 U2 J2)))
   JJ) (J6 (Pu.pz 3 SB.nd (fz Ya hr (bz (pv 1) (pv 2)))) (J6 (JI (U3 (Uk (K:=K) (fz Zp hr (bz (JO (az (Ux Zn G.cl_Village (hr.mono (by decide)) Ut (pv 0)))) (JO (az (pv 3))))))) (J7 (JC (U1 U2 J2)))
   JJ) (J7 (JC (pv 3))))))), (J4 (JF (UE Zfp (J0 0) JQ) (JA 2)) (J4 (JL (UA (US (U0 (Kt (tz (J0 2) Kg)))) (US (U0 (JH (tz (S8 (sz (J0 2))) (JH (sz (J0 1)))))))) (JG (U5 J1)) JK) (J4 (JF (JH (tz (J0 1) (J0 2))) (JA 3)) (J4 (JL (US (U0 (JH (tz (JN (sz (UE FJ (J0 0) JQ))) (JN (sz (J0 3))))))) (JG (U5 J1)) JK) (XN 3)))))⟩) (.a fun ds R X h=>?_)
 ·obtain⟨bk,fs,ws,f,w,rfl,hF,hz,hw,hu,hN,hR⟩:=h;refine⟨rfl,?_⟩;refine⟨rfl,rfl,bk,fs,ws,f,w,rfl,hF,hz,hw,hu,hN,fun o hB=>?_⟩;have hh:=PP f;have hol:=hB.perm.length_eq;refine⟨true,.same _,iteF ⟨o,rfl,by omega,fun ss hp hs=>?_⟩⟩;have es:=LZ hB.perm hp hs;subst es;refine⟨f,rfl,by omega,JT f,rfl,by omega,iteF ?_⟩;refine⟨f,o,rfl,hF,hz,Mv hF hB.perm,?_⟩;have hL:Least w (pcc f) (JT f) (oc (pcc f) o):=⟨⟨o,hB.perm,hB.keeps,rfl⟩,hB.le⟩;have pri:oc (pcc f) o=priM f o f.length:=Ls hF hB.perm;have h0:=Cy hF o f.length;rw[pri] at hL;generalize priM f o f.length=v at hL h0 ⊢;refine⟨rfl,rfl,bk,fs,ws,f,w,rfl,hF,hz,hw,hu,hN,fun v1 h1=>?_⟩;obtain rfl:=h1.uniq hL;exact⟨by simp,by simp,[v1],rfl,by simp,iteF (hR v1 h0 hL)⟩
def Zfe (G:Glob K mg) (DD:Def K mg "law" Ki ["_law_script"])
  (Yc:EZ P w K mg base)
  (Yd:Cj P w K mg base)
  (Ye:D9 P w K mg base)
  (Yf:GF P w K mg base)
  (Yg:DA P w K mg base)
  (Yh:Gv P w K mg base)
  (Yi:Ef P w K mg base)
  (Z0:Dk P w K mg base)
  (Ze:Pn P w K mg base)
  (Yj:AU P w K mg base)
  (Z1:As P w K mg base)
  (Zm:F6 P w K mg base)
  (Zb:Pj P w K mg base)
  (Yk:A7 P w K mg base)
  (Zh:Px P w K mg base)
  (Yl:AD P w K mg base)
  (Zp:BI P w K mg base)
  (Ym:Cw P w K mg base)
  (Zn:N4 P w K mg base)
  : Zan P w K mg base:=by
 refine DD.oz (k:=8) Xy (fun _ _ _ _ _ _ E hr=>⟨_,(J6 (Pu.pz 1 Xy.nd (fz Yc hr (az (fz Yh hr (bz (pv 0) J2))))) (J6 (Zcs (J9 Ud J2 (J9 JZ (jx K (pv 1) J2) J2)) (Oj (pv 1) J2 Oi)) (J6 (Pu.pz 2 Xy.nd (fz Yd hr (dz (pv 0) (pv 1) (J9 JZ (J9 U8 (fz Zb hr (bz (pv 0) J2)) J2) J2)))) (J6 (Pu.pz 3 Xy.nd (Ms Ye G.m_Village (hr.mono (by decide)) NO (az (Xw (P5 (K:=K)) (by rfl) G.list boot_list (az (pv 2)))))) (J6 (Pu.pz 4 Xy.nd (JO (az (Uc (dz (pv 2) (JO Uh) (Uc Uh)))))) (J6 (UP YI rfl (Uy (K:=K) (fz Yf hr (bz (pv 0) (pv 1)))) (gz 5 Xy.nd) (J7 (JI (U3 (Uk (K:=K) (fz Zm hr (dz (pv 3) (pv 4) (pv 5))))) (J7 (JC Uw))
   JJ))) (J6 (UP YI rfl (Uy (K:=K) (fz Yg hr (bz (pv 0) J2))) (gz 6 Xy.nd) (J7 (JI (U3 (Uk (K:=K) (fz Zm hr (dz (pv 3) (pv 4) (fz Yk hr (dz (pv 6) (pv 1) (jx K (pv 4) (U1 U2 J2)))))))) (J7 (JC Uw))
   JJ))) (J6 (JI (U3 (Uk (K:=K) (fz Yi hr (bz (pv 3) (pv 4))))) (J7 (JC Uw))
   JJ) (J6 (Pu.pz 7 Xy.nd (JO (az (fz Z0 hr (bz (pv 3) (jx K (jx K (pv 4) (U1 U2 J2)) J2)))))) (J6 (UP YI rfl (Kn rfl G.range (az (J9 K5 (Xw CA (by rfl) G.int boot_int (az (XT (D7 (K:=K) (show _<cLine from hr.units0)) (jx K (jx K (pv 4) (U1 U2 J2)) J2) (JO Uh) (JV _)))) (J9 Ud J2 (J9 JZ (fz Ym hr (az (pv 0))) J2))))) (gz 8 Xy.nd) (J6 (Pu.pz 6 Xy.nd (fz Ze hr (bz (fz Zb hr (bz (pv 0) J2)) (pv 8)))) (J6 (Pu.pz 9 Xy.nd (J9 Ud J2 (J9 JZ (pv 6) (ln K G.len (jx K (jx K (pv 4) (U1 U2 J2)) J2))))) (KO (Pu.pz 10 Xy.nd (J9 Ud J2 (J9 JZ (J9 Ud (jx K (jx K (jx K (jx K (pv 4) (U1 U2 J2)) J2) (J9 UV (pv 9) J2)) J2) (J9 JZ (J9 U8 (pv 6) J2) J2)) J2))) (J6 (Pu.pz 11 Xy.nd (XS Yj G.cl_Village (hr.mono (by decide)) Ut (pv 3) (bz (pv 9) (pv 10)))) (J6 (JI (PW.pt (U7 (U3 (Uk (K:=K) (fz Zh hr (az (pv 11))))) (UH (U3 (Uk (K:=K) (fz Z1 hr (bz (pv 3) (pv 4)))))))) (J7 (JC Uw))
   JJ) (J6 (JI (U3 (Uk (K:=K) (fz Zm hr (dz (pv 3) (pv 4) (Uc (dz Ul (pv 9) (pv 10))))))) (J7 (JC Uw))
   JJ) (J6 (Uu (Km YJ Wh Wi Kk (pv 7) (az (fz Z0 hr (bz (pv 3) (jx K (jx K (pv 4) (U1 U2 J2)) J2)))))) (J7 (JI (PW.pt (U7 (cn K hr (jx K (pv 7) (U1 U2 J2)) (J9 Ud (jx K (pv 7) (U1 U2 J2)) (pv 11))) (UH (JU Xd (jx K (pv 7) (U1 U2 J2)) J2 (JV _))))) (J7 (JC Uw))
   JJ)))))))))) (J6 (Sb YI (JU Xk (ln K G.len (pv 7)) J2 (JV _)) (J6 (Uu (Pd YJ WG WH PL (pv 7))) (J7 (JI (PW.pt (U7 (U3 (Uk (K:=K) (fz Yl hr (bz (pv 3) (pv 4))))) (UH (U3 (Uk (K:=K) (fz Zp hr (bz (JO (az (Ux Zn G.cl_Village (hr.mono (by decide)) Ut (pv 3)))) (JO (az (jx K (pv 7) (U1 U2 J2))))))))))) (J7 (JC Uw))
   JJ)))) (J7 (JC (PV (XT Pl (jx K (pv 7) J2) J2 (JV _)) (PB (fz Z1 hr (bz (pv 3) (pv 4)))))))))))))))))), (J4 (JF (JH (sz (JH (tz (J0 0) J1)))) (JA 1)) (J4 (Zff 1 J1 (Ue J1 (Ua (J8 (J0 1) J1) J1))) (J4 (JF (JH (uz (J0 0) (J0 1) (Ua (U6 (JH (tz (J0 0) J1)) J1) J1))) (JA 2)) (J4 (JF (Za7 (sz (Td (sz (J0 2))))) (JA 3)) (J4 (JM 2 (JF (JN (sz (Ub (uz (J0 2) (JN JQ) (Ub JQ))))) (JA 4))) (J4 (KM 4 (UL [5] (XO (JH (tz (J0 0) (J0 1)))) (JA 5) (JM 5 (KM 4 (PN (P3 (sv_w (P7 3 4 (by decide) (sz (J0 5))))) (JG Ur) JK))))) (J4 (UL [6] (XO (JH (tz (J0 0) J1))) (JA 6) (KM 4 (PN (P3 (sv_w (P7 3 4 (by decide) (sz (JH (uz (J0 6) (J0 1) (J8 (J0 4) (U5 J1)))))))) (JG Ur) JK))) (J4 (KM 4 (PN (P3 (sv_w (P7 3 4 (by decide) JQ))) (JG Ur) JK)) (J4 (JF (JN (sz (JH (tz (J0 3) (J8 (J8 (J0 4) (U5 J1)) J1))))) (JA 7)) (J4 (UL [6,8,9,10,11] (Kb (sz (KD (GC (sz (T8 (J8 (J8 (J0 4) (U5 J1)) J1) (JN JQ)))) (Ue J1 (Ua (JH (sz (J0 0))) J1))))) (JA 8) (J4 (JF (JH (tz (JH (tz (J0 0) J1)) (J0 8))) (JA 6)) (J4 (JF (Ue J1 (Ua (J0 6) (Ug (sz (J8 (J8 (J0 4) (U5 J1)) J1))))) (JA 9)) (Po (JF (Ue J1 (Ua (Ue (J8 (J8 (J8 (J8 (J0 4) (U5 J1)) J1) (UU (J0 9) J1)) J1) (Ua (U6 (J0 6) J1) J1)) J1)) (JA 10)) (J4 (JF (UE Zfx (J0 3) (tz (J0 9) (J0 10))) (JA 11)) (J4 (JL (UA (US (U0 (JH (sz (J0 11))))) (US (U0 (JH (tz (J0 3) (J0 4)))))) (JG Ur) JK) (J4 (JM 10 (JM 9 (KM 4 (PN (P3 (sv_w (P7 3 4 (by decide) (sz (Ub (uz Um (J0 9) (J0 10))))))) (JG Ur) JK)))) (J4 (PH 7 (JH (tz (J0 3) (J8 (J8 (J0 4) (U5 J1)) J1)))) (JL (UA (JE (X5 (J8 (J0 7) (U5 J1)) (Ue (J8 (J0 7) (U5 J1)) (J0 11)))) (JE (Xm (J8 (J0 7) (U5 J1)) J1))) (JG Ur) JK))))))))) (J4 (Nq [] (JE (Xn (Ug (sz (J0 7))) J1)) (J4 (Kx (SK 7)) (KM 4 (PN (Zbv (P3 (sv_w (P7 3 4 (by decide) JQ))) (sv_p (US (U0 (JH (tz (JN (sz (UE FJ (J0 3) JQ))) (JN (sz (J8 (J0 7) (U5 J1)))))))))) (JG Ur) JK)))) (JG (PR (Pa (J8 (J0 7) J1) J1) (JH (tz (J0 3) (J0 4))))))))))))))))⟩) (.a fun ds R X h=>?_)
 ·obtain⟨ns,rfl,hR⟩:=h;refine⟨rfl,?_⟩;refine⟨ns,0,rfl,by decide,fun c0=>⟨c0,rfl,fun m hM=>?_⟩⟩;have hM0:=hM;obtain⟨a0,a1,a2,a3,a4,em,ha,_⟩:=hM0;have i0:atI (m.map D.int) 0=some (.int a0):=by rw[em];rfl
  have s0:ixN (m.map D.int).length 0=some 0:=by rw[em];rfl
  have hM:=RA hM (v:=1+a0 % 8) (by omega);have es:(m.map D.int).set 0 (.int (1+a0 % 8))=(m.set 0 (1+a0 % 8)).map D.int:=by rw[List.map_set]
  refine⟨_,i0,(by show(0:Int)<8;decide),_,_,s0,rfl,?_⟩;rw[es];generalize m.set 0 (1+a0 % 8)=m at hM;refine⟨ns,0,rfl,by decide,⟨by decide,by decide⟩,(by show(0:Int)<31;decide),ns,m,_,rfl,hM,by omega,by omega,fun ps hF hlen=>?_⟩;have hz:ps.length<=40:=by omega
  refine⟨rfl,fun x=>⟨x,ps,rfl,rfl,by omega,?_⟩⟩;rw[Zam hF hz];refine fun b1 b2 b3=>⟨rfl,?_⟩;refine⟨by simp,by simp,by simp,by simp,fun a=>?_⟩;refine⟨ns,m,rfl,hM,fun qs hq=>?_⟩;refine⟨rfl,XE (xs:=qs) (emb:=fun q:Int×Int=>dD (Dd.wish q.1 q.2).q) (fun i γ'=>∃hs:Hist,hs.length<=i/\FineH ps hs/\γ'=[some (.bor (.scr ns)),some (.own (m.map D.int)),some (.sh (plD ps)),some (.own (vO (ExcR.JB mg "Village") x b1 b2 b3 (bkH hs) (fsH ps hs) (wsH hs))),some (.own (.lsA a (JY ps hs))),none,none,none,none,none,none,none]) ?_ ?_ ?_⟩
  ·exact⟨[],Wz _,FineH.nil hF hz,rfl⟩
  ·rintro i γ' hi ⟨hs,h1,h2,rfl⟩;refine⟨x,b1,b2,b3,a,ps,hs,_,rfl,rfl,rfl,by omega,h2,.inr ⟨.wish qs[i].1 qs[i].2,rfl,?_⟩⟩;refine iteF ?_;exact⟨addH ps hs (.wish qs[i].1 qs[i].2),by have:=Cp ps hs (.wish qs[i].1 qs[i].2);omega,h2.add _,rfl⟩
  rintro γ' ⟨hs,h1,h2,rfl⟩;refine⟨ns,6,rfl,by decide,by decide,fun cs hc=>?_⟩;refine⟨rfl,XE (xs:=cs) (emb:=D.int) (fun i γ'=>∃hs:Hist,hs.length<=24+i/\FineH ps hs/\γ'=[some (.bor (.scr ns)),some (.own (m.map D.int)),some (.sh (plD ps)),some (.own (vO (ExcR.JB mg "Village") x b1 b2 b3 (bkH hs) (fsH ps hs) (wsH hs))),some (.own (.lsA a (JY ps hs))),none,none,none,none,none,none,none]) ?_ ?_ ?_⟩
  ·exact⟨hs,by omega,h2,rfl⟩
  ·rintro i γ' hi ⟨hs,h1,h2,rfl⟩;obtain⟨⟨c1,c2⟩,c3⟩:=h2.cur;obtain⟨dl,el⟩:=KU ps hs;refine⟨_,el,_,m,curF ps hs,curW hs,[dl],rfl,hM,by omega,c1,by have:=c3.1;omega,fun d=>?_,?_⟩
   ·refine⟨x,b1,b2,b3,a,ps,hs,_,rfl,rfl,rfl,by omega,h2,.inr ⟨d,rfl,?_⟩⟩;have la:=Cp ps hs d;exact⟨addH ps hs d,by omega,h2.add d,rfl⟩
   ·refine⟨x,b1,b2,b3,a,ps,hs,_,rfl,rfl,rfl,by omega,h2,.inl ⟨rfl,?_⟩⟩;have la:hs.dropLast.length<=hs.length:=by rw[List.length_dropLast];omega
    exact⟨hs.dropLast,by omega,h2.back,rfl⟩
  rintro γ' ⟨hs,h1,h2,rfl⟩;refine⟨x,b1,b2,b3,a,ps,hs,rfl,rfl,rfl,by omega,h2,fun hs h1' h2 hN _=>?_⟩;have hl0:hs.length<=50:=by omega
  clear h1' h1 hc;obtain⟨⟨c1,c2⟩,c3⟩:=h2.cur;obtain⟨dl,el⟩:=KU ps hs;obtain⟨fs,ef,lf⟩:=Pe ps hs;obtain⟨ws,ew,lw⟩:=Pk hs;have hu:∀q∈curW hs,q.1≠q.2:=fun q hq=>(c3.2.2 q hq).2;refine⟨_,el,_,rfl,bkH hs,fs,ws,curF ps hs,curW hs,by rw[←ef,←ew];rfl,c1,by omega,by have:=c3.1;omega,hu,fun⟨r,R0⟩=>hN ⟨r,Sa c1 R0⟩,fun v0 hv0 hL0=>⟨by simp,?_⟩⟩;generalize eW:curW hs=W at hu hN hL0 c3;generalize eF:(curF ps hs).length=F at c2
  obtain⟨u,eu,hu01⟩:∃u:Int,(if (if true=true then !(List.map prD (curF ps hs)).isEmpty else(List.map prD (curF ps hs)).isEmpty)=true then(1:Int) else 0)=u/\(u=0\/(u=1/\0<F)):=by
   refine⟨_,rfl,?_⟩;rw[←eF];cases curF ps hs with
   | nil=>exact .inl rfl
   | cons q r=>exact .inr ⟨rfl,Nat.succ_pos _⟩
  refine⟨_,el,_,rfl,by simp,ns,rfl,fun sp=>⟨(by show(0:Int)<3;decide),?_,?_⟩⟩
  ·rw[eu];exact .inl (by rcases hu01 with e|⟨e,_⟩<;>rw[e]<;>exact⟨by decide,by decide⟩)
  rw[eu]
  have hn:(0<=u*(1+sp % 3)/\u*(1+sp % 3)<=3)/\(0<u*(1+sp % 3)->0<F):=by
   rcases hu01 with e|⟨e,h⟩
   ·rw[e,Int.zero_mul];omega
   ·rw[e,Int.one_mul];omega
  refine⟨⟨by omega,by omega⟩,XZ (fun i γ'=>∃(hs:Hist) (cs:List Int),hs.length<=50+i/\cs.length=1+i/\FineH ps hs/\Told ps W hs cs/\(curF ps hs).length=F/\γ'=[some (.bor (.scr ns)),some (.own (m.map D.int)),some (.sh (plD ps)),some (.own (vO (ExcR.JB mg "Village") x b1 b2 b3 (bkH hs) (fsH ps hs) (wsH hs))),some (.own (.lsA a (JY ps hs))),none,none,some (.own (cs.map D.int)),none,none,none,none]) ⟨hs,[v0],by omega,rfl,h2,.one hs v0 hv0 eW hL0,eF,rfl⟩ ?_ ?_⟩
  ·clear el ef lf ew lw eW eF hL0 hv0 c1 eu hu01 hl0 h2;rintro i γ' hi ⟨hs,cs,h1,hlc,h2,hT,eF,rfl⟩;have hi':i<(u*(1+sp % 3)).toNat:=hi;obtain⟨⟨c1,c2'⟩,c3'⟩:=h2.cur;obtain⟨dl,el⟩:=KU ps hs;obtain⟨fs,ef,lf⟩:=Pe ps hs;obtain⟨ws,ew,lw⟩:=Pk hs;obtain⟨cs0,v1,rfl,hv1,eW,hL⟩:=hT.end;have hlm:((curF ps hs).map prD).length=F:=by rw[Yn];exact eF
   refine⟨ns,2,rfl,by decide,_,_,rfl,?_⟩;generalize mixP (ns.getD (2:Int).toNat 0) (0+(i:Int))=cell;have q1:=Va cell (show((((curF ps hs).map prD).length:Nat):Int)≠0 by omega);have q2:=Q8 cell (show 0<((((curF ps hs).map prD).length:Nat):Int) by omega);refine⟨_,el,_,rfl,(by show 0<((((curF ps hs).map prD).length:Nat):Int);omega),?_⟩;refine Ky (fun γ'=>∃(p h:Int) (t1 t2:Option S),UC (curF ps hs) p h=none/\γ'=[some (.bor (.scr ns)),some (.own (m.map D.int)),some (.sh (plD ps)),some (.own (vO (ExcR.JB mg "Village") x b1 b2 b3 (bkH hs) (fsH ps hs) (wsH hs))),some (.own (.lsA a (JY ps hs))),none,t1,some (.own ((cs0++[v1]).map D.int)),t2,some (.sh (.int p)),some (.sh (.int h)),none]) ?_ ?_
   ·have hP:1<=1+cell % ((((curF ps hs).map prD).length:Nat):Int)/\1+cell % ((((curF ps hs).map prD).length:Nat):Int)<=((curF ps hs).length:Int):=by omega
    have hat:=Ke (ps:=curF ps hs) hP.1 hP.2;have hmem:=c1 _ (Nf hP.1 hP.2);refine⟨_,el,_,rfl,_,hat,_,UX _ _,⟨by decide,by decide⟩,(by show(0:Int)<9;decide),(by show(0:Int)<10;decide),?_⟩;refine⟨_,_,_,_,?_,rfl⟩;show UC (curF ps hs) (1+cell % ((((curF ps hs).map prD).length:Nat):Int)) (1+((atP1 (curF ps hs) (1+cell % ((((curF ps hs).map prD).length:Nat):Int))).1+cell / 40 % 9) % 10)=none;unfold UC;rw[Yq (by omega),Yq (by omega),Yq (by omega)]
   rintro γ' ⟨p,h,t1,t2,hE,rfl⟩;have hu':∀q∈curW hs,q.1≠q.2:=fun q hq=>(c3'.2.2 q hq).2;have hN1:∀f,Field f->¬ ∃r,Ring (JT f) (curW hs) r:=fun f hf ⟨r,R0⟩=>hN ⟨r,Sa hf (by rw[eW] at R0;exact R0)⟩;have hF2:=B5 c1 hE;refine⟨rfl,rfl,bkH hs,fs,ws,curF ps hs,curW hs,p,h,by rw[←ef,←ew];rfl,c1,c2',by have:=c3'.1;omega,hu',hE,hN1 _ c1,hN1 _ hF2,fun u1 u2 l1 l2=>?_⟩;rw[eW] at l1 l2;obtain rfl:=l1.uniq hL;refine⟨_,rfl,iteF ⟨ps,hs,rfl,by omega,h2.len.1,h2.len.2,iteF ?_⟩⟩
   have ea:addH ps hs (.sell p h)=hs++[(.sell p h,UY (curF ps hs) p h,curW hs)]:=by
    unfold addH;rw[Ys (show(Dd.sell p h).err (curF ps hs) (curW hs)=none from hE)]
    rfl
   have hk:=h2.add (.sell p h);refine⟨by simp,x,b1,b2,b3,a,ps,hs,_,rfl,rfl,rfl,by omega,h2,.inr ⟨.sell p h,rfl,?_⟩⟩;rw[ea] at hk ⊢;generalize ex:((Dd.sell p h,UY (curF ps hs) p h,curW hs):Dd×List (Int×Int)×List (Int×Int))=y at hk;have ey1:y.2.1=UY (curF ps hs) p h:=by rw[←ex]
   have ey2:y.2.2=curW hs:=by rw[←ex]
   have eF2:curF ps (hs++[y])=UY (curF ps hs) p h:=by rw[FW,ey1]
   have eW2:curW (hs++[y])=W:=by rw[Sd,ey2,eW]
   obtain⟨dl2,el2⟩:=KU ps (hs++[y]);obtain⟨fs2,ef2,lf2⟩:=Pe ps (hs++[y]);obtain⟨ws2,ew2,lw2⟩:=Pk (hs++[y]);obtain⟨⟨d1,d2⟩,d3⟩:=hk.cur;have lc:((cs0++[u1]).map D.int).length<=10:=by rw[Yn];omega
   have e7:(cs0++[u1]).map D.int++[D.int u2]=(cs0++[u1]++[u2]).map D.int:=by rw[YC (l₁:=cs0++[u1])];rfl
   have k1:atI ((cs0++[u1]).map D.int++[D.int u2]) (-1)=some (.int u2):=by rw[e7];exact Pm D.int (cs0++[u1]) u2
   have k2:atI ((cs0++[u1]).map D.int++[D.int u2]) (-2)=some (.int u1):=by rw[e7];exact Ze2 cs0 u1 u2
   refine⟨_,el2,_,rfl,bkH (hs++[y]),fs2,ws2,curF ps (hs++[y]),curW (hs++[y]),by rw[←ef2,←ew2];rfl,d1,by omega,by have:=d3.1;omega,fun q hq=>(d3.2.2 q hq).2,fun⟨r,R0⟩=>hN ⟨r,Sa d1 (by rw[eW2] at R0;exact R0)⟩,fun v2 hv2 hL2=>?_⟩;rw[eW2,eF2] at hL2;obtain rfl:=hL2.uniq l2;refine⟨by omega,_,k1,_,k2,?_⟩;show if (!decide (v2=u1+(v2-u1)))=true then _ else _;rw[Yr (by omega)];refine iteF ⟨_,k1,?_⟩;show if decide (v2<0)=true then _ else _;rw[YB (by omega)];refine iteF ⟨hs++[y],cs0++[u1]++[v2],by rw[Yv,YW];omega,by rw[Yv (bs:=[v2]),YW];omega,hk,.more hs y _ v2 hT hv2 (by rw[ey2];exact eW) (by rw[ey1];exact hL2),by rw[eF2,B4];exact eF,?_⟩;rw[←e7];rfl
  ·rintro γ' ⟨hs,cs,h1,hlc,h2,hT,eF,rfl⟩;refine Sm (fun γ'=>∃(hs:Hist) (cs:List Int),hs.length<=53/\FineH ps hs/\Told ps W hs cs/\γ'=[some (.bor (.scr ns)),some (.own (m.map D.int)),some (.sh (plD ps)),some (.own (vO (ExcR.JB mg "Village") x b1 b2 b3 (bkH hs) (fsH ps hs) (wsH hs))),some (.own (.lsA a (JY ps hs))),none,none,some (.own (cs.map D.int)),none,none,none,none]) OH ⟨hs,cs,by omega,h2,hT,rfl⟩ ?_;rintro γ' ⟨hs,cs,h1,h2,hT,rfl⟩;have lc:(cs.map D.int).length=cs.length:=Yn ..;refine ite2 (fun g=>?_) (fun g=>?_)
   ·have g':1<(((cs.map D.int).length:Nat):Int):=Yy g;obtain⟨h',y,c',v,rfl,rfl,hT'⟩:=hT.two (by omega);obtain⟨c0,u1,rfl,hu1,eW1,hL1⟩:=hT'.end
    have e8:((c0++[u1]++[v]).map D.int)[((c0++[u1]++[v]).map D.int).length-1]?=some (.int v):=by
     rw[Yn,Y0];simp
    have e9:((c0++[u1]++[v]).map D.int).dropLast=(c0++[u1]).map D.int:=by rw[YC (l₁:=c0++[u1])];exact Wd
    refine⟨_,e8,?_⟩;rw[e9];refine⟨x,b1,b2,b3,a,ps,h'++[y],rfl,rfl,rfl,by omega,?_⟩;rw[Wd];have hk:=h2.init;obtain⟨⟨d1,d2⟩,d3⟩:=hk.cur;obtain⟨fs2,ef2,lf2⟩:=Pe ps h';obtain⟨ws2,ew2,lw2⟩:=Pk h';refine⟨rfl,rfl,bkH h',fs2,ws2,curF ps h',curW h',by rw[←ef2,←ew2];rfl,d1,by omega,by have:=d3.1;omega,fun q hq=>(d3.2.2 q hq).2,fun⟨r,R0⟩=>hN ⟨r,Sa d1 (by rw[eW1] at R0;exact R0)⟩,fun v2 hL2=>?_⟩;rw[eW1] at hL2;obtain rfl:=hL2.uniq hL1;refine⟨by simp,_,Pm D.int c0 v2,by simp,[v2],rfl,by simp,iteF ?_⟩;refine⟨⟨h',c0++[v2],by rw[Yv] at h1;omega,hk,hT',rfl⟩,?_⟩;show((c0++[v2]).map D.int).length<((c0++[v2]++[v]).map D.int).length;rw[Yn,Yn,Yv (bs:=[v])];exact WQ _
   ·have g':¬1<(((cs.map D.int).length:Nat):Int):=fun z=>g (Yr z);obtain⟨v,rfl,hv⟩:=hT.single (by omega);refine⟨_,rfl,?_⟩;show if decide (0<=v)=true then _ else _;rw[Yr hv];exact iteT ⟨ps,hs,rfl,by omega,h2.len.1,h2.len.2,hR⟩
end
end T
namespace T
open PySem PySem.Spec PyProof.Rows L2 Own M
def L3 {l:PySem.W.OpenLaw}{w:World}{K:Za}{h:Heap}{mg:Str->Option Value}{fa:Addr} (X:K.In h) (G0:h.Ns mainGlobals mg) (hfa:mg "law"=some (.ref fa))
  {Vr:Addr} (Vw:PySem.W.nsIn K mainGlobals "Village"=some (some (.ref Vr)))
  (VA:PySem.W.plainGet K Vr Str.empty=true) (VB:PySem.W.hasDictIn K Vr=true) (VC:PySem.W.plainOver K Vr=true) (VD:PySem.W.findIn K (.ref Vr) "__setattr__"=some (some (.builtin "object.__setattr__"))) (VE:PySem.W.makesIn K Vr=true) (VF:PySem.W.keepIn K (.ref Vr)=true)
  (VG:PySem.W.findIn K (.ref Vr) "book"=some none)
  (VH:PySem.W.findIn K (.ref Vr) "fields"=some none)
  (VI:PySem.W.findIn K (.ref Vr) "wished"=some none)
  (a0:Pu.DI K "check_holder" Bl)
  (a1:Pu.DI K "check_width" Fm)
  (a2:Pu.DI K "check_strips" Bq)
  (a3:Pu.DI K "holders_of" Bt)
  (a4:Pu.DI K "pair_cost" FH)
  (a5:Pu.DI K "check_neighbours" Ao)
  (a6:Pu.DI K "longer_paths" FB)
  (a7:Pu.DI K "ring_from" BD)
  (a8:Pu.DI K "find_ring" An)
  (a9:Pu.DI K "check_no_ring" FZ)
  (a10:Pu.DI K "check_place" Bw)
  (a11:Pu.DI K "sold" BR)
  (a12:Pu.DI K "parted" Bb)
  (a13:Pu.DI K "united" Bi)
  (a14:Pu.DI K "with_wish" S9)
  (a15:Pu.DI K "without_wish" FC)
  (a16:Pu.DI K "pair_costs" FL)
  (a17:Pu.DI K "sets_of" Fi)
  (a18:Pu.DI K "without" Aa)
  (a19:Pu.DI K "may_lie_last" Sz)
  (a20:Pu.DI K "may_lie_first" Bk)
  (a21:Pu.DI K "cost_with_last" SG)
  (a22:Pu.DI K "cost_with_first" SX)
  (a23:Pu.DI K "least_costs" BP)
  (a24:Pu.DI K "cost_table" Ab)
  (a25:Pu.DI K "best_order" FG)
  (a26:Pu.DI K "least_cost" F7)
  (a27:Pu.MI K Vr "__init__" "Village.__init__" SH)
  (a28:Pu.MI K Vr "strips" "Village.strips" Fl)
  (a29:Pu.MI K Vr "wishes" "Village.wishes" F0)
  (a30:Pu.MI K Vr "deeds" "Village.deeds" Sq)
  (a31:Pu.MI K Vr "check_room" "Village.check_room" BW)
  (a32:Pu.MI K Vr "enter" "Village.enter" SJ)
  (a33:Pu.MI K Vr "sell" "Village.sell" F1)
  (a34:Pu.MI K Vr "part" "Village.part" Fy)
  (a35:Pu.MI K Vr "unite" "Village.unite" By)
  (a36:Pu.MI K Vr "wish" "Village.wish" FQ)
  (a37:Pu.MI K Vr "drop" "Village.drop" SM)
  (a38:Pu.MI K Vr "take_back" "Village.take_back" Br)
  (a39:Pu.MI K Vr "order" "Village.order" BC)
  (a40:Pu.MI K Vr "cost" "Village.cost" BK)
  (a41:Pu.MI K Vr "offer" "Village.offer" F9)
  (a42:Pu.DI K "_law_at" Ft)
  (a43:Pu.DI K "_law_whole" B0)
  (a44:Pu.DI K "_law_mix" Aq)
  (a45:Pu.DI K "_law_draw" Ag)
  (a46:Pu.DI K "_law_spare" Sx)
  (a47:Pu.DI K "_law_menu" FA)
  (a48:Pu.DI K "_law_holder" FO)
  (a49:Pu.DI K "_law_row" BQ)
  (a50:Pu.DI K "_law_tuples" BA)
  (a51:Pu.DI K "_law_deed_is" Fj)
  (a52:Pu.DI K "_law_book_is" BB)
  (a53:Pu.DI K "_law_present" Be)
  (a54:Pu.DI K "_law_price" SW)
  (a55:Pu.DI K "_law_no_ring" BU)
  (a56:Pu.DI K "_law_field_step" Fd)
  (a57:Pu.DI K "_law_wish_step" BJ)
  (a58:Pu.DI K "_law_step" FY)
  (a59:Pu.DI K "_law_call" FS)
  (a60:Pu.DI K "_law_back" BV)
  (a61:Pu.DI K "_law_stands" Ai)
  (a62:Pu.DI K "_law_go" Bp)
  (a63:Pu.DI K "_law_start" Af)
  (a64:Pu.DI K "_law_days" B8)
  (a65:Pu.DI K "_law_odd" BN)
  (a66:Pu.DI K "_law_place" BG)
  (a67:Pu.DI K "_law_pair" Bh)
  (a68:Pu.DI K "_law_opening" Fh)
  (a69:Pu.DI K "_law_width" Ap)
  (a70:Pu.DI K "_law_deed" FE)
  (a71:Pu.DI K "_law_priced" Fs)
  (a72:Pu.DI K "_law_quiet" Bj)
  {f73:Addr} {od73 an73:Option Addr} {sl73:Array (Option Value)} {oc73 kV73 dc73 pm73 cd73 ct73:Value}
  (a73:PySem.W.nsIn K mainGlobals "law"=some (some (.ref f73)))
  (l73:K.lookup f73=some ⟨oc73,od73,.func (PySem.W.fnOf "law" "law" (XB Ki) (UQ Ki) (JD Ki) .none kV73 dc73 pm73 an73 cd73 ct73),sl73⟩)
  (c73:PySem.W.codeIn K cd73 "law"=true) (k73:PySem.W.keepIn K (.ref f73)=true)
  (VJ:PySem.W.nsIn K mainGlobals "ValueError"=some none)
  (VL:PySem.W.nsIn K mainGlobals "any"=some none)
  (VM:PySem.W.nsIn K mainGlobals "bool"=some none)
  (VN:PySem.W.nsIn K mainGlobals "int"=some none)
  (VO:PySem.W.nsIn K mainGlobals "isinstance"=some none)
  (VP:PySem.W.nsIn K mainGlobals "len"=some none)
  (VQ:PySem.W.nsIn K mainGlobals "list"=some none)
  (VR:PySem.W.nsIn K mainGlobals "max"=some none)
  (VS:PySem.W.nsIn K mainGlobals "min"=some none)
  (VT:PySem.W.nsIn K mainGlobals "range"=some none)
  (VU:PySem.W.nsIn K mainGlobals "set"=some none)
  (VW:PySem.W.nsIn K mainGlobals "sorted"=some none)
  (VX:PySem.W.nsIn K mainGlobals "str"=some none)
  (VY:PySem.W.nsIn K mainGlobals "sum"=some none)
  (VZ:PySem.W.nsIn K mainGlobals "tuple"=some none)
  {Jh:Tok} (Ja:PySem.W.nsIn K mainGlobals "HOLDERS"=some (some (.int 10 Jh)))
  {Ji:Tok} (Jb:PySem.W.nsIn K mainGlobals "STRIPS"=some (some (.int 40 Ji)))
  {Jj:Tok} (Jc:PySem.W.nsIn K mainGlobals "WIDEST"=some (some (.int 1000 Jj)))
  {Jk:Tok} (Jd:PySem.W.nsIn K mainGlobals "MOST_WISHES"=some (some (.int 20 Jk)))
  {Jl:Tok} (Je:PySem.W.nsIn K mainGlobals "MOST_DEEDS"=some (some (.int 100 Jl)))
  {Jg:Addr} (Vt:Pu.EI K "MeldError" Jg)
  {Jm:Addr} (Vx:Pu.EI K "TooManyStrips" Jm)
  {Jn:Addr} (Vy:Pu.EI K "BadHolder" Jn)
  {Jo:Addr} (Vz:Pu.EI K "BadWidth" Jo)
  {Jp:Addr} (V0:Pu.EI K "NoStrip" Jp)
  {Jq:Addr} (V1:Pu.EI K "OwnStrip" Jq)
  {Jr:Addr} (V2:Pu.EI K "BadPart" Jr)
  {Js:Addr} (V3:Pu.EI K "UnlikeHolders" Js)
  {Jt:Addr} (V4:Pu.EI K "TooWide" Jt)
  {Ju:Addr} (V5:Pu.EI K "LikeHolders" Ju)
  {Jv:Addr} (V6:Pu.EI K "WishStands" Jv)
  {Jw:Addr} (V7:Pu.EI K "TooManyWishes" Jw)
  {Jx:Addr} (V8:Pu.EI K "NoWish" Jx)
  {Jy:Addr} (V9:Pu.EI K "BookFull" Jy)
  {Vu:Addr} (Vv:Pu.EI K "NothingDone" Vu)
  (x_NothingDone_NothingDone:PySem.W.exmOne K (.ref Vu) (.ref Vu)=some true)
  (k_NothingDone_MeldError:PySem.W.kitOne K (.ref Vu) (.ref Jg)=some true)
  (k_NothingDone_ValueError:PySem.W.kitOne K (.ref Vu) (.type "ValueError")=some true)
  : ∃fd:FuncData,(∀(s:Shared) (v:Value),BindsTo s fd ⟨[v],[]⟩ [("_law_script",v)])/\∀base:Heap,K.In base->base.Ns mainGlobals mg->FnOk l.prog w K mg base CX0 9 fa fd ["_law_script"] (Pu.BS K):=by
 have e:=hfa.symm.trans (Wy X G0 a73);cases e
 have Jz:=Vt.c X G0;have Jf:=Vv.c X G0;have Vs:=ExcR.AE (Wy X G0 Vw);have G:Glob K mg:=⟨YY X G0 VJ,YY X G0 VL,YY X G0 VM,YY X G0 VN,YY X G0 VO,YY X G0 VP,YY X G0 VQ,YY X G0 VR,YY X G0 VS,YY X G0 VT,YY X G0 VU,YY X G0 VW,YY X G0 VX,YY X G0 VY,YY X G0 VZ,⟨_,Wy X G0 Ja,⟨_,rfl⟩⟩,⟨_,Wy X G0 Jb,⟨_,rfl⟩⟩,⟨_,Wy X G0 Jc,⟨_,rfl⟩⟩,⟨_,Wy X G0 Jd,⟨_,rfl⟩⟩,⟨_,Wy X G0 Je,⟨_,rfl⟩⟩,(Vt.m X G0),(Vt.k X G0),(Vx.m X G0),(Vx.k X G0),(Vy.m X G0),(Vy.k X G0),(Vz.m X G0),(Vz.k X G0),(V0.m X G0),(V0.k X G0),(V1.m X G0),(V1.k X G0),(V2.m X G0),(V2.k X G0),(V3.m X G0),(V3.k X G0),(V4.m X G0),(V4.k X G0),(V5.m X G0),(V5.k X G0),(V6.m X G0),(V6.k X G0),(V7.m X G0),(V7.k X G0),(V8.m X G0),(V8.k X G0),(V9.m X G0),(V9.k X G0),(Vv.m X G0),(Vv.k X G0),(by rw[Jf];exact x_NothingDone_NothingDone),(by rw[Jf,Jz];exact k_NothingDone_MeldError),(by rw[Jf];exact k_NothingDone_ValueError),(by rw[Vs];exact Wy X G0 Vw),(by rw[Vs];exact⟨VA,VB,VC,VD⟩),(by rw[Vs];exact VG),(by rw[Vs];exact VH),(by rw[Vs];exact VI)⟩;have F73:=Fw (st:=Ki) l73 c73 k73;have b73:=F73.binds (ps:=["_law_script"]) fun _ _ _ _ _ _ us hl=>by obtain⟨_,rfl⟩:=Pu.len1 hl;rfl
 have D73:Def K mg "law" Ki ["_law_script"]:=⟨_,_,F73,Wy X G0 a73,b73⟩;refine⟨PySem.W.fnOf "law" "law" (XB Ki) (UQ Ki) (JD Ki) .none kV73 dc73 pm73 an73 cd73 ct73,fun s v=>.of_eq rfl,fun base _ _=>?_⟩;have C0:=Zbz (P:=l.prog) (w:=w) (base:=base) G (a0.e X G0);have C1:=Zdp (P:=l.prog) (w:=w) (base:=base) G (a1.e X G0);have C3:=Lp (P:=l.prog) (w:=w) (base:=base) G (a3.e X G0);have C4:=Zad (P:=l.prog) (w:=w) (base:=base) G (a4.e X G0);have C5:=Zcg (P:=l.prog) (w:=w) (base:=base) G (a5.e X G0);have C6:=Zco (P:=l.prog) (w:=w) (base:=base) G (a6.e X G0);have C10:=HF (P:=l.prog) (w:=w) (base:=base) G (a10.e X G0);have C15:=Zd1 (P:=l.prog) (w:=w) (base:=base) G (a15.e X G0);have C17:=RB (P:=l.prog) (w:=w) (base:=base) G (a17.e X G0);have C18:=Ze0 (P:=l.prog) (w:=w) (base:=base) G (a18.e X G0);have C19:=M2 (P:=l.prog) (w:=w) (base:=base) G (a19.e X G0);have C20:=Mf (P:=l.prog) (w:=w) (base:=base) G (a20.e X G0);have C28:=Zda (P:=l.prog) (w:=w) (base:=base) G (a28.e Vs);have C29:=HQ (P:=l.prog) (w:=w) (base:=base) G (a29.e Vs);have C30:=Zes (P:=l.prog) (w:=w) (base:=base) G (a30.e Vs);have C31:=Ry (P:=l.prog) (w:=w) (base:=base) G (a31.e Vs);have C32:=MG (P:=l.prog) (w:=w) (base:=base) G (a32.e Vs);have C38:=Re (P:=l.prog) (w:=w) (base:=base) G (a38.e Vs);have C42:=Zat (P:=l.prog) (w:=w) (base:=base) G (a42.e X G0);have C43:=RC (P:=l.prog) (w:=w) (base:=base) G (a43.e X G0);have C44:=Zeq (P:=l.prog) (w:=w) (base:=base) G (a44.e X G0);have C47:=R5 (P:=l.prog) (w:=w) (base:=base) G (a47.e X G0);have C48:=L6 (P:=l.prog) (w:=w) (base:=base) G (a48.e X G0);have C53:=IS (P:=l.prog) (w:=w) (base:=base) G (a53.e X G0);have C54:=Zae (P:=l.prog) (w:=w) (base:=base) G (a54.e X G0);have C55:=Om (P:=l.prog) (w:=w) (base:=base) G (a55.e X G0);have C56:=Rx (P:=l.prog) (w:=w) (base:=base) G (a56.e X G0);have C57:=M5 (P:=l.prog) (w:=w) (base:=base) G (a57.e X G0);have C65:=Rq (P:=l.prog) (w:=w) (base:=base) G (a65.e X G0);have C66:=Ll (P:=l.prog) (w:=w) (base:=base) G (a66.e X G0);have C69:=Zex (P:=l.prog) (w:=w) (base:=base) G (a69.e X G0);have C2:=Zeu (P:=l.prog) (w:=w) (base:=base) G (a2.e X G0) C0 C1;have C7:=Mc (P:=l.prog) (w:=w) (base:=base) G (a7.e X G0) C6;have C11:=Zaf (P:=l.prog) (w:=w) (base:=base) G (a11.e X G0) C10 C0;have C12:=Zd0 (P:=l.prog) (w:=w) (base:=base) G (a12.e X G0) C10;have C13:=Zek (P:=l.prog) (w:=w) (base:=base) G (a13.e X G0) C5;have C14:=HC (P:=l.prog) (w:=w) (base:=base) G (a14.e X G0) C0;have C16:=Os (P:=l.prog) (w:=w) (base:=base) G (a16.e X G0) (Sf C3) C4;have C21:=Hy (P:=l.prog) (w:=w) (base:=base) G (a21.e X G0) C18;have C22:=Zay (P:=l.prog) (w:=w) (base:=base) G (a22.e X G0) C18;have C37:=Za3 (P:=l.prog) (w:=w) (base:=base) G (a37.e Vs) C31 C15 C32 C29 C28;have C45:=Zbu (P:=l.prog) (w:=w) (base:=base) G (a45.e X G0) C44 C42;have C46:=Zfd (P:=l.prog) (w:=w) (base:=base) G (a46.e X G0) C44 C42;have C49:=Oa (P:=l.prog) (w:=w) (base:=base) G (a49.e X G0) C43;have C50:=ON (P:=l.prog) (w:=w) (base:=base) G (a50.e X G0) C43;have C51:=R9 (P:=l.prog) (w:=w) (base:=base) G (a51.e X G0) C43;have C58:=L5 (P:=l.prog) (w:=w) (base:=base) G (a58.e X G0) C56 C57;have C63:=LR (P:=l.prog) (w:=w) (base:=base) G (a63.e X G0) C42 C44 C48;have C64:=OJ (P:=l.prog) (w:=w) (base:=base) G (a64.e X G0) C44 C42;have C67:=HY (P:=l.prog) (w:=w) (base:=base) G (a67.e X G0) C65 C48;have C8:=MT (P:=l.prog) (w:=w) (base:=base) G (a8.e X G0) C7;have C23:=O1 (P:=l.prog) (w:=w) (base:=base) G (a23.e X G0) C17 (Sf C3) C19 C21;have C27:=Lj (P:=l.prog) (w:=w) (base:=base) G (a27.j Vs VE VF) C2;have C33:=M4 (P:=l.prog) (w:=w) (base:=base) G (a33.e Vs) C31 C11 C32 C28 C29;have C34:=Zfn (P:=l.prog) (w:=w) (base:=base) G (a34.e Vs) C31 C12 C32 C28 C29;have C35:=Zac (P:=l.prog) (w:=w) (base:=base) G (a35.e Vs) C31 C13 C32 C28 C29;have C36:=HV (P:=l.prog) (w:=w) (base:=base) G (a36.e Vs) C31 C14 C32 C29 C28;have C52:=IA (P:=l.prog) (w:=w) (base:=base) G (a52.e X G0) C51;have C60:=Ia (P:=l.prog) (w:=w) (base:=base) G (a60.e X G0) C38 C51;have C68:=O2 (P:=l.prog) (w:=w) (base:=base) G (a68.e X G0) C44 C42 C67 C48
 have C70:=OC (P:=l.prog) (w:=w) (base:=base) G (a70.e X G0) C66 C67 C65 C69 C48;have C9:=O8 (P:=l.prog) (w:=w) (base:=base) G (a9.e X G0) C8 (Sf C3);have C59:=ML (P:=l.prog) (w:=w) (base:=base) G (a59.e X G0) C37 C33 C34 C35 C36;have C61:=Zd3 (P:=l.prog) (w:=w) (base:=base) G (a61.e X G0) C52 C50 C30 C28 C29;have C24:=M1 (P:=l.prog) (w:=w) (base:=base) G (a24.e X G0) C9 C23 C16;have C25:=OX (P:=l.prog) (w:=w) (base:=base) G (a25.e X G0) C9 C16 C23 (Sf C3) C18 C20 C22;have C62:=O9 (P:=l.prog) (w:=w) (base:=base) G (a62.e X G0) C58 C59 C43 C38;have C26:=Zej (P:=l.prog) (w:=w) (base:=base) G (a26.e X G0) C24;have C39:=Ir (P:=l.prog) (w:=w) (base:=base) G (a39.e Vs) C25 C28 C29;have C72:=Zb7 (P:=l.prog) (w:=w) (base:=base) G (a72.e X G0) C55 C62;have C40:=Me (P:=l.prog) (w:=w) (base:=base) G (a40.e Vs) C26 C28 C29;have C41:=Rh (P:=l.prog) (w:=w) (base:=base) G (a41.e Vs) C11 C40 C28 C26 C29;have C71:=IR (P:=l.prog) (w:=w) (base:=base) G (a71.e X G0) C39 C54 C49 C53 C40;have C73:=Zfe (P:=l.prog) (w:=w) (base:=base) G D73 C47 C63 C27 C68 C64 C45 C72 C71 C44 C41 C61 C62 C42 C70 C43 C60 C49 C46 C40;exact(C73.at (Wy X G0 a73) F73 D73).imp fun _ _ _ _ z=>Pu.Za8 z
end T
structure PySem.W.Fast:Prop where (tw4611037152349801534 tw18405835870855385152 tw12296587785125734560 tw9432202457684873408 tw17745010596082961664 tw17522556848607597856 tw8032256950792602912 tw837305644085970272 tw12310891661034240384 tw460803218345746816 tw17237531208509431232 tw10723291781613135296 tw18028082794315792864 tw4985644895621269984 tw3195325918439287360 tw17507483575997360704 tw10162447371612044896 tw9849363539040970368 tw12394769202270348928 tw16450714821659500192 tw12593637051212095136 tw4554780310573348512 tw6565409330269406912 tw5412873270556227264 tw6547783766922169120 tw9519096077296543520 tw17814282942694590272 tw5204434472935360320 tw16982181306004504416 tw8668848117029234624 tw14593183387679479776 tw4380712882858698785 tw1843325042568918049 tw8038718832545408065 tw14422411089246300257 tw16752152025992308865 tw5969768146447227009 tw17130383400645647521 tw16426315739582128289 tw14072988614442685633 tw7249170518632624353 tw15182457336060510465 tw13752369288373907745 tw9232748515977404801 tw9371986724095548801 tw3035065566292179329 tw12736850517482765697 tw5952378875960196481 tw3409210463613852161 tw15179676990713248353 tw82656645700855425 tw14115113004885089953 tw17799389316941897409 tw1836882388391946945 tw13541433253765004001 tw18303575187531291361 tw5679924229867440929 tw14550751467568672545 tw628270824102867745 tw7024508606668958529 tw5245862026694729601 tw14949565529522907009 tw16024396360382917569 tw2655384351987400706 tw11597742958206619650 tw4438712105808507906 tw2549655553899286562 tw4430099587650295938 tw18315224801720554626 tw17060008238427907234 tw16433319636590810274 tw1795369219061380290 tw15375738320959399138 tw2114955414657920226 tw15917976890306188674 tw5964538550134206850 tw6621443701629089186 tw15079462420914342338 tw1850955523173660098 tw15504320990430664162 tw13775771818255254082 tw17783917724613526082 tw16960874218957723202 tw15297313464114106978 tw3176124339267270242 tw3956691714940817026 tw3734590195392407170 tw7632243033646531234 tw10797207511210627810 tw13570870829538383618 tw18080942628220849954 tw15195286033219615554 tw12329226186367758242 tw3081527017877571619 tw13823447144224036035 tw7938823193311144131 tw871230815645736227 tw9664487472948269347 tw13647991036948776259 tw14614761591779195203 tw8621327491097335267 tw7510852683310656003 tw8567058966804120099 tw634551747996475939 tw8332758223838533187 tw1619167888646150755 tw7205319881060530819 tw15080710644776583843 tw5154792686218526435 tw12814671230313230051 tw9686339948405528323 tw9939920029856456483 tw10677001599277602691 tw3090840846377399332 tw11217379056036037700 tw8829017471431818372 tw16029662797555399844 tw16365730248431092964 tw14926707313751224548 tw9812045310438434052 tw5058877214890649892 tw15524274134598267236 tw4737451413396198884 tw16349524739461047780 tw8257299225168212452 tw9650247762115583524 tw10225457892626761316 tw16218543116485740132 tw17732928682339906180 tw13549402571934955140 tw12958101089794103972 tw16033780331024263876 tw7464257577541302020 tw10135384109171353444 tw273678787879834629 tw16880133502958752837 tw12682602831495230533 tw16661468793719544997 tw11148605030212870341 tw14020163499591124165 tw5671869194766119141 tw16624597174838138213 tw5114169527997046149 tw3596640049638264229 tw2061400919806393797 tw15045359974419210725 tw12292672423125217765 tw6419985654588966405 tw639364603830447653 tw2243533642785756741 tw1509902027931082309 tw4975682535299124869 tw9778737842648761029 tw16601221270249559749 tw8789046339909815013 tw5998150934566057701 tw3583485709697774405 tw12723351926462150469 tw3409571897219114853 tw15616318841483660229 tw17265208758949894150 tw5507596658393376774 tw15074689526163424294 tw9217152546047678502 tw818404689322696742 tw14979486499080491078 tw17330975194893771878 tw4396154868224046246 tw2759913373723605286 tw69531781650508102 tw5012776519510789478 tw12423020297413353830 tw6324515120537350566 tw794229626992660966 tw9193427290877615590 tw15080740232805891590 tw4587121149787983366 tw16595990672204234278 tw13445209413873586758 tw182605722493504102 tw998887174681373382 tw14064421906891165382 tw7590991692051389158 tw9577697433214648038 tw9280305071689300742 tw4726748468811206438 tw7897915329478899622 tw17728804407829358502 tw7575048271124739014 tw16772585914139408326 tw6818483374379904998 tw13626289276772498406 tw10846619311193903078 tw15166244804571140103 tw15579778653435643943 tw14634710494185585703 tw6900546836204066887 tw3169501664973433959 tw11239944916440819847 tw9508629140950735079 tw18192969077368490247 tw16492916524715892999 tw3846120253755845959 tw8855947252230041959 tw17847298555792731559 tw183060096107182535 tw16505195197790066151 tw8567811507651719655 tw16836589263840408039 tw4694994009860315687 tw15388743934231241255 tw707038967094745767 tw14507858093259007655 tw7233550758960201383 tw2864345130401838791 tw14245645360149412551 tw3139813172391446247 tw7051268842770351847 tw8732997196744022759 tw7437736109235329799 tw15322381334022189831 tw6398758953952549671 tw15795396815923254087 tw16999030533637283655 tw3151385013734133575 tw12509036859274192711 tw5376108622359866440 tw14713349395651228840 tw13158274536588689640 tw12325382098632132872 tw10283226556181563656 tw17496231885081300232 tw5362974333434702184 tw1112887700903616872 tw162598028058895784 tw10057253486377203112 tw910015071928751560 tw7645121308739426824 tw6158047826550974984 tw6753402356361737768 tw14832693186285668968 tw2304132367241415304 tw12651370905079351944 tw4485457149283538600 tw14892146871535027880 tw17810157703386219208 tw15207539982590575336 tw4129468686382933736 tw4668021109025422088 tw3991031307015383880 tw2090209810575586120 tw17002247046460583784 tw12352902233449061288 tw18051913356909120488 tw17931400362082081801 tw3798099990208885801 tw11556119987158534185 tw369904960110178377 tw7901053179625748553 tw13071432094719199305 tw10410949367932192873 tw2455092308387282025 tw5211243754526298217 tw16761935596450464905 tw3854524462909064393 tw349018877747562697 tw7331940467626904777 tw17449631267822267593 tw13864188450877326633 tw906928749764728105 tw17145409589225911593 tw18252152905410132297 tw4833280039897718185 tw17854376697271836105 tw6645671326579555913 tw16676126676632283785 tw14231694118827253417 tw17896375623414183625 tw16412010691397975753 tw15726119009559273 tw6294202873993697033 tw15899056751466090281 tw6987805381630576521 tw8344420514946158569 tw7038244604063300618 tw11298396242209751050 tw2043556933869666346 tw5932872276794575914 tw14415048113004230730 tw2186144798815498346 tw8756535946438161546 tw6743616147666560170 tw2346898836018980010 tw16689572227631079658 tw1317243591672587498 tw13007034044849915146 tw8263015301898971434 tw7812972198006048074 tw15400814344551102794 tw15672718617640564074 tw9029560845527146922 tw13546967604557738410 tw15799111829334165962 tw10535922225170094538 tw2912367836865265098 tw15922964161699016234 tw16879314327475325514 tw1229814124319684234 tw15826926971866901194 tw5723469458674843370 tw5803274011370293066 tw7779615642884811626 tw8889967157166838666 tw11350551865401050058 tw11206003073547652042 tw9198728916379723754 tw13432661652609600523 tw6656906979467858955 tw11737929402268922923 tw17209082573293108331 tw6505133372328824971 tw18400743168726094987 tw2751769634178293899 tw125769916035376299 tw17304183085820882091 tw14638806119143153899 tw9959658859171091755 tw12925331121999362379 tw10133609816424596843 tw15573887711125145003 tw2771991939961561547 tw7122203781640099339 tw17731158620405884459 tw13396525166794345035 tw17244690183736215115 tw12142982112640189067 tw6911346544660944555 tw4922073973103284907 tw12956090686295596875 tw2973712067771613067 tw525871005835183019 tw8320651926903458763 tw486607463689830347 tw672350163396868075 tw14769239104491614220 tw9198153116894689292 tw10785930597771729964 tw11351447634005081196 tw13079796948463937676 tw5712506382283081900 tw778241096372806828 tw11991943030304017612 tw8987157780532042956 tw923957118268318924 tw10028676207042157772 tw9382311731516991692 tw3534727863186148588 tw17176021593954691436 tw8023193463290077612 tw4425270718727588332 tw2089681160816673260 tw17140872229414532588 tw192795777969022540 tw150845731707646540 tw3341875372538590796 tw2513088635400717932 tw9964363367759602284 tw724721169447889548 tw8555930240334065292 tw16736108161882725036 tw9211016929149525676 tw643376194487977676 tw12590613010727921356 tw117712772957951724 tw17533721375543252748 tw16937647627879701292 tw6346380289765550924 tw14865934047729454028 tw6757310973799410701 tw3765958563503628333 tw10634292376272540749 tw17546964560835753037 tw11246274993165731949 tw17057283750057419885 tw14611810524257600621 tw2055772471902631021 tw2988409794656068749 tw5708607706005715149 tw9297677496016932077 tw1613602193013291245 tw15571695262195193101 tw16470545209745221901 tw2481567602560418093 tw11656246124839274925 tw14096760253385885101 tw16886055179812446669 tw7678987350320722381 tw6241412675504849357 tw12330953807750906317 tw4148608418213977549 tw9615910474283523629 tw5564386002640746029 tw10907966198918858317 tw6072469177272818253 tw8765225146790009421 tw11979250339464414829 tw8389657984017089133 tw16838443346618979981 tw3151690941262969485 tw14663113035172925133 tw12143559146974456557 tw3249200702906917677 tw16865551160064706445 tw7189728690447135629 tw15437161887325892525 tw8141106521950707629 tw4967597555069633485 tw7657557129731212269 tw7941296524193828942 tw9186311699543694414 tw15405601433794378830 tw1649252921335621742 tw3406814553561657454 tw10184069410049901742 tw13669893141370897614 tw1543065462533681358 tw15627520781969874190 tw4191534402817497486 tw10675835208809040270 tw7171830577433084334 tw3443043541914251694 tw8326049422290059854 tw14427391294949274222 tw8893760697475013294 tw18430346910616608430 tw11562186574204659374 tw4156577463515638542 tw14314293928984674062 tw3382348738559133518 tw925192614714519406 tw7918094194982762382 tw5714826663009400718 tw6674399463229054862 tw13002541444112571342 tw5498673844971285486 tw5282302914256283695 tw2751709940004205615 tw4949756136600627247 tw8154245891745776783 tw2393282249234582671 tw14497717522779777167 tw9837140292869154959 tw5208445976352987311 tw5723062178120584367 tw9394699340512383151 tw2946674056024638671 tw474730393229455599 tw7998712114481591727 tw799876351263765935 tw3995846863167871503 tw16840058570741934607 tw8081714448926733839 tw2367112924603717167 tw16212944195152835183 tw14097950173960178319 tw2277552994632879759 tw17807596729627101871 tw9556240187703616175 tw4465898269162654415 tw2840083999278256847 tw3191038223762782927 tw12724164673532366575 tw6254250641068196655 tw1688769589356791599 tw4671876629537584943 tw18131408716986089359 tw16885445850720428015 tw2231760002150118480 tw5717177589301007472 tw14447033720546581680 tw7969504233419040944 tw8059142809118539984 tw3740316911753893104 tw16078506780291584272 tw13796992054426148144 tw13545064886352119120 tw15030321794565474672 tw15849579109412315536 tw18327593411891848656 tw10343647020100580848 tw12561771460362390096 tw4180539170664220272 tw542550188578935408 tw12290796502208220816 tw3318496266872552080 tw10670053423881270000 tw17499271434839363376 tw7933505599861313360 tw431676220218695504 tw4473905005176031088 tw15124337177932042128 tw7642854288514378640 tw7578867243152807856 tw14724694340989863888 tw8243873750306836432 tw4753723601208095728 tw902703492356839441 tw7924765700360774705 tw9207067992053234737 tw14277124076705005617 tw15849118465260431441 tw3288296851748392081 tw17351409155308383377 tw13624462235311293649 tw17473156324986474705 tw4389907876622554385 tw1802207126799466801 tw5397097502346758449 tw3667182035515125105 tw6185397049551763825 tw11924003275551934865 tw13930344211673238929 tw11053620620933779857 tw2206941456008652241 tw15949650985100151281 tw10197163884348376593 tw17481063566013034033 tw11042006174236079665 tw8403594976946094673 tw3660475058516007505 tw1789005562608460369 tw2764221480338579057 tw7617714077780805297 tw14928633585430328017 tw16285362207162053393 tw13995168819722409777 tw3689832007229348689 tw1213559848845275985 tw10791777573774988145 tw16942385316378841009 tw8743886132084224977 tw16906663549669367890 tw15223773817797041266 tw16408903128467198098 tw12878725697490224306 tw16838244978108880050 tw11650506345626458354 tw14349178474017773874 tw15441912950641682802 tw691774932278079858 tw12134038425190653330 tw7144824495439258066 tw15157685322707668466 tw3077592922509095698 tw3867036160961063730 tw1726907420332830578 tw7676853007324530578 tw536974341399074738 tw3118849726547098546 tw11467163307696954322 tw4044114149225343954 tw15301442795355639891 tw11579274410615185523 tw7969698340522411123 tw1536355499887170707 tw2991049044489223347 tw18329938171128084659 tw14831642522391044371 tw1667959027776566579 tw4923617723682163 tw12187592259782402451 tw10858636839614474643 tw9529292753601851795 tw7803250632304109043 tw2026976406997349907 tw6859157383104894515 tw15913675854010009171 tw10211167633955604083 tw14843325806836784851 tw6862276936312464083 tw1513551596735758067 tw18126167726596352851 tw2472162174355485555 tw4148617456915081107 tw3835136772937978803 tw7920258004923998131 tw13265362124846371795 tw4146245144198922195 tw13443684978751798227 tw12635484771487941619 tw7531105995991832596 tw14411958596064696372 tw17242529446996625524 tw804832561049377940 tw4356798557794712724 tw7102271521422664852 tw2842694962836634772 tw17737311873916328116 tw2843230847964307668 tw3600233754856047860 tw917694285887718644 tw9178233227228509524 tw7338098032293466484 tw4693474191070652820 tw1021396582003857844 tw8029616627600358964 tw6333078499710163668 tw17878295699873208084 tw9899368655361092372 tw2875631683899344660 tw11294933364516609844 tw10324142296342595412 tw13625390144969496404 tw14891597141067685716 tw8526895737760308116 tw6348854085218833364 tw9637064812815850452 tw9767800987360350196 tw17515616828479624180 tw14313423036470047861 tw11526674454612308085 tw9518172724457026709 tw16350435065393198229 tw12123890087531958421 tw5546317295319502037 tw11431708765611295093 tw10505509849808456053 tw7744509500155951509 tw5513656936109161909 tw9515236680348736981 tw15473909256302612949 tw13434844059803325077 tw16143168119104082613 tw2098205796770791125 tw4361574832220625621 tw18127508309027893013 tw208613832075290517 tw13596376862389102517 tw9953208502591787989 tw1852397987232282613 tw14864885753356142646 tw5800463265381038166 tw15693301989509498038 tw3621435008824388790 tw13936005518145015990 tw4107239173291932854 tw10998303414145494230 tw12437881882971729110 tw9469895232800395542 tw3917871317367764374 tw11383134603058058678 tw16203659232165369270 tw13678654134566063574 tw597920216390784502 tw5438657205509613046 tw16596275206818729590 tw10349275568132508278 tw17303403976582941302 tw8269017848865495702 tw9970747475961333398 tw12758576067127988886 tw12131077382508911286 tw16301487316978398902 tw10641694328248967926 tw9464796044369248022 tw16343499429730780982 tw5787508669178113846 tw11299444704520763190 tw850470769085949782 tw2040796403151328118 tw4833331203426762646 tw10650682538795090902 tw12978477985631070166 tw14361514698061195254 tw8225568261377839127 tw12265038066804107319 tw14620877348472608823 tw3253793290074379447 tw217529954993165495 tw17559663207789428983 tw6886237631479743799 tw12361580858933886295 tw10573262643078115735 tw16290704427704039831 tw8792035176496784791 tw16921879170109709751 tw12034828690755072599 tw4534795745245916759 tw12192694525576904279 tw12434140470024386167 tw16320128565367965335 tw16887638189332161175 tw2897174714830439095 tw9642423428501939063 tw15301425301386586999 tw370393123615846295 tw7797043658630613911 tw8128151757407865880 tw11209609602546421784 tw1466921932621920312 tw11875417685649274936 tw2828031884562975800 tw17694738052333366328 tw44213897672554552 tw13080651515857058904 tw13669534122796002488 tw9616380051960970424 tw8655426796084521144 tw13924957945221902520 tw13531250006949071064 tw14599074655868984536 tw6104823654903659768 tw6476029168310420760 tw10392354474988285208 tw1289657405717849400 tw1731367876889460024 tw16383182839974805816 tw13558195380967508376 tw4254068437286252952 tw984017123321708984 tw15506849304769046968 tw436982296410830264 tw7609734465953707512 tw2068735962208720376 tw15096239316992354808 tw16894403588375071256 tw16169183227790482968 tw13857798733798368792 tw9502293706243237400 tw11362643812319756856 tw7039244705726110296 tw6514269290166559320 tw10421337745223936632 tw1306334688862543512 tw17001821607604203160 tw12547602897647612600 tw5205280522269104856 tw12111839032350403288 tw15958190635047179032 tw9016795879982075704 tw3614285813169812280 tw5657929643123844952 tw13505482815748097880 tw2673729524073154424 tw13597844926266437496 tw2630349426580455288 tw16739258340930175896 tw9852252663474722744 tw9009449693673575352 tw17956177388263513048 tw17596406937612652601 tw11501994847580425337 tw4763645783447602329 tw16301444954685937817 tw5025698187365310649 tw6817290764648698073 tw7750797883480276217 tw14084462498589537561 tw8817426626555839801 tw4058063691379196281 tw17910759964723601785 tw11409626818492043673 tw8041219201273665049 tw7675283265712791065 tw7281867464454905401 tw8176285673856971321 tw12370391366465745497 tw5899102333322045081 tw1180133835063419641 tw13544512665910010649 tw9137288510811411257 tw4589379240372457305 tw13293186291909872505 tw12367970897109276537 tw6646649991112646585 tw5931993880095500249 tw7674801652457616377 tw8197878993345824761 tw7446941864551711802 tw5748993029324048442 tw11807309391802857530 tw2963761742658974906 tw2550588390938461402 tw11882396388629720314 tw4048653703074931962 tw1042643874560674106 tw4087226627876359482 tw3646912421102070170 tw14499936745547627930 tw1288997327701438906 tw11823021464693751290 tw18289552923515293210 tw15905461374183875098 tw11986924301688469018 tw1781205937223278170 tw6495315022541362842 tw13430277138731257530 tw3922594716714057434 tw9135519125123800826 tw3249914928694133530 tw10700385390996267802 tw12855031426328668954 tw12633140839919201178 tw16172838623744444443 tw13174505482109439035 tw6344974824723995707 tw16839758955601168475 tw9402871197470301275 tw13136031872003664987 tw14918565683521812731 tw14460320431240457499 tw11590164932052579611 tw15907915456224331067 tw5561034761115324731 tw6969477601759812955 tw11399138292390621531 tw11714085981054258587 tw6438579076930063771 tw7638916392908358075 tw1912355512733327835 tw2144565188078591515 tw14827285143091028539 tw6275874753256265307 tw12397600573101831771 tw5533461808983324347 tw17799903226774608571 tw14467890986182868731 tw3443924537266662203 tw14111516850027099963 tw7117301930049516379 tw551962509298893691 tw13965469246138698651 tw9798377719395456955 tw1990623133560391611 tw5583487891483425787 tw9669044990673612892 tw2037377782599717052 tw5552735820478456028 tw13343493665641535804 tw13121133802000561468 tw15435010798410164572 tw7950435221283897756 tw486758514306295228 tw10443630198957989308 tw15980113200884293276 tw2758081183256581884 tw16629608790635868924 tw6362610456187831068 tw11429421262842320700 tw14175768105418878844 tw577249949976627132 tw4242811075609668540 tw17471426113307456444 tw15009954497881341884 tw1587932935187301372 tw11495305757820055548 tw15540343282136373309 tw5674050377207882877 tw7886384494762610813 tw6884328496694296733 tw14561439723367467165 tw11442815707170431165 tw1970929126223989981 tw212659375787917565 tw5162935324340303133 tw868525195407647101 tw18029915867970523549 tw939571662685903357 tw13241485212264306205 tw12720324391678132765 tw7020106753784697373 tw12789435805263131197 tw9945132140683741885 tw17669384986479957789 tw9646983393708286749 tw9030715434022091549 tw113782565571028765 tw4818001489580257053 tw16459619274062444381 tw6281213297050794845 tw7288537229945715549 tw7593800154240844669 tw11262783035002851197 tw1797625077283020669 tw17136934000433359741 tw9584343482789351325 tw14682617334012648381 tw13158011300452202429 tw9751705406040604637 tw9990974137571182589 tw16843060999647943677 tw9397210172165803070 tw9474446098482919486 tw5317217699568561246 tw14667935228741517438 tw7389346386510837886 tw1824999932861283486 tw4473098497420897534 tw11465864971029819646 tw8156872645678969182 tw17711556061224620414 tw15499666582942515614 tw8438271753592332702 tw1988699590054028734 tw9356079889804225982 tw16379530825242965470 tw13792815881587239486 tw15008902329674644030 tw10004912722030000734 tw16945839848575507166 tw1035766969994286846 tw1503551220007883518 tw14856148214211405598 tw11904580302809424734 tw1944991040054497150 tw13638650672357776254 tw12592040569097754526 tw13279746137073718206 tw12394856793462782910 tw14663260827287118782 tw4391287214618827742 tw8793985445261239262 tw7097253330131120223 tw10007590513220353119 tw560554971673154687 tw9085784435115397279 tw12021730364557696191 tw13317544349508695263 tw1175617799093069055 tw10536531852535098623 tw2055089312761020703 tw13085178266465328415 tw14974220970180357439 tw1715124463982481759 tw290958152207296927 tw343510094216579519 tw17870248977052035615 tw5421417203797916191 tw15218579962396170815 tw144388831885669983 tw1470327650182511199 tw10385123711169697439 tw6793809008278009599 tw6878218077783201567 tw3152605965355425567 tw1347543240110549791 tw5570073686639782719 tw13405788559532374847 tw13439678108272650047 tw2139215599978850143 tw15051326340334925695 tw12926946472415117247 tw4022289630746141631 tw16402247585730441215 tw11900017023763657727:True)
open PySem PySem.W PyProof.Rows
set_option maxRecDepth 100000 in
set_option maxHeartbeats 0 in
theorem PySem.Challenge.cw_stripmeld_k46_whole_sales_holds : PySem.Challenge.rw_stripmeld_k46_whole_sales.Holds := by
 w_on;o_law;k_head;(case hw=>w_witness2)
 k_fill
 refine L2.O7 (l:=PySem.Challenge.rw_stripmeld_k46_whole_sales) (n:=63) (k:=9) (x:="_law_script") (CX:=L2.CX0) (sp:=Pu.BS) rfl (by decide) rfl ⟨rfl,by decide,by decide⟩ (fun w h Y=>PySem.W.kIn_of Y) ?F ?S ?C
 case F=>
  intro w mg fa h KX G hmg
  refine' T.L3 KX G hmg ?Vw ?VA ?VB ?VC ?VD ?VE ?VF ?VG ?VH ?VI ?a0 ?a1 ?a2 ?a3 ?a4 ?a5 ?a6 ?a7 ?a8 ?a9 ?a10 ?a11 ?a12 ?a13 ?a14 ?a15 ?a16 ?a17 ?a18 ?a19 ?a20 ?a21 ?a22 ?a23 ?a24 ?a25 ?a26 ?a27 ?a28 ?a29 ?a30 ?a31 ?a32 ?a33 ?a34 ?a35 ?a36 ?a37 ?a38 ?a39 ?a40 ?a41 ?a42 ?a43 ?a44 ?a45 ?a46 ?a47 ?a48 ?a49 ?a50 ?a51 ?a52 ?a53 ?a54 ?a55 ?a56 ?a57 ?a58 ?a59 ?a60 ?a61 ?a62 ?a63 ?a64 ?a65 ?a66 ?a67 ?a68 ?a69 ?a70 ?a71 ?a72 ?a73 ?l73 ?c73 ?k73 ?VJ ?VL ?VM ?VN ?VO ?VP ?VQ ?VR ?VS ?VT ?VU ?VW ?VX ?VY ?VZ ?Ja ?Jb ?Jc ?Jd ?Je ?Vt ?Vx ?Vy ?Vz ?V0 ?V1 ?V2 ?V3 ?V4 ?V5 ?V6 ?V7 ?V8 ?V9 ?Vv ?x_NothingDone_NothingDone ?k_NothingDone_MeldError ?k_NothingDone_ValueError
  (case Vw|VA|VB|VC|VD|VE|VF|VG|VH|VI=>k_is)
  (case a0|a1|a2|a3|a4|a5|a6|a7|a8|a9|a10|a11|a12|a13|a14|a15|a16|a17|a18|a19|a20|a21|a22|a23|a24|a25|a26=>apply Pu.di<;>k_is)
  (case a27|a28|a29|a30|a31|a32|a33|a34|a35|a36|a37|a38|a39|a40|a41=>apply Pu.mi<;>k_is)
  (case a42|a43|a44|a45|a46|a47|a48|a49|a50|a51|a52|a53|a54|a55|a56|a57|a58|a59|a60|a61|a62|a63|a64|a65|a66|a67|a68|a69|a70|a71|a72=>apply Pu.di<;>k_is)
  (case a73|l73|c73|k73|VJ|VL|VM|VN|VO|VP|VQ|VR|VS|VT|VU|VW|VX|VY|VZ|Ja|Jb|Jc|Jd|Je=>k_is)
  (case Vt|Vx|Vy|Vz|V0|V1|V2|V3|V4|V5|V6|V7|V8|V9|Vv=>apply Pu.ei<;>first|(k_is;done)|k_exc)
  (case x_NothingDone_NothingDone=>kts_exm)
  (case k_NothingDone_MeldError|k_NothingDone_ValueError=>kit_is)
 case S=>exact fun K H a ns hl hO hS=>⟨a,ns,rfl,hS,fun _=>rfl⟩
 case C=>exact fun _ _ _ _ z=>z
